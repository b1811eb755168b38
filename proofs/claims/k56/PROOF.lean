import PyProof.Rows.All
import Wide.All
import OpenK.AllK
import Wide.FinOn
import Lean
import PyProof.EqAt
import PyProof.EqKinds
import PyProof.TupleCall
import PySem.Challenge.RW_trussel_k56_whole_orders_struck_anew
set_option Elab.async false
set_option linter.all false
set_option maxRecDepth 100000
set_option maxHeartbeats 4000000
set_option genInjectivity false
set_option bootstrap.genMatcherCode false
set_option genSizeOf false
local macro_rules|`(def $i:declId $s:optDeclSig $v:declVal)=>`(noncomputable def $i:declId $s:optDeclSig $v:declVal)
open Lean in
local macro_rules|`(universe $i)=>do
 let mut a:=#[]
 for n in[`PySem.Challenge.rw_trussel_k56_whole_orders_struck_anew,`PySem.Challenge.pw_trussel_k56_whole_orders_struck_anew]++((List.range 944).map (s!"o_{·}")++[41].map (s!"env_{·}")++[39,46,944].map (s!"heap_{·}")++[49,71,86,101,116,131,146,161,176,191,206,221,236,251,266,281,296,344,410,472,526,580,809,890].map (s!"sts_{·}")++[47,70,85,100,115,130,145,160,175,190,205,220,235,250,265,280,295,343,407,471,525,579,721,805,889,943].map (s!"tree_{·}")++[39].map (s!"view_{·}")).map (.mkStr `PySem.Challenge.cw_trussel_k56_whole_orders_struck_anew_holds) do a:=a.push (<-`(theorem $(mkIdent (.mkStr `PySem.W.Fast s!"tw{Name.hash n}")):ident:True:=⟨⟩))
 return mkNullNode a
universe x
namespace _X
set_option tactic.hygienic false
local macro_rules|`(#[$xs,*])=>`(⟨$xs,*⟩)
open Lean in
@[inline]def pw_:Nat->Term->MacroM (TSyntax `rcasesPat)
 |0,_=>Macro.throwUnsupported
 |n+1,t=>do match t with
  |`(#[$xs,*])=>do let ys<-xs.getElems.mapM (pw_ n);`(rcasesPat|⟨$[$ys:rcasesPat],*⟩)
  |`(⟨$xs,*⟩)=>do let ys<-xs.getElems.mapM (pw_ n);`(rcasesPat|⟨$[$ys:rcasesPat],*⟩)
  |`(_)=>`(rcasesPat|_)
  |`($i:ident)=>`(rcasesPat|$i:ident)
  |_=>Macro.throwUnsupported
open Lean in
local macro_rules|`(universe $_:ident)=>do
 let mut a:=Array.empty
 let I:=fun s (n:Nat)=>mkIdent (.mkSimple s!"{s}{n}")
 for (k,m) in [(0,2),(0,3),(0,4),(0,5),(0,6),(0,7),(1,1),(1,2),(1,3),(1,4),(1,5),(1,6),(1,7),(2,1),(2,2),(2,3),(2,4),(2,5),(2,6),(2,7),(3,1),(3,2),(3,3),(3,4),(3,5),(3,6),(3,7),(4,1),(4,2),(4,3),(4,4),(4,5),(4,6),(4,7),(5,1),(5,2),(5,3),(5,4),(5,5),(5,6),(5,7),(6,1),(6,2),(6,3),(6,4),(6,5),(6,6),(6,7)] do
  let xs:=(Array.range k).map (I "x")
  let hs:=(Array.range m).map (I "h")
  let ps:=(Array.range m).map (I "p")
  let G:=mkIdent `G
  let ts:=(Array.range k).map (I "a")
  let ty<-ts.foldrM (fun u t=>`($u → $t)) (<-`(Prop))
  let at_<-ps.mapM fun p=>`($p $xs*)
  let cj<-at_.pop.foldrM (fun u t=>`($u∧$t)) at_.back!
  let ex<-xs.foldrM (fun x t=>`(∃ $x:ident,$t)) cj
  let im<-at_.foldrM (fun u t=>`($u → $t)) ⟨G.raw⟩
  let al<-xs.foldrM (fun x t=>`(∀ $x:ident,$t)) im
  let ys:=xs++hs
  a:=a.push (<-`(theorem $(I s!"E{k}_" m):ident {$ps* : $ty} {$G:ident : Prop} (h : $ex) (k : $al) : $G := by obtain ⟨$[$ys:ident],*⟩:=h;exact k $ys*))
 return mkNullNode a
universe x
open Lean in
@[inline]def ex_(e:Term)(xs:Array (TSyntax `rcasesPat))(t:TSyntax `tactic):MacroM (TSyntax `tactic):=do
 let n:=xs.size
 let mut t:=t
 if n>1&&n<13 then
  let r<-xs.mapM fun p=>`(rintroPat|$p:rcasesPat)
  let c:TSyntax `tactic<-if e.raw.isIdent then`(tactic|try clear $(⟨e.raw⟩):ident)else`(tactic|skip)
  for i in[0:n]do
   let k:=n-1-i
   let f:=mkIdent (.mkSimple s!"E{k}_{n-k}")
   t<-`(tactic|first|(refine $f ($e :) ?_;$c;rintro $r*)|($t:tactic))
 return t
local macro_rules|`(tactic|let $p:term:=$e)=>do
 let q<-pw_ 9 p
 let x:Array Lean.Term:=match p with|`(#[$xs,*])=>xs.getElems|_=>.empty
 ex_ e (<-x.mapM (pw_ 9)) (<-`(tactic|obtain $q:rcasesPat:=$e))
open Lean in
local macro_rules|`(tactic|rintro $ps*)=>do
 let mut o:Array (TSyntax `tactic):=.empty
 let mut c:=false
 for p in ps do
  let mut d:TSyntax `tactic<-`(tactic|rintro $p)
  let mut q:=p.raw
  -- (p) is p
  for _ in [0:9] do
   if q.isOfKind ``Parser.Tactic.rintroPat.one then q:=q[0]
   if q.isOfKind ``Parser.Tactic.rcasesPat.paren&&q[1][1].isNone&&q[1][0][0].getNumArgs==1 then q:=q[1][0][0][0]
  if q.isOfKind ``Parser.Tactic.rcasesPat.tuple then
   let xs:Array Syntax:=q[1].getSepArgs
   if xs.size>1 then
    c:=true
    let ys<-xs.mapM fun x=>`(rcasesPat|($(⟨x⟩):rcasesPatLo))
    let z<-`(z)
    d<-`(tactic|(intro $z:term;$(<-ex_ z ys (<-`(tactic|obtain $(⟨q⟩):rcasesPat:=$z))):tactic))
  o:=o.push d
 if !c then Macro.throwUnsupported
 `(tactic|($[$o:tactic];*))
local macro_rules|`(#[])=>`(by decide +kernel)
local macro_rules|`(#[_])=>`(by simp)
local macro_rules|`(-$x:ident)=>`(($x).length)
local macro_rules|`(!$x)=>`(some $x)
local macro_rules|`(~~~$x)=>`(not $x)
open Lean in
local macro_rules|`(tactic|let $d:letDecl)=>if d.raw[0].isOfKind ``Parser.Term.letIdDecl then`(tactic|have $d:letDecl)else Macro.throwUnsupported
local macro_rules|`(@&$x)=>`(List $x)
local macro_rules|`($s⁻¹)=>`(($s).heap.objs.size)
local macro_rules|`(tactic|show $t)=>`(tactic|(walk_at"";refine $t))
local macro_rules|`(abbrev $i:declId $s:optDeclSig $v:declVal)=>`(noncomputable def $i:declId $s:optDeclSig $v:declVal)
local macro_rules|`(def $i:declId $[$b:bracketedBinder]* :$t $v:declVal)=>`(theorem $i:declId $[$b:bracketedBinder]* :$t $v:declVal)
local macro_rules|`(tactic|left)=>`(tactic|walk_at"")
local macro_rules|`(())=>`(by omega)
local macro_rules|`(∅)=>`(by decide)
local macro_rules|`(tactic|omega)=>`(tactic|lia)
open Lean in
local macro_rules|`(universe $n $a*)=>do
 let mut r:=Array.empty
 for k in[0:a.size/2]do r:=r.push (<-`(noncomputable def $(a[2*k]!):ident:=@$(mkIdent (n.getId++a[2*k+1]!.getId))))
 return mkNullNode r
universe PySem AA Calls.Name_function_global Ar entryFor_alias As Walks.list GJ wpAny_binaryOp_repeat_ref GK W.hideAll_get OV wpAny_attempt OW W.of_hideAll OX W.kitx_tuple aC Heap.lt_size aE Heap.get?_push_size aS mem_of_lookup aa wpAny_bind ak wpAny_pure ao Heap.get?_push_of_some bC wpAny_mono bD wpAny_holding bO W.mg_of bc wpAny_setState_of bq Heap.SameBut.update bu Heap.get?_update_self cG wpAny_truthy_bool cJ wpAny_call_entry cS wpAny_newObj_type cY wpAny_Call_Name_kw cc W.kia_one cq Obj.data_mapFields dG codeAny_builtin dJ wpAny_typeOf dM wpAny_of_eq dS W.cellsFrom_some dn wpAny_isInstance eI call_meets eJ Heap.get?_update_other eM wpAny_passesOwn eQ Obj.isFreed_of_fields eX wpAny_storeSet_of eY fits_of_scanBound fL wpAny_standAt fM F.slot_list_getattribute fR wpAny_rule fS tupleKind_room_in1 fT wpAny_callSpecial?_slot fi wpAny_setField fk Heap.size_push gH intKind_is gM plainId_quiet gU Calls.evalArgs_plain gg wpAny_pyIter_list gh isSubtype_type gk Calls.callWith_builtin iF codeAny_mono iG F.args_tuple_add_2 iS F.entry_tuple_add iY F.slot_tuple_add jR wpAny_askSetting jS noFill_tuple_add jr Heap.SameBut.refl jx wpAny_comprehension_free jy F.slot_dict_get kH F.slot_int_rmul kP W.callWith_K kn W.plainGet_of ko W.callWith_K0 nM typeIs_int nP F.args_tuple_add_2 nv seq_tuple_add nz Paired.length pj Obj.cls_mapFields pq F.entry_tuple_add qZ F.slot_tuple_add sX F.plainAttrs_list sY F.args_dict_get_3 uN wpAny_execs_nil uO codeAny_of_tree uP F.entry_dict_get yo W.methodCall_KW
universe Bool AD or_eq_false_iff aU and_eq_true aZ eq_iff_iff bY false_ne_true cC and_eq_false_iff fz or_eq_true iJ false_or kI true_and kS not_eq_false' lQ not_eq_true'
universe Nat Av pow_le_pow_right Aw eq_of_testBit_eq OY not_lt OZ lt_or_eq_of_le aD lt_of_lt_of_le aG le_trans aK ne_of_lt aw le_refl cE ne_of_gt cH zero_le cU lt_trans cg lt_irrefl eF lt_trichotomy eR lt_succ_self eT le_of_lt fA lt_of_le_of_lt gI lt_or_ge gO one_le_two_pow iw le_succ jq min_eq_left jz eq_of_beq_eq_true lM le_of_succ_le oO testBit_two_pow_sub_one uR mul_comm
universe List Ax pairwise_append Ay getElem_toArray Az getElem?_of_mem GL toList_toArray GN length_pos_iff GO flatMap_append Pa map_filterMap Pb Nodup.sublist aB mem_of_getElem? aH getElem?_append_left aJ mem_cons aL mem_map aM getElem?_set_self aO any_eq_true aQ size_toArray aR mem_range aT getElem?_eq_none aW mem_append ag getElem?_eq_getElem aj getElem?_map au length_map av getElem?_eq_some_iff ax getElem?_set_ne bA mem_cons_of_mem bB find?_cons_of_neg bE getElem?_append_right bG getD_eq_getElem?_getD bJ map_cons bK mem_iff_getElem bN length_set bP take_length bQ all_eq_true bR mem_iff_getElem? bS mem_append_right bX perm_ext_iff_of_nodup ba length_append bp mem_singleton bt mem_filter bz take_succ cA nodup_append cF map_map cK ext_getElem? cM getElem?_range cP map_append cV set_set cX eq_nil_of_length_eq_zero cj getElem_mem cu mem_or_eq_of_mem_set dC getElem?_take_of_lt dH filterMap_cons dN lookup_cons dU take_of_length_le dX find?_cons dZ any_cons de find?_cons_of_pos df drop_eq_nil_of_le dg length_take dk length_filter_le dq getElem?_eq_none_iff du nodup_cons eG flatMap_cons eZ drop_eq_getElem_cons fB mem_filterMap fG getElem?_replicate fc replicate_succ ft append_nil gE range_succ gF map_congr_left gG filter_sublist gP pairwise_cons gQ length_eraseIdx_of_lt gR findSome?_eq_none_iff gS find?_eq_none gT filter_append gi mem_of_mem_take gj mem_append_left iA find?_append iB append_assoc iC any_eq_false iH eq_of_mem_replicate iT filter_cons iZ range_succ_eq_map ib pairwise_iff_getElem iy reverse_cons iz length_range jA take_append_drop jT mem_erase_of_ne jU mapM_cons jV Perm.refl ja pairwise_lt_range jb length_pos_of_mem jc any_map kF map_take kG all_cons kQ mem_cons_self kR getElem?_drop lF findIdx?_eq_some_iff_getElem lN getElem?_set lO flatten_replicate_singleton mR nodup_range mS mem_reverse mj eraseIdx_eq_take_drop_succ nN of_mem_zip nO foldl_cons qY length_erase_of_mem uS filter_eq_nil_iff yq length_singleton yt findSome?_append
universe _root_ aA decide_eq_true aI decide_eq_false aP decide_eq_false_iff_not ay if_pos az if_neg br decide_eq_true_eq bx of_decide_eq_true dc beq_eq_false_iff_ne dh decide_eq_true_iff eO beq_iff_eq fW decide_eq_decide iR congrArg
universe Option aN some.inj ae map_eq_some_iff ai bind_eq_some_iff fj isSome_iff_exists lL isSome_map
universe PyProof bT Rows.callWith_type1 bW Rows.slot_tuple_getitem kq Rows.F.entry_set_update_loop sZ Rows.boot_tuple uQ Rows.boot_list yp Rows.boot_int
universe Int cZ toNat_natCast dW emod_lt_of_pos eU zero_add fu emod_nonneg kr toNat_of_nonneg lP ne_of_lt uT le_of_lt
universe Array cz length_toList dt getElem?_eq_getElem fU getElem_eq_getD jK getElem?_setIfInBounds_self_of_lt oP getD_eq_getD_getElem? uU getElem?_eq_none yu getElem?_toList
def Au:=@Sum.inl.inj
def bI:=@Ne.symm
def cL:=@Classical.not_and_iff_not_or_not
namespace L2
open PySem PySem.Spec PyProof.Rows
variable{xs vs:@&V}{us:@&Value}{H H':Hp}{a b f C dx:Addr}{o:HO}{u:Value}{P:Program}{w:World}{h h' base:Heap}{α:Type}{x m:Str}{e c tg:Expr}{X:Cx}{pi:@&(Addr×Obj)}{Z:St}{s:Shared}{t' i k:Nat}{ch fp:@&Addr}{N ps:@&Str}{M:Model}{A:Around}{E Q:Value->Shared->Prop}{v:V}{t:TA}{ta tb te:TE}{pos pos' p:Pos}{op:CmpOp}{es:@&Expr}{body:@&Stmt}{r:R2}{fd:FuncData}{CX:oN}{sp:Sp}
noncomputable abbrev Key:=Sum Int Str
abbrev Y1:Key->Value->Bool
 |.inl k,v=>Value.isInt k v
 |.inr x,v=>Value.isStrOf x v
abbrev b68(w:World):Key->Int
 |.inl k=>hashInt k
 |.inr x=>hashStr w x
def u9:∀{k:Key} {v:Value},Y1 k v=true->(∃i t,k=Sum.inl i/\v=Value.int i t)\/(∃x t,k=Sum.inr x/\v=Value.str x t)
 |.inl i,v,h=>by
  let#[t,e]:=Value.isInt_shape (k:=i) (v:=v) h;exact .inl #[i,t,rfl,e]
 |.inr x,v,h=>by
  let#[t,e]:=Value.isStrOf_shape (x:=x) (v:=v) h;exact .inr #[x,t,rfl,e]
def a81(i:Int)(t:Tok):Y1 (.inl i) (.int i t)=true:=by simp[Y1,Value.isInt]
def a80(x:Str)(t:Tok):Y1 (.inr x) (.str x t)=true:=by simp[Y1,Value.isStrOf]
def ZX(a b:Int):decide ((Sum.inl a:Key)=Sum.inl b)=(a==b):=by
 by_cases e:a=b
 .subst e;simp
 .let h:¬(Sum.inl a:Key)=Sum.inl b:=λq=>e (Au q);rw[aI h];exact(dc.mpr e).symm
def Z'(a b:Str):decide ((Sum.inr a:Key)=Sum.inr b)=decide (a=b):=by
 simp
def ZY(a:Int)(b:Str):decide ((Sum.inl a:Key)=Sum.inr b)=false:=aI (λq=>nomatch q)
def ZZ(a:Str)(b:Int):decide ((Sum.inr a:Key)=Sum.inl b)=false:=aI (λq=>nomatch q)
abbrev j9(prog:Program)(w:World):PySem.KeyKind prog w Key where
 is:=Y1
 hash:=b68 w
 inj:=λv a b ha hb=>by
  rcases u9 ha with⟨i,t,rfl,rfl⟩|⟨x,t,rfl,rfl⟩
  .rcases u9 hb with⟨j,u,rfl,e⟩|⟨y,u,rfl,e⟩
   .injection e with e1 _;rw[e1]
   .exact nomatch e
  .rcases u9 hb with⟨j,u,rfl,e⟩|⟨y,u,rfl,e⟩
   .exact nomatch e
   .injection e with e1 _;rw[e1]
 byValue:=λk v h=>by
  rcases u9 h with⟨i,t,rfl,rfl⟩|⟨x,t,rfl,rfl⟩<;>rfl
 pyHash:=λhv h=>by
  rcases u9 hv with⟨i,t,rfl,rfl⟩|⟨x,t,rfl,rfl⟩
  .exact wpAny_pyHash_int h
  .exact wpAny_pyHash_str h
 eqBool:=λhu hv h=>by
  rcases u9 hu with⟨i,t,rfl,rfl⟩|⟨x,t,rfl,rfl⟩
  .rcases u9 hv with⟨j,u,rfl,rfl⟩|⟨y,u,rfl,rfl⟩
   .rw[ZX] at h;exact wpAny_eqBool_int h
   .rw[ZY] at h;exact SeqAt.EqAt.int_str i t y u _ _ _ _ h
  .rcases u9 hv with⟨j,u,rfl,rfl⟩|⟨y,u,rfl,rfl⟩
   .rw[ZZ] at h;exact SeqAt.EqAt.str_int x t j u _ _ _ _ h
   .rw[Z'] at h;exact wpAny_eqBool_str h
 «strs»:=λk x t v h=>by
  rcases u9 h with⟨i,u,rfl,e⟩|⟨y,u,rfl,e⟩
  .exact nomatch e
  .injection e with e1 _;subst e1;cases v<;>rfl
def aW9(prog:Program)(w:World)(k:Key)(v:Value):(j9 prog w).is k v=Y1 k v:=rfl
def Y7(prog:Program)(w:World)(i:Int)(t:Tok):(j9 prog w).is (.inl i) (.int i t)=true:=a81 i t
def aM8(prog:Program)(w:World)(x:Str)(t:Tok):(j9 prog w).is (.inr x) (.str x t)=true:=a80 x t
set_option genInjectivity true in
inductive V where
 |bg|bl (b:Bool)|int (i:Int)|str (x:Str)|mM (b:Array UInt8)|sx (b:UInt64)|ref (a:Addr)|ty (n:String)
 deriving DecidableEq
abbrev RelV:V->Value->Prop
 |.bg,u=>u=Value.none
 |.bl b,u=>u=Value.bool b
 |.int i,u=>∃t,u=Value.int i t
 |.str x,u=>∃t,u=Value.str x t
 |.mM b,u=>∃t,u=Value.bytes b t
 |.sx b,u=>∃t,u=Value.float b t
 |.ref a,u=>u=Value.ref a
 |.ty n,u=>u=Value.type n
noncomputable abbrev Vals:@&V->@&Value->Prop:=Paired RelV
def Vals.length{xs:@&V}{us:@&Value}(r:Vals xs us):-xs=-us:=nz r
def Vals.get:∀{xs:@&V} {us:@&Value} {i:Nat} {x:V},Vals xs us->xs[i]?=!x->∃u,us[i]?=!u/\RelV x u
 |_,_,_,_,.nil,e=>by simp at e
 |_,_,0,_,.cons r _,e=>by simp at e;subst e;exact#[_,rfl,r]
 |_,_,i+1,x,.cons _ t,e=>by
  let#[u,h1,h2]:=Vals.get (i:=i) (x:=x) t (by simpa using e);exact#[u,by simpa using h1,h2]
def Vals.set{x:V}{u:Value}(r:RelV x u):∀{xs:@&V} {us:@&Value} (i:Nat),Vals xs us->Vals (xs.set i x) (us.set i u)
 |_,_,_,.nil=>.nil
 |_,_,0,.cons _ t=>.cons r t
 |_,_,i+1,.cons q t=>.cons q (Vals.set r i t)
def Vals.append{ys:@&V}{ws:@&Value}(h:Vals xs us)(s:Vals ys ws):Vals (xs++ys) (us++ws):=by
 induction h with
 |nil=>exact s
 |cons r t ih=>exact .cons r ih
def Vals.take:∀{xs:@&V} {us:@&Value} (n:Nat),Vals xs us->Vals (xs.take n) (us.take n)
 |_,_,0,_=>.nil
 |_,_,_+1,.nil=>.nil
 |_,_,n+1,.cons r t=>.cons r (Vals.take n t)
def Vals.drop:∀{xs:@&V} {us:@&Value} (n:Nat),Vals xs us->Vals (xs.drop n) (us.drop n)
 |_,_,0,r=>r
 |_,_,_+1,.nil=>.nil
 |_,_,n+1,.cons _ t=>Vals.drop n t
abbrev F5:Option V->Option Value->Prop
 |some v,!u=>RelV v u
 |none,none=>True
 |_,_=>False
abbrev KV{κ:Type}:@&(κ×V)->@&(κ×Value)->Prop:=Paired λ(p:κ×V) (q:κ×Value)=>p.1=q.1/\RelV p.2 q.2
abbrev kV:Key->V
 |.inl i=>.int i
 |.inr x=>.str x
inductive HO where
 |lst (xs:@&V)
 |tup (xs:@&V)
 |dK (kvs:@&(Key×V))|dT (kvs:@&(List Key×V))
 |set (S:Int->Bool) (n:Nat)
 |ins (C dx:Addr) (fs:@&(Str×V))
 |own (x:Addr)
 |xd (fs:@&(Str×V))
 |met (f x:Addr)
 |nF (lo hi:Int)
 |kB (o:Obj) (u:HO)
 |qo (ps:Array Value)
 |ext (φ:Heap->Prop)
noncomputable abbrev Hp:=Addr->Option HO
abbrev upd(H:Hp)(a:Addr)(o:HO):Hp:=λb=>if b=a then some o else H b
def j4:upd H a o a=!o:=by unfold upd;rw[ay rfl]
def d8(h:b≠a):upd H a o b=H b:=by unfold upd;rw[az h]
def Ys{u:HO}(h:H a=!o)(h':H b=!u)(d:o≠u):a≠b:=by
 intro e;subst e;rw[h] at h';exact d (aN h')
def j2(h:H a=!o)(h':H b=none):a≠b:=by
 intro e;simp_all
abbrev L9(h:Heap)(a:Addr)(items:Array Value):Prop:=∃o,h.get? a=!o/\o.cls=.type "tuple"/\(∃n,o.data=.seq items n)/\o.dict=none
def L9.tup{h:Heap}{a:Addr}{items:Array Value}(x:L9 h a items):IsTup h a items:=let ⟨o,e,c,d,_⟩:=x;#[o,e,c,d]
def L9.new(h:Heap)(items:Array Value):L9 (h.push { cls:=.type "tuple",data:=.seq items }) h.objs.size items:=#[_,aE _ rfl,rfl,#[_,rfl],rfl]
section
variable(P:Program)(w:World)
abbrev k9(H:Hp)(h:Heap)(a:Addr):HO->Prop
 |.lst xs=>-xs<=sizeLine/\∃(bh:@&Value) (n:Nat),Vals xs bh/\h.get? a=some { cls:=.type "list",data:=.seq bh.toArray n }
 |.tup xs=>-xs<=sizeLine/\∃bh:@&Value,Vals xs bh/\L9 h a bh.toArray
 |.dK kvs=>-kvs<=sizeLine/\(a==sysModules)=false/\∃vs,KV kvs vs/\h.DictOf (j9 P w) a vs
 |.dT kvs=>-kvs<=sizeLine/\(a==sysModules)=false/\∃xs:@&(List Key×Addr×Value),
   Paired (λ(p:@&Key×V) (q:@&Key×Addr×Value)=>p.1=q.1/\H q.2.1=!.tup (p.1.map kV)/\RelV p.2 q.2.2) kvs xs /\
   ∃o es ep,h.get? a=!o/\o.ExactDict/\o.data=.dict es ep/\es.toList=xs.map (entryOfKey (tupleKind (j9 P w)))/\(xs.map (·.1)).Nodup
 |.set S n=>h.SetOf (intKind P w) a S n
 |.ins C dx fs=>H dx=!.own a/\-fs<=1000/\dx≠a/\h.get? a=!PySem.W.instObj C dx /\
   ∃mA,h.Ns1 dx mA/\(∀f,F5 (fs.lookup f) (mA f))/\PySem.Within mA (fs.map (·.1))
 |.own _=>∃o,h.get? a=!o
 |.xd fs=>∃mA,h.Ns1 a mA/\∀f,F5 (fs.lookup f) (mA f)
 |.nF lo hi=>∃t u v,h.get? a=some { cls:=.type "range",data:=.fields (List.toArray [.int lo t,.int hi u,.int 1 v]) }
 |.kB o u=>h.get? a=!o/\k9 H h a u
 |.qo ps=>h.get? a=some { cls:=.none,data:=.fields ps }
 |.met f x=>h.get? a=!PySem.W.methodObj (.ref f) (.ref x)
 |.ext φ=>φ h/\(∃o,h.get? a=!o)/\∀h1 h2:Heap,φ h1->(∀o,h1.get? a=!o->h2.get? a=!o)->φ h2
abbrev gZ(H:Hp)(h:Heap):Prop:=∀a o,H a=!o->k9 P w H h a o
end
def k9.lt(x:k9 P w H h a o):a<h.objs.size:=by
 cases o with
 |lst xs=>let#[_,_,_,_,e]:=x;exact aC e
 |tup xs=>let#[_,_,_,p]:=x;exact p.tup.lt
 |dK kvs=>let#[_,_,_,_,o,_,_,e,_]:=x;exact aC e
 |dT kvs=>let#[_,_,_,_,o,_,_,e,_]:=x;exact aC e
 |set S n=>let#[o,_,_,_,e,_]:=x;exact aC e
 |ins C dx fs=>let#[_,_,_,e,_]:=x;exact aC e
 |own y=>let#[_,e]:=x;exact aC e
 |xd fs=>let#[_,#[_,_,_,e,_],_]:=x;exact aC e
 |nF lo hi=>let#[_,_,_,e]:=x;exact aC e
 |kB ob u=>let#[e,_]:=x;exact aC e
 |qo ps=>exact aC (show h.get? a=some _ from x)
 |met f y=>exact aC (show h.get? a=some _ from x)
 |ext φ=>let#[_,#[_,e],_]:=x;exact aC e
def Paired.Kk{β:Type}{F G:α->β->Prop}{vF:List α}{vE:List β}(h:Paired F vF vE)(f:∀a b,F a b->G a b):Paired G vF vE:=by
 induction h with
 |nil=>exact .nil
 |cons r t ih=>exact .cons (f _ _ r) ih
def k9.J1(x:k9 P w H h a o)(k:∀b u,(b=a\/H b=!.own a)->h.get? b=!u->h'.get? b=!u)(ho:∀b,H b=!.own a->H' b=!.own a)(ht:∀b xs,H b=!.tup xs->H' b=!.tup xs):k9 P w H' h' a o:=by
 induction o with
 |lst xs=>let#[z,bh,n,r,e]:=x;exact#[z,bh,n,r,k _ _ (.inl rfl) e]
 |tup xs=>let#[z,bh,r,ob,e,c]:=x;exact#[z,bh,r,ob,k _ _ (.inl rfl) e,c]
 |dK kvs=>let#[z,y,vs,r,ob,es,ep,e,c]:=x;exact#[z,y,vs,r,ob,es,ep,k _ _ (.inl rfl) e,c]
 |dT kvs =>
  let#[z,y,xs,r,ob,es,ep,e,c]:=x;exact#[z,y,xs,Paired.Kk r λp q z=>#[z.1,ht _ _ z.2.1,z.2.2],ob,es,ep,k _ _ (.inl rfl) e,c]
 |set S n=>let#[ob,es,ep,t,e,c]:=x;exact#[ob,es,ep,t,k _ _ (.inl rfl) e,c]
 |ins C dx fs =>
  let#[d,z,ne,e,mA,#[od,es,ep,e2,c],r]:=x;exact#[ho _ d,z,ne,k _ _ (.inl rfl) e,mA,#[od,es,ep,k _ _ (.inr d) e2,c],r]
 |own y=>let#[ob,e]:=x;exact#[ob,k _ _ (.inl rfl) e]
 |xd fs=>let#[mA,#[od,es,ep,e,c],r]:=x;exact#[mA,#[od,es,ep,k _ _ (.inl rfl) e,c],r]
 |nF lo hi=>let#[t,u,v,e]:=x;exact#[t,u,v,k _ _ (.inl rfl) e]
 |kB ob u ih=>let#[e,q]:=x;exact#[k _ _ (.inl rfl) e,ih q]
 |qo ps =>
  let e:h.get? a=some { cls:=.none,data:=.fields ps }:=x;exact k a _ (.inl rfl) e
 |met f y =>
  let e:h.get? a=!PySem.W.methodObj (.ref f) (.ref y):=x;exact k a _ (.inl rfl) e
 |ext φ=>let#[p,#[o,e],st]:=x;exact#[st _ _ p λo q=>k _ _ (.inl rfl) q,#[o,k _ _ (.inl rfl) e],st]
def gZ.lt(x:gZ P w H h)(e:H a=!o):a<h.objs.size:=(x a o e).lt
def gZ.fresh(x:gZ P w H h)(e:h.objs.size<=a):H a=none:=by
 cases q:H a with
 |none=>rfl
 |some u=>exact absurd (aD (x.lt q) e) (cg _)
def gZ.kept(x:gZ P w H h)(k:∀b u,h.get? b=!u->h'.get? b=!u):gZ P w H h':=λa o e =>
 (x a o e).J1 (λb u y q=>k b u q) (λy q=>q) λy y q=>q
def gZ.laid(x:gZ P w H h)(k:∀b u,h.get? b=!u->h'.get? b=!u)(hp:h.objs.size<=a)(new:k9 P w (upd H a o) h' a o):gZ P w (upd H a o) h':=λb u e=>by
 let hn:=x.fresh hp;by_cases hb:b=a
 .subst hb;rw[j4] at e;simp_all
 .rw[d8 hb] at e;exact(x b u e).J1 (λc v y q=>k c v q) (λc q=>by rw[d8 (j2 q hn)];exact q) λc xs q=>by rw[d8 (j2 q hn)];exact q
abbrev Rd(H:Hp)(a:Addr)(u:HO):Prop:=H a=!u\/∃o,H a=!.kB o u
def Rd.ok{u:HO}(r:Rd H a u)(x:gZ P w H h):k9 P w H h a u:=by
 rcases r with r|⟨o,r⟩
 .exact x a u r
 .let#[_,q]:=x a _ r;exact q
abbrev yi:Option HO->Prop
 |some (.lst _)=>True
 |some (.dK _)=>True
 |some (.dT _)=>True
 |some (.set _ _)=>True
 |some (.ins _ _ _)=>True
 |some (.ext _)=>True
 |_=>False
section
variable{x e:Addr}{o':HO}
def gZ.write(ok:gZ P w H h)(mu:yi (H x))(he:e=x\/H e=!.own x)(k:∀b u,b≠e->h.get? b=!u->h'.get? b=!u)(rQ:∃u,h'.get? e=!u)(new:k9 P w (upd H x o') h' x o'):gZ P w (upd H x o') h':=λb u q=>by
 let vt:∀c y,H c=!.own y->c≠x:=λc y r z=>by subst z;rw[r] at mu;exact mu
 let AY:∀c xs,H c=!.tup xs->c≠x:=λc xs r z=>by subst z;rw[r] at mu;exact mu
 by_cases hb:b=x
 .subst hb;rw[j4] at q;cases q;exact new
 .rw[d8 hb] at q;by_cases ua:b=e
  .let q':H b=!.own x:=by
    rcases he with z|z
    .exact absurd (ua.trans z) hb
    .rw[ua];exact z
   rw[q] at q';cases q';let#[v,hv]:=rQ;exact#[v,by rw[ua];exact hv]
  .refine(ok b u q).J1 (λc v hc r=>k c v ?_ r) (λc r=>by rw[d8 (vt c b r)];exact r) λc xs r=>by rw[d8 (AY c xs r)];exact r
   rcases hc with rfl|hc
   .exact ua
   .rintro rfl;rcases he with z|z
    .exact vt c b hc z
    .rw[hc] at z;cases z;exact hb rfl
end
structure Un(fs ex:@&Addr)(H H':Hp)(h h':Heap):Prop where
 keep:∀b o,h.get? b=!o->H b=none->b∉fs->b∉ex->h'.get? b=!o
 slot:∀b o,h.get? b=!o->H b=none->b∈fs->b∉ex->∃sl,h'.get? b=some { o with slots:=sl }
 free:∀b o,h.get? b=!o->H b=none->b∉ex->H' b=none
 there:∀b o,h.get? b=!o->b∉ex->∃o',h'.get? b=!o'
 jB:∀b xs,H b=!.tup xs->H' b=!.tup xs
 jl:∀b o u,H b=!.kB o u->H' b=!.kB o u
 jC:∀b ps,H b=!.qo ps->∃more,H' b=!.qo (ps++more)
section
variable{fs ex:@&Addr}{H1:Hp}{h1:Heap}{x e:Addr}
def Un.any(u:Un fs ex H H1 h h1){ob:Obj}(q:h.get? b=!ob)(n:H b=none)(hx:b∉ex):∃sl,h1.get? b=some { ob with slots:=sl }:=by
 by_cases hb:b∈fs
 .exact u.slot b ob q n hb hx
 .exact#[ob.slots,u.keep b ob q n hb hx]
def Un.kept(k:∀b u,h.get? b=!u->h'.get? b=!u):Un fs ex H H h h' :=
 #[λb ob q x x x=>k b ob q,λb ob q x x x=>#[ob.slots,k b ob q],λx x x n x=>n,λb ob q x=>#[ob,k b ob q],λx x q=>q,λx x x q=>q,λx ps q=>#[(List.toArray []),by rw[q];simp]]
def Un.refl:Un fs ex H H h h:=Un.kept λx x q=>q
def Un.laid(k:∀b u,h.get? b=!u->h'.get? b=!u)(hp:h.objs.size<=a)(hn:H a=none):Un fs ex H (upd H a o) h h' where
 keep:=λb u q x x x=>k b u q
 slot:=λb u q x x x=>#[u.slots,k b u q]
 free:=λb u q n x=>by rw[d8 (aK (aD (aC q) hp))];exact n
 there:=λb u q x=>#[u,k b u q]
 jB:=λb xs q=>by rw[d8 (j2 q hn)];exact q
 jl:=λb u xs q=>by rw[d8 (j2 q hn)];exact q
 jC:=λb ps q=>#[(List.toArray []),by rw[d8 (j2 q hn),q];simp]
def Un.write(mu:yi (H x))(he:e=x\/H e=!.own x)(k:∀b u,b≠e->h.get? b=!u->h'.get? b=!u)(rQ:∃u,h'.get? e=!u):Un fs ex H (upd H x o) h h':=by
 let hx:∀b,H b=none->b≠x:=λb n z=>by subst z;rw[n] at mu;exact mu
 let hb:∀b,H b=none->b≠e:=λb n z=>by
  simp_all
 let hm:∀b u,H b=!u->¬yi (!u)->b≠x:=λb u q nm z=>by simp_all
 refine #[λb u q n y y=>k b u (hb b n) q,λb u q n y y=>#[u.slots,k b u (hb b n) q],λb u q n y=>by rw [d8 (hx b n)];exact n,λb u q y=>?_,
  λb xs q=>by rw [d8 (hm b _ q λz=>z)];exact q,λb u xs q=>by rw [d8 (hm b _ q λz=>z)];exact q,λb ps q=>#[(List.toArray []),by rw [d8 (hm b _ q λz=>z),q];simp]]
 by_cases ua:b=e
 .simp_all
 .exact#[u,k b u ua q]
end
abbrev rj(h:Heap)(H:Hp):@&Addr:=(List.range h.objs.size).filter λa=>(H a).isSome
abbrev qe(h:Heap)(H:Hp):Heap:=PySem.W.hideAll h (rj h H)
def a86(h:Heap)(H:Hp):(qe h H).objs.size=h.objs.size:=PySem.W.hideAll_size _ _
def VY{o:Obj}(e:h.get? b=!o)(n:H b=none):(qe h H).get? b=!o :=
 GK _ e λhm=>by
  let q:(H b).isSome=true:=(bt.mp hm).2;rw[n] at q;simp at q
def Ug{o:Obj}(e:(qe h H).get? b=!o):h.get? b=!o/\H b=none:=by
 let e':h.get? b=!o:=OW (rj h H) e;refine#[e',?_];cases q:H b with
 |none=>rfl
 |some x =>
  let hm:b∈rj h H:=bt.mpr #[aR.mpr (aC e'),by simp[q]];let z:(qe h H).get? b=none:=PySem.W.hideAll_none (rj h H) hm
  simp_all
structure Mod(K:PySem.W.Frag)(mg:Str->Option Value)(base:Heap):Prop where
 oi:K.In base
 glob:base.Ns mainGlobals mg
 blt:∃mb,base.Ns builtinsNs mb/\∀x:Str,x≠"__name__"->mb x=bootBuiltins x
 nolimit:base.NoLimit
structure Cx where
 prog:Program
 w:World
 K:PySem.W.Frag
 mg:Str->Option Value
 base:Heap
 A:Around
 N:@&Str
 dA:Shared
 kc:Hp
 env:Env
 outer:@&Env
 stack:@&Env
 ex:@&Addr
 fn:Str->Bool
 calm:Bool
 pn:@&(Addr×Obj)
 xe:Value->Shared->Prop
 sg:Option (List (Option V)):=none
abbrev Cx.Nd(X:Cx):Prop:=X.N.Nodup/\X.sg=none
abbrev iP(l:@&Env):@&Addr:=l.filterMap (·.frame)
noncomputable abbrev Cx.fs(X:Cx):@&Addr:=iP X.outer
abbrev sW(sc:Scope)(x:Str):Prop:=sc.names.lookup x=!.local\/sc.names.lookup x=!.cell\/sc.names.lookup x=!.free
abbrev Loc(sc:Scope)(x:Str):Prop:=sc.names.lookup x=!.local\/sc.names.lookup x=!.cell
abbrev Look(env:Env)(h:Heap)(m:Str->Option Value)(x:Str)(u:Value):Prop :=
 (env.kindOf x=!.local/\m x=!u)\/((env.kindOf x=!.cell\/env.kindOf x=!.free)/\∃c,env.cells.lookup x=!c/\h.IsCell c (!u))
structure Cx.Ok(X:Cx):Prop where
 mod:Mod X.K X.mg X.base
 kind:X.env.scope.kind=.function
 glob:X.env.globals=mainGlobals
 blt:X.env.builtins=builtinsNs
 above:X.dA.heap.objs.size<=X.env.locals
 inj:∀x y c,X.env.cells.lookup x=!c->X.env.cells.lookup y=!c->x=y
 has:∀x,(X.env.kindOf x=!.cell\/X.env.kindOf x=!.free)->∃c,X.env.cells.lookup x=!c
 xj:∀x c,X.fn x=true->X.env.cells.lookup x=!c->X.dA.heap.objs.size<=c
 hd:X.calm=true->X.A.handled=none
 frames:X.A.frames=!X.stack
 yD:X.stack=X.outer\/(X.stack=X.env::X.outer/\X.env.frame=!X.env.locals)
 IT:∀b∈X.ex,b≠X.env.locals/\∀x c,X.env.cells.lookup x=!c->c≠b
 bs:∀b o,X.base.get? b=!o->X.dA.heap.get? b=!o/\X.kc b=none
 qO:X.base.objs.size<=X.dA.heap.objs.size
 nY:∀b o,X.base.get? b=!o->b∉X.ex
 pU:∀b∈X.ex,b∉X.fs
 T1:X.dA.heap.FunFrames X.base X.outer
 sv:∀b∈X.fs,X.kc b=none
structure Inv(X:Cx)(pi:@&(Addr×Obj))(Z:@&(Option V))(H:Hp)(s:Shared):Prop where
 ok:X.Ok
 os:s.os=X.dA.os
 bare:AllBare s.gens
 base:Un X.fs X.ex X.kc H X.dA.heap s.heap
 loc:∃m,s.heap.Ns X.env.locals m/\∀(i:Nat) (x:Str) (v:V),X.N[i]?=!x->Z[i]?=!!v->sW X.env.scope x->∃u,RelV v u/\Look X.env s.heap m x u
 cell:∀x c,X.env.cells.lookup x=!c->∃v,s.heap.IsCell c v
 free:H X.env.locals=none
 gz:∀x c,X.env.cells.lookup x=!c->H c=none
 pin:∀p∈X.pn++pi,s.heap.get? p.1=!p.2/\H p.1=none/\p.1≠X.env.locals/\p.1∉X.fs/\∀v,p.2.data≠.cell v
 bZ:gZ X.prog X.w H s.heap
 len:-Z=-X.N
 sg:∀kd,X.sg=!kd->Z=kd
section
variable{Z:@&(Option V)}
def Cx.Ok.b55(ok:X.Ok){o:Obj}(e:X.base.get? b=!o):b∉X.fs:=λhb=>by
 have:=(ok.T1.mem hb).1
 simp_all
def Inv.bs(I:Inv X pi Z H s):∀b o,X.base.get? b=!o->s.heap.get? b=!o/\H b=none:=λb o e =>
 #[I.base.keep b o (I.ok.bs b o e).1 (I.ok.bs b o e).2 (I.ok.b55 e) (I.ok.nY b o e),I.base.free b o (I.ok.bs b o e).1 (I.ok.bs b o e).2 (I.ok.nY b o e)]
def Inv.bk(I:Inv X pi Z H s):∀b o,X.base.get? b=!o->s.heap.get? b=!o:=λb o e=>(I.bs b o e).1
def Inv.mod(I:Inv X pi Z H s):Mod X.K X.mg X.base:=I.ok.mod
def Inv.gN(I:Inv X pi Z H s):X.K.In s.heap:=I.ok.mod.oi.keeps I.bk
def Inv.lt(I:Inv X pi Z H s):X.env.locals<s⁻¹:=let ⟨_,hn,_⟩:=I.loc;hn.lt
def Inv.sz(I:Inv X pi Z H s):X.dA.heap.objs.size<=s⁻¹:=aG I.ok.above (eT I.lt)
def Inv.Dv(I:Inv X pi Z H s)(h:s⁻¹<=a):a∉X.fs:=λhb=>by
 let#[_,o,ho,_]:=I.ok.T1.mem hb;exact absurd (aD (aC ho) (aG I.sz h)) (cg _)
def Inv.sE(I:Inv X pi Z H s):∀x c,X.env.cells.lookup x=!c->c≠X.env.locals:=λx c e z=>by
 let#[v,o,ho,hd]:=I.cell x c e;let#[m,#[o',es,ep,lx,rS,_],_]:=I.loc
 simp_all
def Inv.T1(I:Inv X pi Z H s):s.heap.FunFrames X.base X.outer:=by
 let all:∀(l:@&Env),(∀b∈iP l,b∈X.fs)->X.dA.heap.FunFrames X.base l->s.heap.FunFrames X.base l:=by
  intro l
  induction l with
  |nil=>intro _ _;trivial
  |cons env r ih =>
   intro hs hl;let#[hk,#[L,o,hf,hn,ho,hd],hr]:=hl;let hL:L∈X.fs:=hs L (by unfold iP;rw[dH,hf];exact kQ);let#[sl,e]:=I.base.slot L o ho (I.ok.sv L hL) hL λz=>I.ok.pU L z hL;exact#[hk,#[L,_,hf,hn,e,hd],ih (λb hb=>hs b (by unfold iP;rw[dH,hf];exact bA _ hb)) hr]
 exact all X.outer (λx hb=>hb) I.ok.T1
def Inv.stack(I:Inv X pi Z H s):s.heap.FunFrames X.base X.stack:=by
 rcases I.ok.yD with e|⟨e,hf⟩
 .rw[e];exact I.T1
 .rw[e];let#[m,hn,_]:=I.loc;refine .cons (by rw[I.ok.kind];decide) hf hn ?_ I.T1;exact Heap.get?_none_of_le (aG I.ok.qO I.ok.above)
def Inv.U9(I:Inv X pi Z H s):∀b∈iP X.stack,b∈X.env.locals::X.fs:=λb hb=>by
 rcases I.ok.yD with e|⟨e,hf⟩
 .rw[e] at hb;exact bA _ hb
 .rw[e] at hb;unfold iP at hb;rw[dH,hf] at hb;exact hb
def Inv.DX(I:Inv X pi Z H s):∀b∈iP X.stack,H b=none:=λb hb=>by
 rcases aJ.mp (I.U9 b hb) with e|hb
 .rw[e];exact I.free
 .let#[_,o,ho,_]:=I.ok.T1.mem hb;exact I.base.free b o ho (I.ok.sv b hb) λz=>I.ok.pU b z hb
def Inv.step{g':Array GenState}{t':Nat}{d':Drawn}{ch:@&Addr}(I:Inv X pi Z H s)(mG:∀b∈ch,(b∈X.ex\/X.dA.heap.objs.size<=b)/\b≠X.env.locals/\(∀x c,X.env.cells.lookup x=!c->c≠b)/\∀p∈X.pn++pi,p.1≠b)(keep:∀b o,b≠X.env.locals->b∉X.fs->b∉ch->s.heap.get? b=!o->H b=none->h'.get? b=!o)(slot:∀b o,b≠X.env.locals->b∈X.fs->b∉ch->s.heap.get? b=!o->H b=none->∃sl,h'.get? b=some { o with slots:=sl })(free:∀b o,b∉ch->s.heap.get? b=!o->H b=none->H' b=none)(there:∀b o,b∉ch->s.heap.get? b=!o->∃o',h'.get? b=!o')(jB:∀b xs,H b=!.tup xs->H' b=!.tup xs)(jl:∀b o u,H b=!.kB o u->H' b=!.kB o u)(jC:∀b ps,H b=!.qo ps->∃more,H' b=!.qo (ps++more))(ns:∀m,s.heap.Ns X.env.locals m->h'.Ns X.env.locals m)(bZ:gZ X.prog X.w H' h')(hg:AllBare g') :
  Inv X pi Z H' { s with heap:=h',gens:=g',drawn:=d',toks:=t' }:=by
 let Hu:∀b o,X.dA.heap.get? b=!o->b≠X.env.locals:=λb o e=>aK (aD (aC e) I.ok.above);let tI:∀b o,X.dA.heap.get? b=!o->b∉X.ex->b∉ch:=λb o e hx hb=>by
  rcases(mG b hb).1 with z|z
  .exact hx z
  .exact absurd (aD (aC e) z) (cg _)
 let cellK:∀x c,X.env.cells.lookup x=!c->∀v,s.heap.IsCell c v->h'.IsCell c v:=λx c e v bo=>by
  let#[o,ho,hd]:=bo;let vC:c∉ch:=λz=>(mG c z).2.2.1 x c e rfl;by_cases hc:c∈X.fs
  .let#[sl,q]:=slot c o (I.sE x c e) hc vC ho (I.gz x c e);exact#[_,q,hd]
  .exact#[o,keep c o (I.sE x c e) hc vC ho (I.gz x c e),hd]
 refine#[I.ok,I.os,hg,#[λb o e n hb hx=>?_,λb o e n hb hx=>?_,λb o e n hx=>?_,λb o e hx=>?_,λb xs e=>jB b xs (I.base.jB b xs e),λb o xs e=>jl b o xs (I.base.jl b o xs e),λb ps e=>?_],?_,λx c e=>?_,?_,λx c e=>?_,λp hp=>?_,bZ,I.len,I.sg]
 .exact keep b o (Hu b o e) hb (tI b o e hx) (I.base.keep b o e n hb hx) (I.base.free b o e n hx)
 .let#[sl,e1]:=I.base.slot b o e n hb hx;let#[Px,e2]:=slot b _ (Hu b o e) hb (tI b o e hx) e1 (I.base.free b o e n hx);exact#[Px,e2]
 .let#[o',e1]:=I.base.there b o e hx;exact free b o' (tI b o e hx) e1 (I.base.free b o e n hx)
 .let#[o',e1]:=I.base.there b o e hx;exact there b o' (tI b o e hx) e1
 .let#[m1,e1]:=I.base.jC b ps e;let#[m2,e2]:=jC b _ e1;exact#[m1++m2,by rw[e2,Array.append_assoc]]
 .let#[m,hn,hl]:=I.loc;refine#[m,ns m hn,λi x v e1 e2 e3=>?_];let#[u,r,l]:=hl i x v e1 e2 e3;refine#[u,r,?_];rcases l with l|⟨k,c,e,z⟩
  .exact .inl l
  .exact .inr #[k,c,e,cellK x c e _ z]
 .let#[v,z]:=I.cell x c e;exact#[v,cellK x c e v z]
 .let#[m,#[o,_,_,ho,_],_]:=I.loc;exact free _ o (λz=>(mG _ z).2.1 rfl) ho I.free
 .let#[v,o,ho,hd]:=I.cell x c e;exact free c o (λz=>(mG c z).2.2.1 x c e rfl) ho (I.gz x c e)
 .let#[e,n,ne,nf,d]:=I.pin p hp;let vC:p.1∉ch:=λz=>(mG p.1 z).2.2.2 p hp rfl;exact#[keep p.1 p.2 ne nf vC e n,free p.1 p.2 vC e n,ne,nf,d]
def Inv.un{t':Nat}(I:Inv X pi Z H s)(u:Un X.fs [] H H' s.heap h')(bZ:gZ X.prog X.w H' h'):Inv X pi Z H' { s with heap:=h',toks:=t' }:=by
 let#[m,#[o,es,ep,ho,r],_]:=id I.loc;let#[sl,hL]:=u.any ho I.free #[_];exact I.step (g':=s.gens) (d':=s.drawn) (ch:=[]) (λx z=>nomatch z) (λb o x hb x e n=>u.keep b o e n hb #[_]) (λb o x hb x e n=>u.slot b o e n hb #[_]) (λb o x e n=>u.free b o e n #[_]) (λb o x e=>u.there b o e #[_]) u.jB u.jl u.jC (λm' hm=>by
  let#[o',mK,zg,lx,r']:=hm;rw[ho] at lx;cases lx;exact #[_,mK,zg,hL,r']) bZ I.bare
def Inv.call{g':Array GenState}{t':Nat}{d':Drawn}(I:Inv X pi Z H s)(u:Un (iP X.stack) ch H H' s.heap h')(bZ:gZ X.prog X.w H' h')(hg:AllBare g')(mG:∀b∈ch,(b∈X.ex\/X.dA.heap.objs.size<=b)/\b≠X.env.locals/\(∀x c,X.env.cells.lookup x=!c->c≠b)/\∀p∈X.pn++pi,p.1≠b) :
  Inv X pi Z H' { s with heap:=h',gens:=g',drawn:=d',toks:=t' }:=by
 let#[m,#[o,es,ep,ho,r],_]:=id I.loc;let#[sl,hL]:=u.any ho I.free λz=>(mG _ z).2.1 rfl;exact I.step (ch:=ch) mG (λb o hL hb hc e n=>u.keep b o e n (λz=>(aJ.mp (I.U9 b z)).elim hL hb) hc) (λb o y y hc e n=>u.any e n hc) (λb o hc e n=>u.free b o e n hc) (λb o hc e=>u.there b o e hc) u.jB u.jl u.jC (λm' hm=>by
  let#[o',mK,zg,lx,r']:=hm;rw[ho] at lx;cases lx;exact #[_,mK,zg,hL,r']) bZ hg
def Inv.turned{t':Nat}{it:Addr}(I:Inv X pi Z H s)(k:∀b o,b≠it->s.heap.get? b=!o->h'.get? b=!o)(hn:H it=none)(hL:it≠X.env.locals)(h1:it∈X.ex\/X.dA.heap.objs.size<=it)(h2:∀x c,X.env.cells.lookup x=!c->c≠it)(h3:∀p∈X.pn++pi,p.1≠it):Inv X pi Z H { s with heap:=h',toks:=t' }:=by
 let Ht:∀b u,H b=!u->b≠it:=λb u e z=>by simp_all
 refine I.step (g':=s.gens) (d':=s.drawn) (ch:=[it]) (λb hb=>?_) (λb o y y hc e y=>k b o (λz=>hc (by simp[z])) e) (λb o y y hc e y=>#[o.slots,k b o (λz=>hc (by simp[z])) e]) (λy y y y n=>n)
  (λb o hc e=>#[o,k b o (λz=>hc (by simp[z])) e]) (λy y e=>e) (λy y y e=>e) (λb ps e=>#[(List.toArray []),by rw[e];simp]) (λm hm=>?_) (λb u e=>?_) I.bare
 .let e:b=it:=by simpa using hb
  subst e;exact#[h1,hL,h2,h3]
 .let#[o,es,ep,ho,r]:=hm;exact#[o,es,ep,k _ o (bI hL) ho,r]
 .refine(I.bZ b u e).J1 (λc v hc q=>k c v ?_ q) (λy q=>q) λy y q=>q;rcases hc with z|z
  .rw[z];exact Ht b u e
  .exact Ht c _ z
def Inv.tok(I:Inv X pi Z H s)(t:Nat):Inv X pi Z H { s with toks:=t }:=I.un (h':=s.heap) (t':=t) Un.refl I.bZ
def Inv.kept{t':Nat}(I:Inv X pi Z H s)(k:∀b u,s.heap.get? b=!u->h'.get? b=!u):Inv X pi Z H { s with heap:=h',toks:=t' }:=I.un (Un.kept k) (I.bZ.kept k)
def Inv.laid{a:Addr}{o:HO}{t':Nat}(I:Inv X pi Z H s)(k:∀b u,s.heap.get? b=!u->h'.get? b=!u)(hp:s⁻¹<=a)(new:k9 X.prog X.w (upd H a o) h' a o) :
  Inv X pi Z (upd H a o) { s with heap:=h',toks:=t' }:=I.un (Un.laid k hp (I.bZ.fresh hp)) (I.bZ.laid k hp new)
def Inv.write{x e:Addr}{o:HO}{t':Nat}(I:Inv X pi Z H s)(mu:yi (H x))(he:e=x\/H e=!.own x)(k:∀b u,b≠e->s.heap.get? b=!u->h'.get? b=!u)(rQ:∃u,h'.get? e=!u)(new:k9 X.prog X.w (upd H x o) h' x o):Inv X pi Z (upd H x o) { s with heap:=h',toks:=t' }:=I.un (Un.write mu he k rQ) (I.bZ.write mu he k rQ new)
def Inv.xN{hJ:@&(Addr×Obj)}(I:Inv X pi Z H s)(h:∀p∈hJ,s.heap.get? p.1=!p.2/\H p.1=none/\p.1≠X.env.locals/\p.1∉X.fs/\∀v,p.2.data≠.cell v):Inv X hJ Z H s :=
 #[I.ok,I.os,I.bare,I.base,I.loc,I.cell,I.free,I.gz,λp hp=>(aW.mp hp).elim (λz=>I.pin p (gj _ z)) (h p),I.bZ,I.len,I.sg]
def Ny(hN:N.Nodup){j:Nat}(a:N[i]?=!x)(b:N[j]?=!x):i=j:=by
 let#[h1,e1]:=av.mp a;let#[h2,e2]:=av.mp b;exact(List.getElem_inj hN).mp (e1.trans e2.symm)
def KQ{Q:Unit->Shared->Prop}(I:Inv X pi Z H s)(hN:X.Nd)(hi:X.N[i]?=!x)(hx:Loc X.env.scope x)(r:RelV v u)(h:∀s',Inv X pi (Z.set i (!v)) H s'->(∃a,Heap.SameBut a s.heap s'.heap/\(a=X.env.locals\/X.env.cells.lookup x=!a))->Q Unit.unit s')(hf:X.fn x=true\/X.env.scope.names.lookup x=!.local:=by first|exact .inl rfl|exact .inr rfl|assumption):wpAny M A (storeName X.env x u) Q E s:=by
 let#[m,hn,hl]:=id I.loc;let BR:(X.env.scope.kind==.class||(X.env.scope.kind==.module&&X.env.locals != X.env.globals))=false:=by rw[I.ok.kind];rfl
 let wo:i< -Z:=by rw[I.len];exact(av.mp hi).1
 let sE:=I.sE;let tracked:∀{a:Addr} {h':Heap},(∃o,s.heap.get? a=!o/\H a=none)->Heap.SameBut a s.heap h'->gZ X.prog X.w H h':=λ{a h'} ha hs b ob e=>by
  let#[_,_,mF]:=ha;refine(I.bZ b ob e).J1 (λc w' hc q=>(hs.2 c ?_).trans q) (λt q=>q) λt t q=>q;rintro rfl;rcases hc with rfl|hc
  .rw[mF] at e;cases e
  .rw[mF] at hc;cases hc
 rcases hx with hk|hk
 .refine wpAny_storeName_local hk hn (λh' vY hs=>?_) BR;let#[oL,_,_,vW,_]:=id hn;refine h _ #[I.ok,I.os,I.bare,#[λb o e n hb hx=>?_,λb o e n hb hx=>?_,I.base.free,λb o e hx=>?_,I.base.jB,I.base.jl,I.base.jC],#[_,vY,λj y v' e1 e2 e3=>?_],λy c e=>?_,I.free,I.gz,λp hp=>?_,tracked #[oL,vW,I.free] hs,by simpa using I.len,λt z=>by rw[hN.2] at z;cases z] #[_,hs,.inl rfl]
  .exact(hs.2 b (aK (aD (aC e) I.ok.above))).trans (I.base.keep b o e n hb hx)
  .let#[sl,e1]:=I.base.slot b o e n hb hx;exact#[sl,(hs.2 b (aK (aD (aC e) I.ok.above))).trans e1]
  .let#[o',e1]:=I.base.there b o e hx;exact#[o',(hs.2 b (aK (aD (aC e) I.ok.above))).trans e1]
  .by_cases hj:j=i
   .subst hj;rw[hi] at e1;cases e1;rw[aM wo] at e2;cases e2;exact#[u,r,.inl #[hk,by simp]]
   .rw[ax (bI hj)] at e2;let#[u',r',q]:=hl j y v' e1 e2 e3;refine#[u',r',?_];rcases q with⟨k,e⟩|⟨k,c,e,z⟩
    .refine .inl #[k,?_];have:y≠x:=λe=>hj (Ny hN.1 e1 (e▸hi));simp[this,e]
    .exact .inr #[k,c,e,z.sameBut hs (sE y c e)]
  .let#[w',z]:=I.cell y c e;exact#[w',z.sameBut hs (sE y c e)]
  .let#[e,n,ne,nf,d]:=I.pin p hp;exact#[(hs.2 p.1 ne).trans e,n,ne,nf,d]
 .let tY:X.fn x=true:=by
   simp_all
  let#[c,hc]:=I.ok.has x (.inl hk);let#[w',z]:=I.cell x c hc;refine wpAny_storeName_cell I.ok.kind hk hc z (λh' jO hs=>?_);let#[oc,Bx,Bw]:=id z;refine h { s with heap:=h' } #[I.ok,I.os,I.bare,#[λb o e n hb hx=>?_,λb o e n hb hx=>?_,I.base.free,λb o e hx=>?_,I.base.jB,I.base.jl,I.base.jC],#[m,hn.sameBut hs (bI (sE x c hc)),λj y v' e1 e2 e3=>?_],λy c' e=>?_,I.free,I.gz,λp hp=>?_,tracked #[oc,Bx,I.gz x c hc] hs,by simpa using I.len,λt z=>by rw[hN.2] at z;cases z] #[c,hs,.inr hc]
  .exact(hs.2 b (aK (aD (aC e) (I.ok.xj x c tY hc)))).trans (I.base.keep b o e n hb hx)
  .let#[sl,e1]:=I.base.slot b o e n hb hx;exact#[sl,(hs.2 b (aK (aD (aC e) (I.ok.xj x c tY hc)))).trans e1]
  .let#[o',e1]:=I.base.there b o e hx;exact#[o',(hs.2 b (aK (aD (aC e) (I.ok.xj x c tY hc)))).trans e1]
  .by_cases hj:j=i
   .subst hj;rw[hi] at e1;cases e1;rw[aM wo] at e2;cases e2;exact#[u,r,.inr #[.inl hk,c,hc,jO]]
   .rw[ax (bI hj)] at e2;let#[u',r',q]:=hl j y v' e1 e2 e3;refine#[u',r',?_];rcases q with q|⟨k,c',e,z'⟩
    .exact .inl q
    .refine .inr #[k,c',e,z'.sameBut hs ?_];rintro rfl;exact hj (Ny hN.1 e1 (I.ok.inj _ _ _ e hc▸hi))
  .by_cases tZ:c'=c
   .subst tZ;exact#[_,jO]
   .let#[w2,z2]:=I.cell y c' e;exact#[w2,z2.sameBut hs tZ]
  .let#[e,n,ne,nf,d]:=I.pin p hp;refine#[(hs.2 p.1 ?_).trans e,n,ne,nf,d];intro q;rw[q,Bx] at e;let q':oc=p.2:=aN e;exact d w' (by rw[<- q'];exact Bw)
def Er{Q:Unit->Shared->Prop}(I:Inv X pi Z H s)(hN:X.Nd)(hi:X.N[i]?=!x)(hx:Loc X.env.scope x)(r:RelV v u)(h:∀s',Inv X pi (Z.set i (!v)) H s'->Q Unit.unit s')(hf:X.fn x=true\/X.env.scope.names.lookup x=!.local:=by first|exact .inl rfl|exact .inr rfl|assumption):wpAny M A (storeName X.env x u) Q E s :=
 KQ I hN hi hx r (λs' I' y=>h s' I') hf
def Inv.Ff{s':Shared}(I:Inv X pi Z H s)(ho:s'.os=s.os)(u:Un (iP X.stack) ch H H' s.heap s'.heap)(bZ:gZ X.prog X.w H' s'.heap)(hg:AllBare s'.gens)(mG:∀b∈ch,(b∈X.ex\/X.dA.heap.objs.size<=b)/\b≠X.env.locals/\(∀x c,X.env.cells.lookup x=!c->c≠b)/\∀p∈X.pn++pi,p.1≠b):Inv X pi Z H' s':=by
 let#[h',g',d',t',o']:=s';let e:o'=s.os:=ho;subst e;exact I.call (g':=g') (t':=t') (d':=d') u bZ hg mG
end
noncomputable abbrev XK:=Value->Option Addr->Hp->Prop
noncomputable abbrev St:=@&(Option V)
noncomputable abbrev VK:=V->Hp->Prop
noncomputable abbrev TE:=St->Hp->VK->Prop
noncomputable abbrev TT:=St->Hp->(Bool->Hp->Prop)->Prop
noncomputable abbrev TA:=St->Hp->(List V->Hp->Prop)->Prop
structure Ends where
 nx:St->Hp->Prop
 rt:VK
 bk:St->Hp->Prop:=λ_ _=>False
 ct:St->Hp->Prop:=λ_ _=>False
noncomputable abbrev TS:=Ends->St->Hp->Prop
abbrev EP(X:Cx)(pi:@&(Addr×Obj))(Z:St)(Q:VK)(u:Value)(s':Shared):Prop:=∃v H',Inv X pi Z H' s'/\RelV v u/\Q v H'
abbrev TP(X:Cx)(pi:@&(Addr×Obj))(Z:St)(Q:Bool->Hp->Prop)(b:Bool)(s':Shared):Prop:=∃H',Inv X pi Z H' s'/\Q b H'
abbrev AP(X:Cx)(pi:@&(Addr×Obj))(Z:St)(Q:@&V->Hp->Prop)(us:@&Value)(s':Shared):Prop:=∃vs H',Inv X pi Z H' s'/\Vals vs us/\Q vs H'
abbrev SP(X:Cx)(pi:@&(Addr×Obj))(D:Ends)(f:Flow)(s':Shared):Prop :=
 match f with
 |.next=>∃cB H',Inv X pi cB H' s'/\D.nx cB H'
 |.brk=>∃cB H',Inv X pi cB H' s'/\D.bk cB H'
 |.cont=>∃cB H',Inv X pi cB H' s'/\D.ct cB H'
 |.ret u=>∃v cB H',Inv X pi cB H' s'/\RelV v u/\D.rt v H'
abbrev PE(X:Cx)(e:Expr)(t:TE):Prop :=
 ∀(pi:@&(Addr×Obj)) (s:Shared) (Z:St) (H:Hp) (Q:VK),Inv X pi Z H s->t Z H Q->wpAny (model X.prog X.w) X.A (eval e X.env) (EP X pi Z Q) X.xe s
abbrev PT(X:Cx)(e:Expr)(t:TT):Prop :=
 ∀(pi:@&(Addr×Obj)) (s:Shared) (Z:St) (H:Hp) (Q:Bool->Hp->Prop),Inv X pi Z H s->t Z H Q->wpAny (model X.prog X.w) X.A (isTrue e X.env (eval e X.env)) (TP X pi Z Q) X.xe s
abbrev PW(X:Cx)(e:Expr)(t:TT):Prop :=
 ∀(whole:Sem Value) (pi:@&(Addr×Obj)) (s:Shared) (Z:St) (H:Hp) (Q:Bool->Hp->Prop),Inv X pi Z H s->t Z H Q->wpAny (model X.prog X.w) X.A (isTrue e X.env whole) (TP X pi Z Q) X.xe s
def PW.pt{t:TT}(h:PW X e t):PT X e t:=h _
abbrev PA(X:Cx)(es:@&Expr)(t:TA):Prop :=
 ∀(pos:Pos) (pi:@&(Addr×Obj)) (s:Shared) (Z:St) (H:Hp) (Q:@&V->Hp->Prop),Inv X pi Z H s->t Z H Q->wpAny (model X.prog X.w) X.A (spliced (backTo pos (starEach es X.env))) (AP X pi Z Q) X.xe s
abbrev PS(X:Cx)(st:Stmt)(t:TS):Prop :=
 ∀(pi:@&(Addr×Obj)) (s:Shared) (Z:St) (H:Hp) (D:Ends),Inv X pi Z H s->t D Z H->wpAny (model X.prog X.w) X.A (exec st X.env) (SP X pi D) X.xe s
abbrev kE(X:Cx)(st:@&Stmt)(t:TS):Prop :=
 ∀(pi:@&(Addr×Obj)) (s:Shared) (Z:St) (H:Hp) (D:Ends),Inv X pi Z H s->t D Z H->wpAny (model X.prog X.w) X.A (execs st X.env) (SP X pi D) X.xe s
def cI{t:Sem α}{Q Q':α->Shared->Prop}(h:wpAny M A t Q E s)(hQ:∀a s,Q a s->Q' a s):wpAny M A t Q' E s:=bC h hQ λy y x=>x
section
def bin{a b:Expr}(ha:PE X a ta)(hb:PE X b tb){R:V->V->Hp->Prop}(I:Inv X pi Z H s)(h:ta Z H λx H1=>tb Z H1 λy H2=>R x y H2){Q:α->Shared->Prop}{f:Value->Value->Sem α}(hf:∀v u s2 x y H2,Inv X pi Z H2 s2->RelV x v->RelV y u->R x y H2->wpAny (model X.prog X.w) X.A (f v u) Q X.xe s2) :
  wpAny (model X.prog X.w) X.A (eval a X.env) (λv bH=>wpAny (model X.prog X.w) X.A (eval b X.env) (λu fm=>wpAny (model X.prog X.w) X.A (f v u) Q X.xe fm) X.xe bH) X.xe s:=by
 refine cI (ha pi s Z H _ I h) λv s1 bo=>?_;let#[x,H1,I1,r1,q1]:=bo;refine cI (hb pi s1 Z H1 _ I1 q1) λu s2 bo=>?_;let#[y,H2,I2,r2,q2]:=bo;exact hf v u s2 x y H2 I2 r1 r2 q2
abbrev b24(i:Nat):TE:=λZ H Q=>∃v,Z[i]?=!!v/\Q v H
abbrev tC(v:V):TE:=λx H Q=>Q v H
def FZ(hN:X.N[i]?=!x)(hv:sW X.env.scope x)(hd:(x==("__debug__":Str))=false:=by decide)(nk:(x==("__classdict__":Str))=false:=by decide):PE X (.Name x pos) (b24 i):=by
 intro pi s Z H Q I h;let#[v,e,h]:=h;let#[m,hn,hl]:=I.loc;let#[u,r,l]:=hl i x v hN e hv;let fin:EP X pi Z Q u s:=#[v,H,I,r,h]
 rcases l with⟨hk,hm⟩|⟨hk,c,hc,mH⟩
 .exact wpAny_Name (wpAny_loadName_local I.ok.kind hk hn hm fin) hd
 .rcases hk with hk|hk
  .exact wpAny_Name (wpAny_loadName_cell I.ok.kind hk hc mH fin) hd
  .exact wpAny_Name (wpAny_loadName_free I.ok.kind hk hc mH fin nk) hd
def bJ7{i j pos}:PE X (.Constant (.int i) j pos) (tC (.int i)):=λx x x H x I h=>wpAny_Constant_int #[.int i,H,I.tok _,#[_,rfl],h]
def YD{b j pos}:PE X (.Constant (.bool b) j pos) (tC (.bl b)):=λx x x H x I h=>Constant_bool #[.bl b,H,I,rfl,h]
def bJ5{j pos}:PE X (.Constant .none j pos) (tC .bg):=λx x x H x I h=>Constant_none #[.bg,H,I,rfl,h]
def bJ2{x j pos}:PE X (.Constant (.str x) j pos) (tC (.str x)):=λy y y H y I h=>Calls.Constant_str #[.str x,H,I.tok _,#[_,rfl],h]
abbrev Gl(X:Cx)(x:Str):Prop:=X.env.kindOf x=!.globalImplicit
def U3(I:Inv X pi Z H s)(hg:Gl X x)(hm:X.mg x=!u)(h:Q u s)(hd:(x==("__debug__":Str))=false:=by decide):wpAny (model X.prog X.w) X.A (eval (.Name x pos) X.env) Q E s :=
 AA I.ok.kind hg (Calls.loadGlobal_global (by rw[I.ok.glob];exact I.mod.glob.keeps I.bk) hm h) hd
def O4(I:Inv X pi Z H s)(hg:Gl X x)(hm:X.mg x=none)(hv:bootBuiltins x=!u)(h:Q u s)(hn:x≠"__name__":=by decide)(hd:(x==("__debug__":Str))=false:=by decide):wpAny (model X.prog X.w) X.A (eval (.Name x pos) X.env) Q E s:=by
 let#[mb,h1,h2]:=I.mod.blt;exact AA I.ok.kind hg (Calls.loadGlobal_builtin (by rw[I.ok.glob];exact I.mod.glob.keeps I.bk) hm (by rw[I.ok.blt];exact h1.keeps I.bk) ((h2 x hn).trans hv) h) hd
def zJ(hg:Gl X x)(hm:X.mg x=!u)(r:RelV v u)(hd:(x==("__debug__":Str))=false:=by decide):PE X (.Name x pos) (tC v) :=
 λy y y H y I h=>U3 I hg hm #[v,H,I,r,h] hd
def Ur(hg:Gl X x)(hm:X.mg x=none)(hv:bootBuiltins x=!u)(r:RelV v u)(hn:x≠"__name__":=by decide)(hd:(x==("__debug__":Str))=false:=by decide):PE X (.Name x pos) (tC v) :=
 λy y y H y I h=>O4 I hg hm hv #[v,H,I,r,h] hn hd
variable{a b:Expr}
abbrev PC(X:Cx)(op:CmpOp)(a b:Expr)(t:TE):Prop :=
 ∀(pi:@&(Addr×Obj)) (s:Shared) (Z:St) (H:Hp) (Q:VK),Inv X pi Z H s->t Z H Q ->
  wpAny (model X.prog X.w) X.A (eval a X.env) (λv bH=>wpAny (model X.prog X.w) X.A (eval b X.env) (λu fm=>wpAny (model X.prog X.w) X.A (compareOp op v u) (EP X pi Z Q) X.xe fm) X.xe bH) X.xe s
abbrev tB(t:TE):TT:=λZ H Q=>t Z H λx H1=>∃c,x=.bl c/\Q c H1
def bJ9{t:TE}(h:PC X op a b t)(h1:behindInMarks op b=false:=by first|exact nZ _ ∅ ∅|rfl):PE X (.Compare a [op] [b] pos) t:=λpi s Z H Q I hw=>wpAny_Compare1 (h pi s Z H Q I hw) h1
def bI3{t:TE}(h:PC X op a b t)(h1:behindInMarks op b=false:=by first|exact nZ _ ∅ ∅|rfl):PT X (.Compare a [op] [b] pos) (tB t):=by
 intro pi s Z H Q I hw;refine wpAny_isTrue_Compare1 (cI (h pi s Z H _ I hw) λv s1 h1=>cI h1 λu s2 h2=>cI h2 λc s3 bo=>?_) h1;let#[x,H1,I1,r1,q1]:=bo;let#[d,rfl,q]:=q1;cases r1;exact cG #[H1,I1,q]
variable{tA yB:TT}{rest:@&Expr}
abbrev b35(t u:TT):TT:=λZ H Q=>t Z H λc H1=>if c=true then u Z H1 Q else Q false H1
abbrev Pp(t u:TT):TT:=λZ H Q=>t Z H λc H1=>if c=true then Q true H1 else u Z H1 Q
abbrev b28(t:TT):TT:=λZ H Q=>t Z H λc H1=>Q (~~~c) H1
def UI(ha:PT X a tA):PW X (.BoolOp .And [a] pos) tA:=by
 intro wh pi s Z H Q I h;refine isTrue_and (cI (ha pi s Z H Q I h) λc s1 e=>?_);cases c with
 |true=>exact isTrue_and_nil e
 |false=>exact e
def bH7(ha:PT X a tA):PW X (.BoolOp .Or [a] pos) tA:=by
 intro wh pi s Z H Q I h;refine isTrue_or (cI (ha pi s Z H Q I h) λc s1 e=>?_);cases c with
 |false=>exact isTrue_or_nil e
 |true=>exact e
def bH8(ha:PT X a tA)(hb:PW X (.BoolOp .And (b::rest) pos) yB):PW X (.BoolOp .And (a::b::rest) pos) (b35 tA yB):=by
 intro wh pi s Z H Q I h;refine isTrue_and (cI (ha pi s Z H _ I h) ?_);rintro c s1 ⟨H1,I1,q1⟩;cases c with
 |true=>exact hb wh pi s1 Z H1 Q I1 q1
 |false=>exact#[H1,I1,q1]
def YK(ha:PT X a tA)(hb:PW X (.BoolOp .Or (b::rest) pos) yB):PW X (.BoolOp .Or (a::b::rest) pos) (Pp tA yB):=by
 intro wh pi s Z H Q I h;refine isTrue_or (cI (ha pi s Z H _ I h) ?_);rintro c s1 ⟨H1,I1,q1⟩;cases c with
 |true=>exact#[H1,I1,q1]
 |false=>exact hb wh pi s1 Z H1 Q I1 q1
def bI2(ha:PT X a tA):PT X (.UnaryOp .Not a pos) (b28 tA):=by
 intro pi s Z H Q I h;exact isTrue_not (ha pi s Z H (λc H1=>Q (~~~c) H1) I h)
abbrev Y'(ta tb:TE):TE:=λZ H Q=>ta Z H λx H1=>∃c,x=.bl c/\if c=true then tb Z H1 Q else Q (.bl false) H1
abbrev b27(ta tb:TE):TE:=λZ H Q=>ta Z H λx H1=>∃c,x=.bl c/\if c=true then Q (.bl true) H1 else tb Z H1 Q
abbrev Zd(ta:TE):TE:=λZ H Q=>ta Z H λx H1=>∃c,x=.bl c/\Q (.bl (~~~c)) H1
def bJ3{op}{t:TE}(h:PE X a t):PE X (.BoolOp op [a] pos) t:=λpi s Z H Q I hw=>BoolOp_one (h pi s Z H Q I hw)
def bK1(ha:PE X a ta)(hb:PE X (.BoolOp .And (b::rest) pos) tb):PE X (.BoolOp .And (a::b::rest) pos) (Y' ta tb):=by
 intro pi s Z H Q I h;refine BoolOp_and (cI (ha pi s Z H _ I h) λv s1 bo=>?_);let#[x,H1,I1,r1,q1]:=bo;let#[c,rfl,q1]:=q1;cases r1;refine cG ?_;cases c with
 |true=>exact hb pi s1 Z H1 Q I1 q1
 |false=>exact#[.bl false,H1,I1,rfl,q1]
def YG(ha:PE X a ta)(hb:PE X (.BoolOp .Or (b::rest) pos) tb):PE X (.BoolOp .Or (a::b::rest) pos) (b27 ta tb):=by
 intro pi s Z H Q I h;refine BoolOp_or (cI (ha pi s Z H _ I h) λv s1 bo=>?_);let#[x,H1,I1,r1,q1]:=bo;let#[c,rfl,q1]:=q1;cases r1;refine cG ?_;cases c with
 |false=>exact hb pi s1 Z H1 Q I1 q1
 |true=>exact#[.bl true,H1,I1,rfl,q1]
def bJ4(ha:PE X a ta):PE X (.UnaryOp .Not a pos) (Zd ta):=by
 intro pi s Z H Q I h;refine UnaryOp_ (cI (ha pi s Z H _ I h) λv s1 bo=>?_);let#[x,H1,I1,r1,q1]:=bo;let#[c,rfl,q1]:=q1;cases r1;exact not_of (cG #[.bl (~~~c),H1,I1,rfl,q1])
abbrev Pq(t:TT)(ta tb:TE):TE:=λZ H Q=>t Z H λc H1=>if c=true then ta Z H1 Q else tb Z H1 Q
def Ww(hc:PT X c tA)(ha:PE X a ta)(hb:PE X b tb):PE X (.IfExp c a b pos) (Pq tA ta tb):=by
 intro pi s Z H Q I h;refine wpAny_IfExp (cI (hc pi s Z H _ I h) ?_);rintro d s1 ⟨H1,I1,q1⟩;cases d with
 |true=>exact ha pi s1 Z H1 Q I1 q1
 |false=>exact hb pi s1 Z H1 Q I1 q1
end
abbrev fZ(K:PySem.W.Frag)(H:Hp)(a:Addr)(xs:@&V):Prop :=
 Rd H a (.lst xs) \/
  ∃(o:Obj) (bh:Array Value) (n:Nat),K.lookup a=!o/\o.cls=.type "list"/\o.dict=none/\o.data=.seq bh n/\bh.size<=sizeLine/\Vals xs bh.toList
abbrev iO(K:PySem.W.Frag)(H:Hp)(a:Addr)(xs:@&V):Prop :=
 Rd H a (.tup xs) \/
  ∃(o:Obj) (bh:Array Value) (n:Nat),K.lookup a=!o/\o.cls=.type "tuple"/\o.data=.seq bh n/\bh.size<=sizeLine/\Vals xs bh.toList
abbrev b86:Value->Option V
 |.none=>!.bg
 |.bool b=>!.bl b
 |.int i _=>!.int i
 |.str x _=>!.str x
 |.bytes b _=>!.mM b
 |.float b _=>!.sx b
 |.ref a=>!.ref a
 |.type n=>!.ty n
 |_=>none
def RelV.abs{x:V}(r:RelV x u):b86 u=!x:=by
 cases x with
 |bg=>cases r;rfl
 |bl _=>cases r;rfl
 |int _=>let#[t,rfl]:=r;rfl
 |str _=>let#[t,rfl]:=r;rfl
 |mM _=>let#[t,rfl]:=r;rfl
 |sx _=>let#[t,rfl]:=r;rfl
 |ref _=>cases r;rfl
 |ty _=>cases r;rfl
def RelV.inj{x y:V}{u:Value}(r:RelV x u)(q:RelV y u):x=y:=aN (r.abs.symm.trans q.abs)
def Vals.inj{xs ys:@&V}{us:@&Value}(h:Vals xs us)(h':Vals ys us):xs=ys:=by
 induction h generalizing ys with
 |nil=>cases h';rfl
 |cons r t ih =>
  cases h' with
  |cons r' t'=>rw[r.inj r',ih t']
section
variable{ys:@&V}
def fZ.of{K:PySem.W.Frag}(h:H a=!.lst xs):fZ K H a xs:=.inl (.inl h)
def Inv.list(I:Inv X pi Z H s)(h:fZ X.K H a xs):∃bh:@&Value,Vals xs bh/\PlainL s.heap a bh.toArray/\-xs<=sizeLine:=by
 rcases h with h|⟨o,bh,n,hk,hc,hd,hs,hz,r⟩
 .let#[z,bh,n,r,e]:=h.ok I.bZ;exact#[bh,r,#[_,n,e,rfl,rfl,rfl],z]
 .refine#[bh.toList,r,#[o,n,I.gN a o hk,hc,hd,by simpa using hs],?_];let e:=-r
  grind
def Inv.tuple(I:Inv X pi Z H s)(h:iO X.K H a xs):∃bh:@&Value,Vals xs bh/\IsTup s.heap a bh.toArray/\-xs<=sizeLine:=by
 rcases h with h|⟨o,bh,n,hk,hc,hs,hz,r⟩
 .let#[z,bh,r,p]:=h.ok I.bZ;exact#[bh,r,p.tup,z]
 .refine#[bh.toList,r,#[o,I.gN a o hk,hc,n,by simpa using hs],?_];let e:=-r;simp only[Array.length_toList] at e;omega
def Inv.Eh(I:Inv X pi Z H s)(h:fZ X.K H a xs)(h':fZ X.K H a ys):xs=ys:=by
 let#[bh,r,#[o,n,e,_,_,d],_]:=I.list h;let#[its',r',#[o',n',e',_,_,d'],_]:=I.list h';rw[e] at e';cases e';rw[d] at d';injection d' with d1 _;have:bh=its':=by simpa using iR Array.toList d1
 subst this;exact r.inj r'
def Inv.a29(I:Inv X pi Z H s)(h:iO X.K H a xs)(h':iO X.K H a ys):xs=ys:=by
 let#[bh,r,#[o,e,_,n,d],_]:=I.tuple h;let#[its',r',#[o',e',_,n',d'],_]:=I.tuple h';rw[e] at e';cases e';rw[d] at d';injection d' with d1 _;have:bh=its':=by simpa using iR Array.toList d1
 subst this;exact r.inj r'
end
noncomputable abbrev Cx.qh(X:Cx)(E:Value->Shared->Prop):Cx:={ X with xe:=E }
def Cx.Ok.qh{X:Cx}(ok:X.Ok)(E:Value->Shared->Prop):(X.qh E).Ok :=
 #[ok.mod,ok.kind,ok.glob,ok.blt,ok.above,ok.inj,ok.has,ok.xj,ok.hd,ok.frames,ok.yD,ok.IT,ok.bs,ok.qO,ok.nY,ok.pU,ok.T1,ok.sv]
def Cx.Ok.Gg(ok:(X.qh E).Ok):X.Ok :=
 #[ok.mod,ok.kind,ok.glob,ok.blt,ok.above,ok.inj,ok.has,ok.xj,ok.hd,ok.frames,ok.yD,ok.IT,ok.bs,ok.qO,ok.nY,ok.pU,ok.T1,ok.sv]
def Inv.qh(I:Inv X pi Z H s)(E:Value->Shared->Prop):Inv (X.qh E) pi Z H s:=#[I.ok.qh E,I.os,I.bare,I.base,I.loc,I.cell,I.free,I.gz,I.pin,I.bZ,I.len,I.sg]
def Inv.Gg(I:Inv (X.qh E) pi Z H s):Inv X pi Z H s:=#[I.ok.Gg,I.os,I.bare,I.base,I.loc,I.cell,I.free,I.gz,I.pin,I.bZ,I.len,I.sg]
section
variable{st:Stmt}{rest:@&Stmt}{t u:TS}
abbrev JO:TS:=λD Z H=>D.nx Z H
abbrev b25(t u:TS):TS:=λD Z H=>t { D with nx:=u D } Z H
def UD:kE X [] JO:=λx x Z H x I h=>uN #[Z,H,I,h]
def WI(h1:PS X st t)(h2:kE X rest u):kE X (st::rest) (b25 t u):=by
 intro pi s Z H D I h;refine wpAny_execs_cons (cI (h1 pi s Z H { D with nx:=u D } I h) λf s1 q=>?_);cases f with
 |next =>
  let#[cB,H',I',q]:=q;exact h2 pi s1 cB H' D I' q
 |ret v=>exact q
 |brk=>exact q
 |cont=>exact q
def UB:PS X (.Pass pos) JO:=λx x Z H x I h=>wpAny_Pass #[Z,H,I,h]
def Inv.quiet(I:Inv X pi Z H s):interactive X.env=false:=by simp[interactive,I.ok.kind]
abbrev Zc(te:TE):TS:=λD Z H=>te Z H λx H1=>D.nx Z H1
def UA(he:PE X e te)(hs:swapsWith e none pos.line X.env=pure false:=by rfl):PS X (.Expr e pos) (Zc te):=by
 intro pi s Z H D I h;exact wpAny_Expr_any (cI (he pi s Z H _ I h) (by rintro v s1 ⟨x,H1,I1,r1,q1⟩;exact #[Z,H1,I1,q1])) I.quiet hs
abbrev b26(te:TE):TS:=λD Z H=>te Z H D.rt
def bI4(he:PE X e te):PS X (.Return (!e) pos) (b26 te):=by
 intro pi s Z H D I h;exact wpAny_Return_some (cI (he pi s Z H _ I h) (by rintro v s1 ⟨x,H1,I1,r1,q1⟩;exact #[x,Z,H1,I1,r1,q1]))
abbrev Zf:TS:=λD x H=>D.rt .bg H
def UC:PS X (.Return none pos) Zf:=λx x Z H x I h=>wpAny_Return_none #[.bg,Z,H,I,rfl,h]
abbrev b30(c:TT)(t u:TS):TS:=λD Z H=>c Z H λb H1=>if b=true then t D Z H1 else u D Z H1
def YJ{a b:@&Stmt}{tc:TT}(hc:PT X c tc)(ha:kE X a t)(hb:kE X b u):PS X (.If c a b pos) (b30 tc t u):=by
 intro pi s Z H D I h;refine wpAny_If (cI (hc pi s Z H _ I h) ?_);rintro d s1 ⟨H1,I1,q1⟩;cases d with
 |true=>exact ha pi s1 Z H1 D I1 q1
 |false=>exact hb pi s1 Z H1 D I1 q1
end
noncomputable abbrev TG:=V->St->Hp->(St->Hp->Prop)->Prop
noncomputable abbrev qU:=@&V->St->Hp->(St->Hp->Prop)->Prop
abbrev PG(X:Cx)(target:Expr)(t:TG):Prop :=
 ∀(pi:@&(Addr×Obj)) (s:Shared) (Z:St) (H:Hp) (v:V) (u:Value) (Q:St->Hp->Prop),Inv X pi Z H s->RelV v u->t v Z H Q ->
  wpAny (model X.prog X.w) X.A (assign target X.env u) (λx s'=>∃cB H',Inv X pi cB H' s'/\Q cB H') X.xe s
abbrev yh(X:Cx)(ts:@&Expr)(t:qU):Prop :=
 ∀(pi:@&(Addr×Obj)) (s:Shared) (Z:St) (H:Hp) (vs:@&V) (us:@&Value) (Q:St->Hp->Prop),Inv X pi Z H s->Vals vs us->t vs Z H Q ->
  wpAny (model X.prog X.w) X.A (assignInOrder ((assignEach ts X.env).map (·.2)) us) (λx s'=>∃cB H',Inv X pi cB H' s'/\Q cB H') X.xe s
noncomputable abbrev Dk:=V->V->V->Hp->(Hp->Prop)->Prop
abbrev Dj(X:Cx)(t:Dk):Prop :=
 ∀(pi:@&(Addr×Obj)) (s:Shared) (Z:St) (H:Hp) (o i v:V) (ov iv u:Value) (Q:Hp->Prop),Inv X pi Z H s->RelV o ov->RelV i iv->RelV v u->t o i v H Q ->
  wpAny (model X.prog X.w) X.A (setItem ov iv u) (λx s'=>∃H',Inv X pi Z H' s'/\Q H') X.xe s
noncomputable abbrev Gy:=V->V->Hp->VK->Prop
abbrev OL(X:Cx)(op:Operator)(t:Gy):Prop :=
 ∀(pi:@&(Addr×Obj)) (s:Shared) (Z:St) (H:Hp) (x y:V) (v u:Value) (Q:VK),Inv X pi Z H s->RelV x v->RelV y u->t x y H Q ->
  wpAny (model X.prog X.w) X.A (inplaceOp op v u) (EP X pi Z Q) X.xe s
abbrev uB(i:Nat):TG:=λv Z H Q=>Q (Z.set i (!v)) H
def ML(hN:X.Nd)(hi:X.N[i]?=!x)(hx:Loc X.env.scope x)(hf:X.fn x=true\/X.env.scope.names.lookup x=!.local:=by first|exact .inl rfl|exact .inr rfl|assumption):PG X (.Name x pos) (uB i):=by
 intro pi s Z H v u Q I r h;exact wpAny_assign_Name (Er I hN hi hx r (λs' I'=>#[_,H,I',h]) hf)
abbrev Kg:qU:=λvs Z H Q=>vs=[]/\Q Z H
abbrev Jq(t:TG)(u:qU):qU:=λvs Z H Q=>∃v r,vs=v::r/\t v Z H λcB H'=>u r cB H' Q
def Uw:yh X [] Kg:=by
 intro pi s Z H vs us Q I r h;let#[e,h]:=h;exact assignInOrder_nil #[Z,H,I,h]
def WC{t:TG}{u:qU}(h1:PG X e t)(h2:yh X es u)(hs:(assignEach (e::es) X.env).map (·.2)=assign e X.env::(assignEach es X.env).map (·.2):=by rfl):yh X (e::es) (Jq t u):=by
 intro pi s Z H vs us Q I r h;let#[v,vr,e1,h]:=h;subst e1;cases r with
 |cons r rr =>
  rw[hs];refine assignInOrder_cons (cI (h1 pi s Z H _ _ _ I r h) λx s1 bo=>?_);let#[jt,H1,I1,q1]:=bo;exact h2 pi s1 jt H1 _ _ Q I1 rr q1
abbrev b72(K:PySem.W.Frag)(n:Nat)(t:qU):TG:=λv Z H Q=>∃a xs,v=.ref a/\iO K H a xs/\-xs=n/\t xs Z H Q
def bJ0{t:qU}{n:Nat}(hc:X.calm=true)(h:yh X es t)(hn:(assignEach es X.env).length=n:=by rfl)(fh:(assignEach es X.env).findIdx? (·.1)=none:=by rfl):PG X (.Tuple es k pos) (b72 X.K n t):=by
 intro pi s Z H v u Q I r hw;let#[a,xs,e1,hq,hl,hw]:=hw;subst e1;cases r;let#[bh,rv,ht,hz]:=I.tuple hq;refine assign_Tuple_tuple (I.ok.hd hc) ht (by simp[hn,<- hl,(-rv)]) fh λh' hx=>?_;let I1:Inv X pi Z H { s with heap:=h' }:=I.kept (t':=s.toks) λb o e=>hx b o (aK (aC e)) e;exact h pi _ Z H xs _ Q I1 (by simpa using rv) hw
abbrev b73(to ti:TE)(t:Dk):TG:=λv Z H Q=>to Z H λo H1=>ti Z H1 λi H2=>t o i v H2 λH3=>Q Z H3
def bJ1{o i:Expr}{to ti:TE}{t:Dk}(ho:PE X o to)(hi:PE X i ti)(hs:Dj X t)(ha:∀ v,assign (.Subscript o i pos) X.env v=(do
   let ov <- holding [v] (eval o X.env)
   let iv <- holding [v,ov] (eval i X.env)
   standAt pos
   holding [v,ov,iv] (setItem ov iv v)
   release [v,ov,iv] []):=by intro _;rfl):PG X (.Subscript o i pos) (b73 to ti t):=by
 intro pi s Z H v u Q I r h;rw[ha];refine aa (bD (cI (ho pi s Z H _ I h) λov s1 bo=>?_));let#[x,H1,I1,r1,q1]:=bo;refine aa (bD (cI (hi pi s1 Z H1 _ I1 q1) λiv s2 bo=>?_));let#[y,H2,I2,r2,q2]:=bo;refine aa (fL (aa (bD (cI (hs pi s2 Z H2 x y v ov iv u _ I2 r1 r2 r q2) ?_))));rintro _ s3 ⟨H3,I3,q3⟩;exact wpAny_release #[Z,H3,I3,q3]
abbrev xY(te:TE)(g:TG):TS:=λD Z H=>te Z H λx H1=>g x Z H1 D.nx
def Ov{g:TG}(he:PE X e te)(hg:PG X tg g)(hs:swapsWithSole [tg] e pos.line X.env=pure false:=by rfl)(hw:swappedStores [tg] e X.env=pure none:=by rfl)(h1:(assignEach [tg] X.env).map (·.2)=[assign tg X.env]:=by rfl):PS X (.Assign [tg] e pos) (xY te g):=by
 intro pi s Z H D I h;refine wpAny_Assign_stores (cI (he pi s Z H _ I h) λv s1 bo=>?_) hs hw;let#[x,H1,I1,r1,q1]:=bo;rw[h1];exact cI (hg pi s1 Z H1 x v _ I1 r1 q1) λy s2 q=>q
def Ow(hN:X.Nd)(hi:X.N[i]?=!x)(hx:Loc X.env.scope x)(he:PE X e te)(hs:swapsWith e (!.Name x pos') pos.line X.env=pure false:=by rfl)(hf:X.fn x=true\/X.env.scope.names.lookup x=!.local:=by first|exact .inl rfl|exact .inr rfl|assumption) :
  PS X (.Assign [.Name x pos'] e pos) (xY te (uB i)):=by
 intro pi s Z H D I h;refine wpAny_Assign_Name (cI (he pi s Z H _ I h) λv s1 bo=>?_) hs;let#[y,H1,I1,r1,q1]:=bo;exact Er I1 hN hi hx r1 (λs2 I2=>#[_,H1,I2,q1]) hf
abbrev b34(i:Nat)(te:TE)(ti:Gy):TS:=λD Z H=>∃x,Z[i]?=!!x/\te Z H λy H1=>ti x y H1 λz H2=>D.nx (Z.set i (!z)) H2
def bI7{op:Operator}{ti:Gy}(hN:X.Nd)(hi:X.N[i]?=!x)(hx:Loc X.env.scope x)(he:PE X e te)(ho:OL X op ti)(hf:X.fn x=true\/X.env.scope.names.lookup x=!.local:=by first|exact .inl rfl|exact .inr rfl|assumption) :
  PS X (.AugAssign (.Name x pos') op e pos) (b34 i te ti):=by
 intro pi s Z H D I h;let#[v,e1,h]:=h;let#[m,hn,hl]:=I.loc;let rh:sW X.env.scope x:=by rcases hx with k|k;exact .inl k;exact .inr (.inl k)
 let#[u,r,l]:=hl i x v hi e1 rh;refine wpAny_AugAssign_Name ?_;let go:wpAny (model X.prog X.w) X.A (eval e X.env) (λw fm=>wpAny (model X.prog X.w) X.A (inplaceOp op u w) (λr fI=>wpAny (model X.prog X.w) X.A (storeName X.env x r) (λt=>SP X pi D .next) X.xe fI) X.xe fm) X.xe s:=by
  refine cI (he pi s Z H _ I h) λw s1 bo=>?_;let#[y,H1,I1,r1,q1]:=bo;refine cI (ho pi s1 Z H1 v y u w _ I1 r r1 q1) λz s2 bo=>?_;let#[zv,H2,I2,r2,q2]:=bo;exact Er I2 hN hi hx r2 (λs3 I3=>#[_,H2,I3,q2]) hf
 rcases l with⟨hk,hm⟩|⟨hk,c,hc,mH⟩
 .exact wpAny_loadName_local I.ok.kind hk hn hm go
 .rcases hk with hk|hk
  .exact wpAny_loadName_cell I.ok.kind hk hc mH go
  .rcases hx with k|k
   .have:X.env.scope.names.lookup x=!.free:=hk;rw[k] at this;cases this
   .have:X.env.scope.names.lookup x=!.free:=hk;rw[k] at this;cases this
abbrev bC5(c:TT)(tb:TS):TS:=λD Z H=>∃W:Nat->St->Hp->Prop,(∃m,W m Z H)/\∀m Z H,W m Z H ->
 c Z H λb H1=>if b=true then ∃N:St->Hp->Prop,(∀cB H',N cB H'->∃m',m'<m/\W m' cB H')/\tb { D with nx:=N,ct:=N,bk:=D.nx } Z H1 else D.nx Z H1
def WH{tc:TT}{tb:TS}(hp:PassesOwn (model X.prog X.w) X.A X.env X.xe)(hc:PT X c tc)(hb:kE X body tb):PS X (.While c body [] pos) (bC5 tc tb):=by
 intro pi s Z H D I h;let#[W,#[m0,w0],turn]:=h;refine wpAny_While (codeAny_whileLoop (λn s'=>∃cB H',Inv X pi cB H' s'/\W n cB H') ?_ m0 #[Z,H,I,w0]);rintro n s1 ⟨jt,H1,I1,w1⟩;refine eM hp (cI (hc pi s1 jt H1 _ I1 (turn n jt H1 w1)) ?_);rintro b s2 ⟨H2,I2,q2⟩;cases b with
 |true =>
  let#[N,hN,q2]:=q2;refine eM hp (cI (hb pi s2 jt H2 _ I2 q2) λf s3 q3=>?_);cases f with
  |next =>
   let#[js,H3,I3,n3]:=q3;let#[m',hm,w3]:=hN js H3 n3;exact#[m',hm,js,H3,I3,w3]
  |cont =>
   let#[js,H3,I3,n3]:=q3;let#[m',hm,w3]:=hN js H3 n3;exact#[m',hm,js,H3,I3,w3]
  |brk=>exact q3
  |ret v=>exact q3
 |false =>
  exact uN #[jt,H2,I2,q2]
structure It where
 go:Nat->Hp->Prop
 qk:Nat->Hp->V->Hp->Prop
 stop:Nat->Hp->Prop
abbrev J5(X:Cx)(pi:@&(Addr×Obj))(H:Hp)(b:Addr):Prop :=
 H b=none/\b≠X.env.locals/\b∉X.fs/\(b∈X.ex\/X.dA.heap.objs.size<=b)/\(∀x c,X.env.cells.lookup x=!c->c≠b)/\∀p∈X.pn++pi,p.1≠b
def Inv.qR(I:Inv X pi Z H s)(hb:s⁻¹<=b)(hn:H' b=none):J5 X pi H' b:=by
 refine#[hn,cE (aD I.lt hb),I.Dv hb,.inr (aG I.sz hb),λx c e z=>?_,λp hp z=>?_]
 .let#[v,q]:=I.cell x c e;exact absurd (aD q.lt (by simp_all)) (cg _)
 .exact absurd (aD (aC (I.pin p hp).1) (by simp_all)) (cg _)
structure Turn(P:Program)(w:World)(K:PySem.W.Frag)(tg:Expr)(J:It)(fp:@&Addr)(it:Addr)(tn:Nat->Heap->Prop):Prop where
 mem:it∈fp
 obj:∀i h,tn i h->∀b∈fp,∃o,h.get? b=!o/\∀v,o.data≠.cell v
 keep:∀i h h',tn i h->(∀b∈fp,∀o,h.get? b=!o->h'.get? b=!o)->tn i h'
 item:∀(X:Cx),X.prog=P->X.w=w->X.K=K->X.calm=true->∀(i:Nat) (pi:@&(Addr×Obj)) (s:Shared) (Z:St) (H:Hp) (E:Value->Shared->Prop),Inv X pi Z H s->(∀b∈fp,J5 X pi H b)->tn i s.heap->J.go i H ->
  wpAny (model P w) X.A (pyNext (.ref it)) (λr s1=>∃ u,r=!u /\
   wpAny (model P w) X.A (letOwnedTupleGo tg (.ref it) u) (λ_ s2=>∃ x H',Inv X pi Z H' s2/\RelV x u/\J.qk i H x H'/\tn (i + 1) s2.heap/\∀ b ∈ fp,H' b=none) E s1) E s
 done:∀(X:Cx),X.prog=P->X.w=w->X.K=K->X.calm=true->∀(i:Nat) (pi:@&(Addr×Obj)) (s:Shared) (Z:St) (H:Hp) (E:Value->Shared->Prop),Inv X pi Z H s->(∀b∈fp,J5 X pi H b)->tn i s.heap->J.stop i H ->
  wpAny (model P w) X.A (pyNext (.ref it)) (λr s1=>r=none/\Inv X pi Z H s1) E s
 self:∀(A:Around) (i:Nat) (s:Shared) (Q:Value->Shared->Prop) (E:Value->Shared->Prop),tn i s.heap->Q (.ref it) s->wpAny (model P w) A (pyIter (.ref it)) Q E s
noncomputable abbrev TI:=St->Hp->(It->Hp->Prop)->Prop
abbrev OM(X:Cx)(pi:@&(Addr×Obj))(Z:St)(tg:Expr)(R:It->Hp->Prop)(vP:Value)(s2:Shared):Prop :=
 ∃(it:Addr) (fp:@&Addr) (tn:Nat->Heap->Prop) (J:It) (H':Hp),vP=.ref it/\Inv X pi Z H' s2/\Turn X.prog X.w X.K tg J fp it tn/\tn 0 s2.heap/\(∀b∈fp,J5 X pi H' b)/\R J H'
abbrev PI(X:Cx)(tg iter:Expr)(wi:TI):Prop :=
 ∀(pi:@&(Addr×Obj)) (s:Shared) (Z:St) (H:Hp) (R:It->Hp->Prop),Inv X pi Z H s->wi Z H R ->
  wpAny (model X.prog X.w) X.A (eval iter X.env) (λv s1=>wpAny (model X.prog X.w) X.A (pyIter v) (OM X pi Z tg R) X.xe s1) X.xe s
def Ag{it:Addr}{o:Obj}{n:String}{vs:Array Value}{Q:Unit->Shared->Prop}(ho:s.heap.get? it=!o)(hc:o.cls=.type n)(hd:o.data=.fields vs)(hn:["enumerate","zip","dict_itemiterator","dict_reverseitemiterator","odict_iterator","itertools.zip_longest","itertools.pairwise"].contains n=false)(hQ:Q Unit.unit s):wpAny M A (letOwnedTupleGo tg (.ref it) u) Q E s:=by
  cases tg<;>first
    |exact ak hQ
    | (cases u <;> first
        |exact ak hQ
        | (refine aa (wpAny_load ho ?_)
           rw[hc,hd];change wpAny M A (if(["enumerate","zip","dict_itemiterator","dict_reverseitemiterator","odict_iterator","itertools.zip_longest","itertools.pairwise"].contains n&&vs[0]?==!rawInt _)=true then _ else _) Q E s;rw[az (by intro h;rw[hn,Bool.false_and] at h;cases h)];exact ak hQ))
abbrev GC(K:PySem.W.Frag)(a:Addr):It :=
 #[λi H=>∃xs x,fZ K H a xs/\xs[i]?=!x,λi H x H'=>H'=H/\∀xs,fZ K H a xs->xs[i]?=!x,λi H=>∃xs,fZ K H a xs/\-xs<=i]
abbrev GB(K:PySem.W.Frag)(a:Addr):It :=
 #[λi H=>∃xs x,iO K H a xs/\xs[i]?=!x,λi H x H'=>H'=H/\∀xs,iO K H a xs->xs[i]?=!x,λi H=>∃xs,iO K H a xs/\-xs<=i]
abbrev yk(lo:Int)(n:Nat):It:=#[λi y=>i<n,λi H x H'=>H'=H/\x=.int (lo+i),λi y=>n<=i]
def a26{K:PySem.W.Frag}(a it:Addr):Turn P w K tg (GC K a) [it] it (λi h=>h.IsListIter it a i) where
 mem:=by simp
 obj:=λi h st b hb=>by
  let e:b=it:=by simpa using hb
  subst e;let#[o,e,c,d]:=st;exact#[o,e,λv z=>by simp_all]
 keep:=λi h h' st k=>st.at λo e=>k it #[_] o e
 item:=by
  intro X hP hw hK hc i pi s Z H E I hf st hg;subst hP hw hK;let#[xs,x,hq,hx]:=hg;let#[bh,rv,p,hz]:=I.list hq;let#[u,hu,ru]:=rv.get hx;let#[f0,f1,f2,f3,f4,f5]:=hf it #[_];refine wpAny_pyNext_list_item st p.isList (x:=u) (by simpa using hu) λh' mn sb=>?_;let I1:Inv X pi Z H { s with heap:=h' }:=I.turned (t':=s.toks) (λb o hb e=>(sb.2 b hb).trans e) f0 f1 f3 f4 f5;let#[o,e,c,d]:=id mn;exact#[u,rfl,Ag (s:={ s with heap:=h' }) e c d ∅ #[x,H,I1,ru,#[rfl,λys hy=>by rw[I.Eh hy hq];exact hx],mn,λb hb=>(hf b hb).1]]
 done:=by
  intro X hP hw hK hc i pi s Z H E I hf st hg;subst hP hw hK;let#[xs,hq,hx]:=hg;let#[bh,rv,p,hz]:=I.list hq;let#[f0,f1,f2,f3,f4,f5]:=hf it #[_];let hl:=-rv;exact wpAny_pyNext_list_end (I.ok.hd hc) st p.isList (by simp;omega) λh' eb=>#[rfl,I.turned (t':=s.toks) (λb o hb e=>eb b o hb e) f0 f1 f3 f4 f5]
 self:=λy y y y y st h=>wpAny_pyIter_listiter st h
def aU0{K:PySem.W.Frag}(a it:Addr):Turn P w K tg (GB K a) [it] it (λi h=>h.IsTupleIter it a i) where
 mem:=by simp
 obj:=λi h st b hb=>by
  let e:b=it:=by simpa using hb
  subst e;let#[o,e,c,d]:=st;exact#[o,e,λv z=>by simp_all]
 keep:=λi h h' st k=>st.at λo e=>k it #[_] o e
 item:=by
  intro X hP hw hK hc i pi s Z H E I hf st hg;subst hP hw hK;let#[xs,x,hq,hx]:=hg;let#[bh,rv,p,hz]:=I.tuple hq;let#[u,hu,ru]:=rv.get hx;let#[f0,f1,f2,f3,f4,f5]:=hf it #[_];refine wpAny_pyNext_tuple_item st (show s.heap.IsTuple a bh.toArray from p) (x:=u) (by simpa using hu) λh' mn sb=>?_;let I1:Inv X pi Z H { s with heap:=h' }:=I.turned (t':=s.toks) (λb o hb e=>(sb.2 b hb).trans e) f0 f1 f3 f4 f5;let#[o,e,c,d]:=id mn;exact#[u,rfl,Ag (s:={ s with heap:=h' }) e c d ∅ #[x,H,I1,ru,#[rfl,λys hy=>by rw[I.a29 hy hq];exact hx],mn,λb hb=>(hf b hb).1]]
 done:=by
  intro X hP hw hK hc i pi s Z H E I hf st hg;subst hP hw hK;let#[xs,hq,hx]:=hg;let#[bh,rv,p,hz]:=I.tuple hq;let#[f0,f1,f2,f3,f4,f5]:=hf it #[_];let hl:=-rv;exact wpAny_pyNext_tuple_end (I.ok.hd hc) st (show s.heap.IsTuple a bh.toArray from p) (by simp;omega) λh' eb=>#[rfl,I.turned (t':=s.toks) (λb o hb e=>eb b o hb e) f0 f1 f3 f4 f5]
 self:=λy y y y y st h=>wpAny_pyIter_tupleiter st h
def aU2{K:PySem.W.Frag}(it:Addr)(lo:Int)(n:Nat):Turn P w K tg (yk lo n) [it] it (λi h=>IsRangeIter h it (lo+(i:Nat)*1) ((n:Int)-(i:Nat)) 1) where
 mem:=by simp
 obj:=λi h st b hb=>by
  let e:b=it:=by simpa using hb
  subst e;exact #[_,st,λv z=>by
   let z':Data.fields _=Data.cell v:=z;cases z']
 keep:=λi h h' st k=>k it #[_] _ st
 item:=by
  intro X hP hw hK hc i pi s Z H E I hf st hg;subst hP hw hK;let#[f0,f1,f2,f3,f4,f5]:=hf it #[_];let W:=Walks.range (prog:=X.prog) (w:=X.w) (I.ok.hd hc) it lo 1 n;refine W.item i s _ _ hg st λv h' tk hv mn kk=>?_;let#[t,rfl]:=hv;let I1:Inv X pi Z H { s with heap:=h',toks:=tk }:=I.turned (λb o hb e=>kk b o (by simpa using hb) e) f0 f1 f3 f4 f5;refine#[_,rfl,Ag (s:={ s with heap:=h',toks:=tk }) (n:="range_iterator") mn rfl rfl ∅ #[.int (lo+i),H,I1,#[t,?_],#[rfl,rfl],mn,λb hb=>(hf b hb).1]];rw[Int.mul_one]
 done:=by
  intro X hP hw hK hc i pi s Z H E I hf st hg;subst hP hw hK;let#[f0,f1,f2,f3,f4,f5]:=hf it #[_];exact wpAny_pyNext_range_end (I.ok.hd hc) st (by have:n<=i:=hg;omega) λh' eb=>#[rfl,I.turned (t':=s.toks) (λb o hb e=>eb b o hb e) f0 f1 f3 f4 f5]
 self:=λx x x x x st h=>wpAny_pyIter_rangeiter st h
def NB{R:It->Hp->Prop}{lo hi:Int}{t u v:Tok}{tk:Nat}(I:Inv X pi Z H s)(h1:-(2 ^ 62)<=lo)(h2:lo<2 ^ 62)(h3:-(2 ^ 62)<=hi)(h4:hi<2 ^ 62)(q:R (yk lo (hi-lo).toNat) H):wpAny (model X.prog X.w) X.A (pyIter (.ref s⁻¹)) (OM X pi Z tg R) E { s with heap:=s.heap.push { cls:=.type "range",data:=.fields (List.toArray [.int lo t,.int hi u,.int 1 v]) },toks:=tk }:=by
 refine wpAny_pyIter_range (IsRange.new ..) (small_one h1 h2 h3 h4) ?_;let I1:Inv X pi Z H { s with heap:=s.heap.push { cls:=.type "range",data:=.fields (List.toArray [.int lo t,.int hi u,.int 1 v]) },toks:=tk }:=I.kept λb o e=>ao _ e;refine #[(s.heap.push { cls:=.type "range",data:=.fields (List.toArray [.int lo t,.int hi u,.int 1 v]) }).objs.size,[(s.heap.push { cls:=.type "range",data:=.fields (List.toArray [.int lo t,.int hi u,.int 1 v]) }).objs.size],_,_,H,rfl,
  I1.kept (t':=tk) λb o e=>ao _ e,aU2 _ lo (hi - lo).toNat,?_,λb hb=>?_,q]
 .let e1:lo+((0:Nat):Int)*1=lo:=by simp
  let e2:(((hi-lo).toNat:Nat):Int)-((0:Nat):Int)=Builtin.Range.rangeSize lo hi 1:=by rw[rangeSize_one];split<;>omega
  rw[e1,e2];exact aE _ rfl
 .let e:b=(s.heap.push { cls:=.type "range",data:=.fields (List.toArray [.int lo t,.int hi u,.int 1 v]) }).objs.size:=by simpa using hb
  subst e;exact I1.qR (aw _) (I1.bZ.fresh (aw _))
abbrev XU(ta:TA):TI:=λZ H R=>ta Z H λvs H1=>∃j:Int,vs=[.int j]/\-(2 ^ 62)<=j/\j<2 ^ 62/\R (yk 0 j.toNat) H1
abbrev XW(ta:TA):TI:=λZ H R=>ta Z H λvs H1=>∃i j:Int,vs=[.int i,.int j]/\(-(2 ^ 62)<=i/\i<2 ^ 62/\-(2 ^ 62)<=j/\j<2 ^ 62)/\R (yk i (j-i).toNat) H1
def a51{a:Expr}{ta:TA}(hg:Gl X "range")(hm:X.mg "range"=none)(ha:PA X [a] ta)(hs:starEach [a] X.env=[(false,eval a X.env)]:=by rfl):PI X tg (.Call (.Name "range" p) [a] [] pos) (XU ta):=by
 intro pi s Z H R I h;refine Call_ (O4 I hg hm boot_range (bT (cI (ha pos pi s Z H _ I h) λus s1 bo=>?_) hs rfl));let#[vs,H1,I1,r1,q1]:=bo;let#[j,e,q1,q2,q]:=q1;subst e;cases r1 with
 |cons r rr =>
  cases rr;let#[t,rfl]:=r;exact call_range_1 (NB I1 () () q1 q2 (by simpa using q))
def a50{a b:Expr}{ta:TA}(hg:Gl X "range")(hm:X.mg "range"=none)(ha:PA X [a,b] ta)(hs:starEach [a,b] X.env=[(false,eval a X.env),(false,eval b X.env)]:=by rfl)(jN:starEach [b] X.env=[(false,eval b X.env)]:=by rfl) :
  PI X tg (.Call (.Name "range" p) [a,b] [] pos) (XW ta):=by
 intro pi s Z H R I h;refine Call_ (O4 I hg hm boot_range (bT (cI (ha pos pi s Z H _ I h) λus s1 bo=>?_) (by rw[hs,jN]) (by rw[jN];rfl)));let#[vs,H1,I1,r1,q1]:=bo;let#[i,j,e,#[q1,q2,q3,q4],q]:=q1;subst e;cases r1 with
 |cons r rr =>
  cases rr with
  |cons r' rr =>
   cases rr;let#[t,rfl]:=r;let#[t',rfl]:=r';exact call_range_2 (NB I1 q1 q2 q3 q4 q)
abbrev b31(wi:TI)(g:TG)(tb:TS):TS:=λD Z H=>wi Z H λJ H1=>∃W:Nat->Nat->St->Hp->Prop,(∃m,W 0 m Z H1)/\∀i m Z H,W i m Z H ->
 (J.stop i H/\D.nx Z H)\/(J.go i H/\∃N:St->Hp->Prop,(∀cB H',N cB H'->∃m',m'<m/\W (i+1) m' cB H')/\∀x H',J.qk i H x H'->g x Z H' λcQ H2=>tb { D with nx:=N,ct:=N,bk:=D.nx } cQ H2)
abbrev xC(fp:@&Addr)(h:Heap):@&(Addr×Obj):=fp.filterMap λb=>(h.get? b).map λo=>(b,o)
def Fd{o:Obj}(hb:b∈fp)(e:h.get? b=!o):(b,o)∈xC fp h:=fB.mpr #[b,hb,by rw[e];rfl]
def a66{p:Addr×Obj}(hp:p∈xC fp h):p.1∈fp/\h.get? p.1=!p.2:=by
 let#[b,hb,e]:=fB.mp hp;cases q:h.get? b with
 |none=>simp_all
 |some o =>
  rw[q] at e;let e':(b,o)=p:=aN e;subst e';exact#[hb,q]
def Inv.pinned(I:Inv X pi Z H s)(hf:∀b∈fp,J5 X pi H b)(ho:∀b∈fp,∃o,s.heap.get? b=!o/\∀v,o.data≠.cell v):Inv X (pi++xC fp s.heap) Z H s :=
 I.xN λp hp=>(aW.mp hp).elim (λz=>I.pin p (bS _ z)) λz=>by
  let#[hb,e]:=a66 z;let#[f0,f1,f2,_]:=hf p.1 hb;let#[o,e',d]:=ho p.1 hb;rw[e] at e';cases e';exact#[e,f0,f1,f2,d]
def Inv.Es{pl:@&(Addr×Obj)}(I:Inv X (pi++pl) Z H s):Inv X pi Z H s:=I.xN λp hp=>I.pin p (bS _ (gj _ hp))
def bI5{iter:Expr}{wi:TI}{g:TG}{tb:TS}(hp:PassesOwn (model X.prog X.w) X.A X.env X.xe)(hc:X.calm=true)(hi:PI X tg iter wi)(hg:PG X tg g)(hb:kE X body tb)(hs:∀x,foldedSetIterable iter X.env x=pure x:=by intro _;rfl):PS X (.For tg iter body [] pos) (b31 wi g tb):=by
 intro pi s Z H D I h;refine wpAny_For (cI (hi pi s Z H _ I h) λv s1 h1=>cI h1 λvP s2 h2=>?_) hs;let#[it,fp,tn,J,H2,e,I2,T,kW,f2,W,#[m0,w0],turn]:=h2;subst e;let rn:∀{H':Hp},(∀b∈fp,H' b=none)->∀b∈fp,J5 X pi H' b:=λhn b hb=>#[hn b hb,(f2 b hb).2]
 refine codeAny_forLoop_any (λn s'=>∃i cB H',Inv X pi cB H' s'/\tn i s'.heap/\(∀b∈fp,H' b=none)/\W i n cB H') ?_ m0 #[0,Z,H2,I2,kW,λb hb=>(f2 b hb).1,w0];rintro n s3 ⟨i,js,H3,I3,ve,wU,w3⟩;rcases turn i n js H3 w3 with⟨stop,qn⟩|⟨go,N,hN,step⟩
 .refine eM hp (cI (T.done X rfl rfl rfl hc i pi s3 js H3 X.xe I3 (rn wU) ve stop) ?_);rintro r s4 ⟨hr,I4⟩;subst hr;exact uN #[js,H3,I4,qn]
 .refine eM hp (cI (T.item X rfl rfl rfl hc i pi s3 js H3 X.xe I3 (rn wU) ve go) ?_);rintro r s4 ⟨u,hr,h4⟩;subst hr;refine eM hp (cI h4 λy s5 bo=>?_);let#[x,H5,I5,r5,y5,rp,CJ]:=bo;let GF:=I5.pinned (rn CJ) (T.obj _ _ rp);refine eM hp (cI (hg _ s5 js H5 x u _ GF r5 (step x H5 y5)) λy s6 bo=>?_);let#[rf,H6,I6,q6]:=bo;refine eM hp (cI (hb _ s6 rf H6 _ I6 q6) λf s7 q7=>?_);let again:∀{nQ:St} {H7:Hp},Inv X (pi++xC fp s5.heap) nQ H7 s7->N nQ H7->∃m,m<n/\∃i cB H',Inv X pi cB H' s7/\tn i s7.heap/\(∀b∈fp,H' b=none)/\W i m cB H':=λ{nQ H7} I7 n7=>by
   let#[m',hm,w7]:=hN nQ H7 n7;refine#[m',hm,i+1,nQ,H7,I7.Es,T.keep _ _ _ rp λb hb o e=>(I7.pin (b,o) (bS _ (bS _ (Fd hb e)))).1,λb hb=>?_,w7];let#[o,e,d]:=T.obj _ _ rp b hb;exact(I7.pin (b,o) (bS _ (bS _ (Fd hb e)))).2.1
  cases f with
  |next=>let#[nQ,H7,I7,n7]:=q7;exact again I7 n7
  |cont=>let#[nQ,H7,I7,n7]:=q7;exact again I7 n7
  |brk=>let#[nQ,H7,I7,q7]:=q7;exact#[nQ,H7,I7.Es,q7]
  |ret v=>let#[x7,nQ,H7,I7,r7,q7]:=q7;exact#[x7,nQ,H7,I7.Es,r7,q7]
noncomputable abbrev R2:=V->V->Hp->VK->Prop
abbrev gf(X:Cx)(f:Value->Value->Sem Value)(r:R2):Prop :=
 ∀(pi:@&(Addr×Obj)) (s:Shared) (Z:St) (H:Hp) (x y:V) (v u:Value) (Q:VK),Inv X pi Z H s->RelV x v->RelV y u->r x y H Q ->
  wpAny (model X.prog X.w) X.A (f v u) (EP X pi Z Q) X.xe s
abbrev Ao(X:Cx)(f:Value->Sem Value)(r:V->Hp->VK->Prop):Prop :=
 ∀(pi:@&(Addr×Obj)) (s:Shared) (Z:St) (H:Hp) (x:V) (v:Value) (Q:VK),Inv X pi Z H s->RelV x v->r x H Q ->
  wpAny (model X.prog X.w) X.A (f v) (EP X pi Z Q) X.xe s
abbrev m9(X:Cx)(f:Value)(r:@&V->Hp->VK->Prop):Prop :=
 ∀(pi:@&(Addr×Obj)) (s:Shared) (Z:St) (H:Hp) (xs:@&V) (us:@&Value) (Q:VK),Inv X pi Z H s->Vals xs us->r xs H Q ->
  wpAny (model X.prog X.w) X.A (call f us) (EP X pi Z Q) X.xe s
abbrev b88(X:Cx)(r:V->Hp->(Bool->Hp->Prop)->Prop):Prop :=
 ∀(pi:@&(Addr×Obj)) (s:Shared) (Z:St) (H:Hp) (x:V) (v:Value) (Q:Bool->Hp->Prop),Inv X pi Z H s->RelV x v->r x H Q ->
  wpAny (model X.prog X.w) X.A (truthy v) (TP X pi Z Q) X.xe s
abbrev tu(r:R2)(ta tb:TE):TE:=λZ H Q=>ta Z H λx H1=>tb Z H1 λy H2=>r x y H2 Q
abbrev Pn(r:V->Hp->VK->Prop)(ta:TE):TE:=λZ H Q=>ta Z H λx H1=>r x H1 Q
abbrev rI(C:Int->Int->Prop)(g:Int->Int->V):R2:=λx y H Q=>∃i j,x=.int i/\y=.int j/\C i j/\Q (g i j) H
abbrev nG(g:Int->Int->V):R2:=λx y H Q=>∃i j,x=.int i/\y=.int j/\Q (g i j) H
abbrev rU(g:Int->V):V->Hp->VK->Prop:=λx H Q=>∃i,x=.int i/\Q (g i) H
section
variable{a b:Expr}
def Dp(ha:PE X a ta)(hb:PE X b tb){R:V->V->Hp->Prop}(I:Inv X pi Z H s)(h:ta Z H λx H1=>tb Z H1 λy H2=>R x y H2){f:Value->Value->Sem Value}(hf:∀v u s2 x y H2,Inv X pi Z H2 s2->RelV x v->RelV y u->R x y H2->wpAny (model X.prog X.w) X.A (f v u) Q X.xe s2) :
  wpAny (model X.prog X.w) X.A (eval a X.env) (λv bH=>wpAny (model X.prog X.w) X.A (eval b X.env) (λu fm=>wpAny (model X.prog X.w) X.A (f v u) Q X.xe fm) X.xe bH) X.xe s:=by
 refine cI (ha pi s Z H _ I h) λv s1 bo=>?_;let#[x,H1,I1,r1,q1]:=bo;refine cI (hb pi s1 Z H1 _ I1 q1) λu s2 bo=>?_;let#[y,H2,I2,r2,q2]:=bo;exact hf v u s2 x y H2 I2 r1 r2 q2
def JC{op:Operator}(ho:gf X (binaryOp op) r)(ha:PE X a ta)(hb:PE X b tb):PE X (.BinOp a op b pos) (tu r ta tb):=by
 intro pi s Z H Q I h;exact wpAny_BinOp (Dp ha hb I h λv u s2 x y H2 I2 rx ry q=>ho pi s2 Z H2 x y v u Q I2 rx ry q)
def YH{op:UnaryOp}{r:V->Hp->VK->Prop}(ho:Ao X (unaryOp op) r)(ha:PE X a ta):PE X (.UnaryOp op a pos) (Pn r ta):=by
 intro pi s Z H Q I h;exact UnaryOp_ (cI (ha pi s Z H _ I h) (by rintro v s1 ⟨x,H1,I1,r1,q1⟩;exact ho pi s1 Z H1 x v Q I1 r1 q1))
def vn{f:Value->Value->Sem Value}{C:Int->Int->Prop}{g:Int->Int->Int}(rule:∀(i j:Int) (t u:Tok) (s:Shared) (Q:Value->Shared->Prop) (E:Value->Shared->Prop),C i j->Q (.int (g i j) s.toks) { s with toks:=s.toks+1 }->wpAny (model X.prog X.w) X.A (f (.int i t) (.int j u)) Q E s) :
  gf X f (rI C λi j=>.int (g i j)):=by
 intro pi s Z H x y v u Q I rx ry h;let#[i,j,rfl,rfl,hc,q]:=h;let#[t,rfl]:=rx;let#[t',rfl]:=ry;exact rule i j t t' s _ _ hc #[.int (g i j),H,I.tok _,#[_,rfl],q]
def uu{f:Value->Value->Sem Value}{g:Int->Int->Int}(rule:∀(i j:Int) (t u:Tok) (s:Shared) (Q:Value->Shared->Prop) (E:Value->Shared->Prop),Q (.int (g i j) s.toks) { s with toks:=s.toks+1 }->wpAny (model X.prog X.w) X.A (f (.int i t) (.int j u)) Q E s) :
  gf X f (nG λi j=>.int (g i j)):=by
 intro pi s Z H x y v u Q I rx ry h;let#[i,j,rfl,rfl,q]:=h;let#[t,rfl]:=rx;let#[t',rfl]:=ry;exact rule i j t t' s _ _ #[.int (g i j),H,I.tok _,#[_,rfl],q]
def zY{f:Value->Value->Sem Value}{g:Int->Int->Bool}(rule:∀(i j:Int) (t u:Tok) (s:Shared) (Q:Value->Shared->Prop) (E:Value->Shared->Prop),Q (.bool (g i j)) s->wpAny (model X.prog X.w) X.A (f (.int i t) (.int j u)) Q E s) :
  gf X f (nG λi j=>.bl (g i j)):=by
 intro pi s Z H x y v u Q I rx ry h;let#[i,j,rfl,rfl,q]:=h;let#[t,rfl]:=rx;let#[t',rfl]:=ry;exact rule i j t t' s _ _ #[.bl (g i j),H,I,rfl,q]
abbrev Dg(i j:Int):Prop:=0<j/\j<1073741824
abbrev pY(i j:Int):Prop:=0<=j/\j<=1000000/\i.natAbs<2 ^ 64
abbrev sI(i j:Int):Prop:=(-(2 ^ 64)<i/\i<2 ^ 64)\/(-(2 ^ 64)<j/\j<2 ^ 64)
def sI.ok{i j:Int}(h:sI i j):IntMulOk i j:=by
 rcases h with⟨h1,h2⟩|⟨h1,h2⟩
 .exact .of_left (intBits_le_64 h1 h2)
 .exact .of_right (intBits_le_64 h1 h2)
def bL4:gf X (binaryOp .Add) (nG λi j=>.int (i+j)):=uu λx x x x x x x q=>add_int q
def bK4:gf X (binaryOp .Sub) (nG λi j=>.int (i-j)):=uu λx x x x x x x q=>sub_int q
def bK8:gf X (binaryOp .Mult) (rI sI λi j=>.int (i*j)):=vn λx x x x x x x hc q=>mul_int q hc.ok
def Uk:gf X (binaryOp .FloorDiv) (rI Dg λi j=>.int (i / j)):=vn λi j x x x x x hc q=>by
 let h1:(0:Int)<j:=hc.1;let h2:j<1073741824:=hc.2;exact floordiv_int () (by rw[Int.fdiv_eq_ediv_of_nonneg i ()];exact q) (.inl (PyProof.noPylong_small ()))
def bK9:gf X (binaryOp .Mod) (rI (λx j=>0<j) λi j=>.int (i % j)):=vn λi j x x x x x hc q=>by
 exact mod_int' () (by rw[Int.fmod_eq_emod_of_nonneg i ()];exact q)
def bK7:gf X (binaryOp .Pow) (rI pY λi j=>.int (i ^ j.toNat)):=vn λx x x x x x x hc q=>pow_int_small hc.1 hc.2.1 hc.2.2 q
def bK5:gf X (binaryOp .LShift) (rI pY λi j=>.int (i*2 ^ j.toNat)):=vn λx x x x x x x hc q=>lshift_int_small hc.1 hc.2.1 hc.2.2 q
def bL3:gf X (binaryOp .BitAnd) (nG λi j=>.int (Builtin.bitAnd i j)):=uu λx x x x x x x q=>and_int q
def Yz:gf X (binaryOp .BitOr) (nG λi j=>.int (Builtin.bitOr i j)):=uu λx x x x x x x q=>or_int q
def TH:gf X (inplaceOp .Add) (nG λi j=>.int (i+j)):=uu λx x x x x x x q=>iadd_int q
def TJ:gf X (inplaceOp .Sub) (nG λi j=>.int (i-j)):=uu λx x x x x x x q=>isub_int q
def Pl{f:Value->Sem Value}{g:Int->Int}(rule:∀(i:Int) (t:Tok) (s:Shared) (Q:Value->Shared->Prop) (E:Value->Shared->Prop),Q (.int (g i) s.toks) { s with toks:=s.toks+1 }->wpAny (model X.prog X.w) X.A (f (.int i t)) Q E s) :
  Ao X f (rU λi=>.int (g i)):=by
 intro pi s Z H x v Q I rx h;let#[i,rfl,q]:=h;let#[t,rfl]:=rx;exact rule i t s _ _ #[.int (g i),H,I.tok _,#[_,rfl],q]
def bB7:Ao X (unaryOp .USub) (rU λi=>.int (-(i))):=Pl λx x x x x q=>neg_int q
end
abbrev Ko:V->V->Bool
 |.bg,.bg=>true|.bg,.int _=>true|.int _,.bg=>true|.bg,.bl _=>true|.bl _,.bg=>true|.bg,.str _=>true|.str _,.bg=>true
 |.int _,.int _=>true|.bl _,.bl _=>true|.str _,.str _=>true|.mM _,.mM _=>true
 |.int _,.str _=>true|.str _,.int _=>true|.bl _,.str _=>true|.str _,.bl _=>true
 |_,_=>false
abbrev PK:R2:=λx y H Q=>Ko x y=true/\Q (.bl (decide (x=y))) H
abbrev PJ:R2:=λx y H Q=>Ko x y=true/\Q (.bl (~~~decide (x=y))) H
def Mo{i j:Int}:decide (V.int i=V.int j)=(i==j):=by
 rw[aZ];simp
def zp{i j:Bool}:decide (V.bl i=V.bl j)=(i==j):=by
 rw[aZ];simp
def Mp{i j:Str}:decide (V.str i=V.str j)=(i==j):=by
 rw[aZ];simp
def Mn{i j:Array UInt8}:decide (V.mM i=V.mM j)=(i.toList==j.toList):=by
 rw[aZ];simp
section
variable{a b:Expr}{tc:TE}
def j3{Q:VK}{k k':Bool}(I:Inv X pi Z H s)(q:Q (.bl k) H)(e:k=k'):EP X pi Z Q (.bool k') s:=by
 subst e;exact#[.bl k,H,I,rfl,q]
def Fp:gf X (compareOp .Eq) PK:=by
 intro pi s Z H x y v u Q I rx ry h;let#[hs,q]:=h;cases x with
 |bg =>
  cases rx;cases y with
  |bg=>cases ry;exact PySem.EqNone.eq_none_none (j3 I q #[_])
  |bl j=>cases ry;exact PySem.EqNone.eq_none_bool (j3 I q #[_])
  |int j=>let#[t',rfl]:=ry;exact PySem.EqNone.eq_none_int (j3 I q #[_])
  |str j=>let#[t',rfl]:=ry;exact PySem.EqNone.eq_none_str (j3 I q #[_])
  |_=>exact absurd (show false=true from hs) Bool.false_ne_true
 |bl i =>
  cases rx;cases y with
  |bg=>cases ry;exact PySem.EqNone.eq_bool_none (j3 I q #[_])
  |bl j=>cases ry;exact eq_bool (j3 I q zp)
  |str j=>let#[t',rfl]:=ry;exact PySem.EqMixed.eq_bool_str (j3 I q #[_])
  |_=>exact absurd (show false=true from hs) Bool.false_ne_true
 |int i =>
  let#[t,rfl]:=rx;cases y with
  |bg=>cases ry;exact PySem.EqNone.eq_int_none (j3 I q #[_])
  |int j=>let#[t',rfl]:=ry;exact eq_int (j3 I q Mo)
  |str j=>let#[t',rfl]:=ry;exact PySem.EqMixed.eq_int_str (j3 I q #[_])
  |_=>exact absurd (show false=true from hs) Bool.false_ne_true
 |str i =>
  let#[t,rfl]:=rx;cases y with
  |bg=>cases ry;exact PySem.EqNone.eq_str_none (j3 I q #[_])
  |bl j=>cases ry;exact PySem.EqMixed.eq_str_bool (j3 I q #[_])
  |int j=>let#[t',rfl]:=ry;exact PySem.EqMixed.eq_str_int (j3 I q #[_])
  |str j=>let#[t',rfl]:=ry;exact eq_str (j3 I q Mp)
  |_=>exact absurd (show false=true from hs) Bool.false_ne_true
 |mM i =>
  let#[t,rfl]:=rx;cases y with
  |mM j=>let#[t',rfl]:=ry;exact PySem.W.eq_bytes (j3 I q Mn)
  |_=>exact absurd (show false=true from hs) Bool.false_ne_true
 |_=>cases y<;>exact absurd (show false=true from hs) bY
def Fq:gf X (compareOp .NotEq) PJ:=by
 intro pi s Z H x y v u Q I rx ry h;let#[hs,q]:=h;cases x with
 |bg =>
  cases rx;cases y with
  |bg=>cases ry;exact PySem.EqNone.ne_none_none (j3 I q #[_])
  |bl j=>cases ry;exact PySem.EqNone.ne_none_bool (j3 I q #[_])
  |int j=>let#[t',rfl]:=ry;exact PySem.EqNone.ne_none_int (j3 I q #[_])
  |str j=>let#[t',rfl]:=ry;exact PySem.EqNone.ne_none_str (j3 I q #[_])
  |_=>exact absurd (show false=true from hs) Bool.false_ne_true
 |bl i =>
  cases rx;cases y with
  |bg=>cases ry;exact PySem.EqNone.ne_bool_none (j3 I q #[_])
  |bl j=>cases ry;exact ne_bool (j3 I q (congrArg not zp))
  |str j=>let#[t',rfl]:=ry;exact PySem.EqMixed.ne_bool_str (j3 I q #[_])
  |_=>exact absurd (show false=true from hs) Bool.false_ne_true
 |int i =>
  let#[t,rfl]:=rx;cases y with
  |bg=>cases ry;exact PySem.EqNone.ne_int_none (j3 I q #[_])
  |int j=>let#[t',rfl]:=ry;exact ne_int (j3 I q (congrArg not Mo))
  |str j=>let#[t',rfl]:=ry;exact PySem.EqMixed.ne_int_str (j3 I q #[_])
  |_=>exact absurd (show false=true from hs) Bool.false_ne_true
 |str i =>
  let#[t,rfl]:=rx;cases y with
  |bg=>cases ry;exact PySem.EqNone.ne_str_none (j3 I q #[_])
  |bl j=>cases ry;exact PySem.EqMixed.ne_str_bool (j3 I q #[_])
  |int j=>let#[t',rfl]:=ry;exact PySem.EqMixed.ne_str_int (j3 I q #[_])
  |str j=>let#[t',rfl]:=ry;exact ne_str (j3 I q (congrArg not Mp))
  |_=>exact absurd (show false=true from hs) Bool.false_ne_true
 |mM i =>
  let#[t,rfl]:=rx;cases y with
  |mM j=>let#[t',rfl]:=ry;exact PySem.W.ne_bytes (j3 I q (congrArg not Mn))
  |_=>exact absurd (show false=true from hs) Bool.false_ne_true
 |_=>cases y<;>exact absurd (show false=true from hs) bY
def Yy:gf X (compareOp .Lt) (nG λi j=>.bl (decide (i<j))):=zY λx x x x x x x q=>lt_int q
def Yx:gf X (compareOp .LtE) (nG λi j=>.bl (decide (i<=j))):=zY λx x x x x x x q=>le_int q
def Yw:gf X (compareOp .Gt) (nG λi j=>.bl (decide (j<i))):=zY λx x x x x x x q=>gt_int q
def Yv:gf X (compareOp .GtE) (nG λi j=>.bl (decide (j<=i))):=zY λx x x x x x x q=>ge_int q
def bL0:gf X (compareOp .Is) (λx y H Q=>y=.bg/\Q (.bl (decide (x=.bg))) H):=by
 intro pi s Z H x y v u Q I rx ry h;let#[rfl,q]:=h;cases ry;refine is_none_gen (j3 I q ?_);cases x<;>first
  |(cases rx;rfl)
  |(let#[t,rfl]:=rx;rfl)
def Ul:gf X (compareOp .IsNot) (λx y H Q=>y=.bg/\Q (.bl (~~~decide (x=.bg))) H):=by
 intro pi s Z H x y v u Q I rx ry h;let#[rfl,q]:=h;cases ry;refine isnot_none_gen (j3 I q ?_);cases x<;>first
  |(cases rx;rfl)
  |(let#[t,rfl]:=rx;rfl)
def MJ(ho:gf X (compareOp op) r)(ha:PE X a ta)(hb:PE X b tb)(hm:behindInMarks op b=false):PE X (.Compare a [op] [b] pos) (tu r ta tb):=by
 intro pi s Z H Q I h;exact wpAny_Compare1 (Dp ha hb I h λv u s2 x y H2 I2 rx ry q=>ho pi s2 Z H2 x y v u Q I2 rx ry q) hm
abbrev Fy(t:TE):TT:=λZ H Q=>t Z H λx H'=>∃k,x=.bl k/\Q k H'
def MN(ho:gf X (compareOp op) r)(ha:PE X a ta)(hb:PE X b tb)(hm:behindInMarks op b=false):PT X (.Compare a [op] [b] pos) (Fy (tu r ta tb)):=by
 intro pi s Z H Q I h;refine wpAny_isTrue_Compare1 (cI (ha pi s Z H _ I h) λv s1 ⟨x,H1,I1,r1,q1⟩=>cI (hb pi s1 Z H1 _ I1 q1) λu s2 ⟨y,H2,I2,r2,q2⟩ =>
  cI (ho pi s2 Z H2 x y v u _ I2 r1 r2 q2) λc s3 ⟨z,H3,I3,r3,k,e,q3⟩=>?_) hm
 subst e;cases r3;exact cG #[H3,I3,q3]
abbrev Gd(r r':R2)(ta tb tc:TE):TE:=λZ H Q=>ta Z H λx H1=>tb Z H1 λy H2=>r x y H2 λz H3=>∃k,z=.bl k /\
 (if k=true then tc Z H3 λw' H4=>r' y w' H4 Q else Q (.bl false) H3)
def Wt{iW:CmpOp}{r':R2}(ho:gf X (compareOp op) r)(lx:gf X (compareOp iW) r')(ha:PE X a ta)(hb:PE X b tb)(hc:PE X c tc)(hm:lastMarks [op,iW] [b,c]=false:=by with_unfolding_all rfl):PE X (.Compare a [op,iW] [b,c] pos) (Gd r r' ta tb tc):=by
 intro pi s Z H Q I h;refine Compare_chain (cI (ha pi s Z H _ I h) λv s1 ⟨x,H1,I1,r1,q1⟩=>chain_link (cI (hb pi s1 Z H1 _ I1 q1) λu s2 ⟨y,H2,I2,r2,q2⟩ =>
  cI (ho pi s2 Z H2 x y v u _ I2 r1 r2 q2) λd s3 ⟨z,H3,I3,r3,k,e,q3⟩=>?_)) hm
 subst e;cases r3;refine cG ?_;cases k with
 |false=>exact ite_ff #[.bl false,H3,I3,rfl,q3]
 |true=>exact ite_tt (chain_last (cI (hc pi s3 Z H3 _ I3 q3) (by rintro w' s4 ⟨z',H4,I4,r4,q4⟩;exact lx pi s4 Z H4 y z' u w' Q I4 r2 r4 q4)))
def WJ{iW:CmpOp}{r':R2}(ho:gf X (compareOp op) r)(lx:gf X (compareOp iW) r')(ha:PE X a ta)(hb:PE X b tb)(hc:PE X c tc)(hm:lastMarks [op,iW] [b,c]=false:=by with_unfolding_all rfl):PT X (.Compare a [op,iW] [b,c] pos) (Fy (Gd r r' ta tb tc)):=by
 intro pi s Z H Q I h;refine isTrue_chain (cI (ha pi s Z H _ I h) λv s1 ⟨x,H1,I1,r1,q1⟩=>test_link (cI (hb pi s1 Z H1 _ I1 q1) λu s2 ⟨y,H2,I2,r2,q2⟩ =>
  cI (ho pi s2 Z H2 x y v u _ I2 r1 r2 q2) λd s3 ⟨z,H3,I3,r3,k,e,q3⟩=>?_)) hm
 subst e;cases r3;refine cG ?_;cases k with
 |false =>
  let#[k',e',q']:=q3;cases e';exact ite_ff #[H3,I3,q']
 |true =>
  refine ite_tt (test_last (cI (hc pi s3 Z H3 _ I3 q3) ?_));rintro w' s4 ⟨z',H4,I4,r4,q4⟩;refine cI (lx pi s4 Z H4 y z' u w' _ I4 r2 r4 q4) λd' s5 bo=>?_;let#[z2,H5,I5,r5,k2,e2,q5]:=bo;subst e2;cases r5;exact cG #[H5,I5,q5]
abbrev Dm(K:PySem.W.Frag)(x:V)(H:Hp)(k:Bool):Prop :=
 match x with
 |.bg=>k=false
 |.bl b=>k=b
 |.int i=>k=(i != 0)
 |.str y=>-y<=sizeLine/\k=((-y:Int) != 0)
 |.mM y=>y.size<=sizeLine/\k=((y.size:Int) != 0)
 |.ref p=>(∃xs,fZ K H p xs/\k= ~~~xs.isEmpty)\/(∃xs,iO K H p xs/\k= ~~~xs.isEmpty)\/∃kvs,H p=!.dK kvs/\k= ~~~kvs.isEmpty
 |_=>False
def aY3{κ:Type}{kvs:@&(κ×V)}{vs:@&(κ×Value)}(r:KV kvs vs):(~~~vs.isEmpty)= ~~~kvs.isEmpty:=by
 cases r<;>rfl
def Li{bh:@&Value}(r:Vals xs bh):(~~~bh.toArray.isEmpty)= ~~~xs.isEmpty:=by
 cases r<;>simp
def zr:(sizeLine:Nat)<2 ^ 63:=by rw[sizeLine_eq];decide
def bB9:b88 X (λx H Q=>∃k,Dm X.K x H k/\Q k H):=by
 intro pi s Z H x v Q I rx h;let#[k,e,q]:=h;let hs:sizeLine=16777216:=sizeLine_eq;cases x with
 |bg =>
  cases rx;let e':k=false:=e;subst e';exact truthy_none #[H,I,q]
 |bl b =>
  cases rx;let e':k=b:=e;subst e';exact cG #[H,I,q]
 |int i =>
  let#[t,rfl]:=rx;let e':k=(i != 0):=e;subst e';exact PySem.P.truthy_int #[H,I,q]
 |str y =>
  let#[t,rfl]:=rx;obtain⟨hy,e'⟩:-y<=sizeLine/\k=((-y:Int) != 0):=e;subst e';exact PySem.P.truthy_str () #[H,I.tok _,q]
 |mM y =>
  let#[t,rfl]:=rx;obtain⟨hy,e'⟩:y.size<=sizeLine/\k=((y.size:Int) != 0):=e;subst e';exact PySem.W.truthy_bytes () #[H,I.tok _,q]
 |ref p =>
  cases rx;let e':(∃xs,fZ X.K H p xs/\k= ~~~xs.isEmpty)\/(∃xs,iO X.K H p xs/\k= ~~~xs.isEmpty)\/∃kvs,H p=!.dK kvs/\k= ~~~kvs.isEmpty:=e;rcases e' with⟨xs,hx,e'⟩|⟨xs,hx,e'⟩|⟨kvs,hx,e'⟩
  .subst e';let#[bh,r,pl,hz]:=I.list hx;let hlen:=-r;exact wpAny_truthy_list pl.isList (by simp only[List.size_toArray];omega) #[H,I.tok _,by rw[Li r];exact q]
  .subst e';let#[bh,r,pl,hz]:=I.tuple hx;let hlen:=-r;exact truthy_tuple pl (by simp only[List.size_toArray];omega) #[H,I.tok _,by rw[Li r];exact q]
  .subst e';obtain⟨hz,hS,vs,r,m⟩:-kvs<=sizeLine/\(p==sysModules)=false/\∃vs,KV kvs vs/\s.heap.DictOf (j9 X.prog X.w) p vs:=I.bZ p _ hx;let hlen:-kvs=-vs:=nz r;exact wpAny_truthy_dict hS m () #[H,I.tok _,by rw[aY3 r];exact q]
 |_=>exact(show False from e).elim
def WK(ha:PE X a ta)(he:∀whole,isTrue a X.env whole=(do let v <- whole;standAt a.pos;holding [v] (truthy v))) :
  PT X a (λZ H Q=>ta Z H λx H'=>∃k,Dm X.K x H' k/\Q k H'):=by
 intro pi s Z H Q I h;exact isTrue_plain (cI (ha pi s Z H _ I h) (by rintro v s1 ⟨x,H1,I1,r1,q1⟩;exact bB9 pi s1 Z H1 x v Q I1 r1 q1)) (he _)
def vals1{x:V}(r:Vals [x] us):∃u,us=[u]/\RelV x u:=by
 cases r with
 |cons r1 r2=>cases r2;exact#[_,rfl,r1]
def vals2{x y:V}(r:Vals [x,y] us):∃u w',us=[u,w']/\RelV x u/\RelV y w':=by
 cases r with
 |cons r1 r2 =>
  cases r2 with
  |cons r3 r4=>cases r4;exact#[_,_,rfl,r1,r3]
def XG(hc:X.calm=true):m9 X (.builtin "max") (λxs H Q=>∃i j,xs=[.int i,.int j]/\Q (.int (if j>i then j else i)) H):=by
 intro pi s Z H xs us Q I r h;let#[i,j,rfl,q]:=h;let#[u,w',rfl,#[t,rfl],#[t',rfl]]:=vals2 r;refine max_two_ints (I.ok.hd hc) λh' tk k=>#[_,H,I.kept k,?_,q]
 by_cases hj:j>i
 .rw[ay hj,ay hj];exact#[_,rfl]
 .rw[az hj,az hj];exact#[_,rfl]
def a99(hc:X.calm=true):m9 X (.builtin "min") (λxs H Q=>∃i j,xs=[.int i,.int j]/\Q (.int (if j<i then j else i)) H):=by
 intro pi s Z H xs us Q I r h;let#[i,j,rfl,q]:=h;let#[u,w',rfl,#[t,rfl],#[t',rfl]]:=vals2 r;refine min_two_ints (I.ok.hd hc) λh' tk k=>#[_,H,I.kept k,?_,q]
 by_cases hj:j<i
 .rw[ay hj,ay hj];exact#[_,rfl]
 .rw[az hj,az hj];exact#[_,rfl]
def NW:m9 X (.type "int") (λxs H Q=>(∃i,xs=[.int i]/\Q (.int i) H)\/∃k,xs=[.bl k]/\Q (.int (if k then 1 else 0)) H):=by
 intro pi s Z H xs us Q I r h;rcases h with⟨i,rfl,q⟩|⟨k,rfl,q⟩
 .let#[u,rfl,t,rfl]:=vals1 r;exact call_int_int #[.int i,H,I,#[_,rfl],q]
 .let#[u,rfl,r1]:=vals1 r;cases r1;exact call_int_bool #[.int (if k then 1 else 0),H,I.tok _,#[_,rfl],q]
end
structure sL(h:Heap)(x dx C:Addr)(mA:Str->Option Value):Prop where
 obj:h.get? x=!PySem.W.instObj C dx
 ns:h.Ns1 dx mA
 ne:dx≠x
set_option tactic.hygienic true in
def Ky{mA:Str->Option Value}(n:h.Ns1 dx mA):∃od,h.get? dx=!od/\∀name,PySem.W.lookIn name od=!mA name:=by
 let#[o,es,ep,ho,hd,hk,_,hm]:=n;refine#[o,ho,λname=>?_];let e:=hm name;unfold nsFind findBy at e;rw[<- Array.find?_toList] at e;unfold PySem.W.lookIn;rw[hd];dsimp only;split
 .rename_i y q;rw[q] at e;exact iR some e
 .rename_i q;rw[q] at e;let a:es.toList.any (·.refKey)=false:=by
   rw[iC];intro y hy;let#[z,t,ly]:=hk y (Array.mem_toList_iff.mp hy);simp[DictEntry.refKey,ly]
  let a':¬es.toList.any (·.refKey)=true:=by rw[a];exact bY
  rw[az a'];exact iR some e
def sL.look{x:Addr}{mA:Str->Option Value}(I:sL h x dx C mA):∃od,PySem.W.InstAt h x (PySem.W.instObj C dx) C (!od)/\∀name,PySem.W.lookIn name od=!mA name :=
 let ⟨od,ho,hl⟩:=Ky I.ns
 #[od,#[I.obj,rfl,rfl,ho],hl]
section
variable{prog:Program}{K:PySem.W.Frag}{x:Addr}{mA:Str->Option Value}{name:Str}{v:Value}
def get_map{expr:Bool}(X:K.In s.heap)(I:sL s.heap x dx C mA)(hg:PySem.W.plainGet K C name=true)(hh:PySem.W.hasDictIn K C=true)(ha:PySem.W.findIn K (.ref C) name=!none)(hv:mA name=!v)(Bq:PySem.W.handedIn v=true)(h:Q v { s with toks:=s.toks+1 }) :
  wpAny (model prog w) A (getAttr (.ref x) name expr) Q E s:=by
 let#[od,J,hl]:=I.look;exact PySem.W.get_value X J (kn hg).1 (PySem.W.findObj_own hh ha rfl (by rw[hl,hv])) Bq h
def VX{pl:Sem Bool}{Q:Value×@&Value->Shared->Prop}(X:K.In s.heap)(I:sL s.heap x dx C mA)(hg:PySem.W.plainGet K C name=true)(hf:PySem.W.findIn K (.ref C) name=!!.ref f)(ht:PySem.W.isFn K (.ref f)=true)(hv:mA name=none)(h:Q (.ref f,[.ref x]) s) :
  wpAny (model prog w) A (getMethod (.ref x) name pl) Q E s:=by
 let#[od,J,hl]:=I.look;exact PySem.W.method_fn X J (kn hg).1 (kn hg).2 hf (eO.mp ht) (by show(PySem.W.lookIn name od).map (·.isSome)=!false;simp_all) h
def U'{ns:@&Str}{Q:Unit->Shared->Prop}(X:K.In s.heap)(I:sL s.heap x dx C mA)(hs:PySem.W.findIn K (.ref C) "__setattr__"=!!(.builtin "object.__setattr__"))(hp:PySem.W.plainOver K C=true)(ht:PySem.W.takerIn K C name=!none)(hh:PySem.W.hasDictIn K C=true)(hw:PySem.Within mA ns)(hsz:-ns<=sizeLine)(h:∀h',sL h' x dx C (λy=>if y=name then some v else mA y)->Heap.SameBut dx s.heap h'->Q Unit.unit { s with heap:=h',toks:=s.toks+2 }) :
  wpAny (model prog w) A (setAttr (.ref x) name v) Q E s:=by
 let#[od,J,hl]:=I.look;refine PySem.W.set_plain X J hs (PySem.W.osa_open (s:={ s with toks:=s.toks+1 }) (r:=none) X J hp ht λb=>?_);let#[cd,hc,rS]:=PySem.W.any_some hh;let hx:s.heap.get? x=!#[.ref C,!dx,.plain,(List.toArray [])]:=I.obj;refine aa (ak (aa (aa (wpAny_loadPart hx (aa (PySem.W.Looks.here (s:={ s with toks:=s.toks+1 }) (PySem.W.looks_clsIn X hc) ?_))))));rw[rS];refine ak (a:=!dx) (aa (ak (aa ?_)));refine wpAny_nsSet1 (s:={ s with toks:=s.toks+1 }) I.ns λh' nK jN=>?_;let#[oD,esD,epD,QD,Rg,Ri]:=nK.count (PySem.Within.cons name v hw);refine aa (wpAny_lookBehind QD (by rw[Rg];exact pastItsLine_dict (aG Ri (by grind))) ?_);exact ak (h _ #[(jN.2 _ (bI I.ne)).trans I.obj,nK,I.ne] jN)
def Wg{R:Result->Shared->Prop}{vs:@&Value}{kw:@&(Str×Value)}(X:K.In s.heap)(hm:PySem.W.makesIn K C=true)(hi:PySem.W.findIn K (.ref C) "__init__"=!!.ref f)(hf:PySem.W.typeIn K (.ref f)=!(.type "function"))(h:codeAny (model prog w) (A.under (.builtin "type.__call__" #[.ref C :: vs,kw])) (.call (.ref f) #[.ref (s⁻¹ + 1) :: vs,kw]) (PySem.W.InitBack (s⁻¹ + 1) R)
   { s with heap:=(s.heap.push PySem.W.emptyDict).push (PySem.W.instObj C s⁻¹) }) :
  codeAny (model prog w) A (.call (.ref C) #[vs,kw]) R s:=by
 exact PySem.W.make_core (PySem.W.makes_of X hm) (PySem.W.looks_findIn X hi) (λself=>PySem.W.bind_fn X self hf) (.inl rfl) h
end
abbrev A1(f:Str)(v:V):@&(Str×V)->@&(Str×V)
 |[]=>[(f,v)]
 |(g,x)::r=>if g=f then(g,v)::r else(g,x)::A1 f v r
def LH(f g:Str)(v:V):∀fs:@&(Str×V),(A1 f v fs).lookup g=if g=f then some v else fs.lookup g
 |[]=>by
  change List.lookup g [(f,v)]=_;by_cases h:g=f
  .let hb:(g==f)=true:=eO.mpr h;simp only[List.lookup,hb,if_pos h]
  .let hb:(g==f)=false:=dc.mpr h;simp only[List.lookup,hb,if_neg h]
 |(k,x)::r=>by
  let ih:=LH f g v r;rw[show A1 f v ((k,x)::r)=(if k=f then(k,v)::r else(k,x)::A1 f v r) from rfl];by_cases hk:k=f
  .rw[ay hk];by_cases h:g=k
   .let hb:(g==k)=true:=eO.mpr h;simp only[List.lookup,hb,if_pos (h.trans hk)]
   .let hb:(g==k)=false:=dc.mpr h;simp only[List.lookup,hb,if_neg (λe:g=f=>h (e.trans hk.symm))]
  .rw[az hk];by_cases h:g=k
   .let hb:(g==k)=true:=eO.mpr h;simp only[List.lookup,hb,if_neg (λe:g=f=>hk (h.symm.trans e))]
   .let hb:(g==k)=false:=dc.mpr h;simp only[List.lookup,hb];exact ih
def EA(f:Str)(v:V):∀fs:@&(Str×V),f∈(A1 f v fs).map (·.1)/\∀g,g∈fs.map (·.1)->g∈(A1 f v fs).map (·.1)
 |[]=>#[by simp[A1],λg h=>by simp at h]
 |(k,x)::r=>by
  let#[i1,i2]:=EA f v r;rw[show A1 f v ((k,x)::r)=(if k=f then(k,v)::r else(k,x)::A1 f v r) from rfl];by_cases hk:k=f
  .rw[ay hk]
   grind
  .rw[az hk];refine#[?_,λg h=>?_]
   .exact bA _ i1
   .rcases aJ.mp h with e|e
    .exact aJ.mpr (.inl e)
    .exact bA _ (i2 g e)
def LC(f:Str)(v:V):∀fs:@&(Str×V),(A1 f v fs).length<=-fs+1
 |[]=>by simp[A1]
 |(k,x)::r=>by
  let ih:=LC f v r;rw[show A1 f v ((k,x)::r)=(if k=f then(k,v)::r else(k,x)::A1 f v r) from rfl]
  grind
def F5.some_of{o:Option Value}(r:F5 (!v) o):∃u,o=!u/\RelV v u:=by
 cases o with
 |none=>exact(show False from r).elim
 |some u=>exact#[u,rfl,r]
def F5.none_of{o:Option Value}(r:F5 none o):o=none:=by
 cases o with
 |none=>rfl
 |some u=>exact(show False from r).elim
def a88(r:RelV v u):PySem.W.handedIn u=true:=by
 cases v with
 |bg=>cases (show u=Value.none from r);rfl
 |bl b=>cases (show u=Value.bool b from r);rfl
 |int i=>let#[t,e]:=(show ∃t,u=Value.int i t from r);cases e;rfl
 |str x=>let#[t,e]:=(show ∃t,u=Value.str x t from r);cases e;rfl
 |mM b=>let#[t,e]:=(show ∃t,u=Value.bytes b t from r);cases e;rfl
 |sx b=>let#[t,e]:=(show ∃t,u=Value.float b t from r);cases e;rfl
 |ref a=>cases (show u=Value.ref a from r);rfl
 |ty n=>cases (show u=Value.type n from r);rfl
section
variable{fs:@&(Str×V)}
def zE(bZ:gZ P w H h)(e:H a=!.ins C dx fs):∃mA,sL h a dx C mA/\(∀f,F5 (fs.lookup f) (mA f))/\PySem.Within mA (fs.map (·.1))/\-fs<=1000/\H dx=!.own a:=by
 let#[d,z,ne,ob,mA,n,r,q]:=(show k9 P w H h a (.ins C dx fs) from bZ a _ e)
 exact#[mA,#[ob,n,ne],r,q,z,d]
end
structure jQ(K:PySem.W.Frag)(C:Addr):Prop where
 pg:PySem.W.plainGet K C Str.empty=true
 hd:PySem.W.hasDictIn K C=true
 po:PySem.W.plainOver K C=true
 sa:PySem.W.findIn K (.ref C) "__setattr__"=!!(.builtin "object.__setattr__")
def jQ.get{K:PySem.W.Frag}(c:jQ K C)(f:Str):PySem.W.plainGet K C f=true:=c.pg
abbrev B3(K:PySem.W.Frag)(C:Addr)(f:Str):Prop:=PySem.W.findIn K (.ref C) f=!none
def B3.Zh{K:PySem.W.Frag}{f:Str}(n:B3 K C f):PySem.W.takerIn K C f=!none:=by
 unfold PySem.W.takerIn;rw[show PySem.W.findIn K (.ref C) f=some none from n]
 rfl
structure Meth(K:PySem.W.Frag)(C:Addr)(m:Str)(f:Addr):Prop where
 at_:PySem.W.findIn K (.ref C) m=!!.ref f
 fn:PySem.W.isFn K (.ref f)=true
 kp:PySem.W.keepIn K (.ref f)=true
section
variable{fs:@&(Str×V)}{f:Str}
def Lg{b:Bool}(I:Inv X pi Z H s)(e:H a=!.ins C dx fs)(c:jQ X.K C)(n:B3 X.K C f)(l:fs.lookup f=!v)(h:∀u s',Inv X pi Z H s'->RelV v u->Q u s'):wpAny (model X.prog X.w) A (getAttr (.ref a) f b) Q E s:=by
 let#[mA,O,r,_,_,_]:=zE I.bZ e;let#[u,hu,ru]:=F5.some_of (v:=v) (o:=mA f) (by rw[<- l];exact r f);exact get_map I.gN O (c.get f) c.hd n hu (a88 ru) (h u _ (I.tok _) ru)
def Lh{g:Addr}{pl:Sem Bool}{Q:Value×@&Value->Shared->Prop}(I:Inv X pi Z H s)(e:H a=!.ins C dx fs)(c:jQ X.K C)(k:Meth X.K C m g)(l:fs.lookup m=none)(h:Q (.ref g,[.ref a]) s):wpAny (model X.prog X.w) A (getMethod (.ref a) m pl) Q E s:=by
 let#[mA,O,r,_,_,_]:=zE I.bZ e;let hn:mA m=none:=F5.none_of (by rw[<- l];exact r m);exact VX I.gN O (c.get m) k.at_ k.fn hn h
def Lq{y:V}{Q:Unit->Shared->Prop}(I:Inv X pi Z H s)(e:H a=!.ins C dx fs)(c:jQ X.K C)(n:B3 X.K C f)(hl:-fs<1000)(ry:RelV y u)(h:∀s',Inv X pi Z (upd H a (.ins C dx (A1 f y fs))) s'->Q Unit.unit s'):wpAny (model X.prog X.w) A (setAttr (.ref a) f u) Q E s:=by
 let#[mA,O,r,wi,_,ho]:=zE I.bZ e;let hz:(fs.map (·.1)).length<=sizeLine:=by rw[au,sizeLine_eq];omega
 refine U' I.gN O c.sa c.po n.Zh c.hd wi hz λh' O' sb=>h _ ?_;let hd:∃o,h'.get? dx=!o:=let ⟨o,_,_,e',_⟩:=O'.ns;#[o,e']
 refine I.write (x:=a) (e:=dx) (by rw[e];exact True.intro) (.inr ho) (λb q hb z=>(sb.2 b hb).trans z) hd ?_;refine#[by rw[d8 O.ne];exact ho,?_,O.ne,O'.obj,_,O'.ns,λg=>?_,λg hg=>?_]
 .have:=LC f y fs;omega
 .change F5 ((A1 f y fs).lookup g) (if g=f then some u else mA g);rw[LH];by_cases q:g=f
  .rw[ay q,ay q];exact ry
  .rw[az q,az q];exact r g
 .by_cases q:g=f
  .rw[q];exact(EA f y fs).1
  .refine(EA f y fs).2 g (wi g λz=>hg ?_);show(if g=f then some u else mA g)=none;rw[az q];exact z
def Inv.made(I:Inv X pi Z H s):Inv X pi Z (upd (upd H s⁻¹ (.own (s⁻¹+1))) (s⁻¹+1) (.ins C s⁻¹ []))
  { s with heap:=(s.heap.push PySem.W.emptyDict).push (PySem.W.instObj C s⁻¹) }:=by
 let e1:(s.heap.push PySem.W.emptyDict).get? s⁻¹=!PySem.W.emptyDict:=aE s.heap rfl;let e2:((s.heap.push PySem.W.emptyDict).push (PySem.W.instObj C s⁻¹)).get? (s⁻¹+1)=!(PySem.W.instObj C s⁻¹):=by
  have:=aE (s.heap.push PySem.W.emptyDict) (o:=PySem.W.instObj C s⁻¹) rfl
  rwa [fk] at this
 let e3:(s.heap.push PySem.W.emptyDict).Ns s⁻¹ (λx=>none):=#[PySem.W.emptyDict,(List.toArray []),_,e1,rfl,(λe he=>absurd he #[_]),λx=>rfl]
 let I1:=I.laid (a:=s⁻¹) (o:=.own (s⁻¹+1)) (h':=s.heap.push PySem.W.emptyDict) (t':=s.toks) (λb u q=>ao _ q) (aw _) #[_,e1];refine I1.laid (a:=s⁻¹+1) (o:=.ins C s⁻¹ []) (t':=s.toks) (λb u q=>ao _ q) (Nat.le_of_eq (fk _ _)) ?_;let ne:s⁻¹≠s⁻¹+1:=aK (eR _);refine#[by rw[d8 ne,j4],cH _,ne,e2,λx=>none,(Heap.Ns1.of_empty e3).at λo q=>ao _ q,λx=>True.intro,λy hy=>absurd rfl hy]
def bA3{prog:Program}{env:Env}(hb:attributeBase e f env (eval e env)=eval e env)(h:wpAny (model prog w) A (eval e env) (λo bH=>wpAny (model prog w) A (getAttr o f true) Q E bH) E s):wpAny (model prog w) A (eval (.Attribute e f pos) env) Q E s :=
 Attribute_any_ h (by rw[arm_eval_Attribute,hb])
end
abbrev b32(K:PySem.W.Frag)(ta:TE)(f:Str):TE:=λZ H Q=>ta Z H λx H1=>∃a C dx fs v,x=.ref a/\H1 a=!.ins C dx fs/\jQ K C/\B3 K C f/\fs.lookup f=!v/\Q v H1
abbrev b42(K:PySem.W.Frag)(ta tv:TE)(f:Str):TS:=λD Z H=>tv Z H λy H1=>ta Z H1 λx H2=>∃a C dx fs,x=.ref a/\H2 a=!.ins C dx fs/\jQ K C/\B3 K C f/\-fs<1000 /\
 D.nx Z (upd H2 a (.ins C dx (A1 f y fs)))
abbrev Dh(X:Cx)(op:Operator)(rd:V->V->Hp->VK->Prop):Prop :=
 ∀(pi:@&(Addr×Obj)) (s:Shared) (Z:St) (H:Hp) (x y:V) (u v:Value) (Q:VK),Inv X pi Z H s->RelV x u->RelV y v->rd x y H Q->wpAny (model X.prog X.w) X.A (inplaceOp op u v) (EP X pi Z Q) X.xe s
abbrev UN(K:PySem.W.Frag)(ta tv:TE)(rd:V->V->Hp->VK->Prop)(f:Str):TS:=λD Z H=>ta Z H λx H1=>∃a C dx fs v,x=.ref a/\H1 a=!.ins C dx fs/\jQ K C/\B3 K C f/\fs.lookup f=!v /\
 tv Z H1 λy H2=>rd v y H2 λz H3=>∃uk jP,H3 a=!.ins C uk jP/\-jP<1000/\D.nx Z (upd H3 a (.ins C uk (A1 f z jP)))
section
variable{o value:Expr}{f:Str}{vb:Pos}{tv:TE}
def bJ8(he:PE X e ta)(hb:attributeBase e f X.env (eval e X.env)=eval e X.env):PE X (.Attribute e f pos) (b32 X.K ta f):=by
 intro pi s Z H Q I h;refine bA3 hb (cI (he pi s Z H _ I h) λu s1 bo=>?_);let#[x,H1,I1,rx,a,C,dx,fs,v,ex,ea,c,n,l,q]:=bo;subst ex;obtain rfl:u=Value.ref a:=rx;exact Lg I1 ea c n l λu' s2 I2 ru=>#[v,H1,I2,ru,q]
def bI6(ha:PE X o ta)(hv:PE X value tv)(hs:swapsWith value (!.Attribute o f pos') pos.line X.env=pure false):PS X (.Assign [.Attribute o f pos'] value pos) (b42 X.K ta tv f):=by
 intro pi s Z H D I h;refine plainObj_wpAny_Assign_Attribute (cI (hv pi s Z H _ I h) ?_) hs;rintro u s1 ⟨y,H1,I1,ry,q⟩;refine cI (ha pi s1 Z H1 _ I1 q) λov s2 bo=>?_;let#[x,H2,I2,rx,a,C,dx,fs,ex,ea,c,n,l,q2]:=bo;subst ex;obtain rfl:ov=Value.ref a:=rx;exact Lq I2 ea c n l ry λs3 I3=>#[Z,_,I3,q2]
def a44{op:Operator}{rd:V->V->Hp->VK->Prop}(ha:PE X o ta)(hv:PE X value tv)(pJ:Dh X op rd):PS X (.AugAssign (.Attribute o f vb) op value pos) (UN X.K ta tv rd f):=by
 intro pi s Z H D I h;refine wpAny_AugAssign_AttributeAny (cI (ha pi s Z H _ I h) λov s1 bo=>?_);let#[x,H1,I1,rx,a,C,dx,fs,v,ex,ea,c,n,l,q]:=bo;subst ex;obtain rfl:ov=Value.ref a:=rx;refine Lg I1 ea c n l λu s2 I2 ru=>cI (hv pi s2 Z H1 _ I2 q) ?_;rintro w3 s3 ⟨y,H2,I3,ry,q3⟩;refine cI (pJ pi s3 Z H2 v y u w3 _ I3 ru ry q3) λw4 s4 bo=>?_;let#[z,H3,I4,rz,uk,jP,SY,l',q4]:=bo;exact Lq I4 SY c n l' rz λs5 I5=>#[Z,_,I5,q4]
abbrev b51:V->V->Hp->VK->Prop:=λx y H Q=>∃i j,x=.int i/\y=.int j/\Q (.int (i+j)) H
def ZP:Dh X .Add b51:=by
 rintro pi s Z H x y u v Q I rx ry ⟨i,j,rfl,rfl,q⟩;let#[t,rfl]:=(show ∃t,u=Value.int i t from rx)
 let#[t',rfl]:=(show ∃t',v=Value.int j t' from ry)
 exact PyProof.Rows.iadd_int #[.int (i+j),H,I.tok _,#[_,rfl],q]
end
section
variable{c:Value}{b:Bool}
inductive iN(K:PySem.W.Frag)(H:Hp):V->Value->Prop where
 |bg:iN K H .bg (.type "NoneType")
 |bl (x:Bool):iN K H (.bl x) (.type "bool")
 |int (i:Int):iN K H (.int i) (.type "int")
 |str (x:Str):iN K H (.str x) (.type "str")
 |sx (x:UInt64):iN K H (.sx x) (.type "float")
 |lst {a:Addr} {xs:@&V} (e:H a=!.lst xs):iN K H (.ref a) (.type "list")
 |kB {a:Addr} {o:Obj} {xs:@&V} (e:H a=!.kB o (.lst xs)):iN K H (.ref a) (.type "list")
 |tup {a:Addr} {xs:@&V} (e:H a=!.tup xs):iN K H (.ref a) (.type "tuple")
 |dK {a:Addr} {kvs:@&(Key×V)} (e:H a=!.dK kvs):iN K H (.ref a) (.type "dict")
 |dT {a:Addr} {kvs:@&(List Key×V)} (e:H a=!.dT kvs):iN K H (.ref a) (.type "dict")
 |ins {a C dx:Addr} {fs:@&(Str×V)} (e:H a=!.ins C dx fs) (cl:jQ K C) (ha:PySem.W.findIn K (.ref C) "__class__"=!!(.builtin "object.__class__"))
   (hn:PySem.W.specialIn K (.builtin "object.__class__") "__get__"=!!(.builtin "getset_descriptor.__get__")) (vS:PySem.W.takesIn K (.builtin "object.__class__")=!true)
   (hm:PySem.W.mroIn K C (.type "object")=!true):iN K H (.ref a) (.ref C)
def a83{x:V}{t:Value}(I:Inv X pi Z H s)(rx:RelV x u)(ty:iN X.K H x t)(e:PySem.W.kitOne X.K t c=!b)(h:∀tk,Q (.bool b) { s with toks:=tk }) :
  wpAny (model X.prog X.w) A (call (.builtin "isinstance") [u,c]) Q E s:=by
 cases ty with
 |bg=>cases (show u=Value.none from rx);exact cc PySem.W.kitx_none I.gN True.intro e (λz=>nomatch z) h
 |bl y=>cases (show u=Value.bool y from rx);exact cc PySem.W.kitx_bool I.gN True.intro e (λz=>nomatch z) h
 |int i=>let#[t,q]:=(show ∃t,u=Value.int i t from rx);cases q;exact cc PySem.W.kitx_int I.gN True.intro e (λz=>nomatch z) h
 |str y=>let#[t,q]:=(show ∃t,u=Value.str y t from rx);cases q;exact cc PySem.W.kitx_str I.gN True.intro e (λz=>nomatch z) h
 |sx y=>let#[t,q]:=(show ∃t,u=Value.float y t from rx);cases q;exact cc PySem.W.kitx_float I.gN True.intro e (λz=>nomatch z) h
 |@lst a xs ea =>
  cases (show u=Value.ref a from rx);let#[_,_,n,_,h1]:=(show k9 X.prog X.w H s.heap a (.lst xs) from I.bZ a _ ea)
  exact cc PySem.W.kitx_list I.gN #[_,h1,rfl] e (λz=>nomatch z) h
 |@kB a ob xs ea =>
  cases (show u=Value.ref a from rx);let#[_,_,_,n,_,h1]:=(show k9 X.prog X.w H s.heap a (.kB ob (.lst xs)) from I.bZ a _ ea)
  exact cc PySem.W.kitx_list I.gN #[_,h1,rfl] e (λz=>nomatch z) h
 |@tup a xs ea =>
  cases (show u=Value.ref a from rx);let#[_,_,_,p]:=(show k9 X.prog X.w H s.heap a (.tup xs) from I.bZ a _ ea)
  let#[o,h1,h2,_]:=p;exact cc OX I.gN #[o,h1,h2] e (λz=>nomatch z) h
 |@dK a kvs ea =>
  cases (show u=Value.ref a from rx);let#[_,_,vs,_,p]:=(show k9 X.prog X.w H s.heap a (.dK kvs) from I.bZ a _ ea)
  let#[o,es,ep,h1,h2,_]:=p;exact cc PySem.W.kitx_dict I.gN #[o,h1,h2.1] e (λz=>nomatch z) h
 |@dT a kvs ea =>
  cases (show u=Value.ref a from rx);let#[_,_,xs,_,o,es,ep,h1,h2,_]:=(show k9 X.prog X.w H s.heap a (.dT kvs) from I.bZ a _ ea)
  exact cc PySem.W.kitx_dict I.gN #[o,h1,h2.1] e (λz=>nomatch z) h
 |@ins a C dx fs ea cl ha hn vS hm =>
  cases (show u=Value.ref a from rx);let#[mA,O,_]:=zE I.bZ ea;let#[od,J,_]:=O.look;exact cc (PySem.W.kitx_own (cl.get _) cl.hd ha hn vS hm) I.gN J e (λz=>nomatch z) h
end
structure w6(k:Nat)(A:Around):Prop where
 hd:A.handled=none
 dp:A.depth+3*k+5<recursionLimit
 un:A.units+16*k+200<cLine
def w6.mono{j:Nat}(r:w6 k A)(h:j<=k):w6 j A:=#[r.hd,by have:=r.dp;omega,by have:=r.un;omega]
def w6.deeper{k:Nat}{A:Around}(r:w6 (k+1) A)(env:Env):w6 k (A.deeper env) :=
 #[r.hd,by have:=r.dp;change A.depth+1+3*k+5<_;omega,by have:=r.un;change A.units+3+16*k+200<_;omega]
def aX4{kw:@&(Str×Value)}:(A.under (.builtin "type.__call__" #[.ref C::us,kw])).depth=A.depth+1:=by
 rfl
def aX3{kw:@&(Str×Value)}:(A.under (.builtin "type.__call__" #[.ref C::us,kw])).units=A.units+1:=by
 rfl
def w6.make(r:w6 (k+1) A)(C:Addr)(us:@&Value)(kw:@&(Str×Value)):w6 k (A.under (.builtin "type.__call__" #[.ref C::us,kw])) :=
 #[r.hd,by have:=r.dp;rw[aX4];omega,by have:=r.un;rw[aX3];omega]
def w6.depth{k:Nat}{A:Around}(r:w6 k A):A.depth<recursionLimit:=by have:=r.dp;omega
abbrev Dz:TA:=λx H Q=>Q [] H
abbrev Za(ta:TE)(tr:TA):TA:=λZ H Q=>ta Z H λx H1=>tr Z H1 λxs H2=>Q (x::xs) H2
def N9:PA X [] Dz:=λx x x x H Q I h=>Calls.spliced_nil #[[],H,I,.nil,h]
def L1(ha:PE X e te)(hr:PA X es t)(hs:starEach (e::es) X.env=(false,eval e X.env)::starEach es X.env:=by rfl):PA X (e::es) (Za te t):=by
 intro pos pi s Z H Q I h;rw[hs];change wpAny _ _ (spliced ((false,eval e X.env)::backTo pos (starEach es X.env))) _ _ s;refine Calls.spliced_cons (cI (ha pi s Z H _ I h) λu s1 bo=>?_);let#[x,H1,I1,r1,q1]:=bo;exact cI (hr pos pi s1 Z H1 _ I1 q1) (by rintro us s2 ⟨xs,H2,I2,r2,q2⟩;exact #[x::xs,H2,I2,.cons r1 r2,q2])
abbrev Ks(t:TA):TE:=λZ H Q=>t Z H λxs H1=>-xs<=sizeLine/\∀p,H1 p=none->Q (.ref p) (upd H1 p (.tup xs))
abbrev b29(t:TA):TE:=λZ H Q=>t Z H λxs H1=>-xs<=sizeLine/\∀p,H1 p=none->Q (.ref p) (upd H1 p (.lst xs))
def xB{x1}(h:PA X es t):PE X (.Tuple es x1 pos) (Ks t):=by
 intro pi s Z H Q I hq;refine wpAny_Tuple_spliced (cI (h pos pi s Z H _ I hq) ?_);rintro us s1 ⟨xs,H1,I1,r,z,q⟩;refine #[by rw[<- -r];exact z,?_];let hf:H1 s1⁻¹=none:=I1.bZ.fresh (aw _);refine#[.ref s1⁻¹,upd H1 s1⁻¹ (.tup xs),I1.laid (t':=s1.toks) (λb u e=>ao _ e) (aw _) ?_,rfl,q _ hf];exact#[z,us,r,#[_,aE _ rfl,rfl,#[_,rfl],rfl]]
def bJ6(h:PA X es t):PE X (.List es pos) (b29 t):=by
 intro pi s Z H Q I hq;refine wpAny_List_spliced (cI (h pos pi s Z H _ I hq) ?_);rintro us s1 ⟨xs,H1,I1,r,z,q⟩;refine #[by rw[<- -r];exact z,?_];let hf:H1 s1⁻¹=none:=I1.bZ.fresh (aw _);refine#[.ref s1⁻¹,upd H1 s1⁻¹ (.lst xs),I1.laid (t':=s1.toks) (λb u e=>ao _ e) (aw _) ?_,rfl,q _ hf];exact#[z,us,0,r,aE _ rfl]
noncomputable abbrev Sp:=@&V->Hp->VK->XK->Prop
noncomputable abbrev oN:=@&Env->Hp->Shared->XK->Value->Shared->Prop
structure sJ(P:Program)(w:World)(K:PySem.W.Frag)(mg:Str->Option Value)(base:Heap)(A:Around)(outer:@&Env)(s:Shared)(H:Hp):Prop where
 frames:A.frames=!outer
 mod:Mod K mg base
 bs:∀b o,base.get? b=!o->s.heap.get? b=!o/\H b=none
 qO:base.objs.size<=s⁻¹
 T1:s.heap.FunFrames base outer
 sv:∀b∈iP outer,H b=none
 bZ:gZ P w H s.heap
 bare:AllBare s.gens
abbrev CE(outer:@&Env)(P:Program)(w:World)(H:Hp)(s:Shared)(Q:VK)(u:Value)(s':Shared):Prop :=
 ∃v H',s'.os=s.os/\AllBare s'.gens/\Un (iP outer) [] H H' s.heap s'.heap/\gZ P w H' s'.heap/\RelV v u/\Q v H'
abbrev CR(CX:oN)(outer:@&Env)(P:Program)(w:World)(H:Hp)(s:Shared)(Q:VK)(E:XK)(r:Result)(s':Shared):Prop :=
 match r with
 |.ok (.ret u)=>CE outer P w H s Q u s'
 |.ok _=>False
 |.error e=>CX outer H s E e s'
structure iu(P:Program)(w:World)(K:PySem.W.Frag)(mg:Str->Option Value)(base:Heap)(CX:oN)(k:Nat)(f:Addr)(fd:FuncData)(ps:@&Str)(sp:Sp):Prop where
 len:∀vs H Q E,sp vs H Q E->-vs=-ps
 run:∀(A:Around) (outer:@&Env) (s:Shared) (H:Hp) (args:Args) (us:@&Value) (vs:@&V) (Q:VK) (E:XK),w6 k A->sJ P w K mg base A outer s H->BindsTo s fd args (ps.zip us)->Vals vs us->sp vs H Q E ->
  codeAny (model P w) A (.call (.ref f) args) (CR CX outer P w H s Q E) s
def sJ.make{K:PySem.W.Frag}{mg:Str->Option Value}{outer:@&Env}(e:sJ P w K mg base A outer s H)(C:Addr)(us:@&Value)(kw:@&(Str×Value)) :
  sJ P w K mg base (A.under (.builtin "type.__call__" #[.ref C::us,kw])) outer s H:=#[by first|exact e.frames|(simpa[Around.under,Code.envs,Code.isFrame,pushEnvs] using e.frames),e.mod,e.bs,e.qO,e.T1,e.sv,e.bZ,e.bare]
section
variable{s':Shared}
def Inv.Ke(I:Inv X pi Z H s):sJ X.prog X.w X.K X.mg X.base X.A X.stack s H :=
 #[I.ok.frames,I.ok.mod,I.bs,aG I.ok.qO I.sz,I.stack,I.DX,I.bZ,I.bare]
def Inv.after{Q:VK}(I:Inv X pi Z H s)(h:CE X.stack X.prog X.w H s Q u s'):EP X pi Z Q u s':=by
 let#[v,H',os,bare,un,bZ,r,q]:=h;let#[hh,g,d,t,rE]:=s';obtain rfl:rE=s.os:=os;exact#[v,H',I.call (h':=hh) (g':=g) (d':=d) (t':=t) (ch:=[]) un bZ bare (λb z=>absurd z #[_]),r,q]
end
abbrev JM(sp:Sp)(dvs:@&V)(E:XK)(t:TA):TE:=λZ H Q=>t Z H λvs H1=>sp (vs++dvs) H1 Q E
abbrev JN(C:Addr)(sp:Sp)(dvs:@&V)(E:XK)(t:TA):TE:=λZ H Q=>t Z H λvs H1=>∀x dx,H1 x=none->H1 dx=none->dx≠x ->
 sp (.ref x::(vs++dvs)) (upd (upd H1 dx (.own x)) x (.ins C dx [])) (λv H2=>v=.bg/\Q (.ref x) H2) E
abbrev Binds(K:PySem.W.Frag)(fd:FuncData)(ps:@&Str)(ds:@&Value):Prop :=
 ∀(s:Shared) (us:@&Value),K.In s.heap->(us++ds).length=-ps->BindsTo s fd #[us,[]] (ps.zip (us++ds))
def Binds.all{K:PySem.W.Frag}(h:∀us:@&Value,(-us)=-ps->bindArgs fd #[us,[]]=pure (ps.zip us)):Binds K fd ps []:=λs us x hl=>by
 rw[ft] at hl ⊢;exact .of_eq (h us hl)
abbrev Passes(CX:oN)(X:Cx)(E:XK):Prop:=∀(pi:@&(Addr×Obj)) (Z:St) (H:Hp) (s:Shared) (e:Value) (s':Shared),Inv X pi Z H s->CX X.stack H s E e s'->X.xe e s'
section
variable{dvs:@&V}{ds:@&Value}{E:XK}
def zw{Q:VK}(F:iu X.prog X.w X.K X.mg X.base CX k f fd ps sp)(hr:w6 k X.A)(hb:Binds X.K fd ps ds)(hd:Vals dvs ds)(hx:Passes CX X E)(I:Inv X pi Z H s)(r:Vals vs us)(h:sp (vs++dvs) H Q E):wpAny (model X.prog X.w) X.A (call (.ref f) us) (EP X pi Z Q) X.xe s:=by
 let r2:Vals (vs++dvs) (us++ds):=r.append hd;let hl:(us++ds).length=-ps:=by rw[<- -r2];exact F.len _ _ _ _ h
 refine wpAny_call (iF (F.run X.A X.stack s H #[us,[]] (us++ds) (vs++dvs) Q E hr I.Ke (hb s us I.gN hl) r2 h) λr s' hq=>?_);cases r with
 |error e=>exact hx pi Z H s e s' I hq
 |ok fl =>
  cases fl with
  |ret u=>exact I.after hq
  |next=>exact False.elim hq
  |brk=>exact False.elim hq
  |cont=>exact False.elim hq
def Us(F:iu X.prog X.w X.K X.mg X.base CX k f fd ps sp)(hr:w6 k X.A)(hg:Gl X x)(hm:X.mg x=!.ref f)(hk:PySem.W.keepIn X.K (.ref f)=true)(hb:Binds X.K fd ps ds)(hd:Vals dvs ds)(hx:Passes CX X E)(ha:PA X (e::es) t)(iX:(x==("__debug__":Str))=false:=by decide)(he:starEach (e::es) X.env=(false,eval e X.env)::starEach es X.env:=by rfl)(gy:(backTo pos (starEach es X.env)).any (·.1)=false:=by rfl) :
  PE X (.Call (.Name x p) (e::es) [] pos) (JM sp dvs E t):=by
 intro pi s Z H Q I h;refine cY (U3 I hg hm ?_ iX);refine kP (h₀:=X.base) I.ok.mod.oi hk (cI (ha pos pi s Z H _ I h) ?_) he gy;rintro us s1 ⟨vs,H1,I1,r,q⟩;refine #[I1.gN,?_];exact zw F hr hb hd hx I1 r q
def Ws(F:iu X.prog X.w X.K X.mg X.base CX k f fd ps sp)(hr:w6 k X.A)(hg:Gl X x)(hm:X.mg x=!.ref f)(hk:PySem.W.keepIn X.K (.ref f)=true)(hb:Binds X.K fd ps ds)(hd:Vals dvs ds)(hx:Passes CX X E)(iX:(x==("__debug__":Str))=false:=by decide):PE X (.Call (.Name x p) [] [] pos) (JM sp dvs E Dz):=by
 intro pi s Z H Q I h;refine cY (U3 I hg hm ?_ iX);exact ko I.gN hk (zw (us:=[]) F hr hb hd hx I .nil h)
structure Mk(K:PySem.W.Frag)(C f:Addr):Prop where
 makes:PySem.W.makesIn K C=true
 init:PySem.W.findIn K (.ref C) "__init__"=!!.ref f
 fn:PySem.W.isFn K (.ref f)=true
 kp:PySem.W.keepIn K (.ref C)=true
def NG{Q:VK}(M:Mk X.K C f)(F:iu X.prog X.w X.K X.mg X.base CX k f fd ps sp)(hr:w6 (k+1) X.A)(hb:Binds X.K fd ps ds)(hd:Vals dvs ds)(hx:Passes CX X E)(I:Inv X pi Z H s)(r:Vals vs us)(h:∀x dx,H x=none->H dx=none->dx≠x->sp (.ref x::(vs++dvs)) (upd (upd H dx (.own x)) x (.ins C dx [])) (λv H2=>v=.bg/\Q (.ref x) H2) E) :
  wpAny (model X.prog X.w) X.A (call (.ref C) us) (EP X pi Z Q) X.xe s:=by
 let hq:=h (s⁻¹+1) s⁻¹ (I.bZ.fresh (iw _)) (I.bZ.fresh (aw _)) (aK (eR _));let I2:=Inv.made (C:=C) I;let r2:Vals (V.ref (s⁻¹+1)::(vs++dvs)) (Value.ref (s⁻¹+1)::(us++ds)):=.cons rfl (r.append hd);let hl:(Value.ref (s⁻¹+1)::us++ds).length=-ps:=by
  let e:=-r2;rw[F.len _ _ _ _ hq] at e;exact e.symm
 refine wpAny_call (Wg (f:=f) I.gN M.makes M.init (eO.mp M.fn) (iF (F.run _ X.stack _ _ #[Value.ref (s⁻¹ + 1) :: us,[]] (Value.ref (s⁻¹ + 1) :: (us ++ ds)) _ _ E (hr.make C us [])
  (I2.Ke.make C us []) (hb _ (Value.ref (s⁻¹ + 1) :: us) I2.gN hl) r2 hq) λr s' oq=>?_))
 cases r with
 |error e=>exact hx pi Z _ _ e s' I2 oq
 |ok fl =>
  cases fl with
  |ret u =>
   let#[v,H',I3,rv,ev,q3]:=I2.after oq;subst ev;exact#[rv,#[V.ref (s⁻¹+1),H',I3,rfl,q3]]
  |next=>exact False.elim oq
  |brk=>exact False.elim oq
  |cont=>exact False.elim oq
def Uu(M:Mk X.K C f)(F:iu X.prog X.w X.K X.mg X.base CX k f fd ps sp)(hr:w6 (k+1) X.A)(hg:Gl X x)(hm:X.mg x=!.ref C)(hb:Binds X.K fd ps ds)(hd:Vals dvs ds)(hx:Passes CX X E)(ha:PA X (e::es) t)(iX:(x==("__debug__":Str))=false:=by decide)(he:starEach (e::es) X.env=(false,eval e X.env)::starEach es X.env:=by rfl)(gy:(backTo pos (starEach es X.env)).any (·.1)=false:=by rfl) :
  PE X (.Call (.Name x p) (e::es) [] pos) (JN C sp dvs E t):=by
 intro pi s Z H Q I h;refine cY (U3 I hg hm ?_ iX);refine kP (h₀:=X.base) I.ok.mod.oi M.kp (cI (ha pos pi s Z H _ I h) ?_) he gy;rintro us s1 ⟨vs,H1,I1,r,q⟩;refine #[I1.gN,?_];exact NG M F hr hb hd hx I1 r q
def Wz(M:Mk X.K C f)(F:iu X.prog X.w X.K X.mg X.base CX k f fd ps sp)(hr:w6 (k+1) X.A)(hg:Gl X x)(hm:X.mg x=!.ref C)(hb:Binds X.K fd ps ds)(hd:Vals dvs ds)(hx:Passes CX X E)(iX:(x==("__debug__":Str))=false:=by decide):PE X (.Call (.Name x p) [] [] pos) (JN C sp dvs E Dz):=by
 intro pi s Z H Q I h;refine cY (U3 I hg hm ?_ iX);exact ko I.gN M.kp (NG (us:=[]) M F hr hb hd hx I .nil h)
end
structure jw(N P:@&Str)(sc:Scope):Prop where
 kind:sc.kind=.function
 co:sc.isCoroutine=false
 gen:sc.isGenerator=false
 nd:N.Nodup
 pre:N.take (-P)=P
 par:∀x∈P,sc.names.lookup x=!.local\/sc.names.lookup x=!.cell
 nX:∀y∈sc.names,y.2≠.free
def NV{kindOf:Str->Option NameKind}{x:Str}:∀{binds:@&(Str×Value)} {m:Str->Option Value},(∀v,(x,v)∉binds)->bindL kindOf binds m x=m x
 |[],_,_=>rfl
 |(n,v)::r,m,h=>by
  unfold bindL;rw[NV λw hw=>h w (bA _ hw)];split
  .have:x≠n:=by rintro rfl;exact h v kQ
   simp[this]
  .rfl
def NT{kindOf:Str->Option NameKind}{x:Str}:∀{binds:@&(Str×Value)} {m:Str->Option Value},(∀v,(x,v)∉binds)->bindC kindOf binds m x=m x
 |[],_,_=>rfl
 |(n,v)::r,m,h=>by
  unfold bindC;rw[NT λw hw=>h w (bA _ hw)];split
  .rfl
  .have:x≠n:=by rintro rfl;exact h v kQ
   simp[this]
def NU{kindOf:Str->Option NameKind}{x:Str}{v:Value}:∀{P:@&Str} {vs:@&Value} {i:Nat} {m:Str->Option Value},P.Nodup->P[i]?=!x->vs[i]?=!v->kindOf x=!.local ->
  bindL kindOf (P.zip vs) m x=!v
 |[],_,_,_,_,h,_,_=>by simp at h
 |_::_,[],_,_,_,_,h,_=>by simp at h
 |p::P,w::vs,0,m,nd,h1,h2,hk=>by
  simp at h1 h2;subst h1;subst h2;change bindL kindOf ((p,w)::P.zip vs) m p=_;unfold bindL;rw[NV λv hv=>(du.mp nd).1 (nN hv).1,ay hk];simp
 |p::P,w::vs,i+1,m,nd,h1,h2,hk=>by
  unfold bindL;exact NU (i:=i) (du.mp nd).2 (by simpa using h1) (by simpa using h2) hk
def NS{kindOf:Str->Option NameKind}{x:Str}{v:Value}:∀{P:@&Str} {vs:@&Value} {i:Nat} {m:Str->Option Value},P.Nodup->P[i]?=!x->vs[i]?=!v->kindOf x≠!.local ->
  bindC kindOf (P.zip vs) m x=!v
 |[],_,_,_,_,h,_,_=>by simp at h
 |_::_,[],_,_,_,_,h,_=>by simp at h
 |p::P,w::vs,0,m,nd,h1,h2,hk=>by
  simp at h1 h2;subst h1;subst h2;change bindC kindOf ((p,w)::P.zip vs) m p=_;unfold bindC;rw[NT λv hv=>(du.mp nd).1 (nN hv).1,az hk];simp
 |p::P,w::vs,i+1,m,nd,h1,h2,hk=>by
  unfold bindC;exact NS (i:=i) (du.mp nd).2 (by simpa using h1) (by simpa using h2) hk
abbrev start(N:@&Str)(vs:@&V):St:=vs.map some++List.replicate (-N- -vs) none
abbrev qd(CX:oN)(P:Program)(w:World)(K:PySem.W.Frag)(mg:Str->Option Value)(base:Heap)(N:@&Str)(qual:Str)(scope:Scope)(f:Addr)(cd:Value)(A:Around)(outer:@&Env)(s:Shared)(H:Hp)(E:XK):Cx where
 prog:=P
 w:=w
 K:=K
 mg:=mg
 base:=base
 A:=A.deeper (envOfC qual scope s⁻¹ f cd)
 N:=N
 dA:=s
 kc:=H
 env:=envOfC qual scope s⁻¹ f cd
 outer:=outer
 stack:=envOfC qual scope s⁻¹ f cd::outer
 ex:=[]
 calm:=true
 fn:=λx=>true
 pn:=[]
 xe:=λe s'=>wpAny (model P w) (A.deeper (envOfC qual scope s⁻¹ f cd)) (leaving (envOfC qual scope s⁻¹ f cd) e) (λx pB=>CX outer H s E e pB) (λe' pB=>CX outer H s E e' pB) s'
def Ec{sc:Scope}{n:Nat}(h:sc.names.lookup x=!.cell):∃c,(cellsFrom n sc.names []).lookup x=!c:=by
 let q:=dS sc.names n [] (.inl h);exact fj.mp q
def a84{K:PySem.W.Frag}{mg:Str->Option Value}{qual:Str}{scope:Scope}{cd:Value}{outer:@&Env}{s1:Shared}{E:XK}(S:jw N ps scope)(hd:A.handled=none)(e0:sJ P w K mg base A outer s H)(hl:-vs=-ps)(r:Vals vs us)(x:InCallC s s⁻¹ (bindL (envOfC qual scope s⁻¹ f cd).kindOf (ps.zip us) λt=>none) (cellsFrom (s⁻¹+1) scope.names []) (bindC (envOfC qual scope s⁻¹ f cd).kindOf (ps.zip us) λt=>none) s1) :
  Inv (qd CX P w K mg base N qual scope f cd A outer s H E) [] (start N vs) H s1:=by
 let gy:-ps<=-N:=by have:=iR List.length S.pre;grind
 let#[h1,tk,rfl,hk]:=x.done;let vz:∀b:Addr,b∉(qd CX P w K mg base N qual scope f cd A outer s H E).ex:=λb z=>absurd (show b∈([]:@&Addr) from z) #[_];refine #[#[e0.mod,S.kind,rfl,rfl,aw _,λy z c h1 h2=>?_,λy hy=>?_,λy c t h=>?_,λt=>hd,Around.frames_deeper e0.frames,.inr #[rfl,rfl],λb z=>absurd z (vz b),e0.bs,e0.qO,λb t t=>vz b,λb z=>absurd z (vz b),e0.T1,e0.sv],
  rfl,e0.bare,Un.kept hk,#[_,x.toInCall.ns,λi y v h1 h2 h3=>?_],λy c h=>#[_,x.cell y c h],e0.bZ.fresh (aw _),λy c h=>?_,λp hp=>absurd (show p ∈ ([]:@&(Addr × Obj)) from hp) #[_],e0.bZ.kept hk,?_,λkd z=>absurd (show (none:Option (List (Option V)))=some kd from z) #[_]]
 .exact name_of_addr x.apart (aS h1) (aS h2)
 .rcases hy with hy|hy
  .exact Ec hy
  .exact absurd rfl (S.nX _ (aS hy))
 .exact eT (x.above y c (aS h))
 .let hi:i< -vs:=by
   unfold start at h2;by_cases hi:i< -vs
   .exact hi
   .rw[bE (by simpa using hi)] at h2;rw[fG] at h2
    simp_all
  let ha:vs[i]?=!v:=by
   unfold start at h2;rw[aH (by simpa using hi),aj] at h2;cases e:vs[i]? with
   |none=>rw[e] at h2;cases h2
   |some a=>rw[e] at h2;cases h2;rfl
  let#[u,hu,rv]:=r.get ha;let hp:ps[i]?=!y:=by
   rw[<- S.pre,dC ()];exact h1
  let Hv:ps.Nodup:=by rw[<- S.pre];exact S.nd.sublist (List.take_sublist _ _)
  refine#[u,rv,?_];rcases S.par y (aB hp) with k|k
  .exact .inl #[k,NU Hv hp hu k]
  .let#[c,e]:=Ec (n:=s⁻¹+1) k;refine .inr #[.inl k,c,e,?_];let q:=x.cell y c e;rw[NS Hv hp hu (by change scope.names.lookup y≠_;rw[k];decide)] at q;exact q
 .exact e0.bZ.fresh (eT (x.above y c (aS h)))
 .unfold start;change _=-N
  simp_all
def XR{K:PySem.W.Frag}{mg:Str->Option Value}{name qual:Str}{params:Arguments}{scope:Scope}{dV kV doc pm gs ct oc:Value}{an od:Option Addr}{nH:Array (Option Value)}(lk:K.lookup f=!#[oc,od,.func (PySem.W.fnOf name qual params body scope dV kV doc pm an gs ct),nH])(nk:PySem.W.codeIn K gs qual=true)(S:jw N ps scope)(len:∀vs H Q E,sp vs H Q E->-vs=-ps)(wB:∀ (A:Around) (outer:@&Env) (s:Shared) (H:Hp) (vs:@&V) (Q:VK) (E:XK),w6 k (A.deeper (envOfC qual scope s⁻¹ f gs))->sp vs H Q E ->
   ∃ t,kE (qd CX P w K mg base N qual scope f gs A outer s H E) body t/\t { nx:=λz H'=>Q .bg H',rt:=Q } (start N vs) H) :
  iu P w K mg base CX (k+1) f (PySem.W.fnOf name qual params body scope dV kV doc pm an gs ct) ps sp:=by
 refine#[len,λA outer s H args us vs Q E hr e0 hb r nJ=>?_];let hl:=len _ _ _ _ nJ;let KX:K.In s.heap:=e0.mod.oi.keeps λb o e=>(e0.bs b o e).1;let lim:s.heap.NoLimit:=e0.mod.nolimit.keeps λb o e=>(e0.bs b o e).1;let wg:∀y∈ps.zip us,scope.names.lookup y.1=!.local\/(scope.names.lookup y.1=!.cell/\((cellsFrom (s⁻¹+1) scope.names []).lookup y.1).isSome=true):=λ⟨n,v⟩ hy=>by
  rcases S.par n (nN hy).1 with q|q
  .exact .inl q
  .exact .inr #[q,dS _ _ _ (.inl q)]
 refine codeAny_call_function hr.depth (KX _ _ lk) rfl S.co S.gen rfl (PySem.W.codeRec_of KX nk) (hb _ _ _ _ ?_);refine wpAny_newFunctionEnv_cells S.kind wg λenv he s1 x=>?_;subst he;refine#[lim.keeps x.toInCall.keep,codeAny_func ?_];let#[t,ht,hq]:=wB A outer s H vs Q E (hr.deeper _) nJ;let I:Inv (qd CX P w K mg base N qual scope f gs A outer s H E) [] (start N vs) H s1:=a84 S hr.hd e0 hl r x;refine bC (ht [] s1 (start N vs) H _ I hq) (λfl s' hs=>?_) λe s' hs=>hs;let fin:∀{cB:St} {H':Hp} {v:V} {u:Value},Inv (qd CX P w K mg base N qual scope f gs A outer s H E) [] cB H' s'->RelV v u->Q v H'->CE outer P w H s Q u s' :=
  λ{cB H' v u} J rv q=>#[v,H',J.os,J.bare,J.base,J.bZ,rv,q]
 cases fl with
 |ret u =>
  let#[v,cB,H',J,rv,q]:=hs;exact fin J rv q
 |next =>
  let#[cB,H',J,q]:=hs;exact fin (v:=V.bg) (u:=Value.none) J rfl q
 |brk =>
  let#[_,_,_,q]:=hs
  simp_all
 |cont =>
  let#[_,_,_,q]:=hs
  simp_all
section
variable{id T:String}{r:@&V->Hp->VK->Prop}
abbrev AM(r:@&V->Hp->VK->Prop)(t:TA):TE:=λZ H Q=>t Z H λvs H1=>r vs H1 Q
def V4(hc:m9 X (.builtin id) r)(hg:Gl X x)(hm:X.mg x=none)(hv:bootBuiltins x=!.builtin id)(ha:PA X (e::es) t)(hn:x≠"__name__":=by decide)(iX:(x==("__debug__":Str))=false:=by decide)(he:starEach (e::es) X.env=(false,eval e X.env)::starEach es X.env:=by rfl)(gy:(backTo pos (starEach es X.env)).any (·.1)=false:=by rfl):PE X (.Call (.Name x p) (e::es) [] pos) (AM r t):=by
 intro pi s Z H Q I h;refine cY (O4 I hg hm hv ?_ hn iX);exact PyProof.Rows.callWith_builtin1 (cI (ha pos pi s Z H _ I h) (by rintro us s1 ⟨vs,H1,I1,r1,q1⟩;exact hc pi s1 Z H1 vs us Q I1 r1 q1)) he gy
def K2(hc:m9 X (.type T) r)(hg:Gl X x)(hm:X.mg x=none)(hv:bootBuiltins x=!.type T)(ha:PA X (e::es) t)(hn:x≠"__name__":=by decide)(iX:(x==("__debug__":Str))=false:=by decide)(he:starEach (e::es) X.env=(false,eval e X.env)::starEach es X.env:=by rfl)(gy:(backTo pos (starEach es X.env)).any (·.1)=false:=by rfl):PE X (.Call (.Name x p) (e::es) [] pos) (AM r t):=by
 intro pi s Z H Q I h;refine cY (O4 I hg hm hv ?_ hn iX);exact bT (cI (ha pos pi s Z H _ I h) (by rintro us s1 ⟨vs,H1,I1,r1,q1⟩;exact hc pi s1 Z H1 vs us Q I1 r1 q1)) he gy
end
end L2
namespace HT
open PySem PyProof.Rows
section
variable{prog:Program}{w:World}{A:Around}{E:Value->Shared->Prop}{s:Shared}
def bA1{t b:Addr}{vs ws:@&Value}{Q:Value->Shared->Prop}(ht:IsTup s.heap t vs.toArray)(hb:IsTup s.heap b ws.toArray)(hv:vs≠[])(h1:ws=[]->Q (.ref t) s)(h2:ws≠[]->Q (.ref s⁻¹) { s with heap:=s.heap.push { cls:=.type "tuple",data:=.seq (vs++ws).toArray } })(hsz:-vs+-ws<=sizeLine):wpAny (model prog w) A (binaryOp .Add (.ref t) (.ref b)) Q E s:=by
 let#[#[cls,dd,data,sl],ho,hc,n,hd]:=id ht;let#[#[xh,qN,data2,nS],kM,pO,n2,hd2]:=id hb;subst hc hd pO hd2;let e:vs.toArray++ws.toArray=(vs++ws).toArray:=by simp
 by_cases hw:ws=[]
 .exact concat_meets #[_,ho,rfl] #[_,kM,rfl] jS nv iY iS (iG _ _)
   (tuple_addW1 t b vs.toArray ws.toArray n n2 dd qN sl nS (by simpa using hv) (by simp[hw])) #[ho,kM,h1 hw]
 .refine concat_meets #[_,ho,rfl] #[_,kM,rfl] jS nv iY iS (iG _ _)
   (tuple_addW2 t b vs.toArray ws.toArray n n2 dd qN sl nS (by simpa using hv) (by simpa using hw) ()) #[ho,kM,?_]
  rw[e];exact h2 hw
abbrev et(n d:Nat):Option Int->Nat
 |none=>d
 |some v=>if v<0 then(v+(n:Int)).toNat else min v.toNat n
def Mi(v:Int)(n d:Nat):(if v<0 then max (v+(n:Int)) 0 else min v (n:Int))=((et n d (!v):Nat):Int):=by
 show(if v<0 then max (v+(n:Int)) 0 else min v (n:Int))=(((if v<0 then(v+(n:Int)).toNat else min v.toNat n):Nat):Int)
 grind
def a11(lo hi:Option Int)(n:Nat):Builtin.Slice.sliceAdjust lo hi 1 (n:Int)=(((et n 0 lo:Nat):Int),((et n n hi:Nat):Int)):=by
 refine Prod.ext ?_ ?_
 .cases lo with
  |none=>rfl
  |some v=>exact Mi v n 0
 .cases hi with
  |none=>rfl
  |some v=>exact Mi v n n
def aV7(i j:Nat):Builtin.Slice.slicePlaces (i:Int) (j:Int) 1=j-i:=by
 unfold Builtin.Slice.slicePlaces;let h1:(1:Int)>0:=by omega
 simp only[h1,if_true,Int.ediv_one];split<;>omega
def Lr{v:Value}{o:Option Int}{Q:Option Int->Shared->Prop}(p:IsPart v o)(h:Q o s):wpAny (model prog w) A (Builtin.Slice.slicePartIndex v) Q E s:=by
 cases p with
 |none=>exact slicePart_none h
 |int i t=>exact slicePart_int h
def V1{sl:Addr}{vl vu:Value}{lo hi:Option Int}{n:Nat}{Q:Int×Int×Nat->Shared->Prop}(hs:s.heap.IsSliceOf sl vl vu .none)(pl:IsPart vl lo)(pu:IsPart vu hi)(h:Q (((et n 0 lo:Nat):Int),1,et n n hi-et n 0 lo) s):wpAny (model prog w) A (Builtin.Slice.sliceApplied (.ref sl) (pure (n:Int))) Q E s:=by
 let#[os,rL,qz,wy]:=id hs;refine aa (aa (wpAny_field rL wy (x:=vl) rfl (aa (wpAny_field rL wy (x:=vu) rfl (aa (wpAny_field rL wy (x:=.none) rfl (ak ?_)))))));refine aa (slicePart_none ?_);refine aa (Lr pl (aa (Lr pu (aa (ak ?_)))));change wpAny _ _ (match Builtin.Slice.sliceAdjust lo hi 1 (n:Int) with|(lo,hi)=>pure (lo,(1:Int),Builtin.Slice.slicePlaces lo hi 1)) _ _ s;rw[a11 lo hi n];change wpAny _ _ (pure (((et n 0 lo:Nat):Int),(1:Int),Builtin.Slice.slicePlaces ((et n 0 lo:Nat):Int) ((et n n hi:Nat):Int) 1)) _ _ s;rw[aV7];exact ak h
def WD(xs:Array Value)(i k:Nat):((List.range k).filterMap λ(m:Nat)=>xs[((i:Int)+(m:Int)*1).toNat]?).toArray=((xs.toList.drop i).take k).toArray:=by
 let e:(λ(m:Nat)=>xs[((i:Int)+(m:Int)*1).toNat]?)=λm=>xs[i+m]?:=by
  funext m
  have:((i:Int)+(m:Int)*1).toNat=i+m:=by omega
  rw[this]
 rw[e];have:=pick_run xs i k;rw[List.filterMap_map] at this;let e2:((λx=>xs[x]?) ∘ λx=>i+x)=λm=>xs[i+m]?:=rfl;rw[e2] at this;rw[this]
def am0{t sl:Addr}{items:Array Value}{vl vu:Value}{lo hi:Option Int}{Q:Value->Shared->Prop}(ht:IsTup s.heap t items)(hs:s.heap.IsSliceOf sl vl vu .none)(pl:IsPart vl lo)(pu:IsPart vu hi)(hw:¬(et items.size 0 lo=0/\et items.size items.size hi=items.size))(h:Q (.ref s⁻¹) { s with heap:=s.heap.push { cls:=.type "tuple",data:=.seq ((items.toList.drop (et items.size 0 lo)).take (et items.size items.size hi-et items.size 0 lo)).toArray } })(hsz:items.size<=sizeLine):wpAny (model prog w) A (getItem (.ref t) (.ref sl)) Q E s:=by
 let mz:sizeOk (.seq ((items.toList.drop (et items.size 0 lo)).take (et items.size items.size hi-et items.size 0 lo)).toArray):=by
  show((items.toList.drop (et items.size 0 lo)).take (et items.size items.size hi-et items.size 0 lo)).toArray.size<=sizeLine;rw[aQ,dg,List.length_drop,cz];omega
 let#[os,rL,qz,wy]:=id hs;let Cd:s.TypeIs (.ref sl) "slice":=#[os,rL,qz]
 unfold getItem
 try with_reducible refine bD ?_
 refine aa (wpAny_sequenceKey ht.typeIs ∅ ?_);refine aa (fT (name:=Str.ofString "__getitem__") ht.typeIs bW
  (cJ bW ht.typeIs entry_tuple_getitem ?_ (args_tuple_getitem _ _)))
 change wpAny _ _ (Builtin.Tuple.tupleItemsOf (.ref t) >>= _) _ _ s;refine aa (tupleItemsOf_ ht ?_);refine aa (dJ Cd ?_);refine aa (V1 hs pl pu ?_);let lI:¬((((et items.size 0 lo:Nat):Int)==0&&(1:Int)==1&&(et items.size items.size hi-et items.size 0 lo)==items.size)=true):=by
  grind
 change wpAny _ _ (if(((et items.size 0 lo:Nat):Int)==0&&(1:Int)==1&&(et items.size items.size hi-et items.size 0 lo)==items.size)=true then _ else _) _ _ s;rw[az lI,WD]
 first
  |exact wpAny_bind (m:=Builtin.Tuple.tupleExact _) (wpAny_newObj_type (wpAny_pure #[_,rfl,wpAny_pure h]) mz)
  |exact wpAny_bind (m:=Builtin.Tuple.tupleExact _) (wpAny_newObj_type (wpAny_bind (wpAny_pure (wpAny_pure #[_,rfl,wpAny_pure h]))) mz)
  |exact wpAny_bind (wpAny_bind (m:=Builtin.Tuple.tupleExact _) (wpAny_newObj_type (wpAny_pure (wpAny_pure #[_,rfl,wpAny_pure h])) mz))
  |exact wpAny_bind (wpAny_bind (m:=Builtin.Tuple.tupleExact _) (wpAny_newObj_type (wpAny_pure #[_,rfl,wpAny_pure h]) mz))
end
end HT
namespace L2
open PySem PySem.Spec PyProof.Rows
variable{X:Cx}{e:Expr}{pos:Pos}{n t':Nat}{α:Type}{a b:Addr}{pi:@&(Addr×Obj)}{Z:St}{H H':Hp}{s:Shared}{bh:@&Value}{A:Around}{y x:V}{u:Value}{o:Option V}{w:World}{E:Value->Shared->Prop}{kvs:@&(List Key×V)}{P:Program}
noncomputable abbrev TO:=St->Hp->(Option Int->Hp->Prop)->Prop
abbrev PO(X:Cx)(e:Option Expr)(t:TO):Prop :=
 ∀(pi:@&(Addr×Obj)) (s:Shared) (Z:St) (H:Hp) (Q:Option Int->Hp->Prop),Inv X pi Z H s->t Z H Q ->
  wpAny (model X.prog X.w) X.A (evalPart e X.env) (λu s'=>∃o H',Inv X pi Z H' s'/\IsPart u o/\Q o H') X.xe s
abbrev Vq:TO:=λx H Q=>Q none H
abbrev Ze(t:TE):TO:=λZ H Q=>t Z H λx H1=>∃i,x=.int i/\Q (!i) H1
section
variable{te:TE}{lo hi:Option Expr}{tl th:TO}{p2:Pos}
def MM:PO X none Vq:=by
 intro pi s Z H Q I h;exact ak #[none,H,I,.none,h]
def zK(h:PE X e te):PO X (!e) (Ze te):=by
 intro pi s Z H Q I hw;refine cI (h pi s Z H _ I hw) λu s1 bo=>?_;let#[x,H1,I1,r1,q1]:=bo;let#[i,rfl,q]:=q1;let#[t,rfl]:=r1;exact#[!i,H1,I1,.int i t,q]
abbrev ye(X:Cx)(r:V->Option Int->Option Int->Hp->VK->Prop):Prop :=
 ∀(pi:@&(Addr×Obj)) (s:Shared) (Z:St) (H:Hp) (x:V) (v vl vu:Value) (lo hi:Option Int) (sl:Addr) (Q:VK),Inv X pi Z H s->RelV x v->s.heap.IsSliceOf sl vl vu .none->IsPart vl lo->IsPart vu hi->r x lo hi H Q ->
  ∃T id,typeLookup (.type T) "__getitem__"=pure (!.builtin id)/\s.TypeIs v T/\wpAny (model X.prog X.w) X.A (getItem v (.ref sl)) (EP X pi Z Q) X.xe s
abbrev Po(r:V->Option Int->Option Int->Hp->VK->Prop)(te:TE)(tl th:TO):TE:=λZ H Q=>te Z H λx H1=>tl Z H1 λl H2=>th Z H2 λu H3=>r x l u H3 Q
def Eo{r:V->Option Int->Option Int->Hp->VK->Prop}(hr:ye X r)(he:PE X e te)(hl:PO X lo tl)(hu:PO X hi th):PE X (.Subscript e (.Slice lo hi none p2) pos) (Po r te tl th):=by
 intro pi s Z H Q I h;refine Subscript_ (cI (he pi s Z H _ I h) λv s1 bo=>?_);let#[x,H1,I1,r1,q1]:=bo;refine wpAny_Slice (cI (hl pi s1 Z H1 _ I1 q1) ?_);rintro vl s2 ⟨l,H2,I2,pl,q2⟩;refine cI (hu pi s2 Z H2 _ I2 q2) λvu s3 bo=>?_;let#[u,H3,I3,pu,q3]:=bo;refine ak ?_;let I4:Inv X pi Z H3 { s3 with heap:=s3.heap.push { cls:=.type "slice",data:=.fields (List.toArray [vl,vu,.none]) } }:=I3.kept (t':=s3.toks) λb ob q=>ao _ q;let#[T,id,hT,ht,hg]:=hr pi { s3 with heap:=s3.heap.push { cls:=.type "slice",data:=.fields (List.toArray [vl,vu,.none]) } } Z H3 x v vl vu l u s3⁻¹ Q I4 r1 (Heap.IsSliceOf.new ..) pl pu q3;exact tail_any (ops:=[.ref s3⁻¹,v]) ht hT hg (by rfl)
abbrev W0(xs:@&V)(lo hi:Option Int):@&V:=(xs.drop (HT.et (-xs) 0 lo)).take (HT.et (-xs) (-xs) hi-HT.et (-xs) 0 lo)
def Lv(xs:@&V)(lo hi:Option Int):(W0 xs lo hi).length<=-xs:=by
 unfold W0;rw[dg,List.length_drop];omega
abbrev b44(K:PySem.W.Frag):V->Option Int->Option Int->Hp->VK->Prop:=λx lo hi H Q=>∃a xs,x=.ref a/\iO K H a xs /\
 ¬(HT.et (-xs) 0 lo=0/\HT.et (-xs) (-xs) hi=-xs)/\∀p,H p=none->Q (.ref p) (upd H p (.tup (W0 xs lo hi)))
def bE9:ye X (b44 X.K):=by
 intro pi s Z H x v vl vu lo hi sl Q I rx hs pl pu h;let#[a,xs,rfl,hx,hw,q]:=h;cases rx;let#[bh,r,ht,hz]:=I.tuple hx;let hlen:bh.toArray.size=-xs:=by exact r.length.symm
 refine#["tuple",_,bW.lookup,ht.typeIs,?_];refine HT.am0 ht hs pl pu (by rw[hlen];exact hw) ?_ (by rw[hlen];exact hz);rw[hlen];refine#[.ref s⁻¹,_,I.laid (t':=s.toks) (o:=.tup (W0 xs lo hi)) (λb ob q=>ao _ q) (aw _) ?_,rfl,q _ (I.bZ.fresh (aw _))];exact#[aG (Lv xs lo hi) hz,_,(r.drop (HT.et (-xs) 0 lo)).take (HT.et (-xs) (-xs) hi-HT.et (-xs) 0 lo),L9.new _ _]
abbrev YL(K:PySem.W.Frag):R2:=λx y H Q=>∃a b xs ys,x=.ref a/\y=.ref b/\iO K H a xs/\iO K H b ys/\xs≠[]/\-xs+-ys<=sizeLine /\
 (ys=[]->Q (.ref a) H)/\(ys≠[]->∀p,H p=none->Q (.ref p) (upd H p (.tup (xs++ys))))
def Vals.U2{xs:@&V}{us:@&Value}(r:Vals xs us):us=[]↔xs=[]:=by
 cases r with
 |nil=>simp
 |cons _ _=>simp
def Uj:gf X (binaryOp .Add) (YL X.K):=by
 intro pi s Z H x y v u Q I rx ry h;let#[a,b,xs,ys,rfl,rfl,ha,hb,hx,hz,q1,q2]:=h;cases rx;cases ry;let#[bh,r1,p1,_]:=I.tuple ha;let#[mZ,r2,p2,_]:=I.tuple hb;refine HT.bA1 p1 p2 (λz=>hx (r1.U2.mp z)) (λz=>#[.ref a,H,I,rfl,q1 (r2.U2.mp z)]) (λz=>?_) (by rw[<- -r1,<- -r2];exact hz);refine#[.ref s⁻¹,_,I.laid (t':=s.toks) (o:=.tup (xs++ys)) (λb ob q=>ao _ q) (aw _) ?_,rfl,q2 (λw=>z (r2.U2.mpr w)) _ (I.bZ.fresh (aw _))];exact#[by rw[ba];exact hz,_,r1.append r2,L9.new _ _]
end
abbrev mx(n:Nat)(i:Int):Option Nat:=if 0<=i then(if i<n then some i.toNat else none) else if -(n:Int)<=i then some (i+n).toNat else none
abbrev ia{α:Type}(xs:List α)(i:Int):Option α:=(mx (-xs) i).bind λj=>xs[j]?
def MA{i:Int}{j:Nat}(h:mx n i=!j):seqIndex? i n=!j/\j<n/\-(n:Int)<=i/\i<n:=by
 unfold mx at h;by_cases h0:0<=i
 .rw[ay h0] at h;by_cases h1:i<n
  .rw[ay h1] at h;let e:i.toNat=j:=aN h;exact#[by rw[seqIndex_of h0 h1,e],by omega,by omega,h1]
  simp_all
 .rw[az h0] at h;by_cases h1:-(n:Int)<=i
  .rw[ay h1] at h;let e:(i+n).toNat=j:=aN h;exact#[by rw[seqIndex_neg () h1,e],by omega,h1,by omega]
  simp_all
def Mh{xs:List α}{i:Int}{v:α}(h:ia xs i=!v):∃j,seqIndex? i (-xs)=!j/\xs[j]?=!v/\j< -xs/\-(-xs:Int)<=i/\i< -xs:=by
 unfold ia at h;cases e:mx (-xs) i with
 |none=>simp_all
 |some j =>
  rw[e] at h;let#[h1,h2,h3,h4]:=MA e;exact#[j,h1,h,h2,h3,h4]
def A2{xs:List α}{j:Nat}{v:α}(h:xs[j]?=!v):ia xs (j:Int)=!v:=by
 let hj:j< -xs:=(av.mp h).1;let e:mx (-xs) (j:Int)=!j:=by
  unfold mx
  simp_all
 unfold ia;rw[e];exact h
abbrev DE(b:Expr):Prop:=∀o i,subscripted b false o i=operate [o,i] (getItem o i)
abbrev uM(X:Cx)(r:R2):Prop :=
 ∀(value slice:Expr) (pi:@&(Addr×Obj)) (s:Shared) (Z:St) (H:Hp) (x y:V) (v u:Value) (Q:VK),Inv X pi Z H s->RelV x v->RelV y u->r x y H Q ->
  subscripted slice false v u=operate [v,u] (getItem v u)->wpAny (model X.prog X.w) X.A (subscriptTail value slice v u) (EP X pi Z Q) X.xe s
abbrev nu(X:Cx)(id:String)(r:V->@&V->Hp->VK->Prop):Prop :=
 ∀(pi:@&(Addr×Obj)) (s:Shared) (Z:St) (H:Hp) (x:V) (xs:@&V) (v:Value) (us:@&Value) (Q:VK),Inv X pi Z H s->RelV x v->Vals xs us->r x xs H Q ->
  wpAny (model X.prog X.w) X.A (call (.builtin id) (v::us)) (EP X pi Z Q) X.xe s
section
variable{a b:Expr}{ta tb:TE}
def JB{r:R2}(hr:uM X r)(ha:PE X a ta)(hb:PE X b tb)(hs:DE b):PE X (.Subscript a b pos) (tu r ta tb):=by
 intro pi s Z H Q I h;exact Subscript_ (Dp ha hb I h λv u s2 x y H2 I2 rx ry q=>hr a b pi s2 Z H2 x y v u Q I2 rx ry q (hs _ _))
abbrev b49(K:PySem.W.Frag):R2:=λx y H Q=>∃p xs i v,x=.ref p/\y=.int i/\fZ K H p xs/\ia xs i=!v/\Q v H
abbrev b48(K:PySem.W.Frag):R2:=λx y H Q=>∃p xs i v,x=.ref p/\y=.int i/\iO K H p xs/\ia xs i=!v/\Q v H
def TR:uM X (b49 X.K):=by
 intro value slice pi s Z H x y v u Q I rx ry h hs;let#[p,xs,i,z,rfl,rfl,hq,he,q]:=h;cases rx;let#[t,rfl]:=ry;let#[bh,r,pl,hz]:=I.list hq;let#[j,h1,h2,h3,h4,h5]:=Mh he;let#[w,ew,fX]:=r.get h2;let hl:=-r;let hn:=zr;let fin:EP X pi Z Q w s:=#[z,H,I,fX,q]
 by_cases h0:0<=i
 .let hj:i.toNat=j:=by
   rw[seqIndex_of h0 h5] at h1;exact aN h1
  exact item_listR pl.isList h0 () (by rw[hj];simpa using ew) fin hs
 .let hj:(i+(bh.toArray.size:Int)).toNat=j:=by
   rw[seqIndex_neg () h4] at h1;rw[aQ,<- hl];exact aN h1
  exact subscriptTail_builtinR (x:=w) pl.isList.typeIs slot_list_getitem.lookup
   (wpAny_getItem_list_neg (Q:=λr s'=>r=w/\EP X pi Z Q r s') pl.isList () (by rw[aQ]<;>omega) () (by rw[hj];simpa using ew) #[rfl,fin]) hs
def ZV:uM X (b48 X.K):=by
 intro value slice pi s Z H x y v u Q I rx ry h hs;let#[p,xs,i,z,rfl,rfl,hq,he,q]:=h;cases rx;let#[t,rfl]:=ry;let#[bh,r,pl,hz]:=I.tuple hq;let#[j,h1,h2,h3,h4,h5]:=Mh he;let#[w,ew,fX]:=r.get h2;let hl:=-r;let hn:=zr;let fin:EP X pi Z Q w s:=#[z,H,I,fX,q]
 exact subscriptTail_builtinR (x:=w) pl.typeIs slot_tuple_getitem.lookup
  (getItem_tuple (j:=j) (Q:=λr s'=>r=w/\EP X pi Z Q r s') pl () () (by rw[aQ,<- hl];exact h1) (by simpa using ew) #[rfl,fin]) hs
def aX2(bh:@&Value)(n j:Nat)(u:Value):Obj.mapSeq (·.setIfInBounds j u) { cls:=.type "list",data:=.seq bh.toArray n }={ cls:=.type "list",data:=.seq (bh.set j u).toArray n }:=by
 simp[Obj.mapSeq]
def Inv.lst{pi:@&(Addr×Obj)}{Z:St}{H:Hp}{s:Shared}{p:Addr}{xs:@&V}(I:Inv X pi Z H s)(h:H p=!.lst xs) :
  ∃(bh:@&Value) (n:Nat),Vals xs bh/\s.heap.get? p=some { cls:=.type "list",data:=.seq bh.toArray n }/\-xs<=sizeLine:=by
 let#[z,bh,n,r,e]:=I.bZ p _ h;exact#[bh,n,r,e,z]
def Inv.bM3{p:Addr}{xs ys:@&V}{its':@&Value}{n':Nat}{f:Obj->Obj}(I:Inv X pi Z H s)(h:H p=!.lst xs)(ho:s.heap.get? p=some { cls:=.type "list",data:=.seq bh.toArray n })(hf:f { cls:=.type "list",data:=.seq bh.toArray n }={ cls:=.type "list",data:=.seq its'.toArray n' })(r:Vals ys its')(hz:-ys<=sizeLine)(t:Nat) :
  Inv X pi Z (upd H p (.lst ys)) { s with heap:=s.heap.update p f,toks:=t }:=by
 let e:(s.heap.update p f).get? p=some { cls:=.type "list",data:=.seq its'.toArray n' }:=by
  rw[bu f ho (by rw[hf]<;>rfl),hf]
 refine I.write (x:=p) (e:=p) (by rw[h];trivial) (.inl rfl) (λb u hb q=>(eJ _ _ (bI hb)).trans q) #[_,e] ?_;exact#[hz,its',n',r,e]
abbrev YQ:V->V->V->Hp->(Hp->Prop)->Prop:=λo i v H Q=>∃p xs k j,o=.ref p/\i=.int k/\H p=!.lst xs/\mx (-xs) k=!j/\Q (upd H p (.lst (xs.set j v)))
def set_list:Dj X YQ:=by
 intro pi s Z H o i v ov iv u Q I ro ri rv h;let#[p,xs,k,j,rfl,rfl,hp,hj,q]:=h;cases ro;let#[t,rfl]:=ri;let#[bh,n,r,ho,hz]:=I.lst hp;let#[h1,h2,h3,h4]:=MA hj;let hl:=-r;let hn:=zr;let I':Inv X pi Z (upd H p (.lst (xs.set j v))) { s with heap:=s.heap.update p (Obj.mapSeq (·.setIfInBounds j u)) } :=
  I.bM3 hp ho (aX2 bh n j u) (r.set rv j) (by rw[bN];exact hz) s.toks
 by_cases h0:0<=k
 .let hk:k.toNat=j:=by
   rw[seqIndex_of h0 h4] at h1;exact aN h1
  exact PySem.W.ki_setAt ho h0 () (by rw[aQ,<- hl];exact h4) (by rw[hk];exact#[_,I',q])
 .let hk:(k+(bh.toArray.size:Int)).toNat=j:=by
   rw[seqIndex_neg () h3] at h1;rw[aQ,<- hl];exact aN h1
  exact PySem.W.ki_setBack ho () (by rw[aQ,<- hl];exact h3) () (by rw[hk];exact#[_,I',q])
def aF4(lo hi:Option Int)(n:Nat):(sliceBounds lo hi none n).1=((HT.et n 0 lo:Nat):Int)/\(sliceBounds lo hi none n).2.1=((HT.et n n hi:Nat):Int)/\(sliceBounds lo hi none n).2.2=1:=by
 refine#[?_,?_,rfl]
 .cases lo with
  |none=>rfl
  |some i =>
   simp only[sliceBounds,HT.et,Option.getD_none,show(1:Int)>0 by decide,if_true]
   grind
 .cases hi with
  |none=>rfl
  |some i =>
   simp only[sliceBounds,HT.et,Option.getD_none,show(1:Int)>0 by decide,if_true]
   grind
def aB6(bh:@&Value)(lo hi:Option Int):slicePick bh.toArray lo hi none=((bh.drop (HT.et (-bh) 0 lo)).take (HT.et (-bh) (-bh) hi-HT.et (-bh) 0 lo)).toArray:=by
 let#[h1,h2,h3]:=aF4 lo hi bh.toArray.size;unfold slicePick;rw[h1,h2,h3];simp only[sliceRange_one,pick_run,List.size_toArray]<;>rfl
abbrev b45(K:PySem.W.Frag):V->Option Int->Option Int->Hp->VK->Prop:=λx lo hi H Q=>∃a xs,x=.ref a/\fZ K H a xs/\∀p,H p=none->Q (.ref p) (upd H p (.lst (W0 xs lo hi)))
def Vf:ye X (b45 X.K):=by
 intro pi s Z H x v vl vu lo hi sl Q I rx hs pl pu h;let#[a,xs,rfl,hx,q]:=h;cases rx;let#[bh,r,ht,hz]:=I.list hx;let hlen:=-r;refine#["list",_,slot_list_getitem.lookup,ht.isList.typeIs,?_];refine wpAny_getItem_list_slice ht.isList hs pl pu .none #[_] ?_ (by grind);rw[aB6,<- hlen];refine#[.ref s⁻¹,_,I.laid (t':=s.toks) (o:=.lst (W0 xs lo hi)) (λb ob q=>ao _ q) (aw _) ?_,rfl,q _ (I.bZ.fresh (aw _))];exact#[aG (Lv xs lo hi) hz,_,0,(r.drop (HT.et (-xs) 0 lo)).take (HT.et (-xs) (-xs) hi-HT.et (-xs) 0 lo),aE _ rfl]
abbrev O7:V->Bool
 |.bg=>true
 |.bl _=>true
 |.int _=>true
 |.str _=>true
 |_=>false
abbrev mL:V->V->Bool
 |.bg,.bg=>true
 |.bl a,.bl b=>a==b
 |.bl a,.int b=>(if a then 1 else 0)==b
 |.int a,.bl b=>a==(if b then 1 else 0)
 |.int a,.int b=>a==b
 |.str a,.str b=>a==b
 |_,_=>false
def ZJ{v:Value}(ry:RelV y u)(rx:RelV x v)(fy:O7 y=true)(fx:O7 x=true):SeqAt.EqAt A s u v (mL y x):=by
 cases y with
 |bg =>
  cases ry;cases x with
  |bg=>cases rx;exact SeqAt.EqAt.same _
  |bl b=>cases rx;exact SeqAt.EqAt.none_bool b
  |int b=>let#[t,rfl]:=rx;exact SeqAt.EqAt.none_int b t
  |str b=>let#[t,rfl]:=rx;exact SeqAt.EqAt.none_str b t
  |_=>exact absurd (show false=true from fx) Bool.false_ne_true
 |bl a =>
  cases ry;cases x with
  |bg=>cases rx;exact SeqAt.EqAt.bool_none a
  |bl b=>cases rx;exact SeqAt.EqAt.bool_bool a b
  |int b=>let#[t,rfl]:=rx;exact SeqAt.EqAt.bool_int a b t
  |str b=>let#[t,rfl]:=rx;exact SeqAt.EqAt.bool_str a b t
  |_=>exact absurd (show false=true from fx) Bool.false_ne_true
 |int a =>
  let#[t',rfl]:=ry;cases x with
  |bg=>cases rx;exact SeqAt.EqAt.int_none a t'
  |bl b=>cases rx;exact SeqAt.EqAt.int_bool a t' b
  |int b=>let#[t,rfl]:=rx;exact SeqAt.EqAt.int_int a t' b t
  |str b=>let#[t,rfl]:=rx;exact SeqAt.EqAt.int_str a t' b t
  |_=>exact absurd (show false=true from fx) Bool.false_ne_true
 |str a =>
  let#[t',rfl]:=ry;cases x with
  |bg=>cases rx;exact SeqAt.EqAt.str_none a t'
  |bl b=>cases rx;exact SeqAt.EqAt.str_bool a t' b
  |int b=>let#[t,rfl]:=rx;exact SeqAt.EqAt.str_int a t' b t
  |str b=>let#[t,rfl]:=rx;exact SeqAt.EqAt.str_str a t' b t
  |_=>exact absurd (show false=true from fx) Bool.false_ne_true
 |_=>exact absurd (show false=true from fy) bY
abbrev uh(x:V)(u:Value):Bool:=match u with
 |.none=>mL .bg x
 |.bool b=>mL (.bl b) x
 |.int i _=>mL (.int i) x
 |.str z _=>mL (.str z) x
 |_=>false
def FQ(r:RelV y u)(f:O7 y=true):uh x u=mL y x:=by
 cases y with
 |bg=>cases r;rfl
 |bl b=>cases r;rfl
 |int i=>let#[t,rfl]:=r;rfl
 |str z=>let#[t,rfl]:=r;rfl
 |_=>exact absurd (show false=true from f) bY
def El{A:Around}{s:Shared}{x:V}{v:Value}(rx:RelV x v)(fx:O7 x=true):∀{xs:@&V} {us:@&Value},Vals xs us->xs.all O7=true->∀u∈us,SeqAt.EqAt A s u v (uh x u)
 |_,_,.nil,_=>λu hu=>by cases hu
 |y::xs,u::us,.cons r t,f=>λu' hu=>by
  rw[kG,aU] at f;rcases aJ.mp hu with rfl|hu
  .rw[FQ r f.1];exact ZJ r rx f.1 fx
  .exact El rx fx t f.2 u' hu
def aK8:m9 X (.builtin "len") (λxs H Q=>∃p ys,xs=[.ref p]/\(fZ X.K H p ys\/iO X.K H p ys)/\Q (.int (-ys)) H):=by
 intro pi s Z H xs us Q I r h;let#[p,ys,rfl,hq,q]:=h;let#[u,rfl,rx]:=vals1 r;cases rx;let hn:=zr;rcases hq with hq|hq
 .let#[bh,r',pl,hz]:=I.list hq;let hlen:=-r';exact Calls.call_len_list pl.isList (by simp only[List.size_toArray]<;>omega) #[.int (-ys),H,I.tok _,#[s.toks+1,by rw[aQ,hlen]],q]
 .let#[bh,r',pl,hz]:=I.tuple hq;let hlen:=-r';exact len_tuple pl (by simp only[List.size_toArray]<;>omega) #[.int (-ys),H,I.tok _,#[s.toks+1,by rw[aQ,hlen]],q]
def aK7:m9 X (.type "list") (λxs H Q=>∃p ys,xs=[.ref p]/\(fZ X.K H p ys\/iO X.K H p ys)/\∀l,H l=none->Q (.ref l) (upd H l (.lst ys))):=by
 intro pi s Z H xs us Q I r h;let#[p,ys,rfl,hq,q]:=h;let#[u,rfl,rx]:=vals1 r;cases rx;let fin:∀(bh:@&Value),Vals ys bh->-ys<=sizeLine->∀(h':Heap) (c':Nat),(∀b o',s.heap.get? b=!o'->h'.get? b=!o') ->
   h'.get? s⁻¹=some { cls:=.type "list",dict:=none,data:=.seq bh.toArray c',slots:=(List.toArray []) }->EP X pi Z Q (.ref s⁻¹) { s with heap:=h' }:=λbh r' hz h' c' kp e =>
  #[.ref s⁻¹,_,I.laid (t':=s.toks) kp (aw _) (show k9 X.prog X.w _ h' _ (.lst ys) from#[hz,bh,c',r',e]),rfl,q _ (I.bZ.fresh (aw _))]
 rcases hq with hq|hq
 .let#[bh,r',pl,hz]:=I.list hq;let hlen:=-r';let#[o,ho,hc,n,hd]:=pl.isList;exact call_list_seq p (.inl rfl) ho hc hd (λh' c' kp e=>fin bh r' hz h' c' kp e) (by simp_all)
 .let#[bh,r',pl,hz]:=I.tuple hq;let hlen:=-r';let#[o,ho,hc,n,hd]:=pl;exact call_list_seq p (.inr rfl) ho hc hd (λh' c' kp e=>fin bh r' hz h' c' kp e) (by simp_all)
def aC1:m9 X (.type "tuple") (λxs H Q=>∃p ys,xs=[.ref p]/\((fZ X.K H p ys/\∀l,H l=none->Q (.ref l) (upd H l (.tup ys)))\/(iO X.K H p ys/\Q (.ref p) H))):=by
 intro pi s Z H xs us Q I r h;let#[p,ys,rfl,h]:=h;let#[u,rfl,rx]:=vals1 r;cases rx;rcases h with⟨hq,q⟩|⟨hq,q⟩
 .let#[bh,r',pl,hz]:=I.list hq;let hlen:=-r';refine call_tuple_list pl.isList (λh' kp=>?_) (by simp_all);let I1:Inv X pi Z H { s with heap:=h' }:=I.kept (t':=s.toks) kp;let I2:Inv X pi Z (upd H h'.objs.size (.tup ys)) { s with heap:=h'.push { cls:=.type "tuple",data:=.seq bh.toArray } } :=
   I1.laid (t':=s.toks) (λb o e=>ao _ e) (aw _) (show k9 X.prog X.w _ _ _ (.tup ys) from#[hz,bh,r',L9.new _ _])
  exact#[.ref h'.objs.size,_,I2,rfl,q _ (I1.bZ.fresh (aw _))]
 .let#[bh,r',pl,hz]:=I.tuple hq;exact call_tuple_same pl #[.ref p,H,I,rfl,q]
abbrev oR(K:PySem.W.Frag)(T:String)(x:V)(H:Hp):Prop:=match x with
 |.str _=>T="str"
 |.int _=>T="int"
 |.ref p=>(T="list"/\∃xs,fZ K H p xs)\/(T="tuple"/\∃o,K.lookup p=!o/\o.cls=.type "tuple"/\o.dict=none) \/
   (T="dict"/\((∃kvs,H p=!.dK kvs)\/∃kvs,H p=!.dT kvs))\/(T="set"/\∃S n,H p=!.set S n)
 |_=>False
def OA{T:String}{v:Value}(I:Inv X pi Z H s)(r:RelV x v)(ty:oR X.K T x H) :
  s.TypeIs v T/\∀a,v=.ref a->∃ob,s.heap.get? a=!ob/\ob.dict=none:=by
 cases x with
 |str z =>
  let#[t,rfl]:=r;cases (show T="str" from ty);exact#[typeIs_str s z t,λy e=>nomatch e]
 |int i =>
  let#[t,rfl]:=r;cases (show T="int" from ty);exact#[nM s i t,λy e=>nomatch e]
 |ref p =>
  cases r;rcases ty with⟨rfl,xs,hq⟩|⟨rfl,o,hk,hc,hd⟩|⟨rfl,hk⟩|⟨rfl,S,n,hk⟩
  .let#[bh,_,pl,_]:=I.list hq;refine#[pl.isList.typeIs,λa e=>?_];cases e;let#[o,n,e,c,hd,_]:=pl;exact#[o,e,hd]
  .refine#[#[o,I.gN p o hk,hc],λa e=>?_];cases e;exact#[o,I.gN _ o hk,hd]
  .let z:∃o,s.heap.get? p=!o/\o.ExactDict:=by
    rcases hk with⟨kvs,hk⟩|⟨kvs,hk⟩
    .let#[_,_,_,_,o,_,_,e,ex,_]:=I.bZ p _ hk;exact#[o,e,ex]
    .let#[_,_,_,_,o,_,_,e,ex,_]:=I.bZ p _ hk;exact#[o,e,ex]
   let#[o,e,ex]:=z;refine#[#[o,e,ex.1],λa e2=>?_];cases e2;exact#[o,e,ex.2.1]
  .let#[o,_,_,_,e,ex,_]:=I.bZ p _ hk;refine#[#[o,e,ex.1],λa e2=>?_];cases e2;exact#[o,e,ex.2.1]
 |_=>exact False.elim ty
abbrev b33(K:PySem.W.Frag)(T:String)(r:V->@&V->Hp->VK->Prop)(to:TE):TE:=λZ H Q=>to Z H λx H1=>oR K T x H1/\r x [] H1 Q
abbrev Pt(K:PySem.W.Frag)(T:String)(r:V->@&V->Hp->VK->Prop)(to:TE)(t:TA):TE:=λZ H Q=>to Z H λx H1=>oR K T x H1/\t Z H1 λxs H2=>r x xs H2 Q
variable{o:Expr}{es:@&Expr}{to:TE}{t:TA}{name:Str}{apos eP:Pos}{T id:String}{r:V->@&V->Hp->VK->Prop}
def bK0(pa:PlainAttrs T)(slot:Slot T name id)(kf:typeOf (.builtin id)=pure (.type "method_descriptor"))(hm:nu X id r)(ho:PE X o to)(gL:attributeBase o name X.env (eval o X.env)=eval o X.env:=by rfl)(gJ:(apos.endLine==eP.line)=true:=by rfl):PE X (.Call (.Attribute o name apos) [] [] eP) (b33 X.K T r to):=by
 intro pi s Z H Q I h;refine wpAny_Call_method0_late gL gJ (cI (ho pi s Z H _ I h) λv s1 bo=>?_);let#[x,H1,I1,r1,ty,q1]:=bo;let#[h1,h2]:=OA I1 r1 ty;exact#[T,id,pa,slot,kf,h1,h2,gk rfl (PySem.evalArgs_none (hm pi s1 Z H1 x [] v [] Q I1 r1 .nil q1))]
def YE(pa:PlainAttrs T)(slot:Slot T name id)(kf:typeOf (.builtin id)=pure (.type "method_descriptor"))(hm:nu X id r)(ho:PE X o to)(ha:PA X (e::es) t)(gL:attributeBase o name X.env (eval o X.env)=eval o X.env:=by rfl)(mf:((backTo eP (starEach (e :: es) X.env)).all (λx=>~~~x.1) && (backToKw eP (keywordEach [] X.env)).all (λx=>x.1.isSome)
   && decide ((e :: es).length + ([]:@&Keyword).length + (if ([]:@&Keyword).isEmpty then 0 else 1) < 30))=true:=by rfl)(gJ:(apos.endLine==eP.line)=true:=by rfl)(hs:starEach (e::es) X.env=(false,eval e X.env)::starEach es X.env:=by rfl)(fq:(backTo eP (starEach es X.env)).any (·.1)=false:=by rfl) :
  PE X (.Call (.Attribute o name apos) (e::es) [] eP) (Pt X.K T r to t):=by
 intro pi s Z H Q I h;refine wpAny_Call_method_late gL mf gJ rfl (cI (ho pi s Z H _ I h) λv s1 bo=>?_);let#[x,H1,I1,r1,ty,q1]:=bo;let#[h1,h2]:=OA I1 r1 ty;refine#[T,id,pa,slot,kf,h1,h2,?_];let hA:=ha eP pi s1 Z H1 _ I1 q1;rw[hs] at hA ⊢;refine gk (by show(false||(backTo eP (starEach es X.env)).any (·.1))=false;rw[fq]<;>rfl) (gU ?_);exact cI hA (by rintro us s2 ⟨vs,H2,I2,r2,q2⟩;exact hm pi s2 Z H2 x vs v us Q I2 r1 r2 q2)
end
abbrev ON(X:Cx)(id:String)(r:V->@&V->Hp->VK->Prop):Prop :=
 ∀(pi:@&(Addr×Obj)) (s:Shared) (Z:St) (H:Hp) (x:V) (xs:@&V) (v:Value) (us:@&Value) (Q:VK),Inv X pi Z H s->RelV x v->Vals xs us->r x xs H Q ->
  wpAny (model X.prog X.w) X.A (call (.builtin id) (v::us)) (EP X pi Z Q) X.xe s
def Vals.one{us:@&Value}(h:Vals [x] us):∃u,us=[u]/\RelV x u:=by
 cases h with
 |cons r h =>
  cases h;exact#[_,rfl,r]
def Vals.zero:∀{us:@&Value},Vals [] us->us=[]
 |_,.nil=>rfl
def Vals.eraseIdx:∀{xs:@&V} {us:@&Value} (i:Nat),Vals xs us->Vals (xs.eraseIdx i) (us.eraseIdx i)
 |_,_,_,.nil=>.nil
 |_,_,0,.cons _ t=>t
 |_,_,i+1,.cons r t=>.cons r (Vals.eraseIdx i t)
def Vals.reverse{xs:@&V}{us:@&Value}(h:Vals xs us):Vals xs.reverse us.reverse:=by
 induction h with
 |nil=>exact .nil
 |cons r t ih=>rw[iy,iy];exact Vals.append ih (.cons r .nil)
def Vals.rep{xs:@&V}{us:@&Value}(h:Vals xs us):∀k:Nat,Vals (List.replicate k xs).flatten (List.replicate k us).flatten
 |0=>.nil
 |k+1=>by
  exact Vals.append h (Vals.rep h k)
def Kx{α:Type}:∀(l:List α) (i:Nat),(l.eraseIdx i).length<=-l
 |[],_=>aw _
 |_::_,0=>iw _
 |_::r,i+1=>Nat.succ_le_succ (Kx r i)
def foldl_rep(bh:@&Value):∀(k:Nat) (acc:@&Value),
  List.foldl (λx1 x2=>x1++x2) acc.toArray (List.replicate k bh.toArray)=(acc++(List.replicate k bh).flatten).toArray
 |0,acc=>by simp
 |k+1,acc=>by
  let e:acc.toArray++bh.toArray=(acc++bh).toArray:=by simp
  let e2:(acc++bh)++(List.replicate k bh).flatten=acc++(List.replicate (k+1) bh).flatten:=by
   rw[fc,List.flatten_cons,iB]
  rw[<- e2,<- foldl_rep bh k (acc++bh),<- e,fc,nO]
section
variable{l:Addr}{xs ys:@&V}
def Inv.qS{its':@&Value}{f:Array Value->Array Value}{t':Nat}(I:Inv X pi Z H s)(hH:H l=!.lst xs)(e:s.heap.get? l=some { cls:=.type "list",data:=.seq bh.toArray n })(hf:f bh.toArray=its'.toArray)(hv:Vals ys its')(hz:-ys<=sizeLine) :
  Inv X pi Z (upd H l (.lst ys)) { s with heap:=s.heap.update l (Obj.mapSeq f),toks:=t' }:=by
 let q:=PySem.IsL.update e f;rw[hf] at q;refine I.write (x:=l) (e:=l) (by rw[hH];exact trivial) (.inl rfl) (λb' u hb hu=>(eJ s.heap (Obj.mapSeq f) (bI hb)).trans hu) #[_,q] ?_;exact#[hz,its',_,hv,q]
def Inv.Kj{t':Nat}(I:Inv X pi Z H s)(hv:Vals ys bh)(hz:-ys<=sizeLine) :
  Inv X pi Z (upd H s⁻¹ (.lst ys)) { s with heap:=s.heap.push { cls:=.type "list",data:=.seq bh.toArray },toks:=t' } :=
 I.laid (λx x q=>ao _ q) (aw _) #[hz,bh,0,hv,aE _ rfl]
def Inv.fresh(I:Inv X pi Z H s):H s⁻¹=none:=I.bZ.fresh (aw _)
def Inv.xU(I:Inv X pi Z H s)(hH:H l=!.lst xs):-xs<=sizeLine/\∃(bh:@&Value) (n:Nat),Vals xs bh/\-xs=-bh/\s.heap.get? l=some { cls:=.type "list",data:=.seq bh.toArray n }:=by
 let#[z,bh,n,r,e]:=I.bZ l _ hH;exact#[z,bh,n,r,(-r),e]
def Wo(h:n<=sizeLine):Builtin.List.listTooLong n=false:=by
 unfold Builtin.List.listTooLong
 simp_all
end
abbrev UK:V->@&V->Hp->VK->Prop:=λx vs H Q=>∃l xs y,x=.ref l/\vs=[y]/\H l=!.lst xs/\-xs<sizeLine/\Q .bg (upd H l (.lst (xs++[y])))
def a71:ON X "list.append" UK:=by
 intro pi s Z H x vs v us Q I rx rv h;let#[l,xs,y,rfl,rfl,hH,hz,q]:=h;cases rx;let#[u,rfl,ru]:=rv.one;let#[z,bh,n,r,hl,e]:=I.xU hH;refine eI F.slot_list_append #[_,e,rfl] F.entry_list_append (F.args_list_append_2 _ _) (PySem.list_append l bh.toArray n u (by grind)) #[e,?_];refine#[.bg,_,I.qS (its':=bh++[u]) hH e #[_] (r.append (.cons ru .nil)) ?_,rfl,q]
 grind
abbrev bH4:V->@&V->Hp->VK->Prop:=λx vs H Q=>∃l xs i k y,x=.ref l/\vs=[.int i]/\H l=!.lst xs/\-(2 ^ 63)<=i/\i<2 ^ 63/\seqIndex? i (-xs)=!k/\xs[k]?=!y/\Q y (upd H l (.lst (xs.eraseIdx k)))
def Wk:ON X "list.pop" bH4:=by
 intro pi s Z H x vs v us Q I rx rv h;let#[l,xs,i,k,y,rfl,rfl,hH,h1,h2,hk,hy,q]:=h;cases rx;let#[u,rfl,ru]:=rv.one;let#[t,rfl]:=ru;let#[z,bh,n,r,hl,e]:=I.xU hH;let#[w,hw,fX]:=r.get hy;refine eI F.slot_list_pop #[_,e,rfl] F.entry_list_pop (F.args_list_pop_2 _ _)
  (MeetsSeq.list_pop_at l bh.toArray n i t k w (fitsIndex_both h1 h2) (by rw[aQ,<- hl];exact hk) (by simp_all) (by rw[aQ];omega)) #[e,?_]
 refine#[y,_,I.qS (its':=bh.eraseIdx k) hH e ?_ (r.eraseIdx k) ?_,fX,q]
 .simp
 .have:=Kx xs k;omega
abbrev b50:R2:=λx y H Q=>∃l b xs zs,x=.ref l/\y=.ref b/\H l=!.lst xs/\H b=!.lst zs/\-xs+-zs<=sizeLine/\∀p,H p=none->Q (.ref p) (upd H p (.lst (xs++zs)))
def bL1:gf X (binaryOp .Add) b50:=by
 intro pi s Z H x y v u Q I rx ry h;let#[l,b,xs,zs,rfl,rfl,hH,hB,hz,q]:=h;cases rx;cases ry;let#[z,bh,n,r,hl,e]:=I.xU hH;let#[z2,mZ,n2,r2,wc,e2]:=I.xU hB;refine PySem.P.add_list e e2 ?_ (by rw[aQ,aQ];omega);let ea:bh.toArray++mZ.toArray=(bh++mZ).toArray:=by simp
 rw[ea];exact#[.ref _,_,I.Kj (t':=s.toks) (r.append r2) (by rw[ba];omega),rfl,q _ I.fresh]
abbrev b47:R2:=λx y H Q=>∃l k xs,x=.ref l/\y=.int k/\H l=!.lst xs/\-(2 ^ 63)<=k/\k<2 ^ 63/\-xs*k.toNat<=sizeLine /\
 ∀p,H p=none->Q (.ref p) (upd H p (.lst (List.replicate k.toNat xs).flatten))
def len_rep(xs:List α)(k:Nat):(List.replicate k xs).flatten.length=k*-xs:=by
 simp
def bK6:gf X (binaryOp .Mult) b47:=by
 intro pi s Z H x y v u Q I rx ry h;let#[l,k,xs,rfl,rfl,hH,h1,h2,hz,q]:=h;cases rx;let#[t,rfl]:=ry;let#[z,bh,n,r,hl,e]:=I.xU hH;let hlen:bh.toArray.size*k.toNat<=sizeLine:=by rw[aQ,<- hl];exact hz
 let BU:¬bh.toArray.size*k.toNat>(2 ^ 63-1) / 8:=by
  have:(sizeLine:Nat)<=(2 ^ 63-1) / 8:=by decide
  omega
 let BO:¬(~~~Builtin.List.listFitsIndex k)=true:=by
  rw[fitsIndex_both h1 h2];exact bY
 let wa:¬Builtin.List.listTooLong (bh.toArray.size*k.toNat)=true:=by
  rw[Wo hlen];exact bY
 let ni:List.foldl (λx1 x2=>x1++x2) (List.toArray []) (List.replicate (if bh.toArray.isEmpty=true then 0 else k.toNat) bh.toArray)=(List.replicate k.toNat bh).flatten.toArray:=by
  let f0:∀m:Nat,List.foldl (λx1 x2=>x1++x2) (List.toArray []) (List.replicate m bh.toArray)=(List.replicate m bh).flatten.toArray:=λm=>by
   have:=foldl_rep bh m []
   simp_all
  rw[f0];cases bh with
  |nil=>simp
  |cons a r'=>rfl
 refine GJ (T:="list") (U:="int") ∅ #[_,e,rfl] (λs'=>nM s' k t) noFill_list_mul F.fills_int_mul kH repeat_list F.slot_int_index.lookup
  (eI kH (nM s k t) F.entry_int_rmul (F.args_int_rmul_2 _ _) (int___rmul___int_list k t l bh.toArray n)
   #[e,rfl,#[_,e,rfl],eI F.slot_list_mul #[_,e,rfl] F.entry_list_mul (F.args_list_mul_2 _ _) (AutoListH.list___mul___list_int_3 l bh.toArray n k t BO BU wa) #[e,?_]])
 rw[ni];exact#[.ref _,_,I.Kj (t':=s.toks) (r.rep k.toNat) (by rw[len_rep,uR];exact hz),rfl,q _ I.fresh]
section
variable{κ:Type}[DecidableEq κ]
abbrev K1(kvs:@&(κ×V))(k:κ):Option V:=(kvs.find? λkv=>decide (kv.1=k)).map (·.2)
abbrev putK(kvs:@&(κ×V))(k:κ)(v:V):@&(κ×V) :=
 if(kvs.any λkv=>decide (kv.1=k))=true then kvs.map (λkv=>if kv.1=k then(kv.1,v) else kv) else kvs++[(k,v)]
abbrev Ae(kvs:@&(κ×V))(k:κ):@&(κ×V):=kvs.filter λkv=>decide (kv.1≠k)
def Eu{p:κ×V}{r:@&(κ×V)}{k:κ}(e:p.1=k):K1 (p::r) k=!p.2:=by simp[K1,List.find?_cons,e]
def Et{p:κ×V}{r:@&(κ×V)}{k:κ}(e:¬p.1=k):K1 (p::r) k=K1 r k:=by simp[K1,List.find?_cons,e]
def NO(k:κ):∀kvs:@&(κ×V),(kvs.any λkv=>decide (kv.1=k))=(K1 kvs k).isSome
 |[]=>rfl
 |p::r=>by
  rw[dZ];by_cases e:p.1=k
  .simp only[Eu e,decide_eq_true e,Bool.true_or,Option.isSome_some]
  .rw[Et e,aI e,iJ];exact NO k r
def LD(kvs:@&(κ×V))(k:κ)(v:V):(putK kvs k v).length<=-kvs+1:=by
 unfold putK;split
 .simp
 simp
def F5.R9{u:Option Value}(r:F5 o u):o.isSome=u.isSome:=by
 cases o with
 |none=>cases u with
  |none=>rfl
  |some _=>exact(show False from r).elim
 |some _=>cases u with
  |none=>exact(show False from r).elim
  |some _=>rfl
def F5.getD{o:Option V}{u:Option Value}{d:V}{d':Value}(r:F5 o u)(rd:RelV d d'):RelV (o.getD d) (u.getD d'):=by
 cases o with
 |none=>cases u with
  |none=>exact rd
  |some _=>exact(show False from r).elim
 |some _=>cases u with
  |none=>exact(show False from r).elim
  |some _=>exact r
def KV.val{kvs:@&(κ×V)}{vs:@&(κ×Value)}(r:KV kvs vs)(k:κ):F5 (K1 kvs k) (valueAt vs k):=by
 induction r with
 |nil=>exact True.intro
 |@cons p q ps qs h t ih =>
  let#[h1,h2]:=h;by_cases e:p.1=k
  .let e':q.1=k:=h1.symm.trans e;let b:valueAt (q::qs) k=!q.2:=by simp[valueAt,List.find?_cons,e']
   rw[Eu e,b];exact h2
  .let e':¬q.1=k:=λz=>e (h1.trans z);let b:valueAt (q::qs) k=valueAt qs k:=by simp[valueAt,List.find?_cons,e']
   rw[Et e,b];exact ih
def KV.any{kvs:@&(κ×V)}{vs:@&(κ×Value)}(r:KV kvs vs)(k:κ):(kvs.any λkv=>decide (kv.1=k))=vs.any λkv=>decide (kv.1=k):=by
 induction r with
 |nil=>rfl
 |cons h t ih=>simp_all
def KV.Dy{kvs:@&(κ×V)}{vs:@&(κ×Value)}(r:KV kvs vs)(k:κ)(ry:RelV y u) :
  KV (kvs.map λkv=>if kv.1=k then(kv.1,y) else kv) (vs.map λkv=>if kv.1=k then(kv.1,u) else kv):=by
 induction r with
 |nil=>exact .nil
 |@cons p q ps qs h t ih =>
  rw[bJ,bJ];refine .cons ?_ ih;let#[h1,h2]:=h;by_cases e:p.1=k
  .rw[ay e,ay (h1.symm.trans e)];exact#[h1,ry]
  .rw[az e,az (λz=>e (h1.trans z))];exact#[h1,h2]
def KV.put{kvs:@&(κ×V)}{vs:@&(κ×Value)}(r:KV kvs vs)(k:κ)(ry:RelV y u):KV (putK kvs k y) (stored vs k u):=by
 unfold putK stored;rw[r.any k];by_cases e:(vs.any λkv=>decide (kv.1=k))=true
 .rw[ay e,ay e];exact r.Dy k ry
 .rw[az e,az e];exact Paired.snoc r #[rfl,ry]
def KV.drop{kvs:@&(κ×V)}{vs:@&(κ×Value)}(r:KV kvs vs)(k:κ):KV (Ae kvs k) (without vs k):=by
 unfold Ae without
 induction r with
 |nil=>exact .nil
 |@cons p q ps qs h t ih =>
  let#[h1,h2]:=h;rw[iT,iT];by_cases e:p.1=k
  .let a:¬decide (p.1≠k)=true:=by simp[e]
   let b:¬decide (q.1≠k)=true:=by simp[h1.symm.trans e]
   rw[az a,az b];exact ih
  .let e':¬q.1=k:=λz=>e (h1.trans z);let a:decide (p.1≠k)=true:=by simp[e]
   let b:decide (q.1≠k)=true:=by simp[e']
   rw[ay a,ay b];exact .cons #[h1,h2] ih
def KV.keys{kvs:@&(κ×V)}{vs:@&(κ×Value)}(r:KV kvs vs):kvs.map (·.1)=vs.map (·.1):=by
 induction r with
 |nil=>rfl
 |cons h t ih=>simp_all
def KV.length{kvs:@&(κ×V)}{vs:@&(κ×Value)}(r:KV kvs vs):-kvs=-vs:=nz r
end
def uC{k:Key}(r:RelV (kV k) u):(j9 P w).is k u=true:=by
 cases k with
 |inl i=>let#[t,e]:=(show ∃t,u=Value.int i t from r);subst e;exact Y7 P w i t
 |inr x=>let#[t,e]:=(show ∃t,u=Value.str x t from r);subst e;exact aM8 P w x t
def Oe{P:Program}{w:World}:∀{ks:@&Key} {us:@&Value},Vals (ks.map kV) us->ItemsAre (j9 P w) ks us
 |[],_,r=>by cases r;exact .nil
 |k::ks,_,r=>by
  cases r with
  |cons h t=>exact .cons (uC h) (Oe t)
noncomputable abbrev KT(H:Hp):@&(List Key×V)->@&(List Key×Addr×Value)->Prop:=Paired λp q=>p.1=q.1/\H q.2.1=!.tup (p.1.map kV)/\RelV p.2 q.2.2
def KT.val{xs:@&(List Key×Addr×Value)}(r:KT H kvs xs)(k:@&Key):F5 (K1 kvs k) ((atKey xs k).map (·.2)):=by
 induction r with
 |nil=>exact True.intro
 |@cons p q ps qs h t ih =>
  let#[h1,_,h2]:=h;by_cases e:p.1=k
  .let e':q.1=k:=h1.symm.trans e;let b:atKey (q::qs) k=!q.2:=by simp[atKey,List.find?_cons,e']
   rw[Eu e,b];exact h2
  .let e':¬q.1=k:=λz=>e (h1.trans z);let b:atKey (q::qs) k=atKey qs k:=by simp[atKey,List.find?_cons,e']
   rw[Et e,b];exact ih
def KT.Dy{xs:@&(List Key×Addr×Value)}(r:KT H kvs xs)(k:@&Key)(ry:RelV y u) :
  KT H (kvs.map λkv=>if kv.1=k then(kv.1,y) else kv) (xs.map (putAt k u)):=by
 induction r with
 |nil=>exact .nil
 |@cons p q ps qs h t ih =>
  rw[bJ,bJ];refine .cons ?_ ih;let#[h1,h2,h3]:=h;unfold putAt;by_cases e:p.1=k
  .rw[ay e,ay (h1.symm.trans e)];exact#[h1,h2,ry]
  .rw[az e,az (λz=>e (h1.trans z))];exact#[h1,h2,h3]
def KT.put{xs:@&(List Key×Addr×Value)}(r:KT H kvs xs)(k:@&Key)(hb:H b=!.tup (k.map kV))(ry:RelV y u) :
  KT H (putK kvs k y) (storedH xs k b u):=by
 let e:(kvs.any λkv=>decide (kv.1=k))=(atKey xs k).isSome:=by
  rw[NO,(r.val k).R9,lL]
 unfold putK storedH;rw[e];by_cases q:(atKey xs k).isSome=true
 .rw[ay q,ay q];exact r.Dy k ry
 .rw[az q,az q];exact Paired.snoc r #[rfl,hb,ry]
def KT.keeps{xs:@&(List Key×Addr×Value)}(r:KT H kvs xs)(ht:∀b ys,H b=!.tup ys->H' b=!.tup ys):KT H' kvs xs :=
 Paired.Kk r λx x z=>#[z.1,ht _ _ z.2.1,z.2.2]
section
variable{h:Heap}
def JF{u:HO}(ok:gZ P w H h)(e:Rd H a u):k9 P w H h a u:=e.ok ok
def uy{kvs:@&(Key×V)}(ok:gZ P w H h)(e:Rd H a (.dK kvs)):-kvs<=sizeLine/\(a==sysModules)=false/\∃vs,KV kvs vs/\h.DictOf (j9 P w) a vs :=
 show k9 P w H h a (.dK kvs) from JF ok e
def Jo{kvs:@&(Key×V)}(ok:gZ P w H h)(e:H a=!.dK kvs):-kvs<=sizeLine/\(a==sysModules)=false/\∃vs,KV kvs vs/\h.DictOf (j9 P w) a vs:=uy ok (.inl e)
def uJ{ks:@&Key}(ok:gZ P w H h)(e:H a=!.tup (ks.map kV)):(tupleKind (j9 P w)).is h ks a:=by
 let#[_,bh,r,o,h1,h2,#[n,h3],_]:=(show k9 P w H h a (.tup (ks.map kV)) from ok a _ e)
 exact#[o,bh.toArray,n,h1,h2,h3,by simpa using Oe r]
def uz(ok:gZ P w H h)(e:Rd H a (.dT kvs)):-kvs<=sizeLine/\(a==sysModules)=false /\
  ∃xs,KT H kvs xs/\h.DictOfH (tupleKind (j9 P w)) a xs:=by
 let#[z,y,xs,r,o,es,ep,h1,h2,h3,h4,h5]:=(show k9 P w H h a (.dT kvs) from JF ok e)
 refine#[z,y,xs,r,o,es,ep,h1,h2,h3,h4,λx hx=>?_,h5];let all:∀{l:@&(List Key×V)} {m:@&(List Key×Addr×Value)},KT H l m->∀x∈m,(tupleKind (j9 P w)).is h x.1 x.2.1:=by
  intro l m q
  induction q with
  |nil=>simp
  |@cons p q ps qs hq t ih =>
   intro x hx;rcases aJ.mp hx with e|hx
   .exact uJ ok (by simp_all)
   .exact ih x hx
 exact all r x hx
def XQ(ok:gZ P w H h)(e:H a=!.dT kvs):-kvs<=sizeLine/\(a==sysModules)=false /\
  ∃xs,KT H kvs xs/\h.DictOfH (tupleKind (j9 P w)) a xs:=uz ok (.inl e)
end
abbrev F6(H:Hp)(a:Addr)(y:V)(r:Option V):Prop :=
 (∃kvs k,Rd H a (.dK kvs)/\y=kV k/\r=K1 kvs k)\/∃kvs k b,Rd H a (.dT kvs)/\y=.ref b/\H b=!.tup (k.map kV)/\r=K1 kvs k
abbrev qP(H:Hp)(a:Addr)(y v:V)(H':Hp):Prop :=
 (∃kvs k,H a=!.dK kvs/\y=kV k/\-kvs<sizeLine/\H'=upd H a (.dK (putK kvs k v))) \/
 ∃kvs k b,H a=!.dT kvs/\y=.ref b/\H b=!.tup (k.map kV)/\-kvs<sizeLine/\H'=upd H a (.dT (putK kvs k v))
def F6.k{H:Hp}{a:Addr}{kvs:@&(Key×V)}{k:Key}(e:H a=!.dK kvs):F6 H a (kV k) (K1 kvs k):=.inl #[kvs,k,.inl e,rfl,rfl]
def F6.t{k:@&Key}(e:H a=!.dT kvs)(eb:H b=!.tup (k.map kV)):F6 H a (.ref b) (K1 kvs k):=.inr #[kvs,k,b,.inl e,rfl,eb,rfl]
def qP.k{H:Hp}{a:Addr}{kvs:@&(Key×V)}{k:Key}{v:V}(e:H a=!.dK kvs)(hl:-kvs<sizeLine):qP H a (kV k) v (upd H a (.dK (putK kvs k v))):=.inl #[kvs,k,e,rfl,hl,rfl]
def qP.t{k:@&Key}{v:V}(e:H a=!.dT kvs)(eb:H b=!.tup (k.map kV))(hl:-kvs<sizeLine) :
  qP H a (.ref b) v (upd H a (.dT (putK kvs k v))):=.inr #[kvs,k,b,e,rfl,eb,hl,rfl]
section
variable{v:V}{r:Value}
def Inv.big(I:Inv X pi Z H s):sysModules<s⁻¹:=by
 let h:mainGlobals<s⁻¹:=(I.mod.glob.keeps I.bk).lt;exact cU ∅ h
def NY{Q:Value->Shared->Prop}(hu:A.units+1<cLine)(I:Inv X pi Z H s)(g:F6 H a y (!v))(ry:RelV y u)(h:∀w' s',Inv X pi Z H s'->RelV v w'->Q w' s') :
  wpAny (model X.prog X.w) A (getItem (.ref a) u) Q E s:=by
 rcases g with⟨kvs,k,e,ey,l⟩|⟨kvs,k,b,e,ey,eb,l⟩
 .subst ey;let#[z,hd,vs,rel,dd]:=uy I.bZ e;let#[w',hw,fX]:=F5.some_of (v:=v) (o:=valueAt vs k) (by rw[l];exact rel.val k);exact wpAny_getItem_of (uC ry) dd.mapOf hw (h w' _ (I.tok _) fX)
 .subst ey;cases (show u=Value.ref b from ry);let#[z,hd,xs,rel,dd]:=uz I.bZ e;let#[w',hw,fX]:=F5.some_of (v:=v) (o:=(atKey xs k).map (·.2)) (by rw[l];exact rel.val k);let#[p,hp,rK]:=ae.mp hw;refine wpAny_getItem_heap (fS hu) (uJ I.bZ eb) dd hp ?_;rw[rK];exact h w' _ (I.tok _) fX
def Kd{Q:Value->Shared->Prop}(hu:A.units+1<cLine)(I:Inv X pi Z H s)(g:F6 H a y o)(ry:RelV y u)(h:∀s',Inv X pi Z H s'->Q (.bool o.isSome) s') :
  wpAny (model X.prog X.w) A (compareOp .In u (.ref a)) Q E s:=by
 rcases g with⟨kvs,k,e,ey,l⟩|⟨kvs,k,b,e,ey,eb,l⟩
 .subst ey;let#[z,hd,vs,rel,dd]:=uy I.bZ e;refine wpAny_in_of (uC ry) hd dd.mapOf ?_;rw[<- (rel.val k).R9,<- l];exact h _ (I.tok _)
 .subst ey;cases (show u=Value.ref b from ry);let#[z,hd,xs,rel,dd]:=uz I.bZ e;refine wpAny_in_heap (fS hu) (uJ I.bZ eb) hd dd ?_;let q:=(rel.val k).R9;rw[lL] at q;rw[<- q,<- l];exact h _ (I.tok _)
def Ml{Q:Value->Shared->Prop}(hu:A.units+1<cLine)(I:Inv X pi Z H s)(g:F6 H a y o)(ry:RelV y u)(h:∀s',Inv X pi Z H s'->Q (.bool (~~~o.isSome)) s') :
  wpAny (model X.prog X.w) A (compareOp .NotIn u (.ref a)) Q E s:=by
 rcases g with⟨kvs,k,e,ey,l⟩|⟨kvs,k,b,e,ey,eb,l⟩
 .subst ey;let#[z,hd,vs,rel,dd]:=uy I.bZ e;refine wpAny_notIn_of (uC ry) hd dd.mapOf ?_;rw[<- (rel.val k).R9,<- l];exact h _ (I.tok _)
 .subst ey;cases (show u=Value.ref b from ry);let#[z,hd,xs,rel,dd]:=uz I.bZ e;refine wpAny_notIn_heap (fS hu) (uJ I.bZ eb) hd dd ?_;let q:=(rel.val k).R9;rw[lL] at q;rw[<- q,<- l];exact h _ (I.tok _)
def Mm{h':Heap}{t':Nat}{ob:HO}(I:Inv X pi Z H s)(mu:yi (H a))(hs:Heap.SameBut a s.heap h')(he:∃q,h'.get? a=!q)(new:k9 X.prog X.w (upd H a ob) h' a ob) :
  Inv X pi Z (upd H a ob) { s with heap:=h',toks:=t' } :=
 I.write (x:=a) (e:=a) mu (.inl rfl) (λb q hb z=>(hs.2 b hb).trans z) he new
def Og{h':Heap}{kvs:@&(Key×V)}{vs:@&(Key×Value)}(z:-kvs<=sizeLine)(hd:(a==sysModules)=false)(rel:KV kvs vs)(dd:h'.DictOf (j9 P w) a vs) :
  k9 P w H' h' a (.dK kvs):=#[z,hd,vs,rel,dd]
def NZ{Q:Unit->Shared->Prop}(hu:A.units+1<cLine)(I:Inv X pi Z H s)(g:qP H a y v H')(ry:RelV y u)(rv:RelV v r)(h:∀s',Inv X pi Z H' s'->Q Unit.unit s') :
  wpAny (model X.prog X.w) A (setItem (.ref a) u r) Q E s:=by
 rcases g with⟨kvs,k,e,ey,l,eH⟩|⟨kvs,k,b,e,ey,eb,l,eH⟩
 .subst ey eH;let#[z,hd,vs,rel,dd]:=Jo I.bZ e;let hz:-vs<=sizeLine:=by rw[<- -rel];exact z
  let hl:(putK kvs k v).length<=sizeLine:=by have:=LD kvs k v;omega
  refine wpAny_setItem_pairs (hsz:=hz) (uC ry) dd λh' zk hs=>h _ ?_;let he:∃q,h'.get? a=!q:=let ⟨q,_,_,hq,_⟩:=zk;#[q,hq]
  exact Mm I (by rw[e];exact True.intro) hs he (Og hl hd (rel.put k rv) zk)
 .subst ey eH;cases (show u=Value.ref b from ry);let#[z,hd,xs,rel,dd]:=XQ I.bZ e;let hz:-xs<=sizeLine:=by rw[<- nz rel];exact z
  let hl:(putK kvs k v).length<=sizeLine:=by have:=LD kvs k v;omega
  refine wpAny_setItem_heap (hsz:=hz) (fS hu) (uJ I.bZ eb) dd λh' zk hs=>h _ ?_;let#[q,es,ep,hq,h2,h3,h4,_,h5]:=zk;refine Mm I (by rw[e];exact True.intro) hs #[q,hq] #[hl,hd,_,(rel.put k eb rv).keeps λc ys ec=>?_,q,es,ep,hq,h2,h3,h4,h5];rw[d8 (Ys ec e (λz=>nomatch z))];exact ec
end
abbrev Di(i:Expr):Prop:=∀ov iv,subscripted i false ov iv=operate [ov,iv] (getItem ov iv)
def Vj{prog:Program}{env:Env}{value slice:Expr}{T id:String}{Q:Value->Shared->Prop}(hl:typeLookup (.type T) "__getitem__"=pure (!.builtin id))(hs:Di slice)(h:wpAny (model prog w) A (eval value env) (λo bH=>wpAny (model prog w) A (eval slice env) (λi fm=>fm.TypeIs o T/\wpAny (model prog w) A (getItem o i) Q E fm) E bH) E s) :
  wpAny (model prog w) A (eval (.Subscript value slice pos) env) Q E s:=by
 refine Subscript_ (bC h (λo bH dB=>bC dB (λi fm ip=>?_) λy y x=>x) λy y x=>x);let#[hT,ip]:=ip;unfold subscriptTail;refine aa ?_;rw[getitemInPython_of_ne hT.not_modules];refine aa (wpAny_specialOf hT hl ?_);let fin:wpAny (model prog w) A (subscripted slice false o i) (λr fI=>wpAny (model prog w) A (letTemporaryGo value o r >>= λy=>pure r) Q E fI) E fm:=by
  rw[hs o i];exact wpAny_operating (bC ip (λr fI lX=>aa (wpAny_letTemporaryGo (ak lX))) λy y x=>x)
 first
  |exact wpAny_pure (wpAny_bind fin)
  |exact wpAny_bind (wpAny_pure (wpAny_bind fin))
  |exact wpAny_bind fin
def Lw(I:Inv X pi Z H s)(g:F6 H a y o):s.TypeIs (.ref a) "dict":=by
 rcases g with⟨kvs,k,e,_,_⟩|⟨kvs,k,b,e,_,_,_⟩
 .let#[_,_,vs,_,dd]:=uy I.bZ e;exact dd.typeIs
 .let#[_,_,xs,_,dd]:=uz I.bZ e;exact dd.typeIs
abbrev Zb(td ty:TE):TE:=λZ H Q=>td Z H λx H1=>ty Z H1 λy H2=>∃a v,x=.ref a/\F6 H2 a y (!v)/\Q v H2
abbrev Kr(ty td:TE):TE:=λZ H Q=>ty Z H λy H1=>td Z H1 λx H2=>∃a o,x=.ref a/\F6 H2 a y o/\Q (.bl o.isSome) H2
abbrev Na(ty td:TE):TE:=λZ H Q=>ty Z H λy H1=>td Z H1 λx H2=>∃a o,x=.ref a/\F6 H2 a y o/\Q (.bl (~~~o.isSome)) H2
abbrev YS(td ty tv:TE):TS:=λD Z H=>tv Z H λv H1=>td Z H1 λx H2=>ty Z H2 λy H3=>∃a H4,x=.ref a/\qP H3 a y v H4/\D.nx Z H4
section
variable{o i value:Expr}{pos':Pos}{td ty tv:TE}
def Ut(hu:X.A.units+1<cLine)(ho:PE X o td)(hi:PE X i ty)(hs:Di i):PE X (.Subscript o i pos) (Zb td ty):=by
 intro pi s Z H Q I h;refine Vj PySem.F.slot_dict_getitem.lookup hs (cI (ho pi s Z H _ I h) ?_);rintro u s1 ⟨x,H1,I1,rx,q1⟩;refine cI (hi pi s1 Z H1 _ I1 q1) λiv s2 bo=>?_;let#[y,H2,I2,ry,a,v,ex,g,q2]:=bo;subst ex;obtain rfl:u=Value.ref a:=rx;exact#[Lw I2 g,NY hu I2 g ry λw' s3 I3 fX=>#[v,H2,I3,fX,q2]]
def bK2(hu:X.A.units+1<cLine)(hi:PE X i ty)(ho:PE X o td):PC X .In i o (Kr ty td):=by
 intro pi s Z H Q I h;refine cI (hi pi s Z H _ I h) ?_;rintro iv s1 ⟨y,H1,I1,ry,q1⟩;refine cI (ho pi s1 Z H1 _ I1 q1) λu s2 bo=>?_;let#[x,H2,I2,rx,a,ov,ex,g,q2]:=bo;subst ex;obtain rfl:u=Value.ref a:=rx;exact Kd hu I2 g ry λs3 I3=>#[.bl ov.isSome,H2,I3,rfl,q2]
def a58(hu:X.A.units+1<cLine)(hi:PE X i ty)(ho:PE X o td):PC X .NotIn i o (Na ty td):=by
 intro pi s Z H Q I h;refine cI (hi pi s Z H _ I h) ?_;rintro iv s1 ⟨y,H1,I1,ry,q1⟩;refine cI (ho pi s1 Z H1 _ I1 q1) λu s2 bo=>?_;let#[x,H2,I2,rx,a,ov,ex,g,q2]:=bo;subst ex;obtain rfl:u=Value.ref a:=rx;exact Ml hu I2 g ry λs3 I3=>#[.bl (~~~ov.isSome),H2,I3,rfl,q2]
def Uz(hu:X.A.units+1<cLine)(ho:PE X o td)(hi:PE X i ty)(hv:PE X value tv)(hs:swapsWith value (!.Subscript o i pos') pos.line X.env=pure false) :
  PS X (.Assign [.Subscript o i pos'] value pos) (YS td ty tv):=by
 intro pi s Z H D I h;refine wpAny_Assign_Subscript (cI (hv pi s Z H _ I h) ?_) hs;rintro r s1 ⟨v,H1,I1,rv,q1⟩;refine cI (ho pi s1 Z H1 _ I1 q1) ?_;rintro u s2 ⟨x,H2,I2,rx,q2⟩;refine cI (hi pi s2 Z H2 _ I2 q2) λiv s3 bo=>?_;let#[y,H3,I3,ry,a,H4,ex,g,q3]:=bo;subst ex;obtain rfl:u=Value.ref a:=rx;exact NZ hu I3 g ry rv λs4 I4=>#[Z,H4,I4,q3]
end
def VS(h:Heap)(hb:sysModules<h.objs.size):k9 P w H (h.push { cls:=.type "dict",data:=.dict (List.toArray []) }) h.objs.size (.dK []) :=
 #[cH _,dc.mpr (bI (aK hb)),[],.nil,Heap.DictOf.new h]
def VT(h:Heap)(hb:sysModules<h.objs.size):k9 P w H (h.push { cls:=.type "dict",data:=.dict (List.toArray []) }) h.objs.size (.dT []) :=
 #[cH _,dc.mpr (bI (aK hb)),[],.nil,_,(List.toArray []),0,aE _ rfl,#[rfl,rfl,rfl],rfl,rfl,List.nodup_nil]
abbrev bD2:TE:=λx H Q=>∀p,H p=none->Q (.ref p) (upd H p (.dK []))
abbrev bD1:TE:=λx H Q=>∀p,H p=none->Q (.ref p) (upd H p (.dT []))
def Wu:PE X (.Dict [] [] pos) bD2:=λpi s Z H Q I h =>
 wpAny_Dict_empty #[.ref s⁻¹,_,I.laid (a:=s⁻¹) (o:=.dK []) (t':=s.toks) (λx x q=>ao _ q) (aw _) (VS s.heap I.big),rfl,h _ (I.bZ.fresh (aw _))]
def Wv:PE X (.Dict [] [] pos) bD1:=λpi s Z H Q I h =>
 wpAny_Dict_empty #[.ref s⁻¹,_,I.laid (a:=s⁻¹) (o:=.dT []) (t':=s.toks) (λx x q=>ao _ q) (aw _) (VT s.heap I.big),rfl,h _ (I.bZ.fresh (aw _))]
abbrev bL9(kvs more:@&(Key×V)):@&(Key×V):=more.foldl (λacc kv=>putK acc kv.1 kv.2) kvs
def KV.merge:∀{more:@&(Key×V)} {rs:@&(Key×Value)} {kvs:@&(Key×V)} {vs:@&(Key×Value)},KV more rs->KV kvs vs->KV (bL9 kvs more) (merged vs rs):=by
 intro more rs kvs vs r
 induction r generalizing kvs vs with
 |nil=>intro q;exact q
 |@cons p q ps qs h t ih =>
  intro r0;let e:KV (putK kvs p.1 p.2) (stored vs q.1 q.2):=by
   have:=r0.put p.1 h.2;rw[<- h.1];exact this
  exact ih e
section
variable{d:V}{r:Value}
def ZH{Q:Value->Shared->Prop}(hu:A.units+1<cLine)(I:Inv X pi Z H s)(g:F6 H a y o)(ry:RelV y u)(rd:RelV d r)(h:∀w' s',Inv X pi Z H s'->RelV (o.getD d) w'->Q w' s') :
  wpAny (model X.prog X.w) A (call (.builtin "dict.get") [.ref a,u,r]) Q E s:=by
 rcases g with⟨kvs,k,e,ey,l⟩|⟨kvs,k,b,e,ey,eb,l⟩
 .subst ey;let#[z,hd,vs,rel,dd]:=uy I.bZ e;refine call_meetsIn jy dd.typeIs uP (sY _ _ _) (meets_dict_get_default (j9 X.prog X.w) a (uC ry) hd r) #[_,dd.mapOf,h _ _ (I.tok _) ?_];rw[l];exact(rel.val k).getD rd
 .subst ey;cases (show u=Value.ref b from ry);let#[z,hd,xs,rel,dd]:=uz I.bZ e;refine call_meetsIn jy dd.typeIs uP (sY _ _ _) (meetsH_dict_get_default (tupleKind (j9 X.prog X.w)) a b hd r) #[fS hu,k,xs,uJ I.bZ eb,dd,h _ _ (I.tok _) ?_];rw[l];exact(rel.val k).getD rd
end
end L2
namespace OU
open PySem PySem.W PySem.Calls PyProof.Rows
def as9{P:Params}{h:Heap}:∀(ns:@&Int) (vs:@&Value),WellAll P h vs (ns.map WData.int)->IntsAre vs ns:=by
 intro ns
 induction ns with
 |nil =>
  intro vs w;cases w;exact .nil
 |cons n ns ih =>
  intro vs w;cases w with
  |cons a b =>
   cases a;exact .cons _ _ (ih _ b)
def a38{l:OpenLaw}{n:Nat}(hn:l.most=!n){P:Params}{h:Heap}{args:@&WData}{vals:@&Value}(pI:l.row.toRowW.claim.pre args=true)(Bo:WellAll P h vals args) :
  ∃a vs ns,vals=[Value.ref a]/\args=[WData.list (ns.map WData.int)]/\h.get? a=some { cls:=.type "list",data:=.seq vs.toArray }/\IntsAre vs ns/\-ns<=n:=by
 let kL:WShape.hasAll [] args [.list .int]=true:=(pre_splitW pI).1;let hc:l.pre.holds [] { args:=args }=true:=(pre_splitW pI).2;let#[d,r,rfl,h1,h2]:=hasAllW_cons kL;obtain rfl:=hasAllW_nil h2;let#[xs,rfl,h3]:=hasW_list h1;let#[ns,rfl]:=items_int h3;let hlen:-ns<=n:=by
  let h4:(WTm.not (.lt (.lit (.int (n:Int))) (.len (.arg 0)))).holds [] { args:=[.list (ns.map .int)] }=true:=by
   let h4:=(holds_andW hc).1;rw[hn] at h4;exact h4
  let h5:=condW_of h4 (w_not (w_lt w_lit (w_len_list (w_arg rfl))))
  simp_all
 cases Bo with
 |cons w1 w2 =>
  cases w2;cases w1 with
  |list ho pP=>exact#[_,_,ns,rfl,rfl,ho,as9 ns _ pP,hlen]
def a47(l:OpenLaw)(args:@&WData):l.row.toRowW.claim.post args (.bool true) args=true :=
 postW_of (r:=l.row.toRowW) (X:=(true==true))
  (show WShape.has [] (.bool true) .bool=true by rfl)
  (show(WTm.eq .res (.lit (.bool true))).value [] { args:=args,res:=!.bool true,after:=args }=some (.bool (true==true)) from w_eq_bool (w_res rfl) w_lit) rfl
def aN4{l:OpenLaw}{n:Nat}{q:Program}{loose:@&Str}{XP:(Str->Option Value)->Heap->Prop}{YP:World->Heap->Prop}{d:DefRec}(hn:l.most=!n)(wz:d.params.defaults=[])(call:∀ (w:World) (dA bH:Shared) (mg mb:Str->Option Value) (fa:Addr) (o:Obj) (pm cd doc:Value) (a:Addr) (vs:@&Value) (ns:@&Int),
   Ground q loose [] XP w dA mg mb bH.heap->YP w bH.heap ->
   bH.heap.get? fa=!o->o.data=.func (docDef d.name d.params d.body d.scope pm cd doc)->bH.heap.CodeRec cd d.name->mg d.name=!.ref fa ->
   bH.heap.get? a=some { cls:=.type "list",data:=.seq vs.toArray }->IntsAre vs ns->-ns<=n->bH.gens=(List.toArray []) ->
   codeAny (model l.prog w) callerA (.call (.ref fa) #[[.ref a],[]]) (λr s'=>r=.ok (.ret (.bool true))/\OldK bH.heap s'.heap/\s'.os=bH.os/\AllBare s'.gens) bH) :
  WalkO q loose XP YP l.row.toRowW d [] (λf vs=>PySem.call f vs):=by
 intro w dA bH mg mb G Y fa o pm cd doc dV kV ho hd nk hD hmg hg args vals as pI QN hrd Bo tU;obtain rfl:dV=.none:=Dflts.none hD wz;obtain rfl:kV=.none:=Dflts.noKw hD;let#[a,vs,ns,rfl,rfl,lY,hints,hlen]:=a38 hn pI Bo;refine enter_call (iF (call w dA bH mg mb fa o pm cd doc a vs ns G Y ho (fd_plain hd) nk hmg lY hints hlen hg) λr s' hq=>?_);let#[rfl,h2,h3,h4]:=hq;exact#[.inl #[.bool true,.bool true,[],rfl,λx=>rfl,.bool true,a47 l _,λx=>#[List.Pairwise.nil,λx hm=>(nomatch hm)]],h2,h3,h4]
end OU
namespace L2
open PySem PySem.Spec PyProof.Rows
variable{w:World}{x qual:Str}{X:Cx}{A:Around}{s:Shared}{elt iter tg:Expr}{ifs:@&Expr}{scope:Scope}{pos:Pos}{cl:@&(Str×Addr)}{C:Addr}{N':@&Str}{d4:@&Nat}{fp:@&Addr}{g:TG}{tc:TT}{te:TE}
def KR:∀{vs:@&Value} {ns:@&Int},IntsAre vs ns->Vals (ns.map V.int) vs
 |_,_,.nil=>.nil
 |_,_,.cons n t h=>.cons #[t,rfl] (KR h)
abbrev Am(H:Hp):Prop:=∀b,H b=none\/∃o xs,H b=!.kB o (.lst xs)
def We{P:Program}{K:PySem.W.Frag}{mg mb:Str->Option Value}{CX:oN}{k:Nat}{fa a:Addr}{fd:FuncData}{sp:Sp}{bH:Shared}{vs:@&Value}{ns:@&Int}(KX:K.In bH.heap)(nh:bH.heap.Ns mainGlobals mg)(hb:bH.heap.Ns builtinsNs mb)(BV:∀x:Str,x≠"__name__"->mb x=bootBuiltins x)(BD:bH.heap.NoLimit)(hg:bH.gens=(List.toArray []))(ha:bH.heap.get? a=some { cls:=.type "list",data:=.seq vs.toArray })(hi:IntsAre vs ns)(hl:-ns<=sizeLine)(hr:w6 k callerA)(F:∀base:Heap,K.In base->base.Ns mainGlobals mg->iu P w K mg base CX k fa fd [x] sp)(wC:∀(s:Shared) (u:Value),BindsTo s fd #[[u],[]] [(x,u)])(nJ:∀H:Hp,Am H->fZ K H a (ns.map V.int)->sp [.ref a] H (λv y=>v=.bl true) λy y y=>False)(Cm:∀H e s',CX [] H bH (λy y y=>False) e s'->False) :
  codeAny (model P w) callerA (.call (.ref fa) #[[.ref a],[]]) (λr s'=>r=.ok (.ret (.bool true))/\OldK bH.heap s'.heap/\s'.os=bH.os/\AllBare s'.gens) bH:=by
 let rv:=KR hi;let Qj:=-hi;let core:∀H:Hp,Am H->fZ K H a (ns.map V.int)->gZ P w H bH.heap->(∀b,H b≠none->b=a)->(H a≠none->K.lookup a=none) ->
   codeAny (model P w) callerA (.call (.ref fa) #[[.ref a],[]]) (λr s'=>r=.ok (.ret (.bool true))/\OldK bH.heap s'.heap/\s'.os=bH.os/\AllBare s'.gens) bH:=by
  intro H hO hS bZ hA hK;let N1:∀{b:Addr} {o:Obj},bH.heap.get? b=!o->H b=none->(qe bH.heap H).get? b=!o:=λe n=>VY e n;let vz:∀{b:Addr} {o:Obj} {es:Array DictEntry} {ep:Nat},bH.heap.get? b=!o->o.data=.dict es ep->H b=none:=λ{b o es ep} e d=>by
   grind
  let yH:∀{b:Addr} {m:Str->Option Value},bH.heap.Ns b m->(qe bH.heap H).Ns b m:=λ{b m} ⟨o,es,ep,e,d,r⟩=>#[o,es,ep,N1 e (vz e d),d,r]
  let IA:K.In (qe bH.heap H):=λb o e=>N1 (KX b o e) (by
   grind)
  let hM:Mod K mg (qe bH.heap H):=#[IA,yH nh,#[mb,yH hb,BV],let ⟨mc,h1,h2⟩:=BD;#[mc,yH h1,h2]]
  let e0:sJ P w K mg (qe bH.heap H) callerA [] bH H:=#[rfl,hM,λb o e=>Ug e,Nat.le_of_eq (a86 _ _),trivial,λb hb=>absurd (show b∈([]:@&Addr) from hb) #[_],bZ,.of_eq hg]
  refine iF ((F _ IA (yH nh)).run callerA [] bH H #[[.ref a],[]] [.ref a] [.ref a] _ _ hr e0 (wC bH (.ref a)) (.cons rfl .nil) (nJ H hO hS)) λr s' h=>?_;cases r with
  |error e=>exact(Cm H e s' h).elim
  |ok fl =>
   cases fl with
   |next=>exact False.elim h
   |brk=>exact False.elim h
   |cont=>exact False.elim h
   |ret u =>
    let#[v,H',os,bare,un,Bu,r',q]:=h;let q':v=.bl true:=q;subst q';obtain rfl:u=Value.bool true:=r';refine#[rfl,OldK.of_keep λb o e=>?_,os,bare];cases q:H b with
    |none=>exact un.keep b o e q (by intro z;exact absurd (show b∈([]:@&Addr) from z) #[_]) #[_]
    |some u =>
     rcases hO b with z|⟨ob,xs,z⟩
     .simp_all
     .let z2:=un.jl b ob _ z;let#[e1,_]:=bZ b _ z;let#[e2,_]:=Bu b _ z2
      simp_all
 cases hk:K.lookup a with
 |some o =>
  let e:=KX a o hk;rw[ha] at e;cases e;refine core (λy=>none) (λy=>.inl rfl) (.inr #[_,vs.toArray,_,hk,rfl,rfl,rfl,by simp_all,by simpa using rv]) (λb u z=>by simp_all) (λb z=>absurd rfl z) λz=>absurd rfl z
 |none =>
  refine core (λb=>if b=a then some (.kB { cls:=.type "list",data:=.seq vs.toArray } (.lst (ns.map V.int))) else none) (λb=>?_) (.inl (.inr #[{ cls:=.type "list",data:=.seq vs.toArray },ay rfl])) (λb u z=>?_) (λb z=>?_) λy=>hk
  .by_cases hb:b=a
   .exact .inr #[_,_,ay hb]
   .exact .inl (az hb)
  .by_cases hb:b=a
   .let z':=(ay hb).symm.trans z;cases z';subst hb;exact#[ha,by rw[au];exact hl,vs,_,rv,ha]
   simp_all
  .by_cases hb:b=a
   .exact hb
   .exact absurd (az hb) z
def Vw{l:PySem.W.OpenLaw}{n k:Nat}{q:Program}{loose:@&Str}{XP:(Str->Option Value)->Heap->Prop}{YP:World->Heap->Prop}{d:DefRec}{K:Params->PySem.W.Frag}{CX:World->oN}{sp:World->Sp}(hn:l.most=!n)(nK:n<=sizeLine)(wz:d.params.defaults=[])(hr:w6 k callerA)(hY:∀(w:World) (h:Heap),YP w h->(K w.params).In h)(F:∀ (w:World) (mg:Str->Option Value) (fa:Addr) (h:Heap),(K w.params).In h->h.Ns mainGlobals mg->mg d.name=!.ref fa ->
   ∃fd:FuncData,(∀(s:Shared) (u:Value),BindsTo s fd #[[u],[]] [(x,u)]) /\
    ∀ base:Heap,(K w.params).In base->base.Ns mainGlobals mg->iu l.prog w (K w.params) mg base (CX w) k fa fd [x] (sp w))(nJ:∀(w:World) (H:Hp) (a:Addr) (ns:@&Int),(-ns)<=n->Am H->fZ (K w.params) H a (ns.map V.int)->sp w [.ref a] H (λv y=>v=.bl true) λy y y=>False)(Cm:∀(w:World) (H:Hp) (s:Shared) (e:Value) (s':Shared),CX w [] H s (λy y y=>False) e s'->False) :
  PySem.W.WalkO q loose XP YP l.row.toRowW d [] (λf vs=>PySem.call f vs):=by
 refine OU.aN4 hn wz λw dA bH mg mb fa o pm cd doc a vs ns G Y ho hd nk hmg lY hints hlen hg=>?_;let KX:=hY w _ Y;let#[fd,hb,hF]:=F w mg fa _ KX G.T.g hmg;exact We KX G.T.g G.T.b G.T.builtins G.T.nolimit hg lY hints (aG hlen nK) hr hF hb (λH hO hS=>nJ w H a ns hlen hO hS) λH e s'=>Cm w H bH e s'
abbrev C9(s:Stmt):Arguments:=match s with
 |.FunctionDef _ a _ _ _ _ _ _ _ _=>a
 |_=>{ posonlyargs:=[],args:=[],vararg:=none,kwonlyargs:=[],kw_defaults:=[],kwarg:=none,defaults:=[] }
abbrev u4(s:Stmt):@&Stmt:=match s with
 |.FunctionDef _ _ b _ _ _ _ _ _ _=>b
 |_=>[]
abbrev u3(s:Stmt):Scope:=match s with
 |.FunctionDef _ _ _ _ _ _ sc _ _ _=>sc
 |_=>{ kind:=.function,names:=[],isGenerator:=false,isCoroutine:=false }
structure qW(K:PySem.W.Frag)(x qual:Str)(st:Stmt)(f:Addr)(fd:FuncData):Prop where
 ex:∃(oc:Value) (od:Option Addr) (kV doc pm:Value) (an:Option Addr) (gs ct:Value) (nH:Array (Option Value)),
  fd=PySem.W.fnOf x qual (C9 st) (u4 st) (u3 st) .none kV doc pm an gs ct/\K.lookup f=!#[oc,od,.func fd,nH]/\PySem.W.codeIn K gs qual=true
 kp:PySem.W.keepIn K (.ref f)=true
section
variable{K:PySem.W.Frag}
def qW.binds{st:Stmt}{f:Addr}{fd:FuncData}{ps:@&Str}(F:qW K x qual st f fd)(h:∀(kV doc pm:Value) (an:Option Addr) (gs ct:Value) (us:@&Value),(-us)=-ps->bindArgs (PySem.W.fnOf x qual (C9 st) (u4 st) (u3 st) .none kV doc pm an gs ct) #[us,[]]=pure (ps.zip us)):Binds K fd ps []:=by
 let#[oc,od,kV,doc,pm,an,gs,ct,nH,rfl,lk,nk]:=F.ex;exact .all (h kV doc pm an gs ct)
def Oi{st:Stmt}{f:Addr}{oc:Value}{od an:Option Addr}{nH:Array (Option Value)}{kV doc pm gs ct:Value}(l:K.lookup f=!#[oc,od,.func (PySem.W.fnOf x qual (C9 st) (u4 st) (u3 st) .none kV doc pm an gs ct),nH])(c:PySem.W.codeIn K gs qual=true)(k:PySem.W.keepIn K (.ref f)=true):qW K x qual st f (PySem.W.fnOf x qual (C9 st) (u4 st) (u3 st) .none kV doc pm an gs ct):=#[#[oc,od,kV,doc,pm,an,gs,ct,nH,rfl,l,c],k]
end
section
variable{prog:Program}{R:Result->Shared->Prop}
def aK2{target:Expr}{it acc:Value}{env:Env}(I:Nat->Shared->Prop)(turn:∀ n s,I n s->wpAny (model prog w) A (pyNext it) (λr bH=>match r with
   |none=>R (.ok .next) bH
   | some v=>wpAny (model prog w) A (letOwnedTupleGo target it v) (λy bH=>wpAny (model prog w) A (assign target env v) (λ_ fm =>
     wpAny (model prog w) A (forIn ifs true λc r=>if r=true then do let ok <- isTrue c env (eval c env);pure (ForInStep.yield ok) else pure (ForInStep.yield r)) (λok fI =>
      if ok=true then wpAny (model prog w) A (eval elt env) (λx iU =>
       wpAny (model prog w) A (call (.builtin "list.append") [acc,x]) (λy jD=>∃ m,m < n/\I m jD) (λy y=>False) iU) (notedBy (model prog w) A env λe s'=>R (.error e) s') fI
      else ∃ m,m < n/\I m fI) (λy y=>False) fm) (λy y=>False) bH) (λy y=>False) bH) (λy y=>False) s)(n:Nat)(h:I n s) :
  codeAny (model prog w) A (.compLoop (.ListComp elt [#[target,iter,ifs,0]] scope pos) 0 it acc env) R s:=by
 refine codeAny_loop rfl I (λn s hI=>?_) n h;change wpAny _ A ((compTurn (.ListComp elt [#[target,iter,ifs,0]] scope pos) 0 it acc env).onRaise (λx=>do noteFrame x env;theTreesLotGoes x)) _ _ s;refine wpAny_noted ?_;rw[compTurn_list];refine aa (fL (aa (bC (turn n s hI) (λr bH dB=>?_) λy y h'=>h'.elim)));cases r with
 |none=>exact ak dB
 |some v =>
  refine aa (bC dB (λy bH dB=>?_) λy y h'=>h'.elim);refine aa (bC dB (λy fm ip=>aa (bC ip (λok fI lX=>?_) λy y h'=>h'.elim)) λy y h'=>h'.elim);cases ok with
  |false=>exact wpAny_pure #[rfl,lX]
  |true =>
   exact aa (aa (bC lX (λx iU rH=>aa (bC rH (λy jD rG=>ak (ak #[rfl,rG])) λy y h'=>h'.elim)) λy y h'=>h'))
end
abbrev mh(X:Cx)(es:@&Expr)(t:TT):Prop :=
 ∀(pi:@&(Addr×Obj)) (s:Shared) (Z:St) (H:Hp) (Q:Bool->Hp->Prop),Inv X pi Z H s->t Z H Q ->
  wpAny (model X.prog X.w) X.A (forIn es true λc r=>if r=true then do let ok <- isTrue c X.env (eval c X.env);pure (ForInStep.yield ok) else pure (ForInStep.yield r)) (TP X pi Z Q) X.xe s
abbrev b23:TT:=λx H Q=>Q true H
def UE:mh X [] b23:=λpi s Z H Q I h=>ak #[H,I,h]
def UG{c:Expr}{t:TT}(h:PT X c t):mh X [c] t:=by
 intro pi s Z H Q I q;exact aa (aa (bC (h pi s Z H Q I q) (λb s' hb=>ak (ak hb)) λy y x=>x))
abbrev F1(scope:Scope)(cl:@&(Str×Addr))(C:Addr):@&(Str×Addr):=cellsFrom (C+1) scope.names []++cl
def I9:∀(names:@&(Str×NameKind)) (n:Nat) (acc:@&(Str×Addr)),cellsFrom n names acc=cellsFrom n names []++acc
 |[],_,_=>rfl
 |(y,k)::r,n,acc=>by
  unfold cellsFrom;split
  .rw[I9 r (n+1) ((y,n)::acc),I9 r (n+1) [(y,n)],iB]
   rfl
  .exact I9 r n acc
def W3{x:Str}{c:Addr}:∀{names:@&(Str×NameKind)} {n:Nat},(x,c)∈cellsFrom n names []->(x,NameKind.cell)∈names
 |[],_,h=>by simp[cellsFrom] at h
 |(y,k)::r,n,h=>by
  unfold cellsFrom at h;split at h
  .rw[I9] at h;rcases aW.mp h with z|z
   .exact bA _ (W3 z)
   grind
  .exact bA _ (W3 h)
def O2{α:Type}:∀{a b:@&(Str×α)},(a++b).lookup x=(a.lookup x).or (b.lookup x)
 |[],_=>rfl
 |(y,v)::r,b=>by
  grind
def NX(h:scope.names.lookup x=!.cell\/∃c,cl.lookup x=!c):∃c,(F1 scope cl C).lookup x=!c:=by
 unfold F1;rw[O2];cases e:(cellsFrom (C+1) scope.names []).lookup x with
 |some c=>exact#[c,rfl]
 |none =>
  rcases h with h|h
  .let q:=dS scope.names (C+1) [] (.inl h);rw[e] at q;cases q
  .exact h
def O9{env:Env}:∀{names:@&(Str×NameKind)} {x:Str},names.lookup x=!.cell ->
  (names.map λ(n,k)=>if(k==NameKind.free&&env.scope.kind==.function&&env.kindOf n==!.cell) then(n,NameKind.cell) else(n,k)).lookup x=!.cell
 |[],_,h=>by simp at h
 |(n,k)::r,x,h=>by
  let ih:=@O9 env r x;change List.lookup x ((if(k==NameKind.free&&env.scope.kind==.function&&env.kindOf n==!.cell)=true then(n,NameKind.cell) else(n,k))::_)=_;cases hx:x==n with
  |true =>
   simp only[List.lookup_cons,hx] at h
   simp_all
  |false =>
   simp only[List.lookup_cons,hx] at h;by_cases hc:(k==NameKind.free&&env.scope.kind==.function&&env.kindOf n==!.cell)=true
   .rw[ay hc];simp only[List.lookup_cons,hx];exact ih h
   .rw[az hc];simp only[List.lookup_cons,hx];exact ih h
def Nq{h:Heap}(ck:CellsOk h (C+1) (cellsFrom (C+1) scope.names [])){c:Addr}(e:(F1 scope cl C).lookup x=!c):C<c\/cl.lookup x=!c:=by
 unfold F1 at e;rw[O2] at e;cases e2:(cellsFrom (C+1) scope.names []).lookup x with
 |some c' =>
  rw[e2] at e;cases e;exact .inl (ck.empty x c (aS e2)).2
 |none =>
  rw[e2] at e;exact .inr e
def Md{M:Model}{E:Value->Shared->Prop}{globals:Addr}{outer:Env}{Q:Env->Shared->Prop}(hQ:∀ dB:Heap,dB.Ns s⁻¹ (λx=>none)->(∀ b o,s.heap.get? b=!o->dB.get? b=!o)->CellsOk dB (s⁻¹ + 1) (cellsFrom (s⁻¹ + 1) scope.names []) ->
   Q (newEnv scope s⁻¹ globals (F1 scope cl s⁻¹) qual none .none (!outer) builtinsNs) { s with heap:=dB }) :
  wpAny M A (newFunctionEnv scope globals cl [] qual none .none (!outer)) Q E s:=by
 simp only[newFunctionEnv,Option.isSome_some,if_true];refine aa (wpAny_alloc ?_);refine aa (wpAny_layCells _ (λname kind cells=>by rfl) _ _ _ _ ?_);let ok:=cellsFrom_ok scope.names (s.heap.push { cls:=.type "dict",data:=.dict (List.toArray []) }) (s⁻¹+1) [] #[λx x hm=>(nomatch hm),List.Pairwise.nil] #[_];rw[fk] at ok;rw[show({ s with heap:=s.heap.push { cls:=.type "dict",data:=.dict (List.toArray []) } }:Shared).heap.objs.size=s⁻¹+1 from fk ..];refine aa (ak (ak ?_));rw[I9];exact hQ _ ((Heap.Ns.new s.heap (.type "dict")).keeps (pushCells_keeps _ _)) (λb o e=>pushCells_keeps _ _ b o (ao _ e)) ok
abbrev f7(X:Cx)(pi:@&(Addr×Obj))(scope:Scope)(N':@&Str)(cl:@&(Str×Addr))(C:Addr)(s:Shared)(H:Hp)(fp:@&Addr):Cx where
 prog:=X.prog
 w:=X.w
 K:=X.K
 mg:=X.mg
 base:=X.base
 A:=X.A
 N:=N'
 dA:=s
 kc:=H
 env:=compEnvC scope (F1 scope cl C) C X.env
 outer:=X.stack
 stack:=X.stack
 ex:=fp
 calm:=true
 fn:=λx=>decide (scope.names.lookup x=!.cell)
 pn:=X.pn++pi
 xe:=λy y=>False
structure dw(X:Cx)(scope:Scope)(N':@&Str)(d4:@&Nat)(cl:@&(Str×Addr)):Prop where
 kind:scope.kind=.function
 cells:∀y∈scope.names,y.2=.cell->scope.names.lookup y.1=!.cell
 names:∀y∈scope.names,y.2=.local->scope.names.lookup y.1=!.local
 sG:closureFor scope X.env=pure cl
 cin:∀x c,cl.lookup x=!c->X.env.cells.lookup x=!c
 xi:∀x,scope.names.lookup x=!.free->∃c,cl.lookup x=!c
 nd:N'.Nodup
 Tq:∀(i j:Nat),d4[i]?=!j->∃x,N'[i]?=!x/\X.N[j]?=!x/\scope.names.lookup x=!.free/\(X.env.kindOf x=!.cell\/X.env.kindOf x=!.free)
 CZ:-d4<=-N'
def J2{env:Env}:∀{names:@&(Str×NameKind)} {x:Str},names.lookup x=!.free ->
  (names.map λ(n,k)=>if(k==NameKind.free&&env.scope.kind==.function&&env.kindOf n==!.cell) then(n,NameKind.cell) else(n,k)).lookup x=!.cell \/
  (names.map λ(n,k)=>if(k==NameKind.free&&env.scope.kind==.function&&env.kindOf n==!.cell) then(n,NameKind.cell) else(n,k)).lookup x=!.free
 |[],_,h=>by simp at h
 |(n,k)::r,x,h=>by
  let ih:=@J2 env r x;change List.lookup x ((if(k==NameKind.free&&env.scope.kind==.function&&env.kindOf n==!.cell)=true then(n,NameKind.cell) else(n,k))::_)=_\/List.lookup x ((if(k==NameKind.free&&env.scope.kind==.function&&env.kindOf n==!.cell)=true then(n,NameKind.cell) else(n,k))::_)=_;cases hx:x==n with
  |true =>
   simp only[List.lookup_cons,hx] at h;cases h;by_cases hc:(NameKind.free==NameKind.free&&env.scope.kind==.function&&env.kindOf n==!.cell)=true
   .rw[ay hc];simp[List.lookup_cons,hx]
   .rw[az hc];simp[List.lookup_cons,hx]
  |false =>
   simp only[List.lookup_cons,hx] at h;by_cases hc:(k==NameKind.free&&env.scope.kind==.function&&env.kindOf n==!.cell)=true
   .rw[ay hc];simp only[List.lookup_cons,hx];exact ih h
   .rw[az hc];simp only[List.lookup_cons,hx];exact ih h
def P0{env:Env}:∀{names:@&(Str×NameKind)} {x:Str},((names.map λ(n,k)=>if(k==NameKind.free&&env.scope.kind==.function&&env.kindOf n==!.cell) then(n,NameKind.cell) else(n,k)).lookup x=!.cell \/
  (names.map λ(n,k)=>if (k == NameKind.free && env.scope.kind == .function && env.kindOf n == !.cell) then (n,NameKind.cell) else (n,k)).lookup x=!.free)->names.lookup x=!.free \/ names.lookup x=!.cell
 |[],_,h=>by simp at h
 |(n,k)::r,x,h=>by
  let ih:=@P0 env r x;rw[bJ] at h;cases hx:x==n with
  |true =>
   simp only[List.lookup_cons,hx];by_cases hc:(k==NameKind.free&&env.scope.kind==.function&&env.kindOf n==!.cell)=true
   .refine .inl ?_;simp only[Bool.and_eq_true,beq_iff_eq] at hc;rw[hc.1.1]
   .simp only[if_neg hc,List.lookup_cons,hx] at h;rcases h with h|h
    .exact .inr h
    .exact .inl h
  |false =>
   simp only[List.lookup_cons,hx];by_cases hc:(k==NameKind.free&&env.scope.kind==.function&&env.kindOf n==!.cell)=true
   .simp only[if_pos hc,List.lookup_cons,hx] at h;exact ih h
   .simp only[if_neg hc,List.lookup_cons,hx] at h;exact ih h
abbrev F2(Z:St)(d4:@&Nat)(n:Nat):St:=d4.map (λj=>(Z[j]?).join)++List.replicate (n- -d4) none
section
variable{pi:@&(Addr×Obj)}{Z:St}{H:Hp}
def Inv.aZ2{h1:Heap}{tk:Nat}(I:Inv X pi Z H s)(S:dw X scope N' d4 cl)(hc:X.calm=true)(hf:∀b∈fp,J5 X pi H b)(ho:∀b∈fp,∃o,s.heap.get? b=!o)(hC:s⁻¹<=C)(hn:∃m,h1.Ns C m)(k:∀b o,s.heap.get? b=!o->h1.get? b=!o)(ck:CellsOk h1 (C+1) (cellsFrom (C+1) scope.names [])) :
  Inv (f7 X pi scope N' cl C s H fp) [] (F2 Z d4 (-N')) H { s with heap:=h1,toks:=tk }:=by
 let#[m,hm]:=hn;let QR:(relabel scope X.env).kind=.function:=S.kind;let Hs:∀b o,s.heap.get? b=!o->b≠C:=λb o e z=>absurd (aC e) (by simp_all);let two:∀{x:Str} {c:Addr},(F1 scope cl C).lookup x=!c->(C<c/\h1.IsCell c none/\(x,c)∈cellsFrom (C+1) scope.names [])\/(cl.lookup x=!c/\(cellsFrom (C+1) scope.names []).lookup x=none):=λ{x c} h=>by
  unfold F1 at h;rw[O2] at h;cases e:(cellsFrom (C+1) scope.names []).lookup x with
  |some c' =>
   rw[e] at h;cases h;let hm:=aS e;exact .inl #[(ck.empty x c hm).2,(ck.empty x c hm).1,hm]
  |none =>
   rw[e] at h;exact .inr #[h,rfl]
 let vo:∀{x:Str} {c:Addr},cl.lookup x=!c->c<s⁻¹:=λ{x c} h=>by
  let#[v,o,e,_]:=I.cell x c (S.cin x c h);exact aC e
 let frees:∀{x:Str},scope.names.lookup x=!.free->(F1 scope cl C).lookup x=cl.lookup x:=λ{x} h=>by
  unfold F1;rw[O2];cases e:(cellsFrom (C+1) scope.names []).lookup x with
  |some c' =>
   have:=S.cells _ (W3 (aS e)) rfl
   simp_all
  |none=>rfl
 refine#[#[I.mod,QR,I.ok.glob,I.ok.blt,hC,?_,?_,?_,λw=>I.ok.hd hc,I.ok.frames,.inl rfl,?_,I.bs,?_,?_,?_,I.stack,I.DX],rfl,I.bare,Un.kept k,#[m,hm,?_],?_,?_,?_,?_,I.bZ.kept k,?_,λkd z=>absurd (show(none:Option (List (Option V)))=some kd from z) #[_]]
 .intro x y c h1 h2;rcases two h1 with⟨l1,_,q1⟩|⟨q1,_⟩<;>rcases two h2 with⟨l2,_,q2⟩|⟨q2,_⟩
  .exact PySem.name_of_addr ck.apart q1 q2
  .exact absurd (cU l1 (aD (vo q2) hC)) (cg _)
  .exact absurd (cU l2 (aD (vo q1) hC)) (cg _)
  .exact I.ok.inj x y c (S.cin x c q1) (S.cin y c q2)
 .intro x hx;rcases P0 (env:=X.env) (names:=scope.names) hx with z|z
  .let#[c,hc]:=S.xi x z;exact#[c,(frees z).trans hc]
  .let q:=dS scope.names (C+1) [] (.inl z);let#[c,hc]:=fj.mp q;refine#[c,?_];show(F1 scope cl C).lookup x=!c;unfold F1;rw[O2,hc]
   rfl
 .intro x c hf h;let z:scope.names.lookup x=!.cell:=bx hf;let q:=dS scope.names (C+1) [] (.inl z);rcases two h with⟨l,_⟩|⟨_,e⟩
  .exact eT (fA hC l)
  simp_all
 .intro b hb;let#[f0,f1,f2,f3,f4,f5]:=hf b hb;let#[o,e]:=ho b hb;refine#[Hs b o e,λx c h=>?_];rcases two h with⟨l,_⟩|⟨q,_⟩
  .intro z;subst z;exact absurd (cU l (aD (aC e) hC)) (cg _)
  .exact f4 x c (S.cin x c q)
 .exact aG I.ok.qO I.sz
 .intro b o e hb;let#[f0,f1,f2,f3,f4,f5]:=hf b hb;rcases f3 with f3|f3
  .exact I.ok.nY b o e f3
  .exact absurd (aC (I.ok.bs b o e).1) (OY.mpr f3)
 .intro b hb z;let#[f0,f1,f2,f3,f4,f5]:=hf b hb;rcases aJ.mp (I.U9 b z) with z|z
  .exact f1 z
  .exact f2 z
 .intro i x v CH h2 h3;let hi:i< -d4:=by
   unfold F2 at h2;by_cases hi:i< -d4
   .exact hi
   .rw[bE (by simpa using hi),fG] at h2
    simp_all
  obtain⟨j,hj⟩:∃j,d4[i]?=!j:=#[_,ag hi]
  let hs:Z[j]?=!!v:=by
   unfold F2 at h2;rw[aH (by simpa using hi),aj,hj] at h2;simp only[Option.map_some] at h2;cases e:Z[j]? with
   |none=>rw[e] at h2;cases h2
   |some a=>rw[e] at h2;exact iR some (aN h2)
  let#[y,Qr,Qq,Bn,Qp]:=S.Tq i j hj;let ey:y=x:=by
   let wO:N'[i]?=!x:=CH;rw[Qr] at wO;exact aN wO
  subst ey;let#[m0,HP,hl]:=I.loc;let ⟨u,ru,hu⟩:=hl j y v Qq hs (by
   rcases Qp with z|z
   .exact .inr (.inl z)
   .exact .inr (.inr z))
  refine#[u,ru,.inr #[J2 (env:=X.env) (names:=scope.names) Bn,?_]];rcases hu with⟨z,_⟩|⟨_,c,rT,pO⟩
  .simp_all
  .let#[c',jO]:=S.xi y Bn;let e:=S.cin y c' jO;rw[rT] at e;cases e;let#[o,e1,e2]:=pO;exact#[c,(frees Bn).trans jO,o,k _ _ e1,e2]
 .intro x c h;rcases two h with⟨_,q,_⟩|⟨q,_⟩
  .exact#[none,q]
  .let#[v,o,e1,e2]:=I.cell x c (S.cin x c q);exact#[v,o,k _ _ e1,e2]
 .exact I.bZ.fresh hC
 .intro x c h;rcases two h with⟨l,_⟩|⟨q,_⟩
  .exact I.bZ.fresh (eT (fA hC l))
  .exact I.gz x c (S.cin x c q)
 .intro p hp;let jY:p∈X.pn++pi:=by simpa[f7] using hp
  let#[p1,p2,p3,p4,p5]:=I.pin p jY;refine#[k _ _ p1,p2,Hs _ _ p1,λz=>?_,p5];rcases aJ.mp (I.U9 _ z) with z|z
  .exact p3 z
  .exact p4 z
 .unfold F2;change _=-N';rw[ba,au,List.length_replicate];have:=S.CZ;omega
def Inv.VL{hJ:@&(Addr×Obj)}{cB:St}{H':Hp}{s':Shared}(I:Inv X pi Z H s)(hf:∀b∈fp,J5 X pi H b)(J:Inv (f7 X pi scope N' cl C s H fp) hJ cB H' s'):Inv X pi Z H' s' :=
 I.Ff (ch:=fp) J.os J.base J.bZ J.bare λb hb=>by
  let#[f0,f1,f2,f3,f4,f5]:=hf b hb;exact#[f3,f1,f4,f5]
def Inv.Zj{D:Addr}{ys:@&V}{bh:@&Value}{n:Nat}(I:Inv X pi Z H s)(f:J5 X pi H D)(hs:X.dA.heap.objs.size<=D)(hv:Vals ys bh)(hz:-ys<=sizeLine)(ho:s.heap.get? D=some { cls:=.type "list",data:=.seq bh.toArray n }):Inv X pi Z (upd H D (.lst ys)) s:=by
 let#[f0,f1,f2,f3,f4,f5]:=f;let dD:∀b o,X.dA.heap.get? b=!o->b≠D:=λb o e z=>absurd (aC e) (by rw[z];exact OY.mpr hs);let tup:∀b u,H b=!u->upd H D (.lst ys) b=!u:=λb u e=>by rw[d8 (j2 e f0)];exact e
 refine#[I.ok,I.os,I.bare,#[?_,?_,?_,I.base.there,?_,?_,?_],I.loc,I.cell,?_,?_,?_,?_,I.len,I.sg]
 .exact λb o e n1 n2 n3=>I.base.keep b o e n1 n2 n3
 .exact λb o e n1 n2 n3=>I.base.slot b o e n1 n2 n3
 .exact λb o e n1 n2=>by rw[d8 (dD b o e)];exact I.base.free b o e n1 n2
 .exact λb xs e=>tup _ _ (I.base.jB b xs e)
 .exact λb o u e=>tup _ _ (I.base.jl b o u e)
 .exact λb ps e=>by
   let#[more,q]:=I.base.jC b ps e;exact#[more,tup _ _ q]
 .rw[d8 f1.symm];exact I.free
 .exact λx c e=>by rw[d8 (f4 x c e)];exact I.gz x c e
 .intro p hp;let#[p1,p2,p3]:=I.pin p hp;exact#[p1,by rw[d8 (f5 p hp)];exact p2,p3]
 .intro a o e;by_cases ha:a=D
  .subst ha;rw[j4] at e;cases e;exact#[hz,bh,n,hv,ho]
  .rw[d8 ha] at e;let q:=I.bZ a o e;refine q.J1 (λb u y h=>h) (λb hb=>tup _ _ hb) (λb xs hb=>tup _ _ hb)
end
abbrev Fx(wi:TI)(d4:@&Nat)(n:Nat)(g:TG)(tc:TT)(te:TE):TE:=λZ H Q=>wi Z H λJ H1=>∃W:Nat->Nat->@&V->St->Hp->Prop,(∃m,W 0 m [] (F2 Z d4 n) H1)/\∀i m ys Z H,W i m ys Z H ->
 (J.stop i H/\∀p,H p=none->Q (.ref p) (upd H p (.lst ys))) \/
 (J.go i H/\-ys < sizeLine/\∀ x H',J.qk i H x H'->g x Z H' λcQ H2=>tc cQ H2 λb H3 =>
  if b=true then te cQ H3 λy H4=>∃ m',m' < m/\W (i + 1) m' (ys ++ [y]) cQ H4 else ∃ m',m' < m/\W (i + 1) m' ys cQ H3)
noncomputable abbrev b54(bh:@&Value)(n:Nat):Obj:={ cls:=.type "list",data:=.seq bh.toArray n }
section
variable{pi:@&(Addr×Obj)}{Z:St}{H:Hp}
structure GG(X:Cx)(n0:Nat){α:Type}(K:Addr->α->Heap->Obj->Prop)(fin:Addr->α->HO):Prop where
 nc:∀{a y h o},K a y h o->∀v,o.data≠.cell v
 get:∀{a y h o},K a y h o->h.get? a=!o
 J1:∀{a y h h' o},K a y h o->h'.get? a=!o->K a y h' o
 done:∀{pi Z H s a y o},n0<=a->Inv X pi Z H s->J5 X pi H a->X.dA.heap.objs.size<=a->K a y s.heap o->Inv X pi Z (upd H a (fin a y)) s
def NQ{α:Type}{K:Addr->α->Heap->Obj->Prop}{fin:Addr->α->HO}{y0:α}{o0:Obj}{Bd:α->Prop}{tb:α->St->Hp->(α->Hp->Prop)->Prop}{body:(Shared->Prop)->Shared->Prop}{LP:Shared->Prop}{it:Addr}{tn:Nat->Heap->Prop}{J:It}{R:Result->Shared->Prop}{W:Nat->Nat->α->St->Hp->Prop}{m0:Nat}{Q:VK}{dB:Heap}{env:Env}(G:GG X s⁻¹ K fin)(S:dw X scope N' d4 cl)(hc:X.calm=true)(hg:PG (f7 X pi scope N' cl C s H fp) tg g)(ht:mh (f7 X pi scope N' cl C s H fp) ifs tc)(I:Inv X pi Z H s)(T:Turn X.prog X.w X.K tg J fp it tn)(st:tn 0 s.heap)(hf:∀b∈fp,J5 X pi H b)(w0:W 0 m0 y0 (F2 Z d4 (-N')) H)(turn:∀ i m y Z H,W i m y Z H->(J.stop i H/\∀ p,H p=none->Q (.ref p) (upd H p (fin p y))) \/
   (J.go i H/\Bd y/\∀ x H',J.qk i H x H'->g x Z H' λcQ H2=>tc cQ H2 λb H3 =>
    if b=true then tb y cQ H3 λy' H4=>∃ m',m' < m/\W (i + 1) m' y' cQ H4 else ∃ m',m' < m/\W (i + 1) m' y cQ H3))(wJ:∀s' H' m,Inv X pi Z H' s'->Q (.ref s⁻¹) H'->s'.heap.Ns C m->H' C=none->s⁻¹<=C->R (.ok .next) s')(nh:∃m,dB.Ns C m)(tP:∀b o,(s.heap.push o0).get? b=!o->dB.get? b=!o)(pN:CellsOk dB (C+1) (cellsFrom (C+1) scope.names []))(eC:s⁻¹+1=C)(k0:K s⁻¹ y0 dB o0)(ev:(f7 X pi scope N' cl C s H fp).env=env)(Cb:∀ y o hJ cB H' s' (P:α->Hp->Prop) (R':Shared->Prop),Bd y->K s⁻¹ y s'.heap o->(∀ {yw H8 s8},Inv (f7 X pi scope N' cl C s H fp) hJ yw H8 s8->s8.heap.get? s⁻¹=!o)->Inv (f7 X pi scope N' cl C s H fp) hJ cB H' s'->tb y cB H' P ->
   (∀ s8 H8 y' h' t' o',Inv (f7 X pi scope N' cl C s H fp) hJ cB H8 s8->P y' H8->(∀ b u,b ≠ s⁻¹->s8.heap.get? b=!u->h'.get? b=!u)->K s⁻¹ y' h' o'->R' { s8 with heap:=h',toks:=t' })->body R' s')(lp:∀ (I:Nat->Shared->Prop),(∀ n s,I n s->wpAny (model X.prog X.w) X.A (pyNext (.ref it)) (λr bH=>match r with
   |none=>R (.ok .next) bH
   | some v=>wpAny (model X.prog X.w) X.A (letOwnedTupleGo tg (.ref it) v) (λt bH=>wpAny (model X.prog X.w) X.A (assign tg env v) (λ_ fm =>
     wpAny (model X.prog X.w) X.A (forIn ifs true λc r=>if r=true then do let ok <- isTrue c env (eval c env);pure (ForInStep.yield ok) else pure (ForInStep.yield r)) (λok fI =>
      if ok=true then body (λjD=>∃ m,m < n/\I m jD) fI else ∃ m,m < n/\I m fI) (λt t=>False) fm) (λt t=>False) bH) (λt t=>False) bH) (λt t=>False) s)->∀ n,I n { s with heap:=dB }->LP { s with heap:=dB }) :
  tn 0 dB/\LP { s with heap:=dB }:=by
 subst ev;generalize Ck:s.heap.push o0=H2 at tP;generalize eD:s⁻¹=D at *;let IC:D≠C:=by omega
 let lt:∀b o,s.heap.get? b=!o->b<D:=λb o e=>by rw[<- eD];exact aC e
 let yK:D<=C:=by omega
 let tI:∀b o,s.heap.get? b=!o->b≠C:=λb o e=>aK (aD (lt b o e) yK);let vB:∀b o,s.heap.get? b=!o->b≠D:=λb o e=>aK (lt b o e);let old:∀b o,s.heap.get? b=!o->dB.get? b=!o:=λb o e=>tP b o (Ck▸ao _ e);let lY:∀b∈fp,∃o,s.heap.get? b=!o:=λb hb=>by
  let#[o,e,_]:=T.obj _ _ st b hb;exact#[o,e]
 let IB:D∉fp:=λhm=>by
  let#[o,e]:=lY D hm;exact vB D o e rfl
 let X1:Inv (f7 X pi scope N' cl C s H fp) [] (F2 Z d4 (-N')) H { s with heap:=dB } :=
  I.aZ2 S hc hf lY (by rw[eD];omega) nh old pN
 let yE:tn 0 dB:=T.keep _ _ _ st λb t o e=>old b o e;let SH:∀{H':Hp},(∀b∈fp,H' b=none)->∀b∈fp,J5 (f7 X pi scope N' cl C s H fp) [] H' b:=λhn b hb=>by
  let#[f0,f1,f2,f3,f4,f5]:=hf b hb;let#[o,e]:=lY b hb;refine#[hn b hb,?_,?_,.inl hb,λx c q=>(Nq pN q).elim (λl z=>absurd (cU (z▸l) (aD (lt b o e) yK)) (cg _)) λq=>f4 x c (S.cin x c q),λp hp=>?_]
  .exact tI b o e
  .exact λz=>by
    rcases aJ.mp (I.U9 b z) with z|z
    .exact f1 z
    .exact f2 z
  .let jY:p∈X.pn++pi:=by simpa[f7] using hp
   exact f5 p jY
 let fD:∀{H':Hp},H' D=none->J5 (f7 X pi scope N' cl C s H fp) [] H' D:=λhn=>by
  refine#[hn,IC,λz=>?_,.inr (by change s⁻¹<=D;omega),λx c q=>?_,λp hp=>?_]
  .exact absurd (I.Dv (a:=D) ()) λlI=>by
    rcases aJ.mp (I.U9 D z) with z|z
    .exact absurd I.lt (by rw[<- z,eD];exact cg _)
    .exact lI z
  .rcases Nq pN q with l|q
   .exact λz=>absurd (aD (z▸l) yK) (cg _)
   .let#[v,o,e,_]:=I.cell x c (S.cin x c q);exact vB c o e
  .let jY:p∈X.pn++pi:=by simpa[f7] using hp
   exact vB _ _ (I.pin p jY).1
 refine#[yE,lp (λn s'=>∃(i:Nat) (y:α) (cB:St) (H':Hp) (o:Obj),Inv (f7 X pi scope N' cl C s H fp) [] cB H' s'/\tn i s'.heap/\(∀b∈fp,H' b=none)/\H' D=none/\K D y s'.heap o/\W i n y cB H') ?_ m0 #[0,y0,_,H,o0,X1,yE,λb hb=>(hf b hb).1,I.bZ.fresh (),k0,w0]];rintro n s3 ⟨i,y,js,H3,o,I3,ve,wU,d3,k3,w3⟩;let OO:Inv (f7 X pi scope N' cl C s H fp) [(D,o)] js H3 s3:=I3.xN λp hp=>by
  let z:p=(D,o):=by simpa using hp
  subst z;let#[f0,f1,f2,_]:=fD d3;exact#[G.get k3,f0,f1,f2,G.nc k3]
 let ug:∀{H':Hp},(∀b∈fp,H' b=none)->∀b∈fp,J5 (f7 X pi scope N' cl C s H fp) [(D,o)] H' b:=λ{H'} hn b hb=>by
  let#[f0,f1,f2,f3,f4,f5]:=SH hn b hb;refine#[f0,f1,f2,f3,f4,λp hp=>?_];let jY:p∈(f7 X pi scope N' cl C s H fp).pn\/p=(D,o):=by simpa using hp
  rcases jY with z|z
  .exact f5 p (gj _ z)
  .subst z;exact λz=>IB (by rw[show D=b from z];exact hb)
 rcases turn i n y js H3 w3 with⟨stop,q⟩|⟨go,hz,step⟩
 .refine cI (T.done (f7 X pi scope N' cl C s H fp) rfl rfl rfl rfl i _ s3 _ H3 _ OO (ug wU) ve stop) ?_;rintro r s4 ⟨hr,I4⟩;subst hr;let J4:Inv X pi Z H3 s4:=I.VL hf I4;let SI:J5 X pi H3 D:=by
   refine#[d3,cE (by rw[<- eD];exact I.lt),I.Dv (),.inr (by have:=I.sz;omega),λx c q=>?_,λp hp=>?_]
   .let#[v,o,e,_]:=I.cell x c q;exact vB c o e
   .exact vB _ _ (I.pin p hp).1
  let#[mC,QJ,_]:=I4.loc;exact wJ s4 _ mC (G.done (aw _) J4 SI (by have:=I.sz;omega) (G.J1 k3 (I4.pin (D,o) #[_]).1)) (q D d3) QJ (by rw[d8 IC.symm];exact I4.free) yK
 .refine cI (T.item (f7 X pi scope N' cl C s H fp) rfl rfl rfl rfl i _ s3 _ H3 _ OO (ug wU) ve go) ?_;rintro r s4 ⟨u,hr,h4⟩;subst hr;refine cI h4 λt s5 bo=>?_;let#[x,H5,I5,r5,y5,rp,CJ]:=bo;let GF:=I5.pinned (ug CJ) (T.obj _ _ rp);refine cI (hg _ s5 _ H5 x u _ GF r5 (step x H5 y5)) λt s6 bo=>?_;let#[rf,H6,I6,q6]:=bo;refine cI (ht _ s6 rf H6 _ I6 q6) ?_;rintro ok s7 ⟨H7,I7,q7⟩;let back:∀{yw:St} {H8:Hp} {s8:Shared},Inv (f7 X pi scope N' cl C s H fp) ([(D,o)]++xC fp s5.heap) yw H8 s8->(∀b∈fp,H8 b=none)/\tn (i+1) s8.heap/\H8 D=none/\s8.heap.get? D=!o :=
   λ{yw H8 s8} I8=>by
    let pf:∀b∈fp,∀o,s5.heap.get? b=!o->s8.heap.get? b=!o/\H8 b=none:=λb hb o e=>by
     have:=I8.pin (b,o) (bS _ (bS _ (Fd hb e)));exact#[this.1,this.2.1]
    let pd:=I8.pin (D,o) #[_];refine#[λb hb=>?_,T.keep _ _ _ rp λb hb o e=>(pf b hb o e).1,pd.2.1,pd.1];let#[o,e,_]:=T.obj _ _ rp b hb;exact(pf b hb o e).2
  cases ok with
  |false =>
   let#[m',hm,w7]:=q7;let#[b1,b2,b3,b4]:=back I7;exact#[m',hm,i+1,y,rf,H7,o,I7.xN λp hp=>absurd hp #[_],b2,b1,b3,G.J1 k3 b4,w7]
  |true =>
   refine Cb y o _ rf H7 s7 _ _ hz (G.J1 k3 (back I7).2.2.2) (λI8=>(back I8).2.2.2) I7 q7 ?_;rintro s8 H8 y' h' t' o' I8 ⟨m',hm,w8⟩ kp k8;let#[b1,b2,b3,b4]:=back I8;let I8':Inv (f7 X pi scope N' cl C s H fp) [] rf H8 s8:=I8.xN λp hp=>absurd hp #[_];let#[f0,f1,f2,f3,f4,f5]:=fD (H':=H8) b3;exact#[m',hm,i+1,y',rf,H8,o',I8'.turned (it:=D) (t':=t') (λb o hb e=>kp b o hb e) f0 f1 f3 f4 f5,T.keep _ _ _ b2 λb hb o e=>kp b o (λz=>IB (by rw[<- z];exact hb)) e,b1,b3,k8,w8]
abbrev KL(a:Addr)(ys:@&V)(h:Heap)(o:Obj):Prop:=∃bh n,Vals ys bh/\-ys<=sizeLine/\o=b54 bh n/\h.get? a=!o
def VW{n0:Nat}:GG X n0 KL λx ys=>.lst ys where
 nc:=λ⟨_,_,_,_,e,_⟩ v z=>by subst e;cases z
 get:=λ⟨_,_,_,_,_,e⟩=>e
 J1:=λ⟨bh,n,h1,h2,h3,_⟩ e=>#[bh,n,h1,h2,h3,e]
 done:=λ_ I f hs ⟨bh,n,h1,h2,h3,e⟩=>I.Zj f hs h1 h2 (h3▸e)
def Lb{it:Addr}{tn:Nat->Heap->Prop}{J:It}{xx:Addr->Shared->Hp->Value->Shared->Prop}{RR:Value->Addr->Result->Shared->Prop}{E:Value->Shared->Prop}{W:Nat->Nat->@&V->St->Hp->Prop}{m0:Nat}{Q:VK}(S:dw X scope N' d4 cl)(hc:X.calm=true)(hg:∀C s H,PG (f7 X pi scope N' cl C s H fp) tg g)(ht:∀C s H,mh (f7 X pi scope N' cl C s H fp) ifs tc)(he:∀C s H,PE ((f7 X pi scope N' cl C s H fp).qh (xx C s H)) elt te)(I:Inv X pi Z H s)(T:Turn X.prog X.w X.K tg J fp it tn)(st:tn 0 s.heap)(hf:∀b∈fp,J5 X pi H b)(w0:W 0 m0 [] (F2 Z d4 (-N')) H)(turn:∀ i m ys Z H,W i m ys Z H->(J.stop i H/\∀ p,H p=none->Q (.ref p) (upd H p (.lst ys))) \/
   (J.go i H/\-ys < sizeLine/\∀ x H',J.qk i H x H'->g x Z H' λcQ H2=>tc cQ H2 λb H3 =>
    if b=true then te cQ H3 λy H4=>∃ m',m' < m/\W (i + 1) m' (ys ++ [y]) cQ H4 else ∃ m',m' < m/\W (i + 1) m' ys cQ H3))(wJ:∀D C s' H' m,Inv X pi Z H' s'->Q (.ref D) H'->s'.heap.Ns C m->H' C=none->s⁻¹<=C->RR (.ref D) C (.ok .next) s')(Rz:∀D C e s',s⁻¹<=C->xx C s H e s'->notedBy (model X.prog X.w) X.A (compEnvC scope (F1 scope cl C) C X.env) (λe s'=>RR (.ref D) C (.error e) s') e s') :
  wpAny (model X.prog X.w) X.A (newList []) (λacc fI=>wpAny (model X.prog X.w) X.A (newFunctionEnv scope X.env.globals cl [] X.env.qual none .none (!X.env)) (λnt iU =>
   nt.frame=X.env.frame/\codeAny (model X.prog X.w) X.A (.compStart (.ListComp elt [#[tg,iter,ifs,0]] scope pos) 0 (.ref it) acc { nt with scope:=relabel scope X.env }) (RR acc nt.locals) iU) E fI) E s:=by
 refine cS (Md λdB jI iq pN=>?_);dsimp only at jI iq pN ⊢;let eC:(s.heap.push { cls:=.type "list",dict:=none,data:=.seq ([]:@&Value).toArray }).objs.size=s⁻¹+1:=fk ..
 replace eC:=eC.symm
 generalize (s.heap.push { cls:=.type "list",dict:=none,data:=.seq ([]:@&Value).toArray }).objs.size=C at *;refine (λL=>#[rfl,codeAny_compStart_list L.2 (T.self _ 0 _ _ _ L.1 L.2)]) (NQ (R:=RR (.ref s⁻¹) C) (LP:=codeAny (model X.prog X.w) X.A (.compLoop (.ListComp elt [#[tg,iter,ifs,0]] scope pos) 0 (.ref it) (.ref s⁻¹) (compEnvC scope (F1 scope cl C) C X.env)) (RR (.ref s⁻¹) C)) (tb:=λys Z H P=>te Z H λy H'=>P (ys ++ [y]) H') (env:=compEnvC scope (F1 scope cl C) C X.env)
  (body:=λP fI=>wpAny (model X.prog X.w) X.A (eval elt (compEnvC scope (F1 scope cl C) C X.env)) (λx iU=>wpAny (model X.prog X.w) X.A (call (.builtin "list.append") [.ref s⁻¹,x]) (λz jD=>P jD) (λz z=>False) iU) (notedBy (model X.prog X.w) X.A (compEnvC scope (F1 scope cl C) C X.env) λe s'=>RR (.ref s⁻¹) C (.error e) s') fI)
  VW S hc (hg C s H) (ht C s H) I T st hf w0 turn (λs' H' m=>wJ _ C s' H' m) #[_,jI] iq pN eC #[[],0,.nil,cH _,rfl,iq _ _ (aE _ rfl)] rfl (λys o hJ cB H' s' P R' hz k hb I' q hR=>?_) (λI turn n h=>aK2 I turn n h))
 .refine bC (he C s H _ s' cB H' _ (I'.qh _) q) (λxv s8 bo=>?_) λe s' hx=>Rz _ C e s' () hx;let#[y,H8,I8,r8,q8]:=bo;let I8:=I8.Gg;let#[bh,nn,v3,z3,rfl,_]:=k;let b4:=hb I8;refine eI F.slot_list_append #[_,b4,rfl] F.entry_list_append (F.args_list_append_2 _ _) (PySem.list_append _ bh.toArray nn xv (by rw[aQ];have:=-v3;omega)) #[b4,?_];let q0:=PySem.IsL.update b4 (·.push xv);rw[show bh.toArray.push xv=(bh++[xv]).toArray by simp] at q0;exact hR s8 H8 _ _ s8.toks _ I8 q8 (λb' u hb hu=>(eJ s8.heap (Obj.mapSeq (·.push xv)) (bI hb)).trans hu) #[_,_,v3.append (.cons r8 .nil),by rw[ba,yq];omega,rfl,q0]
def Inv.Jv{h':Heap}{s2:Shared}{H2:Hp}(I:Inv X pi Z H s)(hC:s2⁻¹<=C)(I2:Inv X pi Z H2 s2)(hn:H C=none)(sb:Heap.SameBut C s.heap h'):Inv X pi Z H { s with heap:=h' }:=by
 let f:=I2.qR (b:=C) (H':=H) hC hn;let#[f0,f1,f2,f3,f4,f5]:=f;exact I.turned (t':=s.toks) (λb o hb e=>sb.extBut b o hb e) f0 f1 f3 f4 f5
def Lc{M:Model}{E:Value->Shared->Prop}{a:Sem Value}{b:Sem Env}{P:Env->Prop}{Q:Value->Env->Shared->Prop}(h:wpAny M A a (λx s1=>wpAny M A b (λy s2=>P y/\Q x y s2) E s1) E s):wpAny M A a (λx s1=>wpAny M A b (λy s2=>Q x y s2) E s1) E s :=
 bC h (λw w h=>bC h (λw w h=>h.2) λw w z=>z) λw w z=>z
def MK{wi:TI}(S:dw X scope N' d4 cl)(hc:X.calm=true)(hi:PI X tg iter wi)(hg:∀pi C s H fp,PG (f7 X pi scope N' cl C s H fp) tg g)(ht:∀pi C s H fp,mh (f7 X pi scope N' cl C s H fp) ifs tc)(he:∀pi C s H fp,PE (f7 X pi scope N' cl C s H fp) elt te)(hs:∀x,foldedSetIterable iter X.env x=pure x):PE X (.ListComp elt [#[tg,iter,ifs,0]] scope pos) (Fx wi d4 (-N') g tc te):=by
 intro pi s Z H Q I h;refine jx (use:=none) rfl hs S.sG S.kind S.names (cI (hi pi s Z H _ I h) λxv bH dB=>cI dB λvP fm ip=>?_);let#[it,fp,tn,J,H2,e,I2,T,kW,f2,W,#[m0,w0],turn]:=ip;subst e;refine Lc (Lb (xx:=λy y y y y=>False) (RR:=λacc C=>compPost (model X.prog X.w) X.A X.xe none (EP X pi Z Q) acc C) S hc (λC s H=>hg pi C s H fp) (λC s H=>ht pi C s H fp) (λC s H=>he pi C s H fp) I2 T kW f2 w0 turn ?_ λy y y y y z=>z.elim);intro D C s' H' m I' q hn hC hsz;exact#[m,hn,λh' sb=>#[.ref D,H',I'.Jv hsz I2 hC sb,rfl,q]]
def aM6{vf px:Pos}{wi:TI}{i:Nat}(S:dw X scope N' d4 cl)(hc:X.calm=true)(hi:PI X tg iter wi)(hg:∀pi C s H fp,PG (f7 X pi scope N' cl C s H fp) tg g)(ht:∀pi C s H fp,mh (f7 X pi scope N' cl C s H fp) ifs tc)(he:∀pi C s H fp,PE (f7 X pi scope N' cl C s H fp) elt te)(hs:∀x,foldedSetIterable iter X.env x=pure x)(hN:X.Nd)(wq:X.N[i]?=!x)(hx:Loc X.env.scope x)(hf:X.fn x=true\/X.env.scope.names.lookup x=!.local) :
  PS X (.Assign [.Name x px] (.ListComp elt [#[tg,iter,ifs,0]] scope pos) vf) (xY (Fx wi d4 (-N') g tc te) (uB i)):=by
 intro pi s Z H D I h;let yO:∃b,swapsWith (.ListComp elt [#[tg,iter,ifs,0]] scope pos) (!.Name x px) vf.line X.env=pure b:=#[_,rfl]
 let#[b,yO]:=yO;cases b with
 |false=>exact Ow hN wq hx (MK S hc hi hg ht he hs) yO hf pi s Z H D I h
 |true =>
  rw[exec_Assign_Name_used _ _ _ _ yO];refine aa (fL (aa ?_));refine aa (bC (jx (use:=!assign (.Name x px) X.env) (Q:=λy s'=>SP X pi D .next s') rfl hs S.sG S.kind S.names
   (cI (hi pi s Z H _ I h) λxv bH dB=>cI dB λvP fm ip=>?_)) (λy s' hq=>ak (ak hq)) λy y e=>e)
  let#[it,fp,tn,J,H2,e,I2,T,kW,f2,W,#[m0,w0],turn]:=ip;subst e;refine Lc (Lb (xx:=λy y y y y=>False) (Q:=λv H1=>uB i v Z H1 D.nx) (RR:=λacc C=>compPost (model X.prog X.w) X.A X.xe (!assign (.Name x px) X.env) (λy s'=>SP X pi D .next s') acc C) S hc (λC s H=>hg pi C s H fp) (λC s H=>ht pi C s H fp) (λC s H=>he pi C s H fp) I2 T kW f2 w0 turn ?_ λy y y y y z=>z.elim);intro Dl C s' H' m I' q hn hC hsz;refine wpAny_assign_Name (KQ I' hN wq hx (v:=.ref Dl) rfl (?_) hf);rintro s3 I3 ⟨a,sb,ha⟩;let RE:C≠a:=by
   let#[f0,f1,f2,f3,f4,f5]:=I2.qR (b:=C) (H':=H') hsz hC;rcases ha with z|z
   .rw[z];exact f1
   .exact λz'=>f4 _ _ z z'.symm
  let#[f0,f1,f2,f3,f4,f5]:=I2.qR (b:=C) (H':=H') hsz hC;refine#[m,hn.sameBut sb RE,λh3 Py=>#[_,H',I3.turned (t':=s3.toks) (λb o hb e=>Py.extBut b o hb e) f0 f1 f3 f4 f5,q]]
end
end L2
namespace HT
open PySem PyProof.Rows
section
variable{prog:Program}{w:World}{A:Around}{E:Value->Shared->Prop}{s:Shared}
def VG{t b:Addr}{ws:@&Value}{Q:Value->Shared->Prop}(ht:IsTup s.heap t (List.toArray []))(hb:IsTup s.heap b ws.toArray)(h1:Q (.ref b) s):wpAny (model prog w) A (binaryOp .Add (.ref t) (.ref b)) Q E s:=by
 let#[#[cls,dd,data,sl],ho,hc,n,hd]:=id ht;let#[#[xh,qN,data2,nS],kM,pO,n2,hd2]:=id hb;simp only at hc hd pO hd2;subst hc hd pO hd2;exact concat_meets #[_,ho,rfl] #[_,kM,rfl] jS nv iY iS (iG _ _)
   (tuple_addW0 t b (List.toArray []) ws.toArray n n2 dd qN sl nS rfl) #[ho,kM,h1]
def af3{t sl:Addr}{items:Array Value}{vl vu:Value}{lo hi:Option Int}{Q:Value->Shared->Prop}(ht:IsTup s.heap t items)(hs:s.heap.IsSliceOf sl vl vu .none)(pl:IsPart vl lo)(pu:IsPart vu hi)(hw:et items.size 0 lo=0/\et items.size items.size hi=items.size)(h:Q (.ref t) s):wpAny (model prog w) A (getItem (.ref t) (.ref sl)) Q E s:=by
 let#[os,rL,qz,wy]:=id hs;let Cd:s.TypeIs (.ref sl) "slice":=#[os,rL,qz]
 unfold getItem
 try with_reducible refine bD ?_
 refine aa (wpAny_sequenceKey ht.typeIs ∅ ?_);refine aa (fT (name:=Str.ofString "__getitem__") ht.typeIs bW
  (cJ bW ht.typeIs entry_tuple_getitem ?_ (args_tuple_getitem _ _)))
 change wpAny _ _ (Builtin.Tuple.tupleItemsOf (.ref t) >>= _) _ _ s;refine aa (tupleItemsOf_ ht ?_);refine aa (dJ Cd ?_);refine aa (V1 hs pl pu ?_);let Bm:((((et items.size 0 lo:Nat):Int)==0&&(1:Int)==1&&(et items.size items.size hi-et items.size 0 lo)==items.size)=true):=by
  simp_all
 change wpAny _ _ (if(((et items.size 0 lo:Nat):Int)==0&&(1:Int)==1&&(et items.size items.size hi-et items.size 0 lo)==items.size)=true then _ else _) _ _ s;rw[ay Bm];refine aa (aa (dJ ht.typeIs (ak ?_)))
 first
  |exact wpAny_bind (wpAny_rule (wpAny_bind (wpAny_pure #[_,rfl,wpAny_pure h])))
  |exact wpAny_bind (wpAny_rule (wpAny_pure #[_,rfl,wpAny_pure h]))
  |exact wpAny_bind (wpAny_rule (wpAny_bind (wpAny_pure (wpAny_pure #[_,rfl,wpAny_pure h]))))
end
end HT
namespace L2
open PySem PySem.Spec PyProof.Rows
section
variable{X:Cx}
abbrev bH5(K:PySem.W.Frag):R2:=λx y H Q=>∃a b xs ys,x=.ref a/\y=.ref b/\iO K H a xs/\iO K H b ys/\-xs+-ys<=sizeLine /\
 (xs=[]->Q (.ref b) H)/\(ys=[]->Q (.ref a) H)/\(∀p,H p=none->Q (.ref p) (upd H p (.tup (xs++ys))))
def Wr:gf X (binaryOp .Add) (bH5 X.K):=by
 intro pi s Z H x y v u Q I rx ry h;let#[a,b,xs,ys,rfl,rfl,ha,hb,hz,q0,q1,q2]:=h;by_cases hx:xs=[]
 .subst hx;cases rx;cases ry;let#[bh,r1,p1,_]:=I.tuple ha;let#[mZ,r2,p2,_]:=I.tuple hb;cases r1;exact HT.VG p1 p2 #[.ref b,H,I,rfl,q0 rfl]
 .exact Uj pi s Z H _ _ v u Q I rx ry #[a,b,xs,ys,rfl,rfl,ha,hb,hx,hz,q1,λz=>q2]
abbrev YR(K:PySem.W.Frag):V->Option Int->Option Int->Hp->VK->Prop:=λx lo hi H Q=>∃a xs,x=.ref a/\iO K H a xs /\
 (W0 xs lo hi=xs->Q (.ref a) H)/\∀p,H p=none->Q (.ref p) (upd H p (.tup (W0 xs lo hi)))
def Vg:ye X (YR X.K):=by
 intro pi s Z H x v vl vu lo hi sl Q I rx hs pl pu h;let#[a,xs,rfl,hx,q0,q]:=h;by_cases hw:HT.et (-xs) 0 lo=0/\HT.et (-xs) (-xs) hi=-xs
 .cases rx;let#[bh,r,ht,hz]:=I.tuple hx;let hlen:bh.toArray.size=-xs:=by exact r.length.symm
  refine#["tuple",_,bW.lookup,ht.typeIs,?_];exact HT.af3 ht hs pl pu (by rw[hlen];exact hw) #[.ref a,H,I,rfl,q0 (by unfold W0;simp_all)]
 .exact bE9 pi s Z H _ v vl vu lo hi sl Q I rx hs pl pu #[a,xs,rfl,hx,hw,q]
def aN3:m9 X (.builtin "isinstance") (λxs H Q=>∃x t c b,xs=[x,.ty c]/\iN X.K H x t/\PySem.W.kitOne X.K t (.type c)=!b/\Q (.bl b) H):=by
 intro pi s Z H xs us Q I r h;let#[x,t,c,b,rfl,hT,hk,q]:=h;let#[u,w',rfl,ru,fX]:=vals2 r;cases (show w'=Value.type c from fX);exact a83 I ru hT hk λtk=>#[.bl b,H,I.tok tk,rfl,q]
def XE(hc:X.calm=true):m9 X (.builtin "all") (λxs H Q=>∃(a:Addr) (bs:@&Bool),xs=[.ref a]/\fZ X.K H a (bs.map V.bl)/\Q (.bl (bs.all id)) H):=by
 intro pi s Z H xs us Q I r h;let#[a,bs,rfl,ha,q]:=h;let#[u,rfl,ru]:=vals1 r;cases ru;let#[bh,rv,p,hz]:=I.list ha;refine call_all_walk ?_;refine gg p.isList ?_;let dD:a≠s⁻¹:=by
  let#[o,e,_]:=id p.isList;exact aK (aC e)
 let hl:=-rv;rw[au] at hl;refine#[s⁻¹,_,_,_,_,_,λi=>bs.getD i true,rfl,As (A:=X.A.in1) (I.ok.hd hc) _ a dD bh.toArray,#[#[_,aE _ rfl,rfl,rfl],?_],?_,λh' tk k=>?_]
 .let#[o,e,q1]:=id p.isList;exact#[o,ao _ e,q1]
 .intro i v s' Q' E' hP hQ;let hv:bh[i]?=!v:=by simpa using hP
  let hi:i< -bs:=by rw[hl];exact(av.mp hv).1
  let#[u',vR,AO]:=rv.get (i:=i) (x:=V.bl bs[i]) (by rw[aj,ag hi];rfl);rw[hv] at vR;cases vR;cases (show v=Value.bool bs[i] from AO);refine cG ?_;have:bs.getD i true=bs[i]:=by simp[List.getD,hi]
  dsimp only at hQ;rw[this] at hQ;exact hQ
 .let e1:(List.range bh.toArray.size).all (λi=>bs.getD i true)=bs.all id:=by
   rw[aQ,<- hl];rw[aZ];simp only[List.all_eq_true,List.mem_range,id];constructor
   .intro hh x hx;let#[i,hi,rfl]:=bK.mp hx;have:=hh i hi;simpa[List.getD,hi] using this
   .intro hh i hi;have:=hh bs[i] (cj hi);simpa[List.getD,hi] using this
  rw[e1];exact #[.bl (bs.all id),H,I.kept (t':=tk) λb o e=>k b o (by
   intro hb;have:b=s⁻¹:=by simpa using hb
   exact absurd (aC e) (by rw [this];exact cg _)) (ao _ e),rfl,q]
end
end L2
namespace HT
open PySem PyProof.Rows
end HT
namespace L2
open PySem PySem.Spec PyProof.Rows
variable{X:Cx}{pos p:Pos}{H H':Hp}{Z:St}{s s':Shared}{B:Heap}{ea C:Addr}{a0:Value}{ta:TA}
def k9.get{P:Program}{w:World}{h:Heap}{a:Addr}:∀{o:HO},k9 P w H h a o->∃ob,h.get? a=!ob
 |.lst _,x=>by let#[_,_,_,_,e]:=x;exact#[_,e]
 |.tup _,x=>by let#[_,_,_,o,e,_]:=x;exact#[o,e]
 |.dK _,x=>by let#[_,_,_,_,o,es,ep,e,_]:=x;exact#[o,e]
 |.dT _,x=>by let#[_,_,_,_,o,es,ep,e,_]:=x;exact#[o,e]
 |.set _ _,x=>by let#[o,es,ep,t,e,_]:=x;exact#[o,e]
 |.ins _ _ _,x=>by let#[_,_,_,e,_]:=x;exact#[_,e]
 |.own _,x=>x
 |.xd _,x=>by let#[mA,n,_]:=x;let#[od,e,_]:=Ky n;exact#[od,e]
 |.nF _ _,x=>by let#[_,_,_,e]:=x;exact#[_,e]
 |.kB _ _,x=>#[_,x.1]
 |.qo _,x=>#[_,x]
 |.met _ _,x=>#[_,x]
 |.ext _,x=>x.2.1
abbrev Gk(H':Hp)(h0:Heap)(l:@&Env)(e:Value)(C:Addr)(h:Heap):Prop :=
 ∃(ea:Addr) (a0:Value) (B:Heap),e=.ref ea/\Heap.FlyingW B l ea (.ref C) a0 h/\∀b o,h.get? b=!o->b∉iP l->(H' b≠none\/∃o0,h0.get? b=!o0)->B.get? b=!o
abbrev iQ(P:Program)(w:World):oN:=λouter H s E e s'=>∃(C:Addr) (H':Hp),s'.os=s.os/\AllBare s'.gens/\Un (iP outer) [] H H' s.heap s'.heap/\gZ P w H' s'.heap/\Gk H' s.heap outer e C s'.heap/\E (.ref C) none H'
section
variable{pi:@&(Addr×Obj)}{E:XK}{e:Value}
def Inv.flew(I:Inv X pi Z H s)(h:iQ X.prog X.w X.stack H s E e s'):∃C H',Inv X pi Z H' s'/\Gk H' s.heap X.stack e C s'.heap/\E (.ref C) none H':=by
 let#[C,H',ho,hb,hu,bZ,fl,hE]:=h;exact#[C,H',I.Ff (ch:=[]) ho hu bZ hb #[_],fl,hE]
def Ee(I:Inv X pi Z H s){b:Addr}(hb:b∈iP X.stack):∃o,s.heap.get? b=!o/\∀vs,o.data≠.fields vs:=(I.stack.mem hb).2
def Fj{oW:Heap}(I:Inv X pi Z H s)(fh:X.stack=X.env::X.outer)(hex:X.ex=[])(hf:X.env.frame=!X.env.locals)(vQ:∀b o,s.heap.get? b=!o->b∉iP X.stack->(H b≠none\/∃o0,X.dA.heap.get? b=!o0)->B.get? b=!o)(sl:∀b∈iP X.stack,∀o,s.heap.get? b=!o->∃sl,oW.get? b=some { o with slots:=sl })(fw:Heap.FlyingW B X.outer ea (.ref C) a0 oW)(hE:E (.ref C) none H):iQ X.prog X.w X.outer X.kc X.dA E (.ref ea) { s with heap:=oW }:=by
 let om:∀b,b∈iP X.outer->b∈iP X.stack:=λb hb=>by rw[fh];unfold iP at hb ⊢;rw[dH,hf];exact bA _ hb
 let vw:∀b o,X.dA.heap.get? b=!o->b∉iP X.outer->b∉iP X.stack:=λb o e hb z=>by
  rcases aJ.mp (I.U9 b z) with z|z
  .exact absurd (aC e) (by rw[z];exact OY.mpr I.ok.above)
  .exact hb z
 let rj:∀b u,H b=!u->b∉iP X.stack:=λb u e z=>by rw[I.DX b z] at e;cases e
 let kept:∀b o,s.heap.get? b=!o->b∉iP X.stack->(H b≠none\/∃o0,X.dA.heap.get? b=!o0)->oW.get? b=!o:=λb o e n q=>fw.1 b o (vQ b o e n q);let vA:∀b,b∉X.ex:=λb=>by rw[hex];simp
 refine#[C,H,I.os,I.bare,#[?_,?_,?_,?_,I.base.jB,I.base.jl,I.base.jC],?_,#[ea,a0,B,rfl,fw,?_],hE]
 .exact λb o e n1 n2 x=>kept b o (I.base.keep b o e n1 n2 (vA b)) (vw b o e n2) (.inr #[o,e])
 .intro b o e n1 n2 _;let#[sl1,e1]:=I.base.slot b o e n1 n2 (vA b);let#[nS,e2]:=sl b (om b n2) _ e1;exact#[nS,e2]
 .exact λb o e n1 x=>I.base.free b o e n1 (vA b)
 .intro b o e _;let#[o1,e1]:=I.base.there b o e (vA b);by_cases hb:b∈iP X.stack
  .let#[nS,e2]:=sl b hb _ e1;exact#[_,e2]
  .exact#[o1,kept b o1 e1 hb (.inr #[o,e])]
 .intro a o e;exact (I.bZ a o e).J1 (λb u hb q=>by
   let lz:∃v,H b=!v:=by
    rcases hb with rfl|hb
    .exact#[o,e]
    .exact#[_,hb]
   let#[v,hv]:=lz;exact kept b u q (rj b v hv) (.inl (by rw [hv];simp))) (λb hb=>hb) (λb xs hb=>hb)
 .intro b o e n q;rcases q with q|⟨o0,q⟩
  .let#[v,hv]:=Option.ne_none_iff_exists'.mp q;let#[o1,e1]:=(I.bZ b v hv).get;let z:=vQ b o1 e1 (rj b v hv) (.inl (by rw[hv];simp));let z':=fw.1 b o1 z;have:o=o1:=by
    let e':oW.get? b=!o:=e;rw[z'] at e';exact(aN e').symm
   subst this;exact z
  .let#[o1,e1]:=I.base.there b o0 q (vA b);let z:=vQ b o1 e1 (vw b o0 q n) (.inr #[o0,q]);let z':=fw.1 b o1 z;have:o=o1:=by
    let e':oW.get? b=!o:=e;rw[z'] at e';exact(aN e').symm
   subst this;exact z
def aI4{h0:Heap}{Ex:Value->Shared->Prop}(I:Inv X pi Z H s)(fl:Gk H h0 X.stack e C s.heap)(Su:∀b o,X.dA.heap.get? b=!o->∃o',h0.get? b=!o')(fh:X.stack=X.env::X.outer)(hex:X.ex=[])(hf:X.env.frame=!X.env.locals)(hE:E (.ref C) none H):wpAny (model X.prog X.w) X.A (leaving X.env e) (λx pB=>iQ X.prog X.w X.outer X.kc X.dA E e pB) Ex s:=by
 let#[ea,a0,B,rfl,fw,hB]:=fl;rw[fh] at fw;refine wpAny_leaves_onW (by rw[I.ok.frames,fh]) hf fw λoW SF us=>?_;refine Fj I fh hex hf (λb o e n q=>hB b o e n (q.imp id (by rintro ⟨o0,q⟩;exact Su b o0 q))) (λb hb o e=>?_) SF hE;let#[o1,e1,nf]:=Ee I hb;rw[e] at e1;cases e1;exact us b o e nf
def aX9{h':Heap}{vs:@&Value}{Ex:Value->Shared->Prop}(I:Inv X pi Z H s)(hx:Heap.MadeExcOf s.heap h' ea (.ref C) vs)(fh:X.stack=X.env::X.outer)(hex:X.ex=[])(hf:X.env.frame=!X.env.locals)(hE:E (.ref C) none H):wpAny (model X.prog X.w) X.A (leaving X.env (.ref ea)) (λx pB=>iQ X.prog X.w X.outer X.kc X.dA E (.ref ea) pB) Ex { s with heap:=h' }:=by
 let tY:=I.stack;rw[fh] at tY;let kO:∀env∈(X.env::X.outer),∀b,env.frame=!b->b∈iP X.stack:=λenv he b hb=>by rw[fh];exact fB.mpr #[env,he,hb]
 refine wpAny_leaves_madeW (s:={ s with heap:=h' }) (base:=PySem.W.hideAll s.heap (iP X.stack)) (h:=s.heap) (by rw[I.ok.frames,fh]) hf (λb o q=>OW _ q) (PySem.W.funFrames_hide tY kO) hx λoW t fw x x us=>?_;refine(show iQ X.prog X.w X.outer X.kc X.dA E (.ref ea) { s with heap:=oW } from Fj I fh hex hf (λb o e n x=>GK _ e n) (λb hb o e=>?_) fw hE);let#[o1,e1,nf]:=Ee I hb;rw[e] at e1;cases e1;exact us b o (hx.keeps b o e) nf
structure Lies(X:Cx)(H H':Hp)(s:Shared)(B:Heap)(ea C:Addr)(a0:Value)(s':Shared):Prop where
 os:s'.os=s.os
 bare:AllBare s'.gens
 un:Un (iP X.stack) [] H H' s.heap s'.heap
 bZ:gZ X.prog X.w H' s'.heap
 vQ:∀b o,s'.heap.get? b=!o->b∉iP X.stack->(H' b≠none\/∃o0,s.heap.get? b=!o0)->B.get? b=!o
def Lies.inv(I:Inv X pi Z H s)(l:Lies X H H' s B ea C a0 s'):Inv X pi Z H' s':=I.Ff (ch:=[]) l.os l.un l.bZ l.bare #[_]
def leave_held{Ex:Value->Shared->Prop}(I:Inv X pi Z H s)(l:Lies X H H' s B ea C a0 s')(hh:Heap.HeldW B X.stack ea (.ref C) a0 X.env.locals s'.heap)(fh:X.stack=X.env::X.outer)(hex:X.ex=[])(hf:X.env.frame=!X.env.locals)(hE:E (.ref C) none H'):wpAny (model X.prog X.w) X.A (leaving X.env (.ref ea)) (λx pB=>iQ X.prog X.w X.outer X.kc X.dA E (.ref ea) pB) Ex s':=by
 let J:=l.inv I;let BL:=hh;rw[fh] at BL;refine aa (wpAny_noteFrame_againW hf BL.2.2.2 ?_);refine wpAny_landsW BL λoW fl us=>?_;let#[k1,k2,#[_,_,k3],k4]:=fl;refine Fj J fh hex hf (λb o e n q=>l.vQ b o e n (q.imp id (by rintro ⟨o0,q⟩;exact I.base.there b o0 q (by rw[hex];simp)))) (λb hb o e=>?_) #[k1,k2,k3,k4] hE;let#[o1,e1,nf]:=Ee J hb;rw[e] at e1;cases e1;exact us b o e nf
abbrev zB(X:Cx)(Ξ:XK):Prop:=∀(pi:@&(Addr×Obj)) (Z:St) (H:Hp) (s:Shared) (h':Heap) (ea C:Addr) (vs:@&Value),Inv X pi Z H s->Heap.MadeExcOf s.heap h' ea (.ref C) vs->Ξ (.ref C) none H->X.xe (.ref ea) { s with heap:=h' }
abbrev JU(X:Cx)(Ξ:XK):Prop:=∀(pi:@&(Addr×Obj)) (Z:St) (H H':Hp) (s s':Shared) (B:Heap) (ea C:Addr) (a0:Value),Inv X pi Z H s->Lies X H H' s B ea C a0 s'->Heap.HeldW B X.stack ea (.ref C) a0 X.env.locals s'.heap->Ξ (.ref C) none H'->X.xe (.ref ea) s'
abbrev bC8(C:Addr)(Ξ:XK)(t:TA):TS:=λx Z H=>t Z H λvs H1=>-vs<=sizeLine/\Ξ (.ref C) none H1
def WG{x:Str}{B newId ik:String}{bm:@&Value}{np eP:Pos}{kC:Expr}{rest:@&Expr}{t:TA}{Ξ:XK}(hc:X.calm=true)(O:OwnCls x C bm newId X.mg X.base)(FB:ExcBaseFacts B newId ik bm)(hg:Gl X x)(ha:PA X (kC::rest) t)(hr:zB X Ξ)(he:starEach (kC::rest) X.env=(false,eval kC X.env)::starEach rest X.env)(fq:(backTo eP (starEach rest X.env)).any (·.1)=false)(hd:(x==("__debug__":Str))=false) :
  PS X (.Raise (!.Call (.Name x np) (kC::rest) [] eP) none pos) (bC8 C Ξ t):=by
 intro pi s Z H D I h;let#[tl,N,nm,q,bs,hdct,sn,sub,ab,col,dd,k0,k1,k2,k3,k5,mN,hC,hN,yQ,T]:=O.obj;refine wpAny_Raise_call_subT (C:=C) (nm:=nm) (q:=q) (N:=N) (bs:=bs) (bm:=tl) (hdct:=hdct) (sn:=sn) (sub:=sub) (ab:=ab) (col:=col) (dd:=dd) (k0:=k0) (k1:=k1) (k2:=k2) (k3:=k3) (k5:=k5)
  FB (mN:=mN) (T.hasType FB.hasBase) (I.ok.hd hc) (by rw[he];show(false||(backTo eP (starEach rest X.env)).any (·.1))=false;rw[fq];rfl) yQ (U3 I hg O.bound #[rfl,?_] hd)
 let h':=ha eP pi s Z H _ I h;rw[he] at h' ⊢;refine gU (bC h' (λvs fm ip=>?_) λz z y=>y);let#[ws,H1,I1,rv,hz,hE]:=ip;exact#[rfl,by rw[<- -rv];exact hz,I1.bk _ _ hC,hN.keeps I1.bk,T.keeps I1.bk,λh2 ea hm=>hr pi Z H1 fm h2 ea C vs I1 hm hE]
end
abbrev GD(K:PySem.W.Frag)(a:Addr):It :=
 #[λi H=>∃xs x,fZ K H a xs/\xs[i]?=!x,λi H v H'=>∃p x,H p=none/\v=.ref p/\(∀xs,fZ K H a xs->xs[i]?=!x)/\H'=upd H p (.tup [.int i,x]),λi H=>∃xs,fZ K H a xs/\-xs<=i]
def a27{P:Program}{w:World}{K:PySem.W.Frag}{elts:@&Expr}{x1:Nat}{tp:Pos}(a e it:Addr)(Ig:e≠it):Turn P w K (.Tuple elts x1 tp) (GD K a) [e,it] e (λi h=>(∃old,IsEnum h e it i old)/\h.IsListIter it a i) where
 mem:=by simp
 obj:=λi h st b hb=>by
  let#[#[old,h1],o,h2,c,d]:=st;rcases aJ.mp hb with z|z
  .subst z;exact #[_,h1,λv z=>by
    let z':Data.fields _=Data.cell v:=z;cases z']
  .let z:b=it:=by simpa using z
   subst z;exact#[o,h2,λv z=>by rw[d] at z;cases z]
 keep:=λi h h' st k=>by
  let#[#[old,h1],h2]:=st;exact#[#[old,k e #[_] _ h1],h2.at λo x=>k it #[_] o x]
 item:=by
  intro X hP hw hK hc i pi s Z H E I hf st hg;subst hP hw hK;let#[#[old,h1],h2]:=st;let#[xs,x,hq,hx]:=hg;let#[bh,rv,p,hz]:=I.list hq;let#[u,hu,ru]:=rv.get hx;let#[e0,e1,e2,e3,e4,e5]:=hf e #[_];let#[f0,f1,f2,f3,f4,f5]:=hf it #[_];refine wpAny_pyNext_enum_item h1 h2 p.isList (x:=u) (by simpa using hu) Ig λh' rQ BI qu yL oU=>?_;refine#[_,rfl,wpAny_letOwnedTupleGo_enum rQ λwM Rb jN=>?_];let jN:Heap.SameBut e h' wM:=jN;let elt:e<s⁻¹:=aC h1;let kp:∀b o,b≠e->b≠it->s.heap.get? b=!o->wM.get? b=!o:=λb o b1 b2 q=>(jN.2 b b1).trans (oU b o b1 b2 q);let hn:H s⁻¹=none:=I.bZ.fresh (aw _);let AK:wM.get? s⁻¹=some { cls:=.type "tuple",data:=.seq (List.toArray [.int i s.toks,u]) }:=(jN.2 _ (cE elt)).trans qu;let ne:∀b u',H b=!u'->b≠e/\b≠it:=λb u' q=>And.intro (λ(z:b=e)=>by simp_all) (λ(z:b=it)=>by simp_all);let bZ:gZ X.prog X.w (upd H s⁻¹ (.tup [.int i,x])) wM:=λb o q=>by
   by_cases hb:b=s⁻¹
   .subst hb;rw[j4] at q;cases q;exact#[by change 2<=sizeLine;decide,[.int i s.toks,u],.cons #[_,rfl] (.cons ru .nil),_,AK,rfl,#[_,rfl],rfl]
   .rw[d8 hb] at q;refine(I.bZ b o q).J1 (λc v hc q'=>?_) (λc q'=>by rw[d8 (j2 q' hn)];exact q') λc ys q'=>by rw[d8 (j2 q' hn)];exact q'
    rcases hc with z|z
    .subst z;exact kp _ _ (ne _ _ q).1 (ne _ _ q).2 q'
    .exact kp _ _ (ne _ _ z).1 (ne _ _ z).2 q'
  let I2:Inv X pi Z (upd H s⁻¹ (.tup [.int i,x])) { s with heap:=wM,toks:=s.toks+1 }:=by
   refine I.step (g':=s.gens) (d':=s.drawn) (t':=s.toks+1) (ch:=[e,it]) (λb hb=>?_) (λb o t t hb q t=>kp b o (λz=>hb (by simp[z])) (λz=>hb (by simp[z])) q) (λb o t t hb q t=>#[o.slots,kp b o (λz=>hb (by simp[z])) (λz=>hb (by simp[z])) q])
    (λb o t q n=>by rw[d8 (aK (aC q))];exact n) (λb o hb q=>#[o,kp b o (λz=>hb (by simp[z])) (λz=>hb (by simp[z])) q])
    (λb ys q=>by rw[d8 (j2 q hn)];exact q) (λb o' ys q=>by rw[d8 (j2 q hn)];exact q) (λb ps q=>#[(List.toArray []),by rw[d8 (j2 q hn),q];simp]) (λm hm=>?_) bZ I.bare
   .rcases aJ.mp hb with z|z
    .subst z;exact#[e3,e1,e4,e5]
    .let z:b=it:=by simpa using z
     subst z;exact#[f3,f1,f4,f5]
   .let#[o,es,ep,ho,r]:=hm;exact#[o,es,ep,kp _ o (bI e1) (bI f1) ho,r]
  refine#[.ref s⁻¹,_,I2,rfl,#[s⁻¹,x,hn,rfl,λys hy=>by rw[I.Eh hy hq];exact hx,rfl],#[#[u,by simpa using Rb],BI.at λo y=>(jN.2 it Ig.symm).trans y],λb hb=>?_];let lz:b<s⁻¹:=by
   rcases aJ.mp hb with z|z
   .subst z;exact elt
   .let z:b=it:=by simpa using z
    subst z;let#[o,h2,_]:=h2;exact aC h2
  rw[d8 (aK lz)];exact(hf b hb).1
 done:=by
  intro X hP hw hK hc i pi s Z H E I hf st hg;subst hP hw hK;let#[#[old,h1],h2]:=st;let#[xs,hq,hx]:=hg;let#[bh,rv,p,hz]:=I.list hq;let#[f0,f1,f2,f3,f4,f5]:=hf it #[_];let hl:=-rv;exact wpAny_pyNext_enum_end (I.ok.hd hc) h1 h2 p.isList (by simp;omega) λh' eb=>#[rfl,I.turned (t':=s.toks) (λb o hb e=>eb b o hb e) f0 f1 f3 f4 f5]
 self:=λt t t t t st h=>by
  let#[#[old,h1],h2]:=st;exact wpAny_pyIter_enum h1 h
def Ux{l:Expr}{tp:Pos}{elts:@&Expr}{x1:Nat}(hg:Gl X "enumerate")(hm:X.mg "enumerate"=none)(ha:PA X [l] ta)(hs:starEach [l] X.env=[(false,eval l X.env)]) :
  PI X (.Tuple elts x1 tp) (.Call (.Name "enumerate" p) [l] [] pos) (λZ H R=>ta Z H λvs H1=>∃a,vs=[.ref a]/\(∃xs,fZ X.K H1 a xs)/\R (GD X.K a) H1):=by
 intro pi s Z H R I h;refine Call_ (O4 I hg hm PyProof.Rows.boot_enumerate (bT (cI (ha pos pi s Z H _ I h) λus s1 bo=>?_) hs rfl));let#[vs,H1,I1,r1,q1]:=bo;let#[a,e,#[xs,hq],q]:=q1;subst e;cases r1 with
 |cons r rr =>
  cases rr;cases r;let#[bh,rv,p,hz]:=I1.list hq;refine call_enumerate_list p.isList λh' he hit hsz hk=>wpAny_pyIter_enum he ?_;refine#[s1⁻¹+1,[s1⁻¹+1,s1⁻¹],_,_,H1,rfl,I1.kept (t':=s1.toks) hk,a27 a _ _ #[_],#[#[_,he],hit],λb hb=>?_,q];let lz:s1⁻¹<=b:=by
   rcases aJ.mp hb with z|z
   .simp_all
   simp_all
  exact I1.qR lz (I1.bZ.fresh lz)
def aY2{lo:Int}{acc:Array Value}{n:Nat}(h:ItemsOf (λi v=>∃t,v=.int (lo+i*1) t) acc n):Vals ((List.range n).map λ(k:Nat)=>V.int (lo+k)) acc.toList:=by
 let hl:-acc.toList=n:=by
  have:=h.1;omega
 let go:∀(m:Nat) (l:@&Value),(-l)<=n->m+-l=n->(∀i v,l[i]?=!v->∃t,v=Value.int (lo+((m+i:Nat):Int)) t)->Vals ((List.range' m (-l)).map λ(k:Nat)=>V.int (lo+k)) l:=by
  intro m l
  induction l generalizing m with
  |nil=>intro _ _ _;exact .nil
  |cons x r ih =>
   intro h1 h2 h3;refine .cons ?_ (ih (m+1) (by simp at h1;omega) (by simp at h2;omega) λi v hv=>?_)
   .let#[t,e]:=h3 0 x rfl;exact#[t,by rw[e];simp]
   .let#[t,e]:=h3 (i+1) v (by simpa using hv)
    grind
 have:=go 0 acc.toList () () λi v hv=>?_
 .rw[hl,<- List.range_eq_range'] at this;exact this
 .have:acc[i]?=!v:=by rw[<- yu];exact hv
  let#[t,e]:=h.2 i v this;refine#[t,?_];rw[e];simp
def Ma(hc:X.calm=true):m9 X (.type "list") (λxs H Q=>∃a lo hi,xs=[.ref a]/\H a=!.nF lo hi/\(-(2 ^ 62)<=lo/\lo<2 ^ 62/\-(2 ^ 62)<=hi/\hi<2 ^ 62/\hi-lo<=100000)/\∀p,H p=none->Q (.ref p) (upd H p (.lst ((List.range (hi-lo).toNat).map λ(k:Nat)=>V.int (lo+k))))):=by
 intro pi s Z H xs us Q I r h;let#[a,lo,hi,rfl,ha,#[h1,h2,h3,h4,h5],q]:=h;let#[t,u,v,ho]:=I.bZ a _ ha;cases r with
 |cons r rr =>
 cases rr;cases r;let hn:Builtin.Range.rangeSize lo hi 1=((hi-lo).toNat:Nat):=by rw[rangeSize_one];split<;>omega
 refine call_list_range (n:=(hi-lo).toNat) (I.ok.hd hc) ho (small_one h1 h2 h3 h4) hn () λh' kJ acc c hk hS hZ=>?_;let hp:H s⁻¹=none:=I.bZ.fresh (aw _);refine#[.ref _,_,I.laid (a:=s⁻¹) (o:=.lst ((List.range (hi-lo).toNat).map λ(k:Nat)=>V.int (lo+k))) (t':=kJ) hk (aw _) #[?_,acc.toList,c,aY2 hZ,by simpa using hS],rfl,q _ hp];rw[au,iz];have:(hi-lo).toNat<=100000:=by omega
 exact aG this ∅
def a55{a:Expr}(hg:Gl X "range")(hm:X.mg "range"=none)(ha:PA X [a] ta)(hs:starEach [a] X.env=[(false,eval a X.env)]):PE X (.Call (.Name "range" p) [a] [] pos) (λZ H Q=>ta Z H λvs H1=>∃j:Int,vs=[.int j]/\∀q,H1 q=none->Q (.ref q) (upd H1 q (.nF 0 j))):=by
 intro pi s Z H Q I h;refine cY (O4 I hg hm boot_range (bT (cI (ha pos pi s Z H _ I h) λus s1 bo=>?_) hs rfl));let#[vs,H1,I1,r1,q1]:=bo;let#[j,e,q]:=q1;subst e;cases r1 with
 |cons r rr =>
  cases rr;let#[t,rfl]:=r;exact call_range_1 #[.ref s1⁻¹,_,I1.laid (a:=s1⁻¹) (o:=.nF 0 j) (λb o e=>ao _ e) (aw _) #[_,_,_,aE _ rfl],rfl,q _ (I1.bZ.fresh (aw _))]
def a54{a b:Expr}(hg:Gl X "range")(hm:X.mg "range"=none)(ha:PA X [a,b] ta)(hs:starEach [a,b] X.env=[(false,eval a X.env),(false,eval b X.env)])(jN:starEach [b] X.env=[(false,eval b X.env)]):PE X (.Call (.Name "range" p) [a,b] [] pos) (λZ H Q=>ta Z H λvs H1=>∃i j:Int,vs=[.int i,.int j]/\∀q,H1 q=none->Q (.ref q) (upd H1 q (.nF i j))):=by
 intro pi s Z H Q I h;refine cY (O4 I hg hm boot_range (bT (cI (ha pos pi s Z H _ I h) λus s1 bo=>?_) (by rw[hs,jN]) (by rw[jN];rfl)));let#[vs,H1,I1,r1,q1]:=bo;let#[i,j,e,q]:=q1;subst e;cases r1 with
 |cons r rr =>
  cases rr with
  |cons r' rr =>
   cases rr;let#[t,rfl]:=r;let#[t',rfl]:=r';exact call_range_2 #[.ref s1⁻¹,_,I1.laid (a:=s1⁻¹) (o:=.nF i j) (λb o e=>ao _ e) (aw _) #[_,_,_,aE _ rfl],rfl,q _ (I1.bZ.fresh (aw _))]
abbrev xk(K:PySem.W.Frag)(P:Params)(a:Addr)(kvs:@&(Str×V)):Prop :=
 ∃es n,K.lookup a=!#[.type "dict",none,.dict es n,(List.toArray [])]/\PySem.W.KeysLit P es.toList/\(a==sysModules)=false/\∀x,F5 (kvs.lookup x) (findBy Value.isStrOf es x)
def Ot{kvs:@&(Str×V)}(neg:Bool):gf X (compareOp (if neg then .NotIn else .In)) (λx y H Q=>∃a z,y=.ref a/\xk X.K X.w.params a kvs/\x=.str z/\Q (.bl (xor neg (kvs.lookup z).isSome)) H):=by
 intro pi s Z H x y v u Q I rx ry h;let#[a,z,rfl,#[es,n,hl,hk,lo,hf],rfl,q]:=h;let#[t,rfl]:=rx;cases ry;let hm:=PySem.W.mapOf_K (prog:=X.prog) (w:=X.w) I.gN hl hk;let e:=hf z;let ee:(findBy Value.isStrOf es z).isSome=(kvs.lookup z).isSome:=by
  cases h1:kvs.lookup z<;>cases h2:findBy Value.isStrOf es z<;>rw[h1,h2] at e<;>first|rfl|exact e.elim
 cases neg
 .exact wpAny_in_of (strKind_is X.prog X.w z t) lo hm #[.bl _,H,I.tok _,by rw[ee];rfl,by simpa using q]
 .exact wpAny_notIn_of (strKind_is X.prog X.w z t) lo hm #[.bl _,H,I.tok _,by rw[ee];rfl,by simpa using q]
def Ya{kvs:@&(Str×V)}:uM X (λx y H Q=>∃a z v,x=.ref a/\xk X.K X.w.params a kvs/\y=.str z/\kvs.lookup z=!v/\Q v H):=by
 intro value slice pi s Z H x y v u Q I rx ry h hs;let#[a,z,d,rfl,#[es,n,hl,hk,lo,hf],rfl,hz,q]:=h;cases rx;let#[t,rfl]:=ry;let hm:=PySem.W.mapOf_K (prog:=X.prog) (w:=X.w) I.gN hl hk;let e:=hf z;rw[hz] at e;cases h2:findBy Value.isStrOf es z with
 |none=>rw[h2] at e;exact e.elim
 |some r =>
  rw[h2] at e;exact tail_any hm.typeIs slot_dict_getitem.lookup (wpAny_getItem_of (strKind_is X.prog X.w z t) hm h2 #[d,H,I.tok _,e,q]) hs
def TL(hu:X.A.units+1<cLine):uM X (λx y H Q=>∃a v,x=.ref a/\F6 H a y (!v)/\Q v H):=by
 intro value slice pi s Z H x y v u Q I rx ry h hs;let#[a,d,rfl,g,q]:=h;cases rx;exact tail_any (Lw I g) slot_dict_getitem.lookup (NY hu I g ry λw' s3 I3 fX=>#[d,H,I3,fX,q]) hs
end L2
namespace ST
open PySem PyProof.Rows
variable{xs:Array Nat}{i k j n ep:Nat}{t:SetTable}{h h':Heap}{L:Bool}{es:Array (Int×Value)}{x f:Value}{prog:Program}{w:World}{a I b l:Addr}{ks ns:@&Int}{A:Around}{E Q:Value->Shared->Prop}{s:Shared}{pl:@&Nat}{α:Type}{r:Rd}{items:Array Value}
noncomputable abbrev lK(xs:Array Nat):Prop:=xs.toList.Pairwise (· < ·)
def lK.lt(h:lK xs)(wt:i<k)(hk:k<xs.size):xs.getD i 0<xs.getD k 0:=by
 have:=ib.mp h i k (by simpa using cU wt hk) (by simpa using hk) wt;rw[<- fU (h:=cU wt hk),<- fU (h:=hk)];exact this
def lK.le(h:lK xs)(wt:i<=k)(hk:k<xs.size):xs.getD i 0<=xs.getD k 0:=by
 rcases Nat.eq_or_lt_of_le wt with e|e
 .rw[e];exact aw _
 .exact eT (h.lt e hk)
def DL{xs:Array Nat}{j:Nat}(h:lK xs):∀(fuel lo hi:Nat),hi-lo<=fuel->lo<=hi->hi<=xs.size->(∀i,i<lo->xs.getD i 0<j)->(∀i,hi<=i->i<xs.size->j<=xs.getD i 0) ->
  SetTable.below.go xs j fuel lo hi<=xs.size/\(∀i,i<SetTable.below.go xs j fuel lo hi->xs.getD i 0<j)/\∀i,SetTable.below.go xs j fuel lo hi<=i->i<xs.size->j<=xs.getD i 0
 |0,lo,hi,h1,h2,h3,h4,h5=>by
  have:lo=hi:=by omega
  subst this;exact#[h3,h4,h5]
 |fuel+1,lo,hi,h1,h2,h3,h4,h5=>by
  unfold SetTable.below.go;split
  .let hm:(lo+hi) / 2<xs.size:=by omega
   let em:xs.getD ((lo+hi) / 2) j=xs.getD ((lo+hi) / 2) 0:=by simp[Array.getD,hm]
   dsimp only;rw[em];by_cases hc:xs.getD ((lo+hi) / 2) 0<j
   .rw[ay hc];exact DL h fuel _ hi () () h3 (λi hZ=>fA (h.le () hm) hc) h5
   .rw[az hc];exact DL h fuel lo _ () () () h4 λi hZ hs=>aG (Nat.le_of_not_lt hc) (h.le hZ hs)
  .have:lo=hi:=by omega
   subst this;exact#[h3,h4,h5]
def T9(j:Nat)(h:lK xs):SetTable.below xs j<=xs.size/\(∀i,i<SetTable.below xs j->xs.getD i 0<j)/\∀i,SetTable.below xs j<=i->i<xs.size->j<=xs.getD i 0 :=
 DL h _ 0 _ () () (aw _) (λi hi=>absurd hi (Nat.not_lt_zero _)) λi h1 h2=>absurd h2 ()
def below_at(h:lK xs)(hi:i<xs.size):SetTable.below xs (xs.getD i 0)=i:=by
 let#[h1,h2,h3]:=T9 (xs.getD i 0) h;rcases eF (SetTable.below xs (xs.getD i 0)) i with z|z|z
 .exact absurd (h3 _ (aw _) ()) (Nat.not_le_of_lt (h.lt z hi))
 .exact z
 .exact absurd (h2 i z) (cg _)
def a03(h:lK xs)(hi:i<xs.size):SetTable.below xs (xs.getD i 0+1)=i+1:=by
 let#[h1,h2,h3]:=T9 (xs.getD i 0+1) h;rcases eF (SetTable.below xs (xs.getD i 0+1)) (i+1) with z|z|z
 .have:=h3 i () hi;omega
 .exact z
 .have:=h2 (i+1) z;have:=h.lt (eR i) (k:=i+1) ();omega
def a02(h:lK xs):SetTable.below xs 0=0:=by
 let#[_,h2,_]:=T9 0 h;rcases Nat.eq_zero_or_pos (SetTable.below xs 0) with z|z
 .exact z
 .exact absurd (h2 0 z) (Nat.not_lt_zero _)
def getD_mem(hi:i<xs.size):xs[i]?=!xs.getD i 0:=by simp[Array.getD,hi]
def aV0(h:lK t.place)(hs:t.slot j=.empty):j∉t.place.toList:=by
 intro hm;let#[i,hi,e]:=bK.mp hm;let hZ:i<t.place.size:=by simpa using hi
 let ej:t.place.getD i 0=j:=by rw[<- fU (h:=hZ)];simpa using e
 let hb:=below_at h hZ;rw[ej] at hb;unfold SetTable.slot at hs;dsimp only at hs;rw[hb,getD_mem hZ,ej] at hs;simp at hs
def aV4(h:lK xs)(hj:j∉xs.toList):lK (SetTable.insertAt xs (SetTable.below xs j) j):=by
 let#[h1,h2,h3]:=T9 j h;show(SetTable.insertAt xs (SetTable.below xs j) j).toList.Pairwise (· < ·);rw[SetTable.toList_insertAt,Ax];let tk:∀a∈xs.toList.take (SetTable.below xs j),a<j:=λa ha=>by
  let#[i,hi,e]:=bK.mp ha;rw[dg] at hi;let hs:i<xs.size:=by omega
  have:=h2 i ()
  simp_all
 let dp:∀b∈xs.toList.drop (SetTable.below xs j),j<b:=λb hb=>by
  let#[i,hi,e]:=bK.mp hb;let hs:SetTable.below xs j+i<xs.size:=by grind
  have:=h3 (SetTable.below xs j+i) () hs;rw[<- fU (h:=hs)] at this;let dD:b≠j:=λz=>hj (by rw[<- z];exact List.mem_of_mem_drop hb);simp at e;omega
 refine#[h.take,gP.mpr #[dp,h.drop],λa ha b hb=>?_];let nr:=tk a ha
 grind
def a40(n:Nat):lK (Array.range n):=by
 show(Array.range n).toList.Pairwise (· < ·);rw[Array.toList_range];exact ja
structure Well(L:Bool)(t:SetTable):Prop where
 tG:lK t.place
 sD:t.dummies=(List.toArray [])
 led:t.led=L
set_option tactic.hygienic true in
def Wn(hd:t.dummies=(List.toArray []))(j:Nat):t.slot j≠.dummy:=by
 unfold SetTable.slot;dsimp only;split
 .simp
 .rw[hd];split
  .rename_i z;simp[SetTable.has] at z
  simp
set_option tactic.hygienic true in
def LM{t:SetTable}(hd:t.dummies=(List.toArray [])){hashAt:Nat->Int}{h:Int}:∀(fuel:Nat) (p:SetTable.Probe) {j:Nat} {dm:Option Nat},p.dummy=none->SetTable.probe.go t hashAt h fuel p=!.empty j dm->t.slot j=.empty/\dm=none
 |0,p,j,dm,_,e=>by simp[SetTable.probe.go] at e
 |fuel+1,p,j,dm,hp,e=>by
  unfold SetTable.probe.go at e;let ad:∀q:SetTable.Probe,q.dummy=none->(t.advance q).dummy=none:=λq hq=>by
   unfold SetTable.advance;split
   .exact hq
   .exact hq
  split at e
  .simp_all
  .rename_i hs;exact absurd hs (Wn hd _)
  .split at e
   .cases e
   .exact LM hd fuel _ (ad p hp) e
set_option tactic.hygienic true in
def a91(hd:t.dummies=(List.toArray [])){h:Int}{wd:Bool}(e:t.freeSlot h=!(j,wd)):t.slot j=.empty/\wd=false:=by
 unfold SetTable.freeSlot at e;split at e
 .rename_i j' dm hp;let#[h1,h2]:=LM hd _ _ rfl hp;subst h2;cases e;exact#[h1,rfl]
 .cases e
def N4(h:Well L t)(n:Nat):Well L (t.standIn n):=#[a40 n,rfl,h.led]
set_option tactic.hygienic true in
def aM9{h:Int}(hw:Well L t):Well L (layNew t es h x).2.1/\(layNew t es h x).2.2.1=false:=by
 unfold layNew;split
 .rename_i slot wd e;let#[h1,h2]:=a91 hw.sD e;refine#[?_,h2];let hd:SetTable.has t.dummies slot=false:=by rw[hw.sD];rfl
  let w2:Well L (t.put slot).1:=#[aV4 hw.tG (aV0 hw.tG h1),by simp only[SetTable.put,hd];exact hw.sD,hw.led]
  dsimp only;unfold SetTable.orStandIn;split
  .exact w2
  .exact N4 w2 _
 .exact#[N4 hw _,rfl]
def Kw{mask finger moves:Nat}{led plain:Bool}{hashes:Array Int}{o:Array Nat}(hl:led=L)(e:SetTable.laid mask finger moves led plain hashes=!(t,o)):Well L t:=by
 unfold SetTable.laid at e;cases ho:SetTable.layClean mask hashes with
 |none=>rw[ho] at e;cases e
 |some owner =>
  rw[ho] at e;simp only[Option.bind_eq_bind,Option.bind_some,Option.pure_def,Option.some.injEq,Prod.mk.injEq] at e;let#[rfl,_]:=e;refine#[?_,rfl,hl];show(List.map _ _).toArray.toList.Pairwise (· < ·);rw[GL];let sub:((List.range (mask+1)).filterMap λj=>(owner.getD j none).map (j,·)).map (·.1) |>.Sublist (List.range (mask+1)):=by
   generalize List.range (mask+1)=l
   induction l with
   |nil=>simp
   |cons a r ih =>
    rw[dH];cases owner.getD a none with
    |none=>exact ih.cons a
    |some k=>exact ih.cons_cons a
  exact List.Pairwise.sublist sub ja
set_option tactic.hygienic true in
def aB8(hw:Well L t):Well L (relayAll t es n).2.1:=by
 unfold relayAll;split
 .rename_i t' order e;dsimp only;split
  .exact Kw hw.led e
  .exact N4 hw _
 .exact N4 hw _
abbrev toI:Value->Int
 |.int k _=>k
 |_=>0
abbrev Led(w:World):Bool:= ~~~(w.params.followText "set-order")
abbrev j5(prog:Program)(w:World)(h:Heap)(a:Addr)(ks:@&Int):Prop :=
 ∃o es ep t,h.get? a=!o/\o.ExactSet/\o.data=.set es ep t/\ElemsOf (intKind prog w) es.toList/\(es.toList.map λe=>toI e.2).Perm ks/\ks.Nodup/\es.size<scanBound/\t.fits es.size=true/\Well (Led w) t
def j5.at(x:j5 prog w h a ks)(k:∀o,h.get? a=!o->h'.get? a=!o):j5 prog w h' a ks:=by
 let#[o,es,ep,t,e,r]:=x;exact#[o,es,ep,t,k o e,r]
def xJ{e:Int×Value}{es:@&(Int×Value)}(h:ElemsOf (intKind prog w) es)(he:e∈es):∃tk,e.2=.int (toI e.2) tk/\e.1=(intKind prog w).hash (toI e.2):=by
 let#[#[k,h1,h2],_]:=h e he;let#[t,ht]:=Value.isInt_shape (k:=k) (v:=e.2) h1;refine#[t,by rw[ht];rfl,?_];rw[h2,ht]
 rfl
def Oh{e:Int×Value}{es:@&(Int×Value)}(h:ElemsOf (intKind prog w) es)(he:e∈es)(k:Int):(intKind prog w).is k e.2=decide (toI e.2=k):=by
 let#[t,ht,_]:=xJ h he;rw[ht]
 rfl
def j5.mem{a:Addr}{es:@&(Int×Value)}(h:ElemsOf (intKind prog w) es)(hp:(es.map λe=>toI e.2).Perm ks)(k:Int):(es.findIdx? λe=>(intKind prog w).is k e.2).isSome=decide (k∈ks):=by
 rw[aZ,dh,<- hp.mem_iff,aL,fj];constructor
 .rintro⟨i,hi⟩;let#[h1,h2,_]:=lF.mp hi;let hm:=cj h1;rw[Oh h hm] at h2;exact#[_,hm,bx h2]
 .rintro⟨e,he,rfl⟩;cases hf:es.findIdx? λe'=>(intKind prog w).is (toI e.2) e'.2 with
  |some i=>exact#[i,rfl]
  |none =>
   have:=List.findIdx?_eq_none_iff.mp hf e he;rw[Oh h he] at this;simp at this
abbrev F4(ks:@&Int)(k:Int):@&Int:=if k∈ks then ks else ks++[k]
def Ni(ks:@&Int)(k:Int):(F4 ks k).length<=-ks+1:=by unfold F4;split<;>simp
def Gq{k:Int}{tk:Tok}{Q:Bool->Shared->Prop}(hS:j5 prog w s.heap a ks)(hr:-ks+1<scanBound)(h:∀h' b,Heap.SameBut a s.heap h'->j5 prog w h' a (F4 ks k)->Q b { s with heap:=h' }):wpAny (model prog w) A (setAddHashed a (.int k tk) ((intKind prog w).hash k)) Q E s:=by
 let#[o,es,ep,t,ho,hx,hd,jk,hp,hn,hb,hf,hw]:=hS;let hlen:es.size=-ks:=by rw[<- hp.length_eq];simp
 let ly:(intKind prog w).is k (.int k tk)=true:=gH _ _ _ _;let gv:∀(b:Bool) (s1:Shared) (Q':Unit->Shared->Prop),Q' Unit.unit s1->wpAny (model prog w) A (match b with|true=>rule "set.scan.the-table-gave-way"|false=>pure Unit.unit) Q' E s1:=λb s1 Q' q=>by
  cases b
  .exact ak q
  .exact fR q
 refine bD (aa (bc ho hd hf ?_));dsimp only;rw[byScan_of rfl hb jk,ay rfl];refine aa (aa (fR (aa (wpAny_setScan_of ly ho hd hf jk ?_))));let hm:=j5.mem (a:=a) jk hp k;cases fY:es.toList.findIdx? (λe=>(intKind prog w).is k e.2) with
 |some j =>
  let hk:k∈ks:=by simp_all
  refine ak (ak ?_);refine h s.heap _ (jr a s.heap) ?_;unfold F4;rw[ay hk];exact#[o,es,ep,t,ho,hx,hd,jk,hp,hn,hb,hf,hw]
 |none =>
  rw[fY] at hm;let hk:k∉ks:=by simpa using hm.symm
  let p1:=layNew_perm t es ((intKind prog w).hash k) (.int k tk);let f1:=layNew_fits t es ((intKind prog w).hash k) (.int k tk);let#[w1,GS]:=aM9 (es:=es) (h:=(intKind prog w).hash k) (x:=.int k tk) hw;generalize layNew t es ((intKind prog w).hash k) (.int k tk)=R1 at p1 f1 w1 GS ⊢;let#[ir,t1,wd,SD]:=R1;subst GS;rw[Array.toList_push] at p1;let IX:ElemsOf (intKind prog w) ir.toList:=(jk.push ly rfl).perm p1;let sz1:ir.size=es.size+1:=by rw[<- cz,p1.length_eq];simp
  let k1:(ir.toList.map λe=>toI e.2).Perm (F4 ks k):=by
   unfold F4;rw[az hk];refine(p1.map _).trans ?_;rw[cP];exact hp.append_right _
  let n1:(F4 ks k).Nodup:=by
   unfold F4;rw[az hk,cA];exact#[hn,by simp,λx hx y hy=>by grind]
  refine aa (gv _ _ _ ?_);let fin:∀ (t2:SetTable),t2.fits ir.size=true->Well (Led w) t2->wpAny (model prog w) A (do
    storeSet a ir t2
    if(~~~false&&t2.tooFull)=true then do
      (match(relayAll t2 ir (SetTable.grown ir.size)).2.2 with|true=>rule "set.scan.the-table-gave-way"|false=>pure Unit.unit)
      storeSet a (relayAll t2 ir (SetTable.grown ir.size)).1 (relayAll t2 ir (SetTable.grown ir.size)).2.1
      pure (!true)
     else pure (!true)) (λr s'=>wpAny (model prog w) A (match r with | some added=>pure added | none=>setAddHashedIn a (.int k tk) ((intKind prog w).hash k) 99999) Q E s') E s:=λt2 f2 w2=>by
   let g1:(s.heap.update a (Obj.putSet ir t2)).get? a=some { o with data:=.set ir (ep+1) t2 }:=by
    have:=bu (Obj.putSet ir t2) ho (by rw[putSet_of ir t2 hd];rfl);rw[putSet_of ir t2 hd] at this;exact this
   refine aa (eX ho hd ?_ (eY ()));let Hg:=bq s.heap a (Obj.putSet ir t2);split
   .let p2:=relayAll_perm t2 ir (SetTable.grown ir.size);let f3:=relayAll_fits t2 ir (SetTable.grown ir.size);let w3:=aB8 (es:=ir) (n:=SetTable.grown ir.size) w2;generalize relayAll t2 ir (SetTable.grown ir.size)=R2 at p2 f3 w3 ⊢;let#[pV,t3,gv2]:=R2;dsimp only at p2 f3 w3 ⊢;let sz2:pV.size=ir.size:=by rw[<- cz,p2.length_eq,cz]
    refine aa (gv _ _ _ ?_);refine aa (eX g1 rfl ?_ (eY ()));refine ak (ak (h _ _ (Hg.trans (bq _ a _)) ?_));let g2:((s.heap.update a (Obj.putSet ir t2)).update a (Obj.putSet pV t3)).get? a=some { o with data:=.set pV (ep+1+1) t3 }:=by
     have:=bu (Obj.putSet pV t3) g1 (by rfl);exact this
    exact#[_,pV,_,t3,g2,hx,rfl,IX.perm p2,(p2.map _).trans k1,n1,by omega,f3,w3]
   .exact ak (ak (h _ _ Hg #[_,ir,_,t2,g1,hx,rfl,IX,k1,n1,by omega,f1 |> λz=>f2,w2]))
  split
  .refine aa (dM (hashByValue_scannable 8 rfl) ?_);exact fin _ f1 w1
  .refine aa (ak ?_);exact fin _ f1 w1
def aJ8:entryFor table "set.__iter__"=some Builtin.«frozenset.__iter__» :=
 Ar (id':="frozenset.__iter__") (by kernel_rfl) rfl #[] (by kernel_rfl)
def E8:Slot "set_iterator" "__next__" "set_iterator.__next__" :=
 .of (owner:="set_iterator") (n:="__next__") (by rw[typeLookup_type,builtinLookup_eq_fast];kernel_rfl) #[] #[] #[]
  (by first|exact .inl #[]|exact .inr #[]) (by rw[gh];kernel_rfl)
def Lx:entryFor table "set_iterator.__next__"=some Builtin.«set_iterator.__next__»:=entryFor_of_tree (by kernel_rfl)
def LR(a:Value):argsOk "set_iterator.__next__" #[[a],[]]:=by
 unfold argsOk
 kernel_rfl
def L':Slot "set_iterator" "__iter__" "set_iterator.__iter__" :=
 .of (owner:="set_iterator") (n:="__iter__") (by rw[typeLookup_type,builtinLookup_eq_fast];kernel_rfl) #[] #[] #[]
  (by first|exact .inl #[]|exact .inr #[]) (by rw[gh];kernel_rfl)
def aN1:entryFor table "set_iterator.__iter__"=some Builtin.«dict_keyiterator.__iter__» :=
 Ar (id':="dict_keyiterator.__iter__") (by kernel_rfl) rfl #[] (by kernel_rfl)
def aL4(a:Value):argsOk "set_iterator.__iter__" #[[a],[]]:=by
 unfold argsOk
 kernel_rfl
inductive Rd|text|plain|drawn
structure Lies(h:Heap)(a:Addr)(es:Array (Int×Value))(ep:Nat)(t:SetTable):Prop where
 at_:∃o,h.get? a=!o/\o.cls=.type "set"/\o.data=.set es ep t
 fit:t.fits es.size=true
def Lies.at(x:Lies h a es ep t)(k:∀o,h.get? a=!o->h'.get? a=!o):Lies h' a es ep t :=
 #[let ⟨o,e,r⟩:=x.at_;#[o,k o e,r],x.fit]
abbrev F9(h:Heap)(I a:Addr)(f:Value)(i n ep:Nat):Prop:=∃o,h.get? I=!o/\o.cls=.type "set_iterator"/\o.data=.fields (List.toArray [f,rawInt i,.ref a,rawInt n,rawInt ep])
def F9.at(x:F9 h I a f i n ep)(k:∀o,h.get? I=!o->h'.get? I=!o):F9 h' I a f i n ep:=let ⟨o,e,r⟩:=x;#[o,k o e,r]
def F9.ty(x:F9 s.heap I a f i n ep):s.TypeIs (.ref I) "set_iterator":=let ⟨o,e,c,_⟩:=x;#[o,e,c]
abbrev xp(w:World)(a:Addr)(es:Array (Int×Value))(ep:Nat)(pl:@&Nat):Rd->@&Value
 |.text=>(pickOrder (w.params.setOrder a ep) es).toList.map (·.2)
 |.plain=>es.toList.map (·.2)
 |.drawn=>pl.map λj=>(es.getD j (0,.none)).2
abbrev slotAt(t:SetTable):Nat->Nat
 |0=>0
 |i+1=>t.place.getD i 0+1
abbrev Q3(h:Heap)(t:SetTable)(b:Addr)(pl:@&Nat)(i:Nat)(f:Value):Rd->Prop
 |.text=>∃k:Nat,f=rawInt k
 |.plain=>f=rawInt (slotAt t i)
 |.drawn=>f=.ref b/\∃o e,h.get? b=!o/\o.cls=.type "tuple"/\o.data=.seq (pl.map λj=>rawInt (j:Nat)).toArray e
abbrev ur(w:World)(es:Array (Int×Value))(t:SetTable)(pl:@&Nat):Rd->Prop
 |.text=>w.params.followText "set-order"=true
 |.plain=>w.params.followText "set-order"=false/\(t.plain=true\/es.size<=1)/\Well true t
 |.drawn=>w.params.followText "set-order"=false/\pl.Perm (List.range es.size)
def W7{Q:Bool->Shared->Prop}(h:Q (w.params.followText "set-order") s):wpAny (model prog w) A setsByText Q E s:=by
 exact aa (jR (ak h))
def KG(hL:Lies s.heap a es ep t)(ht:w.params.followText "set-order"=true){sl g:Nat}{Q:Option (Value×Nat)->Shared->Prop}(h:Q (((pickOrder (w.params.setOrder a ep) es)[g]?).map λe=>(e.2,sl)) s) :
  wpAny (model prog w) A (setNext a sl g ep) Q E s:=by
 let#[o,ho,_,hd]:=hL.at_;refine aa (bc ho hd hL.fit ?_);refine aa (W7 ?_);rw[ht,ay rfl,az #[_]];refine aa (aa (bc ho hd hL.fit ?_));refine aa (W7 ?_);rw[ht,ay rfl];exact aa (jR (ak (ak h)))
def Lm(hL:Lies s.heap a es ep t)(ht:w.params.followText "set-order"=false)(hp:t.plain=true\/es.size<=1)(hl:t.led=true){sl g:Nat}{Q:Option (Value×Nat)->Shared->Prop}(h:Q (match es[SetTable.below t.place sl]?,t.place[SetTable.below t.place sl]? with|some (_,x),!j=>!(x,j+1)|_,_=>none) s):wpAny (model prog w) A (setNext a sl g ep) Q E s:=by
 let#[o,ho,_,hd]:=hL.at_;refine aa (bc ho hd hL.fit ?_);refine aa (W7 ?_);rw[ht,az ∅];change wpAny _ _ (if(~~~t.plain&&decide (es.size>1))=true then _ else _) _ _ _;rw[az (by rcases hp with e|e<;>simp[e])];refine aa (dM (a:=Unit.unit) ?_ (ak h));show((if(~~~t.led&&~~~es.isEmpty)=true then unsupported "set:maker-not-led" else pure Unit.unit):Sem Unit)=pure Unit.unit;rw[hl]
 rfl
def aW6(hL:Lies s.heap a es ep t)(hj:j<es.size)(h:Q (es.getD j (0,.none)).2 s):wpAny (model prog w) A (setNextDrawn a j ep) Q E s:=by
 let#[o,ho,_,hd]:=hL.at_;refine aa (bc ho hd hL.fit ?_);dsimp only;rw[az #[_]];let e:es[j]?=!es.getD j (0,.none):=by simp_all
 rw[e];exact ak h
def NN(hL:Lies s.heap a es ep t):t.place.size=es.size:=by
 have:=hL.fit;unfold SetTable.fits at this;simp at this;exact this.1
def La(hw:lK t.place)(hi:i<=t.place.size):SetTable.below t.place (slotAt t i)=i:=by
 cases i with
 |zero=>exact a02 hw
 |succ i=>exact a03 hw ()
def entries{Q:Array (Int×Value)->Shared->Prop}(hL:Lies s.heap a es ep t)(h:Q es s):wpAny (model prog w) A (setEntries a) Q E s:=by
 let#[o,ho,_,hd]:=hL.at_;exact aa (bc ho hd hL.fit (ak h))
def b75{f':Value}(hi:F9 h I a f i n ep)(hx:x=rawInt ((i:Int)+1)):F9 ((h.update I (Obj.mapFields (·.setIfInBounds 0 f'))).update I (Obj.mapFields (·.setIfInBounds 1 x))) I a f' (i+1) n ep:=by
 let#[o,ho,hc,hd]:=hi;let h1:=bu (Obj.mapFields (·.setIfInBounds 0 f')) ho (eQ (cq hd _));let d1:(Obj.mapFields (·.setIfInBounds 0 f') o).data=.fields (List.toArray [f',rawInt i,.ref a,rawInt n,rawInt ep]):=by rw[cq hd];simp
 let h2:=bu (Obj.mapFields (·.setIfInBounds 1 x)) h1 (eQ (cq d1 _));refine#[_,h2,(pj ..).trans ((pj ..).trans hc),?_];rw[cq d1]
 simp_all
def b76(hi:F9 h I a f i n ep)(hx:x=rawInt ((i:Int)+1)):F9 (h.update I (Obj.mapFields (·.setIfInBounds 1 x))) I a f (i+1) n ep:=by
 let#[o,ho,hc,hd]:=hi;let h2:=bu (Obj.mapFields (·.setIfInBounds 1 x)) ho (eQ (cq hd _));refine#[_,h2,(pj ..).trans hc,?_];rw[cq hd];subst hx;simp[rawInt]
def Kp{f':Value}{m:Sem α}{Q':α->Shared->Prop}(hi:F9 s.heap I a f i n ep)(hx:x=rawInt ((i:Int)+1))(h:∀h',F9 h' I a f' (i+1) n ep->Heap.SameBut I s.heap h'->wpAny (model prog w) A m Q' E { s with heap:=h' }) :
  wpAny (model prog w) A (do setField (.ref I) 0 f';setField (.ref I) 1 x;m) Q' E s:=by
 let#[o,ho,hc,hd]:=id hi;refine aa (fi ho hd #[_] ?_);let h1:=bu (Obj.mapFields (·.setIfInBounds 0 f')) ho (eQ (cq hd _));let d1:(Obj.mapFields (·.setIfInBounds 0 f') o).data=.fields (List.toArray [f',rawInt i,.ref a,rawInt n,rawInt ep]):=by rw[cq hd];simp
 refine aa (fi (s:={ s with heap:=_ }) h1 d1 #[_] ?_);exact h _ (b75 hi hx) ((bq ..).trans (bq ..))
def b41{m:Sem α}{Q':α->Shared->Prop}(hi:F9 s.heap I a f i n ep)(hx:x=rawInt ((i:Int)+1))(h:∀h',F9 h' I a f (i+1) n ep->Heap.SameBut I s.heap h'->wpAny (model prog w) A m Q' E { s with heap:=h' }) :
  wpAny (model prog w) A (do setField (.ref I) 1 x;m) Q' E s:=by
 let#[o,ho,hc,hd]:=id hi;refine aa (fi ho hd #[_] ?_);exact h _ (b76 hi hx) (bq ..)
def zV(next:Nat->Nat)(xs:Array α):(pickOrder next xs).toList.Perm xs.toList:=by
 let go:∀(fuel k:Nat) (left:List α) (out:Array α),fuel=-left->(pickOrder.go next fuel k left out).toList.Perm (out.toList++left):=by
  intro fuel
  induction fuel with
  |zero =>
   intro k left out e;have:left=[]:=cX e.symm;subst this;simp[pickOrder.go]
  |succ n ih =>
   intro k left out e;let dI:next k % (-left)< -left:=Nat.mod_lt _ ()
   unfold pickOrder.go;rw[ag dI];refine(ih _ _ _ (by rw[gQ dI];omega)).trans ?_;rw[Array.toList_push,iB];refine List.Perm.append_left _ ?_;have:left.Perm (left[next k % (-left)]::left.eraseIdx (next k % (-left))):=by
    rw[mj]
    conv=>lhs;rw[<- jA (next k % (-left)) left,eZ dI]
    exact List.perm_middle
   exact this.symm
 have:=go xs.size 0 xs.toList (List.toArray []) #[_];simpa[pickOrder] using this
def next_item{Q:Option Value->Shared->Prop}(hL:Lies s.heap a es ep t)(hr:ur w es t pl r)(hi:F9 s.heap I a f i es.size ep)(hf:Q3 s.heap t b pl i f r)(dD:b≠I)(dI:i<es.size)(h:∀v h' f',(xp w a es ep pl r)[i]?=!v->F9 h' I a f' (i+1) es.size ep->Q3 h' t b pl (i+1) f' r->Heap.SameBut I s.heap h'->Q (!v) { s with heap:=h' }):wpAny (model prog w) A (pyNext (.ref I)) Q E s:=by
 let#[o,ho,hc,hd]:=id hi;refine aa (OV (fT (name:=Str.ofString "__next__") hi.ty E8 (cJ E8 hi.ty Lx ?_ (LR _))));refine aa (ak ?_);refine aa (wpAny_fieldsOf ho hd ?_);refine aa (entries hL ?_);rw[az #[_]];rw[cZ,cZ];cases r with
 |text =>
  let#[k,rfl]:=hf;refine aa (KG hL hr ?_);let hl:i<(pickOrder (w.params.setOrder a ep) es).size:=by
   have:=(zV (w.params.setOrder a ep) es).length_eq
   simp_all
  rw[dt hl];refine Kp hi rfl λh' h1 h2=>ak #[_,rfl,ak (h _ _ _ ?_ h1 #[_,rfl] h2)];show((pickOrder (w.params.setOrder a ep) es).toList.map (·.2))[i]?=_;simp[hl]
 |plain =>
  let#[r1,r2,r3]:=hr;let hs:=NN hL;obtain rfl:=hf;dsimp only[rawInt];rw[cZ];refine aa (Lm hL r1 r2 r3.led ?_);rw[La r3.tG (),dt dI,getD_mem ()];refine Kp hi rfl λh' h1 h2=>ak #[_,rfl,ak (h _ _ _ ?_ h1 rfl h2)];show(es.toList.map (·.2))[i]?=_;simp[dI]
 |drawn =>
  let#[r1,r2]:=hr;let#[rfl,ob,e,hb,Ik,yY]:=hf;let gy:i< -pl:=by rw[r2.length_eq];simpa using dI
  refine aa (wpAny_seqItems hb yY ?_);let hj:pl[i]<es.size:=by
   have:=r2.mem_iff.mp (cj gy)
   simp_all
  let e1:(pl.map λj=>rawInt (j:Nat)).toArray[i]?=!rawInt (pl[i]:Nat):=by simp[gy]
  dsimp only;rw[e1];refine aa (aW6 hL hj ?_);refine b41 hi rfl λh' h1 h2=>ak #[_,rfl,ak (h _ _ _ ?_ h1 #[rfl,ob,e,by rw[h2.2 b dD];exact hb,Ik,yY] h2)];show(pl.map λj=>(es.getD j (0,.none)).2)[i]?=_;simp[gy]
def Ep{Q:Option Value->Shared->Prop}{h0:Heap}(hh:A.handled=none)(Ss:Heap.ExtBut I h0 s.heap)(h:∀h',Heap.ExtBut I h0 h'->Q none { s with heap:=h' }) :
  wpAny (model prog w) A.in1 (newExc (.type "StopIteration") [] >>= λe=>(raiseNew e:Sem Fin)) (λfin s'=>∃v,fin=Fin.done (Flow.ret v)/\wpAny (model prog w) A (pure (!v)) Q E s')
   (λe s'=>wpAny (model prog w) A (do
     let x <- isInstance e (Value.type "StopIteration")
     if x=true then pure none else throw e) Q E s') s:=by
 refine aa ?_;refine aa (cS ?_ (by size_fits));refine aa (m:=firstArgMember _ _) (dM (a:=Value.none) (by rfl) ?_);refine cS ?_ (by size_fits);refine aa (wpAny_handled ?_);rw[show A.in1.handled=none from hh];refine aa (ak (wpAny_throw ?_));refine aa (dn (T:="StopIteration") (b:=true) #[_,aE _ rfl,rfl] isSubtype_stop ?_);exact ak (h _ ((Ss.push _).push _))
def next_end{Q:Option Value->Shared->Prop}(hh:A.handled=none)(hL:Lies s.heap a es ep t)(hr:ur w es t pl r)(hi:F9 s.heap I a f es.size es.size ep)(hf:Q3 s.heap t b pl es.size f r)(dD:b≠I)(h:∀h',Heap.ExtBut I s.heap h'->Q none { s with heap:=h' }):wpAny (model prog w) A (pyNext (.ref I)) Q E s:=by
 let#[o,ho,hc,hd]:=id hi;refine aa (OV (fT (name:=Str.ofString "__next__") hi.ty E8 (cJ E8 hi.ty Lx ?_ (LR _))));refine aa (ak ?_);refine aa (wpAny_fieldsOf ho hd ?_);refine aa (entries hL ?_);rw[az #[_]];rw[cZ,cZ];cases r with
 |text =>
  let#[k,rfl]:=hf;refine aa (KG hL hr ?_);let hl:(pickOrder (w.params.setOrder a ep) es).size<=es.size:=by
   have:=(zV (w.params.setOrder a ep) es).length_eq
   grind
  rw[uU hl];refine aa (fi ho hd #[_] ?_);exact Ep (s:={ s with heap:=_ }) hh (bq ..).extBut h
 |plain =>
  let#[r1,r2,r3]:=hr;let hs:=NN hL;obtain rfl:=hf;dsimp only[rawInt];rw[cZ];refine aa (Lm hL r1 r2 r3.led ?_);rw[La r3.tG (),uU (aw _)];refine aa (fi ho hd #[_] ?_);exact Ep (s:={ s with heap:=_ }) hh (bq ..).extBut h
 |drawn =>
  let#[r1,r2]:=hr;let#[rfl,ob,e,hb,Ik,yY]:=hf;let gy:-pl=es.size:=by rw[r2.length_eq];simp
  refine aa (wpAny_seqItems hb yY ?_);let e1:(pl.map λj=>rawInt (j:Nat)).toArray[es.size]?=none:=by simp[gy]
  dsimp only;rw[e1];refine aa (fi ho hd #[_] ?_);let h1:=bu (Obj.mapFields (·.setIfInBounds 0 (Value.int 0 0))) ho (eQ (cq hd _));refine aa (fi (s:={ s with heap:=_ }) h1 (cq hd _) #[_] ?_);exact Ep (s:={ s with heap:=_ }) hh ((bq ..).trans (bq ..)).extBut h
def a53{l:List α}(dI:k< -l):(l[k]::l.eraseIdx k).Perm l:=by
 rw[mj]
 conv=>rhs;rw[<- jA k l,eZ dI]
 exact List.perm_middle.symm
def EU{α:Type}:∀(n:Nat) (xs:List α) (s:Shared) (Q:List α->Shared->Prop),n=-xs->(∀ys d,ys.Perm xs->Q ys { s with drawn:=d })->wpAny (model prog w) A (drawOrder n xs) Q E s
 |0,xs,s,Q,e,h=>by
  have:xs=[]:=cX e.symm;subst this;exact ak (h [] s.drawn (jV _))
 |n+1,[],s,Q,e,h=>by simp at e
 |n+1,x::xs,s,Q,e,h=>by
  refine aa ?_;intro Γ p hΓ;refine#[by simp,?_];generalize (model prog w).w.draws .order (s.drawn.get .order)=k;let dI:k % (x::xs).length<(x::xs).length:=Nat.mod_lt _ #[_];let go:wpAny (model prog w) A (match (x :: xs)[k % (x :: xs).length]? with
   |some y=>do
    let ys <- drawOrder n ((x::xs).eraseIdx (k % (x::xs).length))
    pure (y::ys)
   | none=>unsupported "internal:drawOrder") Q E { s with drawn:=s.drawn.bump .order }:=by
   rw[ag dI];refine aa (EU n _ _ _ (by rw[gQ dI];omega) λys d hp=>ak ?_);exact h _ d ((List.Perm.cons _ hp).trans (a53 dI))
  exact go
def Nz(hr:ur w es t pl r):(xp w a es ep pl r).Perm (es.toList.map (·.2)):=by
 cases r with
 |text=>exact(zV _ es).map _
 |plain=>rfl
 |drawn =>
  refine(hr.2.map _).trans ?_;have:(List.range es.size).map (λj=>(es.getD j (0,.none)).2)=es.toList.map (·.2):=by
   apply List.ext_getElem
   .simp
   simp_all
  rw[this]
def Lies.ty(hL:Lies s.heap a es ep t):s.TypeIs (.ref a) "set":=let ⟨o,e,c,_⟩:=hL.at_;#[o,e,c]
def Xi(hL:Lies s.heap a es ep t)(hw:Well (Led w) t)(hz:es.size<=10000)(h:∀r pl b f I h' d',ur w es t pl r->F9 h' I a f 0 es.size ep->Q3 h' t b pl 0 f r->b≠I->(b=a\/s⁻¹<=b)->(∀c o,s.heap.get? c=!o->h'.get? c=!o)->s⁻¹<=I->s⁻¹<=h'.objs.size->Q (.ref I) { s with heap:=h',drawn:=d' }) :
  wpAny (model prog w) A (pyIter (.ref a)) Q E s:=by
 let#[o,ho,Bx,hd]:=hL.at_;refine wpAny_pyIter_slot hL.ty F.slot_set_iter (cJ F.slot_set_iter hL.ty aJ8 ?_ (F.args_set_iter_1 _));refine aa (ak ?_);refine aa (aa (entries hL (ak ?_)));refine aa (aa (bc ho hd hL.fit ?_));refine aa (W7 (ak ?_));let dI:=aC ho;let fin:∀(r:Rd) (f:Value) (b:Addr) (pl:@&Nat) (h1:Heap) (d1:Drawn),ur w es t pl r->(∀h',(∀c o,h1.get? c=!o->h'.get? c=!o)->Q3 h' t b pl 0 f r)->b<h1.objs.size->(b=a\/s⁻¹<=b)->(∀c o,s.heap.get? c=!o->h1.get? c=!o)->s⁻¹<=h1.objs.size ->
   wpAny (model prog w) A.in1 (do
    let e <- setEpoch a
    ret (<- newFields "set_iterator" [f,rawInt 0,.ref a,rawInt es.size,rawInt e])) (λfin s'=>∃ v,fin=Fin.done (Flow.ret v)/\∃ T' r,s'.TypeIs v T'/\typeLookup (.type T') "__next__"=pure (!r)/\Q v s') E { s with heap:=h1,drawn:=d1 }:=λr f b pl h1 d1 hr hf hb BW he hsz=>by
  let uc:Lies h1 a es ep t:=hL.at λo e=>he a o e;let#[o1,vX,_,Ij]:=uc.at_;refine aa (aa (bc (s:={ s with heap:=h1,drawn:=d1 }) vX Ij uc.fit (ak ?_)));refine aa (cS (ak #[_,rfl,"set_iterator",_,#[_,aE _ rfl,rfl],E8.lookup,?_]));refine h r pl b f h1.objs.size _ d1 hr #[_,aE _ rfl,rfl,rfl] (hf _ λc o e=>ao _ e) (aK hb) BW (λc o e=>ao _ (he c o e)) hsz (by rw[size_push'];exact Nat.le_succ_of_le hsz)
 cases hT:w.params.followText "set-order" with
 |true =>
  refine aa (ak ?_);exact fin .text (rawInt 0) a [] s.heap s.drawn hT (λh' x=>#[0,rfl]) dI (.inl rfl) (λc o e=>e) (aw _)
 |false =>
  change wpAny _ _ (if(~~~false&&(~~~t.plain&&decide (es.size>1)))=true then _ else _ ) _ _ _;by_cases hp:t.plain=true\/es.size<=1
  .rw[az (by rcases hp with e|e<;>simp[e])];refine aa (ak ?_);refine fin .plain (rawInt 0) a [] s.heap s.drawn #[hT,hp,?_] (λh' x=>rfl) dI (.inl rfl) (λc o e=>e) (aw _);have:Led w=true:=by unfold Led;rw[hT];rfl
   simp_all
  .rw[ay (by grind)];refine aa (EU _ _ _ _ (iz).symm λys d hy=>?_);let hl:-ys=es.size:=by rw[hy.length_eq];simp
   refine aa (cS ?_ (by show(List.map _ ys).toArray.size<=sizeLine;rw[aQ,au,hl];exact aG hz ∅));refine fin .drawn (.ref s⁻¹) s⁻¹ ys _ d #[hT,hy] (λh' hk=>#[rfl,_,_,hk _ _ (aE _ rfl),rfl,rfl]) #[_] (.inr (aw _)) (λc o e=>ao _ e) #[_]
def a34(hh:A.handled=none)(hr:ur w es t pl r)(dD:b≠I)(QG:a≠I) :
  Walks prog w A I [I,a,b] [I] es.size (λi v=>(xp w a es ep pl r)[i]?=!v) (λi h=>Lies h a es ep t/\∃f,F9 h I a f i es.size ep/\Q3 h t b pl i f r) where
 sub:=λc hc=>by simp_all
 frame:=λi h h' st hk=>by
  let#[hL,f,hi,hf]:=st;refine#[hL.at λo e=>hk a #[_] o e,f,hi.at λo e=>hk I #[_] o e,?_];cases r with
  |text=>exact hf
  |plain=>exact hf
  |drawn =>
   let#[e1,o,e,h1,h2]:=hf;exact#[e1,o,e,hk b #[_] o h1,h2]
 item:=λi s Q E hi st hQ=>by
  let#[hL,f,hI,hf]:=st;exact next_item hL hr hI hf dD hi λv h' f' hv h1 h2 h3=>hQ v h' s.toks hv #[hL.at λo e=>by rw[h3.2 a QG];exact e,f',h1,h2] λc o hc e=>h3.extBut c o (λz=>hc (by simp[z])) e
 done:=λs Q E st hQ=>by
  let#[hL,f,hI,hf]:=st;exact next_end hh hL hr hI hf dD λh' he=>hQ h' s.toks λc o hc e=>he c o (λz=>hc (by simp[z])) e
 self:=λi s Q E st hQ=>by
  let#[hL,f,hI,hf]:=st;refine wpAny_pyIter_slot hI.ty L' (cJ L' hI.ty aN1 ?_ (aL4 _));exact aa (ak (ak #[_,rfl,"set_iterator",_,hI.ty,E8.lookup,hQ]))
def aI2:typeLookup (.type "set") "__len__"=pure (!(.builtin "set.__len__")):=by rfl
def aM4(hh:A.handled=none)(hL:Lies s.heap a es ep t)(hw:Well (Led w) t)(hz:es.size<=10000){Q:@&Value->Shared->Prop}(h:∀(vs:@&Value) h' d' kJ,vs.Perm (es.toList.map (·.2))->(∀c o,s.heap.get? c=!o->h'.get? c=!o)->s⁻¹<=h'.objs.size->s.toks<=kJ->Q vs { s with heap:=h',drawn:=d',toks:=kJ }) :
  wpAny (model prog w) A (collect (.ref a)) Q E s:=by
 let dI:a<s⁻¹:=let ⟨o,ho,_⟩:=hL.at_;aC ho
 refine aa (wpAny_runValue (dG F.entry_proto_collect ?_));refine aa (cS ?_);refine ak #[gM F.plain_list_iadd _,dG F.entry_list_iadd ?_];let uc:Lies (s.heap.push { cls:=.type "list",data:=.seq ([]:@&Value).toArray }) a es ep t:=hL.at λo e=>ao _ e;let za:(s.heap.push { cls:=.type "list",data:=.seq ([]:@&Value).toArray }).get? s⁻¹=some { cls:=.type "list",data:=.seq ([]:@&Value).toArray }:=aE _ rfl;let dD:s⁻¹≠a:=cE dI;let h1:Builtin.List.listSameRef (.ref s⁻¹) (.ref a)=false:=by simp[Builtin.List.listSameRef,dD]
 change wpAny _ A.in1 (Builtin.List.listExtendWith (.ref s⁻¹) (.ref a) (.ref s⁻¹)) _ _ _;refine aa (dJ (Lies.ty (s:={ s with heap:=_ }) uc) ?_);rw[az (by rw[h1];decide)];refine aa (Xi (s:={ s with heap:=_ }) uc hw hz λr pl b f I h2 d2 hr hI hf hb Rn he Cj h2z=>?_);let zb:Lies h2 a es ep t:=uc.at λo e=>he a o e;let oV:=he _ _ za;refine aa (bD ?_);refine aa (wpAny_specialOf (Lies.ty (s:={ s with heap:=h2,drawn:=d2 }) zb) aI2 ?_);generalize HV:("set.__len__":String)=Qn;dsimp only;rw[show splitId Qn=some ("set","__len__") from by subst HV;decide +kernel];dsimp only;refine aa (dn (b:=true) (Lies.ty (s:={ s with heap:=h2,drawn:=d2 }) zb) (by rfl) ?_);rw[az ∅];subst HV;rw[ay #[]];refine aa (dJ (Lies.ty (s:={ s with heap:=h2,drawn:=d2 }) zb) ?_);refine ak ?_;rw[ay #[]];refine aa (fR ?_);refine aa ?_;change wpAny _ A.in1 (updateSeq s⁻¹ (·.push .none) >>= λx=>updateSeq s⁻¹ (·.pop)) _ _ _;refine aa (wpAny_updateSeq (s:={ s with heap:=h2,drawn:=d2 }) oV rfl ?_);let yZ:=bu (Obj.mapSeq (·.push Value.none)) oV rfl;refine wpAny_updateSeq (s:={ s with heap:=_,drawn:=d2 }) yZ rfl ?_;let Rw:=bu (Obj.mapSeq (·.pop)) yZ rfl;let Hq:∀c o,c≠s⁻¹->h2.get? c=!o->((h2.update s⁻¹ (Obj.mapSeq (·.push Value.none))).update s⁻¹ (Obj.mapSeq (·.pop))).get? c=!o :=
  λc o hc e=>(eJ _ _ (bI hc)).trans ((eJ _ _ (bI hc)).trans e)
 let tM:s⁻¹<(s.heap.push { cls:=.type "list",data:=.seq ([]:@&Value).toArray }).objs.size:=by simp
 let hSI:I≠s⁻¹:=cE (aD tM Cj);let hSb:b≠s⁻¹:=by
  rcases Rn with z|z
  .rw[z];exact bI dD
  .exact cE (aD tM z)
 let W:=(a34 (prog:=prog) (w:=w) (A:=A.in1) (a:=a) (b:=b) (I:=I) (es:=es) (ep:=ep) (t:=t) (pl:=pl) hh hr hb (aK (aD (cU dI tM) Cj))).toS;let st:Lies h2 a es ep t/\∃f,F9 h2 I a f 0 es.size ep/\Q3 h2 t b pl 0 f r:=#[zb,f,hI,hf]
 let kW:=W.frame 0 ({ s with heap:=h2,drawn:=d2 }:Shared) _ s.toks st (aw _) λc hc o e=>Hq c o (λz=>by simp at hc;rcases hc with y|y|y<;>simp_all) e;refine ak #[gM F.plain_extend_loop _,codeAny_extend_loopS W (aG hz ∅) _ (λz=>by simp at z;rcases z with y|y|y<;>simp_all) _ es.size 0 _ _ _ rfl (cH _) kW Rw (ItemsOf.nil _) λs' xH c' hm kA ox=>?_];change wpAny _ A (load s⁻¹ >>= _) _ _ s';refine aa (wpAny_load kA ?_);refine ak ?_;let eS:s'={ s with heap:=s'.heap,drawn:=d2,toks:=s'.toks }:=by
  let#[jY,g',d',kJ,rE]:=s';let m1:g'=s.gens:=hm.gens;let m2:d'=d2:=hm.drawn;let m3:rE=s.os:=hm.os
  grind
 let eo:xH.toList=xp w a es ep pl r:=by
  let l1:(xp w a es ep pl r).length=es.size:=by rw[(Nz hr).length_eq];simp
  apply List.ext_getElem
  .rw[l1];simpa using ox.1
  .intro i h1 h2;have:=ox.2 i xH.toList[i] (by simp at h1 ⊢);dsimp only at this;rw[ag h2] at this;exact(aN this).symm
 rw[eo,eS];refine h _ _ d2 s'.toks (Nz hr) (λc o e=>?_) (eT (aC kA)) hm.toks;let hc:c<s⁻¹:=aC e;let n1:c≠s⁻¹:=aK hc;let n2:c≠I:=aK (aD (cU hc tM) Cj);exact hm.heap c o (by simp[n1,n2]) (Hq c o n1 (he c o (ao _ e)))
def aU9(hh:A.handled=none)(hS:j5 prog w s.heap a ks)(IG:-ks<64)(h:∀(S:Addr) (vs:@&Value) (ns:@&Int) e h' d' kJ,IntsAre vs ns->ns.Perm ks->ns.Pairwise (·<=·)->h'.get? S=!(seqObj "list" vs.toArray e)->s⁻¹<=S->(∀c o,s.heap.get? c=!o->h'.get? c=!o)->s.toks<=kJ->Q (.ref S) { s with heap:=h',drawn:=d',toks:=kJ }) :
  wpAny (model prog w) A (call (.builtin "sorted") [.ref a]) Q E s:=by
 let#[o,es,ep,t,ho,hx,hd,jk,hp,hn,hb,hf,hw]:=hS;let hL:Lies s.heap a es ep t:=#[#[o,ho,hx.1,hd],hf]
 let hz:es.size=-ks:=by rw[<- hp.length_eq];simp
 refine Calls.call_function_entry kind_sorted plain_sorted entry_sorted (args_sorted1 _) ?_;unfold Builtin.«sorted»;refine aa (m:=checkCount "sorted" 1 1 _) (ak ?_);refine aa (aM4 (A:=A.in1) hh hL hw () λvs h1 d1 vc hv he tM vS=>?_);let hI:IntsAre vs (vs.map toI):=by
  let all:∀v∈vs,∃tk,v=.int (toI v) tk:=λv Bq=>by
   let#[e,BQ,rfl]:=aL.mp (hv.mem_iff.mp Bq);let#[tk,h1,_]:=xJ jk BQ;exact#[tk,h1]
  clear hv
  induction vs with
  |nil=>exact .nil
  |cons v r ih =>
   let#[tk,e]:=all v #[_];have:=IntsAre.cons (toI v) tk (ih λu hu=>all u (by simp[hu]));rw[<- e] at this;exact this
 let hk:(vs.map toI).Perm ks:=by
  refine(hv.map toI).trans ?_;rw[cF];exact hp
 let hl:-vs<64:=by rw[hv.length_eq];simp;omega
 refine aa (wpAny_newList (s:={ s with heap:=h1,drawn:=d1,toks:=vc }) ?_);let vW:(h1.push (seqObj "list" vs.toArray 0)).get? h1.objs.size=!(seqObj "list" vs.toArray 0):=aE _ rfl;refine aa (bD (cJ (s:={ s with heap:=h1.push (seqObj "list" vs.toArray 0),drawn:=d1,toks:=vc }) slot_list_sort #[_,vW,rfl] entry_list_sort (list_sort_tree vW hI hl λout AZ a1 a2 a3=>#[_,rfl,?_]) (args_list_sort _)));let#[e,BQ]:=sortedHeap_at (vs:=vs) (out:=out) vW;refine ak #[_,rfl,h h1.objs.size out.toList AZ e _ d1 vc a1 (a2.trans hk) a3 BQ tM (λc o' e'=>?_) vS];let hc:=aC (he c o' e');rw[sortedHeap_old (aK hc) (by rw[size_push'];exact Nat.lt_succ_of_lt hc)];exact ao _ (he c o' e')
abbrev f9(ks xs:@&Int):@&Int:=xs.foldl F4 ks
def F8:∀(xs ks:@&Int),(f9 ks xs).length<=-ks+-xs
 |[],ks=>by simp[f9]
 |x::xs,ks=>by
  have:=F8 xs (F4 ks x);let h2:=Ni ks x;show(f9 (F4 ks x) xs).length<=_
  grind
set_option tactic.hygienic true in
def E1:∀(xs ks:@&Int) (k:Int),k∈f9 ks xs↔k∈ks\/k∈xs
 |[],ks,k=>by simp[f9]
 |x::xs,ks,k=>by
  change k∈f9 (F4 ks x) xs↔_;rw[E1 xs];unfold F4;split
  .rename_i h;constructor
   .rintro(a|a)
    .exact .inl a
    .exact .inr (by simp[a])
   .rintro(a|a)
    .exact .inl a
    .rcases aJ.mp a with rfl|b
     .exact .inl h
     .exact .inr b
  .simp[or_assoc]
set_option tactic.hygienic true in
def M7:∀(xs ks:@&Int),ks.Nodup->(f9 ks xs).Nodup
 |[],ks,h=>h
 |x::xs,ks,h=>by
  refine M7 xs _ ?_;unfold F4;split
  .exact h
  .rename_i hk;rw[cA];exact#[h,by simp,λa ha b hb=>by simp at hb;subst hb;exact λz=>hk (z▸ha)]
def Lf:Well (Led w) (SetTable.fresh 0 0 (Led w)):=#[by simp[lK,SetTable.fresh],rfl,rfl]
def Ey(e:h.get? a=some { cls:=.type "set",dict:=none,data:=.set (List.toArray []) 0 (.fresh 0 0 (Led w)) }):j5 prog w h a [] :=
 #[_,(List.toArray []),0,_,e,#[rfl,rfl,rfl],rfl,(by intro e he;simp at he),by simp,by simp,by decide,by rfl,Lf]
def Xv{R:Result->Shared->Prop}{fp wr:@&Addr}{G:Array GenState->Array GenState->Prop}{P:Nat->Value->Prop}{St:Nat->Shared->Prop}(W:WalksS prog w A.in1 I fp wr G n P St)(Iu:a∉fp)(hn:n=-ns)(hv:∀i v,P i v->∃tk,v=.int (ns.getD i 0) tk)(hb:n+1<scanBound):∀(k i:Nat) (s:Shared),i+k=n->St i s->j5 prog w s.heap a (f9 [] (ns.take i)) ->
   (∀s',Moved (a::wr) G s s'->j5 prog w s'.heap a (f9 [] ns)->R (.ok (.ret .none)) s')->codeAny (model prog w) A (.builtin "set.update.loop" #[[.ref a,.ref I],[]]) R s:=by
 let hw:a∉wr:=λh=>Iu (W.sub _ h);let nR:∀b∈wr,b∈a::wr:=λb hb=>by simp[hb]
 intro k
 induction k with
 |zero =>
  intro i s e st hS hR;obtain rfl:i=n:=by omega
  refine dG kq ?_;refine aa (W.done s _ _ st λs' m=>ak (hR s' (m.mono nR) (j5.at ?_ λo e=>m.heap a o hw e)))
  simp_all
 |succ k ih =>
  intro i s e st hS hR;let dI:i< -ns:=by omega
  refine dG kq ?_;refine aa (W.item i s _ _ () st λv s' hP mn m=>?_);let#[tk,rfl]:=hv i v hP;let kA:=j5.at hS λo e=>m.heap a o hw e;let hl:=F8 (ns.take i) [];rw[dg] at hl;simp only[List.length_nil] at hl;refine aa (bD ?_);refine bD (aa ((intKind prog w).pyHash (k:=ns.getD i 0) (gH _ _ _ _) ?_));refine Gq (s:={ s' with toks:=s'.toks+1 }) kA () λh' bb sb oV=>?_;let e2:F4 (f9 [] (ns.take i)) (ns.getD i 0)=f9 [] (ns.take (i+1)):=by
   unfold f9;rw[bz,List.foldl_append,ag dI];simp[List.getD,dI]
  rw[e2] at oV;refine ak #[gM PyProof.Rows.F.plain_set_update_loop _,ih (i+1) _ () (W.frame _ s' _ _ mn (iw _) λb hb o e=>by rw[sb.2 b λz=>Iu (z▸hb)];exact e) oV λs2 m2 h2=>?_];exact hR s2 (Moved.trans W.gtrans ((m.mono nR).then_heap (iw _) λb o hb e=>by rw[sb.2 b λz=>hb (by rw[z];simp)];exact e) m2) h2
noncomputable abbrev u6(w:World):Obj:={ cls:=.type "set",dict:=none,data:=.set (List.toArray []) 0 (.fresh 0 0 (Led w)) }
def DT(h:Q (.ref s⁻¹) { s with heap:=s.heap.push (u6 w) }):wpAny (model prog w) A (newSet (.type "set")) Q E s:=by
 refine aa (W7 ?_);exact cS h (cH _)
def VI(x:Value)(h:Q (.ref s⁻¹) { s with heap:=s.heap.push (u6 w) }):codeAny (model prog w) A (.call (.builtin "set.__new__") #[[.type "set",x],[]]) (wants Q E) s:=by
 refine uO (?_:wpAny _ A.in1 (do
  checkBuiltinCall "set.__new__" #[[.type "set",x],[]]
  again (.builtin "set.__new__" #[[.type "set",x],[]])) _ _ s)
 refine aa (dM (F.newCall_set_1 x) (ak #[gM F.plain_set_new _,?_]));refine dG F.entry_set_new ?_;let sub:=sub_set_self;refine aa (m:=Builtin.Frozenset.newClass "set" _) ?_;refine aa (dM (a:=true) (by rfl) ?_);refine aa (dM sub ?_);refine ak ?_;exact aa (DT (ak h))
def K4{vs:@&Value}(h:IntsAre vs ns):-vs=-ns:=by
 induction h with
 |nil=>rfl
 |cons n t r ih=>simp[ih]
abbrev xR(h:Heap)(l:Addr)(items:Array Value):Prop:=h.IsList l items\/h.IsTuple l items
def xR.lt(x:xR h l items):l<h.objs.size:=by
 rcases x with⟨_,e,_⟩|⟨_,e,_⟩<;>exact aC e
def Wa{Q:Fin->Shared->Prop}(hh:A.handled=none)(hS:s.heap.get? a=!u6 w)(hl:xR s.heap l items)(hi:IntsAre items.toList ns)(hb:items.size+1<scanBound)(dD:a≠l)(h:∀h' tk,j5 prog w h' a (f9 [] ns)->(∀b o,b≠a->s.heap.get? b=!o->h'.get? b=!o)->s.toks<=tk->wpAny (model prog w) A (ret .none) Q E { s with heap:=h',toks:=tk }) :
  wpAny (model prog w) A (Builtin.«set.__init__» #[[.ref a,.ref l],[]]) Q E s:=by
 let hT:s.TypeIs (.ref a) "set":=#[_,hS,rfl]
 let dI:=hl.lt;let yR:l≠s⁻¹:=aK dI;refine aa (dM (a:=Unit.unit) rfl ?_);let nm:∀{Q':String->Shared->Prop},(∀x,Q' x s)->wpAny (model prog w) A (typeNameOfCut 200 (.ref a)) Q' E s:=λ{Q'} q=>by
  refine aa (aa (dJ hT ?_));refine ak (dM (a:="set") ?_ (q _))
  rfl
 refine aa (nm λx=>?_);refine aa (m:=checkCount _ 0 1 _) (ak ?_);refine aa (m:=Builtin.Frozenset.addrOf _) (ak ?_);refine aa (aa (bc hS rfl rfl (ak ?_)));rw[az (by unfold SetTable.fill;simp[SetTable.fresh])];unfold Builtin.Frozenset.updateFrom Builtin.Frozenset.isAnySet;obtain⟨c,tZ,wI,it,hit,HQ,St,W,fh⟩:∃c:String,(c="list"\/c="tuple")/\s.TypeIs (.ref l) c/\∃it:Obj,(∀Q':Value->Shared->Prop,Q' (.ref s⁻¹) { s with heap:=s.heap.push it }->wpAny (model prog w) A (pyIter (.ref l)) Q' E s) /\
   (∀b o,s.heap.get? b=!o->(s.heap.push it).get? b=!o)/\∃St:Nat->Shared->Prop,WalksS prog w A.in1 s⁻¹ [s⁻¹,l] [s⁻¹] (λa b=>b=a) items.size (λi v=>items[i]?=!v) St/\St 0 { s with heap:=s.heap.push it }:=by
  rcases hl with hl|hl
  .let#[o,ho,hc,_]:=id hl;exact#["list",.inl rfl,#[o,ho,hc],_,λQ' q=>gg hl q,λb o e=>ao _ e,_,(As (A:=A.in1) hh _ l yR items).toS,#[#[_,aE _ rfl,rfl,rfl],hl.push _]]
  .let#[o,ho,hc,_]:=id hl;exact#["tuple",.inr rfl,#[o,ho,hc],_,λQ' q=>wpAny_pyIter_tuple hl q,λb o e=>ao _ e,_,(Walks.tuple (A:=A.in1) hh _ l yR items).toS,#[#[_,aE _ rfl,rfl,rfl],hl.push _]]
 refine aa (aa (aa (dn (b:=false) wI (by rcases tZ with rfl|rfl<;>(rw[gh];kernel_rfl)) ?_)));change wpAny (model prog w) A (isInstance (Value.ref l) (Value.type "frozenset")) _ _ _;refine dn (b:=false) wI (by rcases tZ with rfl|rfl<;>(rw[gh];kernel_rfl)) ?_;rw[az ∅];refine aa (dJ wI ?_);rw[az (by rcases tZ with rfl|rfl<;>decide)];refine aa (hit _ ?_);refine aa (wpAny_runValue ?_);let Rq:a<s⁻¹:=aC hS;let hsz:items.size=-ns:=by exact K4 hi
 refine Xv (a:=a) (ns:=ns) W (by simp only[List.mem_cons,List.not_mem_nil,or_false,not_or];exact#[aK Rq,dD]) hsz (λi v hv=>IntsAre.int_at hi i v (by rw[yu];exact hv)) hb items.size 0 _ ()
  fh (Ey (HQ _ _ hS)) λs' m kA=>?_
 let eS:s'={ s with heap:=s'.heap,toks:=s'.toks }:=by
  let#[jY,g',d',kJ,rE]:=s';let m1:g'=s.gens:=m.gens;let m2:d'=s.drawn:=m.drawn;let m3:rE=s.os:=m.os
  simp_all
 rw[eS];refine ak (h _ _ kA (λb o hb e=>?_) m.toks);exact m.heap b o (by simp only[List.mem_cons,List.not_mem_nil,or_false,not_or];exact#[hb,aK (aC e)]) (HQ _ _ e)
def Nm(hh:A.handled=none)(hl:xR s.heap l items)(hi:IntsAre items.toList ns)(hb:items.size+1<scanBound)(h:∀h' tk,j5 prog w h' s⁻¹ (f9 [] ns)->(∀b o,s.heap.get? b=!o->h'.get? b=!o)->s.toks<=tk->Q (.ref s⁻¹) { s with heap:=h',toks:=tk }) :
  wpAny (model prog w) A (call (.type "set") [.ref l]) Q E s:=by
 let cs:=F.called_set;let#[_,_,y1]:=cs.mro;let y2:=cs.made;let y3:=cs.sub;let y4:=cs.notType;let y5:=cs.canCreate;let y6:=F.typeCall_set_1 (.ref l);refine wpAny_call (uO (?_:wpAny _ _ (callAny (.type "set") _) _ _ _));refine ak #[Code.quiet_builtin _ #[],dG F.entry_type_call ?_];rw[Around.under_plain (weight_type_call_type "set" [.ref l] []) rfl]
 repeat (any_goals (first|assumption|wp_step))
 refine iF (VI (.ref l) (E:=E) (Q:=λv s1=>v=.ref s⁻¹/\s1={ s with heap:=s.heap.push (u6 w) }) #[rfl,rfl]) ?_;rintro(e|fl) s1 hr
 .exact hr
 cases fl with
 |next=>exact hr
 |brk=>exact hr
 |cont=>exact hr
 |ret v =>
 let#[rfl,rfl]:=hr;let hS:(s.heap.push (u6 w)).get? s⁻¹=!u6 w:=aE _ rfl;let hT:Shared.TypeIs { s with heap:=s.heap.push (u6 w) } (.ref s⁻¹) "set":=#[_,hS,rfl]
 let y7:=cs.init.lookup;let y8:=cs.init.bind (.ref s⁻¹)
 repeat (any_goals (first|assumption|wp_step))
 refine iF (codeAny_call_builtin (R:=wants (λv s2=>v=.none/\∃h' tk,s2={ s with heap:=h',toks:=tk }/\j5 prog w h' s⁻¹ (f9 [] ns)/\(∀b o,s.heap.get? b=!o->h'.get? b=!o)/\s.toks<=tk) E) cs.init.plain F.entry_set_init (check_set_init_1 hT ?_)) ?_
 .let kz:xR (s.heap.push (u6 w)) l items:=hl.imp (·.push _) (·.push _);let QM:=hl.lt;refine Wa (s:={ s with heap:=s.heap.push (u6 w) }) (by simp[hh]) hS kz hi hb (cE QM) λh' tk h1 h2 h3=>ak #[rfl,h',tk,rfl,h1,λb o e=>h2 b o (aK (aC e)) (ao _ e),h3]
 .rintro(e|fl) s2 hr
  .exact hr
  cases fl with
  |next=>exact hr
  |brk=>exact hr
  |cont=>exact hr
  |ret v =>
  let#[rfl,h',tk,rfl,h1,h2,h3]:=hr
  repeat (any_goals (first|assumption|wp_step))
  exact h _ _ h1 h2 h3
end ST
namespace L2
open PySem PySem.Spec PyProof.Rows
abbrev P1(X:Cx)(a:Addr)(ks:@&Int):HO:=.ext λh=>ST.j5 X.prog X.w h a ks
abbrev o8(ns:@&Int):@&Int:=(ST.f9 [] ns).mergeSort (λa b=>decide (a<=b))
def X2:∀{a b:@&Int},a.Perm b->a.Pairwise (·<=·)->b.Pairwise (·<=·)->a=b
 |[],b,h,_,_=>by simp_all
 |x::a,[],h,_,_=>absurd h.length_eq #[_]
 |x::a,y::b,h,h1,h2=>by
  rw[gP] at h1 h2;let e:x=y:=by
   let m1:=h.mem_iff (a:=y);let m2:=h.mem_iff (a:=x);simp only[List.mem_cons,true_or,true_iff,iff_true] at m1 m2;rcases m1 with z|z
   .exact z.symm
   .grind
  subst e;rw[X2 (h.cons_inv) h1.2 h2.2]
def Ls(ns:@&Int):(o8 ns).Pairwise (·<=·):=by
 have:=List.pairwise_mergeSort (le:=λa b:Int=>decide (a<=b)) (λa b c h1 h2=>by simp at *;omega) (λa b=>by simp;omega) (ST.f9 [] ns);exact this.imp λh=>by simpa using h
def N6(ns:@&Int):(o8 ns).Perm (ST.f9 [] ns):=List.mergeSort_perm _ _
def ES(ns:@&Int):(o8 ns).length<=-ns:=by
 rw[(N6 ns).length_eq];have:=ST.F8 ns []
 simp_all
section
variable{X:Cx}{pi:@&(Addr×Obj)}{Z:St}{H:Hp}{s:Shared}
def Inv.draw(I:Inv X pi Z H s)(d:Drawn):Inv X pi Z H { s with drawn:=d } :=
 I.step (g':=s.gens) (t':=s.toks) (d':=d) (ch:=[]) #[_] (λb o x x x e x=>e) (λb o x x x e x=>#[o.slots,e]) (λb o x x e=>e) (λb o x e=>#[o,e]) (λx x e=>e) (λx x x e=>e) (λb ps e=>#[(List.toArray []),by simp[e]]) (λm hm=>hm) I.bZ I.bare
def zM{h:Heap}{a:Addr}{ks:@&Int}(x:ST.j5 X.prog X.w h a ks):k9 X.prog X.w H h a (P1 X a ks) :=
 #[x,by let#[o,_,_,_,e,_]:=x;exact#[o,e],λh1 h2 y k=>y.at k]
def aT7{ns:@&Int}{vs:@&Value}(h:IntsAre vs ns):Vals (ns.map V.int) vs:=by
 induction h with
 |nil=>exact .nil
 |cons n t r ih=>exact .cons #[t,rfl] ih
def O5:∀{ns:@&Int} {vs:@&Value},Vals (ns.map V.int) vs->IntsAre vs ns
 |[],_,h=>by cases h;exact .nil
 |n::ns,_,h=>by
  cases h with
  |cons r rr =>
   let#[t,rfl]:=r;exact .cons n t (O5 rr)
def LU(hc:X.calm=true):m9 X (.type "set") (λxs H Q=>∃a ns,xs=[.ref a]/\fZ X.K H a (ns.map V.int)/\-ns<60/\∀p,H p=none->Q (.ref p) (upd H p (P1 X p (ST.f9 [] ns)))):=by
 intro pi s Z H xs us Q I r h;let#[a,ns,rfl,hq,hl,q]:=h;cases r with
 |cons r rr =>
 cases rr;cases r;let#[bh,rv,p,hz]:=I.list hq;let hI:=O5 rv;let hlen:=ST.K4 hI;refine ST.Nm (ns:=ns) (I.ok.hd hc) (.inl p.isList) (by simpa using hI) (by rw[aQ,hlen];exact aD (Nat.succ_lt_succ hl) ∅) λh' tk hS hk x=>?_;exact#[.ref _,_,I.laid (a:=s⁻¹) (t':=tk) hk (aw _) (zM hS),rfl,q _ (I.bZ.fresh (aw _))]
def LV(hc:X.calm=true):m9 X (.type "set") (λxs H Q=>∃a ns,xs=[.ref a]/\iO X.K H a (ns.map V.int)/\-ns<60/\∀p,H p=none->Q (.ref p) (upd H p (P1 X p (ST.f9 [] ns)))):=by
 intro pi s Z H xs us Q I r h;let#[a,ns,rfl,hq,hl,q]:=h;cases r with
 |cons r rr =>
 cases rr;cases r;let#[bh,rv,p,hz]:=I.tuple hq;let hI:=O5 rv;let hlen:=ST.K4 hI;refine ST.Nm (ns:=ns) (I.ok.hd hc) (.inr (show s.heap.IsTuple a bh.toArray from p)) (by simpa using hI) (by rw[aQ,hlen];exact aD (Nat.succ_lt_succ hl) ∅) λh' tk hS hk x=>?_;exact#[.ref _,_,I.laid (a:=s⁻¹) (t':=tk) hk (aw _) (zM hS),rfl,q _ (I.bZ.fresh (aw _))]
def O8(hc:X.calm=true):m9 X (.builtin "sorted") (λxs H Q=>∃a ns,xs=[.ref a]/\H a=!P1 X a (ST.f9 [] ns)/\-ns<60/\∀p,H p=none->Q (.ref p) (upd H p (.lst ((o8 ns).map V.int)))):=by
 intro pi s Z H xs us Q I r h;let#[a,ns,rfl,ha,hl,q]:=h;cases r with
 |cons r rr =>
 cases rr;cases r;let hS:ST.j5 X.prog X.w s.heap a (ST.f9 [] ns):=(I.bZ a _ ha).1;let hn:=ST.F8 ns [];simp only[List.length_nil] at hn;refine ST.aU9 (I.ok.hd hc) hS () λS vs AZ e h' d' kJ h1 h2 h3 h4 h5 h6 x=>?_;let e1:AZ=o8 ns:=X2 (h2.trans (N6 ns).symm) h3 (Ls ns);subst e1;let hz:=ES ns;exact#[.ref S,_,(I.laid (a:=S) (o:=.lst ((o8 ns).map V.int)) (t':=kJ) h6 h5 #[by rw[au];exact aG hz (aG (eT hl) ∅),vs,e,aT7 h1,h4]).draw d',rfl,q S (I.bZ.fresh h5)]
end
end L2
namespace ST
open PySem PyProof.Rows
def VF{prog:Program}{w:World}{A:Around}{E:Value->Shared->Prop}{s:Shared}{a:Addr}{ks:@&Int}{k:Int}{tk:Tok}{Q:Value->Shared->Prop}(hS:j5 prog w s.heap a ks)(hr:-ks+1<scanBound)(h:∀h',Heap.SameBut a s.heap h'->j5 prog w h' a (F4 ks k)->Q .none { s with heap:=h',toks:=s.toks+1 }):wpAny (model prog w) A (call (.builtin "set.add") [.ref a,.int k tk]) Q E s:=by
 let hT:s.TypeIs (.ref a) "set":=let ⟨o,_,_,_,e,x,_⟩:=hS;#[o,e,x.1]
 refine cJ F.slot_set_add hT F.entry_set_add ?_ (F.args_set_add_2 _ _);let go:∀(Q':Fin->Shared->Prop),(∀h',Heap.SameBut a s.heap h'->j5 prog w h' a (F4 ks k)->wpAny (model prog w) A.in1 (ret .none) Q' E { s with heap:=h',toks:=s.toks+1 })->wpAny (model prog w) A.in1 (do let _ <- setAdd a (.int k tk);ret .none) Q' E s:=λQ' q=>by
  refine aa (bD (aa ((intKind prog w).pyHash (k:=k) (gH _ _ _ _) ?_)));exact Gq (s:={ s with toks:=s.toks+1 }) hS hr λh' b sb S2=>q h' sb S2
 unfold Builtin.«set.add» Builtin.Frozenset.oneOther;simp only[List.isEmpty_nil,bind_assoc];refine aa (ak ?_);refine aa (ak ?_);exact go _ λh' sb S2=>ak #[_,rfl,h h' sb S2]
end ST
namespace L2
open PySem PySem.Spec PyProof.Rows
variable{elt iter:Expr}{ifs:@&Expr}{scope:Scope}{pos:Pos}
section
variable{prog:Program}{w:World}{A:Around}{R:Result->Shared->Prop}{s:Shared}
def aU1(elt target iter:Expr)(ifs:@&Expr)(scope:Scope)(pos:Pos)(it acc:Value)(env:Env):compTurn (.SetComp elt [#[target,iter,ifs,0]] scope pos) 0 it acc env=(do
      standAt iter.pos
      match <- pyNext it with
      |none=>pure (.done .next)
      |some v =>
        letOwnedTupleGo target it v
        assign target env v
        let mut ok:=true
        for c in ifs do if ok then ok <- isTrue c env (eval c env)
        if ok then(do let x <- eval elt env;standAt elt.pos;let _ <- call (.builtin "set.add") [acc,x])
        again (.compLoop (.SetComp elt [#[target,iter,ifs,0]] scope pos) 0 it acc env)):=by rfl
def aB7{target:Expr}{it acc:Value}{env:Env}(I:Nat->Shared->Prop)(turn:∀ n s,I n s->wpAny (model prog w) A (pyNext it) (λr bH=>match r with
   |none=>R (.ok .next) bH
   | some v=>wpAny (model prog w) A (letOwnedTupleGo target it v) (λy bH=>wpAny (model prog w) A (assign target env v) (λ_ fm =>
     wpAny (model prog w) A (forIn ifs true λc r=>if r=true then do let ok <- isTrue c env (eval c env);pure (ForInStep.yield ok) else pure (ForInStep.yield r)) (λok fI =>
      if ok=true then wpAny (model prog w) A (eval elt env) (λx iU =>
       wpAny (model prog w) A (call (.builtin "set.add") [acc,x]) (λy jD=>∃ m,m < n/\I m jD) (λy y=>False) iU) (λy y=>False) fI
      else ∃ m,m < n/\I m fI) (λy y=>False) fm) (λy y=>False) bH) (λy y=>False) bH) (λy y=>False) s)(n:Nat)(h:I n s) :
  codeAny (model prog w) A (.compLoop (.SetComp elt [#[target,iter,ifs,0]] scope pos) 0 it acc env) R s:=by
 refine codeAny_loop rfl I (λn s hI=>?_) n h;change wpAny _ A ((compTurn (.SetComp elt [#[target,iter,ifs,0]] scope pos) 0 it acc env).onRaise (λx=>do noteFrame x env;theTreesLotGoes x)) _ _ s;refine wpAny_noted ?_;rw[aU1];refine aa (fL (aa (bC (turn n s hI) (λr bH dB=>?_) λy y h'=>h'.elim)));cases r with
 |none=>exact ak dB
 |some v =>
  refine aa (bC dB (λy bH dB=>?_) λy y h'=>h'.elim);refine aa (bC dB (λy fm ip=>aa (bC ip (λok fI lX=>?_) λy y h'=>h'.elim)) λy y h'=>h'.elim);cases ok with
  |false=>exact wpAny_pure #[rfl,lX]
  |true =>
   exact aa (aa (bC lX (λx iU rH=>aa (fL (aa (bC rH (λy jD rG=>ak (ak #[rfl,rG])) λy y h'=>h'.elim)))) λy y h'=>h'.elim))
def aV3{target:Expr}{it acc:Value}{env:Env}(h0:codeAny (model prog w) A (.compLoop (.SetComp elt [#[target,iter,ifs,0]] scope pos) 0 it acc env) R s)(h:wpAny (model prog w) A (pyIter it) (λHA s'=>codeAny (model prog w) A (.compLoop (.SetComp elt [#[target,iter,ifs,0]] scope pos) 0 HA acc env) R s') (notedBy (model prog w) A env λx s'=>R (.error x) s') s) :
  codeAny (model prog w) A (.compStart (.SetComp elt [#[target,iter,ifs,0]] scope pos) 0 it acc env) R s:=by
 refine uO (?_:wpAny _ _ ((compStart (.SetComp elt [#[target,iter,ifs,0]] scope pos) 0 it acc env).onRaise (λx=>do noteFrame x env;standAt theWindowsPlace)) _ _ s);refine wpAny_notedAt ?_;refine aa (jR (wpAny_ite ?_));split
 .first
   |exact ak #[rfl,h0]
   |exact aa (ak (ak #[rfl,h0]))
 .refine aa (fR ?_);exact aa (fL (aa (bC h (λHA s' h'=>ak #[rfl,h']) λy y x=>x)))
end
abbrev Zp(o:Obj):Prop:=∀v,o.data≠.cell v
abbrev bC7(X:Cx)(wi:TI)(d4:@&Nat)(n:Nat)(g:TG)(tc:TT)(te:TE):TE:=λZ H Q=>wi Z H λJ H1=>∃W:Nat->Nat->@&Int->St->Hp->Prop,(∃m,W 0 m [] (F2 Z d4 n) H1)/\∀i m ys Z H,W i m ys Z H ->
 (J.stop i H/\∀p,H p=none->Q (.ref p) (upd H p (P1 X p (ST.f9 [] ys)))) \/
 (J.go i H/\-ys < 60/\∀ x H',J.qk i H x H'->g x Z H' λcQ H2=>tc cQ H2 λb H3 =>
  if b=true then te cQ H3 λy H4=>∃ k,y=.int k/\∃ m',m' < m/\W (i + 1) m' (ys ++ [k]) cQ H4 else ∃ m',m' < m/\W (i + 1) m' ys cQ H3)
section
variable{X:Cx}{pi:@&(Addr×Obj)}{Z:St}{H:Hp}{s:Shared}
def Inv.bC2{D:Addr}{φ:Heap->Prop}(I:Inv X pi Z H s)(f:J5 X pi H D)(hs:X.dA.heap.objs.size<=D)(ho:k9 X.prog X.w (upd H D (.ext φ)) s.heap D (.ext φ)):Inv X pi Z (upd H D (.ext φ)) s:=by
 let#[f0,f1,f2,f3,f4,f5]:=f;let dD:∀b o,X.dA.heap.get? b=!o->b≠D:=λb o e z=>absurd (aC e) (by simp_all);let tup:∀b u,H b=!u->upd H D (.ext φ) b=!u:=λb u e=>by rw[d8 (j2 e f0)];exact e
 refine#[I.ok,I.os,I.bare,#[?_,?_,?_,I.base.there,?_,?_,?_],I.loc,I.cell,?_,?_,?_,?_,I.len,I.sg]
 .exact λb o e n1 n2 n3=>I.base.keep b o e n1 n2 n3
 .exact λb o e n1 n2 n3=>I.base.slot b o e n1 n2 n3
 .exact λb o e n1 n2=>by rw[d8 (dD b o e)];exact I.base.free b o e n1 n2
 .exact λb xs e=>tup _ _ (I.base.jB b xs e)
 .exact λb o u e=>tup _ _ (I.base.jl b o u e)
 .exact λb ps e=>by
   let#[more,q]:=I.base.jC b ps e;exact#[more,tup _ _ q]
 .rw[d8 f1.symm];exact I.free
 .exact λx c e=>by rw[d8 (f4 x c e)];exact I.gz x c e
 .intro p hp;let#[p1,p2,p3]:=I.pin p hp;exact#[p1,by rw[d8 (f5 p hp)];exact p2,p3]
 .intro a o e;by_cases ha:a=D
  .subst ha;rw[j4] at e
   simp_all
  .rw[d8 ha] at e;let q:=I.bZ a o e;refine q.J1 (λb u y h=>h) (λb hb=>tup _ _ hb) (λb xs hb=>tup _ _ hb)
abbrev KS(X:Cx)(a:Addr)(ys:@&Int)(h:Heap)(o:Obj):Prop:=-ys<=60/\Zp o/\h.get? a=!o/\ST.j5 X.prog X.w h a (ST.f9 [] ys)
def Mv{n0:Nat}:GG X n0 (KS X) λa ys=>P1 X a (ST.f9 [] ys) where
 nc:=λh=>h.2.1
 get:=λh=>h.2.2.1
 J1:=λ⟨h1,h2,h3,h4⟩ e=>#[h1,h2,e,h4.at λo e'=>by rw[h3] at e';cases e';exact e]
 done:=λ_ I f hs ⟨_,_,h3,h4⟩=>I.bC2 f hs (zM h4)
def aM5{tg:Expr}{N':@&Str}{d4:@&Nat}{cl:@&(Str×Addr)}{it:Addr}{fp:@&Addr}{tn:Nat->Heap->Prop}{J:It}{g:TG}{tc:TT}{te:TE}{RR:Value->Addr->Result->Shared->Prop}{E:Value->Shared->Prop}{W:Nat->Nat->@&Int->St->Hp->Prop}{m0:Nat}{Q:VK}(S:dw X scope N' d4 cl)(hc:X.calm=true)(hg:∀C s H,PG (f7 X pi scope N' cl C s H fp) tg g)(ht:∀C s H,mh (f7 X pi scope N' cl C s H fp) ifs tc)(he:∀C s H,PE (f7 X pi scope N' cl C s H fp) elt te)(I:Inv X pi Z H s)(T:Turn X.prog X.w X.K tg J fp it tn)(st:tn 0 s.heap)(hf:∀b∈fp,J5 X pi H b)(w0:W 0 m0 [] (F2 Z d4 (-N')) H)(turn:∀ i m ys Z H,W i m ys Z H->(J.stop i H/\∀ p,H p=none->Q (.ref p) (upd H p (P1 X p (ST.f9 [] ys)))) \/
   (J.go i H/\-ys < 60/\∀ x H',J.qk i H x H'->g x Z H' λcQ H2=>tc cQ H2 λb H3 =>
    if b=true then te cQ H3 λy H4=>∃ k,y=.int k/\∃ m',m' < m/\W (i + 1) m' (ys ++ [k]) cQ H4 else ∃ m',m' < m/\W (i + 1) m' ys cQ H3))(wJ:∀D C s' H' m,Inv X pi Z H' s'->Q (.ref D) H'->s'.heap.Ns C m->H' C=none->s⁻¹<=C->RR (.ref D) C (.ok .next) s') :
  wpAny (model X.prog X.w) X.A (newSet (.type "set")) (λacc fI=>wpAny (model X.prog X.w) X.A (newFunctionEnv scope X.env.globals cl [] X.env.qual none .none (!X.env)) (λnt iU =>
   codeAny (model X.prog X.w) X.A (.compStart (.SetComp elt [#[tg,iter,ifs,0]] scope pos) 0 (.ref it) acc { nt with scope:=relabel scope X.env }) (RR acc nt.locals) iU) E fI) E s:=by
 refine ST.DT (Md λdB jI iq pN=>?_);dsimp only at jI iq pN ⊢;let eC:(s.heap.push (ST.u6 X.w)).objs.size=s⁻¹+1:=fk ..
 replace eC:=eC.symm
 let ox:dB.get? s⁻¹=!ST.u6 X.w:=iq _ _ (aE _ rfl);generalize (s.heap.push (ST.u6 X.w)).objs.size=C at *;refine (λL=>aV3 L.2 (T.self _ 0 _ _ _ L.1 L.2)) (NQ (R:=RR (.ref s⁻¹) C) (LP:=codeAny (model X.prog X.w) X.A (.compLoop (.SetComp elt [#[tg,iter,ifs,0]] scope pos) 0 (.ref it) (.ref s⁻¹) (compEnvC scope (F1 scope cl C) C X.env)) (RR (.ref s⁻¹) C)) (tb:=λys Z H P=>te Z H λy H'=>∃ k,y=.int k/\P (ys ++ [k]) H') (env:=compEnvC scope (F1 scope cl C) C X.env)
  (body:=λP fI=>wpAny (model X.prog X.w) X.A (eval elt (compEnvC scope (F1 scope cl C) C X.env)) (λx iU=>wpAny (model X.prog X.w) X.A (call (.builtin "set.add") [.ref s⁻¹,x]) (λt jD=>P jD) (λt t=>False) iU) (λt t=>False) fI)
  Mv S hc (hg C s H) (ht C s H) I T st hf w0 turn (λs' H' m=>wJ _ C s' H' m) #[_,jI] iq pN eC #[cH _,(λv (z:Data.set _ _ _=_)=>by cases z),ox,ST.Ey ox] rfl (λys o hJ cB H' s' P R' hz k hb I' q hR=>?_) (λI turn n h=>aB7 I turn n h))
 refine cI (he C s H _ s' cB H' _ I' q) λxv s8 bo=>?_;let#[y,H8,I8,r8,kk,ey,q8]:=bo;subst ey;let#[tk,rfl]:=r8;let#[_,_,_,S8]:=(Mv (X:=X) (n0:=0)).J1 k (hb I8);let Be:=ST.F8 ys [];simp only[List.length_nil] at Be;refine ST.VF S8 (aD (by omega:_<62) ∅) λh' sb S9=>?_;let e9:ST.F4 (ST.f9 [] ys) kk=ST.f9 [] (ys++[kk]):=by unfold ST.f9;rw[List.foldl_append];rfl
 rw[e9] at S9;let#[o9,es9,ep9,t9,g9,x9,d9,r9]:=id S9;exact hR s8 H8 _ h' (s8.toks+1) o9 I8 q8 (λb' u hb hu=>by rw[sb.2 b' hb];exact hu) #[by rw[ba,yq];omega,(λv z=>by rw[d9] at z;cases z),g9,S9]
def WB{tg:Expr}{N':@&Str}{d4:@&Nat}{cl:@&(Str×Addr)}{wi:TI}{g:TG}{tc:TT}{te:TE}(S:dw X scope N' d4 cl)(hc:X.calm=true)(hi:PI X tg iter wi)(hg:∀pi C s H fp,PG (f7 X pi scope N' cl C s H fp) tg g)(ht:∀pi C s H fp,mh (f7 X pi scope N' cl C s H fp) ifs tc)(he:∀pi C s H fp,PE (f7 X pi scope N' cl C s H fp) elt te)(hs:∀x,foldedSetIterable iter X.env x=pure x):PE X (.SetComp elt [#[tg,iter,ifs,0]] scope pos) (bC7 X wi d4 (-N') g tc te):=by
 intro pi s Z H Q I h;refine jx (use:=none) rfl hs S.sG S.kind S.names (cI (hi pi s Z H _ I h) λxv bH dB=>cI dB λvP fm ip=>?_);let#[it,fp,tn,J,H2,e,I2,T,kW,f2,W,#[m0,w0],turn]:=ip;subst e;refine aM5 (RR:=λacc C=>compPost (model X.prog X.w) X.A X.xe none (EP X pi Z Q) acc C) S hc (λC s H=>hg pi C s H fp) (λC s H=>ht pi C s H fp) (λC s H=>he pi C s H fp) I2 T kW f2 w0 turn ?_;intro D C s' H' m I' q hn hC hsz;exact#[m,hn,λh' sb=>#[.ref D,H',I'.Jv hsz I2 hC sb,rfl,q]]
end
end L2
namespace HT
open PySem PyProof.Rows Builtin
def ao4:fillsNumberSlot (.type "tuple") "mul"=pure false :=
 PySem.fillsNumberSlot_seq (id:="tuple.__mul__") (r:=!(.builtin "tuple.__rmul__")) F.slot_tuple_mul.lookup #[] F.slot_tuple_rmul.lookup #[]
def aG3:seqRepeat? (.type "tuple")=pure (!(.builtin "tuple.__mul__")):=by
 rfl
def aw4(a:Int)(t:Tok)(l:Addr)(items:Array Value)(n:Nat)(dd:Option Addr)(sl:Array (Option Value)) :
  Meets (Builtin.«int.__rmul__» #[[.int a t,.ref l],[]]) (λx R s=>s.heap.get? l=some { cls:=.type "tuple",dict:=dd,data:=.seq items n,slots:=sl }/\R (.ok (.ret Value.notImplemented)) s) :=
 .of_wp λprog w A R s h=>by let#[hl,h]:=h;wp_walk;exact#[_,rfl,h]
section
variable{prog:Program}{w:World}{A:Around}{E:Value->Shared->Prop}{s:Shared}
def aY5(bh:@&Value):∀(m:Nat) (acc:Array Value),List.foldl (λx1 x2=>x1++x2) acc (List.replicate m bh.toArray)=acc++(List.replicate m bh).flatten.toArray:=by
 intro m
 induction m with
 |zero=>intro acc;simp
 |succ m ih=>intro acc;rw[fc,nO,ih,fc,List.flatten_cons];simp
def a28{a:Addr}{bh:@&Value}{n:Int}{t:Tok}{Q:Value->Shared->Prop}(ht:IsTup s.heap a bh.toArray)(dD:bh≠[])(h1:1<=n)(h2:n<2 ^ 62)(hz:-bh*n.toNat<=sizeLine)(q1:n=1->Q (.ref a) s)(q2:Q (.ref s⁻¹) { s with heap:=s.heap.push { cls:=.type "tuple",data:=.seq (List.replicate n.toNat bh).flatten.toArray } }):wpAny (model prog w) A (binaryOp .Mult (.ref a) (.int n t)) Q E s:=by
 let#[o,ho,hc,k,hd]:=id ht;let#[cls,dict,data,slots]:=o;subst hc hd;let he:bh.toArray.isEmpty=false:=by grind
 refine GJ (T:="tuple") (U:="int") ∅ ht.typeIs (λs'=>nM s' n t) ao4 F.fills_int_mul kH aG3 F.slot_int_index.lookup
  (eI kH (nM s n t) F.entry_int_rmul (F.args_int_rmul_2 _ _) (aw4 n t a bh.toArray k dict slots) #[ho,rfl,ht.typeIs,?_])
 refine cJ F.slot_tuple_mul ht.typeIs F.entry_tuple_mul ?_ (F.args_tuple_mul_2 _ _);refine aa (dM (show asIndex (.int n t)=pure n from rfl) ?_);rw[az (by simp only[Bool.or_eq_true,decide_eq_true_eq];omega)];refine aa (tupleItemsOf_ ht ?_);let big:¬((bh.toArray.size:Int)*n>(2 ^ 63-1) / 8):=by
  rw[aQ];have:((-bh*n.toNat:Nat):Int)=(-bh:Int)*n:=by grind
  let hs:sizeLine<2 ^ 59:=by decide
  omega
 let many:¬(Builtin.Tuple.tupleTooMany ((bh.toArray.size:Int)*n)=true):=by
  unfold Builtin.Tuple.tupleTooMany
  grind
 let hsz:sizeOk (.seq (List.replicate n.toNat bh).flatten.toArray):=by
  show(List.replicate n.toNat bh).flatten.toArray.size<=sizeLine;simp only[List.size_toArray,List.length_flatten,List.map_replicate,List.sum_replicate_nat];rw[uR];exact hz
 by_cases e1:n=1
 .subst e1;rw[ay (by rw[he];rfl)];refine aa (aa (dJ ht.typeIs (ak ?_)))
  first
   |exact aa (fR (aa (ak #[_,rfl,ak (q1 rfl)])))
   |exact aa (fR (ak #[_,rfl,(q1 rfl)]))
   |exact aa (fR (ak #[_,rfl,ak (q1 rfl)]))
 .rw[az (by rw[he];simpa using e1)];rw[az (by grind),az big,az many];rw[show List.foldl (λx1 x2=>x1++x2) (List.toArray []) (List.replicate n.toNat bh.toArray)=(List.replicate n.toNat bh).flatten.toArray by rw[aY5];simp]
  first
   |exact aa (m:=Builtin.Tuple.tupleExact _) (cS (ak #[_,rfl,q2]) hsz)
   |exact aa (m:=Builtin.Tuple.tupleExact _) (cS (ak #[_,rfl,ak q2]) hsz)
end
end HT
namespace L2
open PySem PySem.Spec PyProof.Rows
section
variable{X:Cx}
abbrev YO(K:PySem.W.Frag):R2:=λx y H Q=>∃(a:Addr) (n:Int) (xs:@&V),x=.ref a/\y=.int n/\iO K H a xs/\xs≠[]/\1<=n/\n<2 ^ 62/\-xs*n.toNat<=sizeLine /\
 (n=1->Q (.ref a) H)/\(∀p,H p=none->Q (.ref p) (upd H p (.tup (List.replicate n.toNat xs).flatten)))
def Um:gf X (binaryOp .Mult) (YO X.K):=by
 intro pi s Z H x y v u Q I rx ry h;let#[a,n,xs,rfl,rfl,ha,dD,h1,h2,hz,q1,q2]:=h;cases rx;let#[tk,rfl]:=ry;let#[bh,r,p,_]:=I.tuple ha;refine HT.a28 p (λz=>dD (r.U2.mp z)) h1 h2 (by rw[<- -r];exact hz) (λe=>#[.ref a,H,I,rfl,q1 e]) ?_;refine#[.ref s⁻¹,_,I.laid (t':=s.toks) (o:=.tup (List.replicate n.toNat xs).flatten) (λb ob q=>ao _ q) (aw _) ?_,rfl,q2 _ (I.bZ.fresh (aw _))];exact#[by rw[len_rep,uR];exact hz,_,r.rep _,L9.new _ _]
abbrev TU(sep:Str)(ys:@&Str):Nat:=ys.foldl (λn y=>n+-y+-sep) 0
end
end L2
namespace HT
open PySem PyProof.Rows Builtin PySem.SeqAt
def aB5(l:Addr)(items:Array Value)(n:Nat)(dd:Option Addr)(sl:Array (Option Value))(x:Value)(e:Value->Bool)(j:Nat)(hj:j<items.size)(hit:e items[j]=true)(lI:∀m (hm:m<items.size),m<j->e items[m]=false) :
    Meets (Builtin.«tuple.index» #[[.ref l,x],[]])
      (λA R s=>s.heap.get? l=some { cls:=.type "tuple",dict:=dd,data:=.seq items n,slots:=sl }/\(∀y,y∈items->EqAt A.in1 s y x (e y))/\R (.ok (.ret (.int j s.toks))) { s with toks:=s.toks+1 }) :=
  .of_wp λprog w A R s h=>by
    let#[hp,g,d,tk,os]:=s;let#[hl,he,h]:=h
    wp_walk using wpAny_loadPart' hl
    change wpAny (model prog w) A.in1 (forIn ([:Min.min items.size items.size]:Std.Legacy.Range) ((none,Unit.unit):Option PySem.Fin × Unit) (λ(i:Nat) __s =>
            match items[i]? with
            |some y=>do
              let __do_lift <- eqBool y x
              if __do_lift=true then do
                  let __do_lift <- retInt (i:Nat)
                  pure (ForInStep.done (!__do_lift,Unit.unit))
                else pure (ForInStep.yield (none,Unit.unit))
            | x=>pure (ForInStep.yield (none,Unit.unit)))) _ _ _
    rw[Std.Legacy.Range.forIn_eq_forIn_range'];refine wpAny_forIn_list _ (λrest b s'=>b=(none,Unit.unit)/\s'=#[hp,g,d,tk,os]/\∃i,rest=List.range' i (items.size-i)/\i<=j) _ ?_ ?_ _ _ #[rfl,rfl,0,by simp,cH _]
    . rintro y rest b s' ⟨rfl,rfl,i,hr,hi⟩;let dI:i<items.size:=by omega
      rw[show items.size-i=(items.size-(i+1))+1 by omega,List.range'_succ] at hr;cases hr;rw[show items[y]?=some items[y] from dt dI];refine aa (he _ (Array.getElem_mem dI) prog w _ _ ?_);by_cases lJ:y=j
      . subst lJ
        wp_walk
        exact#[_,rfl,h]
      . rw[lI y dI ()]
        wp_walk
        grind
    . rintro b s' ⟨rfl,rfl,i,hr,hi⟩;exfalso;have:=iR List.length hr
      grind
section
variable{prog:Program}{w:World}{A:Around}{E:Value->Shared->Prop}{s:Shared}
def a67:typeLookup (.type "tuple") (dunderI "add")=pure none:=by
 kernel_rfl
def VZ{t b:Addr}{vs ws:@&Value}{Q:Value->Shared->Prop}(ht:IsTup s.heap t vs.toArray)(hb:IsTup s.heap b ws.toArray)(h0:vs=[]->Q (.ref b) s)(h1:ws=[]->Q (.ref t) s)(h2:Q (.ref s⁻¹) { s with heap:=s.heap.push { cls:=.type "tuple",data:=.seq (vs++ws).toArray } })(hsz:-vs+-ws<=sizeLine):wpAny (model prog w) A (inplaceOp .Add (.ref t) (.ref b)) Q E s:=by
 let#[#[cls,dd,data,sl],ho,hc,n,hd]:=id ht;let#[#[xh,qN,data2,nS],kM,pO,n2,hd2]:=id hb;subst hc hd pO hd2;let e:vs.toArray++ws.toArray=(vs++ws).toArray:=by simp
 refine wpAny_inplaceOp_concat (T:="tuple") #[_,ho,rfl] #[_,kM,rfl] a67 jS nv ?_;by_cases hv:vs=[]
 .subst hv;exact eI qZ #[_,ho,rfl] pq (nP _ _) (tuple_addW0 t b (List.toArray []) ws.toArray n n2 dd qN sl nS rfl) #[ho,kM,h0 rfl]
 by_cases hw:ws=[]
 .exact eI qZ #[_,ho,rfl] pq (nP _ _) (tuple_addW1 t b vs.toArray ws.toArray n n2 dd qN sl nS (by simpa using hv) (by simp[hw])) #[ho,kM,h1 hw]
 .refine eI qZ #[_,ho,rfl] pq (nP _ _) (tuple_addW2 t b vs.toArray ws.toArray n n2 dd qN sl nS (by simpa using hv) (by simpa using hw) ()) #[ho,kM,?_];rw[e];exact h2
end
end HT
namespace L2
open PySem PySem.Spec PyProof.Rows
variable{xs:@&V}
section
variable{X:Cx}
abbrev zA(ys:@&V)(y:V)(n:Nat):Prop:=ys.all O7=true/\O7 y=true/\(∃z,ys[n]?=!z/\mL z y=true)/\∀(m:Nat) z,m<n->ys[m]?=!z->mL z y=false
def DY:∀{xs:@&V} {us:@&Value} {i:Nat} (hi:i< -us),Vals xs us->∃x,xs[i]?=!x/\RelV x us[i]
 |_,_,0,hi,.cons r _=>#[_,rfl,r]
 |_,_,i+1,hi,.cons _ t=>by
  let#[x,h1,h2]:=DY (i:=i) (by simpa using hi) t;exact#[x,by simpa using h1,by simpa using h2]
def JV(h:xs.all O7=true){i:Nat}{x:V}(e:xs[i]?=!x):O7 x=true:=bQ.mp h x (aB e)
def Ob{ys:@&V}{y:V}{n:Nat}{bh:@&Value}(F:zA ys y n)(r:Vals ys bh):∃hn:n<bh.toArray.size,uh y bh.toArray[n]=true/\∀m (hm:m<bh.toArray.size),m<n->uh y bh.toArray[m]=false:=by
 let#[fs,fy,#[z,hz,he],lI]:=F;let hl:=-r;let hn:n< -bh:=by
  grind
 refine#[by simpa using hn,?_,λm hm BA=>?_]
 .let#[x,hx,rx]:=DY hn r;rw[hz] at hx;cases hx;rw[Ay,FQ rx (JV fs hz)];exact he
 .let pL:m< -bh:=by simpa using hm
  let#[x,hx,rx]:=DY pL r;rw[Ay,FQ rx (JV fs hx)];exact lI m x BA hx
abbrev MR(K:PySem.W.Frag):V->@&V->Hp->VK->Prop:=λx xs H Q=>∃a ys y n,x=.ref a/\xs=[y]/\iO K H a ys/\zA ys y n/\Q (.int n) H
abbrev MQ(K:PySem.W.Frag):V->@&V->Hp->VK->Prop:=λx xs H Q=>∃a ys y n,x=.ref a/\xs=[y]/\fZ K H a ys/\zA ys y n/\n<2 ^ 62/\Q (.int n) H
def a69:nu X "tuple.index" (MR X.K):=by
 intro pi s Z H x xs v us Q I rx r h;let#[a,ys,y,n,rfl,rfl,hq,W,q]:=h;cases rx;cases r with
 |cons ry rr =>
 cases rr;let#[bh,rv,p,hz]:=I.tuple hq;let#[hn,hit,lI]:=Ob W rv;let#[#[cls,dd,data,sl],ho,hc,k,hd]:=id p;simp only at hc hd;subst hc hd;refine eI F.slot_tuple_index p.typeIs F.entry_tuple_index (F.args_tuple_index_2 _ _) (HT.aB5 a bh.toArray k dd sl _ (uh y) n hn hit lI) #[ho,λw hw=>El ry W.2.1 rv W.1 w (by simpa using hw),#[.int n,H,I.tok _,#[_,rfl],q]]
def a70(hu:X.A.units+100<cLine):nu X "list.index" (MQ X.K):=by
 intro pi s Z H x xs v us Q I rx r h;let#[a,ys,y,n,rfl,rfl,hq,W,nK,q]:=h;cases rx;cases r with
 |cons ry rr =>
 cases rr;let#[bh,rv,p,hz]:=I.list hq;let pt:=p.isList.typeIs;let#[#[cls,dd,data,sl],k,ho,hc,Ii,hd]:=id p;simp only at hc Ii hd;subst hc Ii hd;let#[hn,hit,lI]:=Ob W rv;refine eI F.slot_list_index pt F.entry_list_index (F.args_list_index_2 _ _) (SeqAt.list_indexAt a bh.toArray k none sl _ (uh y) n hn () hit lI) #[ho,λw hw=>El ry W.2.1 rv W.1 w (by simpa using hw),#[.int n,H,I.tok _,#[_,rfl],q]]
abbrev xS(K:PySem.W.Frag)(H:Hp)(a:Addr)(xs:@&V):Prop :=
 H a=!.tup xs\/∃(o:Obj) (bh:Array Value) (n:Nat),K.lookup a=!o/\o.cls=.type "tuple"/\o.dict=none/\o.data=.seq bh n/\bh.size<=sizeLine/\Vals xs bh.toList
def xS.sq{K:PySem.W.Frag}{H:Hp}{a:Addr}(h:xS K H a xs):iO K H a xs:=by
 rcases h with h|⟨o,bh,n,h1,h2,_,h3,h4,h5⟩
 .exact .inl (.inl h)
 .exact .inr #[o,bh,n,h1,h2,h3,h4,h5]
def Inv.b19{pi:@&(Addr×Obj)}{Z:St}{H:Hp}{s:Shared}{a:Addr}(I:Inv X pi Z H s)(h:xS X.K H a xs):s.TypeIs (.ref a) "tuple"/\∀b,Value.ref a=.ref b->∃ob,s.heap.get? b=!ob/\ob.dict=none:=by
 rcases h with h|⟨o,bh,n,h1,h2,h3,_⟩
 .let#[_,bh,_,o,e,c,_,d]:=(show k9 X.prog X.w H s.heap a (.tup xs) from I.bZ a _ h)
  exact#[#[o,e,c],λb q=>by cases q;exact#[o,e,d]]
 .exact#[#[o,I.gN a o h1,h2],λb q=>by cases q;exact#[o,I.gN a o h1,h3]]
abbrev bD0(K:PySem.W.Frag)(to:TE)(t:TA):TE:=λZ H Q=>to Z H λx H1=>(∃a xs,x=.ref a/\fZ K H1 a xs/\t Z H1 λys H2=>MQ K x ys H2 Q)\/(∃a xs,x=.ref a/\xS K H1 a xs/\t Z H1 λys H2=>MR K x ys H2 Q)
def Wx{o e:Expr}{es:@&Expr}{to:TE}{t:TA}{apos eP:Pos}(hu:X.A.units+100<cLine)(ho:PE X o to)(ha:PA X (e::es) t)(gL:attributeBase o "index" X.env (eval o X.env)=eval o X.env)(mf:((backTo eP (starEach (e :: es) X.env)).all (λx=>~~~x.1) && (backToKw eP (keywordEach [] X.env)).all (λx=>x.1.isSome)
   && decide ((e :: es).length + ([]:@&Keyword).length + (if ([]:@&Keyword).isEmpty then 0 else 1) < 30))=true)(gJ:(apos.endLine==eP.line)=true)(hs:starEach (e::es) X.env=(false,eval e X.env)::starEach es X.env)(fq:(backTo eP (starEach es X.env)).any (·.1)=false) :
  PE X (.Call (.Attribute o "index" apos) (e::es) [] eP) (bD0 X.K to t):=by
 intro pi s Z H Q I h;refine wpAny_Call_method_late gL mf gJ rfl (cI (ho pi s Z H _ I h) λv s1 bo=>?_);let#[x,H1,I1,r1,q1]:=bo;rcases q1 with⟨a,xs,rfl,hq,q1⟩|⟨a,xs,rfl,hq,q1⟩
 .cases r1;let#[bh,rv,pl,hz]:=I1.list hq;let pt:=pl.isList.typeIs;let#[ob,k,e1,_,e2,_]:=id pl;refine#["list","list.index",F.plainAttrs_list,F.slot_list_index,F.type_list_index,pt,λb q=>by cases q;exact#[ob,e1,e2],?_];let hA:=ha eP pi s1 Z H1 _ I1 q1;rw[hs] at hA ⊢;refine gk (by show(false||(backTo eP (starEach es X.env)).any (·.1))=false;rw[fq]<;>rfl) (gU ?_);exact cI hA (by rintro us s2 ⟨vs,H2,I2,r2,q2⟩;exact a70 hu pi s2 Z H2 (.ref a) vs (.ref a) us Q I2 rfl r2 q2)
 .cases r1;let#[pt,hd]:=I1.b19 hq;refine#["tuple","tuple.index",F.plainAttrs_tuple,F.slot_tuple_index,F.type_tuple_index,pt,hd,?_];let hA:=ha eP pi s1 Z H1 _ I1 q1;rw[hs] at hA ⊢;refine gk (by show(false||(backTo eP (starEach es X.env)).any (·.1))=false;rw[fq]<;>rfl) (gU ?_);exact cI hA (by rintro us s2 ⟨vs,H2,I2,r2,q2⟩;exact a69 pi s2 Z H2 (.ref a) vs (.ref a) us Q I2 rfl r2 q2)
abbrev YN(K:PySem.W.Frag):V->V->Hp->VK->Prop:=λx y H Q=>(∃i j,x=.int i/\y=.int j/\Q (.int (i+j)) H) \/
 ∃a b xs ys,x=.ref a/\y=.ref b/\iO K H a xs/\iO K H b ys/\-xs+-ys<=sizeLine/\(xs=[]->Q (.ref b) H)/\(ys=[]->Q (.ref a) H)/\(∀p,H p=none->Q (.ref p) (upd H p (.tup (xs++ys))))
def Mx:Dh X .Add (YN X.K):=by
 rintro pi s Z H x y u v Q I rx ry h;rcases h with h|⟨a,b,xs,ys,rfl,rfl,ha,hb,hz,q0,q1,q2⟩
 .exact ZP pi s Z H x y u v Q I rx ry h
 .cases rx;cases ry;let#[bh,r1,p1,_]:=I.tuple ha;let#[mZ,r2,p2,_]:=I.tuple hb;refine HT.VZ p1 p2 (λz=>#[.ref b,H,I,rfl,q0 (r1.U2.mp z)]) (λz=>#[.ref a,H,I,rfl,q1 (r2.U2.mp z)]) ?_ (by rw[<- -r1,<- -r2];exact hz);refine#[.ref s⁻¹,_,I.laid (t':=s.toks) (o:=.tup (xs++ys)) (λb ob q=>ao _ q) (aw _) ?_,rfl,q2 _ (I.bZ.fresh (aw _))];exact#[by rw[ba];exact hz,_,r1.append r2,L9.new _ _]
end
end L2
namespace ST
open PySem PyProof.Rows
variable{mask ep n:Nat}{h:Heap}{ks ms:@&Int}{es:Array (Int×Value)}{t:SetTable}{o:Obj}
def Tv{i p fuel:Nat}{owner:Array (Option Nat)}(h:owner.getD i (!0)=none):SetTable.layClean.free mask owner (fuel+1) i p=!i:=by
 unfold SetTable.layClean.free;let e:SetTable.runEnd mask i+1-i=(SetTable.runEnd mask i-i)+1:=by
  unfold SetTable.runEnd;split<;>omega
 rw[e,iZ,dX];rw[Nat.add_zero,h]
 rfl
abbrev Spot(k:Int):Prop:=0<=k/\k<8
structure Own(mask:Nat)(owner:Array (Option Nat))(pre:@&Int):Prop where
 sz:owner.size=mask+1
 fwd:∀(i:Nat) (k:Int),pre[i]?=!k->owner[k.toNat]?=!!i
 bwd:∀(j i:Nat),owner[j]?=!!i->pre[i]?=!(j:Int)
def MC{mask:Nat}(hm:7<=mask):∀(hs pre:@&Int) (owner:Array (Option Nat)),(pre++hs).Nodup->(∀k∈pre++hs,Spot k)->Own mask owner pre ->
  ∃ kx,Own mask kx (pre ++ hs)/\hs.foldl (λacc h=>do
   let (owner,k) <- acc
   let j <- SetTable.layClean.free mask owner (SetTable.turns mask) (SetTable.bits h % (mask+1)) (SetTable.bits h)
   pure (owner.setIfInBounds j (!k),k + 1)) (!(owner,(-pre)))=!(kx,(pre ++ hs).length)
 |[],pre,owner,_,_,o=>#[owner,by simpa using o,by simp]
 |h::hs,pre,owner,hn,hp,o=>by
  let#[h0,h8]:=hp h #[_];let eb:SetTable.bits h % (mask+1)=h.toNat:=by
   unfold SetTable.bits;rw[Int.emod_eq_of_lt h0 ()];exact Nat.mod_eq_of_lt ()
  let dI:h.toNat<owner.size:=by rw[o.sz];omega
  let mF:owner[h.toNat]?=!none:=by
   rw[dt dI];cases e:owner[h.toNat] with
   |none=>rfl
   |some i =>
    have:=o.bwd h.toNat i (by rw[dt dI,e]);rw[kr h0] at this;let hm:=aB this;rw[cA] at hn;exact absurd rfl (hn.2.2 h hm h #[_])
  let ef:SetTable.layClean.free mask owner (SetTable.turns mask) (SetTable.bits h % (mask+1)) (SetTable.bits h)=!h.toNat:=by
   rw[eb];exact Tv (fuel:=mask+14) (by rw[oP,mF];rfl)
  let o':Own mask (owner.setIfInBounds h.toNat (!(-pre))) (pre++[h]):=by
   refine#[by rw[Array.size_setIfInBounds];exact o.sz,λi k hi=>?_,λj i hj=>?_]
   .rw[List.getElem?_append] at hi;split at hi
    .let hk:=o.fwd i k hi
     grind
    .have:i- -pre=0:=by
      cases e:i- -pre with
      |zero=>rfl
      |succ n=>rw[e] at hi;simp at hi
     rw[this] at hi;cases hi;have:i=-pre:=by omega
     subst this;rw[jK dI]
   .by_cases e:h.toNat=j
    .subst e;rw[jK dI] at hj;cases hj;rw[kr h0];simp
    .rw[Array.getElem?_setIfInBounds_ne e] at hj;have:=o.bwd j i hj;rw[aH (av.mp this).1];exact this
  let#[kx,o2,e2]:=MC hm hs (pre++[h]) _ (by simpa using hn) (by simpa using hp) o';refine#[kx,by simpa using o2,?_]
  simp_all
def aY1{finger moves:Nat}{led plain:Bool}{hashes:Array Int}(hm:7<=mask)(hn:hashes.toList.Nodup)(hs:∀k∈hashes.toList,Spot k) :
  ∃t o,SetTable.laid mask finger moves led plain hashes=!(t,o)/\o.toList.Perm (List.range hashes.size)/\t.mask=mask/\t.place.size=hashes.size:=by
 let o0:Own mask (Array.replicate (mask + 1) none) []:=#[by simp,λi k h=>by simp at h,λj i h=>by
  rw[Array.getElem?_replicate] at h
  simp_all]
 let#[owner,o,e]:=MC hm hashes.toList [] _ (by simpa using hn) (by simpa using hs) o0;let el:SetTable.layClean mask hashes=!owner:=by
  unfold SetTable.layClean;rw[<- Array.foldl_toList];have:=e;simp only[List.length_nil] at this;rw[this]
  rfl
 let hP:((List.range (mask+1)).filterMap λj=>owner.getD j none).Perm (List.range hashes.size):=by
  let gd:∀j i,owner.getD j none=some i↔owner[j]?=!!i:=λj i=>by
   rw[oP];cases owner[j]? with
   |none=>simp
   |some x=>simp
  refine(bX ?_ mR).mpr λi=>?_
  .unfold List.Nodup;rw[List.pairwise_filterMap];refine List.Pairwise.imp ?_ ja;intro a b ki x hx y hy z;subst z;let h1:=o.bwd a x ((gd _ _).mp hx);let h2:=o.bwd b x ((gd _ _).mp hy);rw[h1] at h2
   grind
  .rw[fB,aR];constructor
   .rintro⟨j,_,hj⟩;have:=(av.mp (o.bwd j i ((gd _ _).mp hj))).1;simpa using this
   .intro hi;let hZ:i< -hashes.toList:=by simpa using hi
    let hg:=ag hZ;let hk:=hs _ (cj hZ);refine#[(hashes.toList[i]).toNat,aR.mpr ?_,(gd _ _).mpr (o.fwd i _ hg)];have:=hk.2;omega
 refine#[{ mask,place:=((List.filterMap (λj=>(owner.getD j none).map (j,·)) (List.range (mask+1))).map (·.1)).toArray,dummies:=(List.toArray []),finger,led,moves,plain },((List.filterMap (λj=>(owner.getD j none).map (j,·)) (List.range (mask+1))).map (·.2)).toArray,?_,?_,rfl,?_]
 .unfold SetTable.laid;rw[el]
  rfl
 .rw[GL,Pa];have:(λj=>Option.map (λx:Nat×Nat=>x.2) (Option.map (λx=>(j,x)) (owner.getD j none)))=λj=>owner.getD j none:=by
   funext j
   cases owner.getD j none<;>rfl
  rw[this];exact hP
 .rw[aQ,au];have:=hP.length_eq;rw[iz] at this;rw[<- this];let e3:(List.range (mask+1)).filterMap (λj=>owner.getD j none)=(List.filterMap (λj=>(owner.getD j none).map (j,·)) (List.range (mask+1))).map (·.2):=by
   rw[Pa]
   congr 1
   funext j
   cases owner.getD j none<;>rfl
  rw[e3,au]
section
variable{prog:Program}{w:World}{A:Around}{E:Value->Shared->Prop}{s:Shared}{a:Addr}
abbrev qa(prog:Program)(w:World)(h:Heap)(a:Addr)(ks:@&Int):Prop :=
 ∃o es ep t,h.get? a=!o/\o.ExactSet/\o.data=.set es ep t/\ElemsOf (intKind prog w) es.toList/\(es.toList.map λe=>toI e.2).Perm ks/\ks.Nodup/\es.size<scanBound/\t.fits es.size=true/\Well (Led w) t/\(ks=[]->7<=t.mask)
def qa.toW(x:qa prog w h a ks):j5 prog w h a ks:=by
 let#[o,es,ep,t,h1,h2,h3,h4,h5,h6,h7,h8,h9,_]:=x;exact#[o,es,ep,t,h1,h2,h3,h4,h5,h6,h7,h8,h9]
def j5.toV(x:j5 prog w h a ks)(hn:ks≠[]):qa prog w h a ks:=by
 let#[o,es,ep,t,h1,h2,h3,h4,h5,h6,h7,h8,h9]:=x;exact#[o,es,ep,t,h1,h2,h3,h4,h5,h6,h7,h8,h9,λz=>absurd z hn]
def j5.same{us:@&Int}(x:j5 prog w h a ks)(hp:ks.Perm us):j5 prog w h a us:=by
 let#[o,es,ep,t,h1,h2,h3,h4,h5,h6,h7]:=x;exact#[o,es,ep,t,h1,h2,h3,h4,h5.trans hp,hp.nodup_iff.mp h6,h7]
def a87{k:Int}(h:Spot k):(intKind prog w).hash k=k:=by
 let#[h0,h8]:=h;change hashInt k=k;have:k=0\/k=1\/k=2\/k=3\/k=4\/k=5\/k=6\/k=7:=by omega
 rcases this with rfl|rfl|rfl|rfl|rfl|rfl|rfl|rfl<;>decide +kernel
def aI9(jk:ElemsOf (intKind prog w) es.toList)(hp:(es.toList.map λe=>toI e.2).Perm ks)(hs:∀k∈ks,Spot k):(es.map (·.1)).toList=es.toList.map λe=>toI e.2:=by
 rw[Array.toList_map];refine gF λe he=>?_;let#[tk,h1,h2]:=xJ jk he;rw[h2];exact a87 (hs _ (hp.mem_iff.mp (aL.mpr #[e,he,rfl])))
def MB{finger moves:Nat}{led plain:Bool}(hm:7<=mask)(hsz:es.size<=mask)(hl:led=Led w)(jk:ElemsOf (intKind prog w) es.toList)(hp:(es.toList.map λe=>toI e.2).Perm ks)(hn:ks.Nodup)(hs:∀k∈ks,Spot k) :
  ∃t o,SetTable.laid mask finger moves led plain (es.map (·.1))=!(t,o)/\(o.filterMap (es[·]?)).toList.Perm es.toList/\(o.filterMap (es[·]?)).size=es.size/\t.mask=mask/\t.fits es.size=true/\Well (Led w) t:=by
 let eh:=aI9 jk hp hs;let#[t,o,e,hP,h1,h2]:=aY1 (finger:=finger) (moves:=moves) (led:=led) (plain:=plain) (hashes:=es.map (·.1)) hm (by rw[eh];exact hp.nodup_iff.mpr hn) (by rw[eh];exact λk hk=>hs k (hp.mem_iff.mp hk));rw[Array.size_map] at hP h2;let e2:(o.filterMap (es[·]?)).toList.Perm es.toList:=by
  rw[Array.toList_filterMap];refine(hP.filterMap _).trans ?_;have:(List.range es.size).filterMap (es[·]?)=es.toList:=by
   let gen:∀(l:@&(Int×Value)),(List.range (-l)).filterMap (λi=>l[i]?)=l:=λl=>by
    induction l with
    |nil=>rfl
    |cons x r ih =>
     rw[List.length_cons,iZ,dH];simp only[List.getElem?_cons_zero,List.filterMap_map]
     congr 1
   have:=gen es.toList
   simp_all
  rw[this]
 let hw:=Kw hl e;refine#[t,o,e,e2,by rw[<- cz,e2.length_eq,cz],h1,?_,hw];unfold SetTable.fits SetTable.fill;rw[hw.sD,h2,h1];simp;exact hsz
def JG{o:Array Nat}(hsz:(o.filterMap (es[·]?)).size=es.size){Q:Array (Int×Value)×SetTable->Shared->Prop}(h:Q (o.filterMap (es[·]?),t) s):wpAny (model prog w) A (do
  let some (t,order):=(some (t,o):Option (SetTable×Array Nat))|unsupported "internal:set-table-without-room"
  let mK:=order.filterMap (es[·]?)
  if mK.size != es.size then unsupported "internal:set-table-lost-an-element"
  pure (mK,t)) Q E s:=by
 dsimp only;rw[az (by rw[hsz];simp)];exact ak h
def zL{mK:Array (Int×Value)}{t':SetTable}(ho:h.get? a=!o)(hd:o.data=.set es ep t):(h.update a (Obj.putSet mK t')).get? a=some { o with data:=.set mK (ep+1) t' }:=by
 have:=bu (Obj.putSet mK t') ho (by rw[putSet_of mK t' hd];rfl);rw[putSet_of mK t' hd] at this;exact this
def above:∀n,n<300->7<SetTable.sizeAbove n/\n<SetTable.sizeAbove n/\SetTable.sizeAbove n<=sizeLine:=by decide +kernel
def UL{Q:Unit->Shared->Prop}(hS:j5 prog w s.heap a ks)(hs:∀k∈ks,Spot k)(hn:n<300)(hkn:-ks<=n)(h:∀h',Heap.SameBut a s.heap h'->(∃o es ep t,h'.get? a=!o/\o.ExactSet/\o.data=.set es ep t/\ElemsOf (intKind prog w) es.toList/\(es.toList.map λe=>toI e.2).Perm ks/\ks.Nodup/\es.size<scanBound/\t.fits es.size=true/\Well (Led w) t/\t.mask=SetTable.sizeAbove n-1)->Q Unit.unit { s with heap:=h' }):wpAny (model prog w) A (setRelay a n) Q E s:=by
 let#[o,es,ep,t,ho,hx,hd,jk,hp,oT,hb,hf,hw]:=hS;let#[a1,a2,a3]:=above n hn;let hsz:es.size=-ks:=by rw[<- hp.length_eq];simp
 refine aa (bc ho hd hf ?_);dsimp only;rw[az ()];let#[t2,od,e1,e2,e3,e4,e5,e6]:=MB (w:=w) (finger:=t.finger) (moves:=t.movedTo (SetTable.sizeAbove n-1)) (led:=t.led) (plain:=t.plain) (mask:=SetTable.sizeAbove n-1) () () hw.led jk hp oT hs;unfold SetTable.relaid;rw[e1];refine aa (JG e3 ?_);dsimp only;refine eX ho hd (h _ (bq s.heap a _) #[_,_,_,_,zL ho hd,hx,rfl,jk.perm e2,(e2.map _).trans hp,oT,by omega,by rw[e3];exact e5,e6,e4]) (eY ())
def bH3{Q:Unit->Shared->Prop}(hS:qa prog w s.heap a ks)(hs:∀k∈ks,Spot k)(hn:-ks+n<100)(h:∀h',Heap.SameBut a s.heap h'->(∃o es ep t,h'.get? a=!o/\o.ExactSet/\o.data=.set es ep t/\ElemsOf (intKind prog w) es.toList/\(es.toList.map λe=>toI e.2).Perm ks/\ks.Nodup/\es.size<scanBound/\t.fits es.size=true/\Well (Led w) t/\(ks=[]->7<=t.mask)/\(ks=[]->n<=t.mask))->Q Unit.unit { s with heap:=h' }):wpAny (model prog w) A (setRoomFor a n) Q E s:=by
 let#[o,es,ep,t,ho,hx,hd,jk,hp,oT,hb,hf,hw,hm]:=id hS;let hsz:es.size=-ks:=by rw[<- hp.length_eq];simp
 let gy:t.place.size=es.size:=by
  simp only[SetTable.fits,Bool.and_eq_true,beq_iff_eq] at hf;exact hf.1
 refine aa (bc ho hd hf ?_);by_cases c:(t.fill+n)*5>=t.mask*3
 .let e:t.roomFor n=!((t.place.size+n)*2):=by unfold SetTable.roomFor;rw[ay c]
  rw[e];refine UL hS.toW hs () () λh' hk kA=>h h' hk ?_;let#[o,es,ep,t',ho,hx,hd,jk,hp,oT,hb,hf,hw,hm]:=kA;let#[a1,a2,a3]:=above ((t.place.size+n)*2) ();exact#[o,es,ep,t',ho,hx,hd,jk,hp,oT,hb,hf,hw,λx=>by omega,λx=>by omega]
 .let e:t.roomFor n=none:=by unfold SetTable.roomFor;rw[az c]
  rw[e];exact ak (h s.heap (jr a s.heap) #[o,es,ep,t,ho,hx,hd,jk,hp,oT,hb,hf,hw,hm,λx=>by omega])
def bA9{Q:Array (Int×Value)->Shared->Prop}(ho:s.heap.get? a=!o)(hd:o.data=.set es ep t)(hf:t.fits es.size=true)(hw:Well (Led w) t)(h:∀l d',l.toList.Perm es.toList->Q l { s with drawn:=d' }):wpAny (model prog w) A (setWalk a) Q E s:=by
 refine aa (bc ho hd hf ?_);refine aa (W7 ?_);cases hb:w.params.followText "set-order" with
 |true =>
  exact aa (jR (ak (h _ s.drawn (zV _ es))))
 |false =>
  rw[az ∅];let hl:t.led=true:=by rw[hw.led];unfold Led;rw[hb];rfl
  split
  .refine aa (EU _ _ _ _ #[_] λys d hp=>ak (h _ d (by simpa using hp)))
  .refine aa (m:=(do if(~~~t.led&&decide (es.size>1))=true then unsupported "set:maker-not-led")) ?_;rw[hl];exact ak (ak (h es s.drawn (jV _)))
def UJ{l:@&Addr}{Q:Bool->Shared->Prop}(hl:∀a∈l,∃o es ep t,s.heap.get? a=!o/\o.data=.set es ep t/\t.fits es.size=true/\ElemsOf (intKind prog w) es.toList)(h:Q true s):wpAny (model prog w) A (setsQuiet l) Q E s:=by
 refine aa (wpAny_forIn_list _ (λrest b s'=>b=(none,PUnit.unit)/\s'=s/\∀a∈rest,a∈l) _ (λx rest b s' p=>?_) (λb s' p=>?_) _ _ #[rfl,rfl,λv z=>z])
 .let#[rfl,rfl,hm]:=p;let#[o,es,ep,t,ho,hd,hf,jk]:=hl x (hm x #[_]);refine aa (aa (bc ho hd hf (ak ?_)));refine aa (wpAny_forIn_array' _ (λrest b s2=>b=(none,PUnit.unit)/\s2=s'/\∀e∈rest,e∈es.toList) _ (λy Hl b s2 p=>?_) (λb s2 p=>?_) _ _ #[rfl,rfl,λv z=>z])
  .let#[rfl,rfl,pK]:=p;let#[tk,e1,_]:=xJ jk (pK y #[_]);dsimp only;rw[e1];exact ak #[rfl,rfl,λe z=>pK e (by simp[z])]
  .let#[rfl,rfl,_]:=p;exact ak #[rfl,rfl,λe z=>hm e (by simp[z])]
 .let#[rfl,rfl,_]:=p;exact ak h
def Vv{r:Addr}{ms:@&Int}{Q:Array (Int×Value)->Shared->Prop}(ho:s.heap.get? a=!o)(hd:o.data=.set es ep t)(hf:t.fits es.size=true)(hw:Well (Led w) t)(jk:ElemsOf (intKind prog w) es.toList)(hR:j5 prog w s.heap r ks)(h:∀l h' d',l.toList.Perm es.toList->Heap.SameBut r s.heap h'->j5 prog w h' r ks->Q l { s with heap:=h',drawn:=d' }):wpAny (model prog w) A (setWalkUnseen a [r] (!r)) Q E s:=by
 let#[o',mK,zg,t',lx,tN,rS,wx,jY,vY,lz,BP,Bp]:=id hR;let wk:wpAny (model prog w) A (setWalk a) Q E s:=bA9 ho hd hf hw λl d' hp=>h l s.heap d' hp (jr r s.heap) hR;refine aa (bc ho hd hf ?_);refine aa (W7 ?_);split
 .exact wk
 .refine aa (UJ (λb hb=>?_) ?_)
  .simp only[List.mem_cons,List.mem_nil_iff,or_false] at hb;rcases hb with rfl|rfl
   .exact#[_,_,_,_,ho,hd,hf,jk]
   .exact#[_,_,_,_,lx,rS,BP,wx]
  .refine aa (fR ?_);refine aa (bc lx rS BP ?_);dsimp only;split
   .refine aa (eX lx rS ?_ (eY lz));refine ak (h es _ s.drawn (jV _) (bq s.heap r _) #[_,_,_,_,zL lx rS,tN,rfl,wx,jY,vY,lz,BP,#[Bp.tG,Bp.sD,?_]]);show(t'.led&&t.led)=_;rw[Bp.led,hw.led,Bool.and_self]
   .exact ak (h es s.heap s.drawn (jV _) (jr r s.heap) hR)
def NJ(hp:(es.toList.map λe=>toI e.2).Perm ks):es.size=-ks:=by rw[<- hp.length_eq];simp
def aY8(hf:t.fits n=true):t.place.size=n:=by
 simp only[SetTable.fits,Bool.and_eq_true,beq_iff_eq] at hf;exact hf.1
def MI{r o:Addr}{each:Sem Unit}{Q:Unit->Shared->Prop}(hR:qa prog w s.heap r ks)(hO:j5 prog w s.heap o ms)(dD:r≠o)(tV:∀k∈ks,Spot k)(mB:∀k∈ms,Spot k)(hl:-ks+-ms<100)(Ra:∀(s':Shared) (Q':Unit->Shared->Prop),s'.heap.get? o=s.heap.get? o->Q' Unit.unit s'->wpAny (model prog w) A each Q' E s')(h:∀h' d' us,(∀b o',b≠r->s.heap.get? b=!o'->h'.get? b=!o')->qa prog w h' r us->us.Nodup->(∀k,k∈us↔k∈ks\/k∈ms)->Q Unit.unit { s with heap:=h',drawn:=d' }):wpAny (model prog w) A (setMerge r o each) Q E s:=by
 let#[oo,eo,epo,to,tT,hox,Bv,ot,pJ,vV,HM,yP,how]:=id hO;let hsz:=NJ pJ;let oT:ks.Nodup:=let ⟨_,_,_,_,_,_,_,_,_,z,_⟩:=hR;z
 unfold setMerge;rw[az (by simpa using dD)];refine aa (bc tT Bv yP ?_);dsimp only;by_cases he:eo.size=0
 .rw[ay (by simpa[Array.isEmpty] using he)];let HP:ms=[]:=cX ();exact ak (h s.heap s.drawn ks (λb o' y e=>e) hR oT λk=>by rw[HP];simp)
 rw[az (by simpa[Array.isEmpty] using he)];let vZ:ms≠[]:=λz=>he (by rw[hsz,z];rfl);refine aa (bH3 hR tV () λh1 qy RB=>?_);let#[or',es,ep,ts,tS,hx,hd,jk,hp,_,hb,hf,hw,QK,BA]:=id RB;let QQ:h1.get? o=!oo:=by rw[<- tT];exact qy.2 o (bI dD)
 let BG:∀b o',b≠r->s.heap.get? b=!o'->h1.get? b=!o':=λb o' hb e=>by rw[<- e];exact qy.2 b hb
 refine aa (bc (s:={ s with heap:=h1 }) tS hd hf ?_);let Ib:ts.fill=-ks:=by
  unfold SetTable.fill;rw[hw.sD,aY8 hf,NJ hp]
  rfl
 let wb:(ts.led&&to.led)=Led w:=by rw[hw.led,how.led,Bool.and_self]
 by_cases HS:ks=[]
 .subst HS;let vT:ts.road to=.slotForSlot\/ts.road to=.clean:=by
   unfold SetTable.road;rw[az (by simp_all)];split
   .exact .inl rfl
   .exact .inr rfl
  rcases vT with hr|hr
  .rw[hr];refine eX (s:={ s with heap:=h1 }) tS hd (h _ s.drawn ms (λb o' hb e=>?_) #[_,_,_,_,zL tS hd,hx,rfl,ot,pJ,vV,HM,yP,#[how.tG,how.sD,wb],λz=>absurd z vZ] vV λk=>by simp) (eY HM);rw[<- BG b o' hb e];exact(bq h1 r _).2 b hb
  .rw[hr];let#[t2,od,e1,e2,e3,e4,e5,e6]:=MB (w:=w) (finger:=ts.finger) (moves:=ts.moves) (led:=ts.led&&to.led) (plain:=ts.plain&&to.plain) (mask:=ts.mask) (QK rfl) (BA rfl) wb ot pJ vV mB;rw[e1];refine aa (JG e3 ?_);dsimp only;refine eX (s:={ s with heap:=h1 }) tS hd (h _ s.drawn ms (λb o' hb e=>?_) #[_,_,_,_,zL tS hd,hx,rfl,ot.perm e2,(e2.map _).trans pJ,vV,by omega,by rw[e3];exact e5,e6,λz=>absurd z vZ] vV λk=>by simp) (eY ());rw[<- BG b o' hb e];exact(bq h1 r _).2 b hb
 .let hr:ts.road to=.oneByOne:=by
   unfold SetTable.road
   simp_all
  rw[hr];let Ry:j5 prog w h1 r ks:=#[or',es,ep,ts,tS,hx,hd,jk,hp,oT,hb,hf,hw]
  refine aa (Vv (s:={ s with heap:=h1 }) (ms:=ms) QQ Bv yP how ot Ry λl h2 d2 BB wj RA=>?_);refine aa (wpAny_forIn_array' _ (λrest b s'=>∃us h',s'={ s with heap:=h',drawn:=d2 }/\us.Nodup/\us≠[]/\-us+-rest<1000/\j5 prog w h' r us/\(∀b o',b≠r->s.heap.get? b=!o'->h'.get? b=!o')/\(∀k,(k∈us\/k∈rest.map λe=>toI e.2)↔(k∈ks\/k∈ms))/\∀e∈rest,e∈eo.toList) _ (λx rest b s' p=>?_) (λb s' p=>?_) _ _ #[ks,h2,rfl,oT,HS,?_,RA,λb o' hb e=>?_,λk=>?_,λe he=>BB.mem_iff.mp he])
  .let#[us,h',rfl,Br,rJ,Bs,Cc,mD,jj,om]:=p;let#[x1,x2]:=x;let#[tk,e1,e2]:=xJ ot (om (x1,x2) #[_]);generalize toI x2=k at e1 e2;subst e1;subst e2;refine aa (bD (Gq (s:={ s with heap:=h',drawn:=d2 }) Cc (by simp at Bs;exact cU () (show 1000<scanBound by decide)) λh3 b3 HR yZ=>?_));let HN:h3.get? o=!oo:=by
    rw[HR.2 o (bI dD)];exact mD o oo (bI dD) tT
   refine aa (Ra _ _ (by rw[tT];exact HN) ?_);refine aa (bc (s:={ s with heap:=h3,drawn:=d2 }) HN Bv yP ?_);rw[az #[_]];refine ak #[F4 us k,h3,rfl,?_,?_,?_,yZ,λb o' hb e=>?_,λj=>?_,λe he=>om e (by simp[he])]
   .exact M7 [k] us Br
   .unfold F4;split
    .exact rJ
    .simp
   .have:=Ni us k
    grind
   .rw[HR.2 b hb];exact mD b o' hb e
   .rw[<- jj j];have:=E1 [k] us j;simp only[f9,List.foldl_cons,List.foldl_nil] at this;rw[this];simp[toI,or_assoc]
  .let#[us,h',rfl,Br,rJ,Bs,Cc,mD,jj,om]:=p;exact ak (h h' d2 us mD (Cc.toV rJ) Br λk=>by rw[<- jj k];simp)
  .let e1:=BB.length_eq
   grind
  .rw[wj.2 b hb];exact BG b o' hb e
  .rw[(BB.map _).mem_iff,pJ.mem_iff]
def VE(hT:s.TypeIs (.ref a) "set"){Q:Value->Shared->Prop}(h:Q (.type "set") s):wpAny (model prog w) A (Builtin.Frozenset.baseOf a) Q E s:=by
 refine aa (dn (b:=true) hT (by rfl) ?_);exact ak h
def DG(hT:s.TypeIs (.ref a) "set"){Q:Bool->Shared->Prop}(h:Q true s):wpAny (model prog w) A (Builtin.Frozenset.isAnySet (.ref a)) Q E s:=by
 refine aa (dn (b:=true) hT (by rfl) ?_);exact ak h
def Gb(x:j5 prog w h a ks):∃o,h.get? a=!o/\o.cls=.type "set":=by
 let#[o,_,_,_,e,hx,_]:=x;exact#[o,e,hx.1]
def aZ0:entryFor table "set.__or__"=some Builtin.«frozenset.__or__»:=Ar (id':="frozenset.__or__") (by kernel_rfl) rfl #[] (by kernel_rfl)
def ZF{Q:Value->Shared->Prop}(hA:j5 prog w s.heap a ks)(tV:∀k∈ks,Spot k)(hl:-ks<100)(h:∀h' d' us,(∀c o',s.heap.get? c=!o'->h'.get? c=!o')->qa prog w h' s⁻¹ us->us.Nodup->(∀k,k∈us↔k∈ks)->Q (.ref s⁻¹) { s with heap:=h',drawn:=d' }):wpAny (model prog w) A (Builtin.Frozenset.copyOf a) Q E s:=by
 let#[oa,ea,ca]:=Gb hA;let la:=aC ea;unfold Builtin.Frozenset.copyOf;refine aa (VE #[oa,ea,ca] ?_);refine aa (DT ?_);refine aa (m:=Builtin.Frozenset.addrOf (.ref s⁻¹)) (ak ?_);let hE:(s.heap.push (u6 w)).get? s⁻¹=!u6 w:=aE _ rfl;let#[o,es,ep,t,h1,h2,h3,h4,h5,h6,h7,h8,h9]:=Ey (prog:=prog) hE;let hV:qa prog w (s.heap.push (u6 w)) s⁻¹ []:=#[_,(List.toArray []),0,.fresh 0 0 (Led w),hE,#[rfl,rfl,rfl],rfl,by simp[ElemsOf],by simp,by simp,by decide,rfl,Lf,λx=>aw 7]
 refine aa (MI (s:={ s with heap:=s.heap.push (u6 w) }) (each:=pure Unit.unit) hV (hA.at λo e=>ao _ e) (cE la) (λk hk=>by simp at hk) tV (by simpa using hl) (λs' Q' x q=>ak q) λh' d' us hk hS hn hm=>?_);exact ak (h h' d' us (λc o' e=>hk c o' (aK (aC e)) (ao _ e)) hS hn λk=>by rw[hm k];simp)
def b53{b:Addr}{Q:Value->Shared->Prop}(hA:j5 prog w s.heap a ks)(hB:j5 prog w s.heap b ms)(ki:a≠b)(tV:∀k∈ks,Spot k)(mB:∀k∈ms,Spot k)(hl:-ks+-ms<90)(h:∀h' d' us,(∀c o',s.heap.get? c=!o'->h'.get? c=!o')->j5 prog w h' s⁻¹ us->us.Nodup->(∀k,k∈us↔k∈ks\/k∈ms)->Q (.ref s⁻¹) { s with heap:=h',drawn:=d' }):wpAny (model prog w) A (binaryOp .BitOr (.ref a) (.ref b)) Q E s:=by
 let#[oa,ea,ca]:=Gb hA;let#[ob,eb,cb]:=Gb hB;let Cf:s.TypeIs (.ref a) "set":=#[oa,ea,ca]
 let Iq:s.TypeIs (.ref b) "set":=#[ob,eb,cb]
 let la:=aC ea;let lb:=aC eb;refine wpAny_binaryOp_same (op:=.BitOr) Cf Iq F.fills_set_or F.slot_set_or (cJ F.slot_set_or Cf aZ0 ?_ (F.args_set_or_2 _ _));refine aa (m:=Builtin.Frozenset.slot1 "__or__" #[[.ref a,.ref b],[]]) (dM (a:=(.ref a,.ref b)) rfl ?_);dsimp only;refine aa (aa (DG Cf ?_));refine DG Iq ?_;refine aa (m:=Builtin.Frozenset.addrOf (.ref a)) (ak ?_);let hU:∀(us:@&Int) (h':Heap),qa prog w h' s⁻¹ us->(∀k∈us,Spot k)->us.Nodup->-us<=8:=λus h' x hs hn=>by
  have:us.Sublist us:=List.Sublist.refl _;let hp:us.Perm ((List.range 8).map (λ(n:Nat)=>(n:Int)) |>.filter (·∈us)):=by
   refine(bX hn ?_).mpr λk=>?_
   .exact Pb gG ∅
   .rw[bt];constructor
    .intro hk;refine#[?_,by simpa using hk];let#[h0,h8]:=hs k hk;rw[aL];exact#[k.toNat,aR.mpr (),by omega]
    .rintro⟨_,hk⟩;simpa using hk
  rw[hp.length_eq];exact aG (dk _ _) ∅
 refine aa (aa (ZF hA tV () λh1 d1 us qy za yS ou=>?_));let HF:∀k∈us,Spot k:=λk hk=>tV k ((ou k).mp hk);let Bs:=hU us h1 za HF yS;dsimp only;rw[ay (by simp[Ne.symm ki])];let Ce:Shared.TypeIs { s with heap:=h1,drawn:=d1 } (.ref b) "set":=#[ob,qy b ob eb,cb]
 refine aa (m:=Builtin.Frozenset.addrOf (.ref s⁻¹)) (ak ?_);refine aa (bD ?_);unfold Builtin.Frozenset.updateFrom;refine aa (DG Ce ?_);rw[ay rfl];refine aa (m:=Builtin.Frozenset.addrOf (.ref b)) (ak ?_);unfold Builtin.Frozenset.merge;let IF:j5 prog w h1 b ms:=hB.at (qy b);let#[o,es,ep,t,ho,hx,hd,jk,hp,hn,hb,hf,hw]:=id IF;let Ie:∀(s':Shared) (Q':Nat->Shared->Prop),s'.heap.get? b=!o->Q' ep s'->wpAny (model prog w) A.in1 (setEpoch b) Q' E s':=λs' Q' e q=>by
  unfold setEpoch;exact aa (bc e hd hf (ak q))
 refine aa (Ie _ _ ho ?_);refine MI (s:={ s with heap:=h1,drawn:=d1 }) za IF (cE lb) HF mB () (λs' Q' e q=>?_) λh2 d2 vs wj oV nK pK=>?_
 .unfold Builtin.Frozenset.unchanged;refine aa (Ie _ _ (e.trans ho) ?_);rw[az #[_]];exact ak q
 .refine ak (ak #[_,rfl,by simp,?_]);exact h h2 d2 vs (λc o' e=>wj c o' (aK (aC e)) (qy c o' e)) oV.toW nK λk=>by rw[pK k,ou k]
end
end ST
namespace L2
open PySem PySem.Spec PyProof.Rows
variable{X:Cx}
def a62:gf X (binaryOp .BitOr) (λx y H Q=>∃a b ns ms,x=.ref a/\y=.ref b/\a≠b/\H a=!P1 X a (ST.f9 [] ns)/\H b=!P1 X b (ST.f9 [] ms)/\(∀k∈ns,ST.Spot k)/\(∀k∈ms,ST.Spot k)/\-ns+-ms<50 /\
  ∀ p,H p=none->Q (.ref p) (upd H p (P1 X p (ST.f9 [] (ns ++ ms))))):=by
 intro pi s Z H x y v u Q I rx ry h;let#[a,b,ns,ms,rfl,rfl,ki,ha,hb,nh,mB,hl,q]:=h;cases rx;cases ry;let hA:ST.j5 X.prog X.w s.heap a (ST.f9 [] ns):=(I.bZ a _ ha).1;let hB:ST.j5 X.prog X.w s.heap b (ST.f9 [] ms):=(I.bZ b _ hb).1;let l1:=ST.F8 ns [];let l2:=ST.F8 ms [];let m1:=ST.E1 ns [];let m2:=ST.E1 ms [];refine ST.b53 hA hB ki (λk hk=>nh k (by simpa using(m1 k).mp hk)) (λk hk=>mB k (by simpa using(m2 k).mp hk)) (by simp at l1 l2;omega) λh' d' us hk hS hn hm=>?_;let kA:ST.j5 X.prog X.w h' s⁻¹ (ST.f9 [] (ns ++ ms)):=hS.same ((bX hn (ST.M7 _ _ #[_])).mpr λk=>by
  rw[hm k,m1 k,m2 k,ST.E1];simp)
 exact#[.ref _,_,(I.laid (a:=s⁻¹) (t':=s.toks) hk (aw _) (zM kA)).draw d',rfl,q _ (I.bZ.fresh (aw _))]
end L2
namespace ST
open PySem PyProof.Rows
end ST
namespace L2
open PySem PySem.Spec PyProof.Rows
variable{X:Cx}
def LB{bh:@&Value}{ns:@&Int}(hi:IntsAre bh ns):∃xs,bh.toArray=intItems xs/\ns=xs.toList.map (·.1):=by
 let#[xs,e]:=hi.allInts.items;exact#[xs,e,by rw[<- hi.numsOf,<- nums_intItems,<- e]]
def a98(hc:X.calm=true):m9 X (.builtin "sum") (λxs H Q=>∃a,∃ns:@&Int,xs=[.ref a]/\fZ X.K H a (ns.map V.int)/\Q (.int ns.sum) H):=by
 intro pi s Z H xs us Q I r h;let#[a,ns,rfl,ha,q]:=h;let#[u,rfl,ru]:=vals1 r;cases ru;let#[bh,rv,p,hz]:=I.list ha;let#[xs,e,en]:=LB (O5 rv);refine sum_intListG (xs:=xs) (I.ok.hd hc) (by rw[<- e];exact p.isList) λh' tk t' k=>#[.int ns.sum,H,I.kept k,#[t',?_],q]
 rw[preSum_eq,dU #[_],en]
def XH(hc:X.calm=true):m9 X (.builtin "max") (λxs H Q=>∃a,∃(ns:@&Int) (M:Int),xs=[.ref a]/\fZ X.K H a (ns.map V.int)/\M∈ns/\(∀x∈ns,x<=M)/\Q (.int M) H):=by
 intro pi s Z H xs us Q I r h;let#[a,ns,M,rfl,ha,hm,hM,q]:=h;let#[u,rfl,ru]:=vals1 r;cases ru;let#[bh,rv,p,hz]:=I.list ha;let#[xs,e,en]:=LB (O5 rv);let hsz:0<xs.size:=by
  have:=jb hm
  simp_all
 refine max_intList (xs:=xs) (I.ok.hd hc) (by rw[<- e];exact p.isList) hsz λv h' tk hv k=>?_;let#[t,rfl]:=intItems_at hv;let#[h1,h2]:=argBest_gt (numAt xs) (xs.size-1);generalize argBest (λi j=>decide (numAt xs i>numAt xs j)) (xs.size-1)=j0 at *;let m1:numAt xs j0∈ns:=by rw[en,numAt_eq];exact getD_mem (by rw[au,cz];omega)
 let m2:M<=numAt xs j0:=by
  rw[en] at hm;let#[j,hj,rfl]:=mem_getD hm;rw[au,cz] at hj;rw[<- numAt_eq];exact h2 j ()
 let e2:numAt xs j0=M:=Int.le_antisymm (hM _ m1) m2;exact#[.int M,H,I.kept k,#[t,by rw[e2]],q]
def XF(hc:X.calm=true):m9 X (.builtin "all") (λxs H Q=>∃(a:Addr) (ns:@&Int),xs=[.ref a]/\fZ X.K H a (ns.map V.int)/\Q (.bl (ns.all λn=>n != 0)) H):=by
 intro pi s Z H xs us Q I r h;let#[a,ns,rfl,ha,q]:=h;let#[u,rfl,ru]:=vals1 r;cases ru;let#[bh,rv,p,hz]:=I.list ha;refine call_all_walk ?_;refine gg p.isList ?_;let dD:a≠s⁻¹:=by
  let#[o,e,_]:=id p.isList;exact aK (aC e)
 let hl:=-rv;rw[au] at hl;refine#[s⁻¹,_,_,_,_,_,λi=>ns.getD i 1 != 0,rfl,As (A:=X.A.in1) (I.ok.hd hc) _ a dD bh.toArray,#[#[_,aE _ rfl,rfl,rfl],?_],?_,λh' tk k=>?_]
 .let#[o,e,q1]:=id p.isList;exact#[o,ao _ e,q1]
 .intro i v s' Q' E' hP hQ;let hv:bh[i]?=!v:=by simpa using hP
  let hi:i< -ns:=by rw[hl];exact(av.mp hv).1
  let#[u',vR,AO]:=rv.get (i:=i) (x:=V.int ns[i]) (by rw[aj,ag hi];rfl);rw[hv] at vR;cases vR;let#[t,rfl]:=AO;refine truthy_int ?_;have:ns.getD i 1=ns[i]:=by simp[List.getD,hi]
  dsimp only at hQ;rw[this] at hQ;exact hQ
 .let e1:(List.range bh.toArray.size).all (λi=>ns.getD i 1 != 0)=ns.all λn=>n != 0:=by
   rw[aQ,<- hl];rw[aZ];simp only[List.all_eq_true,List.mem_range];constructor
   .intro hh x hx;let#[i,hi,rfl]:=bK.mp hx;have:=hh i hi;simpa[List.getD,hi] using this
   .intro hh i hi;have:=hh ns[i] (cj hi);simpa[List.getD,hi] using this
  rw[e1];exact #[.bl _,H,I.kept (t':=tk) λb o e=>k b o (by
   intro hb;have:b=s⁻¹:=by simpa using hb
   exact absurd (aC e) (by rw [this];exact cg _)) (ao _ e),rfl,q]
def aC2:m9 X (.builtin "len") (λxs H Q=>∃a,∃ks:@&Int,xs=[.ref a]/\H a=!P1 X a ks/\Q (.int (-ks)) H):=by
 intro pi s Z H xs us Q I r h;let#[a,ks,rfl,ha,q]:=h;let#[u,rfl,ru]:=vals1 r;cases ru;let hS:ST.j5 X.prog X.w s.heap a ks:=(I.bZ a _ ha).1;let#[o,es,ep,t,e,ex,ed,_,hp,nd,hz,hf,_]:=hS;let hl:es.size=-ks:=by have:=hp.length_eq;simpa using this
 refine call_len_set e ex ed hf (by have:scanBound<2 ^ 62:=∅;omega) #[.int (-ks),H,I.tok _,#[_,by rw[hl]],q]
def Uv{i:Int}{j:Nat}{p pos:Pos}(ow:PySem.W.kdsCode X.K X.env.code=true):PE X (.Set [.Constant (.int i) j p] 0 pos) (λZ H Q=>∀q,H q=none->Q (.ref q) (upd H q (.set (λk=>decide (k=i)) 1))):=by
 intro pi s Z H Q I h;refine aa (fL ?_);refine aa (PySem.W.kds_main I.gN ow λb=>?_);refine PySem.W.kds_core (ts:=(evalEach [Expr.Constant (.int i) j p] X.env).map λt=>do let v <- t;standAt pos;pure v) (by rfl) (by rfl) (by change 1<=30;decide) (by rfl) λled=>?_;refine PySem.W.kds_all pos _ _ _ ?_;refine wpAny_Constant_int ?_;refine PySem.W.kds_fill_cons ?_;let Rx:(s.heap.push { cls:=.type "set",dict:=none,data:=.set (List.toArray []) 0 (.fresh 0 0 led) }).SetOf (intKind X.prog X.w) s⁻¹ (λx=>false) 0:=(setObjOf_fresh led).setOf (aE _ rfl) ∅;refine bD (aa ((intKind X.prog X.w).pyHash (k:=i) (gH _ _ _ _) ?_));refine wpAny_setAddHashed_of (knd:=intKind X.prog X.w) (gH _ _ _ _) rfl Rx ∅ λh' tP kA=>?_;refine PySem.W.kds_fill_nil (by rfl) ?_;let kp:∀b u,s.heap.get? b=!u->h'.get? b=!u:=λb u e=>(tP.2 b (aK (aC e))).trans (ao _ e);exact#[.ref s⁻¹,_,I.laid (a:=s⁻¹) (o:=.set (λk=>decide (k=i)) 1) kp (aw _) (by change Heap.SetOf _ _ _ _ _;simpa using kA),rfl,h _ (I.bZ.fresh (aw _))]
def a64:gf X (compareOp .In) (λx y H Q=>∃i a S n,x=.int i/\y=.ref a/\H a=!.set S n/\Q (.bl (S i)) H):=by
 intro pi s Z H x y v u Q I rx ry h;let#[i,a,S,n,rfl,rfl,ha,q]:=h;let#[t,rfl]:=rx;cases ry;exact wpAny_inSet_of (knd:=intKind X.prog X.w) (k:=i) (gH _ _ _ _) rfl (I.bZ a _ ha) #[.bl (S i),H,I.tok _,rfl,q]
def aG9:gf X (compareOp .NotIn) (λx y H Q=>∃i a S n,x=.int i/\y=.ref a/\H a=!.set S n/\Q (.bl (~~~S i)) H):=by
 intro pi s Z H x y v u Q I rx ry h;let#[i,a,S,n,rfl,rfl,ha,q]:=h;let#[t,rfl]:=rx;cases ry;exact wpAny_notInSet_of (knd:=intKind X.prog X.w) (k:=i) (gH _ _ _ _) rfl (I.bZ a _ ha) #[.bl (~~~S i),H,I.tok _,rfl,q]
def aW8:nu X "set.add" (λx xs H Q=>∃a i S n,x=.ref a/\xs=[.int i]/\H a=!.set S n/\n+1<4096/\Q .bg (upd H a (.set (λk=>S k||decide (k=i)) (if S i then n else n+1)))):=by
 intro pi s Z H x vs v us Q I rx rv h;let#[a,i,S,n,rfl,rfl,ha,hn,q]:=h;cases rx;let#[u,rfl,t,rfl]:=rv.one;refine call_set_add (knd:=intKind X.prog X.w) (k:=i) (gH _ _ _ _) rfl (I.bZ a _ ha) (show n+1<scanBound from hn) λh' tP kA=>?_;let#[o,es,ep,tb,ho,_]:=id kA;exact#[.bg,_,I.write (x:=a) (e:=a) (o:=.set (λk=>S k||decide (k=i)) (if S i then n else n+1)) (by rw[ha];trivial) (.inl rfl) (λb u hb e=>(tP.2 b hb).trans e) #[o,ho] kA,rfl,q]
abbrev GA(K:PySem.W.Frag)(a:Addr)(n:Nat):It :=
 #[λi H=>∃xs x,fZ K H a xs/\-xs=n/\i<n/\xs[n-1-i]?=!x,λi H x H'=>H'=H/\∀xs,fZ K H a xs->xs[n-1-i]?=!x,λi H=>n<=i]
def Xs{P:Program}{w:World}{K:PySem.W.Frag}{tg:Expr}(a it:Addr)(n:Nat):Turn P w K tg (GA K a n) [it] it (λi h=>i<=n/\h.IsRevIter it a ((n:Int)-1-(i:Nat))) where
 mem:=by simp
 obj:=λi h st b hb=>by
  let e:b=it:=by simpa using hb
  subst e;let#[o,e,c,d]:=st.2;exact#[o,e,λv z=>by simp_all]
 keep:=λi h h' st k=>#[st.1,st.2.at λo e=>k it #[_] o e]
 item:=by
  intro X hP hw hK hc i pi s Z H E I hf st hg;subst hP hw hK;let#[xs,x,hq,hn,hi,hx]:=hg;let#[bh,rv,p,hz]:=I.list hq;let#[u,hu,ru]:=rv.get hx;let#[f0,f1,f2,f3,f4,f5]:=hf it #[_];let kW:=st.2;rw[show(n:Int)-1-(i:Nat)=((n-1-i:Nat):Int) by omega] at kW;refine wpAny_pyNext_rev_item kW p.isList (x:=u) (by simpa using hu) λh' mn sb=>?_;let I1:Inv X pi Z H { s with heap:=h' }:=I.turned (t':=s.toks) (λb o hb e=>(sb.2 b hb).trans e) f0 f1 f3 f4 f5;let#[o,e,c,d]:=id mn;refine#[u,rfl,Ag (s:={ s with heap:=h' }) e c d ∅ #[x,H,I1,ru,#[rfl,λys hy=>by rw[I.Eh hy hq];exact hx],#[by omega,?_],λb hb=>(hf b hb).1]]
  grind
 done:=by
  intro X hP hw hK hc i pi s Z H E I hf st hg;let#[f0,f1,f2,f3,f4,f5]:=hf it #[_];let kW:=st.2;have:n<=i:=hg;rw[show(n:Int)-1-(i:Nat)=-1 by omega] at kW;exact wpAny_pyNext_rev_end (I.ok.hd hc) kW λh' eb=>#[rfl,I.turned (t':=s.toks) (λb o hb e=>eb b o hb e) f0 f1 f3 f4 f5]
 self:=λy y y y y st h=>wpAny_pyIter_revIter st.2 h
def boot_reversed:bootBuiltins "reversed"=!(.type "reversed"):=by decide +kernel
def bI9{tg l:Expr}{ta:TA}{p pos:Pos}(hg:Gl X "reversed")(hm:X.mg "reversed"=none)(ha:PA X [l] ta)(hs:starEach [l] X.env=[(false,eval l X.env)]) :
  PI X tg (.Call (.Name "reversed" p) [l] [] pos) (λZ H R=>ta Z H λvs H1=>∃a xs,vs=[.ref a]/\fZ X.K H1 a xs/\R (GA X.K a (-xs)) H1):=by
 intro pi s Z H R I h;refine Call_ (O4 I hg hm boot_reversed (bT (cI (ha pos pi s Z H _ I h) λus s1 bo=>?_) hs rfl));let#[vs,H1,I1,r1,q1]:=bo;let#[a,xs,e,hq,q]:=q1;subst e;cases r1 with
 |cons r rr =>
  cases rr;cases r;let#[bh,rv,p,hz]:=I1.list hq;refine call_reversed_list p.isList ?_;let hl:=-rv;let hit:(s1.heap.push (revObj a ((bh.toArray.size:Int)-1))).IsRevIter s1⁻¹ a ((-xs:Int)-1-((0:Nat):Int)):=#[_,aE _ rfl,rfl,by simp[revObj,hl]]
  refine wpAny_pyIter_revIter hit ?_;refine#[s1⁻¹,[s1⁻¹],_,_,H1,rfl,I1.kept (t':=s1.toks) λb o e=>ao _ e,Xs a _ (-xs),#[cH _,hit],λb hb=>?_,q];let e:b=s1⁻¹:=by simpa using hb
  subst e;exact I1.qR (aw _) (I1.bZ.fresh (aw _))
end L2
namespace ST
open PySem PyProof.Rows
end ST
namespace L2
open PySem PyProof.Rows
abbrev YW(ns:@&Int):@&Int:=ns.mergeSort (λa b=>decide (a<=b))
section
variable{X:Cx}
def KU:∀{ks:@&Key} {l:@&Value},(-l)=-ks->(∀(i:Nat) v,l[i]?=!v->∃k,ks[i]?=!k/\Y1 k v=true)->Vals (ks.map kV) l
 |[],[],_,_=>.nil
 |k::ks,v::l,hl,h=>by
  let#[k',e,hk]:=h 0 v rfl;cases e;refine .cons ?_ (KU (by simpa using hl) λi v e=>h (i+1) v e);rcases u9 hk with⟨i,t,rfl,rfl⟩|⟨x,t,rfl,rfl⟩<;>exact#[t,rfl]
def ax2(hc:X.calm=true):m9 X (.type "list") (λxs H Q=>∃a kvs,xs=[.ref a]/\H a=!.dK kvs/\-kvs<=10000/\∀p,H p=none->Q (.ref p) (upd H p (.lst ((kvs.map (·.1)).map kV)))):=by
 intro pi s Z H xs us Q I r h;let#[a,kvs,rfl,ha,hl,q]:=h;let#[u,rfl,rx]:=vals1 r;cases rx;let#[_,hd,vs,kv,hD]:=Jo I.bZ ha;let#[ep,hA]:=hD.dictAt;let wc:-vs<=10000:=by rw[<- -kv];exact hl
 refine PySem.W.kdl_call (PySem.W.kdl_dict (kvs:=vs) (ep:=ep) hd) (I.ok.hd hc) hA (aG wc ∅) λh' tk acc c k1 k2 k3=>?_;let hv:Vals ((kvs.map (·.1)).map kV) acc.toList:=by
  refine KU (by rw[cz,k3.1,au,(-kv)]) λi v e=>?_;let#[k,x,e1,e2]:=k3.2 i v (by simpa using e);exact#[k,by rw[kv.keys,aj,e1];rfl,e2]
 exact#[.ref s⁻¹,_,(I.laid (a:=s⁻¹) (o:=.lst ((kvs.map (·.1)).map kV)) (t':=tk) k1 (aw _) #[by rw[au,au];exact aG hl ∅,acc.toList,c,hv,by simpa using k2]),rfl,q _ (I.bZ.fresh (aw _))]
end
end L2
namespace ST
open PySem PyProof.Rows
variable{tk:Tok}{items:Array Value}{n:Nat}{ks:@&Int}
def aI3:typeLookup (.type "list") "keys"=pure none:=by rfl
def as3:typeLookup (.type "list") "__getattr__"=pure none:=by rfl
section
variable{prog:Program}{w:World}{A:Around}{E:Value->Shared->Prop}{h:Heap}{g:Array GenState}{d:Drawn}{t:Nat}{os:OsState}{a:Addr}{o:Obj}
def as5{Q:Fin->Shared->Prop}(hh:A.handled=none)(hx:h.get? a=!o)(hc:o.cls=.type "list")(hn:o.dict=none)(hd:o.data=.seq items n)(hq:∀e h' tk,(∀b o,h.get? b=!o->h'.get? b=!o)->t<=tk->(∃oe,h'.get? e=!oe/\oe.cls=.type "AttributeError")->E (.ref e) #[h',g,d,tk,os]) :
  wpAny (model prog w) A (Builtin.«object.__getattribute__» #[[.ref a,.str "keys" tk],[]]) Q E #[h,g,d,t,os]:=by
 let hT:(#[h,g,d,t,os]:Shared).TypeIs (.ref a) "list":=#[_,hx,hc]
 let f4:=aI3
 repeat (any_goals (first|assumption|wp_step))
 rw[hd];dsimp only;unfold instanceDict
 repeat (any_goals (first|assumption|wp_step))
 rw[hc];dsimp only;rw[hn];dsimp only;rw[ay (by rfl)];refine ak ?_;unfold Builtin.ObjectAttr.inDict;refine ak ?_;dsimp only
 repeat (any_goals (first|assumption|wp_step))
 let hm:(Str.ofString (toString "'"++toString ((Manifest.find? "list").elim "list" λx=>x.tpName)++toString "' object has no attribute '")++Str.ofString "keys"++Str.ofString "'").length<=sizeLine:=by decide +kernel
 generalize (Str.ofString (toString "'"++toString ((Manifest.find? "list").elim "list" λx=>x.tpName)++toString "' object has no attribute '")++Str.ofString "keys"++Str.ofString "'")=msg at *;unfold raiseAttrError
 repeat (any_goals (first|assumption|wp_step))
 let f5:isSubtype (.type "AttributeError") (.type "AttributeError")=pure true:=by rfl
 refine dM f5 ?_
 repeat (any_goals (first|assumption|wp_step))
 refine wpAny_raiseNew_none hh (hq _ _ _ (λb ob e=>?_) () ?_)
 .let hb:b≠(h.push { cls:=Value.type "tuple",data:=Data.seq (List.toArray [Value.str msg t]) }).objs.size:=by
   have:=aC e;rw[fk];exact aK (Nat.lt_succ_of_lt this)
  exact((bq _ _ _).2 b hb).trans (ao _ (ao _ e))
 .exact#[_,bu _ (aE _ rfl) rfl,rfl]
def aw2{R:Result->Shared->Prop}(hh:A.handled=none)(hx:h.get? a=!o)(hc:o.cls=.type "list")(hn:o.dict=none)(hd:o.data=.seq items n)(hq:∀e h' tk,(∀b o,h.get? b=!o->h'.get? b=!o)->t<=tk->(∃oe,h'.get? e=!oe/\oe.cls=.type "AttributeError")->R (.error (.ref e)) #[h',g,d,tk,os]) :
  codeAny (model prog w) A (.call (.builtin "list.__getattribute__") #[[.ref a,.str "keys" tk],[]]) R #[h,g,d,t,os] :=
 codeAny_call_builtin fM.plain F.entry_list_ga (fM.check _ _ _ _ _ _ _ _ (show(#[h,g,d,t,os]:Shared).TypeIs (.ref a) "list" from#[_,hx,hc]) (F.args_list_getattribute_2 _ _) (as5 (by simp[hh]) hx hc hn hd hq))
def aI6{Q:Value->Shared->Prop}(hh:A.handled=none)(hx:h.get? a=!o)(hc:o.cls=.type "list")(hn:o.dict=none)(hd:o.data=.seq items n)(hq:∀e h' tk,(∀b o,h.get? b=!o->h'.get? b=!o)->t<=tk->(∃oe,h'.get? e=!oe/\oe.cls=.type "AttributeError")->E (.ref e) #[h',g,d,tk,os]):wpAny (model prog w) A (getAttrBy (.ref a) (.str "keys" tk) false) Q E #[h,g,d,t,os]:=by
 let hT:(#[h,g,d,t,os]:Shared).TypeIs (.ref a) "list":=#[_,hx,hc]
 let f2:=fM.lookup;let f3:=fM.bind (.ref a)
 repeat (any_goals (first|assumption|wp_step))
 refine aw2 hh hx hc hn hd ?_;rintro e h' kJ k1 k2 ⟨oe,he,yV⟩;let Rv:(#[h',g,d,kJ,os]:Shared).TypeIs (.ref e) "AttributeError":=#[_,he,yV]
 let f5:isSubtype (.type "AttributeError") (.type "AttributeError")=pure true:=by rw[gh];kernel_rfl
 let f6:=as3;dsimp only;unfold getattributeRaised;refine aa (dn Rv f5 ?_);rw[ay rfl];unfold hookBehind
 repeat (any_goals (first|assumption|wp_step))
 exact hq e h' kJ k1 k2 #[oe,he,yV]
def aw3{Q:Option Value->Shared->Prop}(hh:A.handled=none)(hx:h.get? a=!o)(hc:o.cls=.type "list")(hn:o.dict=none)(hd:o.data=.seq items n)(hq:∀h' tk,(∀b o,h.get? b=!o->h'.get? b=!o)->t<=tk->Q none #[h',g,d,tk,os]):wpAny (model prog w) A (getAttr? (.ref a) "keys") Q E #[h,g,d,t,os]:=by
 unfold getAttr? getAttrBy?;let f5:isSubtype (.type "AttributeError") (.type "AttributeError")=pure true:=by rw[gh];kernel_rfl
 refine aa (wpAny_mkText ?_);refine aa (OV (aI6 hh hx hc hn hd ?_));rintro e h' kJ k1 k2 ⟨oe,he,yV⟩;dsimp only;refine aa (dn (show(#[h',g,d,kJ,os]:Shared).TypeIs (.ref e) "AttributeError" from#[_,he,yV]) f5 ?_);rw[ay rfl];exact ak (hq h' kJ k1 (lM k2))
def Q5:plainId "dict.update.loop"=true:=by decide +kernel
def Ly:entryFor table "dict.update.loop"=some Builtin.«dict.update.loop»:=entryFor_of_tree (by kernel_rfl)
abbrev L7(ks:@&Int):@&(L2.Key×Value):=ks.map λk=>(.inl k,.bool true)
def stored_new{k:Int}(h:k∉ks):stored (L7 ks) (.inl k:L2.Key) (.bool true)=L7 (ks++[k]):=by
 unfold stored;rw[az]
 .simp[L7]
 .intro z;rw[aO] at z;let#[x,hx,e]:=z;let#[j,hj,rfl]:=aL.mp hx;have:j=k:=Au (bx e);exact h (this▸hj)
def aV9{R:Result->Shared->Prop}{I:Addr}{fp wr:@&Addr}{G:Array GenState->Array GenState->Prop}{P:Nat->Value->Prop}{St:Nat->Shared->Prop}(W:WalksS prog w A.in1 I fp wr G n P St)(Il:a∉fp)(hn:n=-ks){tp:Nat->Addr}(hv:∀i v,P i v->v=.ref (tp i))(HG:∀i,i<n->tp i∉a::wr)(hb:n<=10000)(nd:ks.Nodup):∀(k i:Nat) (s:Shared),i+k=n->St i s->(∀j,j<n->∃tk,s.heap.IsTuple (tp j) (List.toArray [.int (ks.getD j 0) tk,.bool true]))->s.heap.DictOf (L2.j9 prog w) a (L7 (ks.take i)) ->
   (∀s',Moved (a::wr) G s s'->s'.heap.DictOf (L2.j9 prog w) a (L7 ks)->R (.ok (.ret .none)) s')->codeAny (model prog w) A (.builtin "dict.update.loop" #[[.ref a,.ref I,rawInt i,.none],[]]) R s:=by
 let hw:a∉wr:=λh=>Il (W.sub _ h);let nR:∀b∈wr,b∈a::wr:=λb hb=>by simp[hb]
 intro k
 induction k with
 |zero =>
  intro i s e st ht hS hR;obtain rfl:i=n:=by omega
  refine dG Ly ?_;rw[Around.under_plainId Q5 _];unfold Builtin.«dict.update.loop»;dsimp only;refine aa (W.done s _ _ st λs' m=>?_);refine aa (m:=Builtin.Dict.addKeywords _ _) (ak ?_);refine ak (hR s' (m.mono nR) ?_);rw[hn,bP] at hS;let#[o,es,ep,ho,r]:=hS;exact#[o,es,ep,m.heap a o hw ho,r]
 |succ k ih =>
  intro i s e st ht hS hR;let dI:i< -ks:=by omega
  refine dG Ly ?_;rw[Around.under_plainId Q5 _];unfold Builtin.«dict.update.loop»;dsimp only;refine aa (W.item i s _ _ () st λv s' hP mn m=>?_);cases hv i v hP;let kA:s'.heap.DictOf (L2.j9 prog w) a (L7 (ks.take i)):=by
   let#[o,es,ep,ho,r]:=hS;exact#[o,es,ep,m.heap a o hw ho,r]
  let qu:∀j,j<n->∃tk,s'.heap.IsTuple (tp j) (List.toArray [.int (ks.getD j 0) tk,.bool true]):=λj hj=>by
   let#[tk,o,ho,r]:=ht j hj;exact#[tk,o,m.heap _ o (λz=>HG j hj (by simp[z])) ho,r]
  let#[tk,o,ho,hc,nn,hd]:=qu i ();refine aa (bD ?_);refine aa (wpAny_tryCatch ?_);unfold Builtin.Dict.pairItems;refine aa (dJ (show s'.TypeIs (.ref (tp i)) "tuple" from#[o,ho,hc]) ?_);rw[ay ∅];unfold seqItems?;dsimp only;refine aa (aa (wpAny_load ho ?_));rw[hd];refine ak (ak ?_);change wpAny (model prog w) A.in1 (holding [.int (ks.getD i 0) tk,.bool true] (dictSet a (.int (ks.getD i 0) tk) (.bool true))) _ _ _;refine bD ?_;unfold dictSet;refine bD (aa ((L2.j9 prog w).pyHash (k:=.inl (ks.getD i 0)) (L2.Y7 _ _ _ _) ?_));let hl:(L7 (ks.take i)).length<=10000:=by
   unfold L7;rw[au,dg];omega
  refine wpAny_dictSetHashed_pairs (s:={ s' with toks:=s'.toks+1 }) (k:=(.inl (ks.getD i 0):L2.Key)) (L2.Y7 _ _ _ _) kA (λh' oV sb=>?_) (aG hl ∅);let ek:ks.take (i+1)=ks.take i++[ks.getD i 0]:=by
   rw[bz,ag dI];simp[List.getD,dI]
  let lI:ks.getD i 0∉ks.take i:=by
   have:(ks.take (i+1)).Nodup:=nd.sublist (List.take_sublist _ _);rw[ek,cA] at this;exact λz=>this.2.2 _ z _ #[_] rfl
  rw[stored_new lI,<- ek] at oV;refine ak #[gM Q5 _,?_];rw[show((i:Nat):Int)+1=((i+1:Nat):Int) by omega];refine ih (i+1) _ () (W.frame _ s' _ _ mn (iw _) λb hb o e=>by rw[sb.2 b λz=>Il (z▸hb)];exact e) (λj hj=>?_) oV λs2 m2 h2=>?_
  .let#[tk,o,ho,r]:=qu j hj;exact#[tk,o,(sb.2 _ λz=>HG j hj (by simp[z])).trans ho,r]
  .exact hR s2 (Moved.trans W.gtrans ((m.mono nR).then_heap (iw _) λb o hb e=>by rw[sb.2 b λz=>hb (by rw[z];simp)];exact e) m2) h2
def aZ7{l:Addr}{tp:Nat->Addr}{nn:Nat}{s:Shared}{Q:Value->Shared->Prop}(hh:A.handled=none)(ho:s.heap.get? l=!o)(hc:o.cls=.type "list")(hn:o.dict=none)(hd:o.data=.seq items nn)(hsz:items.size=-ks)(hit:∀(i:Nat) (v:Value),items[i]?=!v->v=.ref (tp i))(ht:∀j,j< -ks->∃tk,s.heap.IsTuple (tp j) (List.toArray [.int (ks.getD j 0) tk,.bool true]))(hb:-ks<=10000)(nd:ks.Nodup)(h:∀h' tk,h'.DictOf (L2.j9 prog w) s⁻¹ (L7 ks)->(∀b o,s.heap.get? b=!o->h'.get? b=!o)->s.toks<=tk->Q (.ref s⁻¹) { s with heap:=h',toks:=tk }) :
  wpAny (model prog w) A (call (.type "dict") [.ref l]) Q E s:=by
 refine callType_codes (Q₁:=λobj bH=>obj=.ref s⁻¹/\bH={ s with heap:=s.heap.push { cls:=.type "dict",data:=.dict (List.toArray []) } }) F.kt_called_dict (F.kt_typeCall_dict_1 _) F.entry_dict_init (kt_code_dict_new _ #[rfl,rfl]) ?_;rintro obj bH ⟨rfl,rfl⟩;let ni:(s.heap.push { cls:=.type "dict",data:=.dict (List.toArray []) }).DictOf (L2.j9 prog w) s⁻¹ []:=Heap.DictOf.new s.heap;refine#[ni.typeIs,F.args_dict_init_2 _ _,?_];let vX:(s.heap.push { cls:=.type "dict",data:=.dict (List.toArray []) }).get? l=!o:=ao _ ho;let wI:Shared.TypeIs { s with heap:=s.heap.push { cls:=.type "dict",data:=.dict (List.toArray []) } } (.ref l) "list":=#[o,vX,hc]
 unfold Builtin.«dict.__init__»;refine aa ?_;unfold Builtin.Dict.selfAndRest;refine aa (wpAny_notOrdered_dict ni.typeIs ?_);change wpAny _ _ (pure (s⁻¹,[Value.ref l])) _ _ _;refine ak ?_;change wpAny _ _ (Builtin.Dict.updateFrom "dict.__init__" s⁻¹ (.ref l) [] .none) _ _ _;unfold Builtin.Dict.updateFrom;refine aa (dJ wI ?_);rw[ay ∅];refine aa (aw3 (by simp[hh]) vX hc hn hd λh1 vc k1 k2=>?_);rw[ay (by rfl)];refine aa (fR ?_);let kM:h1.get? l=!o:=k1 _ _ vX;let wc:h1.IsList l items:=#[o,kM,hc,nn,hd]
 let dI:l<h1.objs.size:=aC kM;let yR:l≠h1.objs.size:=aK dI;refine aa (gg (s:={ s with heap:=h1,toks:=vc }) wc ?_);refine ak #[gM Q5 _,?_];let la:l<s⁻¹:=aC ho;let#[oa,_,_,QC,_]:=id ni;let qD:s⁻¹<h1.objs.size:=aC (k1 _ _ QC);let tl:∀j,j< -ks->tp j<s⁻¹:=λj hj=>by
  let#[_,o',e,_]:=ht j hj;exact aC e
 refine aV9 (A:=A.in1) (a:=s⁻¹) (ks:=ks) (tp:=tp) (As (A:=A.in1.in1) (by simp[hh]) h1.objs.size l yR items).toS (λz=>?_) hsz hit (λj hj z=>?_) () nd items.size 0 _ () #[#[_,aE _ rfl,rfl,rfl],wc.push _] (λj hj=>?_) ?_ λs' m kA=>?_
 .simp only[List.mem_cons,List.not_mem_nil,or_false] at z;rcases z with z|z
  .exact aK qD z
  .exact cE la z
 .have:=tl j ();simp only[List.mem_cons,List.not_mem_nil,or_false] at z;rcases z with z|z
  .exact aK this z
  .exact aK (cU this qD) z
 .let#[tk,o',e,r]:=ht j ();exact#[tk,o',ao _ (k1 _ _ (ao _ e)),r]
 .let#[o',es,ep,e,r]:=ni;exact#[o',es,ep,ao _ (k1 _ _ e),r]
 .let eS:s'={ s with heap:=s'.heap,toks:=s'.toks }:=by
   let#[jY,g',d',kJ,rE]:=s';let m1:g'=s.gens:=m.gens;let m2:d'=s.drawn:=m.drawn;let m3:rE=s.os:=m.os;subst m1;subst m2;subst m3
   rfl
  rw[eS];refine#[rfl,h _ _ kA (λb o' e=>?_) (aG k2 m.toks)];let lb:=aC e;refine m.heap b o' (λz=>?_) (ao _ (k1 _ _ (ao _ e)));simp only[List.mem_cons,List.not_mem_nil,or_false] at z;rcases z with z|z
  .exact aK lb z
  .exact aK (cU lb qD) z
end
end ST
namespace L2
open PySem PyProof.Rows
section
variable{X:Cx}
def Nh:∀ks:@&Int,KV (ks.map λk=>((.inl k:Key),V.bl true)) (ST.L7 ks)
 |[]=>.nil
 |_::ks=>.cons #[rfl,rfl] (Nh ks)
def au2(hc:X.calm=true):m9 X (.type "dict") (λxs H Q=>∃a,∃(ts:@&Addr) (ks:@&Int),xs=[.ref a]/\fZ X.K H a (ts.map V.ref)/\-ts=-ks/\(∀(i:Nat) t k,ts[i]?=!t->ks[i]?=!k->iO X.K H t [.int k,.bl true])/\-ks<=10000/\ks.Nodup/\∀p,H p=none->Q (.ref p) (upd H p (.dK (ks.map λk=>(.inl k,.bl true))))):=by
 intro pi s Z H xs us Q I r h;let#[a,ts,ks,rfl,hq,hl,ht,hz,nd,q]:=h;let#[u,rfl,ru]:=vals1 r;cases ru;let#[bh,rv,#[o,n,ho,kh,Rc,hd],_]:=I.list hq;let hlen:-bh=-ts:=by rw[<- -rv];simp
 refine ST.aZ7 (tp:=λi=>ts.getD i 0) (ks:=ks) (I.ok.hd hc) ho kh Rc hd (by rw[aQ];omega) (λi v hv=>?_) (λj hj=>?_) hz nd λh' tk hS hk vS=>?_
 .rw[List.getElem?_toArray] at hv;let hi:i< -ts:=by rw[<- hlen];exact(av.mp hv).1
  let#[u,hu,ru]:=rv.get (i:=i) (x:=V.ref ts[i]) (by rw[aj,ag hi];rfl);rw[hv] at hu;cases hu;rw[show ts.getD i 0=ts[i] by simp[List.getD,hi]];exact ru
 .let tW:j< -ts:=by omega
  let#[mZ,PD,p2,_]:=I.tuple (ht j ts[j] ks[j] (ag tW) (ag hj));cases PD with
  |cons r1 r2 =>
  cases r2 with
  |cons r2 r3 =>
  cases r3;let#[tk,rfl]:=r1;cases r2;rw[show ts.getD j 0=ts[j] by simp[List.getD,tW],show ks.getD j 0=ks[j] by simp[List.getD,hj]];exact#[tk,p2]
 .exact#[.ref _,_,I.laid (a:=s⁻¹) (t':=tk) hk (aw _) (Og (by rw[au];exact aG hz ∅) (dc.mpr (bI (aK I.big))) (Nh ks) hS),rfl,q _ (I.bZ.fresh (aw _))]
end
end L2
namespace L2
open PySem PySem.Spec PyProof.Rows
variable{prog:Program}{w:World}{A:Around}{s:Shared}{X:Cx}
def P7{P:Program}{k:Key}{u:Value}(h:(j9 P w).is k u=true):RelV (kV k) u:=by
 rw[aW9] at h;rcases u9 h with⟨j,t,e1,e2⟩|⟨x,t,e1,e2⟩
 .subst e1 e2;exact#[t,rfl]
 .subst e1 e2;exact#[t,rfl]
def KV.at{kvs:@&(Key×V)}{vs:@&(Key×Value)}(r:KV kvs vs):∀{i:Nat} {k:Key} {x:V},kvs[i]?=!(k,x)->∃u,vs[i]?=!(k,u)/\RelV x u:=by
 unfold KV at r
 induction r with
 |nil=>intro i k x h;simp at h
 |cons h r ih =>
  intro i k x e;cases i with
  |zero =>
   simp at e;subst e;let#[h1,h2]:=h;exact #[_,by
    change some _=!(k,_);let CH:k=_:=h1;rw [CH],h2]
  |succ i=>simpa using ih (by simpa using e)
end L2
namespace M
open PySem L2
set_option genInjectivity true in
inductive D where
 |bg|bl (b:Bool)|int (i:Int)|str (x:Str)|ty (n:String)|ref (i:Nat)|tup (l:@&D)
set_option genInjectivity true in
inductive O where
 |lst (l:@&D)|pS (l:@&D)
 |fb (kvs:@&(Key×D))
 |ins (c:Str) (fs:@&(Str×D))
 |set (S:Int->Bool) (n:Nat)
 |fO (kvs:@&(List Key×D))
abbrev O.mut:O->Bool
 |.pS _=>false
 |_=>true
abbrev C4:D->Option Key
 |.int i=>!.inl i
 |.str x=>!.inr x
 |_=>none
abbrev v8(kvs:@&(Key×D))(k:Key):Option D:=(kvs.find? λkv=>decide (kv.1=k)).map (·.2)
abbrev putD(kvs:@&(Key×D))(k:Key)(v:D):@&(Key×D) :=
 if(kvs.any λkv=>decide (kv.1=k))=true then kvs.map (λkv=>if kv.1=k then(kv.1,v) else kv) else kvs++[(k,v)]
abbrev M5(kvs:@&(List Key×D))(k:@&Key):Option D:=(kvs.find? λkv=>decide (kv.1=k)).map (·.2)
abbrev C1(kvs:@&(List Key×D))(k:@&Key)(v:D):@&(List Key×D) :=
 if(kvs.any λkv=>decide (kv.1=k))=true then kvs.map (λkv=>if kv.1=k then(kv.1,v) else kv) else kvs++[(k,v)]
abbrev i7(f:Str)(v:D):@&(Str×D)->@&(Str×D)
 |[]=>[(f,v)]
 |(g,x)::r=>if g=f then(g,v)::r else(g,x)::i7 f v r
abbrev Q7:@&D->Str->Option D
 |.tup [.str y,v]::r,x=>if x=y then some v else Q7 r x
 |_::_,_=>none
 |[],_=>none
abbrev Ju:@&D->Option Str
 |[]=>!Str.empty
 |.str x::r=>(Ju r).map λy=>x++y
 |_=>none
structure Xn where
 cls:Str
noncomputable abbrev G:=@&O
noncomputable abbrev S:=@&(Option D)
noncomputable abbrev KD:=D->G->Prop
noncomputable abbrev KX:=Xn->G->Prop
noncomputable abbrev jZ:KX:=λx x=>False
abbrev FU:Option O->Option (@&D)
 |some (.lst l)=>!l
 |some (.pS l)=>!l
 |_=>none
noncomputable abbrev c9(g:G)(a:Nat):Option (@&D):=FU g[a]?
abbrev rd(g:G):Nat->D->Option PyData
 |_,.bg=>!.none
 |_,.bl b=>!.bool b
 |_,.int i=>!.int i
 |_,.str x=>!.str x
 |_,.ty _=>none
 |0,.ref _=>none
 |0,.tup _=>none
 |n+1,.ref a=>match c9 g a with
  |some l=>(l.mapM (rd g n)).map .list
  |none=>none
 |n+1,.tup l=>(l.mapM (rd g n)).map .tuple
abbrev AR(g:G)(l:@&D):Option (@&PyData):=l.mapM (rd g 6)
abbrev F0(g:G):D->Option (@&D)
 |.tup l=>!l
 |.ref a=>c9 g a
 |_=>none
abbrev T7:D->Bool
 |.bg=>true
 |_=>false
abbrev cut{α:Type}(xs:List α)(lo hi:Option Int):List α:=(xs.drop (HT.et (-xs) 0 lo)).take (HT.et (-xs) (-xs) hi-HT.et (-xs) 0 lo)
abbrev sP(g:G)(x:D)(c:String):Option Bool:=match x with
 |.bg=>!(c=="NoneType")
 |.bl _=>!(c=="bool"||c=="int")
 |.int _=>!(c=="int")
 |.str _=>!(c=="str")
 |.tup _=>!(c=="tuple")
 |.ref a=>match g[a]? with
  |some (.lst _)=>!(c=="list")
  |_=>none
 |.ty _=>none
abbrev j6(lo:Int)(n:Nat):@&D:=(List.range n).map λ(k:Nat)=>.int (lo+k)
abbrev Y3:@&D->Option Bool
 |[]=>!true
 |.bl b::r=>(Y3 r).map λc=>b&&c
 |_=>none
inductive Pr where
 |bin (op:Operator)|un (op:UnaryOp)|cmp (op:CmpOp)
 |ix|ku (lo hi:Bool)|rev|tup|lst|V9
 |len|list|tuple|isin|all|max|min|int|str|lh|lg|sset|vd|oG
 |IJ|wR|oB|fv|CI|fld (f:Str)
 |append|pop|get|index|join|iadd|clear|AV|extend|any|vg|sum|qS|oj|kY|Bi|CT|wZ|kX (i:Int)|ql (neg:Bool)|lS
noncomputable abbrev DR:=@&D->G->D->G->Prop
abbrev arR:Operator->Int->Int->Int->Prop
 |.Add,i,j,r=>r=i+j
 |.Sub,i,j,r=>r=i-j
 |.Mult,i,j,r=>sI i j/\r=i*j
 |.FloorDiv,i,j,r=>Dg i j/\r=i / j
 |.Mod,i,j,r=>0<j/\r=i % j
 |.Pow,i,j,r=>pY i j/\r=i ^ j.toNat
 |.LShift,i,j,r=>pY i j/\r=i*2 ^ j.toNat
 |.BitAnd,i,j,r=>r=Builtin.bitAnd i j
 |.BitOr,i,j,r=>r=Builtin.bitOr i j
 |_,_,_,_=>False
abbrev b82(op:Operator):DR:=λxs g d g' =>
 (∃i j r,xs=[.int i,.int j]/\arR op i j r/\d=.int r/\g'=g) \/
 (op=.Add/\((∃ l m,xs=[.tup l,.tup m]/\-l + -m <= 100000/\d=.tup (l ++ m)/\g'=g) \/
  (∃a b l m,xs=[.ref a,.ref b]/\g[a]?=!.lst l/\g[b]?=!.lst m/\-l+-m<=100000/\d=.ref (-g)/\g'=g++[.lst (l++m)]) \/
  False)) \/
 (op=.Mult/\((∃ a l n,xs=[.ref a,.int n]/\g[a]?=!.lst l/\-(2 ^ 62) <= n/\n < 2 ^ 62/\-l * n.toNat <= 100000/\d=.ref (-g)/\g'=g ++ [.lst (List.replicate n.toNat l).flatten]) \/
  (∃ l n,xs=[.tup l,.int n]/\l ≠ []/\1 <= n/\n < 2 ^ 62/\-l * n.toNat <= 100000/\d=.tup (List.replicate n.toNat l).flatten/\g'=g)))
abbrev Pk(op:UnaryOp):DR:=λxs g d g'=>op=.USub/\∃i,xs=[.int i]/\d=.int (-(i))/\g'=g
abbrev wW(g:G)(x y:D)(b:Bool):Prop :=
 (∃i j,x=.int i/\y=.int j/\b=decide (i=j))\/(∃i j,x=.bl i/\y=.bl j/\b=(i==j))\/(∃i j,x=.str i/\y=.str j/\b=decide (i=j)) \/
 ∃p q,rd g 6 x=!p/\rd g 6 y=!q/\p.canLay0=true/\q.canLay0=true/\b=PyData.eqv p q
abbrev inR(g:G)(x y:D)(b:Bool):Prop :=
 (∃a kvs c,y=.ref a/\g[a]?=!.fb kvs/\C4 x=!c/\b=(v8 kvs c).isSome) \/
 ∃l ps p,F0 g y=!l/\AR g l=!ps/\rd g 6 x=!p/\PyData.canLayAll0 ps=true/\p.canLay0=true/\b=(ps.any λq=>PyData.eqv q p)
abbrev Kq(g:G)(x y:D)(b:Bool):Prop:=∃a S n i,y=.ref a/\g[a]?=!.set S n/\x=.int i/\b=S i
abbrev Kc(g:G)(x y:D)(b:Bool):CmpOp->Prop
 |.Eq=>wW g x y b
 |.NotEq=>wW g x y (~~~b)
 |.In=>inR g x y b\/Kq g x y b
 |.NotIn=>inR g x y (~~~b)\/Kq g x y (~~~b)
 |.Lt=>∃i j,x=.int i/\y=.int j/\b=decide (i<j)
 |.LtE=>∃i j,x=.int i/\y=.int j/\b=decide (i<=j)
 |.Gt=>∃i j,x=.int i/\y=.int j/\b=decide (j<i)
 |.GtE=>∃i j,x=.int i/\y=.int j/\b=decide (j<=i)
 |.Is=>y=.bg/\b=T7 x
 |.IsNot=>y=.bg/\b= ~~~T7 x
abbrev b77(op:CmpOp):DR:=λxs g d g'=>∃x y b,xs=[x,y]/\Kc g x y b op/\d=.bl b/\g'=g
abbrev Ku(g:G)(x:D)(b:Bool):Prop :=
 False\/x=.bl b\/(∃i,x=.int i/\b=(i != 0))\/False
abbrev Qm:DR:=λxs g d g'=>g'=g/\((∃x l i,xs=[x,.int i]/\F0 g x=!l/\ia l i=!d)\/(∃a kvs y c,xs=[.ref a,y]/\g[a]?=!.fb kvs/\C4 y=!c/\v8 kvs c=!d) \/
 False)
abbrev vj(x:D)(lo hi:Option Int)(g:G)(d:D)(g':G):Prop:=(∃l,x=.tup l/\d=.tup (cut l lo hi)/\g'=g)\/∃a l,x=.ref a/\c9 g a=!l/\d=.ref (-g)/\g'=g++[.lst (cut l lo hi)]
abbrev b39:Bool->Bool->DR
 |false,false,xs,g,d,g'=>∃x,xs=[x]/\vj x none none g d g'
 |true,false,xs,g,d,g'=>∃x i,xs=[x,.int i]/\vj x (!i) none g d g'
 |false,true,xs,g,d,g'=>∃x j,xs=[x,.int j]/\vj x none (!j) g d g'
 |true,true,xs,g,d,g'=>∃x i j,xs=[x,.int i,.int j]/\vj x (!i) (!j) g d g'
abbrev b43:DR:=λxs g d g'=>(∃l,xs=[.tup l]/\d=.tup l.reverse/\g'=g)\/∃a l,xs=[.ref a]/\c9 g a=!l/\d=.ref (-g)/\g'=g++[.lst l.reverse]
abbrev b18:DR:=λxs g d g'=>-xs<=1000/\d=.tup xs/\g'=g
abbrev b66:DR:=λxs g d g'=>-xs<=1000/\d=.ref (-g)/\g'=g++[.lst xs]
abbrev XM:DR:=λxs g d g'=>xs=[]/\d=.ref (-g)/\(g'=g++[.fb []]\/g'=g++[.fO []])
abbrev b21(neg:Bool):DR:=λxs g d g'=>∃x y a kvs c e,xs=[x,y,.ref a]/\g[a]?=!.fO kvs/\C4 x=!c/\C4 y=!e/\d=.bl (xor neg (M5 kvs [c,e]).isSome)/\g'=g
abbrev Zi:DR:=λxs g d g'=>∃x y a kvs c e,xs=[.ref a,x,y]/\g[a]?=!.fO kvs/\C4 x=!c/\C4 y=!e/\M5 kvs [c,e]=!d/\g'=g
abbrev Zk(o x y v:D)(g g':G):Prop:=∃a kvs c e,o=.ref a/\g[a]?=!.fO kvs/\C4 x=!c/\C4 y=!e/\-kvs<100000/\g'=g.set a (.fO (C1 kvs [c,e] v))
abbrev Fz(o x y v:D)(g:G)(k:G->Prop):Prop:=∃g',Zk o x y v g g'/\k g'
abbrev b67:DR:=λxs g d g'=>g'=g/\((∃x l,xs=[x]/\F0 g x=!l/\d=.int (-l))\/False\/False)
abbrev kD:Key->D
 |.inl i=>.int i
 |.inr x=>.str x
abbrev Yk:DR:=λxs g d g'=>(∃x l,xs=[x]/\F0 g x=!l/\d=.ref (-g)/\g'=g++[.lst l])\/∃a kvs,xs=[.ref a]/\g[a]?=!.fb kvs/\-kvs<=10000/\d=.ref (-g)/\g'=g++[.lst ((kvs.map (·.1)).map kD)]
abbrev bB8:DR:=λxs g d g'=>∃x l,xs=[x]/\F0 g x=!l/\d=.tup l/\g'=g
abbrev XZ:DR:=λxs g d g'=>∃x c b,xs=[x,.ty c]/\c∈["int","bool","str","tuple","list"]/\sP g x c=!b/\d=.bl b/\g'=g
abbrev allR:DR:=λxs g d g'=>∃a l b,xs=[.ref a]/\c9 g a=!l/\(Y3 l=!b\/∃ns:@&Int,l=ns.map .int/\b=ns.all λn=>n != 0)/\d=.bl b/\g'=g
abbrev Jj:@&D->Option Bool
 |[]=>!false
 |.bl b::r=>(Jj r).map λc=>b||c
 |_=>none
abbrev anyR:DR:=λxs g d g'=>∃a l b,xs=[.ref a]/\c9 g a=!l/\Jj l=!b/\d=.bl b/\g'=g
abbrev bE8:DR:=λxs g d g'=>False\/∃x,∃ns:@&Int,xs=[x]/\F0 g x=!ns.map .int/\-ns<60/\d=.ref (-g)/\g'=g++[.lst ((YW ns).map .int)]
abbrev b65:DR:=λxs g d g'=>g'=g/\((∃i j,xs=[.int i,.int j]/\d=.int (if j>i then j else i))\/∃a,∃(ns:@&Int) (M:Int),xs=[.ref a]/\c9 g a=!ns.map .int/\M∈ns/\(∀x∈ns,x<=M)/\d=.int M)
abbrev b64:DR:=λxs g d g'=>g'=g/\((∃i j,xs=[.int i,.int j]/\d=.int (if j<i then j else i))\/False)
abbrev YT:DR:=λxs g d g'=>∃a i S n,xs=[.ref a,.int i]/\g[a]?=!.set S n/\n+1<4096/\d=.bg/\g'=g.set a (.set (λk=>S k||decide (k=i)) (if S i then n else n+1))
abbrev Yi:DR:=λxs g d g'=>∃a,∃ns:@&Int,xs=[.ref a]/\c9 g a=!ns.map .int/\-ns<600/\d=.ref (-g)/\g'=g++[.set (λk=>decide (k∈ns)) (ST.f9 [] ns).length]
abbrev bH0(i:Int):DR:=λxs g d g'=>xs=[]/\d=.ref (-g)/\g'=g++[.set (λk=>decide (k=i)) 1]
abbrev b37:DR:=λxs g d g'=>∃a,∃ns:@&Int,xs=[.ref a]/\c9 g a=!ns.map .int/\d=.int ns.sum/\g'=g
abbrev Yl:DR:=λxs g d g'=>∃a,∃ns:@&Int,xs=[.ref a]/\c9 g a=!ns.map .int/\-ns<60/\d=.int (ST.f9 [] ns).length/\g'=g
abbrev X':DR:=λxs g d g'=>∃i j,xs=[.int i,.int j]/\d=.int (i-j)/\g'=g
abbrev b69:DR:=λxs g d g'=>g'=g/\((∃i,xs=[.int i]/\d=.int i)\/∃b,xs=[.bl b]/\d=.int (if b then 1 else 0))
abbrev b38:DR:=λxs g d g'=>(∃i,xs=[.int i]/\i.natAbs.log2<1920/\d=.str (toString i)/\g'=g)\/∃x,xs=[.str x]/\d=.str x/\g'=g
abbrev bM6:DR:=λxs g d g'=>∃j,xs=[.int j]/\-(2 ^ 62)<=j/\j<=100000/\d=.ref (-g)/\g'=g++[.lst (j6 0 j.toNat)]
abbrev bM5:DR:=λxs g d g'=>∃i j,xs=[.int i,.int j]/\(-(2 ^ 62)<=i/\i<2 ^ 62/\-(2 ^ 62)<=j/\j<2 ^ 62/\j-i<=100000)/\d=.ref (-g)/\g'=g++[.lst (j6 i (j-i).toNat)]
abbrev YX:DR:=λxs g d g'=>∃a ns,xs=[.ref a]/\c9 g a=!ns.map .int/\-ns<60/\d=.ref (-g)/\g'=g++[.lst ((o8 ns).map .int)]
abbrev b36:DR:=λxs g d g'=>∃ns ms:@&Int,xs=[.tup (ns.map .int),.tup (ms.map .int)]/\(∀k∈ns,ST.Spot k)/\(∀k∈ms,ST.Spot k)/\-ns+-ms<50/\d=.ref (-g)/\g'=g++[.lst ((o8 (ns++ms)).map .int)]
abbrev Dr(neg:Bool):DR:=λxs g d g'=>∃kvs x,xs=[.tup kvs,.str x]/\d=.bl (xor neg (Q7 kvs x).isSome)/\g'=g
abbrev XT:DR:=λxs g d g'=>∃kvs x,xs=[.tup kvs,.str x]/\Q7 kvs x=!d/\g'=g
abbrev SG:DR:=λxs g d g'=>g'=g/\((∃i,xs=[.int i]/\i.natAbs.log2<1920/\d=.str (toString i))\/∃x,xs=[.str x]/\-x<=2000/\d=.str x)
abbrev XS:DR:=λxs g d g'=>∃x,Ju xs=!x/\d=.str x/\g'=g
abbrev b74(f:Str):DR:=λxs g d g'=>∃a c fs,xs=[.ref a]/\g[a]?=!.ins c fs/\fs.lookup f=!d/\g'=g
abbrev appendR:DR:=λxs g d g'=>∃a y l,xs=[.ref a,y]/\g[a]?=!.lst l/\-l<100000/\d=.bg/\g'=g.set a (.lst (l++[y]))
abbrev b52:DR:=λxs g d g'=>∃a i l k,xs=[.ref a,.int i]/\g[a]?=!.lst l/\-(2 ^ 63)<=i/\i<2 ^ 63/\seqIndex? i (-l)=!k/\l[k]?=!d/\g'=g.set a (.lst (l.eraseIdx k))
abbrev b71:DR:=λxs g d g'=>∃a y z kvs c,xs=[.ref a,y,z]/\g[a]?=!.fb kvs/\C4 y=!c/\d=(v8 kvs c).getD z/\g'=g
abbrev uA:D->Bool
 |.bg=>true
 |.bl _=>true
 |.int _=>true
 |.str _=>true
 |_=>false
abbrev toV:D->V
 |.bl b=>.bl b
 |.int i=>.int i
 |.str x=>.str x
 |_=>.bg
abbrev W8(l:@&D)(y:D)(n:Nat):Prop:=l.all uA=true/\uA y=true/\(∃z,l[n]?=!z/\mL (toV z) (toV y)=true)/\∀(m:Nat) z,m<n->l[m]?=!z->mL (toV z) (toV y)=false
abbrev ZQ:DR:=λxs g d g'=>∃x y l n,xs=[x,y]/\F0 g x=!l/\W8 l y n/\-l<=100000/\d=.int n/\g'=g
abbrev joinR:DR:=λxs g d g'=>∃sep a ys,xs=[.str sep,.ref a]/\c9 g a=!ys.map .str/\TU sep ys<=100000/\d=.str (Builtin.Str.glued sep ys)/\g'=g
abbrev XX:DR:=λxs g d g'=>(∃i j,xs=[.int i,.int j]/\d=.int (i+j)/\g'=g)\/∃l m,xs=[.tup l,.tup m]/\-l+-m<=100000/\d=.tup (l++m)/\g'=g
abbrev ZE:DR:=λxs g d g'=>∃a l,xs=[.ref a]/\g[a]?=!.lst l/\d=.bg/\g'=g.set a (.lst [])
abbrev YI:DR:=λxs g d g'=>∃a l,xs=[.ref a]/\g[a]?=!.lst (l++[d])/\g'=g.set a (.lst l)
abbrev Ts:DR:=λxs g d g'=>∃a b l m,xs=[.ref a,.ref b]/\g[a]?=!.lst l/\g[b]?=!.lst m/\-l+-m<=100000/\d=.bg/\g'=g.set a (.lst (l++m))
abbrev ZI:DR:=λxs g d g'=>False\/∃a,∃ks:@&Int,xs=[.ref a]/\c9 g a=!(ks.map λk=>.tup [.int k,.bl true])/\-ks<=1000/\ks.Nodup/\d=.ref (-g)/\g'=g++[.fb (ks.map λk=>(.inl k,.bl true))]
abbrev ug(p:Key×Int×Int):Key×D:=(p.1,.tup [.int p.2.1,.int p.2.2])
abbrev Yh(n:Int)(p:Key×Int×Int):Bool:= ~~~(decide (p.2.1=n)||decide (p.2.2=n))
abbrev XJ:DR:=λxs g d g'=>∃a n,∃fs:@&(Key×Int×Int),xs=[.ref a,.int n]/\g[a]?=!.fb (fs.map ug)/\-fs<1000/\(fs.map (·.1)).Nodup/\d=.ref (-g)/\g'=g++[.fb ((fs.filter (Yh n)).map ug)]
abbrev delD(kvs:@&(Key×D))(k:Key):@&(Key×D):=kvs.filter λkv=>decide (kv.1≠k)
abbrev XO:DR:=λxs g d g'=>∃a y kvs c,xs=[.ref a,y]/\g[a]?=!.fb kvs/\C4 y=!c/\v8 kvs c=!d/\g'=g.set a (.fb (delD kvs c))
abbrev PR:Pr->DR
 |.CT=>XJ
 |.wZ=>XO
 |.ql n=>b21 n
 |.lS=>Zi
 |.clear=>ZE
 |.any=>anyR
 |.sum=>b37
 |.kY=>YT
 |.Bi=>Yi
 |.kX i=>bH0 i
 |.qS=>Yl
 |.oj=>X'
 |.vg=>bE8
 |.extend=>Ts
 |.AV=>YI
 |.oG=>ZI
 |.bin op=>b82 op
 |.un op=>Pk op
 |.cmp op=>b77 op
 |.ix=>Qm
 |.ku a b=>b39 a b
 |.rev=>b43
 |.tup=>b18
 |.lst=>b66
 |.V9=>XM
 |.len=>b67
 |.list=>Yk
 |.tuple=>bB8
 |.isin=>XZ
 |.all=>allR
 |.max=>b65
 |.min=>b64
 |.int=>b69
 |.str=>b38
 |.lh=>bM6
 |.lg=>bM5
 |.sset=>YX
 |.vd=>b36
 |.IJ=>Dr false
 |.wR=>Dr true
 |.oB=>XT
 |.fv=>SG
 |.CI=>XS
 |.fld f=>b74 f
 |.append=>appendR
 |.pop=>b52
 |.get=>b71
 |.index=>ZQ
 |.join=>joinR
 |.iadd=>XX
abbrev cN(p:Pr)(xs:@&D)(g:G)(Q:KD):Prop:=∃d g',PR p xs g d g'/\Q d g'
abbrev sy(g:G)(x y:D)(k:Bool->Prop):Prop:=∃b,wW g x y b/\k b
abbrev pG(g:G)(x y:D)(k:Bool->Prop):Prop:=∃b,inR g x y b/\k b
abbrev qT(g:G)(x:D)(k:Bool->Prop):Prop:=∃b,Ku g x b/\k b
abbrev b40(x y v:D)(g g':G):Prop:=(∃a i l j,x=.ref a/\y=.int i/\g[a]?=!.lst l/\mx (-l) i=!j/\g'=g.set a (.lst (l.set j v))) \/
 ∃a kvs c,x=.ref a/\g[a]?=!.fb kvs/\C4 y=!c/\-kvs<100000/\g'=g.set a (.fb (putD kvs c v))
abbrev Y5(x y v:D)(g:G)(k:G->Prop):Prop:=∃g',b40 x y v g g'/\k g'
abbrev JI(f:Str)(cs:@&Str)(x v:D)(g g':G):Prop:=∃a c fs,x=.ref a/\g[a]?=!.ins c fs/\c∈cs/\-fs<100/\g'=g.set a (.ins c (i7 f v fs))
abbrev xq(f:Str)(cs:@&Str)(x v:D)(g:G)(k:G->Prop):Prop:=∃g',JI f cs x v g g'/\k g'
abbrev mY:Pr->D->G->Prop
 |.get,x,g=>∃a kvs,x=.ref a/\g[a]?=!.fb kvs
 |.wZ,x,g=>∃a kvs,x=.ref a/\g[a]?=!.fb kvs
 |.join,x,g=>∃y,x=.str y
 |.kY,x,g=>∃a S n,x=.ref a/\g[a]?=!.set S n
 |.index,x,g=>(∃l,x=.tup l)\/∃a l,x=.ref a/\c9 g a=!l
 |_,x,g=>∃a l,x=.ref a/\c9 g a=!l
inductive IK where
 |fix (l:@&D)|lst (a:Nat)|pW (a:Nat)|tF (a n:Nat)
abbrev IK.at:IK->Nat->G->Option (Option D)
 |.fix l,i,_=>some l[i]?
 |.lst a,i,g=>match c9 g a with
  |some l=>some l[i]?
  |none=>none
 |.pW a,i,g=>match c9 g a with
  |some l=>!(l[i]?.map λd=>.tup [.int i,d])
  |none=>none
 |.tF a n,i,g=>match c9 g a with
  |some l=>if (-l)=n then some (if i<n then l[n-1-i]? else none) else none
  |none=>none
inductive MT where
 |one (i:Nat)|many (is:@&Nat)
abbrev Q8:@&Nat->@&D->S->Option S
 |[],[],Z=>!Z
 |i::is,d::ds,Z=>Q8 is ds (Z.set i (!d))
 |_,_,_=>none
abbrev kK(t:MT)(x:D)(Z:S)(k:S->Prop):Prop:=match t with
 |.one i=>k (Z.set i (!x))
 |.many is=>∃l cB,x=.tup l/\Q8 is l Z=!cB/\k cB
set_option genInjectivity false in
set_option genSizeOf false in
inductive ME where
 |var (i:Nat)|lit (d:D)
 |nil|cons (a b:ME)|prim (p:Pr) (es:ME)|eW (p:Pr) (o es:ME)
 |chain (o1 o2:CmpOp) (a b c:ME)
 |dF (a b:ME)|ke (a b:ME)|dQ (a:ME)|ite (c a b:ME)
 |call (f:Nat) (es:ME)|make (c:Str) (f:Nat) (es:ME)|cT (m:Str) (cs:@&(Str×Nat)) (o es:ME)
 |comp (d4:@&Nat) (n:Nat) (tg:MT) (it cond elt:ME)|iL (d4:@&Nat) (n:Nat) (tg:MT) (it cond elt:ME)
 |fQ (e:ME)|fE (a:ME)|lq (a b:ME)|lV (e:ME)|oS (e:ME)|fC (e:ME)|no
noncomputable abbrev fK:=Nat->@&D->G->KD->KX->Prop
abbrev L5(Z:S)(d4:@&Nat)(n:Nat):S:=d4.map (λj=>(Z[j]?).join)++List.replicate (n- -d4) none
abbrev turns(k:IK)(Z:S)(g:G)(fin:S->G->Prop)(turn:D->(S->G->Prop)->S->G->Prop):Prop :=
 ∃W:Nat->Nat->S->G->Prop,(∃m,W 0 m Z g)/\∀i m Z g,W i m Z g->(k.at i g=!none/\fin Z g)\/∃x,k.at i g=!!x/\∃N2:S->G->Prop,(∀cB g',N2 cB g'->∃m',m'<m/\W (i+1) m' cB g')/\turn x N2 Z g
abbrev Ge(k:IK)(Z:S)(g:G)(fin:@&D->G->Prop)(turn:D->(Option D->S->G->Prop)->S->G->Prop):Prop :=
 ∃W:Nat->Nat->@&D->S->G->Prop,(∃m,W 0 m [] Z g)/\∀i m ys Z g,W i m ys Z g->(k.at i g=!none/\fin ys g) \/
  ∃x,k.at i g=!!x/\-ys<100000/\turn x (λy cB g'=>∃m',m'<m/\W (i+1) m' (ys++y.toList) cB g') Z g
abbrev Gf(k:IK)(Z:S)(g:G)(fin:@&Int->G->Prop)(turn:D->(Option Int->S->G->Prop)->S->G->Prop):Prop :=
 ∃W:Nat->Nat->@&Int->S->G->Prop,(∃m,W 0 m [] Z g)/\∀i m ys Z g,W i m ys Z g->(k.at i g=!none/\-ys<60/\fin ys g) \/
  ∃x,k.at i g=!!x/\-ys<60/\turn x (λy cB g'=>∃m',m'<m/\W (i+1) m' (ys++y.toList) cB g') Z g
mutual
noncomputable def aY(P:fK):ME->S->G->KD->KX->Prop
 |.var i,Z,g,Q,_=>∃d,Z[i]?=!!d/\Q d g
 |.lit d,_,g,Q,_=>Q d g
 |.prim p es,Z,g,Q,E=>fN P es Z g (λxs g1=>cN p xs g1 Q) E
 |.eW p o es,Z,g,Q,E=>aY P o Z g (λx g1=>mY p x g1/\fN P es Z g1 (λxs g2=>cN p (x::xs) g2 Q) E) E
 |.chain o1 o2 a b c,Z,g,Q,E=>aY P a Z g (λx g1=>aY P b Z g1 (λy g2=>cN (.cmp o1) [x,y] g2 λz g3=>∃t,z=.bl t/\if t=true then aY P c Z g3 (λw g4=>cN (.cmp o2) [y,w] g4 Q) E else Q (.bl false) g3) E) E
 |.dF a b,Z,g,Q,E=>aY P a Z g (λx g1=>∃t,x=.bl t/\if t=true then aY P b Z g1 Q E else Q (.bl false) g1) E
 |.ke a b,Z,g,Q,E=>aY P a Z g (λx g1=>∃t,x=.bl t/\if t=true then Q (.bl true) g1 else aY P b Z g1 Q E) E
 |.dQ a,Z,g,Q,E=>aY P a Z g (λx g1=>∃t,x=.bl t/\Q (.bl (~~~t)) g1) E
 |.ite c a b,Z,g,Q,E=>dY P c Z g (λt g1=>if t=true then aY P a Z g1 Q E else aY P b Z g1 Q E) E
 |.call f es,Z,g,Q,E=>fN P es Z g (λxs g1=>P f xs g1 Q E) E
 |.make c f es,Z,g,Q,E=>fN P es Z g (λxs g1=>P f (.ref (-g1)::xs) (g1++[.ins c []]) (λd g2=>d=.bg/\Q (.ref (-g1)) g2) E) E
 |.cT m cs o es,Z,g,Q,E=>aY P o Z g (λx g1=>∃a c fs f,x=.ref a/\g1[a]?=!.ins c fs/\fs.lookup m=none/\cs.lookup c=!f/\fN P es Z g1 (λxs g2=>P f (x::xs) g2 Q E) E) E
 |.comp d4 n tg it cond elt,Z,g,Q,E=>iK P it Z g (λk g1=>Ge k (L5 Z d4 n) g1 (λys g=>Q (.ref (-g)) (g++[.lst ys])) λx N Z g=>kK tg x Z λcQ=>dY P cond cQ g (λb g3=>if b=true then aY P elt cQ g3 (λy g4=>N (!y) cQ g4) jZ else N none cQ g3) jZ) E
 |.iL d4 n tg it cond elt,Z,g,Q,E=>iK P it Z g (λk g1=>Gf k (L5 Z d4 n) g1 (λys g=>Q (.ref (-g)) (g++[.lst ((o8 ys).map .int)])) λx N Z g=>kK tg x Z λcQ=>dY P cond cQ g (λb g3=>if b=true then aY P elt cQ g3 (λy g4=>∃j,y=.int j/\N (!j) cQ g4) jZ else N none cQ g3) jZ) E
 |.nil,_,_,_,_=>False
 |.cons _ _,_,_,_,_=>False
 |.fQ _,_,_,_,_=>False
 |.fE _,_,_,_,_=>False
 |.lq _ _,_,_,_,_=>False
 |.lV _,_,_,_,_=>False
 |.oS _,_,_,_,_=>False
 |.fC _,_,_,_,_=>False
 |.no,_,_,_,_=>False
noncomputable def fN(P:fK):ME->S->G->(List D->G->Prop)->KX->Prop
 |.nil,_,g,Q,_=>Q [] g
 |.cons a b,Z,g,Q,E=>aY P a Z g (λx g1=>fN P b Z g1 (λxs g2=>Q (x::xs) g2) E) E
 |_,_,_,_,_=>False
noncomputable def dY(P:fK):ME->S->G->(Bool->G->Prop)->KX->Prop
 |.dF a b,Z,g,Q,E=>dY P a Z g (λt g1=>if t=true then dY P b Z g1 Q E else Q false g1) E
 |.ke a b,Z,g,Q,E=>dY P a Z g (λt g1=>if t=true then Q true g1 else dY P b Z g1 Q E) E
 |.dQ a,Z,g,Q,E=>dY P a Z g (λt g1=>Q (~~~t) g1) E
 |.no,_,g,Q,_=>Q true g
 |.fC e,Z,g,Q,E=>aY P e Z g (λx g1=>qT g1 x λb=>Q b g1) E
 |_,_,_,_,_=>False
noncomputable def iK(P:fK):ME->S->G->(IK->G->Prop)->KX->Prop
 |.fQ e,Z,g,R,E=>aY P e Z g (λx g1=>(∃l,x=.tup l/\R (.fix l) g1)\/∃a l,x=.ref a/\c9 g1 a=!l/\R (.lst a) g1) E
 |.fE a,Z,g,R,E=>aY P a Z g (λx g1=>∃j:Int,x=.int j/\-(2 ^ 62)<=j/\j<2 ^ 62/\R (.fix (j6 0 j.toNat)) g1) E
 |.lq a b,Z,g,R,E=>aY P a Z g (λx g1=>aY P b Z g1 (λy g2=>∃i j:Int,x=.int i/\y=.int j/\(-(2 ^ 62)<=i/\i<2 ^ 62/\-(2 ^ 62)<=j/\j<2 ^ 62)/\R (.fix (j6 i (j-i).toNat)) g2) E) E
 |.lV e,Z,g,R,E=>aY P e Z g (λx g1=>∃a l,x=.ref a/\c9 g1 a=!l/\R (.pW a) g1) E
 |.oS e,Z,g,R,E=>aY P e Z g (λx g1=>∃a l,x=.ref a/\c9 g1 a=!l/\R (.tF a (-l)) g1) E
 |_,_,_,_,_=>False
end
set_option genInjectivity false in
set_option genSizeOf false in
inductive MS where
 |pass|seq (a b:MS)|expr (e:ME)|set (i:Nat) (e:ME)|nE (t:MT) (e:ME)|fe (o i v:ME)|fJ (f:Str) (cs:@&Str) (o v:ME)
 |lD (f:Str) (cs:@&Str) (o v:ME)|lC (i:Nat) (p:Pr) (v:ME)|yC (o1 i1 o2 i2 e:ME)|mV (o a b v:ME)
 |ifs (c:ME) (a b:MS)|eL (t:MT) (it:ME) (b:MS)|kU (c:ME) (b:MS)|ret (e:ME)|rA|brk|cont
 |raise (x:Str) (es:ME)|va (b:MS) (hs:@&(Str×ME))|uZ (e:ME) (y:Str) (b:MS)
structure Ends where
 nx:S->G->Prop
 rt:KD
 bk:S->G->Prop:=λ_ _=>False
 ct:S->G->Prop:=λ_ _=>False
abbrev uY(P:fK)(N:Ends)(Z:S)(E:KX):@&(Str×ME)->KX
 |[],x,g=>E x g
 |(y,e)::r,x,g=>if x.cls=y\/y="MintError" then aY P e Z g N.rt jZ else uY P N Z E r x g
abbrev wpS(P:fK):MS->Ends->S->G->KX->Prop
 |.pass,N,Z,g,_=>N.nx Z g
 |.seq a b,N,Z,g,E=>wpS P a { N with nx:=λjt g1=>wpS P b N jt g1 E } Z g E
 |.expr e,N,Z,g,E=>aY P e Z g (λs g1=>N.nx Z g1) E
 |.set i e,N,Z,g,E=>aY P e Z g (λx g1=>N.nx (Z.set i (!x)) g1) E
 |.nE t e,N,Z,g,E=>aY P e Z g (λx g1=>kK t x Z λjt=>N.nx jt g1) E
 |.mV o a b v,N,Z,g,E=>aY P v Z g (λz g1=>aY P o Z g1 (λw g2=>fN P (.cons a (.cons b .nil)) Z g2 (λks g3=>∃x y,ks=[x,y]/\Fz w x y z g3 λg4=>N.nx Z g4) E) E) E
 |.fe o i v,N,Z,g,E=>aY P v Z g (λx g1=>aY P o Z g1 (λy g2=>aY P i Z g2 (λz g3=>Y5 y z x g3 λg4=>N.nx Z g4) E) E) E
 |.fJ f cs o v,N,Z,g,E=>aY P v Z g (λx g1=>aY P o Z g1 (λy g2=>xq f cs y x g2 λg3=>N.nx Z g3) E) E
 |.lD f cs o v,N,Z,g,E=>aY P o Z g (λy g1=>∃a c fs x,y=.ref a/\g1[a]?=!.ins c fs/\c∈cs/\fs.lookup f=!x/\aY P v Z g1 (λz g3=>cN .iadd [x,z] g3 λw g4=>∃jP,g4[a]?=!.ins c jP/\-jP<100/\N.nx Z (g4.set a (.ins c (i7 f w jP)))) E) E
 |.yC o1 i1 o2 i2 e,N,Z,g,E=>aY P e Z g (λx g1=>∃u v,x=.tup [u,v]/\aY P o1 Z g1 (λy1 g2=>aY P i1 Z g2 (λz1 g3=>Y5 y1 z1 u g3 λg4=>aY P o2 Z g4 (λy2 g5=>aY P i2 Z g5 (λz2 g6=>Y5 y2 z2 v g6 λg7=>N.nx Z g7) E) E) E) E) E
 |.lC i p v,N,Z,g,E=>∃x,Z[i]?=!!x/\aY P v Z g (λz g1=>cN p [x,z] g1 λw g2=>N.nx (Z.set i (!w)) g2) E
 |.ifs c a b,N,Z,g,E=>dY P c Z g (λt g1=>if t=true then wpS P a N Z g1 E else wpS P b N Z g1 E) E
 |.eL t it b,N,Z,g,E=>iK P it Z g (λk g1=>turns k Z g1 N.nx λx N2 Z g=>kK t x Z λcQ=>wpS P b { N with nx:=N2,ct:=N2,bk:=N.nx } cQ g E) E
 |.kU c b,N,Z,g,E=>∃W:Nat->S->G->Prop,(∃m,W m Z g)/\∀m Z g,W m Z g->dY P c Z g (λt g1=>if t=true then ∃N2:S->G->Prop,(∀cB g',N2 cB g'->∃m',m'<m/\W m' cB g')/\wpS P b { N with nx:=N2,ct:=N2,bk:=N.nx } Z g1 E else N.nx Z g1) E
 |.ret e,N,Z,g,E=>aY P e Z g N.rt E
 |.rA,N,_,g,_=>N.rt .bg g
 |.brk,N,Z,g,_=>N.bk Z g
 |.cont,N,Z,g,_=>N.ct Z g
 |.raise x es,_,Z,g,E=>fN P es Z g (λvs g1=>-vs<=1000/\E #[x] g1) E
 |.va b hs,N,Z,g,E=>wpS P b N Z g (uY P N (Z.map λs=>none) E hs)
 |.uZ e y b,N,Z,g,E=>aY P e Z g (λs g1=>N.nx Z g1) λx g1=>if x.cls=y\/y="MintError" then wpS P b N Z g1 jZ else E x g1
structure aV where
 ar:Nat
 n:Nat
 body:MS
abbrev c8(m:aV)(ds:@&D):S:=ds.map some++List.replicate (m.n- -ds) none
abbrev b0(T:Nat->Option aV):Nat->fK
 |0,_,_,_,_,_=>False
 |k+1,f,ds,g,Q,E=>∃m,T f=!m/\-ds=m.ar/\wpS (b0 T k) m.body #[λx g'=>Q .bg g',Q,λx x=>False,λx x=>False] (c8 m ds) g E
end M
namespace M
open PySem L2
variable{g:G}{H:Hp}{a p:Addr}{vs:@&V}{i:Nat}{o:O}{u:HO}{l:@&D}
def v9{p xs}{Q Q':KD}(h:∀d g,Q d g->Q' d g)(q:cN p xs g Q):cN p xs g Q':=by
 let#[d,g',a,b]:=q;exact#[d,g',a,h _ _ b]
def a30{x}{k k':Bool->Prop}(h:∀b,k b->k' b)(q:qT g x k):qT g x k':=by
 let#[b,a,z]:=q;exact#[b,a,h _ z]
def X0{x y v}{k k':G->Prop}(h:∀g,k g->k' g)(q:Y5 x y v g k):Y5 x y v g k':=by
 let#[b,a,z]:=q;exact#[b,a,h _ z]
def aV2{f cs x v}{k k':G->Prop}(h:∀g,k g->k' g)(q:xq f cs x v g k):xq f cs x v g k':=by
 let#[b,a,z]:=q;exact#[b,a,h _ z]
def B8{t x Z}{k k':S->Prop}(h:∀Z,k Z->k' Z)(q:kK t x Z k):kK t x Z k':=by
 cases t with
 |one i=>exact h _ q
 |many is=>let#[l,cB,a,b,c]:=q;exact#[l,cB,a,b,h _ c]
def aT9{k Z g}{fin lA:S->G->Prop}{turn iV:D->(S->G->Prop)->S->G->Prop}(h:∀Z g,fin Z g->lA Z g)(h2:∀x N Z g,turn x N Z g->iV x N Z g)(q:turns k Z g fin turn):turns k Z g lA iV:=by
 let#[W,w0,q]:=q;refine#[W,w0,λi m Z g w=>?_];rcases q i m Z g w with⟨a,b⟩|⟨x,a,N2,b,c⟩
 .exact .inl #[a,h _ _ b]
 .exact .inr #[x,a,N2,b,h2 _ _ _ _ c]
def aM2{k Z g}{fin lA:@&D->G->Prop}{turn iV:D->(Option D->S->G->Prop)->S->G->Prop}(h:∀ys g,fin ys g->lA ys g)(h2:∀x N Z g,turn x N Z g->iV x N Z g)(q:Ge k Z g fin turn):Ge k Z g lA iV:=by
 let#[W,w0,q]:=q;refine#[W,w0,λi m ys Z g w=>?_];rcases q i m ys Z g w with⟨a,b⟩|⟨x,a,b,c⟩
 .exact .inl #[a,h _ _ b]
 .exact .inr #[x,a,b,h2 _ _ _ _ c]
def aM1{k Z g}{fin lA:@&Int->G->Prop}{turn iV:D->(Option Int->S->G->Prop)->S->G->Prop}(h:∀ys g,fin ys g->lA ys g)(h2:∀x N Z g,turn x N Z g->iV x N Z g)(q:Gf k Z g fin turn):Gf k Z g lA iV:=by
 let#[W,w0,q]:=q;refine#[W,w0,λi m ys Z g w=>?_];rcases q i m ys Z g w with⟨a,b,c⟩|⟨x,a,b,c⟩
 .exact .inl #[a,b,h _ _ c]
 .exact .inr #[x,a,b,h2 _ _ _ _ c]
def K3{t:Bool}{A B A' B':Prop}(h1:A->A')(h2:B->B')(q:if t=true then A else B):if t=true then A' else B':=by
 cases t
 .exact h2 q
 .exact h1 q
abbrev i5(P:fK):Prop:=∀f xs g Q Q' E E',(∀d g,Q d g->Q' d g)->(∀x g,E x g->E' x g)->P f xs g Q E->P f xs g Q' E'
mutual
def b9{P:fK}(hP:i5 P):∀(e:ME) (Z:S) (g:G) (Q Q':KD) (E E':KX),(∀d g,Q d g->Q' d g)->(∀x g,E x g->E' x g)->aY P e Z g Q E->aY P e Z g Q' E'
 |.var i,Z,g,Q,Q',E,E',h,hx,q=>by
  let#[d,a,b]:=q;exact#[d,a,h _ _ b]
 |.lit d,Z,g,Q,Q',E,E',h,hx,q=>by exact h _ _ q
 |.prim p es,Z,g,Q,Q',E,E',h,hx,q=>by
  exact F7 hP es _ _ _ _ _ _ (λxs g1 q=>v9 h q) hx q
 |.eW p o es,Z,g,Q,Q',E,E',h,hx,q=>by
  exact b9 hP o _ _ _ _ _ _ (λx g1 q=>#[q.1,F7 hP es _ _ _ _ _ _ (λxs g2 q=>v9 h q) hx q.2]) hx q
 |.chain o1 o2 a b c,Z,g,Q,Q',E,E',h,hx,q=>by
  refine b9 hP a _ _ _ _ _ _ (λx g1 q=>b9 hP b _ _ _ _ _ _ (λy g2 q=>v9 (λz g3 q=>?_) q) hx q) hx q;let#[t,e,q]:=q;exact#[t,e,K3 (λq=>b9 hP c _ _ _ _ _ _ (λw g4 q=>v9 h q) hx q) (h _ _) q]
 |.dF a b,Z,g,Q,Q',E,E',h,hx,q=>by
  refine b9 hP a _ _ _ _ _ _ (λx g1 q=>?_) hx q;let#[t,e,q]:=q;exact#[t,e,K3 (λq=>b9 hP b _ _ _ _ _ _ h hx q) (h _ _) q]
 |.ke a b,Z,g,Q,Q',E,E',h,hx,q=>by
  refine b9 hP a _ _ _ _ _ _ (λx g1 q=>?_) hx q;let#[t,e,q]:=q;exact#[t,e,K3 (h _ _) (λq=>b9 hP b _ _ _ _ _ _ h hx q) q]
 |.dQ a,Z,g,Q,Q',E,E',h,hx,q=>by
  refine b9 hP a _ _ _ _ _ _ (λx g1 q=>?_) hx q;let#[t,e,q]:=q;exact#[t,e,h _ _ q]
 |.ite c a b,Z,g,Q,Q',E,E',h,hx,q=>by
  exact v7 hP c _ _ _ _ _ _ (λt g1 q=>K3 (λq=>b9 hP a _ _ _ _ _ _ h hx q) (λq=>b9 hP b _ _ _ _ _ _ h hx q) q) hx q
 |.call f es,Z,g,Q,Q',E,E',h,hx,q=>by
  exact F7 hP es _ _ _ _ _ _ (λxs g1 q=>hP _ _ _ _ _ _ _ h hx q) hx q
 |.make c f es,Z,g,Q,Q',E,E',h,hx,q=>by
  exact F7 hP es _ _ _ _ _ _ (λxs g1 q=>hP _ _ _ _ _ _ _ (λd g2 q=>#[q.1,h _ _ q.2]) hx q) hx q
 |.cT m cs o es,Z,g,Q,Q',E,E',h,hx,q=>by
  refine b9 hP o _ _ _ _ _ _ (λx g1 q=>?_) hx q;let#[a,c,fs,f,q1,q2,q3,q4,q]:=q;exact#[a,c,fs,f,q1,q2,q3,q4,F7 hP es _ _ _ _ _ _ (λxs g2 q=>hP _ _ _ _ _ _ _ h hx q) hx q]
 |.comp d4 n tg it cond elt,Z,g,Q,Q',E,E',h,hx,q=>by
  exact E4 hP it _ _ _ _ _ _ (λk g1 q=>aM2 (λys g q=>h _ _ q) (λv v v v q=>q) q) hx q
 |.iL d4 n tg it cond elt,Z,g,Q,Q',E,E',h,hx,q=>by
  exact E4 hP it _ _ _ _ _ _ (λk g1 q=>aM1 (λys g q=>h _ _ q) (λv v v v q=>q) q) hx q
 |.nil,Z,g,Q,Q',E,E',h,hx,q=>(show False from q).elim
 |.cons _ _,Z,g,Q,Q',E,E',h,hx,q=>(show False from q).elim
 |.fQ _,Z,g,Q,Q',E,E',h,hx,q=>(show False from q).elim
 |.fE _,Z,g,Q,Q',E,E',h,hx,q=>(show False from q).elim
 |.lq _ _,Z,g,Q,Q',E,E',h,hx,q=>(show False from q).elim
 |.lV _,Z,g,Q,Q',E,E',h,hx,q|.oS _,Z,g,Q,Q',E,E',h,hx,q=>(show False from q).elim
 |.fC _,Z,g,Q,Q',E,E',h,hx,q=>(show False from q).elim
 |.no,Z,g,Q,Q',E,E',h,hx,q=>(show False from q).elim
def F7{P:fK}(hP:i5 P):∀(e:ME) (Z:S) (g:G) (Q Q':@&D->G->Prop) (E E':KX),(∀d g,Q d g->Q' d g)->(∀x g,E x g->E' x g)->fN P e Z g Q E->fN P e Z g Q' E'
 |.nil,Z,g,Q,Q',E,E',h,hx,q=>by exact h _ _ q
 |.cons a b,Z,g,Q,Q',E,E',h,hx,q=>by
  exact b9 hP a _ _ _ _ _ _ (λx g1 q=>F7 hP b _ _ _ _ _ _ (λxs g2 q=>h _ _ q) hx q) hx q
 |.var _,Z,g,Q,Q',E,E',h,hx,q|.lit _,Z,g,Q,Q',E,E',h,hx,q|.prim _ _,Z,g,Q,Q',E,E',h,hx,q|.eW _ _ _,Z,g,Q,Q',E,E',h,hx,q|.chain _ _ _ _ _,Z,g,Q,Q',E,E',h,hx,q|.dF _ _,Z,g,Q,Q',E,E',h,hx,q|.ke _ _,Z,g,Q,Q',E,E',h,hx,q|.dQ _,Z,g,Q,Q',E,E',h,hx,q|.ite _ _ _,Z,g,Q,Q',E,E',h,hx,q|.call _ _,Z,g,Q,Q',E,E',h,hx,q
 |.make _ _ _,Z,g,Q,Q',E,E',h,hx,q|.cT _ _ _ _,Z,g,Q,Q',E,E',h,hx,q|.comp _ _ _ _ _ _,Z,g,Q,Q',E,E',h,hx,q|.iL _ _ _ _ _ _,Z,g,Q,Q',E,E',h,hx,q|.fQ _,Z,g,Q,Q',E,E',h,hx,q|.fE _,Z,g,Q,Q',E,E',h,hx,q|.lq _ _,Z,g,Q,Q',E,E',h,hx,q|.lV _,Z,g,Q,Q',E,E',h,hx,q|.oS _,Z,g,Q,Q',E,E',h,hx,q|.fC _,Z,g,Q,Q',E,E',h,hx,q|.no,Z,g,Q,Q',E,E',h,hx,q=>(show False from q).elim
def v7{P:fK}(hP:i5 P):∀(e:ME) (Z:S) (g:G) (Q Q':Bool->G->Prop) (E E':KX),(∀d g,Q d g->Q' d g)->(∀x g,E x g->E' x g)->dY P e Z g Q E->dY P e Z g Q' E'
 |.dF a b,Z,g,Q,Q',E,E',h,hx,q=>by
  exact v7 hP a _ _ _ _ _ _ (λt g1 q=>K3 (λq=>v7 hP b _ _ _ _ _ _ h hx q) (h _ _) q) hx q
 |.ke a b,Z,g,Q,Q',E,E',h,hx,q=>by
  exact v7 hP a _ _ _ _ _ _ (λt g1 q=>K3 (h _ _) (λq=>v7 hP b _ _ _ _ _ _ h hx q) q) hx q
 |.dQ a,Z,g,Q,Q',E,E',h,hx,q=>by exact v7 hP a _ _ _ _ _ _ (λt g1 q=>h _ _ q) hx q
 |.no,Z,g,Q,Q',E,E',h,hx,q=>by exact h _ _ q
 |.fC e,Z,g,Q,Q',E,E',h,hx,q=>by exact b9 hP e _ _ _ _ _ _ (λx g1 q=>a30 (λb q=>h _ _ q) q) hx q
 |.var _,Z,g,Q,Q',E,E',h,hx,q|.lit _,Z,g,Q,Q',E,E',h,hx,q|.prim _ _,Z,g,Q,Q',E,E',h,hx,q|.eW _ _ _,Z,g,Q,Q',E,E',h,hx,q|.chain _ _ _ _ _,Z,g,Q,Q',E,E',h,hx,q|.ite _ _ _,Z,g,Q,Q',E,E',h,hx,q|.call _ _,Z,g,Q,Q',E,E',h,hx,q|.nil,Z,g,Q,Q',E,E',h,hx,q|.cons _ _,Z,g,Q,Q',E,E',h,hx,q
 |.make _ _ _,Z,g,Q,Q',E,E',h,hx,q|.cT _ _ _ _,Z,g,Q,Q',E,E',h,hx,q|.comp _ _ _ _ _ _,Z,g,Q,Q',E,E',h,hx,q|.iL _ _ _ _ _ _,Z,g,Q,Q',E,E',h,hx,q|.fQ _,Z,g,Q,Q',E,E',h,hx,q|.fE _,Z,g,Q,Q',E,E',h,hx,q|.lq _ _,Z,g,Q,Q',E,E',h,hx,q|.lV _,Z,g,Q,Q',E,E',h,hx,q|.oS _,Z,g,Q,Q',E,E',h,hx,q=>(show False from q).elim
def E4{P:fK}(hP:i5 P):∀(e:ME) (Z:S) (g:G) (Q Q':IK->G->Prop) (E E':KX),(∀d g,Q d g->Q' d g)->(∀x g,E x g->E' x g)->iK P e Z g Q E->iK P e Z g Q' E'
 |.fQ e,Z,g,Q,Q',E,E',h,hx,q=>by
  exact b9 hP e _ _ _ _ _ _ (λx g1 q=>q.imp (by rintro ⟨l,a,b⟩;exact #[l,a,h _ _ b]) (by rintro ⟨i,l,a,b,c⟩;exact #[i,l,a,b,h _ _ c])) hx q
 |.fE a,Z,g,Q,Q',E,E',h,hx,q=>by
  exact b9 hP a _ _ _ _ _ _ (by rintro x g1 ⟨j,a,b,c,d⟩;exact #[j,a,b,c,h _ _ d]) hx q
 |.lq a b,Z,g,Q,Q',E,E',h,hx,q=>by
  exact b9 hP a _ _ _ _ _ _ (λx g1 q=>b9 hP b _ _ _ _ _ _ (by rintro y g2 ⟨i,j,a,b,c,d⟩;exact #[i,j,a,b,c,h _ _ d]) hx q) hx q
 |.lV e,Z,g,Q,Q',E,E',h,hx,q=>by
  exact b9 hP e _ _ _ _ _ _ (by rintro x g1 ⟨i,l,a,b,c⟩;exact #[i,l,a,b,h _ _ c]) hx q
 |.oS e,Z,g,Q,Q',E,E',h,hx,q=>by
  exact b9 hP e _ _ _ _ _ _ (by rintro x g1 ⟨i,l,a,b,c⟩;exact #[i,l,a,b,h _ _ c]) hx q
 |.var _,Z,g,Q,Q',E,E',h,hx,q|.lit _,Z,g,Q,Q',E,E',h,hx,q|.prim _ _,Z,g,Q,Q',E,E',h,hx,q|.eW _ _ _,Z,g,Q,Q',E,E',h,hx,q|.chain _ _ _ _ _,Z,g,Q,Q',E,E',h,hx,q|.ite _ _ _,Z,g,Q,Q',E,E',h,hx,q|.call _ _,Z,g,Q,Q',E,E',h,hx,q|.nil,Z,g,Q,Q',E,E',h,hx,q|.cons _ _,Z,g,Q,Q',E,E',h,hx,q
 |.dF _ _,Z,g,Q,Q',E,E',h,hx,q|.ke _ _,Z,g,Q,Q',E,E',h,hx,q|.dQ _,Z,g,Q,Q',E,E',h,hx,q|.fC _,Z,g,Q,Q',E,E',h,hx,q|.no,Z,g,Q,Q',E,E',h,hx,q
 |.make _ _ _,Z,g,Q,Q',E,E',h,hx,q|.cT _ _ _ _,Z,g,Q,Q',E,E',h,hx,q|.comp _ _ _ _ _ _,Z,g,Q,Q',E,E',h,hx,q|.iL _ _ _ _ _ _,Z,g,Q,Q',E,E',h,hx,q=>(show False from q).elim
end
structure Ends.le(N N':Ends):Prop where
 nx:∀Z g,N.nx Z g->N'.nx Z g
 rt:∀d g,N.rt d g->N'.rt d g
 bk:∀Z g,N.bk Z g->N'.bk Z g
 ct:∀Z g,N.ct Z g->N'.ct Z g
set_option tactic.hygienic true in
def NP{P:fK}(hP:i5 P){N N':Ends}{E E':KX}(h:N.le N')(hx:∀x g,E x g->E' x g){Z:S}:∀(hs:@&(Str×ME)) x g,uY P N Z E hs x g->uY P N' Z E' hs x g
 |[],x,g,q=>hx x g q
 |(y,e)::r,x,g,q=>by
  unfold uY at q ⊢;split
  .rename_i hh;rw[ay hh] at q;exact b9 hP e _ _ _ _ _ _ h.rt (λw w z=>z) q
  .rename_i hh;rw[az hh] at q;exact NP hP h hx r x g q
set_option tactic.hygienic true in
def wpS_mono{P:fK}(hP:i5 P):∀(s:MS) (N N':Ends) (Z:S) (g:G) (E E':KX),N.le N'->(∀x g,E x g->E' x g)->wpS P s N Z g E->wpS P s N' Z g E'
 |.pass,N,N',Z,g,E,E',h,hx,q=>h.nx _ _ q
 |.seq a b,N,N',Z,g,E,E',h,hx,q=>wpS_mono hP a { N with nx:=λjt g1=>wpS P b N jt g1 E } { N' with nx:=λjt g1=>wpS P b N' jt g1 E' } _ _ _ _ #[λjt g1 q=>wpS_mono hP b _ _ _ _ _ _ h hx q,h.rt,h.bk,h.ct] hx q
 |.expr e,N,N',Z,g,E,E',h,hx,q=>b9 hP e _ _ _ _ _ _ (λx g1 q=>h.nx _ _ q) hx q
 |.set i e,N,N',Z,g,E,E',h,hx,q=>b9 hP e _ _ _ _ _ _ (λx g1 q=>h.nx _ _ q) hx q
 |.nE t e,N,N',Z,g,E,E',h,hx,q=>b9 hP e _ _ _ _ _ _ (λx g1 q=>B8 (λZ q=>h.nx _ _ q) q) hx q
 |.mV o a b v,N,N',Z,g,E,E',h,hx,q=>b9 hP v _ _ _ _ _ _ (λx g1 q=>b9 hP o _ _ _ _ _ _ (λy g2 q=>F7 hP (.cons a (.cons b .nil)) _ _ _ _ _ _ (by rintro z g3 ⟨x1,y1,e,g4,t,q⟩;exact #[x1,y1,e,g4,t,h.nx _ _ q]) hx q) hx q) hx q
 |.fe o i v,N,N',Z,g,E,E',h,hx,q=>b9 hP v _ _ _ _ _ _ (λx g1 q=>b9 hP o _ _ _ _ _ _ (λy g2 q=>b9 hP i _ _ _ _ _ _ (λz g3 q=>X0 (λg q=>h.nx _ _ q) q) hx q) hx q) hx q
 |.fJ f cs o v,N,N',Z,g,E,E',h,hx,q=>b9 hP v _ _ _ _ _ _ (λx g1 q=>b9 hP o _ _ _ _ _ _ (λy g2 q=>aV2 (λg q=>h.nx _ _ q) q) hx q) hx q
 | .lD f cs o v,N,N',Z,g,E,E',h,hx,q=>b9 hP o _ _ _ _ _ _ (λy g1 q=>by
   let#[a,c,fs,x,q1,q2,q3,q4,q]:=q;exact #[a,c,fs,x,q1,q2,q3,q4,b9 hP v _ _ _ _ _ _ (λz g3 q=>v9 (λw g4 q=>by
    let#[jP,k1,k2,k3]:=q;exact #[jP,k1,k2,h.nx _ _ k3]) q) hx q]) hx q
 |.yC o1 i1 o2 i2 e,N,N',Z,g,E,E',h,hx,q=>b9 hP e _ _ _ _ _ _ (λx g1 q=>let ⟨u,v,q1,q⟩:=q;#[u,v,q1,b9 hP o1 _ _ _ _ _ _ (λy g2 q=>b9 hP i1 _ _ _ _ _ _ (λz g3 q=>X0 (λg4 q=>b9 hP o2 _ _ _ _ _ _ (λy g5 q=>b9 hP i2 _ _ _ _ _ _ (λz g6 q=>X0 (λg q=>h.nx _ _ q) q) hx q) hx q) q) hx q) hx q]) hx q
 |.lC i p v,N,N',Z,g,E,E',h,hx,q=>let ⟨x,q1,q⟩:=q;#[x,q1,b9 hP v _ _ _ _ _ _ (λz g1 q=>v9 (λw g2 q=>h.nx _ _ q) q) hx q]
 |.ifs c a b,N,N',Z,g,E,E',h,hx,q=>v7 hP c _ _ _ _ _ _ (λt g1 q=>K3 (λq=>wpS_mono hP a _ _ _ _ _ _ h hx q) (λq=>wpS_mono hP b _ _ _ _ _ _ h hx q) q) hx q
 |.eL t it b,N,N',Z,g,E,E',h,hx,q=>E4 hP it _ _ _ _ _ _ (λk g1 q=>aT9 h.nx (λx N2 Z g q=>B8 (λcQ q=>wpS_mono hP b { N with nx:=N2,ct:=N2,bk:=N.nx } { N' with nx:=N2,ct:=N2,bk:=N'.nx } _ _ _ _ #[λr r z=>z,h.rt,h.nx,λr r z=>z] hx q) q) q) hx q
 |.kU c b,N,N',Z,g,E,E',h,hx,q=>by
  let#[W,w0,q]:=q;refine#[W,w0,λm Z g w=>v7 hP c _ _ _ _ _ _ (λt g1 q=>K3 (λq=>?_) (h.nx _ _) q) hx (q m Z g w)];let#[N2,a,q]:=q;exact#[N2,a,wpS_mono hP b { N with nx:=N2,ct:=N2,bk:=N.nx } { N' with nx:=N2,ct:=N2,bk:=N'.nx } _ _ _ _ #[λr r z=>z,h.rt,h.nx,λr r z=>z] hx q]
 |.ret e,N,N',Z,g,E,E',h,hx,q=>b9 hP e _ _ _ _ _ _ h.rt hx q
 |.rA,N,N',Z,g,E,E',h,hx,q=>h.rt _ _ q
 |.brk,N,N',Z,g,E,E',h,hx,q=>h.bk _ _ q
 |.cont,N,N',Z,g,E,E',h,hx,q=>h.ct _ _ q
 |.raise x es,N,N',Z,g,E,E',h,hx,q=>F7 hP es _ _ _ _ _ _ (λvs g1 q=>#[q.1,hx _ _ q.2]) hx q
 |.va b hs,N,N',Z,g,E,E',h,hx,q=>wpS_mono hP b _ _ _ _ _ _ h (λx g q=>NP hP h hx hs x g q) q
 | .uZ e y b,N,N',Z,g,E,E',h,hx,q=>b9 hP e _ _ _ _ _ _ (λr g1 z=>h.nx _ _ z) (λx g1 z=>by
  split at z
  .rename_i c;rw[ay c];exact wpS_mono hP b _ _ _ _ _ _ h (λr r z=>z) z
  .rename_i c;rw[az c];exact hx _ _ z) q
def a8(T:Nat->Option aV):∀k,i5 (b0 T k)
 |0=>λf xs g Q Q' E E' h hx q=>q.elim
 |k+1=>λf xs g Q Q' E E' h hx q=>by
  let#[m,a,b,q]:=q;exact#[m,a,b,wpS_mono (a8 T k) m.body #[λx g'=>Q .bg g',Q,λx x=>False,λx x=>False] _ _ _ _ _ #[λx x z=>h _ _ z,h,λx x z=>z,λx x z=>z] hx q]
abbrev TupAt(K:PySem.W.Frag)(H:Hp)(a:Addr)(vs:@&V):Prop :=
 H a=!.tup vs\/∃(o:Obj) (bh:Array Value) (n:Nat),K.lookup a=!o/\o.cls=.type "tuple"/\o.dict=none/\o.data=.seq bh n/\bh.size<=sizeLine/\Vals vs bh.toList
def TupAt.d{K:PySem.W.Frag}(h:TupAt K H a vs):xS K H a vs:=h
def TupAt.sq{K:PySem.W.Frag}{H:Hp}{a:Addr}{vs:@&V}(h:TupAt K H a vs):iO K H a vs:=h.d.sq
mutual
inductive d5(K:PySem.W.Frag)(ρ:@&Addr)(H:Hp):D->V->Prop
 |bg:d5 K ρ H .bg .bg
 |bl (b:Bool):d5 K ρ H (.bl b) (.bl b)
 |int (i:Int):d5 K ρ H (.int i) (.int i)
 |str (x:Str):d5 K ρ H (.str x) (.str x)
 |ty (n:String):d5 K ρ H (.ty n) (.ty n)
 |ref {i:Nat} {a:Addr} (h:ρ[i]?=!a):d5 K ρ H (.ref i) (.ref a)
 |tup {l:@&D} {a:Addr} {vs:@&V} (h:TupAt K H a vs) (r:c7 K ρ H l vs):d5 K ρ H (.tup l) (.ref a)
inductive c7(K:PySem.W.Frag)(ρ:@&Addr)(H:Hp):@&D->@&V->Prop
 |nil:c7 K ρ H [] []
 |cons {d:D} {v:V} {ds:@&D} {vs:@&V} (h:d5 K ρ H d v) (r:c7 K ρ H ds vs):c7 K ρ H (d::ds) (v::vs)
end
structure Ext(ρ:@&Addr)(H:Hp)(cw:@&Addr)(H':Hp):Prop where
 pre:∃more,cw=ρ++more
 tup:∀a xs,H a=!.tup xs->H' a=!.tup xs
def Ext.refl(ρ:@&Addr)(H:Hp):Ext ρ H ρ H:=#[#[[],by simp],λx x h=>h]
def Ext.trans{ρ H cv H1 eV H2}(a:Ext ρ H cv H1)(b:Ext cv H1 eV H2):Ext ρ H eV H2:=by
 let#[#[m,rfl],t]:=a;let#[#[m',rfl],t']:=b;exact#[#[m++m',by simp],λx xs h=>t' _ _ (t _ _ h)]
def Ext.get{ρ H cw H'}(e:Ext ρ H cw H')(h:ρ[i]?=!a):cw[i]?=!a:=by
 let#[#[m,rfl],_]:=e;rw[aH (av.mp h).1];exact h
def TupAt.ext{K ρ H cw H'}(e:Ext ρ H cw H')(h:TupAt K H a vs):TupAt K H' a vs:=h.elim (λz=>.inl (e.tup _ _ z)) .inr
mutual
def d5.ext{K ρ H cw H'}(e:Ext ρ H cw H'):∀{d v},d5 K ρ H d v->d5 K cw H' d v
 |_,_,.bg=>.bg
 |_,_,.bl b=>.bl b
 |_,_,.int i=>.int i
 |_,_,.str x=>.str x
 |_,_,.ty n=>.ty n
 |_,_,.ref h=>.ref (e.get h)
 |_,_,.tup h r=>.tup (h.ext e) (c7.ext e r)
def c7.ext{K ρ H cw H'}(e:Ext ρ H cw H'):∀{ds vs},c7 K ρ H ds vs->c7 K cw H' ds vs
 |_,_,.nil=>.nil
 |_,_,.cons h r=>.cons (d5.ext e h) (c7.ext e r)
end
def c7.length{K ρ H}{ds:@&D}{vs:@&V}(h:c7 K ρ H ds vs):-ds=-vs:=by
 induction ds generalizing vs with
 |nil=>cases h;rfl
 |cons d ds ih =>
  cases h with
  |cons q r=>simp[ih r]
def c7.get{K ρ H}:∀{ds vs} {i:Nat} {d:D},c7 K ρ H ds vs->ds[i]?=!d->∃v,vs[i]?=!v/\d5 K ρ H d v
 |_,_,_,_,.nil,h=>by simp at h
 |_,_,0,_,.cons h _,e=>by simp at e;subst e;exact#[_,rfl,h]
 |_,_,i+1,d,.cons _ r,e=>by
  let#[v,h1,h2]:=c7.get (i:=i) (d:=d) r (by simpa using e);exact#[v,by simpa using h1,h2]
def c7.set{K ρ H}{d:D}{v:V}(h:d5 K ρ H d v):∀{ds vs} (i:Nat),c7 K ρ H ds vs->c7 K ρ H (ds.set i d) (vs.set i v)
 |_,_,_,.nil=>.nil
 |_,_,0,.cons _ r=>.cons h r
 |_,_,i+1,.cons q r=>.cons q (c7.set h i r)
def c7.append{K ρ H}{ds es:@&D}{ws:@&V}(h:c7 K ρ H ds vs)(s:c7 K ρ H es ws):c7 K ρ H (ds++es) (vs++ws):=by
 induction ds generalizing vs with
 |nil=>cases h;exact s
 |cons d ds ih =>
  cases h with
  |cons q r=>exact .cons q (ih r)
def c7.rep{K ρ H}{ds:@&D}{vs:@&V}(r:c7 K ρ H ds vs):∀n,c7 K ρ H (List.replicate n ds).flatten (List.replicate n vs).flatten
 |0=>.nil
 |n+1=>by
  exact c7.append r (c7.rep r n)
def c7.erase{K ρ H}:∀{ds:@&D} {vs:@&V} (i:Nat),c7 K ρ H ds vs->c7 K ρ H (ds.eraseIdx i) (vs.eraseIdx i)
 |_,_,_,.nil=>.nil
 |_,_,0,.cons _ r=>r
 |_,_,i+1,.cons q r=>.cons q (c7.erase i r)
def c7.take{K ρ H}:∀{ds:@&D} {vs:@&V} (n:Nat),c7 K ρ H ds vs->c7 K ρ H (ds.take n) (vs.take n)
 |_,_,0,_=>.nil
 |_,_,_+1,.nil=>.nil
 |_,_,n+1,.cons h r=>.cons h (c7.take n r)
def c7.drop{K ρ H}:∀{ds:@&D} {vs:@&V} (n:Nat),c7 K ρ H ds vs->c7 K ρ H (ds.drop n) (vs.drop n)
 |_,_,0,r=>r
 |_,_,_+1,.nil=>.nil
 |_,_,n+1,.cons _ r=>c7.drop n r
def c7.reverse{K ρ H}:∀{ds:@&D} {vs:@&V},c7 K ρ H ds vs->c7 K ρ H ds.reverse vs.reverse
 |_,_,.nil=>.nil
 |_,_,.cons h r=>by
  rw[iy,iy];exact c7.append (c7.reverse r) (.cons h .nil)
def c7.cut{K ρ H}{ds:@&D}{vs:@&V}(r:c7 K ρ H ds vs)(lo hi:Option Int):c7 K ρ H (M.cut ds lo hi) (W0 vs lo hi):=by
 unfold M.cut W0;rw[(-r)];exact(r.drop _).take _
def c7.ints{K ρ H}:∀{ns:@&Int} {vs:@&V},c7 K ρ H (ns.map D.int) vs->vs=ns.map V.int
 |[],_,.nil=>rfl
 |_::_,_,.cons h r=>by cases h;rw[c7.ints r];rfl
def c7.ofInts{K ρ H}:∀(ns:@&Int),c7 K ρ H (ns.map D.int) (ns.map V.int)
 |[]=>.nil
 |n::r=>.cons (.int n) (c7.ofInts r)
abbrev ux(K:PySem.W.Frag)(H:Hp)(a:Addr)(vs:@&V):Prop :=
 (∃o,H a=!.kB o (.lst vs))\/∃(o:Obj) (bh:Array Value) (n:Nat),K.lookup a=!o/\o.cls=.type "list"/\o.dict=none/\o.data=.seq bh n/\bh.size<=sizeLine/\Vals vs bh.toList
def ux.sq{K:PySem.W.Frag}(h:ux K H a vs):fZ K H a vs:=h.elim (by rintro ⟨o,z⟩;exact .inl (.inr #[o,z])) .inr
inductive d7{α:Type}(K:PySem.W.Frag)(ρ:@&Addr)(H:Hp):@&(α×D)->@&(α×V)->Prop
 |nil:d7 K ρ H [] []
 |cons {k:α} {d:D} {v:V} {ds:@&(α×D)} {vs:@&(α×V)} (h:d5 K ρ H d v) (r:d7 K ρ H ds vs):d7 K ρ H ((k,d)::ds) ((k,v)::vs)
def d7.ext{α:Type}{K ρ H cw H'}(e:Ext ρ H cw H'){ds:@&(α×D)}{vs:@&(α×V)}(h:d7 K ρ H ds vs):d7 K cw H' ds vs:=by
 induction h with
 |nil=>exact .nil
 |cons h r ih=>exact .cons (h.ext e) ih
def d7.drop{K ρ H}{ds:@&(Key×D)}{vs:@&(Key×V)}(k:Key)(h:d7 K ρ H ds vs):d7 K ρ H (delD ds k) (Ae vs k):=by
 unfold delD Ae
 induction h with
 |nil=>exact .nil
 |cons h r ih =>
  rw[iT,iT];split
  .exact .cons h ih
  .exact ih
def d7.get{α:Type}{K ρ H}{ds:@&(α×D)}{vs:@&(α×V)}(h:d7 K ρ H ds vs):∀{i:Nat} {k:α} {d:D},ds[i]?=!(k,d)->∃v,vs[i]?=!(k,v)/\d5 K ρ H d v:=by
 induction h with
 |nil=>intro i k d e;simp at e
 |cons h r ih =>
  intro i k d e;cases i with
  |zero=>simp at e;let#[rfl,rfl]:=e;exact#[_,rfl,h]
  |succ i=>simpa using ih (by simpa using e)
def d7.length{α:Type}{K ρ H}{ds:@&(α×D)}{vs:@&(α×V)}(h:d7 K ρ H ds vs):-ds=-vs:=by
 induction h with
 |nil=>rfl
 |cons h r ih=>simp[ih]
abbrev U1(K:PySem.W.Frag)(ρ:@&Addr)(H:Hp):Option D->Option V->Prop
 |some d,!v=>d5 K ρ H d v
 |none,none=>True
 |_,_=>False
def d7.CK{κ:Type}[DecidableEq κ]{K ρ H}:∀{ds:@&(κ×D)} {vs:@&(κ×V)} (k:κ),d7 K ρ H ds vs->U1 K ρ H ((ds.find? λkv=>decide (kv.1=k)).map (·.2)) (K1 vs k)
 |_,_,k,.nil=>trivial
 |_,_,k,.cons (k:=k') h r=>by
  unfold K1;rw[dX,dX];by_cases e:k'=k
  .simp only[e,decide_true];exact h
  .simp only[e,decide_false];exact d7.CK k r
def d7.val{K ρ H}{ds vs}(k:Key)(r:d7 K ρ H ds vs):U1 K ρ H (v8 ds k) (K1 vs k):=r.CK k
def d7.M5{K ρ H}{ds vs}(k:@&Key)(r:d7 K ρ H ds vs):U1 K ρ H (M.M5 ds k) (K1 vs k):=r.CK k
def d7.Gs{κ:Type}[DecidableEq κ]{K ρ H}:∀{ds:@&(κ×D)} {vs:@&(κ×V)} (k:κ),d7 K ρ H ds vs->(ds.any λkv=>decide (kv.1=k))=(vs.any λkv=>decide (kv.1=k))
 |_,_,k,.nil=>rfl
 |_,_,k,.cons h r=>by simp only[List.any_cons,d7.Gs k r]
def d7.snoc{κ:Type}{K ρ H}{k:κ}{d:D}{v:V}(h:d5 K ρ H d v){ds vs}(t:d7 K ρ H ds vs):d7 K ρ H (ds++[(k,d)]) (vs++[(k,v)]):=by
 induction ds generalizing vs with
 |nil=>cases t;exact .cons h .nil
 |cons d ds ih =>
  cases t with
  |cons q r=>exact .cons q (ih r)
def d7.zt{κ:Type}[DecidableEq κ]{K ρ H}{k:κ}{d:D}{v:V}(h:d5 K ρ H d v):∀{ds vs},d7 K ρ H ds vs->d7 K ρ H (ds.map λkv=>if kv.1=k then(kv.1,d) else kv) (vs.map λkv=>if kv.1=k then(kv.1,v) else kv)
 |_,_,.nil=>.nil
 |_,_,.cons (k:=k') q r=>by
  simp only[List.map_cons];by_cases e:k'=k
  .rw[ay e,ay e];exact .cons h (d7.zt h r)
  .rw[az e,az e];exact .cons q (d7.zt h r)
def d7.put{K ρ H}{k:Key}{d:D}{v:V}(h:d5 K ρ H d v){ds vs}(r:d7 K ρ H ds vs):d7 K ρ H (putD ds k d) (putK vs k v):=by
 unfold putD putK;rw[r.Gs k];split
 .exact r.zt h
 .exact r.snoc h
def d7.C1{K ρ H}{k:@&Key}{d:D}{v:V}(h:d5 K ρ H d v){ds vs}(r:d7 K ρ H ds vs):d7 K ρ H (M.C1 ds k d) (putK vs k v):=by
 unfold M.C1 putK;rw[r.Gs k];split
 .exact r.zt h
 .exact r.snoc h
noncomputable abbrev x5(K:PySem.W.Frag)(x:Str)(C:Addr):Prop:=PySem.W.nsIn K mainGlobals x=!!.ref C
set_option tactic.hygienic true in
def d7.look{K ρ H}{ds:@&(Str×D)}{vs:@&(Str×V)}(f:Str)(h:d7 K ρ H ds vs):U1 K ρ H (ds.lookup f) (vs.lookup f):=by
 induction h with
 |nil=>trivial
 |cons h r ih =>
  rename_i k d v ds vs;rw[dN,dN];cases f==k
  .exact ih
  .exact h
def d7.A1{K ρ H}{f:Str}{d:D}{v:V}(h:d5 K ρ H d v){ds:@&(Str×D)}{vs:@&(Str×V)}(r:d7 K ρ H ds vs):d7 K ρ H (i7 f d ds) (L2.A1 f v vs):=by
 induction r with
 |nil=>exact .cons h .nil
 |cons q r ih =>
  unfold i7 L2.A1;split
  .exact .cons h r
  .exact .cons q ih
def Fe{f:Str}{d:D}{p:Str->Prop}(hf:p f):∀{ds:@&(Str×D)},(∀x∈ds,p x.1)->∀x∈i7 f d ds,p x.1
 |[],_,x,hx=>by
  have:x=(f,d):=by simpa[i7] using hx
  simp_all
 |(k,e)::r,h,x,hx=>by
  unfold i7 at hx;split at hx
  .rcases aJ.mp hx with z|z
   .rw[z];exact h (k,e) #[_]
   .exact h x (by simp[z])
  .rcases aJ.mp hx with z|z
   .rw[z];exact h (k,e) #[_]
   .exact Fe hf (λy hy=>h y (by simp[hy])) x z
abbrev OH(K:PySem.W.Frag)(ρ:@&Addr)(H:Hp):O->HO->Prop
 |.lst l,.lst vs=>c7 K ρ H l vs
 |.fb kvs,.dK vs=>d7 K ρ H kvs vs
 |.set S n,.set S' n'=>S=S'/\n=n'
 |.fO kvs,.dT vs=>d7 K ρ H kvs vs
 |.ins c fs,.ins C _ vs=>x5 K c C/\jQ K C/\d7 K ρ H fs vs/\∀x∈fs,B3 K C x.1
 |_,_=>False
def OH.ext{K ρ H cw H'}(e:Ext ρ H cw H'){o:O}{u:HO}(h:OH K ρ H o u):OH K cw H' o u:=by
 cases o<;>cases u<;>first|exact h.elim|exact c7.ext e h|exact d7.ext e h|exact#[h.1,h.2.1,h.2.2.1.ext e,h.2.2.2]|exact h
def OH.uE{K ρ H}{xs:@&V}(h:OH K ρ H o (.tup xs)):False:=by cases o<;>exact h
def OH.Yt{K ρ H}{ob:Obj}(h:OH K ρ H o (.kB ob u)):False:=by cases o<;>exact h
abbrev J3(K:PySem.W.Frag)(ρ:@&Addr)(H:Hp)(o:O)(a:Addr):Prop:=match o with
 |.pS l=>∃vs,ux K H a vs/\c7 K ρ H l vs
 |o=>∃u,H a=!u/\OH K ρ H o u
def J3.of{K ρ H}(hu:H a=!u)(h:OH K ρ H o u):J3 K ρ H o a:=by
 cases o<;>first|exact#[u,hu,h]|(cases u<;>exact h.elim)
def J3.inv{K ρ H}(m:o.mut=true)(h:J3 K ρ H o a):∃u,H a=!u/\OH K ρ H o u:=by
 cases o<;>first|exact h|cases m
def J3.lst{K ρ H}{l:@&D}{a:Addr}(h:J3 K ρ H (.lst l) a):∃vs,H a=!.lst vs/\c7 K ρ H l vs:=by
 let#[u,h1,h2]:=h;cases u<;>first|exact#[_,h1,h2]|exact h2.elim
def J3.fb{K ρ H}{l:@&(Key×D)}{a:Addr}(h:J3 K ρ H (.fb l) a):∃vs,H a=!.dK vs/\d7 K ρ H l vs:=by
 let#[u,h1,h2]:=h;cases u<;>first|exact#[_,h1,h2]|exact h2.elim
def J3.fO{K ρ H}{l:@&(List Key×D)}{a:Addr}(h:J3 K ρ H (.fO l) a):∃vs,H a=!.dT vs/\d7 K ρ H l vs:=by
 let#[u,h1,h2]:=h;cases u<;>first|exact#[_,h1,h2]|exact h2.elim
def J3.set{K ρ H}{S:Int->Bool}{n:Nat}{a:Addr}(h:J3 K ρ H (.set S n) a):H a=!.set S n:=by
 let#[u,h1,h2]:=h;cases u<;>first|(let#[rfl,rfl]:=(show _/\_ from h2);exact h1)|exact h2.elim
def J3.ins{K ρ H}{c:Str}{fs:@&(Str×D)}{a:Addr}(h:J3 K ρ H (.ins c fs) a):∃C dx vs,H a=!.ins C dx vs/\x5 K c C/\jQ K C/\d7 K ρ H fs vs/\∀x∈fs,B3 K C x.1:=by
 let#[u,h1,h2]:=h;cases u<;>first|exact#[_,_,_,h1,h2]|exact h2.elim
structure Rl(K:PySem.W.Frag)(ρ:@&Addr)(g:G)(H:Hp):Prop where
 len:ρ.length=-g
 obj:∀(i:Nat) o a,g[i]?=!o->ρ[i]?=!a->J3 K ρ H o a
 nd:∀(i j:Nat) o o' a,g[i]?=!o->g[j]?=!o'->o.mut=true->o'.mut=true->ρ[i]?=!a->ρ[j]?=!a->i=j
section
variable{K:PySem.W.Frag}{ρ:@&Addr}
def Rl.lst(R:Rl K ρ g H){i:Nat}{l:@&D}{a:Addr}(h:g[i]?=!.lst l)(ha:ρ[i]?=!a):∃vs,H a=!.lst vs/\c7 K ρ H l vs:=(R.obj _ _ _ h ha).lst
def Rl.fO(R:Rl K ρ g H){i:Nat}{l:@&(List Key×D)}{a:Addr}(h:g[i]?=!.fO l)(ha:ρ[i]?=!a):∃vs,H a=!.dT vs/\d7 K ρ H l vs:=(R.obj _ _ _ h ha).fO
def Rl.fb(R:Rl K ρ g H){i:Nat}{l:@&(Key×D)}{a:Addr}(h:g[i]?=!.fb l)(ha:ρ[i]?=!a):∃vs,H a=!.dK vs/\d7 K ρ H l vs:=(R.obj _ _ _ h ha).fb
def Rl.set(R:Rl K ρ g H){i:Nat}{S:Int->Bool}{n:Nat}{a:Addr}(h:g[i]?=!.set S n)(ha:ρ[i]?=!a):H a=!.set S n:=(R.obj _ _ _ h ha).set
def Rl.ins(R:Rl K ρ g H){i:Nat}{c:Str}{fs:@&(Str×D)}{a:Addr}(h:g[i]?=!.ins c fs)(ha:ρ[i]?=!a):∃C dx vs,H a=!.ins C dx vs/\x5 K c C/\jQ K C/\d7 K ρ H fs vs/\∀x∈fs,B3 K C x.1:=(R.obj _ _ _ h ha).ins
def Rl.items(R:Rl K ρ g H)(h:c9 g i=!l)(ha:ρ[i]?=!a):∃vs,fZ K H a vs/\c7 K ρ H l vs:=by
 cases e:g[i]? with
 |none=>rw[c9,e] at h;cases h
 |some o =>
  rw[c9,e] at h;let q:=R.obj _ _ _ e ha;cases o with
  |lst m=>cases h;let#[vs,z,r]:=q.lst;exact#[vs,fZ.of z,r]
  |pS m=>cases h;let#[vs,z,r]:=q;exact#[vs,z.sq,r]
  |_=>cases h
def j7{o:HO}(hp:H p=none):Ext ρ H ρ (upd H p o):=#[#[[],by simp],λa xs h=>by rw[d8 (j2 h hp)];exact h]
def ux.upd{p a:Addr}{o:HO}{vs:@&V}(h:ux K H a vs)(hp:∀ob u,H p≠!.kB ob u):ux K (upd H p o) a vs:=by
 rcases h with⟨ob,z⟩|z
 .refine .inl #[ob,?_];rw[d8 ?_]
  .exact z
  .intro e;subst e;exact hp _ _ z
 .exact .inr z
def J3.upd{p a:Addr}{o:O}{u:HO}{cw:@&Addr}(h:J3 K ρ H o a)(dD:o.mut=true->a≠p)(hp:∀ob u,H p≠!.kB ob u)(e:Ext ρ H cw (L2.upd H p u)):J3 K cw (L2.upd H p u) o a:=by
 cases hm:o.mut with
 |true =>
  let#[u',h1,h2]:=h.inv hm;exact .of (by rw[d8 (dD hm)];exact h1) (h2.ext e)
 |false =>
  cases o<;>first|cases hm|skip
  let#[vs,z,r]:=h;exact#[vs,z.upd hp,r.ext e]
def Rl.grow{o:HO}(R:Rl K ρ g H)(hp:H p=none):Rl K ρ g (upd H p o):=by
 let e:Ext ρ H ρ (upd H p o):=j7 hp;refine#[R.len,λi ob a h1 h2=>?_,R.nd];let q:=R.obj _ _ _ h1 h2;refine q.upd (λhm=>?_) (λob u z=>by simp_all) e;let#[u,h1,_]:=q.inv hm;exact j2 h1 hp
def Rl.B9(R:Rl K ρ g H)(p:Addr):(ρ++[p])[(-g)]?=!p:=by rw[<- R.len];simp
def K6{o:HO}(hp:H p=none):Ext ρ H (ρ++[p]) (upd H p o):=#[#[[p],rfl],(j7 (ρ:=ρ) hp).tup]
def Rl.new(R:Rl K ρ g H)(hp:H p=none)(r:OH K ρ H o u):Rl K (ρ++[p]) (g++[o]) (upd H p u):=by
 let e:Ext ρ H (ρ++[p]) (upd H p u):=K6 hp;let old:∀{i:Nat} {ob:O} {a:Addr},g[i]?=!ob->(ρ++[p])[i]?=!a->ρ[i]?=!a:=λ{i ob a} h1 h2=>by
  rw[aH (by rw[R.len];exact(av.mp h1).1)] at h2;exact h2
 let split:∀{i:Nat} {ob:O},(g++[o])[i]?=!ob->g[i]?=!ob\/(i=-g/\ob=o):=λ{i ob} h=>by
  rcases eF i (-g) with q|q|q
  .rw[aH q] at h;exact .inl h
  .subst q;simp at h;exact .inr #[rfl,h.symm]
  .rw[aT (by simp;omega)] at h;cases h
 refine#[by simp[R.len],λi ob a h1 h2=>?_,λi j o1 o2 a h1 h2 m1 m2 h3 h4=>?_]
 .rcases split h1 with q|⟨rfl,rfl⟩
  .let z:=R.obj _ _ _ q (old q h2);refine z.upd (λhm=>?_) (λob u z=>by simp_all) e;let#[u,h1,_]:=z.inv hm;exact j2 h1 hp
  .rw[R.B9] at h2;cases h2;exact .of j4 (r.ext e)
 .let nq:∀{i:Nat} {o:O} {a:Addr},g[i]?=!o->o.mut=true->ρ[i]?=!a->a≠p:=λ{i o a} h1 hm h2=>by
   let#[u,z,_]:=(R.obj _ _ _ h1 h2).inv hm;exact j2 z hp
  rcases split h1 with q|⟨rfl,_⟩
  .rcases split h2 with q'|⟨rfl,_⟩
   .exact R.nd _ _ _ _ _ q q' m1 m2 (old q h3) (old q' h4)
   .rw[R.B9] at h4;cases h4;exact absurd rfl (nq q m1 (old q h3))
  .rcases split h2 with q'|⟨rfl,_⟩
   .rw[R.B9] at h3;cases h3;exact absurd rfl (nq q' m2 (old q' h4))
   .rfl
def Rl.alloc(R:Rl K ρ g H)(hp:H p=none)(r:c7 K ρ H l vs):Rl K (ρ++[p]) (g++[.lst l]) (upd H p (.lst vs)):=R.new hp r
def Rl.put{o':O}(R:Rl K ρ g H)(h:g[i]?=!o)(hm:o.mut=true)(ha:ρ[i]?=!a)(r:OH K ρ H o' u) :
  Rl K ρ (g.set i o') (upd H a u)/\Ext ρ H ρ (upd H a u):=by
 let#[u0,z0,Hr]:=(R.obj _ _ _ h ha).inv hm;let e:Ext ρ H ρ (upd H a u):=#[#[[],by simp],λb xs q=>by rw[d8];exact q;intro z;subst z;rw[z0] at q;cases q;exact Hr.uE]
 refine#[#[by simp[R.len],λj ob b h1 h2=>?_,λj k o1 o2 b h1 h2 m1 m2 h3 h4=>?_],e]
 .by_cases lJ:i=j
  .subst lJ;rw[ha] at h2;cases h2;let hi:i< -g:=(av.mp h).1;rw[aM hi] at h1;cases h1;exact .of j4 (r.ext e)
  .rw[ax lJ] at h1;refine(R.obj _ _ _ h1 h2).upd (λpL ez=>?_) (λob u z=>by rw[z0] at z;cases z;exact Hr.Yt) e;subst ez;exact lJ (R.nd _ _ _ _ _ h h1 hm pL ha h2)
 .let back:∀{j:Nat} {m:O},(g.set i o')[j]?=!m->m.mut=true->∃m',g[j]?=!m'/\m'.mut=true:=λ{j m} q pL=>by
   by_cases lJ:i=j
   .subst lJ;exact#[o,h,hm]
   .rw[ax lJ] at q;exact#[m,q,pL]
  let#[_,q1,n1]:=back h1 m1;let#[_,q2,n2]:=back h2 m2;exact R.nd _ _ _ _ _ q1 q2 n1 n2 h3 h4
def Rl.write{l':@&D}(R:Rl K ρ g H)(h:g[i]?=!.lst l)(ha:ρ[i]?=!a)(r:c7 K ρ H l' vs) :
  Rl K ρ (g.set i (.lst l')) (upd H a (.lst vs))/\Ext ρ H ρ (upd H a (.lst vs)):=R.put h rfl ha r
end
structure u5(K:PySem.W.Frag)(ρ:@&Addr)(H:Hp)(Z:S)(bU:St):Prop where
 len:-Z=-bU
 val:∀(i:Nat) d,Z[i]?=!!d->∃v,bU[i]?=!!v/\d5 K ρ H d v
section
variable{K:PySem.W.Frag}{ρ cw:@&Addr}{H':Hp}
def u5.ext{Z bU}(e:Ext ρ H cw H')(r:u5 K ρ H Z bU):u5 K cw H' Z bU:=#[r.len,λi d h=>let ⟨v,a,b⟩:=r.val i d h;#[v,a,b.ext e]]
def u5.set{Z bU d v}(r:u5 K ρ H Z bU)(i:Nat)(h:d5 K ρ H d v):u5 K ρ H (Z.set i (!d)) (bU.set i (!v)):=by
 refine#[by simp[r.len],λj e q=>?_];by_cases lJ:i=j
 .subst lJ;let hi:i< -Z:=by
   have:=(av.mp q).1
   simp_all
  rw[aM hi] at q;cases q;exact#[v,by rw[aM (by rw[<- r.len];exact hi)],h]
 .rw[ax lJ] at q ⊢;exact r.val j e q
def u5.start{ds vs}{n:Nat}(r:c7 K ρ H ds vs):u5 K ρ H (ds.map some++List.replicate (n- -ds) none) (vs.map some++List.replicate (n- -vs) none):=by
 refine#[by simp[(-r)],λi d h=>?_];by_cases hi:i< -ds
 .rw[aH (by simpa using hi),aj] at h;cases e:ds[i]? with
  |none=>rw[e] at h;cases h
  |some x =>
   rw[e] at h;cases h;let#[v,h1,h2]:=r.get e;refine#[v,?_,h2];rw[aH (by rw[au,<- -r];exact hi),aj,h1]
   rfl
 .rw[bE (by simpa using hi),fG] at h;split at h<;>cases h
def u5.d4{Z bU}(r:u5 K ρ H Z bU)(d4:@&Nat)(n:Nat):u5 K ρ H (L5 Z d4 n) (F2 bU d4 n):=by
 refine#[by simp[L5,F2],λi d h=>?_];unfold L5 at h;unfold F2;by_cases hi:i< -d4
 .rw[aH (by simpa using hi),aj,ag hi] at h;rw[aH (by simpa using hi),aj,ag hi];simp only[Option.map_some] at h ⊢;cases e:Z[d4[i]]? with
  |none=>simp_all
  |some x =>
   rw[e] at h;let hx:x=!d:=aN h;subst hx;let#[v,h1,h2]:=r.val _ _ e;exact#[v,by rw[h1];rfl,h2]
 .rw[bE (by simpa using hi),fG] at h;split at h<;>cases h
end
end M
namespace M
open PySem L2 PySem.Spec PyProof.Rows
variable{g:G}{l:@&D}{vs:@&V}{b:Bool}{d:D}{X:Cx}{ρ:@&Addr}{H:Hp}{Z:L2.St}{s:Shared}{v x:V}
abbrev LQ(K:PySem.W.Frag)(ρ:@&Addr)(H:Hp)(Q:VK):KD:=λd g'=>∀cw H' v,Ext ρ H cw H'->Rl K cw g' H'->d5 K cw H' d v->Q v H'
def LQ.ext{K ρ H cv H1 Q d g}(e:Ext ρ H cv H1)(h:LQ K ρ H Q d g):LQ K cv H1 Q d g:=λcw H' v e' R r=>h cw H' v (e.trans e') R r
def LQ.now{K ρ H Q d g v}(h:LQ K ρ H Q d g)(R:Rl K ρ g H)(r:d5 K ρ H d v):Q v H:=h ρ H v (.refl _ _) R r
def LQ.new{K ρ H Q}{p:Addr}(h:LQ K ρ H Q (.ref (-g)) (g++[.lst l]))(R:Rl K ρ g H)(hp:H p=none)(r:c7 K ρ H l vs):Q (.ref p) (upd H p (.lst vs)) :=
 h (ρ++[p]) _ _ (K6 hp) (R.alloc hp r) (.ref (R.B9 p))
def LQ.tup{K ρ H Q}{g:G}{l:@&D}{vs:@&V}{p:Addr}(h:LQ K ρ H Q (.tup l) g)(R:Rl K ρ g H)(hp:H p=none)(r:c7 K ρ H l vs):Q (.ref p) (upd H p (.tup vs)) :=
 h ρ _ _ (j7 hp) (R.grow hp) (.tup (.inl j4) (r.ext (j7 hp)))
abbrev r2(K:PySem.W.Frag)(p:Pr):R2:=λx y H Q=>∃d e g ρ,Rl K ρ g H/\d5 K ρ H d x/\d5 K ρ H e y/\cN p [d,e] g (LQ K ρ H Q)
abbrev r1(K:PySem.W.Frag)(p:Pr):V->Hp->VK->Prop:=λx H Q=>∃d g ρ,Rl K ρ g H/\d5 K ρ H d x/\cN p [d] g (LQ K ρ H Q)
abbrev rN(K:PySem.W.Frag)(p:Pr):@&V->Hp->VK->Prop:=λxs H Q=>∃ds g ρ,Rl K ρ g H/\c7 K ρ H ds xs/\cN p ds g (LQ K ρ H Q)
def B5{n:Nat}(h:n<=100000):n<=sizeLine:=aG h ∅
def DN{n:Nat}(h:n<100000):n<sizeLine:=aD h ∅
def d5.i0{K ρ H i v}(h:d5 K ρ H (.int i) v):v=.int i:=by cases h;rfl
def d5.xF{K ρ H i v}(h:d5 K ρ H (.str i) v):v=.str i:=by cases h;rfl
def d5.M4{K ρ H i v}(h:d5 K ρ H (.bl i) v):v=.bl i:=by cases h;rfl
def d5.FX{K ρ H v}(h:d5 K ρ H .bg v):v=.bg:=by cases h;rfl
def d5.Zl{K ρ H n v}(h:d5 K ρ H (.ty n) v):v=.ty n:=by cases h;rfl
def d5.i6{K ρ H i v}(h:d5 K ρ H (.ref i) v):∃a,v=.ref a/\ρ[i]?=!a:=by cases h;exact#[_,rfl,by assumption]
def d5.E0{K ρ H l v}(h:d5 K ρ H (.tup l) v):∃a vs,v=.ref a/\TupAt K H a vs/\c7 K ρ H l vs:=by cases h;exact#[_,_,rfl,by assumption,by assumption]
def c7.one{K ρ H d vs}(h:c7 K ρ H [d] vs):∃v,vs=[v]/\d5 K ρ H d v:=by
 cases h with
 |cons r rr=>cases rr;exact#[_,rfl,r]
def c7.two{K ρ H d e vs}(h:c7 K ρ H [d,e] vs):∃v w,vs=[v,w]/\d5 K ρ H d v/\d5 K ρ H e w:=by
 cases h with
 |cons r rr=>let#[w,rfl,q]:=rr.one;exact#[_,_,rfl,r,q]
def B6{a b c:D}(h:[a,b]=[c,d]):a=c/\b=d:=by cases h;exact#[rfl,rfl]
section
def bL2(op:Operator):gf X (binaryOp op) (r2 X.K (.bin op)):=by
 intro pi s Z H x y v u Q I rx ry h;let#[d,e,g,ρ,R,rd,re,d',g',h,q]:=h;rcases h with⟨i,j,r,ex,ha,rfl,rfl⟩|⟨rfl,h⟩|⟨rfl,h⟩
 .let#[rfl,rfl]:=B6 ex;obtain rfl:=rd.i0;obtain rfl:=re.i0;let fin:=q.now R (.int r);cases op<;>first|exact(show False from ha).elim|skip
  .cases ha;exact bL4 pi s Z H _ _ v u Q I rx ry #[i,j,rfl,rfl,fin]
  .cases ha;exact bK4 pi s Z H _ _ v u Q I rx ry #[i,j,rfl,rfl,fin]
  .let#[hc,rfl]:=ha;exact bK8 pi s Z H _ _ v u Q I rx ry #[i,j,rfl,rfl,hc,fin]
  .let#[hc,rfl]:=ha;exact bK9 pi s Z H _ _ v u Q I rx ry #[i,j,rfl,rfl,hc,fin]
  .let#[hc,rfl]:=ha;exact bK7 pi s Z H _ _ v u Q I rx ry #[i,j,rfl,rfl,hc,fin]
  .let#[hc,rfl]:=ha;exact bK5 pi s Z H _ _ v u Q I rx ry #[i,j,rfl,rfl,hc,fin]
  .cases ha;exact Yz pi s Z H _ _ v u Q I rx ry #[i,j,rfl,rfl,fin]
  .cases ha;exact bL3 pi s Z H _ _ v u Q I rx ry #[i,j,rfl,rfl,fin]
  .let#[hc,rfl]:=ha;exact Uk pi s Z H _ _ v u Q I rx ry #[i,j,rfl,rfl,hc,fin]
 .rcases h with⟨l,m,ex,hz,rfl,rfl⟩|⟨a,b,l,m,ex,ha,hb,hz,rfl,rfl⟩|z
  .let#[rfl,rfl]:=B6 ex;let#[a,vs,rfl,ta,rs]:=rd.E0;let#[b,ws,rfl,tb,rt]:=re.E0;refine Wr pi s Z H _ _ v u Q I rx ry #[a,b,vs,ws,rfl,rfl,ta.sq,tb.sq,?_,λz=>?_,λz=>?_,λp hp=>q.tup R hp (rs.append rt)]
   .rw[<- -rs,<- -rt];exact B5 hz
   .subst z;cases rs;exact q.now R (.tup tb rt)
   .subst z;cases rt;rw[ft] at q;exact q.now R (.tup ta rs)
  .let#[rfl,rfl]:=B6 ex;let#[a',rfl,ra]:=rd.i6;let#[b',rfl,rb]:=re.i6;let#[vs,z1,rs]:=R.lst ha ra;let#[ws,z2,rt]:=R.lst hb rb;exact bL1 pi s Z H _ _ v u Q I rx ry #[_,_,vs,ws,rfl,rfl,z1,z2,by rw[<- -rs,<- -rt];exact B5 hz,λp hp=>q.new R hp (rs.append rt)]
  .exact z.elim
 .rcases h with⟨a,l,n,ex,ha,h1,h2,hz,rfl,rfl⟩|⟨l,n,ex,dD,h1,h2,hz,rfl,rfl⟩
  rotate_left
  .let#[rfl,rfl]:=B6 ex;let#[a',vs,rfl,ta,rs]:=rd.E0;obtain rfl:=re.i0;refine Um pi s Z H _ _ v u Q I rx ry #[_,_,vs,rfl,rfl,ta.sq,λz=>?_,h1,h2,by rw[<- -rs];exact B5 hz,λz=>?_,λp hp=>q.tup R hp (rs.rep _)]
   .subst z;cases rs;exact dD rfl
   .subst z;have:(List.replicate (Int.toNat 1) l).flatten=l:=by simp
    rw[this] at q;exact q.now R (.tup ta rs)
  let#[rfl,rfl]:=B6 ex;let#[a',rfl,ra]:=rd.i6;obtain rfl:=re.i0;let#[vs,z1,rs]:=R.lst ha ra;exact bK6 pi s Z H _ _ v u Q I rx ry #[_,_,vs,rfl,rfl,z1,by omega,by omega,by rw[<- -rs];exact B5 hz,λp hp=>q.new R hp (rs.rep _)]
def YA(op:UnaryOp):Ao X (unaryOp op) (r1 X.K (.un op)):=by
 intro pi s Z H x v Q I rx h;let#[d,g,ρ,R,rd,d',g',#[rfl,i,ex,rfl,rfl],q]:=h;cases ex;obtain rfl:=rd.i0;exact bB7 pi s Z H _ v Q I rx #[_,rfl,q.now R (.int _)]
section
variable{pi:@&(Addr×Obj)}
def LO(I:Inv X pi Z H s)(R:Rl X.K ρ g H)(n:Nat)(ih:∀{d:D} {v:V} {u:Value} {p:PyData},rd g n d=!p->d5 X.K ρ H d v->RelV v u->∃as,Reads s.heap u p as/\p.depth<=n):∀{vs:@&V} {us:@&Value} {ps:@&PyData},l.mapM (rd g n)=!ps->c7 X.K ρ H l vs->Vals vs us->∃as,ReadsAll s.heap us ps as/\PyData.depthAll ps<=n:=by
 induction l with
 |nil =>
  intro vs us ps h rs rv;cases rs;cases rv;simp at h;subst h;exact#[_,.nil,cH _]
 |cons d l il =>
  intro vs us ps h rs rv;cases rs with
  |cons je rs =>
   cases rv with
   |cons ru rv =>
    rw[jU] at h;cases e:rd g n d with
    |none=>simp_all
    |some p =>
     rw[e] at h;cases e2:l.mapM (rd g n) with
     |none=>rw[e2] at h;cases h
     |some qs =>
      rw[e2] at h;cases h;let#[as,q1,d1]:=ih e je ru;let#[bs,q2,d2]:=il e2 rs rv;refine#[_,.cons q1 q2,?_];simp only[PyData.depthAll];omega
set_option tactic.hygienic true in
def V3(I:Inv X pi Z H s)(R:Rl X.K ρ g H)(n:Nat):∀{d:D} {v:V} {u:Value} {p:PyData},rd g n d=!p->d5 X.K ρ H d v->RelV v u->∃as,Reads s.heap u p as/\p.depth<=n:=by
 induction n with
 |zero =>
  intro d v u p h r ru;cases r with
  |bg=>simp only[rd] at h;cases h;cases ru;exact#[_,.none,Nat.zero_le _]
  |bl b=>simp only[rd] at h;cases h;cases ru;exact#[_,.bool b,Nat.zero_le _]
  |int i=>simp only[rd] at h;cases h;let#[t,rfl]:=ru;exact#[_,.int i t,Nat.zero_le _]
  |str x=>simp only[rd] at h;cases h;let#[t,rfl]:=ru;exact#[_,.str x t,Nat.zero_le _]
  |_=>simp only[rd] at h;cases h
 |succ n ih =>
  intro d v u p h r ru;cases r with
  |bg=>simp only[rd] at h;cases h;cases ru;exact#[_,.none,Nat.zero_le _]
  |bl b=>simp only[rd] at h;cases h;cases ru;exact#[_,.bool b,Nat.zero_le _]
  |int i=>simp only[rd] at h;cases h;let#[t,rfl]:=ru;exact#[_,.int i t,Nat.zero_le _]
  |str x=>simp only[rd] at h;cases h;let#[t,rfl]:=ru;exact#[_,.str x t,Nat.zero_le _]
  |ty x=>simp only[rd] at h;cases h
  |ref ha =>
   rename_i i a;simp only[rd] at h;cases e:c9 g i with
   |none=>simp_all
   |some l =>
    rw[e] at h;dsimp only at h;cases e2:l.mapM (rd g n) with
    |none=>simp_all
    |some ps =>
     rw[e2] at h;cases h;cases ru;let#[vs,hq,rs]:=R.items e ha;let#[bh,rv,p,hz]:=I.list hq;let#[as,q,hd]:=LO I R n ih e2 rs rv;let#[o,ho,hc,k,rR]:=p.isList;refine#[_,.list ho hc rR (by simpa using q),?_];simp only[PyData.depth];omega
  |tup ht rs =>
   rename_i l a vs;simp only[rd] at h;cases e2:l.mapM (rd g n) with
   |none=>simp_all
   |some ps =>
    rw[e2] at h;cases h;cases ru;let#[bh,rv,pt,hz]:=I.tuple ht.sq;let#[as,q,hd]:=LO I R n ih e2 rs rv;let#[o,ho,hc,k,rR]:=id pt;refine#[_,.tuple ho hc rR (by simpa using q),?_];simp only[PyData.depth];omega
end
end
def P7{K ρ H}{c:Key}(h:C4 d=!c)(r:d5 K ρ H d v):v=kV c:=by
 cases r<;>first|(cases h;rfl)|cases h
def U1.some{K ρ H}{o:Option V}{d:D}(h:U1 K ρ H (!d) o):∃v,o=!v/\d5 K ρ H d v:=by
 cases o with
 |none=>exact h.elim
 |some v=>exact#[v,rfl,h]
def U1.isSome{K ρ H}{o:Option V}{d:Option D}(h:U1 K ρ H d o):d.isSome=o.isSome:=by
 cases o<;>cases d<;>first|rfl|exact h.elim
def Jp{pi:@&(Addr×Obj)}{e:D}{y:V}{v u:Value}{Q:VK}(hu:X.A.units+100<cLine)(I:Inv X pi Z H s)(rx:RelV x v)(ry:RelV y u)(R:Rl X.K ρ g H)(je:d5 X.K ρ H d x)(re:d5 X.K ρ H e y)(h:wW g d e b)(neg:Bool)(q:Q (.bl (xor neg b)) H):wpAny (model X.prog X.w) X.A (compareOp (if neg then .NotEq else .Eq) v u) (EP X pi Z Q) X.xe s:=by
 rcases h with⟨i,j,rfl,rfl,rfl⟩|⟨i,j,rfl,rfl,rfl⟩|⟨i,j,rfl,rfl,rfl⟩|⟨p,p',h1,h2,c1,c2,rfl⟩
 .obtain rfl:=je.i0;obtain rfl:=re.i0;cases neg
  .exact Fp pi s Z H _ _ v u Q I rx ry #[rfl,by simp_all]
  .exact Fq pi s Z H _ _ v u Q I rx ry #[rfl,by simp_all]
 .obtain rfl:=je.M4;obtain rfl:=re.M4;cases neg
  .exact Fp pi s Z H _ _ v u Q I rx ry #[rfl,by rw[zp];simpa using q]
  .exact Fq pi s Z H _ _ v u Q I rx ry #[rfl,by rw[zp];simpa using q]
 .obtain rfl:=je.xF;obtain rfl:=re.xF;cases neg
  .exact Fp pi s Z H _ _ v u Q I rx ry #[rfl,by simp_all]
  .exact Fq pi s Z H _ _ v u Q I rx ry #[rfl,by simp_all]
 .let#[as,q1,d1]:=V3 I R 6 h1 je rx;let#[bs,q2,d2]:=V3 I R 6 h2 re ry;let hr:X.A.units+min p.depth p'.depth<cLine:=by omega
  cases neg
  .exact SeqAt.compareEq_reads q1 q2 c1 c2 hr #[.bl _,H,I,rfl,by simpa using q]
  .exact SeqAt.compareNe_reads q1 q2 c1 c2 hr #[.bl _,H,I,rfl,by simpa using q]
def in_of{pi:@&(Addr×Obj)}{e:D}{y:V}{v u:Value}{Q:VK}(hu:X.A.units+100<cLine)(I:Inv X pi Z H s)(rx:RelV x v)(ry:RelV y u)(R:Rl X.K ρ g H)(je:d5 X.K ρ H d x)(re:d5 X.K ρ H e y)(h:inR g d e b)(neg:Bool)(q:Q (.bl (xor neg b)) H):wpAny (model X.prog X.w) X.A (compareOp (if neg then .NotIn else .In) v u) (EP X pi Z Q) X.xe s:=by
 rcases h with⟨a,kvs,c,rfl,ha,hc,rfl⟩|⟨l,ps,p,h0,h1,h2,c1,c2,rfl⟩
 .let#[a',rfl,ra]:=re.i6;let#[vs,z,rs]:=R.fb ha ra;have:=P7 hc je;subst this;cases ry;rw[(rs.val c).isSome] at q;cases neg
  .exact Kd () I (F6.k z) rx λs' I'=>#[.bl _,H,I',rfl,by simpa using q]
  .exact Ml () I (F6.k z) rx λs' I'=>#[.bl _,H,I',rfl,by simpa using q]
 .let#[as,q1,d1]:=V3 I R 6 h2 je rx;cases e with
  |tup m =>
   cases h0;let h3:rd g 7 (.tup l)=!.tuple ps:=by simp only[rd];rw[show l.mapM (rd g 6)=some ps from h1];rfl
   let#[bs,q2,d2]:=V3 I R 7 h3 re ry;let hr:X.A.units+1+min (PyData.depthAll ps) p.depth<cLine:=by omega
   cases neg
   .exact SeqAt.in_tuple_reads q2 q1 c1 c2 hr #[.bl _,H,I,rfl,by simpa using q]
   .exact SeqAt.notIn_tuple_reads q2 q1 c1 c2 hr #[.bl _,H,I,rfl,by simpa using q]
  |ref a =>
   let h3:rd g 7 (.ref a)=!.list ps:=by
    simp only[rd];rw[show c9 g a=some l from h0];dsimp only;rw[show l.mapM (rd g 6)=some ps from h1]
    rfl
   let#[bs,q2,d2]:=V3 I R 7 h3 re ry;let hr:X.A.units+1+min (PyData.depthAll ps) p.depth<cLine:=by omega
   cases neg
   .exact SeqAt.in_list_reads q2 q1 c1 c2 hr #[.bl _,H,I,rfl,by simpa using q]
   .exact SeqAt.notIn_list_reads q2 q1 c1 c2 hr #[.bl _,H,I,rfl,by simpa using q]
  |_=>cases h0
def uK(hu:X.A.units+100<cLine)(op:CmpOp):gf X (compareOp op) (r2 X.K (.cmp op)):=by
 intro pi s Z H x y v u Q I rx ry h;let#[d,e,g,ρ,R,je,re,d',g',#[x',y',b,ex,h,rfl,rfl],q]:=h;let#[rfl,rfl]:=B6 ex;let fin:=q.now R (.bl b);let pF:∀{P:Int->Int->Bool},(∃i j,d=.int i/\e=.int j/\b=P i j)->∃i j,x=.int i/\y=.int j/\b=P i j:=λhh=>by
  let#[i,j,z1,z2,z3]:=hh;exact#[i,j,(z1▸je).i0,(z2▸re).i0,z3]
 cases op
 .exact Jp hu I rx ry R je re h false (by simpa using fin)
 .exact Jp hu I rx ry R je re h true (by simpa using fin)
 .let#[i,j,e1,e2,e3]:=pF (P:=λi j=>decide (i<j)) h;exact Yy pi s Z H _ _ v u Q I rx ry #[i,j,e1,e2,by subst e3;exact fin]
 .let#[i,j,e1,e2,e3]:=pF (P:=λi j=>decide (i<=j)) h;exact Yx pi s Z H _ _ v u Q I rx ry #[i,j,e1,e2,by subst e3;exact fin]
 .let#[i,j,e1,e2,e3]:=pF (P:=λi j=>decide (j<i)) h;exact Yw pi s Z H _ _ v u Q I rx ry #[i,j,e1,e2,by subst e3;exact fin]
 .let#[i,j,e1,e2,e3]:=pF (P:=λi j=>decide (j<=i)) h;exact Yv pi s Z H _ _ v u Q I rx ry #[i,j,e1,e2,by subst e3;exact fin]
 .let#[rfl,rfl]:=(show _/\_ from h)
  obtain rfl:=re.FX;refine bL0 pi s Z H _ _ v u Q I rx ry #[rfl,?_];let e:T7 d=decide (x=V.bg):=by cases je<;>simp[T7]
  rw[<- e];exact fin
 .let#[rfl,rfl]:=(show _/\_ from h)
  obtain rfl:=re.FX;refine Ul pi s Z H _ _ v u Q I rx ry #[rfl,?_];let e:T7 d=decide (x=V.bg):=by cases je<;>simp[T7]
  rw[<- e];exact fin
 .rcases h with h|⟨a,S,n,i,rfl,ha,rfl,rfl⟩
  .exact in_of hu I rx ry R je re h false (by simpa using fin)
  .let#[a',rfl,ra]:=re.i6;obtain rfl:=je.i0;exact a64 pi s Z H _ _ v u Q I rx ry #[i,a',S,n,rfl,rfl,R.set ha ra,fin]
 .rcases h with h|⟨a,S,n,i,rfl,ha,rfl,hb⟩
  .exact in_of hu I rx ry R je re h true (by simpa using fin)
  .let#[a',rfl,ra]:=re.i6;obtain rfl:=je.i0;exact aG9 pi s Z H _ _ v u Q I rx ry #[i,a',S,n,rfl,rfl,R.set ha ra,by rw[<- hb,Bool.not_not];exact fin]
def bC0{K:PySem.W.Frag}(R:Rl K ρ g H)(r:d5 K ρ H d x)(h:Ku g d b):Dm K x H b:=by
 rcases h with z|rfl|⟨i,rfl,rfl⟩|z
 .exact z.elim
 .obtain rfl:=r.M4;rfl
 .obtain rfl:=r.i0;rfl
 .exact z.elim
def bA5{K ρ H}{i:Int}(r:c7 K ρ H l vs)(h:ia l i=!d):∃v,ia vs i=!v/\d5 K ρ H d v:=by
 unfold ia at h ⊢;rw[<- -r];cases e:mx (-l) i with
 |none=>simp_all
 |some j =>
  rw[e] at h;exact r.get h
def zx{K ρ H}{x:D}(R:Rl K ρ g H)(r:d5 K ρ H x v)(h:F0 g x=!l):∃a vs,v=.ref a/\c7 K ρ H l vs/\((∃i,x=.ref i/\ρ[i]?=!a)/\fZ K H a vs\/x=.tup l/\TupAt K H a vs):=by
 cases r with
 |tup ht rs=>cases h;exact#[_,_,rfl,rs,.inr #[rfl,ht]]
 |ref ha=>let#[vs,hq,rs]:=R.items h ha;exact#[_,_,rfl,rs,.inl #[#[_,rfl,ha],hq]]
 |_=>cases h
def Yb(hu:X.A.units+100<cLine):uM X (r2 X.K .ix):=by
 intro value slice pi s Z H x y v u Q I rx ry h hs;let#[d,e,g,ρ,R,je,re,d',g',#[rfl,h],q]:=h;rcases h with⟨x',l,i,ex,hl,ha⟩|⟨a,kvs,y',c,ex,ha,hc,hv⟩|z
 .let#[rfl,rfl]:=B6 ex;obtain rfl:=re.i0;let#[a,vs,rfl,rs,h]:=zx R je hl;let#[w,hw,fX]:=bA5 rs ha;rcases h with⟨_,hq⟩|⟨_,ht⟩
  .exact TR value slice pi s Z H _ _ v u Q I rx ry #[_,_,i,w,rfl,rfl,hq,hw,q.now R fX] hs
  .exact ZV value slice pi s Z H _ _ v u Q I rx ry #[_,_,i,w,rfl,rfl,ht.sq,hw,q.now R fX] hs
 .let#[rfl,rfl]:=B6 ex;let#[a',rfl,ra]:=je.i6;let#[vs,z,rs]:=R.fb ha ra;have:=P7 hc re;subst this;let q2:=rs.val c;rw[hv] at q2;let#[w,hw,fX]:=q2.some;exact TL () value slice pi s Z H _ _ v u Q I rx ry #[_,w,rfl,by have:=F6.k (k:=c) z;rw[hw] at this;exact this,q.now R fX] hs
 .exact z.elim
abbrev PH(K:PySem.W.Frag):V->Option Int->Option Int->Hp->VK->Prop:=λx lo hi H Q=>∃d g ρ d' g',Rl K ρ g H/\d5 K ρ H d x/\vj d lo hi g d' g'/\LQ K ρ H Q d' g'
def Fw:ye X (PH X.K):=by
 intro pi s Z H x v vl vu lo hi sl Q I rx hs pl pu h;let#[d,g,ρ,d',g',R,je,h,q]:=h;rcases h with⟨l,rfl,rfl,rfl⟩|⟨a,l,rfl,hl,rfl,rfl⟩
 .let#[a,vs,rfl,ht,rs]:=je.E0;refine Vg pi s Z H _ v vl vu lo hi sl Q I rx hs pl pu #[_,_,rfl,ht.sq,λz=>?_,λp hp=>q.tup R hp (rs.cut lo hi)];refine q.now R (.tup ht ?_);have:=rs.cut lo hi
  simp_all
 .let#[a',rfl,ha]:=je.i6;let#[vs,hq,rs]:=R.items hl ha;exact Vf pi s Z H _ v vl vu lo hi sl Q I rx hs pl pu #[_,_,rfl,hq,λp hp=>q.new R hp (rs.cut lo hi)]
abbrev b46(K:PySem.W.Frag):V->V->V->Hp->(Hp->Prop)->Prop:=λo i v H Q=>∃CS di dv g ρ,Rl K ρ g H/\d5 K ρ H CS o/\d5 K ρ H di i/\d5 K ρ H dv v/\Y5 CS di dv g (λg'=>∀cw H',Ext ρ H cw H'->Rl K cw g' H'->Q H')
def bF7(hu:X.A.units+100<cLine):Dj X (b46 X.K):=by
 intro pi s Z H o i v ov iv u Q I ro ri rv h;let#[CS,di,dv,g,ρ,R,r1,r2,r3,g',h,q]:=h;rcases h with⟨a,i',l,j,rfl,rfl,hl,hj,rfl⟩|⟨a,kvs,c,rfl,ha,hc,hz,rfl⟩
 .let#[a',rfl,ha]:=r1.i6;obtain rfl:=r2.i0;let#[vs,z,rs]:=R.lst hl ha;let#[R',e']:=R.write hl ha (rs.set r3 j);exact set_list pi s Z H _ _ _ ov iv u Q I ro ri rv #[_,vs,_,j,rfl,rfl,z,by rw[<- -rs];exact hj,q ρ _ e' R']
 .let#[a',rfl,ra]:=r1.i6;let#[vs,z,rs]:=R.fb ha ra;have:=P7 hc r2;subst this;let#[R',e']:=R.put (o':=.fb (putD kvs c dv)) (u:=.dK (putK vs c v)) ha rfl ra (rs.put r3);cases ro;exact NZ () I (qP.k z (by rw[<- -rs];exact DN hz)) ri rv λs' I'=>#[_,I',q ρ _ e' R']
def bM8:m9 X (.builtin "len") (rN X.K .len):=by
 intro pi s Z H xs us Q I r h;let#[ds,g,ρ,R,rs,d',g',#[rfl,h],q]:=h;rcases h with⟨x,l,rfl,hl,rfl⟩|z|z
 .let#[v,rfl,rv]:=rs.one;let#[a,vs,rfl,rl,h]:=zx R rv hl;refine aK8 pi s Z H _ us Q I r #[_,_,rfl,?_,by rw[<- -rl];exact q.now R (.int _)];exact h.imp (λz=>z.2) (λz=>z.2.sq)
 .exact z.elim
 .exact z.elim
def Eg{K ρ H}:∀(ks:@&Key),c7 K ρ H (ks.map kD) (ks.map kV)
 |[]=>.nil
 |.inl _::r=>.cons (.int _) (Eg r)
 |.inr _::r=>.cons (.str _) (Eg r)
def d7.keys{α:Type}{K ρ H}{ds:@&(α×D)}{vs:@&(α×V)}(h:d7 K ρ H ds vs):ds.map (·.1)=vs.map (·.1):=by
 induction h with
 |nil=>rfl
 |cons _ _ ih=>simp_all
def TX(hc:X.calm=true):m9 X (.type "list") (rN X.K .list):=by
 intro pi s Z H xs us Q I r h;obtain⟨ds,g,ρ,R,rs,d',g',⟨x,l,rfl,hl,rfl,rfl⟩|⟨a,kvs,rfl,ha,hn,rfl,rfl⟩,q⟩:=h
 rotate_left
 .let#[v,rfl,rv]:=rs.one;let#[a',rfl,ra]:=rv.i6;let#[vs,z,rk]:=R.fb ha ra;exact ax2 hc pi s Z H _ us Q I r #[_,vs,rfl,z,by rw[<- -rk];exact hn,λp hp=>q (ρ++[p]) _ _ (K6 hp) (R.new hp (o:=.lst ((kvs.map (·.1)).map kD)) (u:=.lst ((vs.map (·.1)).map kV)) (by rw[rk.keys];exact Eg _)) (.ref (R.B9 p))]
 let#[v,rfl,rv]:=rs.one;let#[a,vs,rfl,rl,h]:=zx R rv hl;exact aK7 pi s Z H _ us Q I r #[_,_,rfl,h.imp (λz=>z.2) (λz=>z.2.sq),λp hp=>q.new R hp rl]
def Xr:m9 X (.type "tuple") (rN X.K .tuple):=by
 intro pi s Z H xs us Q I r h;let#[ds,g,ρ,R,rs,d',g',#[x,l,rfl,hl,rfl,rfl],q]:=h;let#[v,rfl,rv]:=rs.one;let#[a,vs,rfl,rl,h]:=zx R rv hl;refine aC1 pi s Z H _ us Q I r #[a,vs,rfl,?_];exact h.imp (λz=>#[z.2,λp hp=>q.tup R hp rl]) (λz=>#[z.2.sq,q.now R (.tup z.2 rl)])
def TK:m9 X (.builtin "isinstance") (rN X.K .isin):=by
 intro pi s Z H xs us Q I r h;let#[ds,g,ρ,R,rs,d',g',#[x,c,b,rfl,hc,hb,rfl,rfl],q]:=h;let#[v,w,rfl,r1,r2]:=rs.two;obtain rfl:=r2.Zl;let fin:=q.now R (.bl b);let go:∀(t:Value) (v:V),iN X.K H v t->PySem.W.kitOne X.K t (.type c)=!b->Vals [v,V.ty c] us->wpAny (model X.prog X.w) X.A (call (.builtin "isinstance") us) (EP X pi Z Q) X.xe s :=
  λt v ht hk r=>aN3 pi s Z H _ us Q I r #[v,t,c,b,rfl,ht,hk,fin]
 simp only[List.mem_cons,List.mem_nil_iff,or_false] at hc;cases r1 with
 |bg=>refine go _ _ .bg ?_ r;cases hb;rcases hc with rfl|rfl|rfl|rfl|rfl<;>rfl
 |bl y=>refine go _ _ (.bl y) ?_ r;cases hb;rcases hc with rfl|rfl|rfl|rfl|rfl<;>rfl
 |int y=>refine go _ _ (.int y) ?_ r;cases hb;rcases hc with rfl|rfl|rfl|rfl|rfl<;>rfl
 |str y=>refine go _ _ (.str y) ?_ r;cases hb;rcases hc with rfl|rfl|rfl|rfl|rfl<;>rfl
 |ty _=>cases hb
 |tup ht rs =>
  cases hb;rcases ht with ht|ht
  .refine go _ _ (.tup ht) ?_ r;rcases hc with rfl|rfl|rfl|rfl|rfl<;>rfl
  .let#[o,bh,n,lk,kh,_]:=ht;let#[u,w',rfl,ru,fX]:=vals2 r;cases (show w'=Value.type c from fX);cases ru;let hk:PySem.W.kitOne X.K (.type "tuple") (.type c)=!(c=="tuple"):=by rcases hc with rfl|rfl|rfl|rfl|rfl<;>rfl
   exact cc OX I.gN #[o,I.gN _ _ lk,kh] hk (λz=>nomatch z) λtk=>#[.bl _,H,I.tok tk,rfl,fin]
 |@ref i a ha =>
  let wD:∃m,g'[i]?=!.lst m/\b=(c=="list"):=by
   simp only[sP] at hb;split at hb
   .exact#[_,by assumption,(aN hb).symm]
   .cases hb
  let#[m,e,rfl]:=wD;let#[vs,z,_]:=R.lst e ha;refine go _ _ (.lst z) ?_ r;rcases hc with rfl|rfl|rfl|rfl|rfl<;>rfl
set_option tactic.hygienic true in
def a10:∀{l:@&D} {b:Bool},Y3 l=!b->∃bs:@&Bool,l=bs.map D.bl/\b=bs.all id:=by
 intro l
 induction l with
 |nil=>intro b h;cases h;exact#[[],rfl,rfl]
 |cons d r ih =>
  intro b h;cases d<;>first|(cases h;done)|skip
  rename_i c;simp only[Y3] at h;cases e:Y3 r with
  |none=>simp_all
  |some b' =>
   rw[e] at h;cases h;let#[bs,rfl,rfl]:=ih e;exact#[c::bs,rfl,by simp]
def c7.VC{K ρ H}:∀{bs:@&Bool} {vs:@&V},c7 K ρ H (bs.map D.bl) vs->vs=bs.map V.bl:=by
 intro bs
 induction bs with
 |nil=>intro vs h;cases h;rfl
 |cons b r ih =>
  intro vs h;cases h with
  |cons h rr=>rw[ih rr,h.M4];rfl
def Zw(hc:X.calm=true):m9 X (.builtin "all") (rN X.K .all):=by
 intro pi s Z H xs us Q I r h;let#[ds,g,ρ,R,rs,d',g',#[a,l,b,rfl,hl,hb,rfl,rfl],q]:=h;let#[v,rfl,rv]:=rs.one;let#[a',rfl,ra]:=rv.i6;let#[vs,hq,rs]:=R.items hl ra;rcases hb with hb|⟨ns,rfl,rfl⟩
 rotate_left
 .have:=rs.ints;subst this;exact XF hc pi s Z H _ us Q I r #[_,ns,rfl,hq,q.now R (.bl _)]
 let#[bs,rfl,rfl]:=a10 hb;have:=rs.VC;subst this;exact XE hc pi s Z H _ us Q I r #[_,bs,rfl,hq,q.now R (.bl _)]
def bM0(hc:X.calm=true):m9 X (.builtin "max") (rN X.K .max):=by
 intro pi s Z H xs us Q I r h;obtain⟨ds,g,ρ,R,rs,d',g',⟨rfl,⟨i,j,rfl,rfl⟩|⟨a,ns,M,rfl,hl,h1,h2,rfl⟩⟩,q⟩:=h
 rotate_left
 .let#[v,rfl,rv]:=rs.one;let#[a',rfl,ra]:=rv.i6;let#[vs,hq,rs]:=R.items hl ra;have:=rs.ints;subst this;exact XH hc pi s Z H _ us Q I r #[_,ns,M,rfl,hq,h1,h2,q.now R (.int _)]
 let#[v,w,rfl,r1,r2]:=rs.two;obtain rfl:=r1.i0;obtain rfl:=r2.i0;exact XG hc pi s Z H _ us Q I r #[i,j,rfl,q.now R (.int _)]
def bL8(hc:X.calm=true)(hu:X.A.units+100<cLine):m9 X (.builtin "min") (rN X.K .min):=by
 intro pi s Z H xs us Q I r h;obtain⟨ds,g,ρ,R,rs,d',g',⟨rfl,⟨i,j,rfl,rfl⟩|z⟩,q⟩:=h
 rotate_left
 .exact z.elim
 let#[v,w,rfl,r1,r2]:=rs.two;obtain rfl:=r1.i0;obtain rfl:=r2.i0;exact a99 hc pi s Z H _ us Q I r #[i,j,rfl,q.now R (.int _)]
def bD8(hc:X.calm=true):m9 X (.builtin "sum") (rN X.K .sum):=by
 intro pi s Z H xs us Q I r h;let#[ds,g,ρ,R,rs,d',g',h,q]:=h;let#[a,ns,rfl,hl,rfl,rfl]:=h;let#[v,rfl,rv]:=rs.one;let#[a',rfl,ra]:=rv.i6;let#[vs,hq,rs]:=R.items hl ra;have:=rs.ints;subst this;exact a98 hc pi s Z H _ us Q I r #[_,ns,rfl,hq,q.now R (.int _)]
def ZS:m9 X (.type "int") (rN X.K .int):=by
 intro pi s Z H xs us Q I r h;let#[ds,g,ρ,R,rs,d',g',#[rfl,h],q]:=h;rcases h with⟨i,rfl,rfl⟩|⟨b,rfl,rfl⟩
 .let#[v,rfl,rv]:=rs.one;obtain rfl:=rv.i0;exact NW pi s Z H _ us Q I r (.inl #[i,rfl,q.now R (.int _)])
 .let#[v,rfl,rv]:=rs.one;obtain rfl:=rv.M4;exact NW pi s Z H _ us Q I r (.inr #[b,rfl,q.now R (.int _)])
abbrev rM(K:PySem.W.Frag)(p:Pr):V->@&V->Hp->VK->Prop:=λx xs H Q=>∃d ds g ρ,Rl K ρ g H/\d5 K ρ H d x/\c7 K ρ H ds xs/\cN p (d::ds) g (LQ K ρ H Q)
def zO{a b:D}{m:@&D}(h:a::l=b::m):a=b/\l=m:=by cases h;exact#[rfl,rfl]
def XB:nu X "list.append" (rM X.K .append):=by
 intro pi s Z H x xs v us Q I rx r h;let#[d,ds,g,ρ,R,rd,rs,d',g',#[a,y,l,ex,ha,hz,rfl,rfl],q]:=h;let#[rfl,rfl]:=zO ex;let#[a',rfl,ra]:=rd.i6;let#[w,rfl,fX]:=rs.one;let#[vs,z1,rv]:=R.lst ha ra;let#[R2,e2]:=R.write ha ra (rv.append (.cons fX .nil));exact a71 pi s Z H _ _ v us Q I rx r #[_,vs,_,rfl,rfl,z1,by rw[<- -rv];exact DN hz,q ρ _ _ e2 R2 .bg]
def d7.JR{K ρ H}:∀ks:@&Int,d7 K ρ H (ks.map λk=>((.inl k:Key),D.bl true)) (ks.map λk=>((.inl k:Key),V.bl true))
 |[]=>.nil
 |_::ks=>.cons (.bl true) (d7.JR ks)
def KI{K ρ H}:∀{ks:@&Int} {vs:@&V},c7 K ρ H (ks.map λk=>.tup [.int k,.bl true]) vs->∃ts:@&Addr,vs=ts.map V.ref/\-ts=-ks/\∀(i:Nat) t k,ts[i]?=!t->ks[i]?=!k->iO K H t [.int k,.bl true]
 |[],_,h=>by cases h;simp
 |k::ks,_,h=>by
  cases h with
  |cons r rs =>
  let#[ts,rfl,hl,ht]:=KI rs;let#[a,vs,rfl,h1,h2]:=r.E0;refine#[a::ts,rfl,by simp[hl],λi t k' e1 e2=>?_];cases i with
  |zero =>
   cases e1;cases e2;cases h2 with
   |cons r1 r2 =>
   cases r2 with
   |cons r2 r3 =>
   cases r3;cases r1;cases r2;exact h1.sq
  |succ i=>exact ht i t k' e1 e2
def VM(hc:X.calm=true):m9 X (.type "dict") (rN X.K .oG):=by
 intro pi s Z H xs us Q I r h;obtain⟨ds,g,ρ,R,rs,d',g',z|⟨a,ks,rfl,ha,hz,nd,rfl,rfl⟩,q⟩:=h
 .exact z.elim
 .let#[v,rfl,rv]:=rs.one;let#[a',rfl,ra]:=rv.i6;let#[vs,z1,rk]:=R.items ha ra;let#[ts,rfl,hl,ht]:=KI rk;refine au2 hc pi s Z H _ us Q I r #[a',ts,ks,rfl,z1,hl,ht,by omega,nd,λp hp=>?_];exact q (ρ++[p]) _ _ (K6 hp) (R.new hp (o:=.fb (ks.map λk=>(.inl k,.bl true))) (u:=.dK (ks.map λk=>(.inl k,.bl true))) (d7.JR ks)) (.ref (R.B9 p))
def ZM(hu:X.A.units+100<cLine):nu X "dict.get" (rM X.K .get):=by
 intro pi s Z H x xs v us Q I rx r h;let#[d,ds,g,ρ,R,rd,rs,d',g',#[a,y,z,kvs,c,ex,ha,hc,rfl,rfl],q]:=h;let#[rfl,rfl]:=zO ex;let#[a',rfl,ra]:=rd.i6;let#[w1,w2,rfl,r1,r2]:=rs.two;let#[vs,z1,rv]:=R.fb ha ra;have:=P7 hc r1;subst this;let#[u1,u2,rfl,p1,p2]:=vals2 r;cases rx;refine ZH () I (F6.k z1) p1 p2 λw' s4 I4 fX=>#[_,H,I4,fX,q.now R ?_]
 let q:=rv.val c;cases e1:v8 kvs c with
 |none =>
  rw[e1] at q;cases e2:K1 vs c with
  |none=>exact r2
  |some w=>rw[e2] at q;exact q.elim
 |some d' =>
  rw[e1] at q;let#[w,hw,q]:=q.some
  simp_all
def WE:nu X "list.pop" (rM X.K .pop):=by
 intro pi s Z H x xs v us Q I rx r h;let#[d,ds,g,ρ,R,rd,rs,y,g',#[a,i,l,k,ex,ha,h1,h2,hk,hy,rfl],q]:=h;let#[rfl,rfl]:=zO ex;let#[a',rfl,ra]:=rd.i6;let#[w,rfl,fX]:=rs.one;obtain rfl:=fX.i0;let#[vs,z1,rv]:=R.lst ha ra;let#[w,hw,fX]:=rv.get hy;let#[R2,e2]:=R.write ha ra (rv.erase k);exact Wk pi s Z H _ _ v us Q I rx r #[_,vs,i,k,w,rfl,rfl,z1,h1,h2,by rw[<- -rv];exact hk,hw,q ρ _ _ e2 R2 (fX.ext e2)]
def c7.strs{K ρ H}{ys:@&Str}(h:c7 K ρ H (ys.map D.str) vs):vs=ys.map V.str:=by
 induction ys generalizing vs with
 |nil=>cases h;rfl
 |cons y ys ih =>
  cases h with
  |cons q r=>cases q;rw[ih r];rfl
def ty_list(R:Rl X.K ρ g H)(r:d5 X.K ρ H d v)(h:∃a l,d=.ref a/\c9 g a=!l):oR X.K "list" v H:=by
 let#[a,l,rfl,hl]:=h;let#[a',rfl,ra]:=r.i6;let#[vs,hq,_]:=R.items hl ra;exact .inl #[rfl,vs,hq]
def UO:nu X "set.add" (rM X.K .kY):=by
 intro pi s Z H x xs v us Q I rx r h;let#[d,ds,g,ρ,R,rd,rs,d',g',#[a,i,S,n,ex,ha,hn,rfl,rfl],q]:=h;let#[rfl,rfl]:=zO ex;let#[a',rfl,ra]:=rd.i6;let#[w,rfl,fX]:=rs.one;obtain rfl:=fX.i0;let#[R2,e2]:=R.put (o':=.set (λk=>S k||decide (k=i)) (if S i then n else n+1)) (u:=.set (λk=>S k||decide (k=i)) (if S i then n else n+1)) ha rfl ra #[rfl,rfl];exact aW8 pi s Z H _ _ v us Q I rx r #[_,i,S,n,rfl,rfl,R.set ha ra,hn,q ρ _ _ e2 R2 .bg]
def ty_set(R:Rl X.K ρ g H)(r:d5 X.K ρ H d v)(h:mY .kY d g):oR X.K "set" v H:=by
 let#[a,S,n,rfl,hl]:=h;let#[a',rfl,ra]:=r.i6;exact .inr (.inr (.inr #[rfl,S,n,R.set hl ra]))
def ty_dict(R:Rl X.K ρ g H)(r:d5 X.K ρ H d v)(h:mY .get d g):oR X.K "dict" v H:=by
 let#[a,l,rfl,hl]:=h;let#[a',rfl,ra]:=r.i6;let#[vs,hq,_]:=R.fb hl ra;exact .inr (.inr (.inl #[rfl,.inl #[vs,hq]]))
noncomputable abbrev jm:=@&Str×XK
abbrev LX(K:PySem.W.Frag)(ρ:@&Addr)(H:Hp)(Ξ:jm):KX:=λx g'=>∀cw H' C,Ext ρ H cw H'->Rl K cw g' H'->x.cls∈Ξ.1->x5 K x.cls C->Ξ.2 (.ref C) none H'
def LX.ext{K:PySem.W.Frag}{cv:@&Addr}{H1:Hp}{Ξ:jm}(e:Ext ρ H cv H1){x:Xn}(h:LX K ρ H Ξ x g):LX K cv H1 Ξ x g:=λcw H' C e' R hm c=>h cw H' C (e.trans e') R hm c
noncomputable abbrev sV(ex:@&Str):jm:=(ex,λx x x=>False)
abbrev LE(K:PySem.W.Frag)(Ξ:jm)(t:S->G->KD->KX->Prop):TE:=λbU H Q=>∃Z g ρ,u5 K ρ H Z bU/\Rl K ρ g H/\t Z g (LQ K ρ H Q) (LX K ρ H Ξ)
abbrev LT(K:PySem.W.Frag)(Ξ:jm)(t:S->G->(Bool->G->Prop)->KX->Prop):TT:=λbU H Q=>∃Z g ρ,u5 K ρ H Z bU/\Rl K ρ g H/\t Z g (λb g'=>∀cw H',Ext ρ H cw H'->Rl K cw g' H'->Q b H') (LX K ρ H Ξ)
abbrev LA(K:PySem.W.Frag)(Ξ:jm)(t:S->G->(List D->G->Prop)->KX->Prop):TA:=λbU H Q=>∃Z g ρ,u5 K ρ H Z bU/\Rl K ρ g H/\t Z g (λds g'=>∀cw H' vs,Ext ρ H cw H'->Rl K cw g' H'->c7 K cw H' ds vs->Q vs H') (LX K ρ H Ξ)
abbrev oX(K:PySem.W.Frag)(ie:@&Addr)(H0:Hp)(k:IK)(J:It):Prop:=∀ρ g H,Ext ie H0 ρ H->Rl K ρ g H->∀i,(k.at i g=!none->J.stop i H) /\
 ∀d,k.at i g=!!d->J.go i H/\∀v H',J.qk i H v H'->Ext ρ H ρ H'/\Rl K ρ g H'/\d5 K ρ H' d v
abbrev LI(K:PySem.W.Frag)(Ξ:jm)(t:S->G->(IK->G->Prop)->KX->Prop):TI:=λbU H R=>∃Z g ρ,u5 K ρ H Z bU/\Rl K ρ g H/\t Z g (λk g'=>∀cw H' J,Ext ρ H cw H'->Rl K cw g' H'->oX K cw H' k J->R J H') (LX K ρ H Ξ)
abbrev LG(K:PySem.W.Frag)(t:MT):TG:=λv bU H Q=>∃d Z g ρ,u5 K ρ H Z bU/\Rl K ρ g H/\d5 K ρ H d v/\kK t d Z (λcB=>∀dz,u5 K ρ H cB dz->Q dz H)
abbrev LN(K:PySem.W.Frag)(ρ:@&Addr)(H:Hp)(N:L2.Ends):Ends where
 nx:=λcB g'=>∀cw H' dz,Ext ρ H cw H'->Rl K cw g' H'->u5 K cw H' cB dz->N.nx dz H'
 rt:=LQ K ρ H N.rt
 bk:=λcB g'=>∀cw H' dz,Ext ρ H cw H'->Rl K cw g' H'->u5 K cw H' cB dz->N.bk dz H'
 ct:=λcB g'=>∀cw H' dz,Ext ρ H cw H'->Rl K cw g' H'->u5 K cw H' cB dz->N.ct dz H'
abbrev LS(K:PySem.W.Frag)(Ξ:jm)(t:Ends->S->G->KX->Prop):TS:=λN bU H=>∃Z g ρ,u5 K ρ H Z bU/\Rl K ρ g H/\t (LN K ρ H N) Z g (LX K ρ H Ξ)
end M
namespace L2
open PySem PySem.Spec PyProof.Rows
variable{t t':TT}
section
variable{X:Cx}{e:Expr}
def PE.imp{t t':TE}(h:PE X e t)(i:∀Z H Q,t' Z H Q->t Z H Q):PE X e t':=λpi s Z H Q I q=>h pi s Z H Q I (i Z H Q q)
def PT.imp(h:PT X e t)(i:∀Z H Q,t' Z H Q->t Z H Q):PT X e t':=λpi s Z H Q I q=>h pi s Z H Q I (i Z H Q q)
def PW.imp(h:PW X e t)(i:∀Z H Q,t' Z H Q->t Z H Q):PW X e t':=λw pi s Z H Q I q=>h w pi s Z H Q I (i Z H Q q)
def PA.imp{es:@&Expr}{t t':TA}(h:PA X es t)(i:∀Z H Q,t' Z H Q->t Z H Q):PA X es t':=λp pi s Z H Q I q=>h p pi s Z H Q I (i Z H Q q)
def mh.imp{es:@&Expr}(h:mh X es t)(i:∀Z H Q,t' Z H Q->t Z H Q):mh X es t':=λpi s Z H Q I q=>h pi s Z H Q I (i Z H Q q)
def PI.imp{tg:Expr}{t t':TI}(h:PI X tg e t)(i:∀Z H Q,t' Z H Q->t Z H Q):PI X tg e t':=λpi s Z H Q I q=>h pi s Z H Q I (i Z H Q q)
def PG.imp{t t':TG}(h:PG X e t)(i:∀v Z H Q,t' v Z H Q->t v Z H Q):PG X e t':=λpi s Z H v u Q I r q=>h pi s Z H v u Q I r (i v Z H Q q)
def PS.imp{st:Stmt}{t t':TS}(h:PS X st t)(i:∀N Z H,t' N Z H->t N Z H):PS X st t':=λpi s Z H N I q=>h pi s Z H N I (i N Z H q)
def kE.imp{st:@&Stmt}{t t':TS}(h:kE X st t)(i:∀N Z H,t' N Z H->t N Z H):kE X st t':=λpi s Z H N I q=>h pi s Z H N I (i N Z H q)
end
end L2
namespace M
open PySem L2 PySem.Spec PyProof.Rows
variable{Ξ:jm}{P:fK}{op iW:CmpOp}{rest es:@&Expr}{iD mo:ME}{p2 q apos jF:Pos}{x:Str}{o:Expr}
section
variable{K:PySem.W.Frag}(hP:i5 P){ρ ie:@&Addr}{H H0:Hp}{Z:S}{bU:L2.St}{g:G}{m:ME}
include hP
def fH{Q0:KD}{Q:VK}(s:u5 K ρ H Z bU)(R:Rl K ρ g H)(e0:Ext ie H0 ρ H)(h:aY P m Z g Q0 (LX K ie H0 Ξ))(k:∀x g1 cv H1 v1,Ext ρ H cv H1->Rl K cv g1 H1->d5 K cv H1 x v1->Q0 x g1->Q v1 H1):LE K Ξ (aY P m) bU H Q :=
 #[Z,g,ρ,s,R,b9 hP m _ _ _ _ _ _ (λx g1 h cv H1 v1 e1 R1 r1=>k x g1 cv H1 v1 e1 R1 r1 h) (λy y z=>LX.ext e0 z) h]
def jW{Q0:@&D->G->Prop}{Q:@&V->Hp->Prop}(s:u5 K ρ H Z bU)(R:Rl K ρ g H)(e0:Ext ie H0 ρ H)(h:fN P m Z g Q0 (LX K ie H0 Ξ))(k:∀x g1 cv H1 v1,Ext ρ H cv H1->Rl K cv g1 H1->c7 K cv H1 x v1->Q0 x g1->Q v1 H1):LA K Ξ (fN P m) bU H Q :=
 #[Z,g,ρ,s,R,F7 hP m _ _ _ _ _ _ (λx g1 h cv H1 v1 e1 R1 r1=>k x g1 cv H1 v1 e1 R1 r1 h) (λy y z=>LX.ext e0 z) h]
def qm{Q0:Bool->G->Prop}{Q:Bool->Hp->Prop}(s:u5 K ρ H Z bU)(R:Rl K ρ g H)(e0:Ext ie H0 ρ H)(h:dY P m Z g Q0 (LX K ie H0 Ξ))(k:∀t g1 cv H1,Ext ρ H cv H1->Rl K cv g1 H1->Q0 t g1->Q t H1):LT K Ξ (dY P m) bU H Q :=
 #[Z,g,ρ,s,R,v7 hP m _ _ _ _ _ _ (λt g1 h cv H1 e1 R1=>k t g1 cv H1 e1 R1 h) (λx x z=>LX.ext e0 z) h]
def tj{ms:MS}{N:L2.Ends}{N0:Ends}(s:u5 K ρ H Z bU)(R:Rl K ρ g H)(e0:Ext ie H0 ρ H)(h:wpS P ms N0 Z g (LX K ie H0 Ξ))(k:N0.le (LN K ρ H N)):LS K Ξ (wpS P ms) N bU H :=
 #[Z,g,ρ,s,R,wpS_mono hP ms _ _ _ _ _ _ k (λx x z=>LX.ext e0 z) h]
end
def c7.nF{K ρ H}(lo:Int)(n:Nat):c7 K ρ H (j6 lo n) ((List.range n).map λ(k:Nat)=>V.int (lo+k)):=by
 have:∀l:@&Nat,c7 K ρ H (l.map λ(k:Nat)=>D.int (lo+k)) (l.map λ(k:Nat)=>V.int (lo+k)):=by
  intro l
  induction l with
  |nil=>exact .nil
  |cons x r ih=>exact .cons (.int _) ih
 exact this _
section
variable{X:Cx}(hP:i5 P){a b c e:Expr}{ma mb mc:ME}{pos:Pos}{p:Pr}
include hP
def Ga(h:PE X e (tu (r2 X.K p) (LE X.K Ξ (aY P ma)) (LE X.K Ξ (aY P mb)))):PE X e (LE X.K Ξ (aY P (.prim p (.cons ma (.cons mb .nil))))) :=
 h.imp λbU H Q bo=>by
  let#[Z,g,ρ,s,R,h]:=bo;exact fH hP s R (.refl _ _) h λx g1 cv H1 v1 e1 R1 r1 h=>fH hP (s.ext e1) R1 e1 h λy g2 eV H2 v2 e2 R2 r2 h =>
   #[x,y,g2,eV,R2,r1.ext e2,r2,v9 (λd g' h=>h.ext (e1.trans e2)) h]
def bE1(h:PT X e (Fy (tu (r2 X.K (.cmp op)) (LE X.K Ξ (aY P ma)) (LE X.K Ξ (aY P mb))))):PT X e (LT X.K Ξ (dY P (.fC (.prim (.cmp op) (.cons ma (.cons mb .nil)))))) :=
 h.imp λbU H Q bo=>by
  let#[Z,g,ρ,s,R,h]:=bo;refine fH hP s R (.refl _ _) h λx g1 cv H1 v1 e1 R1 r1 h=>fH hP (s.ext e1) R1 e1 h λy g2 eV H2 v2 e2 R2 r2 h=>?_;let#[d',g',h,q]:=h;let#[x',y',t,ex,hc,rfl,rfl]:=id h;refine#[x,y,g',eV,R2,r1.ext e2,r2,_,_,h,λcw H' v e' R' r'=>?_];let#[t',ht,q]:=q;rcases ht with⟨z,_⟩|z|⟨i,z,_⟩|⟨l,z,_⟩|⟨a,l,z,_⟩<;>cases z
  exact#[_,r'.M4,q cw H' (e1.trans (e2.trans e')) R']
def YV{op:UnaryOp}(ha:PE X a (LE X.K Ξ (aY P ma))):PE X (.UnaryOp op a pos) (LE X.K Ξ (aY P (.prim (.un op) (.cons ma .nil)))) :=
 (YH (YA op) ha).imp λbU H Q bo=>by
  let#[Z,g,ρ,s,R,h]:=bo;exact fH hP s R (.refl _ _) h λx g1 cv H1 v1 e1 R1 r1 h=>#[x,g1,cv,R1,r1,v9 (λd g' h=>h.ext e1) h]
def Nn:∀bU H Q,LE X.K Ξ (aY P (.chain op iW ma mb mc)) bU H Q->Gd (r2 X.K (.cmp op)) (r2 X.K (.cmp iW)) (LE X.K Ξ (aY P ma)) (LE X.K Ξ (aY P mb)) (LE X.K Ξ (aY P mc)) bU H Q:=λbU H Q bo=>by
 let#[Z,g,ρ,s,R,h]:=bo;refine fH hP s R (.refl _ _) h λx g1 cv H1 v1 e1 R1 r1 h=>fH hP (s.ext e1) R1 e1 h λy g2 eV H2 v2 e2 R2 r2 h=>?_;refine#[x,y,g2,eV,R2,r1.ext e2,r2,v9 (λd g3 h ic H3 v3 e3 R3 r3=>?_) h];let#[t,rfl,h]:=h;obtain rfl:=r3.M4;refine#[t,rfl,?_];cases t
 .exact h ic H3 _ (e1.trans (e2.trans e3)) R3 (.bl _)
 .exact fH hP (s.ext (e1.trans (e2.trans e3))) R3 (e1.trans (e2.trans e3)) h λz g4 mT H4 v4 e4 R4 r4 h =>
   #[y,z,g4,mT,R4,r2.ext (e3.trans e4),r4,v9 (λd g' h=>h.ext (e1.trans (e2.trans (e3.trans e4)))) h]
def WV(hu:X.A.units+100<cLine)(ha:PE X a (LE X.K Ξ (aY P ma)))(hb:PE X b (LE X.K Ξ (aY P mb)))(hc:PE X c (LE X.K Ξ (aY P mc)))(hm:lastMarks [op,iW] [b,c]=false) :
  PE X (.Compare a [op,iW] [b,c] pos) (LE X.K Ξ (aY P (.chain op iW ma mb mc))):=(Wt (uK hu op) (uK hu iW) ha hb hc hm).imp (Nn hP)
def VH{Z:S}{g:G}{Q:Bool->G->Prop}{E:KX}(h:dY P (.fC (.chain op iW ma mb mc)) Z g Q E):aY P (.chain op iW ma mb mc) Z g (λd g'=>∃t,d=.bl t/\Q t g') E:=by
 let one:∀{o:CmpOp} {xs:@&D} {g:G},cN (.cmp o) xs g (λd g1=>qT g1 d λb=>Q b g1)->cN (.cmp o) xs g λd g'=>∃t,d=.bl t/\Q t g':=by
  intro o xs g h;let#[d',g',h,t',ht,q]:=h;let#[x',y',t,ex,hc,rfl,rfl]:=id h;refine#[_,_,h,t',?_,q];rcases ht with⟨z,_⟩|z|⟨i,z,_⟩|⟨l,z,_⟩|⟨a,l,z,_⟩<;>first|exact z|cases z
 refine b9 hP ma _ _ _ _ _ _ (λx g1 h=>b9 hP mb _ _ _ _ _ _ (λy g2 h=>v9 (λz g3 h=>?_) h) (λv v z=>z) h) (λv v z=>z) h;let#[t,rfl,h]:=h;refine#[t,rfl,?_];cases t
 .let#[b,hb,q]:=(show qT g3 (.bl false) λb=>Q b g3 from h)
  rcases hb with⟨z,_⟩|z|⟨i,z,_⟩|⟨l,z,_⟩|⟨a,l,z,_⟩<;>first|(cases z;exact#[_,rfl,q])|cases z
 .exact b9 hP mc _ _ _ _ _ _ (λw g4 h=>one h) (λv v z=>z) h
def Xl(hu:X.A.units+100<cLine)(ha:PE X a (LE X.K Ξ (aY P ma)))(hb:PE X b (LE X.K Ξ (aY P mb)))(hc:PE X c (LE X.K Ξ (aY P mc)))(hm:lastMarks [op,iW] [b,c]=false) :
  PT X (.Compare a [op,iW] [b,c] pos) (LT X.K Ξ (dY P (.fC (.chain op iW ma mb mc)))) :=
 (WJ (uK hu op) (uK hu iW) ha hb hc hm).imp λbU H Q ⟨Z,g,ρ,s,R,h⟩ =>
  Nn hP bU H _ (fH hP s R (.refl _ _) (VH hP h) λx g1 cv H1 v1 e1 R1 r1 h=>by
   let#[t,rfl,h]:=h;exact #[t,r1.M4,h cv H1 e1 R1])
def bG9(ha:PE X a (LE X.K Ξ (aY P ma)))(hb:PE X (.BoolOp .And (b::rest) pos) (LE X.K Ξ (aY P mb))):PE X (.BoolOp .And (a::b::rest) pos) (LE X.K Ξ (aY P (.dF ma mb))) :=
 (bK1 ha hb).imp λbU H Q bo=>by
  let#[Z,g,ρ,s,R,h]:=bo;refine fH hP s R (.refl _ _) h λx g1 cv H1 v1 e1 R1 r1 h=>?_;let#[t,rfl,h]:=h;refine#[t,r1.M4,?_];cases t
  .exact h cv H1 _ e1 R1 (.bl _)
  .exact fH hP (s.ext e1) R1 e1 h λy g2 eV H2 v2 e2 R2 r2 h=>h eV H2 v2 (e1.trans e2) R2 r2
def YU(ha:PE X a (LE X.K Ξ (aY P ma)))(hb:PE X (.BoolOp .Or (b::rest) pos) (LE X.K Ξ (aY P mb))):PE X (.BoolOp .Or (a::b::rest) pos) (LE X.K Ξ (aY P (.ke ma mb))) :=
 (YG ha hb).imp λbU H Q bo=>by
  let#[Z,g,ρ,s,R,h]:=bo;refine fH hP s R (.refl _ _) h λx g1 cv H1 v1 e1 R1 r1 h=>?_;let#[t,rfl,h]:=h;refine#[t,r1.M4,?_];cases t
  .exact fH hP (s.ext e1) R1 e1 h λy g2 eV H2 v2 e2 R2 r2 h=>h eV H2 v2 (e1.trans e2) R2 r2
  .exact h cv H1 _ e1 R1 (.bl _)
def bG3(ha:PE X a (LE X.K Ξ (aY P ma))):PE X (.UnaryOp .Not a pos) (LE X.K Ξ (aY P (.dQ ma))) :=
 (bJ4 ha).imp λbU H Q bo=>by
  let#[Z,g,ρ,s,R,h]:=bo;refine fH hP s R (.refl _ _) h λx g1 cv H1 v1 e1 R1 r1 h=>?_;let#[t,rfl,h]:=h;exact#[t,r1.M4,h cv H1 _ e1 R1 (.bl _)]
def bG5(hc:PT X c (LT X.K Ξ (dY P mc)))(ha:PE X a (LE X.K Ξ (aY P ma)))(hb:PE X b (LE X.K Ξ (aY P mb))):PE X (.IfExp c a b pos) (LE X.K Ξ (aY P (.ite mc ma mb))) :=
 (Ww hc ha hb).imp λbU H Q bo=>by
  let#[Z,g,ρ,s,R,h]:=bo;refine qm hP s R (.refl _ _) h λt g1 cv H1 e1 R1 h=>?_;cases t
  .exact fH hP (s.ext e1) R1 e1 h λy g2 eV H2 v2 e2 R2 r2 h=>h eV H2 v2 (e1.trans e2) R2 r2
  .exact fH hP (s.ext e1) R1 e1 h λy g2 eV H2 v2 e2 R2 r2 h=>h eV H2 v2 (e1.trans e2) R2 r2
def bG0{k:Nat}(h:PA X es (LA X.K Ξ (fN P iD))):PE X (.Tuple es k pos) (LE X.K Ξ (aY P (.prim .tup iD))) :=
 (xB h).imp λbU H Q bo=>by
  let#[Z,g,ρ,s,R,h]:=bo;refine jW hP s R (.refl _ _) h λds g1 cv H1 vs e1 R1 r1 h=>?_;let#[d',g',#[hz,rfl,rfl],q]:=h;exact#[by rw[<- -r1];exact B5 (aG hz ∅),λp hp=>(q.ext e1).tup R1 hp r1]
def bG4(h:PA X es (LA X.K Ξ (fN P iD))):PE X (.List es pos) (LE X.K Ξ (aY P (.prim .lst iD))) :=
 (bJ6 h).imp λbU H Q bo=>by
  let#[Z,g,ρ,s,R,h]:=bo;refine jW hP s R (.refl _ _) h λds g1 cv H1 vs e1 R1 r1 h=>?_;let#[d',g',#[hz,rfl,rfl],q]:=h;exact#[by rw[<- -r1];exact B5 (aG hz ∅),λp hp=>(q.ext e1).new R1 hp r1]
def N8:PA X [] (LA X.K Ξ (fN P .nil)) :=
 (N9 (X:=X)).imp λbU H Q bo=>by
  let#[Z,g,ρ,s,R,h]:=bo;exact h ρ H [] (.refl _ _) R .nil
def E9(ha:PE X a (LE X.K Ξ (aY P ma)))(h:PA X es (LA X.K Ξ (fN P iD)))(hs:starEach (a::es) X.env=(false,eval a X.env)::starEach es X.env):PA X (a::es) (LA X.K Ξ (fN P (.cons ma iD))) :=
 (L1 ha h hs).imp λbU H Q bo=>by
  let#[Z,g,ρ,s,R,h]:=bo;exact fH hP s R (.refl _ _) h λx g1 cv H1 v1 e1 R1 r1 h=>jW hP (s.ext e1) R1 e1 h λxs g2 eV H2 vs e2 R2 r2 h=>h eV H2 _ (e1.trans e2) R2 (.cons (r1.ext e2) r2)
def Xe(ha:PE X a (LE X.K Ξ (aY P ma)))(hb:PE X b (LE X.K Ξ (aY P mb))):PE X (.Subscript a (.Slice (!b) none none p2) pos) (LE X.K Ξ (aY P (.prim (.ku true false) (.cons ma (.cons mb .nil))))) :=
 (Eo Fw ha (zK hb) MM).imp λbU H Q bo=>by
  let#[Z,g,ρ,s,R,h]:=bo;refine fH hP s R (.refl _ _) h λx g1 cv H1 v1 e1 R1 r1 h=>fH hP (s.ext e1) R1 e1 h λy g2 eV H2 v2 e2 R2 r2 h=>?_;let#[d',g',#[x',i,ex,h],q]:=h;cases ex;exact#[i,r2.i0,x,g2,eV,d',g',R2,r1.ext e2,h,q.ext (e1.trans e2)]
def Xd(ha:PE X a (LE X.K Ξ (aY P ma)))(hb:PE X b (LE X.K Ξ (aY P mb))):PE X (.Subscript a (.Slice none (!b) none p2) pos) (LE X.K Ξ (aY P (.prim (.ku false true) (.cons ma (.cons mb .nil))))) :=
 (Eo Fw ha MM (zK hb)).imp λbU H Q bo=>by
  let#[Z,g,ρ,s,R,h]:=bo;refine fH hP s R (.refl _ _) h λx g1 cv H1 v1 e1 R1 r1 h=>fH hP (s.ext e1) R1 e1 h λy g2 eV H2 v2 e2 R2 r2 h=>?_;let#[d',g',#[x',i,ex,h],q]:=h;cases ex;exact#[i,r2.i0,x,g2,eV,d',g',R2,r1.ext e2,h,q.ext (e1.trans e2)]
def Xf{i j:Int}(ha:PE X a (LE X.K Ξ (aY P ma)))(hb:PE X b (LE X.K Ξ (aY P (.lit (.int i)))))(hc:PE X c (LE X.K Ξ (aY P (.lit (.int j))))):PE X (.Subscript a (.Slice (!b) (!c) none p2) pos) (LE X.K Ξ (aY P (.prim (.ku true true) (.cons ma (.cons (.lit (.int i)) (.cons (.lit (.int j)) .nil)))))) :=
 (Eo Fw ha (zK hb) (zK hc)).imp λbU H Q bo=>by
  let#[Z,g,ρ,s,R,h]:=bo;refine fH hP s R (.refl _ _) h λx g1 cv H1 v1 e1 R1 r1 h=>?_;let#[d',g',#[x',i',j',ex,h],q]:=(show cN (.ku true true) [x,.int i,.int j] g1 _ from h)
  cases ex;refine#[Z,g1,cv,s.ext e1,R1,λeV H2 v2 e2 R2 r2=>#[i,r2.i0,?_]];refine#[Z,g1,eV,(s.ext e1).ext e2,R2,λic H3 v3 e3 R3 r3=>#[j,r3.i0,?_]];exact#[x,g1,ic,d',g',R3,r1.ext (e2.trans e3),h,q.ext (e1.trans (e2.trans e3))]
def bD9(ha:PE X a (LE X.K Ξ (aY P ma)))(he:∀whole,isTrue a X.env whole=(do let v <- whole;standAt a.pos;holding [v] (truthy v))):PT X a (LT X.K Ξ (dY P (.fC ma))) :=
 (WK ha he).imp λbU H Q bo=>by
  let#[Z,g,ρ,s,R,h]:=bo;refine fH hP s R (.refl _ _) h λx g1 cv H1 v1 e1 R1 r1 h=>?_;let#[b,h1,h2]:=h;exact#[b,bC0 R1 r1 h1,h2 cv H1 e1 R1]
def bE2(ha:PT X a (LT X.K Ξ (dY P ma))):PT X (.UnaryOp .Not a pos) (LT X.K Ξ (dY P (.dQ ma))) :=
 (bI2 ha).imp λbU H Q bo=>by
  let#[Z,g,ρ,s,R,h]:=bo;exact qm hP s R (.refl _ _) h λt g1 cv H1 e1 R1 h=>h cv H1 e1 R1
def bD7(ha:PT X a (LT X.K Ξ (dY P ma)))(hb:PW X (.BoolOp .And (b::rest) pos) (LT X.K Ξ (dY P mb))):PW X (.BoolOp .And (a::b::rest) pos) (LT X.K Ξ (dY P (.dF ma mb))) :=
 (bH8 ha hb).imp λbU H Q bo=>by
  let#[Z,g,ρ,s,R,h]:=bo;refine qm hP s R (.refl _ _) h λt g1 cv H1 e1 R1 h=>?_;cases t
  .exact h cv H1 e1 R1
  .exact qm hP (s.ext e1) R1 e1 h λt g2 eV H2 e2 R2 h=>h eV H2 (e1.trans e2) R2
def YY(ha:PT X a (LT X.K Ξ (dY P ma)))(hb:PW X (.BoolOp .Or (b::rest) pos) (LT X.K Ξ (dY P mb))):PW X (.BoolOp .Or (a::b::rest) pos) (LT X.K Ξ (dY P (.ke ma mb))) :=
 (YK ha hb).imp λbU H Q bo=>by
  let#[Z,g,ρ,s,R,h]:=bo;refine qm hP s R (.refl _ _) h λt g1 cv H1 e1 R1 h=>?_;cases t
  .exact qm hP (s.ext e1) R1 e1 h λt g2 eV H2 e2 R2 h=>h eV H2 (e1.trans e2) R2
  .exact h cv H1 e1 R1
def Vi:mh X [] (LT X.K Ξ (dY P .no)) :=
 (UE (X:=X)).imp λbU H Q bo=>by
  let#[Z,g,ρ,s,R,h]:=bo;exact h ρ H (.refl _ _) R
def bG8{v:Value}(hv:(∃id,v=.builtin id)\/∃T,v=.type T)(hc:m9 X v (rN X.K p))(hg:Gl X x)(hm:X.mg x=none)(hb:bootBuiltins x=!v)(ha:PA X (e::es) (LA X.K Ξ (fN P iD)))(hn:x≠"__name__")(hd:(x==("__debug__":Str))=false)(fh:starEach (e::es) X.env=(false,eval e X.env)::starEach es X.env)(gy:(backTo pos (starEach es X.env)).any (·.1)=false):PE X (.Call (.Name x q) (e::es) [] pos) (LE X.K Ξ (aY P (.prim p iD))):=by
 let base:PE X (.Call (.Name x q) (e::es) [] pos) (AM (rN X.K p) (LA X.K Ξ (fN P iD))):=by
  rcases hv with⟨id,rfl⟩|⟨T,rfl⟩
  .exact V4 hc hg hm hb ha hn hd fh gy
  .exact K2 hc hg hm hb ha hn hd fh gy
 refine base.imp λbU H Q bo=>?_;let#[Z,g,ρ,s,R,h]:=bo;exact jW hP s R (.refl _ _) h λxs g1 cv H1 vs e1 R1 r1 h=>#[xs,g1,cv,R1,r1,v9 (λd g' h=>h.ext e1) h]
def UU{T:String}{name:Str}{id:String}(pa:PlainAttrs T)(slot:Slot T name id)(kf:typeOf (.builtin id)=pure (.type "method_descriptor"))(hm:nu X id (rM X.K p))(hk:∀{d:D} {v:V} {g:G} {ρ:@&Addr} {H:Hp},Rl X.K ρ g H->d5 X.K ρ H d v->mY p d g->oR X.K T v H)(ho:PE X o (LE X.K Ξ (aY P mo)))(ha:PA X (e::es) (LA X.K Ξ (fN P iD)))(gL:attributeBase o name X.env (eval o X.env)=eval o X.env)(mf:((backTo pos (starEach (e::es) X.env)).all (λx=>~~~x.1)&&(backToKw pos (keywordEach [] X.env)).all (λx=>x.1.isSome)&&decide ((e::es).length+([]:@&Keyword).length+(if([]:@&Keyword).isEmpty then 0 else 1)<30))=true)(gJ:(apos.endLine==pos.line)=true)(hs:starEach (e::es) X.env=(false,eval e X.env)::starEach es X.env)(fq:(backTo pos (starEach es X.env)).any (·.1)=false) :
  PE X (.Call (.Attribute o name apos) (e::es) [] pos) (LE X.K Ξ (aY P (.eW p mo iD))) :=
 (YE pa slot kf hm ho ha gL mf gJ hs fq).imp λbU H Q bo=>by
  let#[Z,g,ρ,s,R,h]:=bo;exact fH hP s R (.refl _ _) h λx g1 cv H1 v1 e1 R1 r1 h=>#[hk R1 r1 h.1,jW hP (s.ext e1) R1 e1 h.2 λxs g2 eV H2 ws e2 R2 r2 h =>
   #[x,xs,g2,eV,R2,r1.ext e2,r2,v9 (λd g' h=>h.ext (e1.trans e2)) h]]
def Xa{T:String}{name:Str}{id:String}(pa:PlainAttrs T)(slot:Slot T name id)(kf:typeOf (.builtin id)=pure (.type "method_descriptor"))(hm:nu X id (rM X.K p))(hk:∀{d:D} {v:V} {g:G} {ρ:@&Addr} {H:Hp},Rl X.K ρ g H->d5 X.K ρ H d v->mY p d g->oR X.K T v H)(ho:PE X o (LE X.K Ξ (aY P mo)))(gL:attributeBase o name X.env (eval o X.env)=eval o X.env)(gJ:(apos.endLine==pos.line)=true) :
  PE X (.Call (.Attribute o name apos) [] [] pos) (LE X.K Ξ (aY P (.eW p mo .nil))) :=
 (bK0 pa slot kf hm ho gL gJ).imp λbU H Q bo=>by
  let#[Z,g,ρ,s,R,h]:=bo;exact fH hP s R (.refl _ _) h λx g1 cv H1 v1 e1 R1 r1 h=>#[hk R1 r1 h.1,x,[],g1,cv,R1,r1,.nil,v9 (λd g' h=>h.ext e1) h.2]
omit hP in
def Nr{K ρ H}{d:D}{v:V}(r:d5 K ρ H d v)(h:uA d=true):v=toV d/\O7 v=true:=by
 cases r with
 |bg=>exact#[rfl,rfl]
 |bl _=>exact#[rfl,rfl]
 |int _=>exact#[rfl,rfl]
 |str _=>exact#[rfl,rfl]
 |ty _=>exact absurd h bY
 |ref _=>exact absurd h bY
 |tup _ _=>exact absurd h bY
omit hP in
def a92{K ρ H}{l:@&D}{vs:@&V}(r:c7 K ρ H l vs)(h:l.all uA=true):vs=l.map toV/\vs.all O7=true:=by
 induction l generalizing vs with
 |nil=>cases r;exact#[rfl,rfl]
 |cons d l ih =>
  cases r with
  |cons rd rs =>
   rw[kG,aU] at h;let#[e1,f1]:=Nr rd h.1;let#[e2,f2]:=ih rs h.2;subst e1 e2;exact#[rfl,by rw[kG,f1,f2];rfl]
omit hP in
def Oc{K ρ H}{l:@&D}{vs:@&V}{y:D}{w:V}{n:Nat}(r:c7 K ρ H l vs)(ry:d5 K ρ H y w)(h:W8 l y n):zA vs w n:=by
 let#[h1,h2,#[z,h3,h4],h5]:=h;let#[e1,f1]:=a92 r h1;let#[e2,f2]:=Nr ry h2;subst e1 e2;refine#[f1,f2,#[toV z,by rw[aj,h3];rfl,h4],λm z' hm hz=>?_];rw[aj,ae] at hz;let#[Pd,hz,rfl]:=hz;exact h5 m Pd hm hz
def WW(hu:X.A.units+100<cLine)(ho:PE X o (LE X.K Ξ (aY P mo)))(ha:PA X (e::es) (LA X.K Ξ (fN P iD)))(gL:attributeBase o "index" X.env (eval o X.env)=eval o X.env)(mf:((backTo pos (starEach (e::es) X.env)).all (λx=>~~~x.1)&&(backToKw pos (keywordEach [] X.env)).all (λx=>x.1.isSome)&&decide ((e::es).length+([]:@&Keyword).length+(if([]:@&Keyword).isEmpty then 0 else 1)<30))=true)(gJ:(apos.endLine==pos.line)=true)(hs:starEach (e::es) X.env=(false,eval e X.env)::starEach es X.env)(fq:(backTo pos (starEach es X.env)).any (·.1)=false) :
  PE X (.Call (.Attribute o "index" apos) (e::es) [] pos) (LE X.K Ξ (aY P (.eW .index mo iD))) :=
 (Wx hu ho ha gL mf gJ hs fq).imp λbU H Q bo=>by
  let#[Z,g,ρ,s,R,h]:=bo;refine fH hP s R (.refl _ _) h λx g1 cv H1 v1 e1 R1 r1 h=>?_;let#[hk,h]:=h;rcases hk with⟨l,rfl⟩|⟨a,l,rfl,hl⟩
  .let#[a',vs,rfl,ta,rs]:=r1.E0;refine .inr #[a',vs,rfl,ta.d,jW hP (s.ext e1) R1 e1 h λxs g2 eV H2 ws e2 R2 r2 h=>?_];let#[d',g',#[x,y,l',n,ex,hi,W,hz,rfl,rfl],q]:=h;cases ex;cases hi;let#[w,rfl,fX]:=r2.one;exact#[a',vs,w,n,rfl,rfl,(ta.ext e2).sq,Oc (rs.ext e2) fX W,(q.ext (e1.trans e2)).now R2 (.int n)]
  .let#[a',rfl,ra]:=r1.i6;let#[vs,hq,_]:=R1.items hl ra;refine .inl #[a',vs,rfl,hq,jW hP (s.ext e1) R1 e1 h λxs g2 eV H2 ws e2 R2 r2 h=>?_];let#[d',g',#[x,y,l',n,ex,hi,W,hz,rfl,rfl],q]:=h;cases ex;let#[w,rfl,fX]:=r2.one;let#[pz,QA,mW]:=R2.items (show c9 _ a=some l' from hi) (e2.get ra);let hn:n<2 ^ 62:=by
     let#[_,_,#[z,yL,_],_]:=W;have:=(av.mp yL).1;omega
   exact#[a',pz,w,n,rfl,rfl,QA,Oc mW fX W,hn,(q.ext (e1.trans e2)).now R2 (.int n)]
def WX(hc:X.calm=true)(ha:PE X a (LE X.K Ξ (aY P ma)))(lZ:Gl X "list")(nj:X.mg "list"=none)(hg:Gl X "range")(hm:X.mg "range"=none)(hs:starEach [a] X.env=[(false,eval a X.env)]) :
  PE X (.Call (.Name "list" p2) [.Call (.Name "range" q) [a] [] pos] [] jF) (LE X.K Ξ (aY P (.prim .lh (.cons ma .nil)))) :=
 (K2 (Ma hc) lZ nj (by rfl) (L1 (a55 hg hm (E9 hP ha (N8 hP) (by rw[hs];rfl)) hs) N9)).imp λbU H Q bo=>by
  let#[Z,g,ρ,s,R,h]:=bo;refine jW hP s R (.refl _ _) h λxs g1 cv H1 vs e1 R1 r1 h=>?_;let#[d',g',#[j,rfl,h1,h2,rfl,rfl],q]:=h;let#[v,rfl,rv]:=r1.one;obtain rfl:=rv.i0;refine#[j,rfl,λq' hq=>#[q',0,j,rfl,j4,#[by omega,by omega,h1,by omega,by omega],λp hp=>?_]];rw[show(j-0).toNat=j.toNat by omega];exact(q.ext (e1.trans (j7 hq))).new (R1.grow hq) hp (c7.nF 0 _)
def WY(hc:X.calm=true)(ha:PE X a (LE X.K Ξ (aY P ma)))(hb:PE X b (LE X.K Ξ (aY P mb)))(lZ:Gl X "list")(nj:X.mg "list"=none)(hg:Gl X "range")(hm:X.mg "range"=none)(hs:starEach [a,b] X.env=[(false,eval a X.env),(false,eval b X.env)])(jN:starEach [b] X.env=[(false,eval b X.env)]) :
  PE X (.Call (.Name "list" p2) [.Call (.Name "range" q) [a,b] [] pos] [] jF) (LE X.K Ξ (aY P (.prim .lg (.cons ma (.cons mb .nil))))) :=
 (K2 (Ma hc) lZ nj (by rfl) (L1 (a54 hg hm (E9 hP ha (E9 hP hb (N8 hP) (by rw[jN];rfl)) (by rw[hs,jN])) hs jN) N9)).imp λbU H Q bo=>by
  let#[Z,g,ρ,s,R,h]:=bo;refine jW hP s R (.refl _ _) h λxs g1 cv H1 vs e1 R1 r1 h=>?_;let#[d',g',#[i,j,rfl,hb,rfl,rfl],q]:=h;let#[v,w,rfl,rv,fX]:=r1.two;obtain rfl:=rv.i0;obtain rfl:=fX.i0;exact#[i,j,rfl,λq' hq=>#[q',i,j,rfl,j4,hb,λp hp=>(q.ext (e1.trans (j7 hq))).new (R1.grow hq) hp (c7.nF i _)]]
def UX(hc:X.calm=true)(ha:PE X a (LE X.K Ξ (aY P ma)))(lZ:Gl X "sorted")(nj:X.mg "sorted"=none)(hg:Gl X "set")(hm:X.mg "set"=none)(hs:starEach [a] X.env=[(false,eval a X.env)]) :
  PE X (.Call (.Name "sorted" p2) [.Call (.Name "set" q) [a] [] pos] [] jF) (LE X.K Ξ (aY P (.prim .sset (.cons ma .nil)))) :=
 (V4 (O8 hc) lZ nj (by rfl) (L1 (K2 (LU hc) hg hm (by rfl) (E9 hP ha (N8 hP) (by rw[hs];rfl)) ∅ ∅ (by rw[hs];rfl) rfl) N9)).imp λbU H Q bo=>by
  let#[Z,g,ρ,s,R,h]:=bo;refine jW hP s R (.refl _ _) h λxs g1 cv H1 vs e1 R1 r1 h=>?_;let#[d',g',#[i,ns,rfl,hl,hz,rfl,rfl],q]:=h;let#[v,rfl,rv]:=r1.one;let#[a',rfl,ra]:=rv.i6;let#[ws,hq,rs]:=R1.items hl ra;obtain rfl:=rs.ints;refine#[_,ns,rfl,hq,hz,λq' oq=>#[q',ns,rfl,j4,hz,λp hp=>?_]];exact(q.ext (e1.trans (j7 oq))).new (R1.grow oq) hp (c7.ofInts _)
def US(hc:X.calm=true)(ha:PE X a (LE X.K Ξ (aY P ma)))(lZ:Gl X "len")(nj:X.mg "len"=none)(hg:Gl X "set")(hm:X.mg "set"=none)(hs:starEach [a] X.env=[(false,eval a X.env)]) :
  PE X (.Call (.Name "len" p2) [.Call (.Name "set" q) [a] [] pos] [] jF) (LE X.K Ξ (aY P (.prim .qS (.cons ma .nil)))) :=
 (V4 aC2 lZ nj PySem.boot_len (L1 (K2 (LU hc) hg hm (by rfl) (E9 hP ha (N8 hP) (by rw[hs];rfl)) ∅ ∅ (by rw[hs];rfl) rfl) N9)).imp λbU H Q bo=>by
  let#[Z,g,ρ,s,R,h]:=bo;refine jW hP s R (.refl _ _) h λxs g1 cv H1 vs e1 R1 r1 h=>?_;let#[d',g',#[i,ns,rfl,hl,hz,rfl,rfl],q]:=h;let#[v,rfl,rv]:=r1.one;let#[a',rfl,ra]:=rv.i6;let#[ws,hq,rs]:=R1.items hl ra;obtain rfl:=rs.ints;refine#[_,ns,rfl,hq,by omega,λq' oq=>#[q',_,rfl,j4,?_]];exact(q.ext (e1.trans (j7 oq))).now (R1.grow oq) (.int _)
def UW{i:Int}{j:Nat}(ow:PySem.W.kdsCode X.K X.env.code=true):PE X (.Set [.Constant (.int i) j q] 0 pos) (LE X.K Ξ (aY P (.prim (.kX i) .nil))) :=
 (Uv ow).imp λbU H Q bo=>by
  let#[Z,g,ρ,s,R,h]:=bo;let#[d',g',#[_,rfl,rfl],q]:=h;exact λp hp=>q (ρ++[p]) _ _ (K6 hp) (R.new hp (o:=.set (λk=>decide (k=i)) 1) (u:=.set (λk=>decide (k=i)) 1) #[rfl,rfl]) (.ref (R.B9 p))
def bG7{f:Str}(ha:PE X a (LE X.K Ξ (aY P ma)))(hb:attributeBase a f X.env (eval a X.env)=eval a X.env):PE X (.Attribute a f pos) (LE X.K Ξ (aY P (.prim (.fld f) (.cons ma .nil)))) :=
 (bJ8 ha hb).imp λbU H Q bo=>by
  let#[Z,g,ρ,s,R,h]:=bo;refine fH hP s R (.refl _ _) h λx g1 cv H1 v1 e1 R1 r1 h=>?_;let#[d',g',#[i,c,fs,ex,hi,hf,rfl],q]:=h;cases ex;let#[a',rfl,ra]:=r1.i6;let#[C,dx,vs,hH,_,hC,rk,na]:=R1.ins hi ra;let lk:=rk.look f;rw[hf] at lk;let#[v,hv,rv]:=lk.some;exact#[a',C,dx,vs,v,rfl,hH,hC,na _ (aS hf),hv,q cv H1 v e1 R1 rv]
def bG2{i j:Nat}{y:Str}{q1 q2 p1 p3 p4 px py:Pos}(hc:X.calm=true)(hi:X.N[i]?=!x)(hj:X.N[j]?=!y)(vx:sW X.env.scope x)(vy:sW X.env.scope y)(dx:(x==("__debug__":Str))=false)(cx:(x==("__classdict__":Str))=false)(dy:(y==("__debug__":Str))=false)(cy:(y==("__classdict__":Str))=false)(lZ:Gl X "sorted")(nj:X.mg "sorted"=none)(hg:Gl X "set")(hm:X.mg "set"=none) :
  PE X (.Call (.Name "sorted" p2) [.BinOp (.Call (.Name "set" q1) [.Name x px] [] p1) .BitOr (.Call (.Name "set" q2) [.Name y py] [] p3) p4] [] jF) (LE X.K Ξ (aY P (.prim .vd (.cons (.var i) (.cons (.var j) .nil))))) :=
 (V4 (O8 hc) lZ nj (by rfl) (L1 (JC a62 (K2 (LV hc) hg hm (by rfl) (L1 (FZ hi vx dx cx) N9)) (K2 (LV hc) hg hm (by rfl) (L1 (FZ hj vy dy cy) N9))) N9)).imp λbU H Q bo=>by
  let#[Z,g,ρ,s,R,h]:=bo;let#[d1,e1,d2,e2,d',g',#[ns,ms,ex,nh,mB,hl,rfl,rfl],q]:=h;cases ex;let#[v1,s1,r1]:=s.val _ _ e1;let#[v2,s2,r2]:=s.val _ _ e2;let#[a1,yz,rfl,t1,nT]:=r1.E0;obtain rfl:=nT.ints;refine#[.ref a1,s1,a1,ns,rfl,t1.sq,by omega,λp1 tR=>?_];let#[a2,pz,AQ,t2,mW]:=(r2.ext (j7 (o:=P1 X p1 (ST.f9 [] ns)) tR)).E0;obtain rfl:=mW.ints;refine#[.ref a2,by rw[<- AQ];exact s2,a2,ms,rfl,t2.sq,by omega,λp2 rK=>?_];let dD:p1≠p2:=j2 (j4 (H:=H) (o:=P1 X p1 (ST.f9 [] ns))) rK;refine#[p1,p2,ns,ms,rfl,rfl,dD,by rw[d8 dD];exact j4,j4,nh,mB,hl,λp3 vU=>#[p3,ns++ms,rfl,j4,by rw[ba];omega,λp hp=>?_]];exact(q.ext (((j7 tR).trans (j7 rK)).trans (j7 vU))).new (((R.grow tR).grow rK).grow vU) hp (c7.ofInts _)
end
section
variable{X:Cx}{pos:Pos}
def bF9{i:Nat}(hN:X.N[i]?=!x)(hv:sW X.env.scope x)(hd:(x==("__debug__":Str))=false)(nk:(x==("__classdict__":Str))=false):PE X (.Name x pos) (LE X.K Ξ (aY P (.var i))) :=
 (FZ hN hv hd nk).imp λbU H Q bo=>by
  let#[Z,g,ρ,s,R,h]:=bo;let#[d,e,h]:=h;let#[v,h1,h2]:=s.val _ _ e;exact#[v,h1,h.now R h2]
def uL{e:Expr}{d:D}{v:V}(h:PE X e (tC v))(r:∀ρ H,d5 X.K ρ H d v):PE X e (LE X.K Ξ (aY P (.lit d))) :=
 h.imp λbU H Q bo=>by
  let#[Z,g,ρ,s,R,h]:=bo;exact LQ.now h R (r ρ H)
def UQ:PE X (.Dict [] [] pos) (LE X.K Ξ (aY P (.prim .V9 .nil))):=λpi s0 bU H Q I bo=>by
 let#[Z,g,ρ,s,R,d',g',#[_,rfl,hg],q]:=bo;rcases hg with rfl|rfl
 .exact Wu (X:=X) pi s0 bU H Q I λp hp=>q (ρ++[p]) _ _ (K6 hp) (R.new hp (o:=.fb []) (u:=.dK []) d7.nil) (.ref (R.B9 p))
 .exact Wv (X:=X) pi s0 bU H Q I λp hp=>q (ρ++[p]) _ _ (K6 hp) (R.new hp (o:=.fO []) (u:=.dT []) d7.nil) (.ref (R.B9 p))
end
end M
namespace L2
open PySem PySem.Spec PyProof.Rows
section
variable{X:Cx}{m:Str}{pos apos:Pos}{e o:Expr}{es:@&Expr}{ta:TE}{t:TA}
abbrev bC9(X:Cx)(m:Str)(E:XK)(ta:TE)(t:TA):TE:=λZ H Q=>ta Z H λx H1=>∃a C dx fs f fd ps k sp,x=.ref a/\H1 a=!.ins C dx fs/\fs.lookup m=none/\jQ X.K C/\Meth X.K C m f /\
 iu X.prog X.w X.K X.mg X.base (iQ X.prog X.w) k f fd ps sp/\w6 k X.A/\Binds X.K fd ps []/\t Z H1 λvs H2=>sp (x::(vs++[])) H2 Q E
def WA{pl:Sem Bool}{E:XK}(he:PE X o ta)(hx:Passes (iQ X.prog X.w) X E)(ha:PA X (e::es) t)(fh:starEach (e::es) X.env=(false,eval e X.env)::starEach es X.env)(gy:(backTo pos (starEach es X.env)).any (·.1)=false)(ht:eval (.Call (.Attribute o m apos) (e :: es) [] pos) X.env=(do
   let ov <- eval o X.env
   standAt apos.atName
   let (f,first) <- holding [ov] (getMethod ov m pl)
   callWith pos f first (backTo pos (starEach (e :: es) X.env)) (backToKw pos (keywordEach [] X.env)))) :
  PE X (.Call (.Attribute o m apos) (e::es) [] pos) (bC9 X m E ta t):=by
 intro pi s Z H Q I h;refine yo (pl:=pl) (cI (he pi s Z H _ I h) λu s1 bo=>?_) ht;let#[x,H1,I1,rx,a,C,dx,fs,f,fd,ps,k,sp,ex,ea,l,c,hm,F,hr,hb,q]:=bo;subst ex;obtain rfl:u=Value.ref a:=rx;refine Lh I1 ea c hm l ?_;refine kP (first:=[.ref a]) (h₀:=X.base) I.ok.mod.oi hm.kp (cI (ha pos pi s1 Z H1 _ I1 q) ?_) fh gy;rintro us s2 ⟨vs,H2,I2,r,q2⟩;refine #[I2.gN,?_];exact zw (us:=.ref a::us) (vs:=.ref a::vs) F hr hb .nil hx I2 (.cons rfl r) q2
abbrev Vp(X:Cx)(m:Str)(E:XK)(ta:TE):TE:=λZ H Q=>ta Z H λx H1=>∃a C dx fs f fd ps k sp,x=.ref a/\H1 a=!.ins C dx fs/\fs.lookup m=none/\jQ X.K C/\Meth X.K C m f /\
 iu X.prog X.w X.K X.mg X.base (iQ X.prog X.w) k f fd ps sp/\w6 k X.A/\Binds X.K fd ps []/\sp [x] H1 Q E
def a56{pl:Sem Bool}{E:XK}(he:PE X o ta)(hx:Passes (iQ X.prog X.w) X E)(ht:eval (.Call (.Attribute o m apos) [] [] pos) X.env=(do
   let ov <- eval o X.env
   standAt apos.atName
   let (f,first) <- holding [ov] (getMethod ov m pl)
   callWith pos f first (backTo pos (starEach [] X.env)) (backToKw pos (keywordEach [] X.env)))) :
  PE X (.Call (.Attribute o m apos) [] [] pos) (Vp X m E ta):=by
 intro pi s Z H Q I h;refine yo (pl:=pl) (cI (he pi s Z H _ I h) λu s1 bo=>?_) ht;let#[x,H1,I1,rx,a,C,dx,fs,f,fd,ps,k,sp,ex,ea,l,c,hm,F,hr,hb,q]:=bo;subst ex;obtain rfl:u=Value.ref a:=rx;refine Lh I1 ea c hm l ?_;exact ko (first:=[.ref a]) I1.gN hm.kp (zw (us:=[.ref a]) (vs:=[.ref a]) (dvs:=[]) F hr hb .nil hx I1 (.cons rfl .nil) q)
end
end L2
namespace M
open PySem L2 PySem.Spec PyProof.Rows
variable{H H0:Hp}{neg:Bool}{a fa C:Addr}{x:Str}{p:Pos}{kvs:@&D}{k f j:Nat}{fd:FuncData}{ps:@&Str}{ie:@&Addr}{vs:@&V}{es:@&Expr}{e:Expr}{iD:ME}
inductive qQ(K:PySem.W.Frag):@&D->@&(Str×V)->Prop
 |nil:qQ K [] []
 |cons {x:Str} {d:D} {v:V} {ds:@&D} {vs:@&(Str×V)} (h:∀ρ H,d5 K ρ H d v) (r:qQ K ds vs):qQ K (.tup [.str x,d]::ds) ((x,v)::vs)
set_option tactic.hygienic true in
def qQ.look{K:PySem.W.Frag}{ρ:@&Addr}{ds vs}(x:Str)(h:qQ K ds vs):U1 K ρ H (Q7 ds x) (vs.lookup x):=by
 induction h with
 |nil=>trivial
 |cons h r ih =>
  rename_i y d v ds vs;unfold Q7;rw[dN];by_cases e:x=y
  .rw[ay e,show(x==y)=true from by simp[e]];exact h ρ H
  .rw[az e,show(x==y)=false from by simpa using e];exact ih
abbrev Aa(X:Cx)(x:Str)(kvs:@&D):Prop:=∃A vs,X.mg x=!.ref A/\xk X.K X.w.params A vs/\qQ X.K kvs vs
abbrev Af(neg:Bool):Pr:=if neg then .wR else .IJ
def Mw:PR (Af neg)=Dr neg:=by cases neg<;>rfl
section
variable{X:Cx}{Ξ:jm}{P:fK}(hP:i5 P){a c:Expr}{ma:ME}{pos:Pos}
include hP
def bG6(hg:Gl X x)(hd:(x==("__debug__":Str))=false)(hG:Aa X x kvs)(ha:PE X a (LE X.K Ξ (aY P ma)))(hm:behindInMarks (if neg then .NotIn else .In) (.Name x p)=false) :
  PE X (.Compare a [if neg then .NotIn else .In] [.Name x p] pos) (LE X.K Ξ (aY P (.prim (Af neg) (.cons (.lit (.tup kvs)) (.cons ma .nil))))):=by
 let#[A,vs,hmg,hk,gr]:=hG;refine(MJ (Ot (kvs:=vs) neg) ha (zJ (v:=.ref A) hg hmg rfl hd) hm).imp λbU H Q bo=>?_;let#[Z,g,ρ,s,R,h]:=bo;refine fH hP s R (.refl _ _) h λd g1 cv H1 v1 e1 R1 r1 h=>?_;let#[d',g',h,q]:=h;rw[Mw] at h;let#[fg,z,ex,rfl,rfl]:=h;cases ex;obtain rfl:=r1.xF;refine#[A,z,rfl,hk,rfl,?_];rw[<- (gr.look (ρ:=cv) (H:=H1) z).isSome];exact q cv H1 _ e1 R1 (.bl _)
def bE4(hg:Gl X x)(hd:(x==("__debug__":Str))=false)(hG:Aa X x kvs)(ha:PE X a (LE X.K Ξ (aY P ma)))(hm:behindInMarks (if neg then .NotIn else .In) (.Name x p)=false) :
  PT X (.Compare a [if neg then .NotIn else .In] [.Name x p] pos) (LT X.K Ξ (dY P (.fC (.prim (Af neg) (.cons (.lit (.tup kvs)) (.cons ma .nil)))))):=by
 let#[A,vs,hmg,hk,gr]:=hG;refine(MN (Ot (kvs:=vs) neg) ha (zJ (v:=.ref A) hg hmg rfl hd) hm).imp λbU H Q bo=>?_;let#[Z,g,ρ,s,R,h]:=bo;refine fH hP s R (.refl _ _) h λd g1 cv H1 v1 e1 R1 r1 h=>?_;let#[d',g',h,t,ht,q]:=h;rw[Mw] at h;let#[fg,z,ex,rfl,rfl]:=h;cases ex;obtain rfl:=r1.xF;refine#[A,z,rfl,hk,rfl,t,?_,q cv H1 e1 R1];rw[<- (gr.look (ρ:=cv) (H:=H1) z).isSome];rcases ht with⟨z,_⟩|z|⟨i,z,_⟩|⟨l,z,_⟩|⟨a,l,z,_⟩<;>cases z
 rfl
def UR(hg:Gl X x)(hd:(x==("__debug__":Str))=false)(hG:Aa X x kvs)(ha:PE X a (LE X.K Ξ (aY P ma)))(hs:DE a):PE X (.Subscript (.Name x p) a pos) (LE X.K Ξ (aY P (.prim .oB (.cons (.lit (.tup kvs)) (.cons ma .nil))))):=by
 let#[A,vs,hmg,hk,gr]:=hG;refine(JB (Ya (kvs:=vs)) (zJ (v:=.ref A) hg hmg rfl hd) ha hs).imp λbU H Q bo=>?_;let#[Z,g,ρ,s,R,h]:=bo;refine fH hP s R (.refl _ _) h λd g1 cv H1 v1 e1 R1 r1 h=>?_;let#[d',g',#[fg,z,ex,hz,rfl],q]:=h;cases ex;obtain rfl:=r1.xF;let lk:=gr.look (ρ:=cv) (H:=H1) z;rw[hz] at lk;let#[w,hw,lk]:=lk.some;exact#[A,z,w,rfl,hk,rfl,hw,q cv H1 _ e1 R1 lk]
omit hP in
abbrev qq(ex:@&Str)(K:PySem.W.Frag)(n:Nat)(t:@&D->G->KD->KX->Prop):Sp:=λvs H Q E=>-vs=n/\∃ds g ρ,c7 K ρ H ds vs/\Rl K ρ g H/\t ds g (LQ K ρ H Q) (LX K ρ H (ex,E))
omit hP in
abbrev ph(X:Cx)(P:fK)(ex:@&Str)(k f:Nat)(fa:Addr)(fd:FuncData)(ps:@&Str):Prop :=
 iu X.prog X.w X.K X.mg X.base (iQ X.prog X.w) k fa fd ps (qq ex X.K (-ps) (P f))/\Binds X.K fd ps []/\∀ds g Q E,P f ds g Q E->-ds=-ps
def xr{k:Nat}(F:ph X P Ξ.1 k f fa fd ps){ρ:@&Addr}{g:G}{xs:@&D}{Q0:KD}{Q:VK}(e0:Ext ie H0 ρ H)(R:Rl X.K ρ g H)(r:c7 X.K ρ H xs vs)(h:P f xs g Q0 (LX X.K ie H0 Ξ))(k:∀d g',Q0 d g'->LQ X.K ρ H Q d g'):qq Ξ.1 X.K (-ps) (P f) (vs++[]) H Q Ξ.2:=by
 rw[ft];exact#[by rw[<- -r];exact F.2.2 _ _ _ _ h,xs,g,ρ,r,R,hP _ _ _ _ _ _ _ k (λx x z=>LX.ext e0 z) h]
def UP(hx:Passes (iQ X.prog X.w) X Ξ.2)(F:ph X P Ξ.1 k f fa fd ps)(hr:w6 k X.A)(hg:Gl X x)(hm:X.mg x=!.ref fa)(hk:PySem.W.keepIn X.K (.ref fa)=true)(ha:PA X (e::es) (LA X.K Ξ (fN P iD)))(hd:(x==("__debug__":Str))=false)(fh:starEach (e::es) X.env=(false,eval e X.env)::starEach es X.env)(gy:(backTo pos (starEach es X.env)).any (·.1)=false):PE X (.Call (.Name x p) (e::es) [] pos) (LE X.K Ξ (aY P (.call f iD))) :=
 (Us F.1 hr hg hm hk F.2.1 .nil hx ha hd fh gy).imp λbU H Q bo=>by
  let#[Z,g,ρ,s,R,h]:=bo;exact jW hP s R (.refl _ _) h λxs g1 cv H1 vs e1 R1 r1 h=>xr hP F e1 R1 r1 h λd g' h=>h.ext e1
def WU(hx:Passes (iQ X.prog X.w) X Ξ.2)(F:ph X P Ξ.1 k f fa fd ps)(hr:w6 k X.A)(hg:Gl X x)(hm:X.mg x=!.ref fa)(hk:PySem.W.keepIn X.K (.ref fa)=true)(hd:(x==("__debug__":Str))=false):PE X (.Call (.Name x p) [] [] pos) (LE X.K Ξ (aY P (.call f .nil))) :=
 (Ws F.1 hr hg hm hk F.2.1 .nil hx hd).imp λbU H Q bo=>by
  let#[Z,g,ρ,s,R,h]:=bo;exact xr hP F (.refl _ _) R .nil h λd g' h=>h
def MG{c:Str}(F:ph X P Ξ.1 k f fa fd ps)(hC:x5 X.K c C)(hc:jQ X.K C){ρ:@&Addr}{g1:G}{xs:@&D}{Q:VK}(e0:Ext ie H0 ρ H)(R:Rl X.K ρ g1 H)(r:c7 X.K ρ H xs vs)(h:P f (.ref (-g1)::xs) (g1++[.ins c []]) (λd g2=>d=.bg/\LQ X.K ie H0 Q (.ref (-g1)) g2) (LX X.K ie H0 Ξ)):∀x dx,H x=none->H dx=none->dx≠x->qq Ξ.1 X.K (-ps) (P f) (.ref x::(vs++[])) (upd (upd H dx (.own x)) x (.ins C dx [])) (λv H2=>v=.bg/\Q (.ref x) H2) Ξ.2:=by
 intro x dx hx Ih dD;let yM:upd H dx (.own x) x=none:=by rw[d8 (bI dD)];exact hx
 let R2:=R.grow (o:=.own x) Ih;let e2:Ext ρ H ρ (upd H dx (.own x)):=j7 Ih;let R3:=R2.new (o:=.ins c []) (u:=.ins C dx []) yM #[hC,hc,.nil,λx hx=>absurd hx #[_]];let e3:Ext ρ (upd H dx (.own x)) (ρ++[x]) (upd (upd H dx (.own x)) x (.ins C dx [])):=K6 yM;have:=xr hP F (e0.trans (e2.trans e3)) R3 (.cons (.ref (R.B9 x)) (r.ext (e2.trans e3))) h (Q:=λv H2=>v=.bg/\Q (.ref x) H2) λd g' q cw H' v e' R' r'=>by
  let#[rfl,q]:=q;exact#[r'.FX,q cw H' _ (e0.trans (e2.trans (e3.trans e'))) R' (.ref (e'.get (R.B9 x)))]
 exact this
def UT(hx:Passes (iQ X.prog X.w) X Ξ.2)(F:ph X P Ξ.1 k f fa fd ps)(M:Mk X.K C fa)(hC:x5 X.K x C)(hc:jQ X.K C)(hr:w6 (k+1) X.A)(hg:Gl X x)(hm:X.mg x=!.ref C)(ha:PA X (e::es) (LA X.K Ξ (fN P iD)))(hd:(x==("__debug__":Str))=false)(fh:starEach (e::es) X.env=(false,eval e X.env)::starEach es X.env)(gy:(backTo pos (starEach es X.env)).any (·.1)=false):PE X (.Call (.Name x p) (e::es) [] pos) (LE X.K Ξ (aY P (.make x f iD))) :=
 (Uu M F.1 hr hg hm F.2.1 .nil hx ha hd fh gy).imp λbU H Q bo=>by
  let#[Z,g,ρ,s,R,h]:=bo;exact jW hP s R (.refl _ _) h λxs g1 cv H1 vs e1 R1 r1 h=>MG hP F hC hc e1 R1 r1 h
def WZ(hx:Passes (iQ X.prog X.w) X Ξ.2)(F:ph X P Ξ.1 k f fa fd ps)(M:Mk X.K C fa)(hC:x5 X.K x C)(hc:jQ X.K C)(hr:w6 (k+1) X.A)(hg:Gl X x)(hm:X.mg x=!.ref C)(hd:(x==("__debug__":Str))=false):PE X (.Call (.Name x p) [] [] pos) (LE X.K Ξ (aY P (.make x f .nil))) :=
 (Wz M F.1 hr hg hm F.2.1 .nil hx hd).imp λbU H Q bo=>by
  let#[Z,g,ρ,s,R,h]:=bo;exact MG hP F hC hc (.refl _ _) R .nil h
omit hP in
abbrev DD(X:Cx)(P:fK)(ex:@&Str)(m:Str)(cs:@&(Str×Nat)):Prop:=∀c f C,cs.lookup c=!f->x5 X.K c C->∃k fa fd ps,Meth X.K C m fa/\ph X P ex k f fa fd ps/\w6 k X.A
def Xb{m:Str}{cs:@&(Str×Nat)}{o:Expr}{mo:ME}{apos:Pos}{pl:Sem Bool}(hx:Passes (iQ X.prog X.w) X Ξ.2)(hM:DD X P Ξ.1 m cs)(ho:PE X o (LE X.K Ξ (aY P mo)))(ha:PA X (e::es) (LA X.K Ξ (fN P iD)))(fh:starEach (e::es) X.env=(false,eval e X.env)::starEach es X.env)(gy:(backTo pos (starEach es X.env)).any (·.1)=false)(ht:eval (.Call (.Attribute o m apos) (e :: es) [] pos) X.env=(do
   let ov <- eval o X.env
   standAt apos.atName
   let (f,first) <- holding [ov] (getMethod ov m pl)
   callWith pos f first (backTo pos (starEach (e :: es) X.env)) (backToKw pos (keywordEach [] X.env)))):PE X (.Call (.Attribute o m apos) (e :: es) [] pos) (LE X.K Ξ (aY P (.cT m cs mo iD))) :=
 (WA ho hx ha fh gy ht).imp λbU H Q bo=>by
  let#[Z,g,ρ,s,R,h]:=bo;refine fH hP s R (.refl _ _) h λx g1 cv H1 v1 e1 R1 r1 h=>?_;let#[i,c,fs,f,rfl,hi,hf,qz,h]:=h;let#[a',rfl,ra]:=r1.i6;let#[C,dx,vs,hH,hC,kh,rk,na]:=R1.ins hi ra;let#[k,fa,fd,ps,M,F,hr]:=hM c f C qz hC;let lk:=rk.look m;rw[hf] at lk;let hl:vs.lookup m=none:=by cases e:vs.lookup m with|none=>rfl|some w=>rw[e] at lk;exact lk.elim
  refine#[a',C,dx,vs,fa,fd,ps,k,_,rfl,hH,hl,kh,M,F.1,hr,F.2.1,?_];exact jW hP (s.ext e1) R1 e1 h λxs g2 eV H2 ws e2 R2 r2 h=>xr hP F (e1.trans e2) R2 (.cons (.ref (e2.get ra)) r2) h λd g' h=>h.ext (e1.trans e2)
def a37{m:Str}{cs:@&(Str×Nat)}{o:Expr}{mo:ME}{apos:Pos}{pl:Sem Bool}(hx:Passes (iQ X.prog X.w) X Ξ.2)(hM:DD X P Ξ.1 m cs)(ho:PE X o (LE X.K Ξ (aY P mo)))(ht:eval (.Call (.Attribute o m apos) [] [] pos) X.env=(do
   let ov <- eval o X.env
   standAt apos.atName
   let (f,first) <- holding [ov] (getMethod ov m pl)
   callWith pos f first (backTo pos (starEach [] X.env)) (backToKw pos (keywordEach [] X.env)))):PE X (.Call (.Attribute o m apos) [] [] pos) (LE X.K Ξ (aY P (.cT m cs mo .nil))) :=
 (a56 ho hx ht).imp λbU H Q bo=>by
  let#[Z,g,ρ,s,R,h]:=bo;refine fH hP s R (.refl _ _) h λx g1 cv H1 v1 e1 R1 r1 h=>?_;let#[i,c,fs,f,rfl,hi,hf,qz,h]:=h;let#[a',rfl,ra]:=r1.i6;let#[C,dx,vs,hH,hC,kh,rk,na]:=R1.ins hi ra;let#[k,fa,fd,ps,M,F,hr]:=hM c f C qz hC;let lk:=rk.look m;rw[hf] at lk;let hl:vs.lookup m=none:=by cases e:vs.lookup m with|none=>rfl|some w=>rw[e] at lk;exact lk.elim
  exact#[a',C,dx,vs,fa,fd,ps,k,_,rfl,hH,hl,kh,M,F.1,hr,F.2.1,xr hP F e1 R1 (.cons (.ref ra) .nil) h λd g' h=>h.ext e1]
end
inductive oJ(K:PySem.W.Frag)(ρ:@&Addr)(H:Hp):@&D->@&(V×V)->Prop
 |nil:oJ K ρ H [] []
 |cons {k d:D} {x y:V} {ds:@&D} {ps:@&(V×V)} (h1:d5 K ρ H k x) (h2:d5 K ρ H d y) (r:oJ K ρ H ds ps):oJ K ρ H (k::d::ds) ((x,y)::ps)
section
variable{X:Cx}{Ξ:jm}{P:fK}(hP:i5 P)
inductive yn(X:Cx)(Ξ:jm)(P:fK):@&(Option Expr)->@&Expr->ME->@&(TE×TE)->Prop
 |nil:yn X Ξ P [] [] .nil []
 |cons {k v:Expr} {ks:@&(Option Expr)} {vs:@&Expr} {mk mv ms:ME} {yA:@&(TE×TE)} (hk:PE X k (LE X.K Ξ (aY P mk))) (hv:PE X v (LE X.K Ξ (aY P mv))) (r:yn X Ξ P ks vs ms yA) :
   yn X Ξ P (some k::ks) (v::vs) (.cons mk (.cons mv ms)) ((LE X.K Ξ (aY P mk),LE X.K Ξ (aY P mv))::yA)
def yn.len{ks vs ms yA}(h:yn X Ξ P ks vs ms yA):ks.all (·.isSome)=true/\-ks=-vs:=by
 induction h with
 |nil=>exact#[rfl,rfl]
 |cons hk hv r ih=>exact#[by simpa using ih.1,by simp[ih.2]]
include hP
end
def Yf{K:PySem.W.Frag}{l:@&D}(ht:TupAt K H0 a vs)(rs:c7 K ie H0 l vs):oX K ie H0 (.fix l) (GB K a):=by
 intro ρ g H e R i;let qu:=ht.ext e;let Hi:=rs.ext e;refine#[λh=>#[vs,qu.sq,?_],λd h=>?_]
 .have:=dq.mp (aN h);rw[<- -Hi];exact this
 .let#[v,hv,rv]:=Hi.get (aN h);refine#[#[vs,v,qu.sq,hv],λw H' y=>?_];let#[rfl,y]:=y;have:=y vs qu.sq;rw[hv] at this;cases this;exact#[.refl _ _,R,rv]
def Yd{K:PySem.W.Frag}(ha:ie[j]?=!a):oX K ie H0 (.lst j) (GC K a):=by
 intro ρ g H e R i;let nr:=e.get ha;refine#[λh=>?_,λd h=>?_]
 .simp only[IK.at] at h;cases el:c9 g j with
  |none=>simp_all
  |some l =>
   rw[el] at h;let#[vs,hq,rs]:=R.items el nr;refine#[vs,hq,?_];have:=dq.mp (aN h);rw[<- -rs];exact this
 .simp only[IK.at] at h;cases el:c9 g j with
  |none=>simp_all
  |some l =>
   rw[el] at h;let#[vs,hq,rs]:=R.items el nr;let#[v,hv,rv]:=rs.get (aN h);refine#[#[vs,v,hq,hv],λw H' y=>?_];let#[rfl,y]:=y;have:=y vs hq;rw[hv] at this;cases this;exact#[.refl _ _,R,rv]
def Jt{K:PySem.W.Frag}{lo:Int}{n:Nat}:oX K ie H0 (.fix (j6 lo n)) (yk lo n):=by
 unfold j6;intro ρ g H e R i;refine#[λh=>?_,λd h=>?_]
 .have:=dq.mp (aN h);change n<=i;simpa using this
 .let h:=aN h;let hi:i<n:=by
   have:=(av.mp h).1
   simp_all
  rw[aj,cM hi] at h;cases h;refine#[hi,λw H' y=>?_];let#[rfl,rfl]:=y;exact#[.refl _ _,R,.int _]
def Ye{K:PySem.W.Frag}{n:Nat}(ha:ie[j]?=!a):oX K ie H0 (.tF j n) (GA K a n):=by
 intro ρ g H e R i;let nr:=e.get ha;refine#[λh=>?_,λd h=>?_]
 .simp only[IK.at] at h;cases el:c9 g j with
  |none=>simp_all
  |some l =>
   rw[el] at h;dsimp only at h;by_cases hl:-l=n
   .rw[ay hl] at h;let h:=aN h;by_cases hi:i<n
    .rw[ay hi] at h;have:=dq.mp h;omega
    .exact Nat.le_of_not_lt hi
   simp_all
 .simp only[IK.at] at h;cases el:c9 g j with
  |none=>simp_all
  |some l =>
   rw[el] at h;dsimp only at h;by_cases hl:-l=n
   .rw[ay hl] at h;let h:=aN h;by_cases hi:i<n
    .rw[ay hi] at h;let#[vs,hq,rs]:=R.items el nr;let#[v,hv,rv]:=rs.get h;refine#[#[vs,v,hq,by rw[<- -rs];exact hl,hi,hv],λw H' y=>?_];let#[rfl,y]:=y;have:=y vs hq;rw[hv] at this;cases this;exact#[.refl _ _,R,rv]
    .rw[az hi] at h;cases h
   simp_all
def Yc{K:PySem.W.Frag}(ha:ie[j]?=!a):oX K ie H0 (.pW j) (GD K a):=by
 intro ρ g H e R i;let nr:=e.get ha;refine#[λh=>?_,λd h=>?_]
 .simp only[IK.at] at h;cases el:c9 g j with
  |none=>rw[el] at h;cases h
  |some l =>
   rw[el] at h;let#[vs,hq,rs]:=R.items el nr;refine#[vs,hq,?_];let h:=aN h;rw[Option.map_eq_none_iff] at h;have:=dq.mp h;rw[<- -rs];exact this
 .simp only[IK.at] at h;cases el:c9 g j with
  |none=>simp_all
  |some l =>
   rw[el] at h;let#[vs,hq,rs]:=R.items el nr;let h:=aN h;rw[ae] at h;let#[d',hd,rfl]:=h;let#[v,hv,rv]:=rs.get hd;refine#[#[vs,v,hq,hv],λw H' y=>?_];let#[p,x,hp,rfl,y,rfl]:=y;have:=y vs hq;rw[hv] at this;cases this;exact#[j7 hp,R.grow hp,.tup (.inl j4) (.cons (.int _) (.cons (rv.ext (j7 hp)) .nil))]
end M
namespace L2
open PySem PySem.Spec PyProof.Rows
def bI8{X:Cx}{tg l:Expr}{tl:TE}(hl:PE X l tl):PI X tg l (λZ H R=>tl Z H λx H1=>(∃a,x=.ref a/\(∃xs,fZ X.K H1 a xs)/\R (GC X.K a) H1)\/(∃a,x=.ref a/\(∃xs,iO X.K H1 a xs)/\R (GB X.K a) H1)):=by
 intro pi s Z H R I h;refine cI (hl pi s Z H _ I h) λv s1 bo=>?_;let#[x,H1,I1,r1,q1]:=bo;rcases q1 with⟨a,e,⟨xs,hq⟩,q⟩|⟨a,e,⟨xs,hq⟩,q⟩
 .subst e;cases r1;let#[bh,rv,p,hz]:=I1.list hq;refine gg p.isList ?_;refine#[s1⁻¹,[s1⁻¹],_,_,H1,rfl,I1.kept (t':=s1.toks) λb o e=>ao _ e,a26 a _,#[_,aE _ rfl,rfl,rfl],λb hb=>?_,q];let e:b=s1⁻¹:=by simpa using hb
  subst e;exact I1.qR (aw _) (I1.bZ.fresh (aw _))
 .subst e;cases r1;let#[bh,rv,p,hz]:=I1.tuple hq;refine wpAny_pyIter_tuple (show s1.heap.IsTuple a bh.toArray from p) ?_;refine#[s1⁻¹,[s1⁻¹],_,_,H1,rfl,I1.kept (t':=s1.toks) λb o e=>ao _ e,aU0 a _,#[_,aE _ rfl,rfl,rfl],λb hb=>?_,q];let e:b=s1⁻¹:=by simpa using hb
  subst e;exact I1.qR (aw _) (I1.bZ.fresh (aw _))
end L2
namespace M
open PySem L2 PySem.Spec PyProof.Rows
variable{X:Cx}{tg o:Expr}{pos p tp:Pos}{i:Nat}{x f:Str}{t:MT}{mo mi:ME}{cs:@&Str}
section
variable{Ξ:jm}{P:fK}(hP:i5 P){a b:Expr}{ma mb:ME}
include hP
def bF4(ha:PE X a (LE X.K Ξ (aY P ma))):PI X tg a (LI X.K Ξ (iK P (.fQ ma))) :=
 (bI8 ha).imp λbU H R bo=>by
  let#[Z,g,ρ,s,Rr,h]:=bo;refine fH hP s Rr (.refl _ _) h λx g1 cv H1 v1 e1 R1 r1 h=>?_;rcases h with⟨l,rfl,h⟩|⟨i,l,rfl,hl,h⟩
  .let#[a',vs,rfl,ht,rs]:=r1.E0;exact .inr #[_,rfl,#[_,ht.sq],h cv H1 _ e1 R1 (Yf ht rs)]
  .let#[a',rfl,nr]:=r1.i6;let#[vs,hq,rs]:=R1.items hl nr;exact .inl #[_,rfl,#[_,hq],h cv H1 _ e1 R1 (Yd nr)]
def Vb{elts:@&Expr}{x1:Nat}(ha:PE X a (LE X.K Ξ (aY P ma)))(hg:Gl X "enumerate")(hm:X.mg "enumerate"=none)(hs:starEach [a] X.env=[(false,eval a X.env)]):PI X (.Tuple elts x1 tp) (.Call (.Name "enumerate" p) [a] [] pos) (LI X.K Ξ (iK P (.lV ma))) :=
 (Ux hg hm (E9 hP ha (N8 hP) (by rw[hs];rfl)) hs).imp λbU H R bo=>by
  let#[Z,g,ρ,s,Rr,h]:=bo;refine jW hP (m:=.cons ma .nil) s Rr (.refl _ _) (Q0:=λxs g1=>∃a l,xs=[.ref a]/\c9 g1 a=!l/\∀cw H' J,Ext ρ H cw H'->Rl X.K cw g1 H'->oX X.K cw H' (.pW a) J->R J H') ?_ λxs g1 cv H1 vs e1 R1 r1 h=>?_
  .exact b9 hP ma _ _ _ _ _ _ (by rintro x g1 ⟨i,l,e,hl,h⟩;exact #[i,l,by rw[e],hl,h]) (λy y z=>z) h
  .let#[j,l,rfl,hl,h]:=h;let#[v,rfl,rv]:=r1.one;let#[a',rfl,ra]:=rv.i6;let#[vs,hq,rs]:=R1.items hl ra;exact#[_,rfl,#[_,hq],h cv H1 _ e1 R1 (Yc ra)]
def bF5(ha:PE X a (LE X.K Ξ (aY P ma)))(hg:Gl X "reversed")(hm:X.mg "reversed"=none)(hs:starEach [a] X.env=[(false,eval a X.env)]):PI X tg (.Call (.Name "reversed" p) [a] [] pos) (LI X.K Ξ (iK P (.oS ma))) :=
 (bI9 hg hm (E9 hP ha (N8 hP) (by rw[hs];rfl)) hs).imp λbU H R bo=>by
  let#[Z,g,ρ,s,Rr,h]:=bo;refine jW hP (m:=.cons ma .nil) s Rr (.refl _ _) (Q0:=λxs g1=>∃a l,xs=[.ref a]/\c9 g1 a=!l/\∀cw H' J,Ext ρ H cw H'->Rl X.K cw g1 H'->oX X.K cw H' (.tF a (-l)) J->R J H') ?_ λxs g1 cv H1 vs e1 R1 r1 h=>?_
  .exact b9 hP ma _ _ _ _ _ _ (by rintro x g1 ⟨i,l,e,hl,h⟩;exact #[i,l,by rw[e],hl,h]) (λy y z=>z) h
  .let#[j,l,rfl,hl,h]:=h;let#[v,rfl,rv]:=r1.one;let#[a',rfl,ra]:=rv.i6;let#[vs,hq,rs]:=R1.items hl ra;exact#[_,vs,rfl,hq,h cv H1 _ e1 R1 (by rw[(-rs)];exact Ye ra)]
def Vc(ha:PE X a (LE X.K Ξ (aY P ma)))(hg:Gl X "range")(hm:X.mg "range"=none)(hs:starEach [a] X.env=[(false,eval a X.env)]):PI X tg (.Call (.Name "range" p) [a] [] pos) (LI X.K Ξ (iK P (.fE ma))) :=
 (a51 hg hm (E9 hP ha (N8 hP) (by rw[hs];rfl)) hs).imp λbU H R bo=>by
  let#[Z,g,ρ,s,Rr,h]:=bo;refine jW hP (m:=.cons ma .nil) s Rr (.refl _ _) (Q0:=λxs g1=>∃j:Int,xs=[.int j]/\-(2 ^ 62)<=j/\j<2 ^ 62/\∀cw H' J,Ext ρ H cw H'->Rl X.K cw g1 H'->oX X.K cw H' (.fix (j6 0 j.toNat)) J->R J H') ?_ λxs g1 cv H1 vs e1 R1 r1 h=>?_
  .exact b9 hP ma _ _ _ _ _ _ (by rintro x g1 ⟨j,e,h1,h2,h⟩;exact #[j,by rw[e],h1,h2,h]) (λy y z=>z) h
  .let#[j,rfl,h1,h2,h]:=h;let#[v,rfl,rv]:=r1.one;obtain rfl:=rv.i0;exact#[_,rfl,h1,h2,h cv H1 _ e1 R1 Jt]
def Vd(ha:PE X a (LE X.K Ξ (aY P ma)))(hb:PE X b (LE X.K Ξ (aY P mb)))(hg:Gl X "range")(hm:X.mg "range"=none)(hs:starEach [a,b] X.env=[(false,eval a X.env),(false,eval b X.env)])(jN:starEach [b] X.env=[(false,eval b X.env)]) :
  PI X tg (.Call (.Name "range" p) [a,b] [] pos) (LI X.K Ξ (iK P (.lq ma mb))) :=
 (a50 hg hm (E9 hP ha (E9 hP hb (N8 hP) (by rw[jN];rfl)) (by rw[hs,jN])) hs jN).imp λbU H R bo=>by
  let#[Z,g,ρ,s,Rr,h]:=bo;refine jW hP (m:=.cons ma (.cons mb .nil)) s Rr (.refl _ _) (Q0:=λxs g1=>∃i j:Int,xs=[.int i,.int j]/\(-(2 ^ 62)<=i/\i<2 ^ 62/\-(2 ^ 62)<=j/\j<2 ^ 62)/\∀cw H' J,Ext ρ H cw H'->Rl X.K cw g1 H'->oX X.K cw H' (.fix (j6 i (j-i).toNat)) J->R J H') ?_ λxs g1 cv H1 vs e1 R1 r1 h=>?_
  .exact b9 hP ma _ _ _ _ _ _ (λx g1 h=>b9 hP mb _ _ _ _ _ _ (by rintro y g2 ⟨i,j,e,e',h1,h⟩;exact #[i,j,by rw[e,e'],h1,h]) (λu u z=>z) h) (λu u z=>z) h
  .let#[i,j,rfl,h1,h]:=h;let#[v,w,rfl,rv,fX]:=r1.two;obtain rfl:=rv.i0;obtain rfl:=fX.i0;exact#[_,_,rfl,h1,h cv H1 _ e1 R1 Jt]
end
def bF6(hN:X.Nd)(hi:X.N[i]?=!x)(hx:Loc X.env.scope x)(hf:X.fn x=true\/X.env.scope.names.lookup x=!.local):PG X (.Name x pos) (LG X.K (.one i)) :=
 (ML hN hi hx hf).imp λv bU H Q hq=>by
  let#[d,Z,g,ρ,s,R,r,h]:=hq;exact h _ (s.set i r)
inductive gx(X:Cx):@&Expr->@&Nat->Prop
 |nil:gx X [] []
 |cons {x:Str} {p:Pos} {i:Nat} {es:@&Expr} {is:@&Nat} (hi:X.N[i]?=!x) (hx:Loc X.env.scope x) (hf:X.fn x=true\/X.env.scope.names.lookup x=!.local) (r:gx X es is):gx X (.Name x p::es) (i::is)
abbrev FT:@&Nat->qU
 |[]=>Kg
 |i::is=>Jq (uB i) (FT is)
def a52(hN:X.Nd){es:@&Expr}{is:@&Nat}(h:gx X es is):yh X es (FT is):=by
 induction h with
 |nil=>exact Uw
 |cons hi hx hf r ih=>exact WC (ML hN hi hx hf) ih rfl
def ER:∀{es:@&Expr} {is:@&Nat},gx X es is->(assignEach es X.env).length=-is/\(assignEach es X.env).findIdx? (·.1)=none
 |_,_,.nil=>#[rfl,rfl]
 |_,_,.cons (x:=x) (p:=p) (es:=es) hi hx hf r=>by
  let#[h1,h2]:=ER r;let e:assignEach (.Name x p::es) X.env=(false,assign (.Name x p) X.env)::assignEach es X.env:=rfl;rw[e];refine#[by simp[h1],?_];rw[List.findIdx?_cons,h2]
  rfl
def Od{K:PySem.W.Frag}{ρ:@&Addr}{H:Hp}{k:S->Prop}{Q:L2.St->Hp->Prop}:∀{is:@&Nat} {l:@&D} {vs:@&V} {Z cB:S} {bU:L2.St},Q8 is l Z=!cB->c7 K ρ H l vs->u5 K ρ H Z bU->(∀dz,u5 K ρ H cB dz->Q dz H)->FT is vs bU H Q
 |[],_,_,_,_,_,h,.nil,s,q=>by
  cases h;exact#[rfl,q _ s]
 |[],_,_,_,_,_,h,.cons _ _,s,q=>by cases h
 |i::is,_,_,_,_,_,h,.nil,s,q=>by cases h
 |i::is,_,_,_,_,_,h,.cons r rr,s,q=>by
  exact#[_,_,rfl,Od (k:=k) h rr (s.set i r) q]
def Lp:∀{is:@&Nat} {l:@&D} {Z cB:S},Q8 is l Z=!cB->-l=-is
 |[],[],_,_,_=>rfl
 |[],_::_,_,_,h=>by simp only[Q8] at h;cases h
 |_::_,[],_,_,h=>by simp only[Q8] at h;cases h
 |_::is,_::l,_,_,h=>by simp only[Q8] at h;simp[Lp h]
def MZ{es:@&Expr}{is:@&Nat}{k:Nat}(hc:X.calm=true)(hN:X.Nd)(hs:gx X es is):PG X (.Tuple es k pos) (LG X.K (.many is)) :=
 (bJ0 hc (a52 hN hs) (ER hs).1 (ER hs).2).imp λv bU H Q bo=>by
  let#[d,Z,g,ρ,s,R,r,h]:=bo;let#[l,cB,rfl,e,h]:=h;let#[a',vs,rfl,ht,rs]:=r.E0;exact#[_,_,rfl,ht.sq,by rw[<- -rs];exact Lp e,Od (k:=λx=>True) e rs s h]
def LN.ext{K ρ H N cv H1}(e:Ext ρ H cv H1):(LN K ρ H N).le (LN K cv H1 N) :=
 #[λZ g h cw H' dz e' R s=>h cw H' dz (e.trans e') R s,λd g h=>h.ext e,λZ g h cw H' dz e' R s=>h cw H' dz (e.trans e') R s,λZ g h cw H' dz e' R s=>h cw H' dz (e.trans e') R s]
section
variable{Ξ:jm}{P:fK}(hP:i5 P){a b c:Expr}{ma mb mc:ME}{st:Stmt}{rest:@&Stmt}{Bc og:MS}
include hP
def bE7:kE X [] (LS X.K Ξ (wpS P .pass)) :=
 (UD (X:=X)).imp (by rintro N bU H ⟨Z,g,ρ,s,R,h⟩;exact h ρ H bU (.refl _ _) R s)
def Vh(h1:PS X st (LS X.K Ξ (wpS P Bc)))(h2:kE X rest (LS X.K Ξ (wpS P og))):kE X (st::rest) (LS X.K Ξ (wpS P (.seq Bc og))) :=
 (WI h1 h2).imp λN bU H ⟨Z,g,ρ,s,R,h⟩ =>
  tj hP s R (.refl _ _) (show wpS P Bc { LN X.K ρ H N with nx:=λjt g1=>wpS P og (LN X.K ρ H N) jt g1 (LX X.K ρ H Ξ) } Z g (LX X.K ρ H Ξ) from h) #[λjt g1 h cv H1 Pc e1 R1 s1=>tj hP s1 R1 e1 h (LN.ext e1),λx x z=>z,λx x z=>z,λx x z=>z]
def Vm(ha:PE X a (LE X.K Ξ (aY P ma)))(hs:swapsWith a none pos.line X.env=pure false):PS X (.Expr a pos) (LS X.K Ξ (wpS P (.expr ma))) :=
 (UA ha hs).imp (by rintro N bU H ⟨Z,g,ρ,s,R,h⟩;exact fH hP s R (.refl _ _) h λx g1 cv H1 v1 e1 R1 r1 h=>h cv H1 bU e1 R1 (s.ext e1))
def Oz(h0:PS X (.Assign [.Name x p] a pos) (xY (LE X.K Ξ (aY P ma)) (uB i))):PS X (.Assign [.Name x p] a pos) (LS X.K Ξ (wpS P (.set i ma))) :=
 h0.imp (by rintro N bU H ⟨Z,g,ρ,s,R,h⟩;exact fH hP s R (.refl _ _) h λx g1 cv H1 v1 e1 R1 r1 h=>h cv H1 _ e1 R1 ((s.ext e1).set i r1))
def bD4(h0:PS X (.Assign [tg] a pos) (xY (LE X.K Ξ (aY P ma)) (LG X.K t))):PS X (.Assign [tg] a pos) (LS X.K Ξ (wpS P (.nE t ma))) :=
 h0.imp (by rintro N bU H ⟨Z,g,ρ,s,R,h⟩;exact fH hP s R (.refl _ _) h λx g1 cv H1 v1 e1 R1 r1 h=>#[x,Z,g1,cv,s.ext e1,R1,r1,B8 (λcB h dz s'=>h cv H1 dz e1 R1 s') h])
def Xp(hu:X.A.units+100<cLine){i:Expr}(ha:PE X a (LE X.K Ξ (aY P ma)))(ho:PE X o (LE X.K Ξ (aY P mo)))(hi:PE X i (LE X.K Ξ (aY P mi)))(hs:swapsWithSole [.Subscript o i tp] a pos.line X.env=pure false)(nr:∀ v,assign (.Subscript o i tp) X.env v=(do
   let ov <- holding [v] (eval o X.env)
   let iv <- holding [v,ov] (eval i X.env)
   standAt tp
   holding [v,ov,iv] (setItem ov iv v)
   release [v,ov,iv] [])):PS X (.Assign [.Subscript o i tp] a pos) (LS X.K Ξ (wpS P (.fe mo mi ma))) :=
 (Ov ha (bJ1 ho hi (bF7 hu) nr) hs).imp λN bU H ⟨Z,g,ρ,s,R,h⟩ =>
  fH hP s R (.refl _ _) h λx g1 cv H1 v1 e1 R1 r1 h=>fH hP (s.ext e1) R1 e1 h λy g2 eV H2 v2 e2 R2 r2 h=>fH hP (s.ext (e1.trans e2)) R2 (e1.trans e2) h λz g3 ic H3 v3 e3 R3 r3 h =>
   #[y,z,x,g3,ic,R3,r2.ext e3,r3,r1.ext (e2.trans e3),X0 (λg4 h mT H4 e4 R4=>h mT H4 bU (e1.trans (e2.trans (e3.trans e4))) R4 (s.ext (e1.trans (e2.trans (e3.trans e4))))) h]
omit hP in
abbrev zm(K:PySem.W.Frag)(f:Str)(cs:@&Str):Prop:=∀c C,c∈cs->x5 K c C->B3 K C f
omit hP in
def Va(hF:zm X.K f cs){ρ:@&Addr}{H:Hp}{g g':G}{x v:D}{xv vv:V}(R:Rl X.K ρ g H)(rx:d5 X.K ρ H x xv)(rv:d5 X.K ρ H v vv)(h:JI f cs x v g g') :
  ∃a C dx fs,xv=.ref a/\H a=!.ins C dx fs/\jQ X.K C/\B3 X.K C f/\-fs<1000/\Rl X.K ρ g' (upd H a (.ins C dx (A1 f vv fs)))/\Ext ρ H ρ (upd H a (.ins C dx (A1 f vv fs))):=by
 let#[i,c,fs,rfl,hi,hc,hz,rfl]:=h;let#[a',rfl,ra]:=rx.i6;let#[C,dx,vs,hH,hC,kh,rk,na]:=R.ins hi ra;let#[R',e']:=R.put (o':=.ins c (i7 f v fs)) (u:=.ins C dx (A1 f vv vs)) hi rfl ra #[hC,kh,rk.A1 rv,Fe (p:=λy=>B3 X.K C y) (hF c C hc hC) na];exact#[a',C,dx,vs,rfl,hH,kh,hF c C hc hC,by rw[<- -rk];omega,R',e']
def Vn(hF:zm X.K f cs)(ho:PE X o (LE X.K Ξ (aY P mo)))(ha:PE X a (LE X.K Ξ (aY P ma)))(hs:swapsWith a (!.Attribute o f tp) pos.line X.env=pure false):PS X (.Assign [.Attribute o f tp] a pos) (LS X.K Ξ (wpS P (.fJ f cs mo ma))) :=
 (bI6 ho ha hs).imp λN bU H ⟨Z,g,ρ,s,R,h⟩=>fH hP s R (.refl _ _) h λx g1 cv H1 v1 e1 R1 r1 h=>fH hP (s.ext e1) R1 e1 h λy g2 eV H2 v2 e2 R2 r2 h=>by
  let#[g3,h,q]:=h;let#[a',C,dx,fs,hx,hH,kh,na,hz,R3,e3]:=Va hF R2 r2 (r1.ext e2) h;exact#[a',C,dx,fs,hx,hH,kh,na,hz,q eV _ bU (e1.trans (e2.trans e3)) R3 (s.ext (e1.trans (e2.trans e3)))]
def Vl{op:Operator}{p:Pr}(pJ:(op=.Add/\p=.iadd)\/(op=.Sub/\p=.oj))(hN:X.Nd)(hi:X.N[i]?=!x)(hx:Loc X.env.scope x)(hf:X.fn x=true\/X.env.scope.names.lookup x=!.local)(ha:PE X a (LE X.K Ξ (aY P ma))):PS X (.AugAssign (.Name x tp) op a pos) (LS X.K Ξ (wpS P (.lC i p ma))):=by
 let ho:OL X op (r2 X.K p):=by
  intro pi s Z H x y v u Q I rx ry h;let#[d,e,g,ρ,R,rd,re,d',g',hr,q]:=h;rcases pJ with⟨rfl,rfl⟩|⟨rfl,rfl⟩
  .rcases hr with⟨i,j,ex,rfl,rfl⟩|⟨l,m,ex,hz,rfl,rfl⟩
   .let#[rfl,rfl]:=B6 ex;obtain rfl:=rd.i0;obtain rfl:=re.i0;exact TH pi s Z H _ _ v u Q I rx ry #[i,j,rfl,rfl,q.now R (.int _)]
   .let#[rfl,rfl]:=B6 ex;let#[p1,yz,rfl,t1,nT]:=rd.E0;let#[p2,pz,rfl,t2,mW]:=re.E0;refine Mx pi s Z H _ _ v u Q I rx ry (.inr #[p1,p2,yz,pz,rfl,rfl,t1.sq,t2.sq,by rw[<- -nT,<- -mW];exact B5 hz,λz=>?_,λz=>?_,λp hp=>q.tup R hp (nT.append mW)])
    .subst z;cases nT;exact q.now R (.tup t2 mW)
    .subst z;cases mW;rw[ft] at q;exact q.now R (.tup t1 nT)
  .let#[i,j,ex,rfl,rfl]:=hr;let#[rfl,rfl]:=B6 ex;obtain rfl:=rd.i0;obtain rfl:=re.i0;exact TJ pi s Z H _ _ v u Q I rx ry #[i,j,rfl,rfl,q.now R (.int _)]
 refine(bI7 hN hi hx ha ho hf).imp λN bU H bo=>?_;let#[Z,g,ρ,s,R,h]:=bo;let#[xd,Qt,h]:=h;let#[xv,hv,rx]:=s.val _ _ Qt;refine#[xv,hv,fH hP s R (.refl _ _) h λz g1 cv H1 v1 e1 R1 r1 h=>?_];refine#[xd,z,g1,cv,R1,rx.ext e1,r1,v9 (λw g2 q=>?_) h];exact λeV H2 v2 e2 R2 r2=>q eV H2 _ (e1.trans e2) R2 ((s.ext (e1.trans e2)).set i r2)
def Vk(hF:zm X.K f cs)(ho:PE X o (LE X.K Ξ (aY P mo)))(ha:PE X a (LE X.K Ξ (aY P ma))):PS X (.AugAssign (.Attribute o f tp) .Add a pos) (LS X.K Ξ (wpS P (.lD f cs mo ma))) :=
 (a44 ho ha Mx).imp λN bU H ⟨Z,g,ρ,s,R,h⟩=>fH hP s R (.refl _ _) h λy g1 cv H1 v1 e1 R1 r1 h=>by
  let#[i,c,fs,x,rfl,hi,hc,hf,h]:=h;let#[a',rfl,ra]:=r1.i6;let#[C,dx,vs,hH,hC,kh,rk,na]:=R1.ins hi ra;let lk:=rk.look f;rw[hf] at lk;let#[v,hv,rv]:=lk.some;refine#[a',C,dx,vs,v,rfl,hH,kh,hF c C hc hC,hv,fH hP (s.ext e1) R1 e1 h λz g3 ic H3 v3 e3 R3 r3 h=>?_];let#[d',g',hR,jP,hZ,hz,q]:=h;let fin:∀{mT:@&Addr} {H4:Hp} {vv:V},Ext ic H3 mT H4->Rl X.K mT g' H4->d5 X.K mT H4 d' vv->∃uk jP,H4 a'=!.ins C uk jP/\-jP<1000/\N.nx bU (upd H4 a' (.ins C uk (A1 f vv jP))):=by
   intro mT H4 vv e4 R4 r4;let#[C2,Jb,pz,Ck,ID,BS,Hj,PZ]:=R4.ins hZ ((e3.trans e4).get ra);have:C2=C:=by grind
   subst this;let#[R5,e5]:=R4.put (o':=.ins c (i7 f d' jP)) (u:=.ins C2 Jb (A1 f vv pz)) hZ rfl ((e3.trans e4).get ra) #[ID,BS,Hj.A1 r4,Fe (p:=λy=>B3 X.K C2 y) (hF c C2 hc ID) PZ];exact#[Jb,pz,Ck,by rw[<- -Hj];omega,q mT _ bU (e1.trans (e3.trans (e4.trans e5))) R5 (s.ext (e1.trans (e3.trans (e4.trans e5))))]
  rcases hR with⟨j,l,ex,rfl,rfl⟩|⟨l,m,ex,HC,rfl,rfl⟩
  .let#[rfl,rfl]:=B6 ex;obtain rfl:=rv.i0;obtain rfl:=r3.i0;exact .inl #[_,_,rfl,rfl,fin (.refl _ _) R3 (.int _)]
  .let#[rfl,rfl]:=B6 ex;let#[p1,yz,rfl,t1,nT]:=(rv.ext e3).E0;let#[p2,pz,rfl,t2,mW]:=r3.E0;refine .inr #[p1,p2,yz,pz,rfl,rfl,t1.sq,t2.sq,by rw[<- -nT,<- -mW];exact B5 HC,λz=>?_,λz=>?_,λp hp=>?_]
   .subst z;cases nT;exact fin (.refl _ _) R3 (.tup t2 mW)
   .subst z;cases mW;rw[ft] at fin;exact fin (.refl _ _) R3 (.tup t1 nT)
   .exact fin (j7 hp) (R3.grow hp) (.tup (.inl j4) ((nT.append mW).ext (j7 hp)))
def YZ{sa sb:@&Stmt}{Hx msb:MS}(hc:PT X c (LT X.K Ξ (dY P mc)))(ha:kE X sa (LS X.K Ξ (wpS P Hx)))(hb:kE X sb (LS X.K Ξ (wpS P msb))):PS X (.If c sa sb pos) (LS X.K Ξ (wpS P (.ifs mc Hx msb))) :=
 (YJ hc ha hb).imp λN bU H ⟨Z,g,ρ,s,R,h⟩=>qm hP s R (.refl _ _) h λt g1 cv H1 e1 R1 h=>by
  cases t
  .exact tj hP (s.ext e1) R1 e1 h (LN.ext e1)
  .exact tj hP (s.ext e1) R1 e1 h (LN.ext e1)
def bD5(ha:PE X a (LE X.K Ξ (aY P ma))):PS X (.Return (!a) pos) (LS X.K Ξ (wpS P (.ret ma))) :=
 (bI4 ha).imp (by rintro N bU H ⟨Z,g,ρ,s,R,h⟩;exact #[Z,g,ρ,s,R,h])
def Xq{body:@&Stmt}{mb:MS}(hp:PassesOwn (model X.prog X.w) X.A X.env X.xe)(hc:PT X c (LT X.K Ξ (dY P mc)))(hb:kE X body (LS X.K Ξ (wpS P mb))):PS X (.While c body [] pos) (LS X.K Ξ (wpS P (.kU mc mb))) :=
 (WH hp hc hb).imp λN bU H bo=>by
  let#[Z,g,ρ,s,R,h]:=bo;let#[W,#[m0,w0],h]:=h;refine#[λm dz H'=>∃cB g' cw,Ext ρ H cw H'/\u5 X.K cw H' cB dz/\Rl X.K cw g' H'/\W m cB g',#[m0,Z,g,ρ,.refl _ _,s,R,w0],?_];rintro m dz H' ⟨cB,g',cw,e1,s',R',w'⟩;refine qm hP s' R' e1 (h m cB g' w') λt g1 cv H1 e2 R1 q=>?_;cases t
  .exact q cv H1 dz (e1.trans e2) R1 (s'.ext e2)
  .let#[N2,Cg,q]:=q;refine#[λkT H2=>∃cQ g2 eV,Ext ρ H eV H2/\u5 X.K eV H2 cQ kT/\Rl X.K eV g2 H2/\N2 cQ g2,?_,?_]
   .rintro kT H2 ⟨cQ,g2,eV,e3,s2,R2,n2⟩;let#[m',hm,w2]:=Cg cQ g2 n2;exact#[m',hm,cQ,g2,eV,e3,s2,R2,w2]
   .refine tj hP (s'.ext e2) R1 (e1.trans e2) q #[?_,?_,?_,?_]
    .exact λjs g3 n3 ic H3 lR e3 R3 s3=>#[js,g3,ic,(e1.trans e2).trans e3,s3,R3,n3]
    .exact λd g3 h=>h.ext (e1.trans e2)
    .exact λjs g3 h ic H3 lR e3 R3 s3=>h ic H3 lR ((e1.trans e2).trans e3) R3 s3
    .exact λjs g3 n3 ic H3 lR e3 R3 s3=>#[js,g3,ic,(e1.trans e2).trans e3,s3,R3,n3]
def bD6{iter:Expr}{body:@&Stmt}{mb:MS}(hp:PassesOwn (model X.prog X.w) X.A X.env X.xe)(hc:X.calm=true)(hi:PI X tg iter (LI X.K Ξ (iK P mi)))(hg:PG X tg (LG X.K t))(hb:kE X body (LS X.K Ξ (wpS P mb)))(hs:∀x,foldedSetIterable iter X.env x=pure x):PS X (.For tg iter body [] pos) (LS X.K Ξ (wpS P (.eL t mi mb))) :=
 (bI5 hp hc hi hg hb hs).imp λN bU H bo=>by
  let#[Z,g,ρ,s,R,h]:=bo;refine#[Z,g,ρ,s,R,E4 hP mi _ _ _ _ _ _ (λk g1 h cv H1 J e1 R1 j1=>?_) (λu u z=>z) h];let#[W,#[m0,w0],h]:=h;refine#[λi m dz H'=>∃cB g' cw,Ext cv H1 cw H'/\u5 X.K cw H' cB dz/\Rl X.K cw g' H'/\W i m cB g',#[m0,Z,g1,cv,.refl _ _,s.ext e1,R1,w0],?_];rintro i m dz H' ⟨cB,g',cw,e',s',R',w'⟩;let#[vO,vN]:=j1 cw g' H' e' R' i;rcases h i m cB g' w' with⟨ek,q⟩|⟨x,ek,N2,Cg,q⟩
  .exact .inl #[vO ek,q cw H' dz (e1.trans e') R' s']
  .let#[go,yl]:=vN x ek;refine .inr #[go,λkT H2=>∃cQ g2 eV,Ext cv H1 eV H2/\u5 X.K eV H2 cQ kT/\Rl X.K eV g2 H2/\N2 cQ g2,?_,?_]
   .rintro kT H2 ⟨cQ,g2,eV,e2,s2,R2,n2⟩;let#[m',hm,w2]:=Cg cQ g2 n2;exact#[m',hm,cQ,g2,eV,e2,s2,R2,w2]
   .intro v H2 y;let#[e2,R2,r2]:=yl v H2 y;refine#[x,cB,g',cw,s'.ext e2,R2,r2,B8 (λcQ q kT s2=>?_) q];refine tj hP s2 R2 (e1.trans (e'.trans e2)) q #[?_,?_,?_,?_]
    .exact λjs g3 n3 ic H3 lR e3 R3 s3=>#[js,g3,ic,(e'.trans e2).trans e3,s3,R3,n3]
    .exact λd g3 h=>h.ext (e1.trans (e'.trans e2))
    .exact λjs g3 h ic H3 lR e3 R3 s3=>h ic H3 lR (e1.trans ((e'.trans e2).trans e3)) R3 s3
    .exact λjs g3 n3 ic H3 lR e3 R3 s3=>#[js,g3,ic,(e'.trans e2).trans e3,s3,R3,n3]
def Np{d4:@&Nat}{n:Nat}{jG me:ME}:∀bU H Q,LE X.K Ξ (aY P (.comp d4 n t mi jG me)) bU H Q->Fx (LI X.K Ξ (iK P mi)) d4 n (LG X.K t) (LT X.K (sV Ξ.1) (dY P jG)) (LE X.K (sV Ξ.1) (aY P me)) bU H Q:=λbU H Q bo=>by
 let#[Z,g,ρ,s,R,h]:=bo;refine#[Z,g,ρ,s,R,E4 hP mi _ _ _ _ _ _ (λk g1 h cv H1 J e1 R1 j1=>?_) (λw w z=>z) h];let#[W,#[m0,w0],h]:=h;refine#[λi m GP dz H'=>∃ys cB g' cw,Ext cv H1 cw H'/\u5 X.K cw H' cB dz/\Rl X.K cw g' H'/\c7 X.K cw H' ys GP/\W i m ys cB g',#[m0,[],_,g1,cv,.refl _ _,(s.ext e1).d4 d4 n,R1,.nil,w0],?_];rintro i m GP dz H' ⟨ys,cB,g',cw,e',s',R',ry,w'⟩;let#[vO,vN]:=j1 cw g' H' e' R' i;rcases h i m ys cB g' w' with⟨ek,q⟩|⟨x,ek,hz,q⟩
 .exact .inl #[vO ek,λp hp=>(q.ext (e1.trans e')).new R' hp ry]
 .let#[go,yl]:=vN x ek;refine .inr #[go,by rw[<- -ry];exact DN hz,λv H2 y=>?_];let#[e2,R2,r2]:=yl v H2 y;refine#[x,cB,g',cw,s'.ext e2,R2,r2,B8 (λcQ q kT s2=>?_) q];refine#[cQ,g',cw,s2,R2,v7 hP jG _ _ _ _ _ _ (λb g3 q ic H3 e3 R3=>?_) (λw w z=>z.elim) q];cases b
  .let#[m',hm,w3]:=q;exact#[m',hm,ys,cQ,g3,ic,(e'.trans e2).trans e3,s2.ext e3,R3,(ry.ext e2).ext e3,by simpa using w3]
  .refine#[cQ,g3,ic,s2.ext e3,R3,b9 hP me _ _ _ _ _ _ (λz g4 q mT H4 v4 e4 R4 r4=>?_) (λw w z=>z.elim) q];let#[m',hm,w4]:=q;exact#[m',hm,ys++[z],cQ,g4,mT,(e'.trans e2).trans (e3.trans e4),(s2.ext e3).ext e4,R4,(((ry.ext e2).ext e3).ext e4).append (.cons r4 .nil),by simpa using w4]
def Xc{elt iter:Expr}{ifs:@&Expr}{scope:Scope}{N':@&Str}{d4:@&Nat}{cl:@&(Str×Addr)}{p2 jF:Pos}{jG me:ME}(S:dw X scope N' d4 cl)(hc:X.calm=true)(hi:PI X tg iter (LI X.K Ξ (iK P mi)))(hg:∀pi C s H fp,PG (f7 X pi scope N' cl C s H fp) tg (LG X.K t))(ht:∀pi C s H fp,mh (f7 X pi scope N' cl C s H fp) ifs (LT X.K (sV Ξ.1) (dY P jG)))(he:∀pi C s H fp,PE (f7 X pi scope N' cl C s H fp) elt (LE X.K (sV Ξ.1) (aY P me)))(hs:∀x,foldedSetIterable iter X.env x=pure x)(lZ:Gl X "sorted")(nj:X.mg "sorted"=none):PE X (.Call (.Name "sorted" p2) [.SetComp elt [#[tg,iter,ifs,0]] scope pos] [] jF) (LE X.K Ξ (aY P (.iL d4 (-N') t mi jG me))) :=
 (V4 (O8 hc) lZ nj (by rfl) (L1 (WB S hc hi hg ht he hs) N9)).imp λbU H Q bo=>by
  let#[Z,g,ρ,s,R,h]:=bo;refine#[Z,g,ρ,s,R,E4 hP mi _ _ _ _ _ _ (λk g1 h cv H1 J e1 R1 j1=>?_) (λw w z=>z) h];let#[W,#[m0,w0],h]:=h;refine#[λi m ys dz H'=>∃cB g' cw,Ext cv H1 cw H'/\u5 X.K cw H' cB dz/\Rl X.K cw g' H'/\W i m ys cB g',#[m0,_,g1,cv,.refl _ _,(s.ext e1).d4 d4 _,R1,w0],?_];rintro i m ys dz H' ⟨cB,g',cw,e',s',R',w'⟩;let#[vO,vN]:=j1 cw g' H' e' R' i;rcases h i m ys cB g' w' with⟨ek,hz,q⟩|⟨x,ek,hz,q⟩
  .exact .inl #[vO ek,λp hp=>#[p,ys,rfl,j4,by omega,λp' jY=>(q.ext ((e1.trans e').trans (j7 hp))).new (R'.grow hp) jY (c7.ofInts _)]]
  .let#[go,yl]:=vN x ek;refine .inr #[go,hz,λv H2 y=>?_];let#[e2,R2,r2]:=yl v H2 y;refine#[x,cB,g',cw,s'.ext e2,R2,r2,B8 (λcQ q kT s2=>?_) q];refine#[cQ,g',cw,s2,R2,v7 hP jG _ _ _ _ _ _ (λb g3 q ic H3 e3 R3=>?_) (λw w z=>z.elim) q];cases b
   .let#[m',hm,w3]:=q;exact#[m',hm,cQ,g3,ic,(e'.trans e2).trans e3,s2.ext e3,R3,by simpa using w3]
   .refine#[cQ,g3,ic,s2.ext e3,R3,b9 hP me _ _ _ _ _ _ (λz g4 q mT H4 v4 e4 R4 r4=>?_) (λw w z=>z.elim) q];let#[j,rfl,m',hm,w4]:=q;obtain rfl:=r4.i0;exact#[j,rfl,m',hm,cQ,g4,mT,(e'.trans e2).trans (e3.trans e4),(s2.ext e3).ext e4,R4,by simpa using w4]
end
end M
namespace M
open PySem L2
section
variable{P:fK}(hP:i5 P)
include hP
end
end M
namespace M
open PySem L2 PySem.Spec PyProof.Rows
section
variable{X:Cx}{Ξ:jm}{P:fK}(hP:i5 P)
include hP
def Xo{x:Str}{C:Addr}{B newId ik:String}{bm:@&Value}{np eP pos:Pos}{kC:Expr}{rest:@&Expr}{iD:ME}(hc:X.calm=true)(O:OwnCls x C bm newId X.mg X.base)(FB:ExcBaseFacts B newId ik bm)(hg:Gl X x)(ha:PA X (kC::rest) (LA X.K Ξ (fN P iD)))(hr:zB X Ξ.2)(hx:x∈Ξ.1)(hC:x5 X.K x C)(he:starEach (kC::rest) X.env=(false,eval kC X.env)::starEach rest X.env)(fq:(backTo eP (starEach rest X.env)).any (·.1)=false)(hd:(x==("__debug__":Str))=false):PS X (.Raise (!.Call (.Name x np) (kC::rest) [] eP) none pos) (LS X.K Ξ (wpS P (.raise x iD))) :=
 (WG hc O FB hg ha hr he fq hd).imp λN bU H bo=>by
  let#[Z,g,ρ,s,R,h]:=bo;refine jW hP s R (.refl _ _) h λds g1 cv H1 vs e1 R1 r1 h=>?_;exact#[by rw[<- -r1];exact B5 (aG h.1 ∅),h.2 cv H1 C e1 R1 hx hC]
end
end M
namespace M
open PySem L2
variable{neg:Bool}
section
variable{X:Cx}{Ξ:jm}{P:fK}{o a b e:Expr}{mo ma mb me:ME}{pos tp sp:Pos}{k:Nat}(hP:i5 P)
def En{K:PySem.W.Frag}{ρ:@&Addr}{H:Hp}{x y:D}{c d:Key}{vs:@&V}(r:c7 K ρ H [x,y] vs)(hx:C4 x=!c)(hy:C4 y=!d):vs=[c,d].map kV:=by
 cases r with
 |cons h1 r =>
  cases r with
  |cons h2 r =>
   cases r;rw[P7 hx h1,P7 hy h2]
   rfl
def Yu:Di (.Tuple [a,b] k tp):=λx x=>rfl
include hP
def UY(hu:X.A.units+100<cLine)(ho:PE X o (LE X.K Ξ (aY P mo)))(ki:PA X [a,b] (LA X.K Ξ (fN P (.cons ma (.cons mb .nil))))):PE X (.Subscript o (.Tuple [a,b] k tp) pos) (LE X.K Ξ (aY P (.prim .lS (.cons mo (.cons ma (.cons mb .nil)))))) :=
 (Ut () ho (xB ki) Yu).imp λbU H Q bo=>by
  let#[Z,g,ρ,s,R,h]:=bo;refine fH hP s R (.refl _ _) h λx g1 cv H1 v1 e1 R1 r1 h=>?_;refine jW hP (s.ext e1) R1 e1 h λks g2 eV H2 vs e2 R2 r2 h=>?_;let#[d',g',#[x1,y1,i,kvs,c,e,ex,hg,hc,he,hv,rfl],q]:=h;cases ex;let#[a',rfl,ra]:=(r1.ext e2).i6;let#[ws,hH,rk]:=R2.fO hg ra;let ek:=En r2 hc he;subst ek;let HD:=rk.M5 [c,e];rw[hv] at HD;let#[v,ev,rv]:=HD.some;refine#[by change 2<=sizeLine;decide,λp hp=>#[a',v,rfl,?_,?_]]
  .rw[<- ev];exact F6.t (by rw[d8 (j2 hH hp)];exact hH) j4
  .exact q eV _ _ ((e1.trans e2).trans (j7 hp)) (R2.grow hp) (rv.ext (j7 hp))
def Ou(hu:X.A.units+100<cLine)(ki:PA X [a,b] (LA X.K Ξ (fN P (.cons ma (.cons mb .nil)))))(ho:PE X o (LE X.K Ξ (aY P mo))) :
  PC X (if neg then .NotIn else .In) (.Tuple [a,b] k tp) o (LE X.K Ξ (aY P (.prim (.ql neg) (.cons ma (.cons mb (.cons mo .nil)))))):=by
 let key:∀bU H (Q:VK),LE X.K Ξ (aY P (.prim (.ql neg) (.cons ma (.cons mb (.cons mo .nil))))) bU H Q ->
   Ks (LA X.K Ξ (fN P (.cons ma (.cons mb .nil)))) bU H λy H1=>LE X.K Ξ (aY P mo) bU H1 λx H2=>∃a o,x=.ref a/\F6 H2 a y o/\Q (.bl (xor neg o.isSome)) H2:=λbU H Q bo=>by
  let#[Z,g,ρ,s,R,h]:=bo;refine#[Z,g,ρ,s,R,?_];refine b9 hP ma _ _ _ _ _ _ (λx1 g1 h=>?_) (λv v z=>z) h;refine b9 hP mb _ _ _ _ _ _ (λy1 g2 h=>?_) (λv v z=>z) h;intro eV H2 vs e2 R2 r2;let hl:-vs=2:=by rw[<- -r2];rfl
  refine#[by rw[hl];decide,λp hp=>#[Z,g2,eV,(s.ext e2).ext (j7 hp),R2.grow hp,?_]];refine b9 hP mo _ _ _ _ _ _ (λw g3 h=>?_) (λx g3 z=>?_) h
  .intro ic H3 v3 e3 R3 r3;let#[d',g',#[x2,y2,i,kvs,c,e,ex,hg,hc,he,rfl,rfl],q]:=h;cases ex;let#[a',rfl,ra]:=r3.i6;let#[ws,hH,rk]:=R3.fO hg ra;let ek:=En r2 hc he;subst ek;refine#[a',_,rfl,F6.t hH (e3.tup _ _ j4),?_];rw[<- (rk.M5 [c,e]).isSome];exact q ic H3 (.bl _) ((e2.trans (j7 hp)).trans e3) R3 (.bl _)
  .exact z.ext (e2.trans (j7 hp))
 cases neg
 .exact λpi s bU H Q I h=>bK2 (X:=X) () (xB ki) ho pi s bU H Q I (by simpa[Kr] using key bU H Q h)
 .exact λpi s bU H Q I h=>a58 (X:=X) () (xB ki) ho pi s bU H Q I (by simpa[Na] using key bU H Q h)
def bG1(hu:X.A.units+100<cLine)(ki:PA X [a,b] (LA X.K Ξ (fN P (.cons ma (.cons mb .nil)))))(ho:PE X o (LE X.K Ξ (aY P mo)))(hm:behindInMarks (if neg then .NotIn else .In) o=false) :
  PE X (.Compare (.Tuple [a,b] k tp) [if neg then .NotIn else .In] [o] pos) (LE X.K Ξ (aY P (.prim (.ql neg) (.cons ma (.cons mb (.cons mo .nil)))))):=bJ9 (Ou hP hu ki ho) hm
def bE0(hu:X.A.units+100<cLine)(ki:PA X [a,b] (LA X.K Ξ (fN P (.cons ma (.cons mb .nil)))))(ho:PE X o (LE X.K Ξ (aY P mo)))(hm:behindInMarks (if neg then .NotIn else .In) o=false) :
  PT X (.Compare (.Tuple [a,b] k tp) [if neg then .NotIn else .In] [o] pos) (LT X.K Ξ (dY P (.fC (.prim (.ql neg) (.cons ma (.cons mb (.cons mo .nil))))))) :=
 (bI3 (Ou hP hu ki ho) hm).imp λbU H Q bo=>by
  let#[Z,g,ρ,s,R,h]:=bo;refine#[Z,g,ρ,s,R,?_];refine b9 hP ma _ _ _ _ _ _ (λx1 g1 h=>?_) (λx x z=>z) h;refine b9 hP mb _ _ _ _ _ _ (λy1 g2 h=>?_) (λx x z=>z) h;refine b9 hP mo _ _ _ _ _ _ (λw g3 h=>?_) (λx x z=>z) h;let#[d',g',#[x2,y2,i,kvs,c,e,ex,hg,hc,he,rfl,rfl],t,ht,q]:=h;refine#[_,_,#[x2,y2,i,kvs,c,e,ex,hg,hc,he,rfl,rfl],λcw H' v e' R' r'=>?_];obtain rfl:=r'.M4;refine#[t,?_,q cw H' e' R'];rcases ht with⟨z,_⟩|z|⟨i,z,_⟩|⟨l,z,_⟩|⟨a,l,z,_⟩<;>cases z
  rfl
def Vo(hu:X.A.units+100<cLine)(ki:PA X [a,b] (LA X.K Ξ (fN P (.cons ma (.cons mb .nil)))))(ho:PE X o (LE X.K Ξ (aY P mo)))(he:PE X e (LE X.K Ξ (aY P me)))(hs:swapsWith e (!.Subscript o (.Tuple [a,b] k tp) sp) pos.line X.env=pure false) :
  PS X (.Assign [.Subscript o (.Tuple [a,b] k tp) sp] e pos) (LS X.K Ξ (wpS P (.mV mo ma mb me))) :=
 (Uz () ho (xB ki) he hs).imp λN bU H bo=>by
  let#[Z,g,ρ,s,R,h]:=bo;refine fH hP s R (.refl _ _) h λz g1 cv H1 v1 e1 R1 r1 h=>?_;refine fH hP (s.ext e1) R1 e1 h λw g2 eV H2 v2 e2 R2 r2 h=>?_;refine jW hP (s.ext (e1.trans e2)) R2 (e1.trans e2) h λks g3 ic H3 vs e3 R3 r3 h=>?_;let#[x1,y1,rfl,g4,#[i,kvs,c,d,rfl,hg,hc,hd,hl,rfl],q]:=h;let ek:=En r3 hc hd;subst ek;refine#[by change 2<=sizeLine;decide,λp hp=>?_];let#[a',rfl,ra]:=(r2.ext e3).i6;let#[ws,hH,rk]:=R3.fO hg ra;let up:=j7 (ρ:=ic) (o:=.tup ([c,d].map kV)) hp;let R4:Rl X.K ic g3 (upd H3 p (.tup ([c,d].map kV))):=R3.grow hp;let RD:upd H3 p (.tup ([c,d].map kV)) a'=!.dT ws:=by rw[d8 (j2 hH hp)];exact hH
  let#[R5,e5]:=R4.put (o':=.fO (C1 kvs [c,d] z)) (u:=.dT (putK ws [c,d] v1)) hg rfl ra ((rk.ext up).C1 (((r1.ext (e2.trans e3)).ext up)));refine#[a',_,rfl,qP.t RD j4 (by rw[<- -rk];exact aD hl ∅),?_];let wX:=(e1.trans (e2.trans e3)).trans (up.trans e5);exact q ic _ bU wX R5 (s.ext wX)
end
end M
namespace M
open PySem L2 PySem.Spec PyProof.Rows
variable{X:Cx}{c:i3}{P:fK}{Ξ:jm}{x qual:Str}{i n:Nat}{e o b:Expr}{es args:@&Expr}{env:Env}{p:Pr}{f:Addr}{r:CF}{m:ME}{pos:Pos}{cd:Value}{N:@&Str}{scope:Scope}{A:Around}{outer:@&Env}{s:Shared}{H:Hp}{E:XK}
structure i3 where
 N:@&Str
 nm:@&(Str×NameKind)
 oC:Bool
 fns:@&(Str×Nat)
 con:@&(Str×D)
 blt:@&Str
 exc:@&Str
 gd:@&(Str×@&D)
 cls:@&(Str×Nat)
 pE:@&(Str×Str×Nat)
 pT:@&(Str×Str)
 mX:Bool
 pA:Bool
 wr:Bool:=true
abbrev hX:Expr->Bool
 |.Set ..=>false
 |.Starred ..=>false
 |.Slice ..=>false
 |_=>true
abbrev B1:Expr->Bool
 |.ListComp ..=>false
 |.SetComp ..=>false
 |.DictComp ..=>false
 |_=>true
abbrev uE:Expr->Bool
 |.Tuple ..=>false
 |_=>true
abbrev EN:Expr->Bool
 |.Name ..=>true
 |.Call ..=>true
 |.Subscript ..=>true
 |.Constant ..=>true
 |.Attribute ..=>true
 |.BinOp ..=>true
 |_=>false
abbrev xA:Expr->Bool
 |.Call (.Name ..) [] ..=>false
 |_=>true
abbrev i3.idx(c:i3)(x:Str):Option Nat:=c.N.findIdx? λy=>decide (y=x)
abbrev i3.rh(c:i3)(x:Str):Bool:=match c.nm.lookup x with
 |some .local=>true
 |some .cell=>true
 |some .free=>true
 |_=>false
abbrev i3.gl(c:i3)(x:Str):Bool:=decide (c.nm.lookup x=!.globalImplicit)
abbrev i3.B4(c:i3)(x:Str):Bool:=decide (c.nm.lookup x=!.local)||decide (c.nm.lookup x=!.cell)
abbrev Y6(x:Str):Bool:=(x==("__debug__":Str))==false&&(x==("__classdict__":Str))==false&&decide (x≠"__name__")
abbrev FA:@&(Str×String):=[("int","int"),("bool","bool"),("str","str"),("tuple","tuple"),("list","list")]
abbrev FN:@&(Str×Pr):=[("len",.len),("list",.list),("tuple",.tuple),("isinstance",.isin),("all",.all),("max",.max),("min",.min),("int",.int),("dict",.oG),("sum",.sum)]
abbrev zI:@&(Str×Pr):=[]
abbrev FW:@&(Str×Pr):=[("append",.append),("pop",.pop),("get",.get),("add",.kY)]
abbrev U6:Expr->Option (Str×@&Expr)
 |.Call (.Name x _) args [] _=>!(x,args)
 |_=>none
abbrev Jk:Expr->Bool
 |.Tuple ..=>true
 |_=>false
abbrev asName:Expr->Option Str
 |.Name x _=>!x
 |_=>none
abbrev frees(sc:Scope):@&Str:=(sc.names.filter λy=>decide (y.2=.free)).map (·.1)
abbrev locals(sc:Scope):@&Str:=(sc.names.filter λy=>decide (y.2=.local)||decide (y.2=.cell)).map (·.1)
abbrev i3.inner(c:i3)(sc:Scope):i3:={ c with N:=frees sc++locals sc,nm:=sc.names,oC:=false,mX:=false,pA:=false,wr:=true }
abbrev i3.d4(c:i3)(sc:Scope):@&Nat:=(frees sc).map λx=>(c.idx x).getD 0
abbrev i3.DW(c:i3)(sc:Scope):Bool :=
 decide (sc.kind=.function)&&sc.names.all (λy=>~~~decide (y.2=.cell)||decide (sc.names.lookup y.1=!.cell))&&sc.names.all (λy=>~~~decide (y.2=.local)||decide (sc.names.lookup y.1=!.local)) &&
 decide (frees sc++locals sc).Nodup&&(frees sc).all (λx=>(c.idx x).isSome&&decide (sc.names.lookup x=!.free)&&(decide (c.nm.lookup x=!.cell)||decide (c.nm.lookup x=!.free)))
abbrev i3.slot(c:i3)(e:Expr):Option Nat:=(asName e).bind λx=>if c.B4 x then c.idx x else none
abbrev i3.slots(c:i3):@&Expr->Option (@&Nat)
 |[]=>![]
 |e::r=>(c.slot e).bind λi=>(c.slots r).map λis=>i::is
abbrev i3.tg(c:i3)(e:Expr):Option MT:=((c.slot e).map .one).orElse λx=>match e with
 |.Tuple es _ _=>(c.slots es).map .many
 |_=>none
abbrev Fh:Const->Option D
 |.int i=>!.int i
 |.bool b=>!.bl b
 |.none=>!.bg
 |.str x=>!.str x
 |_=>none
structure CF where
 e:i3->Expr->Option ME
 t:i3->Expr->Option ME
 s:i3->Stmt->Option MS
section
variable(r:CF)(c:i3)
abbrev c1(p:Pr)(a:Expr):Option ME:=(r.e c a).map λm=>.prim p (.cons m .nil)
abbrev c2(p:Pr)(a b:Expr):Option ME:=(r.e c a).bind λma=>(r.e c b).map λmb=>.prim p (.cons ma (.cons mb .nil))
abbrev J9:@&Expr->Option ME
 |[]=>!.nil
 |e::es=>if hX e then(r.e c e).bind λm=>(J9 es).map λms=>.cons m ms else none
abbrev Fg(op:BoolOp):@&Expr->Option ME
 |[]=>none
 |[a]=>r.e c a
 |a::b::rs=>(r.e c a).bind λma=>(Fg op (b::rs)).map λmb=>match op with
  |.And=>.dF ma mb
  |.Or=>.ke ma mb
abbrev Fi(op:BoolOp):@&Expr->Option ME
 |[]=>none
 |[a]=>r.t c a
 |a::b::rs=>(r.t c a).bind λma=>(Fi op (b::rs)).map λmb=>match op with
  |.And=>.dF ma mb
  |.Or=>.ke ma mb
abbrev Of:@&Expr->Option ME
 |[]=>!.no
 |[e]=>r.t c e
 |_=>none
abbrev C5:@&Stmt->Option MS
 |[]=>!.pass
 |s::rs=>(r.s c s).bind λm=>(C5 rs).map λms=>.seq m ms
abbrev FI(x:Str):Option ME :=
 if Y6 x then(if c.rh x then(c.idx x).map .var else if c.gl x then((c.con.lookup x).map .lit).orElse λy=>if c.blt.contains x then(FA.lookup x).map λt=>.lit (.ty t) else none else none) else none
abbrev AF(op:UnaryOp)(a:Expr):Option ME:=if op=.Not then(r.e c a).map .dQ else c1 r c (.un op) a
abbrev i3.Dq(b:Expr):Option (@&D):=(asName b).bind λx=>if c.gl x&&Y6 x then c.gd.lookup x else none
abbrev Ki:CmpOp->Option Bool
 |.In=>!false
 |.NotIn=>!true
 |_=>none
abbrev Kb:Expr->Option (@&Expr)
 |.Tuple es _ _=>!es
 |_=>none
abbrev b85:@&Expr->Option (Expr×Expr)
 |[a,b]=>!(a,b)
 |_=>none
abbrev Al(e:Expr):Option (ME×ME):=(Kb e).bind λes=>(b85 es).bind λq=>if hX q.1&&hX q.2 then(r.e c q.1).bind λm1=>(r.e c q.2).map λm2=>(m1,m2) else none
abbrev b16(op:CmpOp)(a b:Expr):Option ME:=(Ki op).bind λneg=>(Al r c a).bind λq=>(r.e c b).map λmo=>.prim (.ql neg) (.cons q.1 (.cons q.2 (.cons mo .nil)))
abbrev Zo(a b:Expr):Option ME:=(Al r c b).bind λq=>(r.e c a).map λmo=>.prim .lS (.cons mo (.cons q.1 (.cons q.2 .nil)))
abbrev FJ(o i e:Expr):Option MS:=if B1 e then(Al r c i).bind λq=>(r.e c o).bind λmo=>(r.e c e).map λm=>.mV mo q.1 q.2 m else none
abbrev yb(a:Expr)(ops:@&CmpOp)(bs:@&Expr):Option ME:=match ops,bs with
 |[op],[b]=>if behindInMarks op b then none else(b16 r c op a b).orElse λx=>((Ki op).bind λneg=>(c.Dq b).bind λkvs=>(r.e c a).map λma=>.prim (Af neg) (.cons (.lit (.tup kvs)) (.cons ma .nil))).orElse λx=>c2 r c (.cmp op) a b
 |[op,iW],[b,d]=>if lastMarks [op,iW] [b,d] then none else(r.e c a).bind λma=>(r.e c b).bind λmb=>(r.e c d).map λmd=>.chain op iW ma mb md
 |_,_=>none
abbrev b83:Expr->Option (Option Expr×Option Expr×Option Expr)
 |.Slice lo hi st _=>!(lo,hi,st)
 |_=>none
abbrev Gu:Expr->Option Int
 |.Constant (.int i) _ _=>!i
 |_=>none
abbrev GR(a:Expr):Option Expr->Option Expr->Option Expr->Option ME
 |some b,none,none=>c2 r c (.ku true false) a b
 |none,!b,none=>c2 r c (.ku false true) a b
 |some b,!d,none=>(r.e c a).bind λma=>(Gu b).bind λi=>(Gu d).map λj=>.prim (.ku true true) (.cons ma (.cons (.lit (.int i)) (.cons (.lit (.int j)) .nil)))
 |_,_,_=>none
abbrev DC(a b:Expr):Option ME:=((b83 b).bind λq=>GR r c a q.1 q.2.1 q.2.2).orElse λx=>(Zo r c a b).orElse λx=>if hX b then((c.Dq a).bind λkvs=>(r.e c b).map λmb=>.prim .oB (.cons (.lit (.tup kvs)) (.cons mb .nil))).orElse λx=>c2 r c .ix a b else none
abbrev GQ(x:Str)(e:Expr):Option ME:=(U6 e).bind λq =>
 if x="list" && q.1="range" && c.blt.contains "list" && c.blt.contains "range" && c.gl "range" then (match q.2 with
  |[a]=>if hX a then c1 r c .lh a else none
  |[a,b]=>if hX a&&hX b then c2 r c .lg a b else none
  | _=>none)
 else if x="sorted" && q.1="set" && c.blt.contains "sorted" && c.blt.contains "set" && c.gl "set" then (match q.2 with
  |[a]=>if hX a then c1 r c .sset a else none
  | _=>none)
 else if x="len" && q.1="set" && c.blt.contains "len" && c.blt.contains "set" && c.gl "set" then (match q.2 with
  |[a]=>if hX a then c1 r c .qS a else none
  | _=>none)
 else none
abbrev b17(x:Str)(e:Expr):@&Expr->Option ME
 |[]=>GQ r c x e
 |_=>none
abbrev Gh(x:Str):Option ME:=if Y6 x&&c.gl x then((c.fns.lookup x).map λf=>.call f .nil).orElse λy=>(c.cls.lookup x).map λf=>.make x f .nil else none
abbrev Gi(x:Str)(e:Expr)(es:@&Expr):Option ME:=if Y6 x&&c.gl x then(b17 r c x e es).orElse λy=>(J9 r c (e::es)).bind λms=>((c.fns.lookup x).map λf=>.call f ms).orElse λy=>((c.cls.lookup x).map λf=>.make x f ms).orElse λy=>if c.blt.contains x then(FN.lookup x).map λp=>.prim p ms else none else none
abbrev OG(x:Str):@&Expr->Option ME
 |[]=>Gh c x
 |e::es=>Gi r c x e es
abbrev i3.meths(m:Str):@&(Str×Nat):=(c.pE.filter λy=>decide (y.1=m)).map (·.2)
abbrev Gj(o:Expr)(m:Str)(apos pos:Pos)(args:@&Expr):Option ME :=
 if xA o && (apos.endLine == pos.line) && decide (-args < 20) then (r.e c o).bind λmo=>(J9 r c args).bind λms=>if m="index" then (if args.isEmpty then none else !.eW .index mo ms) else if args.isEmpty && (zI.lookup m).isSome then (zI.lookup m).map λp=>.eW p mo ms else (match FW.lookup m with
  |some p=>if args.isEmpty then none else !.eW p mo ms
  | none=>!.cT m (c.meths m) mo ms) else none
abbrev FH(f:Expr)(args:@&Expr)(jH:@&Keyword)(pos:Pos):Option ME:=if jH.isEmpty then(match f with
 |.Name x _=>OG r c x args
 |.Attribute o m apos=>Gj r c o m apos pos args
 | _=>none) else none
abbrev Ad(tg e:Expr):Option ME:=(((U6 e).bind λq =>
  if q.1="enumerate" then (match q.2 with
   |[a]=>if c.gl "enumerate"&&c.blt.contains "enumerate"&&hX a&&Jk tg then(r.e c a).map .lV else none
   | _=>none)
  else if q.1="reversed" then (match q.2 with
   |[a]=>if c.gl "reversed"&&c.blt.contains "reversed"&&hX a then(r.e c a).map .oS else none
   | _=>none)
  else if q.1="range" then (match q.2 with
   |[a]=>if c.gl "range"&&c.blt.contains "range"&&hX a then(r.e c a).map .fE else none
   |[a,b]=>if c.gl "range"&&c.blt.contains "range"&&hX a&&hX b then(r.e c a).bind λma=>(r.e c b).map λmb=>.lq ma mb else none
   | _=>none)
  else none):Option ME).orElse λx=>if hX e then (r.e c e).map .fQ else none
abbrev sU(elt:Expr)(gens:@&Comprehension)(sc:Scope):Option ME:=match gens with
 |[#[tg,it,ifs,HB]]=>if c.DW sc&&decide (HB=0)&&hX it then((c.inner sc).tg tg).bind λt=>(Ad r c tg it).bind λmi=>(Of r (c.inner sc) ifs).bind λmc=>(r.e (c.inner sc) elt).map λme=>.comp (c.d4 sc) (frees sc++locals sc).length t mi mc me else none
 |_=>none
abbrev Ka:Expr->Option Str
 |.Name x _=>!x
 |_=>none
abbrev b84:Expr->Option (Expr×@&Comprehension×Scope)
 |.SetComp elt gens sc _=>!(elt,gens,sc)
 |_=>none
abbrev b20:ME->Option ME
 |.comp a n t i k e=>!.iL a n t i k e
 |_=>none
abbrev AG(f:Expr)(args:@&Expr)(jH:@&Keyword):Option ME:=match args with
 |[a]=>if jH.isEmpty&&decide (Ka f=some "sorted")&&c.gl "sorted"&&c.blt.contains "sorted" then(b84 a).bind λq=>(sU r c q.1 q.2.1 q.2.2).bind b20 else none
 |_=>none
abbrev J':Expr->Option (Expr×Expr)
 |.BinOp a .BitOr b _=>!(a,b)
 |_=>none
abbrev Dn:@&Expr->Option Str
 |[.Name x _]=>!x
 |_=>none
abbrev yx(f:Expr)(args:@&Expr)(jH:@&Keyword):Option ME:=match args with
 |[a]=>if jH.isEmpty&&decide (Ka f=some "sorted")&&c.gl "sorted"&&c.blt.contains "sorted"&&c.gl "set"&&c.blt.contains "set" then(J' a).bind λq=>(U6 q.1).bind λu=>(U6 q.2).bind λv=>if decide (u.1="set")&&decide (v.1="set") then(Dn u.2).bind λx=>(Dn v.2).bind λy=>if Y6 x&&Y6 y&&c.rh x&&c.rh y then(c.idx x).bind λi=>(c.idx y).map λj=>.prim .vd (.cons (.var i) (.cons (.var j) .nil)) else none else none else none
 |_=>none
abbrev DB(es:@&Expr)(k:Nat):Option ME:=if c.oC&&decide (k=0) then(match es with
 |[.Constant (.int i) _ _]=>!.prim (.kX i) .nil
 | _=>none) else none
abbrev JJ:Expr->Option ME
 |.Name x _=>FI c x
 |.Constant k _ _=>(Fh k).map .lit
 |.BinOp a op b _=>c2 r c (.bin op) a b
 |.UnaryOp op a _=>AF r c op a
 |.Compare a ops bs _=>yb r c a ops bs
 |.BoolOp op vs _=>Fg r c op vs
 |.IfExp t a b _=>(r.t c t).bind λmt=>(r.e c a).bind λma=>(r.e c b).map λmb=>.ite mt ma mb
 |.Tuple es _ _=>(J9 r c es).map (.prim .tup)
 |.List es _=>(J9 r c es).map (.prim .lst)
 |.Subscript a b _=>DC r c a b
 |.Dict ks vs _=>if ks.isEmpty&&vs.isEmpty then some (.prim .V9 .nil) else none
 |.Attribute o f _=>if xA o then c1 r c (.fld f) o else none
 |.Call f args jH pos=>(AG r c f args jH).orElse λy=>(yx c f args jH).orElse λy=>FH r c f args jH pos
 |.ListComp elt gens sc _=>sU r c elt gens sc
 |.Set es k _=>DB c es k
 |_=>none
abbrev stepT:Expr->Option ME
 |.UnaryOp op a _=>if op=.Not then(r.t c a).map .dQ else none
 |.BoolOp op vs _=>Fi r c op vs
 |.Compare a ops bs _=>(yb r c a ops bs).map .fC
 |e=>if EN e then(r.e c e).map .fC else none
abbrev Mf(e f:Option Expr):Option (Str×Expr×@&Expr):=if f.isNone then e.bind λe=>(U6 e).bind λq=>q.2.head?.map λa=>(q.1,a,q.2.tail) else none
abbrev i3.zX(f:Str):@&Str:=(c.pT.filter λy=>decide (y.1=f)).map (·.2)
abbrev FL:@&Expr->Option (Expr×Expr×Expr×Expr)
 |_=>none
abbrev Kn(tg e:Expr):Option MS:=match tg with
 |.Name x _=>if c.B4 x then(c.idx x).bind λi=>(r.e c e).map λm=>.set i m else none
 |.Tuple es _ _=>(FL es).elim (if uE e&&B1 e then(c.slots es).bind λis=>(r.e c e).map λm=>.nE (.many is) m else none) λq=>if B1 e&&hX q.2.1&&hX q.2.2.2 then(r.e c q.1).bind λm1=>(r.e c q.2.1).bind λn1=>(r.e c q.2.2.1).bind λm2=>(r.e c q.2.2.2).bind λn2=>(r.e c e).map λm=>.yC m1 n1 m2 n2 m else none
 |.Subscript o i _=>(FJ r c o i e).orElse λy=>if hX i&&B1 e then(r.e c o).bind λmo=>(r.e c i).bind λmi=>(r.e c e).map λm=>.fe mo mi m else none
 |.Attribute o f _=>(r.e c o).bind λmo=>(r.e c e).map λm=>.fJ f (c.zX f) mo m
 |_=>none
abbrev Jl:Operator->Option Pr
 |.Add=>!.iadd
 |.Sub=>!.oj
 |_=>none
abbrev toR(e:Expr)(m:ME):ME:=(λ(_:i3)=>m) c
abbrev JK:Stmt->Option MS
 |.Expr e _=>if B1 e then(r.e c e).map .expr else none
 | .Assign AL e _=>(match AL with
  |[tg]=>Kn r c tg e
  | _=>none)
 | .AugAssign tg op e _=>(match tg with
  |.Attribute o f _=>if decide (op=.Add) then(r.e c o).bind λmo=>(r.e c e).map λm=>.lD f (c.zX f) mo m else none
  |.Name x _=>if c.B4 x then(Jl op).bind λp=>(c.idx x).bind λi=>(r.e c e).map λm=>.lC i p m else none
  | _=>none)
 |.If t a b _=>(r.t c t).bind λmt=>(C5 r c a).bind λma=>(C5 r c b).map λmb=>.ifs mt ma mb
 |.For tg it body pX _=>if c.oC&&(pX.isEmpty&&hX it) then(c.tg tg).bind λt=>(Ad r c tg it).bind λmi=>(C5 r c body).map λmb=>.eL t mi mb else none
 |.While t body pX _=>if c.oC&&pX.isEmpty then(r.t c t).bind λmt=>(C5 r c body).map λmb=>.kU mt mb else none
 | .Return e _=>(match e with
  |some e=>(r.e c e).map λm=>.ret (toR c e m)
  | none=>!.rA)
 |.Pass _=>!.pass
 |.Raise e f _=>(Mf e f).bind λq=>if c.mX&&c.exc.contains q.1&&c.gl q.1&&Y6 q.1 then(J9 r c (q.2.1::q.2.2)).map (.raise q.1) else none
 |_=>none
end
abbrev comp:Nat->CF
 |0=>#[λx x=>none,λx x=>none,λx x=>none]
 |n+1=>#[JJ (comp n),stepT (comp n),λc s=>(JK (comp n) c s).orElse λx=>!.expr .no]
structure jo(X:Cx)(c:i3)(P:fK)(Ξ:jm):Prop where
 N:X.N=c.N
 nd:c.N.Nodup
 loc:∀x,c.nm.lookup x=!.local->X.env.scope.names.lookup x=!.local
 Dc:∀x,c.nm.lookup x=!.cell->X.env.scope.names.lookup x=!.cell
 IP:∀x,c.nm.lookup x=!.free->X.env.scope.names.lookup x=!.cell\/X.env.scope.names.lookup x=!.free
 Sz:∀x,c.nm.lookup x=!.globalImplicit->X.env.scope.names.lookup x=!.globalImplicit
 cells:∀x,(c.nm.lookup x=!.cell\/c.nm.lookup x=!.free)->∃a,X.env.cells.lookup x=!a
 oC:∀x,c.nm.lookup x=!.cell->X.fn x=true
 calm:X.calm=true
 units:X.A.units+100<cLine
 own:c.oC=true->PassesOwn (model X.prog X.w) X.A X.env X.xe
 mono:i5 P
 con:∀x d,c.con.lookup x=!d->∃v u,X.mg x=!u/\RelV v u/\∀ρ H,d5 X.K ρ H d v
 blt:∀x,c.blt.contains x=true->X.mg x=none
 fns:∀x f,c.fns.lookup x=!f->∃k fa fd ps,ph X P Ξ.1 k f fa fd ps/\w6 k X.A/\X.mg x=!.ref fa/\PySem.W.keepIn X.K (.ref fa)=true
 cls:∀x f,c.cls.lookup x=!f->∃k C fa fd ps,ph X P Ξ.1 k f fa fd ps/\w6 (k+1) X.A/\X.mg x=!.ref C/\x5 X.K x C/\jQ X.K C/\Mk X.K C fa
 pE:∀m y f C,(m,y,f)∈c.pE->x5 X.K y C->∃k fa fd ps,Meth X.K C m fa/\ph X P Ξ.1 k f fa fd ps/\w6 k X.A
 pT:∀f y C,(f,y)∈c.pT->x5 X.K y C->B3 X.K C f
 IS:Ξ.1=c.exc
 pass:Passes (iQ X.prog X.w) X Ξ.2
 mX:c.mX=true->zB X Ξ.2
 pA:c.pA=true->X.stack=X.env::X.outer/\X.env.frame=!X.env.locals/\JU X Ξ.2
 exc:∀x,c.exc.contains x=true->∃C,X.mg x=!.ref C/\x5 X.K x C/\∃B newId ik bm,OwnCls x C bm newId X.mg X.base/\ExcBaseFacts B newId ik bm
 SJ:∀x y C C',c.exc.contains x=true->c.exc.contains y=true->x5 X.K x C->x5 X.K y C'->PySem.W.exmOne X.K (.ref C) (.ref C')=!decide (x=y\/y="MintError")
 zd:∀x kvs,c.gd.lookup x=!kvs->Aa X x kvs
 code:c.oC=true->PySem.W.kdsCode X.K X.env.code=true
 sgn:c.wr=true->X.sg=none
def Tz(h:c.idx x=!i):c.N[i]?=!x:=by
 unfold i3.idx at h;rw[lF] at h;let#[h1,h2,_]:=h;rw[ag h1,bx h2]
set_option tactic.hygienic true in
def jo.FC(C:jo X c P Ξ)(h:c.rh x=true):sW X.env.scope x:=by
 unfold i3.rh at h;split at h
 .rename_i e;exact .inl (C.loc x e)
 .rename_i e;exact .inr (.inl (C.Dc x e))
 .rename_i e;rcases C.IP x e with z|z
  .exact .inr (.inl z)
  .exact .inr (.inr z)
 .cases h
def jo.A5(C:jo X c P Ξ)(h:c.gl x=true):Gl X x:=C.Sz x (bx h)
def jo.B4(C:jo X c P Ξ){x:Str}(h:c.B4 x=true):Loc X.env.scope x/\(X.fn x=true\/X.env.scope.names.lookup x=!.local):=by
 unfold i3.B4 at h;rw[fz] at h;rcases h with h|h
 .have:=C.loc x (bx h);exact#[.inl this,.inr this]
 .exact#[.inr (C.Dc x (bx h)),.inl (C.oC x (bx h))]
def jo.qf(C:jo X c P Ξ)(h:c.idx x=!i):X.N[i]?=!x:=by rw[C.N];exact Tz h
def jo.tJ(C:jo X c P Ξ)(hw:c.wr=true):X.Nd:=#[by rw[C.N];exact C.nd,C.sgn hw]
def KZ(h:asName e=!x):∃p,e=.Name x p:=by
 cases e<;>first|(cases h;exact#[_,rfl])|cases h
def NI(h:c.slot e=!i):∃x p,e=.Name x p/\c.B4 x=true/\c.idx x=!i:=by
 let#[x,hx,h2]:=ai.mp h;let#[p,rfl]:=KZ hx;split at h2
 .exact#[x,p,rfl,by assumption,h2]
 .cases h2
def jo.slots(C:jo X c P Ξ):∀{es:@&Expr} {is:@&Nat},c.slots es=!is->gx X es is:=by
 intro es
 induction es with
 |nil=>intro is h;cases h;exact .nil
 |cons e r ih =>
  intro is h;let#[i,hi,h]:=ai.mp h;let#[is',hs,rfl]:=ae.mp h;let#[x,p,rfl,hl,hx]:=NI hi;exact .cons (C.qf hx) (C.B4 hl).1 (C.B4 hl).2 (ih hs)
def orElse_some{α:Type}{a:Option α}{b:Unit->Option α}{m:α}(h:a.orElse b=!m):a=!m\/b Unit.unit=!m:=by
 cases a with
 |none=>exact .inr h
 |some x=>exact .inl h
def jo.Kt(C:jo X c P Ξ)(hw:c.wr=true){tg:Expr}{t:MT}(h:c.tg tg=!t):PG X tg (LG X.K t):=by
 rcases orElse_some h with h|h
 .let#[i,hi,rfl]:=ae.mp h;let#[x,p,rfl,hl,hx]:=NI hi;exact bF6 (C.tJ hw) (C.qf hx) (C.B4 hl).1 (C.B4 hl).2
 .cases tg<;>first|(cases h;done)|skip
  let#[is,hs,rfl]:=ae.mp (show(c.slots _).map MT.many=some t from h);exact MZ C.calm (C.tJ hw) (C.slots hs)
def p8(h:hX e=true):starEach (e::es) env=(false,eval e env)::starEach es env:=by
 cases e<;>first|rfl|cases h
def zU(h:hX e=true):∀x,foldedSetIterable e env x=pure x:=by
 intro x;cases e<;>first|rfl|cases h
def Oq(h:hX e=true):DE e:=by
 intro o i;cases e<;>first|rfl|cases h
def Ui{i:Expr}{tp:Pos}(h:hX i=true):∀v,assign (.Subscript o i tp) env v=(do
      let ov <- holding [v] (eval o env)
      let iv <- holding [v,ov] (eval i env)
      standAt tp
      holding [v,ov,iv] (setItem ov iv v)
      release [v,ov,iv] []):=by
  intro v;cases i<;>first|rfl|cases h
def X3{t:Option Expr}(h:B1 e=true):swapsWith e t n env=pure false:=by
 cases e<;>first|rfl|cases h
def Wm{k:Nat}{p:Pos}(h:uE e=true):swappedStores [.Tuple es k p] e env=pure none:=by
 cases e<;>first|rfl|cases h
def a49(h:EN e=true):∀whole,isTrue e env whole=(do let v <- whole;standAt e.pos;holding [v] (truthy v)):=by
 intro w;cases e<;>first|rfl|cases h
set_option tactic.hygienic true in
def L8{q:Str×@&Expr}(h:U6 e=!q):∃p pos,e=.Call (.Name q.1 p) q.2 [] pos:=by
 cases e<;>first|(cases h;done)|skip
 rename_i f as jH pos;cases f<;>first|(cases h;done)|skip
 cases jH<;>first|(cases h;done)|skip
 cases h;exact#[_,_,rfl]
def Nk{l:@&Expr}(h:Dn l=!x):∃p,l=[.Name x p]:=by
 rcases l with _|⟨e,_|⟨_,_⟩⟩
 .cases h
 .cases e<;>first|(cases h;exact#[_,rfl])|cases h
 .cases e<;>cases h
set_option tactic.hygienic true in
def VB{q:Expr×Expr}(h:J' e=!q):∃p,e=.BinOp q.1 .BitOr q.2 p:=by
 cases e<;>first|(cases h;done)|skip
 rename_i a op b p;cases op<;>first|(cases h;exact#[_,rfl])|cases h
def Zy(h:Kb e=!es):∃k p,e=.Tuple es k p:=by
 cases e with
 |Tuple mK k p=>cases h;exact#[k,p,rfl]
 |_=>cases h
def XC(h:Jk e=true):∃es k p,e=.Tuple es k p:=by
 cases e<;>first|exact#[_,_,_,rfl]|cases h
set_option tactic.hygienic true in
def Nt{kvs:@&D}(h:c.Dq b=!kvs):∃x p,b=.Name x p/\c.gl x=true/\Y6 x=true/\c.gd.lookup x=!kvs:=by
 let#[x,hx,h2]:=ai.mp h;let#[p,rfl]:=KZ hx;split at h2
 .rename_i hc;rw[aU] at hc;exact#[x,p,rfl,hc.1,hc.2,h2]
 .cases h2
set_option tactic.hygienic true in
def N1{f:Str}(h:xA o=true):attributeBase o f env (eval o env)=eval o env:=by
 cases o<;>first|rfl|skip
 rename_i f as jH pos;cases f<;>first|rfl|skip
 cases as with
 |nil=>cases h
 |cons=>rfl
def DJ{env:Env}:∀(names:@&(Str×NameKind)) (acc:@&(Str×Addr)),(∀y∈names,y.2=.free->∃a,env.cells.lookup y.1=!a)->(∀x a,acc.lookup x=!a->env.cells.lookup x=!a) ->
  ∃ cl,(forIn names acc λ(y:Str × NameKind) (cs:@&(Str × Addr))=>(match y with
   |(name,kind)=>if(kind==NameKind.free)=true then do
     let __do_lift <- cellOf env name
     pure (ForInStep.yield ((name,__do_lift)::cs))
    else pure (ForInStep.yield cs):Sem (ForInStep (List (Str × Addr)))))=pure cl/\(∀ x a,cl.lookup x=!a->env.cells.lookup x=!a)/\(∀ y ∈ names,y.2=.free->∃ a,cl.lookup y.1=!a)/\∀ x a,acc.lookup x=!a->∃ a',cl.lookup x=!a'
 |[],acc,_,h2=>#[acc,rfl,h2,λy hy=>absurd hy #[_],λx a h=>#[a,h]]
 |(n,k)::r,acc,h1,h2=>by
  rw[List.forIn_cons];by_cases hk:k=.free
  .subst hk;let#[a,ha]:=h1 (n,.free) #[_] rfl;let hc:cellOf env n=pure a:=by unfold cellOf;rw[ha]
   let ⟨cl,e,q1,q2,q3⟩:=DJ r ((n,a) :: acc) (λy hy=>h1 y (by simp [hy])) (λx b hb=>by
    rw[dN] at hb;cases hx:x==n with
    |true=>simp_all
    | false=>rw [hx] at hb;exact h2 x b hb)
   refine#[cl,?_,q1,λy hy hf=>?_,λx b hb=>?_]
   .simp only[beq_self_eq_true,if_true,hc];exact e
   .rcases aJ.mp hy with z|z
    .subst z;exact q3 n a #[_]
    .exact q2 y z hf
   .cases hx:x==n with
    |true=>exact q3 x a (by rw[dN,hx])
    |false=>exact q3 x b (by rw[dN,hx];exact hb)
  .let hb:(k==NameKind.free)=false:=by simpa using hk
   let#[cl,e,q1,q2,q3]:=DJ r acc (λy hy=>h1 y (by simp[hy])) h2;refine#[cl,?_,q1,λy hy hf=>?_,q3]
   .simp only[hb,Bool.false_eq_true,if_false];exact e
   .rcases aJ.mp hy with z|z
    .simp_all
    .exact q2 y z hf
def a59{P:Program}{w:World}:Passes (iQ P w) X (λx x x=>False):=λx x x x x x x h=>by
 let#[_,_,_,_,_,_,_,z]:=h;exact z.elim
def T2{env:Env}:∀{names:@&(Str×NameKind)} {x:Str},names.lookup x=!.globalImplicit ->
  (names.map λ(n,k)=>if(k==NameKind.free&&env.scope.kind==.function&&env.kindOf n==!.cell) then(n,NameKind.cell) else(n,k)).lookup x=!.globalImplicit
 |[],_,h=>by simp at h
 |(n,k)::r,x,h=>by
  let ih:=@T2 env r x;change List.lookup x ((if(k==NameKind.free&&env.scope.kind==.function&&env.kindOf n==!.cell)=true then(n,NameKind.cell) else(n,k))::_)=_;cases hx:x==n with
  |true =>
   simp only[List.lookup_cons,hx] at h;cases h;simp[List.lookup_cons,hx]
  |false =>
   simp only[List.lookup_cons,hx] at h;by_cases hc:(k==NameKind.free&&env.scope.kind==.function&&env.kindOf n==!.cell)=true
   .rw[ay hc];simp only[List.lookup_cons,hx];exact ih h
   .rw[az hc];simp only[List.lookup_cons,hx];exact ih h
def jo.comp(C:jo X c P Ξ){sc:Scope}(h:c.DW sc=true):∃cl,dw X sc (frees sc++locals sc) (c.d4 sc) cl/\∀pi A s H fp,jo (f7 X pi sc (frees sc++locals sc) cl A s H fp) (c.inner sc) P (sV Ξ.1):=by
 unfold i3.DW at h;simp only[Bool.and_eq_true,decide_eq_true_eq,List.all_eq_true] at h;let#[#[#[#[h1,h2],h3],h4],h5]:=h;let fr:∀x∈frees sc,(∃i,c.idx x=!i)/\sc.names.lookup x=!.free/\(c.nm.lookup x=!.cell\/c.nm.lookup x=!.free):=λx hx=>by
  have:=h5 x hx;rw[fj,fz] at this;simp only[decide_eq_true_eq] at this;exact#[this.1.1,this.1.2,this.2]
 let sH:∀y∈sc.names,y.2=.free->∃a,X.env.cells.lookup y.1=!a:=λy hy hf=>by
  let hm:y.1∈frees sc:=aL.mpr #[y,bt.mpr #[hy,by simp[hf]],rfl];exact C.cells y.1 (fr y.1 hm).2.2
 let#[cl,e,q1,q2,_]:=DJ sc.names [] sH (λx a h=>by simp at h);let h2:∀y∈sc.names,y.2=.cell->sc.names.lookup y.1=!.cell:=λy hy hl=>by
  have:=h2 y hy
  simp_all
 refine#[cl,#[h1,h2,λy hy hl=>?_,?_,q1,λx hx=>q2 (x,.free) (aS hx) rfl,h4,λi j lJ=>?_,?_],λpi A s H fp=>?_]
 .grind
 .simp only[closureFor];rw[e]
  rfl
 .unfold i3.d4 at lJ;rw[aj] at lJ;cases ex:(frees sc)[i]? with
  |none=>simp_all
  |some x =>
   rw[ex] at lJ;let hx:x∈frees sc:=aB ex;let#[#[k,hk],hl,hc]:=fr x hx;let hj:k=j:=by
    have:=aN lJ;dsimp only at this;rw[hk] at this;exact this
   subst hj;refine#[x,?_,C.qf hk,hl,?_]
   .rw[aH (av.mp ex).1];exact ex
   .rcases hc with z|z
    .exact .inl (C.Dc x z)
    .exact C.IP x z
 .unfold i3.d4;simp
 .refine#[rfl,h4,λx hx=>lookup_relabel_local hx,λx hx=>?_,λx hx=>J2 hx,λx hx=>T2 hx,λx hx=>?_,λx w=>?_,rfl,C.units,(λw=>PassesOwn.never),C.mono,C.con,C.blt,C.fns,C.cls,C.pE,C.pT,C.IS,a59,(λz=>by cases z),(λz=>by cases z),C.exc,C.SJ,C.zd,(λz=>by cases z),λw=>rfl]
  .exact O9 hx
  .rcases hx with hx|hx
   .exact NX (.inl hx)
   .exact NX (.inr (q2 (x,.free) (aS hx) rfl))
  .exact aA ‹_›
def J0(h:Y6 x=true):(x==("__debug__":Str))=false/\(x==("__classdict__":Str))=false/\x≠"__name__":=by
 unfold Y6 at h;simp only[Bool.and_eq_true,decide_eq_true_eq,beq_iff_eq] at h;exact#[h.1.1,h.1.2,h.2]
def Xu{t:String}(h:FA.lookup x=!t):bootBuiltins x=!.type t:=by
 let hm:=aS h;simp only[FA,List.mem_cons,List.mem_nil_iff,or_false] at hm;rcases hm with z|z|z|z|z<;>(cases z;first|exact yp|exact PyProof.Rows.boot_bool|exact PyProof.Rows.boot_str|exact sZ|exact uQ|decide +kernel|rfl)
def XD(hc:X.calm=true)(hu:X.A.units+100<cLine)(h:FN.lookup x=!p):∃v,((∃id,v=.builtin id)\/∃T,v=.type T)/\bootBuiltins x=!v/\m9 X v (rN X.K p):=by
 let hm:=aS h;simp only[FN,List.mem_cons,List.mem_nil_iff,or_false] at hm;rcases hm with z|z|z|z|z|z|z|z|z|z
 .cases z;exact#[.builtin "len",.inl #[_,rfl],PySem.boot_len,bM8]
 .cases z;exact#[.type "list",.inr #[_,rfl],by first|exact uQ|decide +kernel,TX hc]
 .cases z;exact#[.type "tuple",.inr #[_,rfl],by first|exact sZ|decide +kernel,Xr]
 .cases z;exact#[.builtin "isinstance",.inl #[_,rfl],by first|exact PyProof.Rows.boot_isinstance|decide +kernel,TK]
 .cases z;exact#[.builtin "all",.inl #[_,rfl],by first|exact PyProof.Rows.boot_all|decide +kernel,Zw hc]
 .cases z;exact#[.builtin "max",.inl #[_,rfl],by first|exact PyProof.Rows.boot_max|decide +kernel,bM0 hc]
 .cases z;exact#[.builtin "min",.inl #[_,rfl],by first|exact PyProof.Rows.boot_min|decide +kernel,bL8 hc hu]
 .cases z;exact#[.type "int",.inr #[_,rfl],by first|exact yp|decide +kernel,ZS]
 .cases z;exact#[.type "dict",.inr #[_,rfl],by first|exact PyProof.Rows.boot_dict|decide +kernel,VM hc]
 .cases z;exact#[.builtin "sum",.inl #[_,rfl],by first|exact PyProof.Rows.boot_sum|decide +kernel,bD8 hc]
def aX0(h:zI.lookup x=!p):∃T id,PlainAttrs T/\Slot T x id/\typeOf (.builtin id)=pure (.type "method_descriptor")/\nu X id (rM X.K p) /\
  ∀{d:D} {v:V} {g:G} {ρ:@&Addr} {H:Hp},Rl X.K ρ g H->d5 X.K ρ H d v->mY p d g->oR X.K T v H:=by
 cases h
def a74(hu:X.A.units+100<cLine)(h:FW.lookup x=!p):∃T id,PlainAttrs T/\Slot T x id/\typeOf (.builtin id)=pure (.type "method_descriptor")/\nu X id (rM X.K p) /\
  ∀{d:D} {v:V} {g:G} {ρ:@&Addr} {H:Hp},Rl X.K ρ g H->d5 X.K ρ H d v->mY p d g->oR X.K T v H:=by
 let hm:=aS h;simp only[FW,List.mem_cons,List.mem_nil_iff,or_false] at hm;rcases hm with z|z|z|z
 .cases z;exact#[_,_,sX,PySem.F.slot_list_append,PySem.F.type_list_append,XB,λR r h=>ty_list R r h]
 .cases z;exact#[_,_,sX,PySem.F.slot_list_pop,PySem.F.type_list_pop,WE,λR r h=>ty_list R r h]
 .cases z;exact#[_,_,PySem.F.plainAttrs_dict,jy,PySem.F.type_dict_get,ZM hu,λR r h=>ty_dict R r h]
 .cases z;exact#[_,_,PySem.F.plainAttrs_set,PySem.F.slot_set_add,PySem.F.type_set_add,UO,λR r h=>ty_set R r h]
def NM{pos:Pos}{env:Env}:∀{es:@&Expr},(∀e∈es,hX e=true)->(backTo pos (starEach es env)).all (λx=>~~~x.1)=true
 |[],_=>rfl
 |e::es,h=>by
  rw[p8 (h e #[_])];let ih:=NM (pos:=pos) (env:=env) (es:=es) λx hx=>h x (by simp[hx]);unfold backTo at ih ⊢;rw[bJ,kG,ih]
  rfl
def V0{pos:Pos}{env:Env}:∀{es:@&Expr},(∀e∈es,hX e=true)->(backTo pos (starEach es env)).any (·.1)=false
 |[],_=>rfl
 |e::es,h=>by
  rw[p8 (h e #[_])];let ih:=V0 (pos:=pos) (env:=env) (es:=es) λx hx=>h x (by simp[hx]);unfold backTo at ih ⊢;rw[bJ,dZ,ih]
  rfl
def Ed:∀{es:@&Expr} {m:ME},J9 r c es=!m->∀e∈es,hX e=true:=by
 intro es
 induction es with
 |nil=>intro m _ e he;simp_all
 |cons a es ih =>
  intro m h e he;unfold J9 at h;split at h
  .let#[m1,h1,h]:=ai.mp h;let#[m2,h2,_]:=ae.mp h;rcases aJ.mp he with z|z
   .rw[z];assumption
   .exact ih h2 e z
  .cases h
structure qV(P:fK)(r:CF):Prop where
 e:∀X c Ξ,jo X c P Ξ->∀e m,r.e c e=!m->PE X e (LE X.K Ξ (aY P m))
 t:∀X c Ξ,jo X c P Ξ->∀e m,r.t c e=!m->PT X e (LT X.K Ξ (dY P m))
 s:∀X c Ξ,jo X c P Ξ->c.wr=true->∀st m,r.s c st=!m->PS X st (LS X.K Ξ (wpS P m))
section
variable(S:qV P r)(C:jo X c P Ξ){a:Expr}
include S C
def xw(h:c1 r c p a=!m):∃ma,PE X a (LE X.K Ξ (aY P ma))/\m=.prim p (.cons ma .nil):=by
 let#[ma,ha,rfl]:=ae.mp h;exact#[ma,S.e X c Ξ C _ _ ha,rfl]
def uG(h:c2 r c p a b=!m):∃ma mb,PE X a (LE X.K Ξ (aY P ma))/\PE X b (LE X.K Ξ (aY P mb))/\m=.prim p (.cons ma (.cons mb .nil)):=by
 let#[ma,ha,h]:=ai.mp h;let#[mb,hb,rfl]:=ae.mp h;exact#[ma,mb,S.e X c Ξ C _ _ ha,S.e X c Ξ C _ _ hb,rfl]
set_option tactic.hygienic true in
def tK:∀{es:@&Expr} {m:ME},J9 r c es=!m->PA X es (LA X.K Ξ (fN P m)):=by
 intro es
 induction es with
 |nil=>intro m h;cases h;exact N8 C.mono
 |cons a es ih =>
  intro m h;unfold J9 at h;split at h
  .rename_i bZ;let#[m1,h1,h]:=ai.mp h;let#[m2,h2,rfl]:=ae.mp h;exact E9 C.mono (S.e X c Ξ C _ _ h1) (ih h2) (p8 bZ)
  .cases h
def Qe{op:BoolOp}:∀{vs:@&Expr} {m:ME},Fg r c op vs=!m->PE X (.BoolOp op vs pos) (LE X.K Ξ (aY P m)):=by
 intro vs
 induction vs with
 |nil=>intro m h;cases h
 |cons a vs ih =>
  intro m h;cases vs with
  |nil=>exact bJ3 (S.e X c Ξ C _ _ h)
  |cons b vs =>
   let#[m1,h1,h]:=ai.mp h;let#[m2,h2,rfl]:=ae.mp h;cases op
   .exact bG9 C.mono (S.e X c Ξ C _ _ h1) (ih h2)
   .exact YU C.mono (S.e X c Ξ C _ _ h1) (ih h2)
def Qa{op:BoolOp}:∀{vs:@&Expr} {m:ME},Fi r c op vs=!m->PW X (.BoolOp op vs pos) (LT X.K Ξ (dY P m)):=by
 intro vs
 induction vs with
 |nil=>intro m h;cases h
 |cons a vs ih =>
  intro m h;cases vs with
  |nil =>
   cases op
   .exact UI (S.t X c Ξ C _ _ h)
   .exact bH7 (S.t X c Ξ C _ _ h)
  |cons b vs =>
   let#[m1,h1,h]:=ai.mp h;let#[m2,h2,rfl]:=ae.mp h;cases op
   .exact bD7 C.mono (S.t X c Ξ C _ _ h1) (ih h2)
   .exact YY C.mono (S.t X c Ξ C _ _ h1) (ih h2)
def b59(h:Of r c es=!m):mh X es (LT X.K Ξ (dY P m)):=by
 rcases es with _|⟨e,_|⟨_,_⟩⟩
 .cases h;exact Vi C.mono
 .exact UG (S.t X c Ξ C _ _ h)
 .cases h
def xW(hw:c.wr=true):∀{Hc:@&Stmt} {m:MS},C5 r c Hc=!m->kE X Hc (LS X.K Ξ (wpS P m)):=by
 intro es
 induction es with
 |nil=>intro m h;cases h;exact bE7 C.mono
 |cons a es ih =>
  intro m h;let#[m1,h1,h]:=ai.mp h;let#[m2,h2,rfl]:=ae.mp h;exact Vh C.mono (S.s X c Ξ C hw _ _ h1) (ih h2)
end
def LK{t:Expr}(h:B1 e=true):swapsWithSole [t] e n env=pure false:=by
 exact X3 h
def KC{m:Str}{apos:Pos}(hb:xA o=true)(hl:(apos.endLine==pos.line)=true)(hf:methodCallForm (-args) (backTo pos (starEach args env)) (backToKw pos (keywordEach [] env))=true) :
  eval (.Call (.Attribute o m apos) args [] pos) env=(do
   let ov <- eval o env
   standAt apos.atName
   let (f,first) <- holding [ov] (getMethod ov m (do return (<- importBound o env).getD true))
   callWith pos f first (backTo pos (starEach args env)) (backToKw pos (keywordEach [] env))):=by
 let h1:eval (.Call (.Attribute o m apos) args [] pos) env=(do
   let ov <- attributeBase o m env (eval o env)
   standAt apos.atName
   methodCall o m apos pos env ov (-args + 0) (backTo pos (starEach args env)) (backToKw pos (keywordEach [] env))):=rfl
 rw[h1,N1 hb];let h2:∀ ov,methodCall o m apos pos env ov (-args + 0) (backTo pos (starEach args env)) (backToKw pos (keywordEach [] env))=(do
   let (f,first) <- holding [ov] (getMethod ov m (do return (<- importBound o env).getD true))
   callWith pos f first (backTo pos (starEach args env)) (backToKw pos (keywordEach [] env))):=λov=>by
  unfold methodCall calleeOf methodCallPos
  simp_all
 simp only[h2]
section
variable(S:qV P r)(C:jo X c P Ξ){a d:Expr}
include C
set_option tactic.hygienic true in
def bL5(h:FI c x=!m):PE X (.Name x pos) (LE X.K Ξ (aY P m)):=by
 unfold FI at h;split at h
 .rename_i iX;let#[d1,d2,d3]:=J0 iX;split at h
  .rename_i hv;let#[i,hi,rfl]:=ae.mp h;exact bF9 (C.qf hi) (C.FC hv) d1 d2
  .split at h
   .rename_i hg;rcases orElse_some h with h|h
    .let#[d,hd,rfl]:=ae.mp h;let#[v,u,hm,r,rr]:=C.con x d hd;exact uL (zJ (C.A5 hg) hm r d1) rr
    .split at h
     .rename_i hb;let#[t,ht,rfl]:=ae.mp h;exact uL (v:=.ty t) (Ur (C.A5 hg) (C.blt x hb) (Xu ht) rfl d3 d1) λy y=>.ty t
     .cases h
   .cases h
 .cases h
omit C in
def Ba{k:Const}{j:Nat}{d:D}(h:Fh k=!d):PE X (.Constant k j pos) (LE X.K Ξ (aY P (.lit d))):=by
 cases k<;>first|(cases h;done)|skip
 .cases h;exact uL bJ5 λx x=>.bg
 .cases h;exact uL YD λx x=>.bl _
 .cases h;exact uL bJ7 λx x=>.int _
 .cases h;exact uL bJ2 λx x=>.str _
include S
set_option tactic.hygienic true in
def b58{op:UnaryOp}(h:AF r c op a=!m):PE X (.UnaryOp op a pos) (LE X.K Ξ (aY P m)):=by
 unfold AF at h;split at h
 .rename_i ho;subst ho;let#[ma,ha,rfl]:=ae.mp h;exact bG3 C.mono (S.e X c Ξ C _ _ ha)
 .let#[ma,ha,rfl]:=xw S C h;exact YV C.mono ha
set_option tactic.hygienic true in
def ET{q:ME×ME}(h0:Al r c e=!q):∃x y k p,e=.Tuple [x,y] k p/\PA X [x,y] (LA X.K Ξ (fN P (.cons q.1 (.cons q.2 .nil)))):=by
 let#[es,he,h1]:=ai.mp h0;let#[z,hz,h]:=ai.mp h1;clear h0 h1;let#[k,p,rfl]:=Zy he;split at h
 .rename_i hc;rw[aU] at hc;let#[m1,h1,h]:=ai.mp h;let#[m2,h2,rfl]:=ae.mp h;let#[x,y]:=z;have:es=[x,y]:=by
   rcases es with _|⟨a,_|⟨b,_|⟨_,_⟩⟩⟩
   .cases hz
   .cases hz
   .cases hz;rfl
   .cases hz
  subst this;refine#[x,y,k,p,rfl,tK S C ?_];dsimp only at hc h1 h2;simp only[J9,hc.1,hc.2,if_true,h1,h2]
  rfl
 .cases h
set_option tactic.hygienic true in
def JA{ops:@&CmpOp}{bs:@&Expr}(h:yb r c a ops bs=!m):PE X (.Compare a ops bs pos) (LE X.K Ξ (aY P m))/\PT X (.Compare a ops bs pos) (LT X.K Ξ (dY P (.fC m))):=by
 unfold yb at h;split at h
 .rename_i op b;split at h
  .cases h
  .rename_i hm;let hm:behindInMarks op b=false:=by simpa using hm
   rcases orElse_some h with h|h
   .let#[neg,hn,h]:=ai.mp h;let#[q,hq,h]:=ai.mp h;let#[mo,ho,rfl]:=ae.mp h;let#[x,y,k,p,rfl,hA]:=ET S C hq;let lx:op=if neg then .NotIn else .In:=by cases op<;>cases hn<;>rfl
    subst lx;exact#[bG1 C.mono C.units hA (S.e X c Ξ C _ _ ho) hm,bE0 C.mono C.units hA (S.e X c Ξ C _ _ ho) hm]
   rcases orElse_some h with h|h
   .let#[neg,hn,h]:=ai.mp h;let#[kvs,hk,h]:=ai.mp h;let#[ma,ha,rfl]:=ae.mp h;let#[x,p,rfl,hg,hd,hk]:=Nt hk;let ho:op=if neg then .NotIn else .In:=by cases op<;>cases hn<;>rfl
    subst ho;exact#[bG6 C.mono (C.A5 hg) (J0 hd).1 (C.zd x kvs hk) (S.e X c Ξ C _ _ ha) hm,bE4 C.mono (C.A5 hg) (J0 hd).1 (C.zd x kvs hk) (S.e X c Ξ C _ _ ha) hm]
   .let#[ma,mb,ha,hb,rfl]:=uG S C h;exact#[Ga C.mono (MJ (uK C.units op) ha hb hm),bE1 C.mono (MN (uK C.units op) ha hb hm)]
 .split at h
  .cases h
  .rename_i hm;let#[ma,ha,h]:=ai.mp h;let#[mb,hb,h]:=ai.mp h;let#[md,hd,rfl]:=ae.mp h;exact#[WV C.mono C.units (S.e X c Ξ C _ _ ha) (S.e X c Ξ C _ _ hb) (S.e X c Ξ C _ _ hd) (by simpa using hm),Xl C.mono C.units (S.e X c Ξ C _ _ ha) (S.e X c Ξ C _ _ hb) (S.e X c Ξ C _ _ hd) (by simpa using hm)]
 .cases h
omit S C in
def NR{i:Int}(h:Gu e=!i):∃j p,e=.Constant (.int i) j p:=by
 cases e with
 |Constant k j p=>cases k<;>cases h;exact#[_,_,rfl]
 |_=>cases h
def b61{lo hi st:Option Expr}{p2:Pos}(h:GR r c a lo hi st=!m):PE X (.Subscript a (.Slice lo hi st p2) pos) (LE X.K Ξ (aY P m)):=by
 cases lo<;>cases hi<;>cases st<;>first|(cases h;done)|skip
 .let#[ma,mb,ha,hb,rfl]:=uG S C h;exact Xd C.mono ha hb
 .let#[ma,mb,ha,hb,rfl]:=uG S C h;exact Xe C.mono ha hb
 .let#[ma,QI,h]:=ai.mp h;let#[i,hi,h]:=ai.mp h;let#[j,hj,rfl]:=ae.mp h;let#[_,_,rfl]:=NR hi;let#[_,_,rfl]:=NR hj;exact Xf C.mono (S.e X c Ξ C _ _ QI) (Ba (k:=.int i) rfl) (Ba (k:=.int j) rfl)
set_option tactic.hygienic true in
def Yr(h:DC r c a b=!m):PE X (.Subscript a b pos) (LE X.K Ξ (aY P m)):=by
 unfold DC at h;rcases orElse_some h with h|h
 .let#[q,hq,h]:=ai.mp h;let eb:∃p,b=.Slice q.1 q.2.1 q.2.2 p:=by cases b<;>first|(cases hq;exact#[_,rfl])|cases hq
  let#[p,rfl]:=eb;exact b61 S C h
 rcases orElse_some h with h|h
 .let#[q,hq,h]:=ai.mp h;let#[mo,ho,rfl]:=ae.mp h;let#[x,y,k,p,rfl,hA]:=ET S C hq;exact UY C.mono C.units (S.e X c Ξ C _ _ ho) hA
 .split at h
  .rename_i hb;rcases orElse_some h with h|h
   .let#[kvs,hk,h]:=ai.mp h;let#[mb,lz,rfl]:=ae.mp h;let#[x,p,rfl,hg,hd,hk]:=Nt hk;exact UR C.mono (C.A5 hg) (J0 hd).1 (C.zd x kvs hk) (S.e X c Ξ C _ _ lz) (Oq hb)
   .let#[ma,mb,ha,lz,rfl]:=uG S C h;exact Ga C.mono (JB (Yb C.units) ha lz (Oq hb))
  .cases h
set_option tactic.hygienic true in
def b60{px:Pos}(hg:c.gl x=true)(h:GQ r c x e=!m):PE X (.Call (.Name x px) [e] [] pos) (LE X.K Ξ (aY P m)):=by
 let#[q,hq,h']:=ai.mp h;clear h;let h:=h';clear h';let#[p,pos',rfl]:=L8 hq;let#[y,as]:=q;dsimp only at h ⊢;split at h
 .rename_i hc;simp only[Bool.and_eq_true,decide_eq_true_eq] at hc;let#[#[#[#[rfl,rfl],hl],hr],tX]:=hc;rcases as with _|⟨a,_|⟨b,_|⟨_,_⟩⟩⟩
  .cases h
  .dsimp only at h;split at h
   .rename_i ho;let#[ma,ha,rfl]:=xw S C h;exact WX C.mono C.calm ha (C.A5 hg) (C.blt _ hl) (C.A5 tX) (C.blt _ hr) (p8 ho)
   .cases h
  .dsimp only at h;split at h
   .rename_i ho;rw[aU] at ho;let#[ma,mb,ha,hb,rfl]:=uG S C h;exact WY C.mono C.calm ha hb (C.A5 hg) (C.blt _ hl) (C.A5 tX) (C.blt _ hr) (by rw[p8 ho.1,p8 ho.2];rfl) (p8 ho.2)
   .cases h
  .cases h
 .split at h
  .rename_i hc;simp only[Bool.and_eq_true,decide_eq_true_eq] at hc;let#[#[#[#[rfl,rfl],hl],hr],tX]:=hc;rcases as with _|⟨a,_|⟨_,_⟩⟩
   .cases h
   .dsimp only at h;split at h
    .rename_i ho;let#[ma,ha,rfl]:=xw S C h;exact UX C.mono C.calm ha (C.A5 hg) (C.blt _ hl) (C.A5 tX) (C.blt _ hr) (p8 ho)
    .cases h
   .cases h
  .split at h
   .rename_i hc;simp only[Bool.and_eq_true,decide_eq_true_eq] at hc;let#[#[#[#[rfl,rfl],hl],hr],tX]:=hc;rcases as with _|⟨a,_|⟨_,_⟩⟩
    .cases h
    .dsimp only at h;split at h
     .rename_i ho;let#[ma,ha,rfl]:=xw S C h;exact US C.mono C.calm ha (C.A5 hg) (C.blt _ hl) (C.A5 tX) (C.blt _ hr) (p8 ho)
     .cases h
    .cases h
   .cases h
set_option tactic.hygienic true in
def Ue{px:Pos}(h:OG r c x args=!m):PE X (.Call (.Name x px) args [] pos) (LE X.K Ξ (aY P m)):=by
 cases args with
 |nil =>
  let h2:Gh c x=!m:=h;unfold Gh at h2;split at h2
  .rename_i iX;rw[aU] at iX;rcases orElse_some h2 with h2|h2
   .let#[f,hf,rfl]:=ae.mp h2;let#[k,fa,fd,ps,F,hr,hm,hk]:=C.fns x f hf;exact WU C.mono C.pass F hr (C.A5 iX.2) hm hk (J0 iX.1).1
   let#[f,hf,rfl]:=ae.mp h2;let#[k,C',fa,fd,ps,F,hr,hm,hC,kh,M]:=C.cls x f hf;exact WZ C.mono C.pass F M hC kh hr (C.A5 iX.2) hm (J0 iX.1).1
  .cases h2
 |cons e es =>
  let h0:Gi r c x e es=!m:=h;clear h;let h:=h0;clear h0;unfold Gi at h;split at h
  .rename_i iX;rw[aU] at iX;let#[d1,d2,d3]:=J0 iX.1;rcases orElse_some h with h|h
   .cases es with
    |nil=>exact b60 S C iX.2 h
    |cons _ _=>cases h
   .let#[ms,mB,h]:=ai.mp h;let ok:=Ed mB;let pa:=tK S C mB;let fh:=p8 (env:=X.env) (es:=es) (ok e #[_]);let gy:=V0 (pos:=pos) (env:=X.env) (es:=es) λz hz=>ok z (by simp[hz]);rcases orElse_some h with h|h
    .let#[f,hf,rfl]:=ae.mp h;let#[k,fa,fd,ps,F,hr,hm,hk]:=C.fns x f hf;exact UP C.mono C.pass F hr (C.A5 iX.2) hm hk pa d1 fh gy
    .rcases orElse_some h with h|h
     .let#[f,hf,rfl]:=ae.mp h;let#[k,C',fa,fd,ps,F,hr,hm,hC,kh,M]:=C.cls x f hf;exact UT C.mono C.pass F M hC kh hr (C.A5 iX.2) hm pa d1 fh gy
     .split at h
      .rename_i hb;let#[p,hp,rfl]:=ae.mp h;let#[v,hv,BV,hc]:=XD (X:=X) C.calm C.units hp;exact bG8 C.mono hv hc (C.A5 iX.2) (C.blt x hb) BV pa d3 d1 fh gy
      .cases h
  .cases h
omit S in
def Nx{m:Str}:DD X P Ξ.1 m (c.meths m):=λy f C' h hC=>by
 let hm:=aS h;unfold i3.meths at hm;let#[#[m',y',f'],h1,h2]:=aL.mp hm;let#[h3,h4]:=bt.mp h1;cases h2;have:m'=m:=by simpa using h4
 subst this;exact C.pE m' y f C' h3 hC
set_option tactic.hygienic true in
def Ud{mt:Str}{apos:Pos}(h:Gj r c o mt apos pos args=!m):PE X (.Call (.Attribute o mt apos) args [] pos) (LE X.K Ξ (aY P m)):=by
 unfold Gj at h;split at h
 .rename_i hc;simp only[Bool.and_eq_true,decide_eq_true_eq] at hc;let#[#[hb,hl],hn]:=hc;let#[mo,ho,h]:=ai.mp h;let#[ms,mB,h]:=ai.mp h;let ok:=Ed mB;let pa:=tK S C mB;let po:=S.e X c Ξ C _ _ ho;let hf:methodCallForm (-args) (backTo pos (starEach args X.env)) (backToKw pos (keywordEach [] X.env))=true:=by
   unfold methodCallForm;rw[NM ok];have:-args+0<30:=by omega
   show(true&&true&&decide (-args+0<30))=true;rw[aA this]
   rfl
  by_cases wq:mt="index"
  .subst wq;rw[ay rfl] at h;cases args with
   |nil=>cases h
   |cons e es =>
    cases h;exact WW C.mono C.units po pa (N1 hb) hf hl (p8 (env:=X.env) (es:=es) (ok e #[_])) (V0 (pos:=pos) (env:=X.env) (es:=es) λz hz=>ok z (by simp[hz]))
  rw[az wq] at h;cases args with
  |nil =>
   cases mB;by_cases h0:(zI.lookup mt).isSome=true
   .rw[ay (by rw[h0];rfl)] at h;let#[p,hp,rfl]:=ae.mp h;let#[T,id,AW,sl,ty,Bb,hk]:=aX0 (X:=X) hp;exact Xa C.mono AW sl ty Bb hk po (N1 hb) hl
   rw[az (by rw[aU];exact λz=>h0 z.2)] at h;split at h
   .cases h
   .cases h;exact a37 C.mono C.pass (Nx C) po (KC hb hl hf)
  |cons e es =>
   let fh:=p8 (env:=X.env) (es:=es) (ok e #[_]);let gy:=V0 (pos:=pos) (env:=X.env) (es:=es) λz hz=>ok z (by simp[hz]);rw[az #[_]] at h;split at h
   .rename_i p hp;cases h;let#[T,id,AW,sl,ty,Bb,hk]:=a74 (X:=X) C.units hp;exact UU C.mono AW sl ty Bb hk po pa (N1 hb) hf hl fh gy
   .cases h;exact Xb C.mono C.pass (Nx C) po pa fh gy (KC hb hl hf)
 .cases h
set_option tactic.hygienic true in
def Hw{tg:Expr}(h:Ad r c tg e=!m):PI X tg e (LI X.K Ξ (iK P m)):=by
 rcases orElse_some h with h|h
 .let#[q,hq,h']:=ai.mp h;rename_i h0;clear h h0;let h:=h';clear h';let#[p,pos',rfl]:=L8 hq;let#[y,as]:=q;dsimp only at h ⊢;split at h
  .rename_i hy;subst hy;rcases as with _|⟨a,_|⟨_,_⟩⟩
   .cases h
   .dsimp only at h;split at h
    .rename_i hc;simp only[Bool.and_eq_true] at hc;let#[#[#[hg,hb],ho],ht]:=hc;let#[ma,ha,rfl]:=ae.mp h;let#[es,k,tp,rfl]:=XC ht;exact Vb C.mono (S.e X c Ξ C _ _ ha) (C.A5 hg) (C.blt _ hb) (p8 ho)
    .cases h
   .cases h
  .split at h
   .rename_i hy;subst hy;rcases as with _|⟨a,_|⟨_,_⟩⟩
    .cases h
    .dsimp only at h;split at h
     .rename_i hc;simp only[Bool.and_eq_true] at hc;let#[#[hg,hb],ho]:=hc;let#[ma,ha,rfl]:=ae.mp h;exact bF5 C.mono (S.e X c Ξ C _ _ ha) (C.A5 hg) (C.blt _ hb) (p8 ho)
     .cases h
    .cases h
   split at h
   .rename_i hy;subst hy;rcases as with _|⟨a,_|⟨b,_|⟨_,_⟩⟩⟩
    .cases h
    .dsimp only at h;split at h
     .rename_i hc;simp only[Bool.and_eq_true] at hc;let#[#[hg,hb],ho]:=hc;let#[ma,ha,rfl]:=ae.mp h;exact Vc C.mono (S.e X c Ξ C _ _ ha) (C.A5 hg) (C.blt _ hb) (p8 ho)
     .cases h
    .dsimp only at h;split at h
     .rename_i hc;simp only[Bool.and_eq_true] at hc;let#[#[#[hg,hb],ho],kM]:=hc;let#[ma,ha,h]:=ai.mp h;let#[mb,lz,rfl]:=ae.mp h;exact Vd C.mono (S.e X c Ξ C _ _ ha) (S.e X c Ξ C _ _ lz) (C.A5 hg) (C.blt _ hb) (by rw[p8 ho,p8 kM];rfl) (p8 kM)
     .cases h
    .cases h
   .cases h
 .split at h
  .let#[ma,ha,rfl]:=ae.mp h;exact bF4 C.mono (S.e X c Ξ C _ _ ha)
  .cases h
set_option tactic.hygienic true in
def DS{elt:Expr}{gens:@&Comprehension}{sc:Scope}(h:sU r c elt gens sc=!m):∃tg it ifs t mi mc me cl,gens=[#[tg,it,ifs,0]]/\m=.comp (c.d4 sc) (frees sc++locals sc).length t mi mc me/\hX it=true /\
  dw X sc (frees sc++locals sc) (c.d4 sc) cl/\PI X tg it (LI X.K Ξ (iK P mi))/\(∀pi A s H fp,PG (f7 X pi sc (frees sc++locals sc) cl A s H fp) tg (LG X.K t)) /\
   (∀pi A s H fp,mh (f7 X pi sc (frees sc++locals sc) cl A s H fp) ifs (LT X.K (sV Ξ.1) (dY P mc)))/\(∀pi A s H fp,PE (f7 X pi sc (frees sc++locals sc) cl A s H fp) elt (LE X.K (sV Ξ.1) (aY P me))):=by
 unfold sU at h;rcases gens with _|⟨⟨tg,it,ifs,HB⟩,_|⟨_,_⟩⟩
 .cases h
 .dsimp only at h;split at h
  .rename_i hs;simp only[Bool.and_eq_true,decide_eq_true_eq] at hs;let#[#[hs,rfl],hit]:=hs;let#[t,h1,h]:=ai.mp h;let#[mi,h2,h]:=ai.mp h;let#[mc,h3,h]:=ai.mp h;let#[me,h4,rfl]:=ae.mp h;let#[cl,Sc,I]:=C.comp hs;exact#[tg,it,ifs,t,mi,mc,me,cl,rfl,rfl,hit,Sc,Hw S C h2,λpi A s H fp=>(I pi A s H fp).Kt rfl h1,λpi A s H fp=>b59 S (I pi A s H fp) h3,λpi A s H fp=>S.e _ _ _ (I pi A s H fp) elt me h4]
  .cases h
 .cases h
omit S in
set_option tactic.hygienic true in
def b62{f:Expr}{jH:@&Keyword}(h:yx c f args jH=!m):PE X (.Call f args jH pos) (LE X.K Ξ (aY P m)):=by
 unfold yx at h;rcases args with _|⟨a,_|⟨_,_⟩⟩
 .cases h
 .dsimp only at h;split at h
  .rename_i hk;simp only[Bool.and_eq_true,decide_eq_true_eq] at hk;let#[#[#[#[#[hk,hf],lZ],hb],QV],Ro]:=hk;cases jH<;>first|(cases hk;done)|skip
   let#[q,hq,h]:=ai.mp h;let#[u,hu,h]:=ai.mp h;let#[v,hv,h]:=ai.mp h;split at h
   .rename_i hs;simp only[Bool.and_eq_true,decide_eq_true_eq] at hs;let#[x,hx,h]:=ai.mp h;let#[y,hy,h]:=ai.mp h;split at h
    .rename_i hw;simp only[Bool.and_eq_true] at hw;let#[#[#[nx,ny],vx],vy]:=hw;let#[i,hi,h]:=ai.mp h;let#[j,hj,rfl]:=ae.mp h;let#[x1,x2,_]:=J0 nx;let#[y1,y2,_]:=J0 ny;cases f<;>first|(cases hf;done)|skip
     cases hf;let#[p,pp,e1]:=L8 hu;let#[p',pp',e2]:=L8 hv;let#[u1,u2]:=u;let#[v1,v2]:=v;dsimp only at hs e1 e2 hx hy;let#[rfl,rfl]:=hs;let#[p1,rfl]:=Nk hx;let#[p2,rfl]:=Nk hy;let#[p3,rfl]:=VB hq;rw[e1,e2];exact bG2 C.mono C.calm (C.qf hi) (C.qf hj) (C.FC vx) (C.FC vy) x1 x2 y1 y2 (C.A5 lZ) (C.blt _ hb) (C.A5 QV) (C.blt _ Ro)
    .cases h
   .cases h
  .cases h
 .cases h
set_option tactic.hygienic true in
def Qd:∀e m,JJ r c e=!m->PE X e (LE X.K Ξ (aY P m)):=by
 intro e m h;cases e with
 |Name x p=>exact bL5 C h
 |Constant k j p =>
  let#[d,hd,rfl]:=ae.mp (show(Fh k).map ME.lit=some m from h);exact Ba hd
 |BinOp a op b p =>
  let#[ma,mb,ha,hb,rfl]:=uG S C h;exact Ga C.mono (JC (bL2 op) ha hb)
 |UnaryOp op a p=>exact b58 S C h
 |Compare a ops bs p=>exact(JA S C h).1
 |BoolOp op vs p=>exact Qe S C h
 |IfExp t a b p =>
  let#[mt,ht,h]:=ai.mp h;let#[ma,ha,h]:=ai.mp h;let#[mb,hb,rfl]:=ae.mp h;exact bG5 C.mono (S.t X c Ξ C _ _ ht) (S.e X c Ξ C _ _ ha) (S.e X c Ξ C _ _ hb)
 |Tuple es k p =>
  let#[ma,ha,rfl]:=ae.mp h;exact bG0 C.mono (tK S C ha)
 |List es p =>
  let#[ma,ha,rfl]:=ae.mp h;exact bG4 C.mono (tK S C ha)
 |Subscript a b p=>exact Yr S C h
 |Dict ks vs p =>
  let h2:(if ks.isEmpty&&vs.isEmpty then some (ME.prim .V9 .nil) else none)=!m:=h;split at h2
  .rename_i hc;cases ks<;>cases vs<;>first|(cases hc;done)|skip
   cases h2;exact UQ
  .cases h2
 |Attribute o f p =>
  let h2:(if xA o then c1 r c (.fld f) o else none)=!m:=h;split at h2
  .rename_i hb;let#[ma,ha,rfl]:=xw S C h2;exact bG7 C.mono ha (N1 hb)
  .cases h2
 |Call f args jH pos =>
  let h1:((AG r c f args jH).orElse λy=>(yx c f args jH).orElse λy=>FH r c f args jH pos)=!m:=h;rcases orElse_some h1 with h2|h2
  .unfold AG at h2;rcases args with _|⟨a,_|⟨_,_⟩⟩
   .cases h2
   .dsimp only at h2;split at h2
    .rename_i hk;simp only[Bool.and_eq_true,decide_eq_true_eq] at hk;let#[#[#[hk,hf],lZ],hb]:=hk;cases jH<;>first|(cases hk;done)|skip
     let#[q,hq,h3]:=ai.mp h2;let#[m1,h4,h5]:=ai.mp h3;cases f<;>first|(cases hf;done)|skip
     cases a<;>first|(cases hq;done)|skip
     cases hf;cases hq;let#[tg,it,ifs,t,mi,mc,me,cl,eg,rfl,hit,Sc,q1,q2,q3,q4]:=DS S C h4;dsimp only at eg;subst eg;cases h5;exact Xc C.mono Sc C.calm q1 q2 q3 q4 (zU hit) (C.A5 lZ) (C.blt _ hb)
    .cases h2
   .cases h2
  clear h h1;rcases orElse_some h2 with h3|h3
  .exact b62 C h3
  clear h2;unfold FH at h3;split at h3
  .rename_i hk;cases jH<;>first|(cases hk;done)|skip
   cases f with
   |Name x p=>exact Ue S C h3
   |Attribute o a p=>exact Ud S C h3
   |_=>cases h3
  .cases h3
 |Set es k p =>
  let h2:DB c es k=!m:=h;unfold DB at h2;split at h2
  .rename_i hc;rw[aU] at hc;obtain rfl:=bx hc.2;split at h2
   .cases h2;exact UW C.mono (C.code hc.1)
   .cases h2
  .cases h2
 |ListComp elt gens sc p =>
  let#[tg,it,ifs,t,mi,mc,me,cl,rfl,rfl,hit,Sc,q1,q2,q3,q4]:=DS S C h;exact(MK Sc C.calm q1 q2 q3 q4 (zU hit)).imp λZ H Q h=>Np C.mono Z H Q h
 |_=>cases h
set_option tactic.hygienic true in
def Qb:∀e m,stepT r c e=!m->PT X e (LT X.K Ξ (dY P m)):=by
 intro e m h;let plain:∀{e:Expr} {m:ME},(if EN e then(r.e c e).map ME.fC else none)=!m->PT X e (LT X.K Ξ (dY P m)):=λ{e m} h=>by
  split at h
  .rename_i hp;let#[ma,ha,rfl]:=ae.mp h;exact bD9 C.mono (S.e X c Ξ C _ _ ha) (a49 hp)
  .cases h
 cases e with
 |UnaryOp op a p =>
  let h2:(if op=.Not then(r.t c a).map ME.dQ else none)=!m:=h;split at h2
  .rename_i ho;subst ho;let#[ma,ha,rfl]:=ae.mp h2;exact bE2 C.mono (S.t X c Ξ C _ _ ha)
  .cases h2
 |BoolOp op vs p=>exact(Qa S C h).pt
 |Compare a ops bs p =>
  let#[ma,ha,rfl]:=ae.mp (show(yb r c a ops bs).map ME.fC=some m from h);exact(JA S C ha).2
 |_=>exact plain h
end
section
def aN5{e f:Option Expr}{q:Str×Expr×@&Expr}(h:Mf e f=!q):f=none/\∃p p',e=!.Call (.Name q.1 p) (q.2.1::q.2.2) [] p':=by
 cases f with
 |some _=>cases h
 |none =>
  let#[t,rfl,h]:=ai.mp (show e.bind _=some q from h);let#[z,hz,h]:=ai.mp h;let#[p,p',rfl]:=L8 hz;let#[x,as]:=z;cases as with
  |nil=>cases h
  |cons a as=>cases h;exact#[rfl,_,_,rfl]
def Mt(C:jo X c P Ξ){f:Str}:zm X.K f (c.zX f):=λy C' h hC=>by
 let#[#[f',y'],h1,h2]:=aL.mp h;let#[h3,h4]:=bt.mp h1;cases h2;have:f'=f:=by simpa using h4
 subst this;exact C.pT f' y' C' h3 hC
variable(S:qV P r)(C:jo X c P Ξ)
include S C
set_option tactic.hygienic true in
def Yq{tg:Expr}{m:MS}(hw:c.wr=true)(hS:∀e m,r.e c e=!m->B1 e=false->∃elt gens sc p,e=.ListComp elt gens sc p/\∃r',qV P r'/\sU r' c elt gens sc=!m)(hT:∀a b k p m,r.e c (.Tuple [a,b] k p)=!m->∃r' ms,qV P r'/\J9 r' c [a,b]=!ms/\m=.prim .tup ms)(h:Kn r c tg e=!m):PS X (.Assign [tg] e pos) (LS X.K Ξ (wpS P m)):=by
 cases tg with
 |Name x px =>
  let h2:(if c.B4 x then(c.idx x).bind λi=>(r.e c e).map λm=>MS.set i m else none)=!m:=h;split at h2
  .rename_i hl;let#[i,hi,h2]:=ai.mp h2;let#[me,he,rfl]:=ae.mp h2;cases hn:B1 e with
   |true=>exact Oz C.mono (Ow (C.tJ hw) (C.qf hi) (C.B4 hl).1 (S.e X c Ξ C _ _ he) (X3 hn) (C.B4 hl).2)
   |false =>
    let#[elt,gens,sc,p,rfl,r',S',hx]:=hS e me he hn;let#[tg,it,ifs,t,mi,mc,me,cl,rfl,rfl,hit,Sc,q1,q2,q3,q4]:=DS S' C hx;refine Oz C.mono ?_;exact(aM6 Sc C.calm q1 q2 q3 q4 (zU hit) (C.tJ hw) (C.qf hi) (C.B4 hl).1 (C.B4 hl).2).imp λN Z H h=>Np C.mono Z H _ h
  .cases h2
 |Tuple es k pt =>
  let h0:((FL es).elim (if uE e&&B1 e then(c.slots es).bind λis=>(r.e c e).map λm=>MS.nE (.many is) m else none) λq=>if B1 e&&hX q.2.1&&hX q.2.2.2 then(r.e c q.1).bind λm1=>(r.e c q.2.1).bind λn1=>(r.e c q.2.2.1).bind λm2=>(r.e c q.2.2.2).bind λn2=>(r.e c e).map λm=>MS.yC m1 n1 m2 n2 m else none)=!m:=h;cases hq:FL es with
  |some q =>
   rw[hq] at h0;dsimp only[Option.elim] at h0;split at h0
   .cases hq
   .cases h0
  |none =>
  rw[hq] at h0;let h2:(if uE e&&B1 e then(c.slots es).bind λis=>(r.e c e).map λm=>MS.nE (.many is) m else none)=!m:=h0;split at h2
  .rename_i hn;rw[aU] at hn;let#[is,hs,h2]:=ai.mp h2;let#[me,he,rfl]:=ae.mp h2;exact bD4 C.mono (Ov (S.e X c Ξ C _ _ he) (MZ C.calm (C.tJ hw) (C.slots hs)) (LK hn.2) (Wm hn.1))
  .cases h2
 |Subscript o i pt =>
  rcases orElse_some (show((FJ r c o i e).orElse λz=>_)=some m from h) with h|h
  .unfold FJ at h;split at h
   .rename_i hn;let#[q,hq,h]:=ai.mp h;let#[mo,ho,h]:=ai.mp h;let#[me,he,rfl]:=ae.mp h;let#[x,y,k,p,rfl,hA]:=ET S C hq;exact Vo C.mono C.units hA (S.e X c Ξ C _ _ ho) (S.e X c Ξ C _ _ he) (X3 hn)
   .cases h
  let h2:(if hX i&&B1 e then(r.e c o).bind λmo=>(r.e c i).bind λmi=>(r.e c e).map λm=>MS.fe mo mi m else none)=!m:=h;split at h2
  .rename_i hn;rw[aU] at hn;let#[mo,ho,h2]:=ai.mp h2;let#[mi,hi,h2]:=ai.mp h2;let#[me,he,rfl]:=ae.mp h2;exact Xp C.mono C.units (S.e X c Ξ C _ _ he) (S.e X c Ξ C _ _ ho) (S.e X c Ξ C _ _ hi) (LK hn.2) (Ui hn.1)
  .cases h2
 |Attribute o f pt =>
  let#[mo,ho,h]:=ai.mp h;let#[me,he,rfl]:=ae.mp h;exact Vn C.mono (Mt C) (S.e X c Ξ C _ _ ho) (S.e X c Ξ C _ _ he) (by cases e<;>rfl)
 |_=>cases h
set_option tactic.hygienic true in
def Qc(hw:c.wr=true)(hS:∀e m,r.e c e=!m->B1 e=false->∃elt gens sc p,e=.ListComp elt gens sc p/\∃r',qV P r'/\sU r' c elt gens sc=!m)(hT:∀a b k p m,r.e c (.Tuple [a,b] k p)=!m->∃r' ms,qV P r'/\J9 r' c [a,b]=!ms/\m=.prim .tup ms) :
  ∀st m,JK r c st=!m->PS X st (LS X.K Ξ (wpS P m)):=by
 intro st m h;let hP:=C.mono;cases st with
 |AugAssign tg op e p =>
  cases tg with
  |Attribute o f tp =>
   let h2:(if decide (op=Operator.Add) then(r.e c o).bind λmo=>(r.e c e).map λm=>MS.lD f (c.zX f) mo m else none)=!m:=h;split at h2
   .rename_i ho;obtain rfl:=bx ho;let#[mo,ho,h2]:=ai.mp h2;let#[me,he,rfl]:=ae.mp h2;exact Vk C.mono (Mt C) (S.e X c Ξ C _ _ ho) (S.e X c Ξ C _ _ he)
   .cases h2
  |Name x tp =>
   let h2:(if c.B4 x then(Jl op).bind λp=>(c.idx x).bind λi=>(r.e c e).map λm=>MS.lC i p m else none)=!m:=h;split at h2
   .rename_i hl;let#[p,hp,h2]:=ai.mp h2;let#[i,hi,h2]:=ai.mp h2;let#[me,he,rfl]:=ae.mp h2;refine Vl C.mono ?_ (C.tJ hw) (C.qf hi) (C.B4 hl).1 (C.B4 hl).2 (S.e X c Ξ C _ _ he);cases op<;>first|(cases hp;done)|skip
    .cases hp;exact .inl #[rfl,rfl]
    .cases hp;exact .inr #[rfl,rfl]
   .cases h2
  |_=>cases h
 |Expr e p =>
  let h2:(if B1 e then(r.e c e).map MS.expr else none)=!m:=h;split at h2
  .rename_i hn;let#[me,he,rfl]:=ae.mp h2;exact Vm hP (S.e X c Ξ C _ _ he) (X3 hn)
  .cases h2
 |Assign AL e p =>
  rcases AL with _|⟨tg,_|⟨_,_⟩⟩
  .cases h
  .exact Yq S C hw hS hT h
  .cases h
 |If t a b p =>
  let#[mt,ht,h]:=ai.mp h;let#[ma,ha,h]:=ai.mp h;let#[mb,hb,rfl]:=ae.mp h;exact YZ hP (S.t X c Ξ C _ _ ht) (xW S C hw ha) (xW S C hw hb)
 |For tg it body pX p =>
  let h2:(if c.oC&&(pX.isEmpty&&hX it) then(c.tg tg).bind λt=>(Ad r c tg it).bind λmi=>(C5 r c body).map λmb=>MS.eL t mi mb else none)=!m:=h;split at h2
  .rename_i hc;rw[aU,aU] at hc;cases pX<;>first|(cases hc.2.1;done)|skip
   let#[t,h1,h2]:=ai.mp h2;let#[mi,h3,h2]:=ai.mp h2;let#[mb,h4,rfl]:=ae.mp h2;exact bD6 hP (C.own hc.1) C.calm (Hw S C h3) (C.Kt hw h1) (xW S C hw h4) (zU hc.2.2)
  .cases h2
 |While t body pX p =>
  let h2:(if c.oC&&pX.isEmpty then(r.t c t).bind λmt=>(C5 r c body).map λmb=>MS.kU mt mb else none)=!m:=h;split at h2
  .rename_i hc;rw[aU] at hc;cases pX<;>first|(cases hc.2;done)|skip
   let#[mt,h1,h2]:=ai.mp h2;let#[mb,h4,rfl]:=ae.mp h2;exact Xq hP (C.own hc.1) (S.t X c Ξ C _ _ h1) (xW S C hw h4)
  .cases h2
 |Return e p =>
  cases e with
  |none=>cases h;exact(UC (X:=X)).imp (by rintro N bU H ⟨Z,g,ρ,s,R,h⟩;exact LQ.now h R .bg)
  |some e =>
   let#[me,he,rfl]:=ae.mp (show(r.e c e).map (λm=>MS.ret (toR c e m))=some m from h);refine bD5 hP ?_;exact S.e X c Ξ C _ _ he
 |Raise e f p =>
  let#[q,hq,h2]:=ai.mp h;clear h;let#[rfl,px,p2,rfl]:=aN5 hq;let#[x,e,es]:=q;dsimp only at h2 ⊢;split at h2
  .rename_i hc;simp only[Bool.and_eq_true] at hc;let#[ma,ha,rfl]:=ae.mp h2;let ok:=Ed ha;let#[C',hm,hi,B,nI,iI,bm,O,FB]:=C.exc x hc.1.1.2;exact Xo hP C.calm O FB (C.A5 hc.1.2) (tK S C ha) (C.mX hc.1.1.1) (by rw[C.IS];simpa using hc.1.1.2) hi (p8 (ok e #[_])) (V0 λz hz=>ok z (by simp[hz])) (J0 hc.2).1
  .cases h2
 |Pass p=>cases h;exact(UB (X:=X)).imp (by rintro N bU H ⟨Z,g,ρ,s,R,h⟩;exact h ρ H bU (.refl _ _) R s)
 |_=>cases h
end
def aN2(h:(comp (n+1)).e c e=!m)(hn:B1 e=false):∃elt gens sc p,e=.ListComp elt gens sc p/\sU (comp n) c elt gens sc=!m:=by
 cases e<;>first|(cases hn;done)|(cases h;done)|exact#[_,_,_,_,rfl,h]
def snd:∀n,(∀k,k<=n->qV P (comp k)):=by
 intro n
 induction n with
 |zero =>
  intro k hk;obtain rfl:=Nat.le_zero.mp hk;exact#[λx x x x x x h=>(by cases h),λx x x x x x h=>(by cases h),λx x x x x x x h=>(by cases h)]
 |succ n ih =>
  intro k hk;rcases gI k (n+1) with dI|hge
  .grind
  obtain rfl:k=n+1:=by omega
  let I:=ih n (aw n);refine#[λX c Ξ C e m h=>Qd I C e m h,λX c Ξ C e m h=>Qb I C e m h,λX c Ξ C hw st m h=>?_];rcases orElse_some h with h|h
  rotate_left
  .cases h;exact λpi s Z H D I q=>by let#[_,_,_,_,_,z]:=q;exact(show False from z).elim
  refine Qc I C hw (λe m he hn=>?_) (λa b k p m he=>?_) st m h
  .cases n with
   |zero=>cases he
   |succ n =>
    let#[elt,gens,sc,p,rfl,hx]:=aN2 he hn;exact#[_,_,_,_,rfl,comp n,ih n (),hx]
  .cases n with
   |zero=>cases he
   |succ n =>
    let#[ms,hm,rfl]:=ae.mp (show(J9 (comp n) c [a,b]).map (ME.prim .tup)=some m from he);exact#[comp n,ms,ih n (),hm,rfl]
structure qj where
 nm:Str
 qn:Str
 N:@&Str
 ps:@&Str
 st:Stmt
abbrev i3.at(c:i3)(d:qj):i3:={ c with N:=d.N,nm:=(u3 d.st).names,oC:=true,mX:=true,pA:=true,wr:=true }
structure km(K:PySem.W.Frag)(c:i3)(d:qj)(m:aV)(f:Addr)(fd:FuncData):Prop where
 fn:qW K d.nm d.qn d.st f fd
 bi:Binds K fd d.ps []
 sc:jw d.N d.ps (u3 d.st)
 co:C5 (comp 60) (c.at d) (u4 d.st)=!m.body
 ar:m.ar=-d.ps
 nn:m.n=-d.N
structure oH(w:World)(K:PySem.W.Frag)(mg:Str->Option Value)(c:i3)(T:Nat->Option aV):Prop where
 fns:∀x i,c.fns.lookup x=!i->∃d m f fd,T i=!m/\km K c d m f fd/\mg x=!.ref f
 cls:∀x i,c.cls.lookup x=!i->∃C d m f fd,T i=!m/\km K c d m f fd/\mg x=!.ref C/\x5 K x C/\jQ K C/\Mk K C f
 pE:∀x y i C,(x,y,i)∈c.pE->x5 K y C->∃d m f fd,T i=!m/\km K c d m f fd/\Meth K C x f
 pT:∀f y C,(f,y)∈c.pT->x5 K y C->B3 K C f
 con:∀x d,c.con.lookup x=!d->∃v u,mg x=!u/\RelV v u/\∀ρ H,d5 K ρ H d v
 blt:∀x,c.blt.contains x=true->mg x=none
 CM:∀x,c.exc.contains x=true->∃C,mg x=!.ref C/\x5 K x C/\∀base:Heap,K.In base->base.Ns mainGlobals mg->∃B newId ik bm,OwnCls x C bm newId mg base/\ExcBaseFacts B newId ik bm
 CL:∀x y C C',c.exc.contains x=true->c.exc.contains y=true->x5 K x C->x5 K y C'->PySem.W.exmOne K (.ref C) (.ref C')=!decide (x=y\/y="MintError")
 sr:∀x kvs,c.gd.lookup x=!kvs->∃A vs,mg x=!.ref A/\xk K w.params A vs/\qQ K kvs vs
section
variable{Pg:Program}{w:World}{K:PySem.W.Frag}{mg:Str->Option Value}{base:Heap}{T:Nat->Option aV}
set_option tactic.hygienic true in
def ZW{q:Str}(h:PySem.W.codeIn K cd q=true):PySem.W.kdsCode K cd=true:=by
 unfold PySem.W.codeIn at h;unfold PySem.W.kdsCode;split at h
 .dsimp only;split at h
  .rename_i e;rw[e]
  .cases h
 .cases h
def Uq:Passes (iQ Pg w) (qd (iQ Pg w) Pg w K mg base N qual scope f cd A outer s H E) E:=λpi Z H1 s1 e s' I h=>by
 let#[C,H',J,fl,hE]:=I.flew h;exact aI4 J fl (λb o q=>I.base.there b o q (by intro z;cases z)) rfl rfl rfl hE
def WR:zB (qd (iQ Pg w) Pg w K mg base N qual scope f cd A outer s H E) E:=λpi Z H1 s1 h' ea C vs I hm hE =>
 aX9 I hm rfl rfl rfl hE
def Tx:JU (qd (iQ Pg w) Pg w K mg base N qual scope f cd A outer s H E) E:=λpi Z H1 H2 s1 s2 B ea C a0 I l hh hE =>
 leave_held I l hh rfl rfl rfl hE
def DI{k:Nat}{m:aV}(hT:T i=!m){ds:@&D}{g:G}{Q:KD}{E:KX}(h:b0 T k i ds g Q E):-ds=m.ar:=by
 cases k with
 |zero=>exact h.elim
 |succ k =>
  let#[m',e,h,_]:=h
  simp_all
def Zu(oi:K.In base)(wQ:base.Ns mainGlobals mg)(A:oH w K mg c T):∀(k i:Nat) d m f fd,T i=!m->km K c d m f fd->iu Pg w K mg base (iQ Pg w) (2*k) f fd d.ps (qq c.exc K (-d.ps) (b0 T k i)):=by
 intro k
 induction k with
 |zero =>
  intro i d m f fd hm O;refine#[λvs H Q E h=>h.1,λA outer s H args us vs Q E v v v v h=>?_];let#[_,_,_,_,_,_,q]:=h;exact q.elim
 |succ k ih =>
  intro i d m f fd hm O;let#[oc,od,kV,doc,pm,an,gs,ct,nH,rfl,lk,nk]:=O.fn.ex;refine XR (k:=2*k+1) lk nk O.sc (λvs H Q E h=>h.1) (λA0 outer s H vs Q E hr h=>?_);let#[hl,xs,g,ρ,rs,R,q]:=h;let C:jo (qd (iQ Pg w) Pg w K mg base d.N d.qn (u3 d.st) f gs A0 outer s H E) (c.at d) (b0 T k) (c.exc,E):=by
   refine#[rfl,O.sc.nd,λx h=>h,λx h=>h,λx h=>.inr h,λx h=>h,λx h=>?_,λv v=>rfl,rfl,?_,(λv=>PassesOwn.leaving),a8 T k,A.con,A.blt,λx j hj=>?_,λx j hj=>?_,λx y j C' hj hC=>?_,A.pT,rfl,Uq,λv=>WR,λv=>#[rfl,rfl,Tx],λx hx=>?_,A.CL,A.sr,λv=>ZW nk,λv=>rfl]
   .rcases h with h|h
    .exact Ec h
    .exact absurd rfl (O.sc.nX _ (aS h))
   .have:=hr.un;show(A0.deeper _).units+100<cLine;omega
   .let#[d',m',f',qL,hT,O',hmg]:=A.fns x j hj;exact#[2*k,f',qL,d'.ps,#[ih j d' m' f' qL hT O',O'.bi,λJc g' Q' E' h'=>(DI hT h').trans O'.ar],hr.mono (),hmg,O'.fn.kp]
   .let#[C',d',m',f',qL,hT,O',hmg,hC,kh,M]:=A.cls x j hj;exact#[2*k,C',f',qL,d'.ps,#[ih j d' m' f' qL hT O',O'.bi,λJc g' Q' E' h'=>(DI hT h').trans O'.ar],hr,hmg,hC,kh,M]
   .let#[d',m',f',qL,hT,O',M]:=A.pE x y j C' hj hC;exact#[2*k,f',qL,d'.ps,M,#[ih j d' m' f' qL hT O',O'.bi,λJc g' Q' E' h'=>(DI hT h').trans O'.ar],hr.mono ()]
   .let#[C,h1,h2,h3]:=A.CM x hx;exact#[C,h1,h2,h3 base oi wQ]
  refine#[_,xW (snd (P:=b0 T k) 60 60 (aw _)) C rfl O.co,?_];let#[m',e,q1,q]:=q;rw[hm] at e;cases e;refine#[c8 m xs,g,ρ,?_,R,wpS_mono (a8 T k) m.body #[λv g'=>LQ K ρ H Q .bg g',LQ K ρ H Q,λv v=>False,λv v=>False] _ _ _ _ _ #[λZ g' h cw H' dz e R' s'=>h cw H' _ e R' .bg,λd g' h=>h,λv v h=>h.elim,λv v h=>h.elim] (λv v z=>z) q];have:=u5.start (n:=-d.N) rs;unfold c8 L2.start;rw[O.nn];exact this
def bM9{L k0:Nat}{a:Addr}{ns:@&Int}(hO:Am H)(hS:fZ K H a (ns.map V.int))(h:b0 T k0 L [.ref 0] [.pS (ns.map .int)] (λd x=>d=.bl true) jZ) :
  qq exc K 1 (b0 T k0 L) [.ref a] H (λv x=>v=.bl true) λx x x=>False:=by
 refine#[rfl,[.ref 0],[.pS (ns.map .int)],[a],.cons (.ref rfl) .nil,#[rfl,λi o b h1 h2=>?_,λi j l m b h1 h2 m1=>?_],a8 T k0 _ _ _ _ _ _ _ (λd g' e cw H' v x x r=>?_) (λx x z=>z.elim) h]
 .cases i with
  |zero =>
   cases h1;cases h2;refine#[_,?_,c7.ofInts ns];rcases hS with(z|⟨o,z⟩)|z
   .rcases hO a with q|⟨o,xs,q⟩
    .simp_all
    simp_all
   .exact .inl #[o,z]
   .exact .inr z
  |succ i=>simp at h1
 .cases i with
  |zero=>cases h1;cases m1
  |succ i=>simp at h1
 .subst e;cases r
  rfl
end
end M
namespace M
open PySem L2
variable{P:fK}{g:G}{Q:KD}{E:KX}{N:Ends}{a i n:Nat}{b:Bool}{c f:Str}{o cond elt:ME}{x y d v:D}{cs:@&Str}{j:Int}{l:@&D}{A B:Prop}{kvs:@&(Key×D)}{k e:Key}{kg:G->Prop}{ns:@&Int}{d4:@&Nat}{R:IK->G->Prop}
section
variable{Z:S}{a b c:ME}{x y:MS}{p:Pr}
def G0(h:N.nx Z g):wpS P .pass N Z g E:=h
def uF(h:wpS P x #[λjt g1=>wpS P y N jt g1 E,N.rt,N.bk,N.ct] Z g E):wpS P (.seq x y) N Z g E:=h
def xG(h:wpS P x N Z g E):wpS P (.seq x .pass) N Z g E:=h
def bB6(h:aY P a Z g (λx g1=>N.nx Z g1) E):wpS P (.expr a) N Z g E:=h
def Ak(h:aY P a Z g (λx g1=>N.nx (Z.set i (!x)) g1) E):wpS P (.set i a) N Z g E:=h
def Zn{t:MT}(h:aY P a Z g (λx g1=>kK t x Z λjt=>N.nx jt g1) E):wpS P (.nE t a) N Z g E:=h
def Nb{i:ME}(h:aY P a Z g (λx g1=>aY P o Z g1 (λy g2=>aY P i Z g2 (λz g3=>Y5 y z x g3 λg4=>N.nx Z g4) E) E) E):wpS P (.fe o i a) N Z g E:=h
def bB2(h:aY P a Z g (λx g1=>aY P o Z g1 (λy g2=>xq f cs y x g2 λg3=>N.nx Z g3) E) E):wpS P (.fJ f cs o a) N Z g E:=h
def OB(h:aY P o Z g (λy g1=>∃a' c fs x,y=.ref a'/\g1[a']?=!.ins c fs/\c∈cs/\fs.lookup f=!x/\aY P a Z g1 (λz g3=>cN .iadd [x,z] g3 λw g4=>∃jP,g4[a']?=!.ins c jP/\-jP<100/\N.nx Z (g4.set a' (.ins c (i7 f w jP)))) E) E):wpS P (.lD f cs o a) N Z g E:=h
def FD(h:dY P c Z g (λt g1=>if t=true then wpS P x N Z g1 E else wpS P y N Z g1 E) E):wpS P (.ifs c x y) N Z g E:=h
def FE(h:aY P a Z g N.rt E):wpS P (.ret a) N Z g E:=h
def Vt{x:Str}(h:fN P a Z g (λvs g1=>-vs<=1000/\E #[x] g1) E):wpS P (.raise x a) N Z g E:=h
def w_var(e:Z[i]?=!!d)(h:Q d g):aY P (.var i) Z g Q E:=by exact#[d,e,h]
def w_lit(h:Q d g):aY P (.lit d) Z g Q E:=h
def bB3(h:fN P a Z g (λxs g1=>cN p xs g1 Q) E):aY P (.prim p a) Z g Q E:=h
def Kv(h:cN p [] g Q):aY P (.prim p .nil) Z g Q E:=by exact h
def xZ(h:aY P a Z g (λx g1=>cN p [x] g1 Q) E):aY P (.prim p (.cons a .nil)) Z g Q E:=by exact h
def ya(h:aY P a Z g (λx g1=>aY P b Z g1 (λy g2=>cN p [x,y] g2 Q) E) E):aY P (.prim p (.cons a (.cons b .nil))) Z g Q E:=by exact h
def Vr{o1 o2:CmpOp}(h:aY P a Z g (λx g1=>aY P b Z g1 (λy g2=>cN (.cmp o1) [x,y] g2 λz g3=>∃t,z=.bl t/\if t=true then aY P c Z g3 (λw g4=>cN (.cmp o2) [y,w] g4 Q) E else Q (.bl false) g3) E) E):aY P (.chain o1 o2 a b c) Z g Q E:=h
def w_and(h:aY P a Z g (λx g1=>∃t,x=.bl t/\if t=true then aY P b Z g1 Q E else Q (.bl false) g1) E):aY P (.dF a b) Z g Q E:=h
def w_or(h:aY P a Z g (λx g1=>∃t,x=.bl t/\if t=true then Q (.bl true) g1 else aY P b Z g1 Q E) E):aY P (.ke a b) Z g Q E:=h
def w_not(h:aY P a Z g (λx g1=>∃t,x=.bl t/\Q (.bl (~~~t)) g1) E):aY P (.dQ a) Z g Q E:=h
def w_ite(h:dY P c Z g (λt g1=>if t=true then aY P a Z g1 Q E else aY P b Z g1 Q E) E):aY P (.ite c a b) Z g Q E:=h
def zz{f:Nat}(h:fN P a Z g (λxs g1=>P f xs g1 Q E) E):aY P (.call f a) Z g Q E:=h
def OD{f:Nat}{c:Str}(h:fN P a Z g (λxs g1=>P f (.ref (-g1)::xs) (g1++[.ins c []]) (λd g2=>d=.bg/\Q (.ref (-g1)) g2) E) E):aY P (.make c f a) Z g Q E:=h
def Vs{m:Str}{cs:@&(Str×Nat)}(h:aY P o Z g (λx g1=>∃a' c fs f,x=.ref a'/\g1[a']?=!.ins c fs/\fs.lookup m=none/\cs.lookup c=!f/\fN P a Z g1 (λxs g2=>P f (x::xs) g2 Q E) E) E):aY P (.cT m cs o a) Z g Q E:=h
def bB5(h:aY P o Z g (λx g1=>mY p x g1/\fN P a Z g1 (λxs g2=>cN p (x::xs) g2 Q) E) E):aY P (.eW p o a) Z g Q E:=h
def Aj{Q:@&D->G->Prop}(h:Q [] g):fN P .nil Z g Q E:=h
def U8{Q:@&D->G->Prop}(h:aY P a Z g (λx g1=>fN P b Z g1 (λxs g2=>Q (x::xs) g2) E) E):fN P (.cons a b) Z g Q E:=h
def bB1{Q:Bool->G->Prop}(h:dY P a Z g (λt g1=>if t=true then dY P b Z g1 Q E else Q false g1) E):dY P (.dF a b) Z g Q E:=h
def Zm{Q:Bool->G->Prop}(h:dY P a Z g (λt g1=>if t=true then Q true g1 else dY P b Z g1 Q E) E):dY P (.ke a b) Z g Q E:=h
def bB0{Q:Bool->G->Prop}(h:dY P a Z g (λt g1=>Q (~~~t) g1) E):dY P (.dQ a) Z g Q E:=h
def xu{Q:Bool->G->Prop}(h:Q true g):dY P .no Z g Q E:=h
def FF{Q:Bool->G->Prop}(h:aY P a Z g (λx g1=>qT g1 x λb=>Q b g1) E):dY P (.fC a) Z g Q E:=h
end
section
variable{i:Int}{kb:Bool->Prop}{t s:Bool}{m:@&D}
def b15(h:Q (.int (i+j)) g):cN (.bin .Add) [.int i,.int j] g Q:=#[_,_,.inl #[i,j,_,rfl,rfl,rfl,rfl],h]
def b14(h:Q (.int (i-j)) g):cN (.bin .Sub) [.int i,.int j] g Q:=#[_,_,.inl #[i,j,_,rfl,rfl,rfl,rfl],h]
def U0(c:sI i j)(h:Q (.int (i*j)) g):cN (.bin .Mult) [.int i,.int j] g Q:=#[_,_,.inl #[i,j,_,rfl,#[c,rfl],rfl,rfl],h]
def Y4(c:0<j)(h:Q (.int (i % j)) g):cN (.bin .Mod) [.int i,.int j] g Q:=#[_,_,.inl #[i,j,_,rfl,#[c,rfl],rfl,rfl],h]
def Ab(c:Dg i j)(h:Q (.int (i / j)) g):cN (.bin .FloorDiv) [.int i,.int j] g Q:=#[_,_,.inl #[i,j,_,rfl,#[c,rfl],rfl,rfl],h]
def Zt(h1:0<j)(h2:j<1073741824)(h:Q (.int (i / j)) g):cN (.bin .FloorDiv) [.int i,.int j] g Q:=Ab #[h1,h2] h
def Gn(c:pY i j)(h:Q (.int (i ^ j.toNat)) g):cN (.bin .Pow) [.int i,.int j] g Q:=#[_,_,.inl #[i,j,_,rfl,#[c,rfl],rfl,rfl],h]
def Gx(hl:-l+-m<=100000)(h:Q (.tup (l++m)) g):cN (.bin .Add) [.tup l,.tup m] g Q:=#[_,_,.inr (.inl #[rfl,.inl #[l,m,rfl,hl,rfl,rfl]]),h]
def Gw{i j:Nat}(hi:g[i]?=!.lst l)(hj:g[j]?=!.lst m)(hl:-l+-m<=100000)(h:Q (.ref (-g)) (g++[.lst (l++m)])):cN (.bin .Add) [.ref i,.ref j] g Q:=#[_,_,.inr (.inl #[rfl,.inr (.inl #[i,j,l,m,rfl,hi,hj,hl,rfl,rfl])]),h]
def Jm{i:Nat}{n:Int}(hi:g[i]?=!.lst l)(h1:-(2 ^ 62)<=n)(h2:n<2 ^ 62)(hl:-l*n.toNat<=100000)(h:Q (.ref (-g)) (g++[.lst (List.replicate n.toNat l).flatten])):cN (.bin .Mult) [.ref i,.int n] g Q:=#[_,_,.inr (.inr #[rfl,.inl #[i,l,n,rfl,hi,h1,h2,hl,rfl,rfl]]),h]
def ZC{n:Int}(dD:l≠[])(h1:1<=n)(h2:n<2 ^ 62)(hl:-l*n.toNat<=100000)(h:Q (.tup (List.replicate n.toNat l).flatten) g):cN (.bin .Mult) [.tup l,.int n] g Q:=#[_,_,.inr (.inr #[rfl,.inr #[l,n,rfl,dD,h1,h2,hl,rfl,rfl]]),h]
def oZ{op:CmpOp}(hb:Kc g x y b op)(h:Q (.bl b) g):cN (.cmp op) [x,y] g Q:=#[_,_,#[x,y,b,rfl,hb,rfl,rfl],h]
def b78(h:Q (.bl (decide (i<j))) g):cN (.cmp .Lt) [.int i,.int j] g Q:=oZ #[i,j,rfl,rfl,rfl] h
def b79(h:Q (.bl (decide (i<=j))) g):cN (.cmp .LtE) [.int i,.int j] g Q:=oZ #[i,j,rfl,rfl,rfl] h
def b80(h:Q (.bl (decide (j<i))) g):cN (.cmp .Gt) [.int i,.int j] g Q:=oZ #[i,j,rfl,rfl,rfl] h
def b81(h:Q (.bl (decide (j<=i))) g):cN (.cmp .GtE) [.int i,.int j] g Q:=oZ #[i,j,rfl,rfl,rfl] h
def An(h:sy g x y λb=>Q (.bl b) g):cN (.cmp .Eq) [x,y] g Q:=let ⟨_,hb,h⟩:=h;oZ hb h
def zW(h:sy g x y λb=>Q (.bl (~~~b)) g):cN (.cmp .NotEq) [x,y] g Q:=let ⟨b,hb,h⟩:=h;oZ (b:= ~~~b) (show wW g x y (~~~(~~~b)) from by simp_all) h
def oY(h:pG g x y λb=>Q (.bl b) g):cN (.cmp .In) [x,y] g Q:=let ⟨_,hb,h⟩:=h;oZ (.inl hb) h
def b09{S:Int->Bool}(hg:g[a]?=!.set S n)(h:Q (.bl (S i)) g):cN (.cmp .In) [.int i,.ref a] g Q:=oZ (.inr #[a,S,n,i,rfl,hg,rfl,rfl]) h
def T8(h:pG g x y λb=>Q (.bl (~~~b)) g):cN (.cmp .NotIn) [x,y] g Q:=let ⟨b,hb,h⟩:=h;oZ (b:= ~~~b) (.inl (show inR g x y (~~~(~~~b)) from by simp_all)) h
def JD(h:kb (decide (i=j))):sy g (.int i) (.int j) kb:=#[_,.inl #[i,j,rfl,rfl,rfl],h]
def Km(h:kb (t==s)):sy g (.bl t) (.bl s) kb:=#[_,.inr (.inl #[t,s,rfl,rfl,rfl]),h]
def JE{x y:Str}(h:kb (decide (x=y))):sy g (.str x) (.str y) kb:=#[_,.inr (.inr (.inl #[x,y,rfl,rfl,rfl])),h]
def b11(h:Q (.bl (decide (i=j))) g):cN (.cmp .Eq) [.int i,.int j] g Q:=An (JD h)
def Jn(h:Q (.bl (~~~decide (i=j))) g):cN (.cmp .NotEq) [.int i,.int j] g Q:=zW (JD h)
def b12(h:Q (.bl (t==s)) g):cN (.cmp .Eq) [.bl t,.bl s] g Q:=An (Km h)
def b02(h:Q (.bl (~~~(t==s))) g):cN (.cmp .NotEq) [.bl t,.bl s] g Q:=zW (Km h)
def b10{p q:Str}(h:Q (.bl (decide (p=q))) g):cN (.cmp .Eq) [.str p,.str q] g Q:=An (JE h)
def b01{p q:Str}(h:Q (.bl (~~~decide (p=q))) g):cN (.cmp .NotEq) [.str p,.str q] g Q:=zW (JE h)
def sN(h:Q (.bl (T7 d)) g):cN (.cmp .Is) [d,.bg] g Q:=oZ #[rfl,rfl] h
def b08(h:Q (.bl true) g):cN (.cmp .Is) [.bg,.bg] g Q:=sN h
def b06(h:Q (.bl false) g):cN (.cmp .Is) [.int i,.bg] g Q:=sN h
def b07(h:Q (.bl false) g):cN (.cmp .Is) [.bl t,.bg] g Q:=sN h
def b04{x:Str}(h:Q (.bl false) g):cN (.cmp .Is) [.str x,.bg] g Q:=sN h
def b03(h:Q (.bl false) g):cN (.cmp .Is) [.tup l,.bg] g Q:=sN h
def b05(h:Q (.bl false) g):cN (.cmp .Is) [.ref n,.bg] g Q:=sN h
def b22(h:kb t):qT g (.bl t) kb:=#[t,.inr (.inl rfl),h]
def Zg(h:kb (i != 0)):qT g (.int i) kb:=#[_,.inr (.inr (.inl #[i,rfl,rfl])),h]
def DH{p:Bool->Prop}(h:p t):∃s,D.bl t=D.bl s/\p s:=#[t,rfl,h]
def ZR{p:Int->Prop}(h:p i):∃s,D.int i=D.int s/\p s:=#[i,rfl,h]
def if2{c:Prop}[Decidable c](h1:c->A)(h2:¬c->B):if decide c=true then A else B:=by
 simp_all
def lW(h:A):if true=true then A else B:=by rw[ay rfl];exact h
def Z7(h:B):if false=true then A else B:=by rw[az ∅];exact h
def Kh(h:A):if(~~~false)=true then A else B:=by exact h
def b70(h:B):if(~~~true)=true then A else B:=by rw[az ∅];exact h
def fF(hb:b=false)(h:B):if b=true then A else B:=by rw[hb];exact Z7 h
def fV(hb:b=true)(h:A):if b=true then A else B:=by rw[hb];exact lW h
def q9(hl:c9 g a=!l)(h2:ia l i=!d)(h:Q d g):cN .ix [.ref a,.int i] g Q:=#[_,_,#[rfl,.inl #[_,l,i,rfl,hl,h2]],h]
def x8(h2:ia l i=!d)(h:Q d g):cN .ix [.tup l,.int i] g Q:=#[_,_,#[rfl,.inl #[_,l,i,rfl,rfl,h2]],h]
def xT{i:Nat}(hg:g[i]?=!.fb kvs)(hk:C4 y=!k)(hv:v8 kvs k=!v)(h:Q v g):cN .ix [.ref i,y] g Q:=#[_,_,#[rfl,.inr (.inl #[i,kvs,y,k,rfl,hg,hk,hv])],h]
def W9(hl:g[a]?=!.lst l)(hn:mx (-l) i=!n)(h:kg (g.set a (.lst (l.set n v)))):Y5 (.ref a) (.int i) v g kg:=#[_,.inl #[a,i,l,n,rfl,rfl,hl,hn,rfl],h]
def JH{i:Nat}(hg:g[i]?=!.fb kvs)(hk:C4 y=!k)(hl:-kvs<100000)(h:kg (g.set i (.fb (putD kvs k v)))):Y5 (.ref i) y v g kg:=#[_,.inr #[i,kvs,k,rfl,hg,hk,hl,rfl],h]
def C6{fs:@&(Str×D)}(hg:g[a]?=!.ins c fs)(hc:c∈cs)(hl:-fs<100)(h:kg (g.set a (.ins c (i7 f v fs)))):xq f cs (.ref a) v g kg:=#[_,#[a,c,fs,rfl,hg,hc,hl,rfl],h]
def w5{fs:@&(Str×D)}(hg:g[a]?=!.ins c fs)(hf:fs.lookup f=!d)(h:Q d g):cN (.fld f) [.ref a] g Q:=#[_,_,#[a,c,fs,rfl,hg,hf,rfl],h]
def a7(h:g[a]?=!.lst l):c9 g a=!l:=by simp only[c9,h,FU]
def a82(h:g[a]?=!.pS l):c9 g a=!l:=by simp only[c9,h,FU]
def O3(hl:c9 g a=!l)(h:Q (.int (-l)) g):cN .len [.ref a] g Q:=#[_,_,#[rfl,.inl #[_,l,rfl,hl,rfl]],h]
def Yj(h:Q (.int (-l)) g):cN .len [.tup l] g Q:=#[_,_,#[rfl,.inl #[_,l,rfl,rfl,rfl]],h]
def bF0(h:Q (.tup (cut l (!i) none)) g):cN (.ku true false) [.tup l,.int i] g Q:=#[_,_,#[_,i,rfl,.inl #[l,rfl,rfl,rfl]],h]
def bF2(h:Q (.tup (cut l none (!i))) g):cN (.ku false true) [.tup l,.int i] g Q:=#[_,_,#[_,i,rfl,.inl #[l,rfl,rfl,rfl]],h]
def bF1(hl:c9 g a=!l)(h:Q (.ref (-g)) (g++[.lst (cut l (!i) none)])):cN (.ku true false) [.ref a,.int i] g Q:=#[_,_,#[_,i,rfl,.inr #[a,l,rfl,hl,rfl,rfl]],h]
def zy(hl:c9 g a=!l)(h:Q (.ref (-g)) (g++[.lst (cut l none (!i))])):cN (.ku false true) [.ref a,.int i] g Q:=#[_,_,#[_,i,rfl,.inr #[a,l,rfl,hl,rfl,rfl]],h]
def Ft(hl:-l<=1000)(h:Q (.tup l) g):cN .tup l g Q:=#[_,_,#[hl,rfl,rfl],h]
def Fs(hl:-l<=1000)(h:Q (.ref (-g)) (g++[.lst l])):cN .lst l g Q:=#[_,_,#[hl,rfl,rfl],h]
def Jw(hl:c9 g a=!l)(h:Q (.ref (-g)) (g++[.lst l])):cN .list [.ref a] g Q:=#[_,_,.inl #[_,l,rfl,hl,rfl,rfl],h]
def Ym(h:Q (.ref (-g)) (g++[.lst l])):cN .list [.tup l] g Q:=#[_,_,.inl #[_,l,rfl,rfl,rfl,rfl],h]
def JS(hl:c9 g a=!l)(h:Q (.tup l) g):cN .tuple [.ref a] g Q:=#[_,_,#[_,l,rfl,hl,rfl,rfl],h]
def gW{c:String}(hc:c∈["int","bool","str","tuple","list"])(hb:sP g d c=!b)(h:Q (.bl b) g):cN .isin [d,.ty c] g Q:=#[_,_,#[d,c,b,rfl,hc,hb,rfl,rfl],h]
def sT{i:Nat}(hg:g[i]?=!.lst l)(hl:-l<100000)(h:Q .bg (g.set i (.lst (l++[y])))):cN .append [.ref i,y] g Q:=#[_,_,#[i,y,l,rfl,hg,hl,rfl,rfl],h]
def Yn{i j:Nat}{n:Int}(hg:g[i]?=!.lst l)(hn:n=j)(hj:l[j]?=!y)(hl:-l<100000)(h:Q y (g.set i (.lst (l.eraseIdx j)))):cN .pop [.ref i,.int n] g Q:=by
 let dI:=(av.mp hj).1;refine#[_,_,#[i,n,l,j,rfl,hg,by omega,by omega,?_,hj,rfl],h];rw[hn];exact PySem.StrLaws.seqIndex_nonneg () () |>.trans #[_]
def Fn{i:Nat}{z:D}(hg:g[i]?=!.fb kvs)(hk:C4 y=!k)(h:Q ((v8 kvs k).getD z) g):cN .get [.ref i,y,z] g Q:=#[_,_,#[i,y,z,kvs,k,rfl,hg,hk,rfl,rfl],h]
def Oo:mY .index (.tup l) g:=.inl #[l,rfl]
def Jx(W:W8 l y n)(hz:-l<=100000)(h:Q (.int n) g):cN .index [.tup l,y] g Q:=#[_,_,#[_,y,l,n,rfl,rfl,W,hz,rfl,rfl],h]
def ZO(h:Q (.int (i+j)) g):cN .iadd [.int i,.int j] g Q:=#[_,_,.inl #[i,j,rfl,rfl,rfl],h]
def Oj(hl:-l+-m<=100000)(h:Q (.tup (l++m)) g):cN .iadd [.tup l,.tup m] g Q:=#[_,_,.inr #[l,m,rfl,hl,rfl,rfl],h]
def Om{i:Nat}(hg:g[i]?=!.lst l):mY .append (.ref i) g:=#[i,l,rfl,a7 hg]
def bL7{i:Nat}(hg:g[i]?=!.lst l):mY .pop (.ref i) g:=#[i,l,rfl,a7 hg]
def b63{i:Nat}{l:@&(Key×D)}(hg:g[i]?=!.fb l):mY .get (.ref i) g:=#[i,l,rfl,hg]
def Qi(h1:-(2 ^ 62)<=j)(h2:j<=100000)(h:Q (.ref (-g)) (g++[.lst (j6 0 j.toNat)])):cN .lh [.int j] g Q:=#[_,_,#[j,rfl,h1,h2,rfl,rfl],h]
def Qh(h1:-(2 ^ 62)<=i/\i<2 ^ 62/\-(2 ^ 62)<=j/\j<2 ^ 62/\j-i<=100000)(h:Q (.ref (-g)) (g++[.lst (j6 i (j-i).toNat)])):cN .lg [.int i,.int j] g Q:=#[_,_,#[i,j,rfl,h1,rfl,rfl],h]
def YC{ms:@&Int}(h1:∀k∈ns,ST.Spot k)(h2:∀k∈ms,ST.Spot k)(hl:-ns+-ms<50)(h:Q (.ref (-g)) (g++[.lst ((o8 (ns++ms)).map .int)])):cN .vd [.tup (ns.map .int),.tup (ms.map .int)] g Q:=#[_,_,#[ns,ms,rfl,h1,h2,hl,rfl,rfl],h]
def XN(h:Q (.ref (-g)) (g++[.fO []])):cN .V9 [] g Q:=#[_,_,#[rfl,rfl,.inr rfl],h]
def DA{kvs:@&(List Key×D)}{c:Key}{n:Bool}(ha:g[a]?=!.fO kvs)(hx:C4 x=!c)(hy:C4 y=!e)(h:Q (.bl (xor n (M5 kvs [c,e]).isSome)) g):cN (.ql n) [x,y,.ref a] g Q:=#[_,_,#[x,y,a,kvs,c,e,rfl,ha,hx,hy,rfl,rfl],h]
def xt{kvs:@&(List Key×D)}{c:Key}(ha:g[a]?=!.fO kvs)(hx:C4 x=!c)(hy:C4 y=!e)(hv:M5 kvs [c,e]=!d)(h:Q d g):cN .lS [.ref a,x,y] g Q:=#[_,_,#[x,y,a,kvs,c,e,rfl,ha,hx,hy,hv,rfl],h]
def OE{a i j:ME}(h:aY P a Z g (λz g1=>aY P o Z g1 (λw g2=>fN P (.cons i (.cons j .nil)) Z g2 (λks g3=>∃x y,ks=[x,y]/\Fz w x y z g3 λg4=>N.nx Z g4) E) E) E):wpS P (.mV o i j a) N Z g E:=h
def JP{z:D}{kvs:@&(List Key×D)}{c:Key}{k:G->Prop}(ha:g[a]?=!.fO kvs)(hx:C4 x=!c)(hy:C4 y=!e)(hl:-kvs<100000)(h:k (g.set a (.fO (C1 kvs [c,e] z)))):∃u v,[x,y]=[u,v]/\Fz (.ref a) u v z g k:=#[x,y,rfl,_,#[a,kvs,c,e,rfl,ha,hx,hy,hl,rfl],h]
def V9(h:Q (.ref (-g)) (g++[.fb []])):cN .V9 [] g Q:=#[_,_,#[rfl,rfl,.inl rfl],h]
def max2(h:Q (.int (if j>i then j else i)) g):cN .max [.int i,.int j] g Q:=#[_,_,#[rfl,.inl #[i,j,rfl,rfl]],h]
def Yp{M:Int}(hl:c9 g a=!ns.map .int)(h1:M∈ns)(h2:∀x∈ns,x<=M)(h:Q (.int M) g):cN .max [.ref a] g Q:=#[_,_,#[rfl,.inr #[a,ns,M,rfl,hl,h1,h2,rfl]],h]
def bM2{S:Int->Bool}(hg:g[a]?=!.set S n)(hn:n+1<4096)(h:Q .bg (g.set a (.set (λk=>S k||decide (k=i)) (if S i then n else n+1)))):cN .kY [.ref a,.int i] g Q:=#[_,_,#[a,i,S,n,rfl,hg,hn,rfl,rfl],h]
def Uc{S:Int->Bool}(hg:g[a]?=!.set S n):mY .kY (.ref a) g:=#[a,S,n,rfl,hg]
def Up(h:Q (.ref (-g)) (g++[.set (λk=>decide (k=i)) 1])):cN (.kX i) [] g Q:=#[_,_,#[rfl,rfl,rfl],h]
def JL(hl:c9 g a=!ns.map .int)(h:Q (.int ns.sum) g):cN .sum [.ref a] g Q:=#[_,_,#[a,ns,rfl,hl,rfl,rfl],h]
def bM4(hl:c9 g a=!ns.map .int)(hz:-ns<60)(h:Q (.int (ST.f9 [] ns).length) g):cN .qS [.ref a] g Q:=#[_,_,#[a,ns,rfl,hl,hz,rfl,rfl],h]
def b13(hl:c9 g a=!ns.map .int)(h:Q (.bl (ns.all λn=>n != 0)) g):cN .all [.ref a] g Q:=#[_,_,#[a,_,_,rfl,hl,.inr #[ns,rfl,rfl],rfl,rfl],h]
def Gp(c:pY i j)(h:Q (.int (i*2 ^ j.toNat)) g):cN (.bin .LShift) [.int i,.int j] g Q:=#[_,_,.inl #[i,j,_,rfl,#[c,rfl],rfl,rfl],h]
def xl(h:Q (.int (Builtin.bitAnd i j)) g):cN (.bin .BitAnd) [.int i,.int j] g Q:=#[_,_,.inl #[i,j,_,rfl,rfl,rfl,rfl],h]
def b87(h:Q (.int (Builtin.bitOr i j)) g):cN (.bin .BitOr) [.int i,.int j] g Q:=#[_,_,.inl #[i,j,_,rfl,rfl,rfl,rfl],h]
def OC{Z:S}{i:Nat}{p:Pr}{v:ME}(e:Z[i]?=!!x)(h:aY P v Z g (λz g1=>cN p [x,z] g1 λw g2=>N.nx (Z.set i (!w)) g2) E):wpS P (.lC i p v) N Z g E:=#[x,e,h]
def ZT(h:Q (.int (i-j)) g):cN .oj [.int i,.int j] g Q:=#[_,_,#[i,j,rfl,rfl,rfl],h]
def min2(h:Q (.int (if j<i then j else i)) g):cN .min [.int i,.int j] g Q:=#[_,_,#[rfl,.inl #[i,j,rfl,rfl]],h]
def XY{v:Bool}(h:Q (.int (if v then 1 else 0)) g):cN .int [.bl v] g Q:=#[_,_,#[rfl,.inr #[v,rfl,rfl]],h]
def Jr{kvs:@&D}{x:Str}(hv:Q7 kvs x=!v)(h:Q v g):cN .oB [.tup kvs,.str x] g Q:=#[_,_,#[kvs,x,rfl,hv,rfl],h]
def Ac{i:Nat}{v:Bool}(hl:c9 g i=!l)(hv:Y3 l=!v)(h:Q (.bl v) g):cN .all [.ref i] g Q:=#[_,_,#[i,l,v,rfl,hl,.inl hv,rfl,rfl],h]
def i9{i:Nat}{Z:S}{k:S->Prop}(h:k (Z.set i (!x))):kK (.one i) x Z k:=h
def E7{is:@&Nat}{Z cB:S}{k:S->Prop}(e:Q8 is l Z=!cB)(h:k cB):kK (.many is) (.tup l) Z k:=#[l,cB,rfl,e,h]
end
def Y2:∀(bs:@&Bool),Y3 (bs.map D.bl)=!bs.all id:=by
 intro bs
 induction bs with
 |nil=>rfl
 |cons b r ih=>simp[Y3,ih]
def call_of{T:Nat->Option aV}{k f:Nat}{m:aV}{ds:@&D}(hT:T f=!m)(hl:-ds=m.ar)(h:wpS (b0 T k) m.body #[λx g'=>Q .bg g',Q,λx x=>False,λx x=>False] (c8 m ds) g E):b0 T (k+1) f ds g Q E:=#[m,hT,hl,h]
def m8{Z:S}{a:ME}{f:Nat}{m:Str}{fs:@&(Str×D)}{cs:@&(Str×Nat)}(hg:g[i]?=!.ins c fs)(hf:fs.lookup m=none)(hc:cs.lookup c=!f)(h:fN P a Z g (λxs g2=>P f (.ref i::xs) g2 Q E) E) :
  ∃a' c fs f,D.ref i=.ref a'/\g[a']?=!.ins c fs/\fs.lookup m=none/\cs.lookup c=!f/\fN P a Z g (λxs g2=>P f (.ref i::xs) g2 Q E) E:=#[i,c,fs,f,rfl,hg,hf,hc,h]
abbrev IK.Is(k:IK)(l:@&D)(g:G):Prop:=∀i,k.at i g=some l[i]?
def x3:(IK.fix l).Is l g:=λx=>rfl
def s9(h:c9 g a=!l):(IK.lst a).Is l g:=λi=>by simp only[IK.at,h]
abbrev nL(l:@&D):@&D:=l.mapIdx λi d=>.tup [.int i,d]
def zq(h:c9 g a=!l):(IK.pW a).Is (nL l) g:=λi=>by
 simp only[IK.at,h,nL,List.getElem?_mapIdx]
def ZU(h:c9 g a=!l):(IK.tF a (-l)).Is l.reverse g:=λi=>by
 simp only[IK.at,h,if_true];by_cases hi:i< -l
 .rw[ay hi,List.getElem?_reverse hi]
 .rw[az hi,aT (by simpa using hi)]
def Q2(l:@&D):(nL l).length=-l:=by simp[nL]
def zD(h:(nL l)[i]?=!x):∃d,l[i]?=!d/\x=.tup [.int i,d]:=by
 rw[nL,List.getElem?_mapIdx,ae] at h;let#[d,h1,h2]:=h;exact#[d,h1,h2.symm]
def C8{lo:Int}(h:(j6 lo n)[i]?=!x):i<n/\x=.int (lo+i):=by
 unfold j6 at h;let hi:i<n:=by
  have:=(av.mp h).1;simpa using this
 rw[aj,cM hi] at h;cases h;exact#[hi,rfl]
def j8(lo:Int)(n:Nat):(j6 lo n).length=n:=by simp[j6]
section
variable{Z:S}{it a c:ME}{s:MS}{t:MT}
def Xt{k:IK}{fin:S->G->Prop}{turn:D->(S->G->Prop)->S->G->Prop}(I:Nat->S->G->Prop)(hk:∀i Z g,I i Z g->k.Is l g)(h0:I 0 Z g)(hs:∀i x Z g,l[i]?=!x->I i Z g->turn x (I (i+1)) Z g)(hd:∀Z g,I (-l) Z g->fin Z g):turns k Z g fin turn:=by
 refine#[λi m Z g=>m=-l-i/\i<=-l/\I i Z g,#[(-l),by simp,cH _,h0],?_];rintro i m Z g ⟨rfl,hi,p⟩;rw[hk i Z g p i];by_cases dI:i< -l
 .rw[ag dI];exact .inr #[_,rfl,I (i+1),λcB g' p'=>#[(-l)-(i+1),by omega,rfl,dI,p'],hs i l[i] Z g (ag dI) p]
 .let e:i=-l:=by omega
  subst e;rw[aT (aw _)];exact .inl #[rfl,hd Z g p]
inductive ym(P:fK)(t:MT)(s:MS)(N:Ends)(E:KX)(Z:S)(k:IK)(g1:G):Prop
 |mk (l:@&D) (I:Nat->S->G->Prop) (hk:∀i Z g,I i Z g->k.Is l g) (h0:I 0 Z g1)
   (hs:∀i x Z g,l[i]?=!x->I i Z g->kK t x Z λcQ=>wpS P s #[I (i+1),N.rt,N.nx,I (i+1)] cQ g E) (hd:∀Z g,I (-l) Z g->N.nx Z g):ym P t s N E Z k g1
def A6(hP:i5 P)(h:iK P it Z g (ym P t s N E Z) E):wpS P (.eL t it s) N Z g E :=
 E4 hP it _ _ _ _ _ _ (λk g1 hq=>by let#[l,I,hk,h0,hs,hd]:=hq;exact Xt I hk h0 hs hd) (λx x z=>z) h
inductive CompI(P:fK)(t:MT)(cond elt:ME)(E:KX)(Q:KD)(Z:S)(k:IK)(g1:G):Prop
 |mk (l:@&D) (I:Nat->@&D->S->G->Prop) (hl:-l<=1000) (hk:∀i ys Z g,I i ys Z g->k.Is l g/\-ys<=i) (h0:I 0 [] Z g1)
   (hs:∀i x ys Z g,l[i]?=!x->I i ys Z g->kK t x Z λcQ=>dY P cond cQ g (λc g3=>if c=true then aY P elt cQ g3 (λy g4=>I (i+1) (ys++[y]) cQ g4) E else I (i+1) ys cQ g3) jZ)
   (hd:∀ys Z g,I (-l) ys Z g->Q (.ref (-g)) (g++[.lst ys])):CompI P t cond elt E Q Z k g1
def H9(hP:i5 P)(h:iK P it Z g (CompI P t cond elt jZ Q (L5 Z d4 n)) E):aY P (.comp d4 n t it cond elt) Z g Q E:=by
 refine E4 hP it _ _ _ _ _ _ (λk g1 h=>?_) (λx x z=>z) h;let#[l,I,hl,hk,h0,hs,hd]:=h;refine#[λi m ys Z g=>m=-l-i/\i<=-l/\I i ys Z g,#[(-l),by simp,cH _,h0],?_];rintro i m ys Z g ⟨rfl,hi,p⟩;let#[oU,hy]:=hk i ys Z g p;rw[oU i];by_cases dI:i< -l
 .rw[ag dI];refine .inr #[_,rfl,by omega,B8 (λcQ q=>v7 hP cond _ _ _ _ _ _ (λc g3 q=>?_) (λx x z=>z) q) (hs i l[i] ys Z g (ag dI) p)];cases c
  .exact#[(-l)-(i+1),by omega,rfl,dI,by simpa using(show I (i+1) ys cQ g3 from q)]
  .exact b9 hP elt _ _ _ _ _ _ (λy g4 q=>#[(-l)-(i+1),by omega,rfl,dI,by simpa using q]) (λx x z=>z) q
 .let e:i=-l:=by omega
  subst e;rw[aT (aw _)];exact .inl #[rfl,hd ys Z g p]
inductive yf(P:fK)(t:MT)(cond elt:ME)(Q:KD)(Z:S)(k:IK)(g1:G):Prop
 |mk (l:@&D) (I:Nat->@&Int->S->G->Prop) (hl:-l<60) (hk:∀i ys Z g,I i ys Z g->k.Is l g/\-ys<=i) (h0:I 0 [] Z g1)
   (hs:∀i x ys Z g,l[i]?=!x->I i ys Z g->kK t x Z λcQ=>dY P cond cQ g (λc g3=>if c=true then aY P elt cQ g3 (λy g4=>∃j,y=.int j/\I (i+1) (ys++[j]) cQ g4) jZ else I (i+1) ys cQ g3) jZ)
   (hd:∀ys Z g,I (-l) ys Z g->Q (.ref (-g)) (g++[.lst ((o8 ys).map .int)])):yf P t cond elt Q Z k g1
def Vu(hP:i5 P)(h:iK P it Z g (yf P t cond elt Q (L5 Z d4 n)) E):aY P (.iL d4 n t it cond elt) Z g Q E:=by
 refine E4 hP it _ _ _ _ _ _ (λk g1 h=>?_) (λx x z=>z) h;let#[l,I,hl,hk,h0,hs,hd]:=h;refine#[λi m ys Z g=>m=-l-i/\i<=-l/\I i ys Z g,#[(-l),by simp,cH _,h0],?_];rintro i m ys Z g ⟨rfl,hi,p⟩;let#[oU,hy]:=hk i ys Z g p;rw[oU i];by_cases dI:i< -l
 .rw[ag dI];refine .inr #[_,rfl,by omega,B8 (λcQ q=>v7 hP cond _ _ _ _ _ _ (λc g3 q=>?_) (λx x z=>z) q) (hs i l[i] ys Z g (ag dI) p)];cases c
  .exact#[(-l)-(i+1),by omega,rfl,dI,by simpa using(show I (i+1) ys cQ g3 from q)]
  .refine b9 hP elt _ _ _ _ _ _ (λy g4 q=>?_) (λx x z=>z) q;let#[j,e,q]:=q;exact#[j,e,(-l)-(i+1),by omega,rfl,dI,by simpa using q]
 .let e:i=-l:=by omega
  subst e;rw[aT (aw _)];exact .inl #[rfl,by omega,hd ys Z g p]
def aT5(hP:i5 P)(h:aY P a Z g (λx g1=>∃j:Nat,x=.int j/\j<=1000/\∃I:Nat->@&D->S->G->Prop,I 0 [] (L5 Z d4 n) g1/\(∀i ys Z g,I i ys Z g->-ys<=i) /\
      (∀(i:Nat) ys Z g,i<j->I i ys Z g->kK t (.int i) Z λcQ=>dY P cond cQ g (λc g3=>if c=true then aY P elt cQ g3 (λy g4=>I (i+1) (ys++[y]) cQ g4) jZ else I (i+1) ys cQ g3) jZ) /\
      ∀ ys Z g,I j ys Z g->Q (.ref (-g)) (g ++ [.lst ys])) E):aY P (.comp d4 n t (.fE a) cond elt) Z g Q E:=by
  refine H9 hP ?_;refine b9 hP a _ _ _ _ _ _ (λx g1 h=>?_) (λw w z=>z) h;let#[j,rfl,hj,I,h0,hz,hs,hd]:=h;refine#[j,rfl,by omega,by omega,_,I,by rw[j8];simpa using hj,λi ys Z g p=>#[x3,hz i ys Z g p],h0,λi x ys Z g hx p=>?_,λys Z g p=>hd ys Z g (by rw[j8] at p;simpa using p)];let#[hi,rfl]:=C8 hx;rw[show(0:Int)+(i:Int)=i by omega];exact hs i ys Z g (by simpa using hi) p
def aT4(hP:i5 P)(h:aY P a Z g (λx g1=>∃l,x=.tup l/\-l<=1000/\∃I:Nat->@&D->S->G->Prop,I 0 [] (L5 Z d4 n) g1/\(∀i ys Z g,I i ys Z g->-ys<=i) /\
      (∀(i:Nat) x ys Z g,l[i]?=!x->I i ys Z g->kK t x Z λcQ=>dY P cond cQ g (λc g3=>if c=true then aY P elt cQ g3 (λy g4=>I (i+1) (ys++[y]) cQ g4) jZ else I (i+1) ys cQ g3) jZ) /\
      ∀ ys Z g,I (-l) ys Z g->Q (.ref (-g)) (g ++ [.lst ys])) E):aY P (.comp d4 n t (.fQ a) cond elt) Z g Q E:=by
  refine H9 hP ?_;refine b9 hP a _ _ _ _ _ _ (λx g1 h=>?_) (λw w z=>z) h;let#[l,rfl,hj,I,h0,hz,hs,hd]:=h;exact .inl #[l,rfl,_,I,hj,λi ys Z g p=>#[x3,hz i ys Z g p],h0,hs,hd]
def Nc(I:Nat->S->G->Prop)(m0:Nat)(h0:I m0 Z g)(hs:∀m Z g,I m Z g->dY P c Z g (λt g1=>if t=true then wpS P s #[λcB g'=>∃m',m'<m/\I m' cB g',N.rt,N.nx,λcB g'=>∃m',m'<m/\I m' cB g'] Z g1 E else N.nx Z g1) E)(hP:i5 P):wpS P (.kU c s) N Z g E:=by
 refine#[I,#[m0,h0],λm Z g p=>v7 hP c _ _ _ _ _ _ (λt g1 q=>?_) (λx x z=>z) (hs m Z g p)];cases t
 .exact q
 .exact#[_,λx x z=>z,q]
def Z8(hP:i5 P)(h:aY P a Z g (λx g1=>∃j:Int,x=.int j/\-(2 ^ 62)<=j/\j<2 ^ 62/\R (.fix (j6 0 j.toNat)) g1) E):iK P (.fE a) Z g R E:=h
def tL(hP:i5 P)(h:aY P a Z g (λx g1=>∃l,x=.tup l/\R (.fix l) g1) E):iK P (.fQ a) Z g R E:=by
 exact b9 hP a _ _ _ _ _ _ (λx g1 h=>.inl h) (λy y z=>z) h
def my(hP:i5 P)(h:aY P a Z g (λx g1=>∃i l,x=.ref i/\c9 g1 i=!l/\R (.lst i) g1) E):iK P (.fQ a) Z g R E:=by
 exact b9 hP a _ _ _ _ _ _ (λx g1 h=>.inr h) (λy y z=>z) h
def Qo(h:aY P a Z g (λx g1=>∃i l,x=.ref i/\c9 g1 i=!l/\R (.tF i (-l)) g1) E):iK P (.oS a) Z g R E:=h
def Bk(h:aY P a Z g (λx g1=>∃i l,x=.ref i/\c9 g1 i=!l/\R (.pW i) g1) E):iK P (.lV a) Z g R E:=h
end
end M
namespace M
open PySem L2 PySem.Spec PyProof.Rows
variable{x:Str}{C:Addr}
structure RF where
 id:Nat
 nm:Str
 N:@&Str
 k:Nat
 i:Nat
 m:aV
structure RM where
 id:Nat
 cl:Str
 nm:Str
 qn:Str
 N:@&Str
 k:Nat
 i:Nat
 j:Nat
 m:aV
abbrev RF.d(tp:Nat->Stmt)(r:RF):qj:=#[r.nm,r.nm,r.N,r.N.take r.k,tp r.i]
abbrev RM.d(mt:Nat->Nat->Stmt)(r:RM):qj:=#[r.nm,r.qn,r.N,r.N.take r.k,mt r.i r.j]
abbrev uv(F:@&RF)(M:@&RM)(i:Nat):Option aV:=match F.find? λr=>Nat.beq r.id i with
 |some r=>!r.m
 |none=>(M.find? λr=>Nat.beq r.id i).map (·.m)
section
variable(tp:Nat->Stmt)(mt:Nat->Nat->Stmt)(K:PySem.W.Frag)
abbrev PF:@&RF->Prop
 |[]=>True
 |r::l=>(∃f fd,PySem.W.nsIn K mainGlobals r.nm=!!.ref f/\qW K r.nm r.nm (tp r.i) f fd)/\PF l
abbrev PM:@&RM->Prop
 |[]=>True
 |r::l=>(∃C f fd,PySem.W.nsIn K mainGlobals r.cl=!!.ref C/\Meth K C r.nm f/\qW K r.nm r.qn (mt r.i r.j) f fd)/\PM l
abbrev PC:@&(Str×Nat)->Prop
 |[]=>True
 |r::l=>(∃C,PySem.W.nsIn K mainGlobals r.1=!!.ref C/\jQ K C/\PySem.W.makesIn K C=true/\PySem.W.keepIn K (.ref C)=true)/\PC l
abbrev PA:@&(Str×Str)->Prop
 |[]=>True
 |r::l=>(∃C,PySem.W.nsIn K mainGlobals r.2=!!.ref C/\PySem.W.findIn K (.ref C) r.1=!none)/\PA l
abbrev PB:@&Str->Prop
 |[]=>True
 |r::l=>PySem.W.nsIn K mainGlobals r=!none/\PB l
abbrev PX:@&Str->Prop
 |[]=>True
 |r::l=>(∃C,PySem.W.nsIn K mainGlobals r=!!.ref C/\PySem.W.excIn K C [.type "ValueError",.type "Exception",.type "BaseException",.type "object"] "ValueError.__new__"=true)/\PX l
abbrev BF:@&RF->Prop
 |[]=>True
 |r::l=>(∀(kV doc pm:Value) (an:Option Addr) (gs ct:Value) (us:@&Value),(-us)=(r.N.take r.k).length->bindArgs (PySem.W.fnOf r.nm r.nm (C9 (tp r.i)) (u4 (tp r.i)) (u3 (tp r.i)) .none kV doc pm an gs ct) #[us,[]]=pure ((r.N.take r.k).zip us))/\BF l
abbrev BM:@&RM->Prop
 |[]=>True
 |r::l=>(∀(kV doc pm:Value) (an:Option Addr) (gs ct:Value) (us:@&Value),(-us)=(r.N.take r.k).length->bindArgs (PySem.W.fnOf r.nm r.qn (C9 (mt r.i r.j)) (u4 (mt r.i r.j)) (u3 (mt r.i r.j)) .none kV doc pm an gs ct) #[us,[]]=pure ((r.N.take r.k).zip us))/\BM l
abbrev YF(c:i3):@&RF->Prop
 |[]=>True
 |r::l=>C5 (comp 60) (c.at (r.d tp)) (u4 (tp r.i))=!r.m.body/\YF c l
abbrev YM(c:i3):@&RM->Prop
 |[]=>True
 |r::l=>C5 (comp 60) (c.at (r.d mt)) (u4 (mt r.i r.j))=!r.m.body/\YM c l
end
section
variable{tp:Nat->Stmt}{mt:Nat->Nat->Stmt}{K:PySem.W.Frag}{c:i3}{id k i j:Nat}{cl nm qn:Str}{N:@&Str}{m:aV}{f:Addr}{oc kV doc pm gs ct:Value}{od an:Option Addr}{nH:Array (Option Value)}
def PF.nil:PF tp K []:=trivial
def PF.cons{l:@&RF}(a:PySem.W.nsIn K mainGlobals nm=!!.ref f)(lk:K.lookup f=!#[oc,od,.func (PySem.W.fnOf nm nm (C9 (tp i)) (u4 (tp i)) (u3 (tp i)) .none kV doc pm an gs ct),nH])(cd:PySem.W.codeIn K gs nm=true)(kp:PySem.W.keepIn K (.ref f)=true)(h:PF tp K l):PF tp K (#[id,nm,N,k,i,m]::l):=#[#[f,_,a,Oi lk cd kp],h]
def PM.nil:PM mt K []:=trivial
def PM.cons{l:@&RM}(c0:PySem.W.nsIn K mainGlobals cl=!!.ref C)(a:PySem.W.findIn K (.ref C) nm=!!.ref f)(af:PySem.W.isFn K (.ref f)=true)(lk:K.lookup f=!#[oc,od,.func (PySem.W.fnOf nm qn (C9 (mt i j)) (u4 (mt i j)) (u3 (mt i j)) .none kV doc pm an gs ct),nH])(cd:PySem.W.codeIn K gs qn=true)(kp:PySem.W.keepIn K (.ref f)=true)(h:PM mt K l):PM mt K (#[id,cl,nm,qn,N,k,i,j,m]::l):=#[#[C,f,_,c0,#[a,af,kp],Oi lk cd kp],h]
def PC.nil:PC K []:=trivial
def PC.cons{l:@&(Str×Nat)}(cn:PySem.W.nsIn K mainGlobals x=!!.ref C)(cp:PySem.W.plainGet K C Str.empty=true)(Tn:PySem.W.hasDictIn K C=true)(Th:PySem.W.plainOver K C=true)(Tg:PySem.W.findIn K (.ref C) "__setattr__"=!!(.builtin "object.__setattr__"))(Ti:PySem.W.makesIn K C=true)(Tj:PySem.W.keepIn K (.ref C)=true)(h:PC K l):PC K ((x,i)::l):=#[#[C,cn,#[cp,Tn,Th,Tg],Ti,Tj],h]
def PA.nil:PA K []:=trivial
def PA.cons{l:@&(Str×Str)}(cn:PySem.W.nsIn K mainGlobals x=!!.ref C)(fl:PySem.W.findIn K (.ref C) nm=!none)(h:PA K l):PA K ((nm,x)::l):=#[#[C,cn,fl],h]
def PB.nil:PB K []:=trivial
def PB.cons{l:@&Str}(cn:PySem.W.nsIn K mainGlobals x=!none)(h:PB K l):PB K (x::l):=#[cn,h]
def PX.nil:PX K []:=trivial
def PX.cons{l:@&Str}(cn:PySem.W.nsIn K mainGlobals x=!!.ref C)(q:PySem.W.excIn K C [.type "ValueError",.type "Exception",.type "BaseException",.type "object"] "ValueError.__new__"=true)(h:PX K l):PX K (x::l):=#[#[C,cn,q],h]
def GW{P:@&Value->Prop}{n:Nat}(h:∀a vs,(-vs)=n->P (a::vs))(us:@&Value)(hl:-us=n+1):P us:=by
 cases us with
 |nil=>cases hl
 |cons a vs=>exact h a vs (Nat.succ.inj hl)
def GV{P:@&Value->Prop}(h:P [])(us:@&Value)(hl:-us=0):P us:=by
 simp_all
def BF.nil:BF tp []:=trivial
def BF.cons{l:@&RF}(h:∀(kV doc pm:Value) (an:Option Addr) (gs ct:Value) (us:@&Value),(-us)=(N.take k).length->bindArgs (PySem.W.fnOf nm nm (C9 (tp i)) (u4 (tp i)) (u3 (tp i)) .none kV doc pm an gs ct) #[us,[]]=pure ((N.take k).zip us))(h2:BF tp l):BF tp (#[id,nm,N,k,i,m]::l):=#[h,h2]
def BM.nil:BM mt []:=trivial
def BM.cons{l:@&RM}(h:∀(kV doc pm:Value) (an:Option Addr) (gs ct:Value) (us:@&Value),(-us)=(N.take k).length->bindArgs (PySem.W.fnOf nm qn (C9 (mt i j)) (u4 (mt i j)) (u3 (mt i j)) .none kV doc pm an gs ct) #[us,[]]=pure ((N.take k).zip us))(h2:BM mt l):BM mt (#[id,cl,nm,qn,N,k,i,j,m]::l):=#[h,h2]
def YF.nil:YF tp c []:=trivial
def YF.cons{l:@&RF}(h:C5 (comp 60) (c.at #[nm,nm,N,N.take k,tp i]) (u4 (tp i))=!m.body)(h2:YF tp c l):YF tp c (#[id,nm,N,k,i,m]::l):=#[h,h2]
def YM.nil:YM mt c []:=trivial
def YM.cons{l:@&RM}(h:C5 (comp 60) (c.at #[nm,qn,N,N.take k,mt i j]) (u4 (mt i j))=!m.body)(h2:YM mt c l):YM mt c (#[id,cl,nm,qn,N,k,i,j,m]::l):=#[h,h2]
def YF.get:∀{l:@&RF},YF tp c l->∀r∈l,C5 (comp 60) (c.at (r.d tp)) (u4 (tp r.i))=!r.m.body
 |_::_,h,r,hr=>(aJ.mp hr).elim (λz=>z▸h.1) (YF.get h.2 r)
def YM.get:∀{l:@&RM},YM mt c l->∀r∈l,C5 (comp 60) (c.at (r.d mt)) (u4 (mt r.i r.j))=!r.m.body
 |_::_,h,r,hr=>(aJ.mp hr).elim (λz=>z▸h.1) (YM.get h.2 r)
def PF.get:∀{l:@&RF},PF tp K l->∀r∈l,∃f fd,PySem.W.nsIn K mainGlobals r.nm=!!.ref f/\qW K r.nm r.nm (tp r.i) f fd
 |_::_,h,r,hr=>(aJ.mp hr).elim (λz=>z▸h.1) (PF.get h.2 r)
def PM.get:∀{l:@&RM},PM mt K l->∀r∈l,∃C f fd,PySem.W.nsIn K mainGlobals r.cl=!!.ref C/\Meth K C r.nm f/\qW K r.nm r.qn (mt r.i r.j) f fd
 |_::_,h,r,hr=>(aJ.mp hr).elim (λz=>z▸h.1) (PM.get h.2 r)
def PC.get:∀{l:@&(Str×Nat)},PC K l->∀r∈l,∃C,PySem.W.nsIn K mainGlobals r.1=!!.ref C/\jQ K C/\PySem.W.makesIn K C=true/\PySem.W.keepIn K (.ref C)=true
 |_::_,h,r,hr=>(aJ.mp hr).elim (λz=>z▸h.1) (PC.get h.2 r)
def PA.get:∀{l:@&(Str×Str)},PA K l->∀r∈l,∃C,PySem.W.nsIn K mainGlobals r.2=!!.ref C/\PySem.W.findIn K (.ref C) r.1=!none
 |_::_,h,r,hr=>(aJ.mp hr).elim (λz=>z▸h.1) (PA.get h.2 r)
def PB.get:∀{l:@&Str},PB K l->∀r∈l,PySem.W.nsIn K mainGlobals r=!none
 |_::_,h,r,hr=>(aJ.mp hr).elim (λz=>z▸h.1) (PB.get h.2 r)
def PX.get:∀{l:@&Str},PX K l->∀r∈l,∃C,PySem.W.nsIn K mainGlobals r=!!.ref C/\PySem.W.excIn K C [.type "ValueError",.type "Exception",.type "BaseException",.type "object"] "ValueError.__new__"=true
 |_::_,h,r,hr=>(aJ.mp hr).elim (λz=>z▸h.1) (PX.get h.2 r)
def BF.get:∀{l:@&RF},BF tp l->∀r∈l,∀(kV doc pm:Value) (an:Option Addr) (gs ct:Value) (us:@&Value),(-us)=(r.N.take r.k).length->bindArgs (PySem.W.fnOf r.nm r.nm (C9 (tp r.i)) (u4 (tp r.i)) (u3 (tp r.i)) .none kV doc pm an gs ct) #[us,[]]=pure ((r.N.take r.k).zip us)
 |_::_,h,r,hr=>(aJ.mp hr).elim (λz=>z▸h.1) (BF.get h.2 r)
def BM.get:∀{l:@&RM},BM mt l->∀r∈l,∀(kV doc pm:Value) (an:Option Addr) (gs ct:Value) (us:@&Value),(-us)=(r.N.take r.k).length->bindArgs (PySem.W.fnOf r.nm r.qn (C9 (mt r.i r.j)) (u4 (mt r.i r.j)) (u3 (mt r.i r.j)) .none kV doc pm an gs ct) #[us,[]]=pure ((r.N.take r.k).zip us)
 |_::_,h,r,hr=>(aJ.mp hr).elim (λz=>z▸h.1) (BM.get h.2 r)
end
abbrev yG(N P:@&Str)(sc:Scope):Bool:=decide (sc.kind=.function)&&~~~sc.isCoroutine&&~~~sc.isGenerator&&decide N.Nodup&&decide (N.take (-P)=P)&&P.all (λx=>decide (sc.names.lookup x=!.local)||decide (sc.names.lookup x=!.cell))&&sc.names.all λy=>decide (y.2≠.free)
def Ox{N P:@&Str}{sc:Scope}(h:yG N P sc=true):jw N P sc:=by
 unfold yG at h;simp only[Bool.and_eq_true,decide_eq_true_eq,Bool.not_eq_true',List.all_eq_true,Bool.or_eq_true] at h;let#[#[#[#[#[#[h1,h2],h3],h4],h5],h6],h7]:=h;exact#[h1,h2,h3,h4,h5,h6,h7]
set_option tactic.hygienic true in
def a60{K:PySem.W.Frag}{h₀:Heap}{mg:Str->Option Value}{JQ:@&Value}{newId:String}(X:K.In h₀)(G:h₀.Ns mainGlobals mg)(e:PySem.W.nsIn K mainGlobals x=!!.ref C)(q:PySem.W.excIn K C JQ newId=true):PyProof.Rows.OwnCls x C JQ newId mg h₀:=by
 refine#[bO X G e,?_];unfold PySem.W.excIn at q;split at q
 .rename_i dd cd sl ho;split at q
  .rename_i C' bm k0 k1 k2 k3 n k5 hm hs;simp only[Bool.and_eq_true,beq_iff_eq,Bool.not_eq_true'] at q;let#[#[#[#[#[z1,z2],wA],ht],bZ],yQ]:=q;subst z1;subst z2;let#[nm,bs,mro,ns,qn,hd,sn,sub,ab,col,del]:=cd;dsimp only at hm wA bZ yQ;subst hm wA;let qv:sl=(List.toArray [k0,k1,k2,k3,!.builtin n,k5]):=by
    let#[l]:=sl;simp only at hs;rw[hs]
   subst qv;exact#[bm,ns,nm,qn,bs,hd,sn,sub,ab,col,dd,k0,k1,k2,k3,k5,_,X _ _ ho,.of_isNs (PySem.W.isNs_of_in X bZ),PySem.W.nsMap_none_of_in X bZ yQ,PySem.W.tail_of_in X ht]
  .cases q
 .cases q
abbrev U5(K:PySem.W.Frag)(x:Str):Addr:=match PySem.W.nsIn K mainGlobals x with
 |some (!.ref C)=>C
 |_=>0
abbrev Mq(K:PySem.W.Frag)(exc:@&Str):Bool:=exc.all λx=>exc.all λy=>decide (PySem.W.exmOne K (.ref (U5 K x)) (.ref (U5 K y))=!decide (x=y\/y="MintError"))
def ZK{K:PySem.W.Frag}{exc:@&Str}(h:Mq K exc=true){y:Str}{C':Addr}(hx:exc.contains x=true)(hy:exc.contains y=true)(hC:x5 K x C)(IE:x5 K y C'):PySem.W.exmOne K (.ref C) (.ref C')=!decide (x=y\/y="MintError"):=by
 let h1:=bQ.mp h x (by simpa using hx);let h2:=bx (bQ.mp h1 y (by simpa using hy));let e1:U5 K x=C:=by unfold U5;simp_all
 let e2:U5 K y=C':=by unfold U5;simp_all
 rw[e1,e2] at h2;exact h2
def DK{α:Type}{f:α->Nat}:∀{l:List α},(l.map f).Nodup->∀r∈l,l.find? (λx=>Nat.beq (f x) (f r))=!r
 |y::l,nd,r,hr=>by
  rw[bJ,du] at nd;rcases aJ.mp hr with rfl|hr
  .rw[de];exact Nat.beq_refl _
  .rw[bB]
   .exact DK nd.2 r hr
   .intro z;exact nd.1 (aL.mpr #[r,hr,(jz z).symm])
def Tt{α β:Type}{f:α->Nat}{g:β->Nat}{l:List α}{r:β}(h:g r∉l.map f):l.find? (λx=>Nat.beq (f x) (g r))=none:=by
 rw[gS];intro x hx z;exact h (aL.mpr #[x,hx,jz z])
section
variable{w:World}{K:PySem.W.Frag}{h₀:Heap}{mg:Str->Option Value}{c:i3}{F:@&RF}{M:@&RM}{tp:Nat->Stmt}{mt:Nat->Nat->Stmt}
structure mP(K:PySem.W.Frag)(c:i3)(F:@&RF)(M:@&RM)(tp:Nat->Stmt)(mt:Nat->Nat->Stmt):Prop where
 qF:PF tp K F
 qM:PM mt K M
 qC:PC K c.cls
 qA:PA K c.pT
 qB:PB K c.blt
 qX:PX K c.exc
 xm:Mq K c.exc=true
structure mO(c:i3)(F:@&RF)(M:@&RM)(tp:Nat->Stmt)(mt:Nat->Nat->Stmt):Prop where
 cf:c.fns=F.map λr=>(r.nm,r.id)
 cm:c.pE=M.map λr=>(r.nm,r.cl,r.id)
 ci:c.cls.all (λy=>M.any λr=>decide (r.cl=y.1)&&decide (r.nm="__init__")&&Nat.beq r.id y.2)=true
 nd:(F.map (·.id)++M.map (·.id)).Nodup
 sF:F.all (λr=>yG r.N (r.N.take r.k) (u3 (tp r.i))&&decide (r.m.ar=(r.N.take r.k).length)&&decide (r.m.n=-r.N))=true
 sM:M.all (λr=>yG r.N (r.N.take r.k) (u3 (mt r.i r.j))&&decide (r.m.ar=(r.N.take r.k).length)&&decide (r.m.n=-r.N))=true
 oF:YF tp c F
 oM:YM mt c M
 bF:BF tp F
 bM:BM mt M
def MW(I:mP K c F M tp mt)(X:mO c F M tp mt)(r:RF)(hr:r∈F):∃f fd,km K c (r.d tp) r.m f fd/\PySem.W.nsIn K mainGlobals r.nm=!!.ref f/\uv F M r.id=!r.m:=by
 let#[f,fd,a,q]:=I.qF.get r hr;let s:=bQ.mp X.sF r hr;simp only[Bool.and_eq_true,decide_eq_true_eq] at s;let o:=X.oF.get r hr;refine#[f,fd,#[q,q.binds (X.bF.get r hr),Ox s.1.1,o,s.1.2,s.2],a,?_];unfold uv;rw[DK (f:=(·.id)) (cA.mp X.nd).1 r hr]
def MX(I:mP K c F M tp mt)(X:mO c F M tp mt)(r:RM)(hr:r∈M):∃C f fd,km K c (r.d mt) r.m f fd/\PySem.W.nsIn K mainGlobals r.cl=!!.ref C/\Meth K C r.nm f/\uv F M r.id=!r.m:=by
 let#[C,f,fd,a,q1,q]:=I.qM.get r hr;let s:=bQ.mp X.sM r hr;simp only[Bool.and_eq_true,decide_eq_true_eq] at s;let o:=X.oM.get r hr;refine#[C,f,fd,#[q,q.binds (X.bM.get r hr),Ox s.1.1,o,s.1.2,s.2],a,q1,?_];let nd:=cA.mp X.nd;unfold uv;rw[Tt (f:=λr:RF=>r.id) (g:=λr:RM=>r.id) (r:=r) (λz=>nd.2.2 _ z _ (aL.mpr #[r,hr,rfl]) rfl),DK (f:=λr:RM=>r.id) nd.2.1 r hr]
 rfl
def bC4(I:mP K c F M tp mt)(Y:mO c F M tp mt)(X:K.In h₀)(G:h₀.Ns mainGlobals mg)(con:∀x d,c.con.lookup x=!d->∃v u,mg x=!u/\RelV v u/\∀ρ H,d5 K ρ H d v)(sr:∀x kvs,c.gd.lookup x=!kvs->∃A vs,mg x=!.ref A/\xk K w.params A vs/\qQ K kvs vs):oH w K mg c (uv F M):=by
 refine#[λx i hx=>?_,λx i hx=>?_,λx y i C hx hC=>?_,λf y C hx hC=>?_,con,λx hx=>?_,λx hx=>?_,λx y C C' hx hy hC IE=>ZK I.xm hx hy hC IE,sr]
 .let hm:=aS hx;rw[Y.cf] at hm;let#[r,hr,e]:=aL.mp hm;cases e;let#[f,fd,O,a,t]:=MW I Y r hr;exact#[_,_,f,fd,t,O,bO X G a]
 .let hm:=aS hx;let h1:=bQ.mp Y.ci _ hm;let#[r,hr,e]:=aO.mp h1;simp only[Bool.and_eq_true,decide_eq_true_eq] at e;let#[#[e1,e2],e3]:=e;let e3:=jz e3;let#[C,f,fd,O,a,q,t]:=MX I Y r hr;let#[C',a',hc,mk,kp]:=I.qC.get _ hm;rw[e1] at a;cases a.symm.trans a';rw[e2] at q;rw[e3] at t;exact#[C,_,_,f,fd,t,O,bO X G a,a,hc,#[mk,q.at_,q.fn,kp]]
 .rw[Y.cm] at hx;let#[r,hr,e]:=aL.mp hx;cases e;let#[C',f,fd,O,a,q,t]:=MX I Y r hr;cases a.symm.trans hC;exact#[_,_,f,fd,t,O,q]
 .let#[C',a,q]:=I.qA.get _ hx;cases a.symm.trans hC;exact q
 .exact PySem.W.mg_none_of X G (I.qB.get x (by simpa using hx))
 .let#[C,a,q]:=I.qX.get x (by simpa using hx);exact#[_,bO X G a,a,λbase oi wQ=>#[_,_,_,_,a60 oi wQ a q,PySem.F.excBase_ValueError]]
end
end M
namespace M
open PySem L2
variable{g g':G}{i j n k a b m r c q p hl nd:Nat}{o o':O}{P:fK}{Q:KD}{E:KX}{N:Ends}{ms ns go:@&Int}{l:@&D}{α:Type}{x:Str}{f v:Int}{kvs:@&(Key×D)}{y:D}{cs:@&a9}{kb:Bool->Prop}{w:@&(@&Int)}{t:MT}{it elt:ME}{d4 H:@&Nat}{rs:@&fP}{dd:Dd}
set_option hygiene false
local macro_rules|`(tactic|delta $x:ident)=>`(tactic|dsimp[$x:ident,c8,List.replicate])
local macro_rules|`(tactic|walk_at"w1")=>`(tactic|with_reducible first|refine xG ?_|refine uF ?_|refine Ak ?_|refine FE ?_|refine bB6 ?_|refine Zn ?_|refine Nb ?_|refine bB2 ?_|refine FD ?_|refine G0 ?_|refine AJ ?_|(refine w_var (d:=?_) ?_ ?_;rotate_left;·with_unfolding_all rfl)|refine w_lit ?_|refine ya ?_|refine xZ ?_|refine Kv ?_|refine bB3 ?_|refine Vr ?_|refine w_and ?_|refine w_or ?_|refine w_not ?_|refine w_ite ?_|refine zz ?_|refine OD ?_|refine Vs ?_|refine Aj ?_|refine U8 ?_|refine bB1 ?_|refine Zm ?_|refine bB0 ?_|refine xu ?_|refine FF ?_|refine b15 ?_|refine b14 ?_|refine GY ?_|refine b78 ?_|refine b79 ?_|refine b80 ?_|refine b81 ?_|refine b11 ?_|refine Jn ?_|refine b12 ?_|refine b02 ?_|refine b10 ?_|refine b08 ?_|refine b06 ?_|refine b07 ?_|refine b04 ?_|refine b03 ?_|refine b05 ?_|refine sN ?_|refine Jh ?_|refine Jg ?_|refine Je ?_|refine Jf ?_|refine Jd ?_|refine b22 ?_|refine DH ?_|refine ZR ?_|refine lW ?_|refine Z7 ?_|refine Kh ?_|refine b70 ?_|refine Yj ?_|refine AN ?_|refine bF0 ?_|refine bF2 ?_|refine Hk ?_|refine Ym ?_|refine GZ ?_)
local macro_rules|`(tactic|walk_at"w2")=>`(tactic|repeat(with_reducible first|walk_at "w1"|refine Ft (by simp) ?_|refine Fs (by simp) ?_|refine q9 (a7 (by assumption)) (by with_unfolding_all rfl) ?_|refine O3 (a7 (by assumption)) ?_|refine Gn (by unfold pY;decide) ?_))
local macro_rules|`(tactic|walk_at"w3")=>`(tactic|repeat(with_reducible first|walk_at "w1"|refine Ft (by simp) ?_|refine Fs (by simp) ?_|refine q9 (a7 (by assumption)) (by with_unfolding_all rfl) ?_|refine O3 (a7 (by assumption)) ?_|refine Gn (by unfold pY;decide) ?_|refine And.intro (show List.length _ <= 1000 from by simp) ?_|refine E7 (by with_unfolding_all rfl) ?_|refine i9 ?_|refine x8 (by with_unfolding_all rfl) ?_))
local macro_rules|`(tactic|walk_at"")=>`(tactic|repeat(with_reducible first|walk_at "w1"|refine Vt ?_|refine GU ?_|refine bB5 ?_|refine b01 ?_|refine Zg ?_|refine Ha ?_|refine max2 ?_|refine min2 ?_|refine XY ?_|refine V9 ?_|refine SE ?_|refine IL ?_|refine Ft (by simp) ?_|refine Fs (by simp) ?_|refine q9 (a7 (by assumption)) (by with_unfolding_all rfl) ?_|refine O3 (a7 (by assumption)) ?_|refine Gn (by unfold pY;decide) ?_|refine And.intro (show List.length _ <= 1000 from by simp) ?_|refine E7 (by with_unfolding_all rfl) ?_|refine i9 ?_|refine x8 (by with_unfolding_all rfl) ?_|refine And.intro (Om (by assumption)) ?_|refine And.intro (bL7 (by assumption)) ?_|refine And.intro (b63 (by assumption)) ?_|refine Y4 (by decide) ?_|refine Zt (by decide) (by decide) ?_|refine Bk ?_))
set_option hygiene true
@[inline]abbrev dE(a:ME):ME:=.cons a .nil
@[inline]abbrev dP(a b:ME):ME:=.cons a (.cons b .nil)
@[inline]abbrev gp(a b c:ME):ME:=.cons a (.cons b (.cons c .nil))
@[inline]abbrev nB(a b c d:ME):ME:=.cons a (.cons b (.cons c (.cons d .nil)))
@[inline]abbrev rg(a b c d e:ME):ME:=.cons a (.cons b (.cons c (.cons d (.cons e .nil))))
@[inline]abbrev Sv(a b c d e f:ME):ME:=.cons a (.cons b (.cons c (.cons d (.cons e (.cons f .nil)))))
@[inline]abbrev Sw(a b c d e f g:ME):ME:=.cons a (.cons b (.cons c (.cons d (.cons e (.cons f (.cons g .nil))))))
@[inline]abbrev dR(o:PySem.CmpOp)(a b:ME):ME:=.fC (.prim (.cmp o) (.cons a (.cons b .nil)))
@[inline]abbrev cR(a b:ME):ME:=.prim .ix (.cons a (.cons b .nil))
@[inline]abbrev bj(a:Int):ME:=.lit (.int a)
@[inline]abbrev ff(a:PySem.Str):ME:=.lit (.str a)
@[inline]abbrev cW(p:Pr)(a:ME):ME:=.prim p (.cons a .nil)
@[inline]abbrev bL(p:Pr)(a b:ME):ME:=.prim p (.cons a (.cons b .nil))
@[inline]abbrev aF:ME:=.var 0
@[inline]abbrev aX:ME:=.var 1
@[inline]abbrev qt:ME:=.var 10
@[inline]abbrev mr:ME:=.var 12
@[inline]abbrev vK:ME:=.var 13
@[inline]abbrev qr:ME:=.var 15
@[inline]abbrev vJ:ME:=.var 16
@[inline]abbrev bf:ME:=.var 2
@[inline]abbrev bw:ME:=.var 3
@[inline]abbrev cO:ME:=.var 4
@[inline]abbrev eK:ME:=.var 5
@[inline]abbrev fo:ME:=.var 6
@[inline]abbrev ji:ME:=.var 7
@[inline]abbrev oh:ME:=.var 8
abbrev J6:aV:=#[2,5,(.seq (.ifs (.dF (dR .Lt (cR aF (bj 2)) aX) (dR .Lt (cR aF (bj 1)) (cW .len (cR aF (bj 0))))) (.seq (.set 2 (cR (cR aF (bj 0)) (cR aF (bj 1)))) (.seq (.fe aF (bj 1) (bL (.bin .Add) (cR aF (bj 1)) (bj 1))) (.seq (.fe aF (bj 2) (bj 0)) (.seq (.ifs (dR .GtE bf (bL (.bin .Pow) (bj 10) (bj 18))) (.seq (.fe aF (bj 2) bf) .pass) (.seq (.fe aF (bj 3) (bL (.bin .Mod) (bL (.bin .Add) (bL (.bin .Add) (bL (.bin .Mult) (cR aF (bj 3)) (bj 48271)) (bL (.bin .Mult) (bL (.bin .Mod) bf (bj 2147483629)) (bj 69621))) (bj 12345)) (bj 2147483647))) .pass)) .pass)))) .pass) (.seq (.ifs (dR .GtE (cR aF (bj 2)) aX) (.seq (.set 3 (bL (.bin .Mod) (cR aF (bj 2)) aX)) (.seq (.fe aF (bj 2) (bL (.bin .FloorDiv) (cR aF (bj 2)) aX)) (.seq (.ret bw) .pass))) .pass) (.seq (.set 4 (cR aF (bj 3))) (.seq (.fe aF (bj 3) (bL (.bin .Mod) (bL (.bin .Add) (bL (.bin .Add) (bL (.bin .Mult) (bL (.bin .Mod) (bL (.bin .Mult) cO cO) (bj 2147483629)) (bj 5)) (bL (.bin .Mult) cO (bj 16811))) (bj 2531011)) (bj 2147483647))) (.seq (.ret (bL (.bin .Mod) (bL (.bin .Add) (bL (.bin .FloorDiv) (cR aF (bj 3)) (bj 59)) (bL (.bin .Mult) (bL (.bin .Mod) (cR aF (bj 3)) (bj 8191)) (bj 31))) aX)) .pass)))))]
structure k6(g:G)(d:Nat):Prop where
 ex:∃(s:Nat) (p b r:Int) (xs:@&Int),g[d]?=!.lst [.ref s,.int p,.int b,.int r]/\g[s]?=!.lst (xs.map .int)/\s<d/\0<=p/\0<=b/\0<=r/\r<2147483647
structure Gr(d:Nat)(g g':G):Prop where
 len:-g<=-g'
 old:∀i,i≠d->i< -g->g'[i]?=g[i]?
def Gr.refl(d:Nat)(g:G):Gr d g g:=#[aw _,λx x x=>rfl]
def Gr.trans{d:Nat}{g g1 g2:G}(a:Gr d g g1)(b:Gr d g1 g2):Gr d g g2:=#[aG a.len b.len,λi h1 h2=>(b.old i h1 (aD h2 a.len)).trans (a.old i h1 h2)]
def Gr.set(d:Nat)(g:G)(o:O):Gr d g (g.set d o):=#[by simp,λi h1 h2=>ax (bI h1)]
def Gr.snoc(d:Nat)(g:G)(o:O):Gr d g (g++[o]):=#[by simp,λi h1 h2=>aH h2]
def Gr.at{d:Nat}(h:Gr d g g')(hi:i≠d)(e:g[i]?=!o):g'[i]?=!o:=(h.old i hi (av.mp e).1).trans e
def n8(h:g[i]?=!o):i< -g:=(av.mp h).1
def k6.lt{d:Nat}(h:k6 g d):d< -g:=by
 let#[_,_,_,_,_,e,_]:=h.ex;exact n8 e
def k6.snoc{d:Nat}(h:k6 g d)(o:O):k6 (g++[o]) d:=by
 let#[s,p,b,r,xs,e1,e2,q]:=h.ex;exact#[s,p,b,r,xs,by rw[aH (n8 e1)];exact e1,by rw[aH (n8 e2)];exact e2,q]
abbrev i8:MS->MS
 |.seq _ b=>b
 |x=>x
def FO{i j:Int}(h1:-(2 ^ 64)<i)(h2:i<2 ^ 64):sI i j:=.inl #[h1,h2]
def uH{i j:Int}(h1:-(2 ^ 64)<j)(h2:j<2 ^ 64):sI i j:=.inr #[h1,h2]
def a42{d:Nat}{n:Int}{c2:Option D}(hN:N.rt=Q)(D0:k6 g d)(hn:0<n)(nK:n<1073741824)(h:∀r g',0<=r->r<n->k6 g' d->Gr d g g'->Q (.int r) g'):wpS P (i8 J6.body) N [!.ref d,!.int n,c2,none,none] g E:=by
 let#[s,p,b,r,xs,e1,e2,pH,hp,hb,hr,tQ]:=D0.ex;let dI:=n8 e1;subst hN;dsimp[J6,i8];walk_at "w2";refine if2 (λc=>?_) (λc=>?_)
 .walk_at "w2";refine Y4 hn ?_;walk_at "w2";refine Ab #[hn,nK] ?_;walk_at "w2";refine W9 e1 (by rfl) ?_;walk_at "w2";refine h _ _ (fu _ ()) (dW _ hn) #[s,p,b / n,r,xs,?_,?_,pH,hp,Int.ediv_nonneg hb (),hr,tQ] (Gr.set d g _)
  .rw[aM dI];rfl
  .rw[ax (cE pH)];exact e2
 .walk_at "w2";let Hm:-(2 ^ 64)<r/\r<2 ^ 64:=#[by omega,by omega]
  refine U0 (FO Hm.1 Hm.2) ?_;refine Y4 ∅ ?_;refine U0 (uH ∅ ∅) ?_;walk_at "w2";refine U0 (uH ∅ ∅) ?_;walk_at "w2";refine Y4 ∅ ?_;walk_at "w2";refine W9 e1 (by rfl) ?_;generalize fY:(r*r % 2147483629*5+r*16811+2531011) % 2147483647=r';let q0:0<=r':=by rw[<- fY];exact fu _ ∅
  let q1:r'<2147483647:=by rw[<- fY];exact dW _ ∅
  let CQ:(g.set d (.lst [.ref s,.int p,.int b,.int r']))[d]?=!.lst [.ref s,.int p,.int b,.int r']:=aM dI;change wpS P _ _ _ (g.set d (.lst [.ref s,.int p,.int b,.int r'])) E;walk_at "w2";refine Ab #[by decide,by decide] ?_;walk_at "w2";refine Y4 ∅ ?_;refine U0 (uH ∅ ∅) ?_;walk_at "w2";refine Y4 hn ?_;refine h _ _ (fu _ ()) (dW _ hn) #[s,p,b,r',xs,CQ,?_,pH,hp,hb,q0,q1] (Gr.set d g _);rw[ax (cE pH)];exact e2
def i4{T:Nat->Option aV}(hT:T 4=!J6){d:Nat}{n:Int}(D0:k6 g d)(hn:0<n)(nK:n<1073741824)(h:∀r g',0<=r->r<n->k6 g' d->Gr d g g'->Q (.int r) g'):b0 T (k+1) 4 [.ref d,.int n] g Q E:=by
 let#[s,p,b,r,xs,e1,e2,pH,hp,hb,hr,tQ]:=D0.ex;let dI:=n8 e1;refine call_of hT rfl ?_;let tail:∀(g':G) (c2:Option D),k6 g' d->Gr d g g'->wpS (b0 T k) (i8 J6.body) #[λx g'=>Q .bg g',Q,λx x=>False,λx x=>False] [!.ref d,!.int n,c2,none,none] g' E :=
  λg' c2 D1 gr=>a42 rfl D1 hn nK λr g2 a b c e=>h r g2 a b c (gr.trans e)
 delta J6;walk_at "w2";refine if2 (λc=>?_) (λc=>?_)
 .walk_at "w2";refine if2 (λc'=>?_) (λc'=>?_)
  .walk_at "w2";let jY:p.toNat< -xs:=by
    rw[au] at c';omega
   let ea:ia (xs.map D.int) p=!.int xs[p.toNat]:=by
    have:=A2 (xs:=xs.map D.int) (j:=p.toNat) (v:=.int xs[p.toNat]) (by rw[aj,ag jY];rfl)
    rwa [show((p.toNat:Nat):Int)=p by omega] at this
   refine q9 (a7 e2) ea ?_;generalize xs[p.toNat]=cell;walk_at "w2";refine W9 e1 (by rfl) ?_;let f1:(g.set d (.lst [.ref s,.int (p+1),.int b,.int r]))[d]?=!.lst [.ref s,.int (p+1),.int b,.int r]:=aM dI;walk_at "w2";refine W9 f1 (by rfl) ?_;rw[cV];let f2:(g.set d (.lst [.ref s,.int (p+1),.int 0,.int r]))[d]?=!.lst [.ref s,.int (p+1),.int 0,.int r]:=aM dI;change wpS (b0 T k) _ _ _ (g.set d (.lst [.ref s,.int (p+1),.int 0,.int r])) E;walk_at "w2";refine if2 (λc2=>?_) (λc2=>?_)
   .walk_at "w2";refine W9 f2 (by rfl) ?_;rw[cV];refine tail _ _ #[s,p+1,cell,r,xs,aM dI,by rw[ax (cE pH)];exact e2,pH,by omega,?_,hr,tQ] (Gr.set d g _);let IH:(0:Int)<=10 ^ (18:Int).toNat:=by decide
    omega
   .walk_at "w2";refine U0 (uH ∅ ∅) ?_;walk_at "w2";refine Y4 ∅ ?_;refine U0 (uH ∅ ∅) ?_;walk_at "w2";refine Y4 ∅ ?_;walk_at "w2";refine W9 f2 (by rfl) ?_;rw[cV];exact tail _ _ #[s,p+1,0,_,xs,aM dI,by rw[ax (cE pH)];exact e2,pH,by omega,by decide,fu _ ∅,dW _ ∅] (Gr.set d g _)
  .exact tail _ _ D0 (Gr.refl _ _)
 .exact tail _ _ D0 (Gr.refl _ _)
abbrev EF:aV:=#[1,1,(.seq (.ret (.dF (bL .isin aF (.lit (.ty "int"))) (.dQ (bL .isin aF (.lit (.ty "bool")))))) .pass)]
abbrev Y8:aV:=#[3,3,(.seq (.ret (.dF (.call 38 (dE aF)) (.chain .LtE .LtE aX aF bf))) .pass)]
structure NF(T:Nat->Option aV):Prop where
 nf:T 1=!Y8
 is:T 38=!EF
abbrev O0:aV:=#[1,3,(.seq (.set 1 (bj 0)) (.seq (.eL (.one 2) (.fQ aF) (.seq (.ifs (.dQ (.fC (.call 1 (gp bf aX (bj 7))))) (.seq (.ret (.lit (.bl false))) .pass) .pass) (.seq (.set 1 (bL (.bin .Add) bf (bj 1))) .pass))) (.seq (.ret (.lit (.bl true))) .pass)))]
abbrev Ah:aV:=#[1,1,(.seq (.ret (.prim .lst (nB (cW .list (bL (.ku false true) aF (bj 63))) (bj 0) (bj 0) (bj 29)))) .pass)]
abbrev xV:aV:=#[1,1,(.seq (.ret (.dF (bL .isin aF (.lit (.ty "int"))) (.dQ (bL .isin aF (.lit (.ty "bool")))))) .pass)]
abbrev J7:aV:=#[2,2,(.seq (.ifs (dR .Is aX (.lit .bg)) (.seq (.ret (bL (.cmp .Is) aF (.lit .bg))) .pass) .pass) (.seq (.ifs (.fC (bL .isin aX (.lit (.ty "bool")))) (.seq (.ret (.dF (bL .isin aF (.lit (.ty "bool"))) (bL (.cmp .Eq) aF aX))) .pass) .pass) (.seq (.ifs (.fC (bL .isin aX (.lit (.ty "int")))) (.seq (.ret (.dF (.call 6 (dE aF)) (bL (.cmp .Eq) aF aX))) .pass) .pass) (.seq (.ifs (.fC (bL .isin aX (.lit (.ty "str")))) (.seq (.ret (.dF (bL .isin aF (.lit (.ty "str"))) (bL (.cmp .Eq) aF aX))) .pass) .pass) (.seq (.ifs (.ke (dR .NotEq (bL .isin aX (.lit (.ty "tuple"))) (bL .isin aF (.lit (.ty "tuple")))) (dR .NotEq (bL .isin aX (.lit (.ty "list"))) (bL .isin aF (.lit (.ty "list"))))) (.seq (.ret (.lit (.bl false))) .pass) .pass) (.seq (.ifs (dR .NotEq (cW .len aF) (cW .len aX)) (.seq (.ret (.lit (.bl false))) .pass) .pass) (.seq (.ret (cW .all (.comp [1,0] 4 (.one 3) (.fE (cW .len aX)) .no (.call 7 (dP (cR aX bw) (cR aF bw)))))) .pass)))))))]
def R6{g:G}{n:Nat}:∀ms:@&Int,(ms.map D.int).mapM (rd g n)=!ms.map PyData.int
 |[]=>rfl
 |m::r=>by
  rw[bJ,jU,R6 r];cases n<;>rfl
def lay_ints:∀ms:@&Int,PyData.canLayAll0 (ms.map PyData.int)=true
 |[]=>by rfl
 |m::r=>by simp[PyData.canLayAll0,PyData.canLay0,lay_ints r]
def Lz:∀ms ns:@&Int,PyData.eqvAll (ms.map PyData.int) (ns.map PyData.int)=decide (ms=ns)
 |[],[]=>by rfl
 |[],_::_=>by rfl
 |_::_,[]=>by rfl
 |m::r,n::q=>by
  simp only[List.map_cons,PyData.eqvAll,PyData.eqv,Lz r q];by_cases h:m=n
  .subst h;simp
  .simp[h]
def Ez{i:Int}{k:Bool->Prop}(h:k (ms.any λm=>m==i)):pG g (.int i) (.tup (ms.map .int)) k:=by
 refine#[_,.inr #[_,_,_,rfl,R6 ms,rfl,lay_ints ms,by rfl,rfl],?_];rw[jc];exact h
def a93{k:Bool->Prop}(ha:c9 g a=!ms.map .int)(hb:c9 g b=!ns.map .int)(h:k (decide (ms=ns))):sy g (.ref a) (.ref b) k:=by
 refine#[_,.inr (.inr (.inr #[.list (ms.map .int),.list (ns.map .int),?_,?_,?_,?_,rfl])),?_]
 .simp only[rd];rw[ha];dsimp only;rw[R6];rfl
 .simp only[rd];rw[hb];dsimp only;rw[R6];rfl
 .simp[PyData.canLay0,lay_ints]
 .simp[PyData.canLay0,lay_ints]
 .simp only[PyData.eqv,Lz];exact h
section
variable{T:Nat->Option aV}{d:Nat}
def LY(h1:NF T){i:Int}(h:Q (.bl true) g):b0 T (k+1) 38 [.int i] g Q E:=by
 refine call_of h1.is rfl ?_;delta EF;walk_at "w2";refine gW (c:="int") (b:=true) ∅ rfl ?_;walk_at "w2";refine gW (c:="bool") (b:=false) ∅ rfl ?_;walk_at "w2";exact h
def m7(h1:NF T){i l m:Int}(h:Q (.bl (decide (l<=i)&&decide (i<=m))) g):b0 T (k+2) 1 [.int i,.int l,.int m] g Q E:=by
 refine call_of h1.nf rfl ?_;delta Y8;walk_at "w2";refine LY h1 ?_;walk_at "w2";refine if2 (λc=>?_) (λc=>?_)
 .rw[aA c] at h;walk_at "w2";exact h
 .rw[aI c] at h;exact h
abbrev gm:Int->@&Int->Bool
 |_,[]=>true
 |l,x::r=>(decide (l<=x)&&decide (x<=7))&&gm (x+1) r
def Mc(h1:NF T)(h2:T 2=!O0)(h:Q (.bl (gm 0 ms)) g):b0 T (k+3) 2 [.tup (ms.map .int)] g Q E:=by
 refine call_of h2 rfl ?_;refine A6 (a8 T _) (tL (a8 T _) ?_);walk_at "w2";refine#[_,rfl,_,λi Z g'=>g'=g/\∃(l:Int) (z:Option D),Z=[!.tup (ms.map .int),!.int l,z]/\gm 0 ms=gm l (ms.drop i),λy y y y=>x3,#[rfl,0,none,rfl,rfl],λi x Z g' hx p=>?_,λZ g' p=>?_]
 .let#[rfl,l,z,rfl,e]:=p;rw[aj] at hx;cases em:ms[i]? with
  |none=>rw[em] at hx;cases hx
  |some m =>
   rw[em] at hx;cases hx;let hi:=(av.mp em).1;let ed:ms.drop i=m::ms.drop (i+1):=by
    rw[eZ hi]
    congr 1
    exact(av.mp em).2
   rw[ed] at e;simp only[gm] at e;change wpS _ _ _ _ _ _;walk_at "w2";refine m7 h1 ?_;walk_at "w2";cases hc:(decide (l<=m)&&decide (m<=7)) with
   |true =>
    rw[hc,kI] at e;walk_at "w2";exact#[rfl,m+1,!.int m,rfl,e]
   |false =>
    rw[hc,Bool.false_and] at e;rw[e] at h;exact h
 .let#[rfl,l,z,rfl,e]:=p;rw[df #[_]] at e;rw[e] at h;exact h
def Uo(h3:T 3=!Ah)(hg:g[a]?=!.pS (ns.map .int))(h:∀d g',k6 g' d->-g<=d->(∀i,i< -g->g'[i]?=g[i]?)->Q (.ref d) g'):b0 T (k+1) 3 [.ref a] g Q E:=by
 refine call_of h3 rfl ?_;delta Ah;walk_at "w2";refine zy (a82 hg) ?_;refine Jw (l:=cut (ns.map D.int) none (!63)) (a7 #[_]) ?_;walk_at "w2";let ec:cut (ns.map D.int) none (!63)=(cut ns none (!63)).map D.int:=by
  unfold cut;simp[List.map_take,List.map_drop]
 refine h _ _ #[(-g)+1,0,0,29,cut ns none (!63),?_,?_,?_,by decide,by decide,by decide,by decide] #[_] (λi hi=>?_)
 .simp
 .rw[<- ec];simp
 .simp
 .simp[List.getElem?_append,hi,Nat.lt_of_lt_of_le hi (by omega:-g<=-g+1),Nat.lt_of_lt_of_le hi (by omega:-g<=-g+1+1)]
end
def Js:∀{ms:@&Int} {l:Int},ms.Pairwise (· < ·)->(∀m∈ms,l<=m/\m<=7)->gm l ms=true
 |[],_,_,_=>rfl
 |m::r,l,hp,h=>by
  let#[h1,h2]:=gP.mp hp;let hm:=h m #[_];simp only[gm];rw[aA hm.1,aA hm.2,Js h2 λx hx=>#[by have:=h1 x hx;omega,(h x (by simp[hx])).2]]
  rfl
def M6{l:List α}{r:Int}(h0:0<=r)(h1:r< -l):∃v,ia l r=!v/\v∈l:=by
 let hi:r.toNat< -l:=by omega
 refine#[l[r.toNat],?_,cj hi];have:=A2 (xs:=l) (j:=r.toNat) (v:=l[r.toNat]) (ag hi)
 rwa [show((r.toNat:Nat):Int)=r by omega] at this
section
variable{T:Nat->Option aV}
def MD(h7:T 7=!J7){a b:Bool}(h:Q (.bl (a==b)) g):b0 T (k+1) 7 [.bl a,.bl b] g Q E:=by
 refine call_of h7 rfl ?_;delta J7;walk_at "w2";walk_at "w2";refine gW (c:="bool") (b:=true) ∅ rfl ?_;walk_at "w2";refine gW (c:="bool") (b:=true) ∅ rfl ?_;walk_at "w2";exact h
end
abbrev E2:aV:=#[1,8,(.seq (.nE (.many [1,2,3,4,5]) aF) (.seq (.set 6 (.dF (.call 1 (gp aX (bj 1) (bj 99))) (.call 2 (dE bf)))) (.seq (.set 7 (.dF (.call 1 (gp bw (bj 1) (bj 99))) (.call 2 (dE cO)))) (.seq (.ret (.dF fo (.dF ji (.call 1 (gp eK (bj 0) (bj 9999)))))) .pass))))]
structure a9 where
 lo:Int
 lm:@&Int
 up:Int
 um:@&Int
 yr:Int
abbrev a9.d(c:a9):D:=.tup [.int c.lo,.tup (c.lm.map .int),.int c.up,.tup (c.um.map .int),.int c.yr]
abbrev x4(c:a9):Bool:=((decide (1<=c.lo)&&decide (c.lo<=99))&&gm 0 c.lm)&&(((decide (1<=c.up)&&decide (c.up<=99))&&gm 0 c.um)&&(decide (0<=c.yr)&&decide (c.yr<=9999)))
section
variable{T:Nat->Option aV}{d:Nat}
def aJ1(h1:NF T)(h2:T 2=!O0)(uf:T 12=!E2){c:a9}(h:Q (.bl (x4 c)) g):b0 T (k+4) 12 [c.d] g Q E:=by
 refine call_of uf rfl ?_;dsimp[E2,c8,List.replicate,a9.d];walk_at "w3";refine m7 h1 ?_;let s1:∀b:Bool,b=((decide (1<=c.lo)&&decide (c.lo<=99))&&gm 0 c.lm)->wpS (b0 T (k+3)) (i8 (i8 E2.body)) #[λx g'=>Q .bg g',Q,λx x=>False,λx x=>False] [!c.d,!.int c.lo,!.tup (c.lm.map .int),!.int c.up,!.tup (c.um.map .int),!.int c.yr,!.bl b,none] g E:=by
  intro b hb;dsimp[E2,i8];walk_at "w3";refine m7 h1 ?_;let s2:∀b':Bool,b'=((decide (1<=c.up)&&decide (c.up<=99))&&gm 0 c.um)->wpS (b0 T (k+3)) (i8 (i8 (i8 E2.body))) #[λx g'=>Q .bg g',Q,λx x=>False,λx x=>False] [!c.d,!.int c.lo,!.tup (c.lm.map .int),!.int c.up,!.tup (c.um.map .int),!.int c.yr,!.bl b,!.bl b'] g E:=by
   intro b' lz;dsimp[E2,i8];let e:x4 c=(b&&(b'&&(decide (0<=c.yr)&&decide (c.yr<=9999)))):=by unfold x4;rw[hb,lz]
   rw[e] at h;walk_at "w3";cases b
   .exact Z7 h
   .refine lW ?_;walk_at "w3";cases b'
    .exact Z7 h
    .refine lW ?_;walk_at "w3";exact m7 h1 h
  refine DH ?_;cases hc:(decide (1<=c.up)&&decide (c.up<=99)) with
  |false=>exact Z7 (s2 false (by rw[hc];rfl))
  |true =>
   refine lW ?_;walk_at "w1";walk_at "w1";walk_at "w1";walk_at "w1";exact Mc h1 h2 (s2 _ (by rw[hc];rfl))
 refine DH ?_;cases hc:(decide (1<=c.lo)&&decide (c.lo<=99)) with
 |false=>exact Z7 (s1 false (by rw[hc];rfl))
 |true =>
  refine lW ?_;walk_at "w1";walk_at "w1";walk_at "w1";walk_at "w1";exact Mc h1 h2 (s1 _ (by rw[hc];rfl))
end
abbrev V5:aV:=#[2,5,(.seq (.set 2 (cW .list aX)) (.seq (.set 3 (.prim .lst .nil)) (.seq (.eL (.one 4) (.fE (cW .len aX)) (.seq (.expr (.eW .append bw (dE (.eW .pop bf (dE (.call 4 (dP aF (cW .len bf)))))))) .pass)) (.seq (.ret bw) .pass))))]
def Lo{α:Type}:∀{l:List α} {j:Nat} (h:j< -l),(l[j]::l.eraseIdx j).Perm l
 |a::r,0,_=>by simp
 |a::r,j+1,h=>by
  simp only[List.getElem_cons_succ,List.eraseIdx_cons_succ];exact(List.Perm.swap _ _ _).trans ((Lo (l:=r) (j:=j) (by simpa using h)).cons a)
def Gr.P2{d x:Nat}(h:Gr d g g')(hx:-g<=x):Gr d g (g'.set x o):=#[by simp[h.len],λi h1 h2=>by rw[ax ()];exact h.old i h1 h2]
def k6.P2{d x:Nat}(h:k6 g d)(hx:d<x):k6 (g.set x o) d:=by
 let#[s,p,b,r,xs,e1,e2,hs,q]:=h.ex;exact#[s,p,b,r,xs,by rw[ax ()];exact e1,by rw[ax ()];exact e2,hs,q]
def b7:(g++[o])[(-g)]?=!o:=by simp
def p9(h:g[i]?=!o):(g++[o'])[i]?=!o:=by rw[aH (n8 h)];exact h
def get_set(h:g[i]?=!o):(g.set i o')[i]?=!o':=aM (n8 h)
def d0(h:g[i]?=!o)(hn:j≠i):(g.set j o')[i]?=!o:=by rw[ax hn];exact h
section
variable{T:Nat->Option aV}{d:Nat}
def LL(h4:T 4=!J6)(Cs:T 21=!V5)(ha:g[a]?=!.lst l)(hl:-l<=1000)(hd:a≠d)(D0:k6 g d)(h:∀(l':@&D) b g',l'.Perm l->g'[b]?=!.lst l'->-g<=b->k6 g' d->Gr d g g'->Q (.ref b) g'):b0 T (k+2) 21 [.ref d,.ref a] g Q E:=by
 refine call_of Cs rfl ?_;delta V5;show Jw (a7 ha) ?_;left;let dl:=D0.lt;refine A6 (a8 T _) (Z8 (a8 T _) ?_);left;let Ru:(g++[O.lst l]++[O.lst []])[a]?=!.lst l:=p9 (p9 ha);refine O3 (a7 Ru) ?_;refine #[_,rfl,by omega,by omega,j6 0 (-l),λi Z g'=>∃ left found w,Z=[!.ref d,!.ref a,!.ref (-g),!.ref (-g + 1),w]/\(left ++ found).Perm l/\-left + i=-l/\g'[(-g)]?=!.lst left/\g'[(-g) + 1]?=!.lst found/\k6 g' d/\Gr d g g',
  λi Z g p=>x3,?_,λi x Z g' hx p=>?_,λZ g' p=>?_]
 .refine#[l,[],none,?_,by simp,by simp,?_,?_,(D0.snoc _).snoc _,(Gr.snoc _ _ _).trans (Gr.snoc _ _ _)]
  .simp
  .exact p9 b7
  .have:=b7 (g:=g++[O.lst l]) (o:=O.lst []);simpa using this
 .let#[left,found,w,rfl,hp,hn,e1,e2,D1,G1]:=p;let#[hi,rfl]:=C8 hx;change wpS _ _ _ _ _ _;show i4 (n:=(-left:Int)) h4 D1 () () λr g2 r0 r1 D2 G2=>?_;let f1:=G2.at () e1;let f2:=G2.at () e2;let hr:r.toNat< -left:=by omega
  show Yn (j:=r.toNat) f1 () (ag hr) () ?_;show sT (d0 f2 ()) ?_ ?_
  .have:=hp.length_eq;simp at this;omega
  show#[_,_,_,rfl,?_,?_,d0 (get_set f1) (),get_set (d0 f2 ()),(D2.P2 ()).P2 (),((G1.trans G2).P2 ()).P2 ()]
  .refine List.Perm.trans ?_ hp;have:=Lo hr;refine List.Perm.trans ?_ (List.Perm.append_right found this);simp only[List.cons_append];rw[<- iB];exact(List.perm_append_singleton _ _)
  .rw[gQ hr];omega
 .let#[left,found,w,rfl,hp,hn,e1,e2,D1,G1]:=p;change wpS _ _ _ _ _ _;left;rw[j8] at hn;have:left=[]:=cX ();subst this;exact h _ _ _ (by simpa using hp) e2 () D1 G1
end
abbrev zP:aV:=#[1,5,(.seq (.set 1 (.prim .lst (Sw (.prim .tup .nil) (cW .tup (bj 0)) (bL .tup (bj 0) (bj 1)) (cW .tup (bj 1)) (.prim .tup (gp (bj 0) (bj 1) (bj 2))) (.prim .tup (nB (bj 0) (bj 1) (bj 2) (bj 7))) (cW .tup (bj 2))))) (.seq (.set 2 (cR aX (.call 4 (dP aF (cR (bL .tup (bj 4) (bj 7)) (cW .int (bL (.cmp .Eq) (.call 4 (dP aF (bj 4))) (bj 0)))))))) (.seq (.set 3 (cR aX (.call 4 (dP aF (bj 5))))) (.seq (.set 4 (cR (.prim .lst (Sv (bj 0) (bj 0) (bj 1400) (bj 1400) (bj 1401) (bj 1))) (.call 4 (dP aF (bj 6))))) (.seq (.ret (.prim .tup (rg (bL (.bin .Add) (bj 1) (.call 4 (dP aF (bj 3)))) bf (bL (.bin .Add) (bj 1) (.call 4 (dP aF (bj 4)))) bw cO))) .pass)))))]
abbrev L3:aV:=#[4,4,(.seq (.ifs (.ke (dR .Eq (cW .len aX) (bj 0)) (.dF (dR .Lt (cW .len aX) bw) (dR .Eq (.call 4 (dP aF (bj 3))) (bj 0)))) (.seq (.expr (.eW .append aX (dE bf))) (.seq (.ret (bL (.bin .Add) bf (bj 1))) .pass)) .pass) (.seq (.ifs (dR .Eq (.call 4 (dP aF (bj 5))) (bj 0)) (.seq (.fe aX (.call 4 (dP aF (cW .len aX))) bf) (.seq (.ret (bL (.bin .Add) bf (bj 1))) .pass)) .pass) (.seq (.ret bf) .pass)))]
structure jv(c:a9):Prop where
 good:x4 c=true
 l8:-c.lm<=8
 u8:-c.um<=8
def jv.mk'{lo up yr:Int}{lm um:@&Int}(h1:1<=lo)(h2:lo<=99)(h3:1<=up)(h4:up<=99)(h5:0<=yr)(h6:yr<=9999)(h7:gm 0 lm=true)(h8:gm 0 um=true)(h9:-lm<=8)(IH:-um<=8):jv #[lo,lm,up,um,yr]:=by
 refine#[?_,h9,IH];simp only[x4,h7,h8,decide_eq_true h1,decide_eq_true h2,decide_eq_true h3,decide_eq_true h4,decide_eq_true h5,decide_eq_true h6]
 rfl
def jv.inv{c:a9}(h:jv c):(1<=c.lo/\c.lo<=99)/\gm 0 c.lm=true/\(1<=c.up/\c.up<=99)/\gm 0 c.um=true/\0<=c.yr/\c.yr<=9999:=by
 have:=h.good;unfold x4 at this;simp only[Bool.and_eq_true,decide_eq_true_eq] at this;let#[#[#[a,b],e],#[#[c',d],f],p,q]:=this;exact#[#[a,b],e,#[c',d],f,p,q]
abbrev X5:@&(@&Int):=[[],[0],[0,1],[1],[0,1,2],[0,1,2,7],[2]]
def Ub:∀ms∈X5,gm 0 ms=true/\-ms<=8:=by decide
def MH{r:Int}(h0:0<=r)(h7:r<7):∃ms,ia (X5.map λms=>D.tup (ms.map .int)) r=!.tup (ms.map .int)/\gm 0 ms=true/\-ms<=8:=by
 let#[v,hv,hm]:=M6 (l:=X5.map λms=>D.tup (ms.map .int)) h0 (by simpa[X5] using h7);let#[ms,h1,rfl]:=aL.mp hm;exact#[ms,hv,Ub ms h1]
section
variable{T:Nat->Option aV}{d:Nat}
def aN8(h4:T 4=!J6)(Sn:T 22=!zP)(D0:k6 g d)(h:∀c g',jv c->k6 g' d->Gr d g g'->Q c.d g'):b0 T (k+2) 22 [.ref d] g Q E:=by
 refine call_of Sn rfl ?_;delta zP;let dl:=D0.lt;left;let D1:=D0.snoc (.lst (X5.map λms=>D.tup (ms.map .int)));let G1:=Gr.snoc d g (.lst (X5.map λms=>D.tup (ms.map .int)));let e1:(g++[O.lst (X5.map λms=>D.tup (ms.map .int))])[(-g)]?=!(.lst (X5.map λms=>D.tup (ms.map .int))):=b7;refine i4 h4 D1 ∅ ∅ λr g2 r0 r1 D2 G2=>?_;left;let e2:=G2.at () e1;let hn:∃n:Int,ia [D.int 4,D.int 7] (if decide (r=0)=true then 1 else 0)=!.int n/\0<n/\n<=7:=by
  by_cases hr:r=0
  .exact#[7,by rw[aA hr];rfl,by decide,by decide]
  .exact#[4,by rw[aI hr];rfl,by decide,by decide]
 let#[n,en,n0,n7]:=hn;refine x8 en ?_;show i4 h4 D2 n0 () λr3 g3 ju jE D3 G3=>?_;let e3:=G3.at () e2;let#[lm,el,gl,ll]:=MH ju ();refine q9 (a7 e3) el ?_;show i4 h4 D3 ∅ ∅ λr4 g4 rB tH D4 G4=>?_;let e4:=G4.at () e3;let#[um,eu,gu,lu]:=MH rB ();refine q9 (a7 e4) eu ?_;left;let e5:(g4++[O.lst [.int 0,.int 0,.int 1400,.int 1400,.int 1401,.int 1]])[(-g4)]?=!.lst [.int 0,.int 0,.int 1400,.int 1400,.int 1401,.int 1]:=b7;refine i4 h4 (D4.snoc _) ∅ ∅ λr5 g5 lU lT D5 G5=>?_;let e6:=G5.at (by have:=D4.lt;omega) e5;let#[v,hv,hm]:=M6 (l:=[D.int 0,.int 0,.int 1400,.int 1400,.int 1401,.int 1]) lU (by simpa using lT);let hy:∃y:Int,v=.int y/\0<=y/\y<=9999:=by
  simp only[List.mem_cons,List.mem_nil_iff,or_false] at hm;rcases hm with rfl|rfl|rfl|rfl|rfl|rfl<;>exact#[_,rfl,by decide,by decide]
 let#[y,rfl,y0,y1]:=hy;refine q9 (a7 e6) hv ?_;show i4 h4 D5 ∅ ∅ λr6 g6 Ho Hn D6 G6=>?_;show i4 h4 D6 ∅ ∅ λr7 g7 r70 r71 D7 G7=>?_;left;exact h #[1+r6,lm,1+r7,um,y] _ (jv.mk' () () () () y0 y1 gl gu ll lu) D7 (G1.trans (G2.trans (G3.trans (G4.trans ((Gr.snoc _ _ _).trans (G5.trans (G6.trans G7)))))))
abbrev Gm(l:@&D)(f:Int):Prop:=∃ns:@&Int,l=ns.map .int/\∀n∈ns,1<=n/\n<f
def a36(h4:T 4=!J6)(wL:T 23=!L3)(ha:g[a]?=!.lst l)(hl:-l<1000)(hs:Gm l f)(f1:1<=f)(hd:d<a)(D0:k6 g d)(h:∀(l':@&D) (f':Int) g',l'≠[]->-l'<=-l+1->Gm l' f'->f<=f'->f'<=f+1->g'[a]?=!.lst l'->k6 g' d->(∀i,i≠d->i≠a->i< -g->g'[i]?=g[i]?)->-g<=-g'->Q (.int f') g'):b0 T (k+2) 23 [.ref d,.ref a,.int f,.int v] g Q E:=by
 refine call_of wL rfl ?_;let#[ns,rfl,nh]:=id hs;let app:∀g':G,g'[a]?=!.lst (ns.map D.int)->k6 g' d->Gr d g g'->wpS (b0 T (k+1)) (.seq (.expr (.eW .append (.var 1) (.cons (.var 2) .nil))) (.seq (.ret (.prim (.bin .Add) (.cons (.var 2) (.cons (.lit (.int 1)) .nil)))) .pass)) #[λjt g1=>wpS (b0 T (k+1)) (i8 L3.body) #[λx g'=>Q .bg g',Q,λx x=>False,λx x=>False] jt g1 E,Q,λx x=>False,λx x=>False] [!.ref d,!.ref a,!.int f,!.int v] g' E:=by
  intro g' e D1 G1;show sT e () ?_;show h _ _ _ #[_] #[_] #[ns++[f],by simp,λn hn=>?_] () () (get_set e) (D1.P2 hd) (λi h1 h2 h3=>?_) (by simp[G1.len])
  .rcases aW.mp hn with z|z
   .have:=nh n z;omega
   .simp at z;omega
  .rw[ax (bI h2)];exact G1.old i h1 h3
 let rest:∀g':G,g'[a]?=!.lst (ns.map D.int)->ns≠[]->k6 g' d->Gr d g g'->wpS (b0 T (k+1)) (i8 L3.body) #[λx g'=>Q .bg g',Q,λx x=>False,λx x=>False] [!.ref d,!.ref a,!.int f,!.int v] g' E:=by
  intro g' e dD D1 G1;dsimp[L3,i8];show i4 h4 D1 ∅ ∅ λr g2 r0 r1 D2 G2=>?_;let e2:=G2.at () e;let hlen:0< -ns:=GN.mpr dD;show if2 (λc=>?_) (λc=>?_)
  .left;rw[au];refine i4 h4 D2 () (by simp at hl;omega) λr3 g3 ju jE D3 G3=>?_;let e3:=G3.at () e2;let hj:mx (ns.map D.int).length r3=!r3.toNat:=by
    unfold mx;rw[ay ju,ay (by rw[au];exact jE)]
   refine W9 e3 hj ?_;show h _ _ _ (by simp[dD]) #[_] #[ns.set r3.toNat f,by simp,λn hn=>?_] () () (get_set e3) (D3.P2 hd) (λi h1 h2 h3=>?_) (by simp[((G1.trans G2).trans G3).len])
   .rcases cu hn with z|z
    .have:=nh n z;omega
    .omega
   .rw[ax (bI h2)];exact((G1.trans G2).trans G3).old i h1 h3
  .left;exact h _ _ _ (by simp[dD]) #[_] hs () () e2 D2 (λi h1 h2 h3=>(G1.trans G2).old i h1 h3) (G1.trans G2).len
 delta L3;show if2 (λc=>?_) (λc=>?_)
 .refine lW ?_;exact app g ha D0 (Gr.refl _ _)
 .let dD:ns≠[]:=λz=>c (by rw[z];rfl);show if2 (λc2=>?_) (λc2=>?_)
  .show i4 h4 D0 ∅ ∅ λr g2 r0 r1 D2 G2=>?_;show if2 (λc3=>?_) (λc3=>?_)
   .exact app g2 (G2.at () ha) D2 G2
   .exact rest g2 (G2.at () ha) dD D2 G2
  .exact rest g ha dD D0 (Gr.refl _ _)
end
abbrev M8:aV:=#[3,17,(.seq (.set 3 (.prim .lst .nil)) (.seq (.set 4 (bj 1)) (.seq (.set 5 (.prim .V9 .nil)) (.seq (.set 6 (cR (.prim .lst (gp (bj 0) (bj 1) (bj 1350))) (.call 4 (dP aF (bj 3))))) (.seq (.set 7 (bL (.bin .Add) (bj 1) (.call 4 (dP aF (bj 96))))) (.seq (.set 8 (bL (.bin .Add) (bj 2) (.call 4 (dP aF (bj 4))))) (.seq (.set 9 (bL .max (bj 0) (bL (.bin .Sub) (.call 4 (dP aF (bj 9))) (bj 6)))) (.seq (.set 10 (.prim .lst .nil)) (.seq (.eL (.one 11) (.fE aX) (.seq (.set 4 (.call 23 (nB aF bw cO bf))) (.seq (.set 12 (bL .tup (cR bw (.call 4 (dP aF (cW .len bw)))) (bL (.bin .Add) (bj 50) (.call 4 (dP aF (bL (.bin .Add) (bj 2) bf)))))) (.seq (.eL (.one 13) (.fQ mr) (.seq (.ifs (dR .Eq (.call 4 (dP aF oh)) (bj 0)) (.seq (.set 14 (.call 4 (dP aF (bj 8)))) (.seq (.fe eK vK (cW .tuple (.comp [13,14,5] 5 (.one 4) (.fE (bj 8)) (.ke (dR .Eq cO aX) (dR .In cO (.eW .get bf (dP aF (.prim .tup .nil))))) cO))) .pass)) .pass) .pass)) (.seq (.ifs (dR .Eq (.call 4 (dP aF (bj 5))) (bj 0)) (.seq (.set 6 (bL .min (bj 9999) (bL (.bin .Add) (bL (.bin .Add) fo (bj 1)) (.call 4 (dP aF (bj 9)))))) .pass) .pass) (.seq (.set 15 (.comp [9,7] 4 (.one 3) (.fQ mr) .no (bL (.bin .Add) (bL (.bin .Add) (bj 1) aF) (bL (.bin .Mod) (bL (.bin .Mult) bw aX) (bj 97))))) (.seq (.set 16 (bL (.bin .Mult) fo (cW .int (bL (.cmp .Gt) (.call 4 (dP aF (bj 4))) (bj 0))))) (.seq (.expr (.eW .append qt (dE (.prim .tup (rg (cR qr (bj 0)) (.eW .get eK (dP (cR mr (bj 0)) (.prim .tup .nil))) (cR qr (bj 1)) (.eW .get eK (dP (cR mr (bj 1)) (.prim .tup .nil))) vJ))))) .pass)))))))) (.seq (.ret qt) .pass))))))))))]
abbrev qb(kvs:@&(Key×D)):Prop:=∀k v,v8 kvs k=!v->∃ms:@&Int,v=.tup (ms.map .int)/\gm 0 ms=true/\-ms<=8
set_option tactic.hygienic true in
def Xw(kvs:@&(Key×D))(k k':Key)(v:D):v8 (putD kvs k v) k'=if k'=k then some v else v8 kvs k':=by
 unfold putD;split
 .rename_i rV;let go:∀l:@&(Key×D),v8 (l.map λkv=>if kv.1=k then(kv.1,v) else kv) k'=if k'=k then(if(l.any λkv=>decide (kv.1=k))=true then some v else none) else v8 l k':=by
   intro l
   induction l with
   |nil=>simp[v8]
   |cons p r ih =>
    let#[pk,pv]:=p;by_cases e:pk=k
    .subst e;by_cases e2:k'=pk
     .subst e2;simp[v8]
     .have:¬pk=k':=λz=>e2 z.symm;unfold v8 at ih ⊢;simp[this,e2] at ih ⊢;exact ih
    .by_cases e2:k'=k
     .subst e2;unfold v8 at ih ⊢;rw[dZ,show decide (pk=k')=false from aI e,iJ];simp[e] at ih ⊢;exact ih
     .unfold v8 at ih ⊢;simp only[List.map_cons,e,if_false,List.find?_cons];by_cases e3:pk=k'
      .simp[e3,e2]
      .simp[e3];simp[e2] at ih;simp[e2];exact ih
  rw[go,rV]
  rfl
 .rename_i rV;unfold v8;rw[iA];by_cases e:k'=k
  .subst e;have:kvs.find? (λkv=>decide (kv.1=k'))=none:=by
    rw[gS];intro x hx hd;exact rV (aO.mpr #[x,hx,hd])
   rw[this];simp
  .have:¬k=k':=λz=>e z.symm;simp[this,e]
def WL(kvs:@&(Key×D))(k:Key)(v:D):(putD kvs k v).length<=-kvs+1:=by
 unfold putD;split<;>simp
def qb.put{k:Key}(h:qb kvs)(h1:gm 0 ms=true)(h2:-ms<=8):qb (putD kvs k (.tup (ms.map .int))):=λk' v hv=>by
 rw[Xw] at hv;split at hv
 .cases hv;exact#[ms,rfl,h1,h2]
 .exact h k' v hv
def qb.get(h:qb kvs)(k:Key):∃ms:@&Int,(v8 kvs k).getD (.tup [])=.tup (ms.map .int)/\gm 0 ms=true/\-ms<=8:=by
 cases e:v8 kvs k with
 |none=>exact#[[],rfl,rfl,by simp]
 |some v=>let#[ms,rfl,h1,h2]:=h k v e;exact#[ms,rfl,h1,h2]
def a89(p:Int->Bool):gm 0 (((List.range 8).map λ(n:Nat)=>(n:Int)).filter p)=true/\(((List.range 8).map λ(n:Nat)=>(n:Int)).filter p).length<=8:=by
 refine#[Js (List.Pairwise.filter _ ∅) λm hm=>?_,aG (dk _ _) ∅];have:=(bt.mp hm).1;revert this;revert m;intro m _ hm;simp at hm;let#[a,ha,rfl]:=hm;omega
def List.ag1{l:List α}{x:α}(h:l[i]?=!x):l.set i x=l:=by
 apply cK;intro j;by_cases e:i=j
 .subst e;rw[aM (av.mp h).1];exact h.symm
 .rw[ax e]
section
variable{T:Nat->Option aV}{d:Nat}
abbrev Xy:MS:=match M8.body with
 |.seq _ (.seq _ (.seq _ (.seq _ (.seq _ (.seq _ (.seq _ (.seq _ (.seq (.eL _ _ (.seq _ (.seq _ (.seq (.eL _ _ b) _)))) _))))))))=>b
 |x=>x
def Vy(h4:T 4=!J6){w0:Nat}{key wr:Int}{Z:S}(hw:g[w0]?=!.fb kvs)(W:qb kvs)(hk:-kvs<1000)(hr:0<wr)(tQ:wr<1000)(hd:d<w0)(D0:k6 g d)(s0:Z[0]?=!!.ref d)(s5:Z[5]?=!!.ref w0)(s8:Z[8]?=!!.int wr)(Pz:Z[13]?=!!.int key)(sl:-Z=17)(h:∀z fg g',g'[w0]?=!.fb fg->qb fg->-fg<=-kvs+1->k6 g' d->(∀i,i≠d->i≠w0->i< -g->g'[i]?=g[i]?)->-g<=-g'->N.nx (Z.set 14 z) g'):wpS (b0 T (k+1)) Xy N Z g E:=by
 obtain⟨nA,Tc⟩:∃z,Z[14]?=!z:=#[_,ag ()]
 refine xG (FD (FF (ya (zz (U8 (w_var s0 (U8 (w_var s8 (Aj ?_)))))))));refine i4 h4 D0 hr () λr g2 r0 r1 D2 G2=>?_;show if2 (λc=>?_) (λc=>?_)
 .refine uF (Ak (zz (U8 (w_var s0 (U8 (w_lit (Aj ?_)))))));refine i4 h4 D2 ∅ ∅ λr3 g3 ju jE D3 G3=>?_;let e3:=(G2.trans G3).at () hw;let t5:(Z.set 14 (!.int r3))[5]?=!!.ref w0:=by rw[ax ∅];exact s5
  let Hb:(Z.set 14 (!.int r3))[13]?=!!.int key:=by rw[ax ∅];exact Pz
  let Pu:(Z.set 14 (!.int r3))[14]?=!!.int r3:=aM ();let#[ms,em,_,_]:=W.get (.inl key);refine xG (Nb (xZ ?_));refine aT5 (a8 T _) (w_lit #[8,rfl,by decide,λi ys cB g'=>g'=g3/\-ys<=i/\(∃z w,cB=[!.int key,!.int r3,!.ref w0,z,w])/\ys=((((List.range i).map λ(n:Nat)=>(n:Int)).filter λs=>decide (s=r3)||ms.any λm=>m==s).map D.int),#[rfl,by simp,#[none,none,?_],rfl],λi ys Z g' p=>p.2.1,λi ys cB g' hi p=>?_,λys cB g' p=>?_])
  .simp[L5,Hb,Pu,t5,List.replicate]
  .let#[rfl,hl,#[z,w,rfl],e]:=p;let er:(List.range (i+1)).map (λ(n:Nat)=>(n:Int))=(List.range i).map (λ(n:Nat)=>(n:Int))++[(i:Int)]:=by rw[gE];simp
   let yes:(decide ((i:Int)=r3)||ms.any λm=>m==(i:Int))=true->aY (b0 T (k+1)) (.var 4) [!.int key,!.int r3,!.ref w0,z,!.int i] g' (λy g4=>g4=g'/\(ys++[y]).length<=i+1/\(∃z' w',[!.int key,!.int r3,!.ref w0,z,!D.int i]=[!.int key,!.int r3,!.ref w0,z',w'])/\(ys++[y])=((((List.range (i+1)).map λ(n:Nat)=>(n:Int)).filter λs=>decide (s=r3)||ms.any λm=>m==s).map D.int)) jZ:=λhc=>by
    show#[rfl,by simp;omega,#[_,_,rfl],?_];rw[er,gT,cP,<- e];simp[hc]
   show if2 (λc1=>?_) (λc1=>?_)
   .refine lW ?_;exact yes (by rw[aA c1];rfl)
   .show Fn e3 (k:=.inl key) rfl ?_;rw[em];refine oY (Ez ?_);left;cases hc:(ms.any λm=>m==(i:Int)) with
    |true =>
     refine lW ?_;exact yes (by rw[hc];simp)
    |false =>
     refine Z7 ?_;refine#[rfl,by omega,#[_,_,rfl],?_];rw[er,gT,cP,<- e];simp[hc,c1]
  .let#[rfl,hl,_,e]:=p;subst e;refine JS (a7 b7) ?_;let#[f1,f2]:=a89 λs=>decide (s=r3)||ms.any λm=>m==s
   refine w_var t5 (w_var Hb ?_);refine JH (p9 e3) (k:=.inl key) rfl () ?_;refine h _ _ _ (get_set (p9 e3)) (W.put f1 f2) (WL _ _ _) ((D3.snoc _).P2 hd) (λi h1 h2 h3=>?_) ?_
   .rw[ax (bI h2),aH (aD h3 (G2.trans G3).len)];exact(G2.trans G3).old i h1 h3
   .have:=(G2.trans G3).len;simp;omega
 .refine G0 ?_;let e2:=G2.at () hw;have:=h nA kvs g2 e2 W () D2 (λi h1 h2 h3=>G2.old i h1 h3) G2.len
  rwa [List.ag1 Tc] at this
end
section
variable{T:Nat->Option aV}{d:Nat}
abbrev T3:MS:=match M8.body with
 |.seq _ (.seq _ (.seq _ (.seq _ (.seq _ (.seq _ (.seq _ (.seq _ (.seq (.eL _ _ b) _))))))))=>b
 |x=>x
structure jJ(d s0 w0 f0 i:Nat)(g:G)(f y:Int):Prop where
 Hf:∃l,g[s0]?=!.lst l/\Gm l f/\-l<=i
 fr:1<=f/\f<=1+i
 Pj:∃kvs,g[w0]?=!.fb kvs/\qb kvs/\-kvs<=2*i
 found:∃cs:@&a9,g[f0]?=!.lst (cs.map a9.d)/\-cs=i/\∀c∈cs,jv c
 year:0<=y/\y<=9999
 dr:k6 g d
def aM3{s0 w0 f0 n0:Nat}{n y st wr sh:Int}{yy Ph Pf Pe AI AH:Option D}(h4:T 4=!J6)(wL:T 23=!L3)(S:jJ d s0 w0 f0 i g f y)(hi:i<=100)(hv:1<=v/\v<=100)(fh:1<=st/\st<=96)(ky:0<wr/\wr<1000)(kL:0<=sh/\sh<=2)(o1:d<n0)(o2:n0<=s0)(o3:s0<w0)(o4:w0<f0)(h:∀f' y' uX oQ nA uW uV g',jJ d s0 w0 f0 (i+1) g' f' y'->(∀j,j≠d->j<n0->g'[j]?=g[j]?)->-g<=-g'->N.nx [!.ref d,!.int n,!.int v,!.ref s0,!.int f',!.ref w0,!.int y',!.int st,!.int wr,!.int sh,!.ref f0,yy,uX,oQ,nA,uW,uV] g') :
  wpS (b0 T (k+2)) T3 N [!.ref d,!.int n,!.int v,!.ref s0,!.int f,!.ref w0,!.int y,!.int st,!.int wr,!.int sh,!.ref f0,yy,Ph,Pf,Pe,AI,AH] g E:=by
 let#[#[l,es,hs,hl],#[f1,f2],#[kvs,ew,W,hk],#[cs,ef,hc,hg],#[y0,y1],D0]:=S;let lf:=n8 ef;dsimp[T3,M8];show a36 h4 wL es () hs f1 () D0 λl1 f' g1 dD kz HI f3 f5 ir D1 pD ij=>?_;let IW:g1[w0]?=!.fb kvs:=(pD w0 () () (n8 ew)).trans ew;let Ja:g1[f0]?=!.lst (cs.map a9.d):=(pD f0 () () lf).trans ef;left;let gK:0< -l1:=GN.mpr dD;refine i4 (n:=(-l1:Int)) h4 D1 () () λr2 g2 jg jf D2 G2=>?_;let pV:=G2.at () ir;let IV:=G2.at () IW;let IZ:=G2.at () Ja;let#[x,hx,hm]:=M6 (l:=l1) jg jf;let#[ns,rfl,nh]:=id HI;let#[k1,qy,rfl]:=aL.mp hm;refine q9 (a7 pV) hx ?_;show i4 (n:=2+v) h4 D2 () () λr3 g3 ju jE D3 G3=>?_;let CO:=G3.at () pV;let IU:=G3.at () IV;let CP:=G3.at () IZ;left;let kb1:=nh k1 qy;let vq:∀j,j≠d->j<n0->g3[j]?=g[j]?:=λj a b=>by
  let lj:j< -g:=by omega
  rw[G3.old j a (by have:=G2.len;(clear hi hv fh ky kL o1 hl f1 f2 hk hc y0 y1 f3 f5 jg kz gK jf ju jE kb1 a lj;omega)),G2.old j a (),pD j a () lj]
 let jh:-g<=-g3:=by have:=G2.len;have:=G3.len;(clear hi hv fh ky kL o1 o2 o3 o4 hl f1 f2 hk hc y0 y1 lf f3 f5 jg kz gK jf ju jE kb1;omega)
 refine A6 (a8 T _) (tL (a8 T _) ?_);show #[_,rfl,_,λj Z g'=>∃ fg oQ nA,Z=[!.ref d,!.int n,!.int v,!.ref s0,!.int f',!.ref w0,!.int y,!.int st,!.int wr,!.int sh,!.ref f0,yy,!.tup [.int k1,.int (50 + r3)],oQ,nA,AI,AH]/\g'[w0]?=!.fb fg/\qb fg/\-fg <= 2 * i + j/\k6 g' d/\(∀ j,j ≠ d->j ≠ w0->j < -g3->g'[j]?=g3[j]?)/\-g3 <= -g',
  λu u u u=>x3,#[kvs,_,_,rfl,IU,W,by omega,D3,λu u u u=>rfl,aw _],λj x Z g' hx p=>?_,λZ g' p=>?_]
 .let#[fg,oQ,nA,rfl,SN,W',oU,D',AX,vH]:=p;let ly:∃key:Int,x=.int key/\j<2:=by
   match j,hx with
   |0,hx=>cases hx;exact#[_,rfl,by decide]
   |1,hx=>cases hx;exact#[_,rfl,by decide]
   |j+2,hx=>simp at hx
  let#[key,rfl,hj]:=ly;change wpS _ _ _ _ _ _;refine Vy (k:=k+1) h4 SN W' (by(clear hv fh ky kL o1 o2 o3 o4 hl f1 f2 hk y0 y1 lf f3 f5 ij jg kz gK jf ju jE kb1 jh vH;omega)) ky.1 ky.2 () D' rfl rfl rfl rfl rfl λz Bg g2' e2 W2 wj D2' rF vG=>?_;exact#[Bg,_,_,rfl,e2,W2,by(clear hi hv fh ky kL o1 o2 o3 o4 hl f1 f2 hk y0 y1 lf f3 f5 ij jg kz gK jf ju jE kb1 jh vH hj vG;omega),D2',λj a b c=>(rF j a b ()).trans (AX j a b c),by(clear hi hv fh ky kL o1 o2 o3 o4 hl f1 f2 hk hc y0 y1 lf f3 f5 ij jg kz gK jf ju jE kb1 jh oU hj wj;omega)]
 let#[vL,oQ,nA,rfl,SM,W4,mE,D4,pC,jX]:=p;let SR:g'[s0]?=!.lst (ns.map D.int):=(pC s0 () () (n8 CO)).trans CO;let SW:g'[f0]?=!.lst (cs.map a9.d):=(pC f0 () () (n8 CP)).trans CP;let vp:∀j,j≠d->j<n0->g'[j]?=g[j]?:=λj a b=>(pC j a () (by(clear hi hv fh ky kL o1 hl f1 f2 hk hc y0 y1 f3 f5 ij jg kz gK jf ju jE kb1 mE jX a;omega))).trans (vq j a b);clear pC vq G2 G3 ir IW Ja pV IV IZ CO IU CP pD;let mE:-vL<=2*(i+1):=by omega
 change wpS _ _ _ _ _ _;show i4 h4 D4 ∅ ∅ λr5 g5 lU lT D5 G5=>?_;left;let tail:∀(y':Int) (g6:G),0<=y'->y'<=9999->k6 g6 d->Gr d g' g6->wpS (b0 T (k+2)) (i8 (i8 (i8 (i8 T3)))) N [!.ref d,!.int n,!.int v,!.ref s0,!.int f',!.ref w0,!.int y',!.int st,!.int wr,!.int sh,!.ref f0,yy,!.tup [.int k1,.int (50+r3)],oQ,nA,AI,AH] g6 E:=by
  intro y' g6 nD nC D6 G6;let SQ:=G6.at () SR;let SK:=G6.at () SM;let zh:=G6.at () SW;dsimp[T3,M8,i8];show aT4 (a8 T _) ?_;show#[_,rfl,by simp,λj ys Z g7=>g7=g6/\(∃z w,Z=[!.int sh,!.int st,z,w])/\ys=([k1,50+r3].take j).map (λkey=>D.int (1+sh+key*st % 97)),#[rfl,#[none,none,rfl],rfl],λj ys Z g7 p=>?_,λj x ys Z g7 hx p=>?_,λys Z g7 p=>?_]
  .let#[rfl,_,rfl]:=p;simp;omega
  .let#[rfl,#[z,w,rfl],rfl]:=p;let ly:∃key:Int,x=.int key/\([k1,50+r3].take j).map (λkey=>D.int (1+sh+key*st % 97))++[D.int (1+sh+key*st % 97)]=([k1,50+r3].take (j+1)).map (λkey=>D.int (1+sh+key*st % 97)):=by
    match j,hx with
    |0,hx=>cases hx;exact#[_,rfl,rfl]
    |1,hx=>cases hx;exact#[_,rfl,rfl]
    |j+2,hx=>simp at hx
   let#[key,rfl,he]:=ly;change dY _ _ _ _ _ _;show U0 (uH () ()) ?_;left;exact#[rfl,#[_,_,rfl],he]
  let#[rfl,_,rfl]:=p;let eN:(g7++[O.lst [D.int (1+sh+k1*st % 97),D.int (1+sh+(50+r3)*st % 97)]])[(-g7)]?=!.lst [D.int (1+sh+k1*st % 97),D.int (1+sh+(50+r3)*st % 97)]:=b7;change wpS _ _ _ _ (g7++[O.lst [D.int (1+sh+k1*st % 97),D.int (1+sh+(50+r3)*st % 97)]]) _;show i4 h4 (D6.snoc _) ∅ ∅ λr8 g8 nV nU D8 G8=>?_;let l7:=D6.lt;let eN8:=G8.at () eN;let SO:=G8.at () (p9 SQ);let CN:=G8.at () (p9 SK);let IY:=G8.at () (p9 zh);show U0 (FO () ()) ?_;left;let#[lm,el,gl,ll]:=W4.get (.inl k1);let#[um,eu,gu,lu]:=W4.get (.inl (50+r3));refine Fn CN (k:=.inl k1) rfl ?_;rw[el];show Fn CN (k:=.inl (50+r3)) rfl ?_;rw[eu];show sT IY (by simp;omega) ?_;generalize kf:y'*(if decide (0<r8)=true then 1 else 0)=ty;let mU:0<=ty/\ty<=9999:=by
   rw[<- kf];split<;>simp<;>omega
  show h f' y' _ _ _ _ _ _ #[#[_,d0 SO (),HI,by(clear hi hv fh ky kL o1 o2 o3 o4 f1 f2 hk y0 y1 lf f3 f5 ij jg gK jf ju jE kb1 jh jX mE lU lT nD nC nV nU l7 ll lu kf mU;omega)],#[by omega,by(clear hi hv fh ky kL o1 o2 o3 o4 hl f1 hk y0 y1 lf ij jg kz gK jf ju jE kb1 jh jX mE lU lT nD nC nV nU l7 ll lu kf mU;omega)],#[vL,d0 CN (),W4,mE],#[cs++[#[1+sh+k1*st % 97,lm,1+sh+(50+r3)*st % 97,um,ty]],?_,by simp[hc],?_],#[nD,nC],D8.P2 ()] (λj a b=>?_) ?_
  .rw[get_set IY];simp[a9.d]
  .intro c jO;rcases aW.mp jO with z|z
   .exact hg c z
   .simp at z;subst z;let m1:=fu (k1*st) (show(97:Int)≠0 by decide);let m2:=dW (k1*st) (show(0:Int)<97 by decide);let m3:=fu ((50+r3)*st) (show(97:Int)≠0 by decide);let m4:=dW ((50+r3)*st) (show(0:Int)<97 by decide);exact jv.mk' (by(clear hi hv fh ky o1 o2 o3 o4 hl f1 f2 hk hc y0 y1 lf f3 f5 ij jg kz gK jf ju jE kb1 jh jX mE lU lT nD nC nV nU l7 ll lu kf mU m2 m3 m4;omega)) (by(clear hi hv fh ky o1 o2 o3 o4 hl f1 f2 hk hc y0 y1 lf f3 f5 ij jg kz gK jf ju jE kb1 jh jX mE lU lT nD nC nV nU l7 ll lu kf mU m2 m3 m4;omega)) (by(clear hi hv fh ky o1 o2 o3 o4 hl f1 f2 hk hc y0 y1 lf f3 f5 ij jg kz gK jf ju jE kb1 jh jX mE lU lT nD nC nV nU l7 ll lu kf mU m1 m2 m4;omega)) (by(clear hi hv fh ky o1 o2 o3 o4 hl f1 f2 hk hc y0 y1 lf f3 f5 ij jg kz gK jf ju jE kb1 jh jX mE lU lT nD nC nV nU l7 ll lu kf mU m1 m2 m4;omega)) mU.1 mU.2 gl gu ll lu
  .let lj:j< -g':=by(clear hi hv fh ky kL o1 hl f1 f2 hk hc y0 y1 f3 f5 ij jg kz gK jf ju jE kb1 mE lU lT nD nC nV nU l7 ll lu kf mU a;omega)
   rw[ax (by(clear hi hv fh ky kL o1 hl f1 f2 hk hc y0 y1 lf f3 f5 ij jg kz gK jf ju jE kb1 jh jX mE lU lT nD nC nV nU l7 ll lu kf mU a lj;omega)),G8.old j a (by have:=G6.len;simp;(clear hi hv fh ky kL o1 o2 o3 o4 hl f1 f2 hk hc y0 y1 lf f3 f5 ij jg kz gK jf ju jE kb1 jh jX mE lU lT nD nC nV nU l7 ll lu kf mU a b;omega)),aH (by have:=G6.len;(clear hi hv fh ky kL o1 o2 o3 o4 hl f1 f2 hk hc y0 y1 lf f3 f5 ij jg kz gK jf ju jE kb1 jh jX mE lU lT nD nC nV nU l7 ll lu kf mU a b;omega)),G6.old j a lj];exact vp j a b
  .have:=G6.len;have:=G8.len;simp at this ⊢
   (clear hi hv fh ky kL o1 o2 o3 o4 hl f1 f2 hk hc y0 y1 lf f3 f5 ij jg kz gK jf ju jE kb1 mE lU lT nD nC nV nU l7 ll lu kf mU;omega)
 refine if2 (λc=>?_) (λc=>?_)
 .show i4 h4 D5 ∅ ∅ λr6 g6 Ho Hn D6 G6=>?_;left;generalize Qs:(if y+1+r6<9999 then y+1+r6 else 9999)=y';have:0<=y'/\y'<=9999:=by rw[<- Qs];split<;>omega
  exact tail y' g6 this.1 this.2 D6 (G5.trans G6)
 .refine G0 ?_;exact tail y g5 y0 y1 D5 G5
def a32(h4:T 4=!J6)(wL:T 23=!L3)(Sm:T 24=!M8){n:Int}(hn:0<=n/\n<=100)(hv:1<=v/\v<=100)(D0:k6 g d)(h:∀(cs:@&a9) a g',(-cs:Int)=n->(∀c∈cs,jv c)->g'[a]?=!.lst (cs.map a9.d)->-g<=a->k6 g' d->Gr d g g'->Q (.ref a) g'):b0 T (k+3) 24 [.ref d,.int n,.int v] g Q E:=by
 refine call_of Sm rfl ?_;delta M8;let dl:=D0.lt;left;let D1:k6 (g++[O.lst []]++[O.fb []]++[O.lst [.int 0,.int 1,.int 1350]]) d:=((D0.snoc _).snoc _).snoc _;let G1:Gr d g (g++[O.lst []]++[O.fb []]++[O.lst [.int 0,.int 1,.int 1350]]):=((Gr.snoc _ _ _).trans (Gr.snoc _ _ _)).trans (Gr.snoc _ _ _);let e0:(g++[O.lst []]++[O.fb []]++[O.lst [.int 0,.int 1,.int 1350]])[(-g)]?=!.lst []:=p9 (p9 b7);let e1:(g++[O.lst []]++[O.fb []]++[O.lst [.int 0,.int 1,.int 1350]])[(g++[O.lst []]).length]?=!.fb []:=p9 b7;let e2:(g++[O.lst []]++[O.fb []]++[O.lst [.int 0,.int 1,.int 1350]])[(g++[O.lst []]++[O.fb []]).length]?=!.lst [.int 0,.int 1,.int 1350]:=b7;let n1:(g++[O.lst []]).length=-g+1:=by simp
 let n2:(g++[O.lst []]++[O.fb []]).length=-g+2:=by simp
 rw[n1] at e1 ⊢;refine i4 h4 D1 ∅ ∅ λr2 g2 jg jf D2 G2=>?_;let Tf:=G2.at () e0;let sA:=G2.at () e1;let Ta:=G2.at () e2;let#[x,hx,hm]:=M6 (l:=[D.int 0,.int 1,.int 1350]) jg (by simpa using jf);let hy:∃y:Int,x=.int y/\0<=y/\y<=9999:=by
  simp only[List.mem_cons,List.mem_nil_iff,or_false] at hm;rcases hm with rfl|rfl|rfl<;>exact#[_,rfl,by decide,by decide]
 let#[y,rfl,y0,y1]:=hy;refine q9 (a7 Ta) hx ?_;show i4 h4 D2 ∅ ∅ λr3 g3 ju jE D3 G3=>?_;show i4 h4 D3 ∅ ∅ λr4 g4 rB tH D4 G4=>?_;show i4 h4 D4 ∅ ∅ λr5 g5 lU lT D5 G5=>?_;let Ap:=G3.trans (G4.trans G5);let Te:=Ap.at () Tf;let wX:=Ap.at () sA;let l5:=(G1.trans (G2.trans Ap)).len;let lw:=n8 wX;left;generalize kL:(if r5-6>0 then r5-6 else 0)=sh;let He:0<=sh/\sh<=2:=by rw[<- kL];split<;>omega
 let zi:(g5++[O.lst []])[(-g5)]?=!.lst []:=b7;refine A6 (a8 T _) (Z8 (a8 T _) ?_);show #[by omega,by omega,j6 0 n.toNat,λi Z g'=>∃ f' y' AE uX oQ nA uW uV,Z=[!.ref d,!.int n,!.int v,!.ref (-g),!.int f',!.ref (-g + 1),!.int y',!.int (1 + r3),!.int (2 + r4),!.int sh,!.ref (-g5),AE,uX,oQ,nA,uW,uV]/\jJ d (-g) (-g + 1) (-g5) i g' f' y'/\Gr d g g',
  λz z z z=>x3,#[1,y,none,none,none,none,none,none,rfl,#[#[[],p9 Te,#[[],rfl,by simp],by simp],#[by omega,by omega],#[[],p9 wX,(λk v hv=>by cases hv),by simp],#[[],zi,rfl,by simp],#[y0,y1],D5.snoc _],(G1.trans (G2.trans Ap)).trans (Gr.snoc _ _ _)],λi x Z g' hx p=>?_,λZ g' p=>?_]
 .let#[f',y',AE,uX,oQ,nA,uW,uV,rfl,S,G']:=p;let#[hi,rfl]:=C8 hx;refine aM3 (n0:=-g) h4 wL S () hv #[by omega,by omega] #[by omega,by omega] He dl (aw _) () () λf2 y2 a b c e f g2 S2 rF vG=>?_;exact#[f2,y2,_,_,_,_,_,_,rfl,S2,#[by have:=G'.len;(clear hn hv dl jg jf y0 y1 ju jE rB tH lU lT l5 lw kL He hi;omega),λj h1 h2=>(rF j h1 h2).trans (G'.old j h1 h2)]]
 .let#[f',y',AE,uX,oQ,nA,uW,uV,rfl,S,G']:=p;left;let#[cs,ef,hc,hg]:=S.found;rw[j8] at hc;exact h cs _ _ () hg ef () S.dr G'
end
abbrev zF:aV:=#[2,8,(.seq (.set 2 (bL .lg (bj 1) (bL (.bin .Add) (bL (.bin .Add) (bL (.bin .FloorDiv) aX (bj 2)) (bL (.bin .Mod) aX (bj 2))) (bj 1)))) (.seq (.set 3 (bL (.bin .Add) bf (bL (.ku false true) (.call 21 (dP aF bf)) (bL (.bin .FloorDiv) aX (bj 2))))) (.seq (.set 4 (.call 4 (dP aF (bj 3)))) (.seq (.set 5 (.prim .lst .nil)) (.seq (.eL (.one 6) (.fE aX) (.seq (.set 7 (cR (.prim .lst (gp (bL (.bin .Add) (bj 1000) fo) (bj 0) (bL (.bin .Add) (bj 1) (bL (.bin .FloorDiv) (bL (.bin .Mult) (bj 2) fo) (bL .max (bj 1) aX))))) cO)) (.seq (.expr (.eW .append eK (dE (.prim .tup (rg (cR bw fo) (.prim .tup .nil) (bL (.bin .Add) (bj 1) (.call 4 (dP aF (bj 9)))) (.prim .tup .nil) ji))))) .pass))) (.seq (.ret eK) .pass))))))]
abbrev T6:aV:=#[2,9,(.seq (.set 2 (.call 4 (dP aF (bL (.bin .Add) aX (bj 1))))) (.seq (.set 3 (bL (.bin .Add) (bj 1) (.call 4 (dP aF (bj 3))))) (.seq (.set 4 (.call 4 (dP aF (bj 5)))) (.seq (.ifs (dR .Eq cO (bj 0)) (.seq (.ret (bL .tup (.comp [0] 3 (.one 2) (.fE bf) .no (.call 22 (dE aF))) bw)) .pass) .pass) (.seq (.ifs (dR .Eq cO (bj 4)) (.seq (.set 3 (bL (.bin .Add) (bj 1) (.call 4 (dP aF (bj 6))))) .pass) .pass) (.seq (.set 5 (.ite (dR .Eq cO (bj 4)) (.call 25 (dP aF bf)) (.call 24 (gp aF bf bw)))) (.seq (.set 5 (.comp [5] 3 (.one 2) (.fQ (.call 21 (dP aF (cW .lh bf)))) .no (cR aF bf))) (.seq (.ifs (.dF (dR .Eq cO (bj 1)) (dR .Gt bf (bj 0))) (.seq (.set 6 (.call 4 (dP aF bf))) (.seq (.set 7 (cR eK fo)) (.seq (.set 8 (cR eK (.call 4 (dP aF bf)))) (.seq (.fe eK fo (.prim .tup (rg (cR ji (bj 0)) (cR oh (bj 1)) (cR oh (bj 2)) (cR ji (bj 3)) (cR (.prim .lst (gp (cR ji (bj 4)) (cR oh (bj 4)) (bj 9999))) (.call 4 (dP aF (bj 3))))))) .pass)))) .pass) (.seq (.ifs (dR .Eq cO (bj 2)) (.seq (.set 3 (bj 1)) .pass) .pass) (.seq (.ret (bL .tup eK bw)) .pass))))))))))]
def Mz{p:Int->Prop}:∀{l:@&D},(∀x∈l,∃i:Int,x=.int i/\p i)->∃ns:@&Int,l=ns.map .int/\∀i∈ns,p i
 |[],_=>#[[],rfl,by simp]
 |x::r,h=>by
  let#[i,rfl,hi]:=h x #[_];let#[ns,rfl,hn]:=Mz (l:=r) λy hy=>h y (by simp[hy]);exact#[i::ns,rfl,λj hj=>(aJ.mp hj).elim (λz=>z▸hi) (hn j)]
def MV{lo:Int}{x:D}(h:x∈j6 lo n):∃i:Int,x=.int i/\lo<=i/\i<lo+n:=by
 let#[k,hk,rfl]:=aL.mp h;exact#[_,rfl,by omega,by have:=aR.mp hk;omega]
def FP{l:List α}(h:n<=-l):cut l none (!(n:Int))=l.take n:=by
 have:¬((n:Int)<0):=by omega
 unfold cut HT.et;simp[this]
def bA4{r:Int}(h0:0<=r)(h1:r< -ns):∃i∈ns,ia (ns.map D.int) r=!.int i:=by
 let#[v,hv,hm]:=M6 (l:=ns.map D.int) h0 (by simpa using h1);let#[i,hi,rfl]:=aL.mp hm;exact#[i,hi,hv]
def Eb{r:Int}(h0:0<=r)(h1:r< -cs):∃c∈cs,ia (cs.map a9.d) r=!c.d:=by
 let#[v,hv,hm]:=M6 (l:=cs.map a9.d) h0 (by simpa using h1);let#[i,hi,rfl]:=aL.mp hm;exact#[i,hi,hv]
section
variable{T:Nat->Option aV}{d:Nat}
def a61(h4:T 4=!J6)(Cs:T 21=!V5)(Sl:T 25=!zF){n:Int}(hn:0<=n/\n<=100)(D0:k6 g d)(h:∀(cs:@&a9) a g',(-cs:Int)=n->(∀c∈cs,jv c)->g'[a]?=!.lst (cs.map a9.d)->-g<=a->k6 g' d->Gr d g g'->Q (.ref a) g'):b0 T (k+3) 25 [.ref d,.int n] g Q E:=by
 refine call_of Sl rfl ?_;delta zF;let dl:=D0.lt;show Qh (i:=1) (j:=n / 2+n % 2+1) () ?_;left;let hh:∃hf:Nat,(n / 2+n % 2+1-1).toNat=hf/\(hf:Int)=n / 2+n % 2/\hf<=50:=#[_,rfl,by omega,by omega]
 let#[hf,BK,hh2,HW]:=hh;rw[BK];let e1:(g++[O.lst (j6 1 hf)])[(-g)]?=!.lst (j6 1 hf):=b7;refine LL h4 Cs e1 (by rw[j8];omega) () (D0.snoc _) λl' b g2 hp e2 hb D2 G2=>?_;let sA:=G2.at () e1;show zy (a7 e2) ?_;let hle:-l'=hf:=by rw[hp.length_eq,j8]
 let hc:cut l' none (!(n / 2))=l'.take (n / 2).toNat:=by
  have:=FP (l:=l') (n:=(n / 2).toNat) ()
  rwa [show(((n / 2).toNat:Nat):Int)=n / 2 by omega] at this
 rw[hc];refine Gw (p9 sA) b7 (by rw[j8,dg];omega) ?_;let#[rl,er,hr]:=Mz (p:=λi=>1<=i/\i<=50) (l:=j6 1 hf++l'.take (n / 2).toNat) λx hx=>by
  let tN:x∈j6 1 hf:=by
   rcases aW.mp hx with z|z
   .exact z
   .exact hp.mem_iff.mp (gi z)
  let#[i,rfl,h1,h2]:=MV tN;exact#[i,rfl,h1,by omega]
 let hrl:(-rl:Int)=n:=by
  have:=iR List.length er;rw[ba,j8,dg,au] at this;omega
 rw[er];let D3:=(D2.snoc (.lst (l'.take (n / 2).toNat))).snoc (.lst (rl.map D.int));let G3:=(Gr.snoc d g (.lst (j6 1 hf))).trans (G2.trans ((Gr.snoc d g2 (.lst (l'.take (n / 2).toNat))).trans (Gr.snoc d _ (.lst (rl.map D.int)))));let e3:(g2++[O.lst (l'.take (n / 2).toNat)]++[O.lst (rl.map D.int)])[(g2++[O.lst (l'.take (n / 2).toNat)]).length]?=!.lst (rl.map D.int):=b7;let l3:-g+1<=(g2++[O.lst (l'.take (n / 2).toNat)]).length:=by have:=G2.len;simp at this ⊢;omega
 generalize (g2++[O.lst (l'.take (n / 2).toNat)]).length=Hh at *;show i4 h4 D3 ∅ ∅ λr4 g4 rB tH D4 G4=>?_;let e4:=G4.at () e3;left;let OR:=G3.trans G4;let l4:=OR.len;let e5:(g4++[O.lst []])[(-g4)]?=!.lst ([].map a9.d):=b7;let Hy:=n8 e4;refine A6 (a8 T _) (Z8 (a8 T _) ?_);show #[by omega,by omega,j6 0 n.toNat,λi Z g'=>∃ cs z6 z7,Z=[!.ref d,!.int n,!.ref (-g),!.ref Hh,!.int r4,!.ref (-g4),z6,z7]/\-cs=i/\(∀ c ∈ cs,jv c)/\g'[(-g4)]?=!.lst (cs.map a9.d)/\g'[Hh]?=!.lst (rl.map D.int)/\k6 g' d/\Gr d g g',
  λy y y y=>x3,#[[],none,none,rfl,rfl,by simp,e5,p9 e4,D4.snoc _,OR.trans (Gr.snoc _ _ _)],λi x Z g' hx p=>?_,λZ g' p=>?_]
 .let#[cs,z6,z7,rfl,hc,hg,ef,erw,D',G']:=p;let#[hi,rfl]:=C8 hx;show U0 (FO ∅ ∅) ?_;show Ab #[by split<;>omega,by split<;>omega] ?_;left;obtain⟨yv,hy,Bl⟩:∃yv:Int,ia [D.int (1000+(0+(i:Int))),D.int 0,D.int (1+2*(0+(i:Int)) / (if n>1 then n else 1))] r4=!.int yv/\0<=yv/\yv<=9999:=by
   let dv0:0<=2*(0+(i:Int)) / (if n>1 then n else 1):=Int.ediv_nonneg () (by split<;>omega);let dv1:2*(0+(i:Int)) / (if n>1 then n else 1)<=2*(0+(i:Int)):=Int.ediv_le_self _ ();have:r4=0\/r4=1\/r4=2:=by omega
   rcases this with rfl|rfl|rfl
   .exact#[_,rfl,by omega,by(clear dl BK HW hb l3 l4 Hy hc rB tH;omega)]
   .exact#[_,rfl,by omega,by omega]
   .exact#[_,rfl,by omega,by omega]
  refine q9 (a7 b7) hy ?_;left;let#[lo,tU,BC]:=bA4 (ns:=rl) (r:=0+(i:Int)) () (by(clear hn dl BK HW hb l3 rB tH l4 Hy Bl;omega));refine And.intro (Om (p9 ef)) ?_;show q9 (a7 (p9 erw)) BC ?_;show i4 h4 (D'.snoc _) ∅ ∅ λr6 g6 Ho Hn D6 G6=>?_;let zh:=G6.at () (p9 ef);let SS:=G6.at () (p9 erw);show sT zh (by simp;omega) ?_;let hlb:=hr lo tU;refine#[cs++[#[lo,[],1+r6,[],yv]],_,_,rfl,by simp[hc],?_,?_,d0 SS (),D6.P2 (),(G'.trans ((Gr.snoc _ _ _).trans G6)).P2 ()]
  .intro c jO;rcases aW.mp jO with z|z
   .exact hg c z
   .simp at z;subst z;exact jv.mk' () () () () Bl.1 Bl.2 rfl rfl #[_] #[_]
  .rw[get_set zh];simp[a9.d]
 .let#[cs,z6,z7,rfl,hc,hg,ef,erw,D',G']:=p;left;rw[j8] at hc;exact h cs _ _ () hg ef () D' G'
end
section
variable{T:Nat->Option aV}{d:Nat}
structure LF(T:Nat->Option aV):Prop where
 pull:T 4=!J6
 order:T 21=!V5
 any:T 22=!zP
 rq:T 23=!L3
 rm:T 24=!M8
 opened:T 25=!zF
 list:T 26=!T6
def aY0(hT:LF T){n:Int}(hn:0<=n/\n<=99)(D0:k6 g d)(h:∀(cs:@&a9) a (v:Int) g',(-cs:Int)<=n->(∀c∈cs,jv c)->g'[a]?=!.lst (cs.map a9.d)->-g<=a->1<=v->v<=6->k6 g' d->Gr d g g'->Q (.tup [.ref a,.int v]) g'):b0 T (k+4) 26 [.ref d,.int n] g Q E:=by
 refine call_of hT.list rfl ?_;delta T6;let dl:=D0.lt;show i4 (n:=n+1) hT.pull D0 () () λm g1 m0 m1 D1 G1=>?_;show i4 hT.pull D1 ∅ ∅ λr2 g2 jg jf D2 G2=>?_;show i4 hT.pull D2 ∅ ∅ λway g3 w0 w1 D3 G3=>?_;let Aq:=G1.trans (G2.trans G3);let l3:=Aq.len;show if2 (λc=>?_) (λc=>?_)
 .show H9 (a8 T _) (Z8 (a8 T _) ?_);show#[by omega,by omega,j6 0 m.toNat,λi ys Z g'=>∃cs z1 z2,ys=cs.map a9.d/\-cs=i/\(∀c∈cs,jv c)/\Z=[!.ref d,z1,z2]/\k6 g' d/\Gr d g g',by rw[j8];omega,λi ys Z g' p=>#[x3,?_],#[[],none,none,rfl,rfl,by simp,rfl,D3,Aq],λi x ys Z g' hx p=>?_,λys Z g' p=>?_]
  .let#[cs,z1,z2,rfl,hc,_]:=p;simp[hc]
  .let#[cs,z1,z2,rfl,hc,hg,rfl,D',G']:=p;show aN8 hT.pull hT.any D' λc0 g4 gc D4 G4=>?_;refine#[cs++[c0],_,_,by simp,by simp[hc],λc1 rT=>?_,rfl,D4,G'.trans G4];rcases aW.mp rT with z|z
   .exact hg c1 z
   .simp at z;subst z;exact gc
  .let#[cs,z1,z2,rfl,hc,hg,rfl,D',G']:=p;rw[j8] at hc;left;exact h cs _ _ _ () hg b7 G'.len () () (D'.snoc _) (G'.trans (Gr.snoc _ _ _))
 let tail:∀(v:Int) (g4:G),1<=v->v<=6->k6 g4 d->Gr d g g4->wpS (b0 T (k+3)) (i8 (i8 (i8 (i8 (i8 T6.body))))) #[λw g'=>Q .bg g',Q,λw w=>False,λw w=>False] [!.ref d,!.int n,!.int m,!.int v,!.int way,none,none,none,none] g4 E:=by
  intro v g4 v0 v1 D4 G4;dsimp[T6,i8];let after:∀(cs:@&a9) a g5,(-cs:Int)=m->(∀c∈cs,jv c)->g5[a]?=!.lst (cs.map a9.d)->-g4<=a->k6 g5 d->Gr d g4 g5->wpS (b0 T (k+3)) (i8 (i8 (i8 (i8 (i8 (i8 T6.body)))))) #[λw g'=>Q .bg g',Q,λw w=>False,λw w=>False] [!.ref d,!.int n,!.int m,!.int v,!.int way,!.ref a,none,none,none] g5 E:=by
   intro cs a g5 hc hg ea la D5 G5;let OQ:=G4.trans G5;let l4:=G4.len;dsimp[T6,i8];show H9 (a8 T _) (my (a8 T _) ?_);show Qi () () ?_;left;let e6:(g5++[O.lst (j6 0 m.toNat)])[(-g5)]?=!.lst (j6 0 m.toNat):=b7;let l5:=D5.lt;refine LL hT.pull hT.order e6 (by rw[j8];omega) () (D5.snoc _) λl' b g7 hp eb lb D7 G7=>?_;let SX:=G7.at () (p9 ea);let BE:-l'=m.toNat:=by rw[hp.length_eq,j8]
   refine#[b,l',rfl,a7 eb,l',λi ys Z g'=>∃kj z1 z2,ys=kj.map a9.d/\-kj=i/\(∀c∈kj,jv c)/\Z=[!.ref a,z1,z2]/\g'=g7,by omega,λi ys Z g' p=>?_,#[[],none,none,rfl,rfl,by simp,rfl,rfl],λi x ys Z g' hx p=>?_,λys Z g' p=>?_]
   .let#[kj,z1,z2,rfl,jO,_,_,rfl]:=p;exact#[s9 (a7 eb),by simp[jO]]
   .let#[kj,z1,z2,rfl,jO,pM,rfl,rfl]:=p;let#[j,rfl,j0,j1]:=MV (hp.mem_iff.mp (aB hx));left;let#[c0,yX,e0]:=Eb (cs:=cs) j0 ();refine q9 (a7 SX) e0 ?_;refine#[kj++[c0],_,_,by simp,by simp[jO],λc1 rT=>?_,rfl,rfl];rcases aW.mp rT with z|z
    .exact pM c1 z
    .simp at z;subst z;exact hg c1 yX
   .let#[kj,z1,z2,rfl,jO,pM,rfl,rfl]:=p;let e8:(g'++[O.lst (kj.map a9.d)])[(-g')]?=!.lst (kj.map a9.d):=b7;let D8:=D7.snoc (.lst (kj.map a9.d));let G8:=(OQ.trans ((Gr.snoc d g5 (.lst (j6 0 m.toNat))).trans G7)).trans (Gr.snoc d g' (.lst (kj.map a9.d)));let l8:-g<=-g':=(OQ.trans ((Gr.snoc d g5 (.lst (j6 0 m.toNat))).trans G7)).len;let fin:∀(uo:@&a9) z6 z7 z8 g9,(-uo:Int)=m->(∀c∈uo,jv c)->g9[(-g')]?=!.lst (uo.map a9.d)->k6 g9 d->Gr d g g9->wpS (b0 T (k+3)) (i8 (i8 (i8 (i8 (i8 (i8 (i8 (i8 T6.body)))))))) #[λw g'=>Q .bg g',Q,λw w=>False,λw w=>False] [!.ref d,!.int n,!.int m,!.int v,!.int way,!.ref (-g'),z6,z7,z8] g9 E:=by
     intro uo z6 z7 z8 g9 pO HY e9 D9 G9;dsimp[T6,i8];show if2 (λc=>?_) (λc=>?_)
     .left;exact h uo _ _ _ () HY e9 l8 () () D9 G9
     .left;exact h uo _ _ _ () HY e9 l8 v0 v1 D9 G9
    let pL:(-kj:Int)=m:=by omega
    let Bf:=D7.lt;show if2 (λc1=>?_) (λc1=>?_)
    .show if2 (λc2=>?_) (λc2=>?_)
     .show i4 (n:=m) hT.pull D8 c2 () λr g9 r0 r1 D9 G9=>?_;let e9:=G9.at () e8;let#[c0,yX,e0]:=Eb (cs:=kj) r0 (by(clear hn dl m0 m1 jg jf w0 w1 l3 c v0 v1 la l4 l5 lb BE jO l8 Bf c1 c2 r0;omega));show q9 (a7 e9) e0 ?_;show i4 (n:=m) hT.pull D9 c2 () λr' IM AU PN OS OP=>?_;let sC:=OP.at () e9;let#[c3,yW,e3]:=Eb (cs:=kj) AU (by(clear hn dl m0 m1 jg jf w0 w1 l3 c v0 v1 la l4 l5 lb BE jO l8 Bf c1 c2 r0 r1 AU;omega));refine q9 (a7 sC) e3 ?_;dsimp only[a9.d];show i4 hT.pull (OS.snoc _) ∅ ∅ λr'' g11 vm AS D11 GH=>?_;let Qk:=OS.lt;let Td:=GH.at () (b7 (g:=IM) (o:=.lst [.int c0.yr,.int c3.yr,.int 9999]));let wY:=GH.at () (p9 (o':=.lst [.int c0.yr,.int c3.yr,.int 9999]) sC);let#[x,hx,hm]:=M6 (l:=[D.int c0.yr,.int c3.yr,.int 9999]) vm ();let#[a1,a2,a3,a4,a5,a6]:=(pM c0 yX).inv;let#[b1,b2,b3,b4,b5,b6]:=(pM c3 yW).inv;let hy:∃y:Int,x=.int y/\0<=y/\y<=9999:=by
       simp only[List.mem_cons,List.mem_nil_iff,or_false] at hm;rcases hm with rfl|rfl|rfl
       .exact#[_,rfl,a5,a6]
       .exact#[_,rfl,b5,b6]
       .exact#[_,rfl,by decide,by decide]
      let#[y,rfl,y0,y1]:=hy;refine q9 (a7 Td) hx ?_;left;let hj:mx (kj.map a9.d).length r=!r.toNat:=by
       unfold mx;rw[ay r0,ay (by rw[au];(clear hn dl m0 m1 jg jf w0 w1 l3 c v0 v1 la l4 l5 lb BE jO l8 Bf c1 c2 r0 AU PN vm AS Qk a1 a3 a5 a6 b1 b3 b5 b6 y0 y1;omega))]
      refine W9 wY hj ?_;let gr:jv #[c0.lo,c3.lm,c3.up,c0.um,y]:=jv.mk' a1.1 a1.2 b3.1 b3.2 y0 y1 b2 a4 (pM c3 yW).l8 (pM c0 yX).u8;refine fin (kj.set r.toNat #[c0.lo,c3.lm,c3.up,c0.um,y]) _ _ _ _ (by simp;omega) (λc4 Rm=>?_) ?_ (D11.P2 ()) ((G8.trans (G9.trans (OP.trans ((Gr.snoc _ _ _).trans GH)))).P2 l8)
      .rcases cu Rm with z|z
       .exact pM c4 z
       .rw[z];exact gr
      .rw[get_set wY,List.map_set]
       rfl
     .refine G0 ?_;exact fin kj _ _ _ _ pL pM e8 D8 G8
    .exact fin kj _ _ _ _ pL pM e8 D8 G8
  show if2 (λc=>?_) (λc=>?_)
  .show a61 hT.pull hT.order hT.opened #[m0,by omega] D4 λcs a g5 hc hg ea la D5 G5=>?_;exact after cs a g5 hc hg ea la D5 G5
  .show a32 hT.pull hT.rq hT.rm #[m0,by omega] #[v0,by omega] D4 λcs a g5 hc hg ea la D5 G5=>?_;exact after cs a g5 hc hg ea la D5 G5
 show if2 (λc=>?_) (λc=>?_)
 .show i4 hT.pull D3 ∅ ∅ λr4 g4 rB tH D4 G4=>?_;walk_at "w1";exact tail _ _ () () D4 (Aq.trans G4)
 .refine G0 ?_;exact tail _ _ () () D3 Aq
end
abbrev C3:aV:=#[1,1,(.seq (.ifs (.dQ (.fC (.call 1 (gp aF (bj 1) (bj 9))))) (.seq (.raise "BadAnvils" (dE (ff "there are from one to nine anvils"))) .pass) .pass) .pass)]
abbrev zH:aV:=#[2,2,(.seq (.ret (cW .all (.comp [1] 3 (.one 2) (.fQ aF) .no (bL (.cmp .In) bf aF)))) .pass)]
abbrev EV:aV:=#[1,1,(.seq (.ifs (.dQ (.fC (.call 12 (dE aF)))) (.seq (.raise "BadCoin" (dE (ff "it is no coin"))) .pass) .pass) .pass)]
abbrev Z5:aV:=#[1,2,(.seq (.ifs (dR .Gt (cW .len aF) (bj 9)) (.seq (.raise "TooMany" (dE (ff "at most nine coins are asked about at once"))) .pass) .pass) (.seq (.eL (.one 1) (.fQ aF) (.seq (.expr (.call 39 (dE aX))) .pass)) .pass))]
abbrev O1:aV:=#[1,1,(.seq (.ifs (dR .NotIn aF (.lit (.tup [(.str "lower"),(.str "upper")]))) (.seq (.raise "BadSide" (dE (ff "a side is lower or upper"))) .pass) .pass) .pass)]
abbrev ED:aV:=#[1,1,(.seq (.expr (.call 40 (dE aF))) (.seq (.ret (bL .oB (.lit (.tup [(.tup [(.str "lower"),(.int 0)]),(.tup [(.str "upper"),(.int 2)])])) aF)) .pass))]
noncomputable abbrev OT(T:Nat->Option aV):Prop:=T 18=!Z5/\T 39=!EV
noncomputable abbrev GI(T:Nat->Option aV):Prop:=T 19=!ED/\T 40=!O1
abbrev zS:aV:=#[2,2,(.seq (.ret (bL (.cmp .Eq) (cW .len (.comp [1] 3 (.one 2) (.fQ aF) (dR .NotIn bf aF) bf)) (bj 0))) .pass)]
structure Ex(g g':G):Prop where
 len:-g<=-g'
 old:∀i,i< -g->g'[i]?=g[i]?
def Ex.refl(g:G):Ex g g:=#[aw _,λx x=>rfl]
def Ex.trans{g g1 g2:G}(a:Ex g g1)(b:Ex g1 g2):Ex g g2:=#[aG a.len b.len,λi h=>(b.old i (aD h a.len)).trans (a.old i h)]
def Ex.snoc(g:G)(o:O):Ex g (g++[o]):=#[by simp,λi h=>aH h]
def Ex.at(h:Ex g g')(e:g[i]?=!o):g'[i]?=!o:=(h.old i (n8 e)).trans e
def Ex.draw{d:Nat}(h:Ex g g')(D0:k6 g d):k6 g' d:=by
 let#[s,p,b,r,xs,e1,e2,q]:=D0.ex;exact#[s,p,b,r,xs,h.at e1,h.at e2,q]
inductive E6(g:G):Nat->D->D->Prop
 |bg {n:Nat}:E6 g n .bg .bg
 |bl {n:Nat} (b:Bool):E6 g n (.bl b) (.bl b)
 |int {n:Nat} (i:Int):E6 g n (.int i) (.int i)
 |str {n:Nat} (x:Str):E6 g n (.str x) (.str x)
 |tup {n:Nat} {l m:@&D} (hl:-l=-m) (h:∀(i:Nat) x y,l[i]?=!x->m[i]?=!y->E6 g n x y) (hz:-m<=1000):E6 g (n+1) (.tup l) (.tup m)
 |lst {n a b:Nat} {l m:@&D} (ha:g[a]?=!.lst l) (hb:g[b]?=!.lst m) (hl:-l=-m) (h:∀(i:Nat) x y,l[i]?=!x->m[i]?=!y->E6 g n x y) (hz:-m<=1000):E6 g (n+1) (.ref a) (.ref b)
def E6.ex(e:Ex g g'){x:D}(h:E6 g n x y):E6 g' n x y:=by
 induction h with
 |bg=>exact .bg
 |bl b=>exact .bl b
 |int i=>exact .int i
 |str x=>exact .str x
 |tup hl h hz ih=>exact .tup hl ih hz
 |lst ha hb hl h hz ih=>exact .lst (e.at ha) (e.at hb) hl ih hz
section
variable{T:Nat->Option aV}
def FY(h6:T 6=!xV){i:Int}(h:Q (.bl true) g):b0 T (k+1) 6 [.int i] g Q E:=by
 refine call_of h6 rfl ?_;delta xV;show gW (c:="int") (b:=true) ∅ rfl ?_;show gW (c:="bool") (b:=false) ∅ rfl ?_;left;exact h
abbrev TV:MS:=match J7.body with
 |.seq _ (.seq _ (.seq _ (.seq _ (.seq _ b))))=>b
 |x=>x
def a76(h6:T 6=!xV)(h7:T 7=!J7):∀(n:Nat) {k:Nat} {g:G} {x y:D} {Q:KD} {E:KX},E6 g n x y->(∀g',Ex g g'->Q (.bl true) g')->b0 T (k+n+2) 7 [x,y] g Q E:=by
 let vk:∀(n:Nat),(∀{k:Nat} {g:G} {x y:D} {Q:KD} {E:KX},E6 g n x y->(∀g',Ex g g'->Q (.bl true) g')->b0 T (k+n+2) 7 [x,y] g Q E) ->
   ∀{k:Nat} {g:G} {x y:D} {l m:@&D} {Q:KD} {E:KX},(∀g',Ex g g'->F0 g' x=!l)->(∀g',Ex g g'->F0 g' y=!m)->-l=-m->-m<=1000->(∀(i:Nat) x y,l[i]?=!x->m[i]?=!y->E6 g n x y)->(∀g',Ex g g'->Q (.bl true) g') ->
   wpS (b0 T (k+n+2)) TV #[λu g'=>Q .bg g',Q,λu u=>False,λu u=>False] [!x,!y] g E:=by
  intro n ih k g x y l m Q E hx hy hl hz hs hQ;let len:∀(z:D) (l:@&D) (g':G) (Q':KD),F0 g' z=!l->Q' (.int (-l)) g'->cN .len [z] g' Q':=λz l g' Q' e q=>#[_,_,#[rfl,.inl #[z,l,rfl,e,rfl]],q]
  refine uF (FD (FF (ya (xZ (w_var rfl (len _ _ _ _ (hx g (Ex.refl g)) ?_))))));refine xZ (w_var rfl (len _ _ _ _ (hy g (Ex.refl g)) ?_));refine Jn ?_;rw[hl,aA rfl];show H9 (a8 T _) (Z8 (a8 T _) ?_);refine xZ (w_var rfl (len _ _ _ _ (hy g (Ex.refl g)) ?_));refine#[_,rfl,by omega,by omega,j6 0 (-m),λi ys Z g'=>∃z w,ys=List.replicate i (.bl true)/\Z=[!y,!x,z,w]/\Ex g g',by rw[j8];exact hz,λi ys Z g' p=>#[x3,?_],#[none,none,rfl,rfl,Ex.refl g],λi z ys Z g' hz p=>?_,λys Z g' p=>?_]
  .let#[z,w,rfl,_]:=p;simp
  .let#[z,w,rfl,rfl,e]:=p;let#[hi,rfl]:=C8 hz;let h1:l[i]?=some l[i]:=ag ();let h2:m[i]?=some m[i]:=ag hi;let a1:ia l (0+(i:Int))=some l[i]:=by rw[eU];exact A2 h1
   let a2:ia m (0+(i:Int))=some m[i]:=by rw[eU];exact A2 h2
   change dY _ _ _ _ _ _;refine xu (lW (zz (U8 (ya (w_var rfl (w_var rfl #[_,_,#[rfl,.inl #[_,l,_,rfl,hx g' e,a1]],?_]))))));refine U8 (ya (w_var rfl (w_var rfl #[_,_,#[rfl,.inl #[_,m,_,rfl,hy g' e,a2]],?_])));refine Aj (ih ((hs i _ _ h1 h2).ex e) λg2 e2=>?_);exact#[_,_,by rw[List.replicate_succ'],rfl,e.trans e2]
  .let#[z,w,rfl,rfl,e]:=p;refine Ac (a7 b7) (v:=true) ?_ (hQ _ (e.trans (Ex.snoc _ _)));have:List.replicate (j6 0 (-m)).length (D.bl true)=(List.replicate (j6 0 (-m)).length true).map D.bl:=by simp
   rw[this,Y2];simp
 intro n
 induction n with
 |zero =>
  intro k g x y Q E h hQ;let h0:=hQ g (Ex.refl g);cases h with
  |bg =>
   refine call_of h7 rfl ?_;delta J7;left;exact h0
  |bl b=>exact MD h7 (by simpa using h0)
  |int i =>
   refine call_of h7 rfl ?_;delta J7;show gW (c:="bool") (b:=false) ∅ rfl ?_;show gW (c:="int") (b:=true) ∅ rfl ?_;show FY h6 ?_;left;simpa using h0
  |str x =>
   refine call_of h7 rfl ?_;delta J7;show gW (c:="bool") (b:=false) ∅ rfl ?_;show gW (c:="int") (b:=false) ∅ rfl ?_;show gW (c:="str") (b:=true) ∅ rfl ?_;show gW (c:="str") (b:=true) ∅ rfl ?_;left;simpa using h0
 |succ n ih =>
  intro k g x y Q E h hQ;let h0:=hQ g (Ex.refl g);cases h with
  |bg =>
   refine call_of h7 rfl ?_;delta J7;left;exact h0
  |bl b=>exact MD h7 (by simpa using h0)
  |int i =>
   refine call_of h7 rfl ?_;delta J7;show gW (c:="bool") (b:=false) ∅ rfl ?_;show gW (c:="int") (b:=true) ∅ rfl ?_;show FY h6 ?_;left;simpa using h0
  |str x =>
   refine call_of h7 rfl ?_;delta J7;show gW (c:="bool") (b:=false) ∅ rfl ?_;show gW (c:="int") (b:=false) ∅ rfl ?_;show gW (c:="str") (b:=true) ∅ rfl ?_;show gW (c:="str") (b:=true) ∅ rfl ?_;left;simpa using h0
  |@tup _ l m hl hs hz =>
   refine call_of h7 rfl ?_;let body:=vk n ih (k:=k) (x:=.tup l) (y:=.tup m) (E:=E) (λu u=>rfl) (λu u=>rfl) hl hz hs hQ;delta J7;show gW (c:="bool") (b:=false) ∅ rfl ?_;show gW (c:="int") (b:=false) ∅ rfl ?_;show gW (c:="str") (b:=false) ∅ rfl ?_;show gW (c:="tuple") (b:=true) ∅ rfl ?_;show gW (c:="tuple") (b:=true) ∅ rfl ?_;show fF rfl ?_;show gW (c:="list") (b:=false) ∅ rfl ?_;show gW (c:="list") (b:=false) ∅ rfl ?_;show fF rfl (G0 ?_);exact body
  |@lst _ a b l m ha hb hl hs hz =>
   refine call_of h7 rfl ?_;let body:=vk n ih (k:=k) (x:=.ref a) (y:=.ref b) (E:=E) (λg' e=>a7 (e.at ha)) (λg' e=>a7 (e.at hb)) hl hz hs hQ;let ta:∀c,sP g (.ref a) c=!(c=="list"):=λc=>by simp only[sP,ha]
   let tb:∀c,sP g (.ref b) c=!(c=="list"):=λc=>by simp only[sP,hb]
   delta J7;show gW (c:="bool") (b:=false) ∅ (tb _) ?_;show gW (c:="int") (b:=false) ∅ (tb _) ?_;show gW (c:="str") (b:=false) ∅ (tb _) ?_;show gW (c:="tuple") (b:=false) ∅ (tb _) ?_;show gW (c:="tuple") (b:=false) ∅ (ta _) ?_;show fF rfl ?_;show gW (c:="list") (b:=true) ∅ (tb _) ?_;show gW (c:="list") (b:=true) ∅ (ta _) ?_;show fF rfl (G0 ?_);exact body
end
abbrev jL(a b:@&Int):Bool:=a.all λs=>b.any λm=>m==s
section
variable{T:Nat->Option aV}{d:Nat}
def KW(zc:T 15=!zH){a b:@&Int}(ha:-a<=1000)(h:∀g',Ex g g'->Q (.bl (jL a b)) g'):b0 T (k+1) 15 [.tup (a.map .int),.tup (b.map .int)] g Q E:=by
 refine call_of zc rfl ?_;delta zH;show H9 (a8 T _) (tL (a8 T _) ?_);show#[_,rfl,_,λi ys Z g'=>∃z w,ys=((a.take i).map λs=>b.any λm=>m==s).map D.bl/\Z=[!.tup (b.map .int),z,w]/\g'=g,by simpa using ha,λi ys Z g' p=>#[x3,?_],#[none,none,rfl,rfl,rfl],λi x ys Z g' hx p=>?_,λys Z g' p=>?_]
 .let#[z,w,rfl,_]:=p;simp;omega
 .let#[z,w,rfl,rfl,rfl]:=p;rw[aj,ae] at hx;let#[s,hs,rfl]:=hx;show oY (Ez ?_);refine#[_,_,?_,rfl,rfl];rw[bz,hs];simp
 .let#[z,w,rfl,rfl,rfl]:=p;refine Ac (a7 b7) (Y2 _) ?_;let e:((a.take (a.map D.int).length).map λs=>b.any λm=>m==s).all id=jL a b:=by
   simp[jL,List.all_map]
  rw[e];exact h _ (Ex.snoc _ _)
def aX8(Ct:T 17=!zS){a b:@&Int}(ha:-a<=1000)(h:∀g',Ex g g'->Q (.bl (jL a b)) g'):b0 T (k+1) 17 [.tup (a.map .int),.tup (b.map .int)] g Q E:=by
 refine call_of Ct rfl ?_;delta zS;show H9 (a8 T _) (tL (a8 T _) ?_);show#[_,rfl,_,λi ys Z g'=>∃z w,ys=((a.take i).filter λs=>~~~(b.any λm=>m==s)).map D.int/\-ys<=i/\Z=[!.tup (b.map .int),z,w]/\g'=g,by simpa using ha,λi ys Z g' p=>#[x3,?_],#[none,none,rfl,by simp,rfl,rfl],λi x ys Z g' hx p=>?_,λys Z g' p=>?_]
 .let#[z,w,_,h1,_]:=p;exact h1
 .let#[z,w,e,hl,rfl,rfl]:=p;rw[aj,ae] at hx;let#[s,hs,rfl]:=hx;show T8 (Ez ?_);left;cases hc:(b.any λm=>m==s) with
  |true =>
   refine Z7 #[_,_,?_,by omega,rfl,rfl];rw[bz,hs,e];simp[hc]
  |false =>
   refine lW (w_var rfl #[_,_,?_,by simp;omega,rfl,rfl]);rw[bz,hs,e];simp[hc]
 .let#[z,w,e,hl,rfl,rfl]:=p;rw[au,bP] at e;refine O3 (a7 b7) ?_;left;let e2:decide ((-ys:Int)=0)=jL a b:=by
   rw[e,au,aZ,dh];unfold jL;rw[bQ];constructor
   .intro h0 s hs;let h1:(a.filter λs=>~~~(b.any λm=>m==s))=[]:=cX ();rw[uS] at h1;have:=h1 s hs;simpa using this
   .intro h0;let h1:(a.filter λs=>~~~(b.any λm=>m==s))=[]:=by
     rw[uS];intro s hs;simpa using h0 s hs
    rw[h1]
    rfl
  rw[e2];exact h _ (Ex.snoc _ _)
def V'(hx:PyData.strOk x=true)(h:kb (decide (x="lower")||decide (x="upper"))):pG g (.str x) (.tup [.str "lower",.str "upper"]) kb:=by
 refine#[_,.inr #[_,[.str "lower",.str "upper"],.str x,rfl,rfl,rfl,by decide +kernel,by exact hx,rfl],?_];let e:∀y:Str,PyData.eqv (.str y) (.str x)=decide (x=y):=λy=>by
  simp only[PyData.eqv];rw[aZ,eO,dh];exact eq_comm
 simp only[List.any_cons,List.any_nil,Bool.or_false,e];exact h
def Mb(Co:T 40=!O1)(ho:PyData.strOk x=true)(h1:x="lower"\/x="upper"->Q .bg g)(h3:x≠"lower"->x≠"upper"->E #["BadSide"] g):b0 T (k+1) 40 [.str x] g Q E:=by
 refine call_of Co rfl ?_;delta O1;show T8 (V' ho ?_);left;by_cases e:x="lower"\/x="upper"
 .refine fF (by rw[kS,fz,dh,dh];exact e) ?_;exact h1 e
 .refine fV (by rw[lQ,AD,aP,aP];exact not_or.mp e) ?_;left;exact h3 (λz=>e (.inl z)) (λz=>e (.inr z))
def K7(mJ:GI T)(ho:PyData.strOk x=true)(h1:x="lower"->Q (.int 0) g)(h2:x="upper"->Q (.int 2) g)(h3:x≠"lower"->x≠"upper"->E #["BadSide"] g):b0 T (k+2) 19 [.str x] g Q E:=by
 refine call_of mJ.1 rfl ?_;delta ED;show Mb mJ.2 ho (λhx=>?_) h3;left;by_cases e1:x="lower"
 .let el:Q7 [.tup [.str "lower",.int 0],.tup [.str "upper",.int 2]] x=!.int 0:=by simp[Q7,e1]
  refine Jr el ?_;exact h1 e1
 .let e2:x="upper":=hx.resolve_left e1;let el:Q7 [.tup [.str "lower",.int 0],.tup [.str "upper",.int 2]] x=!.int 2:=by simp[Q7,e1];simp[e2]
  refine Jr el ?_;exact h2 e2
abbrev CB(c:a9):Prop:=-c.lm<=8/\-c.um<=8
def Me(h1:NF T)(h2:T 2=!O0)(uf:T 12=!E2)(wN:OT T)(ha:g[a]?=!.lst (cs.map a9.d))(hz:-cs<=1000)(hm:9< -cs->E #["TooMany"] g)(hb:-cs<=9->cs.all x4=false->E #["BadCoin"] g)(h:-cs<=9->cs.all x4=true->Q .bg g):b0 T (k+6) 18 [.ref a] g Q E:=by
 refine call_of wN.1 rfl ?_;delta Z5;left;rw[au];refine if2 (λc=>?_) (λc=>?_)
 .left;exact hm ()
 let h9:-cs<=9:=by omega
 show A6 (a8 T _) (my (a8 T _) ?_);show#[a,_,rfl,a7 ha,cs.map a9.d,λi Z g'=>∃z,Z=[!.ref a,z]/\g'=g/\(cs.take i).all x4=true,λi Z g' p=>?_,#[none,rfl,rfl,by simp],λi x Z g' hx p=>?_,λZ g' p=>?_]
 .let#[z,rfl,rfl,_]:=p;exact s9 (a7 ha)
 .let#[z,rfl,rfl,hg]:=p;rw[aj,ae] at hx;let#[c,hc,rfl]:=hx;refine i9 ?_;show call_of wN.2 rfl ?_;delta EV;show aJ1 h1 h2 uf ?_;left;cases e:x4 c with
  |true =>
   refine#[_,rfl,rfl,?_];rw[bz,hc];simp[hg,e]
  |false =>
   refine Kh ?_;show hb h9 ?_;rw[List.all_eq_false];exact#[c,aB hc,by rw[e];decide]
 .let#[z,rfl,rfl,hg]:=p;rw[au,bP] at hg;exact h h9 hg
end
abbrev EC:aV:=#[2,2,(.seq (.ifs (.dQ (.fC (.call 1 (gp aX (bj 1) (cW .len aF))))) (.seq (.raise "NoDie" (dE (ff "no such die was cut"))) .pass) .pass) .pass)]
abbrev EH:aV:=#[2,2,(.seq (.expr (.call 42 (dE aX))) (.seq (.fJ "bench" ["Mint"] aF (bL (.bin .Mult) (cW .tup (.lit .bg)) aX)) (.seq (.fJ "laid_off" ["Mint"] aF (.prim .tup .nil)) (.seq (.fJ "lower_wear" ["Mint"] aF (.prim .tup .nil)) (.seq (.fJ "upper_wear" ["Mint"] aF (.prim .tup .nil)) (.seq (.fJ "present" ["Mint"] aF (bj 0)) (.seq (.fJ "output" ["Mint"] aF (.prim .tup .nil)) .pass)))))))]
abbrev Y9:aV:=#[2,2,(.seq (.expr (.call 40 (dE aX))) (.seq (.ifs (dR .Eq aX (ff "lower")) (.seq (.ret (cW (.fld "lower_wear") aF)) .pass) .pass) (.seq (.ret (cW (.fld "upper_wear") aF)) .pass)))]
abbrev V6:aV:=#[3,3,(.seq (.ifs (dR .Eq aX (ff "lower")) (.seq (.fJ "lower_wear" ["Mint"] aF bf) .pass) (.seq (.fJ "upper_wear" ["Mint"] aF bf) .pass)) .pass)]
abbrev Ej:aV:=#[2,3,(.seq (.set 2 (.cT "wear_of" [("Mint",52)] aF (dE aX))) (.seq (.ifs (dR .Eq (cW .len bf) (bj 99)) (.seq (.raise "Full" (dE (ff "no more dies of that side are cut"))) .pass) .pass) (.seq (.expr (.cT "put_wear" [("Mint",53)] aF (dP aX (bL (.bin .Add) bf (cW .tup (.prim .tup .nil)))))) (.seq (.ret (bL (.bin .Add) (cW .len bf) (bj 1))) .pass))))]
abbrev Z3:aV:=#[1,1,(.seq (.ret (cW .list (cW (.fld "bench") aF))) .pass)]
abbrev Kz:aV:=#[2,2,(.seq (.ret (cW .len (.cT "wear_of" [("Mint",52)] aF (dE aX)))) .pass)]
abbrev EZ:aV:=#[3,4,(.seq (.set 3 (.cT "wear_of" [("Mint",52)] aF (dE aX))) (.seq (.expr (.call 43 (dP bw bf))) (.seq (.ret (cR bw (bL (.bin .Sub) bf (bj 1)))) .pass)))]
abbrev Fb:aV:=#[2,2,(.seq (.expr (.call 43 (dP (cW (.fld "lower_wear") aF) aX))) (.seq (.ifs (dR .In aX (cW (.fld "bench") aF)) (.seq (.ret (ff "fixed")) .pass) .pass) (.seq (.ifs (dR .In aX (cW (.fld "laid_off") aF)) (.seq (.ret (ff "gone")) .pass) .pass) (.seq (.ret (ff "new")) .pass))))]
abbrev EI:aV:=#[1,1,(.seq (.ret (cW (.fld "present") aF)) .pass)]
abbrev Z0:aV:=#[1,1,(.seq (.ret (cW .len (cW (.fld "output") aF))) .pass)]
abbrev EG:aV:=#[2,2,(.seq (.ifs (.dQ (.fC (.call 1 (gp aX (bj 0) (bL (.bin .Sub) (cW .len (cW (.fld "output") aF)) (bj 1)))))) (.seq (.raise "NoCoin" (dE (ff "no coin has that number"))) .pass) .pass) (.seq (.ret (cR (cW (.fld "output") aF) aX)) .pass))]
noncomputable abbrev GX(a:Nat):D:=.tup (List.replicate a (.tup []))
abbrev Jz(be la:D)(a b:Nat):O:=.ins "Mint" [("bench",be),("laid_off",la),("lower_wear",GX a),("upper_wear",GX b),("present",.int 0),("output",.tup [])]
noncomputable abbrev Jy(n a b:Nat):O:=Jz (.tup (List.replicate n .bg)) (.tup []) a b
def xE{f:Str}{v:D}{fs:@&(Str×D)}(h:-fs<n):(i7 f v fs).length<n+1:=by
 induction fs generalizing n with
 |nil=>simp[i7];omega
 |cons p r ih =>
  let#[y,z]:=p;simp only[i7];split
  .simp at h ⊢;omega
  .have:=ih (n:=n-1) (by simp at h;omega);simp at h ⊢;omega
structure TM(T:Nat->Option aV):Prop where
 nf:NF T
 Co:T 40=!O1
 rX:T 42=!C3
 Sk:T 43=!EC
 Sj:T 51=!EH
 Si:T 52=!Y9
 Sg:T 53=!V6
 Sf:T 54=!Ej
 RY:T 60=!Z3
 h61:T 61=!Kz
 RX:T 62=!EZ
 RV:T 63=!Fb
 IG:T 64=!EI
 RU:T 65=!Z0
 RT:T 66=!EG
section
variable{T:Nat->Option aV}
def aZ6(hT:TM T)(h1:1<=v/\v<=9->Q .bg g)(h2:¬(1<=v/\v<=9)->E #["BadAnvils"] g):b0 T (k+3) 42 [.int v] g Q E:=by
 refine call_of hT.rX rfl ?_;delta C3;show m7 hT.nf ?_;left;by_cases hv:1<=v/\v<=9
 .rw[aA hv.1,aA hv.2];left;exact h1 hv
 .have:(decide (1<=v)&&decide (v<=9))=false:=by
   rw[cC,aP,aP];exact cL.mp hv
  rw[this];left;exact h2 hv
def TC(hT:TM T)(hm:g[m]?=!(.ins "Mint" []))(h1:∀n:Nat,v=n->1<=n->n<=9->Q .bg (g.set m (Jy n 0 0)))(h2:¬(1<=v/\v<=9)->E #["BadAnvils"] g):b0 T (k+4) 51 [.ref m,.int v] g Q E:=by
 refine call_of hT.Sj rfl ?_;delta EH;show aZ6 hT (λhv=>?_) h2;show ZC #[_] hv.1 () (by simp;omega) ?_;show C6 hm #[_] #[_] ?_;show C6 (get_set hm) #[_] (by repeat (first|(simp;done)|refine xE ?_)) ?_;rw[cV];show C6 (get_set hm) #[_] (by repeat (first|(simp;done)|refine xE ?_)) ?_;rw[cV];show C6 (get_set hm) #[_] (by repeat (first|(simp;done)|refine xE ?_)) ?_;rw[cV];show C6 (get_set hm) #[_] (by repeat (first|(simp;done)|refine xE ?_)) ?_;rw[cV];show C6 (get_set hm) #[_] (by repeat (first|(simp;done)|refine xE ?_)) ?_;rw[cV];left;obtain⟨n,rfl⟩:∃n:Nat,v=n:=#[v.toNat,by omega]
 have:=h1 n rfl () ();let e:(List.replicate (Int.toNat (n:Int)) [D.bg]).flatten=List.replicate n .bg:=by
  rw[cZ,lO]
 rw[e];exact this
def LW(hT:TM T)(h1:1<=v/\v<=-l->Q .bg g)(h2:¬(1<=v/\v<=-l)->E #["NoDie"] g):b0 T (k+3) 43 [.tup l,.int v] g Q E:=by
 refine call_of hT.Sk rfl ?_;delta EC;show m7 hT.nf ?_;left;by_cases hv:1<=v/\v<=-l
 .rw[aA hv.1,aA hv.2];left;exact h1 hv
 .have:(decide (1<=v)&&decide (v<=(-l:Int)))=false:=by
   rw[cC,aP,aP];exact cL.mp hv
  rw[this];left;exact h2 hv
end
abbrev T5:aV:=#[3,3,(.seq (.ret (bL (.bin .Add) (bL (.bin .Add) (bL (.ku false true) aF aX) (cW .tup bf)) (bL (.ku true false) aF (bL (.bin .Add) aX (bj 1))))) .pass)]
abbrev Ek:aV:=#[2,4,(.seq (.set 2 (.cT "state" [("Mint",63)] aF (dE aX))) (.seq (.ifs (dR .Eq bf (ff "fixed")) (.seq (.raise "Fixed" (dE (ff "the die is on an anvil"))) .pass) .pass) (.seq (.ifs (dR .Eq bf (ff "gone")) (.seq (.raise "Gone" (dE (ff "the die was laid off"))) .pass) .pass) (.seq (.ifs (dR .NotIn (.lit .bg) (cW (.fld "bench") aF)) (.seq (.raise "NoAnvil" (dE (ff "no anvil is free"))) .pass) .pass) (.seq (.set 3 (.eW .index (cW (.fld "bench") aF) (dE (.lit .bg)))) (.seq (.fJ "bench" ["Mint"] aF (.call 177 (gp (cW (.fld "bench") aF) bw aX))) (.seq (.ret bw) .pass)))))))]
abbrev Z2:aV:=#[2,3,(.seq (.ifs (dR .NotEq (.cT "state" [("Mint",63)] aF (dE aX)) (ff "fixed")) (.seq (.raise "NotFixed" (dE (ff "the die is on no anvil"))) .pass) .pass) (.seq (.set 2 (.eW .index (cW (.fld "bench") aF) (dE aX))) (.seq (.fJ "bench" ["Mint"] aF (.call 177 (gp (cW (.fld "bench") aF) bf (.lit .bg)))) (.seq (.lD "laid_off" ["Mint"] aF (cW .tup aX)) (.seq (.ret bf) .pass)))))]
abbrev v5(x:D):Prop:=x=.bg\/∃i,x=.int i
abbrev iE(y z:D):Bool:=mL (toV z) (toV y)
abbrev mq:D->PyData
 |.int i=>.int i
 |_=>.none
def MY{x:D}(h:v5 x):rd g n x=!mq x:=by
 rcases h with rfl|⟨i,rfl⟩<;>cases n<;>rfl
def NH{x:D}(h:v5 x):(mq x).canLay0=true:=by
 rcases h with rfl|⟨i,rfl⟩<;>simp[mq,PyData.canLay0]
def Xg{x:D}(hx:v5 x)(hy:v5 y):PyData.eqv (mq x) (mq y)=iE y x:=by
 rcases hx with rfl|⟨i,rfl⟩<;>rcases hy with rfl|⟨j,rfl⟩<;>simp[mq,PyData.eqv,iE,mL,toV]
def Xh(h:∀x∈l,v5 x):AR g l=!l.map mq:=by
 unfold AR
 induction l with
 |nil=>rfl
 |cons x r ih =>
  rw[jU,MY (h x #[_]),ih λz hz=>h z (by simp[hz])]
  rfl
def a35(h:∀x∈l,v5 x):PyData.canLayAll0 (l.map mq)=true:=by
 induction l with
 |nil=>rfl
 |cons x r ih =>
  rw[bJ];simp only[PyData.canLayAll0,NH (h x #[_]),ih λz hz=>h z (by simp[hz])]
  rfl
def P8{x:D}(hi:F0 g x=!l)(hl:∀z∈l,v5 z)(hy:v5 y)(h:kb (l.any (iE y))):pG g y x kb:=by
 refine#[_,.inr #[l,l.map mq,mq y,hi,Xh hl,MY hy,a35 hl,NH hy,rfl],?_];let e:((l.map mq).any λq=>PyData.eqv q (mq y))=l.any (iE y):=by
  rw[jc];clear h hi
  induction l with
  |nil=>rfl
  |cons z r ih =>
   rw[dZ,dZ,ih λw hw=>hl w (by simp[hw])];show(PyData.eqv (mq z) (mq y)||_)=_;rw[Xg (hl z #[_]) hy]
 rw[e];exact h
def Q1{z:D}(hy:v5 y)(hz:v5 z):iE y z=true↔z=y:=by
 rcases hy with rfl|⟨i,rfl⟩<;>rcases hz with rfl|⟨j,rfl⟩<;>simp[iE,mL,toV]
def KO{x:D}(h:v5 x):uA x=true:=by rcases h with rfl|⟨i,rfl⟩<;>rfl
def VV(hl:∀z∈l,v5 z)(hy:v5 y)(h:l.any (iE y)=true):∃n,W8 l y n/\n< -l/\l[n]?=!y:=by
 let pP:l.all uA=true:=bQ.mpr λx hx=>KO (hl x hx)
 suffices ∃n,n< -l/\l[n]?=!y/\∀(m:Nat) z,m<n->l[m]?=!z->mL (toV z) (toV y)=false by
  let#[n,h1,h2,h3]:=this;exact#[n,#[pP,KO hy,#[y,h2,(Q1 hy hy).mpr rfl],h3],h1,h2]
 clear pP
 induction l with
 |nil=>simp at h
 |cons x r ih =>
  cases e:iE y x with
  |true =>
   have:=(Q1 hy (hl x #[_])).mp e;subst this;exact#[0,by simp,rfl,λm z hm=>absurd hm ()]
  |false =>
   rw[dZ,e,iJ] at h;let#[n,h1,h2,h3]:=ih (λz hz=>hl z (by simp[hz])) h;refine#[n+1,by simpa using h1,by simpa using h2,λm z hm hz=>?_];cases m with
   |zero=>cases hz;exact e
   |succ m=>exact h3 m z () (by simpa using hz)
def XI{l:List α}:cut l (!(n:Int)) none=l.drop n:=by
 have:¬((n:Int)<0):=by omega
 unfold cut HT.et;simp[this];by_cases h:n<=-l
 .rw[jq h,dU #[_]]
 .rw[Nat.min_eq_right (),df (aw _),df ()];simp
def b00{l:List α}:cut l none (!(n:Int))=l.take n:=by
 have:¬((n:Int)<0):=by omega
 unfold cut HT.et;simp[this]
section
variable{T:Nat->Option aV}
def S4(oy:T 177=!T5){x:D}(hn:n< -l)(hz:-l<=1000)(h:Q (.tup (l.set n x)) g):b0 T (k+1) 177 [.tup l,.int n,x] g Q E:=by
 refine call_of oy rfl ?_;delta T5;left;rw[b00];refine Gx (by simp;omega) ?_;left;rw[show((n:Int)+1)=((n+1:Nat):Int) by omega,XI];refine Gx (by simp;omega) ?_;let e:l.take n++[x]++l.drop (n+1)=l.set n x:=by
  rw[List.set_eq_take_append_cons_drop,ay hn];simp
 rw[e];exact h
def S0{go:@&Int}:∀z∈go.map D.int,v5 z:=λz hz=>by
 let#[i,_,rfl]:=aL.mp hz;exact .inr #[i,rfl]
end
def aJ6{n':Nat}(h:W8 l y n)(h':W8 l y n'):n=n':=by
 let#[_,_,#[z,hz,ez],hn]:=h;let#[_,_,#[z',yL,IQ],vY]:=h';rcases eF n n' with c|c|c
 .rw[vY n z c hz] at ez;cases ez
 .exact c
 .rw[hn n' z' c yL] at IQ;cases IQ
def V2{l:@&D}{x:D}(h:∀z∈l,v5 z)(hx:v5 x):∀z∈l.set n x,v5 z:=λz hz=>by
 rcases cu hz with hz|rfl
 .exact h z hz
 .exact hx
abbrev uw(l:@&D):Prop:=∀(i j:Nat) (v:Int),l[i]?=!.int v->l[j]?=!.int v->i=j
def L6(h:∀z∈l,v5 z):l.any (iE (.int v))=true↔∃i:Nat,l[i]?=!.int v:=by
 rw[aO];constructor
 .rintro⟨z,hz,e⟩;rw[(Q1 (.inr #[v,rfl]) (h z hz))] at e;subst e;exact Az hz
 .rintro⟨i,hi⟩;exact#[_,aB hi,(Q1 (.inr #[v,rfl]) (.inr #[v,rfl])).mpr rfl]
def VR(h:∀z∈l,v5 z)(hd:uw l)(hn:l.any (iE (.int v))=false):uw (l.set n (.int v)):=by
 let no:∀i:Nat,l[i]?≠!.int v:=λi hi=>by
  rw[(L6 h).mpr #[i,hi]] at hn;cases hn
 intro i j w hi hj;by_cases ei:n=i<;>by_cases ej:n=j
 .omega
 .subst ei;rw[ax ej] at hj;rw[lN] at hi;split at hi
  .split at hi
   .cases hi;exact absurd hj (no j)
   .cases hi
  .contradiction
 .subst ej;rw[ax ei] at hi;rw[lN] at hj;split at hj
  .split at hj
   .cases hj;exact absurd hi (no i)
   .cases hj
  .contradiction
 .rw[ax ei] at hi;rw[ax ej] at hj;exact hd i j w hi hj
def O6{x:D}(h:(l.set n x)[i]?=!y):(i=n/\y=x)\/l[i]?=!y:=by
 by_cases e:n=i
 .subst e;rw[lN] at h;split at h
  .split at h
   .cases h;exact .inl #[rfl,rfl]
   .cases h
  .contradiction
 .rw[ax e] at h;exact .inr h
def VQ(hd:uw l):uw (l.set n .bg):=λi j v hi hj=>by
 rcases O6 hi with⟨_,z⟩|hi
 .cases z
 .rcases O6 hj with⟨_,z⟩|hj
  .cases z
  .exact hd i j v hi hj
def aN6{w:Int}(h:∀z∈l,v5 z)(e:(l.set n .bg).any (iE (.int w))=true):l.any (iE (.int w))=true:=by
 let#[i,hi]:=(L6 (V2 h (.inl rfl))).mp e;rcases O6 hi with⟨_,z⟩|hi
 .cases z
 .exact(L6 h).mpr #[i,hi]
def aN7{w:Int}(h:∀z∈l,v5 z)(e:(l.set n (.int v)).any (iE (.int w))=true):w=v\/l.any (iE (.int w))=true:=by
 let#[i,hi]:=(L6 (V2 h (.inr #[v,rfl]))).mp e;rcases O6 hi with⟨_,z⟩|hi
 .cases z;exact .inl rfl
 .exact .inr ((L6 h).mpr #[i,hi])
def Wq(h:∀z∈l,v5 z)(hd:uw l)(hn:l[n]?=!.int v):(l.set n .bg).any (iE (.int v))=false:=by
 cases e:(l.set n .bg).any (iE (.int v)) with
 |false=>rfl
 |true =>
  let#[i,hi]:=(L6 (V2 h (.inl rfl))).mp e;rcases O6 hi with⟨_,z⟩|hZ
  .cases z
  .have:i=n:=hd i n v hZ hn;subst this;rw[aM (av.mp hn).1] at hi;cases hi
structure dO where
 bl:@&D
 go:@&Int
 lo:@&(@&Int)
 up:@&(@&Int)
 yr:Int
 co:@&D
noncomputable abbrev mk(l:@&Int):D:=.tup (l.map .int)
noncomputable abbrev jM(l:@&(@&Int)):@&D:=l.map mk
abbrev d6(s:dO):O:=.ins "Mint" [("bench",.tup s.bl),("laid_off",.tup (s.go.map .int)),("lower_wear",.tup (jM s.lo)),("upper_wear",.tup (jM s.up)),("present",.int s.yr),("output",.tup s.co)]
abbrev dO.side(s:dO)(x:Str):@&(@&Int):=if x="lower" then s.lo else s.up
abbrev dO.put(s:dO)(x:Str)(w:@&(@&Int)):dO:=if x="lower" then{ s with lo:=w } else{ s with up:=w }
def A8{s:dO}:s.side "lower"=s.lo:=by unfold dO.side;rw[ay rfl]
def A7{s:dO}:s.side "upper"=s.up:=by unfold dO.side;rw[az ∅]
noncomputable abbrev K9(x:Str):Prop:=x="lower"\/x="upper"
abbrev xX:@&Int:=[0,1,2,3,4,5,6,7]
abbrev markL(l:@&Int)(k:Int):@&Int:=xX.filter λi=>decide (i=k\/i∈l)
noncomputable abbrev Rs:=Str×D×dO
abbrev u7(s:dO)(x:Str):Rs:=if K9 x then(if(s.side x).length<99 then("",.int ((s.side x).length+1),s.put x (s.side x++[[]])) else("Full",.bg,s)) else("BadSide",.bg,s)
noncomputable abbrev A4(s:dO)(v:Int):Bool:=s.bl.any (iE (.int v))
noncomputable abbrev K5(s:dO)(v:Int):Bool:=(s.go.map D.int).any (iE (.int v))
noncomputable abbrev ig(l:@&D)(y:D):Nat:=l.findIdx (iE y)
abbrev x6(s:dO)(v:Int):Rs:=if 1<=v/\v<=-s.lo then(if A4 s v=true then("Fixed",.bg,s) else if K5 s v=true then("Gone",.bg,s) else if s.bl.any (iE .bg)=true then("",.int (ig s.bl .bg),{ s with bl:=s.bl.set (ig s.bl .bg) (.int v) }) else("NoAnvil",.bg,s)) else("NoDie",.bg,s)
abbrev E5(s:dO)(v:Int):Rs:=if 1<=v/\v<=-s.lo then(if A4 s v=true then("",.int (ig s.bl (.int v)),{ s with bl:=s.bl.set (ig s.bl (.int v)) .bg,go:=s.go++[v] }) else("NotFixed",.bg,s)) else("NoDie",.bg,s)
noncomputable abbrev gw(l:@&(@&Int))(v:Int):@&Int:=l.getD (v-1).toNat []
abbrev B0(s:dO)(x:Str)(v k:Int):Rs:=if K9 x then(if 1<=v/\v<=(s.side x).length then(if x="lower"/\K5 s v=true then("Gone",.bg,s) else if 0<=k/\k<=7 then(if k∈gw (s.side x) v then("Marked",.bg,s) else("",.bg,s.put x ((s.side x).set (v-1).toNat (markL (gw (s.side x) v) k)))) else("BadSpot",.bg,s)) else("NoDie",.bg,s)) else("BadSide",.bg,s)
abbrev K0(s:dO)(a b:Int):D:=.tup [.int a,mk (gw s.lo a),.int b,mk (gw s.up b),.int s.yr]
abbrev w9(s:dO)(a b:Int):Rs:=if(1<=a/\a<=-s.lo)/\(1<=b/\b<=-s.up) then(if A4 s a=true then(if (-s.co)<200 then("",.int (-s.co),{ s with co:=s.co++[K0 s a b] }) else("Full",.bg,s)) else("NotFixed",.bg,s)) else("NoDie",.bg,s)
abbrev M0(s:dO)(n:Int):Rs:=if s.yr+1<=n/\n<=9999 then("",.bg,{ s with yr:=n }) else("BadYear",.bg,s)
abbrev Mk(l:@&Int):Prop:=(∀k∈l,ST.Spot k)/\-l<=8
abbrev Ji(c:D):Prop:=∃a l b m y,c=.tup [.int a,mk l,.int b,mk m,.int y]/\-l<=8/\-m<=8
structure WS(s:dO):Prop where
 se:∀z∈s.bl,v5 z
 di:uw s.bl
 dj:∀v,A4 s v=true->K5 s v=false
 bn:-s.bl<=9
 gn:s.go.Nodup
 gb:∀v∈s.go,1<=v/\v<=-s.lo
 ln:-s.lo<=99
 un:-s.up<=99
 lm:∀l∈s.lo,Mk l
 um:∀l∈s.up,Mk l
 y0:0<=s.yr
 cn:-s.co<=200
 cs:∀c∈s.co,Ji c
def KJ:xX.Pairwise (· < ·):=by unfold xX;decide
def Wj{k:Int}:k∈xX↔ST.Spot k:=by
 unfold xX ST.Spot;simp only[List.mem_cons,List.mem_nil_iff,or_false];omega
def EK{l:@&Int}{k i:Int}(hl:∀j∈l,ST.Spot j)(hk:ST.Spot k):i∈markL l k↔i=k\/i∈l:=by
 unfold markL;rw[bt,dh,Wj];constructor
 .exact λh=>h.2
 .rintro(rfl|h)
  .exact#[hk,.inl rfl]
  .exact#[hl i h,.inr h]
def Xm{l:@&Int}{k:Int}(hl:∀j∈l,ST.Spot j)(hk:ST.Spot k):o8 (l++[k])=markL l k:=by
 let h1:(markL l k).Pairwise (· < ·):=KJ.sublist gG;refine X2 ?_ (Ls _) (h1.imp λh=>uT h);refine(N6 _).trans ?_;refine(bX (ST.M7 _ _ List.nodup_nil) (h1.imp λh=>lP h)).mpr λi=>?_;rw[ST.E1,EK hl hk];simp[or_comm]
def ZN{s:dO}(W:WS s):-s.go<=99:=by
 let hp:s.go.Perm (((List.range 99).map λn:Nat=>(n:Int)+1).filter (·∈s.go)):=by
  refine(bX W.gn ?_).mpr λv=>?_
  .exact Pb gG ∅
  .rw[bt];constructor
   .intro hv;refine#[?_,by simpa using hv];have:=W.gb v hv;have:=W.ln;rw[aL];exact#[(v-1).toNat,aR.mpr (),by omega]
   .rintro⟨_,hv⟩;simpa using hv
 rw[hp.length_eq];exact aG (dk _ _) #[_]
def R0(hl:∀z∈l,v5 z)(hy:v5 y)(h:l.any (iE y)=true):W8 l y (ig l y)/\ig l y< -l/\l[ig l y]?=!y:=by
 let#[n,W,hn,e]:=VV hl hy h;have:ig l y=n:=by
  let dI:ig l y< -l:=List.findIdx_lt_length_of_exists (by simpa[List.any_eq_true] using h);let h1:iE y l[ig l y]=true:=List.findIdx_getElem (w:=dI);refine aJ6 #[W.1,W.2.1,#[_,ag dI,h1],λm z hm hz=>?_] W;have:=List.not_of_lt_findIdx hm;let#[pL,rfl]:=av.mp hz;simpa[iE] using this
 rw[this];exact#[W,hn,e]
set_option tactic.hygienic true in
def FK{s:dO}(W:WS s):WS (u7 s x).2.2:=by
 unfold u7;split
 .rename_i hx;split
  .rename_i hl;rcases hx with rfl|rfl
   .rw[A8] at hl ⊢;unfold dO.put;rw[ay rfl];refine#[W.se,W.di,W.dj,W.bn,W.gn,λv hv=>?_,?_,W.un,λl h=>?_,W.um,W.y0,W.cn,W.cs]
    .have:=W.gb v hv;rw[ba];simp;omega
    .rw[ba];simp;omega
    .rcases aW.mp h with h|h
     .exact W.lm l h
     .simp at h;subst h;exact#[λk hk=>by simp at hk,by simp]
   .rw[A7] at hl ⊢;unfold dO.put;rw[az ∅];refine#[W.se,W.di,W.dj,W.bn,W.gn,W.gb,W.ln,?_,W.lm,λl h=>?_,W.y0,W.cn,W.cs]
    .rw[ba];simp;omega
    .rcases aW.mp h with h|h
     .exact W.um l h
     .simp at h;subst h;exact#[λk hk=>by simp at hk,by simp]
  .exact W
 .exact W
set_option tactic.hygienic true in
def Zq{s:dO}(W:WS s):WS (x6 s v).2.2:=by
 unfold x6
 repeat' split
 all_goals first|exact W|skip
 rename_i hv e1 e2 e3;let CQ:A4 s v=false:=by simpa using e1
 let Tb:K5 s v=false:=by simpa using e2
 refine#[V2 W.se (.inr #[v,rfl]),VR W.se W.di CQ,λw hw=>?_,by rw[bN];exact W.bn,W.gn,W.gb,W.ln,W.un,W.lm,W.um,W.y0,W.cn,W.cs];rcases aN7 W.se hw with rfl|hw
 .exact Tb
 .exact W.dj w hw
set_option tactic.hygienic true in
def Zr{s:dO}(W:WS s):WS (E5 s v).2.2:=by
 unfold E5
 repeat' split
 all_goals first|exact W|skip
 rename_i hv e1;let#[F,hn,e]:=R0 W.se (.inr #[v,rfl]) e1;let hg:=W.dj v e1;let QW:v∉s.go:=λhv=>by
  have:K5 s v=true:=aO.mpr #[.int v,aL.mpr #[v,hv,rfl],(Q1 (.inr #[v,rfl]) (.inr #[v,rfl])).mpr rfl];rw[hg] at this;cases this
 refine#[V2 W.se (.inl rfl),VQ W.di,λw hw=>?_,by rw[bN];exact W.bn,?_,?_,W.ln,W.un,W.lm,W.um,W.y0,W.cn,W.cs]
 .let hb:=W.dj w (aN6 W.se hw);show((s.go++[v]).map D.int).any (iE (.int w))=false;rw[cP,List.any_append];show(K5 s w||_)=false;rw[hb,iJ];cases e5:(List.map D.int [v]).any (iE (.int w)) with
  |false=>rfl
  |true =>
   rw[bJ,List.map_nil,dZ,List.any_nil,Bool.or_false] at e5;have:=(Q1 (.inr #[w,rfl]) (.inr #[v,rfl])).mp e5;cases this;let h1:A4 { s with bl:=s.bl.set (ig s.bl (.int v)) .bg,go:=s.go++[v] } v=false:=Wq W.se W.di e;rw[h1] at hw;cases hw
 .show(s.go++[v]).Nodup;rw[cA];exact#[W.gn,by simp,λa ha b hb=>by simp at hb;subst hb;exact λz=>QW (z▸ha)]
 .intro w hw;rcases aW.mp hw with hw|hw
  .exact W.gb w hw
  .simp at hw;subst hw;exact hv
def xI{l:@&(@&Int)}(hv:1<=v/\v<=-l):l[(v-1).toNat]?=!gw l v/\gw l v∈l:=by
 let h:(v-1).toNat< -l:=by omega
 let e:l[(v-1).toNat]?=!gw l v:=by
  rw[ag h,gw,bG,ag h]
  rfl
 exact#[e,aB e]
set_option tactic.hygienic true in
def XA{s:dO}{a b:Int}(W:WS s):WS (w9 s a b).2.2:=by
 unfold w9
 repeat' split
 all_goals first|exact W|skip
 rename_i hv e1 hl;refine#[W.se,W.di,W.dj,W.bn,W.gn,W.gb,W.ln,W.un,W.lm,W.um,W.y0,by simp;omega,λc hc=>?_];rcases aW.mp hc with hc|hc
 .exact W.cs c hc
 .simp at hc;subst hc;exact#[_,_,_,_,_,rfl,(W.lm _ (xI hv.1).2).2,(W.um _ (xI hv.2).2).2]
set_option tactic.hygienic true in
def bA8{s:dO}{n:Int}(W:WS s):WS (M0 s n).2.2:=by
 unfold M0;split
 .rename_i h;exact#[W.se,W.di,W.dj,W.bn,W.gn,W.gb,W.ln,W.un,W.lm,W.um,by have:=W.y0;change 0<=n;omega,W.cn,W.cs]
 .exact W
abbrev Fl:aV:=#[2,2,(.seq (.ret (cW .tuple (bL .vd aF aX))) .pass)]
abbrev R7:aV:=#[4,5,(.seq (.set 4 (.cT "marks" [("Mint",62)] aF (dP aX bf))) (.seq (.ifs (.dF (dR .Eq aX (ff "lower")) (dR .In bf (cW (.fld "laid_off") aF))) (.seq (.raise "Gone" (dE (ff "the die was laid off"))) .pass) .pass) (.seq (.ifs (.dQ (.fC (.call 1 (gp bw (bj 0) (bj 7))))) (.seq (.raise "BadSpot" (dE (ff "a die has no such spot"))) .pass) .pass) (.seq (.ifs (dR .In bw cO) (.seq (.raise "Marked" (dE (ff "the die has that mark"))) .pass) .pass) (.seq (.expr (.cT "put_wear" [("Mint",53)] aF (dP aX (.call 177 (gp (.cT "wear_of" [("Mint",52)] aF (dE aX)) (bL (.bin .Sub) bf (bj 1)) (.call 16 (dP cO (cW .tup bw)))))))) .pass)))))]
abbrev Z1:aV:=#[3,4,(.seq (.set 3 (.prim .tup (rg aX (.cT "marks" [("Mint",62)] aF (dP (ff "lower") aX)) bf (.cT "marks" [("Mint",62)] aF (dP (ff "upper") bf)) (cW (.fld "present") aF)))) (.seq (.ifs (dR .NotIn aX (cW (.fld "bench") aF)) (.seq (.raise "NotFixed" (dE (ff "the lower die is on no anvil"))) .pass) .pass) (.seq (.ifs (dR .Eq (cW .len (cW (.fld "output") aF)) (bj 200)) (.seq (.raise "Full" (dE (ff "no more coins are struck"))) .pass) .pass) (.seq (.lD "output" ["Mint"] aF (cW .tup bw)) (.seq (.ret (bL (.bin .Sub) (cW .len (cW (.fld "output") aF)) (bj 1))) .pass)))))]
abbrev P6:aV:=#[2,2,(.seq (.ifs (.dQ (.fC (.call 1 (gp aX (bL (.bin .Add) (cW (.fld "present") aF) (bj 1)) (bj 9999))))) (.seq (.raise "BadYear" (dE (ff "no such year can begin"))) .pass) .pass) (.seq (.fJ "present" ["Mint"] aF aX) .pass))]
structure TQ(T:Nat->Option aV):Prop where
 tm:TM T
 Sq:T 16=!Fl
 Se:T 55=!Ek
 Sd:T 56=!Z2
 Sb:T 57=!R7
 Sa:T 58=!Z1
 RZ:T 59=!P6
 oy:T 177=!T5
section
variable{T:Nat->Option aV}{s:dO}
def bA2(hT:TQ T){l:@&Int}{i:Int}(hl:Mk l)(hi:ST.Spot i)(h:∀g',Ex g g'->Q (mk (markL l i)) g'):b0 T (k+1) 16 [mk l,.tup [.int i]] g Q E:=by
 refine call_of hT.Sq rfl ?_;delta Fl;show YC (ns:=l) (ms:=[i]) hl.1 (λk hk=>by simp at hk;subst hk;exact hi) (by have:=hl.2;simp;omega) ?_;rw[Xm hl.1 hi];refine JS (a7 b7) ?_;left;exact h _ (Ex.snoc _ _)
def Ew(hT:TQ T)(hm:g[m]?=!d6 s)(ho:PyData.strOk x=true)(h1:K9 x->Q (.tup (jM (s.side x))) g)(h3:¬K9 x->E #["BadSide"] g):b0 T (k+2) 52 [.ref m,.str x] g Q E:=by
 refine call_of hT.tm.Si rfl ?_;delta Y9;show Mb hT.tm.Co ho (λhx=>?_) (λz1 z2=>h3 (λz=>z.elim z1 z2));show if2 (λc=>?_) (λc=>?_)
 .left;have:=h1 hx;rw[c,A8] at this;exact w5 hm rfl this
 .left;have:=h1 hx;rw[hx.resolve_left c,A7] at this;exact w5 hm rfl this
def MP(hT:TQ T)(hm:g[m]?=!d6 s)(h:Q .bg (g.set m (d6 (s.put x w)))):b0 T (k+1) 53 [.ref m,.str x,.tup (jM w)] g Q E:=by
 refine call_of hT.tm.Sg rfl ?_;delta V6;show if2 (λc=>?_) (λc=>?_)
 .show C6 hm #[_] #[_] ?_;left;unfold dO.put at h;rw[ay c] at h;exact h
 .show C6 hm #[_] #[_] ?_;left;unfold dO.put at h;rw[az c] at h;exact h
def Mj(hT:TQ T)(hm:g[m]?=!d6 s)(W:WS s)(ho:PyData.strOk x=true)(h1:(u7 s x).1=""->Q (u7 s x).2.1 (g.set m (d6 (u7 s x).2.2)))(h2:(u7 s x).1≠""->E #[(u7 s x).1] g):b0 T (k+3) 54 [.ref m,.str x] g Q E:=by
 refine call_of hT.tm.Sf rfl ?_;delta Ej;show m8 hm rfl rfl ?_;show Ew (k:=k) hT hm ho (λhx=>?_) (λhx=>?_)
 .let hl:(s.side x).length<=99:=by
   rcases hx with rfl|rfl
   .rw[A8];exact W.ln
   .rw[A7];exact W.un
  left;rw[au];refine if2 (λc=>?_) (λc=>?_)
  .let e:u7 s x=(("Full",.bg,s):Rs):=by unfold u7;rw[ay hx,az ()]
   rw[e] at h2;left;exact h2 (by dsimp only;decide)
  .let e:u7 s x=(("",.int ((s.side x).length+1),s.put x (s.side x++[[]])):Rs):=by unfold u7;rw[ay hx,ay ()]
   rw[e] at h1;show m8 hm rfl rfl ?_;show Gx (by simp;omega) ?_;let e2:jM (s.side x)++[D.tup []]=jM (s.side x++[[]]):=by rw[jM,jM,cP];rfl
   rw[e2];show MP hT hm ?_;left;rw[au];exact h1 rfl
 .let e:u7 s x=(("BadSide",.bg,s):Rs):=by unfold u7;rw[az hx]
  rw[e] at h2;exact h2 (by dsimp only;decide)
def ZA{l:@&(@&Int)}(hv:1<=v/\v<=-l):ia (jM l) (v-1)=!mk (gw l v):=by
 let h:=(xI hv).1;have:=A2 (xs:=jM l) (j:=(v-1).toNat) (v:=mk (gw l v)) (by rw[aj,h];rfl)
 rwa [show(((v-1).toNat:Nat):Int)=v-1 by omega] at this
def X6(hT:TQ T)(hm:g[m]?=!d6 s)(ho:PyData.strOk x=true)(h1:K9 x->1<=v/\v<=(s.side x).length->Q (mk (gw (s.side x) v)) g)(h2:K9 x->¬(1<=v/\v<=(s.side x).length)->E #["NoDie"] g)(h3:¬K9 x->E #["BadSide"] g):b0 T (k+4) 62 [.ref m,.str x,.int v] g Q E:=by
 refine call_of hT.tm.RX rfl ?_;delta EZ;show m8 hm rfl rfl ?_;show Ew (k:=k+1) hT hm ho (λhx=>?_) h3;show LW hT.tm (λhv=>?_) (λhv=>?_)
 .rw[au] at hv;show x8 (ZA hv) ?_;left;exact h1 hx hv
 .rw[au] at hv;exact h2 hx hv
def KP(hT:TQ T)(hm:g[m]?=!d6 s)(W:WS s)(h0:¬(1<=v/\v<=-s.lo)->E #["NoDie"] g)(h1:1<=v/\v<=-s.lo->A4 s v=true->Q (.str "fixed") g)(h2:1<=v/\v<=-s.lo->A4 s v=false->K5 s v=true->Q (.str "gone") g)(h3:1<=v/\v<=-s.lo->A4 s v=false->K5 s v=false->Q (.str "new") g) :
  b0 T (k+4) 63 [.ref m,.int v] g Q E:=by
 refine call_of hT.tm.RV rfl ?_;delta Fb;show w5 hm rfl ?_;show LW hT.tm (λhv=>?_) (λz=>h0 (λy=>z #[y.1,by rw[au];exact y.2]));rw[au] at hv;show w5 hm rfl ?_;show oY (P8 (l:=s.bl) rfl W.se (.inr #[v,rfl]) ?_);left;cases e1:A4 s v with
 |true =>
  refine fV e1 ?_;left;exact h1 hv e1
 |false =>
  refine fF e1 ?_;show w5 hm rfl ?_;show oY (P8 (l:=s.go.map D.int) rfl S0 (.inr #[v,rfl]) ?_);left;cases e2:K5 s v with
  |true =>
   refine fV e2 ?_;left;exact h2 hv e1 e2
  |false =>
   refine fF e2 ?_;left;exact h3 hv e1 e2
def pR{b:Bool}(h:b=false):¬b=true:=by rw[h];decide
def Tu(hT:TQ T)(hm:g[m]?=!d6 s)(W:WS s)(h1:(x6 s v).1=""->Q (x6 s v).2.1 (g.set m (d6 (x6 s v).2.2)))(h2:(x6 s v).1≠""->E #[(x6 s v).1] g):b0 T (k+5) 55 [.ref m,.int v] g Q E:=by
 refine call_of hT.Se rfl ?_;delta Ek;show m8 hm rfl rfl ?_;show KP (k:=k) hT hm W (λhv=>?_) (λhv e1=>?_) (λhv e1 e2=>?_) (λhv e1 e2=>?_)
 .let e:x6 s v=(("NoDie",.bg,s):Rs):=by unfold x6;rw[az hv]
  rw[e] at h2;exact h2 (by dsimp only;decide)
 .let e:x6 s v=(("Fixed",.bg,s):Rs):=by unfold x6;rw[ay hv,ay e1]
  rw[e] at h2;show fV #[] ?_;left;exact h2 (by dsimp only;decide)
 .let e:x6 s v=(("Gone",.bg,s):Rs):=by unfold x6;rw[ay hv,az (pR e1),ay e2]
  rw[e] at h2;show fF #[] ?_;show fV #[] ?_;left;exact h2 (by dsimp only;decide)
 .show fF #[] ?_;show fF #[] ?_;show w5 hm rfl ?_;show T8 (P8 (l:=s.bl) rfl W.se (.inl rfl) ?_);left;cases e3:s.bl.any (iE .bg) with
  |false =>
   let e:x6 s v=(("NoAnvil",.bg,s):Rs):=by unfold x6;rw[ay hv,az (pR e1),az (pR e2),az (pR e3)]
   rw[e] at h2;refine fV rfl ?_;left;exact h2 (by dsimp only;decide)
  |true =>
   let e:x6 s v=(("",.int (ig s.bl .bg),{ s with bl:=s.bl.set (ig s.bl .bg) (.int v) }):Rs):=by unfold x6;rw[ay hv,az (pR e1),az (pR e2),ay e3]
   rw[e] at h1;refine fF rfl ?_;let#[F,hn,_]:=R0 W.se (.inl rfl) e3;let bn:=W.bn;show w5 hm rfl ?_;refine#[Oo,?_];show Jx F () ?_;show w5 hm rfl ?_;show S4 (k:=k+3) hT.oy hn () ?_;show C6 hm #[_] #[_] ?_;left;exact h1 rfl
def Uh(hT:TQ T)(hm:g[m]?=!d6 s)(W:WS s)(h1:(E5 s v).1=""->Q (E5 s v).2.1 (g.set m (d6 (E5 s v).2.2)))(h2:(E5 s v).1≠""->E #[(E5 s v).1] g):b0 T (k+5) 56 [.ref m,.int v] g Q E:=by
 refine call_of hT.Sd rfl ?_;delta Z2;show m8 hm rfl rfl ?_;left;let no:1<=v/\v<=-s.lo->A4 s v=false->E #["NotFixed"] g:=λhv e1=>by
  let e:E5 s v=(("NotFixed",.bg,s):Rs):=by unfold E5;rw[ay hv,az (pR e1)]
  rw[e] at h2;exact h2 (by dsimp only;decide)
 refine KP (k:=k) hT hm W (λhv=>?_) (λhv e1=>?_) (λhv e1 e2=>?_) (λhv e1 e2=>?_)
 .let e:E5 s v=(("NoDie",.bg,s):Rs):=by unfold E5;rw[az hv]
  rw[e] at h2;exact h2 (by dsimp only;decide)
 .let e:E5 s v=(("",.int (ig s.bl (.int v)),{ s with bl:=s.bl.set (ig s.bl (.int v)) .bg,go:=s.go++[v] }):Rs):=by unfold E5;rw[ay hv,ay e1]
  rw[e] at h1;let#[F,hn,_]:=R0 W.se (.inr #[v,rfl]) e1;let bn:=W.bn;let gl:=ZN W;show fF #[] ?_;show w5 hm rfl ?_;refine#[Oo,?_];show Jx F () ?_;show w5 hm rfl ?_;show S4 (k:=k+3) hT.oy hn () ?_;show C6 hm #[_] #[_] ?_;let e2:(O.ins "Mint" (i7 "bench" (.tup (s.bl.set (ig s.bl (.int v)) .bg)) [("bench",.tup s.bl),("laid_off",.tup (s.go.map .int)),("lower_wear",.tup (jM s.lo)),("upper_wear",.tup (jM s.up)),("present",.int s.yr),("output",.tup s.co)]))=d6 { s with bl:=s.bl.set (ig s.bl (.int v)) .bg }:=rfl;rw[e2];let pK:(g.set m (d6 { s with bl:=s.bl.set (ig s.bl (.int v)) .bg }))[m]?=!(d6 { s with bl:=s.bl.set (ig s.bl (.int v)) .bg }):=get_set hm;show OB ?_;show#[m,_,_,_,rfl,pK,by simp,rfl,?_];show Oj (by simp;omega) ?_;refine#[_,pK,by simp,?_];rw[cV];let e3:(O.ins "Mint" (i7 "laid_off" (.tup (s.go.map .int++[.int v])) [("bench",.tup (s.bl.set (ig s.bl (.int v)) .bg)),("laid_off",.tup (s.go.map .int)),("lower_wear",.tup (jM s.lo)),("upper_wear",.tup (jM s.up)),("present",.int s.yr),("output",.tup s.co)]))=d6 { s with bl:=s.bl.set (ig s.bl (.int v)) .bg,go:=s.go++[v] }:=by
   unfold d6;rw[cP]
   rfl
  rw[e3];left;exact h1 rfl
 .show fV #[] ?_;left;exact no hv e1
 .show fV #[] ?_;left;exact no hv e1
def Ve(W:WS s)(hx:K9 x)(hv:1<=v/\v<=(s.side x).length):Mk (gw (s.side x) v):=by
 let h:=(xI hv).2;rcases hx with rfl|rfl
 .rw[A8] at h ⊢;exact W.lm _ h
 .rw[A7] at h ⊢;exact W.um _ h
def Xj(W:WS s):(s.side x).length<=99:=by
 unfold dO.side;split
 .exact W.ln
 .exact W.un
def DM{l:@&Int}(hi:F0 g y=!l.map .int)(h:kb (decide (v∈l))):pG g (.int v) y kb:=by
 refine P8 hi S0 (.inr #[v,rfl]) ?_;let e:(l.map D.int).any (iE (.int v))=decide (v∈l):=by
  rw[aZ,L6 S0,dh];constructor
  .rintro⟨i,hi⟩;rw[aj,ae] at hi;let#[a,h1,h2]:=hi;cases h2;exact aB h1
  .intro hm;let#[i,hi]:=Az hm;exact#[i,by rw[aj,hi];rfl]
 rw[e];exact h
def Wh(hT:TQ T)(hm:g[m]?=!d6 s)(W:WS s)(ho:PyData.strOk x=true){j:Int}(h1:(B0 s x v j).1=""->∀g',Ex g g'->Q .bg (g'.set m (d6 (B0 s x v j).2.2)))(h2:(B0 s x v j).1≠""->E #[(B0 s x v j).1] g):b0 T (k+5) 57 [.ref m,.str x,.int v,.int j] g Q E:=by
 refine call_of hT.Sb rfl ?_;delta R7;show m8 hm rfl rfl ?_;show X6 (k:=k) hT hm ho (λhx hv=>?_) (λhx hv=>?_) (λhx=>?_)
 .let Qg:=Ve W hx hv;let sl:=Xj (x:=x) W;let fin:∀(N:Ends),¬(x="lower"/\K5 s v=true)->(∀(g':G) Z,(∀g1:G,Ex g g1->g'=g1.set m (d6 (B0 s x v j).2.2)->(B0 s x v j).1=""->N.nx Z g'))->wpS (b0 T (k+4)) (match R7.body with|.seq _ (.seq _ b)=>b|x=>x) N [!.ref m,!.str x,!.int v,!.int j,!(mk (gw (s.side x) v))] g E:=by
   intro N BN hN;dsimp[R7];show m7 hT.tm.nf ?_;left;by_cases hj:0<=j/\j<=7
   .rw[aA hj.1,aA hj.2];refine fF rfl ?_;show oY (DM (l:=gw (s.side x) v) rfl ?_);left;by_cases hq:j∈gw (s.side x) v
    .let e:B0 s x v j=(("Marked",.bg,s):Rs):=by unfold B0;rw[ay hx,ay hv,az BN,ay hj,ay hq]
     rw[e] at h2;rw[aA hq];refine lW ?_;left;exact h2 (by dsimp only;decide)
    .let e:B0 s x v j=(("",.bg,s.put x ((s.side x).set (v-1).toNat (markL (gw (s.side x) v) j))):Rs):=by unfold B0;rw[ay hx,ay hv,az BN,ay hj,az hq]
     rw[e] at hN;rw[aI hq];refine Z7 ?_;show m8 hm rfl rfl ?_;show m8 hm rfl rfl ?_;show Ew (k:=k+2) hT hm ho (λy=>?_) (λz=>absurd hx z);show bA2 (k:=k+3) hT Qg #[hj.1,by omega] λg1 e1=>?_;left;let Qy:v-1=(((v-1).toNat:Nat):Int):=by omega
     rw[Qy];refine S4 (k:=k+3) hT.oy (by rw[au];omega) (by rw[au];omega) ?_;let es:(jM (s.side x)).set (v-1).toNat (mk (markL (gw (s.side x) v) j))=jM ((s.side x).set (v-1).toNat (markL (gw (s.side x) v) j)):=by rw[jM,jM,List.map_set]
     rw[es];show MP (k:=k+3) hT (e1.at hm) ?_;left;exact hN _ _ g1 e1 rfl rfl
   .let e:B0 s x v j=(("BadSpot",.bg,s):Rs):=by unfold B0;rw[ay hx,ay hv,az BN,az hj]
    rw[e] at h2;have:(decide (0<=j)&&decide (j<=7))=false:=by
     rw[cC,aP,aP];exact cL.mp hj
    rw[this];refine fV rfl ?_;left;exact h2 (by dsimp only;decide)
  show if2 (λtU=>?_) (λtU=>?_)
  .show w5 hm rfl ?_;show oY (P8 (l:=s.go.map D.int) rfl S0 (.inr #[v,rfl]) ?_);left;cases e2:K5 s v with
   |true =>
    let e:B0 s x v j=(("Gone",.bg,s):Rs):=by unfold B0;rw[ay hx,ay hv,ay #[tU,e2]]
    rw[e] at h2;refine fV e2 ?_;left;exact h2 (by dsimp only;decide)
   |false =>
    refine fF e2 ?_;refine G0 ?_;exact fin _ (λz=>pR e2 z.2) (λg' Z g1 e1 eg er=>by subst eg;exact h1 er g1 e1)
  .try refine Z7 ?_
   try with_reducible refine G0 ?_
   exact fin _ (λz=>tU z.1) (λg' Z g1 e1 eg er=>by subst eg;exact h1 er g1 e1)
 .let e:B0 s x v j=(("NoDie",.bg,s):Rs):=by unfold B0;rw[ay hx,az hv]
  rw[e] at h2;exact h2 (by dsimp only;decide)
 .let e:B0 s x v j=(("BadSide",.bg,s):Rs):=by unfold B0;rw[az hx]
  rw[e] at h2;exact h2 (by dsimp only;decide)
def aU7(hT:TQ T)(hm:g[m]?=!d6 s)(W:WS s){a b:Int}(h1:(w9 s a b).1=""->Q (w9 s a b).2.1 (g.set m (d6 (w9 s a b).2.2)))(h2:(w9 s a b).1≠""->E #[(w9 s a b).1] g):b0 T (k+5) 58 [.ref m,.int a,.int b] g Q E:=by
 refine call_of hT.Sa rfl ?_;delta Z1;let no:¬((1<=a/\a<=-s.lo)/\(1<=b/\b<=-s.up))->E #["NoDie"] g:=λhv=>by
  let e:w9 s a b=(("NoDie",.bg,s):Rs):=by unfold w9;rw[az hv]
  rw[e] at h2;exact h2 (by dsimp only;decide)
 show m8 hm rfl rfl ?_;show X6 (k:=k) hT hm #[] (λx ha=>?_) (λx ha=>no (λz=>ha (by rw[A8];exact z.1))) (λz=>absurd (.inl rfl) z);rw[A8] at ha ⊢;show m8 hm rfl rfl ?_;show X6 (k:=k) hT hm #[] (λx hb=>?_) (λx hb=>no (λz=>hb (by rw[A7];exact z.2))) (λz=>absurd (.inr rfl) z);rw[A7] at hb ⊢;show w5 hm rfl ?_;show w5 hm rfl ?_;show T8 (P8 (l:=s.bl) rfl W.se (.inr #[a,rfl]) ?_);left;cases e1:A4 s a with
 |false =>
  let e:w9 s a b=(("NotFixed",.bg,s):Rs):=by unfold w9;rw[ay #[ha,hb],az (pR e1)]
  rw[e] at h2;refine fV (show(~~~A4 s a)=true by rw[e1];rfl) ?_;left;exact h2 (by dsimp only;decide)
 |true =>
  refine fF (show(~~~A4 s a)=false by rw[e1];rfl) ?_;let cn:=W.cn;show w5 hm rfl ?_;show if2 (λhl=>?_) (λhl=>?_)
  .let e:w9 s a b=(("Full",.bg,s):Rs):=by unfold w9;rw[ay #[ha,hb],ay e1,az ()]
   rw[e] at h2;left;exact h2 (by dsimp only;decide)
  .let e:w9 s a b=(("",.int (-s.co),{ s with co:=s.co++[K0 s a b] }):Rs):=by unfold w9;rw[ay #[ha,hb],ay e1,ay ()]
   rw[e] at h1;show OB ?_;show#[m,_,_,_,rfl,hm,by simp,rfl,?_];show Oj (by simp;omega) ?_;refine#[_,hm,by simp,?_];let e3:(O.ins "Mint" (i7 "output" (.tup (s.co++[.tup [.int a,mk (gw s.lo a),.int b,mk (gw s.up b),.int s.yr]])) [("bench",.tup s.bl),("laid_off",.tup (s.go.map .int)),("lower_wear",.tup (jM s.lo)),("upper_wear",.tup (jM s.up)),("present",.int s.yr),("output",.tup s.co)]))=d6 { s with co:=s.co++[K0 s a b] }:=rfl;rw[e3];let pK:(g.set m (d6 { s with co:=s.co++[K0 s a b] }))[m]?=!(d6 { s with co:=s.co++[K0 s a b] }):=get_set hm;show w5 pK rfl ?_;left;have:=h1 rfl;rw[show((s.co++[K0 s a b]).length:Int)-1=-s.co by rw[ba];simp];exact this
def Xz(hT:TQ T)(hm:g[m]?=!d6 s){n:Int}(h1:(M0 s n).1=""->Q .bg (g.set m (d6 (M0 s n).2.2)))(h2:(M0 s n).1≠""->E #[(M0 s n).1] g):b0 T (k+3) 59 [.ref m,.int n] g Q E:=by
 refine call_of hT.RZ rfl ?_;delta P6;show w5 hm rfl ?_;show m7 hT.tm.nf ?_;left;by_cases hv:s.yr+1<=n/\n<=9999
 .let e:M0 s n=(("",.bg,{ s with yr:=n }):Rs):=by unfold M0;rw[ay hv]
  rw[e] at h1;rw[aA hv.1,aA hv.2];refine fF rfl ?_;show C6 hm #[_] #[_] ?_;left;exact h1 rfl
 .let e:M0 s n=(("BadYear",.bg,s):Rs):=by unfold M0;rw[az hv]
  rw[e] at h2;have:(decide (s.yr+1<=n)&&decide (n<=9999))=false:=by
   rw[cC,aP,aP];exact cL.mp hv
  rw[this];refine fV rfl ?_;left;exact h2 (by dsimp only;decide)
def a09(hT:TQ T)(hm:g[m]?=!d6 s)(h:Q (.ref (-g)) (g++[.lst s.bl])):b0 T (k+1) 60 [.ref m] g Q E:=by
 refine call_of hT.tm.RY rfl ?_;delta Z3;show w5 hm rfl ?_;left;exact h
def OI(hT:TQ T)(hm:g[m]?=!d6 s)(h:Q (.int s.yr) g):b0 T (k+1) 64 [.ref m] g Q E:=by
 refine call_of hT.tm.IG rfl ?_;delta EI;left;exact w5 hm rfl h
def aU6(hT:TQ T)(hm:g[m]?=!d6 s)(h:Q (.int (-s.co)) g):b0 T (k+1) 65 [.ref m] g Q E:=by
 refine call_of hT.tm.RU rfl ?_;delta Z0;show w5 hm rfl ?_;left;exact h
def VJ(hT:TQ T)(hm:g[m]?=!d6 s){i:Int}(h1:∀c,0<=i->i< -s.co->s.co[i.toNat]?=!c->Q c g)(h2:¬(0<=i/\i< -s.co)->E #["NoCoin"] g):b0 T (k+3) 66 [.ref m,.int i] g Q E:=by
 refine call_of hT.tm.RT rfl ?_;delta EG;show w5 hm rfl ?_;show m7 hT.tm.nf ?_;left;by_cases hv:0<=i/\i< -s.co
 .rw[aA hv.1,aA (show i<=(-s.co:Int)-1 by omega)];refine fF rfl ?_;show w5 hm rfl ?_;left;let hi:i.toNat< -s.co:=by omega
  let e:=ag hi;let e2:=A2 (xs:=s.co) (j:=i.toNat) e;rw[show((i.toNat:Nat):Int)=i by omega] at e2;refine x8 e2 ?_;left;exact h1 _ hv.1 hv.2 e
 .have:(decide (0<=i)&&decide (i<=(-s.co:Int)-1))=false:=by
   rw[cC,aP,aP];rcases cL.mp hv with z|z
   .exact .inl z
   .exact .inr ()
  rw[this];refine fV rfl ?_;left;exact h2 hv
end
abbrev K8(f:Int)(c:a9):Int:=if f=0 then c.lo else c.up
abbrev sQ(f:Int)(c:a9):@&Int:=if f=0 then c.lm else c.um
def CB.jM{c:a9}(h:CB c)(f:Int):(sQ f c).length<=1000:=by
 unfold sQ;split
 .have:=h.1;omega
 .have:=h.2;omega
def S3(hf:f=0\/f=2)(c:a9):ia [D.int c.lo,D.tup (c.lm.map .int),D.int c.up,D.tup (c.um.map .int),D.int c.yr] f=!.int (K8 f c):=by
 rcases hf with rfl|rfl<;>rfl
def JW(hf:f=0\/f=2)(c:a9):ia [D.int c.lo,D.tup (c.lm.map .int),D.int c.up,D.tup (c.um.map .int),D.int c.yr] (f+1)=!(.tup ((sQ f c).map .int)):=by
 rcases hf with rfl|rfl<;>rfl
abbrev cD:a9:=#[0,[],0,[],0]
noncomputable abbrev bV(cs:@&a9)(i:Nat):a9:=cs.getD i cD
def F3{c:a9}(h:cs[i]?=!c):bV cs i=c:=by simp[bV,List.getD,h]
inductive RW where
 |gY|lower|upper
abbrev RW.s:RW->Str
 |.gY=>"coin"
 |.lower=>"lower"
 |.upper=>"upper"
structure fP where
 w:RW
 x:Int
 y:Int
abbrev fP.d(r:fP):D:=.tup [.str r.w.s,.int r.x,.int r.y]
abbrev meant(cs:@&a9)(w:RW)(x:Int)(i:Nat):Bool:=match w with
 |.gY=>decide ((i:Int)=x)
 |.lower=>decide ((bV cs i).lo=x)
 |.upper=>decide ((bV cs i).up=x)
abbrev lH(cs:@&a9)(w:RW)(x:Int):@&Nat:=(List.range (-cs)).filter (meant cs w x)
abbrev b8(l:@&Nat):@&D:=l.map λ(i:Nat)=>D.int i
abbrev qp(l:@&Nat):Nat:=(l.map (2 ^ ·)).sum
abbrev jd(n:Nat)(p:Nat->Bool):Nat:=qp ((List.range n).filter p)
def NL(n:Nat)(p:Nat->Bool):jd (n+1) p=jd n p+if p n=true then 2 ^ n else 0:=by
 unfold jd qp;rw[gE,gT,cP,List.sum_append];cases h:p n<;>simp[List.filter_cons,h]
def bE5(n:Nat)(p:Nat->Bool):jd n p<2 ^ n:=by
 induction n with
 |zero=>simp[jd,qp]
 |succ n ih =>
  rw[NL,Nat.pow_succ];split<;>omega
def M'(n:Nat)(p:Nat->Bool)(i:Nat):(jd n p).testBit i=(decide (i<n)&&p i):=by
 induction n with
 |zero=>simp[jd,qp]
 |succ n ih =>
  let hl:=bE5 n p;rw[NL];by_cases hp:p n=true
  .rw[ay hp,Nat.add_comm];rcases eF i n with h|h|h
   .rw[Nat.testBit_two_pow_add_gt h,ih,aA h,aA ()]
   .subst h;rw[Nat.testBit_two_pow_add_eq,ih];simp[hp]
   .rw[Nat.testBit_lt_two_pow (aD (show 2 ^ n+jd n p<2 ^ (n+1) by omega) (Av () h)),aI ()]
    rfl
  .rw[az hp,Nat.add_zero,ih];by_cases h:i=n
   .subst h;simp[hp]
   .rw[show decide (i<n)=decide (i<n+1) from fW.mpr ()]
def DF(a b:Nat):Builtin.bitAnd (a:Int) (b:Int)=((a &&& b:Nat):Int):=by
 rfl
def bK3(a b:Nat):Builtin.bitOr (a:Int) (b:Int)=((a |||b:Nat):Int):=by
 unfold Builtin.bitOr Builtin.bitAnd;let h1:∀x:Nat,decide (0<=Builtin.bitNot (x:Int))=false:=λx=>by unfold Builtin.bitNot;exact aI ()
 let h2:∀x:Nat,Builtin.bitNot (Builtin.bitNot (x:Int))=x:=λx=>by unfold Builtin.bitNot;omega
 rw[h1,h1];simp only[h2];simp
def Zx(a b:Nat):((a &&& b:Nat)≠0)↔∃i,a.testBit i=true/\b.testBit i=true:=by
 constructor
 .intro h;let#[i,hi]:=Nat.exists_testBit_of_ne_zero h;rw[Nat.testBit_and,aU] at hi;exact#[i,hi]
 .rintro⟨i,h1,h2⟩ e;have:(a &&& b).testBit i=true:=by rw[Nat.testBit_and,h1,h2];rfl
  rw[e,Nat.zero_testBit] at this;cases this
def zC(s n:Nat)(p:Nat->Bool):((((s &&& jd n p:Nat):Int) != 0)=(List.range n).any λi=>s.testBit i&&p i):=by
 rw[aZ,bne_iff_ne,aO];have:(((s &&& jd n p:Nat):Int)≠0)↔((s &&& jd n p:Nat)≠0):=by omega
 rw[this,Zx];constructor
 .rintro⟨i,h1,h2⟩;rw[M',aU,br] at h2;exact#[i,aR.mpr h2.1,by rw[h1,h2.2];rfl]
 .rintro⟨i,h1,h2⟩;rw[aU] at h2;exact#[i,h2.1,by rw[M',aA (aR.mp h1),h2.2];rfl]
abbrev mw(a b:a9):Bool:=(decide (a.lo=b.lo)&&~~~jL a.lm b.lm)||(decide (a.up=b.up)&&~~~jL a.um b.um)
abbrev kZ(a b:a9):Bool:=decide (0<b.yr)&&decide (b.yr<a.yr)
abbrev L0(cs:@&a9)(S:Nat->Bool)(p:Nat):Bool:=(List.range (-cs)).any λi=>S i&&mw (bV cs i) (bV cs p)
abbrev J8(cs:@&a9)(S:Nat->Bool)(p:Nat):Bool:=(List.range (-cs)).any λi=>S i&&kZ (bV cs i) (bV cs p)
abbrev S5(cs:@&a9)(S:Nat->Bool)(p:Nat)(d:Int):Bool :=
 ((List.range (-cs)).any λi=>(S i||decide (i=p))&&decide ((bV cs i).lo=d))&&((List.range (-cs)).any λi=>~~~S i&&decide ((bV cs i).lo=d))
abbrev qg(cs:@&a9)(S:Nat->Bool)(p:Nat):Nat:=((o8 (cs.map a9.lo)).filter (S5 cs S p)).length
abbrev X4(cs:@&a9)(rs:@&fP)(S:Nat->Bool)(p:Nat):Bool:=rs.all λr=>~~~meant cs r.w r.y p||(List.range (-cs)).any λi=>S i&&meant cs r.w r.x i
abbrev fault(cs:@&a9)(v:Int)(rs:@&fP)(S:Nat->Bool)(p:Nat):Str :=
 if L0 cs S p=true then "wear" else if J8 cs S p=true then "year" else if v<qg cs S p then "anvil" else if X4 cs rs S p=true then "" else "rule"
abbrev zf(x:Str):D:=if x="" then .bg else .str x
abbrev X8:aV:=#[3,4,(.seq (.ifs (.dQ (.fC (.call 38 (dE bf)))) (.seq (.ret (.prim .lst .nil)) .pass) .pass) (.seq (.ifs (dR .Eq aX (ff "coin")) (.seq (.ret (.comp [2] 3 (.one 2) (.fE (cW .len aF)) (dR .Eq bf aF) bf)) .pass) .pass) (.seq (.set 3 (.call 19 (dE aX))) (.seq (.ret (.comp [3,2] 5 (.many [3,4]) (.lV aF) (dR .Eq (cR cO aF) aX) bw)) .pass))))]
abbrev DO:aV:=#[2,3,(.seq (.expr (.call 18 (dE aF))) (.seq (.set 2 (.call 19 (dE aX))) (.seq (.ret (.iL [2] 3 (.one 2) (.fQ aF) .no (cR bf aF))) .pass)))]
abbrev EE:aV:=#[2,5,(.seq (.nE (.many [2,3,4]) aX) (.seq (.ifs (.ke (dR .NotIn bf (.lit (.tup [(.str "coin"),(.str "lower"),(.str "upper")]))) (dR .Eq bw cO)) (.seq (.ret (.lit (.bl false))) .pass) .pass) (.seq (.ret (.dF (bL (.cmp .NotEq) (.call 74 (gp aF bf bw)) (.prim .lst .nil)) (bL (.cmp .NotEq) (.call 74 (gp aF bf cO)) (.prim .lst .nil)))) .pass)))]
abbrev Z4:aV:=#[2,4,(.seq (.eL (.many [2,3]) (.lV aX) (.seq (.ifs (.dQ (.fC (.call 88 (dP aF bw)))) (.seq (.expr .no) .pass) .pass) .pass)) .pass)]
abbrev zT:aV:=#[1,1,(.seq (.ret (cW .sum (.comp [] 2 (.one 1) (.fQ aF) .no (bL (.bin .LShift) (bj 1) aX)))) .pass)]
abbrev X7:aV:=#[2,2,(.seq (.ret (bL (.bin .BitOr) aF (bL (.bin .LShift) (bj 1) aX))) .pass)]
abbrev KA:aV:=#[2,4,(.seq (.eL (.one 2) (.fQ (.lit (.tup [(.str "lower"),(.str "upper")]))) (.seq (.set 3 (.call 19 (dE bf))) (.seq (.ifs (.dF (dR .Eq (cR aF bw) (cR aX bw)) (.dQ (.fC (.call 15 (dP (cR aF (bL (.bin .Add) bw (bj 1))) (cR aX (bL (.bin .Add) bw (bj 1)))))))) (.seq (.ret (.lit (.bl true))) .pass) .pass) .pass))) (.seq (.ret (.lit (.bl false))) .pass))]
abbrev FV:aV:=#[2,2,(.seq (.ret (.chain .Lt .Lt (bj 0) (cR aX (bj 4)) (cR aF (bj 4)))) .pass)]
abbrev LJ:aV:=#[1,1,(.seq (.ret (.comp [0] 3 (.one 2) (.fQ aF) .no (.call 90 (dE (.comp [2] 4 (.many [2,3]) (.lV aF) (.fC (.call 92 (dP bw aF))) bf))))) .pass)]
abbrev LZ:aV:=#[1,1,(.seq (.ret (.comp [0] 3 (.one 2) (.fQ aF) .no (.call 90 (dE (.comp [2] 4 (.many [2,3]) (.lV aF) (.fC (.call 93 (dP bw aF))) bf))))) .pass)]
abbrev EW:aV:=#[1,1,(.seq (.ret (.comp [0] 3 (.one 2) (.fQ (.call 20 (dP aF (ff "lower")))) .no (.call 90 (dE (.call 74 (gp aF (ff "lower") bf)))))) .pass)]
abbrev S7:aV:=#[2,8,(.seq (.set 2 (.comp [] 2 (.one 1) (.fQ aF) .no (.prim .lst .nil))) (.seq (.eL (.many [3,4,5]) (.fQ aX) (.seq (.set 6 (.call 90 (dE (.call 74 (gp aF bw cO))))) (.seq (.eL (.one 7) (.fQ (.call 74 (gp aF bw eK))) (.seq (.ifs (dR .NotIn fo (cR bf ji)) (.seq (.expr (.eW .append (cR bf ji) (dE fo))) .pass) .pass) .pass)) .pass))) (.seq (.ret bf) .pass)))]
abbrev Q6:aV:=#[3,3,(.seq (.expr (.call 18 (dE aF))) (.seq (.expr (.call 42 (dE aX))) (.seq (.expr (.call 89 (dP aF bf))) .pass)))]
abbrev EB:aV:=#[3,3,(.seq (.expr (.call 98 (gp aF aX bf))) (.seq (.ret (.make "Bounds" 113 (gp aF aX bf))) .pass))]
abbrev EX:aV:=#[3,5,(.seq (.set 3 (.call 91 (dP aX bf))) (.seq (.set 4 (bL (.bin .Sub) (cW (.fld "full") aF) aX)) (.seq (.ret (cW .len (.comp [4,3] 4 (.one 3) (.fQ (cW (.fld "lower_dies") aF)) (.dF (.fC (bL (.bin .BitAnd) bw aX)) (.fC (bL (.bin .BitAnd) bw aF))) bw))) .pass)))]
abbrev Fc:aV:=#[3,3,(.seq (.ifs (.fC (bL (.bin .BitAnd) aX (cR (cW (.fld "worn_by_place") aF) bf))) (.seq (.ret (ff "wear")) .pass) .pass) (.seq (.ifs (.fC (bL (.bin .BitAnd) aX (cR (cW (.fld "later_by_place") aF) bf))) (.seq (.ret (ff "year")) .pass) .pass) (.seq (.ifs (dR .Gt (.call 100 (gp aF aX bf)) (cW (.fld "room") aF)) (.seq (.ret (ff "anvil")) .pass) .pass) (.seq (.ifs (.dQ (.fC (cW .all (.comp [1] 3 (.one 2) (.fQ (cR (cW (.fld "needed_by_place") aF) bf)) .no (bL (.bin .BitAnd) aF bf))))) (.seq (.ret (ff "rule")) .pass) .pass) (.seq (.ret (.lit .bg)) .pass)))))]
abbrev Z6:aV:=#[4,4,(.seq (.fJ "size" ["Bounds"] aF (cW .len aX)) (.seq (.fJ "full" ["Bounds"] aF (bL (.bin .Sub) (bL (.bin .LShift) (bj 1) (cW .len aX)) (bj 1))) (.seq (.fJ "room" ["Bounds"] aF bf) (.seq (.fJ "worn_by_place" ["Bounds"] aF (.call 94 (dE aX))) (.seq (.fJ "later_by_place" ["Bounds"] aF (.call 95 (dE aX))) (.seq (.fJ "lower_dies" ["Bounds"] aF (.call 96 (dE aX))) (.seq (.fJ "needed_by_place" ["Bounds"] aF (.call 97 (dP aX bw))) .pass)))))))]
section
variable{Z:S}{c:ME}
def E3(hP:i5 P)(Sh:S->Prop)(p:Nat->Bool)(w:Nat->D){k:IK}(hk:∀g',Ex g g'->k.Is l g')(hl:-l<=1000)(h0:Sh (L5 Z d4 n))(hs:∀i d Z g',l[i]?=!d->Ex g g'->Sh Z->kK t d Z λcQ=>dY P c cQ g' (λb g3=>b=p i/\Ex g g3/\if b=true then aY P elt cQ g3 (λy g4=>y=w i/\Ex g g4/\Sh cQ) jZ else Sh cQ) jZ)(hd:∀g',Ex g g'->Q (.ref (-g')) (g'++[.lst (((List.range (-l)).filter p).map w)]))(hi:∀R:IK->G->Prop,R k g->iK P it Z g R E):aY P (.comp d4 n t it c elt) Z g Q E:=by
 refine H9 hP (hi _ ?_);refine#[l,λi ys Z g'=>Ex g g'/\ys=((List.range i).filter p).map w/\Sh Z,hl,λi ys Z g' q=>#[hk _ q.1,?_],#[Ex.refl _,rfl,h0],λi x ys Z g' hx q=>?_,λys Z g' q=>?_]
 .let#[_,rfl,_]:=q;rw[au];exact aG (dk _ _) #[_]
 .let#[e1,rfl,sh]:=q;refine B8 (λcQ q=>v7 hP c _ _ _ _ _ _ (λb g3 q=>?_) (λv v z=>z) q) (hs i x Z g' hx e1 sh);let#[rfl,e3,q]:=q;let ef:((List.range (i+1)).filter p).map w=((List.range i).filter p).map w++if p i=true then[w i] else[]:=by
   rw[gE,gT,cP];cases z:p i<;>simp only[List.filter_cons,z,List.filter_nil]<;>rfl
  cases hp:p i with
  |true =>
   rw[hp] at q ef;refine b9 hP elt _ _ _ _ _ _ (λy g4 q=>?_) (λv v z=>z) q;let#[rfl,e4,sh]:=q;exact#[e4,by rw[ef];rfl,sh]
  |false =>
   simp_all
 .let#[e1,rfl,sh]:=q;exact hd g' e1
def comp_map(hP:i5 P)(Sh:S->Prop)(w:Nat->D){k:IK}(hk:∀g',Ex g g'->k.Is l g')(hl:-l<=1000)(h0:Sh (L5 Z d4 n))(hs:∀i d Z g',l[i]?=!d->Ex g g'->Sh Z->kK t d Z λcQ=>aY P elt cQ g' (λy g4=>y=w i/\Ex g g4/\Sh cQ) jZ)(hd:∀g',Ex g g'->Q (.ref (-g')) (g'++[.lst ((List.range (-l)).map w)]))(hi:∀R:IK->G->Prop,R k g->iK P it Z g R E):aY P (.comp d4 n t it .no elt) Z g Q E:=by
 refine E3 hP Sh (λx=>true) w hk hl h0 (λi d Z g' hx e sh=>B8 (λcQ q=>xu #[rfl,e,?_]) (hs i d Z g' hx e sh)) (λg' e=>?_) hi
 .exact lW q
 .have:=hd g' e
  rwa [show(List.range (-l)).filter (λx=>true)=List.range (-l) from List.filter_eq_self.mpr λx x=>rfl]
def V7(hP:i5 P){o:ME}(hl:c9 g a=!l)(h:∀Q:KD,Q (.ref a) g->aY P o Z g Q E):∀R:IK->G->Prop,R (.lst a) g->iK P (.fQ o) Z g R E:=λR r=>my hP (h _ #[a,l,rfl,hl,r])
def Ds{o:ME}(hl:c9 g a=!l)(h:∀Q:KD,Q (.ref a) g->aY P o Z g Q E):∀R:IK->G->Prop,R (.pW a) g->iK P (.lV o) Z g R E:=λR r=>Bk (h _ #[a,l,rfl,hl,r])
def Dt(hP:i5 P){o:ME}(hj:j<=1000)(h:∀Q:KD,Q (.int (j:Nat)) g->aY P o Z g Q E):∀R:IK->G->Prop,R (.fix (j6 0 j)) g->iK P (.fE o) Z g R E:=λR r=>Z8 hP (h _ #[j,rfl,by omega,by omega,by simpa using r])
end
def Ef(l:@&Nat):b8 l=(l.map λ(i:Nat)=>(i:Int)).map D.int:=by simp[b8]
structure TB0(T:Nat->Option aV):Prop where
 nf:NF T
 h2:T 2=!O0
 uf:T 12=!E2
 wN:OT T
 mJ:GI T
 zc:T 15=!zH
 So:T 20=!DO
 rW:T 74=!X8
 RQ:T 88=!EE
 RP:T 89=!Z4
 ue:T 90=!zT
 pQ:T 91=!X7
 RO:T 92=!KA
 RN:T 93=!FV
 RL:T 94=!LJ
 RK:T 95=!LZ
 RJ:T 96=!EW
 RI:T 97=!S7
 CG:T 100=!EX
 CD:T 101=!Fc
 Cz:T 113=!Z6
structure TB(T:Nat->Option aV):Prop extends TB0 T where
 rX:T 42=!C3
 Cn:T 98=!Q6
 RH:T 99=!EB
instance{T:Nat->Option aV}:CoeOut (TB T) (TB0 T):=#[TB.toTB0]
section
variable{T:Nat->Option aV}{d:Nat}
def au1(h1:NF T)(rX:T 42=!C3){i:Int}(h:1<=i->i<=9->Q .bg g)(hn:¬(1<=i/\i<=9)->E #["BadAnvils"] g):b0 T (k+3) 42 [.int i] g Q E:=by
 refine call_of rX rfl ?_;delta C3;show m7 (k:=k) h1 ?_;left;by_cases hi:1<=i/\i<=9
 .rw[aA hi.1,aA hi.2];exact h hi.1 hi.2
 .have:(decide (1<=i)&&decide (i<=9))=false:=by
   simp_all
  rw[this];left;exact hn hi
def Q9(h1:NF T)(mJ:GI T)(rW:T 74=!X8){w:RW}{x:Int}(ha:g[a]?=!.lst (cs.map a9.d))(hz:-cs<=1000)(h:∀g' b,Ex g g'->-g<=b->g'[b]?=!(.lst (b8 (lH cs w x)))->Q (.ref b) g'):b0 T (k+3) 74 [.ref a,.str w.s,.int x] g Q E:=by
 refine call_of rW rfl ?_;delta X8;show LY (k:=k+1) h1 ?_;left;let fld:∀f:Int,(f=0\/f=2)->(∀i c,cs[i]?=!c->meant cs w x i=decide (K8 f c=x))->aY (b0 T (k+2)) (.comp [3,2] 5 (.many [3,4]) (.lV (.var 0)) (.fC (.prim (.cmp .Eq) (.cons (.prim .ix (.cons (.var 4) (.cons (.var 0) .nil))) (.cons (.var 1) .nil)))) (.var 3)) [!.ref a,!.str w.s,!.int x,!.int f] g Q E:=λf hf hm=>by
  refine E3 (a8 T _) (λZ=>∃z2 z3 z4,Z=[!.int f,!.int x,z2,z3,z4]) (meant cs w x) (λi=>.int (i:Nat)) (l:=nL (cs.map a9.d)) (λg' e=>zq (a7 (e.at ha))) (by rw[Q2];simpa using hz) #[none,none,none,rfl] (λi d Z g' hx e sh=>?_) (λg' e=>?_) (Ds (a7 ha) λQ q=>w_var (d:=.ref a) rfl q)
  .let#[z2,z3,z4,rfl]:=sh;let#[dd,hd,rfl]:=zD hx;rw[aj,ae] at hd;let#[c,hc,rfl]:=hd;refine E7 rfl ?_;show x8 (S3 hf c) ?_;left;rw[hm i c hc];refine#[rfl,e,?_];refine if2 (λy=>?_) (λy=>?_)
   .left;exact#[rfl,e,_,_,_,rfl]
   .exact#[_,_,_,rfl]
  .rw[Q2,au];exact h _ _ (e.trans (Ex.snoc _ _)) e.len b7
 cases w with
 |gY =>
  refine fV #[] ?_;show E3 (a8 T _) (λZ=>∃z1 z2,Z=[!.int x,z1,z2]) (meant cs .gY x) (λi=>.int (i:Nat)) (l:=j6 0 (-cs)) (λg' e=>x3) (by rw[j8];exact hz) #[none,none,rfl] (λi d Z g' hx e sh=>?_) (λg' e=>?_) (Dt (a8 T _) hz λQ q=>?_)
  .let#[z2,z3,rfl]:=sh;let#[hi,rfl]:=C8 hx;rw[eU];refine i9 ?_;show#[rfl,e,?_];refine if2 (λy=>?_) (λy=>?_)
   .left;exact#[rfl,e,_,_,rfl]
   .exact#[_,_,rfl]
  .rw[j8];exact h _ _ (e.trans (Ex.snoc _ _)) e.len b7
  .left;rw[au];exact q
 |lower =>
  refine fF #[] ?_;show K7 (k:=k) mJ #[] (λy=>?_) (λz=>absurd z #[]) (λz=>absurd rfl z);exact fld 0 (.inl rfl) λi c hc=>by simp only[meant,F3 hc];rfl
 |upper =>
  refine fF #[] ?_;show K7 (k:=k) mJ #[] (λz=>absurd z #[]) (λy=>?_) (λy z=>absurd rfl z);exact fld 2 (.inr rfl) λi c hc=>by simp only[meant,F3 hc];rfl
def Q4(ue:T 90=!zT){l:@&Nat}(ha:g[a]?=!.lst (b8 l))(hz:-l<=1000)(hl:∀i∈l,i<=1000)(h:∀g',Ex g g'->Q (.int (qp l:Nat)) g'):b0 T (k+1) 90 [.ref a] g Q E:=by
 refine call_of ue rfl ?_;delta zT;show comp_map (a8 T _) (λZ=>∃z0 z1,Z=[z0,z1]) (λi=>.int ((2 ^ (l.getD i 0):Nat):Int)) (l:=b8 l) (k:=.lst a) (λg' e=>s9 (a7 (e.at ha))) (by simpa[b8] using hz) #[none,none,rfl] (λi d Z g' hx e sh=>?_) (λg' e=>?_) (V7 (a8 T _) (a7 ha) λQ q=>w_var (d:=.ref a) rfl q)
 .let#[z0,z1,rfl]:=sh;rw[b8,aj,ae] at hx;let#[j,hj,rfl]:=hx;refine i9 ?_;left;have:=hl j (aB hj);refine Gp #[by omega,by omega,by decide] ?_;refine#[?_,e,_,_,rfl];simp[List.getD,hj]
 .refine JL (ns:=(List.range (-l)).map λi=>((2 ^ (l.getD i 0):Nat):Int)) (a7 (by simpa[b8] using b7)) ?_;have:((List.range (-l)).map λi=>((2 ^ (l.getD i 0):Nat):Int)).sum=(qp l:Nat):=by
   let e2:(List.range (-l)).map (λi=>((2 ^ (l.getD i 0):Nat):Int))=(l.map (2 ^ ·)).map λ(n:Nat)=>(n:Int):=by
    refine cK λi=>?_;rw[aj,aj,aj];by_cases hi:i< -l
    .simp[List.getD,hi]
    .rw[aT (by simpa using hi),aT ()]
     rfl
   rw[e2];unfold qp;generalize l.map (2 ^ ·)=m
   induction m with
   |nil=>rfl
   |cons x r ih=>simp[ih]
  rw[this];exact h _ (e.trans (Ex.snoc _ _))
def B7(pQ:T 91=!X7){s:Nat}(hp:p<=1000)(h:Q (.int ((s |||2 ^ p:Nat):Int)) g):b0 T (k+1) 91 [.int (s:Nat),.int (p:Nat)] g Q E:=by
 refine call_of pQ rfl ?_;delta X7;show Gp #[by omega,by omega,by decide] ?_;refine b87 ?_;let e:(1:Int)*2 ^ ((p:Nat):Int).toNat=((2 ^ p:Nat):Int):=by simp
 rw[e,bK3];exact h
end
section
variable{T:Nat->Option aV}{d:Nat}
def OF{c:a9}(h:CB c):-c.lm<=1000/\-c.um<=1000:=#[aG h.1 ∅,aG h.2 ∅]
def aH4(hT:TB0 T){c e:a9}(hc:CB c)(h:∀g',Ex g g'->Q (.bl (mw c e)) g'):b0 T (k+3) 92 [c.d,e.d] g Q E:=by
 refine call_of hT.RO rfl ?_;refine A6 (a8 T _) (tL (a8 T _) ?_);refine#[_,rfl,_,λi Z g'=>Ex g g'/\(∃z2 z3,Z=[!c.d,!e.d,z2,z3])/\(1<=i->(decide (c.lo=e.lo)&&~~~jL c.lm e.lm)=false)/\(2<=i->(decide (c.up=e.up)&&~~~jL c.um e.um)=false),λy y y y=>x3,#[Ex.refl _,#[none,none,rfl],λz=>absurd z (),λz=>absurd z ()],λi x Z g' hx q=>?_,λZ g' q=>?_]
 .let#[e1,#[z2,z3,rfl],q1,q2]:=q;refine i9 ?_
  match i,hx with
  |0,hx =>
   cases hx;show K7 (k:=k) hT.mJ #[] (λy=>?_) (λz=>absurd z #[]) (λz=>absurd rfl z);show x8 (l:=[.int c.lo,.tup (c.lm.map .int),.int c.up,.tup (c.um.map .int),.int c.yr]) rfl ?_;show x8 (l:=[.int e.lo,.tup (e.lm.map .int),.int e.up,.tup (e.um.map .int),.int e.yr]) rfl ?_;show if2 (λh1=>?_) (λh1=>?_)
   .show x8 (l:=[.int c.lo,.tup (c.lm.map .int),.int c.up,.tup (c.um.map .int),.int c.yr]) rfl ?_;show x8 (l:=[.int e.lo,.tup (e.lm.map .int),.int e.up,.tup (e.um.map .int),.int e.yr]) rfl ?_;show KW (k:=k+1) hT.zc (OF hc).1 λg2 e2=>?_;left;cases hw:jL c.lm e.lm with
    |false =>
     left;have:mw c e=true:=by unfold mw;rw[aA h1,hw];rfl
     rw[<- this];exact h _ (e1.trans e2)
    |true =>
     exact#[e1.trans e2,#[_,_,rfl],λy=>by rw[aA h1];rfl,λz=>absurd z ()]
   .exact#[e1,#[_,_,rfl],λy=>by rw[aI h1];rfl,λz=>absurd z ()]
  |1,hx =>
   cases hx;show K7 (k:=k) hT.mJ #[] (λz=>absurd z #[]) (λy=>?_) (λy z=>absurd rfl z);show x8 (l:=[.int c.lo,.tup (c.lm.map .int),.int c.up,.tup (c.um.map .int),.int c.yr]) rfl ?_;show x8 (l:=[.int e.lo,.tup (e.lm.map .int),.int e.up,.tup (e.um.map .int),.int e.yr]) rfl ?_;show if2 (λh1=>?_) (λh1=>?_)
   .show x8 (l:=[.int c.lo,.tup (c.lm.map .int),.int c.up,.tup (c.um.map .int),.int c.yr]) rfl ?_;show x8 (l:=[.int e.lo,.tup (e.lm.map .int),.int e.up,.tup (e.um.map .int),.int e.yr]) rfl ?_;show KW (k:=k+1) hT.zc (OF hc).2 λg2 e2=>?_;left;cases hw:jL c.um e.um with
    |false =>
     left;have:mw c e=true:=by unfold mw;rw[aA h1,hw];simp
     rw[<- this];exact h _ (e1.trans e2)
    |true =>
     exact#[e1.trans e2,#[_,_,rfl],λy=>q1 (),λy=>by rw[aA h1];rfl]
   .exact#[e1,#[_,_,rfl],λy=>q1 (),λy=>by rw[aI h1];rfl]
  |i+2,hx=>simp at hx
 .let#[e1,#[z2,z3,rfl],q1,q2]:=q;have:mw c e=false:=by unfold mw;rw[q1 ∅,q2 ∅];rfl
  rw[<- this];exact h _ e1
def Wc(hT:TB0 T){c e:a9}(h:Q (.bl (kZ c e)) g):b0 T (k+1) 93 [c.d,e.d] g Q E:=by
 refine call_of hT.RN rfl ?_;delta FV;show x8 (l:=[.int e.lo,.tup (e.lm.map .int),.int e.up,.tup (e.um.map .int),.int e.yr]) rfl ?_;show if2 (λh1=>?_) (λh1=>?_)
 .show x8 (l:=[.int c.lo,.tup (c.lm.map .int),.int c.up,.tup (c.um.map .int),.int c.yr]) rfl ?_;left;have:kZ c e=decide (e.yr<c.yr):=by unfold kZ;rw[aA h1];rfl
  rw[<- this];exact h
 .have:kZ c e=false:=by unfold kZ;rw[aI h1];rfl
  rw[<- this];exact h
abbrev tD(cs:@&a9)(q:a9->a9->Bool):@&D:=(List.range (-cs)).map λi=>.int ((jd (-cs) λj=>q (bV cs j) (bV cs i):Nat):Int)
def xD{q:Nat->Bool}:∀i∈(List.range (-cs)).filter q,i< -cs:=λi hi=>aR.mp (bt.mp hi).1
def P9{q:Nat->Bool}:((List.range n).filter q).length<=n:=aG (dk _ _) #[_]
def VA(hT:TB0 T)(ha:g[a]?=!.lst (cs.map a9.d))(hz:-cs<=9)(hB:∀c∈cs,CB c)(h:∀g' b,Ex g g'->-g<=b->g'[b]?=!.lst (tD cs mw)->Q (.ref b) g'):b0 T (k+4) 94 [.ref a] g Q E:=by
 refine call_of hT.RL rfl ?_;refine comp_map (a8 T _) (λZ=>∃z1 z2,Z=[!.ref a,z1,z2]) (λi=>.int ((jd (-cs) λj=>mw (bV cs j) (bV cs i):Nat):Int)) (l:=cs.map a9.d) (k:=.lst a) (λg' e=>s9 (a7 (e.at ha))) (by simp;omega) #[none,none,rfl] (λi d Z g' hx e sh=>?_) (λg' e=>?_) (V7 (a8 T _) (a7 ha) λQ q=>w_var (d:=.ref a) rfl q)
 .let#[z1,z2,rfl]:=sh;rw[aj,ae] at hx;let#[c,hc,rfl]:=hx;refine i9 ?_;show E3 (a8 T _) (λZ=>∃z1 z2 z3,Z=[!c.d,z1,z2,z3]) (λj=>mw (bV cs j) (bV cs i)) (λi=>.int (i:Nat)) (l:=nL (cs.map a9.d)) (k:=.pW a) (λg2 e2=>zq (a7 ((e.trans e2).at ha))) (by rw[Q2];simp;omega) #[none,none,none,rfl] (λj d Z g2 hx e2 sh=>?_) (λg2 e2=>?_) (Ds (a7 (e.at ha)) λQ q=>w_var (d:=.ref a) rfl q)
  .let#[z1,z2,z3,rfl]:=sh;let#[dd,hd,rfl]:=zD hx;rw[aj,ae] at hd;let#[c',jO,rfl]:=hd;refine E7 rfl ?_;show aH4 (k:=k) hT (hB c' (aB jO)) λg3 e3=>?_;show#[by simp only[F3 jO,F3 hc],e2.trans e3,?_];cases mw c' c with
   |true =>
    refine fV rfl ?_;left;exact#[rfl,e2.trans e3,_,_,_,rfl]
   |false=>exact fF rfl #[_,_,_,rfl]
  .show Q4 (k:=k+2) hT.ue (l:=(List.range (-cs)).filter λj=>mw (bV cs j) (bV cs i)) (by have:=b7 (g:=g2) (o:=.lst (((List.range (nL (cs.map a9.d)).length).filter λj=>mw (bV cs j) (bV cs i)).map λi=>D.int (i:Nat)));rw[Q2,au] at this ⊢;exact this) (aG P9 ()) (λj hj=>by have:=xD j hj;omega) λg3 e3=>?_;exact#[rfl,(e.trans (e2.trans (Ex.snoc _ _))).trans e3,_,_,rfl]
 .refine h _ _ (e.trans (Ex.snoc _ _)) e.len ?_;rw[b7,au]
  rfl
def a79(hT:TB0 T)(ha:g[a]?=!.lst (cs.map a9.d))(hz:-cs<=9)(h:∀g' b,Ex g g'->-g<=b->g'[b]?=!.lst (tD cs kZ)->Q (.ref b) g'):b0 T (k+4) 95 [.ref a] g Q E:=by
 refine call_of hT.RK rfl ?_;refine comp_map (a8 T _) (λZ=>∃z1 z2,Z=[!.ref a,z1,z2]) (λi=>.int ((jd (-cs) λj=>kZ (bV cs j) (bV cs i):Nat):Int)) (l:=cs.map a9.d) (k:=.lst a) (λg' e=>s9 (a7 (e.at ha))) (by simp;omega) #[none,none,rfl] (λi d Z g' hx e sh=>?_) (λg' e=>?_) (V7 (a8 T _) (a7 ha) λQ q=>w_var (d:=.ref a) rfl q)
 .let#[z1,z2,rfl]:=sh;rw[aj,ae] at hx;let#[c,hc,rfl]:=hx;refine i9 ?_;show E3 (a8 T _) (λZ=>∃z1 z2 z3,Z=[!c.d,z1,z2,z3]) (λj=>kZ (bV cs j) (bV cs i)) (λi=>.int (i:Nat)) (l:=nL (cs.map a9.d)) (k:=.pW a) (λg2 e2=>zq (a7 ((e.trans e2).at ha))) (by rw[Q2];simp;omega) #[none,none,none,rfl] (λj d Z g2 hx e2 sh=>?_) (λg2 e2=>?_) (Ds (a7 (e.at ha)) λQ q=>w_var (d:=.ref a) rfl q)
  .let#[z1,z2,z3,rfl]:=sh;let#[dd,hd,rfl]:=zD hx;rw[aj,ae] at hd;let#[c',jO,rfl]:=hd;refine E7 rfl ?_;show Wc (k:=k+2) hT ?_;show#[by simp only[F3 jO,F3 hc],e2,?_];cases kZ c' c with
   |true =>
    refine fV rfl ?_;left;exact#[rfl,e2,_,_,_,rfl]
   |false=>exact fF rfl #[_,_,_,rfl]
  .show Q4 (k:=k+2) hT.ue (l:=(List.range (-cs)).filter λj=>kZ (bV cs j) (bV cs i)) (by have:=b7 (g:=g2) (o:=.lst (((List.range (nL (cs.map a9.d)).length).filter λj=>kZ (bV cs j) (bV cs i)).map λi=>D.int (i:Nat)));rw[Q2,au] at this ⊢;exact this) (aG P9 ()) (λj hj=>by have:=xD j hj;omega) λg3 e3=>?_;exact#[rfl,(e.trans (e2.trans (Ex.snoc _ _))).trans e3,_,_,rfl]
 .refine h _ _ (e.trans (Ex.snoc _ _)) e.len ?_;rw[b7,au]
  rfl
def VP(hT:TB0 T)(ha:g[a]?=!.lst (cs.map a9.d))(hz:-cs<=9)(hg:cs.all x4=true)(h:Q (.ref (-g)) (g++[.lst ((o8 (cs.map a9.lo)).map .int)])):b0 T (k+7) 20 [.ref a,.str "lower"] g Q E:=by
 refine call_of hT.So rfl ?_;delta DO;show Me (k:=k) hT.nf hT.h2 hT.uf hT.wN ha () (λz=>by omega) (λx z=>by rw[hg] at z;cases z) λx x=>?_;show K7 (k:=k+4) hT.mJ #[] (λx=>?_) (λz=>absurd z #[]) (λz=>absurd rfl z);show Vu (a8 T _) (my (a8 T _) ?_);show#[a,_,rfl,a7 ha,cs.map a9.d,λi ys Z g'=>∃z w,ys=(cs.take i).map a9.lo/\Z=[!.int 0,z,w]/\g'=g,by simp;omega,λi ys Z g' p=>?_,#[none,none,rfl,rfl,rfl],λi c ys Z g' hx p=>?_,λys Z g' p=>?_]
 .let#[z,w,rfl,rfl,rfl]:=p;exact#[s9 (a7 ha),by simp;omega]
 .let#[z,w,rfl,rfl,rfl]:=p;rw[aj,ae] at hx;let#[c,hc,rfl]:=hx;show x8 (l:=[.int c.lo,.tup (c.lm.map .int),.int c.up,.tup (c.um.map .int),.int c.yr]) rfl ?_;refine#[_,rfl,_,_,?_,rfl,rfl];rw[bz,hc];simp
 .let#[z,w,rfl,rfl,rfl]:=p;rw[au,bP];exact h
abbrev pe(cs:@&a9):@&D:=(o8 (cs.map a9.lo)).map λd=>.int ((jd (-cs) (meant cs .lower d):Nat):Int)
def aC0(hT:TB0 T)(ha:g[a]?=!.lst (cs.map a9.d))(hz:-cs<=9)(hg:cs.all x4=true)(h:∀g' b,Ex g g'->-g<=b->g'[b]?=!.lst (pe cs)->Q (.ref b) g'):b0 T (k+8) 96 [.ref a] g Q E:=by
 refine call_of hT.RJ rfl ?_;delta EW;left;let QL:(o8 (cs.map a9.lo)).length<=9:=aG (ES _) (by simpa using hz);unfold pe at h;refine H9 (a8 T _) (my (a8 T _) ?_);show VP (k:=k) hT ha hz hg ?_;let e0:=Ex.snoc g (O.lst ((o8 (cs.map a9.lo)).map .int));let hb:=b7 (g:=g) (o:=O.lst ((o8 (cs.map a9.lo)).map .int));generalize o8 (cs.map a9.lo)=ds at *;generalize g++[O.lst (ds.map .int)]=g1 at *;refine#[_,_,rfl,a7 hb,ds.map .int,λi ys Z g'=>Ex g1 g'/\ys=(ds.take i).map (λd=>.int ((jd (-cs) (meant cs .lower d):Nat):Int))/\∃z1 z2,Z=[!.ref a,z1,z2],by simp;omega,λi ys Z g' q=>#[s9 (a7 (q.1.at hb)),?_],#[Ex.refl _,rfl,none,none,rfl],λi x ys Z g' hx q=>?_,λys Z g' q=>?_]
 .let#[_,rfl,_]:=q;simp;omega
 .let#[e1,rfl,z1,z2,rfl]:=q;rw[aj,ae] at hx;let#[dd,hd,rfl]:=hx;refine i9 ?_;show Q9 (k:=k+4) hT.nf hT.mJ hT.rW (w:=.lower) ((e0.trans e1).at ha) () λg2 b2 e2 y wD=>?_;show Q4 (k:=k+6) hT.ue wD (aG P9 ()) (λj hj=>by have:=xD j hj;omega) λg3 e3=>?_;refine#[e1.trans (e2.trans e3),?_,_,_,rfl];rw[bz,hd];simp[jd,lH]
 .let#[e1,rfl,z1,z2,rfl]:=q;rw[au,bP];exact h _ _ (e0.trans (e1.trans (Ex.snoc _ _))) (aG e0.len e1.len) b7
end
def S1{i:Int}{k:Bool->Prop}(ha:c9 g a=!ms.map .int)(h:k (ms.any λm=>m==i)):pG g (.int i) (.ref a) k:=by
 refine#[_,.inr #[_,_,_,ha,R6 ms,rfl,lay_ints ms,by rfl,rfl],?_];rw[jc];exact h
def My{l:@&Nat}{k:Bool->Prop}(ha:g[a]?=!.lst (b8 l))(h:k (decide (i∈l))):pG g (.int (i:Nat)) (.ref a) k:=by
 refine S1 (ms:=l.map λ(i:Nat)=>(i:Int)) (by rw[<- Ef];exact a7 ha) ?_;have:((l.map λ(i:Nat)=>(i:Int)).any λm=>m==(i:Int))=decide (i∈l):=by
  rw[aZ,aO,br];constructor
  .rintro⟨x,hx,e⟩;let#[j,hj,rfl]:=aL.mp hx;rw[eO] at e;rw[show i=j by omega];exact hj
  .exact λhi=>#[_,aL.mpr #[i,hi,rfl],by simp]
 rw[this];exact h
structure oK(g:G)(nb lo n:Nat)(B:Nat->Nat)(F:Nat->Nat->Prop):Prop where
 ex:∃as:@&Nat,g[nb]?=!.lst (as.map .ref)/\-as=n/\as.Nodup/\(∀a∈as,lo<=a/\a≠nb)/\∀i a,as[i]?=!a->∃ms:@&Nat,g[a]?=!.lst (b8 ms)/\-ms<=B i/\∀m,m∈ms↔F i m
def oK.at{g g':G}{nb lo n:Nat}{B:Nat->Nat}{F:Nat->Nat->Prop}(h:oK g nb lo n B F)(e:Ex g g'):oK g' nb lo n B F:=by
 let#[as,h1,h2,h3,h4,h5]:=h.ex;refine#[#[as,e.at h1,h2,h3,h4,λi a hi=>?_]];let#[ms,m1,m2]:=h5 i a hi;exact#[ms,e.at m1,m2]
def oK.imp{nb lo:Nat}{B B':Nat->Nat}{F F':Nat->Nat->Prop}(h:oK g nb lo n B F)(hB:∀i,i<n->B i<=B' i)(hF:∀i m,i<n->(F i m↔F' i m)):oK g nb lo n B' F' :=
 let ⟨as,h1,h2,h3,h4,h5⟩:=h.ex
 #[#[as,h1,h2,h3,h4,λi a hi=>let ⟨ms,m1,m2,m3⟩:=h5 i a hi
  let hZ:i<n:=by rw[<- h2];exact(av.mp hi).1
  #[ms,m1,aG m2 (hB i hZ),λm=>(m3 m).trans (hF i m hZ)]]]
abbrev uD(cs:@&a9)(rs:@&fP)(i m:Nat):Prop:=∃r∈rs,meant cs r.w r.y i=true/\m=jd (-cs) (meant cs r.w r.x)
abbrev C0(rs:@&fP):@&D:=rs.map fP.d
def KH{l:List α}(h:l.Nodup){a:α}(hi:l[i]?=!a)(hj:l[j]?=!a):i=j:=by
 let#[h1,e1]:=av.mp hi;let#[h2,e2]:=av.mp hj;exact(List.getElem_inj h).mp (e1.trans e2.symm)
section
variable{T:Nat->Option aV}{d:Nat}
def a68(hT:TB0 T)(ha:g[a]?=!.lst (cs.map a9.d))(hz:-cs<=9)(hc:g[c]?=!.lst (C0 rs))(hr:-rs<=900)(h:∀g' b,Ex g g'->-g<=b->oK g' b (-g) (-cs) (λv=>-rs) (uD cs rs)->Q (.ref b) g'):b0 T (k+4) 97 [.ref a,.ref c] g Q E:=by
 refine call_of hT.RI rfl ?_;delta S7;show H9 (a8 T _) (my (a8 T _) ?_);show#[a,_,rfl,a7 ha,cs.map a9.d,λi ys Z g'=>Ex g g'/\(∃as:@&Nat,ys=as.map .ref/\-as=i/\as.Nodup/\∀b∈as,(-g)<=b/\g'[b]?=!.lst [])/\∃z0 z1,Z=[z0,z1],by simp;omega,λi ys Z g' q=>#[s9 (a7 (q.1.at ha)),?_],#[Ex.refl _,#[[],rfl,rfl,by simp,by simp],none,none,rfl],λi x ys Z g' hx q=>?_,λys Z g' q=>?_]
 .let#[_,#[as,rfl,rfl,_],_]:=q;simp
 .let#[e1,#[as,rfl,hl,nd,hA],z0,z1,rfl]:=q;refine i9 ?_;show#[e1.trans (Ex.snoc _ _),#[as++[(-g')],by simp,by simp[hl],?_,λb hb=>?_],_,_,rfl]
  .rw[cA];exact#[nd,by simp,λx hx y hy=>by cases bp.mp hy;exact aK (n8 (hA x hx).2)]
  .rcases aW.mp hb with hb|hb
   .exact#[(hA b hb).1,(Ex.snoc _ _).at (hA b hb).2]
   .cases bp.mp hb;exact#[e1.len,b7]
 .let#[e1,#[as,rfl,hl,nd,hA],z0,z1,rfl]:=q;rw[au] at hl;let e2:=e1.trans (Ex.snoc g' (O.lst (as.map D.ref)));let lo:=e1.len;let N0:oK (g'++[O.lst (as.map D.ref)]) (-g') (-g) (-cs) (λv=>0) (uD cs []):=#[#[as,b7,hl,nd,λb hb=>#[(hA b hb).1,aK (n8 (hA b hb).2)],λi b hb=>#[[],(Ex.snoc _ _).at (hA b (aB hb)).2,by simp,λm=>#[λz=>absurd z #[_],(by rintro ⟨r,hr,_⟩;exact absurd hr #[_])]]]]
  generalize (-g')=nb at *;refine A6 (a8 T _) (my (a8 T _) ?_);show#[c,_,rfl,a7 (e2.at hc),C0 rs,λi Z g'=>Ex g g'/\oK g' nb (-g) (-cs) (λv=>i) (uD cs (rs.take i))/\∃z3 z4 z5 z6 z7,Z=[!.ref a,!.ref c,!.ref nb,z3,z4,z5,z6,z7],λi Z g' q=>s9 (a7 (q.1.at hc)),#[e2,N0,none,none,none,none,none,rfl],λi x Z g' hx q=>?_,λZ g' q=>?_]
  .let#[e3,N3,z3,z4,z5,z6,z7,rfl]:=q;rw[C0,aj,ae] at hx;let#[r,fY,rfl]:=hx;let hi:i< -rs:=(av.mp fY).1;refine E7 (l:=[.str r.w.s,.int r.x,.int r.y]) rfl ?_;show Q9 (k:=k) hT.nf hT.mJ hT.rW (e3.at ha) () λg4 b4 e4 v Rp=>?_;show Q4 (k:=k+2) hT.ue Rp (aG P9 ()) (λj hj=>by have:=xD j hj;omega) λg5 e5=>?_;left;let zi:=e3.trans (e4.trans e5);let N5:=N3.at (e4.trans e5);let ef:qp (lH cs r.w r.x)=jd (-cs) (meant cs r.w r.x):=rfl;rw[ef];generalize jd (-cs) (meant cs r.w r.x)=first at *
   refine A6 (a8 T _) (my (a8 T _) ?_);show Q9 (k:=k) hT.nf hT.mJ hT.rW (zi.at ha) () λg6 b6 e6 hb6 HL=>?_;refine#[b6,_,rfl,a7 HL,b8 (lH cs r.w r.y),λj Z g'=>Ex g g'/\g'[b6]?=!(.lst (b8 (lH cs r.w r.y)))/\oK g' nb (-g) (-cs) (λq=>i+if q∈(lH cs r.w r.y).take j then 1 else 0) (λq m=>uD cs (rs.take i) q m\/(q∈(lH cs r.w r.y).take j/\m=first))/\(∀as:@&Nat,g'[nb]?=!.lst (as.map .ref)->b6∉as)/\∃z7,Z=[!.ref a,!.ref c,!.ref nb,!.str r.w.s,!.int r.x,!.int r.y,!.int (first:Nat),z7],λj Z g' q=>s9 (a7 q.2.1),#[zi.trans e6,HL,(N5.at e6).imp (λq v=>by simp) (λq m v=>by simp),?_,z7,rfl],λj x Z g' hx q=>?_,λZ g' q=>?_]
   .intro zu h' hm;let#[Lj,h1,h2,h3,h4,h5]:=N5.ex;have:=(e6.at h1).symm.trans h';let e':Lj=zu:=by
     let h0:Lj.map D.ref=zu.map D.ref:=by injection this with w;injection w
     exact(List.map_inj_right (λx y z=>by injection z)).mp h0
    subst e';let#[i',hZ]:=bR.mp hm;let#[ms,m1,_]:=h5 i' b6 hZ;have:=n8 m1;omega
   .let#[e7,p7,N7,yJ,z7,rfl]:=q;rw[b8,aj,ae] at hx;let#[q,hq,rfl]:=hx;let HK:q< -cs:=xD q (aB hq);let QE:q∉(lH cs r.w r.y).take j:=λz=>by
     let#[j',tW]:=bR.mp z;let hl:j'<j:=by
      have:=(av.mp tW).1;simp at this;omega
     rw[dC hl] at tW;let PY:(lH cs r.w r.y).Nodup:=mR.filter _;have:=KH PY tW hq;omega
    let tk:(lH cs r.w r.y).take (j+1)=(lH cs r.w r.y).take j++[q]:=by rw[bz,hq];rfl
    let#[xo,h1,h2,h3,h4,h5]:=N7.ex;let Qz:q< -xo:=by omega
    let ub:=ag Qz;generalize xo[q]=aq at ub;let#[ms,m1,m2,m3]:=h5 q aq ub;let gq:ia (xo.map D.ref) (q:Int)=!.ref aq:=A2 (by rw[aj,ub];rfl);refine i9 ?_;show q9 (a7 h1) gq ?_;refine T8 (My m1 ?_);left;by_cases kO:first∈ms
    .refine fF (by simp[kO]) ?_;refine#[e7,p7,N7.imp (λq' v=>?_) (λq' m v=>?_),yJ,_,rfl]
     .rw[tk];by_cases z:q'∈(lH cs r.w r.y).take j
      .simp[z]
      .simp[z]
     .rw[tk];simp only[List.mem_append,List.mem_singleton];constructor
      .rintro(z|⟨z1,z2⟩)
       .exact .inl z
       .exact .inr #[.inl z1,z2]
      .rintro(z|⟨z1|z1,z2⟩)
       .exact .inl z
       .exact .inr #[z1,z2]
       .subst z1 z2;exact(m3 m).mp kO
    .refine fV (by simp[kO]) ?_;show q9 (a7 h1) gq ?_;left;rw[az QE] at m2;refine sT m1 (by simp[b8];omega) ?_;let jj:=aB ub;let dD:=(h4 aq jj).2;let QH:aq≠b6:=λz=>yJ xo h1 (z▸jj);let II:=d0 (o':=O.lst (b8 ms++[D.int (first:Nat)])) h1 dD;refine#[#[by simp;exact e7.len,λi' hZ=>by rw[ax (by have:=(h4 aq jj).1;omega)];exact e7.old i' hZ],d0 p7 QH,#[#[xo,II,h2,h3,h4,λi' b hb=>?_]],λzu h'=>?_,_,rfl]
     .by_cases yU:i'=q
      .subst yU;have:b=aq:=by rw[ub] at hb;injection hb with z;exact z.symm
       subst this;refine#[ms++[first],by rw[get_set m1];simp[b8],?_,λm=>?_]
       .rw[tk];simp;omega
       .rw[aW,bp,m3 m,tk];simp only[List.mem_append,List.mem_singleton];constructor
        .rintro((z|⟨z1,z2⟩)|z)
         .exact .inl z
         .exact .inr #[.inl z1,z2]
         .exact .inr #[.inr trivial,z]
        .rintro(z|⟨z1|z1,z2⟩)
         .exact .inl (.inl z)
         .exact .inl (.inr #[z1,z2])
         .exact .inr z2
      .let BW:aq≠b:=λz=>yU (KH h3 hb (z▸ub));let#[Qf,k1,k2,k3]:=h5 i' b hb;refine#[Qf,d0 k1 BW,?_,λm=>(k3 m).trans ?_]
       .rw[tk];simpa[yU] using k2
       .rw[tk];simp[yU]
     .rw[II] at h';exact yJ zu (h1.trans h')
   .let#[e7,p7,N7,yJ,z7,rfl]:=q;rw[b8,au,bP] at N7;refine#[e7,N7.imp (λq v=>by split<;>omega) (λq m hq=>?_),_,_,_,_,_,rfl];let tk:rs.take (i+1)=rs.take i++[r]:=by rw[bz,fY];rfl
    unfold uD;rw[tk];simp only[List.mem_append,List.mem_singleton];constructor
    .rintro(⟨r',h1,h2⟩|⟨h1,h2⟩)
     .exact#[r',.inl h1,h2]
     .exact#[r,.inr rfl,(bt.mp h1).2,by rw[h2];exact ef.symm]
    .rintro⟨r',h1|h1,h2,h3⟩
     .exact .inl #[r',h1,h2,h3]
     .subst h1;exact .inr #[bt.mpr #[aR.mpr hq,h2],by rw[h3];exact ef]
  .let#[e3,N3,z3,z4,z5,z6,z7,rfl]:=q;rw[C0,au,bP] at N3;left;exact h _ _ e3 lo N3
end
abbrev C7(cs:@&a9)(r:fP):Bool:= ~~~decide (r.x=r.y)&&(~~~(lH cs r.w r.x).isEmpty&&~~~(lH cs r.w r.y).isEmpty)
def in_words{w:RW}(h:kb true):pG g (.str w.s) (.tup [.str "coin",.str "lower",.str "upper"]) kb:=by
 refine#[_,.inr #[_,[.str "coin",.str "lower",.str "upper"],.str w.s,rfl,rfl,rfl,by decide +kernel,by cases w<;>decide +kernel,rfl],?_];have:([PyData.str "coin",PyData.str "lower",PyData.str "upper"].any λq=>PyData.eqv q (.str w.s))=true:=by
  cases w<;>decide +kernel
 rw[this];exact h
def ne_nil{l:@&Nat}(ha:g[a]?=!.lst (b8 l))(hb:g[b]?=!.lst [])(h:Q (.bl (~~~l.isEmpty)) g):cN (.cmp .NotEq) [.ref a,.ref b] g Q:=by
 refine zW (a93 (ms:=l.map λ(i:Nat)=>(i:Int)) (ns:=[]) (by rw[<- Ef];exact a7 ha) (a7 hb) ?_);have:decide ((l.map λ(i:Nat)=>(i:Int))=[])=l.isEmpty:=by cases l<;>simp
 rw[this];exact h
structure Bd(g:G)(b:Nat)(cs:@&a9)(v:Int)(rs:@&fP):Prop where
 ex:∃w l d nb,g[b]?=!(.ins "Bounds" [("size",.int (-cs)),("full",.int ((2 ^ (-cs)-1:Nat):Int)),("room",.int v),("worn_by_place",.ref w),("later_by_place",.ref l),("lower_dies",.ref d),("needed_by_place",.ref nb)]) /\
  g[w]?=!.lst (tD cs mw)/\g[l]?=!.lst (tD cs kZ)/\g[d]?=!.lst (pe cs)/\oK g nb 0 (-cs) (λ_=>-rs) (uD cs rs)
def Bd.at{g g':G}{b:Nat}{cs:@&a9}{v:Int}{rs:@&fP}(h:Bd g b cs v rs)(e:Ex g g'):Bd g' b cs v rs:=by
 let#[w,l,d,nb,h1,h2,h3,h4,h5]:=h.ex;exact#[#[w,l,d,nb,e.at h1,e.at h2,e.at h3,e.at h4,h5.at e]]
def aY9(l:List α)(z:α)(q:α->Bool):((List.range (-l)).filter λi=>q (l.getD i z)).length=(l.filter q).length:=by
 let e:l=(List.range (-l)).map λi=>l.getD i z:=by
  refine cK λi=>?_;rw[aj];by_cases hi:i< -l
  .rw[cM hi,ag hi];simp[List.getD,hi]
  .rw[aT (),aT (by simpa using hi)]
   rfl
 conv=>rhs;rw[e,List.filter_map,au]
 rfl
def Nj{q:Nat->Bool}{s:Nat}{S:Nat->Bool}(h:∀i,i<n->s.testBit i=S i):((Builtin.bitAnd ((jd n q:Nat):Int) (s:Nat)) != 0)=(List.range n).any λi=>S i&&q i:=by
 rw[DF,Nat.and_comm,zC,aZ,aO,aO];constructor
 .rintro⟨i,h1,h2⟩;exact#[i,h1,by rw[<- h i (aR.mp h1)];exact h2]
 .rintro⟨i,h1,h2⟩;exact#[i,h1,by rw[h i (aR.mp h1)];exact h2]
def Wf{s:Nat}(h:s<2 ^ n)(hi:i<n):(2 ^ n-1-s).testBit i= ~~~s.testBit i:=by
 grind
def U7(s p i:Nat):(s |||2 ^ p).testBit i=(s.testBit i||decide (i=p)):=by
 rw[Nat.testBit_or,Nat.testBit_two_pow]
 congr 1
 exact fW.mpr eq_comm
def xQ{s:Nat}(h:s<2 ^ n)(hp:p<n):s |||2 ^ p<2 ^ n:=Nat.or_lt_two_pow h (Nat.pow_lt_pow_right () hp)
section
variable{T:Nat->Option aV}{d:Nat}
def aJ0(hT:TB0 T){r:fP}(ha:g[a]?=!.lst (cs.map a9.d))(hz:-cs<=1000)(h:∀g',Ex g g'->Q (.bl (C7 cs r)) g'):b0 T (k+4) 88 [.ref a,r.d] g Q E:=by
 refine call_of hT.RQ rfl ?_;delta EE;show E7 (l:=[.str r.w.s,.int r.x,.int r.y]) rfl ?_;show T8 (in_words ?_);show if2 (λh1=>?_) (λh1=>?_)
 .have:C7 cs r=false:=by unfold C7;rw[aA h1];rfl
  rw[<- this];exact h _ (Ex.refl _)
 .show Q9 (k:=k) hT.nf hT.mJ hT.rW ha hz λg1 b1 e1 z wF=>?_;show ne_nil ((Ex.snoc _ _).at wF) b7 ?_;left;cases h2:(lH cs r.w r.x).isEmpty with
  |true =>
   refine fF rfl ?_;have:C7 cs r=false:=by unfold C7;rw[aI h1,h2];rfl
   rw[<- this];exact h _ (e1.trans (Ex.snoc _ _))
  |false =>
   refine fV rfl ?_;show Q9 (k:=k) hT.nf hT.mJ hT.rW ((e1.trans (Ex.snoc _ _)).at ha) hz λg2 b2 e2 z wD=>?_;show ne_nil ((Ex.snoc _ _).at wD) b7 ?_;have:C7 cs r= ~~~(lH cs r.w r.y).isEmpty:=by unfold C7;rw[aI h1,h2];rfl
   rw[<- this];exact h _ ((e1.trans (Ex.snoc _ _)).trans (e2.trans (Ex.snoc _ _)))
def ax0(hT:TB0 T)(ha:g[a]?=!.lst (cs.map a9.d))(hz:-cs<=1000)(hc:g[c]?=!.lst (C0 rs))(hr:-rs<=900)(h:rs.all (C7 cs)=true->∀g',Ex g g'->Q .bg g')(hn:rs.all (C7 cs)=false->∀g',Ex g g'->False):b0 T (k+5) 89 [.ref a,.ref c] g Q E:=by
 refine call_of hT.RP rfl ?_;delta Z4;show A6 (a8 T _) (Bk ?_);show#[c,_,rfl,a7 hc,nL (C0 rs),λi Z g'=>Ex g g'/\(∃z2 z3,Z=[!.ref a,!.ref c,z2,z3])/\(rs.take i).all (C7 cs)=true,λi Z g' q=>zq (a7 (q.1.at hc)),#[Ex.refl _,#[none,none,rfl],rfl],λi x Z g' hx q=>?_,λZ g' q=>?_]
 .let#[e1,#[z2,z3,rfl],q]:=q;let#[dd,hd,rfl]:=zD hx;rw[C0,aj,ae] at hd;let#[r,fY,rfl]:=hd;let tk:rs.take (i+1)=rs.take i++[r]:=by rw[bz,fY];rfl
  refine E7 rfl ?_
  try show wpS _ _ _ _ _ _
  show aJ0 (k:=k) hT (e1.at ha) hz λg2 e2=>?_;left;cases hg:C7 cs r with
  |true =>
   left;exact#[e1.trans e2,#[_,_,rfl],by rw[tk,List.all_append,q];simp[hg]]
  |false =>
   show hn ?_ _ (e1.trans e2);rw[List.all_eq_false];exact#[r,aB fY,by rw[hg];decide]
 .let#[e1,#[z2,z3,rfl],q]:=q;rw[Q2,C0,au,bP] at q;exact h q _ e1
def ax1(hT:TB0 T)(rX:T 42=!C3)(Cn:T 98=!Q6)(ha:g[a]?=!.lst (cs.map a9.d))(hz:-cs<=1000)(hc:g[c]?=!.lst (C0 rs))(hr:-rs<=900)(hm:9< -cs->E #["TooMany"] g)(hb:-cs<=9->cs.all x4=false->E #["BadCoin"] g)(hv:-cs<=9->cs.all x4=true->¬(1<=v/\v<=9)->E #["BadAnvils"] g)(hw:-cs<=9->cs.all x4=true->1<=v/\v<=9->rs.all (C7 cs)=false->∀g',Ex g g'->False)(h:-cs<=9->cs.all x4=true->1<=v/\v<=9->rs.all (C7 cs)=true->∀g',Ex g g'->Q .bg g'):b0 T (k+7) 98 [.ref a,.int v,.ref c] g Q E:=by
 refine call_of Cn rfl ?_;delta Q6;show Me (k:=k) hT.nf hT.h2 hT.uf hT.wN ha hz hm hb λh9 hg=>?_;show au1 (k:=k+3) hT.nf rX (λv1 v2=>?_) (hv h9 hg);left;exact ax0 (k:=k+1) hT ha hz hc hr (h h9 hg #[v1,v2]) (hw h9 hg #[v1,v2])
def MO{f:Str}{x:D}(fs:@&(Str×D)):(i7 f x fs).length<=-fs+1:=by
 induction fs with
 |nil=>simp[i7]
 |cons y r ih =>
  unfold i7;split<;>simp
  exact ih
def xO{f:Str}{x:D}{fs:@&(Str×D)}(h:-fs+1<n):(i7 f x fs).length<n:=fA (MO fs) h
def xP{f:Str}{x:D}{fs:@&(Str×D)}(h:-fs+(m+1)<n):(i7 f x fs).length+m<n:=by
 have:=MO (f:=f) (x:=x) fs;omega
abbrev f3(n:Nat)(v:Int):@&(Str×D):=[("size",.int n),("full",.int ((2 ^ n-1:Nat):Int)),("room",.int v)]
def uI(n:Nat)(v:Int):(f3 n v).length=3:=rfl
def ax4(hT:TB0 T)(ha:g[a]?=!.lst (cs.map a9.d))(hz:-cs<=9)(hg:cs.all x4=true)(hB:∀c∈cs,CB c)(hc:g[c]?=!.lst (C0 rs))(hr:-rs<=900)(hb:g[b]?=!(.ins "Bounds" []))(h:∀g',(-g)<=-g'->(∀i,i< -g->i≠b->g'[i]?=g[i]?)->Bd g' b cs v rs->Q .bg g'):b0 T (k+9) 113 [.ref b,.ref a,.int v,.ref c] g Q E:=by
 refine call_of hT.Cz rfl ?_;delta Z6;let vD:b≠a:=λz=>by subst z;rw[ha] at hb;cases hb
 let yI:b≠c:=λz=>by subst z;rw[hc] at hb;cases hb
 show C6 hb #[_] #[_] ?_;left;let qD:=d0 (o':=O.ins "Bounds" (i7 "size" (.int (cs.map a9.d).length) [])) ha vD;refine O3 (a7 qD) ?_;refine Gp #[by omega,by simp;omega,by decide] ?_;show C6 (get_set hb) #[_] (by first|(simp;done)|(refine xO ?_;repeat (first|(rw[uI];omega)|(simp;done)|refine xP ?_))) ?_;rw[cV];show C6 (get_set hb) #[_] (by first|(simp;done)|(refine xO ?_;repeat (first|(rw[uI];omega)|(simp;done)|refine xP ?_))) ?_;rw[cV];let e0:i7 "room" (.int v) (i7 "full" (.int (1*2 ^ Int.toNat ((cs.map a9.d).length:Int)-1)) (i7 "size" (.int (cs.map a9.d).length) []))=(f3 (-cs) v):=by
  have:(1*2 ^ Int.toNat ((cs.map a9.d).length:Int)-1:Int)=((2 ^ (-cs)-1:Nat):Int):=by
   have:=gO (n:=-cs);rw[Int.natCast_sub this];simp
  rw[this,au]
  rfl
 simp only[e0];let kp:∀(g1:G) (o:O),Ex (g.set b o) g1->(∀i,i< -g->i≠b->g1[i]?=g[i]?)/\-g<=-g1:=λg1 o e=>#[λi hi hn=>by rw[e.old i (by simpa using hi),ax (bI hn)],by have:=e.len;simpa using this]
 generalize ho:O.ins "Bounds" (f3 (-cs) v)=o1;let wF:=get_set (o':=o1) hb;let qD:=d0 (o':=o1) ha vD;let rT:=d0 (o':=o1) hc yI;let k1:=kp _ o1 (Ex.refl _);generalize g.set b o1=g1 at *;subst ho;show VA (k:=k+4) hT qD hz hB λg2 w e2 hw1 hw=>?_;show C6 (e2.at wF) #[_] (by rw[uI];omega) ?_;let lw:w≠b:=λz=>by have:=n8 wF;omega
 let BZ:=get_set (o':=O.ins "Bounds" (i7 "worn_by_place" (.ref w) (f3 (-cs) v))) (e2.at wF);let Qx:=d0 (o':=O.ins "Bounds" (i7 "worn_by_place" (.ref w) (f3 (-cs) v))) hw lw.symm;let Ip:=d0 (o':=O.ins "Bounds" (i7 "worn_by_place" (.ref w) (f3 (-cs) v))) (e2.at qD) vD;let yW:=d0 (o':=O.ins "Bounds" (i7 "worn_by_place" (.ref w) (f3 (-cs) v))) (e2.at rT) yI;let k3:(∀i,i< -g->i≠b->(g2.set b (O.ins "Bounds" (i7 "worn_by_place" (.ref w) (f3 (-cs) v))))[i]?=g[i]?)/\-g<=(g2.set b (O.ins "Bounds" (i7 "worn_by_place" (.ref w) (f3 (-cs) v)))).length:=#[λi hi hn=>by rw[ax (bI hn),e2.old i ()];exact k1.1 i hi hn,by simp;have:=e2.len;omega]
 generalize g2.set b (O.ins "Bounds" (i7 "worn_by_place" (.ref w) (f3 (-cs) v)))=g3 at *;show a79 (k:=k+4) hT Ip hz λg4 l e4 kz hl=>?_;show C6 (e4.at BZ) #[_] (by first|(simp;done)|(refine xO ?_;repeat (first|(rw[uI];omega)|(simp;done)|refine xP ?_))) ?_;let ll:l≠b:=λz=>by have:=n8 BZ;omega
 generalize ho:O.ins "Bounds" (i7 "later_by_place" (.ref l) (i7 "worn_by_place" (.ref w) (f3 (-cs) v)))=o5;let BY:=get_set (o':=o5) (e4.at BZ);let Qw:=d0 (o':=o5) (e4.at Qx) lw.symm;let QP:=d0 (o':=o5) hl ll.symm;let wH:=d0 (o':=o5) (e4.at Ip) vD;let Rk:=d0 (o':=o5) (e4.at yW) yI;let k5:(∀i,i< -g->i≠b->(g4.set b o5)[i]?=g[i]?)/\-g<=(g4.set b o5).length:=#[λi hi hn=>by rw[ax (bI hn),e4.old i ()];exact k3.1 i hi hn,by simp;have:=e4.len;omega]
 generalize g4.set b o5=g5 at *;subst ho;show aC0 (k:=k) hT wH hz hg λg6 dd e6 Ij hd=>?_;show C6 (e6.at BY) #[_] (by first|(simp;done)|(refine xO ?_;repeat (first|(rw[uI];omega)|(simp;done)|refine xP ?_))) ?_;let ld:dd≠b:=λz=>by have:=n8 BY;omega
 generalize ho:O.ins "Bounds" (i7 "lower_dies" (.ref dd) (i7 "later_by_place" (.ref l) (i7 "worn_by_place" (.ref w) (f3 (-cs) v))))=o7;let BX:=get_set (o':=o7) (e6.at BY);let Qv:=d0 (o':=o7) (e6.at Qw) lw.symm;let QO:=d0 (o':=o7) (e6.at QP) ll.symm;let Rh:=d0 (o':=o7) hd ld.symm;let wG:=d0 (o':=o7) (e6.at wH) vD;let Rj:=d0 (o':=o7) (e6.at Rk) yI;let k7:(∀i,i< -g->i≠b->(g6.set b o7)[i]?=g[i]?)/\-g<=(g6.set b o7).length:=#[λi hi hn=>by rw[ax (bI hn),e6.old i ()];exact k5.1 i hi hn,by simp;have:=e6.len;omega]
 generalize g6.set b o7=g7 at *;subst ho;show a68 (k:=k+4) hT wG hz Rj hr λg8 nb e8 yS hn=>?_;show C6 (e8.at BX) #[_] (by first|(simp;done)|(refine xO ?_;repeat (first|(rw[uI];omega)|(simp;done)|refine xP ?_))) ?_;let lb7:=n8 BX;let ln:nb≠b:=λz=>by omega
 generalize ho:O.ins "Bounds" (i7 "needed_by_place" (.ref nb) (i7 "lower_dies" (.ref dd) (i7 "later_by_place" (.ref l) (i7 "worn_by_place" (.ref w) (f3 (-cs) v)))))=o9;refine h _ (by simp;have:=e8.len;omega) (λi hi hn=>by rw[ax (bI hn),e8.old i ()];exact k7.1 i hi hn) #[#[w,l,dd,nb,?_,d0 (e8.at Qv) lw.symm,d0 (e8.at QO) ll.symm,d0 (e8.at Rh) ld.symm,?_]]
 .rw[get_set (e8.at BX),<- ho]
  rfl
 .let#[as,q1,q2,q3,q4,q5]:=hn.ex;exact#[#[as,d0 q1 ln.symm,q2,q3,λx hx=>#[by omega,(q4 x hx).2],λi x hx=>let ⟨ms,m1,m2⟩:=q5 i x hx;#[ms,d0 m1 (λz=>by have:=(q4 x (aB hx)).1;omega),m2]]]
end
section
variable{T:Nat->Option aV}{d:Nat}
def aK9(hT:TB T)(ha:g[a]?=!.lst (cs.map a9.d))(hz:-cs<=1000)(hB:∀c∈cs,CB c)(hc:g[c]?=!.lst (C0 rs))(hr:-rs<=900)(hm:9< -cs->E #["TooMany"] g)(hb:-cs<=9->cs.all x4=false->E #["BadCoin"] g)(hv:-cs<=9->cs.all x4=true->¬(1<=v/\v<=9)->E #["BadAnvils"] g)(hw:-cs<=9->cs.all x4=true->1<=v/\v<=9->rs.all (C7 cs)=false->∀g',Ex g g'->False)(h:-cs<=9->cs.all x4=true->1<=v/\v<=9->rs.all (C7 cs)=true->∀g' b,Ex g g'->-g<=b->Bd g' b cs v rs->Q (.ref b) g'):b0 T (k+10) 99 [.ref a,.int v,.ref c] g Q E:=by
 refine call_of hT.RH rfl ?_;delta EB;show ax1 (k:=k+2) hT.toTB0 hT.rX hT.Cn ha hz hc hr hm hb hv hw λh9 hg hv hR g1 e1=>?_;left;let x1:=Ex.snoc g1 (O.ins "Bounds" []);refine ax4 (k:=k) hT (x1.at (e1.at ha)) h9 hg hB (x1.at (e1.at hc)) hr b7 λg2 l2 o2 B2=>?_;refine#[rfl,h h9 hg hv hR g2 _ #[by have:=e1.len;simp at l2;omega,λi hi=>?_] e1.len B2];have:=e1.len;rw[o2 i (by simp;omega) (),x1.old i ()];exact e1.old i hi
def Lu(hT:TB T)(ha:g[a]?=!.lst (cs.map a9.d))(hz:-cs<=9)(hg:cs.all x4=true)(hB:∀c∈cs,CB c)(hv:1<=v/\v<=9)(hc:g[c]?=!.lst (C0 rs))(hr:-rs<=900)(hR:rs.all (C7 cs)=true)(h:∀g' b,Ex g g'->-g<=b->Bd g' b cs v rs->Q (.ref b) g'):b0 T (k+10) 99 [.ref a,.int v,.ref c] g Q E :=
 aK9 hT ha () hB hc hr (λz=>by omega) (λx z=>by rw[hg] at z;cases z) (λx x z=>absurd hv z) (λx x x z=>by rw[hR] at z;cases z) λx x x x=>h
def aw8(hT:TB0 T)(B:Bd g b cs v rs)(hz:-cs<=9){s:Nat}(hs:s<2 ^ (-cs))(hp:p< -cs)(h:∀g',Ex g g'->Q (.int (qg cs s.testBit p:Nat)) g'):b0 T (k+2) 100 [.ref b,.int (s:Nat),.int (p:Nat)] g Q E:=by
 refine call_of hT.CG rfl ?_;delta EX;let#[w,l,dd,nb,h1,h2,h3,h4,h5]:=B.ex;show B7 (k:=k) hT.pQ () ?_;show w5 h1 rfl ?_;left;let e1:((2 ^ (-cs)-1:Nat):Int)-(s:Nat)=((2 ^ (-cs)-1-s:Nat):Int):=by omega
 rw[e1];let QL:(o8 (cs.map a9.lo)).length<=9:=aG (ES _) (by simpa using hz);let Rf:(pe cs).length=(o8 (cs.map a9.lo)).length:=by simp[pe]
 refine E3 (a8 T _) (λZ=>∃z2 z3,Z=[!(.int ((2 ^ (-cs)-1-s:Nat):Int)),!(.int ((s |||2 ^ p:Nat):Int)),z2,z3]) (λi=>S5 cs s.testBit p ((o8 (cs.map a9.lo)).getD i 0)) (λi=>(pe cs).getD i .bg) (l:=pe cs) (k:=.lst dd) (λg' e=>s9 (a7 (e.at h4))) () #[none,none,rfl] (λi x Z g' hx e sh=>?_) (λg' e=>?_) (V7 (a8 T _) (a7 h4) λQ q=>?_)
 .let#[z2,z3,rfl]:=sh;let tN:=hx;rw[pe,aj,ae] at tN;let#[oE,hd,rfl]:=tN;let eg:(o8 (cs.map a9.lo)).getD i 0=oE:=by simp[List.getD,hd]
  refine i9 ?_;show xl ?_;left;let b1:=Nj (n:=-cs) (q:=meant cs .lower oE) (s:=s |||2 ^ p) (S:=λi=>s.testBit i||decide (i=p)) (λi y=>U7 s p i);let b2:=Nj (n:=-cs) (q:=meant cs .lower oE) (s:=2 ^ (-cs)-1-s) (S:=λi=>~~~s.testBit i) (λi hi=>Wf hs hi);rw[b1,eg];let hu:S5 cs s.testBit p oE=(((List.range (-cs)).any λi=>(s.testBit i||decide (i=p))&&meant cs .lower oE i)&&(List.range (-cs)).any λi=>~~~s.testBit i&&meant cs .lower oE i):=rfl;rw[hu];cases (List.range (-cs)).any λi=>(s.testBit i||decide (i=p))&&meant cs .lower oE i with
  |false =>
   refine fF rfl ?_;exact#[rfl,e,fF rfl #[_,_,rfl]]
  |true =>
   refine fV rfl ?_;show xl ?_;left;rw[b2,kI];refine#[rfl,e,?_];cases (List.range (-cs)).any λi=>~~~s.testBit i&&meant cs .lower oE i with
   |false=>exact fF rfl #[_,_,rfl]
   |true =>
    refine fV rfl ?_;show#[?_,e,_,_,rfl];simp[List.getD,hx]
 .refine O3 (a7 b7) ?_;have:(((List.range (pe cs).length).filter λi=>S5 cs s.testBit p ((o8 (cs.map a9.lo)).getD i 0)).map λi=>(pe cs).getD i .bg).length=qg cs s.testBit p:=by
   rw[au,Rf,aY9 (o8 (cs.map a9.lo)) 0 (S5 cs s.testBit p)]
   rfl
  rw[this];exact h _ (e.trans (Ex.snoc _ _))
 .left;exact w5 h1 rfl q
def Oy{q:a9->a9->Bool}(hp:p< -cs):ia (tD cs q) (p:Int)=!(.int ((jd (-cs) λj=>q (bV cs j) (bV cs p):Nat):Int)):=A2 (by rw[tD,aj,cM hp];rfl)
def Nl{s:Nat}{q:Nat->Bool}:((Builtin.bitAnd (s:Nat) ((jd n q:Nat):Int)) != 0)=(List.range n).any λi=>s.testBit i&&q i:=by rw[DF,zC]
def aB9(hT:TB0 T)(B:Bd g b cs v rs)(hz:-cs<=9)(hr:-rs<=900){s:Nat}(hs:s<2 ^ (-cs))(hp:p< -cs)(h:∀g',Ex g g'->Q (zf (fault cs v rs s.testBit p)) g'):b0 T (k+3) 101 [.ref b,.int (s:Nat),.int (p:Nat)] g Q E:=by
 refine call_of hT.CD rfl ?_;delta Fc;let#[w,l,dd,nb,h1,h2,h3,h4,h5]:=B.ex;show w5 h1 rfl ?_;show q9 (a7 h2) (Oy hp) ?_;refine xl ?_;left;rw[Nl];cases c1:(List.range (-cs)).any λi=>s.testBit i&&mw (bV cs i) (bV cs p) with
 |true =>
  refine fV rfl ?_;have:fault cs v rs s.testBit p="wear":=by unfold fault L0;rw[ay c1]
  rw[this] at h;exact h _ (Ex.refl _)
 |false =>
 refine fF rfl ?_;show w5 h1 rfl ?_;show q9 (a7 h3) (Oy hp) ?_;refine xl ?_;left;rw[Nl];cases c2:(List.range (-cs)).any λi=>s.testBit i&&kZ (bV cs i) (bV cs p) with
 |true =>
  refine fV rfl ?_;have:fault cs v rs s.testBit p="year":=by unfold fault L0 J8;rw[az (by rw[c1];decide),ay c2]
  rw[this] at h;exact h _ (Ex.refl _)
 |false =>
 refine fF rfl ?_;show aw8 (k:=k) hT B hz hs hp λg2 e2=>?_;show w5 (e2.at h1) rfl ?_;show if2 (λc3=>?_) (λc3=>?_)
 .have:fault cs v rs s.testBit p="anvil":=by unfold fault L0 J8;rw[az (by rw[c1];decide),az (by rw[c2];decide),ay c3]
  rw[this] at h;exact h _ e2
 left;let#[as,q1,q2,q3,q4,q5]:=h5.ex;let QB:p< -as:=by omega
 let Ca:=ag QB;generalize as[p]=ap at Ca;let#[ms,m1,m2,m3]:=q5 p ap Ca;refine comp_map (a8 T _) (λZ=>∃z1 z2,Z=[!.int (s:Nat),z1,z2]) (λi=>.int ((s &&& ms.getD i 0:Nat):Int)) (l:=b8 ms) (k:=.lst ap) (λg' e=>s9 (a7 ((e2.trans e).at m1))) (by simp[b8];omega) #[none,none,rfl] (λi x Z g' hx e sh=>?_) (λg' e=>?_) (V7 (a8 T _) (a7 (e2.at m1)) λQ q=>?_)
 .let#[z1,z2,rfl]:=sh;rw[b8,aj,ae] at hx;let#[m,hm,rfl]:=hx;refine i9 ?_;show xl ?_;refine#[?_,e,_,_,rfl];rw[DF];simp[List.getD,hm]
 .refine b13 (ns:=(List.range (b8 ms).length).map λi=>((s &&& ms.getD i 0:Nat):Int)) (a7 (by rw[cF];exact b7)) ?_;let en:(((List.range (b8 ms).length).map λi=>((s &&& ms.getD i 0:Nat):Int)).all λn=>n != 0)=X4 cs rs s.testBit p:=by
   rw[aZ,bQ];unfold X4;rw[bQ];constructor
   .intro hA r hr;cases Bz:meant cs r.w r.y p with
    |false=>rfl
    |true =>
     let hm:=(m3 (jd (-cs) (meant cs r.w r.x))).mpr #[r,hr,Bz,rfl];let#[i,hi]:=bR.mp hm;let HU:=(av.mp hi).1;have:=hA ((s &&& jd (-cs) (meant cs r.w r.x):Nat):Int) (aL.mpr #[i,aR.mpr (by simpa[b8] using HU),by simp[List.getD,hi]]);rw[zC] at this;exact this
   .intro hA x hx;let#[i,hi,rfl]:=aL.mp hx;let hi:i< -ms:=by simpa[b8] using hi
    let hm:ms.getD i 0∈ms:=by simp[List.getD,hi]
    let#[r,hr,Bz,em]:=(m3 _).mp hm;have:=hA r hr;rw[Bz,Bool.not_true,iJ] at this;rw[em,zC];exact this
  rw[en];left;cases c4:X4 cs rs s.testBit p with
  |true =>
   have:fault cs v rs s.testBit p="":=by unfold fault L0 J8;rw[az (by rw[c1];decide),az (by rw[c2];decide),az c3,ay c4]
   rw[this] at h;exact h _ (e2.trans (e.trans (Ex.snoc _ _)))
  |false =>
   have:fault cs v rs s.testBit p="rule":=by unfold fault L0 J8;rw[az (by rw[c1];decide),az (by rw[c2];decide),az c3,az (by rw[c4];decide)]
   rw[this] at h;exact h _ (e2.trans (e.trans (Ex.snoc _ _)))
 .show w5 (e2.at h1) rfl ?_;left;exact q9 (a7 (e2.at q1)) (A2 (by rw[aj,Ca];rfl)) q
end
abbrev EJ:aV:=#[4,8,(.seq (.nE (.many [4,5,6]) bw) (.seq (.ifs (dR .Eq cO (ff "coin")) (.seq (.ret (.ke (bL (.cmp .NotEq) bf fo) (bL (.cmp .In) eK aX))) .pass) .pass) (.seq (.set 7 (.ite (dR .Eq cO (ff "lower")) (bj 0) (bj 2))) (.seq (.ret (.ke (bL (.cmp .NotEq) (cR (cR aF bf) ji) fo) (bL (.cmp .In) eK (.comp [7,0] 4 (.one 3) (.fQ aX) .no (cR (cR aX bw) aF))))) .pass))))]
abbrev xy:aV:=#[5,10,(.seq (.set 5 (cR aF cO)) (.seq (.eL (.one 6) (.fQ bw) (.seq (.eL (.one 7) (.fQ (bL .lst (bj 0) (bj 2))) (.seq (.ifs (.dF (dR .Eq (cR (cR aF fo) ji) (cR eK ji)) (.dQ (.fC (.call 17 (dP (cR (cR aF fo) (bL (.bin .Add) ji (bj 1))) (cR eK (bL (.bin .Add) ji (bj 1)))))))) (.seq (.ret (ff "wear")) .pass) .pass) .pass)) .pass)) (.seq (.ifs (.dF (dR .Gt (cR eK (bj 4)) (bj 0)) (dR .Gt (cW .max (bL (.bin .Add) (cW .lst (bj 0)) (.comp [0] 3 (.one 2) (.fQ bw) .no (cR (cR aF bf) (bj 4))))) (cR eK (bj 4)))) (.seq (.ret (ff "year")) .pass) .pass) (.seq (.set 8 (bL (.bin .Add) (.comp [0] 3 (.one 2) (.fQ bw) .no (cR (cR aF bf) (bj 0))) (cW .lst (cR eK (bj 0))))) (.seq (.set 9 (.comp [3,0] 4 (.one 3) (.fE (cW .len aF)) (dR .NotIn bw aF) (cR (cR aX bw) (bj 0)))) (.seq (.ifs (dR .Gt (cW .qS (.comp [9] 3 (.one 2) (.fQ oh) (dR .In bf aF) bf)) aX) (.seq (.ret (ff "anvil")) .pass) .pass) (.seq (.ifs (.dQ (.fC (cW .all (.comp [3,0,4] 5 (.one 4) (.fQ bf) .no (.call 107 (nB aX aF bf cO)))))) (.seq (.ret (ff "rule")) .pass) .pass) (.seq (.ret (ff "")) .pass))))))))]
structure yc(T:Nat->Option aV):Prop where
 Ct:T 17=!zS
 CC:T 107=!EJ
 CA:T 108=!xy
def EL{ns:@&Int}{x:Int}:x∈o8 ns↔x∈ns:=by
 rw[(N6 ns).mem_iff,ST.E1];simp
def Wl(ns:@&Int):(o8 ns).Nodup:=(N6 ns).nodup_iff.mpr (ST.M7 _ _ #[_])
section
variable{T:Nat->Option aV}{d:Nat}
def bA7{x:Int}:((H.map λ(i:Nat)=>(i:Int)).any λm=>m==x)=H.any λi=>decide ((i:Int)=x):=by
 rw[jc]
 rfl
def zo(hH:∀i∈H,i<n)(q:Nat->Bool):((List.range n).any λi=>decide (i∈H)&&q i)=H.any q:=by
 rw[aZ,aO,aO];constructor
 .rintro⟨i,_,h⟩;rw[aU,br] at h;exact#[i,h.1,h.2]
 .rintro⟨i,h1,h2⟩;exact#[i,aR.mpr (hH i h1),by rw[aA h1,h2];rfl]
def M9(hi:i< -cs):ia (cs.map a9.d) (i:Int)=!(bV cs i).d:=A2 (by rw[aj,ag hi,F3 (ag hi)];rfl)
def aF9(hT:yc T){r:fP}(ha:g[a]?=!.lst (cs.map a9.d))(hh:g[hl]?=!.lst (b8 H))(hH:∀i∈H,i< -cs)(wK:-H<=50)(hp:p< -cs)(h:∀g',Ex g g'->Q (.bl (~~~meant cs r.w r.y p||(List.range (-cs)).any λi=>decide (i∈H)&&meant cs r.w r.x i)) g'):b0 T (k+1) 107 [.ref a,.ref hl,.int (p:Nat),r.d] g Q E:=by
 refine call_of hT.CC rfl ?_;delta EJ;simp only[zo hH] at h;show E7 (l:=[.str r.w.s,.int r.x,.int r.y]) rfl ?_;left;let oE:∀(w:RW) (f:Int),(f=0\/f=2)->(∀i x,meant cs w x i=decide (K8 f (bV cs i)=x))->(∀g',Ex g g'->Q (.bl (~~~meant cs w r.y p||H.any λi=>meant cs w r.x i)) g')->aY (b0 T k) (.ke (.prim (.cmp .NotEq) (.cons (.prim .ix (.cons (.prim .ix (.cons (.var 0) (.cons (.var 2) .nil))) (.cons (.var 7) .nil))) (.cons (.var 6) .nil))) (.prim (.cmp .In) (.cons (.var 5) (.cons (.comp [7,0] 4 (.one 3) (.fQ (.var 1)) .no (.prim .ix (.cons (.prim .ix (.cons (.var 1) (.cons (.var 3) .nil))) (.cons (.var 0) .nil)))) .nil)))) [!.ref a,!.ref hl,!.int (p:Nat),!r.d,!.str w.s,!.int r.x,!.int r.y,!.int f] g Q E:=λw f hf hm h=>by
  show q9 (a7 ha) (M9 hp) ?_;show x8 (S3 hf _) ?_;left;rw[hm] at h;by_cases c1:K8 f (bV cs p)=r.y
  .refine fF (by rw[aA c1];rfl) ?_;show comp_map (a8 T _) (λZ=>∃z2 z3,Z=[!.int f,!.ref a,z2,z3]) (λi=>.int (K8 f (bV cs (H.getD i 0)))) (l:=b8 H) (k:=.lst hl) (λg' e=>s9 (a7 (e.at hh))) (by simp[b8];omega) #[none,none,rfl] (λi x Z g' hx e sh=>?_) (λg' e=>?_) (V7 (a8 T _) (a7 hh) λQ q=>w_var (d:=.ref hl) rfl q)
   .let#[z2,z3,rfl]:=sh;rw[b8,aj,ae] at hx;let#[j,hj,rfl]:=hx;refine i9 ?_
    try show aY _ _ _ _ _ _
    show q9 (a7 (e.at ha)) (M9 (hH j (aB hj))) ?_;show x8 (S3 hf _) ?_;exact#[by simp[List.getD,hj],e,_,_,rfl]
   .refine oY (S1 (ms:=(List.range (b8 H).length).map λi=>K8 f (bV cs (H.getD i 0))) (a7 (by rw[cF];exact b7)) ?_);let e2:(((List.range (b8 H).length).map λi=>K8 f (bV cs (H.getD i 0))).any λm=>m==r.x)=(H.any λi=>meant cs w r.x i):=by
     rw[jc,aZ,aO,aO];constructor
     .rintro⟨i,hi,h1⟩;let hi:i< -H:=by simpa[b8] using hi
      refine#[H[i],cj hi,?_];rw[hm];simpa[List.getD,hi] using h1
     .rintro⟨j,hj,h1⟩;let#[i,hi,rfl]:=bK.mp hj;refine#[i,by simpa[b8] using hi,?_];rw[hm] at h1;simpa[List.getD,hi] using h1
    rw[e2];simp only[decide_eq_true c1,Bool.not_true,Bool.false_or] at h;exact h _ (e.trans (Ex.snoc _ _))
  .refine fV (by rw[aI c1];rfl) ?_;have:=h _ (Ex.refl _);rw[aI c1] at this;exact this
 let#[w,x,y]:=r;cases w with
 |gY =>
  refine fV (show decide (RW.gY.s="coin")=true from by decide +kernel) ?_;left;by_cases c1:((p:Nat):Int)=y
  .refine fF (by rw[aA c1];rfl) ?_;show oY (S1 (ms:=H.map λ(i:Nat)=>(i:Int)) (by rw[<- Ef];exact a7 hh) ?_);rw[bA7];have:=h _ (Ex.refl _);rw[show meant cs .gY y p=true from aA c1] at this;exact this
  .refine fV (by rw[aI c1];rfl) ?_;have:=h _ (Ex.refl _);rw[show meant cs .gY y p=false from aI c1] at this;exact this
 |lower =>
  refine fF (show decide (RW.lower.s="coin")=false from by decide +kernel) ?_;show fV (show decide (RW.lower.s="lower")=true from by decide +kernel) ?_;refine w_lit (xG (FE ?_));exact oE .lower 0 (.inl rfl) (λi x=>rfl) h
 |upper =>
  refine fF (show decide (RW.upper.s="coin")=false from by decide +kernel) ?_;show fF (show decide (RW.upper.s="lower")=false from by decide +kernel) ?_;refine w_lit (xG (FE ?_));exact oE .upper 2 (.inr rfl) (λi x=>rfl) h
end
def Ld:∀{ns:@&Int},ns≠[]->∃M∈ns,∀x∈ns,x<=M
 |[],h=>absurd rfl h
 |[x],_=>#[x,by simp,by simp]
 |x::y::r,_=>by
  let#[M,h1,h2]:=Ld (ns:=y::r) #[_];by_cases h:x<=M
  .refine#[M,bA _ h1,λz hz=>?_];rcases aJ.mp hz with rfl|hz
   .exact h
   .exact h2 z hz
  .refine#[x,by simp,λz hz=>?_];rcases aJ.mp hz with rfl|hz
   .exact Int.le_refl _
   .have:=h2 z hz;omega
def WT{l m:@&Int}(hl:l.Nodup)(hm:m.Nodup)(h:∀x,x∈l↔x∈m):-l=-m:=((bX hl hm).mpr h).length_eq
noncomputable abbrev gX(H:@&Nat):Nat->Bool:=λi=>decide (i∈H)
abbrev fTail(n:Nat):MS->MS
 |.seq a b=>match n with
  |0=>.seq a b
  |n+1=>fTail n b
 |x=>x
section
variable{T:Nat->Option aV}{d:Nat}
def Le(hT:yc T)(hN:N.rt=Q){z6 z7:Option D}(ha:g[a]?=!.lst (cs.map a9.d))(hz:-cs<=9)(hc:g[c]?=!.lst (C0 rs))(hr:-rs<=900)(hh:g[hl]?=!.lst (b8 H))(hH:∀i∈H,i< -cs)(wK:-H<=50)(hp:p< -cs)(w1:L0 cs (gX H) p=false)(w2:J8 cs (gX H) p=false)(h:∀g',Ex g g'->Q (.str (fault cs v rs (gX H) p)) g') :
  wpS (b0 T (k+1)) (fTail 3 xy.body) N [!.ref a,!.int v,!.ref c,!.ref hl,!.int (p:Nat),!(bV cs p).d,z6,z7,none,none] g E:=by
 subst hN;dsimp[xy,fTail];show comp_map (a8 T _) (λZ=>∃z1 z2,Z=[!.ref a,z1,z2]) (λi=>.int (bV cs (H.getD i 0)).lo) (l:=b8 H) (k:=.lst hl) (λg' e=>s9 (a7 (e.at hh))) (by simp[b8];omega) #[none,none,rfl] (λi x Z g' hx e sh=>?_) (λg1 e1=>?_) (V7 (a8 T _) (a7 hh) λQ q=>w_var (d:=.ref hl) rfl q)
 .let#[z1,z2,rfl]:=sh;rw[b8,aj,ae] at hx;let#[j,hj,rfl]:=hx;refine i9 ?_
  try show aY _ _ _ _ _ _
  show q9 (a7 (e.at ha)) (M9 (hH j (aB hj))) ?_;show x8 (S3 (.inl rfl) _) ?_;exact#[by simp[List.getD,hj,K8],e,_,_,rfl]
 let e2:=e1.trans (Ex.snoc g1 (O.lst ((List.range (b8 H).length).map λi=>D.int (bV cs (H.getD i 0)).lo)));let eh:(List.range (b8 H).length).map (λi=>D.int (bV cs (H.getD i 0)).lo)=(H.map λi=>(bV cs i).lo).map D.int:=by
  rw[cF];refine cK λi=>?_;rw[aj,aj];by_cases hi:i< -H
  .rw[cM (by simpa[b8] using hi),ag hi];simp[List.getD,hi]
  .rw[aT (by simpa[b8] using hi),aT ()]
   rfl
 rw[eh] at e2 ⊢;let h2:=b7 (g:=g1) (o:=O.lst ((H.map λi=>(bV cs i).lo).map D.int));generalize g1++[O.lst ((H.map λi=>(bV cs i).lo).map D.int)]=g2 at *;show x8 (S3 (.inl rfl) _) ?_;left;let e3:=Ex.snoc g2 (O.lst [D.int (K8 0 (bV cs p))]);refine Gw (e3.at h2) b7 (by simp;omega) ?_;let e4:=(e2.trans e3).trans (Ex.snoc _ (O.lst ((H.map λi=>(bV cs i).lo).map D.int++[D.int (K8 0 (bV cs p))])));let h4:=b7 (g:=g2++[O.lst [D.int (K8 0 (bV cs p))]]) (o:=O.lst ((H.map λi=>(bV cs i).lo).map D.int++[D.int (K8 0 (bV cs p))]));let SV:(H.map λi=>(bV cs i).lo).map D.int++[D.int (K8 0 (bV cs p))]=((H.map λi=>(bV cs i).lo)++[(bV cs p).lo]).map D.int:=by simp[K8]
 rw[SV] at e4 h4 ⊢;generalize BJ:(H.map λi=>(bV cs i).lo)++[(bV cs p).lo]=fY at *;let lhr:-fY<=51:=by rw[<- BJ];simp;omega
 generalize g2++[O.lst [D.int (K8 0 (bV cs p))]]=g3 at *;generalize g3++[O.lst (fY.map D.int)]=g4 at *;generalize (-g3)=ah at *;show E3 (a8 T _) (λZ=>∃z2 z3,Z=[!.ref hl,!.ref a,z2,z3]) (λi=>~~~decide (i∈H)) (λi=>.int (bV cs i).lo) (l:=j6 0 (-cs)) (λg' e=>x3) (by rw[j8];omega) #[none,none,rfl] (λi d Z g' hx e sh=>?_) (λg5 e5=>?_) (Dt (a8 T _) (by omega:-cs<=1000) λQ q=>?_)
 .let#[z2,z3,rfl]:=sh;let#[hi,rfl]:=C8 hx;rw[eU];refine i9 ?_
  try show dY _ _ _ _ _ _
  show T8 (My ((e4.trans e).at hh) ?_);show#[rfl,e,?_];by_cases wu:i∈H
  .rw[aA wu];exact fF rfl #[_,_,rfl]
  .rw[aI wu];refine fV rfl ?_;show q9 (a7 ((e4.trans e).at ha)) (M9 hi) ?_;show x8 (S3 (.inl rfl) _) ?_;exact#[rfl,e,_,_,rfl]
 rotate_left
 .show O3 (a7 (e4.at ha)) ?_;rw[au];exact q
 let e6:=e5.trans (Ex.snoc g5 (O.lst (((List.range (j6 0 (-cs)).length).filter λi=>~~~decide (i∈H)).map λi=>D.int (bV cs i).lo)));let h6:=b7 (g:=g5) (o:=O.lst (((List.range (j6 0 (-cs)).length).filter λi=>~~~decide (i∈H)).map λi=>D.int (bV cs i).lo));let el:(((List.range (j6 0 (-cs)).length).filter λi=>~~~decide (i∈H)).map λi=>D.int (bV cs i).lo)=(((List.range (-cs)).filter λi=>~~~decide (i∈H)).map λi=>(bV cs i).lo).map D.int:=by
  rw[j8,cF]
  rfl
 rw[el] at e6 h6 ⊢;generalize dI:(((List.range (-cs)).filter λi=>~~~decide (i∈H)).map λi=>(bV cs i).lo)=lt' at *;generalize g5++[O.lst (lt'.map D.int)]=g6 at *;generalize (-g5)=al at *;show E3 (a8 T _) (λZ=>∃z1 z2,Z=[!.ref al,z1,z2]) (λi=>decide (fY.getD i 0∈lt')) (λi=>.int (fY.getD i 0)) (l:=fY.map D.int) (k:=.lst ah) (λg' e=>s9 (a7 ((e6.trans e).at h4))) (by simp;omega) #[none,none,rfl] (λi d Z g' hx e sh=>?_) (λg7 e7=>?_) (V7 (a8 T _) (a7 (e6.at h4)) λQ q=>w_var (d:=.ref ah) rfl q)
 .let#[z1,z2,rfl]:=sh;rw[aj,ae] at hx;let#[x,hx,rfl]:=hx;let ex:fY.getD i 0=x:=by simp[List.getD,hx]
  refine i9 ?_
  try show dY _ _ _ _ _ _
  show oY (S1 (a7 (e.at h6)) ?_);left;let ed:(lt'.any λm=>m==x)=decide (x∈lt'):=by
   rw[aZ,aO,br];exact#[(by rintro ⟨y,hy,e⟩;exact (eO.mp e)▸hy),λhy=>#[x,hy,by simp]]
  rw[ed,ex];refine#[rfl,e,?_];refine if2 (λz=>?_) (λz=>?_)
  .left;exact#[rfl,e,_,_,rfl]
  .exact#[_,_,rfl]
 let es:((List.range (fY.map D.int).length).filter λi=>decide (fY.getD i 0∈lt')).map (λi=>D.int (fY.getD i 0))=(((List.range (-fY)).filter λi=>decide (fY.getD i 0∈lt')).map λi=>fY.getD i 0).map D.int:=by
  rw[cF,au]
  rfl
 let e8:=e7.trans (Ex.snoc g7 (O.lst (((List.range (fY.map D.int).length).filter λi=>decide (fY.getD i 0∈lt')).map λi=>D.int (fY.getD i 0))));refine bM4 (ns:=((List.range (-fY)).filter λi=>decide (fY.getD i 0∈lt')).map λi=>fY.getD i 0) (a7 (by rw[es];exact b7)) (by rw[au];exact fA P9 ()) ?_;generalize g7++[O.lst (((List.range (fY.map D.int).length).filter λi=>decide (fY.getD i 0∈lt')).map λi=>D.int (fY.getD i 0))]=g8 at *;let en:(ST.f9 [] (((List.range (-fY)).filter λi=>decide (fY.getD i 0∈lt')).map λi=>fY.getD i 0)).length=qg cs (gX H) p:=by
  unfold qg;refine WT (ST.M7 _ _ #[_]) ((Wl _).filter _) λx=>?_;rw[ST.E1,bt,EL];unfold S5;rw[aU,aO,aO];simp only[List.not_mem_nil,false_or,List.mem_map,List.mem_filter,List.mem_range,Bool.and_eq_true,decide_eq_true_eq,Bool.or_eq_true,Bool.not_eq_true',decide_eq_false_iff_not];constructor
  .rintro⟨i,⟨hi,hx⟩,rfl⟩;let hm:fY.getD i 0∈fY:=by simp[List.getD,hi]
   generalize fY.getD i 0=x at *;rw[<- dI] at hx;simp only[List.mem_map,List.mem_filter,List.mem_range,Bool.not_eq_true',decide_eq_false_iff_not] at hx;rw[<- BJ] at hm;let#[j,#[rP,BH],yT]:=hx;let yM:∃q,q< -cs/\(q∈H\/q=p)/\(bV cs q).lo=x:=by
    rcases aW.mp hm with hm|hm
    .let#[q,hq,e]:=aL.mp hm;exact#[q,hH q hq,.inl hq,e]
    .exact#[p,hp,.inr rfl,(bp.mp hm).symm]
   let#[q,q1,q2,q3]:=yM;refine#[#[bV cs j,?_,yT],#[q,q1,q2,q3],j,rP,BH,yT];rw[F3 (ag rP)];exact cj rP
  .rintro⟨_,⟨q,q1,q2,q3⟩,j,rP,BH,yT⟩;let hm:x∈fY:=by
    rw[<- BJ];rcases q2 with q2|q2
    .exact gj _ (aL.mpr #[q,q2,q3])
    .subst q2;exact bS _ (by rw[q3];simp)
   let#[i,hi,e]:=bK.mp hm;refine#[i,#[hi,?_],by simp[List.getD,hi,e]];rw[show fY.getD i 0=x by simp[List.getD,hi,e],<- dI];simp only[List.mem_map,List.mem_filter,List.mem_range,Bool.not_eq_true',decide_eq_false_iff_not];exact#[j,#[rP,BH],yT]
 rw[en];left;let ui:=(e4.trans e6).trans e8;refine if2 (λc3=>?_) (λc3=>?_)
 .left;have:fault cs v rs (gX H) p="anvil":=by unfold fault;rw[az (by rw[w1];decide),az (by rw[w2];decide),ay c3]
  rw[this] at h;exact h _ ui
 show comp_map (a8 T _) (λZ=>∃z3 z4,Z=[!.ref hl,!.ref a,!.int (p:Nat),z3,z4]) (λi=>.bl (~~~meant cs (rs.getD i #[.gY,0,0]).w (rs.getD i #[.gY,0,0]).y p||(List.range (-cs)).any λj=>decide (j∈H)&&meant cs (rs.getD i #[.gY,0,0]).w (rs.getD i #[.gY,0,0]).x j)) (l:=C0 rs) (k:=.lst c) (λg' e=>s9 (a7 ((ui.trans e).at hc))) (by simp[C0];omega) #[none,none,rfl] (λi x Z g' hx e sh=>?_) (λg9 e9=>?_) (V7 (a8 T _) (a7 (ui.at hc)) λQ q=>w_var (d:=.ref c) rfl q)
 .let#[z3,z4,rfl]:=sh;rw[C0,aj,ae] at hx;let#[r,tQ,rfl]:=hx;refine i9 ?_
  try show aY _ _ _ _ _ _
  show aF9 (k:=k) hT ((ui.trans e).at ha) ((ui.trans e).at hh) hH wK hp λIM sC=>?_;exact#[by simp[List.getD,tQ],e.trans sC,_,_,rfl]
 let eb:((List.range (C0 rs).length).map λi=>D.bl (~~~meant cs (rs.getD i #[.gY,0,0]).w (rs.getD i #[.gY,0,0]).y p||(List.range (-cs)).any λj=>decide (j∈H)&&meant cs (rs.getD i #[.gY,0,0]).w (rs.getD i #[.gY,0,0]).x j))=(rs.map λr=>~~~meant cs r.w r.y p||(List.range (-cs)).any λj=>decide (j∈H)&&meant cs r.w r.x j).map D.bl:=by
  rw[cF];refine cK λi=>?_;rw[aj,aj];by_cases hi:i< -rs
  .rw[cM (by simpa[C0] using hi),ag hi];simp[List.getD,hi]
  .rw[aT (by simpa[C0] using hi),aT ()]
   rfl
 rw[eb];refine Ac (a7 b7) (Y2 _) ?_;let eN:(rs.map λr=>~~~meant cs r.w r.y p||(List.range (-cs)).any λj=>decide (j∈H)&&meant cs r.w r.x j).all id=X4 cs rs (gX H) p:=by
  rw[List.all_map]
  rfl
 rw[eN];left;let sC:=ui.trans (e9.trans (Ex.snoc g9 (O.lst ((rs.map λr=>~~~meant cs r.w r.y p||(List.range (-cs)).any λj=>decide (j∈H)&&meant cs r.w r.x j).map D.bl))));cases c4:X4 cs rs (gX H) p with
 |true =>
  left;have:fault cs v rs (gX H) p="":=by unfold fault;rw[az (by rw[w1];decide),az (by rw[w2];decide),az c3,ay c4]
  rw[this] at h;exact h _ sC
 |false =>
  left;have:fault cs v rs (gX H) p="rule":=by unfold fault;rw[az (by rw[w1];decide),az (by rw[w2];decide),az c3,az (by rw[c4];decide)]
  rw[this] at h;exact h _ sC
end
section
variable{T:Nat->Option aV}{d:Nat}
def Gv(c:a9):ia [D.int c.lo,D.tup (c.lm.map .int),D.int c.up,D.tup (c.um.map .int),D.int c.yr] 4=!.int c.yr:=rfl
def Vz(hi:i∈H)(hH:∀i∈H,i< -cs)(h:mw (bV cs i) (bV cs p)=true):fault cs v rs (gX H) p="wear":=by
 unfold fault;rw[ay];unfold L0;rw[zo hH,aO];exact#[i,hi,h]
def a78(hT:yc T)(hB:∀c∈cs,CB c)(ha:g[a]?=!.lst (cs.map a9.d))(hz:-cs<=9)(hc:g[c]?=!.lst (C0 rs))(hr:-rs<=900)(hh:g[hl]?=!.lst (b8 H))(hH:∀i∈H,i< -cs)(wK:-H<=50)(hp:p< -cs)(h:∀g',Ex g g'->Q (.str (fault cs v rs (gX H) p)) g'):b0 T (k+2) 108 [.ref a,.int v,.ref c,.ref hl,.int (p:Nat)] g Q E:=by
 refine call_of hT.CA rfl ?_;let RG:∀i,i< -cs->CB (bV cs i):=λi hi=>by rw[F3 (ag hi)];exact hB _ (cj hi)
 delta xy;show q9 (a7 ha) (M9 hp) ?_;show A6 (a8 T _) (my (a8 T _) ?_);show#[hl,_,rfl,a7 hh,b8 H,λt Z g'=>Ex g g'/\(∀i∈H.take t,mw (bV cs i) (bV cs p)=false)/\∃z6 z7,Z=[!.ref a,!.int v,!.ref c,!.ref hl,!.int (p:Nat),!(bV cs p).d,z6,z7,none,none],λi Z g' q=>s9 (a7 (q.1.at hh)),#[Ex.refl _,by simp,none,none,rfl],λt x Z g' hx q=>?_,λZ g' q=>?_]
 .let#[e1,q,z6,z7,rfl]:=q;rw[b8,aj,ae] at hx;let#[i,hi,rfl]:=hx;let wu:=aB hi;let kO:=hH i wu;refine i9 ?_
  try show wpS _ _ _ _ _ _
  show A6 (a8 T _) (my (a8 T _) ?_);left;let e2:=e1.trans (Ex.snoc g' (O.lst [D.int 0,D.int 2]));let h2:=b7 (g:=g') (o:=O.lst [D.int 0,D.int 2]);generalize g'++[O.lst [D.int 0,D.int 2]]=g2 at *;refine#[_,_,rfl,a7 h2,[D.int 0,D.int 2],λj Z g3=>Ex g2 g3/\(1<=j->(decide ((bV cs i).lo=(bV cs p).lo)&&~~~jL (bV cs i).lm (bV cs p).lm)=false)/\(2<=j->(decide ((bV cs i).up=(bV cs p).up)&&~~~jL (bV cs i).um (bV cs p).um)=false)/\∃z7,Z=[!.ref a,!.int v,!.ref c,!.ref hl,!.int (p:Nat),!(bV cs p).d,!.int (i:Nat),z7,none,none],λj Z g3 q=>s9 (a7 (q.1.at h2)),#[Ex.refl _,λz=>absurd z (),λz=>absurd z (),z7,rfl],λj x Z g3 hx q=>?_,λZ g3 q=>?_]
  .let#[e3,q1,q2,z7,rfl]:=q;let hf:∃f:Int,(f=0\/f=2)/\x=.int f/\(f=0↔j=0)/\j<2:=by
    match j,hx with
    |0,hx=>cases hx;exact#[0,.inl rfl,rfl,by simp,by omega]
    |1,hx=>cases hx;exact#[2,.inr rfl,rfl,by simp,by omega]
    |j+2,hx=>simp at hx
   let#[f,hf,rfl,Ia,hj]:=hf;let uj:=e2.trans e3;refine i9 ?_
   try show wpS _ _ _ _ _ _
   show q9 (a7 (uj.at ha)) (M9 kO) ?_;show x8 (S3 hf _) ?_;show x8 (S3 hf _) ?_;left;let fin:∀g4,Ex g3 g4->(decide (K8 f (bV cs i)=K8 f (bV cs p))&&~~~jL (sQ f (bV cs i)) (sQ f (bV cs p)))=false->(Ex g2 g4/\(1<=j+1->(decide ((bV cs i).lo=(bV cs p).lo)&&~~~jL (bV cs i).lm (bV cs p).lm)=false)/\(2<=j+1->(decide ((bV cs i).up=(bV cs p).up)&&~~~jL (bV cs i).um (bV cs p).um)=false)/\∃z7,([!.ref a,!.int v,!.ref c,!.ref hl,!.int (p:Nat),!(bV cs p).d,!.int (i:Nat),!.int f,none,none]:S)=[!.ref a,!.int v,!.ref c,!.ref hl,!.int (p:Nat),!(bV cs p).d,!.int (i:Nat),z7,none,none]):=λg4 e4 hw=>by
    refine#[e3.trans e4,λy=>?_,λz=>?_,_,rfl]
    .by_cases h0:j=0
     .rw[Ia.mpr h0] at hw;exact hw
     .exact q1 ()
    .have:¬f=0:=λw=>by have:=Ia.mp w;omega
     let f2:f=2:=hf.resolve_left this;rw[f2] at hw;exact hw
   refine if2 (λh1=>?_) (λh1=>?_)
   .show q9 (a7 (uj.at ha)) (M9 kO) ?_;show x8 (JW hf _) ?_;show x8 (JW hf _) ?_;show aX8 (k:=k) hT.Ct ((RG i kO).jM f) λg4 e4=>?_;left;cases hw:jL (sQ f (bV cs i)) (sQ f (bV cs p)) with
    |false =>
     left;have:mw (bV cs i) (bV cs p)=true:=by
      unfold mw;rcases hf with rfl|rfl
      .rw[aA (show(bV cs i).lo=(bV cs p).lo from h1),show jL (bV cs i).lm (bV cs p).lm=false from hw];rfl
      .rw[aA (show(bV cs i).up=(bV cs p).up from h1),show jL (bV cs i).um (bV cs p).um=false from hw];simp
     rw[Vz wu hH this] at h;exact h _ (uj.trans e4)
    |true =>
     left;exact fin g4 e4 (by rw[hw];simp)
   .left;exact fin g3 (Ex.refl _) (by rw[aI h1];rfl)
  .let#[e3,q1,q2,z7,rfl]:=q
   try show wpS _ _ _ _ _ _
   try left
   refine#[e2.trans e3,λi' hZ=>?_,_,_,rfl];rw[bz,hi] at hZ;rcases aW.mp hZ with hZ|hZ
   .exact q i' hZ
   .have:i'=i:=by simpa using hZ
    subst this;unfold mw;rw[q1 ∅,q2 ∅]
    rfl
 .let#[e1,q,z6,z7,rfl]:=q;rw[b8,au,bP] at q;let w1:L0 cs (gX H) p=false:=by
   unfold L0;rw[zo hH,iC];exact λi hi=>by rw[q i hi];decide
  try show wpS _ _ _ _ _ _
  refine uF ?_;show x8 (Gv _) ?_;left;let vI:J8 cs (gX H) p=(decide (0<(bV cs p).yr)&&H.any λi=>decide ((bV cs p).yr<(bV cs i).yr)):=by
   unfold J8;rw[zo hH,aZ,aO,aU,aO];constructor
   .rintro⟨i,h1,h2⟩;unfold kZ at h2;rw[aU] at h2;exact#[h2.1,i,h1,h2.2]
   .rintro⟨h1,i,h2,h3⟩;exact#[i,h2,by unfold kZ;rw[h1,h3];rfl]
  refine if2 (λc1=>?_) (λc1=>?_)
  .left;let e2:=e1.trans (Ex.snoc g' (O.lst [D.int 0]));let h2:=b7 (g:=g') (o:=O.lst [D.int 0]);generalize g'++[O.lst [D.int 0]]=g2 at *;generalize (-g')=z0 at *;refine comp_map (a8 T _) (λZ=>∃z1 z2,Z=[!.ref a,z1,z2]) (λi=>.int (bV cs (H.getD i 0)).yr) (l:=b8 H) (k:=.lst hl) (λg' e=>s9 (a7 ((e2.trans e).at hh))) (by simp[b8];omega) #[none,none,rfl] (λi x Z g' hx e sh=>?_) (λg3 e3=>?_) (V7 (a8 T _) (a7 (e2.at hh)) λQ q=>w_var (d:=.ref hl) rfl q)
   .let#[z1,z2,rfl]:=sh;rw[b8,aj,ae] at hx;let#[j,hj,rfl]:=hx;refine i9 ?_
    try show aY _ _ _ _ _ _
    show q9 (a7 ((e2.trans e).at ha)) (M9 (hH j (aB hj))) ?_;show x8 (Gv _) ?_;exact#[by simp[List.getD,hj],e,_,_,rfl]
   let ey:(List.range (b8 H).length).map (λi=>D.int (bV cs (H.getD i 0)).yr)=(H.map λi=>(bV cs i).yr).map D.int:=by
    rw[cF];refine cK λi=>?_;rw[aj,aj];by_cases hi:i< -H
    .rw[cM (by simpa[b8] using hi),ag hi];simp[List.getD,hi]
    .rw[aT (by simpa[b8] using hi),aT ()]
     rfl
   rw[ey];let e4:=e3.trans (Ex.snoc g3 (O.lst ((H.map λi=>(bV cs i).yr).map D.int)));refine Gw (e4.at h2) b7 (by simp;omega) ?_;let e5:=e4.trans (Ex.snoc _ (O.lst ([D.int 0]++(H.map λi=>(bV cs i).yr).map D.int)));let#[M,m1,m2]:=Ld (ns:=0::H.map λi=>(bV cs i).yr) #[_];refine Yp (ns:=0::H.map λi=>(bV cs i).yr) (a7 b7) m1 m2 ?_;show x8 (Gv _) ?_;left;let em:decide ((bV cs p).yr<M)=J8 cs (gX H) p:=by
    rw[vI,aA c1,kI,aZ,br,aO];constructor
    .intro hM;rcases aJ.mp m1 with rfl|hm
     .omega
     .let#[i,hi,rfl]:=aL.mp hm;exact#[i,hi,aA hM]
    .rintro⟨i,hi,h1⟩;have:=m2 _ (bA _ (aL.mpr #[i,hi,rfl]));have:=bx h1;omega
   rw[em];cases w2:J8 cs (gX H) p with
   |true =>
    left;have:fault cs v rs (gX H) p="year":=by unfold fault;rw[az (by rw[w1];decide),ay w2]
    rw[this] at h;exact h _ (e2.trans e5)
   |false =>
    refine fF rfl ?_;refine G0 ?_;let zj:=e2.trans e5;exact Le (k:=k) hT rfl (zj.at ha) hz (zj.at hc) hr (zj.at hh) hH wK hp w1 w2 λg6 e6=>h g6 (zj.trans e6)
  .refine fF rfl ?_;refine G0 ?_;let w2:J8 cs (gX H) p=false:=by rw[vI,aI c1];rfl
   exact Le (k:=k) hT rfl (e1.at ha) hz (e1.at hc) hr (e1.at hh) hH wK hp w1 w2 λg6 e6=>h g6 (e1.trans e6)
end
abbrev zQ:aV:=#[3,3,(.seq (.ret (.dF (bL (.cmp .NotEq) (.call 91 (dP aX bf)) aX) (bL (.cmp .Is) (.call 101 (gp aF aX bf)) (.lit .bg)))) .pass)]
abbrev Ll:aV:=#[2,2,(.seq (.ret (.comp [0,1] 4 (.one 3) (.fE (cW (.fld "size") aF)) (.fC (.call 115 (gp aF aX bw))) bw)) .pass)]
abbrev Z9(cs:@&a9)(v:Int)(rs:@&fP)(s p:Nat):Bool:= ~~~s.testBit p&&decide (fault cs v rs s.testBit p="")
abbrev y9(cs:@&a9)(v:Int)(rs:@&fP)(s:Nat):@&Nat:=(List.range (-cs)).filter (Z9 cs v rs s)
def Wb(x:Str):T7 (zf x)=decide (x=""):=by
 unfold zf;by_cases h:x=""
 .rw[ay h,aA h];rfl
 .rw[az h,aI h];rfl
def YB{s:Nat}:decide (((s |||2 ^ p:Nat):Int)=(s:Nat))=s.testBit p:=by
 rw[aZ,br];constructor
 .intro h;let h:s |||2 ^ p=s:=by omega
  have:=U7 s p p;rw[h] at this;rw[this];simp
 .intro h;have:s |||2 ^ p=s:=Aw λi=>by
   rw[U7];by_cases hi:i=p
   .subst hi;rw[h];rfl
   .rw[aI hi,Bool.or_false]
  rw[this]
structure TF(T:Nat->Option aV):Prop where
 sk:T 115=!zQ
 Cy:T 116=!Ll
section
variable{T:Nat->Option aV}{d:Nat}
def aY4(hT:TB0 T)(sk:T 115=!zQ)(B:Bd g b cs v rs)(hz:-cs<=9)(hr:-rs<=900){s:Nat}(hs:s<2 ^ (-cs))(hp:p< -cs)(h:∀g',Ex g g'->Q (.bl (Z9 cs v rs s p)) g'):b0 T (k+4) 115 [.ref b,.int (s:Nat),.int (p:Nat)] g Q E:=by
 refine call_of sk rfl ?_;delta zQ;show B7 (k:=k+2) hT.pQ () ?_;left;rw[YB];cases hb:s.testBit p with
 |true =>
  refine fF rfl ?_;have:Z9 cs v rs s p=false:=by unfold Z9;rw[hb];rfl
  rw[this] at h;exact h _ (Ex.refl _)
 |false =>
  refine fV rfl ?_;show aB9 (k:=k) hT B hz hr hs hp λg1 e1=>?_;left;have:Z9 cs v rs s p=T7 (zf (fault cs v rs s.testBit p)):=by unfold Z9;rw[hb,Wb];rfl
  rw[this] at h;exact h _ e1
def V8(hT:TB0 T)(hF:TF T)(B:Bd g b cs v rs)(hz:-cs<=9)(hr:-rs<=900){s:Nat}(hs:s<2 ^ (-cs))(h:∀g' l,Ex g g'->-g<=l->g'[l]?=!(.lst (b8 (y9 cs v rs s)))->Q (.ref l) g'):b0 T (k+5) 116 [.ref b,.int (s:Nat)] g Q E:=by
 refine call_of hF.Cy rfl ?_;let#[w,l,dd,nb,h1,h2,h3,h4,h5]:=B.ex;refine E3 (a8 T _) (λZ=>∃z2 z3,Z=[!.ref b,!.int (s:Nat),z2,z3]) (Z9 cs v rs s) (λi=>.int (i:Nat)) (l:=j6 0 (-cs)) (λg' e=>x3) (by rw[j8];omega) #[none,none,rfl] (λi d Z g' hx e sh=>?_) (λg' e=>?_) (Dt (a8 T _) (by omega:-cs<=1000) λQ q=>?_)
 .let#[z2,z3,rfl]:=sh;let#[hi,rfl]:=C8 hx;rw[eU];refine i9 ?_;show aY4 (k:=k) hT hF.sk (B.at e) hz hr hs hi λg2 e2=>?_;show#[rfl,e.trans e2,?_];cases Z9 cs v rs s i with
  |true =>
   refine fV rfl ?_;left;exact#[rfl,e.trans e2,_,_,rfl]
  |false=>exact fF rfl #[_,_,rfl]
 .rw[j8];exact h _ _ (e.trans (Ex.snoc _ _)) e.len b7
 .left;exact w5 h1 rfl q
end
abbrev FG(n:Nat)(F:Nat->@&Nat):Prop:=∀s p,p∈F s->p<n/\s.testBit p=false
abbrev T4(n:Nat)(F:Nat->@&Nat):Nat->Nat->@&(@&Nat)
 |0,s=>if s=2 ^ n-1 then[[]] else[]
 |f+1,s=>if s=2 ^ n-1 then[[]] else(F s).flatMap λp=>(T4 n F f (s |||2 ^ p)).map (p::·)
abbrev p6(n:Nat)(F:Nat->@&Nat)(s:Nat):@&(@&Nat):=T4 n F (2 ^ n) s
def Ai{s:Nat}(h:s.testBit p=false):s<s |||2 ^ p:=by
 let h1:s<=s |||2 ^ p:=Nat.left_le_or
 let h2:s |||2 ^ p≠s:=λe=>by
  have:=U7 s p p;rw[e,h] at this;simp at this
 omega
def L4{β:Type}{l:List α}{f g:α->List β}(h:∀x∈l,f x=g x):l.flatMap f=l.flatMap g:=by
 induction l with
 |nil=>rfl
 |cons a r ih=>rw[eG,eG,h a #[_],ih λx hx=>h x (by simp[hx])]
def Ln{n:Nat}{F:Nat->@&Nat}(hF:FG n F):∀(f s:Nat),s<2 ^ n->2 ^ n-1-s<=f->T4 n F f s=T4 n F (f+1) s
 |0,s,hs,hf=>by
  let e:s=2 ^ n-1:=by omega
  simp only[T4];rw[ay e,ay e]
 |f+1,s,hs,hf=>by
  rw[T4,T4];by_cases e:s=2 ^ n-1
  .rw[ay e,ay e]
  .rw[az e,az e];refine L4 λp hp=>?_;have:=hF s p hp;rw[Ln hF f (s |||2 ^ p) (xQ hs this.1) (by have:=Ai this.2;omega)]
def EM{F:Nat->@&Nat}{s:Nat}(h:s=2 ^ n-1):p6 n F s=[[]]:=by
 unfold p6;obtain⟨m,hm⟩:∃m,2 ^ n=m+1:=#[2 ^ n-1,by have:=gO (n:=n);omega]
 rw[hm,T4,ay h]
def DU{F:Nat->@&Nat}(hF:FG n F){s:Nat}(hs:s<2 ^ n)(h:s≠2 ^ n-1):p6 n F s=(F s).flatMap λp=>(p6 n F (s |||2 ^ p)).map (p::·):=by
 unfold p6;obtain⟨m,hm⟩:∃m,2 ^ n=m+1:=#[2 ^ n-1,by have:=gO (n:=n);omega]
 conv=>lhs;rw[hm,T4,az h]
 refine L4 λp hp=>?_;have:=hF s p hp;rw[hm,<- Ln hF m (s |||2 ^ p) (xQ hs this.1) ()]
def Vx{F:Nat->@&Nat}(hF:FG n F){s:Nat}(hs:s<2 ^ n)(h:s≠2 ^ n-1):(p6 n F s).length=((F s).map λp=>(p6 n F (s |||2 ^ p)).length).sum:=by
 rw[DU hF hs h,List.length_flatMap];simp[Function.comp_def]
inductive lE(F:Nat->@&Nat):Nat->Prop
 |zero:lE F 0
 |step {s p:Nat} (h:lE F s) (hp:p∈F s):lE F (s |||2 ^ p)
def lE.lt{F:Nat->@&Nat}(hF:FG n F){s:Nat}(h:lE F s):s<2 ^ n:=by
 induction h with
 |zero=>exact Nat.two_pow_pos _
 |step h hp ih=>exact xQ ih (hF _ _ hp).1
def U4(cs:@&a9)(v:Int)(rs:@&fP):FG (-cs) (y9 cs v rs):=λs p hp=>by
 let#[h1,h2]:=bt.mp hp;unfold Z9 at h2;rw[aU,lQ] at h2;exact#[aR.mp h1,h2.1]
def aY7{β:Type}{f:α->List β}{l:List α}{x:α}(hx:l[j]?=!x)(m:Nat):(l.flatMap f)[((l.take j).flatMap f).length+m]?=((l.drop j).flatMap f)[m]?/\(l.drop j).flatMap f=f x++(l.drop (j+1)).flatMap f:=by
 let e:l.flatMap f=(l.take j).flatMap f++(l.drop j).flatMap f:=by rw[<- GO,jA]
 let hj:j< -l:=(av.mp hx).1;let ed:l.drop j=x::l.drop (j+1):=by
  rw[eZ hj]
  congr 1
  exact(av.mp hx).2
 constructor
 .rw[e,bE ()]
  congr 1
  omega
 .rw[ed,eG]
noncomputable abbrev kN(j:Nat):Key:=.inl (j:Int)
def WM{c:Key}{x:D}:v8 (putD kvs c x) c=!x:=by
 unfold v8 putD;by_cases h:(kvs.any λkv=>decide (kv.1=c))=true
 .rw[ay h]
  induction kvs with
  |nil=>cases h
  |cons kv r ih =>
   rw[bJ,dX];by_cases hk:kv.1=c
   .rw[ay hk];simp[hk]
   .rw[az hk];simp only[hk,decide_false];refine ih ?_;rw[dZ,fz] at h;exact h.resolve_left (by simp[hk])
 .rw[az h,iA];have:kvs.find? (λkv=>decide (kv.1=c))=none:=by
   rw[gS];exact λkv hk hc=>h (aO.mpr #[kv,hk,hc])
  rw[this];simp
def a41{c c':Key}{x:D}(hn:c≠c'):v8 (putD kvs c x) c'=v8 kvs c':=by
 unfold v8 putD;by_cases h:(kvs.any λkv=>decide (kv.1=c))=true
 .rw[ay h];clear h
  induction kvs with
  |nil=>rfl
  |cons kv r ih =>
   rw[bJ,dX,dX];by_cases hk:kv.1=c
   .rw[ay hk];have:kv.1≠c':=λz=>hn (hk.symm.trans z);simp only[this,decide_false];exact ih
   .rw[az hk];by_cases oU:kv.1=c'
    .simp only[oU,decide_true]
    .simp only[oU,decide_false];exact ih
 .rw[az h,iA];have:[(c,x)].find? (λkv=>decide (kv.1=c'))=none:=by simp[hn]
  rw[this];simp
def WQ{c:Key}{x:D}:(putD kvs c x).length<=-kvs+1:=by
 unfold putD;split<;>simp
def Yg{i:Nat}(h:i≠j):kN i≠kN j:=λz=>h (by have:(i:Int)=j:=Au z;omega)
abbrev P4:aV:=#[1,5,(.seq (.set 1 (.prim (.kX 0) .nil)) (.seq (.set 2 (.prim .lst .nil)) (.seq (.eL (.one 3) (.fE (bL (.bin .Add) (cW (.fld "full") aF) (bj 1))) (.seq (.ifs (dR .In bw aX) (.seq (.expr (.eW .append bf (dE bw))) (.seq (.eL (.one 4) (.fQ (.call 116 (dP aF bw))) (.seq (.expr (.eW .kY aX (dE (.call 91 (dP bw cO))))) .pass)) .pass)) .pass) .pass)) (.seq (.ret bf) .pass))))]
abbrev DP:aV:=#[1,3,(.seq (.set 1 (.prim .V9 .nil)) (.seq (.eL (.one 2) (.oS (.call 117 (dE aF))) (.seq (.ifs (dR .Eq bf (cW (.fld "full") aF)) (.seq (.fe aX bf (bj 1)) .pass) (.seq (.fe aX bf (cW .sum (.comp [2,1] 4 (.one 3) (.fQ (.call 116 (dP aF bf))) .no (cR aX (.call 91 (dP aF bw)))))) .pass)) .pass)) (.seq (.ret aX) .pass)))]
abbrev zG:aV:=#[4,7,(.seq (.set 4 (.call 116 (dP aF bf))) (.seq (.set 5 bw) (.seq (.set 6 (bj 0)) (.seq (.kU (dR .GtE eK (cR aX (.call 91 (dP bf (cR cO fo))))) (.seq (.lC 5 .oj (cR aX (.call 91 (dP bf (cR cO fo))))) (.seq (.lC 6 .iadd (bj 1)) .pass))) (.seq (.ret (bL .tup (cR cO fo) eK)) .pass)))))]
abbrev P5:aV:=#[3,7,(.seq (.set 3 (.prim .lst .nil)) (.seq (.set 4 (bj 0)) (.seq (.set 5 bf) (.seq (.kU (dR .NotEq cO (cW (.fld "full") aF)) (.seq (.nE (.many [6,5]) (.call 122 (nB aF aX cO eK))) (.seq (.expr (.eW .append bw (dE fo))) (.seq (.set 4 (.call 91 (dP cO fo))) .pass)))) (.seq (.ret bw) .pass)))))]
abbrev zR:aV:=#[3,3,(.seq (.ret (cR (.call 121 (dE (.call 99 (gp aF aX bf)))) (bj 0))) .pass)]
def xM:∀{l m:@&Nat},l.Nodup->(∀x∈l,x∈m)->-l<=-m
 |[],m,_,_=>cH _
 |x::r,m,nd,h=>by
  rw[du] at nd;have:=xM (l:=r) (m:=m.erase x) nd.2 λy hy=>(jT λz=>nd.1 (by simp_all)).mpr (h y (by simp[hy]))
  grind
section
variable{Z:S}
inductive yj(P:fK)(t:MT)(elt:ME)(Q:KD)(Z:S)(k:IK)(g1:G):Prop
 |mk (l:@&D) (Sh:S->Prop) (w:Nat->D) (hk:∀g',Ex g1 g'->k.Is l g') (hl:-l<=1000) (h0:Sh Z)
   (hs:∀i d Z g',l[i]?=!d->Ex g1 g'->Sh Z->kK t d Z λcQ=>aY P elt cQ g' (λy g4=>y=w i/\Ex g1 g4/\Sh cQ) jZ) (hd:∀g',Ex g1 g'->Q (.ref (-g')) (g'++[.lst ((List.range (-l)).map w)])):yj P t elt Q Z k g1
def a96(hP:i5 P)(h:iK P it Z g (yj P t elt Q (L5 Z d4 n)) E):aY P (.comp d4 n t it .no elt) Z g Q E:=by
 refine H9 hP (E4 hP it _ _ _ _ _ _ (λk g1 h=>?_) (λv v z=>z) h);let#[l,Sh,w,hk,hl,h0,hs,hd]:=h;refine#[l,λi ys Z g'=>Ex g1 g'/\ys=(List.range i).map w/\Sh Z,hl,λi ys Z g' q=>#[hk _ q.1,by simp_all],#[Ex.refl _,rfl,h0],λi x ys Z g' hx q=>?_,λys Z g' q=>?_]
 .let#[e1,rfl,sh]:=q;refine B8 (λcQ q=>xu (lW (b9 hP elt _ _ _ _ _ _ (λy g4 q=>?_) (λv v z=>z) q))) (hs i x Z g' hx e1 sh);let#[rfl,e4,sh]:=q;exact#[e4,by rw[gE,cP];rfl,sh]
 .let#[e1,rfl,sh]:=q;exact hd g' e1
end
abbrev pZ(g:G)(sd n:Nat)(K:@&Nat):Prop:=∃S m,g[sd]?=!.set S m/\m=-K/\K.Nodup/\(∀j∈K,j<2 ^ n)/\∀k:Int,S k=true↔∃j∈K,k=(j:Nat)
def pZ.at{g g':G}{sd n:Nat}{K:@&Nat}(h:pZ g sd n K)(e:Ex g g'):pZ g' sd n K:=let ⟨S,m,h1,h2⟩:=h;#[S,m,e.at h1,h2]
def pZ.size{sd:Nat}{K:@&Nat}(h:pZ g sd n K):-K<=2 ^ n:=by
 let#[S,m,_,_,nd,lt,_]:=h;have:=xM (m:=List.range (2 ^ n)) nd λx hx=>aR.mpr (lt x hx)
 simp_all
structure TW(T:Nat->Option aV):Prop where
 sj:T 117=!P4
 Cw:T 121=!DP
structure Wy(g:G)(w:Nat)(cs:@&a9)(v:Int)(rs:@&fP):Prop where
 ex:∃kvs,g[w]?=!.fb kvs/\∀s,lE (y9 cs v rs) s->v8 kvs (kN s)=!(.int ((p6 (-cs) (y9 cs v rs) s).length:Nat))
def Wy.at{g g':G}{w:Nat}{cs:@&a9}{v:Int}{rs:@&fP}(h:Wy g w cs v rs)(e:Ex g g'):Wy g' w cs v rs:=let ⟨kvs,h1,h2⟩:=h.ex;#[#[kvs,e.at h1,h2]]
def aX1{l:@&Nat}(hl:l.Pairwise (· > ·)){s x:Nat}(hi:l[i]?=!s)(hx:x∈l)(h:s<x):x∈l.take i:=by
 let#[j,hj,rfl]:=bK.mp hx;let#[hZ,rfl]:=av.mp hi;let QT:j<i:=by
  rcases eF j i with z|z|z
  .exact z
  .subst z;omega
  .have:=ib.mp hl i j hZ hj z;omega
 exact bR.mpr #[j,by rw[dC QT,ag hj]]
def Dw(h:n<=9):1<=2 ^ n/\2 ^ n<=512:=#[gO,Av () h]
section
variable{T:Nat->Option aV}{d:Nat}
def aV5(hT:TB0 T)(hF:TF T)(sj:T 117=!P4)(B:Bd g b cs v rs)(hz:-cs<=9)(hr:-rs<=900)(h:∀(L:@&Nat) l g',Ex g g'->-g<=l->g'[l]?=!.lst (b8 L)->L.Pairwise (· < ·)->(∀s,s∈L↔lE (y9 cs v rs) s)->-L<=512->Q (.ref l) g'):b0 T (k+6) 117 [.ref b] g Q E:=by
 refine call_of sj rfl ?_;let mI:=U4 cs v rs;generalize qE:y9 cs v rs=F at *;let#[w0,l0,dd,nb,f1,f2,f3,f4,f5]:=B.ex;let p2:=Dw hz;refine Up ?_;let s1:pZ (g++[O.set (λk=>decide (k=0)) 1]) (-g) (-cs) [0]:=#[_,_,b7,rfl,by simp,by simp;omega,λk=>by simp]
 let e1:=Ex.snoc g (O.set (λk=>decide (k=0)) 1);generalize g++[O.set (λk=>decide (k=0)) 1]=g1 at *;left;let e2:=e1.trans (Ex.snoc g1 (O.lst []));let s2:=s1.at (Ex.snoc g1 (O.lst []));let t2:=b7 (g:=g1) (o:=O.lst []);let l1:-g< -g1:=by let#[_,_,z,_]:=s1;exact n8 z
 generalize (-g1)=tl at *;refine A6 (a8 T _) (Z8 (a8 T _) ?_);show w5 (e2.at f1) rfl ?_;left;let en:((2 ^ (-cs)-1:Nat):Int)+1=((2 ^ (-cs):Nat):Int):=by omega
 rw[en];refine#[by omega,by omega,j6 0 (2 ^ (-cs)),λt Z g'=>Ex g g'/\(∃K,pZ g' (-g) (-cs) K/\∀j,j∈K↔j=0\/∃s p,s<t/\lE F s/\p∈F s/\j=s |||2 ^ p)/\(∃L,g'[tl]?=!.lst (b8 L)/\L.Pairwise (· < ·)/\(∀s,s∈L↔s<t/\lE F s)/\-L<=t)/\∃z3 z4,Z=[!.ref b,!.ref (-g),!.ref tl,z3,z4],λw w w w=>by exact x3,#[e2,#[[0],s2,λj=>by simp],#[[],t2,by simp,by simp,by simp],none,none,rfl],λt x Z g' hx q=>?_,λZ g' q=>?_]
 .let#[e3,#[K,s3,hK],#[L,t3,pw,hL,Ci],z3,z4,rfl]:=q;let#[ht,rfl]:=C8 hx;rw[eU];let jj:t∈K↔lE F t:=by
   rw[hK];constructor
   .rintro(rfl|⟨s,p,_,h2,h3,rfl⟩)
    .exact .zero
    .exact .step h2 h3
   .intro h;cases h with
    |zero=>exact .inl rfl
    |step h hp=>exact .inr #[_,_,Ai (mI _ _ hp).2,h,hp,rfl]
  refine i9 ?_;left;let#[S,m,sg,sm,snd,slt,sS]:=id s3;refine b09 sg ?_;left;let Ir:S (t:Nat)=true↔lE F t:=by
   rw[sS,<- jj];exact#[(by rintro ⟨j,hj,e⟩;rw[show t=j by omega];exact hj),λz=>#[t,z,rfl]]
  cases hb:S (t:Nat) with
  |false =>
   let lI:¬lE F t:=λz=>by rw[Ir.mpr z] at hb;cases hb
   refine fF rfl ?_;refine#[e3,#[K,s3,λj=>(hK j).trans #[?_,?_]],#[L,t3,pw,λs=>(hL s).trans #[λz=>#[by omega,z.2],λz=>#[?_,z.2]],by omega],_,_,rfl]
   .rintro(z|⟨s,p,h1,h2⟩)
    .exact .inl z
    .exact .inr #[s,p,by omega,h2]
   .rintro(z|⟨s,p,h1,h2,h3⟩)
    .exact .inl z
    .refine .inr #[s,p,?_,h2,h3];rcases gI s t with y|y
     .exact y
     .exact absurd (show lE F t by rw[show t=s by omega];exact h2) lI
   .rcases gI s t with y|y
    .exact y
    .exact absurd (show lE F t by rw[show t=s by omega];exact z.2) lI
  |true =>
   let hR:=Ir.mp hb;refine fV rfl ?_;show sT t3 (by simp[b8];omega) ?_;let Pw:tl≠-g:=by omega
   let s4:pZ (g'.set tl (.lst (b8 L++[D.int (t:Nat)]))) (-g) (-cs) K:=#[S,m,d0 sg Pw,sm,snd,slt,sS]
   let t4:(g'.set tl (.lst (b8 L++[D.int (t:Nat)])))[tl]?=!(.lst (b8 (L++[t]))):=by rw[get_set t3];simp[b8]
   let e4:Ex g (g'.set tl (.lst (b8 L++[D.int (t:Nat)]))):=#[by simp;exact e3.len,λi hi=>by rw[ax ()];exact e3.old i hi]
   generalize g'.set tl (.lst (b8 L++[D.int (t:Nat)]))=g4 at *;show A6 (a8 T _) (my (a8 T _) ?_);show V8 (k:=k) hT hF (B.at e4) hz hr ht λg5 fl e5 QY h5=>?_;rw[qE] at h5;let l4:tl< -g4:=n8 t4;refine#[fl,_,rfl,a7 h5,b8 (F t),λj Z g'=>Ex g g'/\g'[fl]?=!(.lst (b8 (F t)))/\g'[tl]?=!(.lst (b8 (L++[t])))/\(∃K',pZ g' (-g) (-cs) K'/\∀x,x∈K'↔x∈K\/∃p∈(F t).take j,x=t |||2 ^ p)/\∃z4,Z=[!.ref b,!.ref (-g),!.ref tl,!.int (t:Nat),z4],λj Z g' q=>s9 (a7 q.2.1),#[e4.trans e5,h5,e5.at t4,#[K,s4.at e5,λx=>by simp],z4,rfl],λj x Z g' hx q=>?_,λZ g' q=>?_]
   .let#[e6,h6,t6,#[K',s6,ud],z4,rfl]:=q;rw[b8,aj,ae] at hx;let#[p,hp,rfl]:=hx;let qx:=aB hp;let qw:=(mI _ _ qx)
    let tk:(F t).take (j+1)=(F t).take j++[p]:=by rw[bz,hp];rfl
    let#[S6,m6,yF,Hd,vh,vi,tE]:=id s6;refine i9 ?_;show#[Uc yF,?_];show B7 (k:=k+4) hT.pQ () ?_;let hsz:=s6.size;refine bM2 yF () ?_;let dI:=xQ ht qw.1;refine#[#[by simp;exact e6.len,λi hi=>by rw[ax ()];exact e6.old i hi],d0 h6 (),d0 t6 (),?_,_,rfl];by_cases kO:S6 ((t |||2 ^ p:Nat):Int)=true
    .refine#[K',#[_,_,get_set yF,by rw[ay kO];exact Hd,vh,vi,λk=>?_],λx=>?_]
     .rw[fz,br];constructor
      .rintro(z|z)
       .exact(tE k).mp z
       .subst z;exact(tE _).mp kO
      .exact λz=>.inl ((tE k).mpr z)
     .rw[ud x,tk];simp only[List.mem_append,List.mem_singleton];constructor
      .rintro(z|⟨q,z1,z2⟩)
       .exact .inl z
       .exact .inr #[q,.inl z1,z2]
      .rintro(z|⟨q,z1|z1,z2⟩)
       .exact .inl z
       .exact .inr #[q,z1,z2]
       .subst z1 z2;let#[y,y1,y2]:=(tE _).mp kO;rw[<- ud,show(t |||2 ^ q)=y by omega];exact y1
    .let By:(t |||2 ^ p)∉K':=λz=>kO ((tE _).mpr #[_,z,rfl]);refine#[K'++[t |||2 ^ p],#[_,_,get_set yF,by rw[az kO];simp[Hd],?_,λy hy=>?_,λk=>?_],λx=>?_]
     .rw[cA];exact#[vh,by simp,λx hx y hy=>by cases bp.mp hy;exact λz=>By (z▸hx)]
     .rcases aW.mp hy with z|z
      .exact vi y z
      .cases bp.mp z;exact dI
     .rw[fz,br,tE];simp only[List.mem_append,List.mem_singleton];constructor
      .rintro(⟨y,y1,y2⟩|z)
       .exact#[y,.inl y1,y2]
       .exact#[_,.inr rfl,z]
      .rintro⟨y,y1|y1,y2⟩
       .exact .inl #[y,y1,y2]
       .subst y1;exact .inr y2
     .rw[aW,bp,ud x,tk];simp only[List.mem_append,List.mem_singleton];constructor
      .rintro((z|⟨q,z1,z2⟩)|z)
       .exact .inl z
       .exact .inr #[q,.inl z1,z2]
       .exact .inr #[p,.inr rfl,z]
      .rintro(z|⟨q,z1|z1,z2⟩)
       .exact .inl (.inl z)
       .exact .inl (.inr #[q,z1,z2])
       .subst z1;exact .inr z2
   .let#[e6,h6,t6,#[K',s6,ud],z4,rfl]:=q;rw[b8,au,bP] at ud;refine#[e6,#[K',s6,λj=>(ud j).trans ?_],#[L++[t],t6,?_,λs=>?_,by simp;omega],_,_,rfl]
    .rw[hK j];constructor
     .rintro((z|⟨s,p,h1,h2⟩)|⟨p,h1,h2⟩)
      .exact .inl z
      .exact .inr #[s,p,by omega,h2]
      .exact .inr #[t,p,by omega,hR,h1,h2]
     .rintro(z|⟨s,p,h1,h2,h3,h4⟩)
      .exact .inl (.inl z)
      .rcases gI s t with y|y
       .exact .inl (.inr #[s,p,y,h2,h3,h4])
       .have:s=t:=by omega
        subst this;exact .inr #[p,h3,h4]
    .rw[Ax];exact#[pw,by simp,λx hx y hy=>by cases bp.mp hy;exact((hL x).mp hx).1]
    .rw[aW,bp,hL s];constructor
     .rintro(z|z)
      .exact#[by omega,z.2]
      .subst z;exact#[by omega,hR]
     .rintro⟨z1,z2⟩;rcases gI s t with y|y
      .exact .inl #[y,z2]
      .exact .inr ()
 .let#[e3,#[K,s3,hK],#[L,t3,pw,hL,Ci],z3,z4,rfl]:=q;rw[j8] at hL Ci;left;exact h L tl g' e3 () t3 pw (λs=>(hL s).trans #[λz=>z.2,λz=>#[z.lt mI,z]]) ()
def Nf(hT:TB0 T)(hF:TF T)(hW:TW T)(B:Bd g b cs v rs)(hz:-cs<=9)(hr:-rs<=900)(h:∀w g',Ex g g'->-g<=w->Wy g' w cs v rs->Q (.ref w) g'):b0 T (k+7) 121 [.ref b] g Q E:=by
 refine call_of hW.Cw rfl ?_;delta DP;let mI:=U4 cs v rs;generalize qE:y9 cs v rs=F at *;let#[w0,l0,dd,nb,f1,f2,f3,f4,f5]:=B.ex;let p2:=Dw hz;left;let e1:=Ex.snoc g (O.fb []);let w1:=b7 (g:=g) (o:=O.fb []);generalize g++[O.fb []]=g1 at *;refine A6 (a8 T _) (Qo ?_);show aV5 (k:=k) hT hF hW.sj (B.at e1) hz hr λL l g2 e2 hl h2 pw hL Ci=>?_;rw[qE] at hL;let lw:=n8 w1;let PQ:L.reverse.Pairwise (· > ·):=List.pairwise_reverse.mpr pw;let Bj:(b8 L).length=-L:=by simp[b8]
 refine#[l,_,rfl,a7 h2,(b8 L).reverse,λi Z g'=>Ex g g'/\g'[l]?=!.lst (b8 L)/\(∃kvs,g'[(-g)]?=!.fb kvs/\-kvs<=i/\∀s∈L.reverse.take i,v8 kvs (kN s)=!(.int ((p6 (-cs) F s).length:Nat)))/\∃z2,Z=[!.ref b,!.ref (-g),z2],λi Z g' q=>ZU (a7 q.2.1),#[e1.trans e2,h2,#[[],e2.at w1,by simp,by simp],none,rfl],λi x Z g' hx q=>?_,λZ g' q=>?_]
 .let#[e3,h3,#[kvs,w3,hk,we],z2,rfl]:=q;rw[b8,<- List.map_reverse,aj,ae] at hx;let#[s,hs,rfl]:=hx;let HU:i< -L:=by have:=(av.mp hs).1;simpa using this
  let HH:lE F s:=(hL s).mp (mS.mp (aB hs));let qv:=HH.lt mI;let tk:L.reverse.take (i+1)=L.reverse.take i++[s]:=by rw[bz,hs];rfl
  let fin:∀(N:Ends) g4 z2,Ex g' g4->(∀g5,(Ex g g5/\g5[l]?=!.lst (b8 L)/\(∃kvs,g5[(-g)]?=!.fb kvs/\-kvs<=i+1/\∀s∈L.reverse.take (i+1),v8 kvs (kN s)=!(.int ((p6 (-cs) F s).length:Nat)))/\∃z2,([!.ref b,!.ref (-g),z2]:S)=[!.ref b,!.ref (-g),z2])->N.nx [!.ref b,!.ref (-g),z2] g5)->Y5 (.ref (-g)) (.int (s:Nat)) (.int ((p6 (-cs) F s).length:Nat)) g4 λg5=>N.nx [!.ref b,!.ref (-g),z2] g5:=λN g4 z2 e4 hN=>by
   refine JH (e4.at w3) rfl () ?_;refine hN _ #[#[by simp;exact(e3.trans e4).len,λj hj=>by rw[ax ()];exact(e3.trans e4).old j hj],d0 (e4.at h3) (),#[_,get_set (e4.at w3),aG WQ (),λs' HJ=>?_],z2,rfl];rw[tk] at HJ;by_cases Bt:s'=s
   .subst Bt;exact WM
   .refine(a41 (Yg (bI Bt))).trans (we s' ?_);rcases aW.mp HJ with z|z
    .exact z
    .exact absurd (bp.mp z) Bt
  refine i9 ?_;show w5 (e3.at f1) rfl ?_;left;let ed:decide (((s:Nat):Int)=((2 ^ (-cs)-1:Nat):Int))=decide (s=2 ^ (-cs)-1):=fW.mpr ();rw[ed];refine if2 (λc1=>?_) (λc1=>?_)
  .left;let e1:(1:Int)=((p6 (-cs) F s).length:Nat):=by rw[EM c1];rfl
   rw[e1];exact fin _ _ _ (Ex.refl _) λg5 z=>#[z.1,z.2.1,z.2.2.1,_,rfl]
  .show a96 (a8 T _) (my (a8 T _) ?_);show V8 (k:=k+1) hT hF (B.at e3) hz hr qv λg4 fl e4 QY h4=>?_;rw[qE] at h4;refine#[fl,_,rfl,a7 h4,b8 (F s),λZ=>∃z2 z3,Z=[!.int (s:Nat),!.ref (-g),z2,z3],λi=>.int ((p6 (-cs) F (s |||2 ^ ((F s).getD i 0))).length:Nat),λg' e=>s9 (a7 (e.at h4)),?_,#[none,none,rfl],λj d Z g5 hx e5 sh=>?_,λg5 e5=>?_]
   .have:(F s).length<=-cs:=by rw[<- qE];exact P9
    simp[b8];omega
   .let#[z2,z3,rfl]:=sh;rw[b8,aj,ae] at hx;let#[p,hp,rfl]:=hx;let qx:=aB hp;let qw:=mI _ _ qx;refine i9 ?_;show B7 (k:=k+5) hT.pQ () ?_;let hv:v8 kvs (kN (s |||2 ^ p))=!(.int ((p6 (-cs) F (s |||2 ^ p)).length:Nat)):=by
     refine we _ (aX1 PQ hs (mS.mpr ((hL _).mpr (.step HH qx))) (Ai qw.2))
    refine xT ((e4.trans e5).at w3) rfl hv ?_;exact#[by simp[List.getD,hp],e5,_,_,rfl]
   .let el:(List.range (b8 (F s)).length).map (λi=>D.int ((p6 (-cs) F (s |||2 ^ ((F s).getD i 0))).length:Nat))=(((F s).map λp=>(p6 (-cs) F (s |||2 ^ p)).length).map λ(n:Nat)=>(n:Int)).map D.int:=by
     refine cK λi=>?_;rw[aj,aj,aj,aj];by_cases hi:i<(F s).length
     .rw[cM (by simpa[b8] using hi),ag hi];simp[List.getD,hi]
     .rw[aT (by simpa[b8] using hi),aT ()]
      rfl
    rw[el];refine JL (a7 b7) ?_;let es:(((F s).map λp=>(p6 (-cs) F (s |||2 ^ p)).length).map λ(n:Nat)=>(n:Int)).sum=((p6 (-cs) F s).length:Nat):=by
     rw[Vx mI qv c1];generalize (F s).map (λp=>(p6 (-cs) F (s |||2 ^ p)).length)=m
     induction m with
     |nil=>rfl
     |cons x r ih=>simp[ih]
    rw[es];left;exact fin _ _ _ (e4.trans (e5.trans (Ex.snoc _ _))) λg6 z=>#[z.1,z.2.1,z.2.2.1,_,rfl]
 .let#[e3,h3,#[kvs,w3,hk,we],z2,rfl]:=q;rw[List.length_reverse,Bj,dU #[_]] at we;show h _ _ e3 (aw _) #[#[kvs,w3,λs hs=>?_]];rw[qE] at hs ⊢;exact we s (mS.mpr ((hL s).mpr hs))
end
structure TN(T:Nat->Option aV):Prop where
 si:T 122=!zG
 Cv:T 123=!P5
section
variable{T:Nat->Option aV}{d:Nat}{w:Nat}
def aN0(hT:TB T)(hF:TF T)(hW:TW T)(sf:T 126=!zR)(ha:g[a]?=!.lst (cs.map a9.d))(hz:-cs<=9)(hg:cs.all x4=true)(hB:∀c∈cs,CB c)(hv:1<=v/\v<=9)(hc:g[c]?=!.lst (C0 rs))(hr:-rs<=900)(hR:rs.all (C7 cs)=true)(h:∀g',Ex g g'->Q (.int ((p6 (-cs) (y9 cs v rs) 0).length:Nat)) g'):b0 T (k+11) 126 [.ref a,.int v,.ref c] g Q E:=by
 refine call_of sf rfl ?_;delta zR;show Lu (k:=k) hT ha hz hg hB hv hc hr hR λg1 b e1 x B=>?_;show Nf (k:=k+3) hT hF hW B hz hr λw g2 e2 x W=>?_;left;let#[kvs,w1,w2]:=W.ex;exact xT w1 rfl (w2 0 .zero) (h _ (e1.trans e2))
def aU8(hT:TB0 T)(hF:TF T)(si:T 122=!zG)(B:Bd g b cs v rs)(W:Wy g w cs v rs)(hz:-cs<=9)(hr:-rs<=900){s:Nat}(hs:lE (y9 cs v rs) s)(dD:s≠2 ^ (-cs)-1)(hm:m<(p6 (-cs) (y9 cs v rs) s).length)(h:∀(p l:Nat) g',Ex g g'->p∈y9 cs v rs s->l<(p6 (-cs) (y9 cs v rs) (s |||2 ^ p)).length->(p6 (-cs) (y9 cs v rs) s)[m]?=((p6 (-cs) (y9 cs v rs) (s |||2 ^ p))[l]?).map (p::·)->Q (.tup [.int (p:Nat),.int (l:Nat)]) g'):b0 T (k+6) 122 [.ref b,.ref w,.int (s:Nat),.int (m:Nat)] g Q E:=by
 refine call_of si rfl ?_;delta zG;let mI:=U4 cs v rs;let qv:=hs.lt mI;let eo:=DU mI qv dD;show V8 (k:=k) hT hF B hz hr qv λg1 ch e1 x mG=>?_;generalize qE:y9 cs v rs=F at *;let#[kvs,w1,w2]:=W.ex;rw[qE] at w2;left;generalize Ic:(λp=>(p6 (-cs) F (s |||2 ^ p)).map (p::·))=f at *;let wV:∀p,(f p).length=(p6 (-cs) F (s |||2 ^ p)).length:=λp=>by rw[<- Ic];simp
 rw[eo] at hm;let PV:0<(F s).length:=by
  cases hl:F s with
  |nil=>rw[hl] at hm;simp at hm
  |cons _ _=>simp
 refine Nc (λmm Z g'=>Ex g1 g'/\∃j lf:Nat,Z=[!.ref b,!.ref w,!.int (s:Nat),!.int (m:Nat),!.ref ch,!.int (lf:Nat),!.int (j:Nat)]/\j<(F s).length/\mm=(F s).length-j/\m=(((F s).take j).flatMap f).length+lf/\lf<(((F s).drop j).flatMap f).length) _ #[Ex.refl _,0,m,rfl,PV,rfl,by simp,by simpa using hm] (λmm Z g' q=>?_) (a8 T _);let#[e2,j,lf,rfl,hj,rfl,nj,rO]:=q;let hx:=ag hj;generalize (F s)[j]=p at hx;let qx:=aB hx;let qw:=mI _ _ qx;let hv:v8 kvs (kN (s |||2 ^ p))=!(.int ((f p).length:Nat)):=by rw[wV];exact w2 _ (.step hs qx)
 let Ea:ia (b8 (F s)) (j:Int)=!.int (p:Nat):=A2 (by rw[b8,aj,hx];rfl);let sp:=aY7 (f:=f) hx lf;let sA:=e1.trans e2;show q9 (a7 (e2.at mG)) Ea ?_;show B7 (k:=k+4) hT.pQ () ?_;refine xT (sA.at w1) rfl hv ?_;left;by_cases hc:(f p).length<=lf
 .refine fV (aA ()) ?_;refine OC rfl ?_;show q9 (a7 (e2.at mG)) Ea ?_;show B7 (k:=k+4) hT.pQ () ?_;refine xT (sA.at w1) rfl hv ?_;refine ZT ?_;show OC rfl ?_;show ZO ?_;let tk:(F s).take (j+1)=(F s).take j++[p]:=by rw[bz,hx];rfl
  rw[sp.2,ba] at rO;let rP:j+1<(F s).length:=by
   rcases gI (j+1) (F s).length with z|z
   .exact z
   .rw[df z] at rO;simp at rO;omega
  refine#[_,?_,e2,j+1,lf-(f p).length,?_,rP,rfl,?_,by omega]
  .omega
  .let e1:((lf:Nat):Int)-((f p).length:Nat)=((lf-(f p).length:Nat):Int):=by omega
   let e2:((j:Nat):Int)+1=((j+1:Nat):Int):=by omega
   rw[e1,e2]
   rfl
  .rw[tk,GO,ba,eG,List.flatMap_nil,ft];omega
 .refine fF (aI ()) ?_;show q9 (a7 (e2.at mG)) Ea ?_;show h p lf g' sA qx (by rw[wV] at hc;omega) ?_;rw[eo,nj,sp.1,sp.2,aH (),<- Ic];simp
def aM7(hT:TB0 T)(hF:TF T)(hN:TN T)(B:Bd g b cs v rs)(W:Wy g w cs v rs)(hz:-cs<=9)(hr:-rs<=900){o:@&Nat}(hm:(p6 (-cs) (y9 cs v rs) 0)[m]?=!o)(h:∀l g',Ex g g'->-g<=l->g'[l]?=!.lst (b8 o)->Q (.ref l) g'):b0 T (k+7) 123 [.ref b,.ref w,.int (m:Nat)] g Q E:=by
 refine call_of hN.Cv rfl ?_;delta P5;let mI:=U4 cs v rs;let#[w0,l0,dd,nb,f1,f2,f3,f4,f5]:=B.ex;let p2:=Dw hz;left;let e1:=Ex.snoc g (O.lst []);let h1:=b7 (g:=g) (o:=O.lst []);refine Nc (λmm Z g'=>Ex g g'/\∃(s lf:Nat) (p:@&Nat) (z6:Option D),Z=[!.ref b,!.ref w,!.int (m:Nat),!.ref (-g),!.int (s:Nat),!.int (lf:Nat),z6]/\mm=2 ^ (-cs)-s/\lE (y9 cs v rs) s/\lf<(p6 (-cs) (y9 cs v rs) s).length/\some o=((p6 (-cs) (y9 cs v rs) s)[lf]?).map (p++·)/\g'[(-g)]?=!.lst (b8 p)/\-p<=s) _ #[e1,0,m,[],none,rfl,rfl,.zero,(av.mp hm).1,by rw[hm];rfl,h1,by simp] (λmm Z g' q=>?_) (a8 T _);let#[e2,s,lf,p,z6,rfl,rfl,hs,rO,ho,hp,gy]:=q;let qv:=hs.lt mI;show w5 (e2.at f1) rfl ?_;left;let ed:decide (((s:Nat):Int)=((2 ^ (-cs)-1:Nat):Int))=decide (s=2 ^ (-cs)-1):=fW.mpr ();rw[ed];by_cases dD:s=2 ^ (-cs)-1
 .refine fF (by rw[aA dD];rfl) ?_;left;rw[EM dD] at rO ho;have:lf=0:=by simp at rO;omega
  subst this;have:o=p:=by simpa using ho
  subst this;exact h _ _ e2 (aw _) hp
 .refine fV (by rw[aI dD];rfl) ?_;show aU8 (k:=k) hT hF hN.si (B.at e2) (W.at e2) hz hr hs dD rO λq l g3 e3 hq hl tT=>?_;refine E7 rfl ?_;let HK:=mI _ _ hq;let vU:=e3.at hp;show sT vU (by simp[b8];omega) ?_;show B7 (k:=k+5) hT.pQ () ?_;let HX:=Ai HK.2;let uj:=e2.trans e3;refine#[_,?_,#[by simp;exact uj.len,λi hi=>by rw[ax ()];exact uj.old i hi],s |||2 ^ q,l,p++[q],_,rfl,rfl,.step hs hq,hl,?_,?_,by simp;omega]
  .omega
  .rw[ho,tT];simp[Option.map_map,Function.comp_def]
  .rw[get_set vU];simp[b8]
end
abbrev lG(r:@&Nat):Nat:=r.foldl (λs p=>s |||2 ^ p) 0
def Xk(r:@&Nat)(p:Nat):lG (r++[p])=lG r |||2 ^ p:=by simp[lG,List.foldl_append]
def zN(r:@&Nat)(i:Nat):(lG r).testBit i=decide (i∈r):=by
 have:∀(r:@&Nat) (s:Nat),(r.foldl (λs p=>s |||2 ^ p) s).testBit i=(s.testBit i||decide (i∈r)):=by
  intro r
  induction r with
  |nil=>intro s;simp
  |cons p r ih =>
   intro s;rw[nO,ih,U7,Bool.or_assoc,aZ];simp
 rw[lG,this];simp
def bE6:∀{r:@&Nat},(∀i∈r,i<n)->lG r<2 ^ n:=λ{r} h=>by
 have:∀(r:@&Nat) (s:Nat),(∀i∈r,i<n)->s<2 ^ n->r.foldl (λs p=>s |||2 ^ p) s<2 ^ n:=by
  intro r
  induction r with
  |nil=>intro s _ hs;exact hs
  |cons p r ih=>intro s h hs;exact ih _ (λi hi=>h i (by simp[hi])) (xQ hs (h p #[_]))
 exact this r 0 h (Nat.two_pow_pos _)
abbrev M1(F:Nat->@&Nat):Nat->@&(@&Nat)
 |0=>[[]]
 |t+1=>(M1 F t).flatMap λr=>(F (lG r)).map λp=>r++[p]
def EO{n:Nat}{F:Nat->@&Nat}(hF:FG n F):∀{t:Nat} {r:@&Nat},r∈M1 F t->-r=t/\r.Nodup/\∀i∈r,i<n
 |0,r,h=>by
  cases bp.mp h;simp
 |t+1,r,h=>by
  let#[r0,h0,h1]:=List.mem_flatMap.mp h;let#[p,hp,rfl]:=aL.mp h1;let#[g1,g2,g3]:=EO hF h0;let qw:=hF _ _ hp;rw[zN] at qw;refine#[by simp[g1],?_,λi hi=>?_]
  .rw[cA];exact#[g2,by simp,λx hx y hy=>by cases bp.mp hy;exact λz=>(by simpa using qw.2:p∉r0) (z▸hx)]
  .rcases aW.mp hi with z|z
   .exact g3 i z
   .cases bp.mp z;exact qw.1
def Zv{r:@&Nat}(h:r.Nodup)(hl:-r=n)(hr:∀i∈r,i<n)(hi:i<n):i∈r:=by
 refine Decidable.byContradiction λhn=>?_;have:=xM (l:=i::r) (m:=List.range n) (du.mpr #[hn,h]) λx hx=>by
  rcases aJ.mp hx with rfl|hx
  .exact aR.mpr hi
  .exact aR.mpr (hr x hx)
 simp at this;omega
def NK{r:@&Nat}(h:r.Nodup)(hr:∀i∈r,i<n):lG r=2 ^ n-1↔(-r)=n:=by
 constructor
 .intro e;have:∀i,i<n->i∈r:=λi hi=>by
   have:=zN r i;rw[e,oO,aA hi] at this;exact bx this.symm
  let h1:=xM (l:=List.range n) (m:=r) mR λi hi=>this i (aR.mp hi);let h2:=xM (l:=r) (m:=List.range n) h λi hi=>aR.mpr (hr i hi);simp at h1 h2;omega
 .intro hl;refine Aw λi=>?_;rw[zN,oO];refine fW.mpr #[hr i,λhi=>Zv h hl hr hi]
def KN{n:Nat}{F:Nat->@&Nat}(hF:FG n F):∀{t:Nat},t<=n->(M1 F t).flatMap (λr=>(p6 n F (lG r)).map (r++·))=p6 n F 0
 |0,_=>by simp[M1,lG]
 |t+1,ht=>by
  rw[<- KN hF (show t<=n by omega),M1,List.flatMap_assoc];refine L4 λr hr=>?_;let#[g1,g2,g3]:=EO hF hr;let dD:lG r≠2 ^ n-1:=λz=>by have:=(NK g2 g3).mp z;omega
  rw[DU hF (bE6 g3) dD,List.map_flatMap,List.flatMap_map];refine L4 λp hp=>?_;rw[Xk,cF];refine gF λo x=>?_;simp
def NC{F:Nat->@&Nat}(hF:FG n F):M1 F n=p6 n F 0:=by
 rw[<- KN hF (aw n)];have:∀(l:@&(@&Nat)),(∀r∈l,r∈M1 F n)->l.flatMap (λr=>(p6 n F (lG r)).map (r++·))=l:=by
  intro l
  induction l with
  |nil=>intro _;rfl
  |cons r l ih =>
   intro h;let#[g1,g2,g3]:=EO hF (h r #[_]);rw[eG,ih λx hx=>h x (by simp[hx]),EM ((NK g2 g3).mpr g1)];simp
 exact(this _ λy h=>h).symm
def Mr{α β:Type}{f:α->List β}{m:Nat}:∀{l:List α},(∀x∈l,(f x).length<=m)->(l.flatMap f).length<=-l*m
 |[],_=>by simp
 |x::r,h=>by
  rw[eG,ba,List.length_cons,Nat.succ_mul];let h1:=h x #[_];let h2:=Mr (l:=r) λy hy=>h y (by simp[hy]);omega
def ND{n:Nat}{F:Nat->@&Nat}(hF:∀s,(F s).length<=n):∀t,(M1 F t).length<=n ^ t
 |0=>by simp[M1]
 |t+1=>by
  rw[M1,Nat.pow_succ];refine aG (Mr (m:=n) λr x=>by rw[au];exact hF _) ?_;exact Nat.mul_le_mul_right _ (ND hF t)
abbrev many(cs:@&a9)(v:Int)(rs:@&fP):Nat:=(p6 (-cs) (y9 cs v rs) 0).length
abbrev Y0:aV:=#[4,6,(.seq (.ifs (dR .NotEq (cW .len bw) (cW .len aF)) (.seq (.ret (bL .tup (ff "many") (cW .len bw))) .pass) .pass) (.seq (.eL (.one 4) (.fE (cW .len bw)) (.seq (.ifs (.dQ (.fC (.chain .LtE .Lt (bj 0) (cR bw cO) (cW .len aF)))) (.seq (.ret (bL .tup (ff "stranger") cO)) .pass) .pass) (.seq (.ifs (dR .In (cR bw cO) (bL (.ku false true) bw cO)) (.seq (.ret (bL .tup (ff "twice") cO)) .pass) .pass) .pass))) (.seq (.eL (.one 4) (.fE (cW .len bw)) (.seq (.set 5 (.call 108 (rg aF aX bf (bL (.ku false true) bw cO) (cR bw cO)))) (.seq (.ifs (dR .NotEq eK (ff "")) (.seq (.ret (bL .tup eK cO)) .pass) .pass) .pass))) (.seq (.ret (.lit .bg)) .pass))))]
def Mu{f:Nat->Option α}:(List.range (i+1)).findSome? f=none↔(List.range i).findSome? f=none/\f i=none:=by
 rw[gE,yt];cases (List.range i).findSome? f<;>simp
def FR{f:Nat->Option α}{r:α}(h:(List.range i).findSome? f=none)(hi:i<n)(hr:f i=!r):(List.range n).findSome? f=!r:=by
 let e:List.range n=List.range i++(List.range (n-i)).map (i+·):=by
  rw[<- List.range_add]
  congr 1
  omega
 obtain⟨m,hm⟩:∃m,n-i=m+1:=#[n-i-1,by omega]
 rw[e,yt,h,hm,iZ];simp[hr]
abbrev nW(n:Nat)(ns:@&Int)(i:Nat):Option (Str×Nat):=if 0<=ns.getD i 0/\ns.getD i 0<n then(if ns.getD i 0∈ns.take i then some ("twice",i) else none) else !("stranger",i)
abbrev M3(ns:@&Int)(i:Nat):@&Nat:=(ns.take i).map Int.toNat
abbrev qK(cs:@&a9)(v:Int)(rs:@&fP)(ns:@&Int)(i:Nat):Option (Str×Nat):=if fault cs v rs (gX (M3 ns i)) (ns.getD i 0).toNat="" then none else !(fault cs v rs (gX (M3 ns i)) (ns.getD i 0).toNat,i)
abbrev pairF:Option (Str×Nat)->D
 |some (w,i)=>.tup [.str w,.int i]
 |none=>.bg
abbrev zZ(cs:@&a9)(v:Int)(rs:@&fP)(ns:@&Int):Option (Str×Nat) :=
 if (-ns)=-cs then((List.range (-ns)).findSome? (nW (-cs) ns)).orElse λx=>(List.range (-ns)).findSome? (qK cs v rs ns) else !("many",(-ns))
def getD_at{x:Int}(h:ns[i]?=!x):ns.getD i 0=x:=by simp[List.getD,h]
set_option tactic.hygienic true in
def Fu(h:(List.range (-ns)).findSome? (nW n ns)=none)(hi:i< -ns):(0<=ns.getD i 0/\ns.getD i 0<n)/\ns.getD i 0∉ns.take i:=by
 have:=gR.mp h i (aR.mpr hi);unfold nW at this;split at this
 .rename_i h1;split at this
  .cases this
  .rename_i h2;exact#[h1,h2]
 .cases this
def Uy(h:(List.range (-ns)).findSome? (nW n ns)=none):∀j∈M3 ns i,j<n:=by
 intro j hj;let#[x,hx,rfl]:=aL.mp hj;let#[k,hk,rfl]:=bK.mp (gi hx);have:=(Fu h hk).1;rw[getD_at (ag hk)] at this;omega
def a46(h:(List.range (-ns)).findSome? (nW n ns)=none):(ns.take i).map D.int=b8 (M3 ns i):=by
 unfold b8 M3;rw[cF];refine gF λx hx=>?_;let#[k,hk,rfl]:=bK.mp (gi hx);have:=(Fu h hk).1;rw[getD_at (ag hk)] at this;change D.int ns[k]=D.int ((ns[k].toNat:Nat):Int);rw[kr this.1]
def Ua{l:@&Int}{x:Int}:(l.any λm=>m==x)=decide (x∈l):=by
 rw[aZ,aO,br];exact#[(by rintro ⟨y,hy,e⟩;exact (eO.mp e)▸hy),λhy=>#[x,hy,by simp]]
section
variable{T:Nat->Option aV}{d:Nat}
def aG7(hT:yc T)(so:T 109=!Y0)(hB:∀c∈cs,CB c)(ha:g[a]?=!.lst (cs.map a9.d))(hz:-cs<=9)(hc:g[c]?=!.lst (C0 rs))(hR:-rs<=900)(hr:g[r]?=!.lst (ns.map .int))(h:∀g',Ex g g'->Q (pairF (zZ cs v rs ns)) g'):b0 T (k+3) 109 [.ref a,.int v,.ref c,.ref r] g Q E:=by
 refine call_of so rfl ?_;delta Y0;left;rw[au,au];unfold zZ at h;by_cases hn:-ns=-cs
 .rw[ay hn] at h;let HC:-ns<=9:=by omega
  let DZ:∀{i:Nat},i< -ns->ia (ns.map D.int) (i:Int)=!.int (ns.getD i 0):=λ{i} hi=>A2 (by rw[aj,ag hi,getD_at (ag hi)];rfl);refine fF (by rw[aA ()];rfl) ?_;show A6 (a8 T _) (Z8 (a8 T _) ?_);show#[by omega,by simp;omega,j6 0 (-ns),λi Z g'=>Ex g g'/\(List.range i).findSome? (nW (-cs) ns)=none/\∃z4,Z=[!.ref a,!.int v,!.ref c,!.ref r,z4,none],λy y y y=>by simp only[List.length_map,Int.toNat_natCast];exact x3,#[Ex.refl _,rfl,none,rfl],λi x Z g' hx q=>?_,λZ g' q=>?_]
  .let#[e1,q,z4,rfl]:=q;let#[hi,rfl]:=C8 hx;rw[eU];refine i9 ?_
   try show wpS _ _ _ _ _ _
   show q9 (a7 (e1.at hr)) (DZ hi) ?_;left;let gy:nW (-cs) ns i=if 0<=ns.getD i 0/\ns.getD i 0< -cs then(if ns.getD i 0∈ns.take i then some (("twice":Str),i) else none) else !(("stranger":Str),i):=rfl
   let str:¬(0<=ns.getD i 0/\ns.getD i 0< -cs)->Q (.tup [.str "stranger",.int (i:Nat)]) g':=λhs=>by
    rw[FR q hi (show nW (-cs) ns i=some (("stranger":Str),i) by rw[gy,az hs])] at h;exact h _ e1
   refine if2 (λs1=>?_) (λs1=>?_)
   .show O3 (a7 (e1.at ha)) ?_;rw[au];left;by_cases s2:ns.getD i 0<(-cs:Nat)
    rotate_left
    .refine fV (by rw[aI s2];rfl) ?_;left;exact str λz=>s2 z.2
    refine fF (by rw[aA s2];rfl) ?_;show q9 (a7 (e1.at hr)) (DZ hi) ?_;show zy (a7 (e1.at hr)) ?_;rw[FP (by rw[au];omega),<- kF];refine oY (S1 (a7 b7) ?_);rw[Ua];show if2 (λht=>?_) (λht=>?_)
    .left;rw[FR q hi (show nW (-cs) ns i=some (("twice":Str),i) by rw[gy,ay #[s1,s2],ay ht])] at h;exact h _ (e1.trans (Ex.snoc _ _))
    .left;exact#[e1.trans (Ex.snoc _ _),Mu.mpr #[q,by rw[gy,ay #[s1,s2],az ht]],_,rfl]
   .left;exact str λz=>s1 z.1
  .let#[e1,hp,z4,rfl]:=q;rw[j8] at hp;rw[hp] at h
   try show wpS _ _ _ _ _ _
   show A6 (a8 T _) (Z8 (a8 T _) ?_);show O3 (a7 (e1.at hr)) ?_;refine#[_,rfl,by omega,by simp;omega,j6 0 (-ns),λi Z g'=>Ex g g'/\(List.range i).findSome? (qK cs v rs ns)=none/\∃z4 z5,Z=[!.ref a,!.int v,!.ref c,!.ref r,z4,z5],λy y y y=>by simp only[List.length_map,Int.toNat_natCast];exact x3,#[e1,rfl,_,_,rfl],λi x Z g' hx q=>?_,λZ g' q=>?_]
   .let#[e2,q,z4,z5,rfl]:=q;let#[hi,rfl]:=C8 hx;rw[eU];let kO:=Fu hp hi;let HX:(ns.getD i 0)=(((ns.getD i 0).toNat:Nat):Int):=by omega
    refine i9 ?_
    try show wpS _ _ _ _ _ _
    show zy (a7 (e2.at hr)) ?_;rw[FP (by rw[au];omega),<- kF,a46 hp];left;let e3:=e2.trans (Ex.snoc g' (O.lst (b8 (M3 ns i))));refine q9 (a7 (e3.at hr)) (DZ hi) ?_;left;rw[HX];refine a78 (k:=k) hT hB (e3.at ha) hz (e3.at hc) hR b7 (Uy hp) (by unfold M3;simp;omega) () λg4 e4=>?_;left;let HZ:qK cs v rs ns i=if fault cs v rs (gX (M3 ns i)) (ns.getD i 0).toNat="" then none else !(fault cs v rs (gX (M3 ns i)) (ns.getD i 0).toNat,i):=rfl
    generalize fault cs v rs (gX (M3 ns i)) (ns.getD i 0).toNat=fx at *;by_cases yN:fx=""
    .refine fF (by rw[aA yN];rfl) ?_;left;exact#[e3.trans e4,Mu.mpr #[q,by rw[HZ,ay yN]],_,_,rfl]
    .refine fV (by rw[aI yN];rfl) ?_;left;let h2:=FR q hi (show qK cs v rs ns i=some (fx,i) by rw[HZ,az yN]);rw[show(Option.none.orElse λ_:Unit=>(List.range (-ns)).findSome? (qK cs v rs ns))=some (fx,i) from h2] at h;exact h _ (e3.trans e4)
   .let#[e2,q,z4,z5,rfl]:=q;rw[j8] at q;rw[show(Option.none.orElse λ_:Unit=>(List.range (-ns)).findSome? (qK cs v rs ns))=none from q] at h
    try show wpS _ _ _ _ _ _
    left;exact h _ e2
 .rw[az hn] at h;refine fV (by rw[aI ()];rfl) ?_;left;rw[au];exact h _ (Ex.refl _)
end
structure Ask(g:G)(a c:Nat)(cs:@&a9)(v:Int)(rs:@&fP):Prop where
 ha:g[a]?=!.lst (cs.map a9.d)
 hz:-cs<=9
 hG:∀c∈cs,jv c
 hv:1<=v/\v<=9
 hc:g[c]?=!.lst (C0 rs)
 hr:-rs<=900
 hR:rs.all (C7 cs)=true
section
variable{T:Nat->Option aV}
def Ask.at(h:Ask g a c cs v rs)(e:Ex g g'):Ask g' a c cs v rs:=#[e.at h.ha,h.hz,h.hG,h.hv,e.at h.hc,h.hr,h.hR]
def Ask.hB(h:Ask g a c cs v rs):∀c∈cs,CB c:=λc hc=>#[(h.hG c hc).l8,(h.hG c hc).u8]
def Ask.good(h:Ask g a c cs v rs):cs.all x4=true:=bQ.mpr λc hc=>(h.hG c hc).good
def a01(hT:TB T)(A:Ask g a c cs v rs)(h:∀g' b,Ex g g'->-g<=b->Bd g' b cs v rs->Q (.ref b) g'):b0 T (k+10) 99 [.ref a,.int v,.ref c] g Q E:=Lu hT A.ha A.hz A.good A.hB A.hv A.hc A.hr A.hR h
end
def bE3(l:@&Nat):(lG l).testBit=gX l:=funext λi=>zN l i
def Em{F:Nat->@&Nat}:∀{t:Nat} {r:@&Nat},r∈M1 F t↔(-r)=t/\∀i p,r[i]?=!p->p∈F (lG (r.take i))
 |0,r=>by
  constructor
  .intro h;cases bp.mp h;exact#[rfl,λi p e=>by simp at e]
  .rintro⟨h,_⟩;cases List.length_eq_zero_iff.mp h;exact bp.mpr rfl
 |t+1,r=>by
  change r∈(M1 F t).flatMap (λr=>(F (lG r)).map λp=>r++[p])↔_;rw[List.mem_flatMap];constructor
  .rintro⟨r0,h0,h1⟩;let#[p,hp,rfl]:=aL.mp h1;let#[hl,hs]:=Em.mp h0;refine#[by simp[hl],λi q e=>?_];by_cases hi:i< -r0
   .rw[aH hi] at e;rw[List.take_append_of_le_length ()];exact hs i q e
   .let QU:i=-r0:=by
     have:=(av.mp e).1;simp at this;omega
    subst QU;rw[bE (aw _),Nat.sub_self] at e;cases e;rw[List.take_left' rfl];exact hp
  .rintro⟨hl,hs⟩;let ht:t< -r:=by omega
   refine#[r.take t,Em.mpr #[by simp;omega,λi p e=>?_],?_]
   .let hi:i<t:=by
     have:=(av.mp e).1;simp at this;omega
    rw[dC hi] at e;rw[List.take_take,jq ()];exact hs i p e
   .refine aL.mpr #[r[t],hs t _ (ag ht),?_];let e:=bz (l:=r) (i:=t);rw[ag ht,dU ()] at e;exact e.symm
structure mQ(cs:@&a9)(v:Int)(rs:@&fP)(o:@&Nat):Prop where
 len:-o=-cs
 st:∀i p,o[i]?=!p->p< -cs/\p∉o.take i/\fault cs v rs (gX (o.take i)) p=""
def Nv{l:@&Nat}:p∈y9 cs v rs (lG l)↔p< -cs/\p∉l/\fault cs v rs (gX l) p="":=by
 unfold y9 Z9;rw[bt,aR,bE3,aU,br,lQ,aP]
def Wi{o:@&Nat}:o∈p6 (-cs) (y9 cs v rs) 0↔mQ cs v rs o:=by
 rw[<- NC (U4 cs v rs),Em];exact#[λh=>#[h.1,λi p e=>Nv.mp (h.2 i p e)],λh=>#[h.len,λi p e=>Nv.mpr (h.st i p e)]]
def ZL{S:Nat->Bool}:fault cs v rs S p=""↔L0 cs S p=false/\J8 cs S p=false/\(qg cs S p:Int)<=v/\X4 cs rs S p=true:=by
 unfold fault;cases L0 cs S p
 .cases J8 cs S p
  .rw[az ∅,az ∅];by_cases h:v<qg cs S p
   .rw[ay h];exact#[λz=>absurd z ∅,λz=>absurd z.2.2.1 ()]
   .rw[az h];cases X4 cs rs S p
    .exact#[λz=>absurd z ∅,λz=>absurd z.2.2.2 ∅]
    .exact#[λx=>#[rfl,rfl,by omega,rfl],λx=>rfl]
  .rw[az ∅,ay rfl];exact#[λz=>absurd z ∅,λz=>absurd z.2.1 ∅]
 .rw[ay rfl];exact#[λz=>absurd z ∅,λz=>absurd z.1 ∅]
def JY{f:Nat->Bool}:(List.range n).any f=false↔∀i,i<n->f i=false:=by
 rw[iC];exact#[λh i hi=>Bool.eq_false_iff.mpr (h i (aR.mpr hi)),λh i hi=>Bool.eq_false_iff.mp (h i (aR.mp hi))]
def JZ{f:Nat->Bool}:(List.range n).any f=true↔∃i,i<n/\f i=true:=by
 rw[aO];exact#[(by rintro ⟨i,h,e⟩;exact #[i,aR.mp h,e]),(by rintro ⟨i,h,e⟩;exact #[i,aR.mpr h,e])]
def Fo{α:Type}[DecidableEq α]:∀{l m:List α},l.Nodup->(∀x∈l,x∈m)->-l<=-m
 |[],m,_,_=>cH _
 |x::l,m,nd,h=>by
  let#[h1,h2]:=du.mp nd;let hx:=h x #[_];have:=Fo (m:=m.erase x) h2 λy hy=>(jT λz=>h1 (by rw[<- z];exact hy)).mpr (h y (by simp[hy]));rw[qY hx] at this;have:0< -m:=jb hx;simp only[List.length_cons];omega
def JT{S:Nat->Bool}{d:Int}:S5 cs S p d=true↔(∃i,i< -cs/\(S i=true\/i=p)/\(bV cs i).lo=d)/\∃i,i< -cs/\S i=false/\(bV cs i).lo=d:=by
 unfold S5;rw[aU,JZ,JZ];simp only[Bool.and_eq_true,Bool.or_eq_true,decide_eq_true_eq,Bool.not_eq_true']
def Ol(h:i< -cs):(bV cs i).lo∈cs.map a9.lo:=aL.mpr #[_,by rw[F3 (ag h)];exact cj h,rfl]
section
variable{o:@&Nat}
def mQ.none(h:mQ cs v rs o):zZ cs v rs (o.map λ(i:Nat)=>(i:Int))=none:=by
 let gD:∀i,i< -o->∃p,o[i]?=!p/\(o.map λ(i:Nat)=>(i:Int)).getD i 0=(p:Nat):=λi hi=>#[o[i],ag hi,getD_at (by rw[aj,ag hi];rfl)]
 unfold zZ;rw[ay (by rw[au,h.len])];let p1:(List.range (o.map λ(i:Nat)=>(i:Int)).length).findSome? (nW (-cs) (o.map λ(i:Nat)=>(i:Int)))=Option.none:=by
  rw[gR];intro i hi;rw[aR,au] at hi;let#[p,e1,e2]:=gD i hi;let#[h1,h2,_]:=h.st i p e1;unfold nW;rw[e2,ay #[by omega,by omega],az];rw[<- kF];intro z;let#[q,hq,e]:=aL.mp z;exact h2 ((by omega:q=p)▸hq)
 let p2:(List.range (o.map λ(i:Nat)=>(i:Int)).length).findSome? (qK cs v rs (o.map λ(i:Nat)=>(i:Int)))=Option.none:=by
  rw[gR];intro i hi;rw[aR,au] at hi;let#[p,e1,e2]:=gD i hi;let#[_,_,h3]:=h.st i p e1;unfold qK;have:M3 (o.map λ(i:Nat)=>(i:Int)) i=o.take i:=by
   unfold M3;rw[<- kF,cF];exact(gF λx x=>rfl).trans (List.map_id _)
  rw[e2,this,cZ,ay h3]
 rw[p1,p2]
 rfl
end
def Ng{a b:@&Int}:jL a b=true↔∀x∈a,x∈b:=by
 unfold jL;rw[bQ];refine forall_congr' λx=>#[λh hx=>?_,λh hx=>?_]
 .let#[y,hy,e]:=aO.mp (h hx);exact eO.mp e▸hy
 .exact aO.mpr #[x,h hx,by simp]
def xn:∀{ms:@&Int} {l:Int},gm l ms=true->ms.Pairwise (· < ·)/\∀m∈ms,l<=m/\m<=7
 |[],_,_=>by simp
 |x::r,l,h=>by
  simp only[gm,Bool.and_eq_true,decide_eq_true_eq] at h;let#[h1,h2]:=xn h.2;refine#[gP.mpr #[λy hy=>by have:=h2 y hy;omega,h1],λm hm=>?_];rcases aJ.mp hm with rfl|hm
  .exact h.1
  .have:=h2 m hm;omega
noncomputable abbrev qc(cs:@&a9)(o:@&Nat)(i:Nat):a9:=bV cs (o.getD i 0)
noncomputable abbrev iM(kvs:@&(List Key×D))(x:Str)(d:Int):Option D:=M5 kvs [.inr x,.inl d]
def Xx(kvs:@&(List Key×D))(k k':@&Key)(v:D):M5 (C1 kvs k v) k'=if k'=k then some v else M5 kvs k':=by
 unfold C1 M5;by_cases h:(kvs.any λkv=>decide (kv.1=k))=true
 .rw[ay h]
  induction kvs with
  |nil=>simp at h
  |cons a t ih =>
   by_cases hk:a.1=k
   .rw[bJ,ay hk];by_cases e:k'=k
    .rw[ay e,e,de (by simpa using hk)]
     rfl
    .rw[az e,bB (by rw[br];dsimp only;rw[hk];exact λz=>e z.symm),bB (by rw[br,hk];exact λz=>e z.symm)];clear h ih
     induction t with
     |nil=>rfl
     |cons b t ih =>
      rw[bJ];by_cases hb:b.1=k
      .rw[ay hb,bB (by rw[br];dsimp only;rw[hb];exact λz=>e z.symm),bB (by rw[br,hb];exact λz=>e z.symm)];exact ih
      .rw[az hb];by_cases hc:b.1=k'
       .rw[de (by simpa using hc),de (by simpa using hc)]
       .rw[bB (by simpa using hc),bB (by simpa using hc)];exact ih
   .let h':(t.any λkv=>decide (kv.1=k))=true:=by simpa[hk] using h
    rw[bJ,az hk];by_cases hc:a.1=k'
    .rw[de (by simpa using hc),de (by simpa using hc),az (by rw[<- hc];exact hk)]
    .rw[bB (by simpa using hc),bB (by simpa using hc)];exact ih h'
 .rw[az h,iA];by_cases e:k'=k
  .rw[ay e,e];have:(kvs.find? λkv=>decide (kv.1=k))=none:=by
    rw[gS];intro x hx z;exact h (aO.mpr #[x,hx,z])
   rw[this];simp
  .rw[az e,bB (by rw[br];exact λz=>e z.symm)];simp
def NA(kvs:@&(List Key×D))(k:@&Key)(v:D):(C1 kvs k v).length<=-kvs+1:=by
 unfold C1;split<;>simp
def z9{kvs:@&(List Key×D)}{y:Str}{d e:Int}{v:D}:iM (C1 kvs [.inr x,.inl d] v) y e=if y=x/\e=d then some v else iM kvs y e:=by
 unfold iM;rw[Xx];by_cases h:y=x/\e=d
 .rw[ay h,ay (by rw[h.1,h.2])]
 .rw[az h,az (λz=>h (by injection z with z1 z2;injection z1 with z1;injection z2 with z2;injection z2 with z2;exact#[z1,z2]))]
def bA6{x:@&Int}(h:1<=v/\v<=-w):gw (w++[x]) v=gw w v:=by
 unfold gw;rw[bG,bG,aH ()]
def VD{x:@&Int}:gw (w++[x]) (-w+1)=x:=by
 unfold gw;rw[bG,show((-w:Int)+1-1).toNat=-w by omega,bE (aw _)];simp
def Mg{l:@&Int}(h:1<=v/\v<=-w):gw (w.set (v-1).toNat l) v=l:=by
 unfold gw;rw[bG,aM ()]
 rfl
def Zz{l:@&Int}{u:Int}(hu:1<=u)(hv:1<=v)(h:u≠v):gw (w.set (v-1).toNat l) u=gw w u:=by
 unfold gw;rw[bG,bG,ax ()]
structure oI(F:Int->Option D)(w:@&(@&Int))(P:Int->@&Int->Prop):Prop where
 v:∀d z,F d=!z->∃v:Int,z=.int v/\(1<=v/\v<=-w)/\P d (gw w v)
 j:∀d e z,F d=!z->F e=!z->d=e
def oI.imp{F:Int->Option D}{P P':Int->@&Int->Prop}(h:oI F w P)(hp:∀d l,P d l->P' d l):oI F w P':=#[λd z hz=>let ⟨v,a,b,c⟩:=h.v d z hz;#[v,a,b,hp _ _ c],h.j]
def oI.new{F F':Int->Option D}{P:Int->@&Int->Prop}{d:Int}(h:oI F w P)(hd:F d=none)(hF:∀e,F' e=if e=d then some (.int (-w+1)) else F e):oI F' (w++[[]]) (λe l=>P e l\/(e=d/\l=[])):=by
 refine#[λe z hz=>?_,λe f z h1 h2=>?_]
 .rw[hF] at hz;by_cases c:e=d
  .rw[ay c] at hz;cases hz;exact#[_,rfl,#[by omega,by simp],.inr #[c,VD]]
  .rw[az c] at hz;let#[v,rfl,hv,hp]:=h.v e z hz;exact#[v,rfl,#[hv.1,by simp;omega],.inl (by rw[bA6 hv];exact hp)]
 .let big:∀e,F e≠!.int (-w+1):=λe z=>by
   let#[v,q,hv,_]:=h.v e _ z;cases q;omega
  rw[hF] at h1 h2;by_cases c1:e=d
  .by_cases c2:f=d
   .rw[c1,c2]
   .rw[ay c1] at h1;rw[az c2] at h2;cases h1;exact absurd h2 (big f)
  .by_cases c2:f=d
   .rw[az c1] at h1;rw[ay c2] at h2;cases h2;exact absurd h1 (big e)
   .rw[az c1] at h1;rw[az c2] at h2;exact h.j e f z h1 h2
def oI.mark{F:Int->Option D}{P:Int->@&Int->Prop}{d:Int}{l:@&Int}(h:oI F w P)(hd:F d=!.int v):oI F (w.set (v-1).toNat l) (λe m=>(e≠d/\P e m)\/(e=d/\m=l)):=by
 refine#[λe z hz=>?_,h.j];let#[u,rfl,hu,hp]:=h.v e z hz;let#[v',q,hv,_]:=h.v d _ hd;cases q;refine#[u,rfl,by rw[bN];exact hu,?_];by_cases c:e=d
 .subst c;rw[hd] at hz;cases hz;exact .inr #[rfl,Mg hv]
 .exact .inl #[c,by rw[Zz hu.1 hv.1 (λz=>c (h.j e d _ hz (by rw[hd,z])))];exact hp]
structure Iw(cs:@&a9)(o:@&Nat)(n b:Nat)(PL PU:Int->@&Int->Prop)(s:dO)(kvs:@&(List Key×D)):Prop where
 W:WS s
 bl:-s.bl=n
 lo:oI (iM kvs "lower") s.lo PL
 up:oI (iM kvs "upper") s.up PU
 bn:∀v,A4 s v=true↔∃d j,iM kvs "lower" d=!.int v/\b<=j/\j< -o/\(qc cs o j).lo=d
section
variable{o:@&Nat}{PL PU OK OJ:Int->@&Int->Prop}{s:dO}{kvs:@&(List Key×D)}{d:Int}
def Iw.imp(h:Iw cs o n b PL PU s kvs)(h1:∀d l,PL d l->OK d l)(h2:∀d l,PU d l->OJ d l):Iw cs o n b OK OJ s kvs:=#[h.W,h.bl,h.lo.imp h1,h.up.imp h2,h.bn]
def sR(W:WS s):A4 s v=true↔∃i:Nat,s.bl[i]?=!.int v:=L6 W.se
def Iw.b57(h:Iw cs o n b PL PU s kvs)(hd:iM kvs "lower" d=none)(hl:-s.lo<99)(hj:b< -o)(hq:(qc cs o b).lo=d)(hb:s.bl.any (iE .bg)=true) :
  (x6 (u7 s "lower").2.2 (-s.lo+1)).1=""/\Iw cs o n b (λe l=>PL e l\/(e=d/\l=[])) PU (x6 (u7 s "lower").2.2 (-s.lo+1)).2.2 (C1 kvs [.inr "lower",.inl d] (.int (-s.lo+1)))/\(x6 (u7 s "lower").2.2 (-s.lo+1)).2.2.lo=s.lo++[[]]/\(x6 (u7 s "lower").2.2 (-s.lo+1)).2.2.up=s.up/\(x6 (u7 s "lower").2.2 (-s.lo+1)).2.2.yr=s.yr/\(x6 (u7 s "lower").2.2 (-s.lo+1)).2.2.co=s.co:=by
 let e1:(u7 s "lower").2.2={ s with lo:=s.lo++[[]] }:=by
  unfold u7 dO.put;rw[ay (.inl rfl),A8,ay hl,ay rfl]
 let W1:=FK (x:="lower") h.W;let W2:=Zq (v:=-s.lo+1) W1;rw[e1] at W1 W2 ⊢;let nb:A4 { s with lo:=s.lo++[[]] } (-s.lo+1)=false:=by
  cases e:A4 { s with lo:=s.lo++[[]] } (-s.lo+1) with
  |false=>rfl
  |true =>
   let#[d',_,h1,_]:=(h.bn _).mp e;let#[v',q,h2,_]:=h.lo.v _ _ h1;cases q;omega
 let ng:K5 { s with lo:=s.lo++[[]] } (-s.lo+1)=false:=by
  cases e:K5 { s with lo:=s.lo++[[]] } (-s.lo+1) with
  |false=>rfl
  |true =>
   let#[i,hi]:=(L6 S0).mp e;rw[aj,ae] at hi;let#[a,h1,h2]:=hi;cases h2;have:=h.W.gb _ (aB h1);omega
 let e2:x6 { s with lo:=s.lo++[[]] } (-s.lo+1)=(("",.int (ig s.bl .bg),{ s with lo:=s.lo++[[]],bl:=s.bl.set (ig s.bl .bg) (.int (-s.lo+1)) }):Rs):=by
  unfold x6;rw[ay #[by omega,by simp],az (by rw[nb];decide),az (by rw[ng];decide),ay hb]
 rw[e2] at W2 ⊢;let#[_,hp,ep]:=R0 h.W.se (.inl rfl) hb;refine#[rfl,#[W2,by rw[bN];exact h.bl,?_,?_,λu=>?_],rfl,rfl,rfl,rfl]
 .refine h.lo.new hd λe=>?_;rw[z9];by_cases c:e=d
  .rw[ay c,ay #[rfl,c]]
  .rw[az c,az λz=>c z.2]
 .refine#[λe z hz=>h.up.v e z ?_,λe f z h1 h2=>h.up.j e f z ?_ ?_]
  .rwa [z9,az (λz=>by cases z.1)] at hz
  .rwa [z9,az (λz=>by cases z.1)] at h1
  .rwa [z9,az (λz=>by cases z.1)] at h2
 .let key:A4 { s with lo:=s.lo++[[]],bl:=s.bl.set (ig s.bl .bg) (.int (-s.lo+1)) } u=true↔u=-s.lo+1\/A4 s u=true:=by
   rw[sR W2,sR h.W];constructor
   .rintro⟨i,hi⟩;by_cases c:ig s.bl .bg=i
    .subst c;rw[aM hp] at hi;cases hi;exact .inl rfl
    .exact .inr #[i,by rwa [ax c] at hi]
   .rintro(rfl|⟨i,hi⟩)
    .exact#[_,aM hp]
    .let c:ig s.bl .bg≠i:=λz=>by
      rw[<- z,ep] at hi;cases hi
     exact#[i,by rw[ax c];exact hi]
  rw[key,h.bn];constructor
  .rintro(rfl|⟨e,j,h1,h2⟩)
   .exact#[d,b,by rw[z9,ay #[rfl,rfl]],aw _,hj,hq]
   .refine#[e,j,?_,h2];rw[z9,az λz=>?_]
    .exact h1
    .rw[z.2,hd] at h1;cases h1
  .rintro⟨e,j,h1,h2⟩;rw[z9] at h1;by_cases c:e=d
   .rw[ay #[rfl,c]] at h1;cases h1;exact .inl rfl
   .rw[az λz=>c z.2] at h1;exact .inr #[e,j,h1,h2]
def Iw.b56(h:Iw cs o n b PL PU s kvs)(hd:iM kvs "upper" d=none)(hl:-s.up<99) :
  (u7 s "upper").1=""/\(u7 s "upper").2.2={ s with up:=s.up++[[]] }/\Iw cs o n b PL (λe l=>PU e l\/(e=d/\l=[])) { s with up:=s.up++[[]] } (C1 kvs [.inr "upper",.inl d] (.int (-s.up+1))):=by
 let e1:u7 s "upper"=(("",.int (-s.up+1),{ s with up:=s.up++[[]] }):Rs):=by
  unfold u7 dO.put;rw[ay (.inr rfl),A7,ay hl,az ∅]
 let W1:=FK (x:="upper") h.W;rw[e1] at W1 ⊢;refine#[rfl,rfl,#[W1,h.bl,?_,?_,λu=>?_]]
 .refine#[λe z hz=>h.lo.v e z ?_,λe f z h1 h2=>h.lo.j e f z ?_ ?_]
  .rwa [z9,az (λz=>by cases z.1)] at hz
  .rwa [z9,az (λz=>by cases z.1)] at h1
  .rwa [z9,az (λz=>by cases z.1)] at h2
 .refine h.up.new hd λe=>?_;rw[z9];by_cases c:e=d
  .rw[ay c,ay #[rfl,c]]
  .rw[az c,az λz=>c z.2]
 .refine(h.bn u).trans ?_;constructor
  .rintro⟨e,j,h1,h2⟩;exact#[e,j,by rw[z9,az (λz=>by cases z.1)];exact h1,h2]
  .rintro⟨e,j,h1,h2⟩;rw[z9,az (λz=>by cases z.1)] at h1;exact#[e,j,h1,h2]
def Iw.markL{l:@&Int}(h:Iw cs o n b PL PU s kvs)(hd:iM kvs "lower" d=!.int v)(hm:Mk l):Iw cs o n b (λe m=>(e≠d/\PL e m)\/(e=d/\m=l)) PU { s with lo:=s.lo.set (v-1).toNat l } kvs:=by
 refine#[?_,h.bl,h.lo.mark hd,h.up,h.bn];refine#[h.W.se,h.W.di,h.W.dj,h.W.bn,h.W.gn,by simpa using h.W.gb,by simpa using h.W.ln,h.W.un,λm hq=>?_,h.W.um,h.W.y0,h.W.cn,h.W.cs];rcases cu hq with z|rfl
 .exact h.W.lm m z
 .exact hm
def Iw.Yo{l:@&Int}(h:Iw cs o n b PL PU s kvs)(hd:iM kvs "upper" d=!.int v)(hm:Mk l):Iw cs o n b PL (λe m=>(e≠d/\PU e m)\/(e=d/\m=l)) { s with up:=s.up.set (v-1).toNat l } kvs:=by
 refine#[?_,h.bl,h.lo,h.up.mark hd,h.bn];refine#[h.W.se,h.W.di,h.W.dj,h.W.bn,h.W.gn,h.W.gb,h.W.ln,by simpa using h.W.un,h.W.lm,λm hq=>?_,h.W.y0,h.W.cn,h.W.cs];rcases cu hq with z|rfl
 .exact h.W.um m z
 .exact hm
def Iw.off(h:Iw cs o n b PL PU s kvs)(hd:iM kvs "lower" d=!.int v)(hj:b< -o)(hq:(qc cs o b).lo=d)(hn:∀j,b<j->j< -o->(qc cs o j).lo≠d) :
  (E5 s v).1=""/\Iw cs o n (b+1) PL PU (E5 s v).2.2 kvs/\(E5 s v).2.2.lo=s.lo/\(E5 s v).2.2.up=s.up/\(E5 s v).2.2.yr=s.yr/\(E5 s v).2.2.co=s.co:=by
 let#[v',q,hv,_]:=h.lo.v _ _ hd;cases q;let hb:A4 s v=true:=(h.bn v).mpr #[d,b,hd,aw _,hj,hq];let W2:=Zr (v:=v) h.W;let e:E5 s v=(("",.int (ig s.bl (.int v)),{ s with bl:=s.bl.set (ig s.bl (.int v)) .bg,go:=s.go++[v] }):Rs):=by
  unfold E5;rw[ay hv,ay hb]
 rw[e] at W2 ⊢;let#[_,hp,ep]:=R0 h.W.se (.inr #[v,rfl]) hb;refine#[rfl,#[W2,by rw[bN];exact h.bl,h.lo,h.up,λu=>?_],rfl,rfl,rfl,rfl];let key:A4 { s with bl:=s.bl.set (ig s.bl (.int v)) .bg,go:=s.go++[v] } u=true↔u≠v/\A4 s u=true:=by
  rw[sR W2,sR h.W];constructor
  .rintro⟨i,hi⟩;by_cases c:ig s.bl (.int v)=i
   .subst c;rw[aM hp] at hi;cases hi
   .rw[ax c] at hi;refine#[λz=>c (h.W.di _ _ v ep (by rw[hi,z])),i,hi]
  .rintro⟨hu,i,hi⟩;let c:ig s.bl (.int v)≠i:=λz=>by
    rw[<- z,ep] at hi;cases hi;exact hu rfl
   exact#[i,by rw[ax c];exact hi]
 rw[key,h.bn];constructor
 .rintro⟨hu,e,j,h1,h2,h3,h4⟩;refine#[e,j,h1,?_,h3,h4];rcases OZ h2 with z|rfl
  .exact z
  .rw[hq] at h4;subst h4;rw[hd] at h1;cases h1;exact absurd rfl hu
 .rintro⟨e,j,h1,h2,h3,h4⟩;refine#[λz=>?_,e,j,h1,lM h2,h3,h4];subst z;have:=h.lo.j _ _ _ h1 hd;subst this;exact hn j h2 h3 h4
def Iw.J1(h:Iw cs o n b PL PU s kvs)(hq:(qc cs o b).lo=d)(h1:b<j)(h2:j< -o)(h3:(qc cs o j).lo=d):Iw cs o n (b+1) PL PU s kvs:=by
 refine#[h.W,h.bl,h.lo,h.up,λu=>(h.bn u).trans ?_];constructor
 .rintro⟨e,j',z1,z2,z3,z4⟩;rcases OZ z2 with z|rfl
  .exact#[e,j',z1,z,z3,z4]
  .exact#[e,j,z1,h1,h2,by rw[h3,<- hq];exact z4]
 .rintro⟨e,j',z1,z2,z3,z4⟩;exact#[e,j',z1,lM z2,z3,z4]
end
section
variable{o:@&Nat}
def Fv(h:o[i]?=!p):qc cs o i=bV cs p:=by
 unfold qc;rw[bG,h]
 rfl
def mQ.at_(ho:mQ cs v [] o)(hi:i< -o):∃p,o[i]?=!p/\p< -cs/\p∉o.take i/\qc cs o i=bV cs p/\L0 cs (gX (o.take i)) p=false/\J8 cs (gX (o.take i)) p=false/\(qg cs (gX (o.take i)) p:Int)<=v:=by
 let e:=ag hi;let#[h1,h2,h3]:=ho.st i _ e;let#[f1,f2,f3,_]:=ZL.mp h3;exact#[_,e,h1,h2,Fv e,f1,f2,f3]
def Nw(hj:j<i)(h:o[j]?=!p):p∈o.take i:=bR.mpr #[j,by rw[dC hj];exact h]
def mQ.Dx(ho:mQ cs v [] o)(hi:i< -o)(hj:j<i):((qc cs o j).lo=(qc cs o i).lo->∀x∈(qc cs o j).lm,x∈(qc cs o i).lm)/\((qc cs o j).up=(qc cs o i).up->∀x∈(qc cs o j).um,x∈(qc cs o i).um)/\(0<(qc cs o i).yr->(qc cs o j).yr<=(qc cs o i).yr):=by
 let#[p,e,hp,_,eq,w,l,_]:=ho.at_ hi;let#[q,e',hq,_,SU,_]:=ho.at_ (show j< -o by omega);let hS:gX (o.take i) q=true:=aA (Nw hj e');let w:=JY.mp w q hq;let l:=JY.mp l q hq;rw[hS,kI] at w l;rw[eq,SU];unfold mw at w;rw[AD,cC,cC,kS,kS,aP,aP] at w;refine#[λz=>?_,λz=>?_,λz=>?_]
 .exact Ng.mp (w.1.resolve_left λy=>y z)
 .exact Ng.mp (w.2.resolve_left λy=>y z)
 .unfold kZ at l;rw[cC,aP,aP] at l;have:=l.resolve_left λy=>y z;omega
def Iw.free{PU:Int->@&Int->Prop}{s:dO}{kvs:@&(List Key×D)}(h:Iw cs o n i (λd l=>∃j,j<i/\(qc cs o j).lo=d/\l=(qc cs o j).lm) PU s kvs)(ho:mQ cs v [] o)(hi:i< -o)(hv:v=n)(hd:iM kvs "lower" (qc cs o i).lo=none):s.bl.any (iE .bg)=true:=by
 cases hb:s.bl.any (iE .bg) with
 |true=>rfl
 |false =>
  let#[p,e,hp,QF,eq,_,_,hu]:=ho.at_ hi;let hs:∀j:Nat,j< -s.bl->∃w:Int,s.bl[j]?=!.int w:=λj hj=>by
   let ej:=ag hj;rcases h.W.se _ (aB ej) with z|⟨w,z⟩
   .have:=iC.mp hb _ (aB ej);rw[z] at this;exact absurd ((Q1 (.inl rfl) (.inl rfl)).mpr rfl) this
   .exact#[w,by rw[ej,z]]
  let' fw:D->Option Int:=λz=>match z with|.int w=>!w|_=>none
  let tO:∃vs:@&Int,s.bl=vs.map .int:=by
   refine#[s.bl.map λz=>(fw z).getD 0,?_];rw[cF];refine cK λj=>?_;rw[aj];by_cases hj:j< -s.bl
   .let#[w,hw]:=hs j hj;rw[hw]
    rfl
   .rw[aT ()]
    rfl
  let#[vs,tO]:=tO;let nd:vs.Nodup:=by
   refine ib.mpr λa b ha hb ki z=>?_;let ea:s.bl[a]?=!.int vs[a]:=by rw[tO,aj,ag ha];rfl
   let eb:s.bl[b]?=!.int vs[a]:=by rw[tO,aj,ag hb,z];rfl
   have:=h.W.di _ _ _ ea eb;omega
  let hm:∀w∈vs,w∈((((o8 (cs.map a9.lo)).filter (S5 cs (gX (o.take i)) p)).erase (qc cs o i).lo).filterMap λd=>(iM kvs "lower" d).bind fw):=λw hw=>by
   let kO:A4 s w=true:=(sR h.W).mpr (by
    let#[j,hj]:=bR.mp hw;exact #[j,by rw [tO,aj,hj];rfl])
   let#[d,j,h1,h2,h3,h4]:=(h.bn w).mp kO;let#[_,q,_,j',h5,h6,_]:=h.lo.v _ _ h1;cases q;refine fB.mpr #[d,?_,by rw[h1];rfl];let dD:d≠(qc cs o i).lo:=λz=>by
    rw[z,hd] at h1;cases h1
   refine(jT dD).mpr ?_;let#[p1,e1,tR,yS,q1,_]:=ho.at_ h3;let#[p2,e2,rK,nK,q2,_]:=ho.at_ (show j'< -o by omega);refine bt.mpr #[EL.mpr ?_,JT.mpr #[#[p2,rK,.inl (aA (Nw h5 e2)),by rw[<- q2];exact h6],p1,tR,aI λz=>?_,by rw[<- q1];exact h4]]
   .rw[<- h4,q1];exact Ol tR
   .refine yS ?_;have:o.take i=(o.take j).take i:=by rw[List.take_take,jq h2]
    rw[this] at z;exact gi z
  let l1:=Fo nd hm;let jj:(qc cs o i).lo∈(o8 (cs.map a9.lo)).filter (S5 cs (gX (o.take i)) p):=by
   rw[eq];exact bt.mpr #[EL.mpr (Ol hp),JT.mpr #[#[p,hp,.inr rfl,rfl],p,hp,aI QF,rfl]]
  let l2:=List.length_filterMap_le (λd=>(iM kvs "lower" d).bind fw) (((o8 (cs.map a9.lo)).filter (S5 cs (gX (o.take i)) p)).erase (qc cs o i).lo);rw[qY jj] at l2;let l3:0<((o8 (cs.map a9.lo)).filter (S5 cs (gX (o.take i)) p)).length:=jb jj;let l4:-vs=n:=by
   rw[<- h.bl,tO,au]
  unfold qg at hu;omega
end
def MF{l:@&Int}(h:-l<=1000):E6 g (n+1) (mk l) (mk l):=by
 refine .tup rfl (λi x y hx hy=>?_) (by rw[au];exact h);rw[hx] at hy;cases hy;let#[j,_,rfl]:=aL.mp (aB hx);exact .int _
def a77{c:D}(h:Ji c):E6 g 2 c c:=by
 let#[a,l,b,m,y,rfl,h1,h2]:=h;refine .tup rfl (λi x y hx hy=>?_) #[_];rw[hx] at hy;cases hy;have:=aB hx;simp only[List.mem_cons,List.mem_nil_iff,or_false] at this;rcases this with rfl|rfl|rfl|rfl|rfl
 .exact .int _
 .exact MF ()
 .exact .int _
 .exact MF ()
 .exact .int _
abbrev xK:aV:=#[4,4,(.seq (.ifs (.fC (.prim (.ql true) (gp bf bw aX))) (.seq (.mV aX bf bw (.cT "cut" [("Mint",54)] aF (dE bf))) (.seq (.ifs (dR .Eq bf (ff "lower")) (.seq (.expr (.cT "fix" [("Mint",55)] aF (dE (.prim .lS (gp aX bf bw))))) .pass) .pass) .pass)) .pass) (.seq (.ret (.prim .lS (gp aX bf bw))) .pass))]
abbrev DQ:aV:=#[4,5,(.seq (.eL (.one 4) (.fQ bw) (.seq (.ifs (dR .NotIn cO (.cT "marks" [("Mint",62)] aF (dP aX bf))) (.seq (.expr (.cT "mark" [("Mint",57)] aF (gp aX bf cO))) .pass) .pass) .pass)) .pass)]
abbrev R8:aV:=#[3,7,(.seq (.set 3 (.call 278 (nB aF aX (ff "lower") (cR bf (bj 0))))) (.seq (.set 4 (.call 278 (nB aF aX (ff "upper") (cR bf (bj 2))))) (.seq (.expr (.call 279 (nB aF (ff "lower") bw (cR bf (bj 1))))) (.seq (.expr (.call 279 (nB aF (ff "upper") cO (cR bf (bj 3))))) (.seq (.ifs (dR .Gt (cR bf (bj 4)) (.cT "year" [("Mint",64)] aF .nil)) (.seq (.expr (.cT "begin_year" [("Mint",59)] aF (dE (cR bf (bj 4))))) .pass) .pass) (.seq (.set 5 (.cT "coin" [("Mint",66)] aF (dE (.cT "strike" [("Mint",58)] aF (dP bw cO))))) (.seq (.set 6 (.ite (dR .Gt (cR bf (bj 4)) (bj 0)) (cR bf (bj 4)) (.cT "year" [("Mint",64)] aF .nil))) (.seq (.ret (.call 7 (dP eK (.prim .tup (rg bw (cR bf (bj 1)) cO (cR bf (bj 3)) fo))))) .pass))))))))]
abbrev Ei:aV:=#[3,7,(.seq (.set 3 (.make "Mint" 51 (dE aX))) (.seq (.set 4 (.prim .V9 .nil)) (.seq (.eL (.one 5) (.fE (cW .len bf)) (.seq (.set 6 (cR aF (cR bf eK))) (.seq (.ifs (.dQ (.fC (.call 280 (gp bw cO fo)))) (.seq (.ret (.lit (.bl false))) .pass) .pass) (.seq (.ifs (dR .NotIn (cR fo (bj 0)) (.comp [0] 3 (.one 2) (.fQ (bL (.ku true false) bf (bL (.bin .Add) eK (bj 1)))) .no (cR (cR aF bf) (bj 0)))) (.seq (.expr (.cT "lay_off" [("Mint",56)] bw (dE (.prim .lS (gp cO (ff "lower") (cR fo (bj 0))))))) .pass) .pass) .pass)))) (.seq (.ret (.dF (bL (.cmp .Eq) (.cT "struck" [("Mint",65)] bw .nil) (cW .len aF)) (bL (.cmp .Eq) (.cT "anvils" [("Mint",60)] bw .nil) (bL (.bin .Mult) (cW .lst (.lit .bg)) aX)))) .pass))))]
structure qi(T:Nat->Option aV):Prop where
 tq:TQ T
 h6:T 6=!xV
 h7:T 7=!J7
 rY:T 278=!xK
 Cr:T 279=!DQ
 Cq:T 280=!R8
 Cp:T 281=!Ei
structure jn(m nd:Nat)(g g':G):Prop where
 len:-g<=-g'
 old:∀i o,i≠m->i≠nd->g[i]?=!o->g'[i]?=!o
section
variable{g1 g2:G}
def jn.refl:jn m nd g g:=#[aw _,λx x x x h=>h]
def jn.trans(a:jn m nd g g1)(b:jn m nd g1 g2):jn m nd g g2:=#[aG a.len b.len,λi o h1 h2 h=>b.old i o h1 h2 (a.old i o h1 h2 h)]
def Ex.f2(e:Ex g g1):jn m nd g g1:=#[e.len,λi o x x h=>e.at h]
def sO:jn m nd g (g.set m o):=#[by rw[bN];exact aw _,λi x h1 x h=>by rw[ax (bI h1)];exact h]
def Kf:jn m nd g (g.set nd o):=#[by rw[bN];exact aw _,λi x x h1 h=>by rw[ax (bI h1)];exact h]
end
def WO{s:dO}(hx:K9 x):(s.put x w).side x=w:=by
 rcases hx with rfl|rfl
 .unfold dO.put;rw[ay rfl,A8]
 .unfold dO.put;rw[az ∅,A7]
def UH{s:dO}{w':@&(@&Int)}:(s.put x w).put x w'=s.put x w':=by
 unfold dO.put;split<;>rfl
def WN{s:dO}:s.put x (s.side x)=s:=by
 unfold dO.put dO.side;split<;>rfl
def UZ(h:1<=v/\v<=-w):w.set (v-1).toNat (gw w v)=w:=by
 refine cK λi=>?_;by_cases c:(v-1).toNat=i
 .subst c;rw[aM (),(xI h).1]
 .rw[ax c]
def Zs{s:dO}{l:@&Int}(W:WS s)(hx:K9 x)(hl:Mk l):WS (s.put x ((s.side x).set (v-1).toNat l)):=by
 rcases hx with rfl|rfl
 .unfold dO.put;rw[ay rfl,A8];refine#[W.se,W.di,W.dj,W.bn,W.gn,by simpa using W.gb,by simpa using W.ln,W.un,λm h=>?_,W.um,W.y0,W.cn,W.cs];rcases cu h with h|rfl
  .exact W.lm m h
  .exact hl
 .unfold dO.put;rw[az ∅,A7];refine#[W.se,W.di,W.dj,W.bn,W.gn,W.gb,W.ln,by simpa using W.un,W.lm,λm h=>?_,W.y0,W.cn,W.cs];rcases cu h with h|rfl
  .exact W.um m h
  .exact hl
def bI1{s:dO}:K5 (s.put x w) v=K5 s v:=by
 unfold dO.put;split<;>rfl
def UM{a b:@&Int}(ha:a.Pairwise (· < ·))(hb:b.Pairwise (· < ·))(h:∀x,x∈a↔x∈b):a=b :=
 X2 ((bX (ha.imp λz=>lP z) (hb.imp λz=>lP z)).mpr h) (ha.imp λz=>uT z) (hb.imp λz=>uT z)
section
variable{T:Nat->Option aV}{s:dO}{kvs:@&(List Key×D)}{d:Int}
def Oa(hT:qi T){z:D}(hn:g[nd]?=!.fO kvs)(hv:iM kvs x d=!z)(h:Q z g):b0 T (k+1) 278 [.ref m,.ref nd,.str x,.int d] g Q E:=by
 refine call_of hT.rY rfl ?_;delta xK;show DA hn rfl rfl ?_;rw[show M5 kvs [.inr x,.inl d]=some z from hv];show fF rfl ?_;show xt hn rfl rfl hv ?_;left;exact h
def VO(hT:qi T)(hm:g[m]?=!d6 s)(hn:g[nd]?=!.fO kvs)(W:WS s)(kl:-kvs<1000)(hv:iM kvs "upper" d=none)(hl:-s.up<99)(h:∀g',jn m nd g g'->g'[m]?=!(d6 { s with up:=s.up++[[]] })->g'[nd]?=!(.fO (C1 kvs [.inr "upper",.inl d] (.int (-s.up+1))))->Q (.int (-s.up+1)) g'):b0 T (k+6) 278 [.ref m,.ref nd,.str "upper",.int d] g Q E:=by
 let e1:u7 s "upper"=(("",.int (-s.up+1),{ s with up:=s.up++[[]] }):Rs):=by
  unfold u7 dO.put;rw[ay (.inr rfl),A7,ay hl,az ∅]
 let dD:m≠nd:=λz=>by rw[z,hn] at hm;cases hm
 refine call_of hT.rY rfl ?_;delta xK;show DA hn rfl rfl ?_;rw[show M5 kvs [.inr "upper",.inl d]=none from hv];show fV rfl ?_;show OE ?_;show m8 hm rfl rfl ?_;show Mj (k:=k+2) hT.tq hm W #[] (λx=>?_) (λz=>absurd (by rw[e1]) z);rw[e1];dsimp only;let f1:jn m nd g (g.set m (d6 { s with up:=s.up++[[]] })):=sO;let m1:=get_set (o':=d6 { s with up:=s.up++[[]] }) hm;let n1:=d0 (o':=d6 { s with up:=s.up++[[]] }) hn dD;generalize g.set m _=g1 at *;show JP n1 rfl rfl () ?_;let f2:=f1.trans (Kf (m:=m) (nd:=nd) (g:=g1) (o:=.fO (C1 kvs [.inr "upper",.inl d] (.int (-s.up+1)))));let m2:=d0 (o':=O.fO (C1 kvs [.inr "upper",.inl d] (.int (-s.up+1)))) m1 (bI dD);let n2:=get_set (o':=O.fO (C1 kvs [.inr "upper",.inl d] (.int (-s.up+1)))) n1;generalize g1.set nd _=g2 at *;show fF ∅ ?_;show xt n2 rfl rfl (show iM _ "upper" d=_ from by rw[z9,ay #[rfl,rfl]]) ?_;left;exact h g2 f2 m2 n2
def VN(hT:qi T)(hm:g[m]?=!d6 s)(hn:g[nd]?=!.fO kvs)(W:WS s)(kl:-kvs<1000)(hv:iM kvs "lower" d=none)(hl:-s.lo<99)(hf:(x6 (u7 s "lower").2.2 (-s.lo+1)).1="")(h:∀g',jn m nd g g'->g'[m]?=!(d6 (x6 (u7 s "lower").2.2 (-s.lo+1)).2.2)->g'[nd]?=!(.fO (C1 kvs [.inr "lower",.inl d] (.int (-s.lo+1))))->Q (.int (-s.lo+1)) g'):b0 T (k+6) 278 [.ref m,.ref nd,.str "lower",.int d] g Q E:=by
 let e1:(u7 s "lower").1=""/\(u7 s "lower").2.1=.int (-s.lo+1):=by
  unfold u7 dO.put;rw[ay (.inl rfl),A8,ay hl];exact#[rfl,rfl]
 let dD:m≠nd:=λz=>by rw[z,hn] at hm;cases hm
 refine call_of hT.rY rfl ?_;delta xK;show DA hn rfl rfl ?_;rw[show M5 kvs [.inr "lower",.inl d]=none from hv];show fV rfl ?_;show OE ?_;show m8 hm rfl rfl ?_;show Mj (k:=k+2) hT.tq hm W #[] (λy=>?_) (λz=>absurd e1.1 z);rw[e1.2];let W1:=FK (x:="lower") W;generalize (u7 s "lower").2.2=s1 at *;let f1:jn m nd g (g.set m (d6 s1)):=sO;let m1:=get_set (o':=d6 s1) hm;let n1:=d0 (o':=d6 s1) hn dD;generalize g.set m _=g1 at *;show JP n1 rfl rfl () ?_;let f2:=f1.trans (Kf (m:=m) (nd:=nd) (g:=g1) (o:=.fO (C1 kvs [.inr "lower",.inl d] (.int (-s.lo+1)))));let m2:=d0 (o':=O.fO (C1 kvs [.inr "lower",.inl d] (.int (-s.lo+1)))) m1 (bI dD);let n2:=get_set (o':=O.fO (C1 kvs [.inr "lower",.inl d] (.int (-s.lo+1)))) n1;generalize g1.set nd _=g2 at *;let hk:iM (C1 kvs [.inr "lower",.inl d] (.int (-s.lo+1))) "lower" d=!.int (-s.lo+1):=by rw[z9,ay #[rfl,rfl]]
 show fV ∅ ?_;show m8 m2 rfl rfl ?_;show xt n2 rfl rfl hk ?_;show Tu (k:=k) hT.tq m2 W1 (λy=>?_) (λz=>absurd hf z);let f3:=f2.trans (sO (m:=m) (nd:=nd) (g:=g2) (o:=d6 (x6 s1 (-s.lo+1)).2.2));let m3:=get_set (o':=d6 (x6 s1 (-s.lo+1)).2.2) m2;let n3:=d0 (o':=d6 (x6 s1 (-s.lo+1)).2.2) n2 dD;generalize g2.set m _=g3 at *;show xt n3 rfl rfl hk ?_;left;exact h g3 f3 m3 n3
def KY(hT:qi T)(hm:g[m]?=!d6 s)(W:WS s)(hx:K9 x)(ho:PyData.strOk x=true)(hv:1<=v/\v<=(s.side x).length)(hg:x="lower"->K5 s v=false)(h0:(gw (s.side x) v).Pairwise (· < ·))(hs:∀j∈gw (s.side x) v,j∈ms)(hp:ms.Pairwise (· < ·))(nJ:∀j∈ms,ST.Spot j)(hl:-ms<=8)(h:∀g',jn m nd g g'->(∀i,i≠m->∀o,g[i]?=!o->g'[i]?=!o)->g'[m]?=!(d6 (s.put x ((s.side x).set (v-1).toNat ms)))->Q .bg g'):b0 T (k+6) 279 [.ref m,.str x,.int v,mk ms] g Q E:=by
 refine call_of hT.Cr rfl ?_;delta DQ;show A6 (a8 T _) (tL (a8 T _) ?_);show#[_,rfl,_,λi Z g'=>∃(l:@&Int) (z:Option D),Z=[!.ref m,!.str x,!.int v,!mk ms,z]/\jn m m g g'/\g'[m]?=!(d6 (s.put x ((s.side x).set (v-1).toNat l)))/\l.Pairwise (· < ·)/\(∀j∈l,j∈ms)/\∀j∈ms.take i,j∈l,λu u u u=>x3,#[gw (s.side x) v,none,rfl,jn.refl,by rw[UZ hv,WN];exact hm,h0,hs,by simp],λi y Z g' hy p=>?_,λZ g' p=>?_]
 .let#[l,z,rfl,f,ou,p1,p2,p3]:=p;rw[aj,ae] at hy;let#[j,hj,rfl]:=hy;let wm:=aB hj;let ml:Mk l:=#[λa ha=>nJ a (p2 a ha),aG (Fo (p1.imp λz=>lP z) p2) hl]
  let W1:=Zs (v:=v) W hx ml;let e1:=WO (s:=s) (w:=(s.side x).set (v-1).toNat l) hx;let HE:1<=v/\v<=((s.put x ((s.side x).set (v-1).toNat l)).side x).length:=by rw[e1,bN];exact hv
  let ea:gw ((s.put x ((s.side x).set (v-1).toNat l)).side x) v=l:=by rw[e1,Mg hv]
  let QX:¬(x="lower"/\K5 (s.put x ((s.side x).set (v-1).toNat l)) v=true):=λz=>by
   rw[bI1,hg z.1] at z;cases z.2
  let tk:∀a∈ms.take (i+1),a∈ms.take i\/a=j:=λa ha=>by
   rw[List.take_add_one,hj] at ha;rcases aW.mp ha with z|z
   .exact .inl z
   .exact .inr (by simpa using z)
  refine i9 ?_
  try show wpS _ _ _ _ _ _
  show m8 ou rfl rfl ?_;show X6 (k:=k+1) hT.tq ou ho (λu u=>?_) (λu z=>absurd HE z) (λz=>absurd hx z);rw[ea];refine T8 (DM (l:=l) rfl ?_);left;by_cases hq:j∈l
  .rw[aA hq];refine fF rfl ?_;show#[l,_,rfl,f,ou,p1,p2,λa ha=>?_];rcases tk a ha with z|rfl
   .exact p3 a z
   .exact hq
  .rw[aI hq];refine fV rfl ?_;show m8 ou rfl rfl ?_;left;let em:B0 (s.put x ((s.side x).set (v-1).toNat l)) x v j=(("",.bg,s.put x ((s.side x).set (v-1).toNat (markL l j))):Rs):=by
    unfold B0;rw[ay hx,ay HE,az QX,ay (show 0<=j/\j<=7 from#[(nJ j wm).1,by have:=(nJ j wm).2;omega]),ea,az hq,e1,UH,cV]
   refine Wh (k:=k) hT.tq ou W1 ho (λu g2 e2=>?_) (λz=>absurd (by rw[em]) z);rw[em];dsimp only;show#[markL l j,_,rfl,(f.trans e2.f2).trans sO,get_set (e2.at ou),KJ.sublist gG,λa ha=>?_,λa ha=>?_]
   .rcases(EK ml.1 (nJ j wm)).mp ha with rfl|z
    .exact wm
    .exact p2 a z
   .refine(EK ml.1 (nJ j wm)).mpr ?_;rcases tk a ha with z|rfl
    .exact .inr (p3 a z)
    .exact .inl rfl
 .let#[l,z,rfl,f,ou,p1,p2,p3]:=p;rw[au,bP] at p3;have:=UM p1 hp λa=>#[p2 a,p3 a]
  subst this
  try show wpS _ _ _ _ _ _
  left;exact h g' #[f.len,λi o h1 u=>f.old i o h1 h1] (λi h1 o=>f.old i o h1 h1) ou
end
noncomputable abbrev zl(c:a9):D:=.tup [.int c.lo,mk c.lm,.int c.up,mk c.um,.int c.yr]
noncomputable abbrev Gz(cs:@&a9)(o:@&Nat)(i:Nat):Int->@&Int->Prop:=λd l=>∃j,j<i/\(qc cs o j).lo=d/\l=(qc cs o j).lm
noncomputable abbrev yg(cs:@&a9)(o:@&Nat)(i:Nat):Int->@&Int->Prop:=λd l=>∃j,j<i/\(qc cs o j).up=d/\l=(qc cs o j).um
structure Iv(cs:@&a9)(o:@&Nat)(n i b:Nat)(s:dO)(kvs:@&(List Key×D)):Prop where
 w:Iw cs o n b (Gz cs o i) (yg cs o i) s kvs
 co:-s.co=i
 ll:-s.lo<=i
 ul:-s.up<=i
 kl:-kvs<=2*i
 yr:s.yr=0\/∃j,j<i/\(qc cs o j).yr=s.yr
def bI0{s:dO}:s.put "lower" w={ s with lo:=w }:=by unfold dO.put;rw[ay rfl]
def bH9{s:dO}:s.put "upper" w={ s with up:=w }:=by unfold dO.put;rw[az ∅]
section
variable{T:Nat->Option aV}{s:dO}{kvs:@&(List Key×D)}{o:@&Nat}{PL:Int->@&Int->Prop}
def DV(hG:∀c∈cs,jv c)(ho:mQ cs v [] o)(hi:i< -o):jv (qc cs o i):=by
 let#[p,e,hp,_,eq,_]:=ho.at_ hi;rw[eq,F3 (ag hp)];exact hG _ (cj hp)
def yE(hT:qi T)(hm:g[m]?=!d6 s)(hn:g[nd]?=!.fO kvs)(I:Iv cs o n i i s kvs)(ho:mQ cs v [] o)(hv:v=n)(hi:i< -o)(hz:-o<=9)(h:∀(a:Int) s' fg g',jn m nd g g'->g'[m]?=!d6 s'->g'[nd]?=!.fO fg->Iw cs o n i (λe l=>Gz cs o i e l\/(e=(qc cs o i).lo/\l=[])) (yg cs o i) s' fg->iM fg "lower" (qc cs o i).lo=!.int a->s'.co=s.co->s'.yr=s.yr->-s'.lo<=i+1->s'.up=s.up->-fg<=-kvs+1->Q (.int a) g') :
  b0 T (k+6) 278 [.ref m,.ref nd,.str "lower",.int (qc cs o i).lo] g Q E:=by
 let ll:=I.ll;let kl:=I.kl;cases hq:iM kvs "lower" (qc cs o i).lo with
 |some z =>
  let#[a,rfl,_]:=I.w.lo.v _ _ hq;exact Oa (k:=k+5) hT hn hq (h a s kvs g jn.refl hm hn (I.w.imp (λx x z=>.inl z) (λx x z=>z)) hq rfl rfl () rfl ())
 |none =>
  let hb:=I.w.free ho hi hv hq;let#[hf,I2,e1,e2,e3,e4]:=I.w.b57 hq () hi rfl hb;exact VN (k:=k) hT hm hn I.w.W () hq () hf λg' f m1 n1=>h _ _ _ g' f m1 n1 I2 (by rw[z9,ay #[rfl,rfl]]) e4 e3 (by rw[e1,ba];simpa using ll) e2 (NA _ _ _)
def kW(hT:qi T)(hm:g[m]?=!d6 s)(hn:g[nd]?=!.fO kvs)(I:Iw cs o n i PL (yg cs o i) s kvs)(ul:-s.up<=i)(kl:-kvs<1000)(hz:i<9)(h:∀(b:Int) s' fg g',jn m nd g g'->g'[m]?=!d6 s'->g'[nd]?=!.fO fg->Iw cs o n i PL (λe l=>yg cs o i e l\/(e=(qc cs o i).up/\l=[])) s' fg->iM fg "upper" (qc cs o i).up=!.int b->(∀e,iM fg "lower" e=iM kvs "lower" e)->s'.co=s.co->s'.yr=s.yr->s'.lo=s.lo->-s'.up<=i+1->-fg<=-kvs+1->Q (.int b) g') :
  b0 T (k+6) 278 [.ref m,.ref nd,.str "upper",.int (qc cs o i).up] g Q E:=by
 cases hq:iM kvs "upper" (qc cs o i).up with
 |some z =>
  let#[a,rfl,_]:=I.up.v _ _ hq;exact Oa (k:=k+5) hT hn hq (h a s kvs g jn.refl hm hn (I.imp (λx x z=>z) (λx x z=>.inl z)) hq (λx=>rfl) rfl rfl rfl () ())
 |none =>
  let#[_,_,I2]:=I.b56 hq ();exact VO (k:=k) hT hm hn I.W kl hq () λg' f m1 n1=>h _ _ _ g' f m1 n1 I2 (by rw[z9,ay #[rfl,rfl]]) (λe=>by rw[z9,az (λz=>by cases z.1)]) rfl rfl rfl (by rw[ba];simpa using ul) (NA _ _ _)
def aK3(hT:qi T)(hm:g[m]?=!d6 s)(hn:g[nd]?=!.fO kvs)(I:Iv cs o n i i s kvs)(hG:∀c∈cs,jv c)(ho:mQ cs v [] o)(hv:v=n)(hi:i< -o)(hz:-o<=9)(h:∀(a:Int) s' fg g',jn m nd g g'->g'[m]?=!d6 s'->g'[nd]?=!.fO fg->Iv cs o n (i+1) i s' fg->iM fg "lower" (qc cs o i).lo=!.int a->Q (.bl true) g') :
  b0 T (k+7) 280 [.ref m,.ref nd,zl (qc cs o i)] g Q E:=by
 let gd:=DV hG ho hi;let#[_,c2,_,c4,c5,c6]:=gd.inv;let#[l1,l2]:=xn c2;let#[u1,u2]:=xn c4;let kl:=I.kl;let dD:nd≠m:=λz=>by rw[z,hm] at hn;cases hn
 refine call_of hT.Cq rfl ?_;let fin:∀(a b:Int) (N:Ends) s5 kv g5,jn m nd g g5->g5[m]?=!d6 s5->g5[nd]?=!.fO kv->Iw cs o n i (λe l=>(e≠(qc cs o i).lo/\(Gz cs o i e l\/(e=(qc cs o i).lo/\l=[])))\/(e=(qc cs o i).lo/\l=(qc cs o i).lm)) (λe l=>(e≠(qc cs o i).up/\(yg cs o i e l\/(e=(qc cs o i).up/\l=[])))\/(e=(qc cs o i).up/\l=(qc cs o i).um)) s5 kv ->
   iM kv "lower" (qc cs o i).lo=!.int a->iM kv "upper" (qc cs o i).up=!.int b->s5.co=s.co->-s5.lo<=i+1->-s5.up<=i+1->-kv<=2*(i+1)->(0<(qc cs o i).yr->s5.yr=(qc cs o i).yr)->(s5.yr=0\/∃j,j<i+1/\(qc cs o j).yr=s5.yr)->N.rt=Q ->
   wpS (b0 T (k+6)) (match R8.body with|.seq _ (.seq _ (.seq _ (.seq _ (.seq _ b))))=>b|x=>x) N [!.ref m,!.ref nd,!zl (qc cs o i),!.int a,!.int b,none,none] g5 E:=by
  intro a b N s5 kv g5 f5 m5 n5 I5 ka kb q1 q2 q3 q4 q5 q6 hN;let#[_,e,ha,pa]:=I5.lo.v _ _ ka;cases e;let#[_,e,hb,pb]:=I5.up.v _ _ kb;cases e;let ea:=(pa.resolve_left λz=>z.1 rfl).2;let eb:=(pb.resolve_left λz=>z.1 rfl).2;let ki:A4 s5 a=true:=(I5.bn a).mpr #[_,i,ka,aw _,hi,rfl];let ec:-s5.co=i:=by rw[q1];exact I.co
  let es:w9 s5 a b=(("",.int (-s5.co),{ s5 with co:=s5.co++[K0 s5 a b] }):Rs):=by
   unfold w9;rw[ay #[ha,hb],ay ki,ay ()]
  let W6:=XA (a:=a) (b:=b) I5.W;rw[es] at W6;let I6:Iv cs o n (i+1) i { s5 with co:=s5.co++[K0 s5 a b] } kv:=by
   refine#[#[W6,I5.bl,I5.lo.imp ?_,I5.up.imp ?_,I5.bn],by rw[ba,ec];rfl,q2,q3,q4,q6]
   .rintro e l (⟨z1,⟨j,z2,z3⟩|⟨z2,_⟩⟩|⟨z1,z2⟩)
    .exact#[j,by omega,z3]
    .exact absurd z2 z1
    .exact#[i,eR _,z1.symm,z2]
   .rintro e l (⟨z1,⟨j,z2,z3⟩|⟨z2,_⟩⟩|⟨z1,z2⟩)
    .exact#[j,by omega,z3]
    .exact absurd z2 z1
    .exact#[i,eR _,z1.symm,z2]
  dsimp[R8];show m8 m5 rfl rfl ?_;show m8 m5 rfl rfl ?_;show aU7 (k:=k+1) hT.tq m5 I5.W (λy=>?_) (λz=>absurd (by rw[es]) z);rw[es];dsimp only;let f6:=f5.trans (sO (m:=m) (nd:=nd) (g:=g5) (o:=d6 { s5 with co:=s5.co++[K0 s5 a b] }));let m6:=get_set (o':=d6 { s5 with co:=s5.co++[K0 s5 a b] }) m5;let n6:=d0 (o':=d6 { s5 with co:=s5.co++[K0 s5 a b] }) n5 dD.symm;generalize g5.set m _=g6 at *;show VJ (k:=k+3) hT.tq m6 (λc y y e=>?_) (λz=>absurd #[by omega,by simp;omega] z);dsimp only at e;rw[show((-s5.co:Int)).toNat=-s5.co by omega,bE (aw _)] at e;simp at e;subst e;let last:b0 T (k+6) 7 [K0 s5 a b,.tup [.int a,mk (qc cs o i).lm,.int b,mk (qc cs o i).um,.int s5.yr]] g6 N.rt E:=by
   let e9:K0 s5 a b=.tup [.int a,mk (qc cs o i).lm,.int b,mk (qc cs o i).um,.int s5.yr]:=by unfold K0;rw[ea,eb]
   rw[e9,hN];exact a76 hT.h6 hT.h7 2 (k:=k+2) (a77 #[_,_,_,_,_,rfl,gd.l8,gd.u8]) λg7 e7=>h a _ kv g7 (f6.trans e7.f2) (e7.at m6) (e7.at n6) I6 ka
  show if2 (λhy=>?_) (λhy=>?_)
  .left;rw[<- q5 hy];exact last
  .show m8 m6 rfl rfl ?_;show OI (k:=k+5) hT.tq m6 ?_;left;exact last
 delta R8;show yE (k:=k) hT hm hn I ho hv hi hz λa s1 kv1 g1 f1 m1 n1 I1 ka q1 q2 q3 q4 q5=>?_;show kW (k:=k) hT m1 n1 I1 (by rw[q4];exact I.ul) () () λb s2 Bh g2 f2 m2 n2 I2 kb r0 r1 r2 r3 r4 r5=>?_;let f2:=f1.trans f2;let vM:iM Bh "lower" (qc cs o i).lo=!.int a:=by rw[r0];exact ka
 clear m1 n1 I1 f1 ka;let#[_,e,ha,pa]:=I2.lo.v _ _ vM;cases e;let#[_,e,hb,pb]:=I2.up.v _ _ kb;cases e;let ki:A4 s2 a=true:=(I2.bn a).mpr #[_,i,vM,aw _,hi,rfl];let sl:∀j∈(qc cs o i).lm,ST.Spot j:=λj hj=>#[(l2 j hj).1,by have:=(l2 j hj).2;omega]
 let su:∀j∈(qc cs o i).um,ST.Spot j:=λj hj=>#[(u2 j hj).1,by have:=(u2 j hj).2;omega]
 show KY (k:=k) (nd:=nd) hT (ms:=(qc cs o i).lm) m2 I2.W (.inl rfl) #[] (by rw[A8];exact ha) (λy=>I2.W.dj a ki) ?_ ?_ l1 sl gd.l8 λg3 f3 o3 m3=>?_
 .rw[A8];rcases pa with⟨j,hj,_,e⟩|⟨_,e⟩
  .rw[e];exact(xn (DV hG ho (show j< -o by omega)).inv.2.1).1
  .rw[e];exact List.Pairwise.nil
 .rw[A8];rcases pa with⟨j,hj,e1,e⟩|⟨_,e⟩
  .rw[e];exact(ho.Dx hi hj).1 e1
  .rw[e];simp
 rw[A8,bI0] at m3;let n3:=o3 nd dD _ n2;let f3:=f2.trans f3;let I3:=I2.markL vM (l:=(qc cs o i).lm) #[sl,gd.l8];clear o3 m2 n2 I2 f2;show KY (k:=k) (nd:=nd) hT (ms:=(qc cs o i).um) m3 I3.W (.inr rfl) #[] (by rw[A7];exact hb) (λz=>absurd z ∅) ?_ ?_ u1 su gd.u8 λg4 f4 o4 m4=>?_
 .rw[A7];rcases pb with⟨j,hj,_,e⟩|⟨_,e⟩
  .show(gw s2.up b).Pairwise _;rw[e];exact(xn (DV hG ho (show j< -o by omega)).inv.2.2.2.1).1
  .show(gw s2.up b).Pairwise _;rw[e];exact List.Pairwise.nil
 .rw[A7];change ∀j∈gw s2.up b,_;rcases pb with⟨j,hj,e1,e⟩|⟨_,e⟩
  .rw[e];exact(ho.Dx hi hj).2.1 e1
  .rw[e];simp
 rw[A7,bH9] at m4;let n4:=o4 nd dD _ n3;let f4:=f3.trans f4;let I4:=I3.Yo kb (l:=(qc cs o i).um) #[su,gd.u8];clear o4 m3 n3 I3 f3;dsimp only at m4 I4;let y2:s2.yr=s.yr:=r2.trans q2;show m8 m4 rfl rfl ?_;show OI (k:=k+5) hT.tq m4 ?_;dsimp only;show if2 (λhy=>?_) (λhy=>?_)
 .let ey:M0 { s2 with lo:=s2.lo.set (a-1).toNat (qc cs o i).lm,up:=s2.up.set (b-1).toNat (qc cs o i).um } (qc cs o i).yr=(("",.bg,{ s2 with lo:=s2.lo.set (a-1).toNat (qc cs o i).lm,up:=s2.up.set (b-1).toNat (qc cs o i).um,yr:=(qc cs o i).yr }):Rs):=by
   unfold M0;rw[ay #[by dsimp only;omega,c6]]
  let W5:=bA8 (n:=(qc cs o i).yr) I4.W;rw[ey] at W5;show m8 m4 rfl rfl ?_;show Xz (k:=k+3) hT.tq m4 (λy=>?_) (λz=>absurd (by rw[ey]) z);rw[ey];dsimp only;refine fin a b _ _ Bh _ (f4.trans sO) (get_set m4) (d0 n4 dD.symm) #[W5,I4.bl,I4.lo,I4.up,I4.bn] vM kb (r1.trans q1) (by rw[bN,r3];exact q3) (by rw[bN];exact r4) () (λy=>rfl) (.inr #[i,eR _,rfl]) rfl
 .refine G0 ?_;refine fin a b _ _ Bh _ f4 m4 n4 I4 vM kb (r1.trans q1) (by rw[bN,r3];exact q3) (by rw[bN];exact r4) () (λhp=>?_) ?_ rfl
  .change s2.yr=_;rcases I.yr with z|⟨j,hj,e⟩
   .omega
   .have:=(ho.Dx hi hj).2.2 hp;omega
  .change s2.yr=0\/_;rcases I.yr with z|⟨j,hj,e⟩
   .exact .inl ()
   .exact .inr #[j,by omega,by rw[e,y2]]
end
abbrev s0(n:Nat):dO:=#[List.replicate n .bg,[],[],[],0,[]]
def JX(h:n<=9):WS (s0 n):=by
 refine#[λz hz=>.inl (iH hz),λi j v hi=>?_,λv x=>rfl,by unfold s0;simpa using h,by unfold s0;simp,λv hv=>?_,by unfold s0;simp,by unfold s0;simp,λl hl=>?_,λl hl=>?_,Int.le_refl 0,by unfold s0;simp,λc hc=>?_]
 .have:=iH (aB hi);cases this
 .unfold s0 at hv;simp at hv
 .unfold s0 at hl;simp at hl
 .unfold s0 at hl;simp at hl
 .unfold s0 at hc;simp at hc
section
variable{T:Nat->Option aV}
def TY(hT:TM T)(hn:1<=n/\n<=9)(h:Q .bg (g++[d6 (s0 n)])):b0 T (k+4) 51 [.ref (-g),.int n] (g++[.ins "Mint" []]) Q E:=by
 refine TC (k:=k) hT b7 (λn' e1 n1 n9=>?_) (λhv=>absurd #[by omega,by omega] hv);obtain rfl:n=n':=by omega
 let es:(g++[O.ins "Mint" []]).set (-g) (Jy n 0 0)=g++[d6 (s0 n)]:=by simp[s0,d6,Jz]
 rw[es];exact h
end
def TZ(hz:-cs<=9):many cs v rs<1073741824:=by
 unfold many;rw[<- NC (U4 cs v rs)];let h1:=ND (n:=-cs) (F:=y9 cs v rs) (λs=>by unfold y9;exact aG (dk _ _) #[_]) (-cs);let h2:(-cs) ^ (-cs)<=387420489:=by
  have:∀n,n<=9->n ^ n<=387420489:=by decide
  exact this _ hz
 omega
abbrev X9:aV:=#[4,6,(.seq (.set 4 (.call 99 (gp aF aX bf))) (.seq (.set 5 (.call 121 (dE cO))) (.seq (.ifs (.dQ (.fC (.call 1 (gp bw (bj 0) (bL (.bin .Sub) (cR eK (bj 0)) (bj 1)))))) (.seq (.raise "BadNumber" (dE (ff "no order has that number"))) .pass) .pass) (.seq (.ret (.call 123 (gp cO eK bw))) .pass))))]
def K4(o:@&Nat):(b8 o).length=-o:=by unfold b8;simp
def ints_map(o:@&Nat):b8 o=(o.map λ(i:Nat)=>(i:Int)).map D.int:=by unfold b8;rw[cF];rfl
section
variable{T:Nat->Option aV}
def a48(hT:TB T)(hF:TF T)(hW:TW T)(hN:TN T)(rZ:T 127=!X9)(A:Ask g a c cs v rs){m:Int}(hb:¬(0<=m/\m<many cs v rs)->∀g',Ex g g'->E #["BadNumber"] g')(h:∀(i:Nat) o l g',m=(i:Nat)->(p6 (-cs) (y9 cs v rs) 0)[i]?=!o->Ex g g'->-g<=l->g'[l]?=!.lst (b8 o)->Q (.ref l) g'):b0 T (k+11) 127 [.ref a,.int v,.ref c,.int m] g Q E:=by
 refine call_of rZ rfl ?_;delta X9;show a01 (k:=k) hT A λg1 b e1 x B=>?_;show Nf (k:=k+3) hT hF hW B A.hz A.hr λw g2 e2 x W=>?_;left;let#[kvs,w1,w2]:=W.ex;refine xT w1 rfl (w2 0 .zero) ?_;left;unfold many at hb;refine m7 (k:=k+8) hT.nf ?_;left;by_cases hm:0<=m/\m<((p6 (-cs) (y9 cs v rs) 0).length:Nat)
 .let#[i,rfl]:=Int.eq_ofNat_of_zero_le hm.1;let hi:i<(p6 (-cs) (y9 cs v rs) 0).length:=by omega
  refine fF (by rw[aA (),aA ()];rfl) ?_;left;let e:=ag hi;exact aM7 (k:=k+3) hT hF hN (m:=i) (B.at e2) W A.hz A.hr e λl g3 e3 hl h3=>h i _ l g3 rfl e (e1.trans (e2.trans e3)) (aG (e1.trans e2).len hl) h3
 .refine fV ?_ ?_
  .by_cases h0:0<=m
   .rw[aA h0,aI ()]
    rfl
   .rw[aI h0]
    rfl
  .left;exact hb hm _ (e1.trans e2)
end
abbrev Fm:aV:=#[1,1,(.seq (.ret (.dF (bL .isin aF (.lit (.ty "list"))) (cW .all (.comp [] 2 (.one 1) (.fQ aF) .no (.call 6 (dE aX)))))) .pass)]
abbrev EY:aV:=#[4,4,(.seq (.ret (.dF (.call 86 (dE aF)) (bL (.cmp .Is) (.call 109 (nB aX bf bw aF)) (.lit .bg)))) .pass)]
abbrev Du:aV:=#[1,7,(.seq (.set 1 (.call 3 (dE aF))) (.seq (.nE (.many [2,3]) (.call 26 (dP aX (bj 9)))) (.seq (.set 4 (.call 126 (gp bf bw (.prim .lst .nil)))) (.seq (.eL (.one 5) (.fQ (bL (.bin .Mult) (bL .lst (bj 0) (.call 4 (dP aX (bL .max (bj 1) cO)))) (cW .int (bL (.cmp .Gt) cO (bj 0))))) (.seq (.set 6 (.call 127 (nB bf bw (.prim .lst .nil) eK))) (.seq (.ifs (.ke (.dQ (.fC (.call 151 (nB fo bf bw (.prim .lst .nil))))) (.dQ (.fC (.call 281 (gp bf bw fo))))) (.seq (.ret (.lit (.bl false))) .pass) .pass) .pass))) (.seq (.ret (.lit (.bl true))) .pass)))))]
structure yd(T:Nat->Option aV):Prop where
 t:qi T
 tb:TB T
 lf:LF T
 Pm:yc T
 tf:TF T
 tw:TW T
 tn:TN T
 h3:T 3=!Ah
 Sr:T 11=!Du
 RS:T 86=!Fm
 so:T 109=!Y0
 sf:T 126=!zR
 rZ:T 127=!X9
 Cu:T 151=!EY
def ZG{l:List α}:cut l (!(n:Int)) none=l.drop n:=by
 have:¬((n:Int)<0):=by omega
 unfold cut HT.et;simp[this];by_cases h:n<=-l
 .rw[jq h,dU #[_]]
 .rw[Nat.min_eq_right (),df (aw _),df ()];simp
def MU(h:c9 g a=!List.replicate n .bg):rd g 6 (.ref a)=!.list (List.replicate n .none):=by
 simp only[rd];rw[h];dsimp only;have:(List.replicate n D.bg).mapM (rd g 5)=!List.replicate n .none:=by
  clear h
  induction n with
  |zero=>rfl
  |succ n ih =>
   rw[fc,jU,ih]
   rfl
 rw[this]
 rfl
def Nu(n:Nat):(PyData.list (List.replicate n .none)).canLay0=true:=by
 simp only[PyData.canLay0]
 induction n with
 |zero=>rfl
 |succ n ih=>simp[List.replicate_succ,PyData.canLayAll0,PyData.canLay0,ih]
def VU(n:Nat):PyData.eqv (.list (List.replicate n .none)) (.list (List.replicate n .none))=true:=by
 simp only[PyData.eqv]
 induction n with
 |zero=>rfl
 |succ n ih=>simp[List.replicate_succ,PyData.eqvAll,PyData.eqv,ih]
def Tr{k:Bool->Prop}(ha:g[a]?=!.lst (List.replicate n .bg))(hb:g[b]?=!.lst (List.replicate n .bg))(h:k true):sy g (.ref a) (.ref b) k:=by
 refine#[_,.inr (.inr (.inr #[_,_,MU (a7 ha),MU (a7 hb),Nu n,Nu n,rfl])),?_];rw[VU];exact h
section
variable{T:Nat->Option aV}{d:Nat}{o:@&Nat}
def ZD{s:dO}{kvs:@&(List Key×D)}{PL PU:Int->@&Int->Prop}(I:Iw cs o n (-o) PL PU s kvs):s.bl=List.replicate n .bg:=by
 rw[List.eq_replicate_iff];refine#[I.bl,λz hz=>?_];rcases I.W.se z hz with h|⟨u,rfl⟩
 .exact h
 .let#[j,hj]:=bR.mp hz;let#[_,j',_,h1,h2,_]:=(I.bn u).mp ((sR I.W).mpr #[j,hj]);omega
def aN9(hT:qi T)(ha:g[a]?=!.lst (cs.map a9.d))(hr:g[r]?=!.lst (b8 o))(hG:∀c∈cs,jv c)(ho:mQ cs v [] o)(hz:-cs<=9)(hv:1<=v/\v<=9)(h:∀g',Ex g g'->Q (.bl true) g'):b0 T (k+8) 281 [.ref a,.int v,.ref r] g Q E:=by
 obtain⟨n,rfl⟩:∃n:Nat,v=n:=#[v.toNat,by omega]
 let ol:=ho.len;let la:=n8 ha;let lr:=n8 hr;refine call_of hT.Cp rfl ?_;delta Ei;refine uF (Ak (OD ?_));show TY (k:=k+3) hT.tq.tm #[by omega,by omega] #[rfl,?_];refine uF (Ak (Kv (XN ?_)));let e2:Ex g ((g++[d6 (s0 n)])++[.fO []]):=(Ex.snoc _ _).trans (Ex.snoc _ _);let m2:((g++[d6 (s0 n)])++[O.fO []])[(-g)]?=!d6 (s0 n):=(Ex.snoc _ _).at b7;let n2:((g++[d6 (s0 n)])++[O.fO []])[(-g)+1]?=!.fO []:=by simp
 let ln:(g++[d6 (s0 n)]).length=-g+1:=by simp
 rw[ln];let a2:=e2.at ha;let r2:=e2.at hr;generalize (g++[d6 (s0 n)])++[O.fO []]=g2 at *;clear ln;let I0:Iv cs o n 0 0 (s0 n) []:=by
  refine#[#[JX (),by unfold s0;simp,#[λd z hz=>(by cases hz),λd e z hz=>(by cases hz)],#[λd z hz=>(by cases hz),λd e z hz=>(by cases hz)],λu=>#[λhu=>?_,(by rintro ⟨_,_,z,_⟩;exact (by cases z))]],rfl,aw _,aw _,aw _,.inl rfl];let#[j,hj]:=(sR (JX ())).mp hu;have:=iH (aB hj);cases this
 let fx:∀ g',jn (-g) (-g + 1) g2 g'->Ex g g':=λg' f=>#[aG e2.len f.len,λj hj=>by
  let e:=ag hj;rw[e];exact f.old j _ () () (e2.at e)]
 generalize hmm:-g=m at *;show A6 (a8 T _) (Z8 (a8 T _) ?_);left;rw[K4];refine#[by omega,by omega,j6 0 (-o),λi Z g'=>∃s kvs z5 z6,Z=[!.ref a,!.int n,!.ref r,!.ref m,!.ref (m+1),z5,z6]/\jn m (m+1) g2 g'/\g'[m]?=!d6 s/\g'[m+1]?=!.fO kvs/\Iv cs o n i i s kvs,λi Z g' q=>x3,#[_,_,none,none,rfl,jn.refl,m2,n2,I0],λi x Z g' hx q=>?_,λZ g' q=>?_]
 .let#[s,kvs,z5,z6,rfl,f3,m3,n3,I3]:=q;let#[hi,rfl]:=C8 hx;rw[show(0:Int)+(i:Nat)=(i:Nat) by omega];let a3:=f3.old a _ () () a2;let r3:=f3.old r _ () () r2;let#[p,ep,hp,_,eq,_]:=ho.at_ hi;let ap:ia (b8 o) (i:Nat)=!.int (p:Nat):=A2 (by unfold b8;rw[aj,ep];rfl);let ac:ia (cs.map a9.d) (p:Nat)=!zl (qc cs o i):=A2 (by rw[aj,ag hp,eq,F3 (ag hp)];rfl);refine i9 ?_
  try show wpS _ _ _ _ _ _
  show q9 (a7 r3) ap ?_;show q9 (a7 a3) ac ?_;show aK3 (k:=k) hT m3 n3 I3 hG ho rfl hi () λw s4 Hz g4 f4 m4 n4 I4 kw=>?_;let f4:=f3.trans f4;let a4:=f4.old a _ () () a2;let r4:=f4.old r _ () () r2;clear f3 m3 n3 I3 a3 r3;show H9 (a8 T _) (my (a8 T _) ?_);show bF1 (a7 r4) ?_;rw[show((i:Nat):Int)+1=((i+1:Nat):Int) by omega,ZG];let ed:(b8 o).drop (i+1)=b8 (o.drop (i+1)):=by unfold b8;rw[List.map_drop]
  rw[ed];let e5:=Ex.snoc g4 (O.lst (b8 (o.drop (i+1))));let h5:=b7 (g:=g4) (o:=O.lst (b8 (o.drop (i+1))));generalize g4++[_]=g5 at *;generalize (-g4)=l5 at *;let dl:(o.drop (i+1)).length<=9:=by simp;omega
  refine#[_,_,rfl,a7 h5,b8 (o.drop (i+1)),λt ys Z g'=>ys=((o.drop (i+1)).take t).map (λp=>D.int (bV cs p).lo)/\g'=g5/\∃z1 z2,Z=[!.ref a,z1,z2],by rw[K4];omega,λt ys Z g' q=>?_,#[by simp,rfl,_,_,rfl],λt y ys Z g' hy q=>?_,λys Z g' q=>?_]
  .let#[rfl,rfl,_]:=q;exact#[s9 (a7 h5),by rw[au,dg];omega]
  .let#[rfl,rfl,z1,z2,rfl]:=q;unfold b8 at hy;rw[aj,ae] at hy;let#[p',hy,rfl]:=hy;let jY:p'< -cs:=by
    rw[kR] at hy;exact(ho.st _ _ hy).1
   refine i9 (xu (lW ?_))
   try show aY _ _ _ _ _ _
   show q9 (a7 (e5.at a4)) (d:=zl (bV cs p')) (A2 (by rw[aj,ag jY,F3 (ag jY)];rfl)) ?_;show#[?_,rfl,_,_,rfl];rw[List.take_add_one,hy,cP]
   rfl
  let#[rfl,eg,_]:=q;rw[eg,K4,bP];let e6:=e5.trans (Ex.snoc g5 (O.lst ((o.drop (i+1)).map λp=>D.int (bV cs p).lo)));let h6:=b7 (g:=g5) (o:=O.lst ((o.drop (i+1)).map λp=>D.int (bV cs p).lo));generalize g5++[_]=g6 at *;generalize (-g5)=l6 at *;clear e5 h5;let f6:=f4.trans e6.f2;let m6:=e6.at m4;let n6:=e6.at n4;refine T8 (DM (l:=(o.drop (i+1)).map λp=>(bV cs p).lo) (by rw[cF];exact a7 h6) ?_);left;by_cases hq:(qc cs o i).lo∈(o.drop (i+1)).map λp=>(bV cs p).lo
  .rw[aA hq];refine fF rfl ?_;left;let#[p',jY,e]:=aL.mp hq;let#[j,hj]:=bR.mp jY;rw[kR] at hj;let QS:=(av.mp hj).1;refine#[s4,Hz,_,_,rfl,f6,m6,n6,#[I4.w.J1 rfl (show i<i+1+j by omega) QS (by rw[Fv hj];exact e),I4.co,I4.ll,I4.ul,I4.kl,I4.yr]]
  .rw[aI hq];refine fV rfl ?_;left;let#[o1,o2,o3,o4,o5,o6]:=I4.w.off kw hi rfl (λj h1 h2 e=>hq (aL.mpr #[o[j],bR.mpr #[j-(i+1),by rw[kR,show i+1+(j-(i+1))=j by omega];exact ag h2],by rw[<- Fv (ag h2)];exact e]));refine m8 m6 rfl rfl ?_;show xt n6 rfl rfl kw ?_;show Uh (k:=k+2) hT.tq m6 I4.w.W (λb=>?_) (λz=>absurd o1 z);left;exact#[_,Hz,_,_,rfl,f6.trans sO,get_set m6,d0 n6 (),#[o2,by rw[o6];exact I4.co,by rw[o3];exact I4.ll,by rw[o4];exact I4.ul,I4.kl,by rw[o5];exact I4.yr]]
 let#[s,kvs,z5,z6,rfl,f3,m3,n3,I3]:=q;rw[j8] at I3
 try show wpS _ _ _ _ _ _
 show m8 m3 rfl rfl ?_;show aU6 (k:=k+6) hT.tq m3 ?_;show O3 (a7 (f3.old a _ () () a2)) ?_;rw[au,I3.co,ol];show fV #[_] ?_;show m8 m3 rfl rfl ?_;show a09 (k:=k+6) hT.tq m3 ?_;rw[ZD I3.w];let e4:=Ex.snoc g' (O.lst (List.replicate n .bg));let h4:=b7 (g:=g') (o:=O.lst (List.replicate n .bg));generalize g'++[_]=g4 at *;generalize (-g')=l4 at *;left;let e5:=Ex.snoc g4 (O.lst [.bg]);let h5:=b7 (g:=g4) (o:=O.lst [.bg]);refine Jm h5 () () (by simp;omega) ?_;let e6:=e5.trans (Ex.snoc (g4++[O.lst [.bg]]) (O.lst (List.replicate ((n:Int)).toNat [D.bg]).flatten));let h6:=b7 (g:=g4++[O.lst [.bg]]) (o:=O.lst (List.replicate ((n:Int)).toNat [D.bg]).flatten);rw[show(List.replicate ((n:Int)).toNat [D.bg]).flatten=List.replicate n .bg by rw[lO];rfl] at e6 h6 ⊢;generalize (g4++[O.lst [.bg]])++[_]=g6 at *;refine An (Tr (e6.at h4) h6 ?_)
 try left
 exact h _ ((fx _ f3).trans (e4.trans e6))
def Tw(hT:yd T)(A:Ask g a c cs v rs)(ho:mQ cs v rs o)(hr:g[r]?=!.lst (b8 o))(h:∀g',Ex g g'->Q (.bl true) g'):b0 T (k+4) 151 [.ref r,.ref a,.int v,.ref c] g Q E:=by
 let hz:=A.hz;let hl:=ho.len;refine call_of hT.Cu rfl ?_;delta EY;show call_of hT.RS rfl ?_;delta Fm;show gW (c:="list") (b:=true) ∅ (show(match g[r]? with|some (.lst _)=>!("list"=="list")|_=>none)=some true by rw[hr];rfl) ?_;show comp_map (a8 T _) (λZ=>∃z0 z1,Z=[z0,z1]) (λy=>.bl true) (l:=b8 o) (k:=.lst r) (λg' e=>s9 (a7 (e.at hr))) (by rw[K4];omega) #[none,none,rfl] (λi x Z g' hx e sh=>?_) (λg' e=>?_) (V7 (a8 T _) (a7 hr) λQ q=>w_var (d:=.ref r) rfl q)
 .let#[z0,z1,rfl]:=sh;let#[j,_,rfl]:=aL.mp (aB hx);refine i9 ?_
  try show aY _ _ _ _ _ _
  left;exact FY hT.t.h6 #[rfl,e,_,_,rfl]
 .refine Ac (v:=true) (a7 b7) ?_ ?_
  .rw[show(List.range (b8 o).length).map (λy=>D.bl true)=(List.replicate (b8 o).length true).map D.bl by rw[List.map_const',iz,List.map_replicate],Y2];simp
  let e1:=e.trans (Ex.snoc g' (O.lst ((List.range (b8 o).length).map λy=>D.bl true)));generalize g'++[_]=g1 at *;left;let r1:=e1.at hr;rw[ints_map] at r1;refine aG7 (k:=k) hT.Pm hT.so A.hB (e1.at A.ha) A.hz (e1.at A.hc) A.hr r1 λg2 e2=>?_;rw[ho.none];left;exact h _ (e1.trans e2)
def Wd(hT:yd T):b0 T (k+12) 11 [.ref 0] [.pS (ns.map .int)] (λd y=>d=.bl true) jZ:=by
 refine call_of hT.Sr rfl ?_;delta Du;show Uo (k:=k+10) hT.h3 (a:=0) (ns:=ns) rfl λd g D1 y y=>?_;left;let dl:=D1.lt;refine aY0 (k:=k+7) hT.lf #[by decide,by decide] D1 λcs a v g2 hl hG ha Rt v1 v2 D2 G2=>?_;refine E7 rfl ?_
 try show wpS _ _ _ _ _ _
 let hz:-cs<=9:=by omega
 left;let e3:=Ex.snoc g2 (O.lst []);let h3:=b7 (g:=g2) (o:=O.lst []);let A3:Ask (g2++[O.lst []]) a (-g2) cs v []:=#[e3.at ha,hz,hG,#[v1,by omega],h3,by simp,rfl]
 let D3:=e3.draw D2;let da:d<a:=by omega
 clear h3 D2 G2 Rt;generalize g2++[_]=g3 at *;generalize (-g2)=l3 at *;refine aN0 (k:=k) hT.tb hT.tf hT.tw hT.sf A3.ha A3.hz A3.good A3.hB A3.hv A3.hc A3.hr A3.hR λg4 e4=>?_;let hN:=TZ (v:=v) (rs:=[]) hz;let hM:many cs v []=(p6 (-cs) (y9 cs v []) 0).length:=rfl;rw[<- hM];let Io:=(A3.at e4).ha;let D4:=e4.draw D3;clear A3 D3 e3 e4 ha;show A6 (a8 T _) (my (a8 T _) ?_);show i4 (k:=k+10) hT.lf.pull D4 (by split<;>omega) (by split<;>omega) λp g5 p0 p1 D5 G5=>?_;let wH:=G5.at () Io;clear D4 G5 Io D5;left;let e6:=Ex.snoc g5 (O.lst [.int 0,.int p]);let h6:=b7 (g:=g5) (o:=O.lst [.int 0,.int p]);let Im:=e6.at wH;generalize g5++[_]=g6 at *;generalize (-g5)=l6 at *;refine Jm h6 (by split<;>decide) (by split<;>decide) (by split<;>simp) ?_;let Iy:∃M:@&Int,(List.replicate (Int.toNat (if decide (0<(many cs v []:Int))=true then 1 else 0)) [D.int 0,D.int p]).flatten=M.map .int/\-M<=2/\∀x∈M,0<=x/\x<many cs v []:=by
  by_cases h0:0<many cs v []
  .refine#[[0,p],?_,by simp,λx hx=>?_]
   .rw[aA (show(0:Int)<many cs v [] by omega)];simp
   .have:p<many cs v []:=by
     split at p1<;>omega
    simp at hx;rcases hx with rfl|rfl
    .exact#[by omega,by omega]
    .exact#[p0,this]
  .refine#[[],?_,by simp,by simp];rw[aI (show ¬(0:Int)<many cs v [] by omega)];simp
 let#[M,Iz,Iy,RC]:=Iy;rw[Iz];let e7:=Ex.snoc g6 (O.lst (M.map .int));let h7:=b7 (g:=g6) (o:=O.lst (M.map .int));let wG:=e7.at Im;clear Iz e6 h6 wH Im e7;generalize g6++[_]=g7 at *;generalize (-g6)=l7 at *
 try left
 refine#[_,_,rfl,a7 h7,M.map .int,λi Z g'=>Ex g7 g'/\∃z5 z6,Z=[!.ref 0,!.ref d,!.ref a,!.int v,!.int (many cs v []:Nat),z5,z6],λi Z g' q=>s9 (a7 (q.1.at h7)),#[Ex.refl _,none,none,rfl],λi x Z g' hx q=>?_,λZ g' q=>?_]
 .let#[e8,z5,z6,rfl]:=q;rw[aj,ae] at hx;let#[x,hx,rfl]:=hx;let Qu:=RC x (aB hx);refine i9 ?_
  try show wpS _ _ _ _ _ _
  left;let e9:=e8.trans (Ex.snoc g' (O.lst []));let h9:=b7 (g:=g') (o:=O.lst []);generalize g'++[_]=g9 at *;generalize (-g')=l9 at *;let A9:Ask g9 a l9 cs v []:=#[e9.at wG,hz,hG,#[v1,by omega],h9,by simp,rfl]
  refine a48 (k:=k) hT.tb hT.tf hT.tw hT.tn hT.rZ A9 (λz=>absurd Qu z) λj o l gA hj ho eA y hl=>?_;let ok:mQ cs v [] o:=Wi.mp (aB ho);left;let eB:=eA.trans (Ex.snoc gA (O.lst []));let hB:=b7 (g:=gA) (o:=O.lst []);let hl:=(Ex.snoc gA (O.lst [])).at hl;generalize gA++[_]=gB at *;generalize (-gA)=lB at *;let eC:=e9.trans eB;let AB:Ask gB a lB cs v []:=#[eC.at wG,hz,hG,#[v1,by omega],hB,by simp,rfl]
  refine Tw (k:=k+7) hT AB ok hl λgC eD=>?_;show aN9 (k:=k+3) hT.t ((eC.trans eD).at wG) (eD.at hl) hG ok hz #[v1,by omega] λgD eE=>?_;left;exact#[eC.trans (eD.trans eE),_,_,rfl]
 let#[e8,z5,z6,rfl]:=q
 try show wpS _ _ _ _ _ _
 left
 rfl
end
end M
namespace Lk
open PySem L2 M
abbrev top(i:Nat):Stmt:=PySem.Challenge.pw_trussel_k56_whole_orders_struck_anew.main.body.getD i (.Pass #[0,0,0,0])
abbrev bA0:Stmt->@&Stmt
 |.ClassDef (body:=b) ..=>b
 |_=>[]
abbrev Kl(i j:Nat):Stmt:=(bA0 (top i)).getD j (.Pass #[0,0,0,0])
abbrev F:@&RF:=[#[38,"is_number",["thing"],1,21,EF],#[1,"number_from",["number","least","most"],3,22,Y8],#[2,"good_marks",["marks","least","spot"],1,23,O0],#[15,"within",["one","other"],2,24,zH],#[16,"both",["one","other"],2,25,Fl],#[12,"good_coin",["coin","lower","lower_marks","upper","upper_marks","year","good_lower","good_upper"],1,32,E2],#[39,"check_coin",["coin"],1,33,EV],#[18,"check_coins",["coins","coin"],1,34,Z5],#[40,"check_side",["side"],1,35,O1],#[19,"die_field",["side"],1,36,ED],#[177,"with_thing",["things","at","thing"],3,37,T5],#[74,"places_of",["coins","word","thing","field"],3,38,X8],#[20,"dies_of",["coins","side","field"],2,39,DO],#[42,"check_anvils",["anvils"],1,44,C3],#[88,"good_rule",["coins","rule","word","one","other"],2,45,EE],#[89,"check_rules",["coins","rules","at","rule"],2,46,Z4],#[90,"stand_of",["places"],1,47,zT],#[91,"with_coin",["stand","place"],2,48,X7],#[92,"more_worn",["one","other","side","field"],2,49,KA],#[93,"later",["one","other"],2,50,FV],#[94,"worn_stands",["coins"],1,51,LJ],#[95,"later_stands",["coins"],1,52,LZ],#[96,"die_stands",["coins"],1,53,EW],#[97,"needed_stands",["coins","rules","needed","word","one","other","first","place"],2,54,S7],#[98,"check_asked",["coins","anvils","rules"],3,56,Q6],#[99,"bounds_of",["coins","anvils","rules"],3,57,EB],#[100,"dies_in_use",["bounds","stand","place","struck","left"],3,58,EX],#[101,"next_fault",["bounds","stand","place"],3,59,Fc],#[115,"follows",["bounds","stand","place"],3,61,zQ],#[116,"followers",["bounds","stand"],2,62,Ll],#[117,"reached_stands",["bounds","led_to","told","stand","place"],1,63,P4],#[121,"ways_on",["bounds","ways","stand"],1,65,DP],#[122,"step_on",["bounds","ways","stand","number","choices","left","at"],4,66,zG],#[123,"numbered_order",["bounds","ways","number","order","stand","left","place"],3,67,P5],#[126,"how_many",["coins","anvils","rules"],3,68,zR],#[127,"order_of",["coins","anvils","rules","number","bounds","ways"],4,69,X9],#[43,"check_cut",["wear","die"],2,72,EC],#[3,"_law_open",["_law_script"],1,75,Ah],#[4,"_law_pull",["_law_draw","_law_total_of","_law_cell","_law_got","_law_seed"],2,76,J6],#[6,"_law_num",["_law_found"],1,77,xV],#[86,"_law_nums",["_law_found"],1,78,Fm],#[7,"_law_like",["_law_found","_law_due"],2,79,J7],#[21,"_law_order_of",["_law_draw","_law_numbers","_law_left","_law_found","_law_step"],2,80,V5],#[17,"_law_within",["_law_one","_law_other"],2,81,zS],#[22,"_law_any_coin",["_law_draw","_law_menu","_law_lower","_law_upper","_law_year"],1,82,zP],#[23,"_law_seated",["_law_draw","_law_seats","_law_fresh","_law_anvils"],4,83,L3],#[24,"_law_struck",["_law_draw","_law_size","_law_anvils","_law_seats","_law_fresh","_law_worn","_law_year","_law_step","_law_wear","_law_shift","_law_found","_law_k","_law_keys","_law_key","_law_spot","_law_named","_law_told_year"],3,84,M8],#[25,"_law_opened",["_law_draw","_law_size","_law_dies","_law_row","_law_held","_law_found","_law_k","_law_year"],2,85,zF],#[26,"_law_list",["_law_draw","_law_most","_law_size","_law_anvils","_law_way","_law_found","_law_at","_law_coin","_law_other"],2,86,T6],#[107,"_law_rule_kept",["_law_coins","_law_ahead","_law_place","_law_rule","_law_word","_law_one","_law_other","_law_at"],4,87,EJ],#[108,"_law_fault",["_law_coins","_law_anvils","_law_rules","_law_ahead","_law_place","_law_coin","_law_there","_law_at","_law_here","_law_later"],5,88,xy],#[109,"_law_order_due",["_law_coins","_law_anvils","_law_rules","_law_row","_law_k","_law_word"],4,89,Y0],#[151,"_law_good_order",["_law_found","_law_coins","_law_anvils","_law_rules"],4,90,EY],#[278,"_law_die_for",["_law_mint","_law_names","_law_side","_law_die"],4,91,xK],#[279,"_law_worn_to",["_law_mint","_law_side","_law_die","_law_marks","_law_spot"],4,92,DQ],#[280,"_law_coin_made",["_law_mint","_law_names","_law_coin","_law_lower","_law_upper","_law_found","_law_year"],3,93,R8],#[281,"_law_all_made",["_law_coins","_law_anvils","_law_row","_law_mint","_law_names","_law_k","_law_coin"],3,94,Ei],#[11,"law",["_law_script","_law_draw","_law_coins","_law_anvils","_law_total","_law_number","_law_row"],1,95,Du]]
abbrev Ms:@&RM:=[#[113,"Bounds","__init__","Bounds.__init__",["self","coins","anvils","rules"],4,55,0,Z6],#[51,"Mint","__init__","Mint.__init__",["self","anvils"],2,73,0,EH],#[52,"Mint","wear_of","Mint.wear_of",["self","side"],2,73,1,Y9],#[53,"Mint","put_wear","Mint.put_wear",["self","side","wear"],3,73,2,V6],#[54,"Mint","cut","Mint.cut",["self","side","wear"],2,73,3,Ej],#[55,"Mint","fix","Mint.fix",["self","die","state","anvil"],2,73,4,Ek],#[56,"Mint","lay_off","Mint.lay_off",["self","die","anvil"],2,73,5,Z2],#[57,"Mint","mark","Mint.mark",["self","side","die","spot","marks"],4,73,6,R7],#[58,"Mint","strike","Mint.strike",["self","lower","upper","coin"],3,73,7,Z1],#[59,"Mint","begin_year","Mint.begin_year",["self","number"],2,73,8,P6],#[60,"Mint","anvils","Mint.anvils",["self"],1,73,9,Z3],#[61,"Mint","dies","Mint.dies",["self","side"],2,73,10,Kz],#[62,"Mint","marks","Mint.marks",["self","side","die","wear"],3,73,11,EZ],#[63,"Mint","state","Mint.state",["self","die"],2,73,12,Fb],#[64,"Mint","year","Mint.year",["self"],1,73,13,EI],#[65,"Mint","struck","Mint.struck",["self"],1,73,14,Z0],#[66,"Mint","coin","Mint.coin",["self","number"],2,73,15,EG]]
abbrev con:@&(Str×D):=[("LAST_SPOT",.int 7),("MOST_COINS",.int 9),("LAST_DIE",.int 99),("LAST_YEAR",.int 9999),("SIDES",.tup [(.str "lower"),(.str "upper")]),("MOST_ANVILS",.int 9),("RULE_WORDS",.tup [(.str "coin"),(.str "lower"),(.str "upper")]),("YEAR_FIELD",.int 4),("MOST_STRUCK",.int 200)]
abbrev gd:@&(Str×@&D):=[("DIE_FIELDS",[.tup [.str "lower",.int 0],.tup [.str "upper",.int 2]])]
abbrev exc:@&Str:=["BadAnvils","BadCoin","BadNumber","BadRule","BadSide","BadSpot","BadYear","Fixed","Full","Gone","Marked","NoAnvil","NoCoin","NoDie","NotFixed","TooMany"]
abbrev c0:i3:=#[[],[],true,F.map λr=>(r.nm,r.id),con,["len","enumerate","list","tuple","isinstance","all","range","int","bool","str","max","min","sorted","set","sum","reversed"],exc,gd,[("Bounds",113),("Mint",51)],Ms.map λr=>(r.nm,r.cl,r.id),[("size","Bounds"),("full","Bounds"),("room","Bounds"),("worn_by_place","Bounds"),("later_by_place","Bounds"),("lower_dies","Bounds"),("needed_by_place","Bounds"),("bench","Mint"),("laid_off","Mint"),("lower_wear","Mint"),("upper_wear","Mint"),("present","Mint"),("output","Mint")],true,true,true]
noncomputable abbrev T:Nat->Option aV:=uv F Ms
def tx:mO c0 F Ms top Kl:=by
 refine#[rfl,rfl,by decide +kernel,by decide +kernel,by decide +kernel,by decide +kernel,?_,?_,?_,?_]
 all_goals
  repeat first
   |exact BF.nil
   |exact BM.nil
   |exact YF.nil
   |exact YM.nil
   |refine YF.cons (by kernel_rfl) ?_
   |refine YM.cons (by kernel_rfl) ?_
   |refine BF.cons (λx x x x x x=>(by(repeat refine GW λx=>?_);exact GV rfl)) ?_
   |refine BM.cons (λx x x x x x=>(by(repeat refine GW λx=>?_);exact GV rfl)) ?_
inductive uq:@&DictEntry->@&(Str×V)->Prop
 |nil:uq [] []
 |cons {h:Int} {x:Str} {t:Tok} {u:Value} {v:V} {es:@&DictEntry} {vs:@&(Str×V)} (r:RelV v u) (q:uq es vs):uq (#[h,.str x t,u]::es) ((x,v)::vs)
set_option tactic.hygienic true in
def uq.find{es vs}(x:Str)(h:uq es vs):F5 (vs.lookup x) (findBy Value.isStrOf es.toArray x):=by
 induction h with
 |nil=>trivial
 |cons r q ih =>
  rename_i h y t u v es vs;unfold findBy at ih ⊢;rw[List.find?_toArray] at ih ⊢;rw[dX,dN];by_cases e:x=y
  .rw[show(x==y)=true from by simp[e],show Value.isStrOf x (.str y t)=true from by simp[Value.isStrOf,e]];exact r
  .rw[show(x==y)=false from by simpa using e,show Value.isStrOf x (.str y t)=false from by simp[Value.isStrOf];exact λz=>e (z.symm)];exact ih
def all_mk{l:PySem.W.OpenLaw}{w:World}{K:PySem.W.Frag}{h:Heap}{mg:Str->Option Value}{fa:Addr}{Df De ze:Addr}{t0 t1 t2 t3 xg xf t5 xc xb xa t7 t8 qJ qI qH qG:Tok}{CV:Array (Option Value)}{CY:Nat}{CU:Array (Option Value)}{CW:Nat}{Sy:Nat}{oA oz:Int}(X:K.In h)(G:h.Ns mainGlobals mg)(QZ:mg "law"=!.ref fa)(I:mP K c0 F Ms top Kl)(e0:PySem.W.nsIn K mainGlobals "LAST_SPOT"=!!Value.int 7 t0)(e1:PySem.W.nsIn K mainGlobals "MOST_COINS"=!!Value.int 9 t1)(e2:PySem.W.nsIn K mainGlobals "LAST_DIE"=!!Value.int 99 t2)(e3:PySem.W.nsIn K mainGlobals "LAST_YEAR"=!!Value.int 9999 t3)(e4:PySem.W.nsIn K mainGlobals "SIDES"=!!.ref Df)(Tp:K.lookup Df=!#[.type "tuple",none,.seq (List.toArray [Value.str "lower" xg,Value.str "upper" xf]) CY,CV])(e5:PySem.W.nsIn K mainGlobals "MOST_ANVILS"=!!Value.int 9 t5)(e6:PySem.W.nsIn K mainGlobals "RULE_WORDS"=!!.ref De)(To:K.lookup De=!#[.type "tuple",none,.seq (List.toArray [Value.str "coin" xc,Value.str "lower" xb,Value.str "upper" xa]) CW,CU])(e7:PySem.W.nsIn K mainGlobals "YEAR_FIELD"=!!Value.int 4 t7)(e8:PySem.W.nsIn K mainGlobals "MOST_STRUCK"=!!Value.int 200 t8)(g0:PySem.W.nsIn K mainGlobals "DIE_FIELDS"=!!.ref ze)(SA:K.lookup ze=!#[.type "dict",none,.dict (List.toArray [#[oA,Value.str "lower" qJ,Value.int 0 qI],#[oz,Value.str "upper" qH,Value.int 2 qG]]) Sy,(List.toArray [])])(rD:oA=PyData.keyHash w.params "lower")(rC:oz=PyData.keyHash w.params "upper")(Sx:(ze==sysModules)=false)
  : ∃fd:FuncData,(∀(s:Shared) (v:Value),BindsTo s fd #[[v],[]] [("_law_script",v)])/\∀base:Heap,K.In base->base.Ns mainGlobals mg->iu l.prog w K mg base (iQ l.prog w) 80 fa fd ["_law_script"] (qq exc K 1 (b0 T 40 11)):=by
 let A:oH w K mg c0 T:=by
  refine bC4 I tx X G (λx d hx=>?_) (λx kvs hx=>?_)
  .let hm:=aS hx;simp only[c0,con,List.mem_cons,List.mem_nil_iff,or_false] at hm;rcases hm with z|z|z|z|z|z|z|z|z
   .cases z;exact#[(.int 7),_,bO X G e0,#[_,rfl],λy y=>.int _]
   .cases z;exact#[(.int 9),_,bO X G e1,#[_,rfl],λy y=>.int _]
   .cases z;exact#[(.int 99),_,bO X G e2,#[_,rfl],λy y=>.int _]
   .cases z;exact#[(.int 9999),_,bO X G e3,#[_,rfl],λy y=>.int _]
   .cases z;exact#[.ref Df,_,bO X G e4,rfl,λy y=>.tup (vs:=[.str "lower",.str "upper"]) (.inr #[_,_,_,Tp,rfl,rfl,rfl,(by change 2<=sizeLine;decide),.cons #[_,rfl] (.cons #[_,rfl] (.nil))]) (.cons (.str _) (.cons (.str _) (.nil)))]
   .cases z;exact#[(.int 9),_,bO X G e5,#[_,rfl],λy y=>.int _]
   .cases z;exact#[.ref De,_,bO X G e6,rfl,λy y=>.tup (vs:=[.str "coin",.str "lower",.str "upper"]) (.inr #[_,_,_,To,rfl,rfl,rfl,(by change 3<=sizeLine;decide),.cons #[_,rfl] (.cons #[_,rfl] (.cons #[_,rfl] (.nil)))]) (.cons (.str _) (.cons (.str _) (.cons (.str _) (.nil))))]
   .cases z;exact#[(.int 4),_,bO X G e7,#[_,rfl],λy y=>.int _]
   .cases z;exact#[(.int 200),_,bO X G e8,#[_,rfl],λy y=>.int _]
  .let hm:=aS hx;simp only[c0,gd,List.mem_cons,List.mem_nil_iff,or_false] at hm;let z:=hm
   .cases z;let er:uq [#[oA,Value.str "lower" qJ,Value.int 0 qI],#[oz,Value.str "upper" qH,Value.int 2 qG]] [("lower",.int 0),("upper",.int 2)]:=.cons (v:=.int 0) #[_,rfl] (.cons (v:=.int 2) #[_,rfl] (.nil));exact#[ze,_,bO X G g0,#[_,_,SA,#[#[_,_,rfl,rD],#[#[_,_,rfl,rC],True.intro]],Sx,λx=>er.find x],.cons (λy y=>.int _) (.cons (λy y=>.int _) (.nil))]
 let#[f,fd,O,a,t]:=MW I tx _ (aB (i:=57) rfl);cases QZ.symm.trans (bO X G a);let#[oc,od,kV,doc,pm,an,gs,ct,nH,rfl,lk,nk]:=O.fn.ex;exact#[_,λs v=>.of_eq rfl,λbase oi wQ=>Zu oi wQ A 40 11 _ _ fa _ rfl O]
def walk{l:PySem.W.OpenLaw}{q:Program}{loose:@&Str}{XP:(Str->Option Value)->Heap->Prop}{YP:World->Heap->Prop}{d:DefRec}{K:Params->PySem.W.Frag}(hn:l.most=!63)(wz:d.params.defaults=[])(hY:∀(w:World) (h:Heap),YP w h->(K w.params).In h)(F:∀ (w:World) (mg:Str->Option Value) (fa:Addr) (h:Heap),(K w.params).In h->h.Ns mainGlobals mg->mg d.name=!.ref fa ->
   ∃ fd:FuncData,(∀ (s:Shared) (u:Value),BindsTo s fd #[[u],[]] [("_law_script",u)])/\∀ base:Heap,(K w.params).In base->base.Ns mainGlobals mg->iu l.prog w (K w.params) mg base (iQ l.prog w) 80 fa fd ["_law_script"] (qq exc (K w.params) 1 (b0 T 40 11))) :
  PySem.W.WalkO q loose XP YP l.row.toRowW d [] (λf vs=>PySem.call f vs) :=
 L2.Vw (n:=63) (k:=80) (x:="_law_script") (CX:=λw=>iQ l.prog w) (sp:=λw=>qq exc (K w.params) 1 (b0 T 40 11)) hn ∅ wz #[rfl,by decide,by decide] hY F (λw H a ns hl hO hS=>bM9 hO hS (Wd (k:=28) #[#[#[#[#[rfl,rfl],rfl,rfl,rfl,rfl,rfl,rfl,rfl,rfl,rfl,rfl,rfl,rfl,rfl,rfl],rfl,rfl,rfl,rfl,rfl,rfl,rfl],rfl,rfl,rfl,rfl,rfl,rfl],#[#[#[rfl,rfl],rfl,rfl,#[rfl,rfl],#[rfl,rfl],rfl,rfl,rfl,rfl,rfl,rfl,rfl,rfl,rfl,rfl,rfl,rfl,rfl,rfl,rfl,rfl],rfl,rfl,rfl],#[rfl,rfl,rfl,rfl,rfl,rfl,rfl],#[rfl,rfl,rfl],#[rfl,rfl],#[rfl,rfl],#[rfl,rfl],rfl,rfl,rfl,rfl,rfl,rfl,rfl])) (by rintro _ _ _ _ _ ⟨_,_,_,_,_,_,_,z⟩;exact z)
end Lk
end _X
open _X
open PySem PySem.W PyProof.Rows
set_option maxRecDepth 100000 in
set_option maxHeartbeats 0 in
theorem PySem.Challenge.cw_trussel_k56_whole_orders_struck_anew_holds : PySem.Challenge.rw_trussel_k56_whole_orders_struck_anew.Holds := by
 w_on;o_law;k_head;(case hw=>w_witness2)
 k_fill
 refine Lk.walk (l:=PySem.Challenge.rw_trussel_k56_whole_orders_struck_anew) rfl rfl (fun w h Y=>PySem.W.kIn_of Y) ?F
 case F =>
  intro w mg fa h KX G hmg
  refine' Lk.all_mk KX G hmg ⟨?zz1,?zz2,?zz3,?zz4,?zz5,?zz6,?zz7⟩ ?_ ?_ ?_ ?_ ?_ ?_ ?_ ?_ ?_ ?_ ?_ ?_ ?_ ?_ ?_ ?_
  (case zz1=>repeat' first | (with_reducible show _=_;k_is) | exact M.PF.nil | apply M.PF.cons)
  (case zz2=>repeat' first | (with_reducible show _=_;k_is) | exact M.PM.nil | apply M.PM.cons)
  (case zz3=>repeat' first | (with_reducible show _=_;k_is) | exact M.PC.nil | apply M.PC.cons)
  (case zz4=>repeat' first | (with_reducible show _=_;k_is) | exact M.PA.nil | apply M.PA.cons)
  (case zz5=>repeat' first | (with_reducible show _=_;k_is) | exact M.PB.nil | apply M.PB.cons)
  (case zz6=>repeat' first | (with_reducible show _=_;first | (with_reducible show PySem.W.excIn _ _ _ _=true;k_exc) | k_is) | exact M.PX.nil | apply M.PX.cons)
  (case zz7=>kernel_rfl)
  all_goals try (with_reducible show _=_;k_is)
  all_goals try ((with_reducible show _=_);rfl)
#print axioms PySem.Challenge.cw_trussel_k56_whole_orders_struck_anew_holds
