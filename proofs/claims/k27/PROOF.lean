import PyProof.Rows.All
import Wide.All
import OpenK.AllK
import Wide.FinOn
import Lean
import PyProof.EqAt
import PyProof.EqKinds
import PyProof.TupleCall
import PySem.Challenge.RW_trussel_k27_whole_what_shows_firsts
set_option Elab.async false
set_option linter.all false
set_option maxRecDepth 100000
set_option maxHeartbeats 4000000
set_option genInjectivity false
set_option bootstrap.genMatcherCode false
set_option genSizeOf false
local macro_rules|`(def $i:declId $s:optDeclSig $v:declVal)=>`(noncomputable def $i:declId $s:optDeclSig $v:declVal)
open Lean in
local macro_rules|`(universe $i)=>do
 let mut a:=#[]
 for n in[`PySem.Challenge.rw_trussel_k27_whole_what_shows_firsts,`PySem.Challenge.pw_trussel_k27_whole_what_shows_firsts]++((List.range 657).map (s!"o_{·}")++[41].map (s!"env_{·}")++[39,46,657].map (s!"heap_{·}")++[49,64,79,94,109,124,139,154,169,184,226,298,360,412,489,570,648].map (s!"sts_{·}")++[47,63,78,93,108,123,138,153,168,183,225,295,359,411,488,569,647,656].map (s!"tree_{·}")++[39].map (s!"view_{·}")).map (.mkStr `PySem.Challenge.cw_trussel_k27_whole_what_shows_firsts_holds) do a:=a.push (<-`(theorem $(mkIdent (.mkStr `PySem.W.Fast s!"tw{Name.hash n}")):ident:True:=⟨⟩))
 return mkNullNode a
universe x
namespace _X
set_option tactic.hygienic false
local macro_rules|`(#[$xs,*])=>`(⟨$xs,*⟩)
open Lean in
@[inline]def pw_:Nat->Term->MacroM (TSyntax `rcasesPat)
 |0,_=>Macro.throwUnsupported
 |n+1,t=>do match t with
  |`(#[$xs,*])=>do let ys<-xs.getElems.mapM (pw_ n);`(rcasesPat|⟨$[$ys:rcasesPat],*⟩)
  |`(⟨$xs,*⟩)=>do let ys<-xs.getElems.mapM (pw_ n);`(rcasesPat|⟨$[$ys:rcasesPat],*⟩)
  |`(_)=>`(rcasesPat|_)
  |`($i:ident)=>`(rcasesPat|$i:ident)
  |_=>Macro.throwUnsupported
open Lean in
local macro_rules|`(universe $_:ident)=>do
 let mut a:=Array.empty
 let I:=fun s (n:Nat)=>mkIdent (.mkSimple s!"{s}{n}")
 for (k,m) in [(0,2),(0,3),(0,4),(0,5),(0,6),(0,7),(1,1),(1,2),(1,3),(1,4),(1,5),(1,6),(1,7),(2,1),(2,2),(2,3),(2,4),(2,5),(2,6),(2,7),(3,1),(3,2),(3,3),(3,4),(3,5),(3,6),(3,7),(4,1),(4,2),(4,3),(4,4),(4,5),(4,6),(4,7),(5,1),(5,2),(5,3),(5,4),(5,5),(5,6),(5,7),(6,1),(6,2),(6,3),(6,4),(6,5),(6,6),(6,7)] do
  let xs:=(Array.range k).map (I "x")
  let hs:=(Array.range m).map (I "h")
  let ps:=(Array.range m).map (I "p")
  let G:=mkIdent `G
  let ts:=(Array.range k).map (I "a")
  let ty<-ts.foldrM (fun u t=>`($u → $t)) (<-`(Prop))
  let at_<-ps.mapM fun p=>`($p $xs*)
  let cj<-at_.pop.foldrM (fun u t=>`($u∧$t)) at_.back!
  let ex<-xs.foldrM (fun x t=>`(∃ $x:ident,$t)) cj
  let im<-at_.foldrM (fun u t=>`($u → $t)) ⟨G.raw⟩
  let al<-xs.foldrM (fun x t=>`(∀ $x:ident,$t)) im
  let ys:=xs++hs
  a:=a.push (<-`(theorem $(I s!"E{k}_" m):ident {$ps* : $ty} {$G:ident : Prop} (h : $ex) (k : $al) : $G := by obtain ⟨$[$ys:ident],*⟩:=h;exact k $ys*))
 return mkNullNode a
universe x
open Lean in
@[inline]def ex_(e:Term)(xs:Array (TSyntax `rcasesPat))(t:TSyntax `tactic):MacroM (TSyntax `tactic):=do
 let n:=xs.size
 let mut t:=t
 if n>1&&n<13 then
  let r<-xs.mapM fun p=>`(rintroPat|$p:rcasesPat)
  let c:TSyntax `tactic<-if e.raw.isIdent then`(tactic|try clear $(⟨e.raw⟩):ident)else`(tactic|skip)
  for i in[0:n]do
   let k:=n-1-i
   let f:=mkIdent (.mkSimple s!"E{k}_{n-k}")
   t<-`(tactic|first|(refine $f ($e :) ?_;$c;rintro $r*)|($t:tactic))
 return t
local macro_rules|`(tactic|let $p:term:=$e)=>do
 let q<-pw_ 9 p
 let x:Array Lean.Term:=match p with|`(#[$xs,*])=>xs.getElems|_=>.empty
 ex_ e (<-x.mapM (pw_ 9)) (<-`(tactic|obtain $q:rcasesPat:=$e))
open Lean in
local macro_rules|`(tactic|rintro $ps*)=>do
 let mut o:Array (TSyntax `tactic):=.empty
 let mut c:=false
 for p in ps do
  let mut d:TSyntax `tactic<-`(tactic|rintro $p)
  let mut q:=p.raw
  -- (p) is p
  for _ in [0:9] do
   if q.isOfKind ``Parser.Tactic.rintroPat.one then q:=q[0]
   if q.isOfKind ``Parser.Tactic.rcasesPat.paren&&q[1][1].isNone&&q[1][0][0].getNumArgs==1 then q:=q[1][0][0][0]
  if q.isOfKind ``Parser.Tactic.rcasesPat.tuple then
   let xs:Array Syntax:=q[1].getSepArgs
   if xs.size>1 then
    c:=true
    let ys<-xs.mapM fun x=>`(rcasesPat|($(⟨x⟩):rcasesPatLo))
    let z<-`(z)
    d<-`(tactic|(intro $z:term;$(<-ex_ z ys (<-`(tactic|obtain $(⟨q⟩):rcasesPat:=$z))):tactic))
  o:=o.push d
 if !c then Macro.throwUnsupported
 `(tactic|($[$o:tactic];*))
local macro_rules|`(#[])=>`(by decide +kernel)
local macro_rules|`(#[_])=>`(by simp)
local macro_rules|`(-$x:ident)=>`(($x).length)
local macro_rules|`(!$x)=>`(some $x)
local macro_rules|`(~~~$x)=>`(not $x)
open Lean in
local macro_rules|`(tactic|let $d:letDecl)=>if d.raw[0].isOfKind ``Parser.Term.letIdDecl then`(tactic|have $d:letDecl)else Macro.throwUnsupported
local macro_rules|`(@&$x)=>`(List $x)
local macro_rules|`($s⁻¹)=>`(($s).heap.objs.size)
local macro_rules|`(tactic|show $t)=>`(tactic|(walk_at"";refine $t))
local macro_rules|`(abbrev $i:declId $s:optDeclSig $v:declVal)=>`(noncomputable def $i:declId $s:optDeclSig $v:declVal)
local macro_rules|`(def $i:declId $[$b:bracketedBinder]* :$t $v:declVal)=>`(theorem $i:declId $[$b:bracketedBinder]* :$t $v:declVal)
local macro_rules|`(tactic|left)=>`(tactic|walk_at"")
local macro_rules|`(())=>`(by omega)
local macro_rules|`(∅)=>`(by decide)
local macro_rules|`(tactic|omega)=>`(tactic|lia)
open Lean in
local macro_rules|`(universe $n $a*)=>do
 let mut r:=Array.empty
 for k in[0:a.size/2]do r:=r.push (<-`(noncomputable def $(a[2*k]!):ident:=@$(mkIdent (n.getId++a[2*k+1]!.getId))))
 return mkNullNode r
universe PySem BD Walks.list BL Calls.Name_function_global Hn W.hideAll_get Ho W.callWith_K0 Hv Calls.call_function_entry Pn wpAny_newList Po W.of_hideAll Pp W.kitx_tuple Pq W.callWith_K aB Heap.lt_size aG Heap.get?_push_size aX mem_of_lookup aa wpAny_bind ao Heap.get?_push_of_some au wpAny_pure bJ wpAny_mono bO wpAny_holding bP Obj.data_mapFields bX Heap.SameBut.update bu Heap.get?_update_self cT wpAny_truthy_bool cU wpAny_setState_of cu W.mg_of cv W.kia_one dF Heap.get?_update_other dY Obj.isFreed_of_fields de wpAny_call_entry df wpAny_Call_Name_kw eA codeAny_builtin eF wpAny_newObj_type eP W.cellsFrom_some eU wpAny_setField eZ wpAny_typeOf fA intKind_is fC Heap.size_push fM wpAny_isInstance fP F.plainAttrs_list fS wpAny_standAt fb wpAny_rule fg wpAny_passesOwn fz wpAny_of_eq gF wpAny_pyIter_list gG isSubtype_type gW plainId_quiet gb F.slot_list_getattribute gk tupleKind_room_in1 gs wpAny_callSpecial?_slot iM codeAny_mono jE wpAny_comprehension_free jF F.slot_dict_get kO wpAny_execs_nil mf wpAny_field nJ wpAny_attempt nL Paired.length og call_meets pR Obj.cls_mapFields su wpAny_askSetting uq sizeLine_eq ur F.args_dict_get_3 vN codeAny_of_tree vO F.entry_dict_get yX F.type_list_pop yY F.slot_list_pop
universe Nat BG pow_lt_pow_right BH pow_le_pow_right BI eq_of_testBit_eq Pt not_lt Pu mod_lt aD le_trans aF lt_of_lt_of_le aO ne_of_lt av le_refl cR le_succ cc zero_le cw lt_irrefl cz ne_of_gt dC lt_of_le_of_lt du lt_trans dw lt_or_ge fG two_pow_pos fN one_le_two_pow fU lt_trichotomy fV le_of_eq fj le_of_lt iG lt_succ_of_lt jG eq_of_beq_eq_true jv min_eq_left mY lt_succ_self pe testBit_two_pow_sub_one za or_mod_two_eq_one
universe List BJ mem_of_mem_drop BK getElem?_append Hq reverse_append Hr mergeSort_perm Hs mem_map_of_mem Ht length_pos_iff Hu flatMap_append Pw ne_nil_of_mem Px map_replicate Py getElem?_take Pz filter_filter aA getElem?_set_ne aH mem_of_getElem? aL mem_cons aN getElem?_append_left aP mem_map aQ mem_singleton aR mem_range aT getElem?_eq_none aU any_eq_true aV mem_append aY size_toArray ag getElem?_eq_getElem ai getElem?_map ak length_map aw getElem?_eq_some_iff bB map_map bC mem_append_left bD mem_filter bE take_succ bI mem_cons_of_mem bL length_append bN take_append_drop bS take_of_length_le bV ext_getElem? bW append_assoc ba pairwise_append bf mem_append_right bh getElem?_set_self br mem_iff_getElem cB getElem?_range cE nodup_append cJ take_length cK getElem_mem cO getElem?_append_right cP flatMap_cons cS pairwise_iff_getElem cV mem_iff_getElem? cY all_eq_true cZ map_cons cj mem_of_mem_take dA length_take dD mem_cons_self dG getElem?_eq_none_iff dH drop_eq_getElem_cons dI nodup_cons dJ map_append dM append_nil da getElem?_take_of_lt dg length_eq_zero_iff dz mem_reverse eI lookup_cons eJ getElem?_replicate eO eq_nil_of_length_eq_zero eQ filter_append eR drop_eq_nil_of_le eV Perm.append_left fH range_succ fI find?_cons fO pairwise_cons fW pairwise_map fX length_range fY Perm.append_right fk map_congr_left fm filterMap_cons gw pairwise_reverse hX length_eraseIdx_of_lt iH reverse_cons iX mem_flatMap iY filter_cons_of_pos iZ filter_cons_of_neg ic findSome?_eq_none_iff ie drop_drop jH perm_append_comm jI length_filter_le jW Perm.refl ja filter_cons jj set_set jw nil_append kP map_take kQ any_cons kX mem_filterMap kY find?_eq_none lR findIdx?_eq_some_iff_getElem mK eraseIdx_eq_take_drop_succ mZ not_mem_nil mh reverse_perm mj find?_append ml filter_congr mn any_map ng nodup_range nh getElem_inj ni cons_ne_nil oh of_mem_zip oi all_append pS nodup_nil qW mem_or_eq_of_mem_set qY exists_mem_of_ne_nil uv pairwise_mergeSort vQ pairwise_lt_range vR length_pos_of_mem vS filter_eq_nil_iff zb length_singleton zc length_replicate zd findSome?_append
universe PyProof aC Rows.wpS_bind aJ Rows.wpS_pure bU Rows.callWith_type1 bZ Rows.slot_tuple_getitem ei Rows.wpS_forRange kC Rows.F.entry_set_update_loop kq Rows.K_mirror_equal nG Rows.wpS_modify nH Rows.wpS_get qV Rows.wpS_lift uu Rows.boot_tuple vP Rows.boot_list yZ Rows.boot_int
universe _root_ aE if_neg aI if_pos aM decide_eq_false az decide_eq_true bQ decide_eq_true_eq bg of_decide_eq_true bx beq_iff_eq cG getElem?_pos cI decide_eq_false_iff_not cX decide_eq_true_iff eB beq_eq_false_iff_ne eG decide_eq_decide hV congrArg
universe Option aS some.inj ae map_eq_some_iff aj bind_eq_some_iff fB isSome_iff_exists fT isSome_map pQ ne_none_iff_exists'
universe Bool aW eq_iff_iff aZ and_eq_true fK or_eq_true gf not_eq_true' iN false_or kZ false_ne_true sA not_true sv true_and
universe Array bG toList_append cC length_toList cq perm_iff_toList_perm dQ toList_push eW getElem?_toList gz getElem_eq_getD iJ size_append ij getElem?_eq_some_iff jX toList_reverse jY toList_extract jx size_push oj Perm.refl qZ getElem?_eq_getElem vT getElem?_eq_none
universe Int cH le_of_lt dO zero_add dP toNat_natCast eT emod_lt_of_pos fJ emod_nonneg fZ le_trans gH le_refl ig not_lt
def BE:=@Prod.ext
def cy:=@Ne.symm
def nK:=@Sum.inl.inj
namespace L2
open PySem PySem.Spec PyProof.Rows
variable{xs vs:@&V}{us:@&Value}{H H':Hp}{a b f C dx:Addr}{o:HO}{u:Value}{P:Program}{w:World}{h h' base:Heap}{α:Type}{x:Str}{e c tg:Expr}{X:Cx}{pi:@&(Addr×Obj)}{U:St}{s:Shared}{t' i k:Nat}{ch fp:@&Addr}{N ps:@&Str}{M:Model}{A:Around}{E Q:Value->Shared->Prop}{v:V}{t:TA}{ta tb te:TE}{pos pos' p:Pos}{K:PySem.W.Frag}{es:@&Expr}{op:CmpOp}{body:@&Stmt}{r:R2}{fd:FuncData}{CX:pb}{sp:Sp}
noncomputable abbrev Key:=Sum Int Str
abbrev Y7:Key->Value->Bool
 |.inl k,v=>Value.isInt k v
 |.inr x,v=>Value.isStrOf x v
abbrev Yl(w:World):Key->Int
 |.inl k=>hashInt k
 |.inr x=>hashStr w x
def w6:∀{k:Key} {v:Value},Y7 k v=true->(∃i t,k=Sum.inl i/\v=Value.int i t)\/(∃x t,k=Sum.inr x/\v=Value.str x t)
 |.inl i,v,h=>by
  let#[t,e]:=Value.isInt_shape (k:=i) (v:=v) h;exact .inl #[i,t,rfl,e]
 |.inr x,v,h=>by
  let#[t,e]:=Value.isStrOf_shape (x:=x) (v:=v) h;exact .inr #[x,t,rfl,e]
def a48(i:Int)(t:Tok):Y7 (.inl i) (.int i t)=true:=by simp[Y7,Value.isInt]
def a47(x:Str)(t:Tok):Y7 (.inr x) (.str x t)=true:=by simp[Y7,Value.isStrOf]
def bF5(a b:Int):decide ((Sum.inl a:Key)=Sum.inl b)=(a==b):=by
 by_cases e:a=b
 .subst e;simp
 .let h:¬(Sum.inl a:Key)=Sum.inl b:=λq=>e (nK q);rw[aM h];exact(eB.mpr e).symm
def bF2(a b:Str):decide ((Sum.inr a:Key)=Sum.inr b)=decide (a=b):=by
 simp
def bF4(a:Int)(b:Str):decide ((Sum.inl a:Key)=Sum.inr b)=false:=aM (λq=>nomatch q)
def bF3(a:Str)(b:Int):decide ((Sum.inr a:Key)=Sum.inl b)=false:=aM (λq=>nomatch q)
abbrev p8(prog:Program)(w:World):PySem.KeyKind prog w Key where
 is:=Y7
 hash:=Yl w
 inj:=λv a b ha hb=>by
  rcases w6 ha with⟨i,t,rfl,rfl⟩|⟨x,t,rfl,rfl⟩
  .rcases w6 hb with⟨j,u,rfl,e⟩|⟨y,u,rfl,e⟩
   .injection e with e1 _;rw[e1]
   .exact nomatch e
  .rcases w6 hb with⟨j,u,rfl,e⟩|⟨y,u,rfl,e⟩
   .exact nomatch e
   .injection e with e1 _;rw[e1]
 byValue:=λk v h=>by
  rcases w6 h with⟨i,t,rfl,rfl⟩|⟨x,t,rfl,rfl⟩<;>rfl
 pyHash:=λhv h=>by
  rcases w6 hv with⟨i,t,rfl,rfl⟩|⟨x,t,rfl,rfl⟩
  .exact wpAny_pyHash_int h
  .exact wpAny_pyHash_str h
 eqBool:=λhu hv h=>by
  rcases w6 hu with⟨i,t,rfl,rfl⟩|⟨x,t,rfl,rfl⟩
  .rcases w6 hv with⟨j,u,rfl,rfl⟩|⟨y,u,rfl,rfl⟩
   .rw[bF5] at h;exact wpAny_eqBool_int h
   .rw[bF4] at h;exact SeqAt.EqAt.int_str i t y u _ _ _ _ h
  .rcases w6 hv with⟨j,u,rfl,rfl⟩|⟨y,u,rfl,rfl⟩
   .rw[bF3] at h;exact SeqAt.EqAt.str_int x t j u _ _ _ _ h
   .rw[bF2] at h;exact wpAny_eqBool_str h
 «strs»:=λk x t v h=>by
  rcases w6 h with⟨i,u,rfl,e⟩|⟨y,u,rfl,e⟩
  .exact nomatch e
  .injection e with e1 _;subst e1;cases v<;>rfl
def aV3(prog:Program)(w:World)(k:Key)(v:Value):(p8 prog w).is k v=Y7 k v:=rfl
def Z1(prog:Program)(w:World)(i:Int)(t:Tok):(p8 prog w).is (.inl i) (.int i t)=true:=a48 i t
def aM4(prog:Program)(w:World)(x:Str)(t:Tok):(p8 prog w).is (.inr x) (.str x t)=true:=a47 x t
set_option genInjectivity true in
inductive V where
 |bK|bl (b:Bool)|int (i:Int)|str (x:Str)|mV (b:Array UInt8)|tR (b:UInt64)|ref (a:Addr)|ty (n:String)
 deriving DecidableEq
abbrev RelV:V->Value->Prop
 |.bK,u=>u=Value.none
 |.bl b,u=>u=Value.bool b
 |.int i,u=>∃t,u=Value.int i t
 |.str x,u=>∃t,u=Value.str x t
 |.mV b,u=>∃t,u=Value.bytes b t
 |.tR b,u=>∃t,u=Value.float b t
 |.ref a,u=>u=Value.ref a
 |.ty n,u=>u=Value.type n
noncomputable abbrev Vals:@&V->@&Value->Prop:=Paired RelV
def Vals.length{xs:@&V}{us:@&Value}(r:Vals xs us):-xs=-us:=nL r
def Vals.get:∀{xs:@&V} {us:@&Value} {i:Nat} {x:V},Vals xs us->xs[i]?=!x->∃u,us[i]?=!u/\RelV x u
 |_,_,_,_,.nil,e=>by simp at e
 |_,_,0,_,.cons r _,e=>by simp at e;subst e;exact#[_,rfl,r]
 |_,_,i+1,x,.cons _ t,e=>by
  let#[u,h1,h2]:=Vals.get (i:=i) (x:=x) t (by simpa using e);exact#[u,by simpa using h1,h2]
def Vals.set{x:V}{u:Value}(r:RelV x u):∀{xs:@&V} {us:@&Value} (i:Nat),Vals xs us->Vals (xs.set i x) (us.set i u)
 |_,_,_,.nil=>.nil
 |_,_,0,.cons _ t=>.cons r t
 |_,_,i+1,.cons q t=>.cons q (Vals.set r i t)
def Vals.append{ys:@&V}{ws:@&Value}(h:Vals xs us)(s:Vals ys ws):Vals (xs++ys) (us++ws):=by
 induction h with
 |nil=>exact s
 |cons r t ih=>exact .cons r ih
def Vals.take:∀{xs:@&V} {us:@&Value} (n:Nat),Vals xs us->Vals (xs.take n) (us.take n)
 |_,_,0,_=>.nil
 |_,_,_+1,.nil=>.nil
 |_,_,n+1,.cons r t=>.cons r (Vals.take n t)
def Vals.drop:∀{xs:@&V} {us:@&Value} (n:Nat),Vals xs us->Vals (xs.drop n) (us.drop n)
 |_,_,0,r=>r
 |_,_,_+1,.nil=>.nil
 |_,_,n+1,.cons _ t=>Vals.drop n t
abbrev K6:Option V->Option Value->Prop
 |some v,!u=>RelV v u
 |none,none=>True
 |_,_=>False
abbrev KV{κ:Type}:@&(κ×V)->@&(κ×Value)->Prop:=Paired λ(p:κ×V) (q:κ×Value)=>p.1=q.1/\RelV p.2 q.2
abbrev kV:Key->V
 |.inl i=>.int i
 |.inr x=>.str x
inductive HO where
 |lst (xs:@&V)
 |tup (xs:@&V)
 |dK (kvs:@&(Key×V))|dT (kvs:@&(List Key×V))
 |set (S:Int->Bool) (n:Nat)
 |ins (C dx:Addr) (fs:@&(Str×V))
 |own (x:Addr)
 |xd (fs:@&(Str×V))
 |met (f x:Addr)
 |nS (lo hi:Int)
 |kK (o:Obj) (u:HO)
 |lq (ps:Array Value)
 |ext (φ:Heap->Prop)
noncomputable abbrev Hp:=Addr->Option HO
abbrev upd(H:Hp)(a:Addr)(o:HO):Hp:=λb=>if b=a then some o else H b
def x5:upd H a o a=!o:=by unfold upd;rw[aI rfl]
def i7(h:b≠a):upd H a o b=H b:=by unfold upd;rw[aE h]
def bM8{u:HO}(h:H a=!o)(h':H b=!u)(d:o≠u):a≠b:=by
 intro e;subst e;rw[h] at h';exact d (aS h')
def q9(h:H a=!o)(h':H b=none):a≠b:=by
 intro e;simp_all
abbrev X5(h:Heap)(a:Addr)(items:Array Value):Prop:=∃o,h.get? a=!o/\o.cls=.type "tuple"/\(∃n,o.data=.seq items n)/\o.dict=none
def X5.tup{h:Heap}{a:Addr}{items:Array Value}(x:X5 h a items):IsTup h a items:=let ⟨o,e,c,d,_⟩:=x;#[o,e,c,d]
def X5.new(h:Heap)(items:Array Value):X5 (h.push { cls:=.type "tuple",data:=.seq items }) h.objs.size items:=#[_,aG _ rfl,rfl,#[_,rfl],rfl]
section
variable(P:Program)(w:World)
abbrev u4(H:Hp)(h:Heap)(a:Addr):HO->Prop
 |.lst xs=>-xs<=sizeLine/\∃(bA:@&Value) (n:Nat),Vals xs bA/\h.get? a=some { cls:=.type "list",data:=.seq bA.toArray n }
 |.tup xs=>-xs<=sizeLine/\∃bA:@&Value,Vals xs bA/\X5 h a bA.toArray
 |.dK kvs=>-kvs<=sizeLine/\(a==sysModules)=false/\∃vs,KV kvs vs/\h.DictOf (p8 P w) a vs
 |.dT kvs=>-kvs<=sizeLine/\(a==sysModules)=false/\∃xs:@&(List Key×Addr×Value),
   Paired (λ(p:@&Key×V) (q:@&Key×Addr×Value)=>p.1=q.1/\H q.2.1=!.tup (p.1.map kV)/\RelV p.2 q.2.2) kvs xs /\
   ∃o es ep,h.get? a=!o/\o.ExactDict/\o.data=.dict es ep/\es.toList=xs.map (entryOfKey (tupleKind (p8 P w)))/\(xs.map (·.1)).Nodup
 |.set S n=>h.SetOf (intKind P w) a S n
 |.ins C dx fs=>H dx=!.own a/\-fs<=1000/\dx≠a/\h.get? a=!PySem.W.instObj C dx /\
   ∃mA,h.Ns1 dx mA/\(∀f,K6 (fs.lookup f) (mA f))/\PySem.Within mA (fs.map (·.1))
 |.own _=>∃o,h.get? a=!o
 |.xd fs=>∃mA,h.Ns1 a mA/\∀f,K6 (fs.lookup f) (mA f)
 |.nS lo hi=>∃t u v,h.get? a=some { cls:=.type "range",data:=.fields (List.toArray [.int lo t,.int hi u,.int 1 v]) }
 |.kK o u=>h.get? a=!o/\u4 H h a u
 |.lq ps=>h.get? a=some { cls:=.none,data:=.fields ps }
 |.met f x=>h.get? a=!PySem.W.methodObj (.ref f) (.ref x)
 |.ext φ=>φ h/\(∃o,h.get? a=!o)/\∀h1 h2:Heap,φ h1->(∀o,h1.get? a=!o->h2.get? a=!o)->φ h2
abbrev gU(H:Hp)(h:Heap):Prop:=∀a o,H a=!o->u4 P w H h a o
end
def u4.lt(x:u4 P w H h a o):a<h.objs.size:=by
 cases o with
 |lst xs=>let#[_,_,_,_,e]:=x;exact aB e
 |tup xs=>let#[_,_,_,p]:=x;exact p.tup.lt
 |dK kvs=>let#[_,_,_,_,o,_,_,e,_]:=x;exact aB e
 |dT kvs=>let#[_,_,_,_,o,_,_,e,_]:=x;exact aB e
 |set S n=>let#[o,_,_,_,e,_]:=x;exact aB e
 |ins C dx fs=>let#[_,_,_,e,_]:=x;exact aB e
 |own y=>let#[_,e]:=x;exact aB e
 |xd fs=>let#[_,#[_,_,_,e,_],_]:=x;exact aB e
 |nS lo hi=>let#[_,_,_,e]:=x;exact aB e
 |kK ob u=>let#[e,_]:=x;exact aB e
 |lq ps=>exact aB (show h.get? a=some _ from x)
 |met f y=>exact aB (show h.get? a=some _ from x)
 |ext φ=>let#[_,#[_,e],_]:=x;exact aB e
def Paired.KZ{β:Type}{F G:α->β->Prop}{wH:List α}{wG:List β}(h:Paired F wH wG)(f:∀a b,F a b->G a b):Paired G wH wG:=by
 induction h with
 |nil=>exact .nil
 |cons r t ih=>exact .cons (f _ _ r) ih
def u4.K0(x:u4 P w H h a o)(k:∀b u,(b=a\/H b=!.own a)->h.get? b=!u->h'.get? b=!u)(ho:∀b,H b=!.own a->H' b=!.own a)(ht:∀b xs,H b=!.tup xs->H' b=!.tup xs):u4 P w H' h' a o:=by
 induction o with
 |lst xs=>let#[z,bA,n,r,e]:=x;exact#[z,bA,n,r,k _ _ (.inl rfl) e]
 |tup xs=>let#[z,bA,r,ob,e,c]:=x;exact#[z,bA,r,ob,k _ _ (.inl rfl) e,c]
 |dK kvs=>let#[z,y,vs,r,ob,es,ep,e,c]:=x;exact#[z,y,vs,r,ob,es,ep,k _ _ (.inl rfl) e,c]
 |dT kvs =>
  let#[z,y,xs,r,ob,es,ep,e,c]:=x;exact#[z,y,xs,Paired.KZ r λp q z=>#[z.1,ht _ _ z.2.1,z.2.2],ob,es,ep,k _ _ (.inl rfl) e,c]
 |set S n=>let#[ob,es,ep,t,e,c]:=x;exact#[ob,es,ep,t,k _ _ (.inl rfl) e,c]
 |ins C dx fs =>
  let#[d,z,ne,e,mA,#[od,es,ep,e2,c],r]:=x;exact#[ho _ d,z,ne,k _ _ (.inl rfl) e,mA,#[od,es,ep,k _ _ (.inr d) e2,c],r]
 |own y=>let#[ob,e]:=x;exact#[ob,k _ _ (.inl rfl) e]
 |xd fs=>let#[mA,#[od,es,ep,e,c],r]:=x;exact#[mA,#[od,es,ep,k _ _ (.inl rfl) e,c],r]
 |nS lo hi=>let#[t,u,v,e]:=x;exact#[t,u,v,k _ _ (.inl rfl) e]
 |kK ob u ih=>let#[e,q]:=x;exact#[k _ _ (.inl rfl) e,ih q]
 |lq ps =>
  let e:h.get? a=some { cls:=.none,data:=.fields ps }:=x;exact k a _ (.inl rfl) e
 |met f y =>
  let e:h.get? a=!PySem.W.methodObj (.ref f) (.ref y):=x;exact k a _ (.inl rfl) e
 |ext φ=>let#[p,#[o,e],st]:=x;exact#[st _ _ p λo q=>k _ _ (.inl rfl) q,#[o,k _ _ (.inl rfl) e],st]
def gU.lt(x:gU P w H h)(e:H a=!o):a<h.objs.size:=(x a o e).lt
def gU.fresh(x:gU P w H h)(e:h.objs.size<=a):H a=none:=by
 cases q:H a with
 |none=>rfl
 |some u=>exact absurd (aF (x.lt q) e) (cw _)
def gU.kept(x:gU P w H h)(k:∀b u,h.get? b=!u->h'.get? b=!u):gU P w H h':=λa o e =>
 (x a o e).K0 (λb u y q=>k b u q) (λy q=>q) λy y q=>q
def gU.laid(x:gU P w H h)(k:∀b u,h.get? b=!u->h'.get? b=!u)(hp:h.objs.size<=a)(new:u4 P w (upd H a o) h' a o):gU P w (upd H a o) h':=λb u e=>by
 let hn:=x.fresh hp;by_cases hb:b=a
 .subst hb;rw[x5] at e;simp_all
 .rw[i7 hb] at e;exact(x b u e).K0 (λc v y q=>k c v q) (λc q=>by rw[i7 (q9 q hn)];exact q) λc xs q=>by rw[i7 (q9 q hn)];exact q
abbrev Rd(H:Hp)(a:Addr)(u:HO):Prop:=H a=!u\/∃o,H a=!.kK o u
def Rd.ok{u:HO}(r:Rd H a u)(x:gU P w H h):u4 P w H h a u:=by
 rcases r with r|⟨o,r⟩
 .exact x a u r
 .let#[_,q]:=x a _ r;exact q
abbrev yR:Option HO->Prop
 |some (.lst _)=>True
 |some (.dK _)=>True
 |some (.dT _)=>True
 |some (.set _ _)=>True
 |some (.ins _ _ _)=>True
 |some (.ext _)=>True
 |_=>False
section
variable{x e:Addr}{o':HO}
def gU.write(ok:gU P w H h)(mu:yR (H x))(he:e=x\/H e=!.own x)(k:∀b u,b≠e->h.get? b=!u->h'.get? b=!u)(tG:∃u,h'.get? e=!u)(new:u4 P w (upd H x o') h' x o'):gU P w (upd H x o') h':=λb u q=>by
 let wx:∀c y,H c=!.own y->c≠x:=λc y r z=>by subst z;rw[r] at mu;exact mu
 let Cj:∀c xs,H c=!.tup xs->c≠x:=λc xs r z=>by subst z;rw[r] at mu;exact mu
 by_cases hb:b=x
 .subst hb;rw[x5] at q;cases q;exact new
 .rw[i7 hb] at q;by_cases uQ:b=e
  .let q':H b=!.own x:=by
    rcases he with z|z
    .exact absurd (uQ.trans z) hb
    .rw[uQ];exact z
   rw[q] at q';cases q';let#[v,hv]:=tG;exact#[v,by rw[uQ];exact hv]
  .refine(ok b u q).K0 (λc v hc r=>k c v ?_ r) (λc r=>by rw[i7 (wx c b r)];exact r) λc xs r=>by rw[i7 (Cj c xs r)];exact r
   rcases hc with rfl|hc
   .exact uQ
   .rintro rfl;rcases he with z|z
    .exact wx c b hc z
    .rw[hc] at z;cases z;exact hb rfl
end
structure Un(fs ex:@&Addr)(H H':Hp)(h h':Heap):Prop where
 keep:∀b o,h.get? b=!o->H b=none->b∉fs->b∉ex->h'.get? b=!o
 slot:∀b o,h.get? b=!o->H b=none->b∈fs->b∉ex->∃sl,h'.get? b=some { o with slots:=sl }
 free:∀b o,h.get? b=!o->H b=none->b∉ex->H' b=none
 there:∀b o,h.get? b=!o->b∉ex->∃o',h'.get? b=!o'
 jk:∀b xs,H b=!.tup xs->H' b=!.tup xs
 jd:∀b o u,H b=!.kK o u->H' b=!.kK o u
 jl:∀b ps,H b=!.lq ps->∃more,H' b=!.lq (ps++more)
section
variable{fs ex:@&Addr}{H1:Hp}{h1:Heap}{x e:Addr}
def Un.any(u:Un fs ex H H1 h h1){ob:Obj}(q:h.get? b=!ob)(n:H b=none)(hx:b∉ex):∃sl,h1.get? b=some { ob with slots:=sl }:=by
 by_cases hb:b∈fs
 .exact u.slot b ob q n hb hx
 .exact#[ob.slots,u.keep b ob q n hb hx]
def Un.kept(k:∀b u,h.get? b=!u->h'.get? b=!u):Un fs ex H H h h' :=
 #[λb ob q x x x=>k b ob q,λb ob q x x x=>#[ob.slots,k b ob q],λx x x n x=>n,λb ob q x=>#[ob,k b ob q],λx x q=>q,λx x x q=>q,λx ps q=>#[(List.toArray []),by rw[q];simp]]
def Un.refl:Un fs ex H H h h:=Un.kept λx x q=>q
def Un.laid(k:∀b u,h.get? b=!u->h'.get? b=!u)(hp:h.objs.size<=a)(hn:H a=none):Un fs ex H (upd H a o) h h' where
 keep:=λb u q x x x=>k b u q
 slot:=λb u q x x x=>#[u.slots,k b u q]
 free:=λb u q n x=>by rw[i7 (aO (aF (aB q) hp))];exact n
 there:=λb u q x=>#[u,k b u q]
 jk:=λb xs q=>by rw[i7 (q9 q hn)];exact q
 jd:=λb u xs q=>by rw[i7 (q9 q hn)];exact q
 jl:=λb ps q=>#[(List.toArray []),by rw[i7 (q9 q hn),q];simp]
def Un.write(mu:yR (H x))(he:e=x\/H e=!.own x)(k:∀b u,b≠e->h.get? b=!u->h'.get? b=!u)(tG:∃u,h'.get? e=!u):Un fs ex H (upd H x o) h h':=by
 let hx:∀b,H b=none->b≠x:=λb n z=>by subst z;rw[n] at mu;exact mu
 let hb:∀b,H b=none->b≠e:=λb n z=>by
  simp_all
 let hm:∀b u,H b=!u->¬yR (!u)->b≠x:=λb u q nm z=>by simp_all
 refine #[λb u q n y y=>k b u (hb b n) q,λb u q n y y=>#[u.slots,k b u (hb b n) q],λb u q n y=>by rw [i7 (hx b n)];exact n,λb u q y=>?_,
  λb xs q=>by rw [i7 (hm b _ q λz=>z)];exact q,λb u xs q=>by rw [i7 (hm b _ q λz=>z)];exact q,λb ps q=>#[(List.toArray []),by rw [i7 (hm b _ q λz=>z),q];simp]]
 by_cases uQ:b=e
 .simp_all
 .exact#[u,k b u uQ q]
end
abbrev pT(h:Heap)(H:Hp):@&Addr:=(List.range h.objs.size).filter λa=>(H a).isSome
abbrev qJ(h:Heap)(H:Hp):Heap:=PySem.W.hideAll h (pT h H)
def a53(h:Heap)(H:Hp):(qJ h H).objs.size=h.objs.size:=PySem.W.hideAll_size _ _
def WN{o:Obj}(e:h.get? b=!o)(n:H b=none):(qJ h H).get? b=!o :=
 Hn _ e λhm=>by
  let q:(H b).isSome=true:=(bD.mp hm).2;rw[n] at q;simp at q
def Vh{o:Obj}(e:(qJ h H).get? b=!o):h.get? b=!o/\H b=none:=by
 let e':h.get? b=!o:=Po (pT h H) e;refine#[e',?_];cases q:H b with
 |none=>rfl
 |some x =>
  let hm:b∈pT h H:=bD.mpr #[aR.mpr (aB e'),by simp[q]];let z:(qJ h H).get? b=none:=PySem.W.hideAll_none (pT h H) hm
  simp_all
structure Mod(K:PySem.W.Frag)(mg:Str->Option Value)(base:Heap):Prop where
 pz:K.In base
 glob:base.Ns mainGlobals mg
 blt:∃mb,base.Ns builtinsNs mb/\∀x:Str,x≠"__name__"->mb x=bootBuiltins x
 nolimit:base.NoLimit
structure Cx where
 prog:Program
 w:World
 K:PySem.W.Frag
 mg:Str->Option Value
 base:Heap
 A:Around
 N:@&Str
 dS:Shared
 ko:Hp
 env:Env
 outer:@&Env
 stack:@&Env
 ex:@&Addr
 fn:Str->Bool
 calm:Bool
 pn:@&(Addr×Obj)
 xe:Value->Shared->Prop
 sg:Option (List (Option V)):=none
abbrev Cx.Nd(X:Cx):Prop:=X.N.Nodup/\X.sg=none
abbrev gN(l:@&Env):@&Addr:=l.filterMap (·.frame)
noncomputable abbrev Cx.fs(X:Cx):@&Addr:=gN X.outer
abbrev yM(sc:Scope)(x:Str):Prop:=sc.names.lookup x=!.local\/sc.names.lookup x=!.cell\/sc.names.lookup x=!.free
abbrev Loc(sc:Scope)(x:Str):Prop:=sc.names.lookup x=!.local\/sc.names.lookup x=!.cell
abbrev Look(env:Env)(h:Heap)(m:Str->Option Value)(x:Str)(u:Value):Prop :=
 (env.kindOf x=!.local/\m x=!u)\/((env.kindOf x=!.cell\/env.kindOf x=!.free)/\∃c,env.cells.lookup x=!c/\h.IsCell c (!u))
structure Cx.Ok(X:Cx):Prop where
 mod:Mod X.K X.mg X.base
 kind:X.env.scope.kind=.function
 glob:X.env.globals=mainGlobals
 blt:X.env.builtins=builtinsNs
 above:X.dS.heap.objs.size<=X.env.locals
 inj:∀x y c,X.env.cells.lookup x=!c->X.env.cells.lookup y=!c->x=y
 has:∀x,(X.env.kindOf x=!.cell\/X.env.kindOf x=!.free)->∃c,X.env.cells.lookup x=!c
 rW:∀x c,X.fn x=true->X.env.cells.lookup x=!c->X.dS.heap.objs.size<=c
 hd:X.calm=true->X.A.handled=none
 frames:X.A.frames=!X.stack
 sH:X.stack=X.outer\/(X.stack=X.env::X.outer/\X.env.frame=!X.env.locals)
 xP:∀b∈X.ex,b≠X.env.locals/\∀x c,X.env.cells.lookup x=!c->c≠b
 bs:∀b o,X.base.get? b=!o->X.dS.heap.get? b=!o/\X.ko b=none
 oW:X.base.objs.size<=X.dS.heap.objs.size
 lE:∀b o,X.base.get? b=!o->b∉X.ex
 mI:∀b∈X.ex,b∉X.fs
 M3:X.dS.heap.FunFrames X.base X.outer
 pL:∀b∈X.fs,X.ko b=none
structure Inv(X:Cx)(pi:@&(Addr×Obj))(U:@&(Option V))(H:Hp)(s:Shared):Prop where
 ok:X.Ok
 os:s.os=X.dS.os
 bare:AllBare s.gens
 base:Un X.fs X.ex X.ko H X.dS.heap s.heap
 loc:∃m,s.heap.Ns X.env.locals m/\∀(i:Nat) (x:Str) (v:V),X.N[i]?=!x->U[i]?=!!v->yM X.env.scope x->∃u,RelV v u/\Look X.env s.heap m x u
 cell:∀x c,X.env.cells.lookup x=!c->∃v,s.heap.IsCell c v
 free:H X.env.locals=none
 ft:∀x c,X.env.cells.lookup x=!c->H c=none
 pin:∀p∈X.pn++pi,s.heap.get? p.1=!p.2/\H p.1=none/\p.1≠X.env.locals/\p.1∉X.fs/\∀v,p.2.data≠.cell v
 cb:gU X.prog X.w H s.heap
 len:-U=-X.N
 sg:∀dE,X.sg=!dE->U=dE
section
variable{U:@&(Option V)}
def Cx.Ok.Yx(ok:X.Ok){o:Obj}(e:X.base.get? b=!o):b∉X.fs:=λhb=>by
 have:=(ok.M3.mem hb).1
 simp_all
def Inv.bs(I:Inv X pi U H s):∀b o,X.base.get? b=!o->s.heap.get? b=!o/\H b=none:=λb o e =>
 #[I.base.keep b o (I.ok.bs b o e).1 (I.ok.bs b o e).2 (I.ok.Yx e) (I.ok.lE b o e),I.base.free b o (I.ok.bs b o e).1 (I.ok.bs b o e).2 (I.ok.lE b o e)]
def Inv.bk(I:Inv X pi U H s):∀b o,X.base.get? b=!o->s.heap.get? b=!o:=λb o e=>(I.bs b o e).1
def Inv.mod(I:Inv X pi U H s):Mod X.K X.mg X.base:=I.ok.mod
def Inv.iR(I:Inv X pi U H s):X.K.In s.heap:=I.ok.mod.pz.keeps I.bk
def Inv.lt(I:Inv X pi U H s):X.env.locals<s⁻¹:=let ⟨_,hn,_⟩:=I.loc;hn.lt
def Inv.sz(I:Inv X pi U H s):X.dS.heap.objs.size<=s⁻¹:=aD I.ok.above (fj I.lt)
def Inv.Ew(I:Inv X pi U H s)(h:s⁻¹<=a):a∉X.fs:=λhb=>by
 let#[_,o,ho,_]:=I.ok.M3.mem hb;exact absurd (aF (aB ho) (aD I.sz h)) (cw _)
def Inv.tU(I:Inv X pi U H s):∀x c,X.env.cells.lookup x=!c->c≠X.env.locals:=λx c e z=>by
 let#[v,o,ho,hd]:=I.cell x c e;let#[m,#[o',es,ep,pD,Ji,_],_]:=I.loc
 simp_all
def Inv.M3(I:Inv X pi U H s):s.heap.FunFrames X.base X.outer:=by
 let all:∀(l:@&Env),(∀b∈gN l,b∈X.fs)->X.dS.heap.FunFrames X.base l->s.heap.FunFrames X.base l:=by
  intro l
  induction l with
  |nil=>intro _ _;trivial
  |cons env r ih =>
   intro hs hl;let#[hk,#[L,o,hf,hn,ho,hd],hr]:=hl;let hL:L∈X.fs:=hs L (by unfold gN;rw[fm,hf];exact dD);let#[sl,e]:=I.base.slot L o ho (I.ok.pL L hL) hL λz=>I.ok.mI L z hL;exact#[hk,#[L,_,hf,hn,e,hd],ih (λb hb=>hs b (by unfold gN;rw[fm,hf];exact bI _ hb)) hr]
 exact all X.outer (λx hb=>hb) I.ok.M3
def Inv.stack(I:Inv X pi U H s):s.heap.FunFrames X.base X.stack:=by
 rcases I.ok.sH with e|⟨e,hf⟩
 .rw[e];exact I.M3
 .rw[e];let#[m,hn,_]:=I.loc;refine .cons (by rw[I.ok.kind];decide) hf hn ?_ I.M3;exact Heap.get?_none_of_le (aD I.ok.oW I.ok.above)
def Inv.V8(I:Inv X pi U H s):∀b∈gN X.stack,b∈X.env.locals::X.fs:=λb hb=>by
 rcases I.ok.sH with e|⟨e,hf⟩
 .rw[e] at hb;exact bI _ hb
 .rw[e] at hb;unfold gN at hb;rw[fm,hf] at hb;exact hb
def Inv.AK(I:Inv X pi U H s):∀b∈gN X.stack,H b=none:=λb hb=>by
 rcases aL.mp (I.V8 b hb) with e|hb
 .rw[e];exact I.free
 .let#[_,o,ho,_]:=I.ok.M3.mem hb;exact I.base.free b o ho (I.ok.pL b hb) λz=>I.ok.mI b z hb
def Inv.step{g':Array GenState}{t':Nat}{d':Drawn}{ch:@&Addr}(I:Inv X pi U H s)(mR:∀b∈ch,(b∈X.ex\/X.dS.heap.objs.size<=b)/\b≠X.env.locals/\(∀x c,X.env.cells.lookup x=!c->c≠b)/\∀p∈X.pn++pi,p.1≠b)(keep:∀b o,b≠X.env.locals->b∉X.fs->b∉ch->s.heap.get? b=!o->H b=none->h'.get? b=!o)(slot:∀b o,b≠X.env.locals->b∈X.fs->b∉ch->s.heap.get? b=!o->H b=none->∃sl,h'.get? b=some { o with slots:=sl })(free:∀b o,b∉ch->s.heap.get? b=!o->H b=none->H' b=none)(there:∀b o,b∉ch->s.heap.get? b=!o->∃o',h'.get? b=!o')(jk:∀b xs,H b=!.tup xs->H' b=!.tup xs)(jd:∀b o u,H b=!.kK o u->H' b=!.kK o u)(jl:∀b ps,H b=!.lq ps->∃more,H' b=!.lq (ps++more))(ns:∀m,s.heap.Ns X.env.locals m->h'.Ns X.env.locals m)(cb:gU X.prog X.w H' h')(hg:AllBare g') :
  Inv X pi U H' { s with heap:=h',gens:=g',drawn:=d',toks:=t' }:=by
 let HY:∀b o,X.dS.heap.get? b=!o->b≠X.env.locals:=λb o e=>aO (aF (aB e) I.ok.above);let uD:∀b o,X.dS.heap.get? b=!o->b∉X.ex->b∉ch:=λb o e hx hb=>by
  rcases(mR b hb).1 with z|z
  .exact hx z
  .exact absurd (aF (aB e) z) (cw _)
 let cellK:∀x c,X.env.cells.lookup x=!c->∀v,s.heap.IsCell c v->h'.IsCell c v:=λx c e v bH=>by
  let#[o,ho,hd]:=bH;let wC:c∉ch:=λz=>(mR c z).2.2.1 x c e rfl;by_cases hc:c∈X.fs
  .let#[sl,q]:=slot c o (I.tU x c e) hc wC ho (I.ft x c e);exact#[_,q,hd]
  .exact#[o,keep c o (I.tU x c e) hc wC ho (I.ft x c e),hd]
 refine#[I.ok,I.os,hg,#[λb o e n hb hx=>?_,λb o e n hb hx=>?_,λb o e n hx=>?_,λb o e hx=>?_,λb xs e=>jk b xs (I.base.jk b xs e),λb o xs e=>jd b o xs (I.base.jd b o xs e),λb ps e=>?_],?_,λx c e=>?_,?_,λx c e=>?_,λp hp=>?_,cb,I.len,I.sg]
 .exact keep b o (HY b o e) hb (uD b o e hx) (I.base.keep b o e n hb hx) (I.base.free b o e n hx)
 .let#[sl,e1]:=I.base.slot b o e n hb hx;let#[Qg,e2]:=slot b _ (HY b o e) hb (uD b o e hx) e1 (I.base.free b o e n hx);exact#[Qg,e2]
 .let#[o',e1]:=I.base.there b o e hx;exact free b o' (uD b o e hx) e1 (I.base.free b o e n hx)
 .let#[o',e1]:=I.base.there b o e hx;exact there b o' (uD b o e hx) e1
 .let#[m1,e1]:=I.base.jl b ps e;let#[m2,e2]:=jl b _ e1;exact#[m1++m2,by rw[e2,Array.append_assoc]]
 .let#[m,hn,hl]:=I.loc;refine#[m,ns m hn,λi x v e1 e2 e3=>?_];let#[u,r,l]:=hl i x v e1 e2 e3;refine#[u,r,?_];rcases l with l|⟨k,c,e,z⟩
  .exact .inl l
  .exact .inr #[k,c,e,cellK x c e _ z]
 .let#[v,z]:=I.cell x c e;exact#[v,cellK x c e v z]
 .let#[m,#[o,_,_,ho,_],_]:=I.loc;exact free _ o (λz=>(mR _ z).2.1 rfl) ho I.free
 .let#[v,o,ho,hd]:=I.cell x c e;exact free c o (λz=>(mR c z).2.2.1 x c e rfl) ho (I.ft x c e)
 .let#[e,n,ne,nf,d]:=I.pin p hp;let wC:p.1∉ch:=λz=>(mR p.1 z).2.2.2 p hp rfl;exact#[keep p.1 p.2 ne nf wC e n,free p.1 p.2 wC e n,ne,nf,d]
def Inv.un{t':Nat}(I:Inv X pi U H s)(u:Un X.fs [] H H' s.heap h')(cb:gU X.prog X.w H' h'):Inv X pi U H' { s with heap:=h',toks:=t' }:=by
 let#[m,#[o,es,ep,ho,r],_]:=id I.loc;let#[sl,hL]:=u.any ho I.free #[_];exact I.step (g':=s.gens) (d':=s.drawn) (ch:=[]) (λx z=>nomatch z) (λb o x hb x e n=>u.keep b o e n hb #[_]) (λb o x hb x e n=>u.slot b o e n hb #[_]) (λb o x e n=>u.free b o e n #[_]) (λb o x e=>u.there b o e #[_]) u.jk u.jd u.jl (λm' hm=>by
  let#[o',qu,DY,pD,r']:=hm;rw[ho] at pD;cases pD;exact #[_,qu,DY,hL,r']) cb I.bare
def Inv.call{g':Array GenState}{t':Nat}{d':Drawn}(I:Inv X pi U H s)(u:Un (gN X.stack) ch H H' s.heap h')(cb:gU X.prog X.w H' h')(hg:AllBare g')(mR:∀b∈ch,(b∈X.ex\/X.dS.heap.objs.size<=b)/\b≠X.env.locals/\(∀x c,X.env.cells.lookup x=!c->c≠b)/\∀p∈X.pn++pi,p.1≠b) :
  Inv X pi U H' { s with heap:=h',gens:=g',drawn:=d',toks:=t' }:=by
 let#[m,#[o,es,ep,ho,r],_]:=id I.loc;let#[sl,hL]:=u.any ho I.free λz=>(mR _ z).2.1 rfl;exact I.step (ch:=ch) mR (λb o hL hb hc e n=>u.keep b o e n (λz=>(aL.mp (I.V8 b z)).elim hL hb) hc) (λb o y y hc e n=>u.any e n hc) (λb o hc e n=>u.free b o e n hc) (λb o hc e=>u.there b o e hc) u.jk u.jd u.jl (λm' hm=>by
  let#[o',qu,DY,pD,r']:=hm;rw[ho] at pD;cases pD;exact #[_,qu,DY,hL,r']) cb hg
def Inv.turned{t':Nat}{it:Addr}(I:Inv X pi U H s)(k:∀b o,b≠it->s.heap.get? b=!o->h'.get? b=!o)(hn:H it=none)(hL:it≠X.env.locals)(h1:it∈X.ex\/X.dS.heap.objs.size<=it)(h2:∀x c,X.env.cells.lookup x=!c->c≠it)(h3:∀p∈X.pn++pi,p.1≠it):Inv X pi U H { s with heap:=h',toks:=t' }:=by
 let HX:∀b u,H b=!u->b≠it:=λb u e z=>by simp_all
 refine I.step (g':=s.gens) (d':=s.drawn) (ch:=[it]) (λb hb=>?_) (λb o y y hc e y=>k b o (λz=>hc (by simp[z])) e) (λb o y y hc e y=>#[o.slots,k b o (λz=>hc (by simp[z])) e]) (λy y y y n=>n)
  (λb o hc e=>#[o,k b o (λz=>hc (by simp[z])) e]) (λy y e=>e) (λy y y e=>e) (λb ps e=>#[(List.toArray []),by rw[e];simp]) (λm hm=>?_) (λb u e=>?_) I.bare
 .let e:b=it:=by simpa using hb
  subst e;exact#[h1,hL,h2,h3]
 .let#[o,es,ep,ho,r]:=hm;exact#[o,es,ep,k _ o (cy hL) ho,r]
 .refine(I.cb b u e).K0 (λc v hc q=>k c v ?_ q) (λy q=>q) λy y q=>q;rcases hc with z|z
  .rw[z];exact HX b u e
  .exact HX c _ z
def Inv.tok(I:Inv X pi U H s)(t:Nat):Inv X pi U H { s with toks:=t }:=I.un (h':=s.heap) (t':=t) Un.refl I.cb
def Inv.kept{t':Nat}(I:Inv X pi U H s)(k:∀b u,s.heap.get? b=!u->h'.get? b=!u):Inv X pi U H { s with heap:=h',toks:=t' }:=I.un (Un.kept k) (I.cb.kept k)
def Inv.laid{a:Addr}{o:HO}{t':Nat}(I:Inv X pi U H s)(k:∀b u,s.heap.get? b=!u->h'.get? b=!u)(hp:s⁻¹<=a)(new:u4 X.prog X.w (upd H a o) h' a o) :
  Inv X pi U (upd H a o) { s with heap:=h',toks:=t' }:=I.un (Un.laid k hp (I.cb.fresh hp)) (I.cb.laid k hp new)
def Inv.write{x e:Addr}{o:HO}{t':Nat}(I:Inv X pi U H s)(mu:yR (H x))(he:e=x\/H e=!.own x)(k:∀b u,b≠e->s.heap.get? b=!u->h'.get? b=!u)(tG:∃u,h'.get? e=!u)(new:u4 X.prog X.w (upd H x o) h' x o):Inv X pi U (upd H x o) { s with heap:=h',toks:=t' }:=I.un (Un.write mu he k tG) (I.cb.write mu he k tG new)
def Inv.weak{cA:@&(Option V)}(hs:X.sg=none)(I:Inv X pi U H s)(hl:-cA=-U)(w:∀(i:Nat) v,cA[i]?=!!v->U[i]?=!!v):Inv X pi cA H s :=
 #[I.ok,I.os,I.bare,I.base,let ⟨m,hn,xh⟩:=I.loc;#[m,hn,λi x v e1 e2 e3=>xh i x v e1 (w i v e2) e3],I.cell,I.free,I.ft,I.pin,I.cb,hl.trans I.len,λy z=>by simp_all]
def Inv.yA{gC:@&(Addr×Obj)}(I:Inv X pi U H s)(h:∀p∈gC,s.heap.get? p.1=!p.2/\H p.1=none/\p.1≠X.env.locals/\p.1∉X.fs/\∀v,p.2.data≠.cell v):Inv X gC U H s :=
 #[I.ok,I.os,I.bare,I.base,I.loc,I.cell,I.free,I.ft,λp hp=>(aV.mp hp).elim (λz=>I.pin p (bC _ z)) (h p),I.cb,I.len,I.sg]
def NY(hN:N.Nodup){j:Nat}(a:N[i]?=!x)(b:N[j]?=!x):i=j:=by
 let#[h1,e1]:=aw.mp a;let#[h2,e2]:=aw.mp b;exact(nh hN).mp (e1.trans e2.symm)
def Lx{Q:Unit->Shared->Prop}(I:Inv X pi U H s)(hN:X.Nd)(hi:X.N[i]?=!x)(hx:Loc X.env.scope x)(r:RelV v u)(h:∀s',Inv X pi (U.set i (!v)) H s'->(∃a,Heap.SameBut a s.heap s'.heap/\(a=X.env.locals\/X.env.cells.lookup x=!a))->Q Unit.unit s')(hf:X.fn x=true\/X.env.scope.names.lookup x=!.local:=by first|exact .inl rfl|exact .inr rfl|assumption):wpAny M A (storeName X.env x u) Q E s:=by
 let#[m,hn,hl]:=id I.loc;let qj:(X.env.scope.kind==.class||(X.env.scope.kind==.module&&X.env.locals != X.env.globals))=false:=by rw[I.ok.kind];rfl
 let xn:i< -U:=by rw[I.len];exact(aw.mp hi).1
 let tU:=I.tU;let tracked:∀{a:Addr} {h':Heap},(∃o,s.heap.get? a=!o/\H a=none)->Heap.SameBut a s.heap h'->gU X.prog X.w H h':=λ{a h'} ha hs b ob e=>by
  let#[_,_,rF]:=ha;refine(I.cb b ob e).K0 (λc w' hc q=>(hs.2 c ?_).trans q) (λt q=>q) λt t q=>q;rintro rfl;rcases hc with rfl|hc
  .rw[rF] at e;cases e
  .rw[rF] at hc;cases hc
 rcases hx with hk|hk
 .refine wpAny_storeName_local hk hn (λh' Rj hs=>?_) qj;let#[oL,_,_,qe,_]:=id hn;refine h _ #[I.ok,I.os,I.bare,#[λb o e n hb hx=>?_,λb o e n hb hx=>?_,I.base.free,λb o e hx=>?_,I.base.jk,I.base.jd,I.base.jl],#[_,Rj,λj y v' e1 e2 e3=>?_],λy c e=>?_,I.free,I.ft,λp hp=>?_,tracked #[oL,qe,I.free] hs,by simpa using I.len,λt z=>by rw[hN.2] at z;cases z] #[_,hs,.inl rfl]
  .exact(hs.2 b (aO (aF (aB e) I.ok.above))).trans (I.base.keep b o e n hb hx)
  .let#[sl,e1]:=I.base.slot b o e n hb hx;exact#[sl,(hs.2 b (aO (aF (aB e) I.ok.above))).trans e1]
  .let#[o',e1]:=I.base.there b o e hx;exact#[o',(hs.2 b (aO (aF (aB e) I.ok.above))).trans e1]
  .by_cases hj:j=i
   .subst hj;rw[hi] at e1;cases e1;rw[bh xn] at e2;cases e2;exact#[u,r,.inl #[hk,by simp]]
   .rw[aA (cy hj)] at e2;let#[u',r',q]:=hl j y v' e1 e2 e3;refine#[u',r',?_];rcases q with⟨k,e⟩|⟨k,c,e,z⟩
    .refine .inl #[k,?_];have:y≠x:=λe=>hj (NY hN.1 e1 (e▸hi));simp[this,e]
    .exact .inr #[k,c,e,z.sameBut hs (tU y c e)]
  .let#[w',z]:=I.cell y c e;exact#[w',z.sameBut hs (tU y c e)]
  .let#[e,n,ne,nf,d]:=I.pin p hp;exact#[(hs.2 p.1 ne).trans e,n,ne,nf,d]
 .let uO:X.fn x=true:=by
   simp_all
  let#[c,hc]:=I.ok.has x (.inl hk);let#[w',z]:=I.cell x c hc;refine wpAny_storeName_cell I.ok.kind hk hc z (λh' jU hs=>?_);let#[oc,CN,CM]:=id z;refine h { s with heap:=h' } #[I.ok,I.os,I.bare,#[λb o e n hb hx=>?_,λb o e n hb hx=>?_,I.base.free,λb o e hx=>?_,I.base.jk,I.base.jd,I.base.jl],#[m,hn.sameBut hs (cy (tU x c hc)),λj y v' e1 e2 e3=>?_],λy c' e=>?_,I.free,I.ft,λp hp=>?_,tracked #[oc,CN,I.ft x c hc] hs,by simpa using I.len,λt z=>by rw[hN.2] at z;cases z] #[c,hs,.inr hc]
  .exact(hs.2 b (aO (aF (aB e) (I.ok.rW x c uO hc)))).trans (I.base.keep b o e n hb hx)
  .let#[sl,e1]:=I.base.slot b o e n hb hx;exact#[sl,(hs.2 b (aO (aF (aB e) (I.ok.rW x c uO hc)))).trans e1]
  .let#[o',e1]:=I.base.there b o e hx;exact#[o',(hs.2 b (aO (aF (aB e) (I.ok.rW x c uO hc)))).trans e1]
  .by_cases hj:j=i
   .subst hj;rw[hi] at e1;cases e1;rw[bh xn] at e2;cases e2;exact#[u,r,.inr #[.inl hk,c,hc,jU]]
   .rw[aA (cy hj)] at e2;let#[u',r',q]:=hl j y v' e1 e2 e3;refine#[u',r',?_];rcases q with q|⟨k,c',e,z'⟩
    .exact .inl q
    .refine .inr #[k,c',e,z'.sameBut hs ?_];rintro rfl;exact hj (NY hN.1 e1 (I.ok.inj _ _ _ e hc▸hi))
  .by_cases uP:c'=c
   .subst uP;exact#[_,jU]
   .let#[w2,z2]:=I.cell y c' e;exact#[w2,z2.sameBut hs uP]
  .let#[e,n,ne,nf,d]:=I.pin p hp;refine#[(hs.2 p.1 ?_).trans e,n,ne,nf,d];intro q;rw[q,CN] at e;let q':oc=p.2:=aS e;exact d w' (by rw[<- q'];exact CM)
def Fe{Q:Unit->Shared->Prop}(I:Inv X pi U H s)(hN:X.Nd)(hi:X.N[i]?=!x)(hx:Loc X.env.scope x)(r:RelV v u)(h:∀s',Inv X pi (U.set i (!v)) H s'->Q Unit.unit s')(hf:X.fn x=true\/X.env.scope.names.lookup x=!.local:=by first|exact .inl rfl|exact .inr rfl|assumption):wpAny M A (storeName X.env x u) Q E s :=
 Lx I hN hi hx r (λs' I' y=>h s' I') hf
def Inv.FU{s':Shared}(I:Inv X pi U H s)(ho:s'.os=s.os)(u:Un (gN X.stack) ch H H' s.heap s'.heap)(cb:gU X.prog X.w H' s'.heap)(hg:AllBare s'.gens)(mR:∀b∈ch,(b∈X.ex\/X.dS.heap.objs.size<=b)/\b≠X.env.locals/\(∀x c,X.env.cells.lookup x=!c->c≠b)/\∀p∈X.pn++pi,p.1≠b):Inv X pi U H' s':=by
 let#[h',g',d',t',o']:=s';let e:o'=s.os:=ho;subst e;exact I.call (g':=g') (t':=t') (d':=d') u cb hg mR
end
noncomputable abbrev XK:=Value->Option Addr->Hp->Prop
noncomputable abbrev St:=@&(Option V)
noncomputable abbrev VK:=V->Hp->Prop
noncomputable abbrev TE:=St->Hp->VK->Prop
noncomputable abbrev TT:=St->Hp->(Bool->Hp->Prop)->Prop
noncomputable abbrev TA:=St->Hp->(List V->Hp->Prop)->Prop
structure Ends where
 nx:St->Hp->Prop
 rt:VK
 bk:St->Hp->Prop:=λ_ _=>False
 ct:St->Hp->Prop:=λ_ _=>False
noncomputable abbrev TS:=Ends->St->Hp->Prop
abbrev EP(X:Cx)(pi:@&(Addr×Obj))(U:St)(Q:VK)(u:Value)(s':Shared):Prop:=∃v H',Inv X pi U H' s'/\RelV v u/\Q v H'
abbrev TP(X:Cx)(pi:@&(Addr×Obj))(U:St)(Q:Bool->Hp->Prop)(b:Bool)(s':Shared):Prop:=∃H',Inv X pi U H' s'/\Q b H'
abbrev AP(X:Cx)(pi:@&(Addr×Obj))(U:St)(Q:@&V->Hp->Prop)(us:@&Value)(s':Shared):Prop:=∃vs H',Inv X pi U H' s'/\Vals vs us/\Q vs H'
abbrev SP(X:Cx)(pi:@&(Addr×Obj))(D:Ends)(f:Flow)(s':Shared):Prop :=
 match f with
 |.next=>∃cA H',Inv X pi cA H' s'/\D.nx cA H'
 |.brk=>∃cA H',Inv X pi cA H' s'/\D.bk cA H'
 |.cont=>∃cA H',Inv X pi cA H' s'/\D.ct cA H'
 |.ret u=>∃v cA H',Inv X pi cA H' s'/\RelV v u/\D.rt v H'
abbrev PE(X:Cx)(e:Expr)(t:TE):Prop :=
 ∀(pi:@&(Addr×Obj)) (s:Shared) (U:St) (H:Hp) (Q:VK),Inv X pi U H s->t U H Q->wpAny (model X.prog X.w) X.A (eval e X.env) (EP X pi U Q) X.xe s
abbrev PT(X:Cx)(e:Expr)(t:TT):Prop :=
 ∀(pi:@&(Addr×Obj)) (s:Shared) (U:St) (H:Hp) (Q:Bool->Hp->Prop),Inv X pi U H s->t U H Q->wpAny (model X.prog X.w) X.A (isTrue e X.env (eval e X.env)) (TP X pi U Q) X.xe s
abbrev PW(X:Cx)(e:Expr)(t:TT):Prop :=
 ∀(whole:Sem Value) (pi:@&(Addr×Obj)) (s:Shared) (U:St) (H:Hp) (Q:Bool->Hp->Prop),Inv X pi U H s->t U H Q->wpAny (model X.prog X.w) X.A (isTrue e X.env whole) (TP X pi U Q) X.xe s
def PW.pt{t:TT}(h:PW X e t):PT X e t:=h _
abbrev PA(X:Cx)(es:@&Expr)(t:TA):Prop :=
 ∀(pos:Pos) (pi:@&(Addr×Obj)) (s:Shared) (U:St) (H:Hp) (Q:@&V->Hp->Prop),Inv X pi U H s->t U H Q->wpAny (model X.prog X.w) X.A (spliced (backTo pos (starEach es X.env))) (AP X pi U Q) X.xe s
abbrev PS(X:Cx)(st:Stmt)(t:TS):Prop :=
 ∀(pi:@&(Addr×Obj)) (s:Shared) (U:St) (H:Hp) (D:Ends),Inv X pi U H s->t D U H->wpAny (model X.prog X.w) X.A (exec st X.env) (SP X pi D) X.xe s
abbrev jV(X:Cx)(st:@&Stmt)(t:TS):Prop :=
 ∀(pi:@&(Addr×Obj)) (s:Shared) (U:St) (H:Hp) (D:Ends),Inv X pi U H s->t D U H->wpAny (model X.prog X.w) X.A (execs st X.env) (SP X pi D) X.xe s
def dj{t:Sem α}{Q Q':α->Shared->Prop}(h:wpAny M A t Q E s)(hQ:∀a s,Q a s->Q' a s):wpAny M A t Q' E s:=bJ h hQ λy y x=>x
section
def bin{a b:Expr}(ha:PE X a ta)(hb:PE X b tb){R:V->V->Hp->Prop}(I:Inv X pi U H s)(h:ta U H λx H1=>tb U H1 λy H2=>R x y H2){Q:α->Shared->Prop}{f:Value->Value->Sem α}(hf:∀v u s2 x y H2,Inv X pi U H2 s2->RelV x v->RelV y u->R x y H2->wpAny (model X.prog X.w) X.A (f v u) Q X.xe s2) :
  wpAny (model X.prog X.w) X.A (eval a X.env) (λv bT=>wpAny (model X.prog X.w) X.A (eval b X.env) (λu gB=>wpAny (model X.prog X.w) X.A (f v u) Q X.xe gB) X.xe bT) X.xe s:=by
 refine dj (ha pi s U H _ I h) λv s1 bH=>?_;let#[x,H1,I1,r1,q1]:=bH;refine dj (hb pi s1 U H1 _ I1 q1) λu s2 bH=>?_;let#[y,H2,I2,r2,q2]:=bH;exact hf v u s2 x y H2 I2 r1 r2 q2
abbrev Ze(i:Nat):TE:=λU H Q=>∃v,U[i]?=!!v/\Q v H
abbrev tC(v:V):TE:=λx H Q=>Q v H
def bB2(hN:X.N[i]?=!x)(hv:yM X.env.scope x)(hd:(x==("__debug__":Str))=false:=by decide)(nA:(x==("__classdict__":Str))=false:=by decide):PE X (.Name x pos) (Ze i):=by
 intro pi s U H Q I h;let#[v,e,h]:=h;let#[m,hn,hl]:=I.loc;let#[u,r,l]:=hl i x v hN e hv;let fin:EP X pi U Q u s:=#[v,H,I,r,h]
 rcases l with⟨hk,hm⟩|⟨hk,c,hc,mS⟩
 .exact wpAny_Name (wpAny_loadName_local I.ok.kind hk hn hm fin) hd
 .rcases hk with hk|hk
  .exact wpAny_Name (wpAny_loadName_cell I.ok.kind hk hc mS fin) hd
  .exact wpAny_Name (wpAny_loadName_free I.ok.kind hk hc mS fin nA) hd
def bB9{i j pos}:PE X (.Constant (.int i) j pos) (tC (.int i)):=λx x x H x I h=>wpAny_Constant_int #[.int i,H,I.tok _,#[_,rfl],h]
def bL9{b j pos}:PE X (.Constant (.bool b) j pos) (tC (.bl b)):=λx x x H x I h=>Constant_bool #[.bl b,H,I,rfl,h]
def bB7{j pos}:PE X (.Constant .none j pos) (tC .bK):=λx x x H x I h=>Constant_none #[.bK,H,I,rfl,h]
def bB4{x j pos}:PE X (.Constant (.str x) j pos) (tC (.str x)):=λy y y H y I h=>Calls.Constant_str #[.str x,H,I.tok _,#[_,rfl],h]
abbrev Gl(X:Cx)(x:Str):Prop:=X.env.kindOf x=!.globalImplicit
def Q3(I:Inv X pi U H s)(hg:Gl X x)(hm:X.mg x=!u)(h:Q u s)(hd:(x==("__debug__":Str))=false:=by decide):wpAny (model X.prog X.w) X.A (eval (.Name x pos) X.env) Q E s :=
 BL I.ok.kind hg (Calls.loadGlobal_global (by rw[I.ok.glob];exact I.mod.glob.keeps I.bk) hm h) hd
def O1(I:Inv X pi U H s)(hg:Gl X x)(hm:X.mg x=none)(hv:bootBuiltins x=!u)(h:Q u s)(hn:x≠"__name__":=by decide)(hd:(x==("__debug__":Str))=false:=by decide):wpAny (model X.prog X.w) X.A (eval (.Name x pos) X.env) Q E s:=by
 let#[mb,h1,h2]:=I.mod.blt;exact BL I.ok.kind hg (Calls.loadGlobal_builtin (by rw[I.ok.glob];exact I.mod.glob.keeps I.bk) hm (by rw[I.ok.blt];exact h1.keeps I.bk) ((h2 x hn).trans hv) h) hd
def Nt(hg:Gl X x)(hm:X.mg x=!u)(r:RelV v u)(hd:(x==("__debug__":Str))=false:=by decide):PE X (.Name x pos) (tC v) :=
 λy y y H y I h=>Q3 I hg hm #[v,H,I,r,h] hd
def Vq(hg:Gl X x)(hm:X.mg x=none)(hv:bootBuiltins x=!u)(r:RelV v u)(hn:x≠"__name__":=by decide)(hd:(x==("__debug__":Str))=false:=by decide):PE X (.Name x pos) (tC v) :=
 λy y y H y I h=>O1 I hg hm hv #[v,H,I,r,h] hn hd
variable{a b:Expr}
variable{tA zj:TT}{rest:@&Expr}
abbrev YT(t u:TT):TT:=λU H Q=>t U H λc H1=>if c=true then u U H1 Q else Q false H1
abbrev PZ(t u:TT):TT:=λU H Q=>t U H λc H1=>if c=true then Q true H1 else u U H1 Q
abbrev Y'(t:TT):TT:=λU H Q=>t U H λc H1=>Q (~~~c) H1
def VH(ha:PT X a tA):PW X (.BoolOp .And [a] pos) tA:=by
 intro wh pi s U H Q I h;refine isTrue_and (dj (ha pi s U H Q I h) λc s1 e=>?_);cases c with
 |true=>exact isTrue_and_nil e
 |false=>exact e
def Tt(ha:PT X a tA):PW X (.BoolOp .Or [a] pos) tA:=by
 intro wh pi s U H Q I h;refine isTrue_or (dj (ha pi s U H Q I h) λc s1 e=>?_);cases c with
 |false=>exact isTrue_or_nil e
 |true=>exact e
def Ts(ha:PT X a tA)(hb:PW X (.BoolOp .And (b::rest) pos) zj):PW X (.BoolOp .And (a::b::rest) pos) (YT tA zj):=by
 intro wh pi s U H Q I h;refine isTrue_and (dj (ha pi s U H _ I h) ?_);rintro c s1 ⟨H1,I1,q1⟩;cases c with
 |true=>exact hb wh pi s1 U H1 Q I1 q1
 |false=>exact#[H1,I1,q1]
def bL2(ha:PT X a tA)(hb:PW X (.BoolOp .Or (b::rest) pos) zj):PW X (.BoolOp .Or (a::b::rest) pos) (PZ tA zj):=by
 intro wh pi s U H Q I h;refine isTrue_or (dj (ha pi s U H _ I h) ?_);rintro c s1 ⟨H1,I1,q1⟩;cases c with
 |true=>exact#[H1,I1,q1]
 |false=>exact hb wh pi s1 U H1 Q I1 q1
def bA0(ha:PT X a tA):PT X (.UnaryOp .Not a pos) (Y' tA):=by
 intro pi s U H Q I h;exact isTrue_not (ha pi s U H (λc H1=>Q (~~~c) H1) I h)
abbrev bK1(ta tb:TE):TE:=λU H Q=>ta U H λx H1=>∃c,x=.bl c/\if c=true then tb U H1 Q else Q (.bl false) H1
abbrev Za(ta tb:TE):TE:=λU H Q=>ta U H λx H1=>∃c,x=.bl c/\if c=true then Q (.bl true) H1 else tb U H1 Q
abbrev bJ8(ta:TE):TE:=λU H Q=>ta U H λx H1=>∃c,x=.bl c/\Q (.bl (~~~c)) H1
def bB5{op}{t:TE}(h:PE X a t):PE X (.BoolOp op [a] pos) t:=λpi s U H Q I hw=>BoolOp_one (h pi s U H Q I hw)
def bC2(ha:PE X a ta)(hb:PE X (.BoolOp .And (b::rest) pos) tb):PE X (.BoolOp .And (a::b::rest) pos) (bK1 ta tb):=by
 intro pi s U H Q I h;refine BoolOp_and (dj (ha pi s U H _ I h) λv s1 bH=>?_);let#[x,H1,I1,r1,q1]:=bH;let#[c,rfl,q1]:=q1;cases r1;refine cT ?_;cases c with
 |true=>exact hb pi s1 U H1 Q I1 q1
 |false=>exact#[.bl false,H1,I1,rfl,q1]
def bL6(ha:PE X a ta)(hb:PE X (.BoolOp .Or (b::rest) pos) tb):PE X (.BoolOp .Or (a::b::rest) pos) (Za ta tb):=by
 intro pi s U H Q I h;refine BoolOp_or (dj (ha pi s U H _ I h) λv s1 bH=>?_);let#[x,H1,I1,r1,q1]:=bH;let#[c,rfl,q1]:=q1;cases r1;refine cT ?_;cases c with
 |false=>exact hb pi s1 U H1 Q I1 q1
 |true=>exact#[.bl true,H1,I1,rfl,q1]
def bB6(ha:PE X a ta):PE X (.UnaryOp .Not a pos) (bJ8 ta):=by
 intro pi s U H Q I h;refine UnaryOp_ (dj (ha pi s U H _ I h) λv s1 bH=>?_);let#[x,H1,I1,r1,q1]:=bH;let#[c,rfl,q1]:=q1;cases r1;exact not_of (cT #[.bl (~~~c),H1,I1,rfl,q1])
abbrev Qa(t:TT)(ta tb:TE):TE:=λU H Q=>t U H λc H1=>if c=true then ta U H1 Q else tb U H1 Q
def Xh(hc:PT X c tA)(ha:PE X a ta)(hb:PE X b tb):PE X (.IfExp c a b pos) (Qa tA ta tb):=by
 intro pi s U H Q I h;refine wpAny_IfExp (dj (hc pi s U H _ I h) ?_);rintro d s1 ⟨H1,I1,q1⟩;cases d with
 |true=>exact ha pi s1 U H1 Q I1 q1
 |false=>exact hb pi s1 U H1 Q I1 q1
end
abbrev gE(K:PySem.W.Frag)(H:Hp)(a:Addr)(xs:@&V):Prop :=
 Rd H a (.lst xs) \/
  ∃(o:Obj) (bA:Array Value) (n:Nat),K.lookup a=!o/\o.cls=.type "list"/\o.dict=none/\o.data=.seq bA n/\bA.size<=sizeLine/\Vals xs bA.toList
abbrev kl(K:PySem.W.Frag)(H:Hp)(a:Addr)(xs:@&V):Prop :=
 Rd H a (.tup xs) \/
  ∃(o:Obj) (bA:Array Value) (n:Nat),K.lookup a=!o/\o.cls=.type "tuple"/\o.data=.seq bA n/\bA.size<=sizeLine/\Vals xs bA.toList
abbrev XR:Value->Option V
 |.none=>!.bK
 |.bool b=>!.bl b
 |.int i _=>!.int i
 |.str x _=>!.str x
 |.bytes b _=>!.mV b
 |.float b _=>!.tR b
 |.ref a=>!.ref a
 |.type n=>!.ty n
 |_=>none
def RelV.abs{x:V}(r:RelV x u):XR u=!x:=by
 cases x with
 |bK=>cases r;rfl
 |bl _=>cases r;rfl
 |int _=>let#[t,rfl]:=r;rfl
 |str _=>let#[t,rfl]:=r;rfl
 |mV _=>let#[t,rfl]:=r;rfl
 |tR _=>let#[t,rfl]:=r;rfl
 |ref _=>cases r;rfl
 |ty _=>cases r;rfl
def RelV.inj{x y:V}{u:Value}(r:RelV x u)(q:RelV y u):x=y:=aS (r.abs.symm.trans q.abs)
def Vals.inj{xs ys:@&V}{us:@&Value}(h:Vals xs us)(h':Vals ys us):xs=ys:=by
 induction h generalizing ys with
 |nil=>cases h';rfl
 |cons r t ih =>
  cases h' with
  |cons r' t'=>rw[r.inj r',ih t']
section
variable{ys:@&V}
def gE.of(h:H a=!.lst xs):gE K H a xs:=.inl (.inl h)
def Inv.list(I:Inv X pi U H s)(h:gE X.K H a xs):∃bA:@&Value,Vals xs bA/\PlainL s.heap a bA.toArray/\-xs<=sizeLine:=by
 rcases h with h|⟨o,bA,n,hk,hc,hd,hs,hz,r⟩
 .let#[z,bA,n,r,e]:=h.ok I.cb;exact#[bA,r,#[_,n,e,rfl,rfl,rfl],z]
 .refine#[bA.toList,r,#[o,n,I.iR a o hk,hc,hd,by simpa using hs],?_];let e:=-r
  grind
def Inv.tuple(I:Inv X pi U H s)(h:kl X.K H a xs):∃bA:@&Value,Vals xs bA/\IsTup s.heap a bA.toArray/\-xs<=sizeLine:=by
 rcases h with h|⟨o,bA,n,hk,hc,hs,hz,r⟩
 .let#[z,bA,r,p]:=h.ok I.cb;exact#[bA,r,p.tup,z]
 .refine#[bA.toList,r,#[o,I.iR a o hk,hc,n,by simpa using hs],?_];let e:=-r;simp only[Array.length_toList] at e;omega
def Inv.EW(I:Inv X pi U H s)(h:gE X.K H a xs)(h':gE X.K H a ys):xs=ys:=by
 let#[bA,r,#[o,n,e,_,_,d],_]:=I.list h;let#[its',r',#[o',n',e',_,_,d'],_]:=I.list h';rw[e] at e';cases e';rw[d] at d';injection d' with d1 _;have:bA=its':=by simpa using hV Array.toList d1
 subst this;exact r.inj r'
def Inv.a02(I:Inv X pi U H s)(h:kl X.K H a xs)(h':kl X.K H a ys):xs=ys:=by
 let#[bA,r,#[o,e,_,n,d],_]:=I.tuple h;let#[its',r',#[o',e',_,n',d'],_]:=I.tuple h';rw[e] at e';cases e';rw[d] at d';injection d' with d1 _;have:bA=its':=by simpa using hV Array.toList d1
 subst this;exact r.inj r'
end
noncomputable abbrev Cx.qR(X:Cx)(E:Value->Shared->Prop):Cx:={ X with xe:=E }
def Cx.Ok.qR{X:Cx}(ok:X.Ok)(E:Value->Shared->Prop):(X.qR E).Ok :=
 #[ok.mod,ok.kind,ok.glob,ok.blt,ok.above,ok.inj,ok.has,ok.rW,ok.hd,ok.frames,ok.sH,ok.xP,ok.bs,ok.oW,ok.lE,ok.mI,ok.M3,ok.pL]
def Cx.Ok.GW(ok:(X.qR E).Ok):X.Ok :=
 #[ok.mod,ok.kind,ok.glob,ok.blt,ok.above,ok.inj,ok.has,ok.rW,ok.hd,ok.frames,ok.sH,ok.xP,ok.bs,ok.oW,ok.lE,ok.mI,ok.M3,ok.pL]
def Inv.qR(I:Inv X pi U H s)(E:Value->Shared->Prop):Inv (X.qR E) pi U H s:=#[I.ok.qR E,I.os,I.bare,I.base,I.loc,I.cell,I.free,I.ft,I.pin,I.cb,I.len,I.sg]
def Inv.GW(I:Inv (X.qR E) pi U H s):Inv X pi U H s:=#[I.ok.GW,I.os,I.bare,I.base,I.loc,I.cell,I.free,I.ft,I.pin,I.cb,I.len,I.sg]
section
variable{st:Stmt}{rest:@&Stmt}{t u:TS}
abbrev KI:TS:=λD U H=>D.nx U H
abbrev Zc(t u:TS):TS:=λD U H=>t { D with nx:=u D } U H
def VC:jV X [] KI:=λx x U H x I h=>kO #[U,H,I,h]
def Xs(h1:PS X st t)(h2:jV X rest u):jV X (st::rest) (Zc t u):=by
 intro pi s U H D I h;refine wpAny_execs_cons (dj (h1 pi s U H { D with nx:=u D } I h) λf s1 q=>?_);cases f with
 |next =>
  let#[cA,H',I',q]:=q;exact h2 pi s1 cA H' D I' q
 |ret v=>exact q
 |brk=>exact q
 |cont=>exact q
def VA:PS X (.Pass pos) KI:=λx x U H x I h=>wpAny_Pass #[U,H,I,h]
def Inv.quiet(I:Inv X pi U H s):interactive X.env=false:=by simp[interactive,I.ok.kind]
abbrev bJ9(te:TE):TS:=λD U H=>te U H λx H1=>D.nx U H1
def Vz(he:PE X e te)(hs:swapsWith e none pos.line X.env=pure false:=by rfl):PS X (.Expr e pos) (bJ9 te):=by
 intro pi s U H D I h;exact wpAny_Expr_any (dj (he pi s U H _ I h) (by rintro v s1 ⟨x,H1,I1,r1,q1⟩;exact #[U,H1,I1,q1])) I.quiet hs
abbrev Zb(te:TE):TS:=λD U H=>te U H D.rt
def bA2(he:PE X e te):PS X (.Return (!e) pos) (Zb te):=by
 intro pi s U H D I h;exact wpAny_Return_some (dj (he pi s U H _ I h) (by rintro v s1 ⟨x,H1,I1,r1,q1⟩;exact #[x,U,H1,I1,r1,q1]))
abbrev bJ6:TS:=λD x H=>D.rt .bK H
def VB:PS X (.Return none pos) bJ6:=λx x U H x I h=>wpAny_Return_none #[.bK,U,H,I,rfl,h]
abbrev YY(c:TT)(t u:TS):TS:=λD U H=>c U H λb H1=>if b=true then t D U H1 else u D U H1
def bL3{a b:@&Stmt}{tc:TT}(hc:PT X c tc)(ha:jV X a t)(hb:jV X b u):PS X (.If c a b pos) (YY tc t u):=by
 intro pi s U H D I h;refine wpAny_If (dj (hc pi s U H _ I h) ?_);rintro d s1 ⟨H1,I1,q1⟩;cases d with
 |true=>exact ha pi s1 U H1 D I1 q1
 |false=>exact hb pi s1 U H1 D I1 q1
end
noncomputable abbrev TG:=V->St->Hp->(St->Hp->Prop)->Prop
noncomputable abbrev sf:=@&V->St->Hp->(St->Hp->Prop)->Prop
abbrev PG(X:Cx)(target:Expr)(t:TG):Prop :=
 ∀(pi:@&(Addr×Obj)) (s:Shared) (U:St) (H:Hp) (v:V) (u:Value) (Q:St->Hp->Prop),Inv X pi U H s->RelV v u->t v U H Q ->
  wpAny (model X.prog X.w) X.A (assign target X.env u) (λx s'=>∃cA H',Inv X pi cA H' s'/\Q cA H') X.xe s
abbrev yP(X:Cx)(ts:@&Expr)(t:sf):Prop :=
 ∀(pi:@&(Addr×Obj)) (s:Shared) (U:St) (H:Hp) (vs:@&V) (us:@&Value) (Q:St->Hp->Prop),Inv X pi U H s->Vals vs us->t vs U H Q ->
  wpAny (model X.prog X.w) X.A (assignInOrder ((assignEach ts X.env).map (·.2)) us) (λx s'=>∃cA H',Inv X pi cA H' s'/\Q cA H') X.xe s
noncomputable abbrev Em:=V->V->V->Hp->(Hp->Prop)->Prop
abbrev El(X:Cx)(t:Em):Prop :=
 ∀(pi:@&(Addr×Obj)) (s:Shared) (U:St) (H:Hp) (o i v:V) (ov iv u:Value) (Q:Hp->Prop),Inv X pi U H s->RelV o ov->RelV i iv->RelV v u->t o i v H Q ->
  wpAny (model X.prog X.w) X.A (setItem ov iv u) (λx s'=>∃H',Inv X pi U H' s'/\Q H') X.xe s
noncomputable abbrev Hc:=V->V->Hp->VK->Prop
abbrev Pc(X:Cx)(op:Operator)(t:Hc):Prop :=
 ∀(pi:@&(Addr×Obj)) (s:Shared) (U:St) (H:Hp) (x y:V) (v u:Value) (Q:VK),Inv X pi U H s->RelV x v->RelV y u->t x y H Q ->
  wpAny (model X.prog X.w) X.A (inplaceOp op v u) (EP X pi U Q) X.xe s
abbrev vw(i:Nat):TG:=λv U H Q=>Q (U.set i (!v)) H
def Nu(hN:X.Nd)(hi:X.N[i]?=!x)(hx:Loc X.env.scope x)(hf:X.fn x=true\/X.env.scope.names.lookup x=!.local:=by first|exact .inl rfl|exact .inr rfl|assumption):PG X (.Name x pos) (vw i):=by
 intro pi s U H v u Q I r h;exact wpAny_assign_Name (Fe I hN hi hx r (λs' I'=>#[_,H,I',h]) hf)
abbrev KR:sf:=λvs U H Q=>vs=[]/\Q U H
abbrev Kk(t:TG)(u:sf):sf:=λvs U H Q=>∃v r,vs=v::r/\t v U H λcA H'=>u r cA H' Q
def Vv:yP X [] KR:=by
 intro pi s U H vs us Q I r h;let#[e,h]:=h;exact assignInOrder_nil #[U,H,I,h]
def Xk{t:TG}{u:sf}(h1:PG X e t)(h2:yP X es u)(hs:(assignEach (e::es) X.env).map (·.2)=assign e X.env::(assignEach es X.env).map (·.2):=by rfl):yP X (e::es) (Kk t u):=by
 intro pi s U H vs us Q I r h;let#[v,vr,e1,h]:=h;subst e1;cases r with
 |cons r rr =>
  rw[hs];refine assignInOrder_cons (dj (h1 pi s U H _ _ _ I r h) λx s1 bH=>?_);let#[jz,H1,I1,q1]:=bH;exact h2 pi s1 jz H1 _ _ Q I1 rr q1
abbrev Yh(K:PySem.W.Frag)(n:Nat)(t:sf):TG:=λv U H Q=>∃a xs,v=.ref a/\kl K H a xs/\-xs=n/\t xs U H Q
def bB0{t:sf}{n:Nat}(hc:X.calm=true)(h:yP X es t)(hn:(assignEach es X.env).length=n:=by rfl)(fh:(assignEach es X.env).findIdx? (·.1)=none:=by rfl):PG X (.Tuple es k pos) (Yh X.K n t):=by
 intro pi s U H v u Q I r hw;let#[a,xs,e1,hq,hl,hw]:=hw;subst e1;cases r;let#[bA,rv,ht,hz]:=I.tuple hq;refine assign_Tuple_tuple (I.ok.hd hc) ht (by simp[hn,<- hl,(-rv)]) fh λh' hx=>?_;let I1:Inv X pi U H { s with heap:=h' }:=I.kept (t':=s.toks) λb o e=>hx b o (aO (aB e)) e;exact h pi _ U H xs _ Q I1 (by simpa using rv) hw
abbrev Yg(to ti:TE)(t:Em):TG:=λv U H Q=>to U H λo H1=>ti U H1 λi H2=>t o i v H2 λH3=>Q U H3
def bB1{o i:Expr}{to ti:TE}{t:Em}(ho:PE X o to)(hi:PE X i ti)(hs:El X t)(ha:∀ v,assign (.Subscript o i pos) X.env v=(do
   let ov <- holding [v] (eval o X.env)
   let iv <- holding [v,ov] (eval i X.env)
   standAt pos
   holding [v,ov,iv] (setItem ov iv v)
   release [v,ov,iv] []):=by intro _;rfl):PG X (.Subscript o i pos) (Yg to ti t):=by
 intro pi s U H v u Q I r h;rw[ha];refine aa (bO (dj (ho pi s U H _ I h) λov s1 bH=>?_));let#[x,H1,I1,r1,q1]:=bH;refine aa (bO (dj (hi pi s1 U H1 _ I1 q1) λiv s2 bH=>?_));let#[y,H2,I2,r2,q2]:=bH;refine aa (fS (aa (bO (dj (hs pi s2 U H2 x y v ov iv u _ I2 r1 r2 r q2) ?_))));rintro _ s3 ⟨H3,I3,q3⟩;exact wpAny_release #[U,H3,I3,q3]
abbrev yI(te:TE)(g:TG):TS:=λD U H=>te U H λx H1=>g x U H1 D.nx
def OR{g:TG}(he:PE X e te)(hg:PG X tg g)(hs:swapsWithSole [tg] e pos.line X.env=pure false:=by rfl)(hw:swappedStores [tg] e X.env=pure none:=by rfl)(h1:(assignEach [tg] X.env).map (·.2)=[assign tg X.env]:=by rfl):PS X (.Assign [tg] e pos) (yI te g):=by
 intro pi s U H D I h;refine wpAny_Assign_stores (dj (he pi s U H _ I h) λv s1 bH=>?_) hs hw;let#[x,H1,I1,r1,q1]:=bH;rw[h1];exact dj (hg pi s1 U H1 x v _ I1 r1 q1) λy s2 q=>q
def OS(hN:X.Nd)(hi:X.N[i]?=!x)(hx:Loc X.env.scope x)(he:PE X e te)(hs:swapsWith e (!.Name x pos') pos.line X.env=pure false:=by rfl)(hf:X.fn x=true\/X.env.scope.names.lookup x=!.local:=by first|exact .inl rfl|exact .inr rfl|assumption) :
  PS X (.Assign [.Name x pos'] e pos) (yI te (vw i)):=by
 intro pi s U H D I h;refine wpAny_Assign_Name (dj (he pi s U H _ I h) λv s1 bH=>?_) hs;let#[y,H1,I1,r1,q1]:=bH;exact Fe I1 hN hi hx r1 (λs2 I2=>#[_,H1,I2,q1]) hf
abbrev YU(i:Nat)(te:TE)(ti:Hc):TS:=λD U H=>∃x,U[i]?=!!x/\te U H λy H1=>ti x y H1 λz H2=>D.nx (U.set i (!z)) H2
def bA5{op:Operator}{ti:Hc}(hN:X.Nd)(hi:X.N[i]?=!x)(hx:Loc X.env.scope x)(he:PE X e te)(ho:Pc X op ti)(hf:X.fn x=true\/X.env.scope.names.lookup x=!.local:=by first|exact .inl rfl|exact .inr rfl|assumption) :
  PS X (.AugAssign (.Name x pos') op e pos) (YU i te ti):=by
 intro pi s U H D I h;let#[v,e1,h]:=h;let#[m,hn,hl]:=I.loc;let vX:yM X.env.scope x:=by rcases hx with k|k;exact .inl k;exact .inr (.inl k)
 let#[u,r,l]:=hl i x v hi e1 vX;refine wpAny_AugAssign_Name ?_;let go:wpAny (model X.prog X.w) X.A (eval e X.env) (λw gB=>wpAny (model X.prog X.w) X.A (inplaceOp op u w) (λr gh=>wpAny (model X.prog X.w) X.A (storeName X.env x r) (λt=>SP X pi D .next) X.xe gh) X.xe gB) X.xe s:=by
  refine dj (he pi s U H _ I h) λw s1 bH=>?_;let#[y,H1,I1,r1,q1]:=bH;refine dj (ho pi s1 U H1 v y u w _ I1 r r1 q1) λz s2 bH=>?_;let#[zv,H2,I2,r2,q2]:=bH;exact Fe I2 hN hi hx r2 (λs3 I3=>#[_,H2,I3,q2]) hf
 rcases l with⟨hk,hm⟩|⟨hk,c,hc,mS⟩
 .exact wpAny_loadName_local I.ok.kind hk hn hm go
 .rcases hk with hk|hk
  .exact wpAny_loadName_cell I.ok.kind hk hc mS go
  .rcases hx with k|k
   .have:X.env.scope.names.lookup x=!.free:=hk;rw[k] at this;cases this
   .have:X.env.scope.names.lookup x=!.free:=hk;rw[k] at this;cases this
abbrev Up(c:TT)(tb:TS):TS:=λD U H=>∃W:Nat->St->Hp->Prop,(∃m,W m U H)/\∀m U H,W m U H ->
 c U H λb H1=>if b=true then ∃N:St->Hp->Prop,(∀cA H',N cA H'->∃m',m'<m/\W m' cA H')/\tb { D with nx:=N,ct:=N,bk:=D.nx } U H1 else D.nx U H1
def Xr{tc:TT}{tb:TS}(hp:PassesOwn (model X.prog X.w) X.A X.env X.xe)(hc:PT X c tc)(hb:jV X body tb):PS X (.While c body [] pos) (Up tc tb):=by
 intro pi s U H D I h;let#[W,#[m0,w0],turn]:=h;refine wpAny_While (codeAny_whileLoop (λn s'=>∃cA H',Inv X pi cA H' s'/\W n cA H') ?_ m0 #[U,H,I,w0]);rintro n s1 ⟨jz,H1,I1,w1⟩;refine fg hp (dj (hc pi s1 jz H1 _ I1 (turn n jz H1 w1)) ?_);rintro b s2 ⟨H2,I2,q2⟩;cases b with
 |true =>
  let#[N,hN,q2]:=q2;refine fg hp (dj (hb pi s2 jz H2 _ I2 q2) λf s3 q3=>?_);cases f with
  |next =>
   let#[jy,H3,I3,n3]:=q3;let#[m',hm,w3]:=hN jy H3 n3;exact#[m',hm,jy,H3,I3,w3]
  |cont =>
   let#[jy,H3,I3,n3]:=q3;let#[m',hm,w3]:=hN jy H3 n3;exact#[m',hm,jy,H3,I3,w3]
  |brk=>exact q3
  |ret v=>exact q3
 |false =>
  exact kO #[jz,H2,I2,q2]
structure It where
 go:Nat->Hp->Prop
 rf:Nat->Hp->V->Hp->Prop
 stop:Nat->Hp->Prop
abbrev J1(X:Cx)(pi:@&(Addr×Obj))(H:Hp)(b:Addr):Prop :=
 H b=none/\b≠X.env.locals/\b∉X.fs/\(b∈X.ex\/X.dS.heap.objs.size<=b)/\(∀x c,X.env.cells.lookup x=!c->c≠b)/\∀p∈X.pn++pi,p.1≠b
def Inv.rY(I:Inv X pi U H s)(hb:s⁻¹<=b)(hn:H' b=none):J1 X pi H' b:=by
 refine#[hn,cz (aF I.lt hb),I.Ew hb,.inr (aD I.sz hb),λx c e z=>?_,λp hp z=>?_]
 .let#[v,q]:=I.cell x c e;exact absurd (aF q.lt (by simp_all)) (cw _)
 .exact absurd (aF (aB (I.pin p hp).1) (by simp_all)) (cw _)
structure Turn(P:Program)(w:World)(K:PySem.W.Frag)(tg:Expr)(J:It)(fp:@&Addr)(it:Addr)(tn:Nat->Heap->Prop):Prop where
 mem:it∈fp
 obj:∀i h,tn i h->∀b∈fp,∃o,h.get? b=!o/\∀v,o.data≠.cell v
 keep:∀i h h',tn i h->(∀b∈fp,∀o,h.get? b=!o->h'.get? b=!o)->tn i h'
 item:∀(X:Cx),X.prog=P->X.w=w->X.K=K->X.calm=true->∀(i:Nat) (pi:@&(Addr×Obj)) (s:Shared) (U:St) (H:Hp) (E:Value->Shared->Prop),Inv X pi U H s->(∀b∈fp,J1 X pi H b)->tn i s.heap->J.go i H ->
  wpAny (model P w) X.A (pyNext (.ref it)) (λr s1=>∃ u,r=!u /\
   wpAny (model P w) X.A (letOwnedTupleGo tg (.ref it) u) (λ_ s2=>∃ x H',Inv X pi U H' s2/\RelV x u/\J.rf i H x H'/\tn (i + 1) s2.heap/\∀ b ∈ fp,H' b=none) E s1) E s
 done:∀(X:Cx),X.prog=P->X.w=w->X.K=K->X.calm=true->∀(i:Nat) (pi:@&(Addr×Obj)) (s:Shared) (U:St) (H:Hp) (E:Value->Shared->Prop),Inv X pi U H s->(∀b∈fp,J1 X pi H b)->tn i s.heap->J.stop i H ->
  wpAny (model P w) X.A (pyNext (.ref it)) (λr s1=>r=none/\Inv X pi U H s1) E s
 self:∀(A:Around) (i:Nat) (s:Shared) (Q:Value->Shared->Prop) (E:Value->Shared->Prop),tn i s.heap->Q (.ref it) s->wpAny (model P w) A (pyIter (.ref it)) Q E s
noncomputable abbrev TI:=St->Hp->(It->Hp->Prop)->Prop
abbrev Pd(X:Cx)(pi:@&(Addr×Obj))(U:St)(tg:Expr)(R:It->Hp->Prop)(wW:Value)(s2:Shared):Prop :=
 ∃(it:Addr) (fp:@&Addr) (tn:Nat->Heap->Prop) (J:It) (H':Hp),wW=.ref it/\Inv X pi U H' s2/\Turn X.prog X.w X.K tg J fp it tn/\tn 0 s2.heap/\(∀b∈fp,J1 X pi H' b)/\R J H'
abbrev PI(X:Cx)(tg iter:Expr)(wi:TI):Prop :=
 ∀(pi:@&(Addr×Obj)) (s:Shared) (U:St) (H:Hp) (R:It->Hp->Prop),Inv X pi U H s->wi U H R ->
  wpAny (model X.prog X.w) X.A (eval iter X.env) (λv s1=>wpAny (model X.prog X.w) X.A (pyIter v) (Pd X pi U tg R) X.xe s1) X.xe s
def Bo{it:Addr}{o:Obj}{n:String}{vs:Array Value}{Q:Unit->Shared->Prop}(ho:s.heap.get? it=!o)(hc:o.cls=.type n)(hd:o.data=.fields vs)(hn:["enumerate","zip","dict_itemiterator","dict_reverseitemiterator","odict_iterator","itertools.zip_longest","itertools.pairwise"].contains n=false)(hQ:Q Unit.unit s):wpAny M A (letOwnedTupleGo tg (.ref it) u) Q E s:=by
  cases tg<;>first
    |exact au hQ
    | (cases u <;> first
        |exact au hQ
        | (refine aa (wpAny_load ho ?_)
           rw[hc,hd];change wpAny M A (if(["enumerate","zip","dict_itemiterator","dict_reverseitemiterator","odict_iterator","itertools.zip_longest","itertools.pairwise"].contains n&&vs[0]?==!rawInt _)=true then _ else _) Q E s;rw[aE (by intro h;rw[hn,Bool.false_and] at h;cases h)];exact au hQ))
abbrev Hg(K:PySem.W.Frag)(a:Addr):It :=
 #[λi H=>∃xs x,gE K H a xs/\xs[i]?=!x,λi H x H'=>H'=H/\∀xs,gE K H a xs->xs[i]?=!x,λi H=>∃xs,gE K H a xs/\-xs<=i]
abbrev Hf(K:PySem.W.Frag)(a:Addr):It :=
 #[λi H=>∃xs x,kl K H a xs/\xs[i]?=!x,λi H x H'=>H'=H/\∀xs,kl K H a xs->xs[i]?=!x,λi H=>∃xs,kl K H a xs/\-xs<=i]
abbrev yT(lo:Int)(n:Nat):It:=#[λi y=>i<n,λi H x H'=>H'=H/\x=.int (lo+i),λi y=>n<=i]
def a00(a it:Addr):Turn P w K tg (Hg K a) [it] it (λi h=>h.IsListIter it a i) where
 mem:=by simp
 obj:=λi h st b hb=>by
  let e:b=it:=by simpa using hb
  subst e;let#[o,e,c,d]:=st;exact#[o,e,λv z=>by simp_all]
 keep:=λi h h' st k=>st.at λo e=>k it #[_] o e
 item:=by
  intro X hP hw hK hc i pi s U H E I hf st hg;subst hP hw hK;let#[xs,x,hq,hx]:=hg;let#[bA,rv,p,hz]:=I.list hq;let#[u,hu,ru]:=rv.get hx;let#[f0,f1,f2,f3,f4,f5]:=hf it #[_];refine wpAny_pyNext_list_item st p.isList (x:=u) (by simpa using hu) λh' bp sb=>?_;let I1:Inv X pi U H { s with heap:=h' }:=I.turned (t':=s.toks) (λb o hb e=>(sb.2 b hb).trans e) f0 f1 f3 f4 f5;let#[o,e,c,d]:=id bp;exact#[u,rfl,Bo (s:={ s with heap:=h' }) e c d ∅ #[x,H,I1,ru,#[rfl,λys hy=>by rw[I.EW hy hq];exact hx],bp,λb hb=>(hf b hb).1]]
 done:=by
  intro X hP hw hK hc i pi s U H E I hf st hg;subst hP hw hK;let#[xs,hq,hx]:=hg;let#[bA,rv,p,hz]:=I.list hq;let#[f0,f1,f2,f3,f4,f5]:=hf it #[_];let hl:=-rv;exact wpAny_pyNext_list_end (I.ok.hd hc) st p.isList (by simp;omega) λh' eb=>#[rfl,I.turned (t':=s.toks) (λb o hb e=>eb b o hb e) f0 f1 f3 f4 f5]
 self:=λy y y y y st h=>wpAny_pyIter_listiter st h
def aS0(a it:Addr):Turn P w K tg (Hf K a) [it] it (λi h=>h.IsTupleIter it a i) where
 mem:=by simp
 obj:=λi h st b hb=>by
  let e:b=it:=by simpa using hb
  subst e;let#[o,e,c,d]:=st;exact#[o,e,λv z=>by simp_all]
 keep:=λi h h' st k=>st.at λo e=>k it #[_] o e
 item:=by
  intro X hP hw hK hc i pi s U H E I hf st hg;subst hP hw hK;let#[xs,x,hq,hx]:=hg;let#[bA,rv,p,hz]:=I.tuple hq;let#[u,hu,ru]:=rv.get hx;let#[f0,f1,f2,f3,f4,f5]:=hf it #[_];refine wpAny_pyNext_tuple_item st (show s.heap.IsTuple a bA.toArray from p) (x:=u) (by simpa using hu) λh' bp sb=>?_;let I1:Inv X pi U H { s with heap:=h' }:=I.turned (t':=s.toks) (λb o hb e=>(sb.2 b hb).trans e) f0 f1 f3 f4 f5;let#[o,e,c,d]:=id bp;exact#[u,rfl,Bo (s:={ s with heap:=h' }) e c d ∅ #[x,H,I1,ru,#[rfl,λys hy=>by rw[I.a02 hy hq];exact hx],bp,λb hb=>(hf b hb).1]]
 done:=by
  intro X hP hw hK hc i pi s U H E I hf st hg;subst hP hw hK;let#[xs,hq,hx]:=hg;let#[bA,rv,p,hz]:=I.tuple hq;let#[f0,f1,f2,f3,f4,f5]:=hf it #[_];let hl:=-rv;exact wpAny_pyNext_tuple_end (I.ok.hd hc) st (show s.heap.IsTuple a bA.toArray from p) (by simp;omega) λh' eb=>#[rfl,I.turned (t':=s.toks) (λb o hb e=>eb b o hb e) f0 f1 f3 f4 f5]
 self:=λy y y y y st h=>wpAny_pyIter_tupleiter st h
def aS2(it:Addr)(lo:Int)(n:Nat):Turn P w K tg (yT lo n) [it] it (λi h=>IsRangeIter h it (lo+(i:Nat)*1) ((n:Int)-(i:Nat)) 1) where
 mem:=by simp
 obj:=λi h st b hb=>by
  let e:b=it:=by simpa using hb
  subst e;exact #[_,st,λv z=>by
   let z':Data.fields _=Data.cell v:=z;cases z']
 keep:=λi h h' st k=>k it #[_] _ st
 item:=by
  intro X hP hw hK hc i pi s U H E I hf st hg;subst hP hw hK;let#[f0,f1,f2,f3,f4,f5]:=hf it #[_];let W:=Walks.range (prog:=X.prog) (w:=X.w) (I.ok.hd hc) it lo 1 n;refine W.item i s _ _ hg st λv h' tk hv bp kk=>?_;let#[t,rfl]:=hv;let I1:Inv X pi U H { s with heap:=h',toks:=tk }:=I.turned (λb o hb e=>kk b o (by simpa using hb) e) f0 f1 f3 f4 f5;refine#[_,rfl,Bo (s:={ s with heap:=h',toks:=tk }) (n:="range_iterator") bp rfl rfl ∅ #[.int (lo+i),H,I1,#[t,?_],#[rfl,rfl],bp,λb hb=>(hf b hb).1]];rw[Int.mul_one]
 done:=by
  intro X hP hw hK hc i pi s U H E I hf st hg;subst hP hw hK;let#[f0,f1,f2,f3,f4,f5]:=hf it #[_];exact wpAny_pyNext_range_end (I.ok.hd hc) st (by have:n<=i:=hg;omega) λh' eb=>#[rfl,I.turned (t':=s.toks) (λb o hb e=>eb b o hb e) f0 f1 f3 f4 f5]
 self:=λx x x x x st h=>wpAny_pyIter_rangeiter st h
def Oe{R:It->Hp->Prop}{lo hi:Int}{t u v:Tok}{tk:Nat}(I:Inv X pi U H s)(h1:-(2 ^ 62)<=lo)(h2:lo<2 ^ 62)(h3:-(2 ^ 62)<=hi)(h4:hi<2 ^ 62)(q:R (yT lo (hi-lo).toNat) H):wpAny (model X.prog X.w) X.A (pyIter (.ref s⁻¹)) (Pd X pi U tg R) E { s with heap:=s.heap.push { cls:=.type "range",data:=.fields (List.toArray [.int lo t,.int hi u,.int 1 v]) },toks:=tk }:=by
 refine wpAny_pyIter_range (IsRange.new ..) (small_one h1 h2 h3 h4) ?_;let I1:Inv X pi U H { s with heap:=s.heap.push { cls:=.type "range",data:=.fields (List.toArray [.int lo t,.int hi u,.int 1 v]) },toks:=tk }:=I.kept λb o e=>ao _ e;refine #[(s.heap.push { cls:=.type "range",data:=.fields (List.toArray [.int lo t,.int hi u,.int 1 v]) }).objs.size,[(s.heap.push { cls:=.type "range",data:=.fields (List.toArray [.int lo t,.int hi u,.int 1 v]) }).objs.size],_,_,H,rfl,
  I1.kept (t':=tk) λb o e=>ao _ e,aS2 _ lo (hi - lo).toNat,?_,λb hb=>?_,q]
 .let e1:lo+((0:Nat):Int)*1=lo:=by simp
  let e2:(((hi-lo).toNat:Nat):Int)-((0:Nat):Int)=Builtin.Range.rangeSize lo hi 1:=by rw[rangeSize_one];split<;>omega
  rw[e1,e2];exact aG _ rfl
 .let e:b=(s.heap.push { cls:=.type "range",data:=.fields (List.toArray [.int lo t,.int hi u,.int 1 v]) }).objs.size:=by simpa using hb
  subst e;exact I1.rY (av _) (I1.cb.fresh (av _))
abbrev ZM(ta:TA):TI:=λU H R=>ta U H λvs H1=>∃j:Int,vs=[.int j]/\-(2 ^ 62)<=j/\j<2 ^ 62/\R (yT 0 j.toNat) H1
abbrev ZN(ta:TA):TI:=λU H R=>ta U H λvs H1=>∃i j:Int,vs=[.int i,.int j]/\(-(2 ^ 62)<=i/\i<2 ^ 62/\-(2 ^ 62)<=j/\j<2 ^ 62)/\R (yT i (j-i).toNat) H1
def a26{a:Expr}{ta:TA}(hg:Gl X "range")(hm:X.mg "range"=none)(ha:PA X [a] ta)(hs:starEach [a] X.env=[(false,eval a X.env)]:=by rfl):PI X tg (.Call (.Name "range" p) [a] [] pos) (ZM ta):=by
 intro pi s U H R I h;refine Call_ (O1 I hg hm boot_range (bU (dj (ha pos pi s U H _ I h) λus s1 bH=>?_) hs rfl));let#[vs,H1,I1,r1,q1]:=bH;let#[j,e,q1,q2,q]:=q1;subst e;cases r1 with
 |cons r rr =>
  cases rr;let#[t,rfl]:=r;exact call_range_1 (Oe I1 () () q1 q2 (by simpa using q))
def a25{a b:Expr}{ta:TA}(hg:Gl X "range")(hm:X.mg "range"=none)(ha:PA X [a,b] ta)(hs:starEach [a,b] X.env=[(false,eval a X.env),(false,eval b X.env)]:=by rfl)(gZ:starEach [b] X.env=[(false,eval b X.env)]:=by rfl) :
  PI X tg (.Call (.Name "range" p) [a,b] [] pos) (ZN ta):=by
 intro pi s U H R I h;refine Call_ (O1 I hg hm boot_range (bU (dj (ha pos pi s U H _ I h) λus s1 bH=>?_) (by rw[hs,gZ]) (by rw[gZ];rfl)));let#[vs,H1,I1,r1,q1]:=bH;let#[i,j,e,#[q1,q2,q3,q4],q]:=q1;subst e;cases r1 with
 |cons r rr =>
  cases rr with
  |cons r' rr =>
   cases rr;let#[t,rfl]:=r;let#[t',rfl]:=r';exact call_range_2 (Oe I1 q1 q2 q3 q4 q)
abbrev YX(wi:TI)(g:TG)(tb:TS):TS:=λD U H=>wi U H λJ H1=>∃W:Nat->Nat->St->Hp->Prop,(∃m,W 0 m U H1)/\∀i m U H,W i m U H ->
 (J.stop i H/\D.nx U H)\/(J.go i H/\∃N:St->Hp->Prop,(∀cA H',N cA H'->∃m',m'<m/\W (i+1) m' cA H')/\∀x H',J.rf i H x H'->g x U H' λcQ H2=>tb { D with nx:=N,ct:=N,bk:=D.nx } cQ H2)
abbrev yp(fp:@&Addr)(h:Heap):@&(Addr×Obj):=fp.filterMap λb=>(h.get? b).map λo=>(b,o)
def FI{o:Obj}(hb:b∈fp)(e:h.get? b=!o):(b,o)∈yp fp h:=kX.mpr #[b,hb,by rw[e];rfl]
def a39{p:Addr×Obj}(hp:p∈yp fp h):p.1∈fp/\h.get? p.1=!p.2:=by
 let#[b,hb,e]:=kX.mp hp;cases q:h.get? b with
 |none=>simp_all
 |some o =>
  rw[q] at e;let e':(b,o)=p:=aS e;subst e';exact#[hb,q]
def Inv.pinned(I:Inv X pi U H s)(hf:∀b∈fp,J1 X pi H b)(ho:∀b∈fp,∃o,s.heap.get? b=!o/\∀v,o.data≠.cell v):Inv X (pi++yp fp s.heap) U H s :=
 I.yA λp hp=>(aV.mp hp).elim (λz=>I.pin p (bf _ z)) λz=>by
  let#[hb,e]:=a39 z;let#[f0,f1,f2,_]:=hf p.1 hb;let#[o,e',d]:=ho p.1 hb;rw[e] at e';cases e';exact#[e,f0,f1,f2,d]
def Inv.Fh{pl:@&(Addr×Obj)}(I:Inv X (pi++pl) U H s):Inv X pi U H s:=I.yA λp hp=>I.pin p (bf _ (bC _ hp))
def bA3{iter:Expr}{wi:TI}{g:TG}{tb:TS}(hp:PassesOwn (model X.prog X.w) X.A X.env X.xe)(hc:X.calm=true)(hi:PI X tg iter wi)(hg:PG X tg g)(hb:jV X body tb)(hs:∀x,foldedSetIterable iter X.env x=pure x:=by intro _;rfl):PS X (.For tg iter body [] pos) (YX wi g tb):=by
 intro pi s U H D I h;refine wpAny_For (dj (hi pi s U H _ I h) λv s1 h1=>dj h1 λwW s2 h2=>?_) hs;let#[it,fp,tn,J,H2,e,I2,T,gL,f2,W,#[m0,w0],turn]:=h2;subst e;let sI:∀{H':Hp},(∀b∈fp,H' b=none)->∀b∈fp,J1 X pi H' b:=λhn b hb=>#[hn b hb,(f2 b hb).2]
 refine codeAny_forLoop_any (λn s'=>∃i cA H',Inv X pi cA H' s'/\tn i s'.heap/\(∀b∈fp,H' b=none)/\W i n cA H') ?_ m0 #[0,U,H2,I2,gL,λb hb=>(f2 b hb).1,w0];rintro n s3 ⟨i,jy,H3,I3,kG,xN,w3⟩;rcases turn i n jy H3 w3 with⟨stop,qn⟩|⟨go,N,hN,step⟩
 .refine fg hp (dj (T.done X rfl rfl rfl hc i pi s3 jy H3 X.xe I3 (sI xN) kG stop) ?_);rintro r s4 ⟨hr,I4⟩;subst hr;exact kO #[jy,H3,I4,qn]
 .refine fg hp (dj (T.item X rfl rfl rfl hc i pi s3 jy H3 X.xe I3 (sI xN) kG go) ?_);rintro r s4 ⟨u,hr,h4⟩;subst hr;refine fg hp (dj h4 λy s5 bH=>?_);let#[x,H5,I5,r5,y5,pV,DS]:=bH;let Hi:=I5.pinned (sI DS) (T.obj _ _ pV);refine fg hp (dj (hg _ s5 jy H5 x u _ Hi r5 (step x H5 y5)) λy s6 bH=>?_);let#[sC,H6,I6,q6]:=bH;refine fg hp (dj (hb _ s6 sC H6 _ I6 q6) λf s7 q7=>?_);let again:∀{om:St} {H7:Hp},Inv X (pi++yp fp s5.heap) om H7 s7->N om H7->∃m,m<n/\∃i cA H',Inv X pi cA H' s7/\tn i s7.heap/\(∀b∈fp,H' b=none)/\W i m cA H':=λ{om H7} I7 n7=>by
   let#[m',hm,w7]:=hN om H7 n7;refine#[m',hm,i+1,om,H7,I7.Fh,T.keep _ _ _ pV λb hb o e=>(I7.pin (b,o) (bf _ (bf _ (FI hb e)))).1,λb hb=>?_,w7];let#[o,e,d]:=T.obj _ _ pV b hb;exact(I7.pin (b,o) (bf _ (bf _ (FI hb e)))).2.1
  cases f with
  |next=>let#[om,H7,I7,n7]:=q7;exact again I7 n7
  |cont=>let#[om,H7,I7,n7]:=q7;exact again I7 n7
  |brk=>let#[om,H7,I7,q7]:=q7;exact#[om,H7,I7.Fh,q7]
  |ret v=>let#[x7,om,H7,I7,r7,q7]:=q7;exact#[x7,om,H7,I7.Fh,r7,q7]
noncomputable abbrev R2:=V->V->Hp->VK->Prop
abbrev hU(X:Cx)(f:Value->Value->Sem Value)(r:R2):Prop :=
 ∀(pi:@&(Addr×Obj)) (s:Shared) (U:St) (H:Hp) (x y:V) (v u:Value) (Q:VK),Inv X pi U H s->RelV x v->RelV y u->r x y H Q ->
  wpAny (model X.prog X.w) X.A (f v u) (EP X pi U Q) X.xe s
abbrev Bz(X:Cx)(f:Value->Sem Value)(r:V->Hp->VK->Prop):Prop :=
 ∀(pi:@&(Addr×Obj)) (s:Shared) (U:St) (H:Hp) (x:V) (v:Value) (Q:VK),Inv X pi U H s->RelV x v->r x H Q ->
  wpAny (model X.prog X.w) X.A (f v) (EP X pi U Q) X.xe s
abbrev o8(X:Cx)(f:Value)(r:@&V->Hp->VK->Prop):Prop :=
 ∀(pi:@&(Addr×Obj)) (s:Shared) (U:St) (H:Hp) (xs:@&V) (us:@&Value) (Q:VK),Inv X pi U H s->Vals xs us->r xs H Q ->
  wpAny (model X.prog X.w) X.A (call f us) (EP X pi U Q) X.xe s
abbrev XO(X:Cx)(r:V->Hp->(Bool->Hp->Prop)->Prop):Prop :=
 ∀(pi:@&(Addr×Obj)) (s:Shared) (U:St) (H:Hp) (x:V) (v:Value) (Q:Bool->Hp->Prop),Inv X pi U H s->RelV x v->r x H Q ->
  wpAny (model X.prog X.w) X.A (truthy v) (TP X pi U Q) X.xe s
abbrev ux(r:R2)(ta tb:TE):TE:=λU H Q=>ta U H λx H1=>tb U H1 λy H2=>r x y H2 Q
abbrev PV(r:V->Hp->VK->Prop)(ta:TE):TE:=λU H Q=>ta U H λx H1=>r x H1 Q
abbrev rI(C:Int->Int->Prop)(g:Int->Int->V):R2:=λx y H Q=>∃i j,x=.int i/\y=.int j/\C i j/\Q (g i j) H
abbrev nT(g:Int->Int->V):R2:=λx y H Q=>∃i j,x=.int i/\y=.int j/\Q (g i j) H
abbrev rU(g:Int->V):V->Hp->VK->Prop:=λx H Q=>∃i,x=.int i/\Q (g i) H
section
variable{a b:Expr}
def Er(ha:PE X a ta)(hb:PE X b tb){R:V->V->Hp->Prop}(I:Inv X pi U H s)(h:ta U H λx H1=>tb U H1 λy H2=>R x y H2){f:Value->Value->Sem Value}(hf:∀v u s2 x y H2,Inv X pi U H2 s2->RelV x v->RelV y u->R x y H2->wpAny (model X.prog X.w) X.A (f v u) Q X.xe s2) :
  wpAny (model X.prog X.w) X.A (eval a X.env) (λv bT=>wpAny (model X.prog X.w) X.A (eval b X.env) (λu gB=>wpAny (model X.prog X.w) X.A (f v u) Q X.xe gB) X.xe bT) X.xe s:=by
 refine dj (ha pi s U H _ I h) λv s1 bH=>?_;let#[x,H1,I1,r1,q1]:=bH;refine dj (hb pi s1 U H1 _ I1 q1) λu s2 bH=>?_;let#[y,H2,I2,r2,q2]:=bH;exact hf v u s2 x y H2 I2 r1 r2 q2
def bL7{op:Operator}(ho:hU X (binaryOp op) r)(ha:PE X a ta)(hb:PE X b tb):PE X (.BinOp a op b pos) (ux r ta tb):=by
 intro pi s U H Q I h;exact wpAny_BinOp (Er ha hb I h λv u s2 x y H2 I2 rx ry q=>ho pi s2 U H2 x y v u Q I2 rx ry q)
def bL5{op:UnaryOp}{r:V->Hp->VK->Prop}(ho:Bz X (unaryOp op) r)(ha:PE X a ta):PE X (.UnaryOp op a pos) (PV r ta):=by
 intro pi s U H Q I h;exact UnaryOp_ (dj (ha pi s U H _ I h) (by rintro v s1 ⟨x,H1,I1,r1,q1⟩;exact ho pi s1 U H1 x v Q I1 r1 q1))
def wo{f:Value->Value->Sem Value}{C:Int->Int->Prop}{g:Int->Int->Int}(rule:∀(i j:Int) (t u:Tok) (s:Shared) (Q:Value->Shared->Prop) (E:Value->Shared->Prop),C i j->Q (.int (g i j) s.toks) { s with toks:=s.toks+1 }->wpAny (model X.prog X.w) X.A (f (.int i t) (.int j u)) Q E s) :
  hU X f (rI C λi j=>.int (g i j)):=by
 intro pi s U H x y v u Q I rx ry h;let#[i,j,rfl,rfl,hc,q]:=h;let#[t,rfl]:=rx;let#[t',rfl]:=ry;exact rule i j t t' s _ _ hc #[.int (g i j),H,I.tok _,#[_,rfl],q]
def vn{f:Value->Value->Sem Value}{g:Int->Int->Int}(rule:∀(i j:Int) (t u:Tok) (s:Shared) (Q:Value->Shared->Prop) (E:Value->Shared->Prop),Q (.int (g i j) s.toks) { s with toks:=s.toks+1 }->wpAny (model X.prog X.w) X.A (f (.int i t) (.int j u)) Q E s) :
  hU X f (nT λi j=>.int (g i j)):=by
 intro pi s U H x y v u Q I rx ry h;let#[i,j,rfl,rfl,q]:=h;let#[t,rfl]:=rx;let#[t',rfl]:=ry;exact rule i j t t' s _ _ #[.int (g i j),H,I.tok _,#[_,rfl],q]
def Ba{f:Value->Value->Sem Value}{g:Int->Int->Bool}(rule:∀(i j:Int) (t u:Tok) (s:Shared) (Q:Value->Shared->Prop) (E:Value->Shared->Prop),Q (.bool (g i j)) s->wpAny (model X.prog X.w) X.A (f (.int i t) (.int j u)) Q E s) :
  hU X f (nT λi j=>.bl (g i j)):=by
 intro pi s U H x y v u Q I rx ry h;let#[i,j,rfl,rfl,q]:=h;let#[t,rfl]:=rx;let#[t',rfl]:=ry;exact rule i j t t' s _ _ #[.bl (g i j),H,I,rfl,q]
abbrev Ek(i j:Int):Prop:=0<j/\j<1073741824
abbrev qD(i j:Int):Prop:=0<=j/\j<=1000000/\i.natAbs<2 ^ 64
abbrev qz(i j:Int):Prop:=(-(2 ^ 64)<i/\i<2 ^ 64)\/(-(2 ^ 64)<j/\j<2 ^ 64)
def qz.ok{i j:Int}(h:qz i j):IntMulOk i j:=by
 rcases h with⟨h1,h2⟩|⟨h1,h2⟩
 .exact .of_left (intBits_le_64 h1 h2)
 .exact .of_right (intBits_le_64 h1 h2)
def bD3:hU X (binaryOp .Add) (nT λi j=>.int (i+j)):=vn λx x x x x x x q=>add_int q
def bC4:hU X (binaryOp .Sub) (nT λi j=>.int (i-j)):=vn λx x x x x x x q=>sub_int q
def bC7:hU X (binaryOp .Mult) (rI qz λi j=>.int (i*j)):=wo λx x x x x x x hc q=>mul_int q hc.ok
def Vj:hU X (binaryOp .FloorDiv) (rI Ek λi j=>.int (i / j)):=wo λi j x x x x x hc q=>by
 let h1:(0:Int)<j:=hc.1;let h2:j<1073741824:=hc.2;exact floordiv_int () (by rw[Int.fdiv_eq_ediv_of_nonneg i ()];exact q) (.inl (PyProof.noPylong_small ()))
def bC8:hU X (binaryOp .Mod) (rI (λx j=>0<j) λi j=>.int (i % j)):=wo λi j x x x x x hc q=>by
 exact mod_int' () (by rw[Int.fmod_eq_emod_of_nonneg i ()];exact q)
def bC6:hU X (binaryOp .Pow) (rI qD λi j=>.int (i ^ j.toNat)):=wo λx x x x x x x hc q=>pow_int_small hc.1 hc.2.1 hc.2.2 q
def bC5:hU X (binaryOp .LShift) (rI qD λi j=>.int (i*2 ^ j.toNat)):=wo λx x x x x x x hc q=>lshift_int_small hc.1 hc.2.1 hc.2.2 q
def bD2:hU X (binaryOp .BitAnd) (nT λi j=>.int (Builtin.bitAnd i j)):=vn λx x x x x x x q=>and_int q
def bM2:hU X (binaryOp .BitOr) (nT λi j=>.int (Builtin.bitOr i j)):=vn λx x x x x x x q=>or_int q
def UR:hU X (inplaceOp .Add) (nT λi j=>.int (i+j)):=vn λx x x x x x x q=>iadd_int q
def US:hU X (inplaceOp .Sub) (nT λi j=>.int (i-j)):=vn λx x x x x x x q=>isub_int q
def PU{f:Value->Sem Value}{g:Int->Int}(rule:∀(i:Int) (t:Tok) (s:Shared) (Q:Value->Shared->Prop) (E:Value->Shared->Prop),Q (.int (g i) s.toks) { s with toks:=s.toks+1 }->wpAny (model X.prog X.w) X.A (f (.int i t)) Q E s) :
  Bz X f (rU λi=>.int (g i)):=by
 intro pi s U H x v Q I rx h;let#[i,rfl,q]:=h;let#[t,rfl]:=rx;exact rule i t s _ _ #[.int (g i),H,I.tok _,#[_,rfl],q]
def Uv:Bz X (unaryOp .USub) (rU λi=>.int (-(i))):=PU λx x x x x q=>neg_int q
end
abbrev JR:V->V->Bool
 |.bK,.bK=>true|.bK,.int _=>true|.int _,.bK=>true|.bK,.bl _=>true|.bl _,.bK=>true|.bK,.str _=>true|.str _,.bK=>true
 |.int _,.int _=>true|.bl _,.bl _=>true|.str _,.str _=>true|.mV _,.mV _=>true
 |.int _,.str _=>true|.str _,.int _=>true|.bl _,.str _=>true|.str _,.bl _=>true
 |_,_=>false
abbrev Qn:R2:=λx y H Q=>JR x y=true/\Q (.bl (decide (x=y))) H
abbrev Qm:R2:=λx y H Q=>JR x y=true/\Q (.bl (~~~decide (x=y))) H
def Na{i j:Int}:decide (V.int i=V.int j)=(i==j):=by
 rw[aW];simp
def An{i j:Bool}:decide (V.bl i=V.bl j)=(i==j):=by
 rw[aW];simp
def Nb{i j:Str}:decide (V.str i=V.str j)=(i==j):=by
 rw[aW];simp
def M'{i j:Array UInt8}:decide (V.mV i=V.mV j)=(i.toList==j.toList):=by
 rw[aW];simp
section
variable{a b:Expr}{tc:TE}
def n9{Q:VK}{k k':Bool}(I:Inv X pi U H s)(q:Q (.bl k) H)(e:k=k'):EP X pi U Q (.bool k') s:=by
 subst e;exact#[.bl k,H,I,rfl,q]
def Gb:hU X (compareOp .Eq) Qn:=by
 intro pi s U H x y v u Q I rx ry h;let#[hs,q]:=h;cases x with
 |bK =>
  cases rx;cases y with
  |bK=>cases ry;exact PySem.EqNone.eq_none_none (n9 I q #[_])
  |bl j=>cases ry;exact PySem.EqNone.eq_none_bool (n9 I q #[_])
  |int j=>let#[t',rfl]:=ry;exact PySem.EqNone.eq_none_int (n9 I q #[_])
  |str j=>let#[t',rfl]:=ry;exact PySem.EqNone.eq_none_str (n9 I q #[_])
  |_=>exact absurd (show false=true from hs) Bool.false_ne_true
 |bl i =>
  cases rx;cases y with
  |bK=>cases ry;exact PySem.EqNone.eq_bool_none (n9 I q #[_])
  |bl j=>cases ry;exact eq_bool (n9 I q An)
  |str j=>let#[t',rfl]:=ry;exact PySem.EqMixed.eq_bool_str (n9 I q #[_])
  |_=>exact absurd (show false=true from hs) Bool.false_ne_true
 |int i =>
  let#[t,rfl]:=rx;cases y with
  |bK=>cases ry;exact PySem.EqNone.eq_int_none (n9 I q #[_])
  |int j=>let#[t',rfl]:=ry;exact eq_int (n9 I q Na)
  |str j=>let#[t',rfl]:=ry;exact PySem.EqMixed.eq_int_str (n9 I q #[_])
  |_=>exact absurd (show false=true from hs) Bool.false_ne_true
 |str i =>
  let#[t,rfl]:=rx;cases y with
  |bK=>cases ry;exact PySem.EqNone.eq_str_none (n9 I q #[_])
  |bl j=>cases ry;exact PySem.EqMixed.eq_str_bool (n9 I q #[_])
  |int j=>let#[t',rfl]:=ry;exact PySem.EqMixed.eq_str_int (n9 I q #[_])
  |str j=>let#[t',rfl]:=ry;exact eq_str (n9 I q Nb)
  |_=>exact absurd (show false=true from hs) Bool.false_ne_true
 |mV i =>
  let#[t,rfl]:=rx;cases y with
  |mV j=>let#[t',rfl]:=ry;exact PySem.W.eq_bytes (n9 I q M')
  |_=>exact absurd (show false=true from hs) Bool.false_ne_true
 |_=>cases y<;>exact absurd (show false=true from hs) kZ
def Gd:hU X (compareOp .NotEq) Qm:=by
 intro pi s U H x y v u Q I rx ry h;let#[hs,q]:=h;cases x with
 |bK =>
  cases rx;cases y with
  |bK=>cases ry;exact PySem.EqNone.ne_none_none (n9 I q #[_])
  |bl j=>cases ry;exact PySem.EqNone.ne_none_bool (n9 I q #[_])
  |int j=>let#[t',rfl]:=ry;exact PySem.EqNone.ne_none_int (n9 I q #[_])
  |str j=>let#[t',rfl]:=ry;exact PySem.EqNone.ne_none_str (n9 I q #[_])
  |_=>exact absurd (show false=true from hs) Bool.false_ne_true
 |bl i =>
  cases rx;cases y with
  |bK=>cases ry;exact PySem.EqNone.ne_bool_none (n9 I q #[_])
  |bl j=>cases ry;exact ne_bool (n9 I q (congrArg not An))
  |str j=>let#[t',rfl]:=ry;exact PySem.EqMixed.ne_bool_str (n9 I q #[_])
  |_=>exact absurd (show false=true from hs) Bool.false_ne_true
 |int i =>
  let#[t,rfl]:=rx;cases y with
  |bK=>cases ry;exact PySem.EqNone.ne_int_none (n9 I q #[_])
  |int j=>let#[t',rfl]:=ry;exact ne_int (n9 I q (congrArg not Na))
  |str j=>let#[t',rfl]:=ry;exact PySem.EqMixed.ne_int_str (n9 I q #[_])
  |_=>exact absurd (show false=true from hs) Bool.false_ne_true
 |str i =>
  let#[t,rfl]:=rx;cases y with
  |bK=>cases ry;exact PySem.EqNone.ne_str_none (n9 I q #[_])
  |bl j=>cases ry;exact PySem.EqMixed.ne_str_bool (n9 I q #[_])
  |int j=>let#[t',rfl]:=ry;exact PySem.EqMixed.ne_str_int (n9 I q #[_])
  |str j=>let#[t',rfl]:=ry;exact ne_str (n9 I q (congrArg not Nb))
  |_=>exact absurd (show false=true from hs) Bool.false_ne_true
 |mV i =>
  let#[t,rfl]:=rx;cases y with
  |mV j=>let#[t',rfl]:=ry;exact PySem.W.ne_bytes (n9 I q (congrArg not M'))
  |_=>exact absurd (show false=true from hs) Bool.false_ne_true
 |_=>cases y<;>exact absurd (show false=true from hs) kZ
def bM3:hU X (compareOp .Lt) (nT λi j=>.bl (decide (i<j))):=Ba λx x x x x x x q=>lt_int q
def bM4:hU X (compareOp .LtE) (nT λi j=>.bl (decide (i<=j))):=Ba λx x x x x x x q=>le_int q
def bM5:hU X (compareOp .Gt) (nT λi j=>.bl (decide (j<i))):=Ba λx x x x x x x q=>gt_int q
def bM6:hU X (compareOp .GtE) (nT λi j=>.bl (decide (j<=i))):=Ba λx x x x x x x q=>ge_int q
def bC9:hU X (compareOp .Is) (λx y H Q=>y=.bK/\Q (.bl (decide (x=.bK))) H):=by
 intro pi s U H x y v u Q I rx ry h;let#[rfl,q]:=h;cases ry;refine is_none_gen (n9 I q ?_);cases x<;>first
  |(cases rx;rfl)
  |(let#[t,rfl]:=rx;rfl)
def Vk:hU X (compareOp .IsNot) (λx y H Q=>y=.bK/\Q (.bl (~~~decide (x=.bK))) H):=by
 intro pi s U H x y v u Q I rx ry h;let#[rfl,q]:=h;cases ry;refine isnot_none_gen (n9 I q ?_);cases x<;>first
  |(cases rx;rfl)
  |(let#[t,rfl]:=rx;rfl)
def Vs(ho:hU X (compareOp op) r)(ha:PE X a ta)(hb:PE X b tb)(hm:behindInMarks op b=false):PE X (.Compare a [op] [b] pos) (ux r ta tb):=by
 intro pi s U H Q I h;exact wpAny_Compare1 (Er ha hb I h λv u s2 x y H2 I2 rx ry q=>ho pi s2 U H2 x y v u Q I2 rx ry q) hm
abbrev Gm(t:TE):TT:=λU H Q=>t U H λx H'=>∃k,x=.bl k/\Q k H'
def VD(ho:hU X (compareOp op) r)(ha:PE X a ta)(hb:PE X b tb)(hm:behindInMarks op b=false):PT X (.Compare a [op] [b] pos) (Gm (ux r ta tb)):=by
 intro pi s U H Q I h;refine wpAny_isTrue_Compare1 (dj (ha pi s U H _ I h) λv s1 ⟨x,H1,I1,r1,q1⟩=>dj (hb pi s1 U H1 _ I1 q1) λu s2 ⟨y,H2,I2,r2,q2⟩ =>
  dj (ho pi s2 U H2 x y v u _ I2 r1 r2 q2) λc s3 ⟨z,H3,I3,r3,k,e,q3⟩=>?_) hm
 subst e;cases r3;exact cT #[H3,I3,q3]
abbrev GS(r r':R2)(ta tb tc:TE):TE:=λU H Q=>ta U H λx H1=>tb U H1 λy H2=>r x y H2 λz H3=>∃k,z=.bl k /\
 (if k=true then tc U H3 λw' H4=>r' y w' H4 Q else Q (.bl false) H3)
def Xf{jh:CmpOp}{r':R2}(ho:hU X (compareOp op) r)(pD:hU X (compareOp jh) r')(ha:PE X a ta)(hb:PE X b tb)(hc:PE X c tc)(hm:lastMarks [op,jh] [b,c]=false:=by with_unfolding_all rfl):PE X (.Compare a [op,jh] [b,c] pos) (GS r r' ta tb tc):=by
 intro pi s U H Q I h;refine Compare_chain (dj (ha pi s U H _ I h) λv s1 ⟨x,H1,I1,r1,q1⟩=>chain_link (dj (hb pi s1 U H1 _ I1 q1) λu s2 ⟨y,H2,I2,r2,q2⟩ =>
  dj (ho pi s2 U H2 x y v u _ I2 r1 r2 q2) λd s3 ⟨z,H3,I3,r3,k,e,q3⟩=>?_)) hm
 subst e;cases r3;refine cT ?_;cases k with
 |false=>exact ite_ff #[.bl false,H3,I3,rfl,q3]
 |true=>exact ite_tt (chain_last (dj (hc pi s3 U H3 _ I3 q3) (by rintro w' s4 ⟨z',H4,I4,r4,q4⟩;exact pD pi s4 U H4 y z' u w' Q I4 r2 r4 q4)))
def Xt{jh:CmpOp}{r':R2}(ho:hU X (compareOp op) r)(pD:hU X (compareOp jh) r')(ha:PE X a ta)(hb:PE X b tb)(hc:PE X c tc)(hm:lastMarks [op,jh] [b,c]=false:=by with_unfolding_all rfl):PT X (.Compare a [op,jh] [b,c] pos) (Gm (GS r r' ta tb tc)):=by
 intro pi s U H Q I h;refine isTrue_chain (dj (ha pi s U H _ I h) λv s1 ⟨x,H1,I1,r1,q1⟩=>test_link (dj (hb pi s1 U H1 _ I1 q1) λu s2 ⟨y,H2,I2,r2,q2⟩ =>
  dj (ho pi s2 U H2 x y v u _ I2 r1 r2 q2) λd s3 ⟨z,H3,I3,r3,k,e,q3⟩=>?_)) hm
 subst e;cases r3;refine cT ?_;cases k with
 |false =>
  let#[k',e',q']:=q3;cases e';exact ite_ff #[H3,I3,q']
 |true =>
  refine ite_tt (test_last (dj (hc pi s3 U H3 _ I3 q3) ?_));rintro w' s4 ⟨z',H4,I4,r4,q4⟩;refine dj (pD pi s4 U H4 y z' u w' _ I4 r2 r4 q4) λd' s5 bH=>?_;let#[z2,H5,I5,r5,k2,e2,q5]:=bH;subst e2;cases r5;exact cT #[H5,I5,q5]
abbrev En(K:PySem.W.Frag)(x:V)(H:Hp)(k:Bool):Prop :=
 match x with
 |.bK=>k=false
 |.bl b=>k=b
 |.int i=>k=(i != 0)
 |.str y=>-y<=sizeLine/\k=((-y:Int) != 0)
 |.mV y=>y.size<=sizeLine/\k=((y.size:Int) != 0)
 |.ref p=>(∃xs,gE K H p xs/\k= ~~~xs.isEmpty)\/(∃xs,kl K H p xs/\k= ~~~xs.isEmpty)\/∃kvs,H p=!.dK kvs/\k= ~~~kvs.isEmpty
 |_=>False
def aW7{κ:Type}{kvs:@&(κ×V)}{vs:@&(κ×Value)}(r:KV kvs vs):(~~~vs.isEmpty)= ~~~kvs.isEmpty:=by
 cases r<;>rfl
def LO{bA:@&Value}(r:Vals xs bA):(~~~bA.toArray.isEmpty)= ~~~xs.isEmpty:=by
 cases r<;>simp
def Ap:(sizeLine:Nat)<2 ^ 63:=by rw[uq];decide
def Ut:XO X (λx H Q=>∃k,En X.K x H k/\Q k H):=by
 intro pi s U H x v Q I rx h;let#[k,e,q]:=h;let hs:sizeLine=16777216:=uq;cases x with
 |bK =>
  cases rx;let e':k=false:=e;subst e';exact truthy_none #[H,I,q]
 |bl b =>
  cases rx;let e':k=b:=e;subst e';exact cT #[H,I,q]
 |int i =>
  let#[t,rfl]:=rx;let e':k=(i != 0):=e;subst e';exact PySem.P.truthy_int #[H,I,q]
 |str y =>
  let#[t,rfl]:=rx;obtain⟨hy,e'⟩:-y<=sizeLine/\k=((-y:Int) != 0):=e;subst e';exact PySem.P.truthy_str () #[H,I.tok _,q]
 |mV y =>
  let#[t,rfl]:=rx;obtain⟨hy,e'⟩:y.size<=sizeLine/\k=((y.size:Int) != 0):=e;subst e';exact PySem.W.truthy_bytes () #[H,I.tok _,q]
 |ref p =>
  cases rx;let e':(∃xs,gE X.K H p xs/\k= ~~~xs.isEmpty)\/(∃xs,kl X.K H p xs/\k= ~~~xs.isEmpty)\/∃kvs,H p=!.dK kvs/\k= ~~~kvs.isEmpty:=e;rcases e' with⟨xs,hx,e'⟩|⟨xs,hx,e'⟩|⟨kvs,hx,e'⟩
  .subst e';let#[bA,r,pl,hz]:=I.list hx;let hlen:=-r;exact wpAny_truthy_list pl.isList (by simp only[List.size_toArray];omega) #[H,I.tok _,by rw[LO r];exact q]
  .subst e';let#[bA,r,pl,hz]:=I.tuple hx;let hlen:=-r;exact truthy_tuple pl (by simp only[List.size_toArray];omega) #[H,I.tok _,by rw[LO r];exact q]
  .subst e';obtain⟨hz,hS,vs,r,m⟩:-kvs<=sizeLine/\(p==sysModules)=false/\∃vs,KV kvs vs/\s.heap.DictOf (p8 X.prog X.w) p vs:=I.cb p _ hx;let hlen:-kvs=-vs:=nL r;exact wpAny_truthy_dict hS m () #[H,I.tok _,by rw[aW7 r];exact q]
 |_=>exact(show False from e).elim
def Xu(ha:PE X a ta)(he:∀whole,isTrue a X.env whole=(do let v <- whole;standAt a.pos;holding [v] (truthy v))) :
  PT X a (λU H Q=>ta U H λx H'=>∃k,En X.K x H' k/\Q k H'):=by
 intro pi s U H Q I h;exact isTrue_plain (dj (ha pi s U H _ I h) (by rintro v s1 ⟨x,H1,I1,r1,q1⟩;exact Ut pi s1 U H1 x v Q I1 r1 q1)) (he _)
def vals1{x:V}(r:Vals [x] us):∃u,us=[u]/\RelV x u:=by
 cases r with
 |cons r1 r2=>cases r2;exact#[_,rfl,r1]
def vals2{x y:V}(r:Vals [x,y] us):∃u w',us=[u,w']/\RelV x u/\RelV y w':=by
 cases r with
 |cons r1 r2 =>
  cases r2 with
  |cons r3 r4=>cases r4;exact#[_,_,rfl,r1,r3]
def a70(hc:X.calm=true):o8 X (.builtin "max") (λxs H Q=>∃i j,xs=[.int i,.int j]/\Q (.int (if j>i then j else i)) H):=by
 intro pi s U H xs us Q I r h;let#[i,j,rfl,q]:=h;let#[u,w',rfl,#[t,rfl],#[t',rfl]]:=vals2 r;refine max_two_ints (I.ok.hd hc) λh' tk k=>#[_,H,I.kept k,?_,q]
 by_cases hj:j>i
 .rw[aI hj,aI hj];exact#[_,rfl]
 .rw[aE hj,aE hj];exact#[_,rfl]
def a68(hc:X.calm=true):o8 X (.builtin "min") (λxs H Q=>∃i j,xs=[.int i,.int j]/\Q (.int (if j<i then j else i)) H):=by
 intro pi s U H xs us Q I r h;let#[i,j,rfl,q]:=h;let#[u,w',rfl,#[t,rfl],#[t',rfl]]:=vals2 r;refine min_two_ints (I.ok.hd hc) λh' tk k=>#[_,H,I.kept k,?_,q]
 by_cases hj:j<i
 .rw[aI hj,aI hj];exact#[_,rfl]
 .rw[aE hj,aE hj];exact#[_,rfl]
def Lc:o8 X (.type "int") (λxs H Q=>(∃i,xs=[.int i]/\Q (.int i) H)\/∃k,xs=[.bl k]/\Q (.int (if k then 1 else 0)) H):=by
 intro pi s U H xs us Q I r h;rcases h with⟨i,rfl,q⟩|⟨k,rfl,q⟩
 .let#[u,rfl,t,rfl]:=vals1 r;exact call_int_int #[.int i,H,I,#[_,rfl],q]
 .let#[u,rfl,r1]:=vals1 r;cases r1;exact call_int_bool #[.int (if k then 1 else 0),H,I.tok _,#[_,rfl],q]
end
structure vh(h:Heap)(x dx C:Addr)(mA:Str->Option Value):Prop where
 obj:h.get? x=!PySem.W.instObj C dx
 ns:h.Ns1 dx mA
 ne:dx≠x
set_option tactic.hygienic true in
def Lm{mA:Str->Option Value}(n:h.Ns1 dx mA):∃od,h.get? dx=!od/\∀name,PySem.W.lookIn name od=!mA name:=by
 let#[o,es,ep,ho,hd,hk,_,hm]:=n;refine#[o,ho,λname=>?_];let e:=hm name;unfold nsFind findBy at e;rw[<- Array.find?_toList] at e;unfold PySem.W.lookIn;rw[hd];dsimp only;split
 .rename_i y q;rw[q] at e;exact hV some e
 .rename_i q;rw[q] at e;let a:es.toList.any (·.refKey)=false:=by
   rw[List.any_eq_false];intro y hy;let#[z,t,gM]:=hk y (Array.mem_toList_iff.mp hy);simp[DictEntry.refKey,gM]
  let a':¬es.toList.any (·.refKey)=true:=by rw[a];exact kZ
  rw[aE a'];exact hV some e
def vh.look{x:Addr}{mA:Str->Option Value}(I:vh h x dx C mA):∃od,PySem.W.InstAt h x (PySem.W.instObj C dx) C (!od)/\∀name,PySem.W.lookIn name od=!mA name :=
 let ⟨od,ho,hl⟩:=Lm I.ns
 #[od,#[I.obj,rfl,rfl,ho],hl]
section
variable{prog:Program}{x:Addr}{mA:Str->Option Value}{name:Str}{v:Value}
def get_map{expr:Bool}(X:K.In s.heap)(I:vh s.heap x dx C mA)(hg:PySem.W.plainGet K C name=true)(hh:PySem.W.hasDictIn K C=true)(ha:PySem.W.findIn K (.ref C) name=!none)(hv:mA name=!v)(CG:PySem.W.handedIn v=true)(h:Q v { s with toks:=s.toks+1 }) :
  wpAny (model prog w) A (getAttr (.ref x) name expr) Q E s:=by
 let#[od,J,hl]:=I.look;exact PySem.W.get_value X J (PySem.W.plainGet_of hg).1 (PySem.W.findObj_own hh ha rfl (by rw[hl,hv])) CG h
def VW{ns:@&Str}{Q:Unit->Shared->Prop}(X:K.In s.heap)(I:vh s.heap x dx C mA)(hs:PySem.W.findIn K (.ref C) "__setattr__"=!!(.builtin "object.__setattr__"))(hp:PySem.W.plainOver K C=true)(ht:PySem.W.takerIn K C name=!none)(hh:PySem.W.hasDictIn K C=true)(hw:PySem.Within mA ns)(hsz:-ns<=sizeLine)(h:∀h',vh h' x dx C (λy=>if y=name then some v else mA y)->Heap.SameBut dx s.heap h'->Q Unit.unit { s with heap:=h',toks:=s.toks+2 }) :
  wpAny (model prog w) A (setAttr (.ref x) name v) Q E s:=by
 let#[od,J,hl]:=I.look;refine PySem.W.set_plain X J hs (PySem.W.osa_open (s:={ s with toks:=s.toks+1 }) (r:=none) X J hp ht λb=>?_);let#[cd,hc,Ji]:=PySem.W.any_some hh;let hx:s.heap.get? x=!#[.ref C,!dx,.plain,(List.toArray [])]:=I.obj;refine aa (au (aa (aa (wpAny_loadPart hx (aa (PySem.W.Looks.here (s:={ s with toks:=s.toks+1 }) (PySem.W.looks_clsIn X hc) ?_))))));rw[Ji];refine au (a:=!dx) (aa (au (aa ?_)));refine wpAny_nsSet1 (s:={ s with toks:=s.toks+1 }) I.ns λh' nV gZ=>?_;let#[oD,esD,epD,Rf,Rz,RB]:=nV.count (PySem.Within.cons name v hw);refine aa (wpAny_lookBehind Rf (by rw[Rz];exact pastItsLine_dict (aD RB (by grind))) ?_);exact au (h _ #[(gZ.2 _ (cy I.ne)).trans I.obj,nV,I.ne] gZ)
def WW{R:Result->Shared->Prop}{vs:@&Value}{kw:@&(Str×Value)}(X:K.In s.heap)(hm:PySem.W.makesIn K C=true)(hi:PySem.W.findIn K (.ref C) "__init__"=!!.ref f)(hf:PySem.W.typeIn K (.ref f)=!(.type "function"))(h:codeAny (model prog w) (A.under (.builtin "type.__call__" #[.ref C :: vs,kw])) (.call (.ref f) #[.ref (s⁻¹ + 1) :: vs,kw]) (PySem.W.InitBack (s⁻¹ + 1) R)
   { s with heap:=(s.heap.push PySem.W.emptyDict).push (PySem.W.instObj C s⁻¹) }) :
  codeAny (model prog w) A (.call (.ref C) #[vs,kw]) R s:=by
 exact PySem.W.make_core (PySem.W.makes_of X hm) (PySem.W.looks_findIn X hi) (λself=>PySem.W.bind_fn X self hf) (.inl rfl) h
end
abbrev B9(f:Str)(v:V):@&(Str×V)->@&(Str×V)
 |[]=>[(f,v)]
 |(g,x)::r=>if g=f then(g,v)::r else(g,x)::B9 f v r
def Mr(f g:Str)(v:V):∀fs:@&(Str×V),(B9 f v fs).lookup g=if g=f then some v else fs.lookup g
 |[]=>by
  change List.lookup g [(f,v)]=_;by_cases h:g=f
  .let hb:(g==f)=true:=bx.mpr h;simp only[List.lookup,hb,if_pos h]
  .let hb:(g==f)=false:=eB.mpr h;simp only[List.lookup,hb,if_neg h]
 |(k,x)::r=>by
  let ih:=Mr f g v r;rw[show B9 f v ((k,x)::r)=(if k=f then(k,v)::r else(k,x)::B9 f v r) from rfl];by_cases hk:k=f
  .rw[aI hk];by_cases h:g=k
   .let hb:(g==k)=true:=bx.mpr h;simp only[List.lookup,hb,if_pos (h.trans hk)]
   .let hb:(g==k)=false:=eB.mpr h;simp only[List.lookup,hb,if_neg (λe:g=f=>h (e.trans hk.symm))]
  .rw[aE hk];by_cases h:g=k
   .let hb:(g==k)=true:=bx.mpr h;simp only[List.lookup,hb,if_neg (λe:g=f=>hk (h.symm.trans e))]
   .let hb:(g==k)=false:=eB.mpr h;simp only[List.lookup,hb];exact ih
def Fm(f:Str)(v:V):∀fs:@&(Str×V),f∈(B9 f v fs).map (·.1)/\∀g,g∈fs.map (·.1)->g∈(B9 f v fs).map (·.1)
 |[]=>#[by simp[B9],λg h=>by simp at h]
 |(k,x)::r=>by
  let#[i1,i2]:=Fm f v r;rw[show B9 f v ((k,x)::r)=(if k=f then(k,v)::r else(k,x)::B9 f v r) from rfl];by_cases hk:k=f
  .rw[aI hk]
   grind
  .rw[aE hk];refine#[?_,λg h=>?_]
   .exact bI _ i1
   .rcases aL.mp h with e|e
    .exact aL.mpr (.inl e)
    .exact bI _ (i2 g e)
def Mp(f:Str)(v:V):∀fs:@&(Str×V),(B9 f v fs).length<=-fs+1
 |[]=>by simp[B9]
 |(k,x)::r=>by
  let ih:=Mp f v r;rw[show B9 f v ((k,x)::r)=(if k=f then(k,v)::r else(k,x)::B9 f v r) from rfl]
  grind
def K6.some_of{o:Option Value}(r:K6 (!v) o):∃u,o=!u/\RelV v u:=by
 cases o with
 |none=>exact(show False from r).elim
 |some u=>exact#[u,rfl,r]
def a54(r:RelV v u):PySem.W.handedIn u=true:=by
 cases v with
 |bK=>cases (show u=Value.none from r);rfl
 |bl b=>cases (show u=Value.bool b from r);rfl
 |int i=>let#[t,e]:=(show ∃t,u=Value.int i t from r);cases e;rfl
 |str x=>let#[t,e]:=(show ∃t,u=Value.str x t from r);cases e;rfl
 |mV b=>let#[t,e]:=(show ∃t,u=Value.bytes b t from r);cases e;rfl
 |tR b=>let#[t,e]:=(show ∃t,u=Value.float b t from r);cases e;rfl
 |ref a=>cases (show u=Value.ref a from r);rfl
 |ty n=>cases (show u=Value.type n from r);rfl
section
variable{fs:@&(Str×V)}
def EG(cb:gU P w H h)(e:H a=!.ins C dx fs):∃mA,vh h a dx C mA/\(∀f,K6 (fs.lookup f) (mA f))/\PySem.Within mA (fs.map (·.1))/\-fs<=1000/\H dx=!.own a:=by
 let#[d,z,ne,ob,mA,n,r,q]:=(show u4 P w H h a (.ins C dx fs) from cb a _ e)
 exact#[mA,#[ob,n,ne],r,q,z,d]
end
structure kW(K:PySem.W.Frag)(C:Addr):Prop where
 pg:PySem.W.plainGet K C Str.empty=true
 hd:PySem.W.hasDictIn K C=true
 po:PySem.W.plainOver K C=true
 sa:PySem.W.findIn K (.ref C) "__setattr__"=!!(.builtin "object.__setattr__")
def kW.get(c:kW K C)(f:Str):PySem.W.plainGet K C f=true:=c.pg
abbrev E2(K:PySem.W.Frag)(C:Addr)(f:Str):Prop:=PySem.W.findIn K (.ref C) f=!none
def E2.bJ3{f:Str}(n:E2 K C f):PySem.W.takerIn K C f=!none:=by
 unfold PySem.W.takerIn;rw[show PySem.W.findIn K (.ref C) f=some none from n]
 rfl
structure Meth(K:PySem.W.Frag)(C:Addr)(m:Str)(f:Addr):Prop where
 at_:PySem.W.findIn K (.ref C) m=!!.ref f
 fn:PySem.W.isFn K (.ref f)=true
 kp:PySem.W.keepIn K (.ref f)=true
section
variable{fs:@&(Str×V)}{f:Str}
def aW8{b:Bool}(I:Inv X pi U H s)(e:H a=!.ins C dx fs)(c:kW X.K C)(n:E2 X.K C f)(l:fs.lookup f=!v)(h:∀u s',Inv X pi U H s'->RelV v u->Q u s'):wpAny (model X.prog X.w) A (getAttr (.ref a) f b) Q E s:=by
 let#[mA,O,r,_,_,_]:=EG I.cb e;let#[u,hu,ru]:=K6.some_of (v:=v) (o:=mA f) (by rw[<- l];exact r f);exact get_map I.iR O (c.get f) c.hd n hu (a54 ru) (h u _ (I.tok _) ru)
def aT3{y:V}{Q:Unit->Shared->Prop}(I:Inv X pi U H s)(e:H a=!.ins C dx fs)(c:kW X.K C)(n:E2 X.K C f)(hl:-fs<1000)(ry:RelV y u)(h:∀s',Inv X pi U (upd H a (.ins C dx (B9 f y fs))) s'->Q Unit.unit s'):wpAny (model X.prog X.w) A (setAttr (.ref a) f u) Q E s:=by
 let#[mA,O,r,wi,_,ho]:=EG I.cb e;let hz:(fs.map (·.1)).length<=sizeLine:=by rw[ak,uq];omega
 refine VW I.iR O c.sa c.po n.bJ3 c.hd wi hz λh' O' sb=>h _ ?_;let hd:∃o,h'.get? dx=!o:=let ⟨o,_,_,e',_⟩:=O'.ns;#[o,e']
 refine I.write (x:=a) (e:=dx) (by rw[e];exact True.intro) (.inr ho) (λb q hb z=>(sb.2 b hb).trans z) hd ?_;refine#[by rw[i7 O.ne];exact ho,?_,O.ne,O'.obj,_,O'.ns,λg=>?_,λg hg=>?_]
 .have:=Mp f y fs;omega
 .change K6 ((B9 f y fs).lookup g) (if g=f then some u else mA g);rw[Mr];by_cases q:g=f
  .rw[aI q,aI q];exact ry
  .rw[aE q,aE q];exact r g
 .by_cases q:g=f
  .rw[q];exact(Fm f y fs).1
  .refine(Fm f y fs).2 g (wi g λz=>hg ?_);show(if g=f then some u else mA g)=none;rw[aE q];exact z
def Inv.made(I:Inv X pi U H s):Inv X pi U (upd (upd H s⁻¹ (.own (s⁻¹+1))) (s⁻¹+1) (.ins C s⁻¹ []))
  { s with heap:=(s.heap.push PySem.W.emptyDict).push (PySem.W.instObj C s⁻¹) }:=by
 let e1:(s.heap.push PySem.W.emptyDict).get? s⁻¹=!PySem.W.emptyDict:=aG s.heap rfl;let e2:((s.heap.push PySem.W.emptyDict).push (PySem.W.instObj C s⁻¹)).get? (s⁻¹+1)=!(PySem.W.instObj C s⁻¹):=by
  have:=aG (s.heap.push PySem.W.emptyDict) (o:=PySem.W.instObj C s⁻¹) rfl
  rwa [fC] at this
 let e3:(s.heap.push PySem.W.emptyDict).Ns s⁻¹ (λx=>none):=#[PySem.W.emptyDict,(List.toArray []),_,e1,rfl,(λe he=>absurd he #[_]),λx=>rfl]
 let I1:=I.laid (a:=s⁻¹) (o:=.own (s⁻¹+1)) (h':=s.heap.push PySem.W.emptyDict) (t':=s.toks) (λb u q=>ao _ q) (av _) #[_,e1];refine I1.laid (a:=s⁻¹+1) (o:=.ins C s⁻¹ []) (t':=s.toks) (λb u q=>ao _ q) (fV (fC _ _)) ?_;let ne:s⁻¹≠s⁻¹+1:=aO (mY _);refine#[by rw[i7 ne,x5],cc _,ne,e2,λx=>none,(Heap.Ns1.of_empty e3).at λo q=>ao _ q,λx=>True.intro,λy hy=>absurd rfl hy]
def UI{prog:Program}{env:Env}(hb:attributeBase e f env (eval e env)=eval e env)(h:wpAny (model prog w) A (eval e env) (λo bT=>wpAny (model prog w) A (getAttr o f true) Q E bT) E s):wpAny (model prog w) A (eval (.Attribute e f pos) env) Q E s :=
 Attribute_any_ h (by rw[arm_eval_Attribute,hb])
end
abbrev YW(K:PySem.W.Frag)(ta:TE)(f:Str):TE:=λU H Q=>ta U H λx H1=>∃a C dx fs v,x=.ref a/\H1 a=!.ins C dx fs/\kW K C/\E2 K C f/\fs.lookup f=!v/\Q v H1
abbrev YJ(K:PySem.W.Frag)(ta tv:TE)(f:Str):TS:=λD U H=>tv U H λy H1=>ta U H1 λx H2=>∃a C dx fs,x=.ref a/\H2 a=!.ins C dx fs/\kW K C/\E2 K C f/\-fs<1000 /\
 D.nx U (upd H2 a (.ins C dx (B9 f y fs)))
section
variable{o value:Expr}{f:Str}{tv:TE}
def bC0(he:PE X e ta)(hb:attributeBase e f X.env (eval e X.env)=eval e X.env):PE X (.Attribute e f pos) (YW X.K ta f):=by
 intro pi s U H Q I h;refine UI hb (dj (he pi s U H _ I h) λu s1 bH=>?_);let#[x,H1,I1,rx,a,C,dx,fs,v,ex,ea,c,n,l,q]:=bH;subst ex;obtain rfl:u=Value.ref a:=rx;exact aW8 I1 ea c n l λu' s2 I2 ru=>#[v,H1,I2,ru,q]
def bA4(ha:PE X o ta)(hv:PE X value tv)(hs:swapsWith value (!.Attribute o f pos') pos.line X.env=pure false):PS X (.Assign [.Attribute o f pos'] value pos) (YJ X.K ta tv f):=by
 intro pi s U H D I h;refine plainObj_wpAny_Assign_Attribute (dj (hv pi s U H _ I h) ?_) hs;rintro u s1 ⟨y,H1,I1,ry,q⟩;refine dj (ha pi s1 U H1 _ I1 q) λov s2 bH=>?_;let#[x,H2,I2,rx,a,C,dx,fs,ex,ea,c,n,l,q2]:=bH;subst ex;obtain rfl:ov=Value.ref a:=rx;exact aT3 I2 ea c n l ry λs3 I3=>#[U,_,I3,q2]
end
section
variable{c:Value}{b:Bool}
inductive iS(K:PySem.W.Frag)(H:Hp):V->Value->Prop where
 |bK:iS K H .bK (.type "NoneType")
 |bl (x:Bool):iS K H (.bl x) (.type "bool")
 |int (i:Int):iS K H (.int i) (.type "int")
 |str (x:Str):iS K H (.str x) (.type "str")
 |tR (x:UInt64):iS K H (.tR x) (.type "float")
 |lst {a:Addr} {xs:@&V} (e:H a=!.lst xs):iS K H (.ref a) (.type "list")
 |kK {a:Addr} {o:Obj} {xs:@&V} (e:H a=!.kK o (.lst xs)):iS K H (.ref a) (.type "list")
 |tup {a:Addr} {xs:@&V} (e:H a=!.tup xs):iS K H (.ref a) (.type "tuple")
 |dK {a:Addr} {kvs:@&(Key×V)} (e:H a=!.dK kvs):iS K H (.ref a) (.type "dict")
 |dT {a:Addr} {kvs:@&(List Key×V)} (e:H a=!.dT kvs):iS K H (.ref a) (.type "dict")
 |ins {a C dx:Addr} {fs:@&(Str×V)} (e:H a=!.ins C dx fs) (cl:kW K C) (ha:PySem.W.findIn K (.ref C) "__class__"=!!(.builtin "object.__class__"))
   (hn:PySem.W.specialIn K (.builtin "object.__class__") "__get__"=!!(.builtin "getset_descriptor.__get__")) (wZ:PySem.W.takesIn K (.builtin "object.__class__")=!true)
   (hm:PySem.W.mroIn K C (.type "object")=!true):iS K H (.ref a) (.ref C)
def a50{x:V}{t:Value}(I:Inv X pi U H s)(rx:RelV x u)(ty:iS X.K H x t)(e:PySem.W.kitOne X.K t c=!b)(h:∀tk,Q (.bool b) { s with toks:=tk }) :
  wpAny (model X.prog X.w) A (call (.builtin "isinstance") [u,c]) Q E s:=by
 cases ty with
 |bK=>cases (show u=Value.none from rx);exact cv PySem.W.kitx_none I.iR True.intro e (λz=>nomatch z) h
 |bl y=>cases (show u=Value.bool y from rx);exact cv PySem.W.kitx_bool I.iR True.intro e (λz=>nomatch z) h
 |int i=>let#[t,q]:=(show ∃t,u=Value.int i t from rx);cases q;exact cv PySem.W.kitx_int I.iR True.intro e (λz=>nomatch z) h
 |str y=>let#[t,q]:=(show ∃t,u=Value.str y t from rx);cases q;exact cv PySem.W.kitx_str I.iR True.intro e (λz=>nomatch z) h
 |tR y=>let#[t,q]:=(show ∃t,u=Value.float y t from rx);cases q;exact cv PySem.W.kitx_float I.iR True.intro e (λz=>nomatch z) h
 |@lst a xs ea =>
  cases (show u=Value.ref a from rx);let#[_,_,n,_,h1]:=(show u4 X.prog X.w H s.heap a (.lst xs) from I.cb a _ ea)
  exact cv PySem.W.kitx_list I.iR #[_,h1,rfl] e (λz=>nomatch z) h
 |@kK a ob xs ea =>
  cases (show u=Value.ref a from rx);let#[_,_,_,n,_,h1]:=(show u4 X.prog X.w H s.heap a (.kK ob (.lst xs)) from I.cb a _ ea)
  exact cv PySem.W.kitx_list I.iR #[_,h1,rfl] e (λz=>nomatch z) h
 |@tup a xs ea =>
  cases (show u=Value.ref a from rx);let#[_,_,_,p]:=(show u4 X.prog X.w H s.heap a (.tup xs) from I.cb a _ ea)
  let#[o,h1,h2,_]:=p;exact cv Pp I.iR #[o,h1,h2] e (λz=>nomatch z) h
 |@dK a kvs ea =>
  cases (show u=Value.ref a from rx);let#[_,_,vs,_,p]:=(show u4 X.prog X.w H s.heap a (.dK kvs) from I.cb a _ ea)
  let#[o,es,ep,h1,h2,_]:=p;exact cv PySem.W.kitx_dict I.iR #[o,h1,h2.1] e (λz=>nomatch z) h
 |@dT a kvs ea =>
  cases (show u=Value.ref a from rx);let#[_,_,xs,_,o,es,ep,h1,h2,_]:=(show u4 X.prog X.w H s.heap a (.dT kvs) from I.cb a _ ea)
  exact cv PySem.W.kitx_dict I.iR #[o,h1,h2.1] e (λz=>nomatch z) h
 |@ins a C dx fs ea cl ha hn wZ hm =>
  cases (show u=Value.ref a from rx);let#[mA,O,_]:=EG I.cb ea;let#[od,J,_]:=O.look;exact cv (PySem.W.kitx_own (cl.get _) cl.hd ha hn wZ hm) I.iR J e (λz=>nomatch z) h
end
structure A3(k:Nat)(A:Around):Prop where
 hd:A.handled=none
 dp:A.depth+3*k+5<recursionLimit
 un:A.units+16*k+200<cLine
def A3.mono{j:Nat}(r:A3 k A)(h:j<=k):A3 j A:=#[r.hd,by have:=r.dp;omega,by have:=r.un;omega]
def A3.deeper{k:Nat}{A:Around}(r:A3 (k+1) A)(env:Env):A3 k (A.deeper env) :=
 #[r.hd,by have:=r.dp;change A.depth+1+3*k+5<_;omega,by have:=r.un;change A.units+3+16*k+200<_;omega]
def aV8{kw:@&(Str×Value)}:(A.under (.builtin "type.__call__" #[.ref C::us,kw])).depth=A.depth+1:=by
 rfl
def aV7{kw:@&(Str×Value)}:(A.under (.builtin "type.__call__" #[.ref C::us,kw])).units=A.units+1:=by
 rfl
def A3.make(r:A3 (k+1) A)(C:Addr)(us:@&Value)(kw:@&(Str×Value)):A3 k (A.under (.builtin "type.__call__" #[.ref C::us,kw])) :=
 #[r.hd,by have:=r.dp;rw[aV8];omega,by have:=r.un;rw[aV7];omega]
def A3.depth{k:Nat}{A:Around}(r:A3 k A):A.depth<recursionLimit:=by have:=r.dp;omega
abbrev Ha:TA:=λx H Q=>Q [] H
abbrev bK0(ta:TE)(tr:TA):TA:=λU H Q=>ta U H λx H1=>tr U H1 λxs H2=>Q (x::xs) H2
def vI:PA X [] Ha:=λx x x x H Q I h=>Calls.spliced_nil #[[],H,I,.nil,h]
def V3(ha:PE X e te)(hr:PA X es t)(hs:starEach (e::es) X.env=(false,eval e X.env)::starEach es X.env:=by rfl):PA X (e::es) (bK0 te t):=by
 intro pos pi s U H Q I h;rw[hs];change wpAny _ _ (spliced ((false,eval e X.env)::backTo pos (starEach es X.env))) _ _ s;refine Calls.spliced_cons (dj (ha pi s U H _ I h) λu s1 bH=>?_);let#[x,H1,I1,r1,q1]:=bH;exact dj (hr pos pi s1 U H1 _ I1 q1) (by rintro us s2 ⟨xs,H2,I2,r2,q2⟩;exact #[x::xs,H2,I2,.cons r1 r2,q2])
abbrev Zd(t:TA):TE:=λU H Q=>t U H λxs H1=>-xs<=sizeLine/\∀p,H1 p=none->Q (.ref p) (upd H1 p (.tup xs))
abbrev YZ(t:TA):TE:=λU H Q=>t U H λxs H1=>-xs<=sizeLine/\∀p,H1 p=none->Q (.ref p) (upd H1 p (.lst xs))
def bB3{x1}(h:PA X es t):PE X (.Tuple es x1 pos) (Zd t):=by
 intro pi s U H Q I hq;refine wpAny_Tuple_spliced (dj (h pos pi s U H _ I hq) ?_);rintro us s1 ⟨xs,H1,I1,r,z,q⟩;refine #[by rw[<- -r];exact z,?_];let hf:H1 s1⁻¹=none:=I1.cb.fresh (av _);refine#[.ref s1⁻¹,upd H1 s1⁻¹ (.tup xs),I1.laid (t':=s1.toks) (λb u e=>ao _ e) (av _) ?_,rfl,q _ hf];exact#[z,us,r,#[_,aG _ rfl,rfl,#[_,rfl],rfl]]
def bB8(h:PA X es t):PE X (.List es pos) (YZ t):=by
 intro pi s U H Q I hq;refine wpAny_List_spliced (dj (h pos pi s U H _ I hq) ?_);rintro us s1 ⟨xs,H1,I1,r,z,q⟩;refine #[by rw[<- -r];exact z,?_];let hf:H1 s1⁻¹=none:=I1.cb.fresh (av _);refine#[.ref s1⁻¹,upd H1 s1⁻¹ (.lst xs),I1.laid (t':=s1.toks) (λb u e=>ao _ e) (av _) ?_,rfl,q _ hf];exact#[z,us,0,r,aG _ rfl]
noncomputable abbrev Sp:=@&V->Hp->VK->XK->Prop
noncomputable abbrev pb:=@&Env->Hp->Shared->XK->Value->Shared->Prop
structure tX(P:Program)(w:World)(K:PySem.W.Frag)(mg:Str->Option Value)(base:Heap)(A:Around)(outer:@&Env)(s:Shared)(H:Hp):Prop where
 frames:A.frames=!outer
 mod:Mod K mg base
 bs:∀b o,base.get? b=!o->s.heap.get? b=!o/\H b=none
 oW:base.objs.size<=s⁻¹
 M3:s.heap.FunFrames base outer
 pL:∀b∈gN outer,H b=none
 cb:gU P w H s.heap
 bare:AllBare s.gens
abbrev CE(outer:@&Env)(P:Program)(w:World)(H:Hp)(s:Shared)(Q:VK)(u:Value)(s':Shared):Prop :=
 ∃v H',s'.os=s.os/\AllBare s'.gens/\Un (gN outer) [] H H' s.heap s'.heap/\gU P w H' s'.heap/\RelV v u/\Q v H'
abbrev CR(CX:pb)(outer:@&Env)(P:Program)(w:World)(H:Hp)(s:Shared)(Q:VK)(E:XK)(r:Result)(s':Shared):Prop :=
 match r with
 |.ok (.ret u)=>CE outer P w H s Q u s'
 |.ok _=>False
 |.error e=>CX outer H s E e s'
structure jf(P:Program)(w:World)(K:PySem.W.Frag)(mg:Str->Option Value)(base:Heap)(CX:pb)(k:Nat)(f:Addr)(fd:FuncData)(ps:@&Str)(sp:Sp):Prop where
 len:∀vs H Q E,sp vs H Q E->-vs=-ps
 run:∀(A:Around) (outer:@&Env) (s:Shared) (H:Hp) (args:Args) (us:@&Value) (vs:@&V) (Q:VK) (E:XK),A3 k A->tX P w K mg base A outer s H->BindsTo s fd args (ps.zip us)->Vals vs us->sp vs H Q E ->
  codeAny (model P w) A (.call (.ref f) args) (CR CX outer P w H s Q E) s
def tX.make{mg:Str->Option Value}{outer:@&Env}(e:tX P w K mg base A outer s H)(C:Addr)(us:@&Value)(kw:@&(Str×Value)) :
  tX P w K mg base (A.under (.builtin "type.__call__" #[.ref C::us,kw])) outer s H:=#[by first|exact e.frames|(simpa[Around.under,Code.envs,Code.isFrame,pushEnvs] using e.frames),e.mod,e.bs,e.oW,e.M3,e.pL,e.cb,e.bare]
section
variable{s':Shared}
def Inv.KP(I:Inv X pi U H s):tX X.prog X.w X.K X.mg X.base X.A X.stack s H :=
 #[I.ok.frames,I.ok.mod,I.bs,aD I.ok.oW I.sz,I.stack,I.AK,I.cb,I.bare]
def Inv.after{Q:VK}(I:Inv X pi U H s)(h:CE X.stack X.prog X.w H s Q u s'):EP X pi U Q u s':=by
 let#[v,H',os,bare,un,cb,r,q]:=h;let#[hh,g,d,t,sU]:=s';obtain rfl:sU=s.os:=os;exact#[v,H',I.call (h':=hh) (g':=g) (d':=d) (t':=t) (ch:=[]) un cb bare (λb z=>absurd z #[_]),r,q]
end
abbrev KG(sp:Sp)(kM:@&V)(E:XK)(t:TA):TE:=λU H Q=>t U H λvs H1=>sp (vs++kM) H1 Q E
abbrev KH(C:Addr)(sp:Sp)(kM:@&V)(E:XK)(t:TA):TE:=λU H Q=>t U H λvs H1=>∀x dx,H1 x=none->H1 dx=none->dx≠x ->
 sp (.ref x::(vs++kM)) (upd (upd H1 dx (.own x)) x (.ins C dx [])) (λv H2=>v=.bK/\Q (.ref x) H2) E
abbrev Binds(K:PySem.W.Frag)(fd:FuncData)(ps:@&Str)(ds:@&Value):Prop :=
 ∀(s:Shared) (us:@&Value),K.In s.heap->(us++ds).length=-ps->BindsTo s fd #[us,[]] (ps.zip (us++ds))
def Binds.all(h:∀us:@&Value,(-us)=-ps->bindArgs fd #[us,[]]=pure (ps.zip us)):Binds K fd ps []:=λs us x hl=>by
 rw[dM] at hl ⊢;exact .of_eq (h us hl)
abbrev Passes(CX:pb)(X:Cx)(E:XK):Prop:=∀(pi:@&(Addr×Obj)) (U:St) (H:Hp) (s:Shared) (e:Value) (s':Shared),Inv X pi U H s->CX X.stack H s E e s'->X.xe e s'
section
variable{kM:@&V}{ds:@&Value}{E:XK}
def OU{Q:VK}(F:jf X.prog X.w X.K X.mg X.base CX k f fd ps sp)(hr:A3 k X.A)(hb:Binds X.K fd ps ds)(hd:Vals kM ds)(hx:Passes CX X E)(I:Inv X pi U H s)(r:Vals vs us)(h:sp (vs++kM) H Q E):wpAny (model X.prog X.w) X.A (call (.ref f) us) (EP X pi U Q) X.xe s:=by
 let r2:Vals (vs++kM) (us++ds):=r.append hd;let hl:(us++ds).length=-ps:=by rw[<- -r2];exact F.len _ _ _ _ h
 refine wpAny_call (iM (F.run X.A X.stack s H #[us,[]] (us++ds) (vs++kM) Q E hr I.KP (hb s us I.iR hl) r2 h) λr s' hq=>?_);cases r with
 |error e=>exact hx pi U H s e s' I hq
 |ok fl =>
  cases fl with
  |ret u=>exact I.after hq
  |next=>exact False.elim hq
  |brk=>exact False.elim hq
  |cont=>exact False.elim hq
def Vr(F:jf X.prog X.w X.K X.mg X.base CX k f fd ps sp)(hr:A3 k X.A)(hg:Gl X x)(hm:X.mg x=!.ref f)(hk:PySem.W.keepIn X.K (.ref f)=true)(hb:Binds X.K fd ps ds)(hd:Vals kM ds)(hx:Passes CX X E)(ha:PA X (e::es) t)(iL:(x==("__debug__":Str))=false:=by decide)(he:starEach (e::es) X.env=(false,eval e X.env)::starEach es X.env:=by rfl)(ir:(backTo pos (starEach es X.env)).any (·.1)=false:=by rfl) :
  PE X (.Call (.Name x p) (e::es) [] pos) (KG sp kM E t):=by
 intro pi s U H Q I h;refine df (Q3 I hg hm ?_ iL);refine Pq (h₀:=X.base) I.ok.mod.pz hk (dj (ha pos pi s U H _ I h) ?_) he ir;rintro us s1 ⟨vs,H1,I1,r,q⟩;refine #[I1.iR,?_];exact OU F hr hb hd hx I1 r q
def Xe(F:jf X.prog X.w X.K X.mg X.base CX k f fd ps sp)(hr:A3 k X.A)(hg:Gl X x)(hm:X.mg x=!.ref f)(hk:PySem.W.keepIn X.K (.ref f)=true)(hb:Binds X.K fd ps ds)(hd:Vals kM ds)(hx:Passes CX X E)(iL:(x==("__debug__":Str))=false:=by decide):PE X (.Call (.Name x p) [] [] pos) (KG sp kM E Ha):=by
 intro pi s U H Q I h;refine df (Q3 I hg hm ?_ iL);exact Ho I.iR hk (OU (us:=[]) F hr hb hd hx I .nil h)
structure Mk(K:PySem.W.Frag)(C f:Addr):Prop where
 makes:PySem.W.makesIn K C=true
 init:PySem.W.findIn K (.ref C) "__init__"=!!.ref f
 fn:PySem.W.isFn K (.ref f)=true
 kp:PySem.W.keepIn K (.ref C)=true
def Og{Q:VK}(M:Mk X.K C f)(F:jf X.prog X.w X.K X.mg X.base CX k f fd ps sp)(hr:A3 (k+1) X.A)(hb:Binds X.K fd ps ds)(hd:Vals kM ds)(hx:Passes CX X E)(I:Inv X pi U H s)(r:Vals vs us)(h:∀x dx,H x=none->H dx=none->dx≠x->sp (.ref x::(vs++kM)) (upd (upd H dx (.own x)) x (.ins C dx [])) (λv H2=>v=.bK/\Q (.ref x) H2) E) :
  wpAny (model X.prog X.w) X.A (call (.ref C) us) (EP X pi U Q) X.xe s:=by
 let hq:=h (s⁻¹+1) s⁻¹ (I.cb.fresh (cR _)) (I.cb.fresh (av _)) (aO (mY _));let I2:=Inv.made (C:=C) I;let r2:Vals (V.ref (s⁻¹+1)::(vs++kM)) (Value.ref (s⁻¹+1)::(us++ds)):=.cons rfl (r.append hd);let hl:(Value.ref (s⁻¹+1)::us++ds).length=-ps:=by
  let e:=-r2;rw[F.len _ _ _ _ hq] at e;exact e.symm
 refine wpAny_call (WW (f:=f) I.iR M.makes M.init (bx.mp M.fn) (iM (F.run _ X.stack _ _ #[Value.ref (s⁻¹ + 1) :: us,[]] (Value.ref (s⁻¹ + 1) :: (us ++ ds)) _ _ E (hr.make C us [])
  (I2.KP.make C us []) (hb _ (Value.ref (s⁻¹ + 1) :: us) I2.iR hl) r2 hq) λr s' oA=>?_))
 cases r with
 |error e=>exact hx pi U _ _ e s' I2 oA
 |ok fl =>
  cases fl with
  |ret u =>
   let#[v,H',I3,rv,ev,q3]:=I2.after oA;subst ev;exact#[rv,#[V.ref (s⁻¹+1),H',I3,rfl,q3]]
  |next=>exact False.elim oA
  |brk=>exact False.elim oA
  |cont=>exact False.elim oA
def Vt(M:Mk X.K C f)(F:jf X.prog X.w X.K X.mg X.base CX k f fd ps sp)(hr:A3 (k+1) X.A)(hg:Gl X x)(hm:X.mg x=!.ref C)(hb:Binds X.K fd ps ds)(hd:Vals kM ds)(hx:Passes CX X E)(ha:PA X (e::es) t)(iL:(x==("__debug__":Str))=false:=by decide)(he:starEach (e::es) X.env=(false,eval e X.env)::starEach es X.env:=by rfl)(ir:(backTo pos (starEach es X.env)).any (·.1)=false:=by rfl) :
  PE X (.Call (.Name x p) (e::es) [] pos) (KH C sp kM E t):=by
 intro pi s U H Q I h;refine df (Q3 I hg hm ?_ iL);refine Pq (h₀:=X.base) I.ok.mod.pz M.kp (dj (ha pos pi s U H _ I h) ?_) he ir;rintro us s1 ⟨vs,H1,I1,r,q⟩;refine #[I1.iR,?_];exact Og M F hr hb hd hx I1 r q
def Xi(M:Mk X.K C f)(F:jf X.prog X.w X.K X.mg X.base CX k f fd ps sp)(hr:A3 (k+1) X.A)(hg:Gl X x)(hm:X.mg x=!.ref C)(hb:Binds X.K fd ps ds)(hd:Vals kM ds)(hx:Passes CX X E)(iL:(x==("__debug__":Str))=false:=by decide):PE X (.Call (.Name x p) [] [] pos) (KH C sp kM E Ha):=by
 intro pi s U H Q I h;refine df (Q3 I hg hm ?_ iL);exact Ho I.iR M.kp (Og (us:=[]) M F hr hb hd hx I .nil h)
end
structure jD(N P:@&Str)(sc:Scope):Prop where
 kind:sc.kind=.function
 co:sc.isCoroutine=false
 gen:sc.isGenerator=false
 nd:N.Nodup
 pre:N.take (-P)=P
 par:∀x∈P,sc.names.lookup x=!.local\/sc.names.lookup x=!.cell
 ow:∀y∈sc.names,y.2≠.free
def OB{kindOf:Str->Option NameKind}{x:Str}:∀{binds:@&(Str×Value)} {m:Str->Option Value},(∀v,(x,v)∉binds)->bindL kindOf binds m x=m x
 |[],_,_=>rfl
 |(n,v)::r,m,h=>by
  unfold bindL;rw[OB λw hw=>h w (bI _ hw)];split
  .have:x≠n:=by rintro rfl;exact h v dD
   simp[this]
  .rfl
def Oz{kindOf:Str->Option NameKind}{x:Str}:∀{binds:@&(Str×Value)} {m:Str->Option Value},(∀v,(x,v)∉binds)->bindC kindOf binds m x=m x
 |[],_,_=>rfl
 |(n,v)::r,m,h=>by
  unfold bindC;rw[Oz λw hw=>h w (bI _ hw)];split
  .rfl
  .have:x≠n:=by rintro rfl;exact h v dD
   simp[this]
def OA{kindOf:Str->Option NameKind}{x:Str}{v:Value}:∀{P:@&Str} {vs:@&Value} {i:Nat} {m:Str->Option Value},P.Nodup->P[i]?=!x->vs[i]?=!v->kindOf x=!.local ->
  bindL kindOf (P.zip vs) m x=!v
 |[],_,_,_,_,h,_,_=>by simp at h
 |_::_,[],_,_,_,_,h,_=>by simp at h
 |p::P,w::vs,0,m,nd,h1,h2,hk=>by
  simp at h1 h2;subst h1;subst h2;change bindL kindOf ((p,w)::P.zip vs) m p=_;unfold bindL;rw[OB λv hv=>(dI.mp nd).1 (oh hv).1,aI hk];simp
 |p::P,w::vs,i+1,m,nd,h1,h2,hk=>by
  unfold bindL;exact OA (i:=i) (dI.mp nd).2 (by simpa using h1) (by simpa using h2) hk
def Oy{kindOf:Str->Option NameKind}{x:Str}{v:Value}:∀{P:@&Str} {vs:@&Value} {i:Nat} {m:Str->Option Value},P.Nodup->P[i]?=!x->vs[i]?=!v->kindOf x≠!.local ->
  bindC kindOf (P.zip vs) m x=!v
 |[],_,_,_,_,h,_,_=>by simp at h
 |_::_,[],_,_,_,_,h,_=>by simp at h
 |p::P,w::vs,0,m,nd,h1,h2,hk=>by
  simp at h1 h2;subst h1;subst h2;change bindC kindOf ((p,w)::P.zip vs) m p=_;unfold bindC;rw[Oz λv hv=>(dI.mp nd).1 (oh hv).1,aE hk];simp
 |p::P,w::vs,i+1,m,nd,h1,h2,hk=>by
  unfold bindC;exact Oy (i:=i) (dI.mp nd).2 (by simpa using h1) (by simpa using h2) hk
abbrev start(N:@&Str)(vs:@&V):St:=vs.map some++List.replicate (-N- -vs) none
abbrev qI(CX:pb)(P:Program)(w:World)(K:PySem.W.Frag)(mg:Str->Option Value)(base:Heap)(N:@&Str)(qual:Str)(scope:Scope)(f:Addr)(cd:Value)(A:Around)(outer:@&Env)(s:Shared)(H:Hp)(E:XK):Cx where
 prog:=P
 w:=w
 K:=K
 mg:=mg
 base:=base
 A:=A.deeper (envOfC qual scope s⁻¹ f cd)
 N:=N
 dS:=s
 ko:=H
 env:=envOfC qual scope s⁻¹ f cd
 outer:=outer
 stack:=envOfC qual scope s⁻¹ f cd::outer
 ex:=[]
 calm:=true
 fn:=λx=>true
 pn:=[]
 xe:=λe s'=>wpAny (model P w) (A.deeper (envOfC qual scope s⁻¹ f cd)) (leaving (envOfC qual scope s⁻¹ f cd) e) (λx pW=>CX outer H s E e pW) (λe' pW=>CX outer H s E e' pW) s'
def ET{sc:Scope}{n:Nat}(h:sc.names.lookup x=!.cell):∃c,(cellsFrom n sc.names []).lookup x=!c:=by
 let q:=eP sc.names n [] (.inl h);exact fB.mp q
def a51{mg:Str->Option Value}{qual:Str}{scope:Scope}{cd:Value}{outer:@&Env}{s1:Shared}{E:XK}(S:jD N ps scope)(hd:A.handled=none)(e0:tX P w K mg base A outer s H)(hl:-vs=-ps)(r:Vals vs us)(x:InCallC s s⁻¹ (bindL (envOfC qual scope s⁻¹ f cd).kindOf (ps.zip us) λt=>none) (cellsFrom (s⁻¹+1) scope.names []) (bindC (envOfC qual scope s⁻¹ f cd).kindOf (ps.zip us) λt=>none) s1) :
  Inv (qI CX P w K mg base N qual scope f cd A outer s H E) [] (start N vs) H s1:=by
 let ir:-ps<=-N:=by have:=hV List.length S.pre;grind
 let#[h1,tk,rfl,hk]:=x.done;let wz:∀b:Addr,b∉(qI CX P w K mg base N qual scope f cd A outer s H E).ex:=λb z=>absurd (show b∈([]:@&Addr) from z) #[_];refine #[#[e0.mod,S.kind,rfl,rfl,av _,λy z c h1 h2=>?_,λy hy=>?_,λy c t h=>?_,λt=>hd,Around.frames_deeper e0.frames,.inr #[rfl,rfl],λb z=>absurd z (wz b),e0.bs,e0.oW,λb t t=>wz b,λb z=>absurd z (wz b),e0.M3,e0.pL],
  rfl,e0.bare,Un.kept hk,#[_,x.toInCall.ns,λi y v h1 h2 h3=>?_],λy c h=>#[_,x.cell y c h],e0.cb.fresh (av _),λy c h=>?_,λp hp=>absurd (show p ∈ ([]:@&(Addr × Obj)) from hp) #[_],e0.cb.kept hk,?_,λdE z=>absurd (show (none:Option (List (Option V)))=some dE from z) #[_]]
 .exact name_of_addr x.apart (aX h1) (aX h2)
 .rcases hy with hy|hy
  .exact ET hy
  .exact absurd rfl (S.ow _ (aX hy))
 .exact fj (x.above y c (aX h))
 .let hi:i< -vs:=by
   unfold start at h2;by_cases hi:i< -vs
   .exact hi
   .rw[cO (by simpa using hi)] at h2;rw[eJ] at h2
    simp_all
  let ha:vs[i]?=!v:=by
   unfold start at h2;rw[aN (by simpa using hi),ai] at h2;cases e:vs[i]? with
   |none=>rw[e] at h2;cases h2
   |some a=>rw[e] at h2;cases h2;rfl
  let#[u,hu,rv]:=r.get ha;let hp:ps[i]?=!y:=by
   rw[<- S.pre,da ()];exact h1
  let HZ:ps.Nodup:=by rw[<- S.pre];exact S.nd.sublist (List.take_sublist _ _)
  refine#[u,rv,?_];rcases S.par y (aH hp) with k|k
  .exact .inl #[k,OA HZ hp hu k]
  .let#[c,e]:=ET (n:=s⁻¹+1) k;refine .inr #[.inl k,c,e,?_];let q:=x.cell y c e;rw[Oy HZ hp hu (by change scope.names.lookup y≠_;rw[k];decide)] at q;exact q
 .exact e0.cb.fresh (fj (x.above y c (aX h)))
 .unfold start;change _=-N
  simp_all
def ZI{mg:Str->Option Value}{name qual:Str}{params:Arguments}{scope:Scope}{dV kV doc pm gJ ct oc:Value}{an od:Option Addr}{nU:Array (Option Value)}(lk:K.lookup f=!#[oc,od,.func (PySem.W.fnOf name qual params body scope dV kV doc pm an gJ ct),nU])(nA:PySem.W.codeIn K gJ qual=true)(S:jD N ps scope)(len:∀vs H Q E,sp vs H Q E->-vs=-ps)(xu:∀ (A:Around) (outer:@&Env) (s:Shared) (H:Hp) (vs:@&V) (Q:VK) (E:XK),A3 k (A.deeper (envOfC qual scope s⁻¹ f gJ))->sp vs H Q E ->
   ∃ t,jV (qI CX P w K mg base N qual scope f gJ A outer s H E) body t/\t { nx:=λz H'=>Q .bK H',rt:=Q } (start N vs) H) :
  jf P w K mg base CX (k+1) f (PySem.W.fnOf name qual params body scope dV kV doc pm an gJ ct) ps sp:=by
 refine#[len,λA outer s H args us vs Q E hr e0 hb r uI=>?_];let hl:=len _ _ _ _ uI;let KX:K.In s.heap:=e0.mod.pz.keeps λb o e=>(e0.bs b o e).1;let lim:s.heap.NoLimit:=e0.mod.nolimit.keeps λb o e=>(e0.bs b o e).1;let xk:∀y∈ps.zip us,scope.names.lookup y.1=!.local\/(scope.names.lookup y.1=!.cell/\((cellsFrom (s⁻¹+1) scope.names []).lookup y.1).isSome=true):=λ⟨n,v⟩ hy=>by
  rcases S.par n (oh hy).1 with q|q
  .exact .inl q
  .exact .inr #[q,eP _ _ _ (.inl q)]
 refine codeAny_call_function hr.depth (KX _ _ lk) rfl S.co S.gen rfl (PySem.W.codeRec_of KX nA) (hb _ _ _ _ ?_);refine wpAny_newFunctionEnv_cells S.kind xk λenv he s1 x=>?_;subst he;refine#[lim.keeps x.toInCall.keep,codeAny_func ?_];let#[t,ht,hq]:=xu A outer s H vs Q E (hr.deeper _) uI;let I:Inv (qI CX P w K mg base N qual scope f gJ A outer s H E) [] (start N vs) H s1:=a51 S hr.hd e0 hl r x;refine bJ (ht [] s1 (start N vs) H _ I hq) (λfl s' hs=>?_) λe s' hs=>hs;let fin:∀{cA:St} {H':Hp} {v:V} {u:Value},Inv (qI CX P w K mg base N qual scope f gJ A outer s H E) [] cA H' s'->RelV v u->Q v H'->CE outer P w H s Q u s' :=
  λ{cA H' v u} J rv q=>#[v,H',J.os,J.bare,J.base,J.cb,rv,q]
 cases fl with
 |ret u =>
  let#[v,cA,H',J,rv,q]:=hs;exact fin J rv q
 |next =>
  let#[cA,H',J,q]:=hs;exact fin (v:=V.bK) (u:=Value.none) J rfl q
 |brk =>
  let#[_,_,_,q]:=hs
  simp_all
 |cont =>
  let#[_,_,_,q]:=hs
  simp_all
section
variable{id T:String}{r:@&V->Hp->VK->Prop}
abbrev BX(r:@&V->Hp->VK->Prop)(t:TA):TE:=λU H Q=>t U H λvs H1=>r vs H1 Q
def AU(hc:o8 X (.builtin id) r)(hg:Gl X x)(hm:X.mg x=none)(hv:bootBuiltins x=!.builtin id)(ha:PA X (e::es) t)(hn:x≠"__name__":=by decide)(iL:(x==("__debug__":Str))=false:=by decide)(he:starEach (e::es) X.env=(false,eval e X.env)::starEach es X.env:=by rfl)(ir:(backTo pos (starEach es X.env)).any (·.1)=false:=by rfl):PE X (.Call (.Name x p) (e::es) [] pos) (BX r t):=by
 intro pi s U H Q I h;refine df (O1 I hg hm hv ?_ hn iL);exact PyProof.Rows.callWith_builtin1 (dj (ha pos pi s U H _ I h) (by rintro us s1 ⟨vs,H1,I1,r1,q1⟩;exact hc pi s1 U H1 vs us Q I1 r1 q1)) he ir
def S3(hc:o8 X (.type T) r)(hg:Gl X x)(hm:X.mg x=none)(hv:bootBuiltins x=!.type T)(ha:PA X (e::es) t)(hn:x≠"__name__":=by decide)(iL:(x==("__debug__":Str))=false:=by decide)(he:starEach (e::es) X.env=(false,eval e X.env)::starEach es X.env:=by rfl)(ir:(backTo pos (starEach es X.env)).any (·.1)=false:=by rfl):PE X (.Call (.Name x p) (e::es) [] pos) (BX r t):=by
 intro pi s U H Q I h;refine df (O1 I hg hm hv ?_ hn iL);exact bU (dj (ha pos pi s U H _ I h) (by rintro us s1 ⟨vs,H1,I1,r1,q1⟩;exact hc pi s1 U H1 vs us Q I1 r1 q1)) he ir
end
end L2
namespace HT
open PySem PyProof.Rows
section
variable{prog:Program}{w:World}{A:Around}{E:Value->Shared->Prop}{s:Shared}
abbrev fe(n d:Nat):Option Int->Nat
 |none=>d
 |some v=>if v<0 then(v+(n:Int)).toNat else min v.toNat n
def MY(v:Int)(n d:Nat):(if v<0 then max (v+(n:Int)) 0 else min v (n:Int))=((fe n d (!v):Nat):Int):=by
 show(if v<0 then max (v+(n:Int)) 0 else min v (n:Int))=(((if v<0 then(v+(n:Int)).toNat else min v.toNat n):Nat):Int)
 grind
def aY8(lo hi:Option Int)(n:Nat):Builtin.Slice.sliceAdjust lo hi 1 (n:Int)=(((fe n 0 lo:Nat):Int),((fe n n hi:Nat):Int)):=by
 refine BE ?_ ?_
 .cases lo with
  |none=>rfl
  |some v=>exact MY v n 0
 .cases hi with
  |none=>rfl
  |some v=>exact MY v n n
def aU0(i j:Nat):Builtin.Slice.slicePlaces (i:Int) (j:Int) 1=j-i:=by
 unfold Builtin.Slice.slicePlaces;let h1:(1:Int)>0:=by omega
 simp only[h1,if_true,Int.ediv_one];split<;>omega
def Md{v:Value}{o:Option Int}{Q:Option Int->Shared->Prop}(p:IsPart v o)(h:Q o s):wpAny (model prog w) A (Builtin.Slice.slicePartIndex v) Q E s:=by
 cases p with
 |none=>exact slicePart_none h
 |int i t=>exact slicePart_int h
def V9{sl:Addr}{vl vu:Value}{lo hi:Option Int}{n:Nat}{Q:Int×Int×Nat->Shared->Prop}(hs:s.heap.IsSliceOf sl vl vu .none)(pl:IsPart vl lo)(pu:IsPart vu hi)(h:Q (((fe n 0 lo:Nat):Int),1,fe n n hi-fe n 0 lo) s):wpAny (model prog w) A (Builtin.Slice.sliceApplied (.ref sl) (pure (n:Int))) Q E s:=by
 let#[os,tj,zN,xq]:=id hs;refine aa (aa (mf tj xq (x:=vl) rfl (aa (mf tj xq (x:=vu) rfl (aa (mf tj xq (x:=.none) rfl (au ?_)))))));refine aa (slicePart_none ?_);refine aa (Md pl (aa (Md pu (aa (au ?_)))));change wpAny _ _ (match Builtin.Slice.sliceAdjust lo hi 1 (n:Int) with|(lo,hi)=>pure (lo,(1:Int),Builtin.Slice.slicePlaces lo hi 1)) _ _ s;rw[aY8 lo hi n];change wpAny _ _ (pure (((fe n 0 lo:Nat):Int),(1:Int),Builtin.Slice.slicePlaces ((fe n 0 lo:Nat):Int) ((fe n n hi:Nat):Int) 1)) _ _ s;rw[aU0];exact au h
def Xl(xs:Array Value)(i k:Nat):((List.range k).filterMap λ(m:Nat)=>xs[((i:Int)+(m:Int)*1).toNat]?).toArray=((xs.toList.drop i).take k).toArray:=by
 let e:(λ(m:Nat)=>xs[((i:Int)+(m:Int)*1).toNat]?)=λm=>xs[i+m]?:=by
  funext m
  have:((i:Int)+(m:Int)*1).toNat=i+m:=by omega
  rw[this]
 rw[e];have:=pick_run xs i k;rw[List.filterMap_map] at this;let e2:((λx=>xs[x]?) ∘ λx=>i+x)=λm=>xs[i+m]?:=rfl;rw[e2] at this;rw[this]
def am0{t sl:Addr}{items:Array Value}{vl vu:Value}{lo hi:Option Int}{Q:Value->Shared->Prop}(ht:IsTup s.heap t items)(hs:s.heap.IsSliceOf sl vl vu .none)(pl:IsPart vl lo)(pu:IsPart vu hi)(hw:¬(fe items.size 0 lo=0/\fe items.size items.size hi=items.size))(h:Q (.ref s⁻¹) { s with heap:=s.heap.push { cls:=.type "tuple",data:=.seq ((items.toList.drop (fe items.size 0 lo)).take (fe items.size items.size hi-fe items.size 0 lo)).toArray } })(hsz:items.size<=sizeLine):wpAny (model prog w) A (getItem (.ref t) (.ref sl)) Q E s:=by
 let mO:sizeOk (.seq ((items.toList.drop (fe items.size 0 lo)).take (fe items.size items.size hi-fe items.size 0 lo)).toArray):=by
  show((items.toList.drop (fe items.size 0 lo)).take (fe items.size items.size hi-fe items.size 0 lo)).toArray.size<=sizeLine;rw[aY,dA,List.length_drop,cC];omega
 let#[os,tj,zN,xq]:=id hs;let Dn:s.TypeIs (.ref sl) "slice":=#[os,tj,zN]
 unfold getItem
 try with_reducible refine bO ?_
 refine aa (wpAny_sequenceKey ht.typeIs ∅ ?_);refine aa (gs (name:=Str.ofString "__getitem__") ht.typeIs bZ
  (de bZ ht.typeIs entry_tuple_getitem ?_ (args_tuple_getitem _ _)))
 change wpAny _ _ (Builtin.Tuple.tupleItemsOf (.ref t) >>= _) _ _ s;refine aa (tupleItemsOf_ ht ?_);refine aa (eZ Dn ?_);refine aa (V9 hs pl pu ?_);let rE:¬((((fe items.size 0 lo:Nat):Int)==0&&(1:Int)==1&&(fe items.size items.size hi-fe items.size 0 lo)==items.size)=true):=by
  grind
 change wpAny _ _ (if(((fe items.size 0 lo:Nat):Int)==0&&(1:Int)==1&&(fe items.size items.size hi-fe items.size 0 lo)==items.size)=true then _ else _) _ _ s;rw[aE rE,Xl]
 first
  |exact wpAny_bind (m:=Builtin.Tuple.tupleExact _) (wpAny_newObj_type (wpAny_pure #[_,rfl,wpAny_pure h]) mO)
  |exact wpAny_bind (m:=Builtin.Tuple.tupleExact _) (wpAny_newObj_type (wpAny_bind (wpAny_pure (wpAny_pure #[_,rfl,wpAny_pure h]))) mO)
  |exact wpAny_bind (wpAny_bind (m:=Builtin.Tuple.tupleExact _) (wpAny_newObj_type (wpAny_pure (wpAny_pure #[_,rfl,wpAny_pure h])) mO))
  |exact wpAny_bind (wpAny_bind (m:=Builtin.Tuple.tupleExact _) (wpAny_newObj_type (wpAny_pure #[_,rfl,wpAny_pure h]) mO))
end
end HT
namespace L2
open PySem PySem.Spec PyProof.Rows
variable{X:Cx}{e:Expr}{pos:Pos}{n t':Nat}{a:Addr}{pi:@&(Addr×Obj)}{U:St}{H H':Hp}{s:Shared}{bA:@&Value}{o:Option V}{w:World}{A:Around}{E:Value->Shared->Prop}{u:Value}{kvs:@&(List Key×V)}{y:V}{P:Program}
noncomputable abbrev TO:=St->Hp->(Option Int->Hp->Prop)->Prop
abbrev PO(X:Cx)(e:Option Expr)(t:TO):Prop :=
 ∀(pi:@&(Addr×Obj)) (s:Shared) (U:St) (H:Hp) (Q:Option Int->Hp->Prop),Inv X pi U H s->t U H Q ->
  wpAny (model X.prog X.w) X.A (evalPart e X.env) (λu s'=>∃o H',Inv X pi U H' s'/\IsPart u o/\Q o H') X.xe s
abbrev Wg:TO:=λx H Q=>Q none H
abbrev bJ7(t:TE):TO:=λU H Q=>t U H λx H1=>∃i,x=.int i/\Q (!i) H1
section
variable{te:TE}{lo hi:Option Expr}{tl th:TO}{p2:Pos}
def Nv:PO X none Wg:=by
 intro pi s U H Q I h;exact au #[none,H,I,.none,h]
def Nw(h:PE X e te):PO X (!e) (bJ7 te):=by
 intro pi s U H Q I hw;refine dj (h pi s U H _ I hw) λu s1 bH=>?_;let#[x,H1,I1,r1,q1]:=bH;let#[i,rfl,q]:=q1;let#[t,rfl]:=r1;exact#[!i,H1,I1,.int i t,q]
abbrev yN(X:Cx)(r:V->Option Int->Option Int->Hp->VK->Prop):Prop :=
 ∀(pi:@&(Addr×Obj)) (s:Shared) (U:St) (H:Hp) (x:V) (v vl vu:Value) (lo hi:Option Int) (sl:Addr) (Q:VK),Inv X pi U H s->RelV x v->s.heap.IsSliceOf sl vl vu .none->IsPart vl lo->IsPart vu hi->r x lo hi H Q ->
  ∃T id,typeLookup (.type T) "__getitem__"=pure (!.builtin id)/\s.TypeIs v T/\wpAny (model X.prog X.w) X.A (getItem v (.ref sl)) (EP X pi U Q) X.xe s
abbrev PY(r:V->Option Int->Option Int->Hp->VK->Prop)(te:TE)(tl th:TO):TE:=λU H Q=>te U H λx H1=>tl U H1 λl H2=>th U H2 λu H3=>r x l u H3 Q
def Oc{r:V->Option Int->Option Int->Hp->VK->Prop}(hr:yN X r)(he:PE X e te)(hl:PO X lo tl)(hu:PO X hi th):PE X (.Subscript e (.Slice lo hi none p2) pos) (PY r te tl th):=by
 intro pi s U H Q I h;refine Subscript_ (dj (he pi s U H _ I h) λv s1 bH=>?_);let#[x,H1,I1,r1,q1]:=bH;refine wpAny_Slice (dj (hl pi s1 U H1 _ I1 q1) ?_);rintro vl s2 ⟨l,H2,I2,pl,q2⟩;refine dj (hu pi s2 U H2 _ I2 q2) λvu s3 bH=>?_;let#[u,H3,I3,pu,q3]:=bH;refine au ?_;let I4:Inv X pi U H3 { s3 with heap:=s3.heap.push { cls:=.type "slice",data:=.fields (List.toArray [vl,vu,.none]) } }:=I3.kept (t':=s3.toks) λb ob q=>ao _ q;let#[T,id,hT,ht,hg]:=hr pi { s3 with heap:=s3.heap.push { cls:=.type "slice",data:=.fields (List.toArray [vl,vu,.none]) } } U H3 x v vl vu l u s3⁻¹ Q I4 r1 (Heap.IsSliceOf.new ..) pl pu q3;exact tail_any (ops:=[.ref s3⁻¹,v]) ht hT hg (by rfl)
abbrev X0(xs:@&V)(lo hi:Option Int):@&V:=(xs.drop (HT.fe (-xs) 0 lo)).take (HT.fe (-xs) (-xs) hi-HT.fe (-xs) 0 lo)
def Mh(xs:@&V)(lo hi:Option Int):(X0 xs lo hi).length<=-xs:=by
 unfold X0;rw[dA,List.length_drop];omega
abbrev YH(K:PySem.W.Frag):V->Option Int->Option Int->Hp->VK->Prop:=λx lo hi H Q=>∃a xs,x=.ref a/\kl K H a xs /\
 ¬(HT.fe (-xs) 0 lo=0/\HT.fe (-xs) (-xs) hi=-xs)/\∀p,H p=none->Q (.ref p) (upd H p (.tup (X0 xs lo hi)))
def TX:yN X (YH X.K):=by
 intro pi s U H x v vl vu lo hi sl Q I rx hs pl pu h;let#[a,xs,rfl,hx,hw,q]:=h;cases rx;let#[bA,r,ht,hz]:=I.tuple hx;let hlen:bA.toArray.size=-xs:=by exact r.length.symm
 refine#["tuple",_,bZ.lookup,ht.typeIs,?_];refine HT.am0 ht hs pl pu (by rw[hlen];exact hw) ?_ (by rw[hlen];exact hz);rw[hlen];refine#[.ref s⁻¹,_,I.laid (t':=s.toks) (o:=.tup (X0 xs lo hi)) (λb ob q=>ao _ q) (av _) ?_,rfl,q _ (I.cb.fresh (av _))];exact#[aD (Mh xs lo hi) hz,_,(r.drop (HT.fe (-xs) 0 lo)).take (HT.fe (-xs) (-xs) hi-HT.fe (-xs) 0 lo),X5.new _ _]
end
abbrev mB(n:Nat)(i:Int):Option Nat:=if 0<=i then(if i<n then some i.toNat else none) else if -(n:Int)<=i then some (i+n).toNat else none
abbrev gP{α:Type}(xs:List α)(i:Int):Option α:=(mB (-xs) i).bind λj=>xs[j]?
def Ni{i:Int}{j:Nat}(h:mB n i=!j):seqIndex? i n=!j/\j<n/\-(n:Int)<=i/\i<n:=by
 unfold mB at h;by_cases h0:0<=i
 .rw[aI h0] at h;by_cases h1:i<n
  .rw[aI h1] at h;let e:i.toNat=j:=aS h;exact#[by rw[seqIndex_of h0 h1,e],by omega,by omega,h1]
  simp_all
 .rw[aE h0] at h;by_cases h1:-(n:Int)<=i
  .rw[aI h1] at h;let e:(i+n).toNat=j:=aS h;exact#[by rw[seqIndex_neg () h1,e],by omega,h1,by omega]
  simp_all
def MX{α:Type}{xs:List α}{i:Int}{v:α}(h:gP xs i=!v):∃j,seqIndex? i (-xs)=!j/\xs[j]?=!v/\j< -xs/\-(-xs:Int)<=i/\i< -xs:=by
 unfold gP at h;cases e:mB (-xs) i with
 |none=>simp_all
 |some j =>
  rw[e] at h;let#[h1,h2,h3,h4]:=Ni e;exact#[j,h1,h,h2,h3,h4]
def A7{α:Type}{xs:List α}{j:Nat}{v:α}(h:xs[j]?=!v):gP xs (j:Int)=!v:=by
 let hj:j< -xs:=(aw.mp h).1;let e:mB (-xs) (j:Int)=!j:=by
  unfold mB
  simp_all
 unfold gP;rw[e];exact h
abbrev Ez(b:Expr):Prop:=∀o i,subscripted b false o i=operate [o,i] (getItem o i)
abbrev vM(X:Cx)(r:R2):Prop :=
 ∀(value slice:Expr) (pi:@&(Addr×Obj)) (s:Shared) (U:St) (H:Hp) (x y:V) (v u:Value) (Q:VK),Inv X pi U H s->RelV x v->RelV y u->r x y H Q ->
  subscripted slice false v u=operate [v,u] (getItem v u)->wpAny (model X.prog X.w) X.A (subscriptTail value slice v u) (EP X pi U Q) X.xe s
abbrev nE(X:Cx)(id:String)(r:V->@&V->Hp->VK->Prop):Prop :=
 ∀(pi:@&(Addr×Obj)) (s:Shared) (U:St) (H:Hp) (x:V) (xs:@&V) (v:Value) (us:@&Value) (Q:VK),Inv X pi U H s->RelV x v->Vals xs us->r x xs H Q ->
  wpAny (model X.prog X.w) X.A (call (.builtin id) (v::us)) (EP X pi U Q) X.xe s
section
variable{a b:Expr}{ta tb:TE}
def Ks{r:R2}(hr:vM X r)(ha:PE X a ta)(hb:PE X b tb)(hs:Ez b):PE X (.Subscript a b pos) (ux r ta tb):=by
 intro pi s U H Q I h;exact Subscript_ (Er ha hb I h λv u s2 x y H2 I2 rx ry q=>hr a b pi s2 U H2 x y v u Q I2 rx ry q (hs _ _))
abbrev YB(K:PySem.W.Frag):R2:=λx y H Q=>∃p xs i v,x=.ref p/\y=.int i/\gE K H p xs/\gP xs i=!v/\Q v H
abbrev YC(K:PySem.W.Frag):R2:=λx y H Q=>∃p xs i v,x=.ref p/\y=.int i/\kl K H p xs/\gP xs i=!v/\Q v H
def UW:vM X (YB X.K):=by
 intro value slice pi s U H x y v u Q I rx ry h hs;let#[p,xs,i,z,rfl,rfl,hq,he,q]:=h;cases rx;let#[t,rfl]:=ry;let#[bA,r,pl,hz]:=I.list hq;let#[j,h1,h2,h3,h4,h5]:=MX he;let#[w,ew,gR]:=r.get h2;let hl:=-r;let hn:=Ap;let fin:EP X pi U Q w s:=#[z,H,I,gR,q]
 by_cases h0:0<=i
 .let hj:i.toNat=j:=by
   rw[seqIndex_of h0 h5] at h1;exact aS h1
  exact item_listR pl.isList h0 () (by rw[hj];simpa using ew) fin hs
 .let hj:(i+(bA.toArray.size:Int)).toNat=j:=by
   rw[seqIndex_neg () h4] at h1;rw[aY,<- hl];exact aS h1
  exact subscriptTail_builtinR (x:=w) pl.isList.typeIs slot_list_getitem.lookup
   (wpAny_getItem_list_neg (Q:=λr s'=>r=w/\EP X pi U Q r s') pl.isList () (by rw[aY]<;>omega) () (by rw[hj];simpa using ew) #[rfl,fin]) hs
def bF7:vM X (YC X.K):=by
 intro value slice pi s U H x y v u Q I rx ry h hs;let#[p,xs,i,z,rfl,rfl,hq,he,q]:=h;cases rx;let#[t,rfl]:=ry;let#[bA,r,pl,hz]:=I.tuple hq;let#[j,h1,h2,h3,h4,h5]:=MX he;let#[w,ew,gR]:=r.get h2;let hl:=-r;let hn:=Ap;let fin:EP X pi U Q w s:=#[z,H,I,gR,q]
 exact subscriptTail_builtinR (x:=w) pl.typeIs slot_tuple_getitem.lookup
  (getItem_tuple (j:=j) (Q:=λr s'=>r=w/\EP X pi U Q r s') pl () () (by rw[aY,<- hl];exact h1) (by simpa using ew) #[rfl,fin]) hs
def aV6(bA:@&Value)(n j:Nat)(u:Value):Obj.mapSeq (·.setIfInBounds j u) { cls:=.type "list",data:=.seq bA.toArray n }={ cls:=.type "list",data:=.seq (bA.set j u).toArray n }:=by
 simp[Obj.mapSeq]
def Inv.lst{pi:@&(Addr×Obj)}{U:St}{H:Hp}{s:Shared}{p:Addr}{xs:@&V}(I:Inv X pi U H s)(h:H p=!.lst xs) :
  ∃(bA:@&Value) (n:Nat),Vals xs bA/\s.heap.get? p=some { cls:=.type "list",data:=.seq bA.toArray n }/\-xs<=sizeLine:=by
 let#[z,bA,n,r,e]:=I.cb p _ h;exact#[bA,n,r,e,z]
def Inv.bE6{p:Addr}{xs ys:@&V}{its':@&Value}{n':Nat}{f:Obj->Obj}(I:Inv X pi U H s)(h:H p=!.lst xs)(ho:s.heap.get? p=some { cls:=.type "list",data:=.seq bA.toArray n })(hf:f { cls:=.type "list",data:=.seq bA.toArray n }={ cls:=.type "list",data:=.seq its'.toArray n' })(r:Vals ys its')(hz:-ys<=sizeLine)(t:Nat) :
  Inv X pi U (upd H p (.lst ys)) { s with heap:=s.heap.update p f,toks:=t }:=by
 let e:(s.heap.update p f).get? p=some { cls:=.type "list",data:=.seq its'.toArray n' }:=by
  rw[bu f ho (by rw[hf]<;>rfl),hf]
 refine I.write (x:=p) (e:=p) (by rw[h];trivial) (.inl rfl) (λb u hb q=>(dF _ _ (cy hb)).trans q) #[_,e] ?_;exact#[hz,its',n',r,e]
abbrev bL1:V->V->V->Hp->(Hp->Prop)->Prop:=λo i v H Q=>∃p xs k j,o=.ref p/\i=.int k/\H p=!.lst xs/\mB (-xs) k=!j/\Q (upd H p (.lst (xs.set j v)))
def set_list:El X bL1:=by
 intro pi s U H o i v ov iv u Q I ro ri rv h;let#[p,xs,k,j,rfl,rfl,hp,hj,q]:=h;cases ro;let#[t,rfl]:=ri;let#[bA,n,r,ho,hz]:=I.lst hp;let#[h1,h2,h3,h4]:=Ni hj;let hl:=-r;let hn:=Ap;let I':Inv X pi U (upd H p (.lst (xs.set j v))) { s with heap:=s.heap.update p (Obj.mapSeq (·.setIfInBounds j u)) } :=
  I.bE6 hp ho (aV6 bA n j u) (r.set rv j) (by rw[List.length_set];exact hz) s.toks
 by_cases h0:0<=k
 .let hk:k.toNat=j:=by
   rw[seqIndex_of h0 h4] at h1;exact aS h1
  exact PySem.W.ki_setAt ho h0 () (by rw[aY,<- hl];exact h4) (by rw[hk];exact#[_,I',q])
 .let hk:(k+(bA.toArray.size:Int)).toNat=j:=by
   rw[seqIndex_neg () h3] at h1;rw[aY,<- hl];exact aS h1
  exact PySem.W.ki_setBack ho () (by rw[aY,<- hl];exact h3) () (by rw[hk];exact#[_,I',q])
def aF6(lo hi:Option Int)(n:Nat):(sliceBounds lo hi none n).1=((HT.fe n 0 lo:Nat):Int)/\(sliceBounds lo hi none n).2.1=((HT.fe n n hi:Nat):Int)/\(sliceBounds lo hi none n).2.2=1:=by
 refine#[?_,?_,rfl]
 .cases lo with
  |none=>rfl
  |some i =>
   simp only[sliceBounds,HT.fe,Option.getD_none,show(1:Int)>0 by decide,if_true]
   grind
 .cases hi with
  |none=>rfl
  |some i =>
   simp only[sliceBounds,HT.fe,Option.getD_none,show(1:Int)>0 by decide,if_true]
   grind
def aA5(bA:@&Value)(lo hi:Option Int):slicePick bA.toArray lo hi none=((bA.drop (HT.fe (-bA) 0 lo)).take (HT.fe (-bA) (-bA) hi-HT.fe (-bA) 0 lo)).toArray:=by
 let#[h1,h2,h3]:=aF6 lo hi bA.toArray.size;unfold slicePick;rw[h1,h2,h3];simp only[sliceRange_one,pick_run,List.size_toArray]<;>rfl
abbrev YG(K:PySem.W.Frag):V->Option Int->Option Int->Hp->VK->Prop:=λx lo hi H Q=>∃a xs,x=.ref a/\gE K H a xs/\∀p,H p=none->Q (.ref p) (upd H p (.lst (X0 xs lo hi)))
def Wa:yN X (YG X.K):=by
 intro pi s U H x v vl vu lo hi sl Q I rx hs pl pu h;let#[a,xs,rfl,hx,q]:=h;cases rx;let#[bA,r,ht,hz]:=I.list hx;let hlen:=-r;refine#["list",_,slot_list_getitem.lookup,ht.isList.typeIs,?_];refine wpAny_getItem_list_slice ht.isList hs pl pu .none #[_] ?_ (by grind);rw[aA5,<- hlen];refine#[.ref s⁻¹,_,I.laid (t':=s.toks) (o:=.lst (X0 xs lo hi)) (λb ob q=>ao _ q) (av _) ?_,rfl,q _ (I.cb.fresh (av _))];exact#[aD (Mh xs lo hi) hz,_,0,(r.drop (HT.fe (-xs) 0 lo)).take (HT.fe (-xs) (-xs) hi-HT.fe (-xs) 0 lo),aG _ rfl]
abbrev JE:V->V->Bool
 |.bK,.bK=>true
 |.bl a,.bl b=>a==b
 |.bl a,.int b=>(if a then 1 else 0)==b
 |.int a,.bl b=>a==(if b then 1 else 0)
 |.int a,.int b=>a==b
 |.str a,.str b=>a==b
 |_,_=>false
def aK6:o8 X (.builtin "len") (λxs H Q=>∃p ys,xs=[.ref p]/\(gE X.K H p ys\/kl X.K H p ys)/\Q (.int (-ys)) H):=by
 intro pi s U H xs us Q I r h;let#[p,ys,rfl,hq,q]:=h;let#[u,rfl,rx]:=vals1 r;cases rx;let hn:=Ap;rcases hq with hq|hq
 .let#[bA,r',pl,hz]:=I.list hq;let hlen:=-r';exact Calls.call_len_list pl.isList (by simp only[List.size_toArray]<;>omega) #[.int (-ys),H,I.tok _,#[s.toks+1,by rw[aY,hlen]],q]
 .let#[bA,r',pl,hz]:=I.tuple hq;let hlen:=-r';exact len_tuple pl (by simp only[List.size_toArray]<;>omega) #[.int (-ys),H,I.tok _,#[s.toks+1,by rw[aY,hlen]],q]
def aK5:o8 X (.type "list") (λxs H Q=>∃p ys,xs=[.ref p]/\(gE X.K H p ys\/kl X.K H p ys)/\∀l,H l=none->Q (.ref l) (upd H l (.lst ys))):=by
 intro pi s U H xs us Q I r h;let#[p,ys,rfl,hq,q]:=h;let#[u,rfl,rx]:=vals1 r;cases rx;let fin:∀(bA:@&Value),Vals ys bA->-ys<=sizeLine->∀(h':Heap) (c':Nat),(∀b o',s.heap.get? b=!o'->h'.get? b=!o') ->
   h'.get? s⁻¹=some { cls:=.type "list",dict:=none,data:=.seq bA.toArray c',slots:=(List.toArray []) }->EP X pi U Q (.ref s⁻¹) { s with heap:=h' }:=λbA r' hz h' c' kp e =>
  #[.ref s⁻¹,_,I.laid (t':=s.toks) kp (av _) (show u4 X.prog X.w _ h' _ (.lst ys) from#[hz,bA,c',r',e]),rfl,q _ (I.cb.fresh (av _))]
 rcases hq with hq|hq
 .let#[bA,r',pl,hz]:=I.list hq;let hlen:=-r';let#[o,ho,hc,n,hd]:=pl.isList;exact call_list_seq p (.inl rfl) ho hc hd (λh' c' kp e=>fin bA r' hz h' c' kp e) (by simp_all)
 .let#[bA,r',pl,hz]:=I.tuple hq;let hlen:=-r';let#[o,ho,hc,n,hd]:=pl;exact call_list_seq p (.inr rfl) ho hc hd (λh' c' kp e=>fin bA r' hz h' c' kp e) (by simp_all)
def aB1:o8 X (.type "tuple") (λxs H Q=>∃p ys,xs=[.ref p]/\((gE X.K H p ys/\∀l,H l=none->Q (.ref l) (upd H l (.tup ys)))\/(kl X.K H p ys/\Q (.ref p) H))):=by
 intro pi s U H xs us Q I r h;let#[p,ys,rfl,h]:=h;let#[u,rfl,rx]:=vals1 r;cases rx;rcases h with⟨hq,q⟩|⟨hq,q⟩
 .let#[bA,r',pl,hz]:=I.list hq;let hlen:=-r';refine call_tuple_list pl.isList (λh' kp=>?_) (by simp_all);let I1:Inv X pi U H { s with heap:=h' }:=I.kept (t':=s.toks) kp;let I2:Inv X pi U (upd H h'.objs.size (.tup ys)) { s with heap:=h'.push { cls:=.type "tuple",data:=.seq bA.toArray } } :=
   I1.laid (t':=s.toks) (λb o e=>ao _ e) (av _) (show u4 X.prog X.w _ _ _ (.tup ys) from#[hz,bA,r',X5.new _ _])
  exact#[.ref h'.objs.size,_,I2,rfl,q _ (I1.cb.fresh (av _))]
 .let#[bA,r',pl,hz]:=I.tuple hq;exact call_tuple_same pl #[.ref p,H,I,rfl,q]
abbrev pq(K:PySem.W.Frag)(T:String)(x:V)(H:Hp):Prop:=match x with
 |.str _=>T="str"
 |.int _=>T="int"
 |.ref p=>(T="list"/\∃xs,gE K H p xs)\/(T="tuple"/\∃o,K.lookup p=!o/\o.cls=.type "tuple"/\o.dict=none) \/
   (T="dict"/\((∃kvs,H p=!.dK kvs)\/∃kvs,H p=!.dT kvs))\/(T="set"/\∃S n,H p=!.set S n)
 |_=>False
def MQ{T:String}{x:V}{v:Value}(I:Inv X pi U H s)(r:RelV x v)(ty:pq X.K T x H) :
  s.TypeIs v T/\∀a,v=.ref a->∃ob,s.heap.get? a=!ob/\ob.dict=none:=by
 cases x with
 |str z =>
  let#[t,rfl]:=r;cases (show T="str" from ty);exact#[typeIs_str s z t,λy e=>nomatch e]
 |int i =>
  let#[t,rfl]:=r;cases (show T="int" from ty);exact#[typeIs_int s i t,λy e=>nomatch e]
 |ref p =>
  cases r;rcases ty with⟨rfl,xs,hq⟩|⟨rfl,o,hk,hc,hd⟩|⟨rfl,hk⟩|⟨rfl,S,n,hk⟩
  .let#[bA,_,pl,_]:=I.list hq;refine#[pl.isList.typeIs,λa e=>?_];cases e;let#[o,n,e,c,hd,_]:=pl;exact#[o,e,hd]
  .refine#[#[o,I.iR p o hk,hc],λa e=>?_];cases e;exact#[o,I.iR _ o hk,hd]
  .let z:∃o,s.heap.get? p=!o/\o.ExactDict:=by
    rcases hk with⟨kvs,hk⟩|⟨kvs,hk⟩
    .let#[_,_,_,_,o,_,_,e,ex,_]:=I.cb p _ hk;exact#[o,e,ex]
    .let#[_,_,_,_,o,_,_,e,ex,_]:=I.cb p _ hk;exact#[o,e,ex]
   let#[o,e,ex]:=z;refine#[#[o,e,ex.1],λa e2=>?_];cases e2;exact#[o,e,ex.2.1]
  .let#[o,_,_,_,e,ex,_]:=I.cb p _ hk;refine#[#[o,e,ex.1],λa e2=>?_];cases e2;exact#[o,e,ex.2.1]
 |_=>exact False.elim ty
abbrev YV(K:PySem.W.Frag)(T:String)(r:V->@&V->Hp->VK->Prop)(to:TE):TE:=λU H Q=>to U H λx H1=>pq K T x H1/\r x [] H1 Q
abbrev Qb(K:PySem.W.Frag)(T:String)(r:V->@&V->Hp->VK->Prop)(to:TE)(t:TA):TE:=λU H Q=>to U H λx H1=>pq K T x H1/\t U H1 λxs H2=>r x xs H2 Q
variable{o:Expr}{es:@&Expr}{to:TE}{t:TA}{name:Str}{apos gO:Pos}{T id:String}{r:V->@&V->Hp->VK->Prop}
def bC1(pa:PlainAttrs T)(slot:Slot T name id)(kx:typeOf (.builtin id)=pure (.type "method_descriptor"))(hm:nE X id r)(ho:PE X o to)(jR:attributeBase o name X.env (eval o X.env)=eval o X.env:=by rfl)(jP:(apos.endLine==gO.line)=true:=by rfl):PE X (.Call (.Attribute o name apos) [] [] gO) (YV X.K T r to):=by
 intro pi s U H Q I h;refine wpAny_Call_method0_late jR jP (dj (ho pi s U H _ I h) λv s1 bH=>?_);let#[x,H1,I1,r1,ty,q1]:=bH;let#[h1,h2]:=MQ I1 r1 ty;exact#[T,id,pa,slot,kx,h1,h2,Calls.callWith_builtin rfl (PySem.evalArgs_none (hm pi s1 U H1 x [] v [] Q I1 r1 .nil q1))]
def bL8(pa:PlainAttrs T)(slot:Slot T name id)(kx:typeOf (.builtin id)=pure (.type "method_descriptor"))(hm:nE X id r)(ho:PE X o to)(ha:PA X (e::es) t)(jR:attributeBase o name X.env (eval o X.env)=eval o X.env:=by rfl)(tF:((backTo gO (starEach (e :: es) X.env)).all (λx=>~~~x.1) && (backToKw gO (keywordEach [] X.env)).all (λx=>x.1.isSome)
   && decide ((e :: es).length + ([]:@&Keyword).length + (if ([]:@&Keyword).isEmpty then 0 else 1) < 30))=true:=by rfl)(jP:(apos.endLine==gO.line)=true:=by rfl)(hs:starEach (e::es) X.env=(false,eval e X.env)::starEach es X.env:=by rfl)(iE:(backTo gO (starEach es X.env)).any (·.1)=false:=by rfl) :
  PE X (.Call (.Attribute o name apos) (e::es) [] gO) (Qb X.K T r to t):=by
 intro pi s U H Q I h;refine wpAny_Call_method_late jR tF jP rfl (dj (ho pi s U H _ I h) λv s1 bH=>?_);let#[x,H1,I1,r1,ty,q1]:=bH;let#[h1,h2]:=MQ I1 r1 ty;refine#[T,id,pa,slot,kx,h1,h2,?_];let hA:=ha gO pi s1 U H1 _ I1 q1;rw[hs] at hA ⊢;refine Calls.callWith_builtin (by show(false||(backTo gO (starEach es X.env)).any (·.1))=false;rw[iE]<;>rfl) (Calls.evalArgs_plain ?_);exact dj hA (by rintro us s2 ⟨vs,H2,I2,r2,q2⟩;exact hm pi s2 U H2 x vs v us Q I2 r1 r2 q2)
end
abbrev BA(X:Cx)(id:String)(r:V->@&V->Hp->VK->Prop):Prop :=
 ∀(pi:@&(Addr×Obj)) (s:Shared) (U:St) (H:Hp) (x:V) (xs:@&V) (v:Value) (us:@&Value) (Q:VK),Inv X pi U H s->RelV x v->Vals xs us->r x xs H Q ->
  wpAny (model X.prog X.w) X.A (call (.builtin id) (v::us)) (EP X pi U Q) X.xe s
def Vals.one{x:V}{us:@&Value}(h:Vals [x] us):∃u,us=[u]/\RelV x u:=by
 cases h with
 |cons r h =>
  cases h;exact#[_,rfl,r]
def Vals.zero:∀{us:@&Value},Vals [] us->us=[]
 |_,.nil=>rfl
def Vals.dropLast{xs:@&V}{us:@&Value}(h:Vals xs us):Vals xs.dropLast us.dropLast:=by
 induction h with
 |nil=>exact .nil
 |cons r t ih =>
  cases t with
  |nil=>exact .nil
  |cons q t'=>exact .cons r ih
def Vals.eraseIdx:∀{xs:@&V} {us:@&Value} (i:Nat),Vals xs us->Vals (xs.eraseIdx i) (us.eraseIdx i)
 |_,_,_,.nil=>.nil
 |_,_,0,.cons _ t=>t
 |_,_,i+1,.cons r t=>.cons r (Vals.eraseIdx i t)
def Vals.reverse{xs:@&V}{us:@&Value}(h:Vals xs us):Vals xs.reverse us.reverse:=by
 induction h with
 |nil=>exact .nil
 |cons r t ih=>rw[iH,iH];exact Vals.append ih (.cons r .nil)
def Lj{α:Type}:∀(l:List α) (i:Nat),(l.eraseIdx i).length<=-l
 |[],_=>av _
 |_::_,0=>cR _
 |_::r,i+1=>Nat.succ_le_succ (Lj r i)
section
variable{l:Addr}{xs ys:@&V}
def Inv.Z8{its':@&Value}{f:Array Value->Array Value}{t':Nat}(I:Inv X pi U H s)(hH:H l=!.lst xs)(e:s.heap.get? l=some { cls:=.type "list",data:=.seq bA.toArray n })(hf:f bA.toArray=its'.toArray)(hv:Vals ys its')(hz:-ys<=sizeLine) :
  Inv X pi U (upd H l (.lst ys)) { s with heap:=s.heap.update l (Obj.mapSeq f),toks:=t' }:=by
 let q:=PySem.IsL.update e f;rw[hf] at q;refine I.write (x:=l) (e:=l) (by rw[hH];exact trivial) (.inl rfl) (λb' u hb hu=>(dF s.heap (Obj.mapSeq f) (cy hb)).trans hu) #[_,q] ?_;exact#[hz,its',_,hv,q]
def Inv.Yn{t':Nat}(I:Inv X pi U H s)(hv:Vals ys bA)(hz:-ys<=sizeLine) :
  Inv X pi U (upd H s⁻¹ (.lst ys)) { s with heap:=s.heap.push { cls:=.type "list",data:=.seq bA.toArray },toks:=t' } :=
 I.laid (λx x q=>ao _ q) (av _) #[hz,bA,0,hv,aG _ rfl]
def Inv.fresh(I:Inv X pi U H s):H s⁻¹=none:=I.cb.fresh (av _)
def Inv.vk(I:Inv X pi U H s)(hH:H l=!.lst xs):-xs<=sizeLine/\∃(bA:@&Value) (n:Nat),Vals xs bA/\-xs=-bA/\s.heap.get? l=some { cls:=.type "list",data:=.seq bA.toArray n }:=by
 let#[z,bA,n,r,e]:=I.cb l _ hH;exact#[z,bA,n,r,(-r),e]
end
abbrev VI:V->@&V->Hp->VK->Prop:=λx vs H Q=>∃l xs y,x=.ref l/\vs=[y]/\H l=!.lst xs/\-xs<sizeLine/\Q .bK (upd H l (.lst (xs++[y])))
def a41:BA X "list.append" VI:=by
 intro pi s U H x vs v us Q I rx rv h;let#[l,xs,y,rfl,rfl,hH,hz,q]:=h;cases rx;let#[u,rfl,ru]:=rv.one;let#[z,bA,n,r,hl,e]:=I.vk hH;refine og F.slot_list_append #[_,e,rfl] F.entry_list_append (F.args_list_append_2 _ _) (PySem.list_append l bA.toArray n u (by grind)) #[e,?_];refine#[.bK,_,I.Z8 (its':=bA++[u]) hH e #[_] (r.append (.cons ru .nil)) ?_,rfl,q]
 grind
abbrev YD:V->@&V->Hp->VK->Prop:=λx vs H Q=>∃l xs y,x=.ref l/\vs=[]/\H l=!.lst xs/\xs[(-xs)-1]?=!y/\Q y (upd H l (.lst xs.dropLast))
def bD6:BA X "list.pop" YD:=by
 intro pi s U H x vs v us Q I rx rv h;let#[l,xs,y,rfl,rfl,hH,hy,q]:=h;cases rx;let CH:=rv.zero;subst CH;let#[z,bA,n,r,hl,e]:=I.vk hH;let#[u,hu,ru]:=r.get hy;let CC:bA.toArray[bA.toArray.size-1]?=!u:=by
  change bA.toArray[(-bA)-1]?=!u;rw[<- eW,<- hl];exact hu
 refine og F.slot_list_pop #[_,e,rfl] F.entry_list_pop (F.args_list_pop_1 _) (MeetsSeq.list_pop_last l bA.toArray n u CC (by rw[aY];omega)) #[e,?_];refine#[y,_,I.Z8 (its':=bA.dropLast) hH e ?_ r.dropLast ?_,ru,q]
 .simp
 .rw[List.length_dropLast];omega
abbrev Tv:V->@&V->Hp->VK->Prop:=λx vs H Q=>∃l xs i k y,x=.ref l/\vs=[.int i]/\H l=!.lst xs/\-(2 ^ 63)<=i/\i<2 ^ 63/\seqIndex? i (-xs)=!k/\xs[k]?=!y/\Q y (upd H l (.lst (xs.eraseIdx k)))
def Xa:BA X "list.pop" Tv:=by
 intro pi s U H x vs v us Q I rx rv h;let#[l,xs,i,k,y,rfl,rfl,hH,h1,h2,hk,hy,q]:=h;cases rx;let#[u,rfl,ru]:=rv.one;let#[t,rfl]:=ru;let#[z,bA,n,r,hl,e]:=I.vk hH;let#[w,hw,gR]:=r.get hy;refine og F.slot_list_pop #[_,e,rfl] F.entry_list_pop (F.args_list_pop_2 _ _)
  (MeetsSeq.list_pop_at l bA.toArray n i t k w (fitsIndex_both h1 h2) (by rw[aY,<- hl];exact hk) (by simp_all) (by rw[aY];omega)) #[e,?_]
 refine#[y,_,I.Z8 (its':=bA.eraseIdx k) hH e ?_ (r.eraseIdx k) ?_,gR,q]
 .simp
 .have:=Lj xs k;omega
abbrev Tu:V->@&V->Hp->VK->Prop:=λx vs H Q=>∃l xs,x=.ref l/\vs=[]/\H l=!.lst xs/\Q .bK (upd H l (.lst []))
def WZ:BA X "list.clear" Tu:=by
 intro pi s U H x vs v us Q I rx rv h;let#[l,xs,rfl,rfl,hH,q]:=h;cases rx;let CH:=rv.zero;subst CH;let#[z,bA,n,r,hl,e]:=I.vk hH;refine og F.slot_list_clear #[_,e,rfl] F.entry_list_clear (F.args_list_clear_1 _) (AutoSeq1.list_clear_list_0 l bA.toArray n (by rw[aY];omega)) #[e,?_];exact#[.bK,_,I.Z8 (its':=[]) (ys:=[]) hH e rfl .nil (cc _),rfl,q]
abbrev YA:R2:=λx y H Q=>∃l b xs zs,x=.ref l/\y=.ref b/\H l=!.lst xs/\H b=!.lst zs/\-xs+-zs<=sizeLine/\∀p,H p=none->Q (.ref p) (upd H p (.lst (xs++zs)))
def bD0:hU X (binaryOp .Add) YA:=by
 intro pi s U H x y v u Q I rx ry h;let#[l,b,xs,zs,rfl,rfl,hH,hB,hz,q]:=h;cases rx;cases ry;let#[z,bA,n,r,hl,e]:=I.vk hH;let#[z2,sX,n2,r2,oI,e2]:=I.vk hB;refine PySem.P.add_list e e2 ?_ (by rw[aY,aY];omega);let ea:bA.toArray++sX.toArray=(bA++sX).toArray:=by simp
 rw[ea];exact#[.ref _,_,I.Yn (t':=s.toks) (r.append r2) (by rw[bL];omega),rfl,q _ I.fresh]
section
variable{κ:Type}[DecidableEq κ]
abbrev N1(kvs:@&(κ×V))(k:κ):Option V:=(kvs.find? λkv=>decide (kv.1=k)).map (·.2)
abbrev putK(kvs:@&(κ×V))(k:κ)(v:V):@&(κ×V) :=
 if(kvs.any λkv=>decide (kv.1=k))=true then kvs.map (λkv=>if kv.1=k then(kv.1,v) else kv) else kvs++[(k,v)]
abbrev Bl(kvs:@&(κ×V))(k:κ):@&(κ×V):=kvs.filter λkv=>decide (kv.1≠k)
def Fj{p:κ×V}{r:@&(κ×V)}{k:κ}(e:p.1=k):N1 (p::r) k=!p.2:=by simp[N1,List.find?_cons,e]
def Fi{p:κ×V}{r:@&(κ×V)}{k:κ}(e:¬p.1=k):N1 (p::r) k=N1 r k:=by simp[N1,List.find?_cons,e]
def Ov(k:κ):∀kvs:@&(κ×V),(kvs.any λkv=>decide (kv.1=k))=(N1 kvs k).isSome
 |[]=>rfl
 |p::r=>by
  rw[kQ];by_cases e:p.1=k
  .simp only[Fj e,decide_eq_true e,Bool.true_or,Option.isSome_some]
  .rw[Fi e,aM e,iN];exact Ov k r
def Mq(kvs:@&(κ×V))(k:κ)(v:V):(putK kvs k v).length<=-kvs+1:=by
 unfold putK;split
 .simp
 simp
def K6.S5{u:Option Value}(r:K6 o u):o.isSome=u.isSome:=by
 cases o with
 |none=>cases u with
  |none=>rfl
  |some _=>exact(show False from r).elim
 |some _=>cases u with
  |none=>exact(show False from r).elim
  |some _=>rfl
def K6.getD{o:Option V}{u:Option Value}{d:V}{d':Value}(r:K6 o u)(rd:RelV d d'):RelV (o.getD d) (u.getD d'):=by
 cases o with
 |none=>cases u with
  |none=>exact rd
  |some _=>exact(show False from r).elim
 |some _=>cases u with
  |none=>exact(show False from r).elim
  |some _=>exact r
def KV.val{kvs:@&(κ×V)}{vs:@&(κ×Value)}(r:KV kvs vs)(k:κ):K6 (N1 kvs k) (valueAt vs k):=by
 induction r with
 |nil=>exact True.intro
 |@cons p q ps qs h t ih =>
  let#[h1,h2]:=h;by_cases e:p.1=k
  .let e':q.1=k:=h1.symm.trans e;let b:valueAt (q::qs) k=!q.2:=by simp[valueAt,List.find?_cons,e']
   rw[Fj e,b];exact h2
  .let e':¬q.1=k:=λz=>e (h1.trans z);let b:valueAt (q::qs) k=valueAt qs k:=by simp[valueAt,List.find?_cons,e']
   rw[Fi e,b];exact ih
def KV.any{kvs:@&(κ×V)}{vs:@&(κ×Value)}(r:KV kvs vs)(k:κ):(kvs.any λkv=>decide (kv.1=k))=vs.any λkv=>decide (kv.1=k):=by
 induction r with
 |nil=>rfl
 |cons h t ih=>simp_all
def KV.Ey{kvs:@&(κ×V)}{vs:@&(κ×Value)}(r:KV kvs vs)(k:κ)(ry:RelV y u) :
  KV (kvs.map λkv=>if kv.1=k then(kv.1,y) else kv) (vs.map λkv=>if kv.1=k then(kv.1,u) else kv):=by
 induction r with
 |nil=>exact .nil
 |@cons p q ps qs h t ih =>
  rw[cZ,cZ];refine .cons ?_ ih;let#[h1,h2]:=h;by_cases e:p.1=k
  .rw[aI e,aI (h1.symm.trans e)];exact#[h1,ry]
  .rw[aE e,aE (λz=>e (h1.trans z))];exact#[h1,h2]
def KV.put{kvs:@&(κ×V)}{vs:@&(κ×Value)}(r:KV kvs vs)(k:κ)(ry:RelV y u):KV (putK kvs k y) (stored vs k u):=by
 unfold putK stored;rw[r.any k];by_cases e:(vs.any λkv=>decide (kv.1=k))=true
 .rw[aI e,aI e];exact r.Ey k ry
 .rw[aE e,aE e];exact Paired.snoc r #[rfl,ry]
def KV.drop{kvs:@&(κ×V)}{vs:@&(κ×Value)}(r:KV kvs vs)(k:κ):KV (Bl kvs k) (without vs k):=by
 unfold Bl without
 induction r with
 |nil=>exact .nil
 |@cons p q ps qs h t ih =>
  let#[h1,h2]:=h;rw[ja,ja];by_cases e:p.1=k
  .let a:¬decide (p.1≠k)=true:=by simp[e]
   let b:¬decide (q.1≠k)=true:=by simp[h1.symm.trans e]
   rw[aE a,aE b];exact ih
  .let e':¬q.1=k:=λz=>e (h1.trans z);let a:decide (p.1≠k)=true:=by simp[e]
   let b:decide (q.1≠k)=true:=by simp[e']
   rw[aI a,aI b];exact .cons #[h1,h2] ih
def KV.keys{kvs:@&(κ×V)}{vs:@&(κ×Value)}(r:KV kvs vs):kvs.map (·.1)=vs.map (·.1):=by
 induction r with
 |nil=>rfl
 |cons h t ih=>simp_all
def KV.length{kvs:@&(κ×V)}{vs:@&(κ×Value)}(r:KV kvs vs):-kvs=-vs:=nL r
end
def vx{k:Key}(r:RelV (kV k) u):(p8 P w).is k u=true:=by
 cases k with
 |inl i=>let#[t,e]:=(show ∃t,u=Value.int i t from r);subst e;exact Z1 P w i t
 |inr x=>let#[t,e]:=(show ∃t,u=Value.str x t from r);subst e;exact aM4 P w x t
def Li{P:Program}{w:World}:∀{ks:@&Key} {us:@&Value},Vals (ks.map kV) us->ItemsAre (p8 P w) ks us
 |[],_,r=>by cases r;exact .nil
 |k::ks,_,r=>by
  cases r with
  |cons h t=>exact .cons (vx h) (Li t)
noncomputable abbrev KT(H:Hp):@&(List Key×V)->@&(List Key×Addr×Value)->Prop:=Paired λp q=>p.1=q.1/\H q.2.1=!.tup (p.1.map kV)/\RelV p.2 q.2.2
def KT.val{xs:@&(List Key×Addr×Value)}(r:KT H kvs xs)(k:@&Key):K6 (N1 kvs k) ((atKey xs k).map (·.2)):=by
 induction r with
 |nil=>exact True.intro
 |@cons p q ps qs h t ih =>
  let#[h1,_,h2]:=h;by_cases e:p.1=k
  .let e':q.1=k:=h1.symm.trans e;let b:atKey (q::qs) k=!q.2:=by simp[atKey,List.find?_cons,e']
   rw[Fj e,b];exact h2
  .let e':¬q.1=k:=λz=>e (h1.trans z);let b:atKey (q::qs) k=atKey qs k:=by simp[atKey,List.find?_cons,e']
   rw[Fi e,b];exact ih
def KT.Ey{xs:@&(List Key×Addr×Value)}(r:KT H kvs xs)(k:@&Key)(ry:RelV y u) :
  KT H (kvs.map λkv=>if kv.1=k then(kv.1,y) else kv) (xs.map (putAt k u)):=by
 induction r with
 |nil=>exact .nil
 |@cons p q ps qs h t ih =>
  rw[cZ,cZ];refine .cons ?_ ih;let#[h1,h2,h3]:=h;unfold putAt;by_cases e:p.1=k
  .rw[aI e,aI (h1.symm.trans e)];exact#[h1,h2,ry]
  .rw[aE e,aE (λz=>e (h1.trans z))];exact#[h1,h2,h3]
def KT.put{xs:@&(List Key×Addr×Value)}(r:KT H kvs xs)(k:@&Key){b:Addr}(hb:H b=!.tup (k.map kV))(ry:RelV y u) :
  KT H (putK kvs k y) (storedH xs k b u):=by
 let e:(kvs.any λkv=>decide (kv.1=k))=(atKey xs k).isSome:=by
  rw[Ov,(r.val k).S5,fT]
 unfold putK storedH;rw[e];by_cases q:(atKey xs k).isSome=true
 .rw[aI q,aI q];exact r.Ey k ry
 .rw[aE q,aE q];exact Paired.snoc r #[rfl,hb,ry]
def KT.keeps{xs:@&(List Key×Addr×Value)}(r:KT H kvs xs)(ht:∀b ys,H b=!.tup ys->H' b=!.tup ys):KT H' kvs xs :=
 Paired.KZ r λx x z=>#[z.1,ht _ _ z.2.1,z.2.2]
section
variable{h:Heap}
def Kv{u:HO}(ok:gU P w H h)(e:Rd H a u):u4 P w H h a u:=e.ok ok
def vq{kvs:@&(Key×V)}(ok:gU P w H h)(e:Rd H a (.dK kvs)):-kvs<=sizeLine/\(a==sysModules)=false/\∃vs,KV kvs vs/\h.DictOf (p8 P w) a vs :=
 show u4 P w H h a (.dK kvs) from Kv ok e
def Kg{kvs:@&(Key×V)}(ok:gU P w H h)(e:H a=!.dK kvs):-kvs<=sizeLine/\(a==sysModules)=false/\∃vs,KV kvs vs/\h.DictOf (p8 P w) a vs:=vq ok (.inl e)
def vF{ks:@&Key}(ok:gU P w H h)(e:H a=!.tup (ks.map kV)):(tupleKind (p8 P w)).is h ks a:=by
 let#[_,bA,r,o,h1,h2,#[n,h3],_]:=(show u4 P w H h a (.tup (ks.map kV)) from ok a _ e)
 exact#[o,bA.toArray,n,h1,h2,h3,by simpa using Li r]
def vt(ok:gU P w H h)(e:Rd H a (.dT kvs)):-kvs<=sizeLine/\(a==sysModules)=false /\
  ∃xs,KT H kvs xs/\h.DictOfH (tupleKind (p8 P w)) a xs:=by
 let#[z,y,xs,r,o,es,ep,h1,h2,h3,h4,h5]:=(show u4 P w H h a (.dT kvs) from Kv ok e)
 refine#[z,y,xs,r,o,es,ep,h1,h2,h3,h4,λx hx=>?_,h5];let all:∀{l:@&(List Key×V)} {m:@&(List Key×Addr×Value)},KT H l m->∀x∈m,(tupleKind (p8 P w)).is h x.1 x.2.1:=by
  intro l m q
  induction q with
  |nil=>simp
  |@cons p q ps qs hq t ih =>
   intro x hx;rcases aL.mp hx with e|hx
   .exact vF ok (by simp_all)
   .exact ih x hx
 exact all r x hx
def ZH(ok:gU P w H h)(e:H a=!.dT kvs):-kvs<=sizeLine/\(a==sysModules)=false /\
  ∃xs,KT H kvs xs/\h.DictOfH (tupleKind (p8 P w)) a xs:=vt ok (.inl e)
end
abbrev T9(H:Hp)(a:Addr)(y:V)(r:Option V):Prop :=
 (∃kvs k,Rd H a (.dK kvs)/\y=kV k/\r=N1 kvs k)\/∃kvs k b,Rd H a (.dT kvs)/\y=.ref b/\H b=!.tup (k.map kV)/\r=N1 kvs k
abbrev AW(H:Hp)(a:Addr)(y v:V)(H':Hp):Prop :=
 (∃kvs k,H a=!.dK kvs/\y=kV k/\-kvs<sizeLine/\H'=upd H a (.dK (putK kvs k v))) \/
 ∃kvs k b,H a=!.dT kvs/\y=.ref b/\H b=!.tup (k.map kV)/\-kvs<sizeLine/\H'=upd H a (.dT (putK kvs k v))
def T9.k{H:Hp}{a:Addr}{kvs:@&(Key×V)}{k:Key}(e:H a=!.dK kvs):T9 H a (kV k) (N1 kvs k):=.inl #[kvs,k,.inl e,rfl,rfl]
def AW.k{H:Hp}{a:Addr}{kvs:@&(Key×V)}{k:Key}{v:V}(e:H a=!.dK kvs)(hl:-kvs<sizeLine):AW H a (kV k) v (upd H a (.dK (putK kvs k v))):=.inl #[kvs,k,e,rfl,hl,rfl]
section
variable{v:V}{r:Value}
def Inv.big(I:Inv X pi U H s):sysModules<s⁻¹:=by
 let h:mainGlobals<s⁻¹:=(I.mod.glob.keeps I.bk).lt;exact du ∅ h
def a63{Q:Value->Shared->Prop}(hu:A.units+1<cLine)(I:Inv X pi U H s)(g:T9 H a y (!v))(ry:RelV y u)(h:∀w' s',Inv X pi U H s'->RelV v w'->Q w' s') :
  wpAny (model X.prog X.w) A (getItem (.ref a) u) Q E s:=by
 rcases g with⟨kvs,k,e,ey,l⟩|⟨kvs,k,b,e,ey,eb,l⟩
 .subst ey;let#[z,hd,vs,rel,dd]:=vq I.cb e;let#[w',hw,gR]:=K6.some_of (v:=v) (o:=valueAt vs k) (by rw[l];exact rel.val k);exact wpAny_getItem_of (vx ry) dd.mapOf hw (h w' _ (I.tok _) gR)
 .subst ey;cases (show u=Value.ref b from ry);let#[z,hd,xs,rel,dd]:=vt I.cb e;let#[w',hw,gR]:=K6.some_of (v:=v) (o:=(atKey xs k).map (·.2)) (by rw[l];exact rel.val k);let#[p,hp,CK]:=ae.mp hw;refine wpAny_getItem_heap (gk hu) (vF I.cb eb) dd hp ?_;rw[CK];exact h w' _ (I.tok _) gR
def Yc{Q:Value->Shared->Prop}(hu:A.units+1<cLine)(I:Inv X pi U H s)(g:T9 H a y o)(ry:RelV y u)(h:∀s',Inv X pi U H s'->Q (.bool o.isSome) s') :
  wpAny (model X.prog X.w) A (compareOp .In u (.ref a)) Q E s:=by
 rcases g with⟨kvs,k,e,ey,l⟩|⟨kvs,k,b,e,ey,eb,l⟩
 .subst ey;let#[z,hd,vs,rel,dd]:=vq I.cb e;refine wpAny_in_of (vx ry) hd dd.mapOf ?_;rw[<- (rel.val k).S5,<- l];exact h _ (I.tok _)
 .subst ey;cases (show u=Value.ref b from ry);let#[z,hd,xs,rel,dd]:=vt I.cb e;refine wpAny_in_heap (gk hu) (vF I.cb eb) hd dd ?_;let q:=(rel.val k).S5;rw[fT] at q;rw[<- q,<- l];exact h _ (I.tok _)
def UL{Q:Value->Shared->Prop}(hu:A.units+1<cLine)(I:Inv X pi U H s)(g:T9 H a y o)(ry:RelV y u)(h:∀s',Inv X pi U H s'->Q (.bool (~~~o.isSome)) s') :
  wpAny (model X.prog X.w) A (compareOp .NotIn u (.ref a)) Q E s:=by
 rcases g with⟨kvs,k,e,ey,l⟩|⟨kvs,k,b,e,ey,eb,l⟩
 .subst ey;let#[z,hd,vs,rel,dd]:=vq I.cb e;refine wpAny_notIn_of (vx ry) hd dd.mapOf ?_;rw[<- (rel.val k).S5,<- l];exact h _ (I.tok _)
 .subst ey;cases (show u=Value.ref b from ry);let#[z,hd,xs,rel,dd]:=vt I.cb e;refine wpAny_notIn_heap (gk hu) (vF I.cb eb) hd dd ?_;let q:=(rel.val k).S5;rw[fT] at q;rw[<- q,<- l];exact h _ (I.tok _)
def MZ{h':Heap}{t':Nat}{ob:HO}(I:Inv X pi U H s)(mu:yR (H a))(hs:Heap.SameBut a s.heap h')(he:∃q,h'.get? a=!q)(new:u4 X.prog X.w (upd H a ob) h' a ob) :
  Inv X pi U (upd H a ob) { s with heap:=h',toks:=t' } :=
 I.write (x:=a) (e:=a) mu (.inl rfl) (λb q hb z=>(hs.2 b hb).trans z) he new
def OI{h':Heap}{kvs:@&(Key×V)}{vs:@&(Key×Value)}(z:-kvs<=sizeLine)(hd:(a==sysModules)=false)(rel:KV kvs vs)(dd:h'.DictOf (p8 P w) a vs) :
  u4 P w H' h' a (.dK kvs):=#[z,hd,vs,rel,dd]
def a62{Q:Unit->Shared->Prop}(hu:A.units+1<cLine)(I:Inv X pi U H s)(g:AW H a y v H')(ry:RelV y u)(rv:RelV v r)(h:∀s',Inv X pi U H' s'->Q Unit.unit s') :
  wpAny (model X.prog X.w) A (setItem (.ref a) u r) Q E s:=by
 rcases g with⟨kvs,k,e,ey,l,eH⟩|⟨kvs,k,b,e,ey,eb,l,eH⟩
 .subst ey eH;let#[z,hd,vs,rel,dd]:=Kg I.cb e;let hz:-vs<=sizeLine:=by rw[<- -rel];exact z
  let hl:(putK kvs k v).length<=sizeLine:=by have:=Mq kvs k v;omega
  refine wpAny_setItem_pairs (hsz:=hz) (vx ry) dd λh' Aj hs=>h _ ?_;let he:∃q,h'.get? a=!q:=let ⟨q,_,_,hq,_⟩:=Aj;#[q,hq]
  exact MZ I (by rw[e];exact True.intro) hs he (OI hl hd (rel.put k rv) Aj)
 .subst ey eH;cases (show u=Value.ref b from ry);let#[z,hd,xs,rel,dd]:=ZH I.cb e;let hz:-xs<=sizeLine:=by rw[<- nL rel];exact z
  let hl:(putK kvs k v).length<=sizeLine:=by have:=Mq kvs k v;omega
  refine wpAny_setItem_heap (hsz:=hz) (gk hu) (vF I.cb eb) dd λh' Aj hs=>h _ ?_;let#[q,es,ep,hq,h2,h3,h4,_,h5]:=Aj;refine MZ I (by rw[e];exact True.intro) hs #[q,hq] #[hl,hd,_,(rel.put k eb rv).keeps λc ys ec=>?_,q,es,ep,hq,h2,h3,h4,h5];rw[i7 (bM8 ec e (λz=>nomatch z))];exact ec
end
def aM9(I:Inv X pi U H s)(g:T9 H a y o):s.TypeIs (.ref a) "dict":=by
 rcases g with⟨kvs,k,e,_,_⟩|⟨kvs,k,b,e,_,_,_⟩
 .let#[_,_,vs,_,dd]:=vq I.cb e;exact dd.typeIs
 .let#[_,_,xs,_,dd]:=vt I.cb e;exact dd.typeIs
def WH(h:Heap)(hb:sysModules<h.objs.size):u4 P w H (h.push { cls:=.type "dict",data:=.dict (List.toArray []) }) h.objs.size (.dK []) :=
 #[cc _,eB.mpr (cy (aO hb)),[],.nil,Heap.DictOf.new h]
abbrev Ul:TE:=λx H Q=>∀p,H p=none->Q (.ref p) (upd H p (.dK []))
def Xg:PE X (.Dict [] [] pos) Ul:=λpi s U H Q I h =>
 wpAny_Dict_empty #[.ref s⁻¹,_,I.laid (a:=s⁻¹) (o:=.dK []) (t':=s.toks) (λx x q=>ao _ q) (av _) (WH s.heap I.big),rfl,h _ (I.cb.fresh (av _))]
abbrev bD9(kvs more:@&(Key×V)):@&(Key×V):=more.foldl (λacc kv=>putK acc kv.1 kv.2) kvs
def KV.merge:∀{more:@&(Key×V)} {rs:@&(Key×Value)} {kvs:@&(Key×V)} {vs:@&(Key×Value)},KV more rs->KV kvs vs->KV (bD9 kvs more) (merged vs rs):=by
 intro more rs kvs vs r
 induction r generalizing kvs vs with
 |nil=>intro q;exact q
 |@cons p q ps qs h t ih =>
  intro r0;let e:KV (putK kvs p.1 p.2) (stored vs q.1 q.2):=by
   have:=r0.put p.1 h.2;rw[<- h.1];exact this
  exact ih e
section
variable{d:V}{r:Value}
def bH4{Q:Value->Shared->Prop}(hu:A.units+1<cLine)(I:Inv X pi U H s)(g:T9 H a y o)(ry:RelV y u)(rd:RelV d r)(h:∀w' s',Inv X pi U H s'->RelV (o.getD d) w'->Q w' s') :
  wpAny (model X.prog X.w) A (call (.builtin "dict.get") [.ref a,u,r]) Q E s:=by
 rcases g with⟨kvs,k,e,ey,l⟩|⟨kvs,k,b,e,ey,eb,l⟩
 .subst ey;let#[z,hd,vs,rel,dd]:=vq I.cb e;refine call_meetsIn jF dd.typeIs vO (ur _ _ _) (meets_dict_get_default (p8 X.prog X.w) a (vx ry) hd r) #[_,dd.mapOf,h _ _ (I.tok _) ?_];rw[l];exact(rel.val k).getD rd
 .subst ey;cases (show u=Value.ref b from ry);let#[z,hd,xs,rel,dd]:=vt I.cb e;refine call_meetsIn jF dd.typeIs vO (ur _ _ _) (meetsH_dict_get_default (tupleKind (p8 X.prog X.w)) a b hd r) #[gk hu,k,xs,vF I.cb eb,dd,h _ _ (I.tok _) ?_];rw[l];exact(rel.val k).getD rd
end
end L2
namespace Pm
open PySem PySem.W PySem.Calls PyProof.Rows
def at0{P:Params}{h:Heap}:∀(ns:@&Int) (vs:@&Value),WellAll P h vs (ns.map WData.int)->IntsAre vs ns:=by
 intro ns
 induction ns with
 |nil =>
  intro vs w;cases w;exact .nil
 |cons n ns ih =>
  intro vs w;cases w with
  |cons a b =>
   cases a;exact .cons _ _ (ih _ b)
def a13{l:OpenLaw}{n:Nat}(hn:l.most=!n){P:Params}{h:Heap}{args:@&WData}{vals:@&Value}(qd:l.row.toRowW.claim.pre args=true)(CD:WellAll P h vals args) :
  ∃a vs ns,vals=[Value.ref a]/\args=[WData.list (ns.map WData.int)]/\h.get? a=some { cls:=.type "list",data:=.seq vs.toArray }/\IntsAre vs ns/\-ns<=n:=by
 let kS:WShape.hasAll [] args [.list .int]=true:=(pre_splitW qd).1;let hc:l.pre.holds [] { args:=args }=true:=(pre_splitW qd).2;let#[d,r,rfl,h1,h2]:=hasAllW_cons kS;obtain rfl:=hasAllW_nil h2;let#[xs,rfl,h3]:=hasW_list h1;let#[ns,rfl]:=items_int h3;let hlen:-ns<=n:=by
  let h4:(WTm.not (.lt (.lit (.int (n:Int))) (.len (.arg 0)))).holds [] { args:=[.list (ns.map .int)] }=true:=by
   let h4:=(holds_andW hc).1;rw[hn] at h4;exact h4
  let h5:=condW_of h4 (w_not (w_lt w_lit (w_len_list (w_arg rfl))))
  simp_all
 cases CD with
 |cons w1 w2 =>
  cases w2;cases w1 with
  |list ho mF=>exact#[_,_,ns,rfl,rfl,ho,at0 ns _ mF,hlen]
def a22(l:OpenLaw)(args:@&WData):l.row.toRowW.claim.post args (.bool true) args=true :=
 postW_of (r:=l.row.toRowW) (X:=(true==true))
  (show WShape.has [] (.bool true) .bool=true by rfl)
  (show(WTm.eq .res (.lit (.bool true))).value [] { args:=args,res:=!.bool true,after:=args }=some (.bool (true==true)) from w_eq_bool (w_res rfl) w_lit) rfl
def aN2{l:OpenLaw}{n:Nat}{q:Program}{loose:@&Str}{XP:(Str->Option Value)->Heap->Prop}{YP:World->Heap->Prop}{d:DefRec}(hn:l.most=!n)(xr:d.params.defaults=[])(call:∀ (w:World) (dS bT:Shared) (mg mb:Str->Option Value) (fa:Addr) (o:Obj) (pm cd doc:Value) (a:Addr) (vs:@&Value) (ns:@&Int),
   Ground q loose [] XP w dS mg mb bT.heap->YP w bT.heap ->
   bT.heap.get? fa=!o->o.data=.func (docDef d.name d.params d.body d.scope pm cd doc)->bT.heap.CodeRec cd d.name->mg d.name=!.ref fa ->
   bT.heap.get? a=some { cls:=.type "list",data:=.seq vs.toArray }->IntsAre vs ns->-ns<=n->bT.gens=(List.toArray []) ->
   codeAny (model l.prog w) callerA (.call (.ref fa) #[[.ref a],[]]) (λr s'=>r=.ok (.ret (.bool true))/\OldK bT.heap s'.heap/\s'.os=bT.os/\AllBare s'.gens) bT) :
  WalkO q loose XP YP l.row.toRowW d [] (λf vs=>PySem.call f vs):=by
 intro w dS bT mg mb G Y fa o pm cd doc dV kV ho hd nA hD hmg hg args vals as qd Rp hrd CD xg;obtain rfl:dV=.none:=Dflts.none hD xr;obtain rfl:kV=.none:=Dflts.noKw hD;let#[a,vs,ns,rfl,rfl,mE,hints,hlen]:=a13 hn qd CD;refine enter_call (iM (call w dS bT mg mb fa o pm cd doc a vs ns G Y ho (fd_plain hd) nA hmg mE hints hlen hg) λr s' hq=>?_);let#[rfl,h2,h3,h4]:=hq;exact#[.inl #[.bool true,.bool true,[],rfl,λx=>rfl,.bool true,a22 l _,λx=>#[List.Pairwise.nil,λx hm=>(nomatch hm)]],h2,h3,h4]
end Pm
namespace L2
open PySem PySem.Spec PyProof.Rows
variable{x:Str}
def Ly:∀{vs:@&Value} {ns:@&Int},IntsAre vs ns->Vals (ns.map V.int) vs
 |_,_,.nil=>.nil
 |_,_,.cons n t h=>.cons #[t,rfl] (Ly h)
abbrev AX(H:Hp):Prop:=∀b,H b=none\/∃o xs,H b=!.kK o (.lst xs)
def WU{P:Program}{w:World}{K:PySem.W.Frag}{mg mb:Str->Option Value}{CX:pb}{k:Nat}{fa a:Addr}{fd:FuncData}{sp:Sp}{bT:Shared}{vs:@&Value}{ns:@&Int}(KX:K.In bT.heap)(qf:bT.heap.Ns mainGlobals mg)(hb:bT.heap.Ns builtinsNs mb)(Dg:∀x:Str,x≠"__name__"->mb x=bootBuiltins x)(CV:bT.heap.NoLimit)(hg:bT.gens=(List.toArray []))(ha:bT.heap.get? a=some { cls:=.type "list",data:=.seq vs.toArray })(hi:IntsAre vs ns)(hl:-ns<=sizeLine)(hr:A3 k callerA)(F:∀base:Heap,K.In base->base.Ns mainGlobals mg->jf P w K mg base CX k fa fd [x] sp)(xw:∀(s:Shared) (u:Value),BindsTo s fd #[[u],[]] [(x,u)])(uI:∀H:Hp,AX H->gE K H a (ns.map V.int)->sp [.ref a] H (λv y=>v=.bl true) λy y y=>False)(Dq:∀H e s',CX [] H bT (λy y y=>False) e s'->False) :
  codeAny (model P w) callerA (.call (.ref fa) #[[.ref a],[]]) (λr s'=>r=.ok (.ret (.bool true))/\OldK bT.heap s'.heap/\s'.os=bT.os/\AllBare s'.gens) bT:=by
 let rv:=Ly hi;let QB:=-hi;let core:∀H:Hp,AX H->gE K H a (ns.map V.int)->gU P w H bT.heap->(∀b,H b≠none->b=a)->(H a≠none->K.lookup a=none) ->
   codeAny (model P w) callerA (.call (.ref fa) #[[.ref a],[]]) (λr s'=>r=.ok (.ret (.bool true))/\OldK bT.heap s'.heap/\s'.os=bT.os/\AllBare s'.gens) bT:=by
  intro H hO hS cb hA hK;let V5:∀{b:Addr} {o:Obj},bT.heap.get? b=!o->H b=none->(qJ bT.heap H).get? b=!o:=λe n=>WN e n;let wz:∀{b:Addr} {o:Obj} {es:Array DictEntry} {ep:Nat},bT.heap.get? b=!o->o.data=.dict es ep->H b=none:=λ{b o es ep} e d=>by
   grind
  let zr:∀{b:Addr} {m:Str->Option Value},bT.heap.Ns b m->(qJ bT.heap H).Ns b m:=λ{b m} ⟨o,es,ep,e,d,r⟩=>#[o,es,ep,V5 e (wz e d),d,r]
  let Jq:K.In (qJ bT.heap H):=λb o e=>V5 (KX b o e) (by
   grind)
  let hM:Mod K mg (qJ bT.heap H):=#[Jq,zr qf,#[mb,zr hb,Dg],let ⟨mc,h1,h2⟩:=CV;#[mc,zr h1,h2]]
  let e0:tX P w K mg (qJ bT.heap H) callerA [] bT H:=#[rfl,hM,λb o e=>Vh e,fV (a53 _ _),trivial,λb hb=>absurd (show b∈([]:@&Addr) from hb) #[_],cb,.of_eq hg]
  refine iM ((F _ Jq (zr qf)).run callerA [] bT H #[[.ref a],[]] [.ref a] [.ref a] _ _ hr e0 (xw bT (.ref a)) (.cons rfl .nil) (uI H hO hS)) λr s' h=>?_;cases r with
  |error e=>exact(Dq H e s' h).elim
  |ok fl =>
   cases fl with
   |next=>exact False.elim h
   |brk=>exact False.elim h
   |cont=>exact False.elim h
   |ret u =>
    let#[v,H',os,bare,un,CL,r',q]:=h;let q':v=.bl true:=q;subst q';obtain rfl:u=Value.bool true:=r';refine#[rfl,OldK.of_keep λb o e=>?_,os,bare];cases q:H b with
    |none=>exact un.keep b o e q (by intro z;exact absurd (show b∈([]:@&Addr) from z) #[_]) #[_]
    |some u =>
     rcases hO b with z|⟨ob,xs,z⟩
     .simp_all
     .let z2:=un.jd b ob _ z;let#[e1,_]:=cb b _ z;let#[e2,_]:=CL b _ z2
      simp_all
 cases hk:K.lookup a with
 |some o =>
  let e:=KX a o hk;rw[ha] at e;cases e;refine core (λy=>none) (λy=>.inl rfl) (.inr #[_,vs.toArray,_,hk,rfl,rfl,rfl,by simp_all,by simpa using rv]) (λb u z=>by simp_all) (λb z=>absurd rfl z) λz=>absurd rfl z
 |none =>
  refine core (λb=>if b=a then some (.kK { cls:=.type "list",data:=.seq vs.toArray } (.lst (ns.map V.int))) else none) (λb=>?_) (.inl (.inr #[{ cls:=.type "list",data:=.seq vs.toArray },aI rfl])) (λb u z=>?_) (λb z=>?_) λy=>hk
  .by_cases hb:b=a
   .exact .inr #[_,_,aI hb]
   .exact .inl (aE hb)
  .by_cases hb:b=a
   .let z':=(aI hb).symm.trans z;cases z';subst hb;exact#[ha,by rw[ak];exact hl,vs,_,rv,ha]
   simp_all
  .by_cases hb:b=a
   .exact hb
   .exact absurd (aE hb) z
def Wm{l:PySem.W.OpenLaw}{n k:Nat}{q:Program}{loose:@&Str}{XP:(Str->Option Value)->Heap->Prop}{YP:World->Heap->Prop}{d:DefRec}{K:Params->PySem.W.Frag}{CX:World->pb}{sp:World->Sp}(hn:l.most=!n)(nV:n<=sizeLine)(xr:d.params.defaults=[])(hr:A3 k callerA)(hY:∀(w:World) (h:Heap),YP w h->(K w.params).In h)(F:∀ (w:World) (mg:Str->Option Value) (fa:Addr) (h:Heap),(K w.params).In h->h.Ns mainGlobals mg->mg d.name=!.ref fa ->
   ∃fd:FuncData,(∀(s:Shared) (u:Value),BindsTo s fd #[[u],[]] [(x,u)]) /\
    ∀ base:Heap,(K w.params).In base->base.Ns mainGlobals mg->jf l.prog w (K w.params) mg base (CX w) k fa fd [x] (sp w))(uI:∀(w:World) (H:Hp) (a:Addr) (ns:@&Int),(-ns)<=n->AX H->gE (K w.params) H a (ns.map V.int)->sp w [.ref a] H (λv y=>v=.bl true) λy y y=>False)(Dq:∀(w:World) (H:Hp) (s:Shared) (e:Value) (s':Shared),CX w [] H s (λy y y=>False) e s'->False) :
  PySem.W.WalkO q loose XP YP l.row.toRowW d [] (λf vs=>PySem.call f vs):=by
 refine Pm.aN2 hn xr λw dS bT mg mb fa o pm cd doc a vs ns G Y ho hd nA hmg mE hints hlen hg=>?_;let KX:=hY w _ Y;let#[fd,hb,hF]:=F w mg fa _ KX G.T.g hmg;exact WU KX G.T.g G.T.b G.T.builtins G.T.nolimit hg mE hints (aD hlen nV) hr hF hb (λH hO hS=>uI w H a ns hlen hO hS) λH e s'=>Dq w H bT e s'
abbrev C9(s:Stmt):Arguments:=match s with
 |.FunctionDef _ a _ _ _ _ _ _ _ _=>a
 |_=>{ posonlyargs:=[],args:=[],vararg:=none,kwonlyargs:=[],kw_defaults:=[],kwarg:=none,defaults:=[] }
abbrev v8(s:Stmt):@&Stmt:=match s with
 |.FunctionDef _ _ b _ _ _ _ _ _ _=>b
 |_=>[]
abbrev u9(s:Stmt):Scope:=match s with
 |.FunctionDef _ _ _ _ _ _ sc _ _ _=>sc
 |_=>{ kind:=.function,names:=[],isGenerator:=false,isCoroutine:=false }
structure sk(K:PySem.W.Frag)(x qual:Str)(st:Stmt)(f:Addr)(fd:FuncData):Prop where
 ex:∃(oc:Value) (od:Option Addr) (kV doc pm:Value) (an:Option Addr) (gJ ct:Value) (nU:Array (Option Value)),
  fd=PySem.W.fnOf x qual (C9 st) (v8 st) (u9 st) .none kV doc pm an gJ ct/\K.lookup f=!#[oc,od,.func fd,nU]/\PySem.W.codeIn K gJ qual=true
 kp:PySem.W.keepIn K (.ref f)=true
section
variable{K:PySem.W.Frag}
def sk.binds{qual:Str}{st:Stmt}{f:Addr}{fd:FuncData}{ps:@&Str}(F:sk K x qual st f fd)(h:∀(kV doc pm:Value) (an:Option Addr) (gJ ct:Value) (us:@&Value),(-us)=-ps->bindArgs (PySem.W.fnOf x qual (C9 st) (v8 st) (u9 st) .none kV doc pm an gJ ct) #[us,[]]=pure (ps.zip us)):Binds K fd ps []:=by
 let#[oc,od,kV,doc,pm,an,gJ,ct,nU,rfl,lk,nA]:=F.ex;exact .all (h kV doc pm an gJ ct)
def OK{qual:Str}{st:Stmt}{f:Addr}{oc:Value}{od an:Option Addr}{nU:Array (Option Value)}{kV doc pm gJ ct:Value}(l:K.lookup f=!#[oc,od,.func (PySem.W.fnOf x qual (C9 st) (v8 st) (u9 st) .none kV doc pm an gJ ct),nU])(c:PySem.W.codeIn K gJ qual=true)(k:PySem.W.keepIn K (.ref f)=true):sk K x qual st f (PySem.W.fnOf x qual (C9 st) (v8 st) (u9 st) .none kV doc pm an gJ ct):=#[#[oc,od,kV,doc,pm,an,gJ,ct,nU,rfl,l,c],k]
end
end L2
namespace TS
open PySem PyProof.Rows
abbrev Jy:Bool->Keyed->Array Keyed->Nat->Nat->Nat->StateT SortSt Sem (Option Nat):=sortPriv% PySem.Builtin.gallop
abbrev Qz:Array Keyed->Array Keyed->StateT SortSt Sem (Array Keyed):=sortPriv% PySem.Builtin.mergeLo
abbrev QA:Array Keyed->Array Keyed->StateT SortSt Sem (Array Keyed):=sortPriv% PySem.Builtin.mergeHi
noncomputable abbrev kn(p:Keyed):Int:=numOf p.1
abbrev IK(p:Keyed):Prop:=∃n t,p.1=.int n t
section
variable{prog:Program}{w:World}{A:Around}{E:Value->Shared->Prop}{s:Shared}
def Br{st:SortSt}{x y:Keyed}{Q:Option Bool->SortSt->Prop}(hk:kindOf st=oneType')(hx:IK x)(hy:IK y)(h:Q (!decide (kn x<kn y)) st) :
  wpS (model prog w) A E s (lt' x y) Q st:=by
 let#[a,t,ha]:=hx;let#[b,u,hb]:=hy;rw[lt'_eq];refine aC (nH ?_);rw[hk,keyLt'_oneType,ha,hb];refine aC (qV (nJ (oneLt_int #[rfl,?_])));have:kn x=a/\kn y=b:=by unfold kn;rw[ha,hb];exact#[rfl,rfl]
 rw[this.1,this.2] at h;exact aJ h
def A4{st:SortSt}{xs:Array Keyed}{i:Nat}{p:Keyed}{Q:Keyed->SortSt->Prop}(h1:xs[i]?=!p)(h:Q p st):wpS (model prog w) A E s (elem' xs i) Q st:=by
 rw[elem'_eq,h1];exact aJ h
def f9{M:Model}{U α:Type}{c:Prop}[Decidable c]{x y:StateT U Sem α}{Q:α->U->Prop}{st:U}(h1:c->wpS M A E s x Q st)(h2:¬c->wpS M A E s y Q st):wpS M A E s (if c then x else y) Q st:=by
 by_cases h:c
 .rw[aI h];exact h1 h
 .rw[aE h];exact h2 h
abbrev gp(left:Bool)(key p:Keyed):Bool:=if left then decide (kn p<kn key) else ~~~decide (kn key<kn p)
def Am{st:SortSt}{left:Bool}{key p:Keyed}{arr:Array Keyed}{i:Nat}{Q:Option Bool->SortSt->Prop}(hk:kindOf st=oneType')(gM:IK key)(hp:arr[i]?=!p)(hi:IK p)(h:Q (!gp left key p) st) :
  wpS (model prog w) A E s (elem' arr i >>= λx=>if left=true then lt' x key else lt' key x >>= λr=>pure (r.map λb=>~~~b)) Q st:=by
 refine aC (A4 hp ?_);cases left
 .exact aC (Br hk gM hi (aJ h))
 .exact Br hk hi gM h
def bG8{st:SortSt}{left:Bool}{key:Keyed}{arr:Array Keyed}{base n hint:Nat}{f:Nat->Keyed}{Q:Option Nat->SortSt->Prop}(hk:kindOf st=oneType')(gM:IK key)(hf:∀i,i<n->arr[base+i]?=!f i/\IK (f i))(hm:∀i j,i<=j->j<n->gp left key (f j)=true->gp left key (f i)=true)(hh:hint<n)(h:∀k,k<=n->(∀i,i<k->gp left key (f i)=true)->(∀i,k<=i->i<n->gp left key (f i)=false)->Q (!k) st):wpS (model prog w) A E s (Jy left key arr base n hint) Q st:=by
 let pF:∀i j,i<=j->j<n->gp left key (f i)=false->gp left key (f j)=false:=λi j a b c=>by
  cases e:gp left key (f j) with
  |false=>rfl
  |true=>rw[hm i j a b e] at c;omega
 refine aC ?_;refine Am hk gM (hf hint hh).1 (hf hint hh).2 ?_;let last:∀lo hi:Nat,lo<=hi->hi<=n->(∀i,i<lo->gp left key (f i)=true)->(∀i,hi<=i->i<n->gp left key (f i)=false)->∀(F:Nat->Option (Option Nat)×Nat×Nat->StateT SortSt Sem (ForInStep (Option (Option Nat)×Nat×Nat))),
   (F=λy c=>if c.2.1 >= c.2.2 then pure (.done (none,c.2.1,c.2.2)) else (elem' arr (base + (c.2.1 + (c.2.2 - c.2.1) / 2)) >>= λx=>if left=true then lt' x key else lt' key x >>= λr=>pure (r.map λb=>~~~b)) >>= λr=>match r with
    |some more=>if more=true then pure (.yield (none,c.2.1+(c.2.2-c.2.1) / 2+1,c.2.2)) else pure (.yield (none,c.2.1,c.2.1+(c.2.2-c.2.1) / 2))
    | x=>pure (.done (!none,c.2.1,c.2.2))) ->
   wpS (model prog w) A E s (forIn [0:n] (none,lo,hi) F) (λc bp=>bp=st/\c.1=none/\Q (!c.2.2) st) st:=by
  intro lo hi h1 h2 h3 h4 F e;subst e;refine ei (I:=λx c bp=>bp=st/\c.1=none/\c.2.1<=c.2.2/\c.2.2<=n/\c.2.2-c.2.1<=n-x/\(∀i,i<c.2.1->gp left key (f i)=true)/\(∀i,c.2.2<=i->i<n->gp left key (f i)=false)) ?_ ?_ #[rfl,rfl,h1,h2,by grind,h3,h4]
  .rintro x ⟨c1,l,r⟩ bp _ hx ⟨rfl,rfl,q1,q2,q3,q4,q5⟩;dsimp only at q1 q2 q3 q4 q5 ⊢;by_cases lV:l>=r
   .rw[aI lV];have:l=r:=by omega
    subst this;exact aJ #[rfl,rfl,h l q2 q4 q5]
   .rw[aE lV];let pE:l+(r-l) / 2<n:=by omega
    refine aC (Am hk gM (hf _ pE).1 (hf _ pE).2 ?_);cases e:gp left key (f (l+(r-l) / 2)) with
    |true=>exact aJ #[rfl,rfl,by dsimp only;omega,q2,by grind,λi hi=>hm i _ (Nat.le_of_lt_succ hi) pE e,q5]
    |false=>exact aJ #[rfl,rfl,by simp,by grind,by dsimp only;omega,q4,λi hi hn=>pF _ i hi hn e]
  .rintro⟨c1,l,r⟩ bp ⟨rfl,rfl,q1,q2,q3,q4,q5⟩;dsimp only at q1 q2 q3 q4 q5;have:l=r:=by omega
   subst this;exact#[rfl,rfl,h l q2 q4 q5]
 cases e0:gp left key (f hint) with
 |true =>
  refine aC (wpS_mono (ei (I:=λx (c:Option (Option Nat) × Nat × Nat) bp=>bp=st/\c.1=none/\c.2.1 < c.2.2/\hint + c.2.1 < n/\x < c.2.2/\gp left key (f (hint + c.2.1))=true)
   (Q:=λc bp=>bp=st/\c.1=none/\c.2.1 < c.2.2/\hint + c.2.1 < n/\gp left key (f (hint + c.2.1))=true/\(c.2.2 >= n - hint \/ gp left key (f (hint + c.2.2))=false)) ?_ ?_ #[rfl,rfl,by decide,hh,by decide,e0]) ?_)
  .rintro x ⟨c1,l,r⟩ bp _ hx ⟨rfl,rfl,q1,q2,q3,q4⟩;by_cases lV:r>=n-hint
   .rw[aI lV];exact aJ #[rfl,rfl,q1,q2,q4,.inl lV]
   .rw[aE lV];let pE:hint+r<n:=by omega
    refine aC (Am hk gM (hf _ pE).1 (hf _ pE).2 ?_);cases e:gp left key (f (hint+r)) with
    |true=>exact aJ #[rfl,rfl,by grind,pE,by grind,e]
    |false=>exact aJ #[rfl,rfl,q1,q2,q4,.inr e]
  .grind
  .rintro⟨c1,l,r⟩ bp ⟨rfl,rfl,q1,q2,q3,q4⟩;dsimp only at q1 q2 q3 q4 ⊢;refine aC (wpS_mono (last (hint+l+1) (hint+min r (n-hint)) () () (λi hi=>hm i _ (Nat.le_of_lt_succ hi) q2 q3) ?_ _ rfl) ?_)
   .intro i h1 h2;rcases q4 with q4|q4
    .omega
    .exact pF (hint+r) i () h2 q4
   .rintro⟨c1,l,r⟩ bp ⟨rfl,rfl,q⟩;exact aJ q
 |false =>
  refine aC (wpS_mono (ei (I:=λx (c:Option (Option Nat) × Nat × Nat) bp=>bp=st/\c.1=none/\c.2.1 < c.2.2/\c.2.1 <= hint/\x < c.2.2/\gp left key (f (hint - c.2.1))=false)
   (Q:=λc bp=>bp=st/\c.1=none/\c.2.1 < c.2.2/\c.2.1 <= hint/\gp left key (f (hint - c.2.1))=false/\(c.2.2 >= hint + 1 \/ gp left key (f (hint - c.2.2))=true)) ?_ ?_ #[rfl,rfl,by decide,cc _,by decide,e0]) ?_)
  .rintro x ⟨c1,l,r⟩ bp _ hx ⟨rfl,rfl,q1,q2,q3,q4⟩;by_cases lV:r>=hint+1
   .rw[aI lV];exact aJ #[rfl,rfl,q1,q2,q4,.inl lV]
   .rw[aE lV];let pE:hint-r<n:=by omega
    refine aC (Am hk gM (hf _ pE).1 (hf _ pE).2 ?_);cases e:gp left key (f (hint-r)) with
    |true=>exact aJ #[rfl,rfl,q1,q2,q4,.inr e]
    |false=>exact aJ #[rfl,rfl,by grind,by grind,by grind,e]
  .rintro⟨c1,l,r⟩ bp ⟨rfl,rfl,q1,q2,q3,q4⟩;exact#[rfl,rfl,q1,q2,q4,.inl (by grind)]
  .rintro⟨c1,l,r⟩ bp ⟨rfl,rfl,q1,q2,q3,q4⟩;dsimp only at q1 q2 q3 q4 ⊢;refine aC (wpS_mono (last (hint+1-min r (hint+1)) (hint-l) () () ?_ (λi hi hn=>pF _ i hi hn q3) _ rfl) ?_)
   .intro i h1;rcases q4 with q4|q4
    .omega
    .exact hm i (hint-r) () () q4
   .rintro⟨c1,l,r⟩ bp ⟨rfl,rfl,q⟩;exact aJ q
def Wv{left:Bool}{key p q:Keyed}(h:kn p<=kn q)(hq:gp left key q=true):gp left key p=true:=by
 unfold gp at hq ⊢
 grind
def vj{st:SortSt}{left:Bool}{key:Keyed}{xs:Array Keyed}{base n hint:Nat}{Q:Option Nat->SortSt->Prop}(hk:kindOf st=oneType')(gM:IK key)(iu:∀p∈xs.toList,IK p)(hs:∀i j (hj:j<xs.size) (iV:i<=j),base<=i->j<base+n->kn xs[i]<=kn xs[j])(hn:base+n<=xs.size)(hh:hint<n)(h:∀k,k<=n->(∀p∈(xs.toList.drop base).take k,gp left key p=true)->(∀p∈(xs.toList.drop (base+k)).take (n-k),gp left key p=false)->Q (!k) st):wpS (model prog w) A E s (Jy left key xs base n hint) Q st:=by
 refine bG8 (f:=λt=>(xs[base+t]?).getD key) hk gM (λt ht=>?_) (λu v nv hv hq=>Wv ?_ hq) hh λk hk lJ mP=>h k hk ?_ ?_
 .rw[cG xs (base+t) ()];exact#[rfl,iu _ #[_]]
 .rw[cG xs (base+u) (),cG xs (base+v) ()]
  simp_all
 .intro p hp;let#[t,ht,rfl]:=br.mp hp;simp only[List.length_take,List.length_drop,Array.length_toList] at ht;have:=lJ t ();rw[cG xs (base+t) ()] at this;simpa using this
 .intro p hp;let#[t,ht,rfl]:=br.mp hp;simp only[List.length_take,List.length_drop,Array.length_toList] at ht;have:=mP (k+t) () ();rw[cG xs (base+(k+t)) ()] at this;simpa[Nat.add_assoc] using this
end
section
variable{r:Keyed->Keyed->Prop}{all o x y u v:@&Keyed}
structure MI(r:Keyed->Keyed->Prop)(all o x y:@&Keyed):Prop where
 pm:(o++(x++y)).Perm all
 so:o.Pairwise r
 sx:x.Pairwise r
 sy:y.Pairwise r
 cr:∀p∈o,∀q,q∈x\/q∈y->r p q
 hl:∀q∈y,∀z,x.getLast?=!z->r q z
def MI.x1(h:MI r all o (u++v) y)(c:∀p∈u,∀q∈y,r p q)(ne:v≠[]):MI r all (o++u) v y:=by
 let#[a1,a2,a3]:=ba.mp h.sx;refine#[by have:=h.pm;simp_all,ba.mpr #[h.so,a1,λp hp q hq=>h.cr p hp q (.inl (bC _ hq))],a2,h.sy,λp hp q hq=>?_,λq hq z hz=>h.hl q hq z ?_]
 .rcases aV.mp hp with hp|hp
  .exact h.cr p hp q (hq.imp (bf _) id)
  .rcases hq with hq|hq
   .exact a3 p hp q hq
   .exact c p hp q hq
 simp_all
def MI.y1(h:MI r all o y (u++v))(c:∀p∈u,∀q∈y,r p q):MI r all (o++u) y v:=by
 let#[a1,a2,a3]:=ba.mp h.sy;refine#[?_,ba.mpr #[h.so,a1,λp hp q hq=>h.cr p hp q (.inr (bC _ hq))],h.sx,a2,λp hp q hq=>?_,λq hq z hz=>h.hl q (bf _ hq) z hz]
 .refine List.Perm.trans ?_ h.pm;rw[bW];refine eV _ ?_;rw[<- bW,<- bW];exact fY _ jH
 .rcases aV.mp hp with hp|hp
  .exact h.cr p hp q (hq.imp id (bf _))
  .rcases hq with hq|hq
   .exact c p hp q hq
   .exact a3 p hp q hq
abbrev Fn(r:Keyed->Keyed->Prop)(all z:@&Keyed):Prop:=z.Perm all/\z.Pairwise r
def MI.e1(h:MI r all o x []):Fn r all (o++x):=by
 refine#[by have:=h.pm;simpa using this,ba.mpr #[h.so,h.sx,λp hp q hq=>h.cr p hp q (.inl hq)]]
def MI.e0(h:MI r all o x y)(c:∀p∈x,∀q∈y,r p q):Fn r all (o++(x++y)) :=
 #[h.pm,ba.mpr #[h.so,ba.mpr #[h.sx,h.sy,c],λp hp q hq=>h.cr p hp q (aV.mp hq)]]
def MI.e2{z:Keyed}(h:MI r all o [z] y):Fn r all (o++(y++[z])):=by
 refine#[List.Perm.trans (eV _ jH) h.pm,ba.mpr #[h.so,ba.mpr #[h.sy,h.sx,λp hp q hq=>?_],λp hp q hq=>?_]]
 .rw[aQ] at hq;subst hq;exact h.hl p hp q rfl
 .exact h.cr p hp q ((aV.mp hq).symm)
def MI.len(h:MI r all o x y):-o+-x+-y=-all:=by
 have:=h.pm.length_eq;grind
def MI.hx{p q:Keyed}(h:MI r all o (p::x) y)(tr:∀a b c,r a b->r b c->r a c)(c:r q p):∀z∈p::x,r q z:=by
 intro z hz;rcases aL.mp hz with rfl|hz
 .exact c
 .exact tr _ _ _ c ((fO.mp h.sx).1 z hz)
def MI.hy{p q:Keyed}(h:MI r all o y (p::x))(tr:∀a b c,r a b->r b c->r a c)(c:r q p):∀z∈p::x,r q z:=by
 intro z hz;rcases aL.mp hz with rfl|hz
 .exact c
 .exact tr _ _ _ c ((fO.mp h.sy).1 z hz)
abbrev Sm(st bp:SortSt):Prop:=kindOf bp=kindOf st/\arrOf bp=arrOf st/\pendingOf bp=pendingOf st/\failedOf bp=failedOf st
def dc{xs:Array Keyed}{i:Nat}(h:i<xs.size):xs.toList.drop i=xs[i]::xs.toList.drop (i+1):=by
 rw[dH (by simpa using h)];simp
def ex(o':Array Keyed)(xs:Array Keyed)(i k:Nat):(o'++xs.extract i (i+k)).toList=o'.toList++(xs.toList.drop i).take k:=by
 simp
def dk(l:@&Keyed)(i k:Nat):l.drop i=(l.drop i).take k++l.drop (i+k):=by
 rw[<- ie,bN]
def Ep{k p:Keyed}(h:gp false k p=true):kn p<=kn k:=by
 unfold gp at h;grind
def Bi{k p:Keyed}(h:gp false k p=false):kn k<kn p:=by
 unfold gp at h;simpa using h
def AY{k p:Keyed}(h:gp true k p=true):kn p<kn k:=by
 unfold gp at h;simpa using h
def FR{k p:Keyed}(h:gp true k p=false):kn k<=kn p:=by
 unfold gp at h;grind
def dt{xs:Array Keyed}{i n:Nat}(h:xs.size-i<=n):(xs.toList.drop i).take n=xs.toList.drop i:=bS (by simp;omega)
end
section
variable{prog:Program}{w:World}{A:Around}{E:Value->Shared->Prop}{s:Shared}
abbrev YN:Nat->StateT SortSt Sem Unit:=sortPriv% PySem.Builtin.setMinGallop
def Sm.trans{a b c:SortSt}(h:Sm a b)(q:Sm b c):Sm a c:=#[q.1.trans h.1,q.2.1.trans h.2.1,q.2.2.1.trans h.2.2.1,q.2.2.2.trans h.2.2.2]
def Bu{st:SortSt}{g:Nat}{Q:Unit->SortSt->Prop}(h:∀bp,Sm st bp->Q Unit.unit bp):wpS (model prog w) A E s (YN g) Q st:=nG (h _ #[rfl,rfl,rfl,rfl])
abbrev fs{β U:Type}(Q I:β->U->Prop):ForInStep β->U->Prop
 |.done c,st=>Q c st
 |.yield c,st=>I c st
def forR{M:Model}{U β:Type}{a b:Nat}{f:Nat->β->StateT U Sem (ForInStep β)}(I:Nat->β->U->Prop){Q:β->U->Prop}(hs:∀i c st,a<=i->i<b->I i c st->wpS M A E s (f i c) (fs Q (I (i+1))) st)(hd:∀c st,I (max a b) c st->Q c st){c:β}{st:U}(h:I a c st):wpS M A E s (forIn [a:b] c f) Q st :=
 ei I (λi c st h1 h2 h3=>wpS_mono (hs i c st h1 h2 h3) λr bp hq=>by cases r<;>exact hq) hd h
noncomputable abbrev le(p q:Keyed):Prop:=kn p<=kn q
def Bp:∀a b c,le a b->le b c->le a c:=λx x x=>fZ
def yu{xs:Array Keyed}(h:xs.toList.Pairwise le){u v:Nat}(hv:v<xs.size)(nv:u<=v):kn xs[u]<=kn xs[v]:=by
 by_cases e:u=v
 .subst e;exact gH _
 .have:=cS.mp h u v (by simp;omega) (by simpa using hv) ();simpa using this
section
variable{st bp:SortSt}{a b o:Array Keyed}{i j n k:Nat}{p q:Keyed}
structure LI(st:SortSt)(a b:Array Keyed)(n:Nat)(o:Array Keyed)(i j:Nat)(bp:SortSt):Prop where
 sm:Sm st bp
 mi:MI le (a.toList++b.toList) o.toList (a.toList.drop i) (b.toList.drop j)
 hi:i+1<a.size
 hj:j<b.size
 ho:n<o.size
def dq{xs:Array Keyed}{i:Nat}{p:Keyed}(h:xs[i]?=!p):xs.toList.drop i=p::xs.toList.drop (i+1):=by
 let#[hi,rfl]:=ij.mp h;exact dc hi
def dn{xs:Array Keyed}{i:Nat}(h:xs.size<=i):xs.toList.drop i=[]:=eR (by simpa using h)
def vc(xs:Array Keyed)(i:Nat):(xs.extract i xs.size).toList=xs.toList.drop i:=by
 rw[jY,List.extract_eq_drop_take,dt (av _)]
def Nm{xs:Array Keyed}{i:Nat}(h:i<xs.size):xs.toList.drop i≠[]:=by simp_all
def fD(hm:MI le (a.toList++b.toList) o.toList (a.toList.drop i) (b.toList.drop j))(h:b.size<=j):Fn le (a.toList++b.toList) (o++a.extract i a.size++b.extract j b.size).toList:=by
 rw[bG,bG,vc,vc,dn h,dM];rw[dn h] at hm;exact hm.e1
def fL(hm:MI le (a.toList++b.toList) o.toList (a.toList.drop i) (b.toList.drop j))(h:i+1=a.size):Fn le (a.toList++b.toList) (o++b.extract j b.size++a.extract i a.size).toList:=by
 let e:a.toList.drop i=[a[i]]:=by rw[dc (),dn ()]
 rw[bG,bG,vc,vc,bW,e];rw[e] at hm;exact hm.e2
def LI.y(h:LI st a b n o i j bp)(hp:a[i]?=!p)(hq:b[j]?=!q)(hc:kn q<=kn p) :
  (j+1=b.size->Fn le (a.toList++b.toList) (o.push q++a.extract i a.size++b.extract (j+1) b.size).toList)/\(¬j+1=b.size->LI st a b (n+1) (o.push q) i (j+1) bp):=by
 let hm:MI le (a.toList++b.toList) (o.push q).toList (a.toList.drop i) (b.toList.drop (j+1)):=by
  let hm:=h.mi;rw[dq hp] at hm ⊢;rw[dq hq] at hm;rw[dQ];exact hm.y1 (u:=[q]) λu hu z hz=>by rw[aQ] at hu;subst hu;exact hm.hx Bp hc z hz
 let hj:=h.hj;exact#[λe=>fD hm (fV e.symm),λe=>#[h.sm,hm,h.hi,by omega,by rw[jx];have:=h.ho;omega]]
def LI.x(h:LI st a b n o i j bp)(hp:a[i]?=!p)(hq:b[j]?=!q)(hc:kn p<=kn q) :
  (i+1+1=a.size->Fn le (a.toList++b.toList) (o.push p++b.extract j b.size++a.extract (i+1) a.size).toList)/\(¬i+1+1=a.size->LI st a b (n+1) (o.push p) (i+1) j bp):=by
 let hm:MI le (a.toList++b.toList) (o.push p).toList (a.toList.drop (i+1)) (b.toList.drop j):=by
  let hm:=h.mi;rw[dq hq] at hm ⊢;rw[dq hp] at hm;rw[dQ];exact hm.x1 (u:=[p]) (λu hu z hz=>by rw[aQ] at hu;subst hu;exact hm.hy Bp hc z hz) (Nm h.hi)
 let hi:=h.hi;exact#[λe=>fL hm e,λe=>#[h.sm,hm,by omega,h.hj,by rw[jx];have:=h.ho;omega]]
def LI.gx(h:LI st a b n o i j bp)(hq:b[j]?=!q)(h1:k<=a.size-i)(h2:∀p∈(a.toList.drop i).take k,gp false q p=true)(h3:∀p∈(a.toList.drop (i+k)).take (a.size-i-k),gp false q p=false) :
  (i+k+1=a.size->Fn le (a.toList++b.toList) (o++a.extract i (i+k)++b.extract j b.size++a.extract (i+k) a.size).toList) /\
  (i+k=a.size->Fn le (a.toList++b.toList) (o++a.extract i (i+k)++a.extract (i+k) a.size++b.extract j b.size).toList) /\
  (¬i+k+1=a.size->¬i+k=a.size->LI st a b n (o++a.extract i (i+k)) (i+k) j bp)/\∀p,a[i+k]?=!p->kn q<=kn p:=by
 let hi:=h.hi;let XY:∀p∈(a.toList.drop i).take k,∀q∈b.toList.drop j,le p q:=λp hp q zD=>by
  let hm:=h.mi;rw[dq hq] at zD hm;exact hm.hy Bp (Ep (h2 p hp)) q zD
 let M2:i+k<a.size->MI le (a.toList++b.toList) (o++a.extract i (i+k)).toList (a.toList.drop (i+k)) (b.toList.drop j):=λeE=>by
  let hm:=h.mi;rw[dk a.toList i k] at hm;rw[ex];exact hm.x1 XY (Nm eE)
 refine#[λe=>fL (M2 ()) e,λe=>?_,λe1 e2=>#[h.sm,M2 (),by omega,h.hj,by rw[iJ];have:=h.ho;omega],λp hp=>cH (Bi (h3 p ?_))]
 .rw[bG,bG,ex,vc,vc,dn (fV e.symm),dt (),dM,bW];rw[dt ()] at XY;exact h.mi.e0 XY
 .rw[dt (),dq hp];exact dD ..
def LI.gy(h:LI st a b n o i j bp)(hp:a[i]?=!p)(h1:k<=b.size-j)(h2:∀q∈(b.toList.drop j).take k,gp true p q=true)(h3:∀q∈(b.toList.drop (j+k)).take (b.size-j-k),gp true p q=false) :
  (j+k=b.size->Fn le (a.toList++b.toList) (o++b.extract j (j+k)++a.extract i a.size++b.extract (j+k) b.size).toList) /\
  (¬j+k=b.size->LI st a b n (o++b.extract j (j+k)) i (j+k) bp)/\∀q,b[j+k]?=!q->kn p<=kn q:=by
 let hj:=h.hj;let hm:MI le (a.toList++b.toList) (o++b.extract j (j+k)).toList (a.toList.drop i) (b.toList.drop (j+k)):=by
  let hm:=h.mi;rw[dk b.toList j k] at hm;rw[ex];refine hm.y1 λq hq z hz=>?_;rw[dq hp] at hz hm;exact hm.hx Bp (cH (AY (h2 q hq))) z hz
 refine#[λe=>fD hm (fV e.symm),λe=>#[h.sm,hm,h.hi,by omega,by rw[iJ];have:=h.ho;omega],λq hq=>FR (h3 q ?_)];rw[dt (),dq hq];exact dD ..
def LI.ex(h:LI st a b n o i j bp)(iu:∀p∈a.toList++b.toList,IK p):∃p q,a[i]?=!p/\b[j]?=!q/\IK p/\IK q:=by
 let hi:=h.hi;let hj:=h.hj;exact#[a[i],b[j],by simp,by simp,iu _ (bC _ #[_]),iu _ (bf _ #[_])]
def LI.wb(h:LI st a b n o i j bp){gL:SortSt}(q:Sm bp gL):LI st a b n o i j gL:=#[h.sm.trans q,h.mi,h.hi,h.hj,h.ho]
def LI.wk(h:LI st a b n o i j bp){m:Nat}(hm:m<=n):LI st a b m o i j bp:=#[h.sm,h.mi,h.hi,h.hj,dC hm h.ho]
def LI.full(h:LI st a b (a.size+b.size) o i j bp):False:=by
 let h1:=h.mi.len;let h2:=h.ho
 grind
abbrev LR(st:SortSt)(a b:Array Keyed)(n:Nat)(Q:Array Keyed->SortSt->Prop)(r:Option (Array Keyed))(o:Array Keyed)(i j:Nat)(bp:SortSt):Prop:=match r with
 |some z=>Q z bp
 |none=>LI st a b n o i j bp
end
noncomputable abbrev nQ:Array Keyed->SortSt->Prop:=λx x=>False
def bE3{st:SortSt}{a b:Array Keyed}{Q:Array Keyed->SortSt->Prop}(hk:kindOf st=oneType')(iu:∀p∈a.toList++b.toList,IK p)(ha:0<a.size)(hb:0<b.size)(h0:MI le (a.toList++b.toList) [] a.toList b.toList)(hf:∀p∈a.toList,kn b[0]<=kn p)(h:∀z bp,Sm st bp->Fn le (a.toList++b.toList) z.toList->Q z bp):wpS (model prog w) A E s (Qz a b) Q st:=by
  let IA:∀p∈a.toList,IK p:=λp hp=>iu p (bC _ hp);let IB:∀p∈b.toList,IK p:=λp hp=>iu p (bf _ hp);let SA:∀x n u v (hv:v<a.size) (nv:u<=v),x<=u->v<x+n->kn a[u]<=kn a[v]:=λt t u v hv nv t t=>yu h0.sx hv nv;let SB:∀x n u v (hv:v<b.size) (nv:u<=v),x<=u->v<x+n->kn b[u]<=kn b[v]:=λt t u v hv nv t t=>yu h0.sy hv nv;let h1:MI le (a.toList++b.toList) ((List.toArray [b[0]]):Array Keyed).toList (a.toList.drop 0) (b.toList.drop 1):=by
    have:b.toList=[b[0]]++b.toList.drop 1:=by have:=dc hb;simpa using this
    refine MI.y1 (o:=[]) (by rw[<- this];exact h0) ?_;intro p hp q hq;rw[aQ] at hp;subst hp;exact hf q hq
  let s0:Sm st st:=#[rfl,rfl,rfl,rfl]
  refine aC (qV (fb #[rfl,?_]));refine aC (A4 (p:=b[0]) (by simp[hb]) ?_);refine f9 (λe=>aJ (h _ st s0 (fD h1 (fV (eq_of_beq e).symm)))) λe=>?_;refine f9 (λe2=>aJ (h _ st s0 (fL h1 (eq_of_beq e2)))) λe2=>?_;let e:¬1=b.size:=λz=>e (bx.mpr z);let e2:¬0+1=a.size:=λz=>e2 (bx.mpr z);refine aC (nH ?_);refine aC (wpS_mono (forR (I:=λn (c:Option (Array Keyed)×Array Keyed×Nat×Nat×Nat)=>LR st a b n nQ c.1 c.2.1 c.2.2.1 c.2.2.2.1) (Q:=λc=>LR st a b (a.size+b.size) Q c.1 c.2.1 c.2.2.1 c.2.2.2.1) ?_ ?_ (show LI st a b 0 (List.toArray [b[0]]) 0 1 st from#[s0,h1,by omega,by omega,by simp])) ?_)
  . rintro n ⟨c1,o,i,j,mg⟩ gn _ hn hL;cases c1 with
    |some z=>exact hL.elim
    |none =>
    refine aC (wpS_mono (forR (I:=λx (c:Option (Array Keyed)×Array Keyed×Nat×Nat×Nat×Nat)=>LR st a b (n+x) nQ c.1 c.2.1 c.2.2.1 c.2.2.2.1) (Q:=λc=>LR st a b (n+1) Q c.1 c.2.1 c.2.2.1 c.2.2.2.1) ?_ ?_ hL) ?_)
    . rintro x ⟨c1,o,i,j,ac,bc⟩ gn _ _ hL;cases c1 with
      |some z=>exact hL.elim
      |none =>
      let#[p,q,hp,hq,ip,iq]:=hL.ex iu;refine aC (A4 hq (aC (A4 hp (aC (Br (hL.sm.1.trans hk) iq ip ?_)))));refine f9 (λhc=>aC (A4 hq ?_)) (λhc=>aC (A4 hp ?_))
      . let Y:=hL.y hp hq (cH (bg hc));refine f9 (λe=>aJ (h _ _ hL.sm (Y.1 (eq_of_beq e)))) λe=>?_;let Z:=Y.2 λz=>e (bx.mpr z);exact f9 (λt=>aJ (Z.wk ())) (λt=>aJ Z)
      . let Y:=hL.x hp hq (ig.mp λz=>hc (az z));refine f9 (λe=>aJ (h _ _ hL.sm (Y.1 (eq_of_beq e)))) λe=>?_;let Z:=Y.2 λz=>e (bx.mpr z);exact f9 (λt=>aJ (Z.wk ())) (λt=>aJ Z)
    . rintro⟨c1,o,i,j,ac,bc⟩ gn hL;cases c1 with
      |some z=>exact hL.elim
      |none=>exact LI.wk hL ()
    . rintro⟨c1,o,i,j,ac,bc⟩ gn hL;cases c1 with
      |some z=>exact aJ hL
      |none =>
      refine aC (qV (fb #[rfl,?_]));refine aC (wpS_mono (forR (I:=λx (c:Option (Array Keyed)×Array Keyed×Nat×Nat×Nat×Nat×Nat)=>LR st a b (n+1) nQ c.1 c.2.1 c.2.2.1 c.2.2.2.1) (Q:=λc=>LR st a b (n+1) Q c.1 c.2.1 c.2.2.1 c.2.2.2.1) ?_ ?_ hL) ?_)
      . rintro x ⟨c1,o,i,j,mg,ac,bc⟩ gn _ _ hL;cases c1 with
        |some z=>exact hL.elim
        |none =>
        replace hL:LI st a b (n+1) o i j gn:=hL
        lift_lets
        intro s1 out s2 ia s3 ib s4 Qy s5 ac1 Xq Iq jp;let e1:o=out:=rfl;let e2:i=ia:=rfl;let e3:j=ib:=rfl;let e4:j+1=Iq:=rfl
        clear_value out ia ib Iq
        subst e1 e2 e3 e4;let J:∀u m,wpS (model prog w) A E s (jp u m) (fs (λc=>LR st a b (n+1) Q c.1 c.2.1 c.2.2.1 c.2.2.2.1) (λc=>LR st a b (n+1) nQ c.1 c.2.1 c.2.2.1 c.2.2.2.1)) gn:=by
          intro u m;refine aC (Bu (g:=m) λgL gZ=>?_)
          replace hL:=hL.wb gZ
          let#[p,q,hp,hq,ip,iq]:=hL.ex iu;refine aC (A4 hq ?_);refine aC (vj (hL.sm.1.trans hk) iq IA (SA _ _) (by grind) (by have:=hL.hi;omega) λk mQ lJ mP=>?_);let G:=hL.gx hq mQ lJ mP;clear mQ lJ mP hp ip;dsimp -zeta -zetaHave only
          lift_lets
          intro ac2 wR Cf ia2;let J2:∀u o i,LI st a b (n+1) o i j gL->(∀p,a[i]?=!p->kn q<=kn p)->wpS (model prog w) A E s (wR u o i) (fs (λc=>LR st a b (n+1) Q c.1 c.2.1 c.2.2.1 c.2.2.2.1) (λc=>LR st a b (n+1) nQ c.1 c.2.1 c.2.2.1 c.2.2.2.1)) gL:=by
            intro u o i hL hc;let#[p,q2,hp,_,ip,_]:=hL.ex iu;let Y:=hL.y hp hq (hc p hp);refine aC (A4 hq ?_);refine f9 (λe=>aJ (h _ _ hL.sm (Y.1 (eq_of_beq e)))) λe=>?_;let Z:=Y.2 λz=>e (bx.mpr z);refine aC (A4 hp ?_);refine aC (vj (hL.sm.1.trans hk) ip IB (SB _ _) (by have:=Z.hj;omega) (by have:=Z.hj;omega) λk mQ lJ mP=>?_);let G:=Z.gy hp mQ lJ mP;dsimp -zeta -zetaHave only
            lift_lets
            intro Xo wQ Ce ib3;let J3:∀u o j,LI st a b (n+1) o i j gL->(∀q,b[j]?=!q->kn p<=kn q)->wpS (model prog w) A E s (wQ u o j) (fs (λc=>LR st a b (n+1) Q c.1 c.2.1 c.2.2.1 c.2.2.2.1) (λc=>LR st a b (n+1) nQ c.1 c.2.1 c.2.2.1 c.2.2.2.1)) gL:=by
              intro u o j hL hc;let#[p2,q,_,hq,_,_]:=hL.ex iu;let Y:=hL.x hp hq (hc q hq);refine aC (A4 hp ?_);refine f9 (λe=>aJ (h _ _ hL.sm (Y.1 (eq_of_beq e)))) λe=>?_;let Z:=Y.2 λz=>e (bx.mpr z);exact f9 (λt=>aJ (Z.wk (cR _))) (λt=>aJ (Z.wk (cR _)))
            clear_value wQ
            refine f9 (λt=>f9 (λe=>aJ (h _ _ hL.sm (G.1 (eq_of_beq e)))) λe=>J3 _ _ _ ((G.2.1 λz=>e (bx.mpr z)).wk (cR _)) G.2.2) (λe=>J3 _ _ _ (Z.wk (cR _)) ?_)
            simp_all
          clear_value wR
          refine f9 (λt=>f9 (λe=>aJ (h _ _ hL.sm (G.1 (eq_of_beq e)))) λe=>f9 (λe2=>aJ (h _ _ hL.sm (G.2.1 (eq_of_beq e2)))) λe2=>J2 _ _ _ (G.2.2.1 (λz=>e (bx.mpr z)) (λz=>e2 (bx.mpr z))) G.2.2.2) (λe=>J2 _ _ _ hL ?_)
          simp_all
        clear_value jp
        exact f9 (λt=>J _ _) (λt=>J _ _)
      . rintro⟨c1,o,i,j,mg,ac,bc⟩ gn hL;cases c1 with
        |some z=>exact hL.elim
        |none=>exact hL
      . rintro⟨c1,o,i,j,mg,ac,bc⟩ gn hL;cases c1 with
        |some z=>exact aJ hL
        |none=>exact aC (Bu λgL gZ=>aJ (LI.wb hL gZ))
  . rintro⟨c1,o,i,j,mg⟩ gn hL;cases c1 with
    |some z=>exact hL.elim
    |none=>exact LI.wk hL ()
  . rintro⟨c1,o,i,j,mg⟩ gn hL;cases c1 with
    |some z=>exact aJ hL
    |none=>exact(LI.full hL).elim
end
section
variable{prog:Program}{w:World}{A:Around}{E:Value->Shared->Prop}{s:Shared}
noncomputable abbrev ge(p q:Keyed):Prop:=kn q<=kn p
def Bn:∀a b c,ge a b->ge b c->ge a c:=λx x x h1 h2=>fZ h2 h1
abbrev rt(xs:Array Keyed)(n:Nat):@&Keyed:=(xs.toList.take n).reverse
def Gh{xs:Array Keyed}{n:Nat}(h:n<xs.size):rt xs (n+1)=xs[n]::rt xs n:=by
 unfold rt;rw[List.take_succ_eq_append_getElem (by simpa using h),Hq];simp
def OT{xs:Array Keyed}{n:Nat}{p:Keyed}(h:p∈rt xs n):p∈xs.toList:=cj (dz.mp h)
def GP(xs:Array Keyed){k n:Nat}(h:k<=n):rt xs n=((xs.toList.drop k).take (n-k)).reverse++rt xs k:=by
 unfold rt;rw[<- Hq]
 congr 1
 have:=bN k (xs.toList.take n);rw[List.take_take,List.drop_take,jv h] at this;exact this.symm
def Gi(o xs:Array Keyed)(k n:Nat):(o++(xs.extract k n).reverse).toList=o.toList++((xs.toList.drop k).take (n-k)).reverse:=by
 simp
def vB(xs:Array Keyed)(n:Nat):(xs.extract 0 n).toList=(rt xs n).reverse:=by
 simp[rt]
def Fn.rev{all l:@&Keyed}(h:Fn ge all l):Fn le all l.reverse:=#[(mh l).trans h.1,gw.mpr h.2]
def bK9{xs:Array Keyed}{i:Nat}(h:0<i)(hi:i<xs.size):rt xs i≠[]:=by
 obtain⟨i,rfl⟩:∃m,i=m+1:=#[i-1,by omega]
 rw[Gh ()];exact ni _ _
def yq(xs:Array Keyed):rt xs xs.size=xs.toList.reverse:=by unfold rt;rw[bS #[_]]
section
variable{st bp:SortSt}{a b o:Array Keyed}{na nb n t:Nat}{p q:Keyed}
def qN{xs:Array Keyed}{n:Nat}{p:Keyed}(h0:0<n)(h:xs[n-1]?=!p):rt xs n=p::rt xs (n-1):=by
 obtain⟨n,rfl⟩:∃m,n=m+1:=#[n-1,by omega]
 let#[hi,rfl]:=ij.mp h;exact Gh hi
def Be(xs:Array Keyed):rt xs 0=[]:=by simp[rt]
structure HI(st:SortSt)(a b:Array Keyed)(n:Nat)(na nb:Nat)(o:Array Keyed)(bp:SortSt):Prop where
 sm:Sm st bp
 mi:MI ge (a.toList++b.toList) o.toList (rt b nb) (rt a na)
 b1:1<nb
 b2:nb<=b.size
 a1:0<na
 a2:na<=a.size
 ho:n<o.size
def hD(hm:MI ge (a.toList++b.toList) o.toList (rt b nb) (rt a na))(h:na=0):Fn le (a.toList++b.toList) (a.extract 0 na++b.extract 0 nb++o.reverse).toList:=by
 subst h;rw[bG,bG,jX,vB,vB,Be];simpa using hm.e1.rev
def hL(hm:MI ge (a.toList++b.toList) o.toList (rt b nb) (rt a na))(h:nb=1)(hb:0<b.size):Fn le (a.toList++b.toList) (b.extract 0 nb++a.extract 0 na++o.reverse).toList:=by
 subst h;let e:rt b 1=[b[0]]:=by rw[Gh hb,Be]
 rw[e] at hm;rw[bG,bG,jX,vB,vB,e];simpa using hm.e2.rev
def HI.y(h:HI st a b n na nb o bp)(hp:a[na-1]?=!p)(hq:b[nb-1]?=!q)(hc:kn q<=kn p) :
  (na-1=0->Fn le (a.toList++b.toList) (a.extract 0 (na-1)++b.extract 0 nb++(o.push p).reverse).toList)/\(¬na-1=0->HI st a b (n+1) (na-1) nb (o.push p) bp):=by
 let h1:=h.b1;let h2:=h.a2;let hm:MI ge (a.toList++b.toList) (o.push p).toList (rt b nb) (rt a (na-1)):=by
  let hm:=h.mi;rw[qN () hq] at hm ⊢;rw[qN h.a1 hp] at hm;rw[dQ];exact hm.y1 (u:=[p]) λu hu z hz=>by rw[aQ] at hu;subst hu;exact hm.hx Bn hc z hz
 exact#[λe=>hD hm e,λe=>#[h.sm,hm,h1,h.b2,by omega,by omega,by rw[jx];have:=h.ho;omega]]
def HI.x(h:HI st a b n na nb o bp)(hp:a[na-1]?=!p)(hq:b[nb-1]?=!q)(hc:kn p<=kn q) :
  (nb-1=1->Fn le (a.toList++b.toList) (b.extract 0 (nb-1)++a.extract 0 na++(o.push q).reverse).toList)/\(¬nb-1=1->HI st a b (n+1) na (nb-1) (o.push q) bp):=by
 let h1:=h.b1;let h2:=h.b2;let hm:MI ge (a.toList++b.toList) (o.push q).toList (rt b (nb-1)) (rt a na):=by
  let hm:=h.mi;rw[qN h.a1 hp] at hm ⊢;rw[qN () hq] at hm;rw[dQ];exact hm.x1 (u:=[q]) (λu hu z hz=>by rw[aQ] at hu;subst hu;exact hm.hy Bn hc z hz) (bK9 () ())
 exact#[λe=>hL hm e (),λe=>#[h.sm,hm,by omega,by omega,h.a1,h.a2,by rw[jx];have:=h.ho;omega]]
def HI.gy(h:HI st a b n na nb o bp)(hq:b[nb-1]?=!q)(h1:t<=na)(h2:∀p∈(a.toList.drop 0).take t,gp false q p=true)(h3:∀p∈(a.toList.drop (0+t)).take (na-t),gp false q p=false) :
  (t=0->Fn le (a.toList++b.toList) (a.extract 0 t++b.extract 0 nb++(o++(a.extract t na).reverse).reverse).toList)/\(¬t=0->HI st a b n t nb (o++(a.extract t na).reverse) bp)/\∀p,0<t->a[t-1]?=!p->kn p<=kn q:=by
 let h4:=h.b1;let h5:=h.a2;rw[Nat.zero_add] at h3;let hm:MI ge (a.toList++b.toList) (o++(a.extract t na).reverse).toList (rt b nb) (rt a t):=by
  let hm:=h.mi;rw[GP a h1] at hm;rw[Gi];refine hm.y1 λp hp z hz=>?_;rw[qN () hq] at hz hm;exact hm.hx Bn (cH (Bi (h3 p (dz.mp hp)))) z hz
 refine#[λe=>hD hm e,λe=>#[h.sm,hm,h4,h.b2,by omega,by omega,by rw[iJ];have:=h.ho;omega],λp h0 hp=>Ep (h2 p ?_)];have:=qN h0 hp;exact dz.mp (show p∈rt a t by rw[this];exact dD ..)
def HI.gx(h:HI st a b n na nb o bp)(hp:a[na-1]?=!p)(h1:t<=nb)(h2:∀q∈(b.toList.drop 0).take t,gp true p q=true)(h3:∀q∈(b.toList.drop (0+t)).take (nb-t),gp true p q=false) :
  (t=1->Fn le (a.toList++b.toList) (b.extract 0 t++a.extract 0 na++(o++(b.extract t nb).reverse).reverse).toList)/\(t=0->Fn le (a.toList++b.toList) (a.extract 0 na++b.extract 0 t++(o++(b.extract t nb).reverse).reverse).toList) /\
  (¬t=1->¬t=0->HI st a b n na t (o++(b.extract t nb).reverse) bp)/\∀q,0<t->b[t-1]?=!q->kn q<=kn p:=by
 let h4:=h.b1;let h5:=h.b2;rw[Nat.zero_add] at h3;let Y2:∀p∈((b.toList.drop t).take (nb-t)).reverse,∀q∈rt a na,ge p q:=λq hq z hz=>by
  let hm:=h.mi;rw[qN h.a1 hp] at hz hm;exact hm.hy Bn (FR (h3 q (dz.mp hq))) z hz
 let hm:0<t->MI ge (a.toList++b.toList) (o++(b.extract t nb).reverse).toList (rt b t) (rt a na):=λh0=>by
  let hm:=h.mi;rw[GP b h1] at hm;rw[Gi];refine hm.x1 Y2 λe=>?_;have:=hV List.length e;simp only[rt,List.length_reverse,List.length_take,Array.length_toList,List.length_nil] at this;omega
 refine#[λe=>hL (hm ()) e (),λe=>?_,λe1 e2=>#[h.sm,hm (),by omega,by omega,h.a1,h.a2,by rw[iJ];have:=h.ho;omega],λq h0 hq=>cH (AY (h2 q ?_))]
 .subst e;let hm:=h.mi;rw[GP b h1,Be,dM] at hm;have:=(hm.e0 Y2).rev;rw[bG,bG,jX,Gi,vB,vB,Be]
  simp_all
 .have:=qN h0 hq;exact dz.mp (show q∈rt b t by rw[this];exact dD ..)
def HI.ex(h:HI st a b n na nb o bp)(iu:∀p∈a.toList++b.toList,IK p):∃p q,a[na-1]?=!p/\b[nb-1]?=!q/\IK p/\IK q:=by
 let h1:=h.b1;let h2:=h.b2;let h3:=h.a1;let h4:=h.a2;let h5:na-1<a.size:=by omega
 let h6:nb-1<b.size:=by omega
 exact#[a[na-1],b[nb-1],cG a (na-1) h5,cG b (nb-1) h6,iu _ (bC _ #[_]),iu _ (bf _ #[_])]
def HI.wb(h:HI st a b n na nb o bp){gL:SortSt}(q:Sm bp gL):HI st a b n na nb o gL:=#[h.sm.trans q,h.mi,h.b1,h.b2,h.a1,h.a2,h.ho]
def HI.wk(h:HI st a b n na nb o bp){m:Nat}(hm:m<=n):HI st a b m na nb o bp:=#[h.sm,h.mi,h.b1,h.b2,h.a1,h.a2,dC hm h.ho]
def HI.full(h:HI st a b (a.size+b.size) na nb o bp):False:=by
 let h1:=h.mi.len;let h2:=h.ho;simp only[List.length_append,Array.length_toList] at h1;omega
abbrev HR(st:SortSt)(a b:Array Keyed)(n:Nat)(Q:Array Keyed->SortSt->Prop)(r:Option (Array Keyed))(na nb:Nat)(o:Array Keyed)(bp:SortSt):Prop:=match r with
 |some z=>Q z bp
 |none=>HI st a b n na nb o bp
end
def bE4{st:SortSt}{a b:Array Keyed}{Q:Array Keyed->SortSt->Prop}(hk:kindOf st=oneType')(iu:∀p∈a.toList++b.toList,IK p)(ha:0<a.size)(hb:0<b.size)(sa:a.toList.Pairwise le)(sb:b.toList.Pairwise le)(h0:MI ge (a.toList++b.toList) [] (rt b b.size) (rt a a.size))(hf:∀p∈b.toList,kn p<=kn a[a.size-1])(h:∀z bp,Sm st bp->Fn le (a.toList++b.toList) z.toList->Q z bp):wpS (model prog w) A E s (QA a b) Q st:=by
  let IA:∀p∈a.toList,IK p:=λp hp=>iu p (bC _ hp);let IB:∀p∈b.toList,IK p:=λp hp=>iu p (bf _ hp);let SA:∀x n u v (hv:v<a.size) (nv:u<=v),x<=u->v<x+n->kn a[u]<=kn a[v]:=λt t u v hv nv t t=>yu sa hv nv;let SB:∀x n u v (hv:v<b.size) (nv:u<=v),x<=u->v<x+n->kn b[u]<=kn b[v]:=λt t u v hv nv t t=>yu sb hv nv;let uM:a[a.size-1]?=some a[a.size-1]:=cG _ _ _;let h1:MI ge (a.toList++b.toList) ((List.toArray [a[a.size-1]]):Array Keyed).toList (rt b b.size) (rt a (a.size-1)):=by
    rw[qN ha uM] at h0;refine MI.y1 (o:=[]) (u:=[a[a.size-1]]) h0 ?_;intro p hp q hq;rw[aQ] at hp;subst hp;exact hf q (OT hq)
  let s0:Sm st st:=#[rfl,rfl,rfl,rfl]
  refine aC (qV (fb #[rfl,?_]));refine aC (A4 uM ?_);refine f9 (λe=>aJ (h _ st s0 (hD h1 (eq_of_beq e)))) λe=>?_;refine f9 (λe2=>aJ (h _ st s0 (hL h1 (eq_of_beq e2) hb))) λe2=>?_;let e:¬a.size-1=0:=λz=>e (bx.mpr z);let e2:¬b.size=1:=λz=>e2 (bx.mpr z);refine aC (nH ?_);refine aC (wpS_mono (forR (I:=λn (c:Option (Array Keyed)×Nat×Nat×Array Keyed×Nat)=>HR st a b n nQ c.1 c.2.1 c.2.2.1 c.2.2.2.1) (Q:=λc=>HR st a b (a.size+b.size) Q c.1 c.2.1 c.2.2.1 c.2.2.2.1) ?_ ?_ (show HI st a b 0 (a.size-1) b.size (List.toArray [a[a.size-1]]) st from#[s0,h1,by omega,by omega,by omega,by omega,by simp])) ?_)
  . rintro n ⟨c1,na,nb,o,mg⟩ gn _ hn hL;cases c1 with
    |some z=>exact hL.elim
    |none =>
    refine aC (wpS_mono (forR (I:=λx (c:Option (Array Keyed)×Nat×Nat×Array Keyed×Nat×Nat)=>HR st a b (n+x) nQ c.1 c.2.1 c.2.2.1 c.2.2.2.1) (Q:=λc=>HR st a b (n+1) Q c.1 c.2.1 c.2.2.1 c.2.2.2.1) ?_ ?_ hL) ?_)
    . rintro x ⟨c1,na,nb,o,ac,bc⟩ gn _ _ hL;cases c1 with
      |some z=>exact hL.elim
      |none =>
      let#[p,q,hp,hq,ip,iq]:=hL.ex iu;refine aC (A4 hq (aC (A4 hp (aC (Br (hL.sm.1.trans hk) iq ip ?_)))));refine f9 (λhc=>aC (A4 hp ?_)) (λhc=>aC (A4 hq ?_))
      . let Y:=hL.y hp hq (cH (bg hc));refine f9 (λe=>aJ (h _ _ hL.sm (Y.1 (eq_of_beq e)))) λe=>?_;let Z:=Y.2 λz=>e (bx.mpr z);exact f9 (λt=>aJ (Z.wk ())) (λt=>aJ Z)
      . let Y:=hL.x hp hq (ig.mp λz=>hc (az z));refine f9 (λe=>aJ (h _ _ hL.sm (Y.1 (eq_of_beq e)))) λe=>?_;let Z:=Y.2 λz=>e (bx.mpr z);exact f9 (λt=>aJ (Z.wk ())) (λt=>aJ Z)
    . rintro⟨c1,na,nb,o,ac,bc⟩ gn hL;cases c1 with
      |some z=>exact hL.elim
      |none=>exact HI.wk hL ()
    . rintro⟨c1,na,nb,o,ac,bc⟩ gn hL;cases c1 with
      |some z=>exact aJ hL
      |none =>
      refine aC (qV (fb #[rfl,?_]));refine aC (wpS_mono (forR (I:=λx (c:Option (Array Keyed)×Nat×Nat×Array Keyed×Nat×Nat×Nat)=>HR st a b (n+1) nQ c.1 c.2.1 c.2.2.1 c.2.2.2.1) (Q:=λc=>HR st a b (n+1) Q c.1 c.2.1 c.2.2.1 c.2.2.2.1) ?_ ?_ hL) ?_)
      . rintro x ⟨c1,na,nb,o,mg,ac,bc⟩ gn _ _ hL;cases c1 with
        |some z=>exact hL.elim
        |none =>
        replace hL:HI st a b (n+1) na nb o gn:=hL
        lift_lets
        intro s1 Ic s2 Ib s3 out s4 Qy s5 ac1 Xq Ia jp;let e1:na=Ic:=rfl;let e2:nb=Ib:=rfl;let e3:o=out:=rfl;let e4:nb-1=Ia:=rfl
        clear_value Ic Ib out Ia
        subst e1 e2 e3 e4;let J:∀u m,wpS (model prog w) A E s (jp u m) (fs (λc=>HR st a b (n+1) Q c.1 c.2.1 c.2.2.1 c.2.2.2.1) (λc=>HR st a b (n+1) nQ c.1 c.2.1 c.2.2.1 c.2.2.2.1)) gn:=by
          intro u m;refine aC (Bu (g:=m) λgL gZ=>?_)
          replace hL:=hL.wb gZ
          let#[p,q,hp,hq,ip,iq]:=hL.ex iu;refine aC (A4 hq ?_);refine aC (vj (hL.sm.1.trans hk) iq IA (SA _ _) (by have:=hL.a2;omega) (by have:=hL.a1;omega) λk mQ lJ mP=>?_);let G:=hL.gy hq mQ lJ mP;clear lJ mP hp ip;dsimp -zeta -zetaHave only
          lift_lets
          intro k2 ac2 wR Cf na2;let J2:∀u na o,HI st a b (n+1) na nb o gL->(∀p,0<na->a[na-1]?=!p->kn p<=kn q)->wpS (model prog w) A E s (wR u na o) (fs (λc=>HR st a b (n+1) Q c.1 c.2.1 c.2.2.1 c.2.2.2.1) (λc=>HR st a b (n+1) nQ c.1 c.2.1 c.2.2.1 c.2.2.2.1)) gL:=by
            intro u na o hL hc;let#[p,q2,hp,_,ip,_]:=hL.ex iu;let Y:=hL.x hp hq (hc p hL.a1 hp);refine aC (A4 hq ?_);refine f9 (λe=>aJ (h _ _ hL.sm (Y.1 (eq_of_beq e)))) λe=>?_;let Z:=Y.2 λz=>e (bx.mpr z);refine aC (A4 hp ?_);refine aC (vj (hL.sm.1.trans hk) ip IB (SB _ _) (by have:=Z.b2;omega) (by have:=Z.b1;omega) λk mQ lJ mP=>?_);let G:=Z.gx hp mQ lJ mP;dsimp -zeta -zetaHave only
            lift_lets
            intro k3 Xo wQ Ce nb3;let J3:∀u nb o,HI st a b (n+1) na nb o gL->(∀q,0<nb->b[nb-1]?=!q->kn q<=kn p)->wpS (model prog w) A E s (wQ u nb o) (fs (λc=>HR st a b (n+1) Q c.1 c.2.1 c.2.2.1 c.2.2.2.1) (λc=>HR st a b (n+1) nQ c.1 c.2.1 c.2.2.1 c.2.2.2.1)) gL:=by
              intro u nb o hL hc;let#[p2,q,_,hq,_,_]:=hL.ex iu;let Y:=hL.y hp hq (hc q (by have:=hL.b1;omega) hq);refine aC (A4 hp ?_);refine f9 (λe=>aJ (h _ _ hL.sm (Y.1 (eq_of_beq e)))) λe=>?_;let Z:=Y.2 λz=>e (bx.mpr z);exact f9 (λt=>aJ (Z.wk (cR _))) (λt=>aJ (Z.wk (cR _)))
            clear_value wQ
            refine f9 (λt=>f9 (λe=>aJ (h _ _ hL.sm (G.1 (eq_of_beq e)))) λe=>f9 (λe2=>aJ (h _ _ hL.sm (G.2.1 (eq_of_beq e2)))) λe2=>J3 _ _ _ ((G.2.2.1 (λz=>e (bx.mpr z)) (λz=>e2 (bx.mpr z))).wk (cR _)) G.2.2.2) (λe=>J3 _ _ _ (Z.wk (cR _)) ?_);let e:k=nb-1:=by omega
            subst e;exact G.2.2.2
          clear_value wR
          refine f9 (λt=>f9 (λe=>aJ (h _ _ hL.sm (G.1 (eq_of_beq e)))) λe=>J2 _ _ _ (G.2.1 (λz=>e (bx.mpr z))) G.2.2) (λe=>J2 _ _ _ hL ?_);let e:k=na:=by omega
          subst e;exact G.2.2
        clear_value jp
        exact f9 (λt=>J _ _) (λt=>J _ _)
      . rintro⟨c1,na,nb,o,mg,ac,bc⟩ gn hL;cases c1 with
        |some z=>exact hL.elim
        |none=>exact hL
      . rintro⟨c1,na,nb,o,mg,ac,bc⟩ gn hL;cases c1 with
        |some z=>exact aJ hL
        |none=>exact aC (Bu λgL gZ=>aJ (HI.wb hL gZ))
  . rintro⟨c1,na,nb,o,mg⟩ gn hL;cases c1 with
    |some z=>exact hL.elim
    |none=>exact HI.wk hL ()
  . rintro⟨c1,na,nb,o,mg⟩ gn hL;cases c1 with
    |some z=>exact aJ hL
    |none=>exact(HI.full hL).elim
end
abbrev seg(l:@&Keyed)(s n:Nat):@&Keyed:=(l.drop s).take n
def C6{l:@&Keyed}{s n:Nat}(h:s+n<=-l):(seg l s n).length=n:=by simp[seg];omega
def yD(l:@&Keyed)(s n k:Nat):(seg l s n)[k]?=if k<n then l[s+k]? else none:=by
 unfold seg;rw[Py];split<;>simp
def EN(l:@&Keyed)(s n m:Nat):seg l s (n+m)=seg l s n++seg l (s+n) m:=by
 unfold seg;rw[List.take_add,ie]
def Fx{l l':@&Keyed}{s n:Nat}(h:∀k,s<=k->k<s+n->l'[k]?=l[k]?):seg l' s n=seg l s n:=by
 apply bV;intro k;rw[yD,yD]
 grind
abbrev put(l:@&Keyed)(s:Nat)(m:@&Keyed):@&Keyed:=l.take s++(m++l.drop (s+-m))
def P6{l:@&Keyed}{s:Nat}{m:@&Keyed}(h:s+-m<=-l)(k:Nat):(put l s m)[k]?=if s<=k/\k<s+-m then m[k-s]? else l[k]?:=by
 unfold put;rw[BK,dA,jv ()];by_cases h1:k<s
 .rw[aI h1,aE (),Py,aI h1]
 .rw[aE h1,BK];by_cases h2:k-s< -m
  .rw[aI h2,aI ()]
  .rw[aE h2,aE (),List.getElem?_drop];congr 1;omega
def VG{l:@&Keyed}{s:Nat}{m:@&Keyed}(h:s+-m<=-l):seg (put l s m) s (-m)=m:=by
 apply bV;intro k;rw[yD,P6 h];by_cases hk:k< -m
 .grind
 simp_all
def Xw{l:@&Keyed}{s:Nat}{m:@&Keyed}(h:m.Perm (seg l s (-m))):(put l s m).Perm l:=by
 let e:l=l.take s++(seg l s (-m)++l.drop (s+-m)):=by
  unfold seg;rw[<- ie,bN,bN]
 conv=>rhs;rw[e]
 exact eV _ (fY _ h)
def Od:∀(m:@&Keyed) (s j:Nat) (a:Array Keyed),s+j+-m<=a.size->((m.zipIdx j).foldl (λa (p:Keyed×Nat)=>a.setIfInBounds (s+p.2) p.1) a).toList=put a.toList (s+j) m
 |[],s,j,a,h=>by simp[put]
 |p::m,s,j,a,h=>by
  rw[List.zipIdx_cons,List.foldl_cons,Od m s (j+1) _ (by grind)];let h1:s+j+(p::m).length<=-a.toList:=by simpa using h
  let h2:s+(j+1)+-m<=(a.setIfInBounds (s+j) p).toList.length:=by grind
  apply bV;intro k;rw[P6 h1,P6 h2];simp only[Array.toList_setIfInBounds,List.getElem?_set,List.length_cons,Array.length_toList] at h ⊢;by_cases h3:s+(j+1)<=k/\k<s+(j+1)+-m
  .rw[aI h3,aI (),show k-(s+j)=(k-(s+(j+1)))+1 by omega,List.getElem?_cons_succ]
  .rw[aE h3];by_cases e:s+j=k
   .subst e;rw[aI rfl,aI (),aI (),Nat.sub_self];rfl
   .rw[aE e,aE ()]
def Xy{l z:@&Keyed}{s k r:Nat}(h:s+k+-z+r<=-l):put l (s+k) z=put l s (seg l s k++(z++seg l (s+k+-z) r)):=by
 let e:(seg l s k++(z++seg l (s+k+-z) r)).length=k+-z+r:=by
  rw[bL,bL,C6 (),C6 ()];omega
 let e2:l.drop (s+k+-z)=seg l (s+k+-z) r++l.drop (s+(k+-z+r)):=by
  unfold seg;rw[show s+(k+-z+r)=s+k+-z+r by omega,<- ie (i:=r),bN]
 unfold put;rw[e,List.take_add,e2];simp only[seg,List.append_assoc]
def Vd{a1 a2 b1 b2 m:@&Keyed}(sa:(a1++a2).Pairwise le)(sb:(b1++b2).Pairwise le)(hm:Fn le (a2++b1) m)(h1:∀p∈a1,∀q∈b1++b2,le p q)(h2:∀p∈a2,∀q∈b2,le p q):(a1++(m++b2)).Pairwise le:=by
 let#[x1,x2,x3]:=ba.mp sa;let#[y1,y2,y3]:=ba.mp sb;let mm:∀p∈m,p∈a2\/p∈b1:=λp hp=>aV.mp (hm.1.mem_iff.mp hp);refine ba.mpr #[x1,ba.mpr #[hm.2,y2,λp hp q hq=>?_],λp hp q hq=>?_]
 .rcases mm p hp with hp|hp
  .exact h2 p hp q hq
  .exact y3 p hp q hq
 .rcases aV.mp hq with hq|hq
  .rcases mm q hq with hq|hq
   .exact x3 p hp q hq
   .exact h1 p hp q (bC _ hq)
  .exact h1 p hp q (bf _ hq)
abbrev Ii:Nat->StateT SortSt Sem Bool:=sortPriv% PySem.Builtin.mergeAt
section
variable{prog:Program}{w:World}{A:Around}{E:Value->Shared->Prop}{s:Shared}
def Wt{U:Type}{M:Model}{x st:U}{Q:PUnit->U->Prop}(h:Q ⟨⟩ x):wpS M A E s (set x:StateT U Sem PUnit) Q st:=by
 exact au #[rfl,h]
def bE5{st:SortSt}{i sa na pw sb nb uC:Nat}{Q:Bool->SortSt->Prop}(hk:kindOf st=oneType')(Df:failedOf st=none)(iu:∀p∈(arrOf st).toList,IK p)(e1:(pendingOf st)[i]?=!(sa,na,pw))(e2:(pendingOf st)[i+1]?=!(sb,nb,uC))(SS:sb=sa+na)(hn:sb+nb<=(arrOf st).size)(Sx:0<na)(h0b:0<nb)(ha:(seg (arrOf st).toList sa na).Pairwise le)(hb:(seg (arrOf st).toList sb nb).Pairwise le)(h:∀ bp m,(-m)=na + nb->m.Pairwise le->m.Perm (seg (arrOf st).toList sa (na + nb))->kindOf bp=oneType'->failedOf bp=none->(arrOf bp).toList=put (arrOf st).toList sa m ->
   pendingOf bp=((pendingOf st).setIfInBounds i (sa,na + nb,pw)).eraseIdxIfInBounds (i + 1)->Q true bp):wpS (model prog w) A E s (Ii i) Q st:=by
 let#[kd,X,pd,mg,fl]:=st;dsimp only[arrOf,kindOf,pendingOf,failedOf] at *;subst hk Df;refine aC (nH ?_);rw[e1,e2];refine aC (m:=set _) (Wt ?_);let hsz:-X.toList=X.size:=by simp
 let uR:sb<X.size:=by omega
 refine aC (A4 (p:=X[sb]) (cG _ sb uR) ?_);let IX:∀t (ht:t<X.size),IK X[t]:=λt ht=>iu _ #[_];let zl:∀u n,u+n<=X.size->(seg X.toList u n).Pairwise le->∀i j (hj:j<X.size) (iV:i<=j),u<=i->j<u+n->kn X[i]<=kn X[j]:=by
  intro u n hun hp i j hj iV h1 h2;by_cases e:i=j
  .subst e;exact gH _
  .let l1:=C6 (l:=X.toList) (s:=u) (n:=n) ();have:=cS.mp hp (i-u) (j-u) () () ();simp only[seg,List.getElem_take,List.getElem_drop,show u+(i-u)=i by omega,show u+(j-u)=j by omega,Array.getElem_toList] at this;exact this
 refine aC (vj (xs:=X) rfl (IX sb uR) iu (zl sa na () ha) () Sx λk mQ lJ mP=>?_);let ea:seg X.toList sa na=seg X.toList sa k++seg X.toList (sa+k) (na-k):=by rw[<- EN];congr 1;omega
 let xR:seg X.toList sa (na+nb)=seg X.toList sa na++seg X.toList sb nb:=by rw[EN,SS]
 let iL:∀q∈seg X.toList sb nb,kn X[sb]<=kn q:=by
  intro q hq;let#[t,ht,rfl]:=br.mp hq;rw[C6 ()] at ht;simp only[seg,List.getElem_take,List.getElem_drop,Array.getElem_toList];exact zl sb nb hn hb sb (sb+t) () () () ()
 let X1:∀p∈seg X.toList sa k,∀q∈seg X.toList sb nb,le p q:=λp hp q hq=>fZ (Ep (lJ p hp)) (iL q hq);let keep:(∀p∈seg X.toList (sa+k) (na-k),∀q∈seg X.toList sb nb,le p q)->∀bp,kindOf bp=oneType'->failedOf bp=none->arrOf bp=X->pendingOf bp=(pd.setIfInBounds i (sa,na+nb,pw)).eraseIdxIfInBounds (i+1)->Q true bp:=by
  intro hc bp g1 g2 g3 g4;let l2:(seg X.toList sa (na+nb)).length=na+nb:=C6 ();refine h bp (seg X.toList sa (na+nb)) l2 ?_ (jW _) g1 g2 ?_ g4
  .rw[xR];refine ba.mpr #[ha,hb,λp hp q hq=>?_];rw[ea] at hp;rcases aV.mp hp with hp|hp
   .exact X1 p hp q hq
   .exact hc p hp q hq
  .show(arrOf bp).toList=_;rw[g3];unfold put;rw[l2];unfold seg;rw[<- ie,bN,bN]
 refine f9 (λhe=>?_) (λhe=>?_)
 .let he:na-k=0:=by simpa using he
  refine aJ (keep (λp hp=>?_) _ rfl rfl rfl rfl);rw[he] at hp;simp[seg] at hp
 let IL:0<na-k:=by simp at he;omega
 rw[show sa+k+(na-k)-1=sb-1 by omega];let uM:sb-1<X.size:=by omega
 refine aC (A4 (p:=X[sb-1]) (cG X (sb-1) uM) ?_);refine aC (vj (xs:=X) rfl (IX _ uM) iu (zl sb nb hn hb) hn () λt ht1 Iy QT=>?_);let zT:∀p∈seg X.toList (sa+k) (na-k),kn p<=kn X[sb-1]:=by
  intro q hq;let#[u,hu,rfl]:=br.mp hq;rw[C6 ()] at hu;simp only[seg,List.getElem_take,List.getElem_drop,Array.getElem_toList];exact zl sa na () ha (sa+k+u) (sb-1) uM () () ()
 let eb:seg X.toList sb nb=seg X.toList sb t++seg X.toList (sb+t) (nb-t):=by rw[<- EN];congr 1;omega
 let X2:∀p∈seg X.toList (sa+k) (na-k),∀q∈seg X.toList (sb+t) (nb-t),le p q:=λp hp q hq=>fZ (zT p hp) (FR (QT q hq));dsimp only;refine f9 (λhe=>?_) (λhe=>?_)
 .let he:t=0:=by simpa using he
  subst he;refine aJ (keep (λp hp q hq=>?_) _ rfl rfl rfl rfl);exact X2 p hp q hq
 let ht:0<t:=by grind
 let qr:(X.extract (sa+k) sb).toList=seg X.toList (sa+k) (na-k):=by
  rw[jY,List.extract_eq_drop_take];congr 1;omega
 let qq:(X.extract sb (sb+t)).toList=seg X.toList sb t:=by
  rw[jY,List.extract_eq_drop_take];congr 1;omega
 rw[ea] at ha;rw[eb] at hb;let s1:=(ba.mp ha).2.1;let s2:=(ba.mp hb).1;let z1:(X.extract (sa+k) sb).size=na-k:=by simp;omega
 let z2:(X.extract sb (sb+t)).size=t:=by simp;omega
 let sub:∀u n p,p∈seg X.toList u n->IK p:=λu n p hp=>iu p (BJ (cj hp));let Ip:∀p∈(X.extract (sa+k) sb).toList++(X.extract sb (sb+t)).toList,IK p:=by
  rw[qr,qq];intro p hp;rcases aV.mp hp with hp|hp
  .exact sub _ _ p hp
  .exact sub _ _ p hp
 let y0:∀h,kn ((X.extract sb (sb+t))[0]'h)=kn X[sb]:=λh=>by simp
 let xl:∀h,kn ((X.extract (sa+k) sb)[(X.extract (sa+k) sb).size-1]'h)=kn X[sb-1]:=λh=>by
  simp only[Array.getElem_extract];congr 2;omega
 let lst:∀z,(seg X.toList (sa+k) (na-k)).getLast?=!z->kn z=kn X[sb-1]:=by
  intro z hz;rw[List.getLast?_eq_getElem?,C6 (),yD,aI (),show sa+k+(na-k-1)=sb-1 by omega,ag ()] at hz;cases hz;simp
 refine f9 (λhc=>?_) (λhc=>?_);refine aC (bE3 rfl Ip () () #[jW _,List.Pairwise.nil,by rw[qr];exact s1,by rw[qq];exact s2,λp hp=>absurd hp mZ,λq hq z hz=>?_] (λp hp=>?_) λz bp hs hz=>?_)
 .rw[qr] at hz;rw[qq] at hq;change kn q<=kn z;rw[lst z hz];exact cH (AY (Iy q hq))
 .rw[qr] at hp;rw[y0];exact cH (Bi (mP p hp))
 rotate_left
 refine aC (bE4 rfl Ip () () (by rw[qr];exact s1) (by rw[qq];exact s2) #[?_,List.Pairwise.nil,?_,?_,λp hp=>absurd hp mZ,λq hq z hz=>?_] (λp hp=>?_) λz bp hs hz=>?_)
 .rw[yq,yq,jw];exact(List.Perm.append (mh _) (mh _)).trans jH
 .rw[yq,qq];exact gw.mpr s2
 .rw[yq,qr];exact gw.mpr s1
 .let hq:=OT hq;rw[qr] at hq;rw[yq,List.getLast?_reverse,qq,List.head?_eq_getElem?,yD,aI ht,ag ()] at hz;cases hz;exact cH (by simpa using Bi (mP q hq))
 .rw[qq] at hp;rw[xl];exact cH (AY (Iy p hp))
 all_goals
  refine aC (nG (aC (nH (aJ ?_))));change Q (failedOf bp).isNone _;rw[hs.2.2.2];let QI:-z.toList=na-k+t:=by rw[hz.1.length_eq,bL,qr,qq,C6 (),C6 ()]
  rw[qr,qq] at hz;let hA:(seg X.toList sa k).length=k:=C6 ();let hB:(seg X.toList (sb+t) (nb-t)).length=nb-t:=C6 ();refine h _ (seg X.toList sa k++(z.toList++seg X.toList (sb+t) (nb-t))) (by rw[bL,bL,hA,hB];omega) (Vd ha hb hz (by rw[<- eb];exact X1) X2) ?_ hs.1 hs.2.2.2 ?_ hs.2.2.1
  .rw[xR,ea,eb,bW];refine eV _ ?_;rw[<- bW];exact fY _ hz.1
  .have:=Od z.toList (sa+k) 0 (arrOf bp) (by rw[hs.2.1];change sa+k+0+_<=X.size;omega);refine Eq.trans this ?_;rw[hs.2.1];have:=Xy (l:=X.toList) (z:=z.toList) (s:=sa) (k:=k) (r:=nb-t) ();rw[show sa+k+-z.toList=sb+t by omega] at this;exact this
end
structure Nr(st bp:SortSt)(lo hi:Nat):Prop where
 kd:kindOf bp=oneType'
 fl:failedOf bp=none
 pd:pendingOf bp=pendingOf st
 pm:(arrOf bp).Perm (arrOf st)
 out:∀k,k<lo\/hi<=k->(arrOf bp)[k]?=(arrOf st)[k]?
def Nr.arr{st bp:SortSt}{lo hi:Nat}(h:Nr st bp lo hi){xs:Array Keyed}(hp:xs.Perm (arrOf bp))(ho:∀k,k<lo\/hi<=k->xs[k]?=(arrOf bp)[k]?):Nr st (setArr bp xs) lo hi :=
 #[h.kd,h.fl,h.pd,hp.trans h.pm,λk hk=>(ho k hk).trans (h.out k hk)]
abbrev SB(xs:Array Keyed)(lo m:Nat):Prop:=∀i j,lo<=i->i<=j->j<lo+m->K xs i<=K xs j
abbrev ND(xs:Array Keyed)(lo m:Nat):Prop:=∀i j,lo<=i->i<=j->j<lo+m->K xs j<=K xs i
def SB.one(xs:Array Keyed)(lo:Nat):SB xs lo 1:=λi j a b c=>by
 grind
def SB.more{xs:Array Keyed}{lo x:Nat}(h:SB xs lo x)(h0:0<x)(hc:¬K xs (lo+x)<K xs (lo+x-1)):SB xs lo (x+1):=by
 intro i j h1 h2 h3;by_cases hj:j<lo+x
 .exact h i j h1 h2 hj
 .have:j=lo+x:=by omega
  subst this;by_cases hi:i=lo+x
  .subst hi;exact gH _
  .exact fZ (h i (lo+x-1) h1 () ()) (ig.mp hc)
def ND.more{xs:Array Keyed}{lo x:Nat}(h:ND xs lo x)(h0:0<x)(hc:K xs (lo+x)<=K xs (lo+x-1)):ND xs lo (x+1):=by
 intro i j h1 h2 h3;by_cases hj:j<lo+x
 .exact h i j h1 h2 hj
 .have:j=lo+x:=by omega
  subst this;by_cases hi:i=lo+x
  .subst hi;exact gH _
  .exact fZ hc (h i (lo+x-1) h1 () ())
def ND.same{xs ys:Array Keyed}{lo m:Nat}(h:ND xs lo m)(hk:∀k,K ys k=K xs k):ND ys lo m:=λi j a b c=>by rw[hk,hk];exact h i j a b c
section
variable{prog:Program}{w:World}{A:Around}{E:Value->Shared->Prop}{s:Shared}
def KN{xs:Array Keyed}{i:Nat}(hi:i<xs.size)(hk:IK xs[i]):∃t q,xs[i]?=!(.int (K xs i) t,q):=by
 let#[n,t,e]:=hk;refine#[t,xs[i].2,?_];let e2:xs[i]?=some xs[i]:=cG _ i hi;let e3:xs[i]=(.int n t,xs[i].2):=BE e rfl;unfold K;rw[e2,e3]
 rfl
def wI{st:SortSt}{i j:Nat}{Q:Option Bool->SortSt->Prop}(hk:kindOf st=oneType')(h0:∀p∈(arrOf st).toList,IK p)(hi:i<(arrOf st).size)(hj:j<(arrOf st).size)(h:Q (!(decide (K (arrOf st) i<K (arrOf st) j))) st) :
  wpS (model prog w) A E s (ltAt' i j) Q st:=by
 let#[t,p,e1]:=KN hi (h0 _ #[_]);let#[u,q,e2]:=KN hj (h0 _ #[_]);exact wpS_ltAt hk e1 e2 h
def bH7{st:SortSt}{lo n ok:Nat}{Q:Bool->SortSt->Prop}(hk:kindOf st=oneType')(hf:failedOf st=none)(h0:∀p∈(arrOf st).toList,IK p)(hn:lo+n<=(arrOf st).size)(cb:ok<=n)(hs:SB (arrOf st) lo ok)(h:∀bp,Nr st bp lo (lo+n)->SB (arrOf bp) lo n->Q true bp):wpS (model prog w) A E s (binarySort' lo n ok) Q st:=by
 refine aC (wpS_mono (ei (I:=λk (c:Option Bool × Unit) bp=>c=(none,Unit.unit)/\Nr st bp lo (lo + n)/\SB (arrOf bp) lo (min k n))
  (Q:=λc bp=>c=(none,Unit.unit)/\Nr st bp lo (lo + n)/\SB (arrOf bp) lo n) ?_ ?_ #[rfl,#[hk,hf,rfl,oj _,λy y=>rfl],?_]) ?_)
 .rintro k c bp hak hkn ⟨rfl,hN,jt⟩;rw[show min k n=k by omega] at jt;let hsz:(arrOf bp).size=(arrOf st).size:=hN.pm.size_eq;let uZ:∀p∈(arrOf bp).toList,IK p:=λp hp=>h0 p ((cq.mp hN.pm).mem_iff.mp hp);refine aC (wpS_mono (ei (I:=λx (c:Option Bool × Nat × Nat) iP=>iP=bp/\c.1=none/\c.2.1 <= c.2.2/\c.2.2 <= k/\c.2.2 - c.2.1 <= k - x /\
    (∀ i,lo <= i->i < lo + c.2.1->K (arrOf bp) i <= K (arrOf bp) (lo + k))/\(∀ i,lo + c.2.2 <= i->i < lo + k->K (arrOf bp) (lo + k) < K (arrOf bp) i))
   (Q:=λc iP=>iP=bp/\c.1=none/\c.2.1<=k/\(∀i,lo<=i->i<lo+c.2.1->K (arrOf bp) i<=K (arrOf bp) (lo+k))/\(∀i,lo+c.2.1<=i->i<lo+k->K (arrOf bp) (lo+k)<K (arrOf bp) i)) ?_ ?_
   #[rfl,rfl,cc _,av _,av _,λi h1 h2=>absurd h2 (by grind),λi h1 h2=>absurd h2 (by grind)]) ?_)
  .rintro x ⟨c1,l,r⟩ iP _ hx ⟨rfl,rfl,q1,q2,q3,q4,q5⟩;dsimp only at q1 q2 q3 q4 q5;refine f9 (λlV=>?_) (λlV=>?_)
   .have:l=r:=by grind
    subst this;exact aJ #[rfl,rfl,q2,q4,q5]
   .let lV:l<r:=by simp_all
    refine aC (wI hN.kd uZ () (by grind) ?_);refine f9 (λhc=>?_) (λhc=>?_)
    .let hc:=bg hc;exact aJ #[rfl,rfl,by grind,by dsimp only;omega,by dsimp only;omega,q4,λi h1 h2=>Int.lt_of_lt_of_le hc (jt _ _ () h1 h2)]
    .let hc:=ig.mp λz=>hc (az z);exact aJ #[rfl,rfl,by grind,q2,by dsimp only;omega,λi h1 h2=>fZ (jt i (lo+(l+r) / 2) h1 (by grind) ()) hc,q5]
  .grind
  .rintro⟨c1,l,r⟩ iP ⟨rfl,rfl,q1,q2,q3⟩;dsimp only at q1 q2 q3 ⊢;let xj:lo+k<(arrOf iP).size:=by omega
   refine aC (nG (aJ #[rfl,hN.arr (bubble_perm _ (lo+k) (lo+k-(lo+l))) (λt ht=>?_),?_]))
   .show(bubble (arrOf iP) (lo+k) (lo+k-(lo+l)))[t]?=_;rw[getElem?_bubble xj _ (),aE (),aE ()]
   .intro i j h1 iV hj;change K (bubble (arrOf iP) (lo+k) (lo+k-(lo+l))) i<=K (bubble (arrOf iP) (lo+k) (lo+k-(lo+l))) j;rw[K_bubble xj (),K_bubble xj (),show lo+k-(lo+k-(lo+l))=lo+l by omega]
    repeat' split
    all_goals first
     |(exfalso;omega)
     |exact gH _
     |exact q2 _ () ()
     |exact cH (q3 _ () ())
     |exact jt _ _ () () ()
 .rintro c bp ⟨rfl,hN,jt⟩;refine#[rfl,hN,?_]
  grind
 .intro i j h1 iV hj;by_cases e:ok=0
  .grind
  .exact hs i j h1 iV ()
 .rintro c bp ⟨rfl,hN,jt⟩;exact aJ (h bp hN jt)
def Nr.zw{st bp:SortSt}{lo hi i j:Nat}(h:Nr st bp lo hi)(h1:lo<=i)(h2:j<=hi)(h3:j<=(arrOf bp).size):Nr st (setArr bp (mirror (arrOf bp) i j ((j-i) / 2))) lo hi :=
 h.arr (mirror_perm _ _ _ _) λk hk=>by rw[getElem?_mirror_all h3,aE ()]
def Tw{st:SortSt}{lo ik:Nat}{Q:Option Nat->SortSt->Prop}(hk:kindOf st=oneType')(hf:failedOf st=none)(h0:∀p∈(arrOf st).toList,IK p)(hn:lo+ik<=(arrOf st).size)(h1:1<=ik)(h:∀m bp,Nr st bp lo (lo+ik)->1<=m->m<=ik->SB (arrOf bp) lo m->Q (!m) bp):wpS (model prog w) A E s (countRun' lo ik) Q st:=by
 let asc:∀bp n,Nr st bp lo (lo+ik)->1<=n->n<=ik->SB (arrOf bp) lo n->∀(F:Nat->Option (Option Nat)×Nat->StateT SortSt Sem (ForInStep (Option (Option Nat)×Nat))),
   (F=λy c=>ltAt' (lo + c.2) (lo + c.2 - 1) >>= λr=>match r with
    |some b=>if b=true then pure (.done (none,c.2)) else pure (.yield (none,c.2+1))
    | x=>pure (.done (!none,c.2))) ->
   wpS (model prog w) A E s (forIn [n:ik] (none,n) F) (λc iP=>iP=bp/\c.1=none/\1<=c.2/\c.2<=ik/\SB (arrOf bp) lo c.2/\(c.2=ik\/K (arrOf bp) (lo+c.2)<K (arrOf bp) (lo+c.2-1))) bp:=by
  intro bp n hN h2 h3 hs F e;subst e;let hsz:(arrOf bp).size=(arrOf st).size:=hN.pm.size_eq;let uZ:∀p∈(arrOf bp).toList,IK p:=λp hp=>h0 p ((cq.mp hN.pm).mem_iff.mp hp);refine ei (I:=λx c iP=>iP=bp/\c=(none,x)/\1<=x/\SB (arrOf bp) lo x) ?_ ?_ #[rfl,rfl,h2,hs]
  .rintro x c iP uS Iv ⟨rfl,rfl,q1,q2⟩;refine aC (wI hN.kd uZ () () ?_);refine f9 (λhc=>?_) (λhc=>?_)
   .exact aJ #[rfl,rfl,q1,by grind,q2,.inr (bg hc)]
   .exact aJ #[rfl,rfl,by omega,q2.more () λz=>hc (az z)]
  grind
 let N0:Nr st st lo (lo+ik):=#[hk,hf,rfl,oj _,λy y=>rfl]
 refine aC (wpS_mono (asc st 1 N0 (av _) h1 (SB.one _ _) _ rfl) ?_);rintro⟨c1,n⟩ gn ⟨rfl,rfl,zG,nV,hs,II⟩;dsimp only at zG nV hs II ⊢;refine f9 (λhe=>aJ (h n gn N0 zG nV hs)) (λhe=>?_);let hnn:n<ik:=by grind
 let eE:K (arrOf gn) (lo+n)<K (arrOf gn) (lo+n-1):=II.resolve_left ();refine f9 (λhg=>?_) (λhg=>?_);refine aC (wI hk h0 () () ?_);refine f9 (λhc=>aJ (h n gn N0 zG nV hs)) (λhc=>?_);let hc:=ig.mp λz=>hc (az z);let mF:∀k,lo<=k->k<lo+n->K (arrOf gn) k=K (arrOf gn) (lo+n-1):=by
  intro k mQ lJ;let a1:=hs lo k (av _) mQ lJ;let a2:=hs k (lo+n-1) mQ () ();omega
 refine aC (wpS_reverse ?_);let hN:=N0.zw (i:=lo) (j:=lo+n) (av _) () ();let hD:ND (arrOf (setArr gn (mirror (arrOf gn) lo (lo+n) ((lo+n-lo) / 2)))) lo (n+1):=by
  refine ND.more (x:=n) (ND.same (xs:=arrOf gn) (λi j a b c=>?_) λk=>kq () mF k) () ?_
  .rw[mF i a (),mF j () c];exact gH _
  .rw[kq () mF,kq () mF];exact cH eE
 rotate_left
 let CP:n=1:=by omega
 subst CP;let hN:=N0;let hD:ND (arrOf gn) lo (1+1):=ND.more (x:=1) (λi j a b c=>by grind) ∅ (cH eE)
 all_goals
  refine aC (qV (fb #[rfl,?_]));refine aC (wpS_mono (ei (I:=λx (c:Option (Option Nat) × Nat × Nat) bp=>c.1=none/\c.2.1=x/\Nr gn bp lo (lo + ik)/\ND (arrOf bp) lo x/\c.2.2 + 1 <= x/\∀ i,lo + x - (c.2.2 + 1) <= i->i < lo + x->K (arrOf bp) i=K (arrOf bp) (lo + x - 1))
   (Q:=λc bp=>c.1=none/\1<=c.2.1/\c.2.1<=ik/\Nr gn bp lo (lo+ik)/\ND (arrOf bp) lo c.2.1/\c.2.2+1<=c.2.1/\∀i,lo+c.2.1-(c.2.2+1)<=i->i<lo+c.2.1->K (arrOf bp) i=K (arrOf bp) (lo+c.2.1-1)) ?_ ?_
   #[rfl,rfl,hN,hD,by dsimp only;omega,λi a b=>by dsimp only at a;congr 1;omega]) ?_)
  .rintro x ⟨c1,c2,q⟩ bp uS Iv ⟨rfl,rfl,mT,jt,hq,lW⟩;dsimp only at uS Iv jt hq lW ⊢;let hsz:(arrOf bp).size=(arrOf gn).size:=mT.pm.size_eq;let uZ:∀p∈(arrOf bp).toList,IK p:=λp hp=>h0 p ((cq.mp mT.pm).mem_iff.mp hp);refine aC (wI mT.kd uZ (by rw[hsz];omega) (by rw[hsz];omega) ?_);refine f9 (λhc=>?_) (λhc=>?_)
   .let hm:=jt.more () (cH (bg hc));refine f9 (λhg=>?_) (λhg=>?_)
    .exact aC (wpS_reverse (aJ #[rfl,rfl,mT.zw () () (by rw[hsz];omega),hm.same λk=>kq (by rw[hsz];omega) lW k,by dsimp only;omega,λi a b=>by dsimp only at a;congr 1;omega]))
    .exact aJ #[rfl,rfl,mT,hm,by dsimp only;omega,λi a b=>by dsimp only at a;congr 1;omega]
   .let hc:=ig.mp λz=>hc (az z);refine aC (wI mT.kd uZ (by rw[hsz];omega) (by rw[hsz];omega) ?_);refine f9 (λhd=>aJ #[rfl,by dsimp only;omega,by dsimp only;omega,mT,jt,hq,lW]) (λhd=>?_);let hd:=ig.mp λz=>hd (az z);refine aJ #[rfl,rfl,mT,jt.more () hd,by dsimp only;omega,λi a b=>?_];rw[show lo+(c2+1)-1=lo+c2 by omega];by_cases e:i=lo+c2
    .rw[e]
    .rw[lW i (by dsimp only at a;omega) ()];omega
  .rintro⟨c1,c2,q⟩ bp ⟨rfl,e2,mT,jt,hq,lW⟩;dsimp only at e2;let e3:c2=ik:=by omega
   rw[<- e2] at jt hq lW;exact#[rfl,by dsimp only;omega,by dsimp only;omega,mT,jt,hq,lW]
  .rintro⟨c1,n,q⟩ bp ⟨rfl,tm,IM,mT,jt,hq,lW⟩;dsimp only at tm IM jt hq lW ⊢;let hsz:(arrOf bp).size=(arrOf gn).size:=mT.pm.size_eq;refine f9 (λhg=>aC (wpS_reverse ?_)) (λhg=>?_);let rH:=mT.zw (i:=lo+n-(q+1)) (j:=lo+n) () () (by rw[hsz];omega);let gZ:ND (arrOf (setArr bp (mirror (arrOf bp) (lo+n-(q+1)) (lo+n) ((lo+n-(lo+n-(q+1))) / 2)))) lo n:=jt.same λk=>kq (by rw[hsz];omega) lW k;generalize setArr bp (mirror (arrOf bp) (lo+n-(q+1)) (lo+n) ((lo+n-(lo+n-(q+1))) / 2))=kG at rH gZ ⊢
   rotate_left
   let rH:=mT;let gZ:=jt
   all_goals
    let hsz2:=rH.pm.size_eq;refine aC (wpS_reverse ?_);let uU:=rH.zw (i:=lo) (j:=lo+n) (av _) () ();refine aC (wpS_mono (asc _ n uU tm IM (λi j a b c=>?_) _ rfl) ?_)
    .change K (mirror _ lo (lo+n) _) i<=K (mirror _ lo (lo+n) _) j;rw[K_mirror (),K_mirror (),aI (),aI ()];exact gZ _ _ () () ()
    .rintro⟨c1,m⟩ st4 ⟨rfl,rfl,q1,q2,q3,_⟩;exact aJ (h m _ uU q1 q2 q3)
end
abbrev Ch(l:@&Keyed):@&(Nat×Nat×Nat)->Nat->Nat->Prop
 |[],a,b=>a=b
 |(s,n,_)::r,a,b=>s=a/\0<n/\(seg l a n).Pairwise le/\Ch l r (a+n) b
def Ch.le{l:@&Keyed}:∀{p:@&(Nat×Nat×Nat)} {a b:Nat},Ch l p a b->a+-p<=b
 |[],a,b,h=>fV h
 |(s,n,w)::r,a,b,⟨_,h1,_,h2⟩=>by have:=Ch.le h2;simp only[List.length_cons];omega
def Ch.congr{l l':@&Keyed}:∀{p:@&(Nat×Nat×Nat)} {a b:Nat},Ch l p a b->(∀k,a<=k->k<b->l'[k]?=l[k]?)->Ch l' p a b
 |[],a,b,h,_=>h
 |(s,n,w)::r,a,b,#[h0,h1,h2,h3],hc=>by
  have:=Ch.le h3;exact#[h0,h1,by rw[Fx λk a b=>hc k a ()];exact h2,Ch.congr h3 λk a b=>hc k () b]
def Ch.push{l:@&Keyed}{n w:Nat}:∀{p:@&(Nat×Nat×Nat)} {a b:Nat},Ch l p a b->0<n->(seg l b n).Pairwise TS.le->Ch l (p++[(b,n,w)]) a (b+n)
 |[],a,b,h,h1,h2=>by cases h;exact#[rfl,h1,h2,rfl]
 |(s,m,v)::r,a,b,#[g0,g1,g2,g3],h1,h2=>#[g0,g1,g2,Ch.push g3 h1 h2]
def Ch.pow{l:@&Keyed}{f:Nat×Nat×Nat->Nat×Nat×Nat}(hf:∀x,(f x).1=x.1/\(f x).2.1=x.2.1):∀{p:@&(Nat×Nat×Nat)} {a b i:Nat},Ch l p a b->Ch l (p.modify i f) a b
 |[],a,b,i,h=>by simpa using h
 |(s,m,v)::r,a,b,0,⟨g0,g1,g2,g3⟩=>by
  obtain⟨x,y⟩:∃z,f (s,m,v)=(s,m,z):=#[(f (s,m,v)).2.2,BE (hf _).1 (BE (hf _).2 rfl)]
  rw[List.modify_zero_cons,y];exact#[g0,g1,g2,g3]
 |(s,m,v)::r,a,b,i+1,⟨g0,g1,g2,g3⟩=>by exact#[g0,g1,g2,Ch.pow hf g3]
def Ch.merge{l:@&Keyed}{b sa na pw sb nb uC:Nat}:∀{i:Nat} {p:@&(Nat×Nat×Nat)} {a:Nat},Ch l p a b->p[i]?=!(sa,na,pw)->p[i+1]?=!(sb,nb,uC)->a<=sa/\sb=sa+na/\0<na/\0<nb/\sb+nb<=b/\(seg l sa na).Pairwise TS.le/\(seg l sb nb).Pairwise TS.le /\
  ∀m,(-m)=na+nb->m.Pairwise TS.le->b<=-l->Ch (put l sa m) ((p.set i (sa,na+nb,pw)).eraseIdx (i+1)) a b
 |0,(s,n,w)::(s',n',w')::r,a,#[g0,g1,g2,g3,g4,g5,g6],e1,e2=>by
  simp only[List.getElem?_cons_zero,List.getElem?_cons_succ,Nat.zero_add,Option.some.injEq,Prod.mk.injEq] at e1 e2;let#[rfl,rfl,rfl]:=e1;let#[rfl,rfl,rfl]:=e2;subst g0;have:=Ch.le g6;subst g3;refine#[av _,rfl,g1,g4,by omega,g2,g5,λm hm hs hb=>?_];let hl:s+-m<=-l:=by omega
  refine#[rfl,by omega,by rw[<- hm,VG hl];exact hs,?_];rw[<- Nat.add_assoc];exact Ch.congr g6 λk h1 h2=>by rw[P6 hl,aE ()]
 |i+1,(s,n,w)::r,a,#[g0,g1,g2,g3],e1,e2=>by
  let#[h1,h2,h3,h4,h5,h6,h7,h8]:=Ch.merge g3 e1 e2;refine#[by omega,h2,h3,h4,h5,h6,h7,λm hm hs hb=>?_];refine#[g0,g1,?_,h8 m hm hs hb];rw[Fx (l:=l) (l':=put l sa m) λk h1 h2=>by rw[P6 (),aE ()]];exact g2
def SB.seg{xs:Array Keyed}{lo n:Nat}(hn:lo+n<=xs.size)(h:SB xs lo n):(seg xs.toList lo n).Pairwise le:=by
 rw[cS];intro i j hi hj iV;rw[C6 (by simpa using hn)] at hi hj;have:=h (lo+i) (lo+j) () () ();rw[K_eq (),K_eq ()] at this;simpa[TS.seg] using this
section
variable{prog:Program}{w:World}{A:Around}{E:Value->Shared->Prop}{s:Shared}
structure Go(a₀:Array Keyed)(st:SortSt)(lo:Nat):Prop where
 kd:kindOf st=oneType'
 fl:failedOf st=none
 pm:(arrOf st).Perm a₀
 ch:Ch (arrOf st).toList (pendingOf st).toList 0 lo
def NJ{a₀:Array Keyed}{st:SortSt}{lo i:Nat}{Q:Bool->SortSt->Prop}(h0:∀p∈a₀.toList,IK p)(hG:Go a₀ st lo)(xg:lo<=a₀.size)(hi:i+1<(pendingOf st).size)(h:∀bp,Go a₀ bp lo->(pendingOf bp).size+1=(pendingOf st).size->(∀k,lo<=k->(arrOf bp).toList[k]?=(arrOf st).toList[k]?)->Q true bp):wpS (model prog w) A E s (Ii i) Q st:=by
 obtain⟨sa,na,pw,e1⟩:∃sa na pw,(pendingOf st)[i]?=!(sa,na,pw):=#[_,_,_,cG _ i ()]
 obtain⟨sb,nb,uC,e2⟩:∃sb nb uC,(pendingOf st)[i+1]?=!(sb,nb,uC):=#[_,_,_,cG _ (i+1) hi]
 let#[g1,g2,g3,g4,g5,g6,g7,g8]:=hG.ch.merge (i:=i) (by simpa using e1) (by simpa using e2);let hsz:=hG.pm.size_eq;let hl:(arrOf st).toList.length=a₀.size:=by simpa using hsz
 refine bE5 hG.kd hG.fl (λp hp=>h0 p ((cq.mp hG.pm).mem_iff.mp hp)) e1 e2 g2 () g3 g4 g6 g7 λbp m m1 m2 m3 m4 m5 m6 m7=>h bp #[m4,m5,?_,?_] ?_ ?_
 .refine Array.Perm.trans (cq.mpr ?_) hG.pm;rw[m6];exact Xw (by rw[m1];exact m3)
 .simp_all
 .rw[m7,<- cC,Array.toList_eraseIdxIfInBounds,List.length_eraseIdx,Array.toList_setIfInBounds,List.length_set,cC,aI hi];omega
 .intro k hk;rw[m6,P6 (),aE ()]
def QF{c:Prop}[Decidable c]{n:Nat}(h:1<n):(if c then n-2-1 else n-2)+1<n:=by split<;>omega
def Go.near{a₀:Array Keyed}{st bp:SortSt}{lo hi:Nat}(h:Go a₀ st lo)(hN:Nr st bp lo hi):Go a₀ bp lo :=
 #[hN.kd,hN.fl,hN.pm.trans h.pm,by rw[hN.pd];exact h.ch.congr λk x hk=>by rw[eW,eW];exact hN.out k (.inl hk)]
def VL{a₀:Array Keyed}{st:SortSt}{Q:Unit->SortSt->Prop}(h0:∀p∈a₀.toList,IK p)(hG:Go a₀ st 0)(h2:0<a₀.size)(h:∀bp,(arrOf bp).Perm a₀->failedOf bp=none->(arrOf bp).toList.Pairwise le->Q Unit.unit bp):wpS (model prog w) A E s sortRuns' Q st:=by
 refine aC (nH ?_);let hsz:∀bp lo,Go a₀ bp lo->(arrOf bp).size=a₀.size:=λbp lo h=>h.pm.size_eq;let e0:=hsz st 0 hG;refine aC (wpS_mono (ei (I:=λx (c:Option Unit × Nat) bp=>c.1=none/\Go a₀ bp c.2/\c.2 <= a₀.size/\x <= c.2)
  (Q:=λc bp=>c.1=none/\Go a₀ bp a₀.size) ?_ ?_ #[rfl,hG,cc _,cc _]) ?_)
 .rintro x ⟨c1,lo⟩ gn _ hx ⟨rfl,ql,xg,hxl⟩;rw[e0];refine f9 (λlV=>aJ #[rfl,?_]) (λlV=>?_)
  .grind
  let z1:=hsz gn lo ql;let i1:∀p∈(arrOf gn).toList,IK p:=λp hp=>h0 p ((cq.mp ql.pm).mem_iff.mp hp);refine aC (Tw ql.kd ql.fl i1 () (by grind) λm gL hN zH uL hs=>?_);dsimp only at hN uL hs ⊢;let z2:(arrOf gL).size=a₀.size:=hN.pm.size_eq.trans z1;let i2:∀p∈(arrOf gL).toList,IK p:=λp hp=>i1 p ((cq.mp hN.pm).mem_iff.mp hp);let fin:∀kG n,Go a₀ kG lo->0<n->lo+n<=a₀.size->(seg (arrOf kG).toList lo n).Pairwise le->(λc bp=>c.1=none/\Go a₀ bp c.2/\c.2<=a₀.size/\x+1<=c.2:Option Unit×Nat->SortSt->Prop) (none,lo+n) (setPending kG ((pendingOf kG).push (lo,n,0))):=by
   intro kG n hG h1 h2 h3;refine#[rfl,#[hG.kd,hG.fl,hG.pm,?_],h2,by grind];rw[dQ];exact hG.ch.push h1 h3
  refine f9 (λhc=>?_) (λhc=>?_);refine aC (qV (fb #[rfl,?_]));refine aC (bH7 hN.kd hN.fl i2 () () hs λkG uU IC=>?_);let hc:m<minRun' a₀.size a₀.size 0:=hc;let tm:lo+min (a₀.size-lo) (minRun' a₀.size a₀.size 0)<=a₀.size:=by omega
  let hq:=IC.seg (by rw[uU.pm.size_eq,z2];exact tm);let CQ:0<min (a₀.size-lo) (minRun' a₀.size a₀.size 0):=by omega
  let zY:=(ql.near hN).near uU;clear uU IC hN hs i2 z2;change Go a₀ kG lo at zY
  rotate_left
  let CQ:0<m:=zH;let zY:=ql.near hN;let tm:lo+m<=a₀.size:=by omega
  let hq:=hs.seg ();clear hN hs i2 z2;generalize gL=kG at *
  all_goals
   refine aC (nH ?_);cases hb:(pendingOf kG).back? with
   |none=>exact aC (nG (aJ (fin kG _ zY CQ tm hq)))
   |some q =>
    let#[s1,n1,p1]:=q;refine aC (wpS_mono (ei (I:=λ_ (c:Option Unit × Unit) bp=>c=(none,Unit.unit)/\Go a₀ bp lo/\∀ k,lo <= k->(arrOf bp).toList[k]?=(arrOf kG).toList[k]?)
     (Q:=λc bp=>c=(none,Unit.unit)/\Go a₀ bp lo/\∀ k,lo <= k->(arrOf bp).toList[k]?=(arrOf kG).toList[k]?) ?_ (λv v z=>z) #[rfl,zY,λv v=>rfl]) ?_)
    .rintro y c bp _ _ ⟨rfl,lY,jQ⟩;refine aC (nH ?_);by_cases hp:(pendingOf bp).size>1
     .rw[aI hp,cG (pendingOf bp) ((pendingOf bp).size-2) ()];exact f9 (λv=>aJ #[rfl,lY,jQ]) λv=>aC (NJ h0 lY xg (show(pendingOf bp).size-2+1<(pendingOf bp).size by omega) λpV g1 g2 g3=>aJ #[rfl,g1,λk hk=>(g3 k hk).trans (jQ k hk)])
     .rw[aE hp];exact aJ #[rfl,lY,jQ]
    .rintro c bp ⟨rfl,lY,jQ⟩;refine aC (nG (aC (nG (aJ (fin (setPending bp ((pendingOf bp).modify ((pendingOf bp).size-1) _)) _ #[lY.kd,lY.fl,lY.pm,?_] CQ tm ?_)))))
     .change Ch _ ((pendingOf bp).modify _ _).toList 0 lo;rw[Array.toList_modify];refine Ch.pow ?_ lY.ch;exact λx=>#[rfl,rfl]
     .show(seg (arrOf bp).toList lo _).Pairwise le;rw[Fx λk h1 v=>jQ k h1];exact hq
 .grind
 .rintro⟨c1,lo⟩ gn ⟨rfl,ql⟩;rw[e0];refine aC (wpS_mono (ei (I:=λx (c:Option Unit × Unit) bp=>c=(none,Unit.unit)/\Go a₀ bp a₀.size/\(pendingOf bp).size <= max 1 (a₀.size - x))
   (Q:=λc bp=>c=(none,Unit.unit)/\Go a₀ bp a₀.size/\(pendingOf bp).size <= 1) ?_ ?_ #[rfl,ql,?_]) ?_)
  .rintro y c bp _ hy ⟨rfl,lY,jQ⟩;refine aC (nH ?_);refine f9 (λhp=>aJ #[rfl,lY,hp]) λhp=>?_;let hp:1<(pendingOf bp).size:=Nat.lt_of_not_le hp;refine aC (NJ h0 lY (av _) ?_ λpV g1 g2 g3=>aJ #[rfl,g1,by omega]);exact QF hp
  .simp
  .have:=ql.ch.le
   grind
  .rintro c bp ⟨rfl,lY,jQ⟩;refine aJ (h bp lY.pm lY.fl ?_);let hc:=lY.ch
   match hp:(pendingOf bp).toList with
   |[]=>rw[hp] at hc;exact absurd (show 0=a₀.size from hc) ()
   |[(s1,n1,w1)] =>
    rw[hp] at hc;let#[q1,q2,q3,q4]:=hc;let q4:0+n1=a₀.size:=q4;let e:seg (arrOf bp).toList 0 n1=(arrOf bp).toList:=by
     have:=lY.pm.size_eq;unfold seg;rw[List.drop_zero,bS (by simp;omega)]
    simp_all
   |_::_::_ =>
    have:(pendingOf bp).toList.length<=1:=by simpa using jQ
    rw[hp] at this;simp at this
def Oi{a:Addr}{vs:@&Value}{ns:@&Int}{n:Nat}{P:Fin->Shared->Prop}(ho:s.heap.get? a=!(seqObj "list" vs.toArray n))(hI:IntsAre vs ns)(hl:-vs<=100000)(h:∀(out:Array Value) (lD:@&Int),IntsAre out.toList lD->lD.Perm ns->lD.Pairwise (·<=·)->P (.done (.ret .none)) { s with heap:=sortedHeap s.heap a vs out }):wpAny (model prog w) A (Builtin.«list.sort» #[[.ref a],[]]) P E s:=by
 by_cases zZ:-vs<64
 .exact list_sort_tree ho hI zZ h
 rw[list_sort_plain];let ha:=aB ho;refine aa (listItems_at ho rfl (aa (listUpdate_at ho rfl ?_)));let rD:=get?_update_seq ho (λz=>(List.toArray []));refine aa (seqEpoch_at rD rfl (aa (wpAny_newTuple (aa (Pn (bO ?_))))));let IJ:(((s.heap.update a (Obj.mapSeq λz=>(List.toArray []))).push (seqObj "tuple" vs.toArray 0)).push (seqObj "list" (List.toArray []) 0)).get? a=!(seqObj "list" (List.toArray []) (if((λz=>(List.toArray [])) vs.toArray:Array Value).size==vs.toArray.size then n else n+1)):=by
  rw[Heap.get?_push_ne _ _ _ (by rw[size_push',Heap.size_update];exact aO (iG ha)),Heap.get?_push_ne _ _ _ (by rw[Heap.size_update];exact aO ha)];exact rD
 obtain⟨v1,v2,r,rfl⟩:∃v1 v2 r,vs=v1::v2::r:=by
  match vs,zZ with
  |[],h=>simp at h
  |[_],h=>simp at h
  |x::y::r,_=>exact#[x,y,r,rfl]
 rw[keyKind_ints hI];refine aa (au (aa (bJ (VL (a₀:=pairsOf (v1::v2::r)) (Q:=λz bp=>(arrOf bp).Perm (pairsOf (v1::v2::r))/\failedOf bp=none/\(arrOf bp).toList.Pairwise le) hI.intKeys #[rfl,rfl,oj _,rfl] (by rw[pairsOf_size];simp) λbp a1 a2 a3=>#[a1,a2,a3]) ?_ λz z e=>e)));rintro⟨⟨⟩,bp⟩ s' ⟨rfl,hp,hf,hs⟩;refine aa (seqEpoch_at IJ rfl (aa (listUpdate_at IJ rfl ?_ (hsz2:=?_))))
 .rw[hf];simp only[bne_self_eq_false,Bool.false_eq_true,if_false];let#[lD,q1,q2,q3]:=sorted_out hI hp λi j iV hj=>by
   let e:=hp.size_eq;rw[K_eq (),K_eq ()];exact yu hs () iV
  exact au (h _ lD q1 q2 q3)
 .rw[Array.size_map,hp.size_eq,pairsOf_size,uq];omega
end
end TS
namespace L2
open PySem PySem.Spec PyProof.Rows
variable{A:Around}{s:Shared}{elt iter tg:Expr}{ifs:@&Expr}{scope:Scope}{pos:Pos}{X:Cx}{x:Str}{cl:@&(Str×Addr)}{C:Addr}{N':@&Str}{d8:@&Nat}{fp:@&Addr}{g:TG}{tc:TT}{te:TE}
section
variable{prog:Program}{w:World}{R:Result->Shared->Prop}
def aK1{target:Expr}{it acc:Value}{env:Env}(I:Nat->Shared->Prop)(turn:∀ n s,I n s->wpAny (model prog w) A (pyNext it) (λr bT=>match r with
   |none=>R (.ok .next) bT
   | some v=>wpAny (model prog w) A (letOwnedTupleGo target it v) (λy bT=>wpAny (model prog w) A (assign target env v) (λ_ gB =>
     wpAny (model prog w) A (forIn ifs true λc r=>if r=true then do let ok <- isTrue c env (eval c env);pure (ForInStep.yield ok) else pure (ForInStep.yield r)) (λok gh =>
      if ok=true then wpAny (model prog w) A (eval elt env) (λx jb =>
       wpAny (model prog w) A (call (.builtin "list.append") [acc,x]) (λy jJ=>∃ m,m < n/\I m jJ) (λy y=>False) jb) (notedBy (model prog w) A env λe s'=>R (.error e) s') gh
      else ∃ m,m < n/\I m gh) (λy y=>False) gB) (λy y=>False) bT) (λy y=>False) bT) (λy y=>False) s)(n:Nat)(h:I n s) :
  codeAny (model prog w) A (.compLoop (.ListComp elt [#[target,iter,ifs,0]] scope pos) 0 it acc env) R s:=by
 refine codeAny_loop rfl I (λn s hI=>?_) n h;change wpAny _ A ((compTurn (.ListComp elt [#[target,iter,ifs,0]] scope pos) 0 it acc env).onRaise (λx=>do noteFrame x env;theTreesLotGoes x)) _ _ s;refine wpAny_noted ?_;rw[compTurn_list];refine aa (fS (aa (bJ (turn n s hI) (λr bT et=>?_) λy y h'=>h'.elim)));cases r with
 |none=>exact au et
 |some v =>
  refine aa (bJ et (λy bT et=>?_) λy y h'=>h'.elim);refine aa (bJ et (λy gB jN=>aa (bJ jN (λok gh oz=>?_) λy y h'=>h'.elim)) λy y h'=>h'.elim);cases ok with
  |false=>exact wpAny_pure #[rfl,oz]
  |true =>
   exact aa (aa (bJ oz (λx jb sZ=>aa (bJ sZ (λy jJ sY=>au (au #[rfl,sY])) λy y h'=>h'.elim)) λy y h'=>h'))
end
abbrev mJ(X:Cx)(es:@&Expr)(t:TT):Prop :=
 ∀(pi:@&(Addr×Obj)) (s:Shared) (U:St) (H:Hp) (Q:Bool->Hp->Prop),Inv X pi U H s->t U H Q ->
  wpAny (model X.prog X.w) X.A (forIn es true λc r=>if r=true then do let ok <- isTrue c X.env (eval c X.env);pure (ForInStep.yield ok) else pure (ForInStep.yield r)) (TP X pi U Q) X.xe s
abbrev Zf:TT:=λx H Q=>Q true H
def VE:mJ X [] Zf:=λpi s U H Q I h=>au #[H,I,h]
def VF{c:Expr}{t:TT}(h:PT X c t):mJ X [c] t:=by
 intro pi s U H Q I q;exact aa (aa (bJ (h pi s U H Q I q) (λb s' hb=>au (au hb)) λy y x=>x))
abbrev F0(scope:Scope)(cl:@&(Str×Addr))(C:Addr):@&(Str×Addr):=cellsFrom (C+1) scope.names []++cl
def I9:∀(names:@&(Str×NameKind)) (n:Nat) (acc:@&(Str×Addr)),cellsFrom n names acc=cellsFrom n names []++acc
 |[],_,_=>rfl
 |(y,k)::r,n,acc=>by
  unfold cellsFrom;split
  .rw[I9 r (n+1) ((y,n)::acc),I9 r (n+1) [(y,n)],bW]
   rfl
  .exact I9 r n acc
def X3{x:Str}{c:Addr}:∀{names:@&(Str×NameKind)} {n:Nat},(x,c)∈cellsFrom n names []->(x,NameKind.cell)∈names
 |[],_,h=>by simp[cellsFrom] at h
 |(y,k)::r,n,h=>by
  unfold cellsFrom at h;split at h
  .rw[I9] at h;rcases aV.mp h with z|z
   .exact bI _ (X3 z)
   grind
  .exact bI _ (X3 h)
def O0{α:Type}:∀{a b:@&(Str×α)},(a++b).lookup x=(a.lookup x).or (b.lookup x)
 |[],_=>rfl
 |(y,v)::r,b=>by
  grind
def Ld(h:scope.names.lookup x=!.cell\/∃c,cl.lookup x=!c):∃c,(F0 scope cl C).lookup x=!c:=by
 unfold F0;rw[O0];cases e:(cellsFrom (C+1) scope.names []).lookup x with
 |some c=>exact#[c,rfl]
 |none =>
  rcases h with h|h
  .let q:=eP scope.names (C+1) [] (.inl h);rw[e] at q;cases q
  .exact h
def P0{env:Env}:∀{names:@&(Str×NameKind)} {x:Str},names.lookup x=!.cell ->
  (names.map λ(n,k)=>if(k==NameKind.free&&env.scope.kind==.function&&env.kindOf n==!.cell) then(n,NameKind.cell) else(n,k)).lookup x=!.cell
 |[],_,h=>by simp at h
 |(n,k)::r,x,h=>by
  let ih:=@P0 env r x;change List.lookup x ((if(k==NameKind.free&&env.scope.kind==.function&&env.kindOf n==!.cell)=true then(n,NameKind.cell) else(n,k))::_)=_;cases hx:x==n with
  |true =>
   simp only[List.lookup_cons,hx] at h
   simp_all
  |false =>
   simp only[List.lookup_cons,hx] at h;by_cases hc:(k==NameKind.free&&env.scope.kind==.function&&env.kindOf n==!.cell)=true
   .rw[aI hc];simp only[List.lookup_cons,hx];exact ih h
   .rw[aE hc];simp only[List.lookup_cons,hx];exact ih h
def NT{h:Heap}(ck:CellsOk h (C+1) (cellsFrom (C+1) scope.names [])){c:Addr}(e:(F0 scope cl C).lookup x=!c):C<c\/cl.lookup x=!c:=by
 unfold F0 at e;rw[O0] at e;cases e2:(cellsFrom (C+1) scope.names []).lookup x with
 |some c' =>
  rw[e2] at e;cases e;exact .inl (ck.empty x c (aX e2)).2
 |none =>
  rw[e2] at e;exact .inr e
def ML{M:Model}{E:Value->Shared->Prop}{globals:Addr}{qual:Str}{outer:Env}{Q:Env->Shared->Prop}(hQ:∀ et:Heap,et.Ns s⁻¹ (λx=>none)->(∀ b o,s.heap.get? b=!o->et.get? b=!o)->CellsOk et (s⁻¹ + 1) (cellsFrom (s⁻¹ + 1) scope.names []) ->
   Q (newEnv scope s⁻¹ globals (F0 scope cl s⁻¹) qual none .none (!outer) builtinsNs) { s with heap:=et }) :
  wpAny M A (newFunctionEnv scope globals cl [] qual none .none (!outer)) Q E s:=by
 simp only[newFunctionEnv,Option.isSome_some,if_true];refine aa (wpAny_alloc ?_);refine aa (wpAny_layCells _ (λname kind cells=>by rfl) _ _ _ _ ?_);let ok:=cellsFrom_ok scope.names (s.heap.push { cls:=.type "dict",data:=.dict (List.toArray []) }) (s⁻¹+1) [] #[λx x hm=>(nomatch hm),List.Pairwise.nil] #[_];rw[fC] at ok;rw[show({ s with heap:=s.heap.push { cls:=.type "dict",data:=.dict (List.toArray []) } }:Shared).heap.objs.size=s⁻¹+1 from fC ..];refine aa (au (au ?_));rw[I9];exact hQ _ ((Heap.Ns.new s.heap (.type "dict")).keeps (pushCells_keeps _ _)) (λb o e=>pushCells_keeps _ _ b o (ao _ e)) ok
abbrev i6(X:Cx)(pi:@&(Addr×Obj))(scope:Scope)(N':@&Str)(cl:@&(Str×Addr))(C:Addr)(s:Shared)(H:Hp)(fp:@&Addr):Cx where
 prog:=X.prog
 w:=X.w
 K:=X.K
 mg:=X.mg
 base:=X.base
 A:=X.A
 N:=N'
 dS:=s
 ko:=H
 env:=compEnvC scope (F0 scope cl C) C X.env
 outer:=X.stack
 stack:=X.stack
 ex:=fp
 calm:=true
 fn:=λx=>decide (scope.names.lookup x=!.cell)
 pn:=X.pn++pi
 xe:=λy y=>False
structure dN(X:Cx)(scope:Scope)(N':@&Str)(d8:@&Nat)(cl:@&(Str×Addr)):Prop where
 kind:scope.kind=.function
 cells:∀y∈scope.names,y.2=.cell->scope.names.lookup y.1=!.cell
 names:∀y∈scope.names,y.2=.local->scope.names.lookup y.1=!.local
 tV:closureFor scope X.env=pure cl
 cin:∀x c,cl.lookup x=!c->X.env.cells.lookup x=!c
 yb:∀x,scope.names.lookup x=!.free->∃c,cl.lookup x=!c
 nd:N'.Nodup
 Tr:∀(i j:Nat),d8[i]?=!j->∃x,N'[i]?=!x/\X.N[j]?=!x/\scope.names.lookup x=!.free/\(X.env.kindOf x=!.cell\/X.env.kindOf x=!.free)
 Eh:-d8<=-N'
def J0{env:Env}:∀{names:@&(Str×NameKind)} {x:Str},names.lookup x=!.free ->
  (names.map λ(n,k)=>if(k==NameKind.free&&env.scope.kind==.function&&env.kindOf n==!.cell) then(n,NameKind.cell) else(n,k)).lookup x=!.cell \/
  (names.map λ(n,k)=>if(k==NameKind.free&&env.scope.kind==.function&&env.kindOf n==!.cell) then(n,NameKind.cell) else(n,k)).lookup x=!.free
 |[],_,h=>by simp at h
 |(n,k)::r,x,h=>by
  let ih:=@J0 env r x;change List.lookup x ((if(k==NameKind.free&&env.scope.kind==.function&&env.kindOf n==!.cell)=true then(n,NameKind.cell) else(n,k))::_)=_\/List.lookup x ((if(k==NameKind.free&&env.scope.kind==.function&&env.kindOf n==!.cell)=true then(n,NameKind.cell) else(n,k))::_)=_;cases hx:x==n with
  |true =>
   simp only[List.lookup_cons,hx] at h;cases h;by_cases hc:(NameKind.free==NameKind.free&&env.scope.kind==.function&&env.kindOf n==!.cell)=true
   .rw[aI hc];simp[List.lookup_cons,hx]
   .rw[aE hc];simp[List.lookup_cons,hx]
  |false =>
   simp only[List.lookup_cons,hx] at h;by_cases hc:(k==NameKind.free&&env.scope.kind==.function&&env.kindOf n==!.cell)=true
   .rw[aI hc];simp only[List.lookup_cons,hx];exact ih h
   .rw[aE hc];simp only[List.lookup_cons,hx];exact ih h
def P1{env:Env}:∀{names:@&(Str×NameKind)} {x:Str},((names.map λ(n,k)=>if(k==NameKind.free&&env.scope.kind==.function&&env.kindOf n==!.cell) then(n,NameKind.cell) else(n,k)).lookup x=!.cell \/
  (names.map λ(n,k)=>if (k == NameKind.free && env.scope.kind == .function && env.kindOf n == !.cell) then (n,NameKind.cell) else (n,k)).lookup x=!.free)->names.lookup x=!.free \/ names.lookup x=!.cell
 |[],_,h=>by simp at h
 |(n,k)::r,x,h=>by
  let ih:=@P1 env r x;rw[cZ] at h;cases hx:x==n with
  |true =>
   simp only[List.lookup_cons,hx];by_cases hc:(k==NameKind.free&&env.scope.kind==.function&&env.kindOf n==!.cell)=true
   .refine .inl ?_;simp only[Bool.and_eq_true,beq_iff_eq] at hc;rw[hc.1.1]
   .simp only[if_neg hc,List.lookup_cons,hx] at h;rcases h with h|h
    .exact .inr h
    .exact .inl h
  |false =>
   simp only[List.lookup_cons,hx];by_cases hc:(k==NameKind.free&&env.scope.kind==.function&&env.kindOf n==!.cell)=true
   .simp only[if_pos hc,List.lookup_cons,hx] at h;exact ih h
   .simp only[if_neg hc,List.lookup_cons,hx] at h;exact ih h
abbrev F1(U:St)(d8:@&Nat)(n:Nat):St:=d8.map (λj=>(U[j]?).join)++List.replicate (n- -d8) none
section
variable{pi:@&(Addr×Obj)}{U:St}{H:Hp}
def Inv.aX4{h1:Heap}{tk:Nat}(I:Inv X pi U H s)(S:dN X scope N' d8 cl)(hc:X.calm=true)(hf:∀b∈fp,J1 X pi H b)(ho:∀b∈fp,∃o,s.heap.get? b=!o)(hC:s⁻¹<=C)(hn:∃m,h1.Ns C m)(k:∀b o,s.heap.get? b=!o->h1.get? b=!o)(ck:CellsOk h1 (C+1) (cellsFrom (C+1) scope.names [])) :
  Inv (i6 X pi scope N' cl C s H fp) [] (F1 U d8 (-N')) H { s with heap:=h1,toks:=tk }:=by
 let#[m,hm]:=hn;let Rq:(relabel scope X.env).kind=.function:=S.kind;let HW:∀b o,s.heap.get? b=!o->b≠C:=λb o e z=>absurd (aB e) (by simp_all);let two:∀{x:Str} {c:Addr},(F0 scope cl C).lookup x=!c->(C<c/\h1.IsCell c none/\(x,c)∈cellsFrom (C+1) scope.names [])\/(cl.lookup x=!c/\(cellsFrom (C+1) scope.names []).lookup x=none):=λ{x c} h=>by
  unfold F0 at h;rw[O0] at h;cases e:(cellsFrom (C+1) scope.names []).lookup x with
  |some c' =>
   rw[e] at h;cases h;let hm:=aX e;exact .inl #[(ck.empty x c hm).2,(ck.empty x c hm).1,hm]
  |none =>
   rw[e] at h;exact .inr #[h,rfl]
 let wq:∀{x:Str} {c:Addr},cl.lookup x=!c->c<s⁻¹:=λ{x c} h=>by
  let#[v,o,e,_]:=I.cell x c (S.cin x c h);exact aB e
 let frees:∀{x:Str},scope.names.lookup x=!.free->(F0 scope cl C).lookup x=cl.lookup x:=λ{x} h=>by
  unfold F0;rw[O0];cases e:(cellsFrom (C+1) scope.names []).lookup x with
  |some c' =>
   have:=S.cells _ (X3 (aX e)) rfl
   simp_all
  |none=>rfl
 refine#[#[I.mod,Rq,I.ok.glob,I.ok.blt,hC,?_,?_,?_,λw=>I.ok.hd hc,I.ok.frames,.inl rfl,?_,I.bs,?_,?_,?_,I.stack,I.AK],rfl,I.bare,Un.kept k,#[m,hm,?_],?_,?_,?_,?_,I.cb.kept k,?_,λdE z=>absurd (show(none:Option (List (Option V)))=some dE from z) #[_]]
 .intro x y c h1 h2;rcases two h1 with⟨l1,_,q1⟩|⟨q1,_⟩<;>rcases two h2 with⟨l2,_,q2⟩|⟨q2,_⟩
  .exact PySem.name_of_addr ck.apart q1 q2
  .exact absurd (du l1 (aF (wq q2) hC)) (cw _)
  .exact absurd (du l2 (aF (wq q1) hC)) (cw _)
  .exact I.ok.inj x y c (S.cin x c q1) (S.cin y c q2)
 .intro x hx;rcases P1 (env:=X.env) (names:=scope.names) hx with z|z
  .let#[c,hc]:=S.yb x z;exact#[c,(frees z).trans hc]
  .let q:=eP scope.names (C+1) [] (.inl z);let#[c,hc]:=fB.mp q;refine#[c,?_];show(F0 scope cl C).lookup x=!c;unfold F0;rw[O0,hc]
   rfl
 .intro x c hf h;let z:scope.names.lookup x=!.cell:=bg hf;let q:=eP scope.names (C+1) [] (.inl z);rcases two h with⟨l,_⟩|⟨_,e⟩
  .exact fj (dC hC l)
  simp_all
 .intro b hb;let#[f0,f1,f2,f3,f4,f5]:=hf b hb;let#[o,e]:=ho b hb;refine#[HW b o e,λx c h=>?_];rcases two h with⟨l,_⟩|⟨q,_⟩
  .intro z;subst z;exact absurd (du l (aF (aB e) hC)) (cw _)
  .exact f4 x c (S.cin x c q)
 .exact aD I.ok.oW I.sz
 .intro b o e hb;let#[f0,f1,f2,f3,f4,f5]:=hf b hb;rcases f3 with f3|f3
  .exact I.ok.lE b o e f3
  .exact absurd (aB (I.ok.bs b o e).1) (Pt.mpr f3)
 .intro b hb z;let#[f0,f1,f2,f3,f4,f5]:=hf b hb;rcases aL.mp (I.V8 b z) with z|z
  .exact f1 z
  .exact f2 z
 .intro i x v DL h2 h3;let hi:i< -d8:=by
   unfold F1 at h2;by_cases hi:i< -d8
   .exact hi
   .rw[cO (by simpa using hi),eJ] at h2
    simp_all
  obtain⟨j,hj⟩:∃j,d8[i]?=!j:=#[_,ag hi]
  let hs:U[j]?=!!v:=by
   unfold F1 at h2;rw[aN (by simpa using hi),ai,hj] at h2;simp only[Option.map_some] at h2;cases e:U[j]? with
   |none=>rw[e] at h2;cases h2
   |some a=>rw[e] at h2;exact hV some (aS h2)
  let#[y,QM,QL,CA,QK]:=S.Tr i j hj;let ey:y=x:=by
   let xJ:N'[i]?=!x:=DL;rw[QM] at xJ;exact aS xJ
  subst ey;let#[m0,hm0,hl]:=I.loc;let ⟨u,ru,hu⟩:=hl j y v QL hs (by
   rcases QK with z|z
   .exact .inr (.inl z)
   .exact .inr (.inr z))
  refine#[u,ru,.inr #[J0 (env:=X.env) (names:=scope.names) CA,?_]];rcases hu with⟨z,_⟩|⟨_,c,tI,Jj⟩
  .simp_all
  .let#[c',jU]:=S.yb y CA;let e:=S.cin y c' jU;rw[tI] at e;cases e;let#[o,e1,e2]:=Jj;exact#[c,(frees CA).trans jU,o,k _ _ e1,e2]
 .intro x c h;rcases two h with⟨_,q,_⟩|⟨q,_⟩
  .exact#[none,q]
  .let#[v,o,e1,e2]:=I.cell x c (S.cin x c q);exact#[v,o,k _ _ e1,e2]
 .exact I.cb.fresh hC
 .intro x c h;rcases two h with⟨l,_⟩|⟨q,_⟩
  .exact I.cb.fresh (fj (dC hC l))
  .exact I.ft x c (S.cin x c q)
 .intro p hp;let iU:p∈X.pn++pi:=by simpa[i6] using hp
  let#[p1,p2,p3,p4,p5]:=I.pin p iU;refine#[k _ _ p1,p2,HW _ _ p1,λz=>?_,p5];rcases aL.mp (I.V8 _ z) with z|z
  .exact p3 z
  .exact p4 z
 .unfold F1;change _=-N';rw[bL,ak,zc];have:=S.Eh;omega
def Inv.WD{gC:@&(Addr×Obj)}{cA:St}{H':Hp}{s':Shared}(I:Inv X pi U H s)(hf:∀b∈fp,J1 X pi H b)(J:Inv (i6 X pi scope N' cl C s H fp) gC cA H' s'):Inv X pi U H' s' :=
 I.FU (ch:=fp) J.os J.base J.cb J.bare λb hb=>by
  let#[f0,f1,f2,f3,f4,f5]:=hf b hb;exact#[f3,f1,f4,f5]
def Inv.bJ1{D:Addr}{ys:@&V}{bA:@&Value}{n:Nat}(I:Inv X pi U H s)(f:J1 X pi H D)(hs:X.dS.heap.objs.size<=D)(hv:Vals ys bA)(hz:-ys<=sizeLine)(ho:s.heap.get? D=some { cls:=.type "list",data:=.seq bA.toArray n }):Inv X pi U (upd H D (.lst ys)) s:=by
 let#[f0,f1,f2,f3,f4,f5]:=f;let fQ:∀b o,X.dS.heap.get? b=!o->b≠D:=λb o e z=>absurd (aB e) (by rw[z];exact Pt.mpr hs);let tup:∀b u,H b=!u->upd H D (.lst ys) b=!u:=λb u e=>by rw[i7 (q9 e f0)];exact e
 refine#[I.ok,I.os,I.bare,#[?_,?_,?_,I.base.there,?_,?_,?_],I.loc,I.cell,?_,?_,?_,?_,I.len,I.sg]
 .exact λb o e n1 n2 n3=>I.base.keep b o e n1 n2 n3
 .exact λb o e n1 n2 n3=>I.base.slot b o e n1 n2 n3
 .exact λb o e n1 n2=>by rw[i7 (fQ b o e)];exact I.base.free b o e n1 n2
 .exact λb xs e=>tup _ _ (I.base.jk b xs e)
 .exact λb o u e=>tup _ _ (I.base.jd b o u e)
 .exact λb ps e=>by
   let#[more,q]:=I.base.jl b ps e;exact#[more,tup _ _ q]
 .rw[i7 f1.symm];exact I.free
 .exact λx c e=>by rw[i7 (f4 x c e)];exact I.ft x c e
 .intro p hp;let#[p1,p2,p3]:=I.pin p hp;exact#[p1,by rw[i7 (f5 p hp)];exact p2,p3]
 .intro a o e;by_cases ha:a=D
  .subst ha;rw[x5] at e;cases e;exact#[hz,bA,n,hv,ho]
  .rw[i7 ha] at e;let q:=I.cb a o e;refine q.K0 (λb u y h=>h) (λb hb=>tup _ _ hb) (λb xs hb=>tup _ _ hb)
end
abbrev Gk(wi:TI)(d8:@&Nat)(n:Nat)(g:TG)(tc:TT)(te:TE):TE:=λU H Q=>wi U H λJ H1=>∃W:Nat->Nat->@&V->St->Hp->Prop,(∃m,W 0 m [] (F1 U d8 n) H1)/\∀i m ys U H,W i m ys U H ->
 (J.stop i H/\∀p,H p=none->Q (.ref p) (upd H p (.lst ys))) \/
 (J.go i H/\-ys < sizeLine/\∀ x H',J.rf i H x H'->g x U H' λcQ H2=>tc cQ H2 λb H3 =>
  if b=true then te cQ H3 λy H4=>∃ m',m' < m/\W (i + 1) m' (ys ++ [y]) cQ H4 else ∃ m',m' < m/\W (i + 1) m' ys cQ H3)
noncomputable abbrev Yy(bA:@&Value)(n:Nat):Obj:={ cls:=.type "list",data:=.seq bA.toArray n }
section
variable{pi:@&(Addr×Obj)}{U:St}{H:Hp}
structure Hj(X:Cx)(n0:Nat){α:Type}(K:Addr->α->Heap->Obj->Prop)(fin:Addr->α->HO):Prop where
 nc:∀{a y h o},K a y h o->∀v,o.data≠.cell v
 get:∀{a y h o},K a y h o->h.get? a=!o
 K0:∀{a y h h' o},K a y h o->h'.get? a=!o->K a y h' o
 done:∀{pi U H s a y o},n0<=a->Inv X pi U H s->J1 X pi H a->X.dS.heap.objs.size<=a->K a y s.heap o->Inv X pi U (upd H a (fin a y)) s
def Ox{α:Type}{K:Addr->α->Heap->Obj->Prop}{fin:Addr->α->HO}{y0:α}{o0:Obj}{Bd:α->Prop}{tb:α->St->Hp->(α->Hp->Prop)->Prop}{body:(Shared->Prop)->Shared->Prop}{LP:Shared->Prop}{it:Addr}{tn:Nat->Heap->Prop}{J:It}{R:Result->Shared->Prop}{W:Nat->Nat->α->St->Hp->Prop}{m0:Nat}{Q:VK}{et:Heap}{env:Env}(G:Hj X s⁻¹ K fin)(S:dN X scope N' d8 cl)(hc:X.calm=true)(hg:PG (i6 X pi scope N' cl C s H fp) tg g)(ht:mJ (i6 X pi scope N' cl C s H fp) ifs tc)(I:Inv X pi U H s)(T:Turn X.prog X.w X.K tg J fp it tn)(st:tn 0 s.heap)(hf:∀b∈fp,J1 X pi H b)(w0:W 0 m0 y0 (F1 U d8 (-N')) H)(turn:∀ i m y U H,W i m y U H->(J.stop i H/\∀ p,H p=none->Q (.ref p) (upd H p (fin p y))) \/
   (J.go i H/\Bd y/\∀ x H',J.rf i H x H'->g x U H' λcQ H2=>tc cQ H2 λb H3 =>
    if b=true then tb y cQ H3 λy' H4=>∃ m',m' < m/\W (i + 1) m' y' cQ H4 else ∃ m',m' < m/\W (i + 1) m' y cQ H3))(xD:∀s' H' m,Inv X pi U H' s'->Q (.ref s⁻¹) H'->s'.heap.Ns C m->H' C=none->s⁻¹<=C->R (.ok .next) s')(qf:∃m,et.Ns C m)(uJ:∀b o,(s.heap.push o0).get? b=!o->et.get? b=!o)(qk:CellsOk et (C+1) (cellsFrom (C+1) scope.names []))(eC:s⁻¹+1=C)(k0:K s⁻¹ y0 et o0)(ev:(i6 X pi scope N' cl C s H fp).env=env)(Dm:∀ y o gC cA H' s' (P:α->Hp->Prop) (R':Shared->Prop),Bd y->K s⁻¹ y s'.heap o->(∀ {ze H8 s8},Inv (i6 X pi scope N' cl C s H fp) gC ze H8 s8->s8.heap.get? s⁻¹=!o)->Inv (i6 X pi scope N' cl C s H fp) gC cA H' s'->tb y cA H' P ->
   (∀ s8 H8 y' h' t' o',Inv (i6 X pi scope N' cl C s H fp) gC cA H8 s8->P y' H8->(∀ b u,b ≠ s⁻¹->s8.heap.get? b=!u->h'.get? b=!u)->K s⁻¹ y' h' o'->R' { s8 with heap:=h',toks:=t' })->body R' s')(lp:∀ (I:Nat->Shared->Prop),(∀ n s,I n s->wpAny (model X.prog X.w) X.A (pyNext (.ref it)) (λr bT=>match r with
   |none=>R (.ok .next) bT
   | some v=>wpAny (model X.prog X.w) X.A (letOwnedTupleGo tg (.ref it) v) (λt bT=>wpAny (model X.prog X.w) X.A (assign tg env v) (λ_ gB =>
     wpAny (model X.prog X.w) X.A (forIn ifs true λc r=>if r=true then do let ok <- isTrue c env (eval c env);pure (ForInStep.yield ok) else pure (ForInStep.yield r)) (λok gh =>
      if ok=true then body (λjJ=>∃ m,m < n/\I m jJ) gh else ∃ m,m < n/\I m gh) (λt t=>False) gB) (λt t=>False) bT) (λt t=>False) bT) (λt t=>False) s)->∀ n,I n { s with heap:=et }->LP { s with heap:=et }) :
  tn 0 et/\LP { s with heap:=et }:=by
 subst ev;generalize RU:s.heap.push o0=H2 at uJ;generalize eD:s⁻¹=D at *;let Jt:D≠C:=by omega
 let lt:∀b o,s.heap.get? b=!o->b<D:=λb o e=>by rw[<- eD];exact aB e
 let zx:D<=C:=by omega
 let uD:∀b o,s.heap.get? b=!o->b≠C:=λb o e=>aO (aF (lt b o e) zx);let wB:∀b o,s.heap.get? b=!o->b≠D:=λb o e=>aO (lt b o e);let old:∀b o,s.heap.get? b=!o->et.get? b=!o:=λb o e=>uJ b o (RU▸ao _ e);let mE:∀b∈fp,∃o,s.heap.get? b=!o:=λb hb=>by
  let#[o,e,_]:=T.obj _ _ st b hb;exact#[o,e]
 let Js:D∉fp:=λhm=>by
  let#[o,e]:=mE D hm;exact wB D o e rfl
 let X1:Inv (i6 X pi scope N' cl C s H fp) [] (F1 U d8 (-N')) H { s with heap:=et } :=
  I.aX4 S hc hf mE (by rw[eD];omega) qf old qk
 let gn:tn 0 et:=T.keep _ _ _ st λb t o e=>old b o e;let SM:∀{H':Hp},(∀b∈fp,H' b=none)->∀b∈fp,J1 (i6 X pi scope N' cl C s H fp) [] H' b:=λhn b hb=>by
  let#[f0,f1,f2,f3,f4,f5]:=hf b hb;let#[o,e]:=mE b hb;refine#[hn b hb,?_,?_,.inl hb,λx c q=>(NT qk q).elim (λl z=>absurd (du (z▸l) (aF (lt b o e) zx)) (cw _)) λq=>f4 x c (S.cin x c q),λp hp=>?_]
  .exact uD b o e
  .exact λz=>by
    rcases aL.mp (I.V8 b z) with z|z
    .exact f1 z
    .exact f2 z
  .let iU:p∈X.pn++pi:=by simpa[i6] using hp
   exact f5 p iU
 let fD:∀{H':Hp},H' D=none->J1 (i6 X pi scope N' cl C s H fp) [] H' D:=λhn=>by
  refine#[hn,Jt,λz=>?_,.inr (by change s⁻¹<=D;omega),λx c q=>?_,λp hp=>?_]
  .exact absurd (I.Ew (a:=D) ()) λrE=>by
    rcases aL.mp (I.V8 D z) with z|z
    .exact absurd I.lt (by rw[<- z,eD];exact cw _)
    .exact rE z
  .rcases NT qk q with l|q
   .exact λz=>absurd (aF (z▸l) zx) (cw _)
   .let#[v,o,e,_]:=I.cell x c (S.cin x c q);exact wB c o e
  .let iU:p∈X.pn++pi:=by simpa[i6] using hp
   exact wB _ _ (I.pin p iU).1
 refine#[gn,lp (λn s'=>∃(i:Nat) (y:α) (cA:St) (H':Hp) (o:Obj),Inv (i6 X pi scope N' cl C s H fp) [] cA H' s'/\tn i s'.heap/\(∀b∈fp,H' b=none)/\H' D=none/\K D y s'.heap o/\W i n y cA H') ?_ m0 #[0,y0,_,H,o0,X1,gn,λb hb=>(hf b hb).1,I.cb.fresh (),k0,w0]];rintro n s3 ⟨i,y,jy,H3,o,I3,kG,xN,d3,k3,w3⟩;let Pe:Inv (i6 X pi scope N' cl C s H fp) [(D,o)] jy H3 s3:=I3.yA λp hp=>by
  let z:p=(D,o):=by simpa using hp
  subst z;let#[f0,f1,f2,_]:=fD d3;exact#[G.get k3,f0,f1,f2,G.nc k3]
 let vb:∀{H':Hp},(∀b∈fp,H' b=none)->∀b∈fp,J1 (i6 X pi scope N' cl C s H fp) [(D,o)] H' b:=λ{H'} hn b hb=>by
  let#[f0,f1,f2,f3,f4,f5]:=SM hn b hb;refine#[f0,f1,f2,f3,f4,λp hp=>?_];let iU:p∈(i6 X pi scope N' cl C s H fp).pn\/p=(D,o):=by simpa using hp
  rcases iU with z|z
  .exact f5 p (bC _ z)
  .subst z;exact λz=>Js (by rw[show D=b from z];exact hb)
 rcases turn i n y jy H3 w3 with⟨stop,q⟩|⟨go,hz,step⟩
 .refine dj (T.done (i6 X pi scope N' cl C s H fp) rfl rfl rfl rfl i _ s3 _ H3 _ Pe (vb xN) kG stop) ?_;rintro r s4 ⟨hr,I4⟩;subst hr;let J4:Inv X pi U H3 s4:=I.WD hf I4;let SN:J1 X pi H3 D:=by
   refine#[d3,cz (by rw[<- eD];exact I.lt),I.Ew (),.inr (by have:=I.sz;omega),λx c q=>?_,λp hp=>?_]
   .let#[v,o,e,_]:=I.cell x c q;exact wB c o e
   .exact wB _ _ (I.pin p hp).1
  let#[mC,Rn,_]:=I4.loc;exact xD s4 _ mC (G.done (av _) J4 SN (by have:=I.sz;omega) (G.K0 k3 (I4.pin (D,o) #[_]).1)) (q D d3) Rn (by rw[i7 Jt.symm];exact I4.free) zx
 .refine dj (T.item (i6 X pi scope N' cl C s H fp) rfl rfl rfl rfl i _ s3 _ H3 _ Pe (vb xN) kG go) ?_;rintro r s4 ⟨u,hr,h4⟩;subst hr;refine dj h4 λt s5 bH=>?_;let#[x,H5,I5,r5,y5,pV,DS]:=bH;let Hi:=I5.pinned (vb DS) (T.obj _ _ pV);refine dj (hg _ s5 _ H5 x u _ Hi r5 (step x H5 y5)) λt s6 bH=>?_;let#[sC,H6,I6,q6]:=bH;refine dj (ht _ s6 sC H6 _ I6 q6) ?_;rintro ok s7 ⟨H7,I7,q7⟩;let back:∀{ze:St} {H8:Hp} {s8:Shared},Inv (i6 X pi scope N' cl C s H fp) ([(D,o)]++yp fp s5.heap) ze H8 s8->(∀b∈fp,H8 b=none)/\tn (i+1) s8.heap/\H8 D=none/\s8.heap.get? D=!o :=
   λ{ze H8 s8} I8=>by
    let pf:∀b∈fp,∀o,s5.heap.get? b=!o->s8.heap.get? b=!o/\H8 b=none:=λb hb o e=>by
     have:=I8.pin (b,o) (bf _ (bf _ (FI hb e)));exact#[this.1,this.2.1]
    let pd:=I8.pin (D,o) #[_];refine#[λb hb=>?_,T.keep _ _ _ pV λb hb o e=>(pf b hb o e).1,pd.2.1,pd.1];let#[o,e,_]:=T.obj _ _ pV b hb;exact(pf b hb o e).2
  cases ok with
  |false =>
   let#[m',hm,w7]:=q7;let#[b1,b2,b3,b4]:=back I7;exact#[m',hm,i+1,y,sC,H7,o,I7.yA λp hp=>absurd hp #[_],b2,b1,b3,G.K0 k3 b4,w7]
  |true =>
   refine Dm y o _ sC H7 s7 _ _ hz (G.K0 k3 (back I7).2.2.2) (λI8=>(back I8).2.2.2) I7 q7 ?_;rintro s8 H8 y' h' t' o' I8 ⟨m',hm,w8⟩ kp k8;let#[b1,b2,b3,b4]:=back I8;let I8':Inv (i6 X pi scope N' cl C s H fp) [] sC H8 s8:=I8.yA λp hp=>absurd hp #[_];let#[f0,f1,f2,f3,f4,f5]:=fD (H':=H8) b3;exact#[m',hm,i+1,y',sC,H8,o',I8'.turned (it:=D) (t':=t') (λb o hb e=>kp b o hb e) f0 f1 f3 f4 f5,T.keep _ _ _ b2 λb hb o e=>kp b o (λz=>Js (by rw[<- z];exact hb)) e,b1,b3,k8,w8]
abbrev KL(a:Addr)(ys:@&V)(h:Heap)(o:Obj):Prop:=∃bA n,Vals ys bA/\-ys<=sizeLine/\o=Yy bA n/\h.get? a=!o
def WL{n0:Nat}:Hj X n0 KL λx ys=>.lst ys where
 nc:=λ⟨_,_,_,_,e,_⟩ v z=>by subst e;cases z
 get:=λ⟨_,_,_,_,_,e⟩=>e
 K0:=λ⟨bA,n,h1,h2,h3,_⟩ e=>#[bA,n,h1,h2,h3,e]
 done:=λ_ I f hs ⟨bA,n,h1,h2,h3,e⟩=>I.bJ1 f hs h1 h2 (h3▸e)
def LD{it:Addr}{tn:Nat->Heap->Prop}{J:It}{xx:Addr->Shared->Hp->Value->Shared->Prop}{RR:Value->Addr->Result->Shared->Prop}{E:Value->Shared->Prop}{W:Nat->Nat->@&V->St->Hp->Prop}{m0:Nat}{Q:VK}(S:dN X scope N' d8 cl)(hc:X.calm=true)(hg:∀C s H,PG (i6 X pi scope N' cl C s H fp) tg g)(ht:∀C s H,mJ (i6 X pi scope N' cl C s H fp) ifs tc)(he:∀C s H,PE ((i6 X pi scope N' cl C s H fp).qR (xx C s H)) elt te)(I:Inv X pi U H s)(T:Turn X.prog X.w X.K tg J fp it tn)(st:tn 0 s.heap)(hf:∀b∈fp,J1 X pi H b)(w0:W 0 m0 [] (F1 U d8 (-N')) H)(turn:∀ i m ys U H,W i m ys U H->(J.stop i H/\∀ p,H p=none->Q (.ref p) (upd H p (.lst ys))) \/
   (J.go i H/\-ys < sizeLine/\∀ x H',J.rf i H x H'->g x U H' λcQ H2=>tc cQ H2 λb H3 =>
    if b=true then te cQ H3 λy H4=>∃ m',m' < m/\W (i + 1) m' (ys ++ [y]) cQ H4 else ∃ m',m' < m/\W (i + 1) m' ys cQ H3))(xD:∀D C s' H' m,Inv X pi U H' s'->Q (.ref D) H'->s'.heap.Ns C m->H' C=none->s⁻¹<=C->RR (.ref D) C (.ok .next) s')(RS:∀D C e s',s⁻¹<=C->xx C s H e s'->notedBy (model X.prog X.w) X.A (compEnvC scope (F0 scope cl C) C X.env) (λe s'=>RR (.ref D) C (.error e) s') e s') :
  wpAny (model X.prog X.w) X.A (newList []) (λacc gh=>wpAny (model X.prog X.w) X.A (newFunctionEnv scope X.env.globals cl [] X.env.qual none .none (!X.env)) (λnD jb =>
   nD.frame=X.env.frame/\codeAny (model X.prog X.w) X.A (.compStart (.ListComp elt [#[tg,iter,ifs,0]] scope pos) 0 (.ref it) acc { nD with scope:=relabel scope X.env }) (RR acc nD.locals) jb) E gh) E s:=by
 refine eF (ML λet jO iD qk=>?_);dsimp only at jO iD qk ⊢;let eC:(s.heap.push { cls:=.type "list",dict:=none,data:=.seq ([]:@&Value).toArray }).objs.size=s⁻¹+1:=fC ..
 replace eC:=eC.symm
 generalize (s.heap.push { cls:=.type "list",dict:=none,data:=.seq ([]:@&Value).toArray }).objs.size=C at *;refine (λL=>#[rfl,codeAny_compStart_list L.2 (T.self _ 0 _ _ _ L.1 L.2)]) (Ox (R:=RR (.ref s⁻¹) C) (LP:=codeAny (model X.prog X.w) X.A (.compLoop (.ListComp elt [#[tg,iter,ifs,0]] scope pos) 0 (.ref it) (.ref s⁻¹) (compEnvC scope (F0 scope cl C) C X.env)) (RR (.ref s⁻¹) C)) (tb:=λys U H P=>te U H λy H'=>P (ys ++ [y]) H') (env:=compEnvC scope (F0 scope cl C) C X.env)
  (body:=λP gh=>wpAny (model X.prog X.w) X.A (eval elt (compEnvC scope (F0 scope cl C) C X.env)) (λx jb=>wpAny (model X.prog X.w) X.A (call (.builtin "list.append") [.ref s⁻¹,x]) (λz jJ=>P jJ) (λz z=>False) jb) (notedBy (model X.prog X.w) X.A (compEnvC scope (F0 scope cl C) C X.env) λe s'=>RR (.ref s⁻¹) C (.error e) s') gh)
  WL S hc (hg C s H) (ht C s H) I T st hf w0 turn (λs' H' m=>xD _ C s' H' m) #[_,jO] iD qk eC #[[],0,.nil,cc _,rfl,iD _ _ (aG _ rfl)] rfl (λys o gC cA H' s' P R' hz k hb I' q hR=>?_) (λI turn n h=>aK1 I turn n h))
 .refine bJ (he C s H _ s' cA H' _ (I'.qR _) q) (λxv s8 bH=>?_) λe s' hx=>RS _ C e s' () hx;let#[y,H8,I8,r8,q8]:=bH;let I8:=I8.GW;let#[bA,nn,v3,z3,rfl,_]:=k;let b4:=hb I8;refine og F.slot_list_append #[_,b4,rfl] F.entry_list_append (F.args_list_append_2 _ _) (PySem.list_append _ bA.toArray nn xv (by rw[aY];have:=-v3;omega)) #[b4,?_];let q0:=PySem.IsL.update b4 (·.push xv);rw[show bA.toArray.push xv=(bA++[xv]).toArray by simp] at q0;exact hR s8 H8 _ _ s8.toks _ I8 q8 (λb' u hb hu=>(dF s8.heap (Obj.mapSeq (·.push xv)) (cy hb)).trans hu) #[_,_,v3.append (.cons r8 .nil),by rw[bL,zb];omega,rfl,q0]
def Inv.Kp{h':Heap}{s2:Shared}{H2:Hp}(I:Inv X pi U H s)(hC:s2⁻¹<=C)(I2:Inv X pi U H2 s2)(hn:H C=none)(sb:Heap.SameBut C s.heap h'):Inv X pi U H { s with heap:=h' }:=by
 let f:=I2.rY (b:=C) (H':=H) hC hn;let#[f0,f1,f2,f3,f4,f5]:=f;exact I.turned (t':=s.toks) (λb o hb e=>sb.extBut b o hb e) f0 f1 f3 f4 f5
def LJ{M:Model}{E:Value->Shared->Prop}{a:Sem Value}{b:Sem Env}{P:Env->Prop}{Q:Value->Env->Shared->Prop}(h:wpAny M A a (λx s1=>wpAny M A b (λy s2=>P y/\Q x y s2) E s1) E s):wpAny M A a (λx s1=>wpAny M A b (λy s2=>Q x y s2) E s1) E s :=
 bJ h (λw w h=>bJ h (λw w h=>h.2) λw w z=>z) λw w z=>z
def Nq{wi:TI}(S:dN X scope N' d8 cl)(hc:X.calm=true)(hi:PI X tg iter wi)(hg:∀pi C s H fp,PG (i6 X pi scope N' cl C s H fp) tg g)(ht:∀pi C s H fp,mJ (i6 X pi scope N' cl C s H fp) ifs tc)(he:∀pi C s H fp,PE (i6 X pi scope N' cl C s H fp) elt te)(hs:∀x,foldedSetIterable iter X.env x=pure x):PE X (.ListComp elt [#[tg,iter,ifs,0]] scope pos) (Gk wi d8 (-N') g tc te):=by
 intro pi s U H Q I h;refine jE (use:=none) rfl hs S.tV S.kind S.names (dj (hi pi s U H _ I h) λxv bT et=>dj et λwW gB jN=>?_);let#[it,fp,tn,J,H2,e,I2,T,gL,f2,W,#[m0,w0],turn]:=jN;subst e;refine LJ (LD (xx:=λy y y y y=>False) (RR:=λacc C=>compPost (model X.prog X.w) X.A X.xe none (EP X pi U Q) acc C) S hc (λC s H=>hg pi C s H fp) (λC s H=>ht pi C s H fp) (λC s H=>he pi C s H fp) I2 T gL f2 w0 turn ?_ λy y y y y z=>z.elim);intro D C s' H' m I' q hn hC hsz;exact#[m,hn,λh' sb=>#[.ref D,H',I'.Kp hsz I2 hC sb,rfl,q]]
def aM2{vZ px:Pos}{wi:TI}{i:Nat}(S:dN X scope N' d8 cl)(hc:X.calm=true)(hi:PI X tg iter wi)(hg:∀pi C s H fp,PG (i6 X pi scope N' cl C s H fp) tg g)(ht:∀pi C s H fp,mJ (i6 X pi scope N' cl C s H fp) ifs tc)(he:∀pi C s H fp,PE (i6 X pi scope N' cl C s H fp) elt te)(hs:∀x,foldedSetIterable iter X.env x=pure x)(hN:X.Nd)(tE:X.N[i]?=!x)(hx:Loc X.env.scope x)(hf:X.fn x=true\/X.env.scope.names.lookup x=!.local) :
  PS X (.Assign [.Name x px] (.ListComp elt [#[tg,iter,ifs,0]] scope pos) vZ) (yI (Gk wi d8 (-N') g tc te) (vw i)):=by
 intro pi s U H D I h;let zC:∃b,swapsWith (.ListComp elt [#[tg,iter,ifs,0]] scope pos) (!.Name x px) vZ.line X.env=pure b:=#[_,rfl]
 let#[b,zC]:=zC;cases b with
 |false=>exact OS hN tE hx (Nq S hc hi hg ht he hs) zC hf pi s U H D I h
 |true =>
  rw[exec_Assign_Name_used _ _ _ _ zC];refine aa (fS (aa ?_));refine aa (bJ (jE (use:=!assign (.Name x px) X.env) (Q:=λy s'=>SP X pi D .next s') rfl hs S.tV S.kind S.names
   (dj (hi pi s U H _ I h) λxv bT et=>dj et λwW gB jN=>?_)) (λy s' hq=>au (au hq)) λy y e=>e)
  let#[it,fp,tn,J,H2,e,I2,T,gL,f2,W,#[m0,w0],turn]:=jN;subst e;refine LJ (LD (xx:=λy y y y y=>False) (Q:=λv H1=>vw i v U H1 D.nx) (RR:=λacc C=>compPost (model X.prog X.w) X.A X.xe (!assign (.Name x px) X.env) (λy s'=>SP X pi D .next s') acc C) S hc (λC s H=>hg pi C s H fp) (λC s H=>ht pi C s H fp) (λC s H=>he pi C s H fp) I2 T gL f2 w0 turn ?_ λy y y y y z=>z.elim);intro Dl C s' H' m I' q hn hC hsz;refine wpAny_assign_Name (Lx I' hN tE hx (v:=.ref Dl) rfl (?_) hf);rintro s3 I3 ⟨a,sb,ha⟩;let RX:C≠a:=by
   let#[f0,f1,f2,f3,f4,f5]:=I2.rY (b:=C) (H':=H') hsz hC;rcases ha with z|z
   .rw[z];exact f1
   .exact λz'=>f4 _ _ z z'.symm
  let#[f0,f1,f2,f3,f4,f5]:=I2.rY (b:=C) (H':=H') hsz hC;refine#[m,hn.sameBut sb RX,λh3 Qh=>#[_,H',I3.turned (t':=s3.toks) (λb o hb e=>Qh.extBut b o hb e) f0 f1 f3 f4 f5,q]]
end
end L2
namespace HT
open PySem PyProof.Rows
section
variable{prog:Program}{w:World}{A:Around}{E:Value->Shared->Prop}{s:Shared}
def ag8{t sl:Addr}{items:Array Value}{vl vu:Value}{lo hi:Option Int}{Q:Value->Shared->Prop}(ht:IsTup s.heap t items)(hs:s.heap.IsSliceOf sl vl vu .none)(pl:IsPart vl lo)(pu:IsPart vu hi)(hw:fe items.size 0 lo=0/\fe items.size items.size hi=items.size)(h:Q (.ref t) s):wpAny (model prog w) A (getItem (.ref t) (.ref sl)) Q E s:=by
 let#[os,tj,zN,xq]:=id hs;let Dn:s.TypeIs (.ref sl) "slice":=#[os,tj,zN]
 unfold getItem
 try with_reducible refine bO ?_
 refine aa (wpAny_sequenceKey ht.typeIs ∅ ?_);refine aa (gs (name:=Str.ofString "__getitem__") ht.typeIs bZ
  (de bZ ht.typeIs entry_tuple_getitem ?_ (args_tuple_getitem _ _)))
 change wpAny _ _ (Builtin.Tuple.tupleItemsOf (.ref t) >>= _) _ _ s;refine aa (tupleItemsOf_ ht ?_);refine aa (eZ Dn ?_);refine aa (V9 hs pl pu ?_);let Cz:((((fe items.size 0 lo:Nat):Int)==0&&(1:Int)==1&&(fe items.size items.size hi-fe items.size 0 lo)==items.size)=true):=by
  simp_all
 change wpAny _ _ (if(((fe items.size 0 lo:Nat):Int)==0&&(1:Int)==1&&(fe items.size items.size hi-fe items.size 0 lo)==items.size)=true then _ else _) _ _ s;rw[aI Cz];refine aa (aa (eZ ht.typeIs (au ?_)))
 first
  |exact wpAny_bind (wpAny_rule (wpAny_bind (wpAny_pure #[_,rfl,wpAny_pure h])))
  |exact wpAny_bind (wpAny_rule (wpAny_pure #[_,rfl,wpAny_pure h]))
  |exact wpAny_bind (wpAny_rule (wpAny_bind (wpAny_pure (wpAny_pure #[_,rfl,wpAny_pure h]))))
end
end HT
namespace L2
open PySem PySem.Spec PyProof.Rows
section
variable{X:Cx}
abbrev bL0(K:PySem.W.Frag):V->Option Int->Option Int->Hp->VK->Prop:=λx lo hi H Q=>∃a xs,x=.ref a/\kl K H a xs /\
 (X0 xs lo hi=xs->Q (.ref a) H)/\∀p,H p=none->Q (.ref p) (upd H p (.tup (X0 xs lo hi)))
def Wb:yN X (bL0 X.K):=by
 intro pi s U H x v vl vu lo hi sl Q I rx hs pl pu h;let#[a,xs,rfl,hx,q0,q]:=h;by_cases hw:HT.fe (-xs) 0 lo=0/\HT.fe (-xs) (-xs) hi=-xs
 .cases rx;let#[bA,r,ht,hz]:=I.tuple hx;let hlen:bA.toArray.size=-xs:=by exact r.length.symm
  refine#["tuple",_,bZ.lookup,ht.typeIs,?_];exact HT.ag8 ht hs pl pu (by rw[hlen];exact hw) #[.ref a,H,I,rfl,q0 (by unfold X0;simp_all)]
 .exact TX pi s U H _ v vl vu lo hi sl Q I rx hs pl pu #[a,xs,rfl,hx,hw,q]
def aN1:o8 X (.builtin "isinstance") (λxs H Q=>∃x t c b,xs=[x,.ty c]/\iS X.K H x t/\PySem.W.kitOne X.K t (.type c)=!b/\Q (.bl b) H):=by
 intro pi s U H xs us Q I r h;let#[x,t,c,b,rfl,hT,hk,q]:=h;let#[u,w',rfl,ru,gR]:=vals2 r;cases (show w'=Value.type c from gR);exact a50 I ru hT hk λtk=>#[.bl b,H,I.tok tk,rfl,q]
def a72(hc:X.calm=true):o8 X (.builtin "all") (λxs H Q=>∃(a:Addr) (bs:@&Bool),xs=[.ref a]/\gE X.K H a (bs.map V.bl)/\Q (.bl (bs.all id)) H):=by
 intro pi s U H xs us Q I r h;let#[a,bs,rfl,ha,q]:=h;let#[u,rfl,ru]:=vals1 r;cases ru;let#[bA,rv,p,hz]:=I.list ha;refine call_all_walk ?_;refine gF p.isList ?_;let fQ:a≠s⁻¹:=by
  let#[o,e,_]:=id p.isList;exact aO (aB e)
 let hl:=-rv;rw[ak] at hl;refine#[s⁻¹,_,_,_,_,_,λi=>bs.getD i true,rfl,BD (A:=X.A.in1) (I.ok.hd hc) _ a fQ bA.toArray,#[#[_,aG _ rfl,rfl,rfl],?_],?_,λh' tk k=>?_]
 .let#[o,e,q1]:=id p.isList;exact#[o,ao _ e,q1]
 .intro i v s' Q' E' hP hQ;let hv:bA[i]?=!v:=by simpa using hP
  let hi:i< -bs:=by rw[hl];exact(aw.mp hv).1
  let#[u',wY,Ca]:=rv.get (i:=i) (x:=V.bl bs[i]) (by rw[ai,ag hi];rfl);rw[hv] at wY;cases wY;cases (show v=Value.bool bs[i] from Ca);refine cT ?_;have:bs.getD i true=bs[i]:=by simp[List.getD,hi]
  dsimp only at hQ;rw[this] at hQ;exact hQ
 .let e1:(List.range bA.toArray.size).all (λi=>bs.getD i true)=bs.all id:=by
   rw[aY,<- hl];rw[aW];simp only[List.all_eq_true,List.mem_range,id];constructor
   .intro hh x hx;let#[i,hi,rfl]:=br.mp hx;have:=hh i hi;simpa[List.getD,hi] using this
   .intro hh i hi;have:=hh bs[i] (cK hi);simpa[List.getD,hi] using this
  rw[e1];exact #[.bl (bs.all id),H,I.kept (t':=tk) λb o e=>k b o (by
   intro hb;have:b=s⁻¹:=by simpa using hb
   exact absurd (aB e) (by rw [this];exact cw _)) (ao _ e),rfl,q]
end
end L2
namespace HT
open PySem PyProof.Rows
end HT
namespace L2
open PySem PySem.Spec PyProof.Rows
variable{X:Cx}{pos p:Pos}{w:World}{H H':Hp}{U:St}{s s':Shared}{B:Heap}{ea C:Addr}{a0:Value}{ta:TA}
def u4.get{P:Program}{h:Heap}{a:Addr}:∀{o:HO},u4 P w H h a o->∃ob,h.get? a=!ob
 |.lst _,x=>by let#[_,_,_,_,e]:=x;exact#[_,e]
 |.tup _,x=>by let#[_,_,_,o,e,_]:=x;exact#[o,e]
 |.dK _,x=>by let#[_,_,_,_,o,es,ep,e,_]:=x;exact#[o,e]
 |.dT _,x=>by let#[_,_,_,_,o,es,ep,e,_]:=x;exact#[o,e]
 |.set _ _,x=>by let#[o,es,ep,t,e,_]:=x;exact#[o,e]
 |.ins _ _ _,x=>by let#[_,_,_,e,_]:=x;exact#[_,e]
 |.own _,x=>x
 |.xd _,x=>by let#[mA,n,_]:=x;let#[od,e,_]:=Lm n;exact#[od,e]
 |.nS _ _,x=>by let#[_,_,_,e]:=x;exact#[_,e]
 |.kK _ _,x=>#[_,x.1]
 |.lq _,x=>#[_,x]
 |.met _ _,x=>#[_,x]
 |.ext _,x=>x.2.1
abbrev FL(H':Hp)(h0:Heap)(l:@&Env)(e:Value)(C:Addr)(h:Heap):Prop :=
 ∃(ea:Addr) (a0:Value) (B:Heap),e=.ref ea/\Heap.FlyingW B l ea (.ref C) a0 h/\∀b o,h.get? b=!o->b∉gN l->(H' b≠none\/∃o0,h0.get? b=!o0)->B.get? b=!o
abbrev jT(P:Program)(w:World):pb:=λouter H s E e s'=>∃(C:Addr) (H':Hp),s'.os=s.os/\AllBare s'.gens/\Un (gN outer) [] H H' s.heap s'.heap/\gU P w H' s'.heap/\FL H' s.heap outer e C s'.heap/\E (.ref C) none H'
section
variable{pi:@&(Addr×Obj)}{E:XK}{e:Value}
def Inv.flew(I:Inv X pi U H s)(h:jT X.prog X.w X.stack H s E e s'):∃C H',Inv X pi U H' s'/\FL H' s.heap X.stack e C s'.heap/\E (.ref C) none H':=by
 let#[C,H',ho,hb,hu,cb,fl,hE]:=h;exact#[C,H',I.FU (ch:=[]) ho hu cb hb #[_],fl,hE]
def AL(I:Inv X pi U H s){b:Addr}(hb:b∈gN X.stack):∃o,s.heap.get? b=!o/\∀vs,o.data≠.fields vs:=(I.stack.mem hb).2
def FX{pK:Heap}(I:Inv X pi U H s)(fh:X.stack=X.env::X.outer)(hex:X.ex=[])(hf:X.env.frame=!X.env.locals)(uF:∀b o,s.heap.get? b=!o->b∉gN X.stack->(H b≠none\/∃o0,X.dS.heap.get? b=!o0)->B.get? b=!o)(sl:∀b∈gN X.stack,∀o,s.heap.get? b=!o->∃sl,pK.get? b=some { o with slots:=sl })(fw:Heap.FlyingW B X.outer ea (.ref C) a0 pK)(hE:E (.ref C) none H):jT X.prog X.w X.outer X.ko X.dS E (.ref ea) { s with heap:=pK }:=by
 let CI:∀b,b∈gN X.outer->b∈gN X.stack:=λb hb=>by rw[fh];unfold gN at hb ⊢;rw[fm,hf];exact bI _ hb
 let wy:∀b o,X.dS.heap.get? b=!o->b∉gN X.outer->b∉gN X.stack:=λb o e hb z=>by
  rcases aL.mp (I.V8 b z) with z|z
  .exact absurd (aB e) (by rw[z];exact Pt.mpr I.ok.above)
  .exact hb z
 let pT:∀b u,H b=!u->b∉gN X.stack:=λb u e z=>by rw[I.AK b z] at e;cases e
 let kept:∀b o,s.heap.get? b=!o->b∉gN X.stack->(H b≠none\/∃o0,X.dS.heap.get? b=!o0)->pK.get? b=!o:=λb o e n q=>fw.1 b o (uF b o e n q);let wA:∀b,b∉X.ex:=λb=>by rw[hex];simp
 refine#[C,H,I.os,I.bare,#[?_,?_,?_,?_,I.base.jk,I.base.jd,I.base.jl],?_,#[ea,a0,B,rfl,fw,?_],hE]
 .exact λb o e n1 n2 x=>kept b o (I.base.keep b o e n1 n2 (wA b)) (wy b o e n2) (.inr #[o,e])
 .intro b o e n1 n2 _;let#[Qf,e1]:=I.base.slot b o e n1 n2 (wA b);let#[wg,e2]:=sl b (CI b n2) _ e1;exact#[wg,e2]
 .exact λb o e n1 x=>I.base.free b o e n1 (wA b)
 .intro b o e _;let#[o1,e1]:=I.base.there b o e (wA b);by_cases hb:b∈gN X.stack
  .let#[wg,e2]:=sl b hb _ e1;exact#[_,e2]
  .exact#[o1,kept b o1 e1 hb (.inr #[o,e])]
 .intro a o e;exact (I.cb a o e).K0 (λb u hb q=>by
   let lX:∃v,H b=!v:=by
    rcases hb with rfl|hb
    .exact#[o,e]
    .exact#[_,hb]
   let#[v,hv]:=lX;exact kept b u q (pT b v hv) (.inl (by rw [hv];simp))) (λb hb=>hb) (λb xs hb=>hb)
 .intro b o e n q;rcases q with q|⟨o0,q⟩
  .let#[v,hv]:=pQ.mp q;let#[o1,e1]:=(I.cb b v hv).get;let z:=uF b o1 e1 (pT b v hv) (.inl (by rw[hv];simp));let z':=fw.1 b o1 z;have:o=o1:=by
    let e':pK.get? b=!o:=e;rw[z'] at e';exact(aS e').symm
   subst this;exact z
  .let#[o1,e1]:=I.base.there b o0 q (wA b);let z:=uF b o1 e1 (wy b o0 q n) (.inr #[o0,q]);let z':=fw.1 b o1 z;have:o=o1:=by
    let e':pK.get? b=!o:=e;rw[z'] at e';exact(aS e').symm
   subst this;exact z
def aI6{h0:Heap}{Ex:Value->Shared->Prop}(I:Inv X pi U H s)(fl:FL H h0 X.stack e C s.heap)(Sw:∀b o,X.dS.heap.get? b=!o->∃o',h0.get? b=!o')(fh:X.stack=X.env::X.outer)(hex:X.ex=[])(hf:X.env.frame=!X.env.locals)(hE:E (.ref C) none H):wpAny (model X.prog X.w) X.A (leaving X.env e) (λx pW=>jT X.prog X.w X.outer X.ko X.dS E e pW) Ex s:=by
 let#[ea,a0,B,rfl,fw,hB]:=fl;rw[fh] at fw;refine wpAny_leaves_onW (by rw[I.ok.frames,fh]) hf fw λpK Ae us=>?_;refine FX I fh hex hf (λb o e n q=>hB b o e n (q.imp id (by rintro ⟨o0,q⟩;exact Sw b o0 q))) (λb hb o e=>?_) Ae hE;let#[o1,e1,nf]:=AL I hb;rw[e] at e1;cases e1;exact us b o e nf
def aW2{h':Heap}{vs:@&Value}{Ex:Value->Shared->Prop}(I:Inv X pi U H s)(hx:Heap.MadeExcOf s.heap h' ea (.ref C) vs)(fh:X.stack=X.env::X.outer)(hex:X.ex=[])(hf:X.env.frame=!X.env.locals)(hE:E (.ref C) none H):wpAny (model X.prog X.w) X.A (leaving X.env (.ref ea)) (λx pW=>jT X.prog X.w X.outer X.ko X.dS E (.ref ea) pW) Ex { s with heap:=h' }:=by
 let uO:=I.stack;rw[fh] at uO;let lU:∀env∈(X.env::X.outer),∀b,env.frame=!b->b∈gN X.stack:=λenv he b hb=>by rw[fh];exact kX.mpr #[env,he,hb]
 refine wpAny_leaves_madeW (s:={ s with heap:=h' }) (base:=PySem.W.hideAll s.heap (gN X.stack)) (h:=s.heap) (by rw[I.ok.frames,fh]) hf (λb o q=>Po _ q) (PySem.W.funFrames_hide uO lU) hx λpK t fw x x us=>?_;refine(show jT X.prog X.w X.outer X.ko X.dS E (.ref ea) { s with heap:=pK } from FX I fh hex hf (λb o e n x=>Hn _ e n) (λb hb o e=>?_) fw hE);let#[o1,e1,nf]:=AL I hb;rw[e] at e1;cases e1;exact us b o (hx.keeps b o e) nf
def a85{l:@&Env}{h0 h h1:Heap}{Pg:Program}(u:Un (gN l) [] H H' h0 h)(ok:gU Pg w H' h)(hB:∀b o,h.get? b=!o->b∉gN l->(H' b≠none\/∃o0,h0.get? b=!o0)->B.get? b=!o)(st:B.StaysIn h1)(us:h.UpToSlots h1)(Ja:∀b∈gN l,H' b=none/\∃o,h.get? b=!o/\∀vs,o.data≠.fields vs):Un (gN l) [] H H' h0 h1/\gU Pg w H' h1/\∀b o,h1.get? b=!o->b∉gN l->(H' b≠none\/∃o0,h0.get? b=!o0)->B.get? b=!o:=by
 let pT:∀b u,H' b=!u->b∉gN l:=λb u e z=>by rw[(Ja b z).1] at e;cases e
 let kept:∀b o,h.get? b=!o->b∉gN l->(H' b≠none\/∃o0,h0.get? b=!o0)->h1.get? b=!o:=λb o e n q=>st b o (hB b o e n q);let JA:∀b∈gN l,∀o,h.get? b=!o->∃sl,h1.get? b=some { o with slots:=sl }:=λb hb o e=>by
  let#[_,o1,e1,nf]:=Ja b hb;rw[e] at e1;cases e1;exact us b o e nf
 refine#[#[?_,?_,u.free,?_,u.jk,u.jd,u.jl],?_,?_]
 .exact λb o e n1 n2 n3=>kept b o (u.keep b o e n1 n2 n3) n2 (.inr #[o,e])
 .intro b o e n1 n2 n3;let#[Qf,e1]:=u.slot b o e n1 n2 n3;let#[wg,e2]:=JA b n2 _ e1;exact#[wg,e2]
 .intro b o e n;let#[o1,e1]:=u.there b o e n;by_cases hb:b∈gN l
  .let#[wg,e2]:=JA b hb _ e1;exact#[_,e2]
  .exact#[o1,kept b o1 e1 hb (.inr #[o,e])]
 .intro a o e;exact (ok a o e).K0 (λb u hb q=>by
   let lX:∃v,H' b=!v:=by
    rcases hb with rfl|hb
    .exact#[o,e]
    .exact#[_,hb]
   let#[v,hv]:=lX;exact kept b u q (pT b v hv) (.inl (by rw [hv];simp))) (λb hb=>hb) (λb xs hb=>hb)
 .intro b o e n q;have:∃o1,h.get? b=!o1:=by
   rcases q with q|⟨o0,q⟩
   .let#[v,hv]:=pQ.mp q;exact(ok b v hv).get
   .exact u.there b o0 q #[_]
  let#[o1,e1]:=this;let z:=hB b o1 e1 n q;rw[st b o1 z] at e;cases e;exact z
structure Lies(X:Cx)(H H':Hp)(s:Shared)(B:Heap)(ea C:Addr)(a0:Value)(s':Shared):Prop where
 os:s'.os=s.os
 bare:AllBare s'.gens
 un:Un (gN X.stack) [] H H' s.heap s'.heap
 cb:gU X.prog X.w H' s'.heap
 uF:∀b o,s'.heap.get? b=!o->b∉gN X.stack->(H' b≠none\/∃o0,s.heap.get? b=!o0)->B.get? b=!o
def Lies.inv(I:Inv X pi U H s)(l:Lies X H H' s B ea C a0 s'):Inv X pi U H' s':=I.FU (ch:=[]) l.os l.un l.cb l.bare #[_]
def leave_held{Ex:Value->Shared->Prop}(I:Inv X pi U H s)(l:Lies X H H' s B ea C a0 s')(hh:Heap.HeldW B X.stack ea (.ref C) a0 X.env.locals s'.heap)(fh:X.stack=X.env::X.outer)(hex:X.ex=[])(hf:X.env.frame=!X.env.locals)(hE:E (.ref C) none H'):wpAny (model X.prog X.w) X.A (leaving X.env (.ref ea)) (λx pW=>jT X.prog X.w X.outer X.ko X.dS E (.ref ea) pW) Ex s':=by
 let J:=l.inv I;let De:=hh;rw[fh] at De;refine aa (wpAny_noteFrame_againW hf De.2.2.2 ?_);refine wpAny_landsW De λpK fl us=>?_;let#[k1,k2,#[_,_,k3],k4]:=fl;refine FX J fh hex hf (λb o e n q=>l.uF b o e n (q.imp id (by rintro ⟨o0,q⟩;exact I.base.there b o0 q (by rw[hex];simp)))) (λb hb o e=>?_) #[k1,k2,k3,k4] hE;let#[o1,e1,nf]:=AL J hb;rw[e] at e1;cases e1;exact us b o e nf
abbrev AA(X:Cx)(Ξ:XK):Prop:=∀(pi:@&(Addr×Obj)) (U:St) (H:Hp) (s:Shared) (h':Heap) (ea C:Addr) (vs:@&Value),Inv X pi U H s->Heap.MadeExcOf s.heap h' ea (.ref C) vs->Ξ (.ref C) none H->X.xe (.ref ea) { s with heap:=h' }
abbrev yk(X:Cx)(Ξ:XK):Prop:=∀(pi:@&(Addr×Obj)) (U:St) (H H':Hp) (s s':Shared) (B:Heap) (ea C:Addr) (a0:Value),Inv X pi U H s->Lies X H H' s B ea C a0 s'->Heap.HeldW B X.stack ea (.ref C) a0 X.env.locals s'.heap->Ξ (.ref C) none H'->X.xe (.ref ea) s'
abbrev Um(C:Addr)(Ξ:XK)(t:TA):TS:=λx U H=>t U H λvs H1=>-vs<=sizeLine/\Ξ (.ref C) none H1
def Xp{x:Str}{B newId iC:String}{bm:@&Value}{np gO:Pos}{kL:Expr}{rest:@&Expr}{t:TA}{Ξ:XK}(hc:X.calm=true)(O:OwnCls x C bm newId X.mg X.base)(FB:ExcBaseFacts B newId iC bm)(hg:Gl X x)(ha:PA X (kL::rest) t)(hr:AA X Ξ)(he:starEach (kL::rest) X.env=(false,eval kL X.env)::starEach rest X.env)(iE:(backTo gO (starEach rest X.env)).any (·.1)=false)(hd:(x==("__debug__":Str))=false) :
  PS X (.Raise (!.Call (.Name x np) (kL::rest) [] gO) none pos) (Um C Ξ t):=by
 intro pi s U H D I h;let#[tl,N,nm,q,bs,hdct,sn,sub,ab,col,dd,k0,k1,k2,k3,k5,mN,hC,hN,zE,T]:=O.obj;refine wpAny_Raise_call_subT (C:=C) (nm:=nm) (q:=q) (N:=N) (bs:=bs) (bm:=tl) (hdct:=hdct) (sn:=sn) (sub:=sub) (ab:=ab) (col:=col) (dd:=dd) (k0:=k0) (k1:=k1) (k2:=k2) (k3:=k3) (k5:=k5)
  FB (mN:=mN) (T.hasType FB.hasBase) (I.ok.hd hc) (by rw[he];show(false||(backTo gO (starEach rest X.env)).any (·.1))=false;rw[iE];rfl) zE (Q3 I hg O.bound #[rfl,?_] hd)
 let h':=ha gO pi s U H _ I h;rw[he] at h' ⊢;refine Calls.evalArgs_plain (bJ h' (λvs gB jN=>?_) λz z y=>y);let#[ws,H1,I1,rv,hz,hE]:=jN;exact#[rfl,by rw[<- -rv];exact hz,I1.bk _ _ hC,hN.keeps I1.bk,T.keeps I1.bk,λh2 ea hm=>hr pi U H1 gB h2 ea C vs I1 hm hE]
abbrev X6(X:Cx)(pi:@&(Addr×Obj))(xe:Value->Shared->Prop)(o:Option St:=none):Cx:={ X with pn:=X.pn++pi,xe:=xe,sg:=o }
abbrev H9(X:Cx)(ea:Addr):Cx:={ X with A:=X.A.mark (!.ref ea),calm:=false,xe:=λx x=>False,sg:=none }
def Inv.bJ2{xe:Value->Shared->Prop}{o:Option St}(ho:∀τ,o=!τ->U=τ)(I:Inv X pi U H s):Inv (X6 X pi xe o) [] U H s :=
 #[#[I.ok.mod,I.ok.kind,I.ok.glob,I.ok.blt,I.ok.above,I.ok.inj,I.ok.has,I.ok.rW,I.ok.hd,I.ok.frames,I.ok.sH,I.ok.xP,I.ok.bs,I.ok.oW,I.ok.lE,I.ok.mI,I.ok.M3,I.ok.pL],I.os,I.bare,I.base,I.loc,I.cell,I.free,I.ft,
  λp hp=>I.pin p (by simpa [X6] using hp),I.cb,I.len,ho]
def Inv.uh{xe:Value->Shared->Prop}{o:Option St}{gC:@&(Addr×Obj)}(hs:X.sg=none)(I:Inv (X6 X pi xe o) gC U H s):Inv X pi U H s :=
 #[#[I.ok.mod,I.ok.kind,I.ok.glob,I.ok.blt,I.ok.above,I.ok.inj,I.ok.has,I.ok.rW,I.ok.hd,I.ok.frames,I.ok.sH,I.ok.xP,I.ok.bs,I.ok.oW,I.ok.lE,I.ok.mI,I.ok.M3,I.ok.pL],I.os,I.bare,I.base,I.loc,I.cell,I.free,I.ft,
  λp hp=>I.pin p (bC _ hp),I.cb,I.len,λx z=>by simp_all]
def Inv.Pb(I:Inv X pi U H s):Inv (H9 X ea) pi U H s :=
 #[#[I.ok.mod,I.ok.kind,I.ok.glob,I.ok.blt,I.ok.above,I.ok.inj,I.ok.has,I.ok.rW,λz=>(by cases z),I.ok.frames,I.ok.sH,I.ok.xP,I.ok.bs,I.ok.oW,I.ok.lE,I.ok.mI,I.ok.M3,I.ok.pL],I.os,I.bare,I.base,I.loc,I.cell,I.free,I.ft,I.pin,I.cb,I.len,λdE z=>absurd (show(none:Option St)=some dE from z) #[_]]
def Inv.vG(hs:X.sg=none)(J:X.Ok)(I:Inv (H9 X ea) pi U H s):Inv X pi U H s :=
 #[J,I.os,I.bare,I.base,I.loc,I.cell,I.free,I.ft,I.pin,I.cb,I.len,λx z=>by simp_all]
def SP.uh{xe:Value->Shared->Prop}{o:Option St}{D:Ends}{f:Flow}(hs:X.sg=none)(h:SP (X6 X pi xe o) [] D f s):SP X pi D f s:=by
 cases f with
 |next=>let#[a,b,I,q]:=h;exact#[a,b,I.uh hs,q]
 |brk=>let#[a,b,I,q]:=h;exact#[a,b,I.uh hs,q]
 |cont=>let#[a,b,I,q]:=h;exact#[a,b,I.uh hs,q]
 |ret u=>let#[v,a,b,I,r,q]:=h;exact#[v,a,b,I.uh hs,r,q]
def SP.vG{ea:Addr}{D:Ends}{f:Flow}(hs:X.sg=none)(J:X.Ok)(h:SP (H9 X ea) pi D f s):SP X pi D f s:=by
 cases f with
 |next=>let#[a,b,I,q]:=h;exact#[a,b,I.vG hs J,q]
 |brk=>let#[a,b,I,q]:=h;exact#[a,b,I.vG hs J,q]
 |cont=>let#[a,b,I,q]:=h;exact#[a,b,I.vG hs J,q]
 |ret u=>let#[v,a,b,I,r,q]:=h;exact#[v,a,b,I.vG hs J,r,q]
abbrev ue(X:Cx)(D:Ends)(dE:St)(C:Addr)(H:Hp):@&ExceptHandler->Prop
 |.ExceptHandler (!.Name x _) none (yc::rh) _::rest=>Gl X x/\(x==("__debug__":Str))=false/\∃C' b,X.mg x=!.ref C'/\PySem.W.exmOne X.K (.ref C) (.ref C')=!b /\
   (if b=true then ∃t:TS,(∀ea,jV (H9 X ea) (yc::rh) t)/\t D dE H else ue X D dE C H rest)
 |[]=>∃Ξ:XK,yk X Ξ/\Ξ (.ref C) none H
 |_=>False
end
section
variable{pi:@&(Addr×Obj)}{e:Value}{D:Ends}
abbrev Bv(X:Cx)(pi:@&(Addr×Obj))(D:Ends)(hs:@&ExceptHandler):Value->Shared->Prop:=λe bT =>
 wpAny (model X.prog X.w) X.A (noteFrame e X.env) (λx gB=>wpAny (model X.prog X.w) X.A (setFlight e none) (λx gh=>wpAny (model X.prog X.w) X.A (handleBy e X.env hs) (SP X pi D) X.xe gh) X.xe gB) X.xe bT
def Lies.step{h1:Heap}(I:Inv X pi U H s)(l:Lies X H H' s B ea C a0 s')(st:B.StaysIn h1)(us:s'.heap.UpToSlots h1):Lies X H H' s B ea C a0 { s' with heap:=h1 }:=by
 let J:=l.inv I;let#[u,ok,ib]:=a85 l.un l.cb l.uF st us λb hb=>#[J.AK b hb,AL J hb]
 exact#[l.os,l.bare,u,ok,ib]
def aM6{l:@&Env}{L:Addr}{cls:Value}{A:Around}{M:Model}{E:Value->Shared->Prop}{Q:Unit->Shared->Prop}(fw:Heap.FlyingW B l ea cls a0 s.heap)(h:∀h',Heap.HeldW B l ea cls a0 L h'->(∀b o,s.heap.get? b=!o->(∀vs,o.data≠.fields vs)->h'.get? b=!o)->Q Unit.unit { s with heap:=h' }):wpAny M A (setFlight (.ref ea) (!L)) Q E s:=by
 let#[f1,f2,f3,oe,vs,T,oT,ts,he,qj,hd,h1,Rh,zX,hT,zM,h3]:=fw;let xb:3<ts.size:=(ij.mp h3).1;let other:∀b,b≠T->(s.heap.update T (Obj.mapFields (·.setIfInBounds 3 ((!L).elim Value.none λf=>rawInt f)))).get? b=s.heap.get? b :=
  λb hb=>dF _ _ (cy hb)
 let lF:∀b o,s.heap.get? b=!o->(∀vs,o.data≠.fields vs)->b≠T:=λb o hb xf q=>by
  rw[q,hT] at hb;injection hb with hb;subst hb;exact xf ts zM
 refine aa (mf he hd h1 ?_);refine eU hT zM xb (h _ #[λb o RH=>(other b λq=>by simp_all).trans (f1 b o RH),f2,
  f3.of_keeps λb o hb xf=>#[o,(other b (lF b o hb xf)).trans hb,rfl],?_] λb o hb xf=>(other b (lF b o hb xf)).trans hb)
 exact#[oe,vs,T,_,_,(other ea (cy zX)).trans he,qj,hd,h1,Rh,zX,bu _ hT (dY (bP zM _)),bP zM _,by simp[xb]]
set_option tactic.hygienic true in
def Lh{B:Heap}{ea C:Addr}{a0:Value}{dE:St}(pC:X.sg=none)(hf:X.env.frame=!X.env.locals)(zK:-dE=-U)(zB:∀(i:Nat) v,dE[i]?=!!v->U[i]?=!!v):∀(hs:@&ExceptHandler) (s':Shared),Inv X pi U H s->Lies X H H' s B ea C a0 s'->Heap.FlyingW B X.stack ea (.ref C) a0 s'.heap->ue X D dE C H' hs ->
  wpAny (model X.prog X.w) X.A (handleBy (.ref ea) X.env hs) (SP X pi D) X.xe s'
 |[],s',I,l,fw,t=>by
  let#[Ξ,hh,hE]:=t;refine wpAny_handleBy_nil ?_;let#[f1,f2,f3,oe,vs,T,oT,ts,he,qj,hd,h1,_]:=id fw;refine aa (mf he hd h1 ?_);rw[aE #[_],hf];refine aa (aM6 fw λh2 held k=>wpAny_throw ?_);let l2:=l.step I held.1 (λb o hb hn=>#[o.slots,k b o hb hn]);exact hh pi U H H' s _ B ea C a0 I l2 held hE
 |.ExceptHandler none _ _ _::_,_,_,_,_,t=>t.elim
 |.ExceptHandler (!e) nm bd pos::rest,s',I,l,fw,t=>by
  cases e
  case Name x np =>
   cases nm with
   |some y=>exact t.elim
   |none =>
    cases bd with
    |nil=>exact t.elim
    |cons yc rh =>
     let#[hg,iL,C',b,hm,hx,q]:=t;let J:=l.inv I;let JM:Inv (H9 X ea) pi U H' s':=J.Pb;let LT:PySem.W.Looks (model X.prog X.w) s'.heap (typeOf (.ref ea)) (.ref C):=λA Q E s2 k q=>by
      let#[ob,ho,hc]:=fw.there;exact wpAny_typeOf_ref (k _ _ ho) (by rw[hc];exact q)
     refine wpAny_handleBy_cons (codeAny_handlers_test ?_) (by intro z;cases z);refine Q3 (X:=H9 X ea) JM hg hm ?_ iL;refine(PySem.W.exm_one (M:=model X.prog X.w) J.iR LT hx).here ?_;cases b with
     |false =>
      exact Lh pC hf zK zB rest s' I l fw q
     |true =>
      let#[t,ht,hq]:=q;refine codeAny_handlers_suite ?_;refine wpAny_setFlight_noneW fw.1 fw.2.2.1 fw.2.2.2.at λh2 k1 k2 k3 k4=>?_;let l2:=l.step I k1 (λb o hb hn=>#[o.slots,k4 b o hb hn]);let J2:=l2.inv I;let J3:Inv (H9 X ea) pi dE H' { s' with heap:=h2 }:=(Inv.weak pC J2 zK zB).Pb;refine bJ (ht ea pi _ _ H' D J3 hq) (λf s2 hf=>hf.vG pC I.ok) λu u z=>z.elim
  all_goals exact t.elim
def Xd{hs:@&ExceptHandler}{Ξ:XK}{o:Option St}{dE:St}(pC:X.sg=none)(fh:X.stack=X.env::X.outer)(hf:X.env.frame=!X.env.locals)(Cw:∀U:St,(-U)=-X.N->(∀τ,o=!τ->U=τ)->-dE=-U/\∀(i:Nat) v,dE[i]?=!!v->U[i]?=!!v)(hT:∀C H',Ξ (.ref C) none H'->ue X D dE C H' hs) :
  Passes (jT X.prog X.w) (X6 X pi (Bv X pi D hs) o) Ξ:=by
 intro gC U H s e s' I0 h;let I:Inv X pi U H s:=I0.uh pC;let#[zK,zB]:=Cw U I.len I0.sg;let#[C,H',ho,hb,hu,cb,#[ea,a0,B,rfl,fw,hB],hE]:=h;let l:Lies X H H' s B ea C a0 s':=#[ho,hb,hu,cb,hB]
 let fw:Heap.FlyingW B X.stack ea (.ref C) a0 s'.heap:=fw;let Ae:=fw;rw[fh] at Ae;refine wpAny_looks_onW (by rw[I.ok.frames,fh]) hf Ae λh1 held us=>?_;let l1:=l.step I held.1 us;refine wpAny_landsW held λh2 fl PN=>?_;let l2:=l1.step I fl.1 PN;rw[<- fh] at fl;exact Lh pC hf zK zB hs _ I l2 fl (hT C H' hE)
def bA1{hs:@&ExceptHandler}{h₀:ExceptHandler}{body:@&Stmt}{t:Ends->St->TS}{Ξ:Ends->St->XK}(f:St->Option St)(z:St->St)(hz:∀U τ,f U=!τ->U=τ)(pC:X.sg=none)(hb:∀pi D U,(∀C H',Ξ D U (.ref C) none H'->ue X D (z U) C H' (h₀::hs))->jV (X6 X pi (Bv X pi D (h₀::hs)) (f U)) body (t D U)) :
  PS X (.Try body (h₀::hs) [] [] pos) (λD U H=>(∀C H',Ξ D U (.ref C) none H'->ue X D (z U) C H' (h₀::hs))/\t D U D U H):=by
 intro pi s U H D I ⟨hT,h⟩;refine wpAny_Try_except (bJ (hb pi D U hT [] s U H D (I.bJ2 (hz U)) h) (λf s1 q=>?_) λe s1 q=>q);let q:=q.uh pC;cases f with
 |next =>
  let#[cA,H',I',q]:=q;exact dj (kO #[cA,H',I',q]) λx x z=>z
 |brk=>exact q
 |cont=>exact q
 |ret u=>exact q
end
abbrev Hh(K:PySem.W.Frag)(a:Addr):It :=
 #[λi H=>∃xs x,gE K H a xs/\xs[i]?=!x,λi H v H'=>∃p x,H p=none/\v=.ref p/\(∀xs,gE K H a xs->xs[i]?=!x)/\H'=upd H p (.tup [.int i,x]),λi H=>∃xs,gE K H a xs/\-xs<=i]
def a01{P:Program}{K:PySem.W.Frag}{elts:@&Expr}{x1:Nat}{tp:Pos}(a e it:Addr)(Jf:e≠it):Turn P w K (.Tuple elts x1 tp) (Hh K a) [e,it] e (λi h=>(∃old,IsEnum h e it i old)/\h.IsListIter it a i) where
 mem:=by simp
 obj:=λi h st b hb=>by
  let#[#[old,h1],o,h2,c,d]:=st;rcases aL.mp hb with z|z
  .subst z;exact #[_,h1,λv z=>by
    let z':Data.fields _=Data.cell v:=z;cases z']
  .let z:b=it:=by simpa using z
   subst z;exact#[o,h2,λv z=>by rw[d] at z;cases z]
 keep:=λi h h' st k=>by
  let#[#[old,h1],h2]:=st;exact#[#[old,k e #[_] _ h1],h2.at λo x=>k it #[_] o x]
 item:=by
  intro X hP hw hK hc i pi s U H E I hf st hg;subst hP hw hK;let#[#[old,h1],h2]:=st;let#[xs,x,hq,hx]:=hg;let#[bA,rv,p,hz]:=I.list hq;let#[u,hu,ru]:=rv.get hx;let#[e0,e1,e2,e3,e4,e5]:=hf e #[_];let#[f0,f1,f2,f3,f4,f5]:=hf it #[_];refine wpAny_pyNext_enum_item h1 h2 p.isList (x:=u) (by simpa using hu) Jf λh' tG CY pB wX pG=>?_;refine#[_,rfl,wpAny_letOwnedTupleGo_enum tG λxG Rw gZ=>?_];let gZ:Heap.SameBut e h' xG:=gZ;let elt:e<s⁻¹:=aB h1;let kp:∀b o,b≠e->b≠it->s.heap.get? b=!o->xG.get? b=!o:=λb o b1 b2 q=>(gZ.2 b b1).trans (pG b o b1 b2 q);let hn:H s⁻¹=none:=I.cb.fresh (av _);let BU:xG.get? s⁻¹=some { cls:=.type "tuple",data:=.seq (List.toArray [.int i s.toks,u]) }:=(gZ.2 _ (cz elt)).trans pB;let ne:∀b u',H b=!u'->b≠e/\b≠it:=λb u' q=>And.intro (λ(z:b=e)=>by simp_all) (λ(z:b=it)=>by simp_all);let cb:gU X.prog X.w (upd H s⁻¹ (.tup [.int i,x])) xG:=λb o q=>by
   by_cases hb:b=s⁻¹
   .subst hb;rw[x5] at q;cases q;exact#[by change 2<=sizeLine;decide,[.int i s.toks,u],.cons #[_,rfl] (.cons ru .nil),_,BU,rfl,#[_,rfl],rfl]
   .rw[i7 hb] at q;refine(I.cb b o q).K0 (λc v hc q'=>?_) (λc q'=>by rw[i7 (q9 q' hn)];exact q') λc ys q'=>by rw[i7 (q9 q' hn)];exact q'
    rcases hc with z|z
    .subst z;exact kp _ _ (ne _ _ q).1 (ne _ _ q).2 q'
    .exact kp _ _ (ne _ _ z).1 (ne _ _ z).2 q'
  let I2:Inv X pi U (upd H s⁻¹ (.tup [.int i,x])) { s with heap:=xG,toks:=s.toks+1 }:=by
   refine I.step (g':=s.gens) (d':=s.drawn) (t':=s.toks+1) (ch:=[e,it]) (λb hb=>?_) (λb o t t hb q t=>kp b o (λz=>hb (by simp[z])) (λz=>hb (by simp[z])) q) (λb o t t hb q t=>#[o.slots,kp b o (λz=>hb (by simp[z])) (λz=>hb (by simp[z])) q])
    (λb o t q n=>by rw[i7 (aO (aB q))];exact n) (λb o hb q=>#[o,kp b o (λz=>hb (by simp[z])) (λz=>hb (by simp[z])) q])
    (λb ys q=>by rw[i7 (q9 q hn)];exact q) (λb o' ys q=>by rw[i7 (q9 q hn)];exact q) (λb ps q=>#[(List.toArray []),by rw[i7 (q9 q hn),q];simp]) (λm hm=>?_) cb I.bare
   .rcases aL.mp hb with z|z
    .subst z;exact#[e3,e1,e4,e5]
    .let z:b=it:=by simpa using z
     subst z;exact#[f3,f1,f4,f5]
   .let#[o,es,ep,ho,r]:=hm;exact#[o,es,ep,kp _ o (cy e1) (cy f1) ho,r]
  refine#[.ref s⁻¹,_,I2,rfl,#[s⁻¹,x,hn,rfl,λys hy=>by rw[I.EW hy hq];exact hx,rfl],#[#[u,by simpa using Rw],CY.at λo y=>(gZ.2 it Jf.symm).trans y],λb hb=>?_];let lX:b<s⁻¹:=by
   rcases aL.mp hb with z|z
   .subst z;exact elt
   .let z:b=it:=by simpa using z
    subst z;let#[o,h2,_]:=h2;exact aB h2
  rw[i7 (aO lX)];exact(hf b hb).1
 done:=by
  intro X hP hw hK hc i pi s U H E I hf st hg;subst hP hw hK;let#[#[old,h1],h2]:=st;let#[xs,hq,hx]:=hg;let#[bA,rv,p,hz]:=I.list hq;let#[f0,f1,f2,f3,f4,f5]:=hf it #[_];let hl:=-rv;exact wpAny_pyNext_enum_end (I.ok.hd hc) h1 h2 p.isList (by simp;omega) λh' eb=>#[rfl,I.turned (t':=s.toks) (λb o hb e=>eb b o hb e) f0 f1 f3 f4 f5]
 self:=λt t t t t st h=>by
  let#[#[old,h1],h2]:=st;exact wpAny_pyIter_enum h1 h
def Vw{l:Expr}{tp:Pos}{elts:@&Expr}{x1:Nat}(hg:Gl X "enumerate")(hm:X.mg "enumerate"=none)(ha:PA X [l] ta)(hs:starEach [l] X.env=[(false,eval l X.env)]) :
  PI X (.Tuple elts x1 tp) (.Call (.Name "enumerate" p) [l] [] pos) (λU H R=>ta U H λvs H1=>∃a,vs=[.ref a]/\(∃xs,gE X.K H1 a xs)/\R (Hh X.K a) H1):=by
 intro pi s U H R I h;refine Call_ (O1 I hg hm PyProof.Rows.boot_enumerate (bU (dj (ha pos pi s U H _ I h) λus s1 bH=>?_) hs rfl));let#[vs,H1,I1,r1,q1]:=bH;let#[a,e,#[xs,hq],q]:=q1;subst e;cases r1 with
 |cons r rr =>
  cases rr;cases r;let#[bA,rv,p,hz]:=I1.list hq;refine call_enumerate_list p.isList λh' he hit hsz hk=>wpAny_pyIter_enum he ?_;refine#[s1⁻¹+1,[s1⁻¹+1,s1⁻¹],_,_,H1,rfl,I1.kept (t':=s1.toks) hk,a01 a _ _ #[_],#[#[_,he],hit],λb hb=>?_,q];let lX:s1⁻¹<=b:=by
   rcases aL.mp hb with z|z
   .simp_all
   simp_all
  exact I1.rY lX (I1.cb.fresh lX)
def aW5{lo:Int}{acc:Array Value}{n:Nat}(h:ItemsOf (λi v=>∃t,v=.int (lo+i*1) t) acc n):Vals ((List.range n).map λ(k:Nat)=>V.int (lo+k)) acc.toList:=by
 let hl:-acc.toList=n:=by
  have:=h.1;omega
 let go:∀(m:Nat) (l:@&Value),(-l)<=n->m+-l=n->(∀i v,l[i]?=!v->∃t,v=Value.int (lo+((m+i:Nat):Int)) t)->Vals ((List.range' m (-l)).map λ(k:Nat)=>V.int (lo+k)) l:=by
  intro m l
  induction l generalizing m with
  |nil=>intro _ _ _;exact .nil
  |cons x r ih =>
   intro h1 h2 h3;refine .cons ?_ (ih (m+1) (by simp at h1;omega) (by simp at h2;omega) λi v hv=>?_)
   .let#[t,e]:=h3 0 x rfl;exact#[t,by rw[e];simp]
   .let#[t,e]:=h3 (i+1) v (by simpa using hv)
    grind
 have:=go 0 acc.toList () () λi v hv=>?_
 .rw[hl,<- List.range_eq_range'] at this;exact this
 .have:acc[i]?=!v:=by rw[<- eW];exact hv
  let#[t,e]:=h.2 i v this;refine#[t,?_];rw[e];simp
def MG(hc:X.calm=true):o8 X (.type "list") (λxs H Q=>∃a lo hi,xs=[.ref a]/\H a=!.nS lo hi/\(-(2 ^ 62)<=lo/\lo<2 ^ 62/\-(2 ^ 62)<=hi/\hi<2 ^ 62/\hi-lo<=100000)/\∀p,H p=none->Q (.ref p) (upd H p (.lst ((List.range (hi-lo).toNat).map λ(k:Nat)=>V.int (lo+k))))):=by
 intro pi s U H xs us Q I r h;let#[a,lo,hi,rfl,ha,#[h1,h2,h3,h4,h5],q]:=h;let#[t,u,v,ho]:=I.cb a _ ha;cases r with
 |cons r rr =>
 cases rr;cases r;let hn:Builtin.Range.rangeSize lo hi 1=((hi-lo).toNat:Nat):=by rw[rangeSize_one];split<;>omega
 refine call_list_range (n:=(hi-lo).toNat) (I.ok.hd hc) ho (small_one h1 h2 h3 h4) hn () λh' kR acc c hk hS jC=>?_;let hp:H s⁻¹=none:=I.cb.fresh (av _);refine#[.ref _,_,I.laid (a:=s⁻¹) (o:=.lst ((List.range (hi-lo).toNat).map λ(k:Nat)=>V.int (lo+k))) (t':=kR) hk (av _) #[?_,acc.toList,c,aW5 jC,by simpa using hS],rfl,q _ hp];rw[ak,fX];have:(hi-lo).toNat<=100000:=by omega
 exact aD this ∅
def a30{a:Expr}(hg:Gl X "range")(hm:X.mg "range"=none)(ha:PA X [a] ta)(hs:starEach [a] X.env=[(false,eval a X.env)]):PE X (.Call (.Name "range" p) [a] [] pos) (λU H Q=>ta U H λvs H1=>∃j:Int,vs=[.int j]/\∀q,H1 q=none->Q (.ref q) (upd H1 q (.nS 0 j))):=by
 intro pi s U H Q I h;refine df (O1 I hg hm boot_range (bU (dj (ha pos pi s U H _ I h) λus s1 bH=>?_) hs rfl));let#[vs,H1,I1,r1,q1]:=bH;let#[j,e,q]:=q1;subst e;cases r1 with
 |cons r rr =>
  cases rr;let#[t,rfl]:=r;exact call_range_1 #[.ref s1⁻¹,_,I1.laid (a:=s1⁻¹) (o:=.nS 0 j) (λb o e=>ao _ e) (av _) #[_,_,_,aG _ rfl],rfl,q _ (I1.cb.fresh (av _))]
def a29{a b:Expr}(hg:Gl X "range")(hm:X.mg "range"=none)(ha:PA X [a,b] ta)(hs:starEach [a,b] X.env=[(false,eval a X.env),(false,eval b X.env)])(gZ:starEach [b] X.env=[(false,eval b X.env)]):PE X (.Call (.Name "range" p) [a,b] [] pos) (λU H Q=>ta U H λvs H1=>∃i j:Int,vs=[.int i,.int j]/\∀q,H1 q=none->Q (.ref q) (upd H1 q (.nS i j))):=by
 intro pi s U H Q I h;refine df (O1 I hg hm boot_range (bU (dj (ha pos pi s U H _ I h) λus s1 bH=>?_) (by rw[hs,gZ]) (by rw[gZ];rfl)));let#[vs,H1,I1,r1,q1]:=bH;let#[i,j,e,q]:=q1;subst e;cases r1 with
 |cons r rr =>
  cases rr with
  |cons r' rr =>
   cases rr;let#[t,rfl]:=r;let#[t',rfl]:=r';exact call_range_2 #[.ref s1⁻¹,_,I1.laid (a:=s1⁻¹) (o:=.nS i j) (λb o e=>ao _ e) (av _) #[_,_,_,aG _ rfl],rfl,q _ (I1.cb.fresh (av _))]
abbrev Bg(K:PySem.W.Frag)(P:Params)(a:Addr)(kvs:@&(Str×V)):Prop :=
 ∃es n,K.lookup a=!#[.type "dict",none,.dict es n,(List.toArray [])]/\PySem.W.KeysLit P es.toList/\(a==sysModules)=false/\∀x,K6 (kvs.lookup x) (findBy Value.isStrOf es x)
def ZS{kvs:@&(Str×V)}:vM X (λx y H Q=>∃a z v,x=.ref a/\Bg X.K X.w.params a kvs/\y=.str z/\kvs.lookup z=!v/\Q v H):=by
 intro value slice pi s U H x y v u Q I rx ry h hs;let#[a,z,d,rfl,#[es,n,hl,hk,lo,hf],rfl,hz,q]:=h;cases rx;let#[t,rfl]:=ry;let hm:=PySem.W.mapOf_K (prog:=X.prog) (w:=X.w) I.iR hl hk;let e:=hf z;rw[hz] at e;cases h2:findBy Value.isStrOf es z with
 |none=>rw[h2] at e;exact e.elim
 |some r =>
  rw[h2] at e;exact tail_any hm.typeIs slot_dict_getitem.lookup (wpAny_getItem_of (strKind_is X.prog X.w z t) hm h2 #[d,H,I.tok _,e,q]) hs
def UU(hu:X.A.units+1<cLine):vM X (λx y H Q=>∃a v,x=.ref a/\T9 H a y (!v)/\Q v H):=by
 intro value slice pi s U H x y v u Q I rx ry h hs;let#[a,d,rfl,g,q]:=h;cases rx;exact tail_any (aM9 I g) slot_dict_getitem.lookup (a63 hu I g ry λw' s3 I3 gR=>#[d,H,I3,gR,q]) hs
end L2
namespace ST
open PySem PyProof.Rows
variable{xs:Array Nat}{i k j n ep:Nat}{t:SetTable}{h h':Heap}{L:Bool}{es:Array (Int×Value)}{x f:Value}{prog:Program}{w:World}{a I b l:Addr}{ks ns:@&Int}{A:Around}{E Q:Value->Shared->Prop}{s:Shared}{pl:@&Nat}{α:Type}{r:Rd}{items:Array Value}
noncomputable abbrev lZ(xs:Array Nat):Prop:=xs.toList.Pairwise (· < ·)
def lZ.lt(h:lZ xs)(iu:i<k)(hk:k<xs.size):xs.getD i 0<xs.getD k 0:=by
 have:=cS.mp h i k (by simpa using du iu hk) (by simpa using hk) iu;rw[<- gz (h:=du iu hk),<- gz (h:=hk)];exact this
def lZ.le(h:lZ xs)(iu:i<=k)(hk:k<xs.size):xs.getD i 0<=xs.getD k 0:=by
 rcases Nat.eq_or_lt_of_le iu with e|e
 .rw[e];exact av _
 .exact fj (h.lt e hk)
def EF{xs:Array Nat}{j:Nat}(h:lZ xs):∀(fuel lo hi:Nat),hi-lo<=fuel->lo<=hi->hi<=xs.size->(∀i,i<lo->xs.getD i 0<j)->(∀i,hi<=i->i<xs.size->j<=xs.getD i 0) ->
  SetTable.below.go xs j fuel lo hi<=xs.size/\(∀i,i<SetTable.below.go xs j fuel lo hi->xs.getD i 0<j)/\∀i,SetTable.below.go xs j fuel lo hi<=i->i<xs.size->j<=xs.getD i 0
 |0,lo,hi,h1,h2,h3,h4,h5=>by
  have:lo=hi:=by omega
  subst this;exact#[h3,h4,h5]
 |fuel+1,lo,hi,h1,h2,h3,h4,h5=>by
  unfold SetTable.below.go;split
  .let hm:(lo+hi) / 2<xs.size:=by omega
   let em:xs.getD ((lo+hi) / 2) j=xs.getD ((lo+hi) / 2) 0:=by simp[Array.getD,hm]
   dsimp only;rw[em];by_cases hc:xs.getD ((lo+hi) / 2) 0<j
   .rw[aI hc];exact EF h fuel _ hi () () h3 (λi jC=>dC (h.le () hm) hc) h5
   .rw[aE hc];exact EF h fuel lo _ () () () h4 λi jC hs=>aD (Nat.le_of_not_lt hc) (h.le jC hs)
  .have:lo=hi:=by omega
   subst this;exact#[h3,h4,h5]
def V0(j:Nat)(h:lZ xs):SetTable.below xs j<=xs.size/\(∀i,i<SetTable.below xs j->xs.getD i 0<j)/\∀i,SetTable.below xs j<=i->i<xs.size->j<=xs.getD i 0 :=
 EF h _ 0 _ () () (av _) (λi hi=>absurd hi (Nat.not_lt_zero _)) λi h1 h2=>absurd h2 ()
def below_at(h:lZ xs)(hi:i<xs.size):SetTable.below xs (xs.getD i 0)=i:=by
 let#[h1,h2,h3]:=V0 (xs.getD i 0) h;rcases fU (SetTable.below xs (xs.getD i 0)) i with z|z|z
 .exact absurd (h3 _ (av _) ()) (Nat.not_le_of_lt (h.lt z hi))
 .exact z
 .exact absurd (h2 i z) (cw _)
def aY3(h:lZ xs)(hi:i<xs.size):SetTable.below xs (xs.getD i 0+1)=i+1:=by
 let#[h1,h2,h3]:=V0 (xs.getD i 0+1) h;rcases fU (SetTable.below xs (xs.getD i 0+1)) (i+1) with z|z|z
 .have:=h3 i () hi;omega
 .exact z
 .have:=h2 (i+1) z;have:=h.lt (mY i) (k:=i+1) ();omega
def aY2(h:lZ xs):SetTable.below xs 0=0:=by
 let#[_,h2,_]:=V0 0 h;rcases Nat.eq_zero_or_pos (SetTable.below xs 0) with z|z
 .exact z
 .exact absurd (h2 0 z) (Nat.not_lt_zero _)
def getD_mem(hi:i<xs.size):xs[i]?=!xs.getD i 0:=by simp[Array.getD,hi]
def aT0(h:lZ t.place)(hs:t.slot j=.empty):j∉t.place.toList:=by
 intro hm;let#[i,hi,e]:=br.mp hm;let jC:i<t.place.size:=by simpa using hi
 let ej:t.place.getD i 0=j:=by rw[<- gz (h:=jC)];simpa using e
 let hb:=below_at h jC;rw[ej] at hb;unfold SetTable.slot at hs;dsimp only at hs;rw[hb,getD_mem jC,ej] at hs;simp at hs
def aT8(h:lZ xs)(hj:j∉xs.toList):lZ (SetTable.insertAt xs (SetTable.below xs j) j):=by
 let#[h1,h2,h3]:=V0 j h;show(SetTable.insertAt xs (SetTable.below xs j) j).toList.Pairwise (· < ·);rw[SetTable.toList_insertAt,ba];let tk:∀a∈xs.toList.take (SetTable.below xs j),a<j:=λa ha=>by
  let#[i,hi,e]:=br.mp ha;rw[dA] at hi;let hs:i<xs.size:=by omega
  have:=h2 i ()
  simp_all
 let dp:∀b∈xs.toList.drop (SetTable.below xs j),j<b:=λb hb=>by
  let#[i,hi,e]:=br.mp hb;let hs:SetTable.below xs j+i<xs.size:=by grind
  have:=h3 (SetTable.below xs j+i) () hs;rw[<- gz (h:=hs)] at this;let fQ:b≠j:=λz=>hj (by rw[<- z];exact BJ hb);simp at e;omega
 refine#[h.take,fO.mpr #[dp,h.drop],λa ha b hb=>?_];let nC:=tk a ha
 grind
def a17(n:Nat):lZ (Array.range n):=by
 show(Array.range n).toList.Pairwise (· < ·);rw[Array.toList_range];exact vQ
structure Well(L:Bool)(t:SetTable):Prop where
 zp:lZ t.place
 Ea:t.dummies=(List.toArray [])
 led:t.led=L
set_option tactic.hygienic true in
def Xc(hd:t.dummies=(List.toArray []))(j:Nat):t.slot j≠.dummy:=by
 unfold SetTable.slot;dsimp only;split
 .simp
 .rw[hd];split
  .rename_i z;simp[SetTable.has] at z
  simp
set_option tactic.hygienic true in
def Mx{t:SetTable}(hd:t.dummies=(List.toArray [])){hashAt:Nat->Int}{h:Int}:∀(fuel:Nat) (p:SetTable.Probe) {j:Nat} {dm:Option Nat},p.dummy=none->SetTable.probe.go t hashAt h fuel p=!.empty j dm->t.slot j=.empty/\dm=none
 |0,p,j,dm,_,e=>by simp[SetTable.probe.go] at e
 |fuel+1,p,j,dm,hp,e=>by
  unfold SetTable.probe.go at e;let ad:∀q:SetTable.Probe,q.dummy=none->(t.advance q).dummy=none:=λq hq=>by
   unfold SetTable.advance;split
   .exact hq
   .exact hq
  split at e
  .simp_all
  .rename_i hs;exact absurd hs (Xc hd _)
  .split at e
   .cases e
   .exact Mx hd fuel _ (ad p hp) e
set_option tactic.hygienic true in
def a58(hd:t.dummies=(List.toArray [])){h:Int}{wd:Bool}(e:t.freeSlot h=!(j,wd)):t.slot j=.empty/\wd=false:=by
 unfold SetTable.freeSlot at e;split at e
 .rename_i j' dm hp;let#[h1,h2]:=Mx hd _ _ rfl hp;subst h2;cases e;exact#[h1,rfl]
 .cases e
def N4(h:Well L t)(n:Nat):Well L (t.standIn n):=#[a17 n,rfl,h.led]
set_option tactic.hygienic true in
def aM5{h:Int}(hw:Well L t):Well L (layNew t es h x).2.1/\(layNew t es h x).2.2.1=false:=by
 unfold layNew;split
 .rename_i slot wd e;let#[h1,h2]:=a58 hw.Ea e;refine#[?_,h2];let hd:SetTable.has t.dummies slot=false:=by rw[hw.Ea];rfl
  let w2:Well L (t.put slot).1:=#[aT8 hw.zp (aT0 hw.zp h1),by simp only[SetTable.put,hd];exact hw.Ea,hw.led]
  dsimp only;unfold SetTable.orStandIn;split
  .exact w2
  .exact N4 w2 _
 .exact#[N4 hw _,rfl]
def a46{mask finger moves:Nat}{led plain:Bool}{hashes:Array Int}{o:Array Nat}(hl:led=L)(e:SetTable.laid mask finger moves led plain hashes=!(t,o)):Well L t:=by
 unfold SetTable.laid at e;cases ho:SetTable.layClean mask hashes with
 |none=>rw[ho] at e;cases e
 |some owner =>
  rw[ho] at e;simp only[Option.bind_eq_bind,Option.bind_some,Option.pure_def,Option.some.injEq,Prod.mk.injEq] at e;let#[rfl,_]:=e;refine#[?_,rfl,hl];show(List.map _ _).toArray.toList.Pairwise (· < ·);rw[List.toList_toArray];let sub:((List.range (mask+1)).filterMap λj=>(owner.getD j none).map (j,·)).map (·.1) |>.Sublist (List.range (mask+1)):=by
   generalize List.range (mask+1)=l
   induction l with
   |nil=>simp
   |cons a r ih =>
    rw[fm];cases owner.getD a none with
    |none=>exact ih.cons a
    |some k=>exact ih.cons_cons a
  exact List.Pairwise.sublist sub vQ
set_option tactic.hygienic true in
def aA7(hw:Well L t):Well L (relayAll t es n).2.1:=by
 unfold relayAll;split
 .rename_i t' order e;dsimp only;split
  .exact a46 hw.led e
  .exact N4 hw _
 .exact N4 hw _
abbrev toI:Value->Int
 |.int k _=>k
 |_=>0
abbrev Led(w:World):Bool:= ~~~(w.params.followText "set-order")
abbrev y9(prog:Program)(w:World)(h:Heap)(a:Addr)(ks:@&Int):Prop :=
 ∃o es ep t,h.get? a=!o/\o.ExactSet/\o.data=.set es ep t/\ElemsOf (intKind prog w) es.toList/\(es.toList.map λe=>toI e.2).Perm ks/\ks.Nodup/\es.size<scanBound/\t.fits es.size=true/\Well (Led w) t
def y9.at(x:y9 prog w h a ks)(k:∀o,h.get? a=!o->h'.get? a=!o):y9 prog w h' a ks:=by
 let#[o,es,ep,t,e,r]:=x;exact#[o,es,ep,t,k o e,r]
def AF{e:Int×Value}{es:@&(Int×Value)}(h:ElemsOf (intKind prog w) es)(he:e∈es):∃tk,e.2=.int (toI e.2) tk/\e.1=(intKind prog w).hash (toI e.2):=by
 let#[#[k,h1,h2],_]:=h e he;let#[t,ht]:=Value.isInt_shape (k:=k) (v:=e.2) h1;refine#[t,by rw[ht];rfl,?_];rw[h2,ht]
 rfl
def OJ{e:Int×Value}{es:@&(Int×Value)}(h:ElemsOf (intKind prog w) es)(he:e∈es)(k:Int):(intKind prog w).is k e.2=decide (toI e.2=k):=by
 let#[t,ht,_]:=AF h he;rw[ht]
 rfl
def y9.mem{a:Addr}{es:@&(Int×Value)}(h:ElemsOf (intKind prog w) es)(hp:(es.map λe=>toI e.2).Perm ks)(k:Int):(es.findIdx? λe=>(intKind prog w).is k e.2).isSome=decide (k∈ks):=by
 rw[aW,cX,<- hp.mem_iff,aP,fB];constructor
 .rintro⟨i,hi⟩;let#[h1,h2,_]:=lR.mp hi;let hm:=cK h1;rw[OJ h hm] at h2;exact#[_,hm,bg h2]
 .rintro⟨e,he,rfl⟩;cases hf:es.findIdx? λe'=>(intKind prog w).is (toI e.2) e'.2 with
  |some i=>exact#[i,rfl]
  |none =>
   have:=List.findIdx?_eq_none_iff.mp hf e he;rw[OJ h he] at this;simp at this
abbrev E5(ks:@&Int)(k:Int):@&Int:=if k∈ks then ks else ks++[k]
def Wu(ks:@&Int)(k:Int):(E5 ks k).length<=-ks+1:=by unfold E5;split<;>simp
def JZ{k:Int}{tk:Tok}{Q:Bool->Shared->Prop}(hS:y9 prog w s.heap a ks)(hr:-ks+1<scanBound)(h:∀h' b,Heap.SameBut a s.heap h'->y9 prog w h' a (E5 ks k)->Q b { s with heap:=h' }):wpAny (model prog w) A (setAddHashed a (.int k tk) ((intKind prog w).hash k)) Q E s:=by
 let#[o,es,ep,t,ho,hx,hd,oK,hp,hn,hb,hf,hw]:=hS;let hlen:es.size=-ks:=by rw[<- hp.length_eq];simp
 let gM:(intKind prog w).is k (.int k tk)=true:=fA _ _ _ _;let gv:∀(b:Bool) (s1:Shared) (Q':Unit->Shared->Prop),Q' Unit.unit s1->wpAny (model prog w) A (match b with|true=>rule "set.scan.the-table-gave-way"|false=>pure Unit.unit) Q' E s1:=λb s1 Q' q=>by
  cases b
  .exact au q
  .exact fb q
 refine bO (aa (cU ho hd hf ?_));dsimp only;rw[byScan_of rfl hb oK,aI rfl];refine aa (aa (fb (aa (wpAny_setScan_of gM ho hd hf oK ?_))));let hm:=y9.mem (a:=a) oK hp k;cases fu:es.toList.findIdx? (λe=>(intKind prog w).is k e.2) with
 |some j =>
  let hk:k∈ks:=by simp_all
  refine au (au ?_);refine h s.heap _ (Heap.SameBut.refl a s.heap) ?_;unfold E5;rw[aI hk];exact#[o,es,ep,t,ho,hx,hd,oK,hp,hn,hb,hf,hw]
 |none =>
  rw[fu] at hm;let hk:k∉ks:=by simpa using hm.symm
  let p1:=layNew_perm t es ((intKind prog w).hash k) (.int k tk);let f1:=layNew_fits t es ((intKind prog w).hash k) (.int k tk);let#[w1,HA]:=aM5 (es:=es) (h:=(intKind prog w).hash k) (x:=.int k tk) hw;generalize layNew t es ((intKind prog w).hash k) (.int k tk)=R1 at p1 f1 w1 HA ⊢;let#[iF,t1,wd,SG]:=R1;subst HA;rw[dQ] at p1;let JF:ElemsOf (intKind prog w) iF.toList:=(oK.push gM rfl).perm p1;let sz1:iF.size=es.size+1:=by rw[<- cC,p1.length_eq];simp
  let k1:(iF.toList.map λe=>toI e.2).Perm (E5 ks k):=by
   unfold E5;rw[aE hk];refine(p1.map _).trans ?_;rw[dJ];exact hp.append_right _
  let n1:(E5 ks k).Nodup:=by
   unfold E5;rw[aE hk,cE];exact#[hn,by simp,λx hx y hy=>by grind]
  refine aa (gv _ _ _ ?_);let fin:∀ (t2:SetTable),t2.fits iF.size=true->Well (Led w) t2->wpAny (model prog w) A (do
    storeSet a iF t2
    if(~~~false&&t2.tooFull)=true then do
      (match(relayAll t2 iF (SetTable.grown iF.size)).2.2 with|true=>rule "set.scan.the-table-gave-way"|false=>pure Unit.unit)
      storeSet a (relayAll t2 iF (SetTable.grown iF.size)).1 (relayAll t2 iF (SetTable.grown iF.size)).2.1
      pure (!true)
     else pure (!true)) (λr s'=>wpAny (model prog w) A (match r with | some added=>pure added | none=>setAddHashedIn a (.int k tk) ((intKind prog w).hash k) 99999) Q E s') E s:=λt2 f2 w2=>by
   let g1:(s.heap.update a (Obj.putSet iF t2)).get? a=some { o with data:=.set iF (ep+1) t2 }:=by
    have:=bu (Obj.putSet iF t2) ho (by rw[putSet_of iF t2 hd];rfl);rw[putSet_of iF t2 hd] at this;exact this
   refine aa (wpAny_storeSet_of ho hd ?_ (fits_of_scanBound ()));let HM:=bX s.heap a (Obj.putSet iF t2);split
   .let p2:=relayAll_perm t2 iF (SetTable.grown iF.size);let f3:=relayAll_fits t2 iF (SetTable.grown iF.size);let w3:=aA7 (es:=iF) (n:=SetTable.grown iF.size) w2;generalize relayAll t2 iF (SetTable.grown iF.size)=R2 at p2 f3 w3 ⊢;let#[qt,t3,gv2]:=R2;dsimp only at p2 f3 w3 ⊢;let sz2:qt.size=iF.size:=by rw[<- cC,p2.length_eq,cC]
    refine aa (gv _ _ _ ?_);refine aa (wpAny_storeSet_of g1 rfl ?_ (fits_of_scanBound ()));refine au (au (h _ _ (HM.trans (bX _ a _)) ?_));let g2:((s.heap.update a (Obj.putSet iF t2)).update a (Obj.putSet qt t3)).get? a=some { o with data:=.set qt (ep+1+1) t3 }:=by
     have:=bu (Obj.putSet qt t3) g1 (by rfl);exact this
    exact#[_,qt,_,t3,g2,hx,rfl,JF.perm p2,(p2.map _).trans k1,n1,by omega,f3,w3]
   .exact au (au (h _ _ HM #[_,iF,_,t2,g1,hx,rfl,JF,k1,n1,by omega,f1 |> λz=>f2,w2]))
  split
  .refine aa (fz (hashByValue_scannable 8 rfl) ?_);exact fin _ f1 w1
  .refine aa (au ?_);exact fin _ f1 w1
def aJ5:entryFor table "set.__iter__"=some Builtin.«frozenset.__iter__» :=
 entryFor_alias (id':="frozenset.__iter__") (by kernel_rfl) rfl #[] (by kernel_rfl)
def E7:Slot "set_iterator" "__next__" "set_iterator.__next__" :=
 .of (owner:="set_iterator") (n:="__next__") (by rw[typeLookup_type,builtinLookup_eq_fast];kernel_rfl) #[] #[] #[]
  (by first|exact .inl #[]|exact .inr #[]) (by rw[gG];kernel_rfl)
def Mi:entryFor table "set_iterator.__next__"=some Builtin.«set_iterator.__next__»:=entryFor_of_tree (by kernel_rfl)
def MA(a:Value):argsOk "set_iterator.__next__" #[[a],[]]:=by
 unfold argsOk
 kernel_rfl
def MF:Slot "set_iterator" "__iter__" "set_iterator.__iter__" :=
 .of (owner:="set_iterator") (n:="__iter__") (by rw[typeLookup_type,builtinLookup_eq_fast];kernel_rfl) #[] #[] #[]
  (by first|exact .inl #[]|exact .inr #[]) (by rw[gG];kernel_rfl)
def aM8:entryFor table "set_iterator.__iter__"=some Builtin.«dict_keyiterator.__iter__» :=
 entryFor_alias (id':="dict_keyiterator.__iter__") (by kernel_rfl) rfl #[] (by kernel_rfl)
def aL1(a:Value):argsOk "set_iterator.__iter__" #[[a],[]]:=by
 unfold argsOk
 kernel_rfl
inductive Rd|text|plain|drawn
structure Lies(h:Heap)(a:Addr)(es:Array (Int×Value))(ep:Nat)(t:SetTable):Prop where
 at_:∃o,h.get? a=!o/\o.cls=.type "set"/\o.data=.set es ep t
 fit:t.fits es.size=true
def Lies.at(x:Lies h a es ep t)(k:∀o,h.get? a=!o->h'.get? a=!o):Lies h' a es ep t :=
 #[let ⟨o,e,r⟩:=x.at_;#[o,k o e,r],x.fit]
abbrev G0(h:Heap)(I a:Addr)(f:Value)(i n ep:Nat):Prop:=∃o,h.get? I=!o/\o.cls=.type "set_iterator"/\o.data=.fields (List.toArray [f,rawInt i,.ref a,rawInt n,rawInt ep])
def G0.at(x:G0 h I a f i n ep)(k:∀o,h.get? I=!o->h'.get? I=!o):G0 h' I a f i n ep:=let ⟨o,e,r⟩:=x;#[o,k o e,r]
def G0.ty(x:G0 s.heap I a f i n ep):s.TypeIs (.ref I) "set_iterator":=let ⟨o,e,c,_⟩:=x;#[o,e,c]
abbrev yh(w:World)(a:Addr)(es:Array (Int×Value))(ep:Nat)(pl:@&Nat):Rd->@&Value
 |.text=>(pickOrder (w.params.setOrder a ep) es).toList.map (·.2)
 |.plain=>es.toList.map (·.2)
 |.drawn=>pl.map λj=>(es.getD j (0,.none)).2
abbrev slotAt(t:SetTable):Nat->Nat
 |0=>0
 |i+1=>t.place.getD i 0+1
abbrev Q7(h:Heap)(t:SetTable)(b:Addr)(pl:@&Nat)(i:Nat)(f:Value):Rd->Prop
 |.text=>∃k:Nat,f=rawInt k
 |.plain=>f=rawInt (slotAt t i)
 |.drawn=>f=.ref b/\∃o e,h.get? b=!o/\o.cls=.type "tuple"/\o.data=.seq (pl.map λj=>rawInt (j:Nat)).toArray e
abbrev vi(w:World)(es:Array (Int×Value))(t:SetTable)(pl:@&Nat):Rd->Prop
 |.text=>w.params.followText "set-order"=true
 |.plain=>w.params.followText "set-order"=false/\(t.plain=true\/es.size<=1)/\Well true t
 |.drawn=>w.params.followText "set-order"=false/\pl.Perm (List.range es.size)
def ym{Q:Bool->Shared->Prop}(h:Q (w.params.followText "set-order") s):wpAny (model prog w) A setsByText Q E s:=by
 exact aa (su (au h))
def Lq(hL:Lies s.heap a es ep t)(ht:w.params.followText "set-order"=true){sl g:Nat}{Q:Option (Value×Nat)->Shared->Prop}(h:Q (((pickOrder (w.params.setOrder a ep) es)[g]?).map λe=>(e.2,sl)) s) :
  wpAny (model prog w) A (setNext a sl g ep) Q E s:=by
 let#[o,ho,_,hd]:=hL.at_;refine aa (cU ho hd hL.fit ?_);refine aa (ym ?_);rw[ht,aI rfl,aE #[_]];refine aa (aa (cU ho hd hL.fit ?_));refine aa (ym ?_);rw[ht,aI rfl];exact aa (su (au (au h)))
def LW(hL:Lies s.heap a es ep t)(ht:w.params.followText "set-order"=false)(hp:t.plain=true\/es.size<=1)(hl:t.led=true){sl g:Nat}{Q:Option (Value×Nat)->Shared->Prop}(h:Q (match es[SetTable.below t.place sl]?,t.place[SetTable.below t.place sl]? with|some (_,x),!j=>!(x,j+1)|_,_=>none) s):wpAny (model prog w) A (setNext a sl g ep) Q E s:=by
 let#[o,ho,_,hd]:=hL.at_;refine aa (cU ho hd hL.fit ?_);refine aa (ym ?_);rw[ht,aE ∅];change wpAny _ _ (if(~~~t.plain&&decide (es.size>1))=true then _ else _) _ _ _;rw[aE (by rcases hp with e|e<;>simp[e])];refine aa (fz (a:=Unit.unit) ?_ (au h));show((if(~~~t.led&&~~~es.isEmpty)=true then unsupported "set:maker-not-led" else pure Unit.unit):Sem Unit)=pure Unit.unit;rw[hl]
 rfl
def aV1(hL:Lies s.heap a es ep t)(hj:j<es.size)(h:Q (es.getD j (0,.none)).2 s):wpAny (model prog w) A (setNextDrawn a j ep) Q E s:=by
 let#[o,ho,_,hd]:=hL.at_;refine aa (cU ho hd hL.fit ?_);dsimp only;rw[aE #[_]];let e:es[j]?=!es.getD j (0,.none):=by simp_all
 rw[e];exact au h
def Oq(hL:Lies s.heap a es ep t):t.place.size=es.size:=by
 have:=hL.fit;unfold SetTable.fits at this;simp at this;exact this.1
def LC(hw:lZ t.place)(hi:i<=t.place.size):SetTable.below t.place (slotAt t i)=i:=by
 cases i with
 |zero=>exact aY2 hw
 |succ i=>exact aY3 hw ()
def entries{Q:Array (Int×Value)->Shared->Prop}(hL:Lies s.heap a es ep t)(h:Q es s):wpAny (model prog w) A (setEntries a) Q E s:=by
 let#[o,ho,_,hd]:=hL.at_;exact aa (cU ho hd hL.fit (au h))
def Ye{f':Value}(hi:G0 h I a f i n ep)(hx:x=rawInt ((i:Int)+1)):G0 ((h.update I (Obj.mapFields (·.setIfInBounds 0 f'))).update I (Obj.mapFields (·.setIfInBounds 1 x))) I a f' (i+1) n ep:=by
 let#[o,ho,hc,hd]:=hi;let h1:=bu (Obj.mapFields (·.setIfInBounds 0 f')) ho (dY (bP hd _));let d1:(Obj.mapFields (·.setIfInBounds 0 f') o).data=.fields (List.toArray [f',rawInt i,.ref a,rawInt n,rawInt ep]):=by rw[bP hd];simp
 let h2:=bu (Obj.mapFields (·.setIfInBounds 1 x)) h1 (dY (bP d1 _));refine#[_,h2,(pR ..).trans ((pR ..).trans hc),?_];rw[bP d1]
 simp_all
def Yd(hi:G0 h I a f i n ep)(hx:x=rawInt ((i:Int)+1)):G0 (h.update I (Obj.mapFields (·.setIfInBounds 1 x))) I a f (i+1) n ep:=by
 let#[o,ho,hc,hd]:=hi;let h2:=bu (Obj.mapFields (·.setIfInBounds 1 x)) ho (dY (bP hd _));refine#[_,h2,(pR ..).trans hc,?_];rw[bP hd];subst hx;simp[rawInt]
def JS{f':Value}{m:Sem α}{Q':α->Shared->Prop}(hi:G0 s.heap I a f i n ep)(hx:x=rawInt ((i:Int)+1))(h:∀h',G0 h' I a f' (i+1) n ep->Heap.SameBut I s.heap h'->wpAny (model prog w) A m Q' E { s with heap:=h' }) :
  wpAny (model prog w) A (do setField (.ref I) 0 f';setField (.ref I) 1 x;m) Q' E s:=by
 let#[o,ho,hc,hd]:=id hi;refine aa (eU ho hd #[_] ?_);let h1:=bu (Obj.mapFields (·.setIfInBounds 0 f')) ho (dY (bP hd _));let d1:(Obj.mapFields (·.setIfInBounds 0 f') o).data=.fields (List.toArray [f',rawInt i,.ref a,rawInt n,rawInt ep]):=by rw[bP hd];simp
 refine aa (eU (s:={ s with heap:=_ }) h1 d1 #[_] ?_);exact h _ (Ye hi hx) ((bX ..).trans (bX ..))
def YK{m:Sem α}{Q':α->Shared->Prop}(hi:G0 s.heap I a f i n ep)(hx:x=rawInt ((i:Int)+1))(h:∀h',G0 h' I a f (i+1) n ep->Heap.SameBut I s.heap h'->wpAny (model prog w) A m Q' E { s with heap:=h' }) :
  wpAny (model prog w) A (do setField (.ref I) 1 x;m) Q' E s:=by
 let#[o,ho,hc,hd]:=id hi;refine aa (eU ho hd #[_] ?_);exact h _ (Yd hi hx) (bX ..)
def EZ(next:Nat->Nat)(xs:Array α):(pickOrder next xs).toList.Perm xs.toList:=by
 let go:∀(fuel k:Nat) (left:List α) (out:Array α),fuel=-left->(pickOrder.go next fuel k left out).toList.Perm (out.toList++left):=by
  intro fuel
  induction fuel with
  |zero =>
   intro k left out e;have:left=[]:=eO e.symm;subst this;simp[pickOrder.go]
  |succ n ih =>
   intro k left out e;let eE:next k % (-left)< -left:=Pu _ ()
   unfold pickOrder.go;rw[ag eE];refine(ih _ _ _ (by rw[hX eE];omega)).trans ?_;rw[dQ,bW];refine eV _ ?_;have:left.Perm (left[next k % (-left)]::left.eraseIdx (next k % (-left))):=by
    rw[mK]
    conv=>lhs;rw[<- bN (next k % (-left)) left,dH eE]
    exact List.perm_middle
   exact this.symm
 have:=go xs.size 0 xs.toList (List.toArray []) #[_];simpa[pickOrder] using this
def next_item{Q:Option Value->Shared->Prop}(hL:Lies s.heap a es ep t)(hr:vi w es t pl r)(hi:G0 s.heap I a f i es.size ep)(hf:Q7 s.heap t b pl i f r)(fQ:b≠I)(eE:i<es.size)(h:∀v h' f',(yh w a es ep pl r)[i]?=!v->G0 h' I a f' (i+1) es.size ep->Q7 h' t b pl (i+1) f' r->Heap.SameBut I s.heap h'->Q (!v) { s with heap:=h' }):wpAny (model prog w) A (pyNext (.ref I)) Q E s:=by
 let#[o,ho,hc,hd]:=id hi;refine aa (nJ (gs (name:=Str.ofString "__next__") hi.ty E7 (de E7 hi.ty Mi ?_ (MA _))));refine aa (au ?_);refine aa (wpAny_fieldsOf ho hd ?_);refine aa (entries hL ?_);rw[aE #[_]];rw[dP,dP];cases r with
 |text =>
  let#[k,rfl]:=hf;refine aa (Lq hL hr ?_);let hl:i<(pickOrder (w.params.setOrder a ep) es).size:=by
   have:=(EZ (w.params.setOrder a ep) es).length_eq
   simp_all
  rw[qZ hl];refine JS hi rfl λh' h1 h2=>au #[_,rfl,au (h _ _ _ ?_ h1 #[_,rfl] h2)];show((pickOrder (w.params.setOrder a ep) es).toList.map (·.2))[i]?=_;simp[hl]
 |plain =>
  let#[r1,r2,r3]:=hr;let hs:=Oq hL;obtain rfl:=hf;dsimp only[rawInt];rw[dP];refine aa (LW hL r1 r2 r3.led ?_);rw[LC r3.zp (),qZ eE,getD_mem ()];refine JS hi rfl λh' h1 h2=>au #[_,rfl,au (h _ _ _ ?_ h1 rfl h2)];show(es.toList.map (·.2))[i]?=_;simp[eE]
 |drawn =>
  let#[r1,r2]:=hr;let#[rfl,ob,e,hb,Jk,zR]:=hf;let ir:i< -pl:=by rw[r2.length_eq];simpa using eE
  refine aa (wpAny_seqItems hb zR ?_);let hj:pl[i]<es.size:=by
   have:=r2.mem_iff.mp (cK ir)
   simp_all
  let e1:(pl.map λj=>rawInt (j:Nat)).toArray[i]?=!rawInt (pl[i]:Nat):=by simp[ir]
  dsimp only;rw[e1];refine aa (aV1 hL hj ?_);refine YK hi rfl λh' h1 h2=>au #[_,rfl,au (h _ _ _ ?_ h1 #[rfl,ob,e,by rw[h2.2 b fQ];exact hb,Jk,zR] h2)];show(pl.map λj=>(es.getD j (0,.none)).2)[i]?=_;simp[ir]
def Fd{Q:Option Value->Shared->Prop}{h0:Heap}(hh:A.handled=none)(Sv:Heap.ExtBut I h0 s.heap)(h:∀h',Heap.ExtBut I h0 h'->Q none { s with heap:=h' }) :
  wpAny (model prog w) A.in1 (newExc (.type "StopIteration") [] >>= λe=>(raiseNew e:Sem Fin)) (λfin s'=>∃v,fin=Fin.done (Flow.ret v)/\wpAny (model prog w) A (pure (!v)) Q E s')
   (λe s'=>wpAny (model prog w) A (do
     let x <- isInstance e (Value.type "StopIteration")
     if x=true then pure none else throw e) Q E s') s:=by
 refine aa ?_;refine aa (eF ?_ (by size_fits));refine aa (m:=firstArgMember _ _) (fz (a:=Value.none) (by rfl) ?_);refine eF ?_ (by size_fits);refine aa (wpAny_handled ?_);rw[show A.in1.handled=none from hh];refine aa (au (wpAny_throw ?_));refine aa (fM (T:="StopIteration") (b:=true) #[_,aG _ rfl,rfl] isSubtype_stop ?_);exact au (h _ ((Sv.push _).push _))
def next_end{Q:Option Value->Shared->Prop}(hh:A.handled=none)(hL:Lies s.heap a es ep t)(hr:vi w es t pl r)(hi:G0 s.heap I a f es.size es.size ep)(hf:Q7 s.heap t b pl es.size f r)(fQ:b≠I)(h:∀h',Heap.ExtBut I s.heap h'->Q none { s with heap:=h' }):wpAny (model prog w) A (pyNext (.ref I)) Q E s:=by
 let#[o,ho,hc,hd]:=id hi;refine aa (nJ (gs (name:=Str.ofString "__next__") hi.ty E7 (de E7 hi.ty Mi ?_ (MA _))));refine aa (au ?_);refine aa (wpAny_fieldsOf ho hd ?_);refine aa (entries hL ?_);rw[aE #[_]];rw[dP,dP];cases r with
 |text =>
  let#[k,rfl]:=hf;refine aa (Lq hL hr ?_);let hl:(pickOrder (w.params.setOrder a ep) es).size<=es.size:=by
   have:=(EZ (w.params.setOrder a ep) es).length_eq
   grind
  rw[vT hl];refine aa (eU ho hd #[_] ?_);exact Fd (s:={ s with heap:=_ }) hh (bX ..).extBut h
 |plain =>
  let#[r1,r2,r3]:=hr;let hs:=Oq hL;obtain rfl:=hf;dsimp only[rawInt];rw[dP];refine aa (LW hL r1 r2 r3.led ?_);rw[LC r3.zp (),vT (av _)];refine aa (eU ho hd #[_] ?_);exact Fd (s:={ s with heap:=_ }) hh (bX ..).extBut h
 |drawn =>
  let#[r1,r2]:=hr;let#[rfl,ob,e,hb,Jk,zR]:=hf;let ir:-pl=es.size:=by rw[r2.length_eq];simp
  refine aa (wpAny_seqItems hb zR ?_);let e1:(pl.map λj=>rawInt (j:Nat)).toArray[es.size]?=none:=by simp[ir]
  dsimp only;rw[e1];refine aa (eU ho hd #[_] ?_);let h1:=bu (Obj.mapFields (·.setIfInBounds 0 (Value.int 0 0))) ho (dY (bP hd _));refine aa (eU (s:={ s with heap:=_ }) h1 (bP hd _) #[_] ?_);exact Fd (s:={ s with heap:=_ }) hh ((bX ..).trans (bX ..)).extBut h
def a28{l:List α}(eE:k< -l):(l[k]::l.eraseIdx k).Perm l:=by
 rw[mK]
 conv=>rhs;rw[<- bN k l,dH eE]
 exact List.perm_middle.symm
def LH{α:Type}:∀(n:Nat) (xs:List α) (s:Shared) (Q:List α->Shared->Prop),n=-xs->(∀ys d,ys.Perm xs->Q ys { s with drawn:=d })->wpAny (model prog w) A (drawOrder n xs) Q E s
 |0,xs,s,Q,e,h=>by
  have:xs=[]:=eO e.symm;subst this;exact au (h [] s.drawn (jW _))
 |n+1,[],s,Q,e,h=>by simp at e
 |n+1,x::xs,s,Q,e,h=>by
  refine aa ?_;intro Γ p hΓ;refine#[by simp,?_];generalize (model prog w).w.draws .order (s.drawn.get .order)=k;let eE:k % (x::xs).length<(x::xs).length:=Pu _ #[_];let go:wpAny (model prog w) A (match (x :: xs)[k % (x :: xs).length]? with
   |some y=>do
    let ys <- drawOrder n ((x::xs).eraseIdx (k % (x::xs).length))
    pure (y::ys)
   | none=>unsupported "internal:drawOrder") Q E { s with drawn:=s.drawn.bump .order }:=by
   rw[ag eE];refine aa (LH n _ _ _ (by rw[hX eE];omega) λys d hp=>au ?_);exact h _ d ((List.Perm.cons _ hp).trans (a28 eE))
  exact go
def Oa(hr:vi w es t pl r):(yh w a es ep pl r).Perm (es.toList.map (·.2)):=by
 cases r with
 |text=>exact(EZ _ es).map _
 |plain=>rfl
 |drawn =>
  refine(hr.2.map _).trans ?_;have:(List.range es.size).map (λj=>(es.getD j (0,.none)).2)=es.toList.map (·.2):=by
   apply List.ext_getElem
   .simp
   simp_all
  rw[this]
def Lies.ty(hL:Lies s.heap a es ep t):s.TypeIs (.ref a) "set":=let ⟨o,e,c,_⟩:=hL.at_;#[o,e,c]
def a96(hL:Lies s.heap a es ep t)(hw:Well (Led w) t)(hz:es.size<=10000)(h:∀r pl b f I h' d',vi w es t pl r->G0 h' I a f 0 es.size ep->Q7 h' t b pl 0 f r->b≠I->(b=a\/s⁻¹<=b)->(∀c o,s.heap.get? c=!o->h'.get? c=!o)->s⁻¹<=I->s⁻¹<=h'.objs.size->Q (.ref I) { s with heap:=h',drawn:=d' }) :
  wpAny (model prog w) A (pyIter (.ref a)) Q E s:=by
 let#[o,ho,CN,hd]:=hL.at_;refine wpAny_pyIter_slot hL.ty F.slot_set_iter (de F.slot_set_iter hL.ty aJ5 ?_ (F.args_set_iter_1 _));refine aa (au ?_);refine aa (aa (entries hL (au ?_)));refine aa (aa (cU ho hd hL.fit ?_));refine aa (ym (au ?_));let eE:=aB ho;let fin:∀(r:Rd) (f:Value) (b:Addr) (pl:@&Nat) (h1:Heap) (d1:Drawn),vi w es t pl r->(∀h',(∀c o,h1.get? c=!o->h'.get? c=!o)->Q7 h' t b pl 0 f r)->b<h1.objs.size->(b=a\/s⁻¹<=b)->(∀c o,s.heap.get? c=!o->h1.get? c=!o)->s⁻¹<=h1.objs.size ->
   wpAny (model prog w) A.in1 (do
    let e <- setEpoch a
    ret (<- newFields "set_iterator" [f,rawInt 0,.ref a,rawInt es.size,rawInt e])) (λfin s'=>∃ v,fin=Fin.done (Flow.ret v)/\∃ T' r,s'.TypeIs v T'/\typeLookup (.type T') "__next__"=pure (!r)/\Q v s') E { s with heap:=h1,drawn:=d1 }:=λr f b pl h1 d1 hr hf hb uR he hsz=>by
  let uV:Lies h1 a es ep t:=hL.at λo e=>he a o e;let#[o1,rD,_,Jh]:=uV.at_;refine aa (aa (cU (s:={ s with heap:=h1,drawn:=d1 }) rD Jh uV.fit (au ?_)));refine aa (eF (au #[_,rfl,"set_iterator",_,#[_,aG _ rfl,rfl],E7.lookup,?_]));refine h r pl b f h1.objs.size _ d1 hr #[_,aG _ rfl,rfl,rfl] (hf _ λc o e=>ao _ e) (aO hb) uR (λc o e=>ao _ (he c o e)) hsz (by rw[size_push'];exact Nat.le_succ_of_le hsz)
 cases hT:w.params.followText "set-order" with
 |true =>
  refine aa (au ?_);exact fin .text (rawInt 0) a [] s.heap s.drawn hT (λh' x=>#[0,rfl]) eE (.inl rfl) (λc o e=>e) (av _)
 |false =>
  change wpAny _ _ (if(~~~false&&(~~~t.plain&&decide (es.size>1)))=true then _ else _ ) _ _ _;by_cases hp:t.plain=true\/es.size<=1
  .rw[aE (by rcases hp with e|e<;>simp[e])];refine aa (au ?_);refine fin .plain (rawInt 0) a [] s.heap s.drawn #[hT,hp,?_] (λh' x=>rfl) eE (.inl rfl) (λc o e=>e) (av _);have:Led w=true:=by unfold Led;rw[hT];rfl
   simp_all
  .rw[aI (by grind)];refine aa (LH _ _ _ _ (fX).symm λys d hy=>?_);let hl:-ys=es.size:=by rw[hy.length_eq];simp
   refine aa (eF ?_ (by show(List.map _ ys).toArray.size<=sizeLine;rw[aY,ak,hl];exact aD hz ∅));refine fin .drawn (.ref s⁻¹) s⁻¹ ys _ d #[hT,hy] (λh' hk=>#[rfl,_,_,hk _ _ (aG _ rfl),rfl,rfl]) #[_] (.inr (av _)) (λc o e=>ao _ e) #[_]
def a10(hh:A.handled=none)(hr:vi w es t pl r)(fQ:b≠I)(IL:a≠I) :
  Walks prog w A I [I,a,b] [I] es.size (λi v=>(yh w a es ep pl r)[i]?=!v) (λi h=>Lies h a es ep t/\∃f,G0 h I a f i es.size ep/\Q7 h t b pl i f r) where
 sub:=λc hc=>by simp_all
 frame:=λi h h' st hk=>by
  let#[hL,f,hi,hf]:=st;refine#[hL.at λo e=>hk a #[_] o e,f,hi.at λo e=>hk I #[_] o e,?_];cases r with
  |text=>exact hf
  |plain=>exact hf
  |drawn =>
   let#[e1,o,e,h1,h2]:=hf;exact#[e1,o,e,hk b #[_] o h1,h2]
 item:=λi s Q E hi st hQ=>by
  let#[hL,f,hI,hf]:=st;exact next_item hL hr hI hf fQ hi λv h' f' hv h1 h2 h3=>hQ v h' s.toks hv #[hL.at λo e=>by rw[h3.2 a IL];exact e,f',h1,h2] λc o hc e=>h3.extBut c o (λz=>hc (by simp[z])) e
 done:=λs Q E st hQ=>by
  let#[hL,f,hI,hf]:=st;exact next_end hh hL hr hI hf fQ λh' he=>hQ h' s.toks λc o hc e=>he c o (λz=>hc (by simp[z])) e
 self:=λi s Q E st hQ=>by
  let#[hL,f,hI,hf]:=st;refine wpAny_pyIter_slot hI.ty MF (de MF hI.ty aM8 ?_ (aL1 _));exact aa (au (au #[_,rfl,"set_iterator",_,hI.ty,E7.lookup,hQ]))
def aI4:typeLookup (.type "set") "__len__"=pure (!(.builtin "set.__len__")):=by rfl
def aM0(hh:A.handled=none)(hL:Lies s.heap a es ep t)(hw:Well (Led w) t)(hz:es.size<=10000){Q:@&Value->Shared->Prop}(h:∀(vs:@&Value) h' d' kR,vs.Perm (es.toList.map (·.2))->(∀c o,s.heap.get? c=!o->h'.get? c=!o)->s⁻¹<=h'.objs.size->s.toks<=kR->Q vs { s with heap:=h',drawn:=d',toks:=kR }) :
  wpAny (model prog w) A (collect (.ref a)) Q E s:=by
 let eE:a<s⁻¹:=let ⟨o,ho,_⟩:=hL.at_;aB ho
 refine aa (wpAny_runValue (eA F.entry_proto_collect ?_));refine aa (eF ?_);refine au #[gW F.plain_list_iadd _,eA F.entry_list_iadd ?_];let uV:Lies (s.heap.push { cls:=.type "list",data:=.seq ([]:@&Value).toArray }) a es ep t:=hL.at λo e=>ao _ e;let RP:(s.heap.push { cls:=.type "list",data:=.seq ([]:@&Value).toArray }).get? s⁻¹=some { cls:=.type "list",data:=.seq ([]:@&Value).toArray }:=aG _ rfl;let fQ:s⁻¹≠a:=cz eE;let h1:Builtin.List.listSameRef (.ref s⁻¹) (.ref a)=false:=by simp[Builtin.List.listSameRef,fQ]
 change wpAny _ A.in1 (Builtin.List.listExtendWith (.ref s⁻¹) (.ref a) (.ref s⁻¹)) _ _ _;refine aa (eZ (Lies.ty (s:={ s with heap:=_ }) uV) ?_);rw[aE (by rw[h1];decide)];refine aa (a96 (s:={ s with heap:=_ }) uV hw hz λr pl b f I h2 d2 hr hI hf hb RG he Dp h2z=>?_);let tJ:Lies h2 a es ep t:=uV.at λo e=>he a o e;let rG:=he _ _ RP;refine aa (bO ?_);refine aa (wpAny_specialOf (Lies.ty (s:={ s with heap:=h2,drawn:=d2 }) tJ) aI4 ?_);generalize IU:("set.__len__":String)=QG;dsimp only;rw[show splitId QG=some ("set","__len__") from by subst IU;decide +kernel];dsimp only;refine aa (fM (b:=true) (Lies.ty (s:={ s with heap:=h2,drawn:=d2 }) tJ) (by rfl) ?_);rw[aE ∅];subst IU;rw[aI #[]];refine aa (eZ (Lies.ty (s:={ s with heap:=h2,drawn:=d2 }) tJ) ?_);refine au ?_;rw[aI #[]];refine aa (fb ?_);refine aa ?_;change wpAny _ A.in1 (updateSeq s⁻¹ (·.push .none) >>= λx=>updateSeq s⁻¹ (·.pop)) _ _ _;refine aa (wpAny_updateSeq (s:={ s with heap:=h2,drawn:=d2 }) rG rfl ?_);let Jp:=bu (Obj.mapSeq (·.push Value.none)) rG rfl;refine wpAny_updateSeq (s:={ s with heap:=_,drawn:=d2 }) Jp rfl ?_;let RO:=bu (Obj.mapSeq (·.pop)) Jp rfl;let zq:∀c o,c≠s⁻¹->h2.get? c=!o->((h2.update s⁻¹ (Obj.mapSeq (·.push Value.none))).update s⁻¹ (Obj.mapSeq (·.pop))).get? c=!o :=
  λc o hc e=>(dF _ _ (cy hc)).trans ((dF _ _ (cy hc)).trans e)
 let uH:s⁻¹<(s.heap.push { cls:=.type "list",data:=.seq ([]:@&Value).toArray }).objs.size:=by simp
 let hSI:I≠s⁻¹:=cz (aF uH Dp);let hSb:b≠s⁻¹:=by
  rcases RG with z|z
  .rw[z];exact cy fQ
  .exact cz (aF uH z)
 let W:=(a10 (prog:=prog) (w:=w) (A:=A.in1) (a:=a) (b:=b) (I:=I) (es:=es) (ep:=ep) (t:=t) (pl:=pl) hh hr hb (aO (aF (du eE uH) Dp))).toS;let st:Lies h2 a es ep t/\∃f,G0 h2 I a f 0 es.size ep/\Q7 h2 t b pl 0 f r:=#[tJ,f,hI,hf]
 let gL:=W.frame 0 ({ s with heap:=h2,drawn:=d2 }:Shared) _ s.toks st (av _) λc hc o e=>zq c o (λz=>by simp at hc;rcases hc with y|y|y<;>simp_all) e;refine au #[gW F.plain_extend_loop _,codeAny_extend_loopS W (aD hz ∅) _ (λz=>by simp at z;rcases z with y|y|y<;>simp_all) _ es.size 0 _ _ _ rfl (cc _) gL RO (ItemsOf.nil _) λs' yx c' hm mG oO=>?_];change wpAny _ A (load s⁻¹ >>= _) _ _ s';refine aa (wpAny_load mG ?_);refine au ?_;let eS:s'={ s with heap:=s'.heap,drawn:=d2,toks:=s'.toks }:=by
  let#[iU,g',d',kR,sU]:=s';let m1:g'=s.gens:=hm.gens;let m2:d'=d2:=hm.drawn;let m3:sU=s.os:=hm.os
  grind
 let eo:yx.toList=yh w a es ep pl r:=by
  let l1:(yh w a es ep pl r).length=es.size:=by rw[(Oa hr).length_eq];simp
  apply List.ext_getElem
  .rw[l1];simpa using oO.1
  .intro i h1 h2;have:=oO.2 i yx.toList[i] (by simp at h1 ⊢);dsimp only at this;rw[ag h2] at this;exact(aS this).symm
 rw[eo,eS];refine h _ _ d2 s'.toks (Oa hr) (λc o e=>?_) (fj (aB mG)) hm.toks;let hc:c<s⁻¹:=aB e;let n1:c≠s⁻¹:=aO hc;let n2:c≠I:=aO (aF (du hc uH) Dp);exact hm.heap c o (by simp[n1,n2]) (zq c o n1 (he c o (ao _ e)))
def aS8(hh:A.handled=none)(hS:y9 prog w s.heap a ks)(zZ:-ks<=600)(h:∀(S:Addr) (vs:@&Value) (ns:@&Int) e h' d' kR,IntsAre vs ns->ns.Perm ks->ns.Pairwise (·<=·)->h'.get? S=!(seqObj "list" vs.toArray e)->s⁻¹<=S->(∀c o,s.heap.get? c=!o->h'.get? c=!o)->s.toks<=kR->Q (.ref S) { s with heap:=h',drawn:=d',toks:=kR }) :
  wpAny (model prog w) A (call (.builtin "sorted") [.ref a]) Q E s:=by
 let#[o,es,ep,t,ho,hx,hd,oK,hp,hn,hb,hf,hw]:=hS;let hL:Lies s.heap a es ep t:=#[#[o,ho,hx.1,hd],hf]
 let hz:es.size=-ks:=by rw[<- hp.length_eq];simp
 refine Hv kind_sorted plain_sorted entry_sorted (args_sorted1 _) ?_;unfold Builtin.«sorted»;refine aa (m:=checkCount "sorted" 1 1 _) (au ?_);refine aa (aM0 (A:=A.in1) hh hL hw () λvs h1 d1 vY hv he uH wZ=>?_);let hI:IntsAre vs (vs.map toI):=by
  let all:∀v∈vs,∃tk,v=.int (toI v) tk:=λv CG=>by
   let#[e,lW,rfl]:=aP.mp (hv.mem_iff.mp CG);let#[tk,h1,_]:=AF oK lW;exact#[tk,h1]
  clear hv
  induction vs with
  |nil=>exact .nil
  |cons v r ih =>
   let#[tk,e]:=all v #[_];have:=IntsAre.cons (toI v) tk (ih λu hu=>all u (by simp[hu]));rw[<- e] at this;exact this
 let hk:(vs.map toI).Perm ks:=by
  refine(hv.map toI).trans ?_;rw[bB];exact hp
 let hl:-vs<=100000:=by rw[hv.length_eq];simp;omega
 refine aa (Pn (s:={ s with heap:=h1,drawn:=d1,toks:=vY }) ?_);let qe:(h1.push (seqObj "list" vs.toArray 0)).get? h1.objs.size=!(seqObj "list" vs.toArray 0):=aG _ rfl;refine aa (bO (de (s:={ s with heap:=h1.push (seqObj "list" vs.toArray 0),drawn:=d1,toks:=vY }) slot_list_sort #[_,qe,rfl] entry_list_sort (TS.Oi qe hI hl λout lD a1 a2 a3=>#[_,rfl,?_]) (args_list_sort _)));let#[e,lW]:=sortedHeap_at (vs:=vs) (out:=out) qe;refine au #[_,rfl,h h1.objs.size out.toList lD e _ d1 vY a1 (a2.trans hk) a3 lW uH (λc o' e'=>?_) wZ];let hc:=aB (he c o' e');rw[sortedHeap_old (aO hc) (by rw[size_push'];exact iG hc)];exact ao _ (he c o' e')
abbrev i9(ks xs:@&Int):@&Int:=xs.foldl E5 ks
def O8:∀(xs ks:@&Int),(i9 ks xs).length<=-ks+-xs
 |[],ks=>by simp[i9]
 |x::xs,ks=>by
  have:=O8 xs (E5 ks x);let h2:=Wu ks x;show(i9 (E5 ks x) xs).length<=_
  grind
set_option tactic.hygienic true in
def U5:∀(xs ks:@&Int) (k:Int),k∈i9 ks xs↔k∈ks\/k∈xs
 |[],ks,k=>by simp[i9]
 |x::xs,ks,k=>by
  change k∈i9 (E5 ks x) xs↔_;rw[U5 xs];unfold E5;split
  .rename_i h;constructor
   .rintro(a|a)
    .exact .inl a
    .exact .inr (by simp[a])
   .rintro(a|a)
    .exact .inl a
    .rcases aL.mp a with rfl|b
     .exact .inl h
     .exact .inr b
  .simp[or_assoc]
set_option tactic.hygienic true in
def Fu:∀(xs ks:@&Int),ks.Nodup->(i9 ks xs).Nodup
 |[],ks,h=>h
 |x::xs,ks,h=>by
  refine Fu xs _ ?_;unfold E5;split
  .exact h
  .rename_i hk;rw[cE];exact#[h,by simp,λa ha b hb=>by simp at hb;subst hb;exact λz=>hk (z▸ha)]
def aW9:Well (Led w) (SetTable.fresh 0 0 (Led w)):=#[by simp[lZ,SetTable.fresh],rfl,rfl]
def Lf(e:h.get? a=some { cls:=.type "set",dict:=none,data:=.set (List.toArray []) 0 (.fresh 0 0 (Led w)) }):y9 prog w h a [] :=
 #[_,(List.toArray []),0,_,e,#[rfl,rfl,rfl],rfl,(by intro e he;simp at he),by simp,by simp,by decide,by rfl,aW9]
def a84{R:Result->Shared->Prop}{fp wr:@&Addr}{G:Array GenState->Array GenState->Prop}{P:Nat->Value->Prop}{St:Nat->Shared->Prop}(W:WalksS prog w A.in1 I fp wr G n P St)(Jo:a∉fp)(hn:n=-ns)(hv:∀i v,P i v->∃tk,v=.int (ns.getD i 0) tk)(hb:n+1<scanBound):∀(k i:Nat) (s:Shared),i+k=n->St i s->y9 prog w s.heap a (i9 [] (ns.take i)) ->
   (∀s',Moved (a::wr) G s s'->y9 prog w s'.heap a (i9 [] ns)->R (.ok (.ret .none)) s')->codeAny (model prog w) A (.builtin "set.update.loop" #[[.ref a,.ref I],[]]) R s:=by
 let hw:a∉wr:=λh=>Jo (W.sub _ h);let oo:∀b∈wr,b∈a::wr:=λb hb=>by simp[hb]
 intro k
 induction k with
 |zero =>
  intro i s e st hS hR;obtain rfl:i=n:=by omega
  refine eA kC ?_;refine aa (W.done s _ _ st λs' m=>au (hR s' (m.mono oo) (y9.at ?_ λo e=>m.heap a o hw e)))
  simp_all
 |succ k ih =>
  intro i s e st hS hR;let eE:i< -ns:=by omega
  refine eA kC ?_;refine aa (W.item i s _ _ () st λv s' hP bp m=>?_);let#[tk,rfl]:=hv i v hP;let mG:=y9.at hS λo e=>m.heap a o hw e;let hl:=O8 (ns.take i) [];rw[dA] at hl;simp only[List.length_nil] at hl;refine aa (bO ?_);refine bO (aa ((intKind prog w).pyHash (k:=ns.getD i 0) (fA _ _ _ _) ?_));refine JZ (s:={ s' with toks:=s'.toks+1 }) mG () λh' bb sb rG=>?_;let e2:E5 (i9 [] (ns.take i)) (ns.getD i 0)=i9 [] (ns.take (i+1)):=by
   unfold i9;rw[bE,List.foldl_append,ag eE];simp[List.getD,eE]
  rw[e2] at rG;refine au #[gW PyProof.Rows.F.plain_set_update_loop _,ih (i+1) _ () (W.frame _ s' _ _ bp (cR _) λb hb o e=>by rw[sb.2 b λz=>Jo (z▸hb)];exact e) rG λs2 m2 h2=>?_];exact hR s2 (Moved.trans W.gtrans ((m.mono oo).then_heap (cR _) λb o hb e=>by rw[sb.2 b λz=>hb (by rw[z];simp)];exact e) m2) h2
noncomputable abbrev A9(w:World):Obj:={ cls:=.type "set",dict:=none,data:=.set (List.toArray []) 0 (.fresh 0 0 (Led w)) }
def Nn(h:Q (.ref s⁻¹) { s with heap:=s.heap.push (A9 w) }):wpAny (model prog w) A (newSet (.type "set")) Q E s:=by
 refine aa (ym ?_);exact eF h (cc _)
def WA(x:Value)(h:Q (.ref s⁻¹) { s with heap:=s.heap.push (A9 w) }):codeAny (model prog w) A (.call (.builtin "set.__new__") #[[.type "set",x],[]]) (wants Q E) s:=by
 refine vN (?_:wpAny _ A.in1 (do
  checkBuiltinCall "set.__new__" #[[.type "set",x],[]]
  again (.builtin "set.__new__" #[[.type "set",x],[]])) _ _ s)
 refine aa (fz (F.newCall_set_1 x) (au #[gW F.plain_set_new _,?_]));refine eA F.entry_set_new ?_;let sub:=sub_set_self;refine aa (m:=Builtin.Frozenset.newClass "set" _) ?_;refine aa (fz (a:=true) (by rfl) ?_);refine aa (fz sub ?_);refine au ?_;exact aa (Nn (au h))
def AM{vs:@&Value}(h:IntsAre vs ns):-vs=-ns:=by
 induction h with
 |nil=>rfl
 |cons n t r ih=>simp[ih]
abbrev yE(h:Heap)(l:Addr)(items:Array Value):Prop:=h.IsList l items\/h.IsTuple l items
def yE.lt(x:yE h l items):l<h.objs.size:=by
 rcases x with⟨_,e,_⟩|⟨_,e,_⟩<;>exact aB e
def WQ{Q:Fin->Shared->Prop}(hh:A.handled=none)(hS:s.heap.get? a=!A9 w)(hl:yE s.heap l items)(hi:IntsAre items.toList ns)(hb:items.size+1<scanBound)(fQ:a≠l)(h:∀h' tk,y9 prog w h' a (i9 [] ns)->(∀b o,b≠a->s.heap.get? b=!o->h'.get? b=!o)->s.toks<=tk->wpAny (model prog w) A (ret .none) Q E { s with heap:=h',toks:=tk }) :
  wpAny (model prog w) A (Builtin.«set.__init__» #[[.ref a,.ref l],[]]) Q E s:=by
 let hT:s.TypeIs (.ref a) "set":=#[_,hS,rfl]
 let eE:=hl.lt;let zF:l≠s⁻¹:=aO eE;refine aa (fz (a:=Unit.unit) rfl ?_);let nm:∀{Q':String->Shared->Prop},(∀x,Q' x s)->wpAny (model prog w) A (typeNameOfCut 200 (.ref a)) Q' E s:=λ{Q'} q=>by
  refine aa (aa (eZ hT ?_));refine au (fz (a:="set") ?_ (q _))
  rfl
 refine aa (nm λx=>?_);refine aa (m:=checkCount _ 0 1 _) (au ?_);refine aa (m:=Builtin.Frozenset.addrOf _) (au ?_);refine aa (aa (cU hS rfl rfl (au ?_)));rw[aE (by unfold SetTable.fill;simp[SetTable.fresh])];unfold Builtin.Frozenset.updateFrom Builtin.Frozenset.isAnySet;obtain⟨c,uP,xB,it,hit,IS,St,W,fh⟩:∃c:String,(c="list"\/c="tuple")/\s.TypeIs (.ref l) c/\∃it:Obj,(∀Q':Value->Shared->Prop,Q' (.ref s⁻¹) { s with heap:=s.heap.push it }->wpAny (model prog w) A (pyIter (.ref l)) Q' E s) /\
   (∀b o,s.heap.get? b=!o->(s.heap.push it).get? b=!o)/\∃St:Nat->Shared->Prop,WalksS prog w A.in1 s⁻¹ [s⁻¹,l] [s⁻¹] (λa b=>b=a) items.size (λi v=>items[i]?=!v) St/\St 0 { s with heap:=s.heap.push it }:=by
  rcases hl with hl|hl
  .let#[o,ho,hc,_]:=id hl;exact#["list",.inl rfl,#[o,ho,hc],_,λQ' q=>gF hl q,λb o e=>ao _ e,_,(BD (A:=A.in1) hh _ l zF items).toS,#[#[_,aG _ rfl,rfl,rfl],hl.push _]]
  .let#[o,ho,hc,_]:=id hl;exact#["tuple",.inr rfl,#[o,ho,hc],_,λQ' q=>wpAny_pyIter_tuple hl q,λb o e=>ao _ e,_,(Walks.tuple (A:=A.in1) hh _ l zF items).toS,#[#[_,aG _ rfl,rfl,rfl],hl.push _]]
 refine aa (aa (aa (fM (b:=false) xB (by rcases uP with rfl|rfl<;>(rw[gG];kernel_rfl)) ?_)));change wpAny (model prog w) A (isInstance (Value.ref l) (Value.type "frozenset")) _ _ _;refine fM (b:=false) xB (by rcases uP with rfl|rfl<;>(rw[gG];kernel_rfl)) ?_;rw[aE ∅];refine aa (eZ xB ?_);rw[aE (by rcases uP with rfl|rfl<;>decide)];refine aa (hit _ ?_);refine aa (wpAny_runValue ?_);let RJ:a<s⁻¹:=aB hS;let hsz:items.size=-ns:=by exact AM hi
 refine a84 (a:=a) (ns:=ns) W (by simp only[List.mem_cons,List.not_mem_nil,or_false,not_or];exact#[aO RJ,fQ]) hsz (λi v hv=>IntsAre.int_at hi i v (by rw[eW];exact hv)) hb items.size 0 _ ()
  fh (Lf (IS _ _ hS)) λs' m mG=>?_
 let eS:s'={ s with heap:=s'.heap,toks:=s'.toks }:=by
  let#[iU,g',d',kR,sU]:=s';let m1:g'=s.gens:=m.gens;let m2:d'=s.drawn:=m.drawn;let m3:sU=s.os:=m.os
  simp_all
 rw[eS];refine au (h _ _ mG (λb o hb e=>?_) m.toks);exact m.heap b o (by simp only[List.mem_cons,List.not_mem_nil,or_false,not_or];exact#[hb,aO (aB e)]) (IS _ _ e)
def NP(hh:A.handled=none)(hl:yE s.heap l items)(hi:IntsAre items.toList ns)(hb:items.size+1<scanBound)(h:∀h' tk,y9 prog w h' s⁻¹ (i9 [] ns)->(∀b o,s.heap.get? b=!o->h'.get? b=!o)->s.toks<=tk->Q (.ref s⁻¹) { s with heap:=h',toks:=tk }) :
  wpAny (model prog w) A (call (.type "set") [.ref l]) Q E s:=by
 let cs:=F.called_set;let#[_,_,y1]:=cs.mro;let y2:=cs.made;let y3:=cs.sub;let y4:=cs.notType;let y5:=cs.canCreate;let y6:=F.typeCall_set_1 (.ref l);refine wpAny_call (vN (?_:wpAny _ _ (callAny (.type "set") _) _ _ _));refine au #[Code.quiet_builtin _ #[],eA F.entry_type_call ?_];rw[Around.under_plain (weight_type_call_type "set" [.ref l] []) rfl]
 repeat (any_goals (first|assumption|wp_step))
 refine iM (WA (.ref l) (E:=E) (Q:=λv s1=>v=.ref s⁻¹/\s1={ s with heap:=s.heap.push (A9 w) }) #[rfl,rfl]) ?_;rintro(e|fl) s1 hr
 .exact hr
 cases fl with
 |next=>exact hr
 |brk=>exact hr
 |cont=>exact hr
 |ret v =>
 let#[rfl,rfl]:=hr;let hS:(s.heap.push (A9 w)).get? s⁻¹=!A9 w:=aG _ rfl;let hT:Shared.TypeIs { s with heap:=s.heap.push (A9 w) } (.ref s⁻¹) "set":=#[_,hS,rfl]
 let y7:=cs.init.lookup;let y8:=cs.init.bind (.ref s⁻¹)
 repeat (any_goals (first|assumption|wp_step))
 refine iM (codeAny_call_builtin (R:=wants (λv s2=>v=.none/\∃h' tk,s2={ s with heap:=h',toks:=tk }/\y9 prog w h' s⁻¹ (i9 [] ns)/\(∀b o,s.heap.get? b=!o->h'.get? b=!o)/\s.toks<=tk) E) cs.init.plain F.entry_set_init (check_set_init_1 hT ?_)) ?_
 .let ky:yE (s.heap.push (A9 w)) l items:=hl.imp (·.push _) (·.push _);let Ro:=hl.lt;refine WQ (s:={ s with heap:=s.heap.push (A9 w) }) (by simp[hh]) hS ky hi hb (cz Ro) λh' tk h1 h2 h3=>au #[rfl,h',tk,rfl,h1,λb o e=>h2 b o (aO (aB e)) (ao _ e),h3]
 .rintro(e|fl) s2 hr
  .exact hr
  cases fl with
  |next=>exact hr
  |brk=>exact hr
  |cont=>exact hr
  |ret v =>
  let#[rfl,h',tk,rfl,h1,h2,h3]:=hr
  repeat (any_goals (first|assumption|wp_step))
  exact h _ _ h1 h2 h3
end ST
namespace L2
open PySem PySem.Spec PyProof.Rows
abbrev uc(X:Cx)(a:Addr)(ks:@&Int):HO:=.ext λh=>ST.y9 X.prog X.w h a ks
abbrev u7(ns:@&Int):@&Int:=(ST.i9 [] ns).mergeSort (λa b=>decide (a<=b))
def Y1:∀{a b:@&Int},a.Perm b->a.Pairwise (·<=·)->b.Pairwise (·<=·)->a=b
 |[],b,h,_,_=>by simp_all
 |x::a,[],h,_,_=>absurd h.length_eq #[_]
 |x::a,y::b,h,h1,h2=>by
  rw[fO] at h1 h2;let e:x=y:=by
   let m1:=h.mem_iff (a:=y);let m2:=h.mem_iff (a:=x);simp only[List.mem_cons,true_or,true_iff,iff_true] at m1 m2;rcases m1 with z|z
   .exact z.symm
   .grind
  subst e;rw[Y1 (h.cons_inv) h1.2 h2.2]
def Mf(ns:@&Int):(u7 ns).Pairwise (·<=·):=by
 have:=uv (le:=λa b:Int=>decide (a<=b)) (λa b c h1 h2=>by simp at *;omega) (λa b=>by simp;omega) (ST.i9 [] ns);exact this.imp λh=>by simpa using h
def N6(ns:@&Int):(u7 ns).Perm (ST.i9 [] ns):=Hr _ _
def X7(ns:@&Int):(u7 ns).length<=-ns:=by
 rw[(N6 ns).length_eq];have:=ST.O8 ns []
 simp_all
section
variable{X:Cx}{pi:@&(Addr×Obj)}{U:St}{H:Hp}{s:Shared}
def Inv.draw(I:Inv X pi U H s)(d:Drawn):Inv X pi U H { s with drawn:=d } :=
 I.step (g':=s.gens) (t':=s.toks) (d':=d) (ch:=[]) #[_] (λb o x x x e x=>e) (λb o x x x e x=>#[o.slots,e]) (λb o x x e=>e) (λb o x e=>#[o,e]) (λx x e=>e) (λx x x e=>e) (λb ps e=>#[(List.toArray []),by simp[e]]) (λm hm=>hm) I.cb I.bare
def NC{h:Heap}{a:Addr}{ks:@&Int}(x:ST.y9 X.prog X.w h a ks):u4 X.prog X.w H h a (uc X a ks) :=
 #[x,by let#[o,_,_,_,e,_]:=x;exact#[o,e],λh1 h2 y k=>y.at k]
def Mg{ns:@&Int}{vs:@&Value}(h:IntsAre vs ns):Vals (ns.map V.int) vs:=by
 induction h with
 |nil=>exact .nil
 |cons n t r ih=>exact .cons #[t,rfl] ih
def K9:∀{ns:@&Int} {vs:@&Value},Vals (ns.map V.int) vs->IntsAre vs ns
 |[],_,h=>by cases h;exact .nil
 |n::ns,_,h=>by
  cases h with
  |cons r rr =>
   let#[t,rfl]:=r;exact .cons n t (K9 rr)
def MB(hc:X.calm=true):o8 X (.type "set") (λxs H Q=>∃a ns,xs=[.ref a]/\gE X.K H a (ns.map V.int)/\-ns<600/\∀p,H p=none->Q (.ref p) (upd H p (uc X p (ST.i9 [] ns)))):=by
 intro pi s U H xs us Q I r h;let#[a,ns,rfl,hq,hl,q]:=h;cases r with
 |cons r rr =>
 cases rr;cases r;let#[bA,rv,p,hz]:=I.list hq;let hI:=K9 rv;let hlen:=ST.AM hI;refine ST.NP (ns:=ns) (I.ok.hd hc) (.inl p.isList) (by simpa using hI) (by rw[aY,hlen];exact aF (Nat.succ_lt_succ hl) ∅) λh' tk hS hk x=>?_;exact#[.ref _,_,I.laid (a:=s⁻¹) (t':=tk) hk (av _) (NC hS),rfl,q _ (I.cb.fresh (av _))]
def Y8(hc:X.calm=true):o8 X (.builtin "sorted") (λxs H Q=>∃a ns,xs=[.ref a]/\H a=!uc X a (ST.i9 [] ns)/\-ns<600/\∀p,H p=none->Q (.ref p) (upd H p (.lst ((u7 ns).map V.int)))):=by
 intro pi s U H xs us Q I r h;let#[a,ns,rfl,ha,hl,q]:=h;cases r with
 |cons r rr =>
 cases rr;cases r;let hS:ST.y9 X.prog X.w s.heap a (ST.i9 [] ns):=(I.cb a _ ha).1;let hn:=ST.O8 ns [];simp only[List.length_nil] at hn;refine ST.aS8 (I.ok.hd hc) hS () λS vs lD e h' d' kR h1 h2 h3 h4 h5 h6 x=>?_;let e1:lD=u7 ns:=Y1 (h2.trans (N6 ns).symm) h3 (Mf ns);subst e1;let hz:=X7 ns;exact#[.ref S,_,(I.laid (a:=S) (o:=.lst ((u7 ns).map V.int)) (t':=kR) h6 h5 #[by rw[ak];exact aD hz (aD (fj hl) ∅),vs,e,Mg h1,h4]).draw d',rfl,q S (I.cb.fresh h5)]
end
end L2
namespace ST
open PySem PyProof.Rows
def Ww{prog:Program}{w:World}{A:Around}{E:Value->Shared->Prop}{s:Shared}{a:Addr}{ks:@&Int}{k:Int}{tk:Tok}{Q:Value->Shared->Prop}(hS:y9 prog w s.heap a ks)(hr:-ks+1<scanBound)(h:∀h',Heap.SameBut a s.heap h'->y9 prog w h' a (E5 ks k)->Q .none { s with heap:=h',toks:=s.toks+1 }):wpAny (model prog w) A (call (.builtin "set.add") [.ref a,.int k tk]) Q E s:=by
 let hT:s.TypeIs (.ref a) "set":=let ⟨o,_,_,_,e,x,_⟩:=hS;#[o,e,x.1]
 refine de F.slot_set_add hT F.entry_set_add ?_ (F.args_set_add_2 _ _);let go:∀(Q':Fin->Shared->Prop),(∀h',Heap.SameBut a s.heap h'->y9 prog w h' a (E5 ks k)->wpAny (model prog w) A.in1 (ret .none) Q' E { s with heap:=h',toks:=s.toks+1 })->wpAny (model prog w) A.in1 (do let _ <- setAdd a (.int k tk);ret .none) Q' E s:=λQ' q=>by
  refine aa (bO (aa ((intKind prog w).pyHash (k:=k) (fA _ _ _ _) ?_)));exact JZ (s:={ s with toks:=s.toks+1 }) hS hr λh' b sb S2=>q h' sb S2
 unfold Builtin.«set.add» Builtin.Frozenset.oneOther;simp only[List.isEmpty_nil,bind_assoc];refine aa (au ?_);refine aa (au ?_);exact go _ λh' sb S2=>au #[_,rfl,h h' sb S2]
end ST
namespace L2
open PySem PySem.Spec PyProof.Rows
variable{elt iter:Expr}{ifs:@&Expr}{scope:Scope}{pos:Pos}
section
variable{prog:Program}{w:World}{A:Around}{R:Result->Shared->Prop}{s:Shared}
def aS1(elt target iter:Expr)(ifs:@&Expr)(scope:Scope)(pos:Pos)(it acc:Value)(env:Env):compTurn (.SetComp elt [#[target,iter,ifs,0]] scope pos) 0 it acc env=(do
      standAt iter.pos
      match <- pyNext it with
      |none=>pure (.done .next)
      |some v =>
        letOwnedTupleGo target it v
        assign target env v
        let mut ok:=true
        for c in ifs do if ok then ok <- isTrue c env (eval c env)
        if ok then(do let x <- eval elt env;standAt elt.pos;let _ <- call (.builtin "set.add") [acc,x])
        again (.compLoop (.SetComp elt [#[target,iter,ifs,0]] scope pos) 0 it acc env)):=by rfl
def aA6{target:Expr}{it acc:Value}{env:Env}(I:Nat->Shared->Prop)(turn:∀ n s,I n s->wpAny (model prog w) A (pyNext it) (λr bT=>match r with
   |none=>R (.ok .next) bT
   | some v=>wpAny (model prog w) A (letOwnedTupleGo target it v) (λy bT=>wpAny (model prog w) A (assign target env v) (λ_ gB =>
     wpAny (model prog w) A (forIn ifs true λc r=>if r=true then do let ok <- isTrue c env (eval c env);pure (ForInStep.yield ok) else pure (ForInStep.yield r)) (λok gh =>
      if ok=true then wpAny (model prog w) A (eval elt env) (λx jb =>
       wpAny (model prog w) A (call (.builtin "set.add") [acc,x]) (λy jJ=>∃ m,m < n/\I m jJ) (λy y=>False) jb) (λy y=>False) gh
      else ∃ m,m < n/\I m gh) (λy y=>False) gB) (λy y=>False) bT) (λy y=>False) bT) (λy y=>False) s)(n:Nat)(h:I n s) :
  codeAny (model prog w) A (.compLoop (.SetComp elt [#[target,iter,ifs,0]] scope pos) 0 it acc env) R s:=by
 refine codeAny_loop rfl I (λn s hI=>?_) n h;change wpAny _ A ((compTurn (.SetComp elt [#[target,iter,ifs,0]] scope pos) 0 it acc env).onRaise (λx=>do noteFrame x env;theTreesLotGoes x)) _ _ s;refine wpAny_noted ?_;rw[aS1];refine aa (fS (aa (bJ (turn n s hI) (λr bT et=>?_) λy y h'=>h'.elim)));cases r with
 |none=>exact au et
 |some v =>
  refine aa (bJ et (λy bT et=>?_) λy y h'=>h'.elim);refine aa (bJ et (λy gB jN=>aa (bJ jN (λok gh oz=>?_) λy y h'=>h'.elim)) λy y h'=>h'.elim);cases ok with
  |false=>exact wpAny_pure #[rfl,oz]
  |true =>
   exact aa (aa (bJ oz (λx jb sZ=>aa (fS (aa (bJ sZ (λy jJ sY=>au (au #[rfl,sY])) λy y h'=>h'.elim)))) λy y h'=>h'.elim))
def aT4{target:Expr}{it acc:Value}{env:Env}(h0:codeAny (model prog w) A (.compLoop (.SetComp elt [#[target,iter,ifs,0]] scope pos) 0 it acc env) R s)(h:wpAny (model prog w) A (pyIter it) (λIm s'=>codeAny (model prog w) A (.compLoop (.SetComp elt [#[target,iter,ifs,0]] scope pos) 0 Im acc env) R s') (notedBy (model prog w) A env λx s'=>R (.error x) s') s) :
  codeAny (model prog w) A (.compStart (.SetComp elt [#[target,iter,ifs,0]] scope pos) 0 it acc env) R s:=by
 refine vN (?_:wpAny _ _ ((compStart (.SetComp elt [#[target,iter,ifs,0]] scope pos) 0 it acc env).onRaise (λx=>do noteFrame x env;standAt theWindowsPlace)) _ _ s);refine wpAny_notedAt ?_;refine aa (su (wpAny_ite ?_));split
 .first
   |exact au #[rfl,h0]
   |exact aa (au (au #[rfl,h0]))
 .refine aa (fb ?_);exact aa (fS (aa (bJ h (λIm s' h'=>au #[rfl,h']) λy y x=>x)))
end
abbrev bI1(o:Obj):Prop:=∀v,o.data≠.cell v
abbrev Uo(X:Cx)(wi:TI)(d8:@&Nat)(n:Nat)(g:TG)(tc:TT)(te:TE):TE:=λU H Q=>wi U H λJ H1=>∃W:Nat->Nat->@&Int->St->Hp->Prop,(∃m,W 0 m [] (F1 U d8 n) H1)/\∀i m ys U H,W i m ys U H ->
 (J.stop i H/\∀p,H p=none->Q (.ref p) (upd H p (uc X p (ST.i9 [] ys)))) \/
 (J.go i H/\-ys < 60/\∀ x H',J.rf i H x H'->g x U H' λcQ H2=>tc cQ H2 λb H3 =>
  if b=true then te cQ H3 λy H4=>∃ k,y=.int k/\∃ m',m' < m/\W (i + 1) m' (ys ++ [k]) cQ H4 else ∃ m',m' < m/\W (i + 1) m' ys cQ H3)
section
variable{X:Cx}{pi:@&(Addr×Obj)}{U:St}{H:Hp}{s:Shared}
def Inv.Ur{D:Addr}{φ:Heap->Prop}(I:Inv X pi U H s)(f:J1 X pi H D)(hs:X.dS.heap.objs.size<=D)(ho:u4 X.prog X.w (upd H D (.ext φ)) s.heap D (.ext φ)):Inv X pi U (upd H D (.ext φ)) s:=by
 let#[f0,f1,f2,f3,f4,f5]:=f;let fQ:∀b o,X.dS.heap.get? b=!o->b≠D:=λb o e z=>absurd (aB e) (by simp_all);let tup:∀b u,H b=!u->upd H D (.ext φ) b=!u:=λb u e=>by rw[i7 (q9 e f0)];exact e
 refine#[I.ok,I.os,I.bare,#[?_,?_,?_,I.base.there,?_,?_,?_],I.loc,I.cell,?_,?_,?_,?_,I.len,I.sg]
 .exact λb o e n1 n2 n3=>I.base.keep b o e n1 n2 n3
 .exact λb o e n1 n2 n3=>I.base.slot b o e n1 n2 n3
 .exact λb o e n1 n2=>by rw[i7 (fQ b o e)];exact I.base.free b o e n1 n2
 .exact λb xs e=>tup _ _ (I.base.jk b xs e)
 .exact λb o u e=>tup _ _ (I.base.jd b o u e)
 .exact λb ps e=>by
   let#[more,q]:=I.base.jl b ps e;exact#[more,tup _ _ q]
 .rw[i7 f1.symm];exact I.free
 .exact λx c e=>by rw[i7 (f4 x c e)];exact I.ft x c e
 .intro p hp;let#[p1,p2,p3]:=I.pin p hp;exact#[p1,by rw[i7 (f5 p hp)];exact p2,p3]
 .intro a o e;by_cases ha:a=D
  .subst ha;rw[x5] at e
   simp_all
  .rw[i7 ha] at e;let q:=I.cb a o e;refine q.K0 (λb u y h=>h) (λb hb=>tup _ _ hb) (λb xs hb=>tup _ _ hb)
abbrev KS(X:Cx)(a:Addr)(ys:@&Int)(h:Heap)(o:Obj):Prop:=-ys<=60/\bI1 o/\h.get? a=!o/\ST.y9 X.prog X.w h a (ST.i9 [] ys)
def Ng{n0:Nat}:Hj X n0 (KS X) λa ys=>uc X a (ST.i9 [] ys) where
 nc:=λh=>h.2.1
 get:=λh=>h.2.2.1
 K0:=λ⟨h1,h2,h3,h4⟩ e=>#[h1,h2,e,h4.at λo e'=>by rw[h3] at e';cases e';exact e]
 done:=λ_ I f hs ⟨_,_,h3,h4⟩=>I.Ur f hs (NC h4)
def aM1{tg:Expr}{N':@&Str}{d8:@&Nat}{cl:@&(Str×Addr)}{it:Addr}{fp:@&Addr}{tn:Nat->Heap->Prop}{J:It}{g:TG}{tc:TT}{te:TE}{RR:Value->Addr->Result->Shared->Prop}{E:Value->Shared->Prop}{W:Nat->Nat->@&Int->St->Hp->Prop}{m0:Nat}{Q:VK}(S:dN X scope N' d8 cl)(hc:X.calm=true)(hg:∀C s H,PG (i6 X pi scope N' cl C s H fp) tg g)(ht:∀C s H,mJ (i6 X pi scope N' cl C s H fp) ifs tc)(he:∀C s H,PE (i6 X pi scope N' cl C s H fp) elt te)(I:Inv X pi U H s)(T:Turn X.prog X.w X.K tg J fp it tn)(st:tn 0 s.heap)(hf:∀b∈fp,J1 X pi H b)(w0:W 0 m0 [] (F1 U d8 (-N')) H)(turn:∀ i m ys U H,W i m ys U H->(J.stop i H/\∀ p,H p=none->Q (.ref p) (upd H p (uc X p (ST.i9 [] ys)))) \/
   (J.go i H/\-ys < 60/\∀ x H',J.rf i H x H'->g x U H' λcQ H2=>tc cQ H2 λb H3 =>
    if b=true then te cQ H3 λy H4=>∃ k,y=.int k/\∃ m',m' < m/\W (i + 1) m' (ys ++ [k]) cQ H4 else ∃ m',m' < m/\W (i + 1) m' ys cQ H3))(xD:∀D C s' H' m,Inv X pi U H' s'->Q (.ref D) H'->s'.heap.Ns C m->H' C=none->s⁻¹<=C->RR (.ref D) C (.ok .next) s') :
  wpAny (model X.prog X.w) X.A (newSet (.type "set")) (λacc gh=>wpAny (model X.prog X.w) X.A (newFunctionEnv scope X.env.globals cl [] X.env.qual none .none (!X.env)) (λnD jb =>
   codeAny (model X.prog X.w) X.A (.compStart (.SetComp elt [#[tg,iter,ifs,0]] scope pos) 0 (.ref it) acc { nD with scope:=relabel scope X.env }) (RR acc nD.locals) jb) E gh) E s:=by
 refine ST.Nn (ML λet jO iD qk=>?_);dsimp only at jO iD qk ⊢;let eC:(s.heap.push (ST.A9 X.w)).objs.size=s⁻¹+1:=fC ..
 replace eC:=eC.symm
 let oO:et.get? s⁻¹=!ST.A9 X.w:=iD _ _ (aG _ rfl);generalize (s.heap.push (ST.A9 X.w)).objs.size=C at *;refine (λL=>aT4 L.2 (T.self _ 0 _ _ _ L.1 L.2)) (Ox (R:=RR (.ref s⁻¹) C) (LP:=codeAny (model X.prog X.w) X.A (.compLoop (.SetComp elt [#[tg,iter,ifs,0]] scope pos) 0 (.ref it) (.ref s⁻¹) (compEnvC scope (F0 scope cl C) C X.env)) (RR (.ref s⁻¹) C)) (tb:=λys U H P=>te U H λy H'=>∃ k,y=.int k/\P (ys ++ [k]) H') (env:=compEnvC scope (F0 scope cl C) C X.env)
  (body:=λP gh=>wpAny (model X.prog X.w) X.A (eval elt (compEnvC scope (F0 scope cl C) C X.env)) (λx jb=>wpAny (model X.prog X.w) X.A (call (.builtin "set.add") [.ref s⁻¹,x]) (λt jJ=>P jJ) (λt t=>False) jb) (λt t=>False) gh)
  Ng S hc (hg C s H) (ht C s H) I T st hf w0 turn (λs' H' m=>xD _ C s' H' m) #[_,jO] iD qk eC #[cc _,(λv (z:Data.set _ _ _=_)=>by cases z),oO,ST.Lf oO] rfl (λys o gC cA H' s' P R' hz k hb I' q hR=>?_) (λI turn n h=>aA6 I turn n h))
 refine dj (he C s H _ s' cA H' _ I' q) λxv s8 bH=>?_;let#[y,H8,I8,r8,kk,ey,q8]:=bH;subst ey;let#[tk,rfl]:=r8;let#[_,_,_,S8]:=(Ng (X:=X) (n0:=0)).K0 k (hb I8);let Cp:=ST.O8 ys [];simp only[List.length_nil] at Cp;refine ST.Ww S8 (aF (by omega:_<62) ∅) λh' sb S9=>?_;let e9:ST.E5 (ST.i9 [] ys) kk=ST.i9 [] (ys++[kk]):=by unfold ST.i9;rw[List.foldl_append];rfl
 rw[e9] at S9;let#[o9,es9,ep9,t9,g9,x9,d9,r9]:=id S9;exact hR s8 H8 _ h' (s8.toks+1) o9 I8 q8 (λb' u hb hu=>by rw[sb.2 b' hb];exact hu) #[by rw[bL,zb];omega,(λv z=>by rw[d9] at z;cases z),g9,S9]
def Xj{tg:Expr}{N':@&Str}{d8:@&Nat}{cl:@&(Str×Addr)}{wi:TI}{g:TG}{tc:TT}{te:TE}(S:dN X scope N' d8 cl)(hc:X.calm=true)(hi:PI X tg iter wi)(hg:∀pi C s H fp,PG (i6 X pi scope N' cl C s H fp) tg g)(ht:∀pi C s H fp,mJ (i6 X pi scope N' cl C s H fp) ifs tc)(he:∀pi C s H fp,PE (i6 X pi scope N' cl C s H fp) elt te)(hs:∀x,foldedSetIterable iter X.env x=pure x):PE X (.SetComp elt [#[tg,iter,ifs,0]] scope pos) (Uo X wi d8 (-N') g tc te):=by
 intro pi s U H Q I h;refine jE (use:=none) rfl hs S.tV S.kind S.names (dj (hi pi s U H _ I h) λxv bT et=>dj et λwW gB jN=>?_);let#[it,fp,tn,J,H2,e,I2,T,gL,f2,W,#[m0,w0],turn]:=jN;subst e;refine aM1 (RR:=λacc C=>compPost (model X.prog X.w) X.A X.xe none (EP X pi U Q) acc C) S hc (λC s H=>hg pi C s H fp) (λC s H=>ht pi C s H fp) (λC s H=>he pi C s H fp) I2 T gL f2 w0 turn ?_;intro D C s' H' m I' q hn hC hsz;exact#[m,hn,λh' sb=>#[.ref D,H',I'.Kp hsz I2 hC sb,rfl,q]]
end
end L2
namespace HT
open PySem PyProof.Rows Builtin
end HT
namespace L2
open PySem PySem.Spec PyProof.Rows
abbrev UX(sep:Str)(ys:@&Str):Nat:=ys.foldl (λn y=>n+-y+-sep) 0
end L2
namespace HT
open PySem PyProof.Rows Builtin PySem.SeqAt
end HT
namespace L2
open PySem PySem.Spec PyProof.Rows
abbrev Eo(K:PySem.W.Frag)(H:Hp)(a:Addr)(xs:@&V):Prop :=
 H a=!.tup xs\/∃(o:Obj) (bA:Array Value) (n:Nat),K.lookup a=!o/\o.cls=.type "tuple"/\o.dict=none/\o.data=.seq bA n/\bA.size<=sizeLine/\Vals xs bA.toList
def Eo.sq{K:PySem.W.Frag}{H:Hp}{a:Addr}{xs:@&V}(h:Eo K H a xs):kl K H a xs:=by
 rcases h with h|⟨o,bA,n,h1,h2,_,h3,h4,h5⟩
 .exact .inl (.inl h)
 .exact .inr #[o,bA,n,h1,h2,h3,h4,h5]
end L2
namespace ST
open PySem PyProof.Rows
variable{h:Heap}
abbrev Spot(k:Int):Prop:=0<=k/\k<8
structure Own(mask:Nat)(owner:Array (Option Nat))(pre:@&Int):Prop where
 sz:owner.size=mask+1
 fwd:∀(i:Nat) (k:Int),pre[i]?=!k->owner[k.toNat]?=!!i
 bwd:∀(j i:Nat),owner[j]?=!!i->pre[i]?=!(j:Int)
section
variable{prog:Program}{w:World}{a:Addr}
abbrev XN(prog:Program)(w:World)(h:Heap)(a:Addr)(ks:@&Int):Prop :=
 ∃o es ep t,h.get? a=!o/\o.ExactSet/\o.data=.set es ep t/\ElemsOf (intKind prog w) es.toList/\(es.toList.map λe=>toI e.2).Perm ks/\ks.Nodup/\es.size<scanBound/\t.fits es.size=true/\Well (Led w) t/\(ks=[]->7<=t.mask)
def y9.toV{ks:@&Int}(x:y9 prog w h a ks)(hn:ks≠[]):XN prog w h a ks:=by
 let#[o,es,ep,t,h1,h2,h3,h4,h5,h6,h7,h8,h9]:=x;exact#[o,es,ep,t,h1,h2,h3,h4,h5,h6,h7,h8,h9,λz=>absurd z hn]
def y9.same{ks us:@&Int}(x:y9 prog w h a ks)(hp:ks.Perm us):y9 prog w h a us:=by
 let#[o,es,ep,t,h1,h2,h3,h4,h5,h6,h7]:=x;exact#[o,es,ep,t,h1,h2,h3,h4,h5.trans hp,hp.nodup_iff.mp h6,h7]
def P6{o:Obj}{es qu:Array (Int×Value)}{ep:Nat}{t t':SetTable}(ho:h.get? a=!o)(hd:o.data=.set es ep t):(h.update a (Obj.putSet qu t')).get? a=some { o with data:=.set qu (ep+1) t' }:=by
 have:=bu (Obj.putSet qu t') ho (by rw[putSet_of qu t' hd];rfl);rw[putSet_of qu t' hd] at this;exact this
def above:∀n,n<300->7<SetTable.sizeAbove n/\n<SetTable.sizeAbove n/\SetTable.sizeAbove n<=sizeLine:=by decide +kernel
end
end ST
namespace L2
open PySem PySem.Spec PyProof.Rows
variable{X:Cx}
end L2
namespace ST
open PySem PyProof.Rows
end ST
namespace L2
open PySem PySem.Spec PyProof.Rows
variable{X:Cx}
def Mz:∀{ns ks:@&Int},(ks++ns).Nodup->ST.i9 ks ns=ks++ns
 |[],ks,_=>by simp[ST.i9]
 |n::r,ks,h=>by
  let hn:n∉ks:=λz=>by
   have:=(cE.mp h).2.2 n z n #[_];exact this rfl
  let e:ST.E5 ks n=ks++[n]:=by
   unfold ST.E5;rw[aE (by simpa using hn)]
  change ST.i9 (ST.E5 ks n) r=_;rw[e,Mz (by simp_all),bW]
  rfl
def Mo{bA:@&Value}{ns:@&Int}(hi:IntsAre bA ns):∃xs,bA.toArray=intItems xs/\ns=xs.toList.map (·.1):=by
 let#[xs,e]:=hi.allInts.items;exact#[xs,e,by rw[<- hi.numsOf,<- nums_intItems,<- e]]
def a67(hc:X.calm=true):o8 X (.builtin "sum") (λxs H Q=>∃a,∃ns:@&Int,xs=[.ref a]/\gE X.K H a (ns.map V.int)/\Q (.int ns.sum) H):=by
 intro pi s U H xs us Q I r h;let#[a,ns,rfl,ha,q]:=h;let#[u,rfl,ru]:=vals1 r;cases ru;let#[bA,rv,p,hz]:=I.list ha;let#[xs,e,en]:=Mo (K9 rv);refine sum_intListG (xs:=xs) (I.ok.hd hc) (by rw[<- e];exact p.isList) λh' tk t' k=>#[.int ns.sum,H,I.kept k,#[t',?_],q]
 rw[preSum_eq,bS #[_],en]
def a69(hc:X.calm=true):o8 X (.builtin "max") (λxs H Q=>∃a,∃(ns:@&Int) (M:Int),xs=[.ref a]/\gE X.K H a (ns.map V.int)/\M∈ns/\(∀x∈ns,x<=M)/\Q (.int M) H):=by
 intro pi s U H xs us Q I r h;let#[a,ns,M,rfl,ha,hm,hM,q]:=h;let#[u,rfl,ru]:=vals1 r;cases ru;let#[bA,rv,p,hz]:=I.list ha;let#[xs,e,en]:=Mo (K9 rv);let hsz:0<xs.size:=by
  have:=vR hm
  simp_all
 refine max_intList (xs:=xs) (I.ok.hd hc) (by rw[<- e];exact p.isList) hsz λv h' tk hv k=>?_;let#[t,rfl]:=intItems_at hv;let#[h1,h2]:=argBest_gt (numAt xs) (xs.size-1);generalize argBest (λi j=>decide (numAt xs i>numAt xs j)) (xs.size-1)=j0 at *;let m1:numAt xs j0∈ns:=by rw[en,numAt_eq];exact getD_mem (by rw[ak,cC];omega)
 let m2:M<=numAt xs j0:=by
  rw[en] at hm;let#[j,hj,rfl]:=mem_getD hm;rw[ak,cC] at hj;rw[<- numAt_eq];exact h2 j ()
 let e2:numAt xs j0=M:=Int.le_antisymm (hM _ m1) m2;exact#[.int M,H,I.kept k,#[t,by rw[e2]],q]
def a71(hc:X.calm=true):o8 X (.builtin "all") (λxs H Q=>∃(a:Addr) (ns:@&Int),xs=[.ref a]/\gE X.K H a (ns.map V.int)/\Q (.bl (ns.all λn=>n != 0)) H):=by
 intro pi s U H xs us Q I r h;let#[a,ns,rfl,ha,q]:=h;let#[u,rfl,ru]:=vals1 r;cases ru;let#[bA,rv,p,hz]:=I.list ha;refine call_all_walk ?_;refine gF p.isList ?_;let fQ:a≠s⁻¹:=by
  let#[o,e,_]:=id p.isList;exact aO (aB e)
 let hl:=-rv;rw[ak] at hl;refine#[s⁻¹,_,_,_,_,_,λi=>ns.getD i 1 != 0,rfl,BD (A:=X.A.in1) (I.ok.hd hc) _ a fQ bA.toArray,#[#[_,aG _ rfl,rfl,rfl],?_],?_,λh' tk k=>?_]
 .let#[o,e,q1]:=id p.isList;exact#[o,ao _ e,q1]
 .intro i v s' Q' E' hP hQ;let hv:bA[i]?=!v:=by simpa using hP
  let hi:i< -ns:=by rw[hl];exact(aw.mp hv).1
  let#[u',wY,Ca]:=rv.get (i:=i) (x:=V.int ns[i]) (by rw[ai,ag hi];rfl);rw[hv] at wY;cases wY;let#[t,rfl]:=Ca;refine truthy_int ?_;have:ns.getD i 1=ns[i]:=by simp[List.getD,hi]
  dsimp only at hQ;rw[this] at hQ;exact hQ
 .let e1:(List.range bA.toArray.size).all (λi=>ns.getD i 1 != 0)=ns.all λn=>n != 0:=by
   rw[aY,<- hl];rw[aW];simp only[List.all_eq_true,List.mem_range];constructor
   .intro hh x hx;let#[i,hi,rfl]:=br.mp hx;have:=hh i hi;simpa[List.getD,hi] using this
   .intro hh i hi;have:=hh ns[i] (cK hi);simpa[List.getD,hi] using this
  rw[e1];exact #[.bl _,H,I.kept (t':=tk) λb o e=>k b o (by
   intro hb;have:b=s⁻¹:=by simpa using hb
   exact absurd (aB e) (by rw [this];exact cw _)) (ao _ e),rfl,q]
def aB3:o8 X (.builtin "len") (λxs H Q=>∃a,∃ks:@&Int,xs=[.ref a]/\H a=!uc X a ks/\Q (.int (-ks)) H):=by
 intro pi s U H xs us Q I r h;let#[a,ks,rfl,ha,q]:=h;let#[u,rfl,ru]:=vals1 r;cases ru;let hS:ST.y9 X.prog X.w s.heap a ks:=(I.cb a _ ha).1;let#[o,es,ep,t,e,ex,ed,_,hp,nd,hz,hf,_]:=hS;let hl:es.size=-ks:=by have:=hp.length_eq;simpa using this
 refine call_len_set e ex ed hf (by have:scanBound<2 ^ 62:=∅;omega) #[.int (-ks),H,I.tok _,#[_,by rw[hl]],q]
def Vu{i:Int}{j:Nat}{p pos:Pos}(oN:PySem.W.kdsCode X.K X.env.code=true):PE X (.Set [.Constant (.int i) j p] 0 pos) (λU H Q=>∀q,H q=none->Q (.ref q) (upd H q (.set (λk=>decide (k=i)) 1))):=by
 intro pi s U H Q I h;refine aa (fS ?_);refine aa (PySem.W.kds_main I.iR oN λb=>?_);refine PySem.W.kds_core (ts:=(evalEach [Expr.Constant (.int i) j p] X.env).map λt=>do let v <- t;standAt pos;pure v) (by rfl) (by rfl) (by change 1<=30;decide) (by rfl) λled=>?_;refine PySem.W.kds_all pos _ _ _ ?_;refine wpAny_Constant_int ?_;refine PySem.W.kds_fill_cons ?_;let RQ:(s.heap.push { cls:=.type "set",dict:=none,data:=.set (List.toArray []) 0 (.fresh 0 0 led) }).SetOf (intKind X.prog X.w) s⁻¹ (λx=>false) 0:=(setObjOf_fresh led).setOf (aG _ rfl) ∅;refine bO (aa ((intKind X.prog X.w).pyHash (k:=i) (fA _ _ _ _) ?_));refine wpAny_setAddHashed_of (knd:=intKind X.prog X.w) (fA _ _ _ _) rfl RQ ∅ λh' uJ mG=>?_;refine PySem.W.kds_fill_nil (by rfl) ?_;let kp:∀b u,s.heap.get? b=!u->h'.get? b=!u:=λb u e=>(uJ.2 b (aO (aB e))).trans (ao _ e);exact#[.ref s⁻¹,_,I.laid (a:=s⁻¹) (o:=.set (λk=>decide (k=i)) 1) kp (av _) (by change Heap.SetOf _ _ _ _ _;simpa using mG),rfl,h _ (I.cb.fresh (av _))]
def a36:hU X (compareOp .In) (λx y H Q=>∃i a S n,x=.int i/\y=.ref a/\H a=!.set S n/\Q (.bl (S i)) H):=by
 intro pi s U H x y v u Q I rx ry h;let#[i,a,S,n,rfl,rfl,ha,q]:=h;let#[t,rfl]:=rx;cases ry;exact wpAny_inSet_of (knd:=intKind X.prog X.w) (k:=i) (fA _ _ _ _) rfl (I.cb a _ ha) #[.bl (S i),H,I.tok _,rfl,q]
def aG9:hU X (compareOp .NotIn) (λx y H Q=>∃i a S n,x=.int i/\y=.ref a/\H a=!.set S n/\Q (.bl (~~~S i)) H):=by
 intro pi s U H x y v u Q I rx ry h;let#[i,a,S,n,rfl,rfl,ha,q]:=h;let#[t,rfl]:=rx;cases ry;exact wpAny_notInSet_of (knd:=intKind X.prog X.w) (k:=i) (fA _ _ _ _) rfl (I.cb a _ ha) #[.bl (~~~S i),H,I.tok _,rfl,q]
def aV2:nE X "set.add" (λx xs H Q=>∃a i S n,x=.ref a/\xs=[.int i]/\H a=!.set S n/\n+1<4096/\Q .bK (upd H a (.set (λk=>S k||decide (k=i)) (if S i then n else n+1)))):=by
 intro pi s U H x vs v us Q I rx rv h;let#[a,i,S,n,rfl,rfl,ha,hn,q]:=h;cases rx;let#[u,rfl,t,rfl]:=rv.one;refine call_set_add (knd:=intKind X.prog X.w) (k:=i) (fA _ _ _ _) rfl (I.cb a _ ha) (show n+1<scanBound from hn) λh' uJ mG=>?_;let#[o,es,ep,tb,ho,_]:=id mG;exact#[.bK,_,I.write (x:=a) (e:=a) (o:=.set (λk=>S k||decide (k=i)) (if S i then n else n+1)) (by rw[ha];trivial) (.inl rfl) (λb u hb e=>(uJ.2 b hb).trans e) #[o,ho] mG,rfl,q]
abbrev He(K:PySem.W.Frag)(a:Addr)(n:Nat):It :=
 #[λi H=>∃xs x,gE K H a xs/\-xs=n/\i<n/\xs[n-1-i]?=!x,λi H x H'=>H'=H/\∀xs,gE K H a xs->xs[n-1-i]?=!x,λi H=>n<=i]
def a87{P:Program}{w:World}{K:PySem.W.Frag}{tg:Expr}(a it:Addr)(n:Nat):Turn P w K tg (He K a n) [it] it (λi h=>i<=n/\h.IsRevIter it a ((n:Int)-1-(i:Nat))) where
 mem:=by simp
 obj:=λi h st b hb=>by
  let e:b=it:=by simpa using hb
  subst e;let#[o,e,c,d]:=st.2;exact#[o,e,λv z=>by simp_all]
 keep:=λi h h' st k=>#[st.1,st.2.at λo e=>k it #[_] o e]
 item:=by
  intro X hP hw hK hc i pi s U H E I hf st hg;subst hP hw hK;let#[xs,x,hq,hn,hi,hx]:=hg;let#[bA,rv,p,hz]:=I.list hq;let#[u,hu,ru]:=rv.get hx;let#[f0,f1,f2,f3,f4,f5]:=hf it #[_];let gL:=st.2;rw[show(n:Int)-1-(i:Nat)=((n-1-i:Nat):Int) by omega] at gL;refine wpAny_pyNext_rev_item gL p.isList (x:=u) (by simpa using hu) λh' bp sb=>?_;let I1:Inv X pi U H { s with heap:=h' }:=I.turned (t':=s.toks) (λb o hb e=>(sb.2 b hb).trans e) f0 f1 f3 f4 f5;let#[o,e,c,d]:=id bp;refine#[u,rfl,Bo (s:={ s with heap:=h' }) e c d ∅ #[x,H,I1,ru,#[rfl,λys hy=>by rw[I.EW hy hq];exact hx],#[by omega,?_],λb hb=>(hf b hb).1]]
  grind
 done:=by
  intro X hP hw hK hc i pi s U H E I hf st hg;let#[f0,f1,f2,f3,f4,f5]:=hf it #[_];let gL:=st.2;have:n<=i:=hg;rw[show(n:Int)-1-(i:Nat)=-1 by omega] at gL;exact wpAny_pyNext_rev_end (I.ok.hd hc) gL λh' eb=>#[rfl,I.turned (t':=s.toks) (λb o hb e=>eb b o hb e) f0 f1 f3 f4 f5]
 self:=λy y y y y st h=>wpAny_pyIter_revIter st.2 h
def boot_reversed:bootBuiltins "reversed"=!(.type "reversed"):=by decide +kernel
def bA9{tg l:Expr}{ta:TA}{p pos:Pos}(hg:Gl X "reversed")(hm:X.mg "reversed"=none)(ha:PA X [l] ta)(hs:starEach [l] X.env=[(false,eval l X.env)]) :
  PI X tg (.Call (.Name "reversed" p) [l] [] pos) (λU H R=>ta U H λvs H1=>∃a xs,vs=[.ref a]/\gE X.K H1 a xs/\R (He X.K a (-xs)) H1):=by
 intro pi s U H R I h;refine Call_ (O1 I hg hm boot_reversed (bU (dj (ha pos pi s U H _ I h) λus s1 bH=>?_) hs rfl));let#[vs,H1,I1,r1,q1]:=bH;let#[a,xs,e,hq,q]:=q1;subst e;cases r1 with
 |cons r rr =>
  cases rr;cases r;let#[bA,rv,p,hz]:=I1.list hq;refine call_reversed_list p.isList ?_;let hl:=-rv;let hit:(s1.heap.push (revObj a ((bA.toArray.size:Int)-1))).IsRevIter s1⁻¹ a ((-xs:Int)-1-((0:Nat):Int)):=#[_,aG _ rfl,rfl,by simp[revObj,hl]]
  refine wpAny_pyIter_revIter hit ?_;refine#[s1⁻¹,[s1⁻¹],_,_,H1,rfl,I1.kept (t':=s1.toks) λb o e=>ao _ e,a87 a _ (-xs),#[cc _,hit],λb hb=>?_,q];let e:b=s1⁻¹:=by simpa using hb
  subst e;exact I1.rY (av _) (I1.cb.fresh (av _))
end L2
namespace ST
open PySem PyProof.Rows
section
variable{prog:Program}{w:World}{A:Around}{E:Value->Shared->Prop}{s:Shared}{a:Addr}
def aS9{T:String}{o:Obj}{items:Array Value}{n:Nat}{ns:@&Int}(hT:T="list"\/T="tuple")(ho:s.heap.get? a=!o)(hc:o.cls=.type T)(hd:o.data=.seq items n)(hI:IntsAre items.toList ns)(zZ:-ns<=10000){Q:Value->Shared->Prop}(h:∀(h1:Heap) (vs:@&Value) (lD:@&Int) e h',(∀b o',s.heap.get? b=!o'->h1.get? b=!o')->IntsAre vs lD->lD.Perm ns->lD.Pairwise (·<=·)->h'.get? h1.objs.size=!(seqObj "list" vs.toArray e)->(∀c o,h1.get? c=!o->h'.get? c=!o)->Q (.ref h1.objs.size) { s with heap:=h' }) :
  wpAny (model prog w) A (call (.builtin "sorted") [.ref a]) Q E s:=by
 let hl:-items.toList=-ns:=AM hI;refine Hv kind_sorted plain_sorted entry_sorted (args_sorted1 _) ?_;refine aa (m:=checkCount "sorted" 1 1 _) (au ?_);refine aa (wpAny_collect_seq (A:=A.in1) a hT ho hc hd (λh1 kp=>?_) (by simp at hl;unfold sizeLine;omega));let oI:-items.toList<=100000:=by omega
 generalize items.toList=vs at *;refine aa (Pn (s:={ s with heap:=h1 }) ?_);let qe:(h1.push (seqObj "list" vs.toArray 0)).get? h1.objs.size=!(seqObj "list" vs.toArray 0):=aG _ rfl;refine aa (bO (de (s:={ s with heap:=h1.push (seqObj "list" vs.toArray 0) }) slot_list_sort #[_,qe,rfl] entry_list_sort (TS.Oi qe hI oI λout lD a1 a2 a3=>#[_,rfl,?_]) (args_list_sort _)));let#[e,lW]:=sortedHeap_at (vs:=vs) (out:=out) qe;refine au #[_,rfl,h h1 out.toList lD e _ kp a1 a2 a3 lW (λc o' e'=>?_)];let hc:=aB e';rw[sortedHeap_old (aO hc) (by rw[size_push'];exact iG hc)];exact ao _ e'
end
end ST
namespace L2
open PySem PyProof.Rows
abbrev L7(ns:@&Int):@&Int:=ns.mergeSort (λa b=>decide (a<=b))
def Me(ns:@&Int):(L7 ns).Pairwise (·<=·):=by
 have:=uv (le:=λa b:Int=>decide (a<=b)) (λa b c h1 h2=>by simp at *;omega) (λa b=>by simp;omega) ns;exact this.imp λh=>by simpa using h
def FJ(ns:@&Int):(L7 ns).Perm ns:=Hr _ _
section
variable{X:Cx}
def aw7:o8 X (.builtin "sorted") (λxs H Q=>∃p,∃ns:@&Int,xs=[.ref p]/\(gE X.K H p (ns.map V.int)\/kl X.K H p (ns.map V.int))/\-ns<=10000/\∀l,H l=none->Q (.ref l) (upd H l (.lst ((L7 ns).map V.int)))):=by
 intro pi s U H xs us Q I r h;let#[p,ns,rfl,hq,hl,q]:=h;let#[u,rfl,rx]:=vals1 r;cases rx;obtain⟨T,bA,o,n,hT,r',ho,hc,hd⟩:∃T,∃(bA:@&Value) (o:Obj) (n:Nat),(T="list"\/T="tuple")/\Vals (ns.map V.int) bA/\s.heap.get? p=!o/\o.cls=.type T/\o.data=.seq bA.toArray n:=by
  rcases hq with hq|hq
  .let#[bA,r',pl,_]:=I.list hq;let#[o,ho,hc,n,hd]:=pl.isList;exact#[_,bA,o,n,.inl rfl,r',ho,hc,hd]
  .let#[bA,r',#[o,ho,hc,n,hd],_]:=I.tuple hq;exact#[_,bA,o,n,.inr rfl,r',ho,hc,hd]
 refine ST.aS9 hT ho hc hd (K9 r') hl λh1 vs lD e h' kp i1 i2 i3 i4 i5=>?_;let e1:lD=L7 ns:=Y1 (i2.trans (FJ ns).symm) i3 (Me ns);subst e1;let I1:Inv X pi U H { s with heap:=h1 }:=I.kept (t':=s.toks) kp;let hz:(L7 ns).length<=10000:=by rw[(FJ ns).length_eq];exact hl
 exact#[.ref h1.objs.size,_,(I1.laid (a:=h1.objs.size) (o:=.lst ((L7 ns).map V.int)) (t':=s.toks) i5 (av _) #[by rw[ak];exact aD hz ∅,vs,e,Mg i1,i4]),rfl,q _ (I1.cb.fresh (av _))]
def Lz:∀{ks:@&Key} {l:@&Value},(-l)=-ks->(∀(i:Nat) v,l[i]?=!v->∃k,ks[i]?=!k/\Y7 k v=true)->Vals (ks.map kV) l
 |[],[],_,_=>.nil
 |k::ks,v::l,hl,h=>by
  let#[k',e,hk]:=h 0 v rfl;cases e;refine .cons ?_ (Lz (by simpa using hl) λi v e=>h (i+1) v e);rcases w6 hk with⟨i,t,rfl,rfl⟩|⟨x,t,rfl,rfl⟩<;>exact#[t,rfl]
def aw8(hc:X.calm=true):o8 X (.type "list") (λxs H Q=>∃a kvs,xs=[.ref a]/\H a=!.dK kvs/\-kvs<=10000/\∀p,H p=none->Q (.ref p) (upd H p (.lst ((kvs.map (·.1)).map kV)))):=by
 intro pi s U H xs us Q I r h;let#[a,kvs,rfl,ha,hl,q]:=h;let#[u,rfl,rx]:=vals1 r;cases rx;let#[_,hd,vs,kv,hD]:=Kg I.cb ha;let#[ep,hA]:=hD.dictAt;let oI:-vs<=10000:=by rw[<- -kv];exact hl
 refine PySem.W.kdl_call (PySem.W.kdl_dict (kvs:=vs) (ep:=ep) hd) (I.ok.hd hc) hA (aD oI ∅) λh' tk acc c k1 k2 k3=>?_;let hv:Vals ((kvs.map (·.1)).map kV) acc.toList:=by
  refine Lz (by rw[cC,k3.1,ak,(-kv)]) λi v e=>?_;let#[k,x,e1,e2]:=k3.2 i v (by simpa using e);exact#[k,by rw[kv.keys,ai,e1];rfl,e2]
 exact#[.ref s⁻¹,_,(I.laid (a:=s⁻¹) (o:=.lst ((kvs.map (·.1)).map kV)) (t':=tk) k1 (av _) #[by rw[ak,ak];exact aD hl ∅,acc.toList,c,hv,by simpa using k2]),rfl,q _ (I.cb.fresh (av _))]
end
end L2
namespace ST
open PySem PyProof.Rows
variable{tk:Tok}{items:Array Value}{n:Nat}{ks:@&Int}
def aI5:typeLookup (.type "list") "keys"=pure none:=by rfl
def as4:typeLookup (.type "list") "__getattr__"=pure none:=by rfl
section
variable{prog:Program}{w:World}{A:Around}{E:Value->Shared->Prop}{h:Heap}{g:Array GenState}{d:Drawn}{t:Nat}{os:OsState}{a:Addr}{o:Obj}
def as6{Q:Fin->Shared->Prop}(hh:A.handled=none)(hx:h.get? a=!o)(hc:o.cls=.type "list")(hn:o.dict=none)(hd:o.data=.seq items n)(hq:∀e h' tk,(∀b o,h.get? b=!o->h'.get? b=!o)->t<=tk->(∃oe,h'.get? e=!oe/\oe.cls=.type "AttributeError")->E (.ref e) #[h',g,d,tk,os]) :
  wpAny (model prog w) A (Builtin.«object.__getattribute__» #[[.ref a,.str "keys" tk],[]]) Q E #[h,g,d,t,os]:=by
 let hT:(#[h,g,d,t,os]:Shared).TypeIs (.ref a) "list":=#[_,hx,hc]
 let f4:=aI5
 repeat (any_goals (first|assumption|wp_step))
 rw[hd];dsimp only;unfold instanceDict
 repeat (any_goals (first|assumption|wp_step))
 rw[hc];dsimp only;rw[hn];dsimp only;rw[aI (by rfl)];refine au ?_;unfold Builtin.ObjectAttr.inDict;refine au ?_;dsimp only
 repeat (any_goals (first|assumption|wp_step))
 let hm:(Str.ofString (toString "'"++toString ((Manifest.find? "list").elim "list" λx=>x.tpName)++toString "' object has no attribute '")++Str.ofString "keys"++Str.ofString "'").length<=sizeLine:=by decide +kernel
 generalize (Str.ofString (toString "'"++toString ((Manifest.find? "list").elim "list" λx=>x.tpName)++toString "' object has no attribute '")++Str.ofString "keys"++Str.ofString "'")=msg at *;unfold raiseAttrError
 repeat (any_goals (first|assumption|wp_step))
 let f5:isSubtype (.type "AttributeError") (.type "AttributeError")=pure true:=by rfl
 refine fz f5 ?_
 repeat (any_goals (first|assumption|wp_step))
 refine wpAny_raiseNew_none hh (hq _ _ _ (λb ob e=>?_) () ?_)
 .let hb:b≠(h.push { cls:=Value.type "tuple",data:=Data.seq (List.toArray [Value.str msg t]) }).objs.size:=by
   have:=aB e;rw[fC];exact aO (iG this)
  exact((bX _ _ _).2 b hb).trans (ao _ (ao _ e))
 .exact#[_,bu _ (aG _ rfl) rfl,rfl]
def av7{R:Result->Shared->Prop}(hh:A.handled=none)(hx:h.get? a=!o)(hc:o.cls=.type "list")(hn:o.dict=none)(hd:o.data=.seq items n)(hq:∀e h' tk,(∀b o,h.get? b=!o->h'.get? b=!o)->t<=tk->(∃oe,h'.get? e=!oe/\oe.cls=.type "AttributeError")->R (.error (.ref e)) #[h',g,d,tk,os]) :
  codeAny (model prog w) A (.call (.builtin "list.__getattribute__") #[[.ref a,.str "keys" tk],[]]) R #[h,g,d,t,os] :=
 codeAny_call_builtin gb.plain F.entry_list_ga (gb.check _ _ _ _ _ _ _ _ (show(#[h,g,d,t,os]:Shared).TypeIs (.ref a) "list" from#[_,hx,hc]) (F.args_list_getattribute_2 _ _) (as6 (by simp[hh]) hx hc hn hd hq))
def aI7{Q:Value->Shared->Prop}(hh:A.handled=none)(hx:h.get? a=!o)(hc:o.cls=.type "list")(hn:o.dict=none)(hd:o.data=.seq items n)(hq:∀e h' tk,(∀b o,h.get? b=!o->h'.get? b=!o)->t<=tk->(∃oe,h'.get? e=!oe/\oe.cls=.type "AttributeError")->E (.ref e) #[h',g,d,tk,os]):wpAny (model prog w) A (getAttrBy (.ref a) (.str "keys" tk) false) Q E #[h,g,d,t,os]:=by
 let hT:(#[h,g,d,t,os]:Shared).TypeIs (.ref a) "list":=#[_,hx,hc]
 let f2:=gb.lookup;let f3:=gb.bind (.ref a)
 repeat (any_goals (first|assumption|wp_step))
 refine av7 hh hx hc hn hd ?_;rintro e h' kR k1 k2 ⟨oe,he,zO⟩;let zX:(#[h',g,d,kR,os]:Shared).TypeIs (.ref e) "AttributeError":=#[_,he,zO]
 let f5:isSubtype (.type "AttributeError") (.type "AttributeError")=pure true:=by rw[gG];kernel_rfl
 let f6:=as4;dsimp only;unfold getattributeRaised;refine aa (fM zX f5 ?_);rw[aI rfl];unfold hookBehind
 repeat (any_goals (first|assumption|wp_step))
 exact hq e h' kR k1 k2 #[oe,he,zO]
def av8{Q:Option Value->Shared->Prop}(hh:A.handled=none)(hx:h.get? a=!o)(hc:o.cls=.type "list")(hn:o.dict=none)(hd:o.data=.seq items n)(hq:∀h' tk,(∀b o,h.get? b=!o->h'.get? b=!o)->t<=tk->Q none #[h',g,d,tk,os]):wpAny (model prog w) A (getAttr? (.ref a) "keys") Q E #[h,g,d,t,os]:=by
 unfold getAttr? getAttrBy?;let f5:isSubtype (.type "AttributeError") (.type "AttributeError")=pure true:=by rw[gG];kernel_rfl
 refine aa (wpAny_mkText ?_);refine aa (nJ (aI7 hh hx hc hn hd ?_));rintro e h' kR k1 k2 ⟨oe,he,zO⟩;dsimp only;refine aa (fM (show(#[h',g,d,kR,os]:Shared).TypeIs (.ref e) "AttributeError" from#[_,he,zO]) f5 ?_);rw[aI rfl];exact au (hq h' kR k1 (Nat.le_of_succ_le k2))
def R0:plainId "dict.update.loop"=true:=by decide +kernel
def Mj:entryFor table "dict.update.loop"=some Builtin.«dict.update.loop»:=entryFor_of_tree (by kernel_rfl)
abbrev L5(ks:@&Int):@&(L2.Key×Value):=ks.map λk=>(.inl k,.bool true)
def stored_new{k:Int}(h:k∉ks):stored (L5 ks) (.inl k:L2.Key) (.bool true)=L5 (ks++[k]):=by
 unfold stored;rw[aE]
 .simp[L5]
 .intro z;rw[aU] at z;let#[x,hx,e]:=z;let#[j,hj,rfl]:=aP.mp hx;have:j=k:=nK (bg e);exact h (this▸hj)
def aU3{R:Result->Shared->Prop}{I:Addr}{fp wr:@&Addr}{G:Array GenState->Array GenState->Prop}{P:Nat->Value->Prop}{St:Nat->Shared->Prop}(W:WalksS prog w A.in1 I fp wr G n P St)(Jl:a∉fp)(hn:n=-ks){tp:Nat->Addr}(hv:∀i v,P i v->v=.ref (tp i))(Iw:∀i,i<n->tp i∉a::wr)(hb:n<=10000)(nd:ks.Nodup):∀(k i:Nat) (s:Shared),i+k=n->St i s->(∀j,j<n->∃tk,s.heap.IsTuple (tp j) (List.toArray [.int (ks.getD j 0) tk,.bool true]))->s.heap.DictOf (L2.p8 prog w) a (L5 (ks.take i)) ->
   (∀s',Moved (a::wr) G s s'->s'.heap.DictOf (L2.p8 prog w) a (L5 ks)->R (.ok (.ret .none)) s')->codeAny (model prog w) A (.builtin "dict.update.loop" #[[.ref a,.ref I,rawInt i,.none],[]]) R s:=by
 let hw:a∉wr:=λh=>Jl (W.sub _ h);let oo:∀b∈wr,b∈a::wr:=λb hb=>by simp[hb]
 intro k
 induction k with
 |zero =>
  intro i s e st ht hS hR;obtain rfl:i=n:=by omega
  refine eA Mj ?_;rw[Around.under_plainId R0 _];unfold Builtin.«dict.update.loop»;dsimp only;refine aa (W.done s _ _ st λs' m=>?_);refine aa (m:=Builtin.Dict.addKeywords _ _) (au ?_);refine au (hR s' (m.mono oo) ?_);rw[hn,cJ] at hS;let#[o,es,ep,ho,r]:=hS;exact#[o,es,ep,m.heap a o hw ho,r]
 |succ k ih =>
  intro i s e st ht hS hR;let eE:i< -ks:=by omega
  refine eA Mj ?_;rw[Around.under_plainId R0 _];unfold Builtin.«dict.update.loop»;dsimp only;refine aa (W.item i s _ _ () st λv s' hP bp m=>?_);cases hv i v hP;let mG:s'.heap.DictOf (L2.p8 prog w) a (L5 (ks.take i)):=by
   let#[o,es,ep,ho,r]:=hS;exact#[o,es,ep,m.heap a o hw ho,r]
  let pB:∀j,j<n->∃tk,s'.heap.IsTuple (tp j) (List.toArray [.int (ks.getD j 0) tk,.bool true]):=λj hj=>by
   let#[tk,o,ho,r]:=ht j hj;exact#[tk,o,m.heap _ o (λz=>Iw j hj (by simp[z])) ho,r]
  let#[tk,o,ho,hc,nn,hd]:=pB i ();refine aa (bO ?_);refine aa (wpAny_tryCatch ?_);unfold Builtin.Dict.pairItems;refine aa (eZ (show s'.TypeIs (.ref (tp i)) "tuple" from#[o,ho,hc]) ?_);rw[aI ∅];unfold seqItems?;dsimp only;refine aa (aa (wpAny_load ho ?_));rw[hd];refine au (au ?_);change wpAny (model prog w) A.in1 (holding [.int (ks.getD i 0) tk,.bool true] (dictSet a (.int (ks.getD i 0) tk) (.bool true))) _ _ _;refine bO ?_;unfold dictSet;refine bO (aa ((L2.p8 prog w).pyHash (k:=.inl (ks.getD i 0)) (L2.Z1 _ _ _ _) ?_));let hl:(L5 (ks.take i)).length<=10000:=by
   unfold L5;rw[ak,dA];omega
  refine wpAny_dictSetHashed_pairs (s:={ s' with toks:=s'.toks+1 }) (k:=(.inl (ks.getD i 0):L2.Key)) (L2.Z1 _ _ _ _) mG (λh' rG sb=>?_) (aD hl ∅);let ek:ks.take (i+1)=ks.take i++[ks.getD i 0]:=by
   rw[bE,ag eE];simp[List.getD,eE]
  let rE:ks.getD i 0∉ks.take i:=by
   have:(ks.take (i+1)).Nodup:=nd.sublist (List.take_sublist _ _);rw[ek,cE] at this;exact λz=>this.2.2 _ z _ #[_] rfl
  rw[stored_new rE,<- ek] at rG;refine au #[gW R0 _,?_];rw[show((i:Nat):Int)+1=((i+1:Nat):Int) by omega];refine ih (i+1) _ () (W.frame _ s' _ _ bp (cR _) λb hb o e=>by rw[sb.2 b λz=>Jl (z▸hb)];exact e) (λj hj=>?_) rG λs2 m2 h2=>?_
  .let#[tk,o,ho,r]:=pB j hj;exact#[tk,o,(sb.2 _ λz=>Iw j hj (by simp[z])).trans ho,r]
  .exact hR s2 (Moved.trans W.gtrans ((m.mono oo).then_heap (cR _) λb o hb e=>by rw[sb.2 b λz=>hb (by rw[z];simp)];exact e) m2) h2
def aX7{l:Addr}{tp:Nat->Addr}{nn:Nat}{s:Shared}{Q:Value->Shared->Prop}(hh:A.handled=none)(ho:s.heap.get? l=!o)(hc:o.cls=.type "list")(hn:o.dict=none)(hd:o.data=.seq items nn)(hsz:items.size=-ks)(hit:∀(i:Nat) (v:Value),items[i]?=!v->v=.ref (tp i))(ht:∀j,j< -ks->∃tk,s.heap.IsTuple (tp j) (List.toArray [.int (ks.getD j 0) tk,.bool true]))(hb:-ks<=10000)(nd:ks.Nodup)(h:∀h' tk,h'.DictOf (L2.p8 prog w) s⁻¹ (L5 ks)->(∀b o,s.heap.get? b=!o->h'.get? b=!o)->s.toks<=tk->Q (.ref s⁻¹) { s with heap:=h',toks:=tk }) :
  wpAny (model prog w) A (call (.type "dict") [.ref l]) Q E s:=by
 refine callType_codes (Q₁:=λobj bT=>obj=.ref s⁻¹/\bT={ s with heap:=s.heap.push { cls:=.type "dict",data:=.dict (List.toArray []) } }) F.kt_called_dict (F.kt_typeCall_dict_1 _) F.entry_dict_init (kt_code_dict_new _ #[rfl,rfl]) ?_;rintro obj bT ⟨rfl,rfl⟩;let qg:(s.heap.push { cls:=.type "dict",data:=.dict (List.toArray []) }).DictOf (L2.p8 prog w) s⁻¹ []:=Heap.DictOf.new s.heap;refine#[qg.typeIs,F.args_dict_init_2 _ _,?_];let rD:(s.heap.push { cls:=.type "dict",data:=.dict (List.toArray []) }).get? l=!o:=ao _ ho;let xB:Shared.TypeIs { s with heap:=s.heap.push { cls:=.type "dict",data:=.dict (List.toArray []) } } (.ref l) "list":=#[o,rD,hc]
 unfold Builtin.«dict.__init__»;refine aa ?_;unfold Builtin.Dict.selfAndRest;refine aa (wpAny_notOrdered_dict qg.typeIs ?_);change wpAny _ _ (pure (s⁻¹,[Value.ref l])) _ _ _;refine au ?_;change wpAny _ _ (Builtin.Dict.updateFrom "dict.__init__" s⁻¹ (.ref l) [] .none) _ _ _;unfold Builtin.Dict.updateFrom;refine aa (eZ xB ?_);rw[aI ∅];refine aa (av8 (by simp[hh]) rD hc hn hd λh1 vY k1 k2=>?_);rw[aI (by rfl)];refine aa (fb ?_);let ki:h1.get? l=!o:=k1 _ _ rD;let oI:h1.IsList l items:=#[o,ki,hc,nn,hd]
 let eE:l<h1.objs.size:=aB ki;let zF:l≠h1.objs.size:=aO eE;refine aa (gF (s:={ s with heap:=h1,toks:=vY }) oI ?_);refine au #[gW R0 _,?_];let la:l<s⁻¹:=aB ho;let#[oa,_,_,Rc,_]:=id qg;let pH:s⁻¹<h1.objs.size:=aB (k1 _ _ Rc);let tl:∀j,j< -ks->tp j<s⁻¹:=λj hj=>by
  let#[_,o',e,_]:=ht j hj;exact aB e
 refine aU3 (A:=A.in1) (a:=s⁻¹) (ks:=ks) (tp:=tp) (BD (A:=A.in1.in1) (by simp[hh]) h1.objs.size l zF items).toS (λz=>?_) hsz hit (λj hj z=>?_) () nd items.size 0 _ () #[#[_,aG _ rfl,rfl,rfl],oI.push _] (λj hj=>?_) ?_ λs' m mG=>?_
 .simp only[List.mem_cons,List.not_mem_nil,or_false] at z;rcases z with z|z
  .exact aO pH z
  .exact cz la z
 .have:=tl j ();simp only[List.mem_cons,List.not_mem_nil,or_false] at z;rcases z with z|z
  .exact aO this z
  .exact aO (du this pH) z
 .let#[tk,o',e,r]:=ht j ();exact#[tk,o',ao _ (k1 _ _ (ao _ e)),r]
 .let#[o',es,ep,e,r]:=qg;exact#[o',es,ep,ao _ (k1 _ _ e),r]
 .let eS:s'={ s with heap:=s'.heap,toks:=s'.toks }:=by
   let#[iU,g',d',kR,sU]:=s';let m1:g'=s.gens:=m.gens;let m2:d'=s.drawn:=m.drawn;let m3:sU=s.os:=m.os;subst m1;subst m2;subst m3
   rfl
  rw[eS];refine#[rfl,h _ _ mG (λb o' e=>?_) (aD k2 m.toks)];let lb:=aB e;refine m.heap b o' (λz=>?_) (ao _ (k1 _ _ (ao _ e)));simp only[List.mem_cons,List.not_mem_nil,or_false] at z;rcases z with z|z
  .exact aO lb z
  .exact aO (du lb pH) z
end
end ST
namespace L2
open PySem PyProof.Rows
section
variable{X:Cx}
def NM:∀ks:@&Int,KV (ks.map λk=>((.inl k:Key),V.bl true)) (ST.L5 ks)
 |[]=>.nil
 |_::ks=>.cons #[rfl,rfl] (NM ks)
def au0(hc:X.calm=true):o8 X (.type "dict") (λxs H Q=>∃a,∃(ts:@&Addr) (ks:@&Int),xs=[.ref a]/\gE X.K H a (ts.map V.ref)/\-ts=-ks/\(∀(i:Nat) t k,ts[i]?=!t->ks[i]?=!k->kl X.K H t [.int k,.bl true])/\-ks<=10000/\ks.Nodup/\∀p,H p=none->Q (.ref p) (upd H p (.dK (ks.map λk=>(.inl k,.bl true))))):=by
 intro pi s U H xs us Q I r h;let#[a,ts,ks,rfl,hq,hl,ht,hz,nd,q]:=h;let#[u,rfl,ru]:=vals1 r;cases ru;let#[bA,rv,#[o,n,ho,kT,Rx,hd],_]:=I.list hq;let hlen:-bA=-ts:=by rw[<- -rv];simp
 refine ST.aX7 (tp:=λi=>ts.getD i 0) (ks:=ks) (I.ok.hd hc) ho kT Rx hd (by rw[aY];omega) (λi v hv=>?_) (λj hj=>?_) hz nd λh' tk hS hk wZ=>?_
 .rw[List.getElem?_toArray] at hv;let hi:i< -ts:=by rw[<- hlen];exact(aw.mp hv).1
  let#[u,hu,ru]:=rv.get (i:=i) (x:=V.ref ts[i]) (by rw[ai,ag hi];rfl);rw[hv] at hu;cases hu;rw[show ts.getD i 0=ts[i] by simp[List.getD,hi]];exact ru
 .let uN:j< -ts:=by omega
  let#[sX,Qj,p2,_]:=I.tuple (ht j ts[j] ks[j] (ag uN) (ag hj));cases Qj with
  |cons r1 r2 =>
  cases r2 with
  |cons r2 r3 =>
  cases r3;let#[tk,rfl]:=r1;cases r2;rw[show ts.getD j 0=ts[j] by simp[List.getD,uN],show ks.getD j 0=ks[j] by simp[List.getD,hj]];exact#[tk,p2]
 .exact#[.ref _,_,I.laid (a:=s⁻¹) (t':=tk) hk (av _) (OI (by rw[ak];exact aD hz ∅) (eB.mpr (cy (aO I.big))) (NM ks) hS),rfl,q _ (I.cb.fresh (av _))]
def VV{h:Heap}{a:Addr}{ns:@&Int}(x:ST.y9 X.prog X.w h a (ST.i9 [] ns)):h.SetOf (intKind X.prog X.w) a (λk=>decide (k∈ns)) (ST.i9 [] ns).length:=by
 let#[o,es,ep,t,ho,hx,hd,oK,hp,hn,hb,hf,hw]:=x;refine#[o,es,ep,t,ho,hx,hd,oK,λk=>?_,hb,hf,by rw[<- hp.length_eq];simp];let mem:k∈ns↔k∈es.toList.map λe=>ST.toI e.2:=by rw[hp.mem_iff,ST.U5];simp
 rw[cX,mem];constructor
 .intro z;let#[e,he,rfl]:=aP.mp z;let#[tk,h1,_]:=ST.AF oK he;refine#[e,he,?_];rw[h1];exact fA _ _ _ _
 .rintro⟨e,he,z⟩;let#[tk,h1,_]:=ST.AF oK he;refine aP.mpr #[e,he,?_];let h2:(intKind X.prog X.w).is (ST.toI e.2) e.2=true:=by rw[h1];exact fA _ _ _ _
  exact(intKind X.prog X.w).inj _ _ _ h2 z
def aB2(hc:X.calm=true):o8 X (.type "set") (λxs H Q=>∃a ns,xs=[.ref a]/\gE X.K H a (ns.map V.int)/\-ns<600/\∀p,H p=none->Q (.ref p) (upd H p (.set (λk=>decide (k∈ns)) (ST.i9 [] ns).length))):=by
 intro pi s U H xs us Q I r h;let#[a,ns,rfl,hq,hl,q]:=h;cases r with
 |cons r rr =>
 cases rr;cases r;let#[bA,rv,p,hz]:=I.list hq;let hI:=K9 rv;let hlen:=ST.AM hI;refine ST.NP (ns:=ns) (I.ok.hd hc) (.inl p.isList) (by simpa using hI) (by rw[aY,hlen];exact aF (Nat.succ_lt_succ hl) ∅) λh' tk hS hk x=>?_;exact#[.ref _,_,I.laid (a:=s⁻¹) (o:=.set (λk=>decide (k∈ns)) (ST.i9 [] ns).length) (t':=tk) hk (av _) (VV hS),rfl,q _ (I.cb.fresh (av _))]
end
end L2
namespace L2
open PySem PySem.Spec PyProof.Rows
variable{prog:Program}{w:World}{A:Around}{s:Shared}{X:Cx}
def yy{P:Program}{k:Key}{u:Value}(h:(p8 P w).is k u=true):RelV (kV k) u:=by
 rw[aV3] at h;rcases w6 h with⟨j,t,e1,e2⟩|⟨x,t,e1,e2⟩
 .subst e1 e2;exact#[t,rfl]
 .subst e1 e2;exact#[t,rfl]
def KV.at{kvs:@&(Key×V)}{vs:@&(Key×Value)}(r:KV kvs vs):∀{i:Nat} {k:Key} {x:V},kvs[i]?=!(k,x)->∃u,vs[i]?=!(k,u)/\RelV x u:=by
 unfold KV at r
 induction r with
 |nil=>intro i k x h;simp at h
 |cons h r ih =>
  intro i k x e;cases i with
  |zero =>
   simp at e;subst e;let#[h1,h2]:=h;exact #[_,by
    change some _=!(k,_);let DL:k=_:=h1;rw [DL],h2]
  |succ i=>simpa using ih (by simpa using e)
end L2
namespace M
open PySem L2
set_option genInjectivity true in
inductive D where
 |bK|bl (b:Bool)|int (i:Int)|str (x:Str)|ty (n:String)|ref (i:Nat)|tup (l:@&D)
set_option genInjectivity true in
inductive O where
 |lst (l:@&D)|qp (l:@&D)
 |dB (kvs:@&(Key×D))
 |ins (c:Str) (fs:@&(Str×D))
 |set (S:Int->Bool) (n:Nat)
abbrev O.mut:O->Bool
 |.qp _=>false
 |_=>true
abbrev qK:D->Option Key
 |.int i=>!.inl i
 |.str x=>!.inr x
 |_=>none
abbrev u5(kvs:@&(Key×D))(k:Key):Option D:=(kvs.find? λkv=>decide (kv.1=k)).map (·.2)
abbrev putD(kvs:@&(Key×D))(k:Key)(v:D):@&(Key×D) :=
 if(kvs.any λkv=>decide (kv.1=k))=true then kvs.map (λkv=>if kv.1=k then(kv.1,v) else kv) else kvs++[(k,v)]
abbrev p6(f:Str)(v:D):@&(Str×D)->@&(Str×D)
 |[]=>[(f,v)]
 |(g,x)::r=>if g=f then(g,v)::r else(g,x)::p6 f v r
abbrev R8:@&D->Str->Option D
 |.tup [.str y,v]::r,x=>if x=y then some v else R8 r x
 |_::_,_=>none
 |[],_=>none
abbrev Ko:@&D->Option Str
 |[]=>!Str.empty
 |.str x::r=>(Ko r).map λy=>x++y
 |_=>none
structure Xn where
 cls:Str
noncomputable abbrev G:=@&O
noncomputable abbrev S:=@&(Option D)
noncomputable abbrev KD:=D->G->Prop
noncomputable abbrev KX:=Xn->G->Prop
noncomputable abbrev km:KX:=λx x=>False
abbrev GF:Option O->Option (@&D)
 |some (.lst l)=>!l
 |some (.qp l)=>!l
 |_=>none
noncomputable abbrev d5(g:G)(a:Nat):Option (@&D):=GF g[a]?
abbrev rd(g:G):Nat->D->Option PyData
 |_,.bK=>!.none
 |_,.bl b=>!.bool b
 |_,.int i=>!.int i
 |_,.str x=>!.str x
 |_,.ty _=>none
 |0,.ref _=>none
 |0,.tup _=>none
 |n+1,.ref a=>match d5 g a with
  |some l=>(l.mapM (rd g n)).map .list
  |none=>none
 |n+1,.tup l=>(l.mapM (rd g n)).map .tuple
abbrev Qk(g:G)(l:@&D):Option (@&PyData):=l.mapM (rd g 6)
abbrev K2(g:G):D->Option (@&D)
 |.tup l=>!l
 |.ref a=>d5 g a
 |_=>none
abbrev R9:D->Bool
 |.bK=>true
 |_=>false
abbrev cut{α:Type}(xs:List α)(lo hi:Option Int):List α:=(xs.drop (HT.fe (-xs) 0 lo)).take (HT.fe (-xs) (-xs) hi-HT.fe (-xs) 0 lo)
abbrev ua(g:G)(x:D)(c:String):Option Bool:=match x with
 |.bK=>!(c=="NoneType")
 |.bl _=>!(c=="bool"||c=="int")
 |.int _=>!(c=="int")
 |.str _=>!(c=="str")
 |.tup _=>!(c=="tuple")
 |.ref a=>match g[a]? with
  |some (.lst _)=>!(c=="list")
  |_=>none
 |.ty _=>none
abbrev l9(lo:Int)(n:Nat):@&D:=(List.range n).map λ(k:Nat)=>.int (lo+k)
abbrev Y9:@&D->Option Bool
 |[]=>!true
 |.bl b::r=>(Y9 r).map λc=>b&&c
 |_=>none
inductive Pr where
 |bin (op:Operator)|un (op:UnaryOp)|cmp (op:CmpOp)
 |ix|nP (lo hi:Bool)|rev|tup|lst|W7
 |len|list|tuple|isin|all|max|min|int|str|ku|lH|sset|Qd|lO
 |SE|DN|oU|fv|DP|fld (f:Str)
 |append|pop|get|index|join|iadd|clear|sT|extend|any|lz|sum|Z8|oy|lB|sW|Ec|xV|lA (i:Int)
noncomputable abbrev DR:=@&D->G->D->G->Prop
abbrev arR:Operator->Int->Int->Int->Prop
 |.Add,i,j,r=>r=i+j
 |.Sub,i,j,r=>r=i-j
 |.Mult,i,j,r=>qz i j/\r=i*j
 |.FloorDiv,i,j,r=>Ek i j/\r=i / j
 |.Mod,i,j,r=>0<j/\r=i % j
 |.Pow,i,j,r=>qD i j/\r=i ^ j.toNat
 |.LShift,i,j,r=>qD i j/\r=i*2 ^ j.toNat
 |.BitAnd,i,j,r=>r=Builtin.bitAnd i j
 |.BitOr,i,j,r=>r=Builtin.bitOr i j
 |_,_,_,_=>False
abbrev XW(op:Operator):DR:=λxs g d g' =>
 (∃i j r,xs=[.int i,.int j]/\arR op i j r/\d=.int r/\g'=g) \/
 (op=.Add/\((∃ a b l m,xs=[.ref a,.ref b]/\g[a]?=!.lst l/\g[b]?=!.lst m/\-l + -m <= 100000/\d=.ref (-g)/\g'=g ++ [.lst (l ++ m)]) \/
  False))
abbrev PQ(op:UnaryOp):DR:=λxs g d g'=>op=.USub/\∃i,xs=[.int i]/\d=.int (-(i))/\g'=g
abbrev xQ(g:G)(x y:D)(b:Bool):Prop :=
 (∃i j,x=.int i/\y=.int j/\b=decide (i=j))\/(∃i j,x=.bl i/\y=.bl j/\b=(i==j))\/(∃i j,x=.str i/\y=.str j/\b=decide (i=j)) \/
 ∃p q,rd g 6 x=!p/\rd g 6 y=!q/\p.canLay0=true/\q.canLay0=true/\b=PyData.eqv p q
abbrev inR(g:G)(x y:D)(b:Bool):Prop :=
 (∃a kvs c,y=.ref a/\g[a]?=!.dB kvs/\qK x=!c/\b=(u5 kvs c).isSome) \/
 ∃l ps p,K2 g y=!l/\Qk g l=!ps/\rd g 6 x=!p/\PyData.canLayAll0 ps=true/\p.canLay0=true/\b=(ps.any λq=>PyData.eqv q p)
abbrev JT(g:G)(x y:D)(b:Bool):Prop:=∃a S n i,y=.ref a/\g[a]?=!.set S n/\x=.int i/\b=S i
abbrev KO(g:G)(x y:D)(b:Bool):CmpOp->Prop
 |.Eq=>xQ g x y b
 |.NotEq=>xQ g x y (~~~b)
 |.In=>inR g x y b\/JT g x y b
 |.NotIn=>inR g x y (~~~b)\/JT g x y (~~~b)
 |.Lt=>∃i j,x=.int i/\y=.int j/\b=decide (i<j)
 |.LtE=>∃i j,x=.int i/\y=.int j/\b=decide (i<=j)
 |.Gt=>∃i j,x=.int i/\y=.int j/\b=decide (j<i)
 |.GtE=>∃i j,x=.int i/\y=.int j/\b=decide (j<=i)
 |.Is=>y=.bK/\b=R9 x
 |.IsNot=>y=.bK/\b= ~~~R9 x
abbrev Yb(op:CmpOp):DR:=λxs g d g'=>∃x y b,xs=[x,y]/\KO g x y b op/\d=.bl b/\g'=g
abbrev JV(g:G)(x:D)(b:Bool):Prop :=
 (x=.bK/\b=false)\/x=.bl b\/(∃i,x=.int i/\b=(i != 0))\/(∃l,x=.tup l/\b= ~~~l.isEmpty)\/∃a l,x=.ref a/\d5 g a=!l/\b= ~~~l.isEmpty
abbrev QE:DR:=λxs g d g'=>g'=g/\((∃x l i,xs=[x,.int i]/\K2 g x=!l/\gP l i=!d)\/(∃a kvs y c,xs=[.ref a,y]/\g[a]?=!.dB kvs/\qK y=!c/\u5 kvs c=!d) \/
 False)
abbrev we(x:D)(lo hi:Option Int)(g:G)(d:D)(g':G):Prop:=(∃l,x=.tup l/\d=.tup (cut l lo hi)/\g'=g)\/∃a l,x=.ref a/\d5 g a=!l/\d=.ref (-g)/\g'=g++[.lst (cut l lo hi)]
abbrev YO:Bool->Bool->DR
 |false,false,xs,g,d,g'=>∃x,xs=[x]/\we x none none g d g'
 |true,false,xs,g,d,g'=>∃x i,xs=[x,.int i]/\we x (!i) none g d g'
 |false,true,xs,g,d,g'=>∃x j,xs=[x,.int j]/\we x none (!j) g d g'
 |true,true,xs,g,d,g'=>∃x i j,xs=[x,.int i,.int j]/\we x (!i) (!j) g d g'
abbrev YI:DR:=λxs g d g'=>(∃l,xs=[.tup l]/\d=.tup l.reverse/\g'=g)\/∃a l,xs=[.ref a]/\d5 g a=!l/\d=.ref (-g)/\g'=g++[.lst l.reverse]
abbrev Zi:DR:=λxs g d g'=>-xs<=1000/\d=.tup xs/\g'=g
abbrev Yo:DR:=λxs g d g'=>-xs<=1000/\d=.ref (-g)/\g'=g++[.lst xs]
abbrev ZF:DR:=λxs g d g'=>xs=[]/\d=.ref (-g)/\g'=g++[.dB []]
abbrev Ym:DR:=λxs g d g'=>g'=g/\((∃x l,xs=[x]/\K2 g x=!l/\d=.int (-l))\/False\/False)
abbrev kD:Key->D
 |.inl i=>.int i
 |.inr x=>.str x
abbrev bN5:DR:=λxs g d g'=>(∃x l,xs=[x]/\K2 g x=!l/\d=.ref (-g)/\g'=g++[.lst l])\/∃a kvs,xs=[.ref a]/\g[a]?=!.dB kvs/\-kvs<=10000/\d=.ref (-g)/\g'=g++[.lst ((kvs.map (·.1)).map kD)]
abbrev Uu:DR:=λxs g d g'=>∃x l,xs=[x]/\K2 g x=!l/\d=.tup l/\g'=g
abbrev ZQ:DR:=λxs g d g'=>∃x c b,xs=[x,.ty c]/\c∈["int","bool","str","tuple","list"]/\ua g x c=!b/\d=.bl b/\g'=g
abbrev allR:DR:=λxs g d g'=>∃a l b,xs=[.ref a]/\d5 g a=!l/\(Y9 l=!b\/∃ns:@&Int,l=ns.map .int/\b=ns.all λn=>n != 0)/\d=.bl b/\g'=g
abbrev J':@&D->Option Bool
 |[]=>!false
 |.bl b::r=>(J' r).map λc=>b||c
 |_=>none
abbrev anyR:DR:=λxs g d g'=>∃a l b,xs=[.ref a]/\d5 g a=!l/\J' l=!b/\d=.bl b/\g'=g
abbrev TY:DR:=λxs g d g'=>False\/∃x,∃ns:@&Int,xs=[x]/\K2 g x=!ns.map .int/\-ns<=10000/\d=.ref (-g)/\g'=g++[.lst ((L7 ns).map .int)]
abbrev Yp:DR:=λxs g d g'=>g'=g/\((∃i j,xs=[.int i,.int j]/\d=.int (if j>i then j else i))\/∃a,∃(ns:@&Int) (M:Int),xs=[.ref a]/\d5 g a=!ns.map .int/\M∈ns/\(∀x∈ns,x<=M)/\d=.int M)
abbrev Yq:DR:=λxs g d g'=>g'=g/\((∃i j,xs=[.int i,.int j]/\d=.int (if j<i then j else i))\/False)
abbrev bK8:DR:=λxs g d g'=>∃a i S n,xs=[.ref a,.int i]/\g[a]?=!.set S n/\n+1<4096/\d=.bK/\g'=g.set a (.set (λk=>S k||decide (k=i)) (if S i then n else n+1))
abbrev ZZ:DR:=λxs g d g'=>∃a,∃ns:@&Int,xs=[.ref a]/\d5 g a=!ns.map .int/\-ns<600/\d=.ref (-g)/\g'=g++[.set (λk=>decide (k∈ns)) (ST.i9 [] ns).length]
abbrev Tx(i:Int):DR:=λxs g d g'=>xs=[]/\d=.ref (-g)/\g'=g++[.set (λk=>decide (k=i)) 1]
abbrev YR:DR:=λxs g d g'=>∃a,∃ns:@&Int,xs=[.ref a]/\d5 g a=!ns.map .int/\d=.int ns.sum/\g'=g
abbrev bN4:DR:=λxs g d g'=>∃a,∃ns:@&Int,xs=[.ref a]/\d5 g a=!ns.map .int/\-ns<60/\d=.int (ST.i9 [] ns).length/\g'=g
abbrev ZR:DR:=λxs g d g'=>∃i j,xs=[.int i,.int j]/\d=.int (i-j)/\g'=g
abbrev Yk:DR:=λxs g d g'=>g'=g/\((∃i,xs=[.int i]/\d=.int i)\/∃b,xs=[.bl b]/\d=.int (if b then 1 else 0))
abbrev YQ:DR:=λxs g d g'=>(∃i,xs=[.int i]/\i.natAbs.log2<1920/\d=.str (toString i)/\g'=g)\/∃x,xs=[.str x]/\d=.str x/\g'=g
abbrev bE9:DR:=λxs g d g'=>∃j,xs=[.int j]/\-(2 ^ 62)<=j/\j<=100000/\d=.ref (-g)/\g'=g++[.lst (l9 0 j.toNat)]
abbrev bE8:DR:=λxs g d g'=>∃i j,xs=[.int i,.int j]/\(-(2 ^ 62)<=i/\i<2 ^ 62/\-(2 ^ 62)<=j/\j<2 ^ 62/\j-i<=100000)/\d=.ref (-g)/\g'=g++[.lst (l9 i (j-i).toNat)]
abbrev bK4:DR:=λxs g d g'=>∃a ns,xs=[.ref a]/\d5 g a=!ns.map .int/\-ns<600/\d=.ref (-g)/\g'=g++[.lst ((u7 ns).map .int)]
abbrev YS:DR:=λxs g d g'=>∃ns ms:@&Int,xs=[.tup (ns.map .int),.tup (ms.map .int)]/\(∀k∈ns,ST.Spot k)/\(∀k∈ms,ST.Spot k)/\-ns+-ms<50/\d=.ref (-g)/\g'=g++[.lst ((u7 (ns++ms)).map .int)]
abbrev KW(neg:Bool):DR:=λxs g d g'=>∃kvs x,xs=[.tup kvs,.str x]/\d=.bl (xor neg (R8 kvs x).isSome)/\g'=g
abbrev ZK:DR:=λxs g d g'=>∃kvs x,xs=[.tup kvs,.str x]/\R8 kvs x=!d/\g'=g
abbrev SJ:DR:=λxs g d g'=>g'=g/\((∃i,xs=[.int i]/\i.natAbs.log2<1920/\d=.str (toString i))\/∃x,xs=[.str x]/\-x<=2000/\d=.str x)
abbrev ZJ:DR:=λxs g d g'=>∃x,Ko xs=!x/\d=.str x/\g'=g
abbrev Yf(f:Str):DR:=λxs g d g'=>∃a c fs,xs=[.ref a]/\g[a]?=!.ins c fs/\fs.lookup f=!d/\g'=g
abbrev appendR:DR:=λxs g d g'=>∃a y l,xs=[.ref a,y]/\g[a]?=!.lst l/\-l<100000/\d=.bK/\g'=g.set a (.lst (l++[y]))
abbrev Yz:DR:=λxs g d g'=>∃a i l k,xs=[.ref a,.int i]/\g[a]?=!.lst l/\-(2 ^ 63)<=i/\i<2 ^ 63/\seqIndex? i (-l)=!k/\l[k]?=!d/\g'=g.set a (.lst (l.eraseIdx k))
abbrev Yi:DR:=λxs g d g'=>∃a y z kvs c,xs=[.ref a,y,z]/\g[a]?=!.dB kvs/\qK y=!c/\d=(u5 kvs c).getD z/\g'=g
abbrev Kj:D->Bool
 |.bK=>true
 |.bl _=>true
 |.int _=>true
 |.str _=>true
 |_=>false
abbrev toV:D->V
 |.bl b=>.bl b
 |.int i=>.int i
 |.str x=>.str x
 |_=>.bK
abbrev bI3(l:@&D)(y:D)(n:Nat):Prop:=l.all Kj=true/\Kj y=true/\(∃z,l[n]?=!z/\JE (toV z) (toV y)=true)/\∀(m:Nat) z,m<n->l[m]?=!z->JE (toV z) (toV y)=false
abbrev bG2:DR:=λxs g d g'=>∃x y l n,xs=[x,y]/\K2 g x=!l/\bI3 l y n/\-l<=100000/\d=.int n/\g'=g
abbrev joinR:DR:=λxs g d g'=>∃sep a ys,xs=[.str sep,.ref a]/\d5 g a=!ys.map .str/\UX sep ys<=100000/\d=.str (Builtin.Str.glued sep ys)/\g'=g
abbrev ZO:DR:=λxs g d g'=>(∃i j,xs=[.int i,.int j]/\d=.int (i+j)/\g'=g)\/False
abbrev bH6:DR:=λxs g d g'=>∃a l,xs=[.ref a]/\g[a]?=!.lst l/\d=.bK/\g'=g.set a (.lst [])
abbrev bL4:DR:=λxs g d g'=>∃a l,xs=[.ref a]/\g[a]?=!.lst (l++[d])/\g'=g.set a (.lst l)
abbrev UM:DR:=λxs g d g'=>∃a b l m,xs=[.ref a,.ref b]/\g[a]?=!.lst l/\g[b]?=!.lst m/\-l+-m<=100000/\d=.bK/\g'=g.set a (.lst (l++m))
abbrev bH3:DR:=λxs g d g'=>False\/∃a,∃ks:@&Int,xs=[.ref a]/\d5 g a=!(ks.map λk=>.tup [.int k,.bl true])/\-ks<=1000/\ks.Nodup/\d=.ref (-g)/\g'=g++[.dB (ks.map λk=>(.inl k,.bl true))]
abbrev vb(p:Key×Int×Int):Key×D:=(p.1,.tup [.int p.2.1,.int p.2.2])
abbrev ZY(n:Int)(p:Key×Int×Int):Bool:= ~~~(decide (p.2.1=n)||decide (p.2.2=n))
abbrev ZE:DR:=λxs g d g'=>∃a n,∃fs:@&(Key×Int×Int),xs=[.ref a,.int n]/\g[a]?=!.dB (fs.map vb)/\-fs<1000/\(fs.map (·.1)).Nodup/\d=.ref (-g)/\g'=g++[.dB ((fs.filter (ZY n)).map vb)]
abbrev delD(kvs:@&(Key×D))(k:Key):@&(Key×D):=kvs.filter λkv=>decide (kv.1≠k)
abbrev ZG:DR:=λxs g d g'=>∃a y kvs c,xs=[.ref a,y]/\g[a]?=!.dB kvs/\qK y=!c/\u5 kvs c=!d/\g'=g.set a (.dB (delD kvs c))
abbrev PR:Pr->DR
 |.Ec=>ZE
 |.xV=>ZG
 |.clear=>bH6
 |.any=>anyR
 |.sum=>YR
 |.lB=>bK8
 |.sW=>ZZ
 |.lA i=>Tx i
 |.Z8=>bN4
 |.oy=>ZR
 |.lz=>TY
 |.extend=>UM
 |.sT=>bL4
 |.lO=>bH3
 |.bin op=>XW op
 |.un op=>PQ op
 |.cmp op=>Yb op
 |.ix=>QE
 |.nP a b=>YO a b
 |.rev=>YI
 |.tup=>Zi
 |.lst=>Yo
 |.W7=>ZF
 |.len=>Ym
 |.list=>bN5
 |.tuple=>Uu
 |.isin=>ZQ
 |.all=>allR
 |.max=>Yp
 |.min=>Yq
 |.int=>Yk
 |.str=>YQ
 |.ku=>bE9
 |.lH=>bE8
 |.sset=>bK4
 |.Qd=>YS
 |.SE=>KW false
 |.DN=>KW true
 |.oU=>ZK
 |.fv=>SJ
 |.DP=>ZJ
 |.fld f=>Yf f
 |.append=>appendR
 |.pop=>Yz
 |.get=>Yi
 |.index=>bG2
 |.join=>joinR
 |.iadd=>ZO
abbrev cW(p:Pr)(xs:@&D)(g:G)(Q:KD):Prop:=∃d g',PR p xs g d g'/\Q d g'
abbrev tS(g:G)(x y:D)(k:Bool->Prop):Prop:=∃b,xQ g x y b/\k b
abbrev rA(g:G)(x y:D)(k:Bool->Prop):Prop:=∃b,inR g x y b/\k b
abbrev qO(g:G)(x:D)(k:Bool->Prop):Prop:=∃b,JV g x b/\k b
abbrev YL(x y v:D)(g g':G):Prop:=(∃a i l j,x=.ref a/\y=.int i/\g[a]?=!.lst l/\mB (-l) i=!j/\g'=g.set a (.lst (l.set j v))) \/
 ∃a kvs c,x=.ref a/\g[a]?=!.dB kvs/\qK y=!c/\-kvs<100000/\g'=g.set a (.dB (putD kvs c v))
abbrev Z0(x y v:D)(g:G)(k:G->Prop):Prop:=∃g',YL x y v g g'/\k g'
abbrev Kw(f:Str)(cs:@&Str)(x v:D)(g g':G):Prop:=∃a c fs,x=.ref a/\g[a]?=!.ins c fs/\c∈cs/\-fs<100/\g'=g.set a (.ins c (p6 f v fs))
abbrev yi(f:Str)(cs:@&Str)(x v:D)(g:G)(k:G->Prop):Prop:=∃g',Kw f cs x v g g'/\k g'
abbrev nr:Pr->D->G->Prop
 |.get,x,g=>∃a kvs,x=.ref a/\g[a]?=!.dB kvs
 |.xV,x,g=>∃a kvs,x=.ref a/\g[a]?=!.dB kvs
 |.join,x,g=>∃y,x=.str y
 |.lB,x,g=>∃a S n,x=.ref a/\g[a]?=!.set S n
 |.index,x,g=>∃a l,x=.ref a/\d5 g a=!l
 |_,x,g=>∃a l,x=.ref a/\d5 g a=!l
inductive IK where
 |fix (l:@&D)|lst (a:Nat)|qv (a:Nat)|uA (a n:Nat)
abbrev IK.at:IK->Nat->G->Option (Option D)
 |.fix l,i,_=>some l[i]?
 |.lst a,i,g=>match d5 g a with
  |some l=>some l[i]?
  |none=>none
 |.qv a,i,g=>match d5 g a with
  |some l=>!(l[i]?.map λd=>.tup [.int i,d])
  |none=>none
 |.uA a n,i,g=>match d5 g a with
  |some l=>if (-l)=n then some (if i<n then l[n-1-i]? else none) else none
  |none=>none
inductive MT where
 |one (i:Nat)|many (is:@&Nat)
abbrev S1:@&Nat->@&D->S->Option S
 |[],[],U=>!U
 |i::is,d::ds,U=>S1 is ds (U.set i (!d))
 |_,_,_=>none
abbrev kE(t:MT)(x:D)(U:S)(k:S->Prop):Prop:=match t with
 |.one i=>k (U.set i (!x))
 |.many is=>∃l cA,x=.tup l/\S1 is l U=!cA/\k cA
set_option genInjectivity false in
set_option genSizeOf false in
inductive ME where
 |var (i:Nat)|lit (d:D)
 |nil|cons (a b:ME)|prim (p:Pr) (es:ME)|fo (p:Pr) (o es:ME)
 |chain (o1 o2:CmpOp) (a b c:ME)
 |dZ (a b:ME)|jL (a b:ME)|eK (a:ME)|ite (c a b:ME)
 |call (f:Nat) (es:ME)|make (c:Str) (f:Nat) (es:ME)
 |comp (d8:@&Nat) (n:Nat) (tg:MT) (it cond elt:ME)|iQ (d8:@&Nat) (n:Nat) (tg:MT) (it cond elt:ME)
 |fE (e:ME)|eY (a:ME)|lI (a b:ME)|mD (e:ME)|pA (e:ME)|fR (e:ME)|no
noncomputable abbrev gi:=Nat->@&D->G->KD->KX->Prop
abbrev L1(U:S)(d8:@&Nat)(n:Nat):S:=d8.map (λj=>(U[j]?).join)++List.replicate (n- -d8) none
abbrev turns(k:IK)(U:S)(g:G)(fin:S->G->Prop)(turn:D->(S->G->Prop)->S->G->Prop):Prop :=
 ∃W:Nat->Nat->S->G->Prop,(∃m,W 0 m U g)/\∀i m U g,W i m U g->(k.at i g=!none/\fin U g)\/∃x,k.at i g=!!x/\∃N2:S->G->Prop,(∀cA g',N2 cA g'->∃m',m'<m/\W (i+1) m' cA g')/\turn x N2 U g
abbrev GU(k:IK)(U:S)(g:G)(fin:@&D->G->Prop)(turn:D->(Option D->S->G->Prop)->S->G->Prop):Prop :=
 ∃W:Nat->Nat->@&D->S->G->Prop,(∃m,W 0 m [] U g)/\∀i m ys U g,W i m ys U g->(k.at i g=!none/\fin ys g) \/
  ∃x,k.at i g=!!x/\-ys<100000/\turn x (λy cA g'=>∃m',m'<m/\W (i+1) m' (ys++y.toList) cA g') U g
abbrev GV(k:IK)(U:S)(g:G)(fin:@&Int->G->Prop)(turn:D->(Option Int->S->G->Prop)->S->G->Prop):Prop :=
 ∃W:Nat->Nat->@&Int->S->G->Prop,(∃m,W 0 m [] U g)/\∀i m ys U g,W i m ys U g->(k.at i g=!none/\-ys<60/\fin ys g) \/
  ∃x,k.at i g=!!x/\-ys<60/\turn x (λy cA g'=>∃m',m'<m/\W (i+1) m' (ys++y.toList) cA g') U g
mutual
noncomputable def bt(P:gi):ME->S->G->KD->KX->Prop
 |.var i,U,g,Q,_=>∃d,U[i]?=!!d/\Q d g
 |.lit d,_,g,Q,_=>Q d g
 |.prim p es,U,g,Q,E=>iz P es U g (λxs g1=>cW p xs g1 Q) E
 |.fo p o es,U,g,Q,E=>bt P o U g (λx g1=>nr p x g1/\iz P es U g1 (λxs g2=>cW p (x::xs) g2 Q) E) E
 |.chain o1 o2 a b c,U,g,Q,E=>bt P a U g (λx g1=>bt P b U g1 (λy g2=>cW (.cmp o1) [x,y] g2 λz g3=>∃t,z=.bl t/\if t=true then bt P c U g3 (λw g4=>cW (.cmp o2) [y,w] g4 Q) E else Q (.bl false) g3) E) E
 |.dZ a b,U,g,Q,E=>bt P a U g (λx g1=>∃t,x=.bl t/\if t=true then bt P b U g1 Q E else Q (.bl false) g1) E
 |.jL a b,U,g,Q,E=>bt P a U g (λx g1=>∃t,x=.bl t/\if t=true then Q (.bl true) g1 else bt P b U g1 Q E) E
 |.eK a,U,g,Q,E=>bt P a U g (λx g1=>∃t,x=.bl t/\Q (.bl (~~~t)) g1) E
 |.ite c a b,U,g,Q,E=>eX P c U g (λt g1=>if t=true then bt P a U g1 Q E else bt P b U g1 Q E) E
 |.call f es,U,g,Q,E=>iz P es U g (λxs g1=>P f xs g1 Q E) E
 |.make c f es,U,g,Q,E=>iz P es U g (λxs g1=>P f (.ref (-g1)::xs) (g1++[.ins c []]) (λd g2=>d=.bK/\Q (.ref (-g1)) g2) E) E
 |.comp d8 n tg it cond elt,U,g,Q,E=>iO P it U g (λk g1=>GU k (L1 U d8 n) g1 (λys g=>Q (.ref (-g)) (g++[.lst ys])) λx N U g=>kE tg x U λcQ=>eX P cond cQ g (λb g3=>if b=true then bt P elt cQ g3 (λy g4=>N (!y) cQ g4) km else N none cQ g3) km) E
 |.iQ d8 n tg it cond elt,U,g,Q,E=>iO P it U g (λk g1=>GV k (L1 U d8 n) g1 (λys g=>Q (.ref (-g)) (g++[.lst ((u7 ys).map .int)])) λx N U g=>kE tg x U λcQ=>eX P cond cQ g (λb g3=>if b=true then bt P elt cQ g3 (λy g4=>∃j,y=.int j/\N (!j) cQ g4) km else N none cQ g3) km) E
 |.nil,_,_,_,_=>False
 |.cons _ _,_,_,_,_=>False
 |.fE _,_,_,_,_=>False
 |.eY _,_,_,_,_=>False
 |.lI _ _,_,_,_,_=>False
 |.mD _,_,_,_,_=>False
 |.pA _,_,_,_,_=>False
 |.fR _,_,_,_,_=>False
 |.no,_,_,_,_=>False
noncomputable def iz(P:gi):ME->S->G->(List D->G->Prop)->KX->Prop
 |.nil,_,g,Q,_=>Q [] g
 |.cons a b,U,g,Q,E=>bt P a U g (λx g1=>iz P b U g1 (λxs g2=>Q (x::xs) g2) E) E
 |_,_,_,_,_=>False
noncomputable def eX(P:gi):ME->S->G->(Bool->G->Prop)->KX->Prop
 |.dZ a b,U,g,Q,E=>eX P a U g (λt g1=>if t=true then eX P b U g1 Q E else Q false g1) E
 |.jL a b,U,g,Q,E=>eX P a U g (λt g1=>if t=true then Q true g1 else eX P b U g1 Q E) E
 |.eK a,U,g,Q,E=>eX P a U g (λt g1=>Q (~~~t) g1) E
 |.no,_,g,Q,_=>Q true g
 |.fR e,U,g,Q,E=>bt P e U g (λx g1=>qO g1 x λb=>Q b g1) E
 |_,_,_,_,_=>False
noncomputable def iO(P:gi):ME->S->G->(IK->G->Prop)->KX->Prop
 |.fE e,U,g,R,E=>bt P e U g (λx g1=>(∃l,x=.tup l/\R (.fix l) g1)\/∃a l,x=.ref a/\d5 g1 a=!l/\R (.lst a) g1) E
 |.eY a,U,g,R,E=>bt P a U g (λx g1=>∃j:Int,x=.int j/\-(2 ^ 62)<=j/\j<2 ^ 62/\R (.fix (l9 0 j.toNat)) g1) E
 |.lI a b,U,g,R,E=>bt P a U g (λx g1=>bt P b U g1 (λy g2=>∃i j:Int,x=.int i/\y=.int j/\(-(2 ^ 62)<=i/\i<2 ^ 62/\-(2 ^ 62)<=j/\j<2 ^ 62)/\R (.fix (l9 i (j-i).toNat)) g2) E) E
 |.mD e,U,g,R,E=>bt P e U g (λx g1=>∃a l,x=.ref a/\d5 g1 a=!l/\R (.qv a) g1) E
 |.pA e,U,g,R,E=>bt P e U g (λx g1=>∃a l,x=.ref a/\d5 g1 a=!l/\R (.uA a (-l)) g1) E
 |_,_,_,_,_=>False
end
set_option genInjectivity false in
set_option genSizeOf false in
inductive MS where
 |pass|seq (a b:MS)|expr (e:ME)|set (i:Nat) (e:ME)|nj (t:MT) (e:ME)|fc (o i v:ME)|jn (f:Str) (cs:@&Str) (o v:ME)
 |lP (i:Nat) (p:Pr) (v:ME)|zk (o1 i1 o2 i2 e:ME)
 |ifs (c:ME) (a b:MS)|dX (t:MT) (it:ME) (b:MS)|lh (c:ME) (b:MS)|ret (e:ME)|sN|brk|cont
 |raise (x:Str) (es:ME)|qP (b:MS) (hs:@&(Str×ME))
structure Ends where
 nx:S->G->Prop
 rt:KD
 bk:S->G->Prop:=λ_ _=>False
 ct:S->G->Prop:=λ_ _=>False
abbrev pj(P:gi)(N:Ends)(U:S)(E:KX):@&(Str×ME)->KX
 |[],x,g=>E x g
 |(y,e)::r,x,g=>if x.cls=y\/y="MintError" then bt P e U g N.rt km else pj P N U E r x g
abbrev wpS(P:gi):MS->Ends->S->G->KX->Prop
 |.pass,N,U,g,_=>N.nx U g
 |.seq a b,N,U,g,E=>wpS P a { N with nx:=λjz g1=>wpS P b N jz g1 E } U g E
 |.expr e,N,U,g,E=>bt P e U g (λs g1=>N.nx U g1) E
 |.set i e,N,U,g,E=>bt P e U g (λx g1=>N.nx (U.set i (!x)) g1) E
 |.nj t e,N,U,g,E=>bt P e U g (λx g1=>kE t x U λjz=>N.nx jz g1) E
 |.fc o i v,N,U,g,E=>bt P v U g (λx g1=>bt P o U g1 (λy g2=>bt P i U g2 (λz g3=>Z0 y z x g3 λg4=>N.nx U g4) E) E) E
 |.jn f cs o v,N,U,g,E=>bt P v U g (λx g1=>bt P o U g1 (λy g2=>yi f cs y x g2 λg3=>N.nx U g3) E) E
 |.zk o1 i1 o2 i2 e,N,U,g,E=>bt P e U g (λx g1=>∃u v,x=.tup [u,v]/\bt P o1 U g1 (λy1 g2=>bt P i1 U g2 (λz1 g3=>Z0 y1 z1 u g3 λg4=>bt P o2 U g4 (λy2 g5=>bt P i2 U g5 (λz2 g6=>Z0 y2 z2 v g6 λg7=>N.nx U g7) E) E) E) E) E
 |.lP i p v,N,U,g,E=>∃x,U[i]?=!!x/\bt P v U g (λz g1=>cW p [x,z] g1 λw g2=>N.nx (U.set i (!w)) g2) E
 |.ifs c a b,N,U,g,E=>eX P c U g (λt g1=>if t=true then wpS P a N U g1 E else wpS P b N U g1 E) E
 |.dX t it b,N,U,g,E=>iO P it U g (λk g1=>turns k U g1 N.nx λx N2 U g=>kE t x U λcQ=>wpS P b { N with nx:=N2,ct:=N2,bk:=N.nx } cQ g E) E
 |.lh c b,N,U,g,E=>∃W:Nat->S->G->Prop,(∃m,W m U g)/\∀m U g,W m U g->eX P c U g (λt g1=>if t=true then ∃N2:S->G->Prop,(∀cA g',N2 cA g'->∃m',m'<m/\W m' cA g')/\wpS P b { N with nx:=N2,ct:=N2,bk:=N.nx } U g1 E else N.nx U g1) E
 |.ret e,N,U,g,E=>bt P e U g N.rt E
 |.sN,N,_,g,_=>N.rt .bK g
 |.brk,N,U,g,_=>N.bk U g
 |.cont,N,U,g,_=>N.ct U g
 |.raise x es,_,U,g,E=>iz P es U g (λvs g1=>-vs<=1000/\E #[x] g1) E
 |.qP b hs,N,U,g,E=>wpS P b N U g (pj P N (U.map λs=>none) E hs)
structure bj where
 ar:Nat
 n:Nat
 body:MS
abbrev d4(m:bj)(ds:@&D):S:=ds.map some++List.replicate (m.n- -ds) none
abbrev c5(T:Nat->Option bj):Nat->gi
 |0,_,_,_,_,_=>False
 |k+1,f,ds,g,Q,E=>∃m,T f=!m/\-ds=m.ar/\wpS (c5 T k) m.body #[λx g'=>Q .bK g',Q,λx x=>False,λx x=>False] (d4 m ds) g E
end M
namespace M
open PySem L2
variable{g:G}{K:PySem.W.Frag}{H:Hp}{a p:Addr}{vs:@&V}{i:Nat}{o:O}{u:HO}{l:@&D}
def A1{p xs}{Q Q':KD}(h:∀d g,Q d g->Q' d g)(q:cW p xs g Q):cW p xs g Q':=by
 let#[d,g',a,b]:=q;exact#[d,g',a,h _ _ b]
def a03{x}{k k':Bool->Prop}(h:∀b,k b->k' b)(q:qO g x k):qO g x k':=by
 let#[b,a,z]:=q;exact#[b,a,h _ z]
def X9{x y v}{k k':G->Prop}(h:∀g,k g->k' g)(q:Z0 x y v g k):Z0 x y v g k':=by
 let#[b,a,z]:=q;exact#[b,a,h _ z]
def aT2{f cs x v}{k k':G->Prop}(h:∀g,k g->k' g)(q:yi f cs x v g k):yi f cs x v g k':=by
 let#[b,a,z]:=q;exact#[b,a,h _ z]
def B8{t x U}{k k':S->Prop}(h:∀U,k U->k' U)(q:kE t x U k):kE t x U k':=by
 cases t with
 |one i=>exact h _ q
 |many is=>let#[l,cA,a,b,c]:=q;exact#[l,cA,a,b,h _ c]
def aR9{k U g}{fin lM:S->G->Prop}{turn jg:D->(S->G->Prop)->S->G->Prop}(h:∀U g,fin U g->lM U g)(h2:∀x N U g,turn x N U g->jg x N U g)(q:turns k U g fin turn):turns k U g lM jg:=by
 let#[W,w0,q]:=q;refine#[W,w0,λi m U g w=>?_];rcases q i m U g w with⟨a,b⟩|⟨x,a,N2,b,c⟩
 .exact .inl #[a,h _ _ b]
 .exact .inr #[x,a,N2,b,h2 _ _ _ _ c]
def aL7{k U g}{fin lM:@&D->G->Prop}{turn jg:D->(Option D->S->G->Prop)->S->G->Prop}(h:∀ys g,fin ys g->lM ys g)(h2:∀x N U g,turn x N U g->jg x N U g)(q:GU k U g fin turn):GU k U g lM jg:=by
 let#[W,w0,q]:=q;refine#[W,w0,λi m ys U g w=>?_];rcases q i m ys U g w with⟨a,b⟩|⟨x,a,b,c⟩
 .exact .inl #[a,h _ _ b]
 .exact .inr #[x,a,b,h2 _ _ _ _ c]
def aL6{k U g}{fin lM:@&Int->G->Prop}{turn jg:D->(Option Int->S->G->Prop)->S->G->Prop}(h:∀ys g,fin ys g->lM ys g)(h2:∀x N U g,turn x N U g->jg x N U g)(q:GV k U g fin turn):GV k U g lM jg:=by
 let#[W,w0,q]:=q;refine#[W,w0,λi m ys U g w=>?_];rcases q i m ys U g w with⟨a,b,c⟩|⟨x,a,b,c⟩
 .exact .inl #[a,b,h _ _ c]
 .exact .inr #[x,a,b,h2 _ _ _ _ c]
def K3{t:Bool}{A B A' B':Prop}(h1:A->A')(h2:B->B')(q:if t=true then A else B):if t=true then A' else B':=by
 cases t
 .exact h2 q
 .exact h1 q
abbrev j9(P:gi):Prop:=∀f xs g Q Q' E E',(∀d g,Q d g->Q' d g)->(∀x g,E x g->E' x g)->P f xs g Q E->P f xs g Q' E'
mutual
def d0{P:gi}(hP:j9 P):∀(e:ME) (U:S) (g:G) (Q Q':KD) (E E':KX),(∀d g,Q d g->Q' d g)->(∀x g,E x g->E' x g)->bt P e U g Q E->bt P e U g Q' E'
 |.var i,U,g,Q,Q',E,E',h,hx,q=>by
  let#[d,a,b]:=q;exact#[d,a,h _ _ b]
 |.lit d,U,g,Q,Q',E,E',h,hx,q=>by exact h _ _ q
 |.prim p es,U,g,Q,Q',E,E',h,hx,q=>by
  exact L9 hP es _ _ _ _ _ _ (λxs g1 q=>A1 h q) hx q
 |.fo p o es,U,g,Q,Q',E,E',h,hx,q=>by
  exact d0 hP o _ _ _ _ _ _ (λx g1 q=>#[q.1,L9 hP es _ _ _ _ _ _ (λxs g2 q=>A1 h q) hx q.2]) hx q
 |.chain o1 o2 a b c,U,g,Q,Q',E,E',h,hx,q=>by
  refine d0 hP a _ _ _ _ _ _ (λx g1 q=>d0 hP b _ _ _ _ _ _ (λy g2 q=>A1 (λz g3 q=>?_) q) hx q) hx q;let#[t,e,q]:=q;exact#[t,e,K3 (λq=>d0 hP c _ _ _ _ _ _ (λw g4 q=>A1 h q) hx q) (h _ _) q]
 |.dZ a b,U,g,Q,Q',E,E',h,hx,q=>by
  refine d0 hP a _ _ _ _ _ _ (λx g1 q=>?_) hx q;let#[t,e,q]:=q;exact#[t,e,K3 (λq=>d0 hP b _ _ _ _ _ _ h hx q) (h _ _) q]
 |.jL a b,U,g,Q,Q',E,E',h,hx,q=>by
  refine d0 hP a _ _ _ _ _ _ (λx g1 q=>?_) hx q;let#[t,e,q]:=q;exact#[t,e,K3 (h _ _) (λq=>d0 hP b _ _ _ _ _ _ h hx q) q]
 |.eK a,U,g,Q,Q',E,E',h,hx,q=>by
  refine d0 hP a _ _ _ _ _ _ (λx g1 q=>?_) hx q;let#[t,e,q]:=q;exact#[t,e,h _ _ q]
 |.ite c a b,U,g,Q,Q',E,E',h,hx,q=>by
  exact x4 hP c _ _ _ _ _ _ (λt g1 q=>K3 (λq=>d0 hP a _ _ _ _ _ _ h hx q) (λq=>d0 hP b _ _ _ _ _ _ h hx q) q) hx q
 |.call f es,U,g,Q,Q',E,E',h,hx,q=>by
  exact L9 hP es _ _ _ _ _ _ (λxs g1 q=>hP _ _ _ _ _ _ _ h hx q) hx q
 |.make c f es,U,g,Q,Q',E,E',h,hx,q=>by
  exact L9 hP es _ _ _ _ _ _ (λxs g1 q=>hP _ _ _ _ _ _ _ (λd g2 q=>#[q.1,h _ _ q.2]) hx q) hx q
 |.comp d8 n tg it cond elt,U,g,Q,Q',E,E',h,hx,q=>by
  exact E3 hP it _ _ _ _ _ _ (λk g1 q=>aL7 (λys g q=>h _ _ q) (λv v v v q=>q) q) hx q
 |.iQ d8 n tg it cond elt,U,g,Q,Q',E,E',h,hx,q=>by
  exact E3 hP it _ _ _ _ _ _ (λk g1 q=>aL6 (λys g q=>h _ _ q) (λv v v v q=>q) q) hx q
 |.nil,U,g,Q,Q',E,E',h,hx,q=>(show False from q).elim
 |.cons _ _,U,g,Q,Q',E,E',h,hx,q=>(show False from q).elim
 |.fE _,U,g,Q,Q',E,E',h,hx,q=>(show False from q).elim
 |.eY _,U,g,Q,Q',E,E',h,hx,q=>(show False from q).elim
 |.lI _ _,U,g,Q,Q',E,E',h,hx,q=>(show False from q).elim
 |.mD _,U,g,Q,Q',E,E',h,hx,q|.pA _,U,g,Q,Q',E,E',h,hx,q=>(show False from q).elim
 |.fR _,U,g,Q,Q',E,E',h,hx,q=>(show False from q).elim
 |.no,U,g,Q,Q',E,E',h,hx,q=>(show False from q).elim
def L9{P:gi}(hP:j9 P):∀(e:ME) (U:S) (g:G) (Q Q':@&D->G->Prop) (E E':KX),(∀d g,Q d g->Q' d g)->(∀x g,E x g->E' x g)->iz P e U g Q E->iz P e U g Q' E'
 |.nil,U,g,Q,Q',E,E',h,hx,q=>by exact h _ _ q
 |.cons a b,U,g,Q,Q',E,E',h,hx,q=>by
  exact d0 hP a _ _ _ _ _ _ (λx g1 q=>L9 hP b _ _ _ _ _ _ (λxs g2 q=>h _ _ q) hx q) hx q
 |.var _,U,g,Q,Q',E,E',h,hx,q|.lit _,U,g,Q,Q',E,E',h,hx,q|.prim _ _,U,g,Q,Q',E,E',h,hx,q|.fo _ _ _,U,g,Q,Q',E,E',h,hx,q|.chain _ _ _ _ _,U,g,Q,Q',E,E',h,hx,q|.dZ _ _,U,g,Q,Q',E,E',h,hx,q|.jL _ _,U,g,Q,Q',E,E',h,hx,q|.eK _,U,g,Q,Q',E,E',h,hx,q|.ite _ _ _,U,g,Q,Q',E,E',h,hx,q|.call _ _,U,g,Q,Q',E,E',h,hx,q
 |.make _ _ _,U,g,Q,Q',E,E',h,hx,q|.comp _ _ _ _ _ _,U,g,Q,Q',E,E',h,hx,q|.iQ _ _ _ _ _ _,U,g,Q,Q',E,E',h,hx,q|.fE _,U,g,Q,Q',E,E',h,hx,q|.eY _,U,g,Q,Q',E,E',h,hx,q|.lI _ _,U,g,Q,Q',E,E',h,hx,q|.mD _,U,g,Q,Q',E,E',h,hx,q|.pA _,U,g,Q,Q',E,E',h,hx,q|.fR _,U,g,Q,Q',E,E',h,hx,q|.no,U,g,Q,Q',E,E',h,hx,q=>(show False from q).elim
def x4{P:gi}(hP:j9 P):∀(e:ME) (U:S) (g:G) (Q Q':Bool->G->Prop) (E E':KX),(∀d g,Q d g->Q' d g)->(∀x g,E x g->E' x g)->eX P e U g Q E->eX P e U g Q' E'
 |.dZ a b,U,g,Q,Q',E,E',h,hx,q=>by
  exact x4 hP a _ _ _ _ _ _ (λt g1 q=>K3 (λq=>x4 hP b _ _ _ _ _ _ h hx q) (h _ _) q) hx q
 |.jL a b,U,g,Q,Q',E,E',h,hx,q=>by
  exact x4 hP a _ _ _ _ _ _ (λt g1 q=>K3 (h _ _) (λq=>x4 hP b _ _ _ _ _ _ h hx q) q) hx q
 |.eK a,U,g,Q,Q',E,E',h,hx,q=>by exact x4 hP a _ _ _ _ _ _ (λt g1 q=>h _ _ q) hx q
 |.no,U,g,Q,Q',E,E',h,hx,q=>by exact h _ _ q
 |.fR e,U,g,Q,Q',E,E',h,hx,q=>by exact d0 hP e _ _ _ _ _ _ (λx g1 q=>a03 (λb q=>h _ _ q) q) hx q
 |.var _,U,g,Q,Q',E,E',h,hx,q|.lit _,U,g,Q,Q',E,E',h,hx,q|.prim _ _,U,g,Q,Q',E,E',h,hx,q|.fo _ _ _,U,g,Q,Q',E,E',h,hx,q|.chain _ _ _ _ _,U,g,Q,Q',E,E',h,hx,q|.ite _ _ _,U,g,Q,Q',E,E',h,hx,q|.call _ _,U,g,Q,Q',E,E',h,hx,q|.nil,U,g,Q,Q',E,E',h,hx,q|.cons _ _,U,g,Q,Q',E,E',h,hx,q
 |.make _ _ _,U,g,Q,Q',E,E',h,hx,q|.comp _ _ _ _ _ _,U,g,Q,Q',E,E',h,hx,q|.iQ _ _ _ _ _ _,U,g,Q,Q',E,E',h,hx,q|.fE _,U,g,Q,Q',E,E',h,hx,q|.eY _,U,g,Q,Q',E,E',h,hx,q|.lI _ _,U,g,Q,Q',E,E',h,hx,q|.mD _,U,g,Q,Q',E,E',h,hx,q|.pA _,U,g,Q,Q',E,E',h,hx,q=>(show False from q).elim
def E3{P:gi}(hP:j9 P):∀(e:ME) (U:S) (g:G) (Q Q':IK->G->Prop) (E E':KX),(∀d g,Q d g->Q' d g)->(∀x g,E x g->E' x g)->iO P e U g Q E->iO P e U g Q' E'
 |.fE e,U,g,Q,Q',E,E',h,hx,q=>by
  exact d0 hP e _ _ _ _ _ _ (λx g1 q=>q.imp (by rintro ⟨l,a,b⟩;exact #[l,a,h _ _ b]) (by rintro ⟨i,l,a,b,c⟩;exact #[i,l,a,b,h _ _ c])) hx q
 |.eY a,U,g,Q,Q',E,E',h,hx,q=>by
  exact d0 hP a _ _ _ _ _ _ (by rintro x g1 ⟨j,a,b,c,d⟩;exact #[j,a,b,c,h _ _ d]) hx q
 |.lI a b,U,g,Q,Q',E,E',h,hx,q=>by
  exact d0 hP a _ _ _ _ _ _ (λx g1 q=>d0 hP b _ _ _ _ _ _ (by rintro y g2 ⟨i,j,a,b,c,d⟩;exact #[i,j,a,b,c,h _ _ d]) hx q) hx q
 |.mD e,U,g,Q,Q',E,E',h,hx,q=>by
  exact d0 hP e _ _ _ _ _ _ (by rintro x g1 ⟨i,l,a,b,c⟩;exact #[i,l,a,b,h _ _ c]) hx q
 |.pA e,U,g,Q,Q',E,E',h,hx,q=>by
  exact d0 hP e _ _ _ _ _ _ (by rintro x g1 ⟨i,l,a,b,c⟩;exact #[i,l,a,b,h _ _ c]) hx q
 |.var _,U,g,Q,Q',E,E',h,hx,q|.lit _,U,g,Q,Q',E,E',h,hx,q|.prim _ _,U,g,Q,Q',E,E',h,hx,q|.fo _ _ _,U,g,Q,Q',E,E',h,hx,q|.chain _ _ _ _ _,U,g,Q,Q',E,E',h,hx,q|.ite _ _ _,U,g,Q,Q',E,E',h,hx,q|.call _ _,U,g,Q,Q',E,E',h,hx,q|.nil,U,g,Q,Q',E,E',h,hx,q|.cons _ _,U,g,Q,Q',E,E',h,hx,q
 |.dZ _ _,U,g,Q,Q',E,E',h,hx,q|.jL _ _,U,g,Q,Q',E,E',h,hx,q|.eK _,U,g,Q,Q',E,E',h,hx,q|.fR _,U,g,Q,Q',E,E',h,hx,q|.no,U,g,Q,Q',E,E',h,hx,q
 |.make _ _ _,U,g,Q,Q',E,E',h,hx,q|.comp _ _ _ _ _ _,U,g,Q,Q',E,E',h,hx,q|.iQ _ _ _ _ _ _,U,g,Q,Q',E,E',h,hx,q=>(show False from q).elim
end
structure Ends.le(N N':Ends):Prop where
 nx:∀U g,N.nx U g->N'.nx U g
 rt:∀d g,N.rt d g->N'.rt d g
 bk:∀U g,N.bk U g->N'.bk U g
 ct:∀U g,N.ct U g->N'.ct U g
set_option tactic.hygienic true in
def Ow{P:gi}(hP:j9 P){N N':Ends}{E E':KX}(h:N.le N')(hx:∀x g,E x g->E' x g){U:S}:∀(hs:@&(Str×ME)) x g,pj P N U E hs x g->pj P N' U E' hs x g
 |[],x,g,q=>hx x g q
 |(y,e)::r,x,g,q=>by
  unfold pj at q ⊢;split
  .rename_i hh;rw[aI hh] at q;exact d0 hP e _ _ _ _ _ _ h.rt (λw w z=>z) q
  .rename_i hh;rw[aE hh] at q;exact Ow hP h hx r x g q
def wpS_mono{P:gi}(hP:j9 P):∀(s:MS) (N N':Ends) (U:S) (g:G) (E E':KX),N.le N'->(∀x g,E x g->E' x g)->wpS P s N U g E->wpS P s N' U g E'
 |.pass,N,N',U,g,E,E',h,hx,q=>h.nx _ _ q
 |.seq a b,N,N',U,g,E,E',h,hx,q=>wpS_mono hP a { N with nx:=λjz g1=>wpS P b N jz g1 E } { N' with nx:=λjz g1=>wpS P b N' jz g1 E' } _ _ _ _ #[λjz g1 q=>wpS_mono hP b _ _ _ _ _ _ h hx q,h.rt,h.bk,h.ct] hx q
 |.expr e,N,N',U,g,E,E',h,hx,q=>d0 hP e _ _ _ _ _ _ (λx g1 q=>h.nx _ _ q) hx q
 |.set i e,N,N',U,g,E,E',h,hx,q=>d0 hP e _ _ _ _ _ _ (λx g1 q=>h.nx _ _ q) hx q
 |.nj t e,N,N',U,g,E,E',h,hx,q=>d0 hP e _ _ _ _ _ _ (λx g1 q=>B8 (λU q=>h.nx _ _ q) q) hx q
 |.fc o i v,N,N',U,g,E,E',h,hx,q=>d0 hP v _ _ _ _ _ _ (λx g1 q=>d0 hP o _ _ _ _ _ _ (λy g2 q=>d0 hP i _ _ _ _ _ _ (λz g3 q=>X9 (λg q=>h.nx _ _ q) q) hx q) hx q) hx q
 |.jn f cs o v,N,N',U,g,E,E',h,hx,q=>d0 hP v _ _ _ _ _ _ (λx g1 q=>d0 hP o _ _ _ _ _ _ (λy g2 q=>aT2 (λg q=>h.nx _ _ q) q) hx q) hx q
 |.zk o1 i1 o2 i2 e,N,N',U,g,E,E',h,hx,q=>d0 hP e _ _ _ _ _ _ (λx g1 q=>let ⟨u,v,q1,q⟩:=q;#[u,v,q1,d0 hP o1 _ _ _ _ _ _ (λy g2 q=>d0 hP i1 _ _ _ _ _ _ (λz g3 q=>X9 (λg4 q=>d0 hP o2 _ _ _ _ _ _ (λy g5 q=>d0 hP i2 _ _ _ _ _ _ (λz g6 q=>X9 (λg q=>h.nx _ _ q) q) hx q) hx q) q) hx q) hx q]) hx q
 |.lP i p v,N,N',U,g,E,E',h,hx,q=>let ⟨x,q1,q⟩:=q;#[x,q1,d0 hP v _ _ _ _ _ _ (λz g1 q=>A1 (λw g2 q=>h.nx _ _ q) q) hx q]
 |.ifs c a b,N,N',U,g,E,E',h,hx,q=>x4 hP c _ _ _ _ _ _ (λt g1 q=>K3 (λq=>wpS_mono hP a _ _ _ _ _ _ h hx q) (λq=>wpS_mono hP b _ _ _ _ _ _ h hx q) q) hx q
 |.dX t it b,N,N',U,g,E,E',h,hx,q=>E3 hP it _ _ _ _ _ _ (λk g1 q=>aR9 h.nx (λx N2 U g q=>B8 (λcQ q=>wpS_mono hP b { N with nx:=N2,ct:=N2,bk:=N.nx } { N' with nx:=N2,ct:=N2,bk:=N'.nx } _ _ _ _ #[λr r z=>z,h.rt,h.nx,λr r z=>z] hx q) q) q) hx q
 |.lh c b,N,N',U,g,E,E',h,hx,q=>by
  let#[W,w0,q]:=q;refine#[W,w0,λm U g w=>x4 hP c _ _ _ _ _ _ (λt g1 q=>K3 (λq=>?_) (h.nx _ _) q) hx (q m U g w)];let#[N2,a,q]:=q;exact#[N2,a,wpS_mono hP b { N with nx:=N2,ct:=N2,bk:=N.nx } { N' with nx:=N2,ct:=N2,bk:=N'.nx } _ _ _ _ #[λr r z=>z,h.rt,h.nx,λr r z=>z] hx q]
 |.ret e,N,N',U,g,E,E',h,hx,q=>d0 hP e _ _ _ _ _ _ h.rt hx q
 |.sN,N,N',U,g,E,E',h,hx,q=>h.rt _ _ q
 |.brk,N,N',U,g,E,E',h,hx,q=>h.bk _ _ q
 |.cont,N,N',U,g,E,E',h,hx,q=>h.ct _ _ q
 |.raise x es,N,N',U,g,E,E',h,hx,q=>L9 hP es _ _ _ _ _ _ (λvs g1 q=>#[q.1,hx _ _ q.2]) hx q
 |.qP b hs,N,N',U,g,E,E',h,hx,q=>wpS_mono hP b _ _ _ _ _ _ h (λx g q=>Ow hP h hx hs x g q) q
def b0(T:Nat->Option bj):∀k,j9 (c5 T k)
 |0=>λf xs g Q Q' E E' h hx q=>q.elim
 |k+1=>λf xs g Q Q' E E' h hx q=>by
  let#[m,a,b,q]:=q;exact#[m,a,b,wpS_mono (b0 T k) m.body #[λx g'=>Q .bK g',Q,λx x=>False,λx x=>False] _ _ _ _ _ #[λx x z=>h _ _ z,h,λx x z=>z,λx x z=>z] hx q]
abbrev TupAt(K:PySem.W.Frag)(H:Hp)(a:Addr)(vs:@&V):Prop :=
 H a=!.tup vs\/∃(o:Obj) (bA:Array Value) (n:Nat),K.lookup a=!o/\o.cls=.type "tuple"/\o.dict=none/\o.data=.seq bA n/\bA.size<=sizeLine/\Vals vs bA.toList
def TupAt.d(h:TupAt K H a vs):Eo K H a vs:=h
def TupAt.sq{K:PySem.W.Frag}{H:Hp}{a:Addr}{vs:@&V}(h:TupAt K H a vs):kl K H a vs:=h.d.sq
mutual
inductive f7(K:PySem.W.Frag)(ρ:@&Addr)(H:Hp):D->V->Prop
 |bK:f7 K ρ H .bK .bK
 |bl (b:Bool):f7 K ρ H (.bl b) (.bl b)
 |int (i:Int):f7 K ρ H (.int i) (.int i)
 |str (x:Str):f7 K ρ H (.str x) (.str x)
 |ty (n:String):f7 K ρ H (.ty n) (.ty n)
 |ref {i:Nat} {a:Addr} (h:ρ[i]?=!a):f7 K ρ H (.ref i) (.ref a)
 |tup {l:@&D} {a:Addr} {vs:@&V} (h:TupAt K H a vs) (r:c7 K ρ H l vs):f7 K ρ H (.tup l) (.ref a)
inductive c7(K:PySem.W.Frag)(ρ:@&Addr)(H:Hp):@&D->@&V->Prop
 |nil:c7 K ρ H [] []
 |cons {d:D} {v:V} {ds:@&D} {vs:@&V} (h:f7 K ρ H d v) (r:c7 K ρ H ds vs):c7 K ρ H (d::ds) (v::vs)
end
structure Ext(ρ:@&Addr)(H:Hp)(cx:@&Addr)(H':Hp):Prop where
 pre:∃more,cx=ρ++more
 tup:∀a xs,H a=!.tup xs->H' a=!.tup xs
def Ext.refl(ρ:@&Addr)(H:Hp):Ext ρ H ρ H:=#[#[[],by simp],λx x h=>h]
def Ext.trans{ρ H cM H1 gg H2}(a:Ext ρ H cM H1)(b:Ext cM H1 gg H2):Ext ρ H gg H2:=by
 let#[#[m,rfl],t]:=a;let#[#[m',rfl],t']:=b;exact#[#[m++m',by simp],λx xs h=>t' _ _ (t _ _ h)]
def Ext.get{ρ H cx H'}(e:Ext ρ H cx H')(h:ρ[i]?=!a):cx[i]?=!a:=by
 let#[#[m,rfl],_]:=e;rw[aN (aw.mp h).1];exact h
def TupAt.ext{K ρ H cx H'}(e:Ext ρ H cx H'){a:Addr}{vs:@&V}(h:TupAt K H a vs):TupAt K H' a vs:=h.elim (λz=>.inl (e.tup _ _ z)) .inr
mutual
def f7.ext{K ρ H cx H'}(e:Ext ρ H cx H'):∀{d v},f7 K ρ H d v->f7 K cx H' d v
 |_,_,.bK=>.bK
 |_,_,.bl b=>.bl b
 |_,_,.int i=>.int i
 |_,_,.str x=>.str x
 |_,_,.ty n=>.ty n
 |_,_,.ref h=>.ref (e.get h)
 |_,_,.tup h r=>.tup (h.ext e) (c7.ext e r)
def c7.ext{K ρ H cx H'}(e:Ext ρ H cx H'):∀{ds vs},c7 K ρ H ds vs->c7 K cx H' ds vs
 |_,_,.nil=>.nil
 |_,_,.cons h r=>.cons (f7.ext e h) (c7.ext e r)
end
def c7.length{K ρ H}{ds:@&D}{vs:@&V}(h:c7 K ρ H ds vs):-ds=-vs:=by
 induction ds generalizing vs with
 |nil=>cases h;rfl
 |cons d ds ih =>
  cases h with
  |cons q r=>simp[ih r]
def c7.get{K ρ H}:∀{ds vs} {i:Nat} {d:D},c7 K ρ H ds vs->ds[i]?=!d->∃v,vs[i]?=!v/\f7 K ρ H d v
 |_,_,_,_,.nil,h=>by simp at h
 |_,_,0,_,.cons h _,e=>by simp at e;subst e;exact#[_,rfl,h]
 |_,_,i+1,d,.cons _ r,e=>by
  let#[v,h1,h2]:=c7.get (i:=i) (d:=d) r (by simpa using e);exact#[v,by simpa using h1,h2]
def c7.set{K ρ H}{d:D}{v:V}(h:f7 K ρ H d v):∀{ds vs} (i:Nat),c7 K ρ H ds vs->c7 K ρ H (ds.set i d) (vs.set i v)
 |_,_,_,.nil=>.nil
 |_,_,0,.cons _ r=>.cons h r
 |_,_,i+1,.cons q r=>.cons q (c7.set h i r)
def c7.append{K ρ H}{ds es:@&D}{ws:@&V}(h:c7 K ρ H ds vs)(s:c7 K ρ H es ws):c7 K ρ H (ds++es) (vs++ws):=by
 induction ds generalizing vs with
 |nil=>cases h;exact s
 |cons d ds ih =>
  cases h with
  |cons q r=>exact .cons q (ih r)
def c7.erase{K ρ H}:∀{ds:@&D} {vs:@&V} (i:Nat),c7 K ρ H ds vs->c7 K ρ H (ds.eraseIdx i) (vs.eraseIdx i)
 |_,_,_,.nil=>.nil
 |_,_,0,.cons _ r=>r
 |_,_,i+1,.cons q r=>.cons q (c7.erase i r)
def c7.take{K ρ H}:∀{ds:@&D} {vs:@&V} (n:Nat),c7 K ρ H ds vs->c7 K ρ H (ds.take n) (vs.take n)
 |_,_,0,_=>.nil
 |_,_,_+1,.nil=>.nil
 |_,_,n+1,.cons h r=>.cons h (c7.take n r)
def c7.drop{K ρ H}:∀{ds:@&D} {vs:@&V} (n:Nat),c7 K ρ H ds vs->c7 K ρ H (ds.drop n) (vs.drop n)
 |_,_,0,r=>r
 |_,_,_+1,.nil=>.nil
 |_,_,n+1,.cons _ r=>c7.drop n r
def c7.reverse{K ρ H}:∀{ds:@&D} {vs:@&V},c7 K ρ H ds vs->c7 K ρ H ds.reverse vs.reverse
 |_,_,.nil=>.nil
 |_,_,.cons h r=>by
  rw[iH,iH];exact c7.append (c7.reverse r) (.cons h .nil)
def c7.cut{K ρ H}{ds:@&D}{vs:@&V}(r:c7 K ρ H ds vs)(lo hi:Option Int):c7 K ρ H (M.cut ds lo hi) (X0 vs lo hi):=by
 unfold M.cut X0;rw[(-r)];exact(r.drop _).take _
def c7.ints{K ρ H}:∀{ns:@&Int} {vs:@&V},c7 K ρ H (ns.map D.int) vs->vs=ns.map V.int
 |[],_,.nil=>rfl
 |_::_,_,.cons h r=>by cases h;rw[c7.ints r];rfl
def c7.ofInts{K ρ H}:∀(ns:@&Int),c7 K ρ H (ns.map D.int) (ns.map V.int)
 |[]=>.nil
 |n::r=>.cons (.int n) (c7.ofInts r)
abbrev vp(K:PySem.W.Frag)(H:Hp)(a:Addr)(vs:@&V):Prop :=
 (∃o,H a=!.kK o (.lst vs))\/∃(o:Obj) (bA:Array Value) (n:Nat),K.lookup a=!o/\o.cls=.type "list"/\o.dict=none/\o.data=.seq bA n/\bA.size<=sizeLine/\Vals vs bA.toList
def vp.sq(h:vp K H a vs):gE K H a vs:=h.elim (by rintro ⟨o,z⟩;exact .inl (.inr #[o,z])) .inr
inductive j4{α:Type}(K:PySem.W.Frag)(ρ:@&Addr)(H:Hp):@&(α×D)->@&(α×V)->Prop
 |nil:j4 K ρ H [] []
 |cons {k:α} {d:D} {v:V} {ds:@&(α×D)} {vs:@&(α×V)} (h:f7 K ρ H d v) (r:j4 K ρ H ds vs):j4 K ρ H ((k,d)::ds) ((k,v)::vs)
def j4.ext{α:Type}{K ρ H cx H'}(e:Ext ρ H cx H'){ds:@&(α×D)}{vs:@&(α×V)}(h:j4 K ρ H ds vs):j4 K cx H' ds vs:=by
 induction h with
 |nil=>exact .nil
 |cons h r ih=>exact .cons (h.ext e) ih
def j4.drop{K ρ H}{ds:@&(Key×D)}{vs:@&(Key×V)}(k:Key)(h:j4 K ρ H ds vs):j4 K ρ H (delD ds k) (Bl vs k):=by
 unfold delD Bl
 induction h with
 |nil=>exact .nil
 |cons h r ih =>
  rw[ja,ja];split
  .exact .cons h ih
  .exact ih
def j4.get{α:Type}{K ρ H}{ds:@&(α×D)}{vs:@&(α×V)}(h:j4 K ρ H ds vs):∀{i:Nat} {k:α} {d:D},ds[i]?=!(k,d)->∃v,vs[i]?=!(k,v)/\f7 K ρ H d v:=by
 induction h with
 |nil=>intro i k d e;simp at e
 |cons h r ih =>
  intro i k d e;cases i with
  |zero=>simp at e;let#[rfl,rfl]:=e;exact#[_,rfl,h]
  |succ i=>simpa using ih (by simpa using e)
def j4.length{α:Type}{K ρ H}{ds:@&(α×D)}{vs:@&(α×V)}(h:j4 K ρ H ds vs):-ds=-vs:=by
 induction h with
 |nil=>rfl
 |cons h r ih=>simp[ih]
abbrev ud(K:PySem.W.Frag)(ρ:@&Addr)(H:Hp):Option D->Option V->Prop
 |some d,!v=>f7 K ρ H d v
 |none,none=>True
 |_,_=>False
def j4.val{K ρ H}:∀{ds vs} (k:Key),j4 K ρ H ds vs->ud K ρ H (u5 ds k) (N1 vs k)
 |_,_,k,.nil=>trivial
 |_,_,k,.cons (k:=k') h r=>by
  unfold u5 N1;rw[fI,fI];by_cases e:k'=k
  .simp only[e,decide_true];exact h
  .simp only[e,decide_false];exact j4.val k r
def j4.Ka{K ρ H}:∀{ds vs} (k:Key),j4 K ρ H ds vs->(ds.any λkv=>decide (kv.1=k))=(vs.any λkv=>decide (kv.1=k))
 |_,_,k,.nil=>rfl
 |_,_,k,.cons h r=>by simp only[List.any_cons,j4.Ka k r]
def j4.snoc{K ρ H}{k:Key}{d:D}{v:V}(h:f7 K ρ H d v){ds vs}(t:j4 K ρ H ds vs):j4 K ρ H (ds++[(k,d)]) (vs++[(k,v)]):=by
 induction ds generalizing vs with
 |nil=>cases t;exact .cons h .nil
 |cons d ds ih =>
  cases t with
  |cons q r=>exact .cons q (ih r)
def j4.GK{K ρ H}{k:Key}{d:D}{v:V}(h:f7 K ρ H d v):∀{ds vs},j4 K ρ H ds vs->j4 K ρ H (ds.map λkv=>if kv.1=k then(kv.1,d) else kv) (vs.map λkv=>if kv.1=k then(kv.1,v) else kv)
 |_,_,.nil=>.nil
 |_,_,.cons (k:=k') q r=>by
  simp only[List.map_cons];by_cases e:k'=k
  .rw[aI e,aI e];exact .cons h (j4.GK h r)
  .rw[aE e,aE e];exact .cons q (j4.GK h r)
def j4.put{K ρ H}{k:Key}{d:D}{v:V}(h:f7 K ρ H d v){ds vs}(r:j4 K ρ H ds vs):j4 K ρ H (putD ds k d) (putK vs k v):=by
 unfold putD putK;rw[r.Ka k];split
 .exact r.GK h
 .exact r.snoc h
noncomputable abbrev w9(K:PySem.W.Frag)(x:Str)(C:Addr):Prop:=PySem.W.nsIn K mainGlobals x=!!.ref C
set_option tactic.hygienic true in
def j4.look{K ρ H}{ds:@&(Str×D)}{vs:@&(Str×V)}(f:Str)(h:j4 K ρ H ds vs):ud K ρ H (ds.lookup f) (vs.lookup f):=by
 induction h with
 |nil=>trivial
 |cons h r ih =>
  rename_i k d v ds vs;rw[eI,eI];cases f==k
  .exact ih
  .exact h
def j4.B9{K ρ H}{f:Str}{d:D}{v:V}(h:f7 K ρ H d v){ds:@&(Str×D)}{vs:@&(Str×V)}(r:j4 K ρ H ds vs):j4 K ρ H (p6 f d ds) (L2.B9 f v vs):=by
 induction r with
 |nil=>exact .cons h .nil
 |cons q r ih =>
  unfold p6 L2.B9;split
  .exact .cons h r
  .exact .cons q ih
def Ma{f:Str}{d:D}{p:Str->Prop}(hf:p f):∀{ds:@&(Str×D)},(∀x∈ds,p x.1)->∀x∈p6 f d ds,p x.1
 |[],_,x,hx=>by
  have:x=(f,d):=by simpa[p6] using hx
  simp_all
 |(k,e)::r,h,x,hx=>by
  unfold p6 at hx;split at hx
  .rcases aL.mp hx with z|z
   .rw[z];exact h (k,e) #[_]
   .exact h x (by simp[z])
  .rcases aL.mp hx with z|z
   .rw[z];exact h (k,e) #[_]
   .exact Ma hf (λy hy=>h y (by simp[hy])) x z
abbrev OH(K:PySem.W.Frag)(ρ:@&Addr)(H:Hp):O->HO->Prop
 |.lst l,.lst vs=>c7 K ρ H l vs
 |.dB kvs,.dK vs=>j4 K ρ H kvs vs
 |.set S n,.set S' n'=>S=S'/\n=n'
 |.ins c fs,.ins C _ vs=>w9 K c C/\kW K C/\j4 K ρ H fs vs/\∀x∈fs,E2 K C x.1
 |_,_=>False
def OH.ext{K ρ H cx H'}(e:Ext ρ H cx H'){o:O}{u:HO}(h:OH K ρ H o u):OH K cx H' o u:=by
 cases o<;>cases u<;>first|exact h.elim|exact c7.ext e h|exact j4.ext e h|exact#[h.1,h.2.1,h.2.2.1.ext e,h.2.2.2]|exact h
def OH.vA{K ρ H}{xs:@&V}(h:OH K ρ H o (.tup xs)):False:=by cases o<;>exact h
def OH.bM7{K ρ H}{ob:Obj}(h:OH K ρ H o (.kK ob u)):False:=by cases o<;>exact h
abbrev L3(K:PySem.W.Frag)(ρ:@&Addr)(H:Hp)(o:O)(a:Addr):Prop:=match o with
 |.qp l=>∃vs,vp K H a vs/\c7 K ρ H l vs
 |o=>∃u,H a=!u/\OH K ρ H o u
def L3.of{K ρ H}(hu:H a=!u)(h:OH K ρ H o u):L3 K ρ H o a:=by
 cases o<;>first|exact#[u,hu,h]|(cases u<;>exact h.elim)
def L3.inv{K ρ H}(m:o.mut=true)(h:L3 K ρ H o a):∃u,H a=!u/\OH K ρ H o u:=by
 cases o<;>first|exact h|cases m
def L3.lst{K ρ H}{l:@&D}{a:Addr}(h:L3 K ρ H (.lst l) a):∃vs,H a=!.lst vs/\c7 K ρ H l vs:=by
 let#[u,h1,h2]:=h;cases u<;>first|exact#[_,h1,h2]|exact h2.elim
def L3.dB{K ρ H}{l:@&(Key×D)}{a:Addr}(h:L3 K ρ H (.dB l) a):∃vs,H a=!.dK vs/\j4 K ρ H l vs:=by
 let#[u,h1,h2]:=h;cases u<;>first|exact#[_,h1,h2]|exact h2.elim
def L3.set{K ρ H}{S:Int->Bool}{n:Nat}{a:Addr}(h:L3 K ρ H (.set S n) a):H a=!.set S n:=by
 let#[u,h1,h2]:=h;cases u<;>first|(let#[rfl,rfl]:=(show _/\_ from h2);exact h1)|exact h2.elim
def L3.ins{K ρ H}{c:Str}{fs:@&(Str×D)}{a:Addr}(h:L3 K ρ H (.ins c fs) a):∃C dx vs,H a=!.ins C dx vs/\w9 K c C/\kW K C/\j4 K ρ H fs vs/\∀x∈fs,E2 K C x.1:=by
 let#[u,h1,h2]:=h;cases u<;>first|exact#[_,_,_,h1,h2]|exact h2.elim
structure Rl(K:PySem.W.Frag)(ρ:@&Addr)(g:G)(H:Hp):Prop where
 len:ρ.length=-g
 obj:∀(i:Nat) o a,g[i]?=!o->ρ[i]?=!a->L3 K ρ H o a
 nd:∀(i j:Nat) o o' a,g[i]?=!o->g[j]?=!o'->o.mut=true->o'.mut=true->ρ[i]?=!a->ρ[j]?=!a->i=j
section
variable{ρ:@&Addr}
def Rl.lst(R:Rl K ρ g H){i:Nat}{l:@&D}{a:Addr}(h:g[i]?=!.lst l)(ha:ρ[i]?=!a):∃vs,H a=!.lst vs/\c7 K ρ H l vs:=(R.obj _ _ _ h ha).lst
def Rl.dB(R:Rl K ρ g H){i:Nat}{l:@&(Key×D)}{a:Addr}(h:g[i]?=!.dB l)(ha:ρ[i]?=!a):∃vs,H a=!.dK vs/\j4 K ρ H l vs:=(R.obj _ _ _ h ha).dB
def Rl.set(R:Rl K ρ g H){i:Nat}{S:Int->Bool}{n:Nat}{a:Addr}(h:g[i]?=!.set S n)(ha:ρ[i]?=!a):H a=!.set S n:=(R.obj _ _ _ h ha).set
def Rl.ins(R:Rl K ρ g H){i:Nat}{c:Str}{fs:@&(Str×D)}{a:Addr}(h:g[i]?=!.ins c fs)(ha:ρ[i]?=!a):∃C dx vs,H a=!.ins C dx vs/\w9 K c C/\kW K C/\j4 K ρ H fs vs/\∀x∈fs,E2 K C x.1:=(R.obj _ _ _ h ha).ins
def Rl.items(R:Rl K ρ g H)(h:d5 g i=!l)(ha:ρ[i]?=!a):∃vs,gE K H a vs/\c7 K ρ H l vs:=by
 cases e:g[i]? with
 |none=>rw[d5,e] at h;cases h
 |some o =>
  rw[d5,e] at h;let q:=R.obj _ _ _ e ha;cases o with
  |lst m=>cases h;let#[vs,z,r]:=q.lst;exact#[vs,gE.of z,r]
  |qp m=>cases h;let#[vs,z,r]:=q;exact#[vs,z.sq,r]
  |_=>cases h
def C4{o:HO}(hp:H p=none):Ext ρ H ρ (upd H p o):=#[#[[],by simp],λa xs h=>by rw[i7 (q9 h hp)];exact h]
def vp.upd{p a:Addr}{o:HO}{vs:@&V}(h:vp K H a vs)(hp:∀ob u,H p≠!.kK ob u):vp K (upd H p o) a vs:=by
 rcases h with⟨ob,z⟩|z
 .refine .inl #[ob,?_];rw[i7 ?_]
  .exact z
  .intro e;subst e;exact hp _ _ z
 .exact .inr z
def L3.upd{p a:Addr}{o:O}{u:HO}{cx:@&Addr}(h:L3 K ρ H o a)(fQ:o.mut=true->a≠p)(hp:∀ob u,H p≠!.kK ob u)(e:Ext ρ H cx (L2.upd H p u)):L3 K cx (L2.upd H p u) o a:=by
 cases hm:o.mut with
 |true =>
  let#[u',h1,h2]:=h.inv hm;exact .of (by rw[i7 (fQ hm)];exact h1) (h2.ext e)
 |false =>
  cases o<;>first|cases hm|skip
  let#[vs,z,r]:=h;exact#[vs,z.upd hp,r.ext e]
def Rl.grow{o:HO}(R:Rl K ρ g H)(hp:H p=none):Rl K ρ g (upd H p o):=by
 let e:Ext ρ H ρ (upd H p o):=C4 hp;refine#[R.len,λi ob a h1 h2=>?_,R.nd];let q:=R.obj _ _ _ h1 h2;refine q.upd (λhm=>?_) (λob u z=>by simp_all) e;let#[u,h1,_]:=q.inv hm;exact q9 h1 hp
def Rl.A8(R:Rl K ρ g H)(p:Addr):(ρ++[p])[(-g)]?=!p:=by rw[<- R.len];simp
def F9{o:HO}(hp:H p=none):Ext ρ H (ρ++[p]) (upd H p o):=#[#[[p],rfl],(C4 (ρ:=ρ) hp).tup]
def Rl.new(R:Rl K ρ g H)(hp:H p=none)(r:OH K ρ H o u):Rl K (ρ++[p]) (g++[o]) (upd H p u):=by
 let e:Ext ρ H (ρ++[p]) (upd H p u):=F9 hp;let old:∀{i:Nat} {ob:O} {a:Addr},g[i]?=!ob->(ρ++[p])[i]?=!a->ρ[i]?=!a:=λ{i ob a} h1 h2=>by
  rw[aN (by rw[R.len];exact(aw.mp h1).1)] at h2;exact h2
 let split:∀{i:Nat} {ob:O},(g++[o])[i]?=!ob->g[i]?=!ob\/(i=-g/\ob=o):=λ{i ob} h=>by
  rcases fU i (-g) with q|q|q
  .rw[aN q] at h;exact .inl h
  .subst q;simp at h;exact .inr #[rfl,h.symm]
  .rw[aT (by simp;omega)] at h;cases h
 refine#[by simp[R.len],λi ob a h1 h2=>?_,λi j o1 o2 a h1 h2 m1 m2 h3 h4=>?_]
 .rcases split h1 with q|⟨rfl,rfl⟩
  .let z:=R.obj _ _ _ q (old q h2);refine z.upd (λhm=>?_) (λob u z=>by simp_all) e;let#[u,h1,_]:=z.inv hm;exact q9 h1 hp
  .rw[R.A8] at h2;cases h2;exact .of x5 (r.ext e)
 .let nq:∀{i:Nat} {o:O} {a:Addr},g[i]?=!o->o.mut=true->ρ[i]?=!a->a≠p:=λ{i o a} h1 hm h2=>by
   let#[u,z,_]:=(R.obj _ _ _ h1 h2).inv hm;exact q9 z hp
  rcases split h1 with q|⟨rfl,_⟩
  .rcases split h2 with q'|⟨rfl,_⟩
   .exact R.nd _ _ _ _ _ q q' m1 m2 (old q h3) (old q' h4)
   .rw[R.A8] at h4;cases h4;exact absurd rfl (nq q m1 (old q h3))
  .rcases split h2 with q'|⟨rfl,_⟩
   .rw[R.A8] at h3;cases h3;exact absurd rfl (nq q' m2 (old q' h4))
   .rfl
def Rl.alloc(R:Rl K ρ g H)(hp:H p=none)(r:c7 K ρ H l vs):Rl K (ρ++[p]) (g++[.lst l]) (upd H p (.lst vs)):=R.new hp r
def Rl.put{o':O}(R:Rl K ρ g H)(h:g[i]?=!o)(hm:o.mut=true)(ha:ρ[i]?=!a)(r:OH K ρ H o' u) :
  Rl K ρ (g.set i o') (upd H a u)/\Ext ρ H ρ (upd H a u):=by
 let#[u0,z0,HV]:=(R.obj _ _ _ h ha).inv hm;let e:Ext ρ H ρ (upd H a u):=#[#[[],by simp],λb xs q=>by rw[i7];exact q;intro z;subst z;rw[z0] at q;cases q;exact HV.vA]
 refine#[#[by simp[R.len],λj ob b h1 h2=>?_,λj k o1 o2 b h1 h2 m1 m2 h3 h4=>?_],e]
 .by_cases iV:i=j
  .subst iV;rw[ha] at h2;cases h2;let hi:i< -g:=(aw.mp h).1;rw[bh hi] at h1;cases h1;exact .of x5 (r.ext e)
  .rw[aA iV] at h1;refine(R.obj _ _ _ h1 h2).upd (λpF ez=>?_) (λob u z=>by rw[z0] at z;cases z;exact HV.bM7) e;subst ez;exact iV (R.nd _ _ _ _ _ h h1 hm pF ha h2)
 .let back:∀{j:Nat} {m:O},(g.set i o')[j]?=!m->m.mut=true->∃m',g[j]?=!m'/\m'.mut=true:=λ{j m} q pF=>by
   by_cases iV:i=j
   .subst iV;exact#[o,h,hm]
   .rw[aA iV] at q;exact#[m,q,pF]
  let#[_,q1,n1]:=back h1 m1;let#[_,q2,n2]:=back h2 m2;exact R.nd _ _ _ _ _ q1 q2 n1 n2 h3 h4
def Rl.write{l':@&D}(R:Rl K ρ g H)(h:g[i]?=!.lst l)(ha:ρ[i]?=!a)(r:c7 K ρ H l' vs) :
  Rl K ρ (g.set i (.lst l')) (upd H a (.lst vs))/\Ext ρ H ρ (upd H a (.lst vs)):=R.put h rfl ha r
end
structure v9(K:PySem.W.Frag)(ρ:@&Addr)(H:Hp)(U:S)(cL:St):Prop where
 len:-U=-cL
 val:∀(i:Nat) d,U[i]?=!!d->∃v,cL[i]?=!!v/\f7 K ρ H d v
section
variable{ρ cx:@&Addr}{H':Hp}
def v9.ext{U cL}(e:Ext ρ H cx H')(r:v9 K ρ H U cL):v9 K cx H' U cL:=#[r.len,λi d h=>let ⟨v,a,b⟩:=r.val i d h;#[v,a,b.ext e]]
def v9.set{U cL d v}(r:v9 K ρ H U cL)(i:Nat)(h:f7 K ρ H d v):v9 K ρ H (U.set i (!d)) (cL.set i (!v)):=by
 refine#[by simp[r.len],λj e q=>?_];by_cases iV:i=j
 .subst iV;let hi:i< -U:=by
   have:=(aw.mp q).1
   simp_all
  rw[bh hi] at q;cases q;exact#[v,by rw[bh (by rw[<- r.len];exact hi)],h]
 .rw[aA iV] at q ⊢;exact r.val j e q
def v9.start{ds vs}{n:Nat}(r:c7 K ρ H ds vs):v9 K ρ H (ds.map some++List.replicate (n- -ds) none) (vs.map some++List.replicate (n- -vs) none):=by
 refine#[by simp[(-r)],λi d h=>?_];by_cases hi:i< -ds
 .rw[aN (by simpa using hi),ai] at h;cases e:ds[i]? with
  |none=>rw[e] at h;cases h
  |some x =>
   rw[e] at h;cases h;let#[v,h1,h2]:=r.get e;refine#[v,?_,h2];rw[aN (by rw[ak,<- -r];exact hi),ai,h1]
   rfl
 .rw[cO (by simpa using hi),eJ] at h;split at h<;>cases h
def v9.d8{U cL}(r:v9 K ρ H U cL)(d8:@&Nat)(n:Nat):v9 K ρ H (L1 U d8 n) (F1 cL d8 n):=by
 refine#[by simp[L1,F1],λi d h=>?_];unfold L1 at h;unfold F1;by_cases hi:i< -d8
 .rw[aN (by simpa using hi),ai,ag hi] at h;rw[aN (by simpa using hi),ai,ag hi];simp only[Option.map_some] at h ⊢;cases e:U[d8[i]]? with
  |none=>simp_all
  |some x =>
   rw[e] at h;let hx:x=!d:=aS h;subst hx;let#[v,h1,h2]:=r.val _ _ e;exact#[v,by rw[h1];rfl,h2]
 .rw[cO (by simpa using hi),eJ] at h;split at h<;>cases h
end
end M
namespace M
open PySem L2 PySem.Spec PyProof.Rows
variable{g:G}{l:@&D}{vs:@&V}{b:Bool}{d:D}{X:Cx}{ρ:@&Addr}{H:Hp}{U:L2.St}{s:Shared}{v x:V}
abbrev LQ(K:PySem.W.Frag)(ρ:@&Addr)(H:Hp)(Q:VK):KD:=λd g'=>∀cx H' v,Ext ρ H cx H'->Rl K cx g' H'->f7 K cx H' d v->Q v H'
def LQ.ext{K ρ H cM H1 Q d g}(e:Ext ρ H cM H1)(h:LQ K ρ H Q d g):LQ K cM H1 Q d g:=λcx H' v e' R r=>h cx H' v (e.trans e') R r
def LQ.now{K ρ H Q d g v}(h:LQ K ρ H Q d g)(R:Rl K ρ g H)(r:f7 K ρ H d v):Q v H:=h ρ H v (.refl _ _) R r
def LQ.new{K ρ H Q}{p:Addr}(h:LQ K ρ H Q (.ref (-g)) (g++[.lst l]))(R:Rl K ρ g H)(hp:H p=none)(r:c7 K ρ H l vs):Q (.ref p) (upd H p (.lst vs)) :=
 h (ρ++[p]) _ _ (F9 hp) (R.alloc hp r) (.ref (R.A8 p))
def LQ.tup{K ρ H Q}{g:G}{l:@&D}{vs:@&V}{p:Addr}(h:LQ K ρ H Q (.tup l) g)(R:Rl K ρ g H)(hp:H p=none)(r:c7 K ρ H l vs):Q (.ref p) (upd H p (.tup vs)) :=
 h ρ _ _ (C4 hp) (R.grow hp) (.tup (.inl x5) (r.ext (C4 hp)))
abbrev r2(K:PySem.W.Frag)(p:Pr):R2:=λx y H Q=>∃d e g ρ,Rl K ρ g H/\f7 K ρ H d x/\f7 K ρ H e y/\cW p [d,e] g (LQ K ρ H Q)
abbrev r1(K:PySem.W.Frag)(p:Pr):V->Hp->VK->Prop:=λx H Q=>∃d g ρ,Rl K ρ g H/\f7 K ρ H d x/\cW p [d] g (LQ K ρ H Q)
abbrev rN(K:PySem.W.Frag)(p:Pr):@&V->Hp->VK->Prop:=λxs H Q=>∃ds g ρ,Rl K ρ g H/\c7 K ρ H ds xs/\cW p ds g (LQ K ρ H Q)
def U9{n:Nat}(h:n<=100000):n<=sizeLine:=aD h ∅
def EH{n:Nat}(h:n<100000):n<sizeLine:=aF h ∅
def f7.n8{K ρ H i v}(h:f7 K ρ H (.int i) v):v=.int i:=by cases h;rfl
def f7.GR{K ρ H i v}(h:f7 K ρ H (.str i) v):v=.str i:=by cases h;rfl
def f7.O5{K ρ H i v}(h:f7 K ρ H (.bl i) v):v=.bl i:=by cases h;rfl
def f7.Aw{K ρ H v}(h:f7 K ρ H .bK v):v=.bK:=by cases h;rfl
def f7.bI9{K ρ H n v}(h:f7 K ρ H (.ty n) v):v=.ty n:=by cases h;rfl
def f7.n6{K ρ H i v}(h:f7 K ρ H (.ref i) v):∃a,v=.ref a/\ρ[i]?=!a:=by cases h;exact#[_,rfl,by assumption]
def f7.yw{K ρ H l v}(h:f7 K ρ H (.tup l) v):∃a vs,v=.ref a/\TupAt K H a vs/\c7 K ρ H l vs:=by cases h;exact#[_,_,rfl,by assumption,by assumption]
def c7.one{K ρ H d vs}(h:c7 K ρ H [d] vs):∃v,vs=[v]/\f7 K ρ H d v:=by
 cases h with
 |cons r rr=>cases rr;exact#[_,rfl,r]
def c7.two{K ρ H d e vs}(h:c7 K ρ H [d,e] vs):∃v w,vs=[v,w]/\f7 K ρ H d v/\f7 K ρ H e w:=by
 cases h with
 |cons r rr=>let#[w,rfl,q]:=rr.one;exact#[_,_,rfl,r,q]
def P5{a b c:D}(h:[a,b]=[c,d]):a=c/\b=d:=by cases h;exact#[rfl,rfl]
section
def bD1(op:Operator):hU X (binaryOp op) (r2 X.K (.bin op)):=by
 intro pi s U H x y v u Q I rx ry h;let#[d,e,g,ρ,R,rd,re,d',g',h,q]:=h;rcases h with⟨i,j,r,ex,ha,rfl,rfl⟩|⟨rfl,h⟩
 .let#[rfl,rfl]:=P5 ex;obtain rfl:=rd.n8;obtain rfl:=re.n8;let fin:=q.now R (.int r);cases op<;>first|exact(show False from ha).elim|skip
  .cases ha;exact bD3 pi s U H _ _ v u Q I rx ry #[i,j,rfl,rfl,fin]
  .cases ha;exact bC4 pi s U H _ _ v u Q I rx ry #[i,j,rfl,rfl,fin]
  .let#[hc,rfl]:=ha;exact bC7 pi s U H _ _ v u Q I rx ry #[i,j,rfl,rfl,hc,fin]
  .let#[hc,rfl]:=ha;exact bC8 pi s U H _ _ v u Q I rx ry #[i,j,rfl,rfl,hc,fin]
  .let#[hc,rfl]:=ha;exact bC6 pi s U H _ _ v u Q I rx ry #[i,j,rfl,rfl,hc,fin]
  .let#[hc,rfl]:=ha;exact bC5 pi s U H _ _ v u Q I rx ry #[i,j,rfl,rfl,hc,fin]
  .cases ha;exact bM2 pi s U H _ _ v u Q I rx ry #[i,j,rfl,rfl,fin]
  .cases ha;exact bD2 pi s U H _ _ v u Q I rx ry #[i,j,rfl,rfl,fin]
  .let#[hc,rfl]:=ha;exact Vj pi s U H _ _ v u Q I rx ry #[i,j,rfl,rfl,hc,fin]
 .rcases h with⟨a,b,l,m,ex,ha,hb,hz,rfl,rfl⟩|z
  .let#[rfl,rfl]:=P5 ex;let#[a',rfl,ra]:=rd.n6;let#[b',rfl,rb]:=re.n6;let#[vs,z1,rs]:=R.lst ha ra;let#[ws,z2,rt]:=R.lst hb rb;exact bD0 pi s U H _ _ v u Q I rx ry #[_,_,vs,ws,rfl,rfl,z1,z2,by rw[<- -rs,<- -rt];exact U9 hz,λp hp=>q.new R hp (rs.append rt)]
  .exact z.elim
def bM1(op:UnaryOp):Bz X (unaryOp op) (r1 X.K (.un op)):=by
 intro pi s U H x v Q I rx h;let#[d,g,ρ,R,rd,d',g',#[rfl,i,ex,rfl,rfl],q]:=h;cases ex;obtain rfl:=rd.n8;exact Uv pi s U H _ v Q I rx #[_,rfl,q.now R (.int _)]
section
variable{pi:@&(Addr×Obj)}
def My(I:Inv X pi U H s)(R:Rl X.K ρ g H)(n:Nat)(ih:∀{d:D} {v:V} {u:Value} {p:PyData},rd g n d=!p->f7 X.K ρ H d v->RelV v u->∃as,Reads s.heap u p as/\p.depth<=n):∀{vs:@&V} {us:@&Value} {ps:@&PyData},l.mapM (rd g n)=!ps->c7 X.K ρ H l vs->Vals vs us->∃as,ReadsAll s.heap us ps as/\PyData.depthAll ps<=n:=by
 induction l with
 |nil =>
  intro vs us ps h rs rv;cases rs;cases rv;simp at h;subst h;exact#[_,.nil,cc _]
 |cons d l il =>
  intro vs us ps h rs rv;cases rs with
  |cons jo rs =>
   cases rv with
   |cons ru rv =>
    rw[List.mapM_cons] at h;cases e:rd g n d with
    |none=>simp_all
    |some p =>
     rw[e] at h;cases e2:l.mapM (rd g n) with
     |none=>rw[e2] at h;cases h
     |some qs =>
      rw[e2] at h;cases h;let#[as,q1,d1]:=ih e jo ru;let#[bs,q2,d2]:=il e2 rs rv;refine#[_,.cons q1 q2,?_];simp only[PyData.depthAll];omega
set_option tactic.hygienic true in
def W0(I:Inv X pi U H s)(R:Rl X.K ρ g H)(n:Nat):∀{d:D} {v:V} {u:Value} {p:PyData},rd g n d=!p->f7 X.K ρ H d v->RelV v u->∃as,Reads s.heap u p as/\p.depth<=n:=by
 induction n with
 |zero =>
  intro d v u p h r ru;cases r with
  |bK=>simp only[rd] at h;cases h;cases ru;exact#[_,.none,Nat.zero_le _]
  |bl b=>simp only[rd] at h;cases h;cases ru;exact#[_,.bool b,Nat.zero_le _]
  |int i=>simp only[rd] at h;cases h;let#[t,rfl]:=ru;exact#[_,.int i t,Nat.zero_le _]
  |str x=>simp only[rd] at h;cases h;let#[t,rfl]:=ru;exact#[_,.str x t,Nat.zero_le _]
  |_=>simp only[rd] at h;cases h
 |succ n ih =>
  intro d v u p h r ru;cases r with
  |bK=>simp only[rd] at h;cases h;cases ru;exact#[_,.none,Nat.zero_le _]
  |bl b=>simp only[rd] at h;cases h;cases ru;exact#[_,.bool b,Nat.zero_le _]
  |int i=>simp only[rd] at h;cases h;let#[t,rfl]:=ru;exact#[_,.int i t,Nat.zero_le _]
  |str x=>simp only[rd] at h;cases h;let#[t,rfl]:=ru;exact#[_,.str x t,Nat.zero_le _]
  |ty x=>simp only[rd] at h;cases h
  |ref ha =>
   rename_i i a;simp only[rd] at h;cases e:d5 g i with
   |none=>simp_all
   |some l =>
    rw[e] at h;dsimp only at h;cases e2:l.mapM (rd g n) with
    |none=>simp_all
    |some ps =>
     rw[e2] at h;cases h;cases ru;let#[vs,hq,rs]:=R.items e ha;let#[bA,rv,p,hz]:=I.list hq;let#[as,q,hd]:=My I R n ih e2 rs rv;let#[o,ho,hc,k,tH]:=p.isList;refine#[_,.list ho hc tH (by simpa using q),?_];simp only[PyData.depth];omega
  |tup ht rs =>
   rename_i l a vs;simp only[rd] at h;cases e2:l.mapM (rd g n) with
   |none=>simp_all
   |some ps =>
    rw[e2] at h;cases h;cases ru;let#[bA,rv,pt,hz]:=I.tuple ht.sq;let#[as,q,hd]:=My I R n ih e2 rs rv;let#[o,ho,hc,k,tH]:=id pt;refine#[_,.tuple ho hc tH (by simpa using q),?_];simp only[PyData.depth];omega
end
end
def yy{K ρ H}{c:Key}(h:qK d=!c)(r:f7 K ρ H d v):v=kV c:=by
 cases r<;>first|(cases h;rfl)|cases h
def ud.some{K ρ H}{o:Option V}{d:D}(h:ud K ρ H (!d) o):∃v,o=!v/\f7 K ρ H d v:=by
 cases o with
 |none=>exact h.elim
 |some v=>exact#[v,rfl,h]
def ud.isSome{K ρ H}{o:Option V}{d:Option D}(h:ud K ρ H d o):d.isSome=o.isSome:=by
 cases o<;>cases d<;>first|rfl|exact h.elim
def Kh{pi:@&(Addr×Obj)}{e:D}{y:V}{v u:Value}{Q:VK}(hu:X.A.units+100<cLine)(I:Inv X pi U H s)(rx:RelV x v)(ry:RelV y u)(R:Rl X.K ρ g H)(jo:f7 X.K ρ H d x)(re:f7 X.K ρ H e y)(h:xQ g d e b)(neg:Bool)(q:Q (.bl (xor neg b)) H):wpAny (model X.prog X.w) X.A (compareOp (if neg then .NotEq else .Eq) v u) (EP X pi U Q) X.xe s:=by
 rcases h with⟨i,j,rfl,rfl,rfl⟩|⟨i,j,rfl,rfl,rfl⟩|⟨i,j,rfl,rfl,rfl⟩|⟨p,p',h1,h2,c1,c2,rfl⟩
 .obtain rfl:=jo.n8;obtain rfl:=re.n8;cases neg
  .exact Gb pi s U H _ _ v u Q I rx ry #[rfl,by simp_all]
  .exact Gd pi s U H _ _ v u Q I rx ry #[rfl,by simp_all]
 .obtain rfl:=jo.O5;obtain rfl:=re.O5;cases neg
  .exact Gb pi s U H _ _ v u Q I rx ry #[rfl,by rw[An];simpa using q]
  .exact Gd pi s U H _ _ v u Q I rx ry #[rfl,by rw[An];simpa using q]
 .obtain rfl:=jo.GR;obtain rfl:=re.GR;cases neg
  .exact Gb pi s U H _ _ v u Q I rx ry #[rfl,by simp_all]
  .exact Gd pi s U H _ _ v u Q I rx ry #[rfl,by simp_all]
 .let#[as,q1,d1]:=W0 I R 6 h1 jo rx;let#[bs,q2,d2]:=W0 I R 6 h2 re ry;let hr:X.A.units+min p.depth p'.depth<cLine:=by omega
  cases neg
  .exact SeqAt.compareEq_reads q1 q2 c1 c2 hr #[.bl _,H,I,rfl,by simpa using q]
  .exact SeqAt.compareNe_reads q1 q2 c1 c2 hr #[.bl _,H,I,rfl,by simpa using q]
def in_of{pi:@&(Addr×Obj)}{e:D}{y:V}{v u:Value}{Q:VK}(hu:X.A.units+100<cLine)(I:Inv X pi U H s)(rx:RelV x v)(ry:RelV y u)(R:Rl X.K ρ g H)(jo:f7 X.K ρ H d x)(re:f7 X.K ρ H e y)(h:inR g d e b)(neg:Bool)(q:Q (.bl (xor neg b)) H):wpAny (model X.prog X.w) X.A (compareOp (if neg then .NotIn else .In) v u) (EP X pi U Q) X.xe s:=by
 rcases h with⟨a,kvs,c,rfl,ha,hc,rfl⟩|⟨l,ps,p,h0,h1,h2,c1,c2,rfl⟩
 .let#[a',rfl,ra]:=re.n6;let#[vs,z,rs]:=R.dB ha ra;have:=yy hc jo;subst this;cases ry;rw[(rs.val c).isSome] at q;cases neg
  .exact Yc () I (T9.k z) rx λs' I'=>#[.bl _,H,I',rfl,by simpa using q]
  .exact UL () I (T9.k z) rx λs' I'=>#[.bl _,H,I',rfl,by simpa using q]
 .let#[as,q1,d1]:=W0 I R 6 h2 jo rx;cases e with
  |tup m =>
   cases h0;let h3:rd g 7 (.tup l)=!.tuple ps:=by simp only[rd];rw[show l.mapM (rd g 6)=some ps from h1];rfl
   let#[bs,q2,d2]:=W0 I R 7 h3 re ry;let hr:X.A.units+1+min (PyData.depthAll ps) p.depth<cLine:=by omega
   cases neg
   .exact SeqAt.in_tuple_reads q2 q1 c1 c2 hr #[.bl _,H,I,rfl,by simpa using q]
   .exact SeqAt.notIn_tuple_reads q2 q1 c1 c2 hr #[.bl _,H,I,rfl,by simpa using q]
  |ref a =>
   let h3:rd g 7 (.ref a)=!.list ps:=by
    simp only[rd];rw[show d5 g a=some l from h0];dsimp only;rw[show l.mapM (rd g 6)=some ps from h1]
    rfl
   let#[bs,q2,d2]:=W0 I R 7 h3 re ry;let hr:X.A.units+1+min (PyData.depthAll ps) p.depth<cLine:=by omega
   cases neg
   .exact SeqAt.in_list_reads q2 q1 c1 c2 hr #[.bl _,H,I,rfl,by simpa using q]
   .exact SeqAt.notIn_list_reads q2 q1 c1 c2 hr #[.bl _,H,I,rfl,by simpa using q]
  |_=>cases h0
def vH(hu:X.A.units+100<cLine)(op:CmpOp):hU X (compareOp op) (r2 X.K (.cmp op)):=by
 intro pi s U H x y v u Q I rx ry h;let#[d,e,g,ρ,R,jo,re,d',g',#[x',y',b,ex,h,rfl,rfl],q]:=h;let#[rfl,rfl]:=P5 ex;let fin:=q.now R (.bl b);let qb:∀{P:Int->Int->Bool},(∃i j,d=.int i/\e=.int j/\b=P i j)->∃i j,x=.int i/\y=.int j/\b=P i j:=λhh=>by
  let#[i,j,z1,z2,z3]:=hh;exact#[i,j,(z1▸jo).n8,(z2▸re).n8,z3]
 cases op
 .exact Kh hu I rx ry R jo re h false (by simpa using fin)
 .exact Kh hu I rx ry R jo re h true (by simpa using fin)
 .let#[i,j,e1,e2,e3]:=qb (P:=λi j=>decide (i<j)) h;exact bM3 pi s U H _ _ v u Q I rx ry #[i,j,e1,e2,by subst e3;exact fin]
 .let#[i,j,e1,e2,e3]:=qb (P:=λi j=>decide (i<=j)) h;exact bM4 pi s U H _ _ v u Q I rx ry #[i,j,e1,e2,by subst e3;exact fin]
 .let#[i,j,e1,e2,e3]:=qb (P:=λi j=>decide (j<i)) h;exact bM5 pi s U H _ _ v u Q I rx ry #[i,j,e1,e2,by subst e3;exact fin]
 .let#[i,j,e1,e2,e3]:=qb (P:=λi j=>decide (j<=i)) h;exact bM6 pi s U H _ _ v u Q I rx ry #[i,j,e1,e2,by subst e3;exact fin]
 .let#[rfl,rfl]:=(show _/\_ from h)
  obtain rfl:=re.Aw;refine bC9 pi s U H _ _ v u Q I rx ry #[rfl,?_];let e:R9 d=decide (x=V.bK):=by cases jo<;>simp[R9]
  rw[<- e];exact fin
 .let#[rfl,rfl]:=(show _/\_ from h)
  obtain rfl:=re.Aw;refine Vk pi s U H _ _ v u Q I rx ry #[rfl,?_];let e:R9 d=decide (x=V.bK):=by cases jo<;>simp[R9]
  rw[<- e];exact fin
 .rcases h with h|⟨a,S,n,i,rfl,ha,rfl,rfl⟩
  .exact in_of hu I rx ry R jo re h false (by simpa using fin)
  .let#[a',rfl,ra]:=re.n6;obtain rfl:=jo.n8;exact a36 pi s U H _ _ v u Q I rx ry #[i,a',S,n,rfl,rfl,R.set ha ra,fin]
 .rcases h with h|⟨a,S,n,i,rfl,ha,rfl,hb⟩
  .exact in_of hu I rx ry R jo re h true (by simpa using fin)
  .let#[a',rfl,ra]:=re.n6;obtain rfl:=jo.n8;exact aG9 pi s U H _ _ v u Q I rx ry #[i,a',S,n,rfl,rfl,R.set ha ra,by rw[<- hb,Bool.not_not];exact fin]
def empty_eq{K ρ H}(r:c7 K ρ H l vs):l.isEmpty=vs.isEmpty:=by cases r<;>rfl
def Us{K:PySem.W.Frag}(R:Rl K ρ g H)(r:f7 K ρ H d x)(h:JV g d b):En K x H b:=by
 rcases h with⟨rfl,rfl⟩|rfl|⟨i,rfl,rfl⟩|⟨l,rfl,rfl⟩|⟨a,l,rfl,hl,rfl⟩
 .obtain rfl:=r.Aw;rfl
 .obtain rfl:=r.O5;rfl
 .obtain rfl:=r.n8;rfl
 .let#[a,vs,rfl,ht,rs]:=r.yw;exact .inr (.inl #[_,ht.sq,by rw[empty_eq rs]])
 .let#[a',rfl,ha]:=r.n6;let#[vs,hq,rs]:=R.items hl ha;exact .inl #[_,hq,by rw[empty_eq rs]]
def UG{K ρ H}{i:Int}(r:c7 K ρ H l vs)(h:gP l i=!d):∃v,gP vs i=!v/\f7 K ρ H d v:=by
 unfold gP at h ⊢;rw[<- -r];cases e:mB (-l) i with
 |none=>simp_all
 |some j =>
  rw[e] at h;exact r.get h
def yt{K ρ H}{x:D}(R:Rl K ρ g H)(r:f7 K ρ H x v)(h:K2 g x=!l):∃a vs,v=.ref a/\c7 K ρ H l vs/\((∃i,x=.ref i/\ρ[i]?=!a)/\gE K H a vs\/x=.tup l/\TupAt K H a vs):=by
 cases r with
 |tup ht rs=>cases h;exact#[_,_,rfl,rs,.inr #[rfl,ht]]
 |ref ha=>let#[vs,hq,rs]:=R.items h ha;exact#[_,_,rfl,rs,.inl #[#[_,rfl,ha],hq]]
 |_=>cases h
def ZT(hu:X.A.units+100<cLine):vM X (r2 X.K .ix):=by
 intro value slice pi s U H x y v u Q I rx ry h hs;let#[d,e,g,ρ,R,jo,re,d',g',#[rfl,h],q]:=h;rcases h with⟨x',l,i,ex,hl,ha⟩|⟨a,kvs,y',c,ex,ha,hc,hv⟩|z
 .let#[rfl,rfl]:=P5 ex;obtain rfl:=re.n8;let#[a,vs,rfl,rs,h]:=yt R jo hl;let#[w,hw,gR]:=UG rs ha;rcases h with⟨_,hq⟩|⟨_,ht⟩
  .exact UW value slice pi s U H _ _ v u Q I rx ry #[_,_,i,w,rfl,rfl,hq,hw,q.now R gR] hs
  .exact bF7 value slice pi s U H _ _ v u Q I rx ry #[_,_,i,w,rfl,rfl,ht.sq,hw,q.now R gR] hs
 .let#[rfl,rfl]:=P5 ex;let#[a',rfl,ra]:=jo.n6;let#[vs,z,rs]:=R.dB ha ra;have:=yy hc re;subst this;let q2:=rs.val c;rw[hv] at q2;let#[w,hw,gR]:=q2.some;exact UU () value slice pi s U H _ _ v u Q I rx ry #[_,w,rfl,by have:=T9.k (k:=c) z;rw[hw] at this;exact this,q.now R gR] hs
 .exact z.elim
abbrev Ql(K:PySem.W.Frag):V->Option Int->Option Int->Hp->VK->Prop:=λx lo hi H Q=>∃d g ρ d' g',Rl K ρ g H/\f7 K ρ H d x/\we d lo hi g d' g'/\LQ K ρ H Q d' g'
def Kx:yN X (Ql X.K):=by
 intro pi s U H x v vl vu lo hi sl Q I rx hs pl pu h;let#[d,g,ρ,d',g',R,jo,h,q]:=h;rcases h with⟨l,rfl,rfl,rfl⟩|⟨a,l,rfl,hl,rfl,rfl⟩
 .let#[a,vs,rfl,ht,rs]:=jo.yw;refine Wb pi s U H _ v vl vu lo hi sl Q I rx hs pl pu #[_,_,rfl,ht.sq,λz=>?_,λp hp=>q.tup R hp (rs.cut lo hi)];refine q.now R (.tup ht ?_);have:=rs.cut lo hi
  simp_all
 .let#[a',rfl,ha]:=jo.n6;let#[vs,hq,rs]:=R.items hl ha;exact Wa pi s U H _ v vl vu lo hi sl Q I rx hs pl pu #[_,_,rfl,hq,λp hp=>q.new R hp (rs.cut lo hi)]
abbrev YE(K:PySem.W.Frag):V->V->V->Hp->(Hp->Prop)->Prop:=λo i v H Q=>∃Eb di dv g ρ,Rl K ρ g H/\f7 K ρ H Eb o/\f7 K ρ H di i/\f7 K ρ H dv v/\Z0 Eb di dv g (λg'=>∀cx H',Ext ρ H cx H'->Rl K cx g' H'->Q H')
def TM(hu:X.A.units+100<cLine):El X (YE X.K):=by
 intro pi s U H o i v ov iv u Q I ro ri rv h;let#[Eb,di,dv,g,ρ,R,r1,r2,r3,g',h,q]:=h;rcases h with⟨a,i',l,j,rfl,rfl,hl,hj,rfl⟩|⟨a,kvs,c,rfl,ha,hc,hz,rfl⟩
 .let#[a',rfl,ha]:=r1.n6;obtain rfl:=r2.n8;let#[vs,z,rs]:=R.lst hl ha;let#[R',e']:=R.write hl ha (rs.set r3 j);exact set_list pi s U H _ _ _ ov iv u Q I ro ri rv #[_,vs,_,j,rfl,rfl,z,by rw[<- -rs];exact hj,q ρ _ e' R']
 .let#[a',rfl,ra]:=r1.n6;let#[vs,z,rs]:=R.dB ha ra;have:=yy hc r2;subst this;let#[R',e']:=R.put (o':=.dB (putD kvs c dv)) (u:=.dK (putK vs c v)) ha rfl ra (rs.put r3);cases ro;exact a62 () I (AW.k z (by rw[<- -rs];exact EH hz)) ri rv λs' I'=>#[_,I',q ρ _ e' R']
def bF0:o8 X (.builtin "len") (rN X.K .len):=by
 intro pi s U H xs us Q I r h;let#[ds,g,ρ,R,rs,d',g',#[rfl,h],q]:=h;rcases h with⟨x,l,rfl,hl,rfl⟩|z|z
 .let#[v,rfl,rv]:=rs.one;let#[a,vs,rfl,rl,h]:=yt R rv hl;refine aK6 pi s U H _ us Q I r #[_,_,rfl,?_,by rw[<- -rl];exact q.now R (.int _)];exact h.imp (λz=>z.2) (λz=>z.2.sq)
 .exact z.elim
 .exact z.elim
def EV{K ρ H}:∀(ks:@&Key),c7 K ρ H (ks.map kD) (ks.map kV)
 |[]=>.nil
 |.inl _::r=>.cons (.int _) (EV r)
 |.inr _::r=>.cons (.str _) (EV r)
def j4.keys{α:Type}{K ρ H}{ds:@&(α×D)}{vs:@&(α×V)}(h:j4 K ρ H ds vs):ds.map (·.1)=vs.map (·.1):=by
 induction h with
 |nil=>rfl
 |cons _ _ ih=>simp_all
def U'(hc:X.calm=true):o8 X (.type "list") (rN X.K .list):=by
 intro pi s U H xs us Q I r h;obtain⟨ds,g,ρ,R,rs,d',g',⟨x,l,rfl,hl,rfl,rfl⟩|⟨a,kvs,rfl,ha,hn,rfl,rfl⟩,q⟩:=h
 rotate_left
 .let#[v,rfl,rv]:=rs.one;let#[a',rfl,ra]:=rv.n6;let#[vs,z,rk]:=R.dB ha ra;exact aw8 hc pi s U H _ us Q I r #[_,vs,rfl,z,by rw[<- -rk];exact hn,λp hp=>q (ρ++[p]) _ _ (F9 hp) (R.new hp (o:=.lst ((kvs.map (·.1)).map kD)) (u:=.lst ((vs.map (·.1)).map kV)) (by rw[rk.keys];exact EV _)) (.ref (R.A8 p))]
 let#[v,rfl,rv]:=rs.one;let#[a,vs,rfl,rl,h]:=yt R rv hl;exact aK5 pi s U H _ us Q I r #[_,_,rfl,h.imp (λz=>z.2) (λz=>z.2.sq),λp hp=>q.new R hp rl]
def a88:o8 X (.type "tuple") (rN X.K .tuple):=by
 intro pi s U H xs us Q I r h;let#[ds,g,ρ,R,rs,d',g',#[x,l,rfl,hl,rfl,rfl],q]:=h;let#[v,rfl,rv]:=rs.one;let#[a,vs,rfl,rl,h]:=yt R rv hl;refine aB1 pi s U H _ us Q I r #[a,vs,rfl,?_];exact h.imp (λz=>#[z.2,λp hp=>q.tup R hp rl]) (λz=>#[z.2.sq,q.now R (.tup z.2 rl)])
def UT:o8 X (.builtin "isinstance") (rN X.K .isin):=by
 intro pi s U H xs us Q I r h;let#[ds,g,ρ,R,rs,d',g',#[x,c,b,rfl,hc,hb,rfl,rfl],q]:=h;let#[v,w,rfl,r1,r2]:=rs.two;obtain rfl:=r2.bI9;let fin:=q.now R (.bl b);let go:∀(t:Value) (v:V),iS X.K H v t->PySem.W.kitOne X.K t (.type c)=!b->Vals [v,V.ty c] us->wpAny (model X.prog X.w) X.A (call (.builtin "isinstance") us) (EP X pi U Q) X.xe s :=
  λt v ht hk r=>aN1 pi s U H _ us Q I r #[v,t,c,b,rfl,ht,hk,fin]
 simp only[List.mem_cons,List.mem_nil_iff,or_false] at hc;cases r1 with
 |bK=>refine go _ _ .bK ?_ r;cases hb;rcases hc with rfl|rfl|rfl|rfl|rfl<;>rfl
 |bl y=>refine go _ _ (.bl y) ?_ r;cases hb;rcases hc with rfl|rfl|rfl|rfl|rfl<;>rfl
 |int y=>refine go _ _ (.int y) ?_ r;cases hb;rcases hc with rfl|rfl|rfl|rfl|rfl<;>rfl
 |str y=>refine go _ _ (.str y) ?_ r;cases hb;rcases hc with rfl|rfl|rfl|rfl|rfl<;>rfl
 |ty _=>cases hb
 |tup ht rs =>
  cases hb;rcases ht with ht|ht
  .refine go _ _ (.tup ht) ?_ r;rcases hc with rfl|rfl|rfl|rfl|rfl<;>rfl
  .let#[o,bA,n,lk,kT,_]:=ht;let#[u,w',rfl,ru,gR]:=vals2 r;cases (show w'=Value.type c from gR);cases ru;let hk:PySem.W.kitOne X.K (.type "tuple") (.type c)=!(c=="tuple"):=by rcases hc with rfl|rfl|rfl|rfl|rfl<;>rfl
   exact cv Pp I.iR #[o,I.iR _ _ lk,kT] hk (λz=>nomatch z) λtk=>#[.bl _,H,I.tok tk,rfl,fin]
 |@ref i a ha =>
  let xy:∃m,g'[i]?=!.lst m/\b=(c=="list"):=by
   simp only[ua] at hb;split at hb
   .exact#[_,by assumption,(aS hb).symm]
   .cases hb
  let#[m,e,rfl]:=xy;let#[vs,z,_]:=R.lst e ha;refine go _ _ (.lst z) ?_ r;rcases hc with rfl|rfl|rfl|rfl|rfl<;>rfl
set_option tactic.hygienic true in
def aY7:∀{l:@&D} {b:Bool},Y9 l=!b->∃bs:@&Bool,l=bs.map D.bl/\b=bs.all id:=by
 intro l
 induction l with
 |nil=>intro b h;cases h;exact#[[],rfl,rfl]
 |cons d r ih =>
  intro b h;cases d<;>first|(cases h;done)|skip
  rename_i c;simp only[Y9] at h;cases e:Y9 r with
  |none=>simp_all
  |some b' =>
   rw[e] at h;cases h;let#[bs,rfl,rfl]:=ih e;exact#[c::bs,rfl,by simp]
def c7.Wj{K ρ H}:∀{bs:@&Bool} {vs:@&V},c7 K ρ H (bs.map D.bl) vs->vs=bs.map V.bl:=by
 intro bs
 induction bs with
 |nil=>intro vs h;cases h;rfl
 |cons b r ih =>
  intro vs h;cases h with
  |cons h rr=>rw[ih rr,h.O5];rfl
def bH9(hc:X.calm=true):o8 X (.builtin "all") (rN X.K .all):=by
 intro pi s U H xs us Q I r h;let#[ds,g,ρ,R,rs,d',g',#[a,l,b,rfl,hl,hb,rfl,rfl],q]:=h;let#[v,rfl,rv]:=rs.one;let#[a',rfl,ra]:=rv.n6;let#[vs,hq,rs]:=R.items hl ra;rcases hb with hb|⟨ns,rfl,rfl⟩
 rotate_left
 .have:=rs.ints;subst this;exact a71 hc pi s U H _ us Q I r #[_,ns,rfl,hq,q.now R (.bl _)]
 let#[bs,rfl,rfl]:=aY7 hb;have:=rs.Wj;subst this;exact a72 hc pi s U H _ us Q I r #[_,bs,rfl,hq,q.now R (.bl _)]
def NU{K ρ H}:∀(ns:@&Int),c7 K ρ H (ns.map D.int) (ns.map V.int)
 |[]=>.nil
 |_::r=>.cons (.int _) (NU r)
def a95(hc:X.calm=true):o8 X (.builtin "sorted") (rN X.K .lz):=by
 intro pi s U H xs us Q I r h;obtain⟨ds,g,ρ,R,rs,d',g',z|⟨x,ns,rfl,hx,hn,rfl,rfl⟩,q⟩:=h
 rotate_left
 .let#[v,rfl,rv]:=rs.one;let#[a,vs,rfl,rl,h]:=yt R rv hx;have:=rl.ints;subst this;exact aw7 pi s U H _ us Q I r #[_,ns,rfl,h.imp (λz=>z.2) (λz=>z.2.sq),hn,λp hp=>q (ρ++[p]) _ _ (F9 hp) (R.new hp (o:=.lst ((L7 ns).map .int)) (u:=.lst ((L7 ns).map V.int)) (NU _)) (.ref (R.A8 p))]
 exact z.elim
def bE0(hc:X.calm=true):o8 X (.builtin "max") (rN X.K .max):=by
 intro pi s U H xs us Q I r h;obtain⟨ds,g,ρ,R,rs,d',g',⟨rfl,⟨i,j,rfl,rfl⟩|⟨a,ns,M,rfl,hl,h1,h2,rfl⟩⟩,q⟩:=h
 rotate_left
 .let#[v,rfl,rv]:=rs.one;let#[a',rfl,ra]:=rv.n6;let#[vs,hq,rs]:=R.items hl ra;have:=rs.ints;subst this;exact a69 hc pi s U H _ us Q I r #[_,ns,M,rfl,hq,h1,h2,q.now R (.int _)]
 let#[v,w,rfl,r1,r2]:=rs.two;obtain rfl:=r1.n8;obtain rfl:=r2.n8;exact a70 hc pi s U H _ us Q I r #[i,j,rfl,q.now R (.int _)]
def bD8(hc:X.calm=true)(hu:X.A.units+100<cLine):o8 X (.builtin "min") (rN X.K .min):=by
 intro pi s U H xs us Q I r h;obtain⟨ds,g,ρ,R,rs,d',g',⟨rfl,⟨i,j,rfl,rfl⟩|z⟩,q⟩:=h
 rotate_left
 .exact z.elim
 let#[v,w,rfl,r1,r2]:=rs.two;obtain rfl:=r1.n8;obtain rfl:=r2.n8;exact a68 hc pi s U H _ us Q I r #[i,j,rfl,q.now R (.int _)]
def Ug(hc:X.calm=true):o8 X (.builtin "sum") (rN X.K .sum):=by
 intro pi s U H xs us Q I r h;let#[ds,g,ρ,R,rs,d',g',h,q]:=h;let#[a,ns,rfl,hl,rfl,rfl]:=h;let#[v,rfl,rv]:=rs.one;let#[a',rfl,ra]:=rv.n6;let#[vs,hq,rs]:=R.items hl ra;have:=rs.ints;subst this;exact a67 hc pi s U H _ us Q I r #[_,ns,rfl,hq,q.now R (.int _)]
def bG0:o8 X (.type "int") (rN X.K .int):=by
 intro pi s U H xs us Q I r h;let#[ds,g,ρ,R,rs,d',g',#[rfl,h],q]:=h;rcases h with⟨i,rfl,rfl⟩|⟨b,rfl,rfl⟩
 .let#[v,rfl,rv]:=rs.one;obtain rfl:=rv.n8;exact Lc pi s U H _ us Q I r (.inl #[i,rfl,q.now R (.int _)])
 .let#[v,rfl,rv]:=rs.one;obtain rfl:=rv.O5;exact Lc pi s U H _ us Q I r (.inr #[b,rfl,q.now R (.int _)])
abbrev rM(K:PySem.W.Frag)(p:Pr):V->@&V->Hp->VK->Prop:=λx xs H Q=>∃d ds g ρ,Rl K ρ g H/\f7 K ρ H d x/\c7 K ρ H ds xs/\cW p (d::ds) g (LQ K ρ H Q)
def Q6{a b:D}{m:@&D}(h:a::l=b::m):a=b/\l=m:=by cases h;exact#[rfl,rfl]
def a77:nE X "list.append" (rM X.K .append):=by
 intro pi s U H x xs v us Q I rx r h;let#[d,ds,g,ρ,R,rd,rs,d',g',#[a,y,l,ex,ha,hz,rfl,rfl],q]:=h;let#[rfl,rfl]:=Q6 ex;let#[a',rfl,ra]:=rd.n6;let#[w,rfl,gR]:=rs.one;let#[vs,z1,rv]:=R.lst ha ra;let#[R2,e2]:=R.write ha ra (rv.append (.cons gR .nil));exact a41 pi s U H _ _ v us Q I rx r #[_,vs,_,rfl,rfl,z1,by rw[<- -rv];exact EH hz,q ρ _ _ e2 R2 .bK]
def Wz:nE X "list.clear" (rM X.K .clear):=by
 intro pi s U H x xs v us Q I rx r h;let#[d,ds,g,ρ,R,rd,rs,d',g',#[a,l,ex,ha,rfl,rfl],q]:=h;let#[rfl,rfl]:=Q6 ex;let#[a',rfl,ra]:=rd.n6;cases rs;let#[vs,z1,rv]:=R.lst ha ra;let#[R2,e2]:=R.write ha ra (c7.nil);exact WZ pi s U H _ _ v us Q I rx r #[_,vs,rfl,rfl,z1,q ρ _ _ e2 R2 .bK]
def Vx:nE X "list.pop" (rM X.K .sT):=by
 intro pi s U H x xs v us Q I rx r h;let#[d,ds,g,ρ,R,rd,rs,y,g',#[a,l,ex,ha,rfl],q]:=h;let#[rfl,rfl]:=Q6 ex;let#[a',rfl,ra]:=rd.n6;cases rs;let#[vs,z1,rv]:=R.lst ha ra;let#[w,hw,gR]:=rv.get (i:=-l) (d:=y) #[_];let hl:-vs=-l+1:=by rw[<- -rv];simp
 let rl:c7 X.K ρ H l vs.dropLast:=by
  have:=rv.erase (-l);rw[List.eraseIdx_append_of_length_le (av _)] at this;rw[show vs.eraseIdx (-l)=vs.dropLast by rw[List.eraseIdx_eq_dropLast];omega] at this;simpa using this
 let#[R2,e2]:=R.write ha ra rl;exact bD6 pi s U H _ _ v us Q I rx r #[_,vs,w,rfl,rfl,z1,by rw[hl];exact hw,q ρ _ _ e2 R2 (gR.ext e2)]
def UY(hc:X.calm=true):o8 X (.type "set") (rN X.K .sW):=by
 intro pi s U H xs us Q I r h;let#[ds,g,ρ,R,rs,d',g',#[a,ns,rfl,ha,hz,rfl,rfl],q]:=h;let#[v,rfl,rv]:=rs.one;let#[a',rfl,ra]:=rv.n6;let#[vs,z1,rk]:=R.items ha ra;obtain rfl:=rk.ints;refine aB2 hc pi s U H _ us Q I r #[a',ns,rfl,z1,hz,λp hp=>?_];exact q (ρ++[p]) _ _ (F9 hp) (R.new hp (o:=.set (λk=>decide (k∈ns)) (ST.i9 [] ns).length) (u:=.set (λk=>decide (k∈ns)) (ST.i9 [] ns).length) #[rfl,rfl]) (.ref (R.A8 p))
def j4.KJ{K ρ H}:∀ks:@&Int,j4 K ρ H (ks.map λk=>((.inl k:Key),D.bl true)) (ks.map λk=>((.inl k:Key),V.bl true))
 |[]=>.nil
 |_::ks=>.cons (.bl true) (j4.KJ ks)
def Ls{K ρ H}:∀{ks:@&Int} {vs:@&V},c7 K ρ H (ks.map λk=>.tup [.int k,.bl true]) vs->∃ts:@&Addr,vs=ts.map V.ref/\-ts=-ks/\∀(i:Nat) t k,ts[i]?=!t->ks[i]?=!k->kl K H t [.int k,.bl true]
 |[],_,h=>by cases h;simp
 |k::ks,_,h=>by
  cases h with
  |cons r rs =>
  let#[ts,rfl,hl,ht]:=Ls rs;let#[a,vs,rfl,h1,h2]:=r.yw;refine#[a::ts,rfl,by simp[hl],λi t k' e1 e2=>?_];cases i with
  |zero =>
   cases e1;cases e2;cases h2 with
   |cons r1 r2 =>
   cases r2 with
   |cons r2 r3 =>
   cases r3;cases r1;cases r2;exact h1.sq
  |succ i=>exact ht i t k' e1 e2
def WE(hc:X.calm=true):o8 X (.type "dict") (rN X.K .lO):=by
 intro pi s U H xs us Q I r h;obtain⟨ds,g,ρ,R,rs,d',g',z|⟨a,ks,rfl,ha,hz,nd,rfl,rfl⟩,q⟩:=h
 .exact z.elim
 .let#[v,rfl,rv]:=rs.one;let#[a',rfl,ra]:=rv.n6;let#[vs,z1,rk]:=R.items ha ra;let#[ts,rfl,hl,ht]:=Ls rk;refine au0 hc pi s U H _ us Q I r #[a',ts,ks,rfl,z1,hl,ht,by omega,nd,λp hp=>?_];exact q (ρ++[p]) _ _ (F9 hp) (R.new hp (o:=.dB (ks.map λk=>(.inl k,.bl true))) (u:=.dK (ks.map λk=>(.inl k,.bl true))) (j4.KJ ks)) (.ref (R.A8 p))
def bG6(hu:X.A.units+100<cLine):nE X "dict.get" (rM X.K .get):=by
 intro pi s U H x xs v us Q I rx r h;let#[d,ds,g,ρ,R,rd,rs,d',g',#[a,y,z,kvs,c,ex,ha,hc,rfl,rfl],q]:=h;let#[rfl,rfl]:=Q6 ex;let#[a',rfl,ra]:=rd.n6;let#[w1,w2,rfl,r1,r2]:=rs.two;let#[vs,z1,rv]:=R.dB ha ra;have:=yy hc r1;subst this;let#[u1,u2,rfl,p1,p2]:=vals2 r;cases rx;refine bH4 () I (T9.k z1) p1 p2 λw' s4 I4 gR=>#[_,H,I4,gR,q.now R ?_]
 let q:=rv.val c;cases e1:u5 kvs c with
 |none =>
  rw[e1] at q;cases e2:N1 vs c with
  |none=>exact r2
  |some w=>rw[e2] at q;exact q.elim
 |some d' =>
  rw[e1] at q;let#[w,hw,q]:=q.some
  simp_all
def Xm:nE X "list.pop" (rM X.K .pop):=by
 intro pi s U H x xs v us Q I rx r h;let#[d,ds,g,ρ,R,rd,rs,y,g',#[a,i,l,k,ex,ha,h1,h2,hk,hy,rfl],q]:=h;let#[rfl,rfl]:=Q6 ex;let#[a',rfl,ra]:=rd.n6;let#[w,rfl,gR]:=rs.one;obtain rfl:=gR.n8;let#[vs,z1,rv]:=R.lst ha ra;let#[w,hw,gR]:=rv.get hy;let#[R2,e2]:=R.write ha ra (rv.erase k);exact Xa pi s U H _ _ v us Q I rx r #[_,vs,i,k,w,rfl,rfl,z1,h1,h2,by rw[<- -rv];exact hk,hw,q ρ _ _ e2 R2 (gR.ext e2)]
def c7.strs{K ρ H}{ys:@&Str}(h:c7 K ρ H (ys.map D.str) vs):vs=ys.map V.str:=by
 induction ys generalizing vs with
 |nil=>cases h;rfl
 |cons y ys ih =>
  cases h with
  |cons q r=>cases q;rw[ih r];rfl
def ty_list(R:Rl X.K ρ g H)(r:f7 X.K ρ H d v)(h:∃a l,d=.ref a/\d5 g a=!l):pq X.K "list" v H:=by
 let#[a,l,rfl,hl]:=h;let#[a',rfl,ra]:=r.n6;let#[vs,hq,_]:=R.items hl ra;exact .inl #[rfl,vs,hq]
def VM:nE X "set.add" (rM X.K .lB):=by
 intro pi s U H x xs v us Q I rx r h;let#[d,ds,g,ρ,R,rd,rs,d',g',#[a,i,S,n,ex,ha,hn,rfl,rfl],q]:=h;let#[rfl,rfl]:=Q6 ex;let#[a',rfl,ra]:=rd.n6;let#[w,rfl,gR]:=rs.one;obtain rfl:=gR.n8;let#[R2,e2]:=R.put (o':=.set (λk=>S k||decide (k=i)) (if S i then n else n+1)) (u:=.set (λk=>S k||decide (k=i)) (if S i then n else n+1)) ha rfl ra #[rfl,rfl];exact aV2 pi s U H _ _ v us Q I rx r #[_,i,S,n,rfl,rfl,R.set ha ra,hn,q ρ _ _ e2 R2 .bK]
def ty_set(R:Rl X.K ρ g H)(r:f7 X.K ρ H d v)(h:nr .lB d g):pq X.K "set" v H:=by
 let#[a,S,n,rfl,hl]:=h;let#[a',rfl,ra]:=r.n6;exact .inr (.inr (.inr #[rfl,S,n,R.set hl ra]))
def ty_dict(R:Rl X.K ρ g H)(r:f7 X.K ρ H d v)(h:nr .get d g):pq X.K "dict" v H:=by
 let#[a,l,rfl,hl]:=h;let#[a',rfl,ra]:=r.n6;let#[vs,hq,_]:=R.dB hl ra;exact .inr (.inr (.inl #[rfl,.inl #[vs,hq]]))
noncomputable abbrev je:=@&Str×XK
abbrev LX(K:PySem.W.Frag)(ρ:@&Addr)(H:Hp)(Ξ:je):KX:=λx g'=>∀cx H' C,Ext ρ H cx H'->Rl K cx g' H'->x.cls∈Ξ.1->w9 K x.cls C->Ξ.2 (.ref C) none H'
def LX.ext{K:PySem.W.Frag}{ρ cM:@&Addr}{H H1:Hp}{Ξ:je}(e:Ext ρ H cM H1){x:Xn}{g:G}(h:LX K ρ H Ξ x g):LX K cM H1 Ξ x g:=λcx H' C e' R hm c=>h cx H' C (e.trans e') R hm c
noncomputable abbrev pP(ex:@&Str):je:=(ex,λx x x=>False)
abbrev LE(K:PySem.W.Frag)(Ξ:je)(t:S->G->KD->KX->Prop):TE:=λcL H Q=>∃U g ρ,v9 K ρ H U cL/\Rl K ρ g H/\t U g (LQ K ρ H Q) (LX K ρ H Ξ)
abbrev LT(K:PySem.W.Frag)(Ξ:je)(t:S->G->(Bool->G->Prop)->KX->Prop):TT:=λcL H Q=>∃U g ρ,v9 K ρ H U cL/\Rl K ρ g H/\t U g (λb g'=>∀cx H',Ext ρ H cx H'->Rl K cx g' H'->Q b H') (LX K ρ H Ξ)
abbrev LA(K:PySem.W.Frag)(Ξ:je)(t:S->G->(List D->G->Prop)->KX->Prop):TA:=λcL H Q=>∃U g ρ,v9 K ρ H U cL/\Rl K ρ g H/\t U g (λds g'=>∀cx H' vs,Ext ρ H cx H'->Rl K cx g' H'->c7 K cx H' ds vs->Q vs H') (LX K ρ H Ξ)
abbrev pN(K:PySem.W.Frag)(iw:@&Addr)(H0:Hp)(k:IK)(J:It):Prop:=∀ρ g H,Ext iw H0 ρ H->Rl K ρ g H->∀i,(k.at i g=!none->J.stop i H) /\
 ∀d,k.at i g=!!d->J.go i H/\∀v H',J.rf i H v H'->Ext ρ H ρ H'/\Rl K ρ g H'/\f7 K ρ H' d v
abbrev LI(K:PySem.W.Frag)(Ξ:je)(t:S->G->(IK->G->Prop)->KX->Prop):TI:=λcL H R=>∃U g ρ,v9 K ρ H U cL/\Rl K ρ g H/\t U g (λk g'=>∀cx H' J,Ext ρ H cx H'->Rl K cx g' H'->pN K cx H' k J->R J H') (LX K ρ H Ξ)
abbrev LG(K:PySem.W.Frag)(t:MT):TG:=λv cL H Q=>∃d U g ρ,v9 K ρ H U cL/\Rl K ρ g H/\f7 K ρ H d v/\kE t d U (λcA=>∀dR,v9 K ρ H cA dR->Q dR H)
abbrev LN(K:PySem.W.Frag)(ρ:@&Addr)(H:Hp)(N:L2.Ends):Ends where
 nx:=λcA g'=>∀cx H' dR,Ext ρ H cx H'->Rl K cx g' H'->v9 K cx H' cA dR->N.nx dR H'
 rt:=LQ K ρ H N.rt
 bk:=λcA g'=>∀cx H' dR,Ext ρ H cx H'->Rl K cx g' H'->v9 K cx H' cA dR->N.bk dR H'
 ct:=λcA g'=>∀cx H' dR,Ext ρ H cx H'->Rl K cx g' H'->v9 K cx H' cA dR->N.ct dR H'
abbrev LS(K:PySem.W.Frag)(Ξ:je)(t:Ends->S->G->KX->Prop):TS:=λN cL H=>∃U g ρ,v9 K ρ H U cL/\Rl K ρ g H/\t (LN K ρ H N) U g (LX K ρ H Ξ)
end M
namespace L2
open PySem PySem.Spec PyProof.Rows
variable{t t':TT}
section
variable{X:Cx}{e:Expr}
def PE.imp{t t':TE}(h:PE X e t)(i:∀U H Q,t' U H Q->t U H Q):PE X e t':=λpi s U H Q I q=>h pi s U H Q I (i U H Q q)
def PT.imp(h:PT X e t)(i:∀U H Q,t' U H Q->t U H Q):PT X e t':=λpi s U H Q I q=>h pi s U H Q I (i U H Q q)
def PW.imp(h:PW X e t)(i:∀U H Q,t' U H Q->t U H Q):PW X e t':=λw pi s U H Q I q=>h w pi s U H Q I (i U H Q q)
def PA.imp{es:@&Expr}{t t':TA}(h:PA X es t)(i:∀U H Q,t' U H Q->t U H Q):PA X es t':=λp pi s U H Q I q=>h p pi s U H Q I (i U H Q q)
def mJ.imp{es:@&Expr}(h:mJ X es t)(i:∀U H Q,t' U H Q->t U H Q):mJ X es t':=λpi s U H Q I q=>h pi s U H Q I (i U H Q q)
def PI.imp{tg:Expr}{t t':TI}(h:PI X tg e t)(i:∀U H Q,t' U H Q->t U H Q):PI X tg e t':=λpi s U H Q I q=>h pi s U H Q I (i U H Q q)
def PG.imp{t t':TG}(h:PG X e t)(i:∀v U H Q,t' v U H Q->t v U H Q):PG X e t':=λpi s U H v u Q I r q=>h pi s U H v u Q I r (i v U H Q q)
def PS.imp{st:Stmt}{t t':TS}(h:PS X st t)(i:∀N U H,t' N U H->t N U H):PS X st t':=λpi s U H N I q=>h pi s U H N I (i N U H q)
def jV.imp{st:@&Stmt}{t t':TS}(h:jV X st t)(i:∀N U H,t' N U H->t N U H):jV X st t':=λpi s U H N I q=>h pi s U H N I (i N U H q)
end
end L2
namespace M
open PySem L2 PySem.Spec PyProof.Rows
variable{Ξ:je}{P:gi}{op jh:CmpOp}{rest es:@&Expr}{jB:ME}{p2 q kI:Pos}
section
variable{K:PySem.W.Frag}(hP:j9 P){ρ iw:@&Addr}{H H0:Hp}{U:S}{cL:L2.St}{g:G}{m:ME}
include hP
def gQ{Q0:KD}{Q:VK}(s:v9 K ρ H U cL)(R:Rl K ρ g H)(e0:Ext iw H0 ρ H)(h:bt P m U g Q0 (LX K iw H0 Ξ))(k:∀x g1 cM H1 v1,Ext ρ H cM H1->Rl K cM g1 H1->f7 K cM H1 x v1->Q0 x g1->Q v1 H1):LE K Ξ (bt P m) cL H Q :=
 #[U,g,ρ,s,R,d0 hP m _ _ _ _ _ _ (λx g1 h cM H1 v1 e1 R1 r1=>k x g1 cM H1 v1 e1 R1 r1 h) (λy y z=>LX.ext e0 z) h]
def lS{Q0:@&D->G->Prop}{Q:@&V->Hp->Prop}(s:v9 K ρ H U cL)(R:Rl K ρ g H)(e0:Ext iw H0 ρ H)(h:iz P m U g Q0 (LX K iw H0 Ξ))(k:∀x g1 cM H1 v1,Ext ρ H cM H1->Rl K cM g1 H1->c7 K cM H1 x v1->Q0 x g1->Q v1 H1):LA K Ξ (iz P m) cL H Q :=
 #[U,g,ρ,s,R,L9 hP m _ _ _ _ _ _ (λx g1 h cM H1 v1 e1 R1 r1=>k x g1 cM H1 v1 e1 R1 r1 h) (λy y z=>LX.ext e0 z) h]
def rg{Q0:Bool->G->Prop}{Q:Bool->Hp->Prop}(s:v9 K ρ H U cL)(R:Rl K ρ g H)(e0:Ext iw H0 ρ H)(h:eX P m U g Q0 (LX K iw H0 Ξ))(k:∀t g1 cM H1,Ext ρ H cM H1->Rl K cM g1 H1->Q0 t g1->Q t H1):LT K Ξ (eX P m) cL H Q :=
 #[U,g,ρ,s,R,x4 hP m _ _ _ _ _ _ (λt g1 h cM H1 e1 R1=>k t g1 cM H1 e1 R1 h) (λx x z=>LX.ext e0 z) h]
def uw{ms:MS}{N:L2.Ends}{N0:Ends}(s:v9 K ρ H U cL)(R:Rl K ρ g H)(e0:Ext iw H0 ρ H)(h:wpS P ms N0 U g (LX K iw H0 Ξ))(k:N0.le (LN K ρ H N)):LS K Ξ (wpS P ms) N cL H :=
 #[U,g,ρ,s,R,wpS_mono hP ms _ _ _ _ _ _ k (λx x z=>LX.ext e0 z) h]
end
def c7.nS{K ρ H}(lo:Int)(n:Nat):c7 K ρ H (l9 lo n) ((List.range n).map λ(k:Nat)=>V.int (lo+k)):=by
 have:∀l:@&Nat,c7 K ρ H (l.map λ(k:Nat)=>D.int (lo+k)) (l.map λ(k:Nat)=>V.int (lo+k)):=by
  intro l
  induction l with
  |nil=>exact .nil
  |cons x r ih=>exact .cons (.int _) ih
 exact this _
section
variable{X:Cx}(hP:j9 P){a b c e:Expr}{ma mb mc:ME}{pos:Pos}{p:Pr}
include hP
def GQ(h:PE X e (ux (r2 X.K p) (LE X.K Ξ (bt P ma)) (LE X.K Ξ (bt P mb)))):PE X e (LE X.K Ξ (bt P (.prim p (.cons ma (.cons mb .nil))))) :=
 h.imp λcL H Q bH=>by
  let#[U,g,ρ,s,R,h]:=bH;exact gQ hP s R (.refl _ _) h λx g1 cM H1 v1 e1 R1 r1 h=>gQ hP (s.ext e1) R1 e1 h λy g2 gg H2 v2 e2 R2 r2 h =>
   #[x,y,g2,gg,R2,r1.ext e2,r2,A1 (λd g' h=>h.ext (e1.trans e2)) h]
def Ud(h:PT X e (Gm (ux (r2 X.K (.cmp op)) (LE X.K Ξ (bt P ma)) (LE X.K Ξ (bt P mb))))):PT X e (LT X.K Ξ (eX P (.fR (.prim (.cmp op) (.cons ma (.cons mb .nil)))))) :=
 h.imp λcL H Q bH=>by
  let#[U,g,ρ,s,R,h]:=bH;refine gQ hP s R (.refl _ _) h λx g1 cM H1 v1 e1 R1 r1 h=>gQ hP (s.ext e1) R1 e1 h λy g2 gg H2 v2 e2 R2 r2 h=>?_;let#[d',g',h,q]:=h;let#[x',y',t,ex,hc,rfl,rfl]:=id h;refine#[x,y,g',gg,R2,r1.ext e2,r2,_,_,h,λcx H' v e' R' r'=>?_];let#[t',ht,q]:=q;rcases ht with⟨z,_⟩|z|⟨i,z,_⟩|⟨l,z,_⟩|⟨a,l,z,_⟩<;>cases z
  exact#[_,r'.O5,q cx H' (e1.trans (e2.trans e')) R']
def bK6{op:UnaryOp}(ha:PE X a (LE X.K Ξ (bt P ma))):PE X (.UnaryOp op a pos) (LE X.K Ξ (bt P (.prim (.un op) (.cons ma .nil)))) :=
 (bL5 (bM1 op) ha).imp λcL H Q bH=>by
  let#[U,g,ρ,s,R,h]:=bH;exact gQ hP s R (.refl _ _) h λx g1 cM H1 v1 e1 R1 r1 h=>#[x,g1,cM,R1,r1,A1 (λd g' h=>h.ext e1) h]
def NQ:∀cL H Q,LE X.K Ξ (bt P (.chain op jh ma mb mc)) cL H Q->GS (r2 X.K (.cmp op)) (r2 X.K (.cmp jh)) (LE X.K Ξ (bt P ma)) (LE X.K Ξ (bt P mb)) (LE X.K Ξ (bt P mc)) cL H Q:=λcL H Q bH=>by
 let#[U,g,ρ,s,R,h]:=bH;refine gQ hP s R (.refl _ _) h λx g1 cM H1 v1 e1 R1 r1 h=>gQ hP (s.ext e1) R1 e1 h λy g2 gg H2 v2 e2 R2 r2 h=>?_;refine#[x,y,g2,gg,R2,r1.ext e2,r2,A1 (λd g3 h jZ H3 v3 e3 R3 r3=>?_) h];let#[t,rfl,h]:=h;obtain rfl:=r3.O5;refine#[t,rfl,?_];cases t
 .exact h jZ H3 _ (e1.trans (e2.trans e3)) R3 (.bl _)
 .exact gQ hP (s.ext (e1.trans (e2.trans e3))) R3 (e1.trans (e2.trans e3)) h λz g4 sD H4 v4 e4 R4 r4 h =>
   #[y,z,g4,sD,R4,r2.ext (e3.trans e4),r4,A1 (λd g' h=>h.ext (e1.trans (e2.trans (e3.trans e4)))) h]
def XG(hu:X.A.units+100<cLine)(ha:PE X a (LE X.K Ξ (bt P ma)))(hb:PE X b (LE X.K Ξ (bt P mb)))(hc:PE X c (LE X.K Ξ (bt P mc)))(hm:lastMarks [op,jh] [b,c]=false) :
  PE X (.Compare a [op,jh] [b,c] pos) (LE X.K Ξ (bt P (.chain op jh ma mb mc))):=(Xf (vH hu op) (vH hu jh) ha hb hc hm).imp (NQ hP)
def Wx{U:S}{g:G}{Q:Bool->G->Prop}{E:KX}(h:eX P (.fR (.chain op jh ma mb mc)) U g Q E):bt P (.chain op jh ma mb mc) U g (λd g'=>∃t,d=.bl t/\Q t g') E:=by
 let one:∀{o:CmpOp} {xs:@&D} {g:G},cW (.cmp o) xs g (λd g1=>qO g1 d λb=>Q b g1)->cW (.cmp o) xs g λd g'=>∃t,d=.bl t/\Q t g':=by
  intro o xs g h;let#[d',g',h,t',ht,q]:=h;let#[x',y',t,ex,hc,rfl,rfl]:=id h;refine#[_,_,h,t',?_,q];rcases ht with⟨z,_⟩|z|⟨i,z,_⟩|⟨l,z,_⟩|⟨a,l,z,_⟩<;>first|exact z|cases z
 refine d0 hP ma _ _ _ _ _ _ (λx g1 h=>d0 hP mb _ _ _ _ _ _ (λy g2 h=>A1 (λz g3 h=>?_) h) (λv v z=>z) h) (λv v z=>z) h;let#[t,rfl,h]:=h;refine#[t,rfl,?_];cases t
 .let#[b,hb,q]:=(show qO g3 (.bl false) λb=>Q b g3 from h)
  rcases hb with⟨z,_⟩|z|⟨i,z,_⟩|⟨l,z,_⟩|⟨a,l,z,_⟩<;>first|(cases z;exact#[_,rfl,q])|cases z
 .exact d0 hP mc _ _ _ _ _ _ (λw g4 h=>one h) (λv v z=>z) h
def a94(hu:X.A.units+100<cLine)(ha:PE X a (LE X.K Ξ (bt P ma)))(hb:PE X b (LE X.K Ξ (bt P mb)))(hc:PE X c (LE X.K Ξ (bt P mc)))(hm:lastMarks [op,jh] [b,c]=false) :
  PT X (.Compare a [op,jh] [b,c] pos) (LT X.K Ξ (eX P (.fR (.chain op jh ma mb mc)))) :=
 (Xt (vH hu op) (vH hu jh) ha hb hc hm).imp λcL H Q ⟨U,g,ρ,s,R,h⟩ =>
  NQ hP cL H _ (gQ hP s R (.refl _ _) (Wx hP h) λx g1 cM H1 v1 e1 R1 r1 h=>by
   let#[t,rfl,h]:=h;exact #[t,r1.O5,h cM H1 e1 R1])
def Tz(ha:PE X a (LE X.K Ξ (bt P ma)))(hb:PE X (.BoolOp .And (b::rest) pos) (LE X.K Ξ (bt P mb))):PE X (.BoolOp .And (a::b::rest) pos) (LE X.K Ξ (bt P (.dZ ma mb))) :=
 (bC2 ha hb).imp λcL H Q bH=>by
  let#[U,g,ρ,s,R,h]:=bH;refine gQ hP s R (.refl _ _) h λx g1 cM H1 v1 e1 R1 r1 h=>?_;let#[t,rfl,h]:=h;refine#[t,r1.O5,?_];cases t
  .exact h cM H1 _ e1 R1 (.bl _)
  .exact gQ hP (s.ext e1) R1 e1 h λy g2 gg H2 v2 e2 R2 r2 h=>h gg H2 v2 (e1.trans e2) R2 r2
def bK7(ha:PE X a (LE X.K Ξ (bt P ma)))(hb:PE X (.BoolOp .Or (b::rest) pos) (LE X.K Ξ (bt P mb))):PE X (.BoolOp .Or (a::b::rest) pos) (LE X.K Ξ (bt P (.jL ma mb))) :=
 (bL6 ha hb).imp λcL H Q bH=>by
  let#[U,g,ρ,s,R,h]:=bH;refine gQ hP s R (.refl _ _) h λx g1 cM H1 v1 e1 R1 r1 h=>?_;let#[t,rfl,h]:=h;refine#[t,r1.O5,?_];cases t
  .exact gQ hP (s.ext e1) R1 e1 h λy g2 gg H2 v2 e2 R2 r2 h=>h gg H2 v2 (e1.trans e2) R2 r2
  .exact h cM H1 _ e1 R1 (.bl _)
def TJ(ha:PE X a (LE X.K Ξ (bt P ma))):PE X (.UnaryOp .Not a pos) (LE X.K Ξ (bt P (.eK ma))) :=
 (bB6 ha).imp λcL H Q bH=>by
  let#[U,g,ρ,s,R,h]:=bH;refine gQ hP s R (.refl _ _) h λx g1 cM H1 v1 e1 R1 r1 h=>?_;let#[t,rfl,h]:=h;exact#[t,r1.O5,h cM H1 _ e1 R1 (.bl _)]
def TH(hc:PT X c (LT X.K Ξ (eX P mc)))(ha:PE X a (LE X.K Ξ (bt P ma)))(hb:PE X b (LE X.K Ξ (bt P mb))):PE X (.IfExp c a b pos) (LE X.K Ξ (bt P (.ite mc ma mb))) :=
 (Xh hc ha hb).imp λcL H Q bH=>by
  let#[U,g,ρ,s,R,h]:=bH;refine rg hP s R (.refl _ _) h λt g1 cM H1 e1 R1 h=>?_;cases t
  .exact gQ hP (s.ext e1) R1 e1 h λy g2 gg H2 v2 e2 R2 r2 h=>h gg H2 v2 (e1.trans e2) R2 r2
  .exact gQ hP (s.ext e1) R1 e1 h λy g2 gg H2 v2 e2 R2 r2 h=>h gg H2 v2 (e1.trans e2) R2 r2
def TK{k:Nat}(h:PA X es (LA X.K Ξ (iz P jB))):PE X (.Tuple es k pos) (LE X.K Ξ (bt P (.prim .tup jB))) :=
 (bB3 h).imp λcL H Q bH=>by
  let#[U,g,ρ,s,R,h]:=bH;refine lS hP s R (.refl _ _) h λds g1 cM H1 vs e1 R1 r1 h=>?_;let#[d',g',#[hz,rfl,rfl],q]:=h;exact#[by rw[<- -r1];exact U9 (aD hz ∅),λp hp=>(q.ext e1).tup R1 hp r1]
def OW(h:PA X es (LA X.K Ξ (iz P jB))):PE X (.List es pos) (LE X.K Ξ (bt P (.prim .lst jB))) :=
 (bB8 h).imp λcL H Q bH=>by
  let#[U,g,ρ,s,R,h]:=bH;refine lS hP s R (.refl _ _) h λds g1 cM H1 vs e1 R1 r1 h=>?_;let#[d',g',#[hz,rfl,rfl],q]:=h;exact#[by rw[<- -r1];exact U9 (aD hz ∅),λp hp=>(q.ext e1).new R1 hp r1]
def L4:PA X [] (LA X.K Ξ (iz P .nil)) :=
 (vI (X:=X)).imp λcL H Q bH=>by
  let#[U,g,ρ,s,R,h]:=bH;exact h ρ H [] (.refl _ _) R .nil
def C7(ha:PE X a (LE X.K Ξ (bt P ma)))(h:PA X es (LA X.K Ξ (iz P jB)))(hs:starEach (a::es) X.env=(false,eval a X.env)::starEach es X.env):PA X (a::es) (LA X.K Ξ (iz P (.cons ma jB))) :=
 (V3 ha h hs).imp λcL H Q bH=>by
  let#[U,g,ρ,s,R,h]:=bH;exact gQ hP s R (.refl _ _) h λx g1 cM H1 v1 e1 R1 r1 h=>lS hP (s.ext e1) R1 e1 h λxs g2 gg H2 vs e2 R2 r2 h=>h gg H2 _ (e1.trans e2) R2 (.cons (r1.ext e2) r2)
def a97(ha:PE X a (LE X.K Ξ (bt P ma)))(hb:PE X b (LE X.K Ξ (bt P mb))):PE X (.Subscript a (.Slice (!b) none none p2) pos) (LE X.K Ξ (bt P (.prim (.nP true false) (.cons ma (.cons mb .nil))))) :=
 (Oc Kx ha (Nw hb) Nv).imp λcL H Q bH=>by
  let#[U,g,ρ,s,R,h]:=bH;refine gQ hP s R (.refl _ _) h λx g1 cM H1 v1 e1 R1 r1 h=>gQ hP (s.ext e1) R1 e1 h λy g2 gg H2 v2 e2 R2 r2 h=>?_;let#[d',g',#[x',i,ex,h],q]:=h;cases ex;exact#[i,r2.n8,x,g2,gg,d',g',R2,r1.ext e2,h,q.ext (e1.trans e2)]
def a98(ha:PE X a (LE X.K Ξ (bt P ma)))(hb:PE X b (LE X.K Ξ (bt P mb))):PE X (.Subscript a (.Slice none (!b) none p2) pos) (LE X.K Ξ (bt P (.prim (.nP false true) (.cons ma (.cons mb .nil))))) :=
 (Oc Kx ha Nv (Nw hb)).imp λcL H Q bH=>by
  let#[U,g,ρ,s,R,h]:=bH;refine gQ hP s R (.refl _ _) h λx g1 cM H1 v1 e1 R1 r1 h=>gQ hP (s.ext e1) R1 e1 h λy g2 gg H2 v2 e2 R2 r2 h=>?_;let#[d',g',#[x',i,ex,h],q]:=h;cases ex;exact#[i,r2.n8,x,g2,gg,d',g',R2,r1.ext e2,h,q.ext (e1.trans e2)]
def Ue(ha:PE X a (LE X.K Ξ (bt P ma)))(he:∀whole,isTrue a X.env whole=(do let v <- whole;standAt a.pos;holding [v] (truthy v))):PT X a (LT X.K Ξ (eX P (.fR ma))) :=
 (Xu ha he).imp λcL H Q bH=>by
  let#[U,g,ρ,s,R,h]:=bH;refine gQ hP s R (.refl _ _) h λx g1 cM H1 v1 e1 R1 r1 h=>?_;let#[b,h1,h2]:=h;exact#[b,Us R1 r1 h1,h2 cM H1 e1 R1]
def Uc(ha:PT X a (LT X.K Ξ (eX P ma))):PT X (.UnaryOp .Not a pos) (LT X.K Ξ (eX P (.eK ma))) :=
 (bA0 ha).imp λcL H Q bH=>by
  let#[U,g,ρ,s,R,h]:=bH;exact rg hP s R (.refl _ _) h λt g1 cM H1 e1 R1 h=>h cM H1 e1 R1
def Uh(ha:PT X a (LT X.K Ξ (eX P ma)))(hb:PW X (.BoolOp .And (b::rest) pos) (LT X.K Ξ (eX P mb))):PW X (.BoolOp .And (a::b::rest) pos) (LT X.K Ξ (eX P (.dZ ma mb))) :=
 (Ts ha hb).imp λcL H Q bH=>by
  let#[U,g,ρ,s,R,h]:=bH;refine rg hP s R (.refl _ _) h λt g1 cM H1 e1 R1 h=>?_;cases t
  .exact h cM H1 e1 R1
  .exact rg hP (s.ext e1) R1 e1 h λt g2 gg H2 e2 R2 h=>h gg H2 (e1.trans e2) R2
def bK3(ha:PT X a (LT X.K Ξ (eX P ma)))(hb:PW X (.BoolOp .Or (b::rest) pos) (LT X.K Ξ (eX P mb))):PW X (.BoolOp .Or (a::b::rest) pos) (LT X.K Ξ (eX P (.jL ma mb))) :=
 (bL2 ha hb).imp λcL H Q bH=>by
  let#[U,g,ρ,s,R,h]:=bH;refine rg hP s R (.refl _ _) h λt g1 cM H1 e1 R1 h=>?_;cases t
  .exact rg hP (s.ext e1) R1 e1 h λt g2 gg H2 e2 R2 h=>h gg H2 (e1.trans e2) R2
  .exact h cM H1 e1 R1
def Wc:mJ X [] (LT X.K Ξ (eX P .no)) :=
 (VE (X:=X)).imp λcL H Q bH=>by
  let#[U,g,ρ,s,R,h]:=bH;exact h ρ H (.refl _ _) R
def TB{x:Str}{v:Value}(hv:(∃id,v=.builtin id)\/∃T,v=.type T)(hc:o8 X v (rN X.K p))(hg:Gl X x)(hm:X.mg x=none)(hb:bootBuiltins x=!v)(ha:PA X (e::es) (LA X.K Ξ (iz P jB)))(hn:x≠"__name__")(hd:(x==("__debug__":Str))=false)(fh:starEach (e::es) X.env=(false,eval e X.env)::starEach es X.env)(ir:(backTo pos (starEach es X.env)).any (·.1)=false):PE X (.Call (.Name x q) (e::es) [] pos) (LE X.K Ξ (bt P (.prim p jB))):=by
 let base:PE X (.Call (.Name x q) (e::es) [] pos) (BX (rN X.K p) (LA X.K Ξ (iz P jB))):=by
  rcases hv with⟨id,rfl⟩|⟨T,rfl⟩
  .exact AU hc hg hm hb ha hn hd fh ir
  .exact S3 hc hg hm hb ha hn hd fh ir
 refine base.imp λcL H Q bH=>?_;let#[U,g,ρ,s,R,h]:=bH;exact lS hP s R (.refl _ _) h λxs g1 cM H1 vs e1 R1 r1 h=>#[xs,g1,cM,R1,r1,A1 (λd g' h=>h.ext e1) h]
def VS{o:Expr}{mo:ME}{T:String}{name:Str}{id:String}{apos:Pos}(pa:PlainAttrs T)(slot:Slot T name id)(kx:typeOf (.builtin id)=pure (.type "method_descriptor"))(hm:nE X id (rM X.K p))(hk:∀{d:D} {v:V} {g:G} {ρ:@&Addr} {H:Hp},Rl X.K ρ g H->f7 X.K ρ H d v->nr p d g->pq X.K T v H)(ho:PE X o (LE X.K Ξ (bt P mo)))(ha:PA X (e::es) (LA X.K Ξ (iz P jB)))(jR:attributeBase o name X.env (eval o X.env)=eval o X.env)(tF:((backTo pos (starEach (e::es) X.env)).all (λx=>~~~x.1)&&(backToKw pos (keywordEach [] X.env)).all (λx=>x.1.isSome)&&decide ((e::es).length+([]:@&Keyword).length+(if([]:@&Keyword).isEmpty then 0 else 1)<30))=true)(jP:(apos.endLine==pos.line)=true)(hs:starEach (e::es) X.env=(false,eval e X.env)::starEach es X.env)(iE:(backTo pos (starEach es X.env)).any (·.1)=false) :
  PE X (.Call (.Attribute o name apos) (e::es) [] pos) (LE X.K Ξ (bt P (.fo p mo jB))) :=
 (bL8 pa slot kx hm ho ha jR tF jP hs iE).imp λcL H Q bH=>by
  let#[U,g,ρ,s,R,h]:=bH;exact gQ hP s R (.refl _ _) h λx g1 cM H1 v1 e1 R1 r1 h=>#[hk R1 r1 h.1,lS hP (s.ext e1) R1 e1 h.2 λxs g2 gg H2 ws e2 R2 r2 h =>
   #[x,xs,g2,gg,R2,r1.ext e2,r2,A1 (λd g' h=>h.ext (e1.trans e2)) h]]
def XM{o:Expr}{mo:ME}{T:String}{name:Str}{id:String}{apos:Pos}(pa:PlainAttrs T)(slot:Slot T name id)(kx:typeOf (.builtin id)=pure (.type "method_descriptor"))(hm:nE X id (rM X.K p))(hk:∀{d:D} {v:V} {g:G} {ρ:@&Addr} {H:Hp},Rl X.K ρ g H->f7 X.K ρ H d v->nr p d g->pq X.K T v H)(ho:PE X o (LE X.K Ξ (bt P mo)))(jR:attributeBase o name X.env (eval o X.env)=eval o X.env)(jP:(apos.endLine==pos.line)=true) :
  PE X (.Call (.Attribute o name apos) [] [] pos) (LE X.K Ξ (bt P (.fo p mo .nil))) :=
 (bC1 pa slot kx hm ho jR jP).imp λcL H Q bH=>by
  let#[U,g,ρ,s,R,h]:=bH;exact gQ hP s R (.refl _ _) h λx g1 cM H1 v1 e1 R1 r1 h=>#[hk R1 r1 h.1,x,[],g1,cM,R1,r1,.nil,A1 (λd g' h=>h.ext e1) h.2]
def XH(hc:X.calm=true)(ha:PE X a (LE X.K Ξ (bt P ma)))(oJ:Gl X "list")(oC:X.mg "list"=none)(hg:Gl X "range")(hm:X.mg "range"=none)(hs:starEach [a] X.env=[(false,eval a X.env)]) :
  PE X (.Call (.Name "list" p2) [.Call (.Name "range" q) [a] [] pos] [] kI) (LE X.K Ξ (bt P (.prim .ku (.cons ma .nil)))) :=
 (S3 (MG hc) oJ oC (by rfl) (V3 (a30 hg hm (C7 hP ha (L4 hP) (by rw[hs];rfl)) hs) vI)).imp λcL H Q bH=>by
  let#[U,g,ρ,s,R,h]:=bH;refine lS hP s R (.refl _ _) h λxs g1 cM H1 vs e1 R1 r1 h=>?_;let#[d',g',#[j,rfl,h1,h2,rfl,rfl],q]:=h;let#[v,rfl,rv]:=r1.one;obtain rfl:=rv.n8;refine#[j,rfl,λq' hq=>#[q',0,j,rfl,x5,#[by omega,by omega,h1,by omega,by omega],λp hp=>?_]];rw[show(j-0).toNat=j.toNat by omega];exact(q.ext (e1.trans (C4 hq))).new (R1.grow hq) hp (c7.nS 0 _)
def XI(hc:X.calm=true)(ha:PE X a (LE X.K Ξ (bt P ma)))(hb:PE X b (LE X.K Ξ (bt P mb)))(oJ:Gl X "list")(oC:X.mg "list"=none)(hg:Gl X "range")(hm:X.mg "range"=none)(hs:starEach [a,b] X.env=[(false,eval a X.env),(false,eval b X.env)])(gZ:starEach [b] X.env=[(false,eval b X.env)]) :
  PE X (.Call (.Name "list" p2) [.Call (.Name "range" q) [a,b] [] pos] [] kI) (LE X.K Ξ (bt P (.prim .lH (.cons ma (.cons mb .nil))))) :=
 (S3 (MG hc) oJ oC (by rfl) (V3 (a29 hg hm (C7 hP ha (C7 hP hb (L4 hP) (by rw[gZ];rfl)) (by rw[hs,gZ])) hs gZ) vI)).imp λcL H Q bH=>by
  let#[U,g,ρ,s,R,h]:=bH;refine lS hP s R (.refl _ _) h λxs g1 cM H1 vs e1 R1 r1 h=>?_;let#[d',g',#[i,j,rfl,hb,rfl,rfl],q]:=h;let#[v,w,rfl,rv,gR]:=r1.two;obtain rfl:=rv.n8;obtain rfl:=gR.n8;exact#[i,j,rfl,λq' hq=>#[q',i,j,rfl,x5,hb,λp hp=>(q.ext (e1.trans (C4 hq))).new (R1.grow hq) hp (c7.nS i _)]]
def VU(hc:X.calm=true)(ha:PE X a (LE X.K Ξ (bt P ma)))(oJ:Gl X "sorted")(oC:X.mg "sorted"=none)(hg:Gl X "set")(hm:X.mg "set"=none)(hs:starEach [a] X.env=[(false,eval a X.env)]) :
  PE X (.Call (.Name "sorted" p2) [.Call (.Name "set" q) [a] [] pos] [] kI) (LE X.K Ξ (bt P (.prim .sset (.cons ma .nil)))) :=
 (AU (Y8 hc) oJ oC (by rfl) (V3 (S3 (MB hc) hg hm (by rfl) (C7 hP ha (L4 hP) (by rw[hs];rfl)) ∅ ∅ (by rw[hs];rfl) rfl) vI)).imp λcL H Q bH=>by
  let#[U,g,ρ,s,R,h]:=bH;refine lS hP s R (.refl _ _) h λxs g1 cM H1 vs e1 R1 r1 h=>?_;let#[d',g',#[i,ns,rfl,hl,hz,rfl,rfl],q]:=h;let#[v,rfl,rv]:=r1.one;let#[a',rfl,ra]:=rv.n6;let#[ws,hq,rs]:=R1.items hl ra;obtain rfl:=rs.ints;refine#[_,ns,rfl,hq,hz,λq' oA=>#[q',ns,rfl,x5,hz,λp hp=>?_]];exact(q.ext (e1.trans (C4 oA))).new (R1.grow oA) hp (c7.ofInts _)
def VQ(hc:X.calm=true)(ha:PE X a (LE X.K Ξ (bt P ma)))(oJ:Gl X "len")(oC:X.mg "len"=none)(hg:Gl X "set")(hm:X.mg "set"=none)(hs:starEach [a] X.env=[(false,eval a X.env)]) :
  PE X (.Call (.Name "len" p2) [.Call (.Name "set" q) [a] [] pos] [] kI) (LE X.K Ξ (bt P (.prim .Z8 (.cons ma .nil)))) :=
 (AU aB3 oJ oC PySem.boot_len (V3 (S3 (MB hc) hg hm (by rfl) (C7 hP ha (L4 hP) (by rw[hs];rfl)) ∅ ∅ (by rw[hs];rfl) rfl) vI)).imp λcL H Q bH=>by
  let#[U,g,ρ,s,R,h]:=bH;refine lS hP s R (.refl _ _) h λxs g1 cM H1 vs e1 R1 r1 h=>?_;let#[d',g',#[i,ns,rfl,hl,hz,rfl,rfl],q]:=h;let#[v,rfl,rv]:=r1.one;let#[a',rfl,ra]:=rv.n6;let#[ws,hq,rs]:=R1.items hl ra;obtain rfl:=rs.ints;refine#[_,ns,rfl,hq,by omega,λq' oA=>#[q',_,rfl,x5,?_]];exact(q.ext (e1.trans (C4 oA))).now (R1.grow oA) (.int _)
def VT{i:Int}{j:Nat}(oN:PySem.W.kdsCode X.K X.env.code=true):PE X (.Set [.Constant (.int i) j q] 0 pos) (LE X.K Ξ (bt P (.prim (.lA i) .nil))) :=
 (Vu oN).imp λcL H Q bH=>by
  let#[U,g,ρ,s,R,h]:=bH;let#[d',g',#[_,rfl,rfl],q]:=h;exact λp hp=>q (ρ++[p]) _ _ (F9 hp) (R.new hp (o:=.set (λk=>decide (k=i)) 1) (u:=.set (λk=>decide (k=i)) 1) #[rfl,rfl]) (.ref (R.A8 p))
def TC{f:Str}(ha:PE X a (LE X.K Ξ (bt P ma)))(hb:attributeBase a f X.env (eval a X.env)=eval a X.env):PE X (.Attribute a f pos) (LE X.K Ξ (bt P (.prim (.fld f) (.cons ma .nil)))) :=
 (bC0 ha hb).imp λcL H Q bH=>by
  let#[U,g,ρ,s,R,h]:=bH;refine gQ hP s R (.refl _ _) h λx g1 cM H1 v1 e1 R1 r1 h=>?_;let#[d',g',#[i,c,fs,ex,hi,hf,rfl],q]:=h;cases ex;let#[a',rfl,ra]:=r1.n6;let#[C,dx,vs,hH,_,hC,rk,na]:=R1.ins hi ra;let lk:=rk.look f;rw[hf] at lk;let#[v,hv,rv]:=lk.some;exact#[a',C,dx,vs,v,rfl,hH,hC,na _ (aX hf),hv,q cM H1 v e1 R1 rv]
end
section
variable{X:Cx}{pos:Pos}
def TL{i:Nat}{x:Str}(hN:X.N[i]?=!x)(hv:yM X.env.scope x)(hd:(x==("__debug__":Str))=false)(nA:(x==("__classdict__":Str))=false):PE X (.Name x pos) (LE X.K Ξ (bt P (.var i))) :=
 (bB2 hN hv hd nA).imp λcL H Q bH=>by
  let#[U,g,ρ,s,R,h]:=bH;let#[d,e,h]:=h;let#[v,h1,h2]:=s.val _ _ e;exact#[v,h1,h.now R h2]
def vK{e:Expr}{d:D}{v:V}(h:PE X e (tC v))(r:∀ρ H,f7 X.K ρ H d v):PE X e (LE X.K Ξ (bt P (.lit d))) :=
 h.imp λcL H Q bH=>by
  let#[U,g,ρ,s,R,h]:=bH;exact LQ.now h R (r ρ H)
def VO:PE X (.Dict [] [] pos) (LE X.K Ξ (bt P (.prim .W7 .nil))) :=
 (Xg (X:=X)).imp λcL H Q ⟨U,g,ρ,s,R,h⟩ p hp=>by
  let#[d',g',#[_,rfl,rfl],q]:=h;exact q (ρ++[p]) _ _ (F9 hp) (R.new hp (o:=.dB []) (u:=.dK []) j4.nil) (.ref (R.A8 p))
end
end M
namespace L2
open PySem PySem.Spec PyProof.Rows
end L2
namespace M
open PySem L2 PySem.Spec PyProof.Rows
variable{K:PySem.W.Frag}{H H0:Hp}{a fa C:Addr}{x:Str}{p:Pos}{k f j:Nat}{fd:FuncData}{ps:@&Str}{iw:@&Addr}{vs:@&V}
inductive rX(K:PySem.W.Frag):@&D->@&(Str×V)->Prop
 |nil:rX K [] []
 |cons {x:Str} {d:D} {v:V} {ds:@&D} {vs:@&(Str×V)} (h:∀ρ H,f7 K ρ H d v) (r:rX K ds vs):rX K (.tup [.str x,d]::ds) ((x,v)::vs)
set_option tactic.hygienic true in
def rX.look{ρ:@&Addr}{ds vs}(x:Str)(h:rX K ds vs):ud K ρ H (R8 ds x) (vs.lookup x):=by
 induction h with
 |nil=>trivial
 |cons h r ih =>
  rename_i y d v ds vs;unfold R8;rw[eI];by_cases e:x=y
  .rw[aI e,show(x==y)=true from by simp[e]];exact h ρ H
  .rw[aE e,show(x==y)=false from by simpa using e];exact ih
abbrev JY(X:Cx)(x:Str)(kvs:@&D):Prop:=∃A vs,X.mg x=!.ref A/\Bg X.K X.w.params A vs/\rX X.K kvs vs
section
variable{X:Cx}{Ξ:je}{P:gi}(hP:j9 P){a c:Expr}{ma:ME}{pos:Pos}
include hP
def VP{kvs:@&D}(hg:Gl X x)(hd:(x==("__debug__":Str))=false)(hG:JY X x kvs)(ha:PE X a (LE X.K Ξ (bt P ma)))(hs:Ez a):PE X (.Subscript (.Name x p) a pos) (LE X.K Ξ (bt P (.prim .oU (.cons (.lit (.tup kvs)) (.cons ma .nil))))):=by
 let#[A,vs,hmg,hk,gr]:=hG;refine(Ks (ZS (kvs:=vs)) (Nt (v:=.ref A) hg hmg rfl hd) ha hs).imp λcL H Q bH=>?_;let#[U,g,ρ,s,R,h]:=bH;refine gQ hP s R (.refl _ _) h λd g1 cM H1 v1 e1 R1 r1 h=>?_;let#[d',g',#[kh,z,ex,hz,rfl],q]:=h;cases ex;obtain rfl:=r1.GR;let lk:=gr.look (ρ:=cM) (H:=H1) z;rw[hz] at lk;let#[w,hw,lk]:=lk.some;exact#[A,z,w,rfl,hk,rfl,hw,q cM H1 _ e1 R1 lk]
omit hP in
abbrev rm(ex:@&Str)(K:PySem.W.Frag)(n:Nat)(t:@&D->G->KD->KX->Prop):Sp:=λvs H Q E=>-vs=n/\∃ds g ρ,c7 K ρ H ds vs/\Rl K ρ g H/\t ds g (LQ K ρ H Q) (LX K ρ H (ex,E))
omit hP in
abbrev qT(X:Cx)(P:gi)(ex:@&Str)(k f:Nat)(fa:Addr)(fd:FuncData)(ps:@&Str):Prop :=
 jf X.prog X.w X.K X.mg X.base (jT X.prog X.w) k fa fd ps (rm ex X.K (-ps) (P f))/\Binds X.K fd ps []/\∀ds g Q E,P f ds g Q E->-ds=-ps
def Gj{k:Nat}(F:qT X P Ξ.1 k f fa fd ps){ρ:@&Addr}{g:G}{xs:@&D}{Q0:KD}{Q:VK}(e0:Ext iw H0 ρ H)(R:Rl X.K ρ g H)(r:c7 X.K ρ H xs vs)(h:P f xs g Q0 (LX X.K iw H0 Ξ))(k:∀d g',Q0 d g'->LQ X.K ρ H Q d g'):rm Ξ.1 X.K (-ps) (P f) (vs++[]) H Q Ξ.2:=by
 rw[dM];exact#[by rw[<- -r];exact F.2.2 _ _ _ _ h,xs,g,ρ,r,R,hP _ _ _ _ _ _ _ k (λx x z=>LX.ext e0 z) h]
def VN{es:@&Expr}{e:Expr}{jB:ME}(hx:Passes (jT X.prog X.w) X Ξ.2)(F:qT X P Ξ.1 k f fa fd ps)(hr:A3 k X.A)(hg:Gl X x)(hm:X.mg x=!.ref fa)(hk:PySem.W.keepIn X.K (.ref fa)=true)(ha:PA X (e::es) (LA X.K Ξ (iz P jB)))(hd:(x==("__debug__":Str))=false)(fh:starEach (e::es) X.env=(false,eval e X.env)::starEach es X.env)(ir:(backTo pos (starEach es X.env)).any (·.1)=false):PE X (.Call (.Name x p) (e::es) [] pos) (LE X.K Ξ (bt P (.call f jB))) :=
 (Vr F.1 hr hg hm hk F.2.1 .nil hx ha hd fh ir).imp λcL H Q bH=>by
  let#[U,g,ρ,s,R,h]:=bH;exact lS hP s R (.refl _ _) h λxs g1 cM H1 vs e1 R1 r1 h=>Gj hP F e1 R1 r1 h λd g' h=>h.ext e1
def XF(hx:Passes (jT X.prog X.w) X Ξ.2)(F:qT X P Ξ.1 k f fa fd ps)(hr:A3 k X.A)(hg:Gl X x)(hm:X.mg x=!.ref fa)(hk:PySem.W.keepIn X.K (.ref fa)=true)(hd:(x==("__debug__":Str))=false):PE X (.Call (.Name x p) [] [] pos) (LE X.K Ξ (bt P (.call f .nil))) :=
 (Xe F.1 hr hg hm hk F.2.1 .nil hx hd).imp λcL H Q bH=>by
  let#[U,g,ρ,s,R,h]:=bH;exact Gj hP F (.refl _ _) R .nil h λd g' h=>h
def Nk{c:Str}(F:qT X P Ξ.1 k f fa fd ps)(hC:w9 X.K c C)(hc:kW X.K C){ρ:@&Addr}{g1:G}{xs:@&D}{Q:VK}(e0:Ext iw H0 ρ H)(R:Rl X.K ρ g1 H)(r:c7 X.K ρ H xs vs)(h:P f (.ref (-g1)::xs) (g1++[.ins c []]) (λd g2=>d=.bK/\LQ X.K iw H0 Q (.ref (-g1)) g2) (LX X.K iw H0 Ξ)):∀x dx,H x=none->H dx=none->dx≠x->rm Ξ.1 X.K (-ps) (P f) (.ref x::(vs++[])) (upd (upd H dx (.own x)) x (.ins C dx [])) (λv H2=>v=.bK/\Q (.ref x) H2) Ξ.2:=by
 intro x dx hx Jg fQ;let zy:upd H dx (.own x) x=none:=by rw[i7 (cy fQ)];exact hx
 let R2:=R.grow (o:=.own x) Jg;let e2:Ext ρ H ρ (upd H dx (.own x)):=C4 Jg;let R3:=R2.new (o:=.ins c []) (u:=.ins C dx []) zy #[hC,hc,.nil,λx hx=>absurd hx #[_]];let e3:Ext ρ (upd H dx (.own x)) (ρ++[x]) (upd (upd H dx (.own x)) x (.ins C dx [])):=F9 zy;have:=Gj hP F (e0.trans (e2.trans e3)) R3 (.cons (.ref (R.A8 x)) (r.ext (e2.trans e3))) h (Q:=λv H2=>v=.bK/\Q (.ref x) H2) λd g' q cx H' v e' R' r'=>by
  let#[rfl,q]:=q;exact#[r'.Aw,q cx H' _ (e0.trans (e2.trans (e3.trans e'))) R' (.ref (e'.get (R.A8 x)))]
 exact this
def VR{es:@&Expr}{e:Expr}{jB:ME}(hx:Passes (jT X.prog X.w) X Ξ.2)(F:qT X P Ξ.1 k f fa fd ps)(M:Mk X.K C fa)(hC:w9 X.K x C)(hc:kW X.K C)(hr:A3 (k+1) X.A)(hg:Gl X x)(hm:X.mg x=!.ref C)(ha:PA X (e::es) (LA X.K Ξ (iz P jB)))(hd:(x==("__debug__":Str))=false)(fh:starEach (e::es) X.env=(false,eval e X.env)::starEach es X.env)(ir:(backTo pos (starEach es X.env)).any (·.1)=false):PE X (.Call (.Name x p) (e::es) [] pos) (LE X.K Ξ (bt P (.make x f jB))) :=
 (Vt M F.1 hr hg hm F.2.1 .nil hx ha hd fh ir).imp λcL H Q bH=>by
  let#[U,g,ρ,s,R,h]:=bH;exact lS hP s R (.refl _ _) h λxs g1 cM H1 vs e1 R1 r1 h=>Nk hP F hC hc e1 R1 r1 h
def XJ(hx:Passes (jT X.prog X.w) X Ξ.2)(F:qT X P Ξ.1 k f fa fd ps)(M:Mk X.K C fa)(hC:w9 X.K x C)(hc:kW X.K C)(hr:A3 (k+1) X.A)(hg:Gl X x)(hm:X.mg x=!.ref C)(hd:(x==("__debug__":Str))=false):PE X (.Call (.Name x p) [] [] pos) (LE X.K Ξ (bt P (.make x f .nil))) :=
 (Xi M F.1 hr hg hm F.2.1 .nil hx hd).imp λcL H Q bH=>by
  let#[U,g,ρ,s,R,h]:=bH;exact Nk hP F hC hc (.refl _ _) R .nil h
end
inductive oY(K:PySem.W.Frag)(ρ:@&Addr)(H:Hp):@&D->@&(V×V)->Prop
 |nil:oY K ρ H [] []
 |cons {k d:D} {x y:V} {ds:@&D} {ps:@&(V×V)} (h1:f7 K ρ H k x) (h2:f7 K ρ H d y) (r:oY K ρ H ds ps):oY K ρ H (k::d::ds) ((x,y)::ps)
section
variable{X:Cx}{Ξ:je}{P:gi}(hP:j9 P)
inductive yV(X:Cx)(Ξ:je)(P:gi):@&(Option Expr)->@&Expr->ME->@&(TE×TE)->Prop
 |nil:yV X Ξ P [] [] .nil []
 |cons {k v:Expr} {ks:@&(Option Expr)} {vs:@&Expr} {mk mv ms:ME} {zi:@&(TE×TE)} (hk:PE X k (LE X.K Ξ (bt P mk))) (hv:PE X v (LE X.K Ξ (bt P mv))) (r:yV X Ξ P ks vs ms zi) :
   yV X Ξ P (some k::ks) (v::vs) (.cons mk (.cons mv ms)) ((LE X.K Ξ (bt P mk),LE X.K Ξ (bt P mv))::zi)
def yV.len{ks vs ms zi}(h:yV X Ξ P ks vs ms zi):ks.all (·.isSome)=true/\-ks=-vs:=by
 induction h with
 |nil=>exact#[rfl,rfl]
 |cons hk hv r ih=>exact#[by simpa using ih.1,by simp[ih.2]]
include hP
end
def ZX{l:@&D}(ht:TupAt K H0 a vs)(rs:c7 K iw H0 l vs):pN K iw H0 (.fix l) (Hf K a):=by
 intro ρ g H e R i;let pB:=ht.ext e;let mr:=rs.ext e;refine#[λh=>#[vs,pB.sq,?_],λd h=>?_]
 .have:=dG.mp (aS h);rw[<- -mr];exact this
 .let#[v,hv,rv]:=mr.get (aS h);refine#[#[vs,v,pB.sq,hv],λw H' y=>?_];let#[rfl,y]:=y;have:=y vs pB.sq;rw[hv] at this;cases this;exact#[.refl _ _,R,rv]
def ZV(ha:iw[j]?=!a):pN K iw H0 (.lst j) (Hg K a):=by
 intro ρ g H e R i;let nC:=e.get ha;refine#[λh=>?_,λd h=>?_]
 .simp only[IK.at] at h;cases el:d5 g j with
  |none=>simp_all
  |some l =>
   rw[el] at h;let#[vs,hq,rs]:=R.items el nC;refine#[vs,hq,?_];have:=dG.mp (aS h);rw[<- -rs];exact this
 .simp only[IK.at] at h;cases el:d5 g j with
  |none=>simp_all
  |some l =>
   rw[el] at h;let#[vs,hq,rs]:=R.items el nC;let#[v,hv,rv]:=rs.get (aS h);refine#[#[vs,v,hq,hv],λw H' y=>?_];let#[rfl,y]:=y;have:=y vs hq;rw[hv] at this;cases this;exact#[.refl _ _,R,rv]
def Kn{lo:Int}{n:Nat}:pN K iw H0 (.fix (l9 lo n)) (yT lo n):=by
 unfold l9;intro ρ g H e R i;refine#[λh=>?_,λd h=>?_]
 .have:=dG.mp (aS h);change n<=i;simpa using this
 .let h:=aS h;let hi:i<n:=by
   have:=(aw.mp h).1
   simp_all
  rw[ai,cB hi] at h;cases h;refine#[hi,λw H' y=>?_];let#[rfl,rfl]:=y;exact#[.refl _ _,R,.int _]
def ZW{n:Nat}(ha:iw[j]?=!a):pN K iw H0 (.uA j n) (He K a n):=by
 intro ρ g H e R i;let nC:=e.get ha;refine#[λh=>?_,λd h=>?_]
 .simp only[IK.at] at h;cases el:d5 g j with
  |none=>simp_all
  |some l =>
   rw[el] at h;dsimp only at h;by_cases hl:-l=n
   .rw[aI hl] at h;let h:=aS h;by_cases hi:i<n
    .rw[aI hi] at h;have:=dG.mp h;omega
    .exact Nat.le_of_not_lt hi
   simp_all
 .simp only[IK.at] at h;cases el:d5 g j with
  |none=>simp_all
  |some l =>
   rw[el] at h;dsimp only at h;by_cases hl:-l=n
   .rw[aI hl] at h;let h:=aS h;by_cases hi:i<n
    .rw[aI hi] at h;let#[vs,hq,rs]:=R.items el nC;let#[v,hv,rv]:=rs.get h;refine#[#[vs,v,hq,by rw[<- -rs];exact hl,hi,hv],λw H' y=>?_];let#[rfl,y]:=y;have:=y vs hq;rw[hv] at this;cases this;exact#[.refl _ _,R,rv]
    .rw[aE hi] at h;cases h
   simp_all
def ZU(ha:iw[j]?=!a):pN K iw H0 (.qv j) (Hh K a):=by
 intro ρ g H e R i;let nC:=e.get ha;refine#[λh=>?_,λd h=>?_]
 .simp only[IK.at] at h;cases el:d5 g j with
  |none=>rw[el] at h;cases h
  |some l =>
   rw[el] at h;let#[vs,hq,rs]:=R.items el nC;refine#[vs,hq,?_];let h:=aS h;rw[Option.map_eq_none_iff] at h;have:=dG.mp h;rw[<- -rs];exact this
 .simp only[IK.at] at h;cases el:d5 g j with
  |none=>simp_all
  |some l =>
   rw[el] at h;let#[vs,hq,rs]:=R.items el nC;let h:=aS h;rw[ae] at h;let#[d',hd,rfl]:=h;let#[v,hv,rv]:=rs.get hd;refine#[#[vs,v,hq,hv],λw H' y=>?_];let#[p,x,hp,rfl,y,rfl]:=y;have:=y vs hq;rw[hv] at this;cases this;exact#[C4 hp,R.grow hp,.tup (.inl x5) (.cons (.int _) (.cons (rv.ext (C4 hp)) .nil))]
end M
namespace L2
open PySem PySem.Spec PyProof.Rows
def bA8{X:Cx}{tg l:Expr}{tl:TE}(hl:PE X l tl):PI X tg l (λU H R=>tl U H λx H1=>(∃a,x=.ref a/\(∃xs,gE X.K H1 a xs)/\R (Hg X.K a) H1)\/(∃a,x=.ref a/\(∃xs,kl X.K H1 a xs)/\R (Hf X.K a) H1)):=by
 intro pi s U H R I h;refine dj (hl pi s U H _ I h) λv s1 bH=>?_;let#[x,H1,I1,r1,q1]:=bH;rcases q1 with⟨a,e,⟨xs,hq⟩,q⟩|⟨a,e,⟨xs,hq⟩,q⟩
 .subst e;cases r1;let#[bA,rv,p,hz]:=I1.list hq;refine gF p.isList ?_;refine#[s1⁻¹,[s1⁻¹],_,_,H1,rfl,I1.kept (t':=s1.toks) λb o e=>ao _ e,a00 a _,#[_,aG _ rfl,rfl,rfl],λb hb=>?_,q];let e:b=s1⁻¹:=by simpa using hb
  subst e;exact I1.rY (av _) (I1.cb.fresh (av _))
 .subst e;cases r1;let#[bA,rv,p,hz]:=I1.tuple hq;refine wpAny_pyIter_tuple (show s1.heap.IsTuple a bA.toArray from p) ?_;refine#[s1⁻¹,[s1⁻¹],_,_,H1,rfl,I1.kept (t':=s1.toks) λb o e=>ao _ e,aS0 a _,#[_,aG _ rfl,rfl,rfl],λb hb=>?_,q];let e:b=s1⁻¹:=by simpa using hb
  subst e;exact I1.rY (av _) (I1.cb.fresh (av _))
end L2
namespace M
open PySem L2 PySem.Spec PyProof.Rows
variable{X:Cx}{tg:Expr}{pos p tp:Pos}{i:Nat}{x:Str}{t:MT}{mi:ME}
section
variable{Ξ:je}{P:gi}(hP:j9 P){a b:Expr}{ma mb:ME}
include hP
def TU(ha:PE X a (LE X.K Ξ (bt P ma))):PI X tg a (LI X.K Ξ (iO P (.fE ma))) :=
 (bA8 ha).imp λcL H R bH=>by
  let#[U,g,ρ,s,Rr,h]:=bH;refine gQ hP s Rr (.refl _ _) h λx g1 cM H1 v1 e1 R1 r1 h=>?_;rcases h with⟨l,rfl,h⟩|⟨i,l,rfl,hl,h⟩
  .let#[a',vs,rfl,ht,rs]:=r1.yw;exact .inr #[_,rfl,#[_,ht.sq],h cM H1 _ e1 R1 (ZX ht rs)]
  .let#[a',rfl,nC]:=r1.n6;let#[vs,hq,rs]:=R1.items hl nC;exact .inl #[_,rfl,#[_,hq],h cM H1 _ e1 R1 (ZV nC)]
def VY{elts:@&Expr}{x1:Nat}(ha:PE X a (LE X.K Ξ (bt P ma)))(hg:Gl X "enumerate")(hm:X.mg "enumerate"=none)(hs:starEach [a] X.env=[(false,eval a X.env)]):PI X (.Tuple elts x1 tp) (.Call (.Name "enumerate" p) [a] [] pos) (LI X.K Ξ (iO P (.mD ma))) :=
 (Vw hg hm (C7 hP ha (L4 hP) (by rw[hs];rfl)) hs).imp λcL H R bH=>by
  let#[U,g,ρ,s,Rr,h]:=bH;refine lS hP (m:=.cons ma .nil) s Rr (.refl _ _) (Q0:=λxs g1=>∃a l,xs=[.ref a]/\d5 g1 a=!l/\∀cx H' J,Ext ρ H cx H'->Rl X.K cx g1 H'->pN X.K cx H' (.qv a) J->R J H') ?_ λxs g1 cM H1 vs e1 R1 r1 h=>?_
  .exact d0 hP ma _ _ _ _ _ _ (by rintro x g1 ⟨i,l,e,hl,h⟩;exact #[i,l,by rw[e],hl,h]) (λy y z=>z) h
  .let#[j,l,rfl,hl,h]:=h;let#[v,rfl,rv]:=r1.one;let#[a',rfl,ra]:=rv.n6;let#[vs,hq,rs]:=R1.items hl ra;exact#[_,rfl,#[_,hq],h cM H1 _ e1 R1 (ZU ra)]
def TR(ha:PE X a (LE X.K Ξ (bt P ma)))(hg:Gl X "reversed")(hm:X.mg "reversed"=none)(hs:starEach [a] X.env=[(false,eval a X.env)]):PI X tg (.Call (.Name "reversed" p) [a] [] pos) (LI X.K Ξ (iO P (.pA ma))) :=
 (bA9 hg hm (C7 hP ha (L4 hP) (by rw[hs];rfl)) hs).imp λcL H R bH=>by
  let#[U,g,ρ,s,Rr,h]:=bH;refine lS hP (m:=.cons ma .nil) s Rr (.refl _ _) (Q0:=λxs g1=>∃a l,xs=[.ref a]/\d5 g1 a=!l/\∀cx H' J,Ext ρ H cx H'->Rl X.K cx g1 H'->pN X.K cx H' (.uA a (-l)) J->R J H') ?_ λxs g1 cM H1 vs e1 R1 r1 h=>?_
  .exact d0 hP ma _ _ _ _ _ _ (by rintro x g1 ⟨i,l,e,hl,h⟩;exact #[i,l,by rw[e],hl,h]) (λy y z=>z) h
  .let#[j,l,rfl,hl,h]:=h;let#[v,rfl,rv]:=r1.one;let#[a',rfl,ra]:=rv.n6;let#[vs,hq,rs]:=R1.items hl ra;exact#[_,vs,rfl,hq,h cM H1 _ e1 R1 (by rw[(-rs)];exact ZW ra)]
def VZ(ha:PE X a (LE X.K Ξ (bt P ma)))(hg:Gl X "range")(hm:X.mg "range"=none)(hs:starEach [a] X.env=[(false,eval a X.env)]):PI X tg (.Call (.Name "range" p) [a] [] pos) (LI X.K Ξ (iO P (.eY ma))) :=
 (a26 hg hm (C7 hP ha (L4 hP) (by rw[hs];rfl)) hs).imp λcL H R bH=>by
  let#[U,g,ρ,s,Rr,h]:=bH;refine lS hP (m:=.cons ma .nil) s Rr (.refl _ _) (Q0:=λxs g1=>∃j:Int,xs=[.int j]/\-(2 ^ 62)<=j/\j<2 ^ 62/\∀cx H' J,Ext ρ H cx H'->Rl X.K cx g1 H'->pN X.K cx H' (.fix (l9 0 j.toNat)) J->R J H') ?_ λxs g1 cM H1 vs e1 R1 r1 h=>?_
  .exact d0 hP ma _ _ _ _ _ _ (by rintro x g1 ⟨j,e,h1,h2,h⟩;exact #[j,by rw[e],h1,h2,h]) (λy y z=>z) h
  .let#[j,rfl,h1,h2,h]:=h;let#[v,rfl,rv]:=r1.one;obtain rfl:=rv.n8;exact#[_,rfl,h1,h2,h cM H1 _ e1 R1 Kn]
def V'(ha:PE X a (LE X.K Ξ (bt P ma)))(hb:PE X b (LE X.K Ξ (bt P mb)))(hg:Gl X "range")(hm:X.mg "range"=none)(hs:starEach [a,b] X.env=[(false,eval a X.env),(false,eval b X.env)])(gZ:starEach [b] X.env=[(false,eval b X.env)]) :
  PI X tg (.Call (.Name "range" p) [a,b] [] pos) (LI X.K Ξ (iO P (.lI ma mb))) :=
 (a25 hg hm (C7 hP ha (C7 hP hb (L4 hP) (by rw[gZ];rfl)) (by rw[hs,gZ])) hs gZ).imp λcL H R bH=>by
  let#[U,g,ρ,s,Rr,h]:=bH;refine lS hP (m:=.cons ma (.cons mb .nil)) s Rr (.refl _ _) (Q0:=λxs g1=>∃i j:Int,xs=[.int i,.int j]/\(-(2 ^ 62)<=i/\i<2 ^ 62/\-(2 ^ 62)<=j/\j<2 ^ 62)/\∀cx H' J,Ext ρ H cx H'->Rl X.K cx g1 H'->pN X.K cx H' (.fix (l9 i (j-i).toNat)) J->R J H') ?_ λxs g1 cM H1 vs e1 R1 r1 h=>?_
  .exact d0 hP ma _ _ _ _ _ _ (λx g1 h=>d0 hP mb _ _ _ _ _ _ (by rintro y g2 ⟨i,j,e,e',h1,h⟩;exact #[i,j,by rw[e,e'],h1,h]) (λu u z=>z) h) (λu u z=>z) h
  .let#[i,j,rfl,h1,h]:=h;let#[v,w,rfl,rv,gR]:=r1.two;obtain rfl:=rv.n8;obtain rfl:=gR.n8;exact#[_,_,rfl,h1,h cM H1 _ e1 R1 Kn]
end
def TQ(hN:X.Nd)(hi:X.N[i]?=!x)(hx:Loc X.env.scope x)(hf:X.fn x=true\/X.env.scope.names.lookup x=!.local):PG X (.Name x pos) (LG X.K (.one i)) :=
 (Nu hN hi hx hf).imp λv cL H Q hq=>by
  let#[d,U,g,ρ,s,R,r,h]:=hq;exact h _ (s.set i r)
inductive gK(X:Cx):@&Expr->@&Nat->Prop
 |nil:gK X [] []
 |cons {x:Str} {p:Pos} {i:Nat} {es:@&Expr} {is:@&Nat} (hi:X.N[i]?=!x) (hx:Loc X.env.scope x) (hf:X.fn x=true\/X.env.scope.names.lookup x=!.local) (r:gK X es is):gK X (.Name x p::es) (i::is)
abbrev GD:@&Nat->sf
 |[]=>KR
 |i::is=>Kk (vw i) (GD is)
def a27(hN:X.Nd){es:@&Expr}{is:@&Nat}(h:gK X es is):yP X es (GD is):=by
 induction h with
 |nil=>exact Vv
 |cons hi hx hf r ih=>exact Xk (Nu hN hi hx hf) ih rfl
def Fy:∀{es:@&Expr} {is:@&Nat},gK X es is->(assignEach es X.env).length=-is/\(assignEach es X.env).findIdx? (·.1)=none
 |_,_,.nil=>#[rfl,rfl]
 |_,_,.cons (x:=x) (p:=p) (es:=es) hi hx hf r=>by
  let#[h1,h2]:=Fy r;let e:assignEach (.Name x p::es) X.env=(false,assign (.Name x p) X.env)::assignEach es X.env:=rfl;rw[e];refine#[by simp[h1],?_];rw[List.findIdx?_cons,h2]
  rfl
def Lg{K:PySem.W.Frag}{ρ:@&Addr}{H:Hp}{k:S->Prop}{Q:L2.St->Hp->Prop}:∀{is:@&Nat} {l:@&D} {vs:@&V} {U cA:S} {cL:L2.St},S1 is l U=!cA->c7 K ρ H l vs->v9 K ρ H U cL->(∀dR,v9 K ρ H cA dR->Q dR H)->GD is vs cL H Q
 |[],_,_,_,_,_,h,.nil,s,q=>by
  cases h;exact#[rfl,q _ s]
 |[],_,_,_,_,_,h,.cons _ _,s,q=>by cases h
 |i::is,_,_,_,_,_,h,.nil,s,q=>by cases h
 |i::is,_,_,_,_,_,h,.cons r rr,s,q=>by
  exact#[_,_,rfl,Lg (k:=k) h rr (s.set i r) q]
def Mc:∀{is:@&Nat} {l:@&D} {U cA:S},S1 is l U=!cA->-l=-is
 |[],[],_,_,_=>rfl
 |[],_::_,_,_,h=>by simp only[S1] at h;cases h
 |_::_,[],_,_,h=>by simp only[S1] at h;cases h
 |_::is,_::l,_,_,h=>by simp only[S1] at h;simp[Mc h]
def NG{es:@&Expr}{is:@&Nat}{k:Nat}(hc:X.calm=true)(hN:X.Nd)(hs:gK X es is):PG X (.Tuple es k pos) (LG X.K (.many is)) :=
 (bB0 hc (a27 hN hs) (Fy hs).1 (Fy hs).2).imp λv cL H Q bH=>by
  let#[d,U,g,ρ,s,R,r,h]:=bH;let#[l,cA,rfl,e,h]:=h;let#[a',vs,rfl,ht,rs]:=r.yw;exact#[_,_,rfl,ht.sq,by rw[<- -rs];exact Mc e,Lg (k:=λx=>True) e rs s h]
def LN.ext{K ρ H N cM H1}(e:Ext ρ H cM H1):(LN K ρ H N).le (LN K cM H1 N) :=
 #[λU g h cx H' dR e' R s=>h cx H' dR (e.trans e') R s,λd g h=>h.ext e,λU g h cx H' dR e' R s=>h cx H' dR (e.trans e') R s,λU g h cx H' dR e' R s=>h cx H' dR (e.trans e') R s]
section
variable{Ξ:je}{P:gi}(hP:j9 P){a b c:Expr}{ma mb mc:ME}{st:Stmt}{rest:@&Stmt}{Cn ox:MS}
include hP
def OX:jV X [] (LS X.K Ξ (wpS P .pass)) :=
 (VC (X:=X)).imp (by rintro N cL H ⟨U,g,ρ,s,R,h⟩;exact h ρ H cL (.refl _ _) R s)
def NH(h1:PS X st (LS X.K Ξ (wpS P Cn)))(h2:jV X rest (LS X.K Ξ (wpS P ox))):jV X (st::rest) (LS X.K Ξ (wpS P (.seq Cn ox))) :=
 (Xs h1 h2).imp λN cL H ⟨U,g,ρ,s,R,h⟩ =>
  uw hP s R (.refl _ _) (show wpS P Cn { LN X.K ρ H N with nx:=λjz g1=>wpS P ox (LN X.K ρ H N) jz g1 (LX X.K ρ H Ξ) } U g (LX X.K ρ H Ξ) from h) #[λjz g1 h cM H1 PD e1 R1 s1=>uw hP s1 R1 e1 h (LN.ext e1),λx x z=>z,λx x z=>z,λx x z=>z]
def We(ha:PE X a (LE X.K Ξ (bt P ma)))(hs:swapsWith a none pos.line X.env=pure false):PS X (.Expr a pos) (LS X.K Ξ (wpS P (.expr ma))) :=
 (Vz ha hs).imp (by rintro N cL H ⟨U,g,ρ,s,R,h⟩;exact gQ hP s R (.refl _ _) h λx g1 cM H1 v1 e1 R1 r1 h=>h cM H1 cL e1 R1 (s.ext e1))
def Pa(h0:PS X (.Assign [.Name x p] a pos) (yI (LE X.K Ξ (bt P ma)) (vw i))):PS X (.Assign [.Name x p] a pos) (LS X.K Ξ (wpS P (.set i ma))) :=
 h0.imp (by rintro N cL H ⟨U,g,ρ,s,R,h⟩;exact gQ hP s R (.refl _ _) h λx g1 cM H1 v1 e1 R1 r1 h=>h cM H1 _ e1 R1 ((s.ext e1).set i r1))
def Uk(h0:PS X (.Assign [tg] a pos) (yI (LE X.K Ξ (bt P ma)) (LG X.K t))):PS X (.Assign [tg] a pos) (LS X.K Ξ (wpS P (.nj t ma))) :=
 h0.imp (by rintro N cL H ⟨U,g,ρ,s,R,h⟩;exact gQ hP s R (.refl _ _) h λx g1 cM H1 v1 e1 R1 r1 h=>#[x,U,g1,cM,s.ext e1,R1,r1,B8 (λcA h dR s'=>h cM H1 dR e1 R1 s') h])
def a92(hu:X.A.units+100<cLine){o i:Expr}{mo:ME}(ha:PE X a (LE X.K Ξ (bt P ma)))(ho:PE X o (LE X.K Ξ (bt P mo)))(hi:PE X i (LE X.K Ξ (bt P mi)))(hs:swapsWithSole [.Subscript o i tp] a pos.line X.env=pure false)(nC:∀ v,assign (.Subscript o i tp) X.env v=(do
   let ov <- holding [v] (eval o X.env)
   let iv <- holding [v,ov] (eval i X.env)
   standAt tp
   holding [v,ov,iv] (setItem ov iv v)
   release [v,ov,iv] [])):PS X (.Assign [.Subscript o i tp] a pos) (LS X.K Ξ (wpS P (.fc mo mi ma))) :=
 (OR ha (bB1 ho hi (TM hu) nC) hs).imp λN cL H ⟨U,g,ρ,s,R,h⟩ =>
  gQ hP s R (.refl _ _) h λx g1 cM H1 v1 e1 R1 r1 h=>gQ hP (s.ext e1) R1 e1 h λy g2 gg H2 v2 e2 R2 r2 h=>gQ hP (s.ext (e1.trans e2)) R2 (e1.trans e2) h λz g3 jZ H3 v3 e3 R3 r3 h =>
   #[y,z,x,g3,jZ,R3,r2.ext e3,r3,r1.ext (e2.trans e3),X9 (λg4 h sD H4 e4 R4=>h sD H4 cL (e1.trans (e2.trans (e3.trans e4))) R4 (s.ext (e1.trans (e2.trans (e3.trans e4))))) h]
omit hP in
abbrev Gw(K:PySem.W.Frag)(f:Str)(cs:@&Str):Prop:=∀c C,c∈cs->w9 K c C->E2 K C f
omit hP in
def VX{f:Str}{cs:@&Str}(hF:Gw X.K f cs){ρ:@&Addr}{H:Hp}{g g':G}{x v:D}{xv vv:V}(R:Rl X.K ρ g H)(rx:f7 X.K ρ H x xv)(rv:f7 X.K ρ H v vv)(h:Kw f cs x v g g') :
  ∃a C dx fs,xv=.ref a/\H a=!.ins C dx fs/\kW X.K C/\E2 X.K C f/\-fs<1000/\Rl X.K ρ g' (upd H a (.ins C dx (B9 f vv fs)))/\Ext ρ H ρ (upd H a (.ins C dx (B9 f vv fs))):=by
 let#[i,c,fs,rfl,hi,hc,hz,rfl]:=h;let#[a',rfl,ra]:=rx.n6;let#[C,dx,vs,hH,hC,kT,rk,na]:=R.ins hi ra;let#[R',e']:=R.put (o':=.ins c (p6 f v fs)) (u:=.ins C dx (B9 f vv vs)) hi rfl ra #[hC,kT,rk.B9 rv,Ma (p:=λy=>E2 X.K C y) (hF c C hc hC) na];exact#[a',C,dx,vs,rfl,hH,kT,hF c C hc hC,by rw[<- -rk];omega,R',e']
def Wf{f:Str}{cs:@&Str}{o:Expr}{mo:ME}(hF:Gw X.K f cs)(ho:PE X o (LE X.K Ξ (bt P mo)))(ha:PE X a (LE X.K Ξ (bt P ma)))(hs:swapsWith a (!.Attribute o f tp) pos.line X.env=pure false):PS X (.Assign [.Attribute o f tp] a pos) (LS X.K Ξ (wpS P (.jn f cs mo ma))) :=
 (bA4 ho ha hs).imp λN cL H ⟨U,g,ρ,s,R,h⟩=>gQ hP s R (.refl _ _) h λx g1 cM H1 v1 e1 R1 r1 h=>gQ hP (s.ext e1) R1 e1 h λy g2 gg H2 v2 e2 R2 r2 h=>by
  let#[g3,h,q]:=h;let#[a',C,dx,fs,hx,hH,kT,na,hz,R3,e3]:=VX hF R2 r2 (r1.ext e2) h;exact#[a',C,dx,fs,hx,hH,kT,na,hz,q gg _ cL (e1.trans (e2.trans e3)) R3 (s.ext (e1.trans (e2.trans e3)))]
def Wd{op:Operator}{p:Pr}(Ra:(op=.Add/\p=.iadd)\/(op=.Sub/\p=.oy))(hN:X.Nd)(hi:X.N[i]?=!x)(hx:Loc X.env.scope x)(hf:X.fn x=true\/X.env.scope.names.lookup x=!.local)(ha:PE X a (LE X.K Ξ (bt P ma))):PS X (.AugAssign (.Name x tp) op a pos) (LS X.K Ξ (wpS P (.lP i p ma))):=by
 let ho:Pc X op (r2 X.K p):=by
  intro pi s U H x y v u Q I rx ry h;let#[d,e,g,ρ,R,rd,re,d',g',hr,q]:=h;rcases Ra with⟨rfl,rfl⟩|⟨rfl,rfl⟩
  .rcases hr with⟨i,j,ex,rfl,rfl⟩|z
   .let#[rfl,rfl]:=P5 ex;obtain rfl:=rd.n8;obtain rfl:=re.n8;exact UR pi s U H _ _ v u Q I rx ry #[i,j,rfl,rfl,q.now R (.int _)]
   .exact z.elim
  .let#[i,j,ex,rfl,rfl]:=hr;let#[rfl,rfl]:=P5 ex;obtain rfl:=rd.n8;obtain rfl:=re.n8;exact US pi s U H _ _ v u Q I rx ry #[i,j,rfl,rfl,q.now R (.int _)]
 refine(bA5 hN hi hx ha ho hf).imp λN cL H bH=>?_;let#[U,g,ρ,s,R,h]:=bH;let#[xd,QO,h]:=h;let#[xv,hv,rx]:=s.val _ _ QO;refine#[xv,hv,gQ hP s R (.refl _ _) h λz g1 cM H1 v1 e1 R1 r1 h=>?_];refine#[xd,z,g1,cM,R1,rx.ext e1,r1,A1 (λw g2 q=>?_) h];exact λgg H2 v2 e2 R2 r2=>q gg H2 _ (e1.trans e2) R2 ((s.ext (e1.trans e2)).set i r2)
def bK2{sa sb:@&Stmt}{Ig msb:MS}(hc:PT X c (LT X.K Ξ (eX P mc)))(ha:jV X sa (LS X.K Ξ (wpS P Ig)))(hb:jV X sb (LS X.K Ξ (wpS P msb))):PS X (.If c sa sb pos) (LS X.K Ξ (wpS P (.ifs mc Ig msb))) :=
 (bL3 hc ha hb).imp λN cL H ⟨U,g,ρ,s,R,h⟩=>rg hP s R (.refl _ _) h λt g1 cM H1 e1 R1 h=>by
  cases t
  .exact uw hP (s.ext e1) R1 e1 h (LN.ext e1)
  .exact uw hP (s.ext e1) R1 e1 h (LN.ext e1)
def OZ(ha:PE X a (LE X.K Ξ (bt P ma))):PS X (.Return (!a) pos) (LS X.K Ξ (wpS P (.ret ma))) :=
 (bA2 ha).imp (by rintro N cL H ⟨U,g,ρ,s,R,h⟩;exact #[U,g,ρ,s,R,h])
def a91{body:@&Stmt}{mb:MS}(hp:PassesOwn (model X.prog X.w) X.A X.env X.xe)(hc:PT X c (LT X.K Ξ (eX P mc)))(hb:jV X body (LS X.K Ξ (wpS P mb))):PS X (.While c body [] pos) (LS X.K Ξ (wpS P (.lh mc mb))) :=
 (Xr hp hc hb).imp λN cL H bH=>by
  let#[U,g,ρ,s,R,h]:=bH;let#[W,#[m0,w0],h]:=h;refine#[λm dR H'=>∃cA g' cx,Ext ρ H cx H'/\v9 X.K cx H' cA dR/\Rl X.K cx g' H'/\W m cA g',#[m0,U,g,ρ,.refl _ _,s,R,w0],?_];rintro m dR H' ⟨cA,g',cx,e1,s',R',w'⟩;refine rg hP s' R' e1 (h m cA g' w') λt g1 cM H1 e2 R1 q=>?_;cases t
  .exact q cM H1 dR (e1.trans e2) R1 (s'.ext e2)
  .let#[N2,rH,q]:=q;refine#[λlg H2=>∃cQ g2 gg,Ext ρ H gg H2/\v9 X.K gg H2 cQ lg/\Rl X.K gg g2 H2/\N2 cQ g2,?_,?_]
   .rintro lg H2 ⟨cQ,g2,gg,e3,s2,R2,n2⟩;let#[m',hm,w2]:=rH cQ g2 n2;exact#[m',hm,cQ,g2,gg,e3,s2,R2,w2]
   .refine uw hP (s'.ext e2) R1 (e1.trans e2) q #[?_,?_,?_,?_]
    .exact λjy g3 n3 jZ H3 mq e3 R3 s3=>#[jy,g3,jZ,(e1.trans e2).trans e3,s3,R3,n3]
    .exact λd g3 h=>h.ext (e1.trans e2)
    .exact λjy g3 h jZ H3 mq e3 R3 s3=>h jZ H3 mq ((e1.trans e2).trans e3) R3 s3
    .exact λjy g3 n3 jZ H3 mq e3 R3 s3=>#[jy,g3,jZ,(e1.trans e2).trans e3,s3,R3,n3]
def Ui{iter:Expr}{body:@&Stmt}{mb:MS}(hp:PassesOwn (model X.prog X.w) X.A X.env X.xe)(hc:X.calm=true)(hi:PI X tg iter (LI X.K Ξ (iO P mi)))(hg:PG X tg (LG X.K t))(hb:jV X body (LS X.K Ξ (wpS P mb)))(hs:∀x,foldedSetIterable iter X.env x=pure x):PS X (.For tg iter body [] pos) (LS X.K Ξ (wpS P (.dX t mi mb))) :=
 (bA3 hp hc hi hg hb hs).imp λN cL H bH=>by
  let#[U,g,ρ,s,R,h]:=bH;refine#[U,g,ρ,s,R,E3 hP mi _ _ _ _ _ _ (λk g1 h cM H1 J e1 R1 j1=>?_) (λu u z=>z) h];let#[W,#[m0,w0],h]:=h;refine#[λi m dR H'=>∃cA g' cx,Ext cM H1 cx H'/\v9 X.K cx H' cA dR/\Rl X.K cx g' H'/\W i m cA g',#[m0,U,g1,cM,.refl _ _,s.ext e1,R1,w0],?_];rintro i m dR H' ⟨cA,g',cx,e',s',R',w'⟩;let#[wV,wU]:=j1 cx g' H' e' R' i;rcases h i m cA g' w' with⟨ek,q⟩|⟨x,ek,N2,rH,q⟩
  .exact .inl #[wV ek,q cx H' dR (e1.trans e') R' s']
  .let#[go,yl]:=wU x ek;refine .inr #[go,λlg H2=>∃cQ g2 gg,Ext cM H1 gg H2/\v9 X.K gg H2 cQ lg/\Rl X.K gg g2 H2/\N2 cQ g2,?_,?_]
   .rintro lg H2 ⟨cQ,g2,gg,e2,s2,R2,n2⟩;let#[m',hm,w2]:=rH cQ g2 n2;exact#[m',hm,cQ,g2,gg,e2,s2,R2,w2]
   .intro v H2 y;let#[e2,R2,r2]:=yl v H2 y;refine#[x,cA,g',cx,s'.ext e2,R2,r2,B8 (λcQ q lg s2=>?_) q];refine uw hP s2 R2 (e1.trans (e'.trans e2)) q #[?_,?_,?_,?_]
    .exact λjy g3 n3 jZ H3 mq e3 R3 s3=>#[jy,g3,jZ,(e'.trans e2).trans e3,s3,R3,n3]
    .exact λd g3 h=>h.ext (e1.trans (e'.trans e2))
    .exact λjy g3 h jZ H3 mq e3 R3 s3=>h jZ H3 mq (e1.trans ((e'.trans e2).trans e3)) R3 s3
    .exact λjy g3 n3 jZ H3 mq e3 R3 s3=>#[jy,g3,jZ,(e'.trans e2).trans e3,s3,R3,n3]
def NS{d8:@&Nat}{n:Nat}{jM me:ME}:∀cL H Q,LE X.K Ξ (bt P (.comp d8 n t mi jM me)) cL H Q->Gk (LI X.K Ξ (iO P mi)) d8 n (LG X.K t) (LT X.K (pP Ξ.1) (eX P jM)) (LE X.K (pP Ξ.1) (bt P me)) cL H Q:=λcL H Q bH=>by
 let#[U,g,ρ,s,R,h]:=bH;refine#[U,g,ρ,s,R,E3 hP mi _ _ _ _ _ _ (λk g1 h cM H1 J e1 R1 j1=>?_) (λw w z=>z) h];let#[W,#[m0,w0],h]:=h;refine#[λi m Hw dR H'=>∃ys cA g' cx,Ext cM H1 cx H'/\v9 X.K cx H' cA dR/\Rl X.K cx g' H'/\c7 X.K cx H' ys Hw/\W i m ys cA g',#[m0,[],_,g1,cM,.refl _ _,(s.ext e1).d8 d8 n,R1,.nil,w0],?_];rintro i m Hw dR H' ⟨ys,cA,g',cx,e',s',R',ry,w'⟩;let#[wV,wU]:=j1 cx g' H' e' R' i;rcases h i m ys cA g' w' with⟨ek,q⟩|⟨x,ek,hz,q⟩
 .exact .inl #[wV ek,λp hp=>(q.ext (e1.trans e')).new R' hp ry]
 .let#[go,yl]:=wU x ek;refine .inr #[go,by rw[<- -ry];exact EH hz,λv H2 y=>?_];let#[e2,R2,r2]:=yl v H2 y;refine#[x,cA,g',cx,s'.ext e2,R2,r2,B8 (λcQ q lg s2=>?_) q];refine#[cQ,g',cx,s2,R2,x4 hP jM _ _ _ _ _ _ (λb g3 q jZ H3 e3 R3=>?_) (λw w z=>z.elim) q];cases b
  .let#[m',hm,w3]:=q;exact#[m',hm,ys,cQ,g3,jZ,(e'.trans e2).trans e3,s2.ext e3,R3,(ry.ext e2).ext e3,by simpa using w3]
  .refine#[cQ,g3,jZ,s2.ext e3,R3,d0 hP me _ _ _ _ _ _ (λz g4 q sD H4 v4 e4 R4 r4=>?_) (λw w z=>z.elim) q];let#[m',hm,w4]:=q;exact#[m',hm,ys++[z],cQ,g4,sD,(e'.trans e2).trans (e3.trans e4),(s2.ext e3).ext e4,R4,(((ry.ext e2).ext e3).ext e4).append (.cons r4 .nil),by simpa using w4]
def a99{elt iter:Expr}{ifs:@&Expr}{scope:Scope}{N':@&Str}{d8:@&Nat}{cl:@&(Str×Addr)}{p2 kI:Pos}{jM me:ME}(S:dN X scope N' d8 cl)(hc:X.calm=true)(hi:PI X tg iter (LI X.K Ξ (iO P mi)))(hg:∀pi C s H fp,PG (i6 X pi scope N' cl C s H fp) tg (LG X.K t))(ht:∀pi C s H fp,mJ (i6 X pi scope N' cl C s H fp) ifs (LT X.K (pP Ξ.1) (eX P jM)))(he:∀pi C s H fp,PE (i6 X pi scope N' cl C s H fp) elt (LE X.K (pP Ξ.1) (bt P me)))(hs:∀x,foldedSetIterable iter X.env x=pure x)(oJ:Gl X "sorted")(oC:X.mg "sorted"=none):PE X (.Call (.Name "sorted" p2) [.SetComp elt [#[tg,iter,ifs,0]] scope pos] [] kI) (LE X.K Ξ (bt P (.iQ d8 (-N') t mi jM me))) :=
 (AU (Y8 hc) oJ oC (by rfl) (V3 (Xj S hc hi hg ht he hs) vI)).imp λcL H Q bH=>by
  let#[U,g,ρ,s,R,h]:=bH;refine#[U,g,ρ,s,R,E3 hP mi _ _ _ _ _ _ (λk g1 h cM H1 J e1 R1 j1=>?_) (λw w z=>z) h];let#[W,#[m0,w0],h]:=h;refine#[λi m ys dR H'=>∃cA g' cx,Ext cM H1 cx H'/\v9 X.K cx H' cA dR/\Rl X.K cx g' H'/\W i m ys cA g',#[m0,_,g1,cM,.refl _ _,(s.ext e1).d8 d8 _,R1,w0],?_];rintro i m ys dR H' ⟨cA,g',cx,e',s',R',w'⟩;let#[wV,wU]:=j1 cx g' H' e' R' i;rcases h i m ys cA g' w' with⟨ek,hz,q⟩|⟨x,ek,hz,q⟩
  .exact .inl #[wV ek,λp hp=>#[p,ys,rfl,x5,by omega,λp' iU=>(q.ext ((e1.trans e').trans (C4 hp))).new (R'.grow hp) iU (c7.ofInts _)]]
  .let#[go,yl]:=wU x ek;refine .inr #[go,hz,λv H2 y=>?_];let#[e2,R2,r2]:=yl v H2 y;refine#[x,cA,g',cx,s'.ext e2,R2,r2,B8 (λcQ q lg s2=>?_) q];refine#[cQ,g',cx,s2,R2,x4 hP jM _ _ _ _ _ _ (λb g3 q jZ H3 e3 R3=>?_) (λw w z=>z.elim) q];cases b
   .let#[m',hm,w3]:=q;exact#[m',hm,cQ,g3,jZ,(e'.trans e2).trans e3,s2.ext e3,R3,by simpa using w3]
   .refine#[cQ,g3,jZ,s2.ext e3,R3,d0 hP me _ _ _ _ _ _ (λz g4 q sD H4 v4 e4 R4 r4=>?_) (λw w z=>z.elim) q];let#[j,rfl,m',hm,w4]:=q;obtain rfl:=r4.n8;exact#[j,rfl,m',hm,cQ,g4,sD,(e'.trans e2).trans (e3.trans e4),(s2.ext e3).ext e4,R4,by simpa using w4]
end
end M
namespace M
open PySem L2
section
variable{P:gi}(hP:j9 P)
include hP
end
end M
namespace M
open PySem L2 PySem.Spec PyProof.Rows
variable{X:Cx}{Ξ:je}{P:gi}{x qual:Str}{pos:Pos}{c:j8}{i n:Nat}{e o b:Expr}{es args:@&Expr}{env:Env}{p:Pr}{f:Addr}{r:CF}{m:ME}{cd:Value}{N:@&Str}{scope:Scope}{A:Around}{outer:@&Env}{s:Shared}{H:Hp}{E:XK}
section
variable(hP:j9 P)
include hP
def a93{C:Addr}{B newId iC:String}{bm:@&Value}{np gO:Pos}{kL:Expr}{rest:@&Expr}{jB:ME}(hc:X.calm=true)(O:OwnCls x C bm newId X.mg X.base)(FB:ExcBaseFacts B newId iC bm)(hg:Gl X x)(ha:PA X (kL::rest) (LA X.K Ξ (iz P jB)))(hr:AA X Ξ.2)(hx:x∈Ξ.1)(hC:w9 X.K x C)(he:starEach (kL::rest) X.env=(false,eval kL X.env)::starEach rest X.env)(iE:(backTo gO (starEach rest X.env)).any (·.1)=false)(hd:(x==("__debug__":Str))=false):PS X (.Raise (!.Call (.Name x np) (kL::rest) [] gO) none pos) (LS X.K Ξ (wpS P (.raise x jB))) :=
 (Xp hc O FB hg ha hr he iE hd).imp λN cL H bH=>by
  let#[U,g,ρ,s,R,h]:=bH;refine lS hP s R (.refl _ _) h λds g1 cM H1 vs e1 R1 r1 h=>?_;exact#[by rw[<- -r1];exact U9 (aD h.1 ∅),h.2 cM H1 C e1 R1 hx hC]
abbrev Bf(X:Cx)(ex:@&Str)(D:L2.Ends)(dE:L2.St)(hs:@&ExceptHandler):je:=(ex,λv x H=>∃C,v=.ref C/\ue X D dE C H hs)
inductive nF(X:Cx)(Ξ:je)(P:gi):@&ExceptHandler->@&(Str×ME)->Prop
 |nil (hh:yk X Ξ.2):nF X Ξ P [] []
 |cons {y:Str} {C':Addr} {p p1 p2:Pos} {e:Expr} {me:ME} {hs:@&ExceptHandler} {ms:@&(Str×ME)} (hg:Gl X y) (hd:(y==("__debug__":Str))=false) (hm:X.mg y=!.ref C')
   (hx:∀x C,x∈Ξ.1->w9 X.K x C->PySem.W.exmOne X.K (.ref C) (.ref C')=!decide (x=y\/y="MintError")) (he:∀ea,PE (H9 X ea) e (LE X.K (pP Ξ.1) (bt P me))) (r:nF X Ξ P hs ms) :
   nF X Ξ P (.ExceptHandler (!.Name y p) none [.Return (!e) p1] p2::hs) ((y,me)::ms)
set_option tactic.hygienic true in
def Ot{N:L2.Ends}{ρ cx:@&Addr}{H H':Hp}{U:S}{g:G}{x:Xn}{C:Addr}(hl:-U=-X.N)(e:Ext ρ H cx H')(R:Rl X.K cx g H')(hx:x.cls∈Ξ.1)(hC:w9 X.K x.cls C) :
  ∀{hs:@&ExceptHandler} {ms:@&(Str×ME)},nF X Ξ P hs ms->pj P (LN X.K ρ H N) (U.map λy=>none) (LX X.K ρ H Ξ) ms x g->ue X N (List.replicate (-X.N) none) C H' hs
 |_,_,.nil hh,q=>#[Ξ.2,hh,q cx H' C e R hx hC]
 |_,_,.cons (me:=me) hg hd hm QN he r,q=>by
  refine#[hg,hd,_,_,hm,QN _ _ hx hC,?_];unfold pj at q;split at q
  .rename_i ex;rw[aI (by simpa using ex)];refine#[LS X.K (pP Ξ.1) (wpS P (.seq (.ret me) .pass)),λea=>NH (X:=H9 X ea) (Ξ:=pP Ξ.1) hP (OZ (X:=H9 X ea) hP (he ea)) (OX (X:=H9 X ea) hP),?_];refine#[U.map λy=>none,g,cx,#[by simp[hl],λi d z=>?_],R,?_]
   .simp_all
   .refine d0 hP me _ _ _ _ _ _ (λd g1 h=>?_) (λy y z=>z.elim) q;exact h.ext e
  .rename_i ex;rw[aE (by simpa using ex)];exact Ot hl e R hx hC r q
def Uj{h₀:ExceptHandler}{hs:@&ExceptHandler}{ms:@&(Str×ME)}{body:@&Stmt}{mb:MS}(pC:X.sg=none)(hb:∀pi D,jV (X6 X pi (Bv X pi D (h₀::hs))) body (LS X.K (Bf X Ξ.1 D (List.replicate (-X.N) none) (h₀::hs)) (wpS P mb)))(hh:nF X Ξ P (h₀::hs) ms):PS X (.Try body (h₀::hs) [] [] pos) (LS X.K Ξ (wpS P (.qP mb ms))):=by
 intro pi s cL H N I ⟨U,g,ρ,sr,R,h⟩;refine bA1 (t:=λD y=>LS X.K (Bf X Ξ.1 D (List.replicate (-X.N) none) (h₀::hs)) (wpS P mb)) (Ξ:=λD y=>(Bf X Ξ.1 D (List.replicate (-X.N) none) (h₀::hs)).2) (λy=>none) (λy=>List.replicate (-X.N) none) (λy y z=>by cases z) pC (λpi D y y=>hb pi D) pi s cL H N I #[(by rintro C H' ⟨C',e,z⟩;simp_all),?_];refine#[U,g,ρ,sr,R,wpS_mono hP mb _ _ _ _ _ _ #[λy y z=>z,λy y z=>z,λy y z=>z,λy y z=>z] (λx g1 q cx H' C e' R' hm hc=>#[C,rfl,?_]) h];exact Ot (Ξ:=Ξ) hP (sr.len.trans I.len) e' R' hm hc hh q
end
structure j8 where
 N:@&Str
 nm:@&(Str×NameKind)
 nY:Bool
 fns:@&(Str×Nat)
 con:@&(Str×D)
 blt:@&Str
 exc:@&Str
 gd:@&(Str×@&D)
 cls:@&(Str×Nat)
 rn:@&(Str×Str×Nat)
 pM:@&(Str×Str)
 kH:Bool
 ka:Bool
 wr:Bool:=true
abbrev iA:Expr->Bool
 |.Set ..=>false
 |.Starred ..=>false
 |.Slice ..=>false
 |_=>true
abbrev C0:Expr->Bool
 |.ListComp ..=>false
 |.SetComp ..=>false
 |.DictComp ..=>false
 |_=>true
abbrev vA:Expr->Bool
 |.Tuple ..=>false
 |_=>true
abbrev Fw:Expr->Bool
 |.Name ..=>true
 |.Call ..=>true
 |.Subscript ..=>true
 |.Constant ..=>true
 |.Attribute ..=>true
 |.BinOp ..=>true
 |_=>false
abbrev Ax:Expr->Bool
 |.Call (.Name ..) [] ..=>false
 |_=>true
abbrev j8.idx(c:j8)(x:Str):Option Nat:=c.N.findIdx? λy=>decide (y=x)
abbrev j8.vX(c:j8)(x:Str):Bool:=match c.nm.lookup x with
 |some .local=>true
 |some .cell=>true
 |some .free=>true
 |_=>false
abbrev j8.gl(c:j8)(x:Str):Bool:=decide (c.nm.lookup x=!.globalImplicit)
abbrev j8.B0(c:j8)(x:Str):Bool:=decide (c.nm.lookup x=!.local)||decide (c.nm.lookup x=!.cell)
abbrev qL(x:Str):Bool:=(x==("__debug__":Str))==false&&(x==("__classdict__":Str))==false&&decide (x≠"__name__")
abbrev Gn:@&(Str×String):=[("int","int"),("bool","bool"),("str","str"),("tuple","tuple"),("list","list")]
abbrev Gy:@&(Str×Pr):=[("len",.len),("list",.list),("tuple",.tuple),("isinstance",.isin),("all",.all),("max",.max),("min",.min),("int",.int),("dict",.lO),("sorted",.lz),("sum",.sum),("set",.sW)]
abbrev yz:@&(Str×Pr):=[("clear",.clear),("pop",.sT)]
abbrev GL:@&(Str×Pr):=[("append",.append),("pop",.pop),("get",.get),("add",.lB)]
abbrev AD:Expr->Option (Str×@&Expr)
 |.Call (.Name x _) args [] _=>!(x,args)
 |_=>none
abbrev Kb:Expr->Bool
 |.Tuple ..=>true
 |_=>false
abbrev asName:Expr->Option Str
 |.Name x _=>!x
 |_=>none
abbrev frees(sc:Scope):@&Str:=(sc.names.filter λy=>decide (y.2=.free)).map (·.1)
abbrev locals(sc:Scope):@&Str:=(sc.names.filter λy=>decide (y.2=.local)||decide (y.2=.cell)).map (·.1)
abbrev j8.inner(c:j8)(sc:Scope):j8:={ c with N:=frees sc++locals sc,nm:=sc.names,nY:=false,kH:=false,ka:=false,wr:=true }
abbrev j8.d8(c:j8)(sc:Scope):@&Nat:=(frees sc).map λx=>(c.idx x).getD 0
abbrev j8.EM(c:j8)(sc:Scope):Bool :=
 decide (sc.kind=.function)&&sc.names.all (λy=>~~~decide (y.2=.cell)||decide (sc.names.lookup y.1=!.cell))&&sc.names.all (λy=>~~~decide (y.2=.local)||decide (sc.names.lookup y.1=!.local)) &&
 decide (frees sc++locals sc).Nodup&&(frees sc).all (λx=>(c.idx x).isSome&&decide (sc.names.lookup x=!.free)&&(decide (c.nm.lookup x=!.cell)||decide (c.nm.lookup x=!.free)))
abbrev j8.slot(c:j8)(e:Expr):Option Nat:=(asName e).bind λx=>if c.B0 x then c.idx x else none
abbrev j8.slots(c:j8):@&Expr->Option (@&Nat)
 |[]=>![]
 |e::r=>(c.slot e).bind λi=>(c.slots r).map λis=>i::is
abbrev j8.tg(c:j8)(e:Expr):Option MT:=((c.slot e).map .one).orElse λx=>match e with
 |.Tuple es _ _=>(c.slots es).map .many
 |_=>none
abbrev uf:Const->Option D
 |.int i=>!.int i
 |.bool b=>!.bl b
 |.none=>!.bK
 |.str x=>!.str x
 |_=>none
structure CF where
 e:j8->Expr->Option ME
 t:j8->Expr->Option ME
 s:j8->Stmt->Option MS
section
variable(r:CF)(c:j8)
abbrev c1(p:Pr)(a:Expr):Option ME:=(r.e c a).map λm=>.prim p (.cons m .nil)
abbrev c2(p:Pr)(a b:Expr):Option ME:=(r.e c a).bind λma=>(r.e c b).map λmb=>.prim p (.cons ma (.cons mb .nil))
abbrev L0:@&Expr->Option ME
 |[]=>!.nil
 |e::es=>if iA e then(r.e c e).bind λm=>(L0 es).map λms=>.cons m ms else none
abbrev FV(op:BoolOp):@&Expr->Option ME
 |[]=>none
 |[a]=>r.e c a
 |a::b::rs=>(r.e c a).bind λma=>(FV op (b::rs)).map λmb=>match op with
  |.And=>.dZ ma mb
  |.Or=>.jL ma mb
abbrev FW(op:BoolOp):@&Expr->Option ME
 |[]=>none
 |[a]=>r.t c a
 |a::b::rs=>(r.t c a).bind λma=>(FW op (b::rs)).map λmb=>match op with
  |.And=>.dZ ma mb
  |.Or=>.jL ma mb
abbrev OG:@&Expr->Option ME
 |[]=>!.no
 |[e]=>r.t c e
 |_=>none
abbrev A6:@&Stmt->Option MS
 |[]=>!.pass
 |s::rs=>(r.s c s).bind λm=>(A6 rs).map λms=>.seq m ms
abbrev Gv(x:Str):Option ME :=
 if qL x then(if c.vX x then(c.idx x).map .var else if c.gl x then((c.con.lookup x).map .lit).orElse λy=>if c.blt.contains x then(Gn.lookup x).map λt=>.lit (.ty t) else none else none) else none
abbrev BO(op:UnaryOp)(a:Expr):Option ME:=if op=.Not then(r.e c a).map .eK else c1 r c (.un op) a
abbrev j8.KU(b:Expr):Option (@&D):=(asName b).bind λx=>if c.gl x&&qL x then c.gd.lookup x else none
abbrev yL(a:Expr)(ops:@&CmpOp)(bs:@&Expr):Option ME:=match ops,bs with
 |[op],[b]=>if behindInMarks op b then none else c2 r c (.cmp op) a b
 |[op,jh],[b,d]=>if lastMarks [op,jh] [b,d] then none else(r.e c a).bind λma=>(r.e c b).bind λmb=>(r.e c d).map λmd=>.chain op jh ma mb md
 |_,_=>none
abbrev XU:Expr->Option (Option Expr×Option Expr×Option Expr)
 |.Slice lo hi st _=>!(lo,hi,st)
 |_=>none
abbrev Hz(a:Expr):Option Expr->Option Expr->Option Expr->Option ME
 |some b,none,none=>c2 r c (.nP true false) a b
 |none,!b,none=>c2 r c (.nP false true) a b
 |_,_,_=>none
abbrev JW(a b:Expr):Option ME:=((XU b).bind λq=>Hz r c a q.1 q.2.1 q.2.2).orElse λx=>if iA b then((c.KU a).bind λkvs=>(r.e c b).map λmb=>.prim .oU (.cons (.lit (.tup kvs)) (.cons mb .nil))).orElse λx=>c2 r c .ix a b else none
abbrev Hy(x:Str)(e:Expr):Option ME:=(AD e).bind λq =>
 if x="list" && q.1="range" && c.blt.contains "list" && c.blt.contains "range" && c.gl "range" then (match q.2 with
  |[a]=>if iA a then c1 r c .ku a else none
  |[a,b]=>if iA a&&iA b then c2 r c .lH a b else none
  | _=>none)
 else if x="sorted" && q.1="set" && c.blt.contains "sorted" && c.blt.contains "set" && c.gl "set" then (match q.2 with
  |[a]=>if iA a then c1 r c .sset a else none
  | _=>none)
 else if x="len" && q.1="set" && c.blt.contains "len" && c.blt.contains "set" && c.gl "set" then (match q.2 with
  |[a]=>if iA a then c1 r c .Z8 a else none
  | _=>none)
 else none
abbrev Zk(x:Str)(e:Expr):@&Expr->Option ME
 |[]=>Hy r c x e
 |_=>none
abbrev GX(x:Str):Option ME:=if qL x&&c.gl x then((c.fns.lookup x).map λf=>.call f .nil).orElse λy=>(c.cls.lookup x).map λf=>.make x f .nil else none
abbrev GY(x:Str)(e:Expr)(es:@&Expr):Option ME:=if qL x&&c.gl x then(Zk r c x e es).orElse λy=>(L0 r c (e::es)).bind λms=>((c.fns.lookup x).map λf=>.call f ms).orElse λy=>((c.cls.lookup x).map λf=>.make x f ms).orElse λy=>if c.blt.contains x then(Gy.lookup x).map λp=>.prim p ms else none else none
abbrev MV(x:Str):@&Expr->Option ME
 |[]=>GX c x
 |e::es=>GY r c x e es
abbrev GZ(o:Expr)(m:Str)(apos pos:Pos)(args:@&Expr):Option ME :=
 if Ax o && (apos.endLine == pos.line) && decide (-args < 20) then (r.e c o).bind λmo=>(L0 r c args).bind λms=>if m="index" then none else if args.isEmpty && (yz.lookup m).isSome then (yz.lookup m).map λp=>.fo p mo ms else (match GL.lookup m with
  |some p=>if args.isEmpty then none else !.fo p mo ms
  | none=>none) else none
abbrev Gu(f:Expr)(args:@&Expr)(kf:@&Keyword)(pos:Pos):Option ME:=if kf.isEmpty then(match f with
 |.Name x _=>MV r c x args
 |.Attribute o m apos=>GZ r c o m apos pos args
 | _=>none) else none
abbrev Bk(tg e:Expr):Option ME:=(((AD e).bind λq =>
  if q.1="enumerate" then (match q.2 with
   |[a]=>if c.gl "enumerate"&&c.blt.contains "enumerate"&&iA a&&Kb tg then(r.e c a).map .mD else none
   | _=>none)
  else if q.1="reversed" then (match q.2 with
   |[a]=>if c.gl "reversed"&&c.blt.contains "reversed"&&iA a then(r.e c a).map .pA else none
   | _=>none)
  else if q.1="range" then (match q.2 with
   |[a]=>if c.gl "range"&&c.blt.contains "range"&&iA a then(r.e c a).map .eY else none
   |[a,b]=>if c.gl "range"&&c.blt.contains "range"&&iA a&&iA b then(r.e c a).bind λma=>(r.e c b).map λmb=>.lI ma mb else none
   | _=>none)
  else none):Option ME).orElse λx=>if iA e then (r.e c e).map .fE else none
abbrev uj(elt:Expr)(gens:@&Comprehension)(sc:Scope):Option ME:=match gens with
 |[#[tg,it,ifs,Io]]=>if c.EM sc&&decide (Io=0)&&iA it then((c.inner sc).tg tg).bind λt=>(Bk r c tg it).bind λmi=>(OG r (c.inner sc) ifs).bind λmc=>(r.e (c.inner sc) elt).map λme=>.comp (c.d8 sc) (frees sc++locals sc).length t mi mc me else none
 |_=>none
abbrev XS:Expr->Option Str
 |.Name x _=>!x
 |_=>none
abbrev XT:Expr->Option (Expr×@&Comprehension×Scope)
 |.SetComp elt gens sc _=>!(elt,gens,sc)
 |_=>none
abbrev Zh:ME->Option ME
 |.comp a n t i k e=>!.iQ a n t i k e
 |_=>none
abbrev BP(f:Expr)(args:@&Expr)(kf:@&Keyword):Option ME:=match args with
 |[a]=>if kf.isEmpty&&decide (XS f=some "sorted")&&c.gl "sorted"&&c.blt.contains "sorted" then(XT a).bind λq=>(uj r c q.1 q.2.1 q.2.2).bind Zh else none
 |_=>none
abbrev zf(f:Expr)(args:@&Expr)(kf:@&Keyword):Option ME:=(λ(_:j8)=>none) c
abbrev Hb(es:@&Expr)(k:Nat):Option ME:=if c.nY&&decide (k=0) then(match es with
 |[.Constant (.int i) _ _]=>!.prim (.lA i) .nil
 | _=>none) else none
abbrev Kz:Expr->Option ME
 |.Name x _=>Gv c x
 |.Constant k _ _=>(uf k).map .lit
 |.BinOp a op b _=>c2 r c (.bin op) a b
 |.UnaryOp op a _=>BO r c op a
 |.Compare a ops bs _=>yL r c a ops bs
 |.BoolOp op vs _=>FV r c op vs
 |.IfExp t a b _=>(r.t c t).bind λmt=>(r.e c a).bind λma=>(r.e c b).map λmb=>.ite mt ma mb
 |.Tuple es _ _=>(L0 r c es).map (.prim .tup)
 |.List es _=>(L0 r c es).map (.prim .lst)
 |.Subscript a b _=>JW r c a b
 |.Dict ks vs _=>if ks.isEmpty&&vs.isEmpty then some (.prim .W7 .nil) else none
 |.Attribute o f _=>if Ax o then c1 r c (.fld f) o else none
 |.Call f args kf pos=>(BP r c f args kf).orElse λy=>(zf c f args kf).orElse λy=>Gu r c f args kf pos
 |.ListComp elt gens sc _=>uj r c elt gens sc
 |.Set es k _=>Hb c es k
 |_=>none
abbrev stepT:Expr->Option ME
 |.UnaryOp op a _=>if op=.Not then(r.t c a).map .eK else none
 |.BoolOp op vs _=>FW r c op vs
 |.Compare a ops bs _=>(yL r c a ops bs).map .fR
 |e=>if Fw e then(r.e c e).map .fR else none
abbrev Kf:Expr->Option ME
 |.Constant k _ _=>(uf k).map .lit
 |_=>none
abbrev GA:@&Expr->Option ME
 |[]=>!.nil
 |e::es=>(Kf e).bind λm=>(GA es).map λms=>.cons m ms
abbrev Ke:Expr->Option ME
 |.List es _=>(GA es).map (.prim .lst)
 |.Constant k _ _=>(uf k).map .lit
 |_=>none
abbrev Zo:@&Stmt->Option Expr
 | [s]=>(match s with
  |.Return e _=>e
  | _=>none)
 |_=>none
abbrev OE:ExceptHandler->Option (Str×Expr)
 |.ExceptHandler t n b _=>if n.isNone then t.bind λt=>(asName t).bind λy=>(Zo b).map λe=>(y,e) else none
abbrev Bj:@&ExceptHandler->Option (List (Str×ME))
 |[]=>![]
 |h::hs=>(OE h).bind λq=>if c.exc.contains q.1&&c.gl q.1&&qL q.1 then(Ke q.2).bind λm=>(Bj hs).map λms=>(q.1,m)::ms else none
abbrev MW(e f:Option Expr):Option (Str×Expr×@&Expr):=if f.isNone then e.bind λe=>(AD e).bind λq=>q.2.head?.map λa=>(q.1,a,q.2.tail) else none
abbrev j8.KQ(f:Str):@&Str:=(c.pM.filter λy=>decide (y.1=f)).map (·.2)
abbrev Gx:@&Expr->Option (Expr×Expr×Expr×Expr)
 |_=>none
abbrev JQ(tg e:Expr):Option MS:=match tg with
 |.Name x _=>if c.B0 x then(c.idx x).bind λi=>(r.e c e).map λm=>.set i m else none
 |.Tuple es _ _=>(Gx es).elim (if vA e&&C0 e then(c.slots es).bind λis=>(r.e c e).map λm=>.nj (.many is) m else none) λq=>if C0 e&&iA q.2.1&&iA q.2.2.2 then(r.e c q.1).bind λm1=>(r.e c q.2.1).bind λn1=>(r.e c q.2.2.1).bind λm2=>(r.e c q.2.2.2).bind λn2=>(r.e c e).map λm=>.zk m1 n1 m2 n2 m else none
 |.Subscript o i _=>if iA i&&C0 e then(r.e c o).bind λmo=>(r.e c i).bind λmi=>(r.e c e).map λm=>.fc mo mi m else none
 |.Attribute o f _=>(r.e c o).bind λmo=>(r.e c e).map λm=>.jn f (c.KQ f) mo m
 |_=>none
abbrev Kc:Operator->Option Pr
 |.Add=>!.iadd
 |.Sub=>!.oy
 |_=>none
abbrev toR(e:Expr)(m:ME):ME:=(λ(_:j8)=>m) c
abbrev KA:Stmt->Option MS
 |.Expr e _=>if C0 e then(r.e c e).map .expr else none
 | .Assign BW e _=>(match BW with
  |[tg]=>JQ r c tg e
  | _=>none)
 | .AugAssign tg op e _=>(match tg with
  |.Name x _=>if c.B0 x then(Kc op).bind λp=>(c.idx x).bind λi=>(r.e c e).map λm=>.lP i p m else none
  | _=>none)
 |.If t a b _=>(r.t c t).bind λmt=>(A6 r c a).bind λma=>(A6 r c b).map λmb=>.ifs mt ma mb
 |.For tg it body qw _=>if c.nY&&(qw.isEmpty&&iA it) then(c.tg tg).bind λt=>(Bk r c tg it).bind λmi=>(A6 r c body).map λmb=>.dX t mi mb else none
 |.While t body qw _=>if c.nY&&qw.isEmpty then(r.t c t).bind λmt=>(A6 r c body).map λmb=>.lh mt mb else none
 | .Return e _=>(match e with
  |some e=>(r.e c e).map λm=>.ret (toR c e m)
  | none=>!.sN)
 |.Pass _=>!.pass
 |.Raise e f _=>(MW e f).bind λq=>if c.kH&&c.exc.contains q.1&&c.gl q.1&&qL q.1 then(L0 r c (q.2.1::q.2.2)).map (.raise q.1) else none
 |.Try body hs el fi _=>if c.ka&&~~~hs.isEmpty&&el.isEmpty&&fi.isEmpty then(A6 r { c with kH:=false,ka:=false,wr:=true } body).bind λmb=>(Bj c hs).map λms=>.qP mb ms else none
 |_=>none
end
abbrev comp:Nat->CF
 |0=>#[λx x=>none,λx x=>none,λx x=>none]
 |n+1=>#[Kz (comp n),stepT (comp n),λc s=>(KA (comp n) c s).orElse λx=>!.expr .no]
structure iT(X:Cx)(c:j8)(P:gi)(Ξ:je):Prop where
 N:X.N=c.N
 nd:c.N.Nodup
 loc:∀x,c.nm.lookup x=!.local->X.env.scope.names.lookup x=!.local
 Ak:∀x,c.nm.lookup x=!.cell->X.env.scope.names.lookup x=!.cell
 DQ:∀x,c.nm.lookup x=!.free->X.env.scope.names.lookup x=!.cell\/X.env.scope.names.lookup x=!.free
 Jx:∀x,c.nm.lookup x=!.globalImplicit->X.env.scope.names.lookup x=!.globalImplicit
 cells:∀x,(c.nm.lookup x=!.cell\/c.nm.lookup x=!.free)->∃a,X.env.cells.lookup x=!a
 nY:∀x,c.nm.lookup x=!.cell->X.fn x=true
 calm:X.calm=true
 units:X.A.units+100<cLine
 own:c.nY=true->PassesOwn (model X.prog X.w) X.A X.env X.xe
 mono:j9 P
 con:∀x d,c.con.lookup x=!d->∃v u,X.mg x=!u/\RelV v u/\∀ρ H,f7 X.K ρ H d v
 blt:∀x,c.blt.contains x=true->X.mg x=none
 fns:∀x f,c.fns.lookup x=!f->∃k fa fd ps,qT X P Ξ.1 k f fa fd ps/\A3 k X.A/\X.mg x=!.ref fa/\PySem.W.keepIn X.K (.ref fa)=true
 cls:∀x f,c.cls.lookup x=!f->∃k C fa fd ps,qT X P Ξ.1 k f fa fd ps/\A3 (k+1) X.A/\X.mg x=!.ref C/\w9 X.K x C/\kW X.K C/\Mk X.K C fa
 rn:∀m y f C,(m,y,f)∈c.rn->w9 X.K y C->∃k fa fd ps,Meth X.K C m fa/\qT X P Ξ.1 k f fa fd ps/\A3 k X.A
 pM:∀f y C,(f,y)∈c.pM->w9 X.K y C->E2 X.K C f
 Af:Ξ.1=c.exc
 pass:Passes (jT X.prog X.w) X Ξ.2
 kH:c.kH=true->AA X Ξ.2
 ka:c.ka=true->X.stack=X.env::X.outer/\X.env.frame=!X.env.locals/\yk X Ξ.2
 exc:∀x,c.exc.contains x=true->∃C,X.mg x=!.ref C/\w9 X.K x C/\∃B newId iC bm,OwnCls x C bm newId X.mg X.base/\ExcBaseFacts B newId iC bm
 DU:∀x y C C',c.exc.contains x=true->c.exc.contains y=true->w9 X.K x C->w9 X.K y C'->PySem.W.exmOne X.K (.ref C) (.ref C')=!decide (x=y\/y="MintError")
 DO:∀x kvs,c.gd.lookup x=!kvs->JY X x kvs
 code:c.nY=true->PySem.W.kdsCode X.K X.env.code=true
 sgn:c.wr=true->X.sg=none
def UQ(h:c.idx x=!i):c.N[i]?=!x:=by
 unfold j8.idx at h;rw[lR] at h;let#[h1,h2,_]:=h;rw[ag h1,bg h2]
set_option tactic.hygienic true in
def iT.bI7(C:iT X c P Ξ)(h:c.vX x=true):yM X.env.scope x:=by
 unfold j8.vX at h;split at h
 .rename_i e;exact .inl (C.loc x e)
 .rename_i e;exact .inr (.inl (C.Ak x e))
 .rename_i e;rcases C.DQ x e with z|z
  .exact .inr (.inl z)
  .exact .inr (.inr z)
 .cases h
def iT.C2(C:iT X c P Ξ)(h:c.gl x=true):Gl X x:=C.Jx x (bg h)
def iT.B0(C:iT X c P Ξ){x:Str}(h:c.B0 x=true):Loc X.env.scope x/\(X.fn x=true\/X.env.scope.names.lookup x=!.local):=by
 unfold j8.B0 at h;rw[fK] at h;rcases h with h|h
 .have:=C.loc x (bg h);exact#[.inl this,.inr this]
 .exact#[.inr (C.Ak x (bg h)),.inl (C.nY x (bg h))]
def iT.tZ(C:iT X c P Ξ)(h:c.idx x=!i):X.N[i]?=!x:=by rw[C.N];exact UQ h
def iT.uE(C:iT X c P Ξ)(hw:c.wr=true):X.Nd:=#[by rw[C.N];exact C.nd,C.sgn hw]
def Fz(h:asName e=!x):∃p,e=.Name x p:=by
 cases e<;>first|(cases h;exact#[_,rfl])|cases h
def Oh(h:c.slot e=!i):∃x p,e=.Name x p/\c.B0 x=true/\c.idx x=!i:=by
 let#[x,hx,h2]:=aj.mp h;let#[p,rfl]:=Fz hx;split at h2
 .exact#[x,p,rfl,by assumption,h2]
 .cases h2
def iT.slots(C:iT X c P Ξ):∀{es:@&Expr} {is:@&Nat},c.slots es=!is->gK X es is:=by
 intro es
 induction es with
 |nil=>intro is h;cases h;exact .nil
 |cons e r ih =>
  intro is h;let#[i,hi,h]:=aj.mp h;let#[is',hs,rfl]:=ae.mp h;let#[x,p,rfl,hl,hx]:=Oh hi;exact .cons (C.tZ hx) (C.B0 hl).1 (C.B0 hl).2 (ih hs)
def orElse_some{α:Type}{a:Option α}{b:Unit->Option α}{m:α}(h:a.orElse b=!m):a=!m\/b Unit.unit=!m:=by
 cases a with
 |none=>exact .inr h
 |some x=>exact .inl h
def iT.JU(C:iT X c P Ξ)(hw:c.wr=true){tg:Expr}{t:MT}(h:c.tg tg=!t):PG X tg (LG X.K t):=by
 rcases orElse_some h with h|h
 .let#[i,hi,rfl]:=ae.mp h;let#[x,p,rfl,hl,hx]:=Oh hi;exact TQ (C.uE hw) (C.tZ hx) (C.B0 hl).1 (C.B0 hl).2
 .cases tg<;>first|(cases h;done)|skip
  let#[is,hs,rfl]:=ae.mp (show(c.slots _).map MT.many=some t from h);exact NG C.calm (C.uE hw) (C.slots hs)
def u3(h:iA e=true):starEach (e::es) env=(false,eval e env)::starEach es env:=by
 cases e<;>first|rfl|cases h
def AS(h:iA e=true):∀x,foldedSetIterable e env x=pure x:=by
 intro x;cases e<;>first|rfl|cases h
def OO(h:iA e=true):Ez e:=by
 intro o i;cases e<;>first|rfl|cases h
def Vi{i:Expr}{tp:Pos}(h:iA i=true):∀v,assign (.Subscript o i tp) env v=(do
      let ov <- holding [v] (eval o env)
      let iv <- holding [v,ov] (eval i env)
      standAt tp
      holding [v,ov,iv] (setItem ov iv v)
      release [v,ov,iv] []):=by
  intro v;cases i<;>first|rfl|cases h
def Fv{t:Option Expr}(h:C0 e=true):swapsWith e t n env=pure false:=by
 cases e<;>first|rfl|cases h
def Xb{k:Nat}{p:Pos}(h:vA e=true):swappedStores [.Tuple es k p] e env=pure none:=by
 cases e<;>first|rfl|cases h
def a24(h:Fw e=true):∀whole,isTrue e env whole=(do let v <- whole;standAt e.pos;holding [v] (truthy v)):=by
 intro w;cases e<;>first|rfl|cases h
set_option tactic.hygienic true in
def FK{q:Str×@&Expr}(h:AD e=!q):∃p pos,e=.Call (.Name q.1 p) q.2 [] pos:=by
 cases e<;>first|(cases h;done)|skip
 rename_i f as kf pos;cases f<;>first|(cases h;done)|skip
 cases kf<;>first|(cases h;done)|skip
 cases h;exact#[_,_,rfl]
def a75(h:Kb e=true):∃es k p,e=.Tuple es k p:=by
 cases e<;>first|exact#[_,_,_,rfl]|cases h
set_option tactic.hygienic true in
def WM{kvs:@&D}(h:c.KU b=!kvs):∃x p,b=.Name x p/\c.gl x=true/\qL x=true/\c.gd.lookup x=!kvs:=by
 let#[x,hx,h2]:=aj.mp h;let#[p,rfl]:=Fz hx;split at h2
 .rename_i hc;rw[aZ] at hc;exact#[x,p,rfl,hc.1,hc.2,h2]
 .cases h2
set_option tactic.hygienic true in
def V5{f:Str}(h:Ax o=true):attributeBase o f env (eval o env)=eval o env:=by
 cases o<;>first|rfl|skip
 rename_i f as kf pos;cases f<;>first|rfl|skip
 cases as with
 |nil=>cases h
 |cons=>rfl
def ED{env:Env}:∀(names:@&(Str×NameKind)) (acc:@&(Str×Addr)),(∀y∈names,y.2=.free->∃a,env.cells.lookup y.1=!a)->(∀x a,acc.lookup x=!a->env.cells.lookup x=!a) ->
  ∃ cl,(forIn names acc λ(y:Str × NameKind) (cs:@&(Str × Addr))=>(match y with
   |(name,kind)=>if(kind==NameKind.free)=true then do
     let __do_lift <- cellOf env name
     pure (ForInStep.yield ((name,__do_lift)::cs))
    else pure (ForInStep.yield cs):Sem (ForInStep (List (Str × Addr)))))=pure cl/\(∀ x a,cl.lookup x=!a->env.cells.lookup x=!a)/\(∀ y ∈ names,y.2=.free->∃ a,cl.lookup y.1=!a)/\∀ x a,acc.lookup x=!a->∃ a',cl.lookup x=!a'
 |[],acc,_,h2=>#[acc,rfl,h2,λy hy=>absurd hy #[_],λx a h=>#[a,h]]
 |(n,k)::r,acc,h1,h2=>by
  rw[List.forIn_cons];by_cases hk:k=.free
  .subst hk;let#[a,ha]:=h1 (n,.free) #[_] rfl;let hc:cellOf env n=pure a:=by unfold cellOf;rw[ha]
   let ⟨cl,e,q1,q2,q3⟩:=ED r ((n,a) :: acc) (λy hy=>h1 y (by simp [hy])) (λx b hb=>by
    rw[eI] at hb;cases hx:x==n with
    |true=>simp_all
    | false=>rw [hx] at hb;exact h2 x b hb)
   refine#[cl,?_,q1,λy hy hf=>?_,λx b hb=>?_]
   .simp only[beq_self_eq_true,if_true,hc];exact e
   .rcases aL.mp hy with z|z
    .subst z;exact q3 n a #[_]
    .exact q2 y z hf
   .cases hx:x==n with
    |true=>exact q3 x a (by rw[eI,hx])
    |false=>exact q3 x b (by rw[eI,hx];exact hb)
  .let hb:(k==NameKind.free)=false:=by simpa using hk
   let#[cl,e,q1,q2,q3]:=ED r acc (λy hy=>h1 y (by simp[hy])) h2;refine#[cl,?_,q1,λy hy hf=>?_,q3]
   .simp only[hb,Bool.false_eq_true,if_false];exact e
   .rcases aL.mp hy with z|z
    .simp_all
    .exact q2 y z hf
def a31{P:Program}{w:World}:Passes (jT P w) X (λx x x=>False):=λx x x x x x x h=>by
 let#[_,_,_,_,_,_,_,z]:=h;exact z.elim
def U0{env:Env}:∀{names:@&(Str×NameKind)} {x:Str},names.lookup x=!.globalImplicit ->
  (names.map λ(n,k)=>if(k==NameKind.free&&env.scope.kind==.function&&env.kindOf n==!.cell) then(n,NameKind.cell) else(n,k)).lookup x=!.globalImplicit
 |[],_,h=>by simp at h
 |(n,k)::r,x,h=>by
  let ih:=@U0 env r x;change List.lookup x ((if(k==NameKind.free&&env.scope.kind==.function&&env.kindOf n==!.cell)=true then(n,NameKind.cell) else(n,k))::_)=_;cases hx:x==n with
  |true =>
   simp only[List.lookup_cons,hx] at h;cases h;simp[List.lookup_cons,hx]
  |false =>
   simp only[List.lookup_cons,hx] at h;by_cases hc:(k==NameKind.free&&env.scope.kind==.function&&env.kindOf n==!.cell)=true
   .rw[aI hc];simp only[List.lookup_cons,hx];exact ih h
   .rw[aE hc];simp only[List.lookup_cons,hx];exact ih h
def iT.comp(C:iT X c P Ξ){sc:Scope}(h:c.EM sc=true):∃cl,dN X sc (frees sc++locals sc) (c.d8 sc) cl/\∀pi A s H fp,iT (i6 X pi sc (frees sc++locals sc) cl A s H fp) (c.inner sc) P (pP Ξ.1):=by
 unfold j8.EM at h;simp only[Bool.and_eq_true,decide_eq_true_eq,List.all_eq_true] at h;let#[#[#[#[h1,h2],h3],h4],h5]:=h;let fr:∀x∈frees sc,(∃i,c.idx x=!i)/\sc.names.lookup x=!.free/\(c.nm.lookup x=!.cell\/c.nm.lookup x=!.free):=λx hx=>by
  have:=h5 x hx;rw[fB,fK] at this;simp only[decide_eq_true_eq] at this;exact#[this.1.1,this.1.2,this.2]
 let tW:∀y∈sc.names,y.2=.free->∃a,X.env.cells.lookup y.1=!a:=λy hy hf=>by
  let hm:y.1∈frees sc:=aP.mpr #[y,bD.mpr #[hy,by simp[hf]],rfl];exact C.cells y.1 (fr y.1 hm).2.2
 let#[cl,e,q1,q2,_]:=ED sc.names [] tW (λx a h=>by simp at h);let h2:∀y∈sc.names,y.2=.cell->sc.names.lookup y.1=!.cell:=λy hy hl=>by
  have:=h2 y hy
  simp_all
 refine#[cl,#[h1,h2,λy hy hl=>?_,?_,q1,λx hx=>q2 (x,.free) (aX hx) rfl,h4,λi j iV=>?_,?_],λpi A s H fp=>?_]
 .grind
 .simp only[closureFor];rw[e]
  rfl
 .unfold j8.d8 at iV;rw[ai] at iV;cases ex:(frees sc)[i]? with
  |none=>simp_all
  |some x =>
   rw[ex] at iV;let hx:x∈frees sc:=aH ex;let#[#[k,hk],hl,hc]:=fr x hx;let hj:k=j:=by
    have:=aS iV;dsimp only at this;rw[hk] at this;exact this
   subst hj;refine#[x,?_,C.tZ hk,hl,?_]
   .rw[aN (aw.mp ex).1];exact ex
   .rcases hc with z|z
    .exact .inl (C.Ak x z)
    .exact C.DQ x z
 .unfold j8.d8;simp
 .refine#[rfl,h4,λx hx=>lookup_relabel_local hx,λx hx=>?_,λx hx=>J0 hx,λx hx=>U0 hx,λx hx=>?_,λx w=>?_,rfl,C.units,(λw=>PassesOwn.never),C.mono,C.con,C.blt,C.fns,C.cls,C.rn,C.pM,C.Af,a31,(λz=>by cases z),(λz=>by cases z),C.exc,C.DU,C.DO,(λz=>by cases z),λw=>rfl]
  .exact P0 hx
  .rcases hx with hx|hx
   .exact Ld (.inl hx)
   .exact Ld (.inr (q2 (x,.free) (aX hx) rfl))
  .exact az ‹_›
def P9(h:qL x=true):(x==("__debug__":Str))=false/\(x==("__classdict__":Str))=false/\x≠"__name__":=by
 unfold qL at h;simp only[Bool.and_eq_true,decide_eq_true_eq,beq_iff_eq] at h;exact#[h.1.1,h.1.2,h.2]
def a86{t:String}(h:Gn.lookup x=!t):bootBuiltins x=!.type t:=by
 let hm:=aX h;simp only[Gn,List.mem_cons,List.mem_nil_iff,or_false] at hm;rcases hm with z|z|z|z|z<;>(cases z;first|exact yZ|exact PyProof.Rows.boot_bool|exact PyProof.Rows.boot_str|exact uu|exact vP|decide +kernel|rfl)
def a73(hc:X.calm=true)(hu:X.A.units+100<cLine)(h:Gy.lookup x=!p):∃v,((∃id,v=.builtin id)\/∃T,v=.type T)/\bootBuiltins x=!v/\o8 X v (rN X.K p):=by
 let hm:=aX h;simp only[Gy,List.mem_cons,List.mem_nil_iff,or_false] at hm;rcases hm with z|z|z|z|z|z|z|z|z|z|z|z
 .cases z;exact#[.builtin "len",.inl #[_,rfl],PySem.boot_len,bF0]
 .cases z;exact#[.type "list",.inr #[_,rfl],by first|exact vP|decide +kernel,U' hc]
 .cases z;exact#[.type "tuple",.inr #[_,rfl],by first|exact uu|decide +kernel,a88]
 .cases z;exact#[.builtin "isinstance",.inl #[_,rfl],by first|exact PyProof.Rows.boot_isinstance|decide +kernel,UT]
 .cases z;exact#[.builtin "all",.inl #[_,rfl],by first|exact PyProof.Rows.boot_all|decide +kernel,bH9 hc]
 .cases z;exact#[.builtin "max",.inl #[_,rfl],by first|exact PyProof.Rows.boot_max|decide +kernel,bE0 hc]
 .cases z;exact#[.builtin "min",.inl #[_,rfl],by first|exact PyProof.Rows.boot_min|decide +kernel,bD8 hc hu]
 .cases z;exact#[.type "int",.inr #[_,rfl],by first|exact yZ|decide +kernel,bG0]
 .cases z;exact#[.type "dict",.inr #[_,rfl],by first|exact PyProof.Rows.boot_dict|decide +kernel,WE hc]
 .cases z;exact#[.builtin "sorted",.inl #[_,rfl],by first|exact PyProof.Rows.boot_sorted|decide +kernel,a95 hc]
 .cases z;exact#[.builtin "sum",.inl #[_,rfl],by first|exact PyProof.Rows.boot_sum|decide +kernel,Ug hc]
 .cases z;exact#[.type "set",.inr #[_,rfl],by first|exact PyProof.Rows.boot_set|decide +kernel,UY hc]
def aV4(h:yz.lookup x=!p):∃T id,PlainAttrs T/\Slot T x id/\typeOf (.builtin id)=pure (.type "method_descriptor")/\nE X id (rM X.K p) /\
  ∀{d:D} {v:V} {g:G} {ρ:@&Addr} {H:Hp},Rl X.K ρ g H->f7 X.K ρ H d v->nr p d g->pq X.K T v H:=by
 let hm:=aX h;simp only[yz,List.mem_cons,List.mem_nil_iff,or_false] at hm;rcases hm with z|z
 .cases z;exact#[_,_,fP,PySem.F.slot_list_clear,PySem.F.type_list_clear,Wz,λR r h=>ty_list R r h]
 .cases z;exact#[_,_,fP,yY,yX,Vx,λR r h=>ty_list R r h]
def a43(hu:X.A.units+100<cLine)(h:GL.lookup x=!p):∃T id,PlainAttrs T/\Slot T x id/\typeOf (.builtin id)=pure (.type "method_descriptor")/\nE X id (rM X.K p) /\
  ∀{d:D} {v:V} {g:G} {ρ:@&Addr} {H:Hp},Rl X.K ρ g H->f7 X.K ρ H d v->nr p d g->pq X.K T v H:=by
 let hm:=aX h;simp only[GL,List.mem_cons,List.mem_nil_iff,or_false] at hm;rcases hm with z|z|z|z
 .cases z;exact#[_,_,fP,PySem.F.slot_list_append,PySem.F.type_list_append,a77,λR r h=>ty_list R r h]
 .cases z;exact#[_,_,fP,yY,yX,Xm,λR r h=>ty_list R r h]
 .cases z;exact#[_,_,PySem.F.plainAttrs_dict,jF,PySem.F.type_dict_get,bG6 hu,λR r h=>ty_dict R r h]
 .cases z;exact#[_,_,PySem.F.plainAttrs_set,PySem.F.slot_set_add,PySem.F.type_set_add,VM,λR r h=>ty_set R r h]
def Oo{pos:Pos}{env:Env}:∀{es:@&Expr},(∀e∈es,iA e=true)->(backTo pos (starEach es env)).all (λx=>~~~x.1)=true
 |[],_=>rfl
 |e::es,h=>by
  rw[u3 (h e #[_])];let ih:=Oo (pos:=pos) (env:=env) (es:=es) λx hx=>h x (by simp[hx]);unfold backTo at ih ⊢;rw[cZ,List.all_cons,ih]
  rfl
def AV{pos:Pos}{env:Env}:∀{es:@&Expr},(∀e∈es,iA e=true)->(backTo pos (starEach es env)).any (·.1)=false
 |[],_=>rfl
 |e::es,h=>by
  rw[u3 (h e #[_])];let ih:=AV (pos:=pos) (env:=env) (es:=es) λx hx=>h x (by simp[hx]);unfold backTo at ih ⊢;rw[cZ,kQ,ih]
  rfl
def EU:∀{es:@&Expr} {m:ME},L0 r c es=!m->∀e∈es,iA e=true:=by
 intro es
 induction es with
 |nil=>intro m _ e he;simp_all
 |cons a es ih =>
  intro m h e he;unfold L0 at h;split at h
  .let#[m1,h1,h]:=aj.mp h;let#[m2,h2,_]:=ae.mp h;rcases aL.mp he with z|z
   .rw[z];assumption
   .exact ih h2 e z
  .cases h
structure si(P:gi)(r:CF):Prop where
 e:∀X c Ξ,iT X c P Ξ->∀e m,r.e c e=!m->PE X e (LE X.K Ξ (bt P m))
 t:∀X c Ξ,iT X c P Ξ->∀e m,r.t c e=!m->PT X e (LT X.K Ξ (eX P m))
 s:∀X c Ξ,iT X c P Ξ->c.wr=true->∀st m,r.s c st=!m->PS X st (LS X.K Ξ (wpS P m))
section
variable(S:si P r)(C:iT X c P Ξ){a:Expr}
include S C
def yn(h:c1 r c p a=!m):∃ma,PE X a (LE X.K Ξ (bt P ma))/\m=.prim p (.cons ma .nil):=by
 let#[ma,ha,rfl]:=ae.mp h;exact#[ma,S.e X c Ξ C _ _ ha,rfl]
def vC(h:c2 r c p a b=!m):∃ma mb,PE X a (LE X.K Ξ (bt P ma))/\PE X b (LE X.K Ξ (bt P mb))/\m=.prim p (.cons ma (.cons mb .nil)):=by
 let#[ma,ha,h]:=aj.mp h;let#[mb,hb,rfl]:=ae.mp h;exact#[ma,mb,S.e X c Ξ C _ _ ha,S.e X c Ξ C _ _ hb,rfl]
set_option tactic.hygienic true in
def wF:∀{es:@&Expr} {m:ME},L0 r c es=!m->PA X es (LA X.K Ξ (iz P m)):=by
 intro es
 induction es with
 |nil=>intro m h;cases h;exact L4 C.mono
 |cons a es ih =>
  intro m h;unfold L0 at h;split at h
  .rename_i cb;let#[m1,h1,h]:=aj.mp h;let#[m2,h2,rfl]:=ae.mp h;exact C7 C.mono (S.e X c Ξ C _ _ h1) (ih h2) (u3 cb)
  .cases h
def Qw{op:BoolOp}:∀{vs:@&Expr} {m:ME},FV r c op vs=!m->PE X (.BoolOp op vs pos) (LE X.K Ξ (bt P m)):=by
 intro vs
 induction vs with
 |nil=>intro m h;cases h
 |cons a vs ih =>
  intro m h;cases vs with
  |nil=>exact bB5 (S.e X c Ξ C _ _ h)
  |cons b vs =>
   let#[m1,h1,h]:=aj.mp h;let#[m2,h2,rfl]:=ae.mp h;cases op
   .exact Tz C.mono (S.e X c Ξ C _ _ h1) (ih h2)
   .exact bK7 C.mono (S.e X c Ξ C _ _ h1) (ih h2)
def Qs{op:BoolOp}:∀{vs:@&Expr} {m:ME},FW r c op vs=!m->PW X (.BoolOp op vs pos) (LT X.K Ξ (eX P m)):=by
 intro vs
 induction vs with
 |nil=>intro m h;cases h
 |cons a vs ih =>
  intro m h;cases vs with
  |nil =>
   cases op
   .exact VH (S.t X c Ξ C _ _ h)
   .exact Tt (S.t X c Ξ C _ _ h)
  |cons b vs =>
   let#[m1,h1,h]:=aj.mp h;let#[m2,h2,rfl]:=ae.mp h;cases op
   .exact Uh C.mono (S.t X c Ξ C _ _ h1) (ih h2)
   .exact bK3 C.mono (S.t X c Ξ C _ _ h1) (ih h2)
def Yv(h:OG r c es=!m):mJ X es (LT X.K Ξ (eX P m)):=by
 rcases es with _|⟨e,_|⟨_,_⟩⟩
 .cases h;exact Wc C.mono
 .exact VF (S.t X c Ξ C _ _ h)
 .cases h
def vm(hw:c.wr=true):∀{HG:@&Stmt} {m:MS},A6 r c HG=!m->jV X HG (LS X.K Ξ (wpS P m)):=by
 intro es
 induction es with
 |nil=>intro m h;cases h;exact OX C.mono
 |cons a es ih =>
  intro m h;let#[m1,h1,h]:=aj.mp h;let#[m2,h2,rfl]:=ae.mp h;exact NH C.mono (S.s X c Ξ C hw _ _ h1) (ih h2)
end
def Mu{t:Expr}(h:C0 e=true):swapsWithSole [t] e n env=pure false:=by
 exact Fv h
def iT.qP(C:iT X c P Ξ)(hw:c.wr=true)(fh:X.stack=X.env::X.outer)(hf:X.env.frame=!X.env.locals)(pi:@&(Addr×Obj))(D:L2.Ends)(hs:@&ExceptHandler){o:Option L2.St}{dE:L2.St}{w:Bool}(Cw:∀U:L2.St,(-U)=-X.N->(∀τ,o=!τ->U=τ)->-dE=-U/\∀(i:Nat) v,dE[i]?=!!v->U[i]?=!!v)(ho:w=true->o=none) :
  iT (X6 X pi (Bv X pi D hs) o) { c with kH:=false,ka:=false,wr:=w } P (Bf X Ξ.1 D dE hs) :=
 #[C.N,C.nd,C.loc,C.Ak,C.DQ,C.Jx,C.cells,C.nY,C.calm,C.units,(λx=>PassesOwn.looking),C.mono,C.con,C.blt,C.fns,C.cls,C.rn,C.pM,C.Af,Xd (C.sgn hw) fh hf Cw (by rintro C H' ⟨C',e,z⟩;exact (by simp_all)),(λz=>by cases z),(λz=>by cases z),C.exc,C.DU,C.DO,C.code,ho]
section
variable(S:si P r)(C:iT X c P Ξ){a d:Expr}
include C
set_option tactic.hygienic true in
def bD4(h:Gv c x=!m):PE X (.Name x pos) (LE X.K Ξ (bt P m)):=by
 unfold Gv at h;split at h
 .rename_i iL;let#[d1,d2,d3]:=P9 iL;split at h
  .rename_i hv;let#[i,hi,rfl]:=ae.mp h;exact TL (C.tZ hi) (C.bI7 hv) d1 d2
  .split at h
   .rename_i hg;rcases orElse_some h with h|h
    .let#[d,hd,rfl]:=ae.mp h;let#[v,u,hm,r,rr]:=C.con x d hd;exact vK (Nt (C.C2 hg) hm r d1) rr
    .split at h
     .rename_i hb;let#[t,ht,rfl]:=ae.mp h;exact vK (v:=.ty t) (Vq (C.C2 hg) (C.blt x hb) (a86 ht) rfl d3 d1) λy y=>.ty t
     .cases h
   .cases h
 .cases h
omit C in
def Ck{k:Const}{j:Nat}{d:D}(h:uf k=!d):PE X (.Constant k j pos) (LE X.K Ξ (bt P (.lit d))):=by
 cases k<;>first|(cases h;done)|skip
 .cases h;exact vK bB7 λx x=>.bK
 .cases h;exact vK bL9 λx x=>.bl _
 .cases h;exact vK bB9 λx x=>.int _
 .cases h;exact vK bB4 λx x=>.str _
include S
set_option tactic.hygienic true in
def Yw{op:UnaryOp}(h:BO r c op a=!m):PE X (.UnaryOp op a pos) (LE X.K Ξ (bt P m)):=by
 unfold BO at h;split at h
 .rename_i ho;subst ho;let#[ma,ha,rfl]:=ae.mp h;exact TJ C.mono (S.e X c Ξ C _ _ ha)
 .let#[ma,ha,rfl]:=yn S C h;exact bK6 C.mono ha
set_option tactic.hygienic true in
def Kq{ops:@&CmpOp}{bs:@&Expr}(h:yL r c a ops bs=!m):PE X (.Compare a ops bs pos) (LE X.K Ξ (bt P m))/\PT X (.Compare a ops bs pos) (LT X.K Ξ (eX P (.fR m))):=by
 unfold yL at h;split at h
 .rename_i op b;split at h
  .cases h
  .rename_i hm;let hm:behindInMarks op b=false:=by simpa using hm
   let#[ma,mb,ha,hb,rfl]:=vC S C h;exact#[GQ C.mono (Vs (vH C.units op) ha hb hm),Ud C.mono (VD (vH C.units op) ha hb hm)]
 .split at h
  .cases h
  .rename_i hm;let#[ma,ha,h]:=aj.mp h;let#[mb,hb,h]:=aj.mp h;let#[md,hd,rfl]:=ae.mp h;exact#[XG C.mono C.units (S.e X c Ξ C _ _ ha) (S.e X c Ξ C _ _ hb) (S.e X c Ξ C _ _ hd) (by simpa using hm),a94 C.mono C.units (S.e X c Ξ C _ _ ha) (S.e X c Ξ C _ _ hb) (S.e X c Ξ C _ _ hd) (by simpa using hm)]
 .cases h
def Yt{lo hi st:Option Expr}{p2:Pos}(h:Hz r c a lo hi st=!m):PE X (.Subscript a (.Slice lo hi st p2) pos) (LE X.K Ξ (bt P m)):=by
 cases lo<;>cases hi<;>cases st<;>first|(cases h;done)|skip
 .let#[ma,mb,ha,hb,rfl]:=vC S C h;exact a98 C.mono ha hb
 .let#[ma,mb,ha,hb,rfl]:=vC S C h;exact a97 C.mono ha hb
set_option tactic.hygienic true in
def bM9(h:JW r c a b=!m):PE X (.Subscript a b pos) (LE X.K Ξ (bt P m)):=by
 rcases orElse_some h with h|h
 .let#[q,hq,h]:=aj.mp h;let eb:∃p,b=.Slice q.1 q.2.1 q.2.2 p:=by cases b<;>first|(cases hq;exact#[_,rfl])|cases hq
  let#[p,rfl]:=eb;exact Yt S C h
 .split at h
  .rename_i hb;rcases orElse_some h with h|h
   .let#[kvs,hk,h]:=aj.mp h;let#[mb,lX,rfl]:=ae.mp h;let#[x,p,rfl,hg,hd,hk]:=WM hk;exact VP C.mono (C.C2 hg) (P9 hd).1 (C.DO x kvs hk) (S.e X c Ξ C _ _ lX) (OO hb)
   .let#[ma,mb,ha,lX,rfl]:=vC S C h;exact GQ C.mono (Ks (ZT C.units) ha lX (OO hb))
  .cases h
set_option tactic.hygienic true in
def Yu{px:Pos}(hg:c.gl x=true)(h:Hy r c x e=!m):PE X (.Call (.Name x px) [e] [] pos) (LE X.K Ξ (bt P m)):=by
 let#[q,hq,h']:=aj.mp h;clear h;let h:=h';clear h';let#[p,pos',rfl]:=FK hq;let#[y,as]:=q;dsimp only at h ⊢;split at h
 .rename_i hc;simp only[Bool.and_eq_true,decide_eq_true_eq] at hc;let#[#[#[#[rfl,rfl],hl],hr],nW]:=hc;rcases as with _|⟨a,_|⟨b,_|⟨_,_⟩⟩⟩
  .cases h
  .dsimp only at h;split at h
   .rename_i ho;let#[ma,ha,rfl]:=yn S C h;exact XH C.mono C.calm ha (C.C2 hg) (C.blt _ hl) (C.C2 nW) (C.blt _ hr) (u3 ho)
   .cases h
  .dsimp only at h;split at h
   .rename_i ho;rw[aZ] at ho;let#[ma,mb,ha,hb,rfl]:=vC S C h;exact XI C.mono C.calm ha hb (C.C2 hg) (C.blt _ hl) (C.C2 nW) (C.blt _ hr) (by rw[u3 ho.1,u3 ho.2];rfl) (u3 ho.2)
   .cases h
  .cases h
 .split at h
  .rename_i hc;simp only[Bool.and_eq_true,decide_eq_true_eq] at hc;let#[#[#[#[rfl,rfl],hl],hr],nW]:=hc;rcases as with _|⟨a,_|⟨_,_⟩⟩
   .cases h
   .dsimp only at h;split at h
    .rename_i ho;let#[ma,ha,rfl]:=yn S C h;exact VU C.mono C.calm ha (C.C2 hg) (C.blt _ hl) (C.C2 nW) (C.blt _ hr) (u3 ho)
    .cases h
   .cases h
  .split at h
   .rename_i hc;simp only[Bool.and_eq_true,decide_eq_true_eq] at hc;let#[#[#[#[rfl,rfl],hl],hr],nW]:=hc;rcases as with _|⟨a,_|⟨_,_⟩⟩
    .cases h
    .dsimp only at h;split at h
     .rename_i ho;let#[ma,ha,rfl]:=yn S C h;exact VQ C.mono C.calm ha (C.C2 hg) (C.blt _ hl) (C.C2 nW) (C.blt _ hr) (u3 ho)
     .cases h
    .cases h
   .cases h
set_option tactic.hygienic true in
def Vg{px:Pos}(h:MV r c x args=!m):PE X (.Call (.Name x px) args [] pos) (LE X.K Ξ (bt P m)):=by
 cases args with
 |nil =>
  let h2:GX c x=!m:=h;unfold GX at h2;split at h2
  .rename_i iL;rw[aZ] at iL;rcases orElse_some h2 with h2|h2
   .let#[f,hf,rfl]:=ae.mp h2;let#[k,fa,fd,ps,F,hr,hm,hk]:=C.fns x f hf;exact XF C.mono C.pass F hr (C.C2 iL.2) hm hk (P9 iL.1).1
   let#[f,hf,rfl]:=ae.mp h2;let#[k,C',fa,fd,ps,F,hr,hm,hC,kT,M]:=C.cls x f hf;exact XJ C.mono C.pass F M hC kT hr (C.C2 iL.2) hm (P9 iL.1).1
  .cases h2
 |cons e es =>
  let h0:GY r c x e es=!m:=h;clear h;let h:=h0;clear h0;unfold GY at h;split at h
  .rename_i iL;rw[aZ] at iL;let#[d1,d2,d3]:=P9 iL.1;rcases orElse_some h with h|h
   .cases es with
    |nil=>exact Yu S C iL.2 h
    |cons _ _=>cases h
   .let#[ms,uK,h]:=aj.mp h;let ok:=EU uK;let pa:=wF S C uK;let fh:=u3 (env:=X.env) (es:=es) (ok e #[_]);let ir:=AV (pos:=pos) (env:=X.env) (es:=es) λz hz=>ok z (by simp[hz]);rcases orElse_some h with h|h
    .let#[f,hf,rfl]:=ae.mp h;let#[k,fa,fd,ps,F,hr,hm,hk]:=C.fns x f hf;exact VN C.mono C.pass F hr (C.C2 iL.2) hm hk pa d1 fh ir
    .rcases orElse_some h with h|h
     .let#[f,hf,rfl]:=ae.mp h;let#[k,C',fa,fd,ps,F,hr,hm,hC,kT,M]:=C.cls x f hf;exact VR C.mono C.pass F M hC kT hr (C.C2 iL.2) hm pa d1 fh ir
     .split at h
      .rename_i hb;let#[p,hp,rfl]:=ae.mp h;let#[v,hv,Dg,hc]:=a73 (X:=X) C.calm C.units hp;exact TB C.mono hv hc (C.C2 iL.2) (C.blt x hb) Dg pa d3 d1 fh ir
      .cases h
  .cases h
set_option tactic.hygienic true in
def Vf{mt:Str}{apos:Pos}(h:GZ r c o mt apos pos args=!m):PE X (.Call (.Attribute o mt apos) args [] pos) (LE X.K Ξ (bt P m)):=by
 unfold GZ at h;split at h
 .rename_i hc;simp only[Bool.and_eq_true,decide_eq_true_eq] at hc;let#[#[hb,hl],hn]:=hc;let#[mo,ho,h]:=aj.mp h;let#[ms,uK,h]:=aj.mp h;let ok:=EU uK;let pa:=wF S C uK;let po:=S.e X c Ξ C _ _ ho;let hf:methodCallForm (-args) (backTo pos (starEach args X.env)) (backToKw pos (keywordEach [] X.env))=true:=by
   unfold methodCallForm;rw[Oo ok];have:-args+0<30:=by omega
   show(true&&true&&decide (-args+0<30))=true;rw[az this]
   rfl
  by_cases tE:mt="index"
  .subst tE;rw[aI rfl] at h;cases h
  rw[aE tE] at h;cases args with
  |nil =>
   cases uK;by_cases h0:(yz.lookup mt).isSome=true
   .rw[aI (by rw[h0];rfl)] at h;let#[p,hp,rfl]:=ae.mp h;let#[T,id,Cd,sl,ty,Cm,hk]:=aV4 (X:=X) hp;exact XM C.mono Cd sl ty Cm hk po (V5 hb) hl
   rw[aE (by rw[aZ];exact λz=>h0 z.2)] at h;split at h
   .cases h
   .cases h
  |cons e es =>
   let fh:=u3 (env:=X.env) (es:=es) (ok e #[_]);let ir:=AV (pos:=pos) (env:=X.env) (es:=es) λz hz=>ok z (by simp[hz]);rw[aE #[_]] at h;split at h
   .rename_i p hp;cases h;let#[T,id,Cd,sl,ty,Cm,hk]:=a43 (X:=X) C.units hp;exact VS C.mono Cd sl ty Cm hk po pa (V5 hb) hf hl fh ir
   .cases h
 .cases h
set_option tactic.hygienic true in
def Ie{tg:Expr}(h:Bk r c tg e=!m):PI X tg e (LI X.K Ξ (iO P m)):=by
 rcases orElse_some h with h|h
 .let#[q,hq,h']:=aj.mp h;rename_i h0;clear h h0;let h:=h';clear h';let#[p,pos',rfl]:=FK hq;let#[y,as]:=q;dsimp only at h ⊢;split at h
  .rename_i hy;subst hy;rcases as with _|⟨a,_|⟨_,_⟩⟩
   .cases h
   .dsimp only at h;split at h
    .rename_i hc;simp only[Bool.and_eq_true] at hc;let#[#[#[hg,hb],ho],ht]:=hc;let#[ma,ha,rfl]:=ae.mp h;let#[es,k,tp,rfl]:=a75 ht;exact VY C.mono (S.e X c Ξ C _ _ ha) (C.C2 hg) (C.blt _ hb) (u3 ho)
    .cases h
   .cases h
  .split at h
   .rename_i hy;subst hy;rcases as with _|⟨a,_|⟨_,_⟩⟩
    .cases h
    .dsimp only at h;split at h
     .rename_i hc;simp only[Bool.and_eq_true] at hc;let#[#[hg,hb],ho]:=hc;let#[ma,ha,rfl]:=ae.mp h;exact TR C.mono (S.e X c Ξ C _ _ ha) (C.C2 hg) (C.blt _ hb) (u3 ho)
     .cases h
    .cases h
   split at h
   .rename_i hy;subst hy;rcases as with _|⟨a,_|⟨b,_|⟨_,_⟩⟩⟩
    .cases h
    .dsimp only at h;split at h
     .rename_i hc;simp only[Bool.and_eq_true] at hc;let#[#[hg,hb],ho]:=hc;let#[ma,ha,rfl]:=ae.mp h;exact VZ C.mono (S.e X c Ξ C _ _ ha) (C.C2 hg) (C.blt _ hb) (u3 ho)
     .cases h
    .dsimp only at h;split at h
     .rename_i hc;simp only[Bool.and_eq_true] at hc;let#[#[#[hg,hb],ho],ki]:=hc;let#[ma,ha,h]:=aj.mp h;let#[mb,lX,rfl]:=ae.mp h;exact V' C.mono (S.e X c Ξ C _ _ ha) (S.e X c Ξ C _ _ lX) (C.C2 hg) (C.blt _ hb) (by rw[u3 ho,u3 ki];rfl) (u3 ki)
     .cases h
    .cases h
   .cases h
 .split at h
  .let#[ma,ha,rfl]:=ae.mp h;exact TU C.mono (S.e X c Ξ C _ _ ha)
  .cases h
set_option tactic.hygienic true in
def EL{elt:Expr}{gens:@&Comprehension}{sc:Scope}(h:uj r c elt gens sc=!m):∃tg it ifs t mi mc me cl,gens=[#[tg,it,ifs,0]]/\m=.comp (c.d8 sc) (frees sc++locals sc).length t mi mc me/\iA it=true /\
  dN X sc (frees sc++locals sc) (c.d8 sc) cl/\PI X tg it (LI X.K Ξ (iO P mi))/\(∀pi A s H fp,PG (i6 X pi sc (frees sc++locals sc) cl A s H fp) tg (LG X.K t)) /\
   (∀pi A s H fp,mJ (i6 X pi sc (frees sc++locals sc) cl A s H fp) ifs (LT X.K (pP Ξ.1) (eX P mc)))/\(∀pi A s H fp,PE (i6 X pi sc (frees sc++locals sc) cl A s H fp) elt (LE X.K (pP Ξ.1) (bt P me))):=by
 unfold uj at h;rcases gens with _|⟨⟨tg,it,ifs,Io⟩,_|⟨_,_⟩⟩
 .cases h
 .dsimp only at h;split at h
  .rename_i hs;simp only[Bool.and_eq_true,decide_eq_true_eq] at hs;let#[#[hs,rfl],hit]:=hs;let#[t,h1,h]:=aj.mp h;let#[mi,h2,h]:=aj.mp h;let#[mc,h3,h]:=aj.mp h;let#[me,h4,rfl]:=ae.mp h;let#[cl,Sc,I]:=C.comp hs;exact#[tg,it,ifs,t,mi,mc,me,cl,rfl,rfl,hit,Sc,Ie S C h2,λpi A s H fp=>(I pi A s H fp).JU rfl h1,λpi A s H fp=>Yv S (I pi A s H fp) h3,λpi A s H fp=>S.e _ _ _ (I pi A s H fp) elt me h4]
  .cases h
 .cases h
omit S in
def Ys{f:Expr}{kf:@&Keyword}(h:zf c f args kf=!m):PE X (.Call f args kf pos) (LE X.K Ξ (bt P m)):=by
 unfold zf at h;cases h
set_option tactic.hygienic true in
def Qv:∀e m,Kz r c e=!m->PE X e (LE X.K Ξ (bt P m)):=by
 intro e m h;cases e with
 |Name x p=>exact bD4 C h
 |Constant k j p =>
  let#[d,hd,rfl]:=ae.mp (show(uf k).map ME.lit=some m from h);exact Ck hd
 |BinOp a op b p =>
  let#[ma,mb,ha,hb,rfl]:=vC S C h;exact GQ C.mono (bL7 (bD1 op) ha hb)
 |UnaryOp op a p=>exact Yw S C h
 |Compare a ops bs p=>exact(Kq S C h).1
 |BoolOp op vs p=>exact Qw S C h
 |IfExp t a b p =>
  let#[mt,ht,h]:=aj.mp h;let#[ma,ha,h]:=aj.mp h;let#[mb,hb,rfl]:=ae.mp h;exact TH C.mono (S.t X c Ξ C _ _ ht) (S.e X c Ξ C _ _ ha) (S.e X c Ξ C _ _ hb)
 |Tuple es k p =>
  let#[ma,ha,rfl]:=ae.mp h;exact TK C.mono (wF S C ha)
 |List es p =>
  let#[ma,ha,rfl]:=ae.mp h;exact OW C.mono (wF S C ha)
 |Subscript a b p=>exact bM9 S C h
 |Dict ks vs p =>
  let h2:(if ks.isEmpty&&vs.isEmpty then some (ME.prim .W7 .nil) else none)=!m:=h;split at h2
  .rename_i hc;cases ks<;>cases vs<;>first|(cases hc;done)|skip
   cases h2;exact VO
  .cases h2
 |Attribute o f p =>
  let h2:(if Ax o then c1 r c (.fld f) o else none)=!m:=h;split at h2
  .rename_i hb;let#[ma,ha,rfl]:=yn S C h2;exact TC C.mono ha (V5 hb)
  .cases h2
 |Call f args kf pos =>
  let h1:((BP r c f args kf).orElse λy=>(zf c f args kf).orElse λy=>Gu r c f args kf pos)=!m:=h;rcases orElse_some h1 with h2|h2
  .unfold BP at h2;rcases args with _|⟨a,_|⟨_,_⟩⟩
   .cases h2
   .dsimp only at h2;split at h2
    .rename_i hk;simp only[Bool.and_eq_true,decide_eq_true_eq] at hk;let#[#[#[hk,hf],oJ],hb]:=hk;cases kf<;>first|(cases hk;done)|skip
     let#[q,hq,h3]:=aj.mp h2;let#[m1,h4,h5]:=aj.mp h3;cases f<;>first|(cases hf;done)|skip
     cases a<;>first|(cases hq;done)|skip
     cases hf;cases hq;let#[tg,it,ifs,t,mi,mc,me,cl,eg,rfl,hit,Sc,q1,q2,q3,q4]:=EL S C h4;dsimp only at eg;subst eg;cases h5;exact a99 C.mono Sc C.calm q1 q2 q3 q4 (AS hit) (C.C2 oJ) (C.blt _ hb)
    .cases h2
   .cases h2
  clear h h1;rcases orElse_some h2 with h3|h3
  .exact Ys C h3
  clear h2;unfold Gu at h3;split at h3
  .rename_i hk;cases kf<;>first|(cases hk;done)|skip
   cases f with
   |Name x p=>exact Vg S C h3
   |Attribute o a p=>exact Vf S C h3
   |_=>cases h3
  .cases h3
 |Set es k p =>
  let h2:Hb c es k=!m:=h;unfold Hb at h2;split at h2
  .rename_i hc;rw[aZ] at hc;obtain rfl:=bg hc.2;split at h2
   .cases h2;exact VT C.mono (C.code hc.1)
   .cases h2
  .cases h2
 |ListComp elt gens sc p =>
  let#[tg,it,ifs,t,mi,mc,me,cl,rfl,rfl,hit,Sc,q1,q2,q3,q4]:=EL S C h;exact(Nq Sc C.calm q1 q2 q3 q4 (AS hit)).imp λU H Q h=>NS C.mono U H Q h
 |_=>cases h
set_option tactic.hygienic true in
def Qt:∀e m,stepT r c e=!m->PT X e (LT X.K Ξ (eX P m)):=by
 intro e m h;let plain:∀{e:Expr} {m:ME},(if Fw e then(r.e c e).map ME.fR else none)=!m->PT X e (LT X.K Ξ (eX P m)):=λ{e m} h=>by
  split at h
  .rename_i hp;let#[ma,ha,rfl]:=ae.mp h;exact Ue C.mono (S.e X c Ξ C _ _ ha) (a24 hp)
  .cases h
 cases e with
 |UnaryOp op a p =>
  let h2:(if op=.Not then(r.t c a).map ME.eK else none)=!m:=h;split at h2
  .rename_i ho;subst ho;let#[ma,ha,rfl]:=ae.mp h2;exact Uc C.mono (S.t X c Ξ C _ _ ha)
  .cases h2
 |BoolOp op vs p=>exact(Qs S C h).pt
 |Compare a ops bs p =>
  let#[ma,ha,rfl]:=ae.mp (show(yL r c a ops bs).map ME.fR=some m from h);exact(Kq S C ha).2
 |_=>exact plain h
end
section
def NR(h:Kf e=!m):PE X e (LE X.K Ξ (bt P m))/\iA e=true:=by
 cases e<;>first|(cases h;done)|skip
 let#[d,hd,rfl]:=ae.mp (show(uf _).map ME.lit=some m from h);exact#[Ck hd,rfl]
def a65(hP:j9 P):∀{es:@&Expr} {m:ME},GA es=!m->PA X es (LA X.K Ξ (iz P m)):=by
 intro es
 induction es with
 |nil=>intro m h;cases h;exact L4 hP
 |cons e es ih =>
  intro m h;let#[m1,h1,h]:=aj.mp h;let#[m2,h2,rfl]:=ae.mp h;exact C7 hP (NR h1).1 (ih h2) (u3 (NR (X:=X) (Ξ:=Ξ) (P:=P) h1).2)
def WC(hP:j9 P)(h:Ke e=!m):PE X e (LE X.K Ξ (bt P m)):=by
 cases e<;>first|(cases h;done)|skip
 .let#[d,hd,rfl]:=ae.mp (show(uf _).map ME.lit=some m from h);exact Ck hd
 .let#[ms,hm,rfl]:=ae.mp h;exact OW hP (a65 hP hm)
def aY6{h:ExceptHandler}{q:Str×Expr}(hq:OE h=!q):∃p p1 p2,h=.ExceptHandler (!.Name q.1 p) none [.Return (!q.2) p1] p2:=by
 let#[t,n,b,p0]:=h;cases n with
 |some _=>cases hq
 |none =>
  let#[t,rfl,hq]:=aj.mp (show t.bind _=some q from hq);let#[y,hy,hq]:=aj.mp hq;let#[e,he,rfl]:=ae.mp hq;let#[p,rfl]:=Fz hy;rcases b with _|⟨s,_|⟨_,_⟩⟩
  .cases he
  .cases s<;>first|(cases he;done)|(cases he;exact#[_,_,_,rfl])
  .cases he
set_option tactic.hygienic true in
def WB(C:iT X c P Ξ)(Dc:yk X Ξ.2):∀{hs:@&ExceptHandler} {ms:@&(Str×ME)},Bj c hs=!ms->nF X Ξ P hs ms:=by
 intro hs
 induction hs with
 |nil=>intro ms h;cases h;exact .nil Dc
 |cons hd hs ih =>
  intro ms h;let#[q,hq,h']:=aj.mp h;clear h;let h:=h';clear h';let#[p,p1,p2,rfl]:=aY6 hq;let#[y,e]:=q;dsimp only at h ⊢;split at h
  .rename_i hc;simp only[Bool.and_eq_true] at hc;let#[m,h1,h]:=aj.mp h;let#[Ih,h2,rfl]:=ae.mp h;let#[C',hm,hi,_]:=C.exc y hc.1.1;refine .cons (C.C2 hc.1.2) (P9 hc.2).1 hm (λx C1 hx h1=>C.DU x y C1 C' ?_ hc.1.1 h1 hi) (λea=>WC (X:=H9 X ea) C.mono h1) (ih h2);rw[C.Af] at hx;simpa using hx
  .cases h
def aN3{e f:Option Expr}{q:Str×Expr×@&Expr}(h:MW e f=!q):f=none/\∃p p',e=!.Call (.Name q.1 p) (q.2.1::q.2.2) [] p':=by
 cases f with
 |some _=>cases h
 |none =>
  let#[t,rfl,h]:=aj.mp (show e.bind _=some q from h);let#[z,hz,h]:=aj.mp h;let#[p,p',rfl]:=FK hz;let#[x,as]:=z;cases as with
  |nil=>cases h
  |cons a as=>cases h;exact#[rfl,_,_,rfl]
def UO(C:iT X c P Ξ){f:Str}:Gw X.K f (c.KQ f):=λy C' h hC=>by
 let#[#[f',y'],h1,h2]:=aP.mp h;let#[h3,h4]:=bD.mp h1;cases h2;have:f'=f:=by simpa using h4
 subst this;exact C.pM f' y' C' h3 hC
variable(S:si P r)(C:iT X c P Ξ)
include S C
set_option tactic.hygienic true in
def bN0{tg:Expr}{m:MS}(hw:c.wr=true)(hS:∀e m,r.e c e=!m->C0 e=false->∃elt gens sc p,e=.ListComp elt gens sc p/\∃r',si P r'/\uj r' c elt gens sc=!m)(hT:∀a b k p m,r.e c (.Tuple [a,b] k p)=!m->∃r' ms,si P r'/\L0 r' c [a,b]=!ms/\m=.prim .tup ms)(h:JQ r c tg e=!m):PS X (.Assign [tg] e pos) (LS X.K Ξ (wpS P m)):=by
 cases tg with
 |Name x px =>
  let h2:(if c.B0 x then(c.idx x).bind λi=>(r.e c e).map λm=>MS.set i m else none)=!m:=h;split at h2
  .rename_i hl;let#[i,hi,h2]:=aj.mp h2;let#[me,he,rfl]:=ae.mp h2;cases hn:C0 e with
   |true=>exact Pa C.mono (OS (C.uE hw) (C.tZ hi) (C.B0 hl).1 (S.e X c Ξ C _ _ he) (Fv hn) (C.B0 hl).2)
   |false =>
    let#[elt,gens,sc,p,rfl,r',S',hx]:=hS e me he hn;let#[tg,it,ifs,t,mi,mc,me,cl,rfl,rfl,hit,Sc,q1,q2,q3,q4]:=EL S' C hx;refine Pa C.mono ?_;exact(aM2 Sc C.calm q1 q2 q3 q4 (AS hit) (C.uE hw) (C.tZ hi) (C.B0 hl).1 (C.B0 hl).2).imp λN U H h=>NS C.mono U H _ h
  .cases h2
 |Tuple es k pt =>
  let h0:((Gx es).elim (if vA e&&C0 e then(c.slots es).bind λis=>(r.e c e).map λm=>MS.nj (.many is) m else none) λq=>if C0 e&&iA q.2.1&&iA q.2.2.2 then(r.e c q.1).bind λm1=>(r.e c q.2.1).bind λn1=>(r.e c q.2.2.1).bind λm2=>(r.e c q.2.2.2).bind λn2=>(r.e c e).map λm=>MS.zk m1 n1 m2 n2 m else none)=!m:=h;cases hq:Gx es with
  |some q =>
   rw[hq] at h0;dsimp only[Option.elim] at h0;split at h0
   .cases hq
   .cases h0
  |none =>
  rw[hq] at h0;let h2:(if vA e&&C0 e then(c.slots es).bind λis=>(r.e c e).map λm=>MS.nj (.many is) m else none)=!m:=h0;split at h2
  .rename_i hn;rw[aZ] at hn;let#[is,hs,h2]:=aj.mp h2;let#[me,he,rfl]:=ae.mp h2;exact Uk C.mono (OR (S.e X c Ξ C _ _ he) (NG C.calm (C.uE hw) (C.slots hs)) (Mu hn.2) (Xb hn.1))
  .cases h2
 |Subscript o i pt =>
  let h2:(if iA i&&C0 e then(r.e c o).bind λmo=>(r.e c i).bind λmi=>(r.e c e).map λm=>MS.fc mo mi m else none)=!m:=h;split at h2
  .rename_i hn;rw[aZ] at hn;let#[mo,ho,h2]:=aj.mp h2;let#[mi,hi,h2]:=aj.mp h2;let#[me,he,rfl]:=ae.mp h2;exact a92 C.mono C.units (S.e X c Ξ C _ _ he) (S.e X c Ξ C _ _ ho) (S.e X c Ξ C _ _ hi) (Mu hn.2) (Vi hn.1)
  .cases h2
 |Attribute o f pt =>
  let#[mo,ho,h]:=aj.mp h;let#[me,he,rfl]:=ae.mp h;exact Wf C.mono (UO C) (S.e X c Ξ C _ _ ho) (S.e X c Ξ C _ _ he) (by cases e<;>rfl)
 |_=>cases h
set_option tactic.hygienic true in
def Qu(hw:c.wr=true)(hS:∀e m,r.e c e=!m->C0 e=false->∃elt gens sc p,e=.ListComp elt gens sc p/\∃r',si P r'/\uj r' c elt gens sc=!m)(hT:∀a b k p m,r.e c (.Tuple [a,b] k p)=!m->∃r' ms,si P r'/\L0 r' c [a,b]=!ms/\m=.prim .tup ms) :
  ∀st m,KA r c st=!m->PS X st (LS X.K Ξ (wpS P m)):=by
 intro st m h;let hP:=C.mono;cases st with
 |AugAssign tg op e p =>
  cases tg with
  |Name x tp =>
   let h2:(if c.B0 x then(Kc op).bind λp=>(c.idx x).bind λi=>(r.e c e).map λm=>MS.lP i p m else none)=!m:=h;split at h2
   .rename_i hl;let#[p,hp,h2]:=aj.mp h2;let#[i,hi,h2]:=aj.mp h2;let#[me,he,rfl]:=ae.mp h2;refine Wd C.mono ?_ (C.uE hw) (C.tZ hi) (C.B0 hl).1 (C.B0 hl).2 (S.e X c Ξ C _ _ he);cases op<;>first|(cases hp;done)|skip
    .cases hp;exact .inl #[rfl,rfl]
    .cases hp;exact .inr #[rfl,rfl]
   .cases h2
  |_=>cases h
 |Expr e p =>
  let h2:(if C0 e then(r.e c e).map MS.expr else none)=!m:=h;split at h2
  .rename_i hn;let#[me,he,rfl]:=ae.mp h2;exact We hP (S.e X c Ξ C _ _ he) (Fv hn)
  .cases h2
 |Assign BW e p =>
  rcases BW with _|⟨tg,_|⟨_,_⟩⟩
  .cases h
  .exact bN0 S C hw hS hT h
  .cases h
 |If t a b p =>
  let#[mt,ht,h]:=aj.mp h;let#[ma,ha,h]:=aj.mp h;let#[mb,hb,rfl]:=ae.mp h;exact bK2 hP (S.t X c Ξ C _ _ ht) (vm S C hw ha) (vm S C hw hb)
 |For tg it body qw p =>
  let h2:(if c.nY&&(qw.isEmpty&&iA it) then(c.tg tg).bind λt=>(Bk r c tg it).bind λmi=>(A6 r c body).map λmb=>MS.dX t mi mb else none)=!m:=h;split at h2
  .rename_i hc;rw[aZ,aZ] at hc;cases qw<;>first|(cases hc.2.1;done)|skip
   let#[t,h1,h2]:=aj.mp h2;let#[mi,h3,h2]:=aj.mp h2;let#[mb,h4,rfl]:=ae.mp h2;exact Ui hP (C.own hc.1) C.calm (Ie S C h3) (C.JU hw h1) (vm S C hw h4) (AS hc.2.2)
  .cases h2
 |While t body qw p =>
  let h2:(if c.nY&&qw.isEmpty then(r.t c t).bind λmt=>(A6 r c body).map λmb=>MS.lh mt mb else none)=!m:=h;split at h2
  .rename_i hc;rw[aZ] at hc;cases qw<;>first|(cases hc.2;done)|skip
   let#[mt,h1,h2]:=aj.mp h2;let#[mb,h4,rfl]:=ae.mp h2;exact a91 hP (C.own hc.1) (S.t X c Ξ C _ _ h1) (vm S C hw h4)
  .cases h2
 |Return e p =>
  cases e with
  |none=>cases h;exact(VB (X:=X)).imp (by rintro N cL H ⟨U,g,ρ,s,R,h⟩;exact LQ.now h R .bK)
  |some e =>
   let#[me,he,rfl]:=ae.mp (show(r.e c e).map (λm=>MS.ret (toR c e m))=some m from h);refine OZ hP ?_;exact S.e X c Ξ C _ _ he
 |Raise e f p =>
  let#[q,hq,h2]:=aj.mp h;clear h;let#[rfl,px,p2,rfl]:=aN3 hq;let#[x,e,es]:=q;dsimp only at h2 ⊢;split at h2
  .rename_i hc;simp only[Bool.and_eq_true] at hc;let#[ma,ha,rfl]:=ae.mp h2;let ok:=EU ha;let#[C',hm,hi,B,nI,iI,bm,O,FB]:=C.exc x hc.1.1.2;exact a93 hP C.calm O FB (C.C2 hc.1.2) (wF S C ha) (C.kH hc.1.1.1) (by rw[C.Af];simpa using hc.1.1.2) hi (u3 (ok e #[_])) (AV λz hz=>ok z (by simp[hz])) (P9 hc.2).1
  .cases h2
 |Try body hs el fi p =>
  let h2:(if c.ka&&~~~hs.isEmpty&&el.isEmpty&&fi.isEmpty then(A6 r { c with kH:=false,ka:=false,wr:=true } body).bind λmb=>(Bj c hs).map λms=>MS.qP mb ms else none)=!m:=h;split at h2
  .rename_i hc;simp only[Bool.and_eq_true] at hc;let#[#[#[ht,hh],he],hf]:=hc;cases el<;>first|(cases he;done)|skip
   cases fi<;>first|(cases hf;done)|skip
   cases hs<;>first|(cases hh;done)|skip
   let#[fh,hf,Dc]:=C.ka ht
   .let#[mb,h1,h2]:=aj.mp h2;let#[ms,h3,rfl]:=ae.mp h2;refine Uj hP (C.sgn hw) (λpi D=>vm S (C.qP hw fh hf pi D _ (λU hl y=>#[by rw[zc,hl],λi v z=>?_]) λy=>rfl) rfl h1) (WB C Dc h3);rw[eJ] at z;split at z<;>cases z
  .cases h2
 |Pass p=>cases h;exact(VA (X:=X)).imp (by rintro N cL H ⟨U,g,ρ,s,R,h⟩;exact h ρ H cL (.refl _ _) R s)
 |_=>cases h
end
def aN0(h:(comp (n+1)).e c e=!m)(hn:C0 e=false):∃elt gens sc p,e=.ListComp elt gens sc p/\uj (comp n) c elt gens sc=!m:=by
 cases e<;>first|(cases hn;done)|(cases h;done)|exact#[_,_,_,_,rfl,h]
def snd:∀n,(∀k,k<=n->si P (comp k)):=by
 intro n
 induction n with
 |zero =>
  intro k hk;obtain rfl:=Nat.le_zero.mp hk;exact#[λx x x x x x h=>(by cases h),λx x x x x x h=>(by cases h),λx x x x x x x h=>(by cases h)]
 |succ n ih =>
  intro k hk;rcases dw k (n+1) with eE|lV
  .grind
  obtain rfl:k=n+1:=by omega
  let I:=ih n (av n);refine#[λX c Ξ C e m h=>Qv I C e m h,λX c Ξ C e m h=>Qt I C e m h,λX c Ξ C hw st m h=>?_];rcases orElse_some h with h|h
  rotate_left
  .cases h;exact λpi s U H D I q=>by let#[_,_,_,_,_,z]:=q;exact(show False from z).elim
  refine Qu I C hw (λe m he hn=>?_) (λa b k p m he=>?_) st m h
  .cases n with
   |zero=>cases he
   |succ n =>
    let#[elt,gens,sc,p,rfl,hx]:=aN0 he hn;exact#[_,_,_,_,rfl,comp n,ih n (),hx]
  .cases n with
   |zero=>cases he
   |succ n =>
    let#[ms,hm,rfl]:=ae.mp (show(L0 (comp n) c [a,b]).map (ME.prim .tup)=some m from he);exact#[comp n,ms,ih n (),hm,rfl]
structure qU where
 nm:Str
 qn:Str
 N:@&Str
 ps:@&Str
 st:Stmt
abbrev j8.at(c:j8)(d:qU):j8:={ c with N:=d.N,nm:=(u9 d.st).names,nY:=true,kH:=true,ka:=true,wr:=true }
structure kB(K:PySem.W.Frag)(c:j8)(d:qU)(m:bj)(f:Addr)(fd:FuncData):Prop where
 fn:sk K d.nm d.qn d.st f fd
 bi:Binds K fd d.ps []
 sc:jD d.N d.ps (u9 d.st)
 co:A6 (comp 60) (c.at d) (v8 d.st)=!m.body
 ar:m.ar=-d.ps
 nn:m.n=-d.N
structure oX(w:World)(K:PySem.W.Frag)(mg:Str->Option Value)(c:j8)(T:Nat->Option bj):Prop where
 fns:∀x i,c.fns.lookup x=!i->∃d m f fd,T i=!m/\kB K c d m f fd/\mg x=!.ref f
 cls:∀x i,c.cls.lookup x=!i->∃C d m f fd,T i=!m/\kB K c d m f fd/\mg x=!.ref C/\w9 K x C/\kW K C/\Mk K C f
 rn:∀x y i C,(x,y,i)∈c.rn->w9 K y C->∃d m f fd,T i=!m/\kB K c d m f fd/\Meth K C x f
 pM:∀f y C,(f,y)∈c.pM->w9 K y C->E2 K C f
 con:∀x d,c.con.lookup x=!d->∃v u,mg x=!u/\RelV v u/\∀ρ H,f7 K ρ H d v
 blt:∀x,c.blt.contains x=true->mg x=none
 DV:∀x,c.exc.contains x=true->∃C,mg x=!.ref C/\w9 K x C/\∀base:Heap,K.In base->base.Ns mainGlobals mg->∃B newId iC bm,OwnCls x C bm newId mg base/\ExcBaseFacts B newId iC bm
 DT:∀x y C C',c.exc.contains x=true->c.exc.contains y=true->w9 K x C->w9 K y C'->PySem.W.exmOne K (.ref C) (.ref C')=!decide (x=y\/y="MintError")
 tQ:∀x kvs,c.gd.lookup x=!kvs->∃A vs,mg x=!.ref A/\Bg K w.params A vs/\rX K kvs vs
section
variable{Pg:Program}{w:World}{K:PySem.W.Frag}{mg:Str->Option Value}{base:Heap}{T:Nat->Option bj}
set_option tactic.hygienic true in
def bF6{q:Str}(h:PySem.W.codeIn K cd q=true):PySem.W.kdsCode K cd=true:=by
 unfold PySem.W.codeIn at h;unfold PySem.W.kdsCode;split at h
 .dsimp only;split at h
  .rename_i e;rw[e]
  .cases h
 .cases h
def Vp:Passes (jT Pg w) (qI (jT Pg w) Pg w K mg base N qual scope f cd A outer s H E) E:=λpi U H1 s1 e s' I h=>by
 let#[C,H',J,fl,hE]:=I.flew h;exact aI6 J fl (λb o q=>I.base.there b o q (by intro z;cases z)) rfl rfl rfl hE
def Xz:AA (qI (jT Pg w) Pg w K mg base N qual scope f cd A outer s H E) E:=λpi U H1 s1 h' ea C vs I hm hE =>
 aW2 I hm rfl rfl rfl hE
def UP:yk (qI (jT Pg w) Pg w K mg base N qual scope f cd A outer s H E) E:=λpi U H1 H2 s1 s2 B ea C a0 I l hh hE =>
 leave_held I l hh rfl rfl rfl hE
def EC{k:Nat}{m:bj}(hT:T i=!m){ds:@&D}{g:G}{Q:KD}{E:KX}(h:c5 T k i ds g Q E):-ds=m.ar:=by
 cases k with
 |zero=>exact h.elim
 |succ k =>
  let#[m',e,h,_]:=h
  simp_all
def bI0(pz:K.In base)(xM:base.Ns mainGlobals mg)(A:oX w K mg c T):∀(k i:Nat) d m f fd,T i=!m->kB K c d m f fd->jf Pg w K mg base (jT Pg w) (2*k) f fd d.ps (rm c.exc K (-d.ps) (c5 T k i)):=by
 intro k
 induction k with
 |zero =>
  intro i d m f fd hm O;refine#[λvs H Q E h=>h.1,λA outer s H args us vs Q E v v v v h=>?_];let#[_,_,_,_,_,_,q]:=h;exact q.elim
 |succ k ih =>
  intro i d m f fd hm O;let#[oc,od,kV,doc,pm,an,gJ,ct,nU,rfl,lk,nA]:=O.fn.ex;refine ZI (k:=2*k+1) lk nA O.sc (λvs H Q E h=>h.1) (λA0 outer s H vs Q E hr h=>?_);let#[hl,xs,g,ρ,rs,R,q]:=h;let C:iT (qI (jT Pg w) Pg w K mg base d.N d.qn (u9 d.st) f gJ A0 outer s H E) (c.at d) (c5 T k) (c.exc,E):=by
   refine#[rfl,O.sc.nd,λx h=>h,λx h=>h,λx h=>.inr h,λx h=>h,λx h=>?_,λv v=>rfl,rfl,?_,(λv=>PassesOwn.leaving),b0 T k,A.con,A.blt,λx j hj=>?_,λx j hj=>?_,λx y j C' hj hC=>?_,A.pM,rfl,Vp,λv=>Xz,λv=>#[rfl,rfl,UP],λx hx=>?_,A.DT,A.tQ,λv=>bF6 nA,λv=>rfl]
   .rcases h with h|h
    .exact ET h
    .exact absurd rfl (O.sc.ow _ (aX h))
   .have:=hr.un;show(A0.deeper _).units+100<cLine;omega
   .let#[d',m',f',rS,hT,O',hmg]:=A.fns x j hj;exact#[2*k,f',rS,d'.ps,#[ih j d' m' f' rS hT O',O'.bi,λJL g' Q' E' h'=>(EC hT h').trans O'.ar],hr.mono (),hmg,O'.fn.kp]
   .let#[C',d',m',f',rS,hT,O',hmg,hC,kT,M]:=A.cls x j hj;exact#[2*k,C',f',rS,d'.ps,#[ih j d' m' f' rS hT O',O'.bi,λJL g' Q' E' h'=>(EC hT h').trans O'.ar],hr,hmg,hC,kT,M]
   .let#[d',m',f',rS,hT,O',M]:=A.rn x y j C' hj hC;exact#[2*k,f',rS,d'.ps,M,#[ih j d' m' f' rS hT O',O'.bi,λJL g' Q' E' h'=>(EC hT h').trans O'.ar],hr.mono ()]
   .let#[C,h1,h2,h3]:=A.DV x hx;exact#[C,h1,h2,h3 base pz xM]
  refine#[_,vm (snd (P:=c5 T k) 60 60 (av _)) C rfl O.co,?_];let#[m',e,q1,q]:=q;rw[hm] at e;cases e;refine#[d4 m xs,g,ρ,?_,R,wpS_mono (b0 T k) m.body #[λv g'=>LQ K ρ H Q .bK g',LQ K ρ H Q,λv v=>False,λv v=>False] _ _ _ _ _ #[λU g' h cx H' dR e R' s'=>h cx H' _ e R' .bK,λd g' h=>h,λv v h=>h.elim,λv v h=>h.elim] (λv v z=>z) q];have:=v9.start (n:=-d.N) rs;unfold d4 L2.start;rw[O.nn];exact this
def bF1{L k0:Nat}{a:Addr}{ns:@&Int}(hO:AX H)(hS:gE K H a (ns.map V.int))(h:c5 T k0 L [.ref 0] [.qp (ns.map .int)] (λd x=>d=.bl true) km) :
  rm exc K 1 (c5 T k0 L) [.ref a] H (λv x=>v=.bl true) λx x x=>False:=by
 refine#[rfl,[.ref 0],[.qp (ns.map .int)],[a],.cons (.ref rfl) .nil,#[rfl,λi o b h1 h2=>?_,λi j l m b h1 h2 m1=>?_],b0 T k0 _ _ _ _ _ _ _ (λd g' e cx H' v x x r=>?_) (λx x z=>z.elim) h]
 .cases i with
  |zero =>
   cases h1;cases h2;refine#[_,?_,c7.ofInts ns];rcases hS with(z|⟨o,z⟩)|z
   .rcases hO a with q|⟨o,xs,q⟩
    .simp_all
    simp_all
   .exact .inl #[o,z]
   .exact .inr z
  |succ i=>simp at h1
 .cases i with
  |zero=>cases h1;cases m1
  |succ i=>simp at h1
 .subst e;cases r
  rfl
end
end M
namespace M
open PySem L2
variable{P:gi}{g:G}{Q:Bool->G->Prop}{E:KX}{N:Ends}{a i n:Nat}{b:Bool}{c f:Str}{o cond elt:ME}{x y d v:D}{j:Int}{l:@&D}{A B:Prop}{kvs:@&(Key×D)}{k:Key}{kg:G->Prop}{ns:@&Int}{d8:@&Nat}{R:IK->G->Prop}
section
variable{U:S}{Q:KD}{a b c:ME}{x y:MS}{p:Pr}
def M9(h:N.nx U g):wpS P .pass N U g E:=h
def yj(h:wpS P x #[λjz g1=>wpS P y N jz g1 E,N.rt,N.bk,N.ct] U g E):wpS P (.seq x y) N U g E:=h
def V6(h:wpS P x N U g E):wpS P (.seq x .pass) N U g E:=h
def Uw(h:bt P a U g (λx g1=>N.nx U g1) E):wpS P (.expr a) N U g E:=h
def Bx(h:bt P a U g (λx g1=>N.nx (U.set i (!x)) g1) E):wpS P (.set i a) N U g E:=h
def bI4{t:MT}(h:bt P a U g (λx g1=>kE t x U λjz=>N.nx jz g1) E):wpS P (.nj t a) N U g E:=h
def NK{i:ME}(h:bt P a U g (λx g1=>bt P o U g1 (λy g2=>bt P i U g2 (λz g3=>Z0 y z x g3 λg4=>N.nx U g4) E) E) E):wpS P (.fc o i a) N U g E:=h
def UA{cs:@&Str}(h:bt P a U g (λx g1=>bt P o U g1 (λy g2=>yi f cs y x g2 λg3=>N.nx U g3) E) E):wpS P (.jn f cs o a) N U g E:=h
def Gp(h:eX P c U g (λt g1=>if t=true then wpS P x N U g1 E else wpS P y N U g1 E) E):wpS P (.ifs c x y) N U g E:=h
def Gq(h:bt P a U g N.rt E):wpS P (.ret a) N U g E:=h
def Wk{x:Str}(h:iz P a U g (λvs g1=>-vs<=1000/\E #[x] g1) E):wpS P (.raise x a) N U g E:=h
def bI5{hs:@&(Str×ME)}(h:wpS P x N U g (pj P N (U.map λy=>none) E hs)):wpS P (.qP x hs) N U g E:=h
def ZL{x:Xn}{y:Str}{e:ME}{r:@&(Str×ME)}(hx:x.cls=y)(h:bt P e U g N.rt km):pj P N U E ((y,e)::r) x g:=by unfold pj;rw[aI (.inl hx)];exact h
def w_var(e:U[i]?=!!d)(h:Q d g):bt P (.var i) U g Q E:=by exact#[d,e,h]
def w_lit(h:Q d g):bt P (.lit d) U g Q E:=h
def Uz(h:iz P a U g (λxs g1=>cW p xs g1 Q) E):bt P (.prim p a) U g Q E:=h
def Zj(h:cW p [] g Q):bt P (.prim p .nil) U g Q E:=by exact h
def yJ(h:bt P a U g (λx g1=>cW p [x] g1 Q) E):bt P (.prim p (.cons a .nil)) U g Q E:=by exact h
def yK(h:bt P a U g (λx g1=>bt P b U g1 (λy g2=>cW p [x,y] g2 Q) E) E):bt P (.prim p (.cons a (.cons b .nil))) U g Q E:=by exact h
def Wi{o1 o2:CmpOp}(h:bt P a U g (λx g1=>bt P b U g1 (λy g2=>cW (.cmp o1) [x,y] g2 λz g3=>∃t,z=.bl t/\if t=true then bt P c U g3 (λw g4=>cW (.cmp o2) [y,w] g4 Q) E else Q (.bl false) g3) E) E):bt P (.chain o1 o2 a b c) U g Q E:=h
def w_and(h:bt P a U g (λx g1=>∃t,x=.bl t/\if t=true then bt P b U g1 Q E else Q (.bl false) g1) E):bt P (.dZ a b) U g Q E:=h
def w_or(h:bt P a U g (λx g1=>∃t,x=.bl t/\if t=true then Q (.bl true) g1 else bt P b U g1 Q E) E):bt P (.jL a b) U g Q E:=h
def w_not(h:bt P a U g (λx g1=>∃t,x=.bl t/\Q (.bl (~~~t)) g1) E):bt P (.eK a) U g Q E:=h
def w_ite(h:eX P c U g (λt g1=>if t=true then bt P a U g1 Q E else bt P b U g1 Q E) E):bt P (.ite c a b) U g Q E:=h
def Az{f:Nat}(h:iz P a U g (λxs g1=>P f xs g1 Q E) E):bt P (.call f a) U g Q E:=h
def Ux{f:Nat}{c:Str}(h:iz P a U g (λxs g1=>P f (.ref (-g1)::xs) (g1++[.ins c []]) (λd g2=>d=.bK/\Q (.ref (-g1)) g2) E) E):bt P (.make c f a) U g Q E:=h
def Uy(h:bt P o U g (λx g1=>nr p x g1/\iz P a U g1 (λxs g2=>cW p (x::xs) g2 Q) E) E):bt P (.fo p o a) U g Q E:=h
def Bw{Q:@&D->G->Prop}(h:Q [] g):iz P .nil U g Q E:=h
def V7{Q:@&D->G->Prop}(h:bt P a U g (λx g1=>iz P b U g1 (λxs g2=>Q (x::xs) g2) E) E):iz P (.cons a b) U g Q E:=h
def UB{Q:Bool->G->Prop}(h:eX P a U g (λt g1=>if t=true then eX P b U g1 Q E else Q false g1) E):eX P (.dZ a b) U g Q E:=h
def bI6{Q:Bool->G->Prop}(h:eX P a U g (λt g1=>if t=true then Q true g1 else eX P b U g1 Q E) E):eX P (.jL a b) U g Q E:=h
def UC{Q:Bool->G->Prop}(h:eX P a U g (λt g1=>Q (~~~t) g1) E):eX P (.eK a) U g Q E:=h
def By{Q:Bool->G->Prop}(h:Q true g):eX P .no U g Q E:=h
def Gs{Q:Bool->G->Prop}(h:bt P a U g (λx g1=>qO g1 x λb=>Q b g1) E):eX P (.fR a) U g Q E:=h
end
section
variable{Q:KD}{i:Int}{kb:Bool->Prop}{t s:Bool}{m:@&D}
def Zl(h:Q (.int (i+j)) g):cW (.bin .Add) [.int i,.int j] g Q:=#[_,_,.inl #[i,j,_,rfl,rfl,rfl,rfl],h]
def Zm(h:Q (.int (i-j)) g):cW (.bin .Sub) [.int i,.int j] g Q:=#[_,_,.inl #[i,j,_,rfl,rfl,rfl,rfl],h]
def O9(c:qz i j)(h:Q (.int (i*j)) g):cW (.bin .Mult) [.int i,.int j] g Q:=#[_,_,.inl #[i,j,_,rfl,#[c,rfl],rfl,rfl],h]
def V1(c:0<j)(h:Q (.int (i % j)) g):cW (.bin .Mod) [.int i,.int j] g Q:=#[_,_,.inl #[i,j,_,rfl,#[c,rfl],rfl,rfl],h]
def Bh(c:Ek i j)(h:Q (.int (i / j)) g):cW (.bin .FloorDiv) [.int i,.int j] g Q:=#[_,_,.inl #[i,j,_,rfl,#[c,rfl],rfl,rfl],h]
def OC(h1:0<j)(h2:j<1073741824)(h:Q (.int (i / j)) g):cW (.bin .FloorDiv) [.int i,.int j] g Q:=Bh #[h1,h2] h
def FO(c:qD i j)(h:Q (.int (i ^ j.toNat)) g):cW (.bin .Pow) [.int i,.int j] g Q:=#[_,_,.inl #[i,j,_,rfl,#[c,rfl],rfl,rfl],h]
def O6{i j:Nat}(hi:g[i]?=!.lst l)(hj:g[j]?=!.lst m)(hl:-l+-m<=100000)(h:Q (.ref (-g)) (g++[.lst (l++m)])):cW (.bin .Add) [.ref i,.ref j] g Q:=#[_,_,.inr #[rfl,.inl #[i,j,l,m,rfl,hi,hj,hl,rfl,rfl]],h]
def bI8(h:Q (.int (-(i))) g):cW (.un .USub) [.int i] g Q:=#[_,_,#[rfl,i,rfl,rfl,rfl],h]
def X4{op:CmpOp}(hb:KO g x y b op)(h:Q (.bl b) g):cW (.cmp op) [x,y] g Q:=#[_,_,#[x,y,b,rfl,hb,rfl,rfl],h]
def Ya(h:Q (.bl (decide (i<j))) g):cW (.cmp .Lt) [.int i,.int j] g Q:=X4 #[i,j,rfl,rfl,rfl] h
def X'(h:Q (.bl (decide (i<=j))) g):cW (.cmp .LtE) [.int i,.int j] g Q:=X4 #[i,j,rfl,rfl,rfl] h
def XZ(h:Q (.bl (decide (j<i))) g):cW (.cmp .Gt) [.int i,.int j] g Q:=X4 #[i,j,rfl,rfl,rfl] h
def XX(h:Q (.bl (decide (j<=i))) g):cW (.cmp .GtE) [.int i,.int j] g Q:=X4 #[i,j,rfl,rfl,rfl] h
def Es(h:tS g x y λb=>Q (.bl b) g):cW (.cmp .Eq) [x,y] g Q:=let ⟨_,hb,h⟩:=h;X4 hb h
def yF(h:tS g x y λb=>Q (.bl (~~~b)) g):cW (.cmp .NotEq) [x,y] g Q:=let ⟨b,hb,h⟩:=h;X4 (b:= ~~~b) (show xQ g x y (~~~(~~~b)) from by simp_all) h
def qH(h:rA g x y λb=>Q (.bl b) g):cW (.cmp .In) [x,y] g Q:=let ⟨_,hb,h⟩:=h;X4 (.inl hb) h
def Zt{S:Int->Bool}(hg:g[a]?=!.set S n)(h:Q (.bl (S i)) g):cW (.cmp .In) [.int i,.ref a] g Q:=X4 (.inr #[a,S,n,i,rfl,hg,rfl,rfl]) h
def O4(h:rA g x y λb=>Q (.bl (~~~b)) g):cW (.cmp .NotIn) [x,y] g Q:=let ⟨b,hb,h⟩:=h;X4 (b:= ~~~b) (.inl (show inR g x y (~~~(~~~b)) from by simp_all)) h
def Kt(h:kb (decide (i=j))):tS g (.int i) (.int j) kb:=#[_,.inl #[i,j,rfl,rfl,rfl],h]
def JP(h:kb (t==s)):tS g (.bl t) (.bl s) kb:=#[_,.inr (.inl #[t,s,rfl,rfl,rfl]),h]
def Ku{x y:Str}(h:kb (decide (x=y))):tS g (.str x) (.str y) kb:=#[_,.inr (.inr (.inl #[x,y,rfl,rfl,rfl])),h]
def Zq(h:Q (.bl (decide (i=j))) g):cW (.cmp .Eq) [.int i,.int j] g Q:=Es (Kt h)
def Kd(h:Q (.bl (~~~decide (i=j))) g):cW (.cmp .NotEq) [.int i,.int j] g Q:=yF (Kt h)
def Zp(h:Q (.bl (t==s)) g):cW (.cmp .Eq) [.bl t,.bl s] g Q:=Es (JP h)
def ZC(h:Q (.bl (~~~(t==s))) g):cW (.cmp .NotEq) [.bl t,.bl s] g Q:=yF (JP h)
def Zr{p q:Str}(h:Q (.bl (decide (p=q))) g):cW (.cmp .Eq) [.str p,.str q] g Q:=Es (Ku h)
def ZD{p q:Str}(h:Q (.bl (~~~decide (p=q))) g):cW (.cmp .NotEq) [.str p,.str q] g Q:=yF (Ku h)
def tY(h:Q (.bl (R9 d)) g):cW (.cmp .Is) [d,.bK] g Q:=X4 #[rfl,rfl] h
def FT(h:Q (.bl (~~~R9 d)) g):cW (.cmp .IsNot) [d,.bK] g Q:=X4 #[rfl,rfl] h
def Zv(h:Q (.bl true) g):cW (.cmp .Is) [.bK,.bK] g Q:=tY h
def Zx(h:Q (.bl false) g):cW (.cmp .Is) [.int i,.bK] g Q:=tY h
def Zw(h:Q (.bl false) g):cW (.cmp .Is) [.bl t,.bK] g Q:=tY h
def Zz{x:Str}(h:Q (.bl false) g):cW (.cmp .Is) [.str x,.bK] g Q:=tY h
def ZA(h:Q (.bl false) g):cW (.cmp .Is) [.tup l,.bK] g Q:=tY h
def Zy(h:Q (.bl false) g):cW (.cmp .Is) [.ref n,.bK] g Q:=tY h
def Zs(h:Q (.bl false) g):cW (.cmp .IsNot) [.bK,.bK] g Q:=FT h
def Zu(h:Q (.bl true) g):cW (.cmp .IsNot) [.tup l,.bK] g Q:=FT h
def Zg(h:kb t):qO g (.bl t) kb:=#[t,.inr (.inl rfl),h]
def bJ5(h:kb (i != 0)):qO g (.int i) kb:=#[_,.inr (.inr (.inl #[i,rfl,rfl])),h]
def bJ4{i:Nat}(hl:d5 g i=!l)(h:kb (~~~l.isEmpty)):qO g (.ref i) kb:=#[_,.inr (.inr (.inr (.inr #[i,l,rfl,hl,rfl]))),h]
def EB{p:Bool->Prop}(h:p t):∃s,D.bl t=D.bl s/\p s:=#[t,rfl,h]
def bG1{p:Int->Prop}(h:p i):∃s,D.int i=D.int s/\p s:=#[i,rfl,h]
def if2{c:Prop}[Decidable c](h1:c->A)(h2:¬c->B):if decide c=true then A else B:=by
 simp_all
def nu(h:A):if true=true then A else B:=by rw[aI rfl];exact h
def rZ(h:B):if false=true then A else B:=by rw[aE ∅];exact h
def KY(h:A):if(~~~false)=true then A else B:=by exact h
def Yj(h:B):if(~~~true)=true then A else B:=by rw[aE ∅];exact h
def fq(hb:b=false)(h:B):if b=true then A else B:=by rw[hb];exact rZ h
def gY(hb:b=true)(h:A):if b=true then A else B:=by rw[hb];exact nu h
def s9(hl:d5 g a=!l)(h2:gP l i=!d)(h:Q d g):cW .ix [.ref a,.int i] g Q:=#[_,_,#[rfl,.inl #[_,l,i,rfl,hl,h2]],h]
def x6(h2:gP l i=!d)(h:Q d g):cW .ix [.tup l,.int i] g Q:=#[_,_,#[rfl,.inl #[_,l,i,rfl,rfl,h2]],h]
def yG{i:Nat}(hg:g[i]?=!.dB kvs)(hk:qK y=!k)(hv:u5 kvs k=!v)(h:Q v g):cW .ix [.ref i,y] g Q:=#[_,_,#[rfl,.inr (.inl #[i,kvs,y,k,rfl,hg,hk,hv])],h]
def X8(hl:g[a]?=!.lst l)(hn:mB (-l) i=!n)(h:kg (g.set a (.lst (l.set n v)))):Z0 (.ref a) (.int i) v g kg:=#[_,.inl #[a,i,l,n,rfl,rfl,hl,hn,rfl],h]
def Bt{i:Nat}(hg:g[i]?=!.dB kvs)(hk:qK y=!k)(hl:-kvs<100000)(h:kg (g.set i (.dB (putD kvs k v)))):Z0 (.ref i) y v g kg:=#[_,.inr #[i,kvs,k,rfl,hg,hk,hl,rfl],h]
def ui{cs:@&Str}{fs:@&(Str×D)}(hg:g[a]?=!.ins c fs)(hc:c∈cs)(hl:-fs<100)(h:kg (g.set a (.ins c (p6 f v fs)))):yi f cs (.ref a) v g kg:=#[_,#[a,c,fs,rfl,hg,hc,hl,rfl],h]
def W6{fs:@&(Str×D)}(hg:g[a]?=!.ins c fs)(hf:fs.lookup f=!d)(h:Q d g):cW (.fld f) [.ref a] g Q:=#[_,_,#[a,c,fs,rfl,hg,hf,rfl],h]
def a9(h:g[a]?=!.lst l):d5 g a=!l:=by simp only[d5,h,GF]
def a49(h:g[a]?=!.qp l):d5 g a=!l:=by simp only[d5,h,GF]
def E1(hl:d5 g a=!l)(h:Q (.int (-l)) g):cW .len [.ref a] g Q:=#[_,_,#[rfl,.inl #[_,l,rfl,hl,rfl]],h]
def Z'(h:Q (.int (-l)) g):cW .len [.tup l] g Q:=#[_,_,#[rfl,.inl #[_,l,rfl,rfl,rfl]],h]
def TV(h:Q (.tup (cut l (!i) none)) g):cW (.nP true false) [.tup l,.int i] g Q:=#[_,_,#[_,i,rfl,.inl #[l,rfl,rfl,rfl]],h]
def Ay(hl:d5 g a=!l)(h:Q (.ref (-g)) (g++[.lst (cut l none (!i))])):cW (.nP false true) [.ref a,.int i] g Q:=#[_,_,#[_,i,rfl,.inr #[a,l,rfl,hl,rfl,rfl]],h]
def Gf(hl:-l<=1000)(h:Q (.tup l) g):cW .tup l g Q:=#[_,_,#[hl,rfl,rfl],h]
def Ge(hl:-l<=1000)(h:Q (.ref (-g)) (g++[.lst l])):cW .lst l g Q:=#[_,_,#[hl,rfl,rfl],h]
def Bq(hl:d5 g a=!l)(h:Q (.ref (-g)) (g++[.lst l])):cW .list [.ref a] g Q:=#[_,_,.inl #[_,l,rfl,hl,rfl,rfl],h]
def bN3(hg:g[a]?=!.dB kvs)(hz:-kvs<=10000)(h:Q (.ref (-g)) (g++[.lst ((kvs.map (·.1)).map kD)])):cW .list [.ref a] g Q:=#[_,_,.inr #[a,kvs,rfl,hg,hz,rfl,rfl],h]
def bJ0(hl:d5 g a=!l)(h:Q (.tup l) g):cW .tuple [.ref a] g Q:=#[_,_,#[_,l,rfl,hl,rfl,rfl],h]
def gX{c:String}(hc:c∈["int","bool","str","tuple","list"])(hb:ua g d c=!b)(h:Q (.bl b) g):cW .isin [d,.ty c] g Q:=#[_,_,#[d,c,b,rfl,hc,hb,rfl,rfl],h]
def U6{i:Nat}(hg:g[i]?=!.lst l)(hl:-l<100000)(h:Q .bK (g.set i (.lst (l++[y])))):cW .append [.ref i,y] g Q:=#[_,_,#[i,y,l,rfl,hg,hl,rfl,rfl],h]
def bN2{i j:Nat}{n:Int}(hg:g[i]?=!.lst l)(hn:n=j)(hj:l[j]?=!y)(hl:-l<100000)(h:Q y (g.set i (.lst (l.eraseIdx j)))):cW .pop [.ref i,.int n] g Q:=by
 let eE:=(aw.mp hj).1;refine#[_,_,#[i,n,l,j,rfl,hg,by omega,by omega,?_,hj,rfl],h];rw[hn];exact PySem.StrLaws.seqIndex_nonneg () () |>.trans #[_]
def Ga{i:Nat}{z:D}(hg:g[i]?=!.dB kvs)(hk:qK y=!k)(h:Q ((u5 kvs k).getD z) g):cW .get [.ref i,y,z] g Q:=#[_,_,#[i,y,z,kvs,k,rfl,hg,hk,rfl,rfl],h]
def bG4(h:Q (.int (i+j)) g):cW .iadd [.int i,.int j] g Q:=#[_,_,.inl #[i,j,rfl,rfl,rfl],h]
def Vo{i:Nat}(hl:d5 g i=!ns.map .int)(hz:-ns<=10000)(h:Q (.ref (-g)) (g++[.lst ((L7 ns).map .int)])):cW .lz [.ref i] g Q:=#[_,_,.inr #[_,ns,rfl,hl,hz,rfl,rfl],h]
def ON{i:Nat}(hg:g[i]?=!.lst l):nr .append (.ref i) g:=#[i,l,rfl,a9 hg]
def bD7{i:Nat}(hg:g[i]?=!.lst l):nr .pop (.ref i) g:=#[i,l,rfl,a9 hg]
def Yr{i:Nat}{l:@&(Key×D)}(hg:g[i]?=!.dB l):nr .get (.ref i) g:=#[i,l,rfl,hg]
def rp(h1:-(2 ^ 62)<=j)(h2:j<=100000)(h:Q (.ref (-g)) (g++[.lst (l9 0 j.toNat)])):cW .ku [.int j] g Q:=#[_,_,#[j,rfl,h1,h2,rfl,rfl],h]
def pZ(h1:-(2 ^ 62)<=i/\i<2 ^ 62/\-(2 ^ 62)<=j/\j<2 ^ 62/\j-i<=100000)(h:Q (.ref (-g)) (g++[.lst (l9 i (j-i).toNat)])):cW .lH [.int i,.int j] g Q:=#[_,_,#[i,j,rfl,h1,rfl,rfl],h]
def Va{i:Nat}(hg:g[i]?=!.lst l)(h:Q .bK (g.set i (.lst []))):cW .clear [.ref i] g Q:=#[_,_,#[i,l,rfl,hg,rfl,rfl],h]
def WY{i:Nat}(hg:g[i]?=!.lst l):nr .clear (.ref i) g:=#[i,l,rfl,a9 hg]
def Vm{i:Nat}{ks:@&Int}(hl:d5 g i=!(ks.map λk=>.tup [.int k,.bl true]))(hz:-ks<=1000)(nd:ks.Nodup)(h:Q (.ref (-g)) (g++[.dB (ks.map λk=>(.inl k,.bl true))])):cW .lO [.ref i] g Q:=#[_,_,.inr #[i,ks,rfl,hl,hz,nd,rfl,rfl],h]
def OP(hl:d5 g a=!ns.map .int)(hz:-ns<600)(h:Q (.ref (-g)) (g++[.lst ((u7 ns).map .int)])):cW .sset [.ref a] g Q:=#[_,_,#[a,ns,rfl,hl,hz,rfl,rfl],h]
def W7(h:Q (.ref (-g)) (g++[.dB []])):cW .W7 [] g Q:=#[_,_,#[rfl,rfl,rfl],h]
def max2(h:Q (.int (if j>i then j else i)) g):cW .max [.int i,.int j] g Q:=#[_,_,#[rfl,.inl #[i,j,rfl,rfl]],h]
def bN1{M:Int}(hl:d5 g a=!ns.map .int)(h1:M∈ns)(h2:∀x∈ns,x<=M)(h:Q (.int M) g):cW .max [.ref a] g Q:=#[_,_,#[rfl,.inr #[a,ns,M,rfl,hl,h1,h2,rfl]],h]
def bE2{S:Int->Bool}(hg:g[a]?=!.set S n)(hn:n+1<4096)(h:Q .bK (g.set a (.set (λk=>S k||decide (k=i)) (if S i then n else n+1)))):cW .lB [.ref a,.int i] g Q:=#[_,_,#[a,i,S,n,rfl,hg,hn,rfl,rfl],h]
def Ve{S:Int->Bool}(hg:g[a]?=!.set S n):nr .lB (.ref a) g:=#[a,S,n,rfl,hg]
def Vn(h:Q (.ref (-g)) (g++[.set (λk=>decide (k=i)) 1])):cW (.lA i) [] g Q:=#[_,_,#[rfl,rfl,rfl],h]
def KC(hl:d5 g a=!ns.map .int)(h:Q (.int ns.sum) g):cW .sum [.ref a] g Q:=#[_,_,#[a,ns,rfl,hl,rfl,rfl],h]
def bE7(hl:d5 g a=!ns.map .int)(hz:-ns<60)(h:Q (.int (ST.i9 [] ns).length) g):cW .Z8 [.ref a] g Q:=#[_,_,#[a,ns,rfl,hl,hz,rfl,rfl],h]
def Zn(hl:d5 g a=!ns.map .int)(h:Q (.bl (ns.all λn=>n != 0)) g):cW .all [.ref a] g Q:=#[_,_,#[a,_,_,rfl,hl,.inr #[ns,rfl,rfl],rfl,rfl],h]
def FP(c:qD i j)(h:Q (.int (i*2 ^ j.toNat)) g):cW (.bin .LShift) [.int i,.int j] g Q:=#[_,_,.inl #[i,j,_,rfl,#[c,rfl],rfl,rfl],h]
def yd(h:Q (.int (Builtin.bitAnd i j)) g):cW (.bin .BitAnd) [.int i,.int j] g Q:=#[_,_,.inl #[i,j,_,rfl,rfl,rfl,rfl],h]
def XQ(h:Q (.int (Builtin.bitOr i j)) g):cW (.bin .BitOr) [.int i,.int j] g Q:=#[_,_,.inl #[i,j,_,rfl,rfl,rfl,rfl],h]
def MR{U:S}{i:Nat}{p:Pr}{v:ME}(e:U[i]?=!!x)(h:bt P v U g (λz g1=>cW p [x,z] g1 λw g2=>N.nx (U.set i (!w)) g2) E):wpS P (.lP i p v) N U g E:=#[x,e,h]
def bF9(h:Q (.int (i-j)) g):cW .oy [.int i,.int j] g Q:=#[_,_,#[i,j,rfl,rfl,rfl],h]
def min2(h:Q (.int (if j<i then j else i)) g):cW .min [.int i,.int j] g Q:=#[_,_,#[rfl,.inl #[i,j,rfl,rfl]],h]
def ZP{v:Bool}(h:Q (.int (if v then 1 else 0)) g):cW .int [.bl v] g Q:=#[_,_,#[rfl,.inr #[v,rfl,rfl]],h]
def Kl{kvs:@&D}{x:Str}(hv:R8 kvs x=!v)(h:Q v g):cW .oU [.tup kvs,.str x] g Q:=#[_,_,#[kvs,x,rfl,hv,rfl],h]
def ye{i:Nat}{v:Bool}(hl:d5 g i=!l)(hv:Y9 l=!v)(h:Q (.bl v) g):cW .all [.ref i] g Q:=#[_,_,#[i,l,v,rfl,hl,.inl hv,rfl,rfl],h]
def i8{i:Nat}{U:S}{k:S->Prop}(h:k (U.set i (!x))):kE (.one i) x U k:=h
def C5{is:@&Nat}{U cA:S}{k:S->Prop}(e:S1 is l U=!cA)(h:k cA):kE (.many is) (.tup l) U k:=#[l,cA,rfl,e,h]
end
def T1:∀(bs:@&Bool),Y9 (bs.map D.bl)=!bs.all id:=by
 intro bs
 induction bs with
 |nil=>rfl
 |cons b r ih=>simp[Y9,ih]
def call_of{T:Nat->Option bj}{k f:Nat}{m:bj}{ds:@&D}{Q:KD}(hT:T f=!m)(hl:-ds=m.ar)(h:wpS (c5 T k) m.body #[λx g'=>Q .bK g',Q,λx x=>False,λx x=>False] (d4 m ds) g E):c5 T (k+1) f ds g Q E:=#[m,hT,hl,h]
abbrev IK.Is(k:IK)(l:@&D)(g:G):Prop:=∀i,k.at i g=some l[i]?
def t8:(IK.fix l).Is l g:=λx=>rfl
def o6(h:d5 g a=!l):(IK.lst a).Is l g:=λi=>by simp only[IK.at,h]
abbrev nZ(l:@&D):@&D:=l.mapIdx λi d=>.tup [.int i,d]
def Ao(h:d5 g a=!l):(IK.qv a).Is (nZ l) g:=λi=>by
 simp only[IK.at,h,nZ,List.getElem?_mapIdx]
def bF8(h:d5 g a=!l):(IK.uA a (-l)).Is l.reverse g:=λi=>by
 simp only[IK.at,h,if_true];by_cases hi:i< -l
 .rw[aI hi,List.getElem?_reverse hi]
 .rw[aE hi,aT (by simpa using hi)]
def Q5(l:@&D):(nZ l).length=-l:=by simp[nZ]
def AE(h:(nZ l)[i]?=!x):∃d,l[i]?=!d/\x=.tup [.int i,d]:=by
 rw[nZ,List.getElem?_mapIdx,ae] at h;let#[d,h1,h2]:=h;exact#[d,h1,h2.symm]
def x8{lo:Int}(h:(l9 lo n)[i]?=!x):i<n/\x=.int (lo+i):=by
 unfold l9 at h;let hi:i<n:=by
  have:=(aw.mp h).1;simpa using this
 rw[ai,cB hi] at h;cases h;exact#[hi,rfl]
def n4(lo:Int)(n:Nat):(l9 lo n).length=n:=by simp[l9]
section
variable{U:S}{it a c:ME}{s:MS}{t:MT}{Q:KD}
def Ou{k:IK}{fin:S->G->Prop}{turn:D->(S->G->Prop)->S->G->Prop}(I:Nat->S->G->Prop)(hk:∀i U g,I i U g->k.Is l g)(h0:I 0 U g)(hs:∀i x U g,l[i]?=!x->I i U g->turn x (I (i+1)) U g)(hd:∀U g,I (-l) U g->fin U g):turns k U g fin turn:=by
 refine#[λi m U g=>m=-l-i/\i<=-l/\I i U g,#[(-l),by simp,cc _,h0],?_];rintro i m U g ⟨rfl,hi,p⟩;rw[hk i U g p i];by_cases eE:i< -l
 .rw[ag eE];exact .inr #[_,rfl,I (i+1),λcA g' p'=>#[(-l)-(i+1),by omega,rfl,eE,p'],hs i l[i] U g (ag eE) p]
 .let e:i=-l:=by omega
  subst e;rw[aT (av _)];exact .inl #[rfl,hd U g p]
inductive yU(P:gi)(t:MT)(s:MS)(N:Ends)(E:KX)(U:S)(k:IK)(g1:G):Prop
 |mk (l:@&D) (I:Nat->S->G->Prop) (hk:∀i U g,I i U g->k.Is l g) (h0:I 0 U g1)
   (hs:∀i x U g,l[i]?=!x->I i U g->kE t x U λcQ=>wpS P s #[I (i+1),N.rt,N.nx,I (i+1)] cQ g E) (hd:∀U g,I (-l) U g->N.nx U g):yU P t s N E U k g1
def v5(hP:j9 P)(h:iO P it U g (yU P t s N E U) E):wpS P (.dX t it s) N U g E :=
 E3 hP it _ _ _ _ _ _ (λk g1 hq=>by let#[l,I,hk,h0,hs,hd]:=hq;exact Ou I hk h0 hs hd) (λx x z=>z) h
def aZ7(hn:(n:Int)<2 ^ 62)(I:Nat->S->G->Prop)(h0:I 0 U g)(hs:∀(i:Nat) U g,i<n->I i U g->kE t (.int i) U λcQ=>wpS P s #[I (i+1),N.rt,N.nx,I (i+1)] cQ g E)(hd:∀U g,I n U g->N.nx U g):wpS P (.dX t (.eY (.lit (.int n))) s) N U g E:=by
 refine#[n,rfl,by omega,hn,Ou (l:=l9 0 n) I (λy y y y=>t8) h0 (λi x U g hx p=>?_) (λU g p=>hd U g (by rw[n4] at p;exact p))];let#[hi,rfl]:=x8 hx;have:=hs i U g hi p;rw[show(0:Int)+(i:Int)=i by omega];exact this
inductive CompI(P:gi)(t:MT)(cond elt:ME)(E:KX)(Q:KD)(U:S)(k:IK)(g1:G):Prop
 |mk (l:@&D) (I:Nat->@&D->S->G->Prop) (hl:-l<=1000) (hk:∀i ys U g,I i ys U g->k.Is l g/\-ys<=i) (h0:I 0 [] U g1)
   (hs:∀i x ys U g,l[i]?=!x->I i ys U g->kE t x U λcQ=>eX P cond cQ g (λc g3=>if c=true then bt P elt cQ g3 (λy g4=>I (i+1) (ys++[y]) cQ g4) E else I (i+1) ys cQ g3) km)
   (hd:∀ys U g,I (-l) ys U g->Q (.ref (-g)) (g++[.lst ys])):CompI P t cond elt E Q U k g1
def J9(hP:j9 P)(h:iO P it U g (CompI P t cond elt km Q (L1 U d8 n)) E):bt P (.comp d8 n t it cond elt) U g Q E:=by
 refine E3 hP it _ _ _ _ _ _ (λk g1 h=>?_) (λx x z=>z) h;let#[l,I,hl,hk,h0,hs,hd]:=h;refine#[λi m ys U g=>m=-l-i/\i<=-l/\I i ys U g,#[(-l),by simp,cc _,h0],?_];rintro i m ys U g ⟨rfl,hi,p⟩;let#[pG,hy]:=hk i ys U g p;rw[pG i];by_cases eE:i< -l
 .rw[ag eE];refine .inr #[_,rfl,by omega,B8 (λcQ q=>x4 hP cond _ _ _ _ _ _ (λc g3 q=>?_) (λx x z=>z) q) (hs i l[i] ys U g (ag eE) p)];cases c
  .exact#[(-l)-(i+1),by omega,rfl,eE,by simpa using(show I (i+1) ys cQ g3 from q)]
  .exact d0 hP elt _ _ _ _ _ _ (λy g4 q=>#[(-l)-(i+1),by omega,rfl,eE,by simpa using q]) (λx x z=>z) q
 .let e:i=-l:=by omega
  subst e;rw[aT (av _)];exact .inl #[rfl,hd ys U g p]
inductive yO(P:gi)(t:MT)(cond elt:ME)(Q:KD)(U:S)(k:IK)(g1:G):Prop
 |mk (l:@&D) (I:Nat->@&Int->S->G->Prop) (hl:-l<60) (hk:∀i ys U g,I i ys U g->k.Is l g/\-ys<=i) (h0:I 0 [] U g1)
   (hs:∀i x ys U g,l[i]?=!x->I i ys U g->kE t x U λcQ=>eX P cond cQ g (λc g3=>if c=true then bt P elt cQ g3 (λy g4=>∃j,y=.int j/\I (i+1) (ys++[j]) cQ g4) km else I (i+1) ys cQ g3) km)
   (hd:∀ys U g,I (-l) ys U g->Q (.ref (-g)) (g++[.lst ((u7 ys).map .int)])):yO P t cond elt Q U k g1
def Wl(hP:j9 P)(h:iO P it U g (yO P t cond elt Q (L1 U d8 n)) E):bt P (.iQ d8 n t it cond elt) U g Q E:=by
 refine E3 hP it _ _ _ _ _ _ (λk g1 h=>?_) (λx x z=>z) h;let#[l,I,hl,hk,h0,hs,hd]:=h;refine#[λi m ys U g=>m=-l-i/\i<=-l/\I i ys U g,#[(-l),by simp,cc _,h0],?_];rintro i m ys U g ⟨rfl,hi,p⟩;let#[pG,hy]:=hk i ys U g p;rw[pG i];by_cases eE:i< -l
 .rw[ag eE];refine .inr #[_,rfl,by omega,B8 (λcQ q=>x4 hP cond _ _ _ _ _ _ (λc g3 q=>?_) (λx x z=>z) q) (hs i l[i] ys U g (ag eE) p)];cases c
  .exact#[(-l)-(i+1),by omega,rfl,eE,by simpa using(show I (i+1) ys cQ g3 from q)]
  .refine d0 hP elt _ _ _ _ _ _ (λy g4 q=>?_) (λx x z=>z) q;let#[j,e,q]:=q;exact#[j,e,(-l)-(i+1),by omega,rfl,eE,by simpa using q]
 .let e:i=-l:=by omega
  subst e;rw[aT (av _)];exact .inl #[rfl,by omega,hd ys U g p]
def aR7(hP:j9 P)(h:bt P a U g (λx g1=>∃j:Nat,x=.int j/\j<=1000/\∃I:Nat->@&D->S->G->Prop,I 0 [] (L1 U d8 n) g1/\(∀i ys U g,I i ys U g->-ys<=i) /\
      (∀(i:Nat) ys U g,i<j->I i ys U g->kE t (.int i) U λcQ=>eX P cond cQ g (λc g3=>if c=true then bt P elt cQ g3 (λy g4=>I (i+1) (ys++[y]) cQ g4) km else I (i+1) ys cQ g3) km) /\
      ∀ ys U g,I j ys U g->Q (.ref (-g)) (g ++ [.lst ys])) E):bt P (.comp d8 n t (.eY a) cond elt) U g Q E:=by
  refine J9 hP ?_;refine d0 hP a _ _ _ _ _ _ (λx g1 h=>?_) (λw w z=>z) h;let#[j,rfl,hj,I,h0,hz,hs,hd]:=h;refine#[j,rfl,by omega,by omega,_,I,by rw[n4];simpa using hj,λi ys U g p=>#[t8,hz i ys U g p],h0,λi x ys U g hx p=>?_,λys U g p=>hd ys U g (by rw[n4] at p;simpa using p)];let#[hi,rfl]:=x8 hx;rw[show(0:Int)+(i:Int)=i by omega];exact hs i ys U g (by simpa using hi) p
def aR6(hP:j9 P)(h:bt P a U g (λx g1=>∃l,x=.tup l/\-l<=1000/\∃I:Nat->@&D->S->G->Prop,I 0 [] (L1 U d8 n) g1/\(∀i ys U g,I i ys U g->-ys<=i) /\
      (∀(i:Nat) x ys U g,l[i]?=!x->I i ys U g->kE t x U λcQ=>eX P cond cQ g (λc g3=>if c=true then bt P elt cQ g3 (λy g4=>I (i+1) (ys++[y]) cQ g4) km else I (i+1) ys cQ g3) km) /\
      ∀ ys U g,I (-l) ys U g->Q (.ref (-g)) (g ++ [.lst ys])) E):bt P (.comp d8 n t (.fE a) cond elt) U g Q E:=by
  refine J9 hP ?_;refine d0 hP a _ _ _ _ _ _ (λx g1 h=>?_) (λw w z=>z) h;let#[l,rfl,hj,I,h0,hz,hs,hd]:=h;exact .inl #[l,rfl,_,I,hj,λi ys U g p=>#[t8,hz i ys U g p],h0,hs,hd]
def NL(I:Nat->S->G->Prop)(m0:Nat)(h0:I m0 U g)(hs:∀m U g,I m U g->eX P c U g (λt g1=>if t=true then wpS P s #[λcA g'=>∃m',m'<m/\I m' cA g',N.rt,N.nx,λcA g'=>∃m',m'<m/\I m' cA g'] U g1 E else N.nx U g1) E)(hP:j9 P):wpS P (.lh c s) N U g E:=by
 refine#[I,#[m0,h0],λm U g p=>x4 hP c _ _ _ _ _ _ (λt g1 q=>?_) (λx x z=>z) (hs m U g p)];cases t
 .exact q
 .exact#[_,λx x z=>z,q]
def O3(hP:j9 P)(h:bt P a U g (λx g1=>∃j:Int,x=.int j/\-(2 ^ 62)<=j/\j<2 ^ 62/\R (.fix (l9 0 j.toNat)) g1) E):iO P (.eY a) U g R E:=h
def uG(hP:j9 P)(h:bt P a U g (λx g1=>∃l,x=.tup l/\R (.fix l) g1) E):iO P (.fE a) U g R E:=by
 exact d0 hP a _ _ _ _ _ _ (λx g1 h=>.inl h) (λy y z=>z) h
def lT(hP:j9 P)(h:bt P a U g (λx g1=>∃i l,x=.ref i/\d5 g1 i=!l/\R (.lst i) g1) E):iO P (.fE a) U g R E:=by
 exact d0 hP a _ _ _ _ _ _ (λx g1 h=>.inr h) (λy y z=>z) h
def QH(h:bt P a U g (λx g1=>∃i l,x=.ref i/\d5 g1 i=!l/\R (.uA i (-l)) g1) E):iO P (.pA a) U g R E:=h
def Cv(h:bt P a U g (λx g1=>∃i l,x=.ref i/\d5 g1 i=!l/\R (.qv i) g1) E):iO P (.mD a) U g R E:=h
end
end M
namespace M
open PySem L2 PySem.Spec PyProof.Rows
variable{K:PySem.W.Frag}{x:Str}{C:Addr}
structure RF where
 id:Nat
 nm:Str
 N:@&Str
 k:Nat
 i:Nat
 m:bj
structure RM where
 id:Nat
 cl:Str
 nm:Str
 qn:Str
 N:@&Str
 k:Nat
 i:Nat
 j:Nat
 m:bj
abbrev RF.d(tp:Nat->Stmt)(r:RF):qU:=#[r.nm,r.nm,r.N,r.N.take r.k,tp r.i]
abbrev RM.d(mt:Nat->Nat->Stmt)(r:RM):qU:=#[r.nm,r.qn,r.N,r.N.take r.k,mt r.i r.j]
abbrev vo(F:@&RF)(M:@&RM)(i:Nat):Option bj:=match F.find? λr=>Nat.beq r.id i with
 |some r=>!r.m
 |none=>(M.find? λr=>Nat.beq r.id i).map (·.m)
section
variable(tp:Nat->Stmt)(mt:Nat->Nat->Stmt)(K:PySem.W.Frag)
abbrev PF:@&RF->Prop
 |[]=>True
 |r::l=>(∃f fd,PySem.W.nsIn K mainGlobals r.nm=!!.ref f/\sk K r.nm r.nm (tp r.i) f fd)/\PF l
abbrev PM:@&RM->Prop
 |[]=>True
 |r::l=>(∃C f fd,PySem.W.nsIn K mainGlobals r.cl=!!.ref C/\Meth K C r.nm f/\sk K r.nm r.qn (mt r.i r.j) f fd)/\PM l
abbrev PC:@&(Str×Nat)->Prop
 |[]=>True
 |r::l=>(∃C,PySem.W.nsIn K mainGlobals r.1=!!.ref C/\kW K C/\PySem.W.makesIn K C=true/\PySem.W.keepIn K (.ref C)=true)/\PC l
abbrev PA:@&(Str×Str)->Prop
 |[]=>True
 |r::l=>(∃C,PySem.W.nsIn K mainGlobals r.2=!!.ref C/\PySem.W.findIn K (.ref C) r.1=!none)/\PA l
abbrev PB:@&Str->Prop
 |[]=>True
 |r::l=>PySem.W.nsIn K mainGlobals r=!none/\PB l
abbrev PX:@&Str->Prop
 |[]=>True
 |r::l=>(∃C,PySem.W.nsIn K mainGlobals r=!!.ref C/\PySem.W.excIn K C [.type "ValueError",.type "Exception",.type "BaseException",.type "object"] "ValueError.__new__"=true)/\PX l
abbrev BF:@&RF->Prop
 |[]=>True
 |r::l=>(∀(kV doc pm:Value) (an:Option Addr) (gJ ct:Value) (us:@&Value),(-us)=(r.N.take r.k).length->bindArgs (PySem.W.fnOf r.nm r.nm (C9 (tp r.i)) (v8 (tp r.i)) (u9 (tp r.i)) .none kV doc pm an gJ ct) #[us,[]]=pure ((r.N.take r.k).zip us))/\BF l
abbrev BM:@&RM->Prop
 |[]=>True
 |r::l=>(∀(kV doc pm:Value) (an:Option Addr) (gJ ct:Value) (us:@&Value),(-us)=(r.N.take r.k).length->bindArgs (PySem.W.fnOf r.nm r.qn (C9 (mt r.i r.j)) (v8 (mt r.i r.j)) (u9 (mt r.i r.j)) .none kV doc pm an gJ ct) #[us,[]]=pure ((r.N.take r.k).zip us))/\BM l
abbrev YF(c:j8):@&RF->Prop
 |[]=>True
 |r::l=>A6 (comp 60) (c.at (r.d tp)) (v8 (tp r.i))=!r.m.body/\YF c l
abbrev YM(c:j8):@&RM->Prop
 |[]=>True
 |r::l=>A6 (comp 60) (c.at (r.d mt)) (v8 (mt r.i r.j))=!r.m.body/\YM c l
end
section
variable{tp:Nat->Stmt}{mt:Nat->Nat->Stmt}{c:j8}{id k i j:Nat}{cl nm qn:Str}{N:@&Str}{m:bj}{f:Addr}{oc kV doc pm gJ ct:Value}{od an:Option Addr}{nU:Array (Option Value)}
def PF.nil:PF tp K []:=trivial
def PF.cons{l:@&RF}(a:PySem.W.nsIn K mainGlobals nm=!!.ref f)(lk:K.lookup f=!#[oc,od,.func (PySem.W.fnOf nm nm (C9 (tp i)) (v8 (tp i)) (u9 (tp i)) .none kV doc pm an gJ ct),nU])(cd:PySem.W.codeIn K gJ nm=true)(kp:PySem.W.keepIn K (.ref f)=true)(h:PF tp K l):PF tp K (#[id,nm,N,k,i,m]::l):=#[#[f,_,a,OK lk cd kp],h]
def PM.nil:PM mt K []:=trivial
def PM.cons{l:@&RM}(c0:PySem.W.nsIn K mainGlobals cl=!!.ref C)(a:PySem.W.findIn K (.ref C) nm=!!.ref f)(af:PySem.W.isFn K (.ref f)=true)(lk:K.lookup f=!#[oc,od,.func (PySem.W.fnOf nm qn (C9 (mt i j)) (v8 (mt i j)) (u9 (mt i j)) .none kV doc pm an gJ ct),nU])(cd:PySem.W.codeIn K gJ qn=true)(kp:PySem.W.keepIn K (.ref f)=true)(h:PM mt K l):PM mt K (#[id,cl,nm,qn,N,k,i,j,m]::l):=#[#[C,f,_,c0,#[a,af,kp],OK lk cd kp],h]
def PC.nil:PC K []:=trivial
def PC.cons{l:@&(Str×Nat)}(cn:PySem.W.nsIn K mainGlobals x=!!.ref C)(cp:PySem.W.plainGet K C Str.empty=true)(To:PySem.W.hasDictIn K C=true)(Ti:PySem.W.plainOver K C=true)(Th:PySem.W.findIn K (.ref C) "__setattr__"=!!(.builtin "object.__setattr__"))(Tj:PySem.W.makesIn K C=true)(Tn:PySem.W.keepIn K (.ref C)=true)(h:PC K l):PC K ((x,i)::l):=#[#[C,cn,#[cp,To,Ti,Th],Tj,Tn],h]
def PA.nil:PA K []:=trivial
def PA.cons{l:@&(Str×Str)}(cn:PySem.W.nsIn K mainGlobals x=!!.ref C)(fl:PySem.W.findIn K (.ref C) nm=!none)(h:PA K l):PA K ((nm,x)::l):=#[#[C,cn,fl],h]
def PB.nil:PB K []:=trivial
def PB.cons{l:@&Str}(cn:PySem.W.nsIn K mainGlobals x=!none)(h:PB K l):PB K (x::l):=#[cn,h]
def PX.nil:PX K []:=trivial
def PX.cons{l:@&Str}(cn:PySem.W.nsIn K mainGlobals x=!!.ref C)(q:PySem.W.excIn K C [.type "ValueError",.type "Exception",.type "BaseException",.type "object"] "ValueError.__new__"=true)(h:PX K l):PX K (x::l):=#[#[C,cn,q],h]
def HC{P:@&Value->Prop}{n:Nat}(h:∀a vs,(-vs)=n->P (a::vs))(us:@&Value)(hl:-us=n+1):P us:=by
 cases us with
 |nil=>cases hl
 |cons a vs=>exact h a vs (Nat.succ.inj hl)
def HB{P:@&Value->Prop}(h:P [])(us:@&Value)(hl:-us=0):P us:=by
 simp_all
def BF.nil:BF tp []:=trivial
def BF.cons{l:@&RF}(h:∀(kV doc pm:Value) (an:Option Addr) (gJ ct:Value) (us:@&Value),(-us)=(N.take k).length->bindArgs (PySem.W.fnOf nm nm (C9 (tp i)) (v8 (tp i)) (u9 (tp i)) .none kV doc pm an gJ ct) #[us,[]]=pure ((N.take k).zip us))(h2:BF tp l):BF tp (#[id,nm,N,k,i,m]::l):=#[h,h2]
def BM.nil:BM mt []:=trivial
def BM.cons{l:@&RM}(h:∀(kV doc pm:Value) (an:Option Addr) (gJ ct:Value) (us:@&Value),(-us)=(N.take k).length->bindArgs (PySem.W.fnOf nm qn (C9 (mt i j)) (v8 (mt i j)) (u9 (mt i j)) .none kV doc pm an gJ ct) #[us,[]]=pure ((N.take k).zip us))(h2:BM mt l):BM mt (#[id,cl,nm,qn,N,k,i,j,m]::l):=#[h,h2]
def YF.nil:YF tp c []:=trivial
def YF.cons{l:@&RF}(h:A6 (comp 60) (c.at #[nm,nm,N,N.take k,tp i]) (v8 (tp i))=!m.body)(h2:YF tp c l):YF tp c (#[id,nm,N,k,i,m]::l):=#[h,h2]
def YM.nil:YM mt c []:=trivial
def YM.cons{l:@&RM}(h:A6 (comp 60) (c.at #[nm,qn,N,N.take k,mt i j]) (v8 (mt i j))=!m.body)(h2:YM mt c l):YM mt c (#[id,cl,nm,qn,N,k,i,j,m]::l):=#[h,h2]
def YF.get:∀{l:@&RF},YF tp c l->∀r∈l,A6 (comp 60) (c.at (r.d tp)) (v8 (tp r.i))=!r.m.body
 |_::_,h,r,hr=>(aL.mp hr).elim (λz=>z▸h.1) (YF.get h.2 r)
def YM.get:∀{l:@&RM},YM mt c l->∀r∈l,A6 (comp 60) (c.at (r.d mt)) (v8 (mt r.i r.j))=!r.m.body
 |_::_,h,r,hr=>(aL.mp hr).elim (λz=>z▸h.1) (YM.get h.2 r)
def PF.get:∀{l:@&RF},PF tp K l->∀r∈l,∃f fd,PySem.W.nsIn K mainGlobals r.nm=!!.ref f/\sk K r.nm r.nm (tp r.i) f fd
 |_::_,h,r,hr=>(aL.mp hr).elim (λz=>z▸h.1) (PF.get h.2 r)
def PM.get:∀{l:@&RM},PM mt K l->∀r∈l,∃C f fd,PySem.W.nsIn K mainGlobals r.cl=!!.ref C/\Meth K C r.nm f/\sk K r.nm r.qn (mt r.i r.j) f fd
 |_::_,h,r,hr=>(aL.mp hr).elim (λz=>z▸h.1) (PM.get h.2 r)
def PC.get:∀{l:@&(Str×Nat)},PC K l->∀r∈l,∃C,PySem.W.nsIn K mainGlobals r.1=!!.ref C/\kW K C/\PySem.W.makesIn K C=true/\PySem.W.keepIn K (.ref C)=true
 |_::_,h,r,hr=>(aL.mp hr).elim (λz=>z▸h.1) (PC.get h.2 r)
def PA.get:∀{l:@&(Str×Str)},PA K l->∀r∈l,∃C,PySem.W.nsIn K mainGlobals r.2=!!.ref C/\PySem.W.findIn K (.ref C) r.1=!none
 |_::_,h,r,hr=>(aL.mp hr).elim (λz=>z▸h.1) (PA.get h.2 r)
def PB.get:∀{l:@&Str},PB K l->∀r∈l,PySem.W.nsIn K mainGlobals r=!none
 |_::_,h,r,hr=>(aL.mp hr).elim (λz=>z▸h.1) (PB.get h.2 r)
def PX.get:∀{l:@&Str},PX K l->∀r∈l,∃C,PySem.W.nsIn K mainGlobals r=!!.ref C/\PySem.W.excIn K C [.type "ValueError",.type "Exception",.type "BaseException",.type "object"] "ValueError.__new__"=true
 |_::_,h,r,hr=>(aL.mp hr).elim (λz=>z▸h.1) (PX.get h.2 r)
def BF.get:∀{l:@&RF},BF tp l->∀r∈l,∀(kV doc pm:Value) (an:Option Addr) (gJ ct:Value) (us:@&Value),(-us)=(r.N.take r.k).length->bindArgs (PySem.W.fnOf r.nm r.nm (C9 (tp r.i)) (v8 (tp r.i)) (u9 (tp r.i)) .none kV doc pm an gJ ct) #[us,[]]=pure ((r.N.take r.k).zip us)
 |_::_,h,r,hr=>(aL.mp hr).elim (λz=>z▸h.1) (BF.get h.2 r)
def BM.get:∀{l:@&RM},BM mt l->∀r∈l,∀(kV doc pm:Value) (an:Option Addr) (gJ ct:Value) (us:@&Value),(-us)=(r.N.take r.k).length->bindArgs (PySem.W.fnOf r.nm r.qn (C9 (mt r.i r.j)) (v8 (mt r.i r.j)) (u9 (mt r.i r.j)) .none kV doc pm an gJ ct) #[us,[]]=pure ((r.N.take r.k).zip us)
 |_::_,h,r,hr=>(aL.mp hr).elim (λz=>z▸h.1) (BM.get h.2 r)
end
abbrev zo(N P:@&Str)(sc:Scope):Bool:=decide (sc.kind=.function)&&~~~sc.isCoroutine&&~~~sc.isGenerator&&decide N.Nodup&&decide (N.take (-P)=P)&&P.all (λx=>decide (sc.names.lookup x=!.local)||decide (sc.names.lookup x=!.cell))&&sc.names.all λy=>decide (y.2≠.free)
def OV{N P:@&Str}{sc:Scope}(h:zo N P sc=true):jD N P sc:=by
 unfold zo at h;simp only[Bool.and_eq_true,decide_eq_true_eq,Bool.not_eq_true',List.all_eq_true,Bool.or_eq_true] at h;let#[#[#[#[#[#[h1,h2],h3],h4],h5],h6],h7]:=h;exact#[h1,h2,h3,h4,h5,h6,h7]
set_option tactic.hygienic true in
def a33{h₀:Heap}{mg:Str->Option Value}{JX:@&Value}{newId:String}(X:K.In h₀)(G:h₀.Ns mainGlobals mg)(e:PySem.W.nsIn K mainGlobals x=!!.ref C)(q:PySem.W.excIn K C JX newId=true):PyProof.Rows.OwnCls x C JX newId mg h₀:=by
 refine#[cu X G e,?_];unfold PySem.W.excIn at q;split at q
 .rename_i dd cd sl ho;split at q
  .rename_i C' bm k0 k1 k2 k3 n k5 hm hs;simp only[Bool.and_eq_true,beq_iff_eq,Bool.not_eq_true'] at q;let#[#[#[#[#[z1,z2],xt],ht],cb],zE]:=q;subst z1;subst z2;let#[nm,bs,mro,ns,qn,hd,sn,sub,ab,col,del]:=cd;dsimp only at hm xt cb zE;subst hm xt;let rB:sl=(List.toArray [k0,k1,k2,k3,!.builtin n,k5]):=by
    let#[l]:=sl;simp only at hs;rw[hs]
   subst rB;exact#[bm,ns,nm,qn,bs,hd,sn,sub,ab,col,dd,k0,k1,k2,k3,k5,_,X _ _ ho,.of_isNs (PySem.W.isNs_of_in X cb),PySem.W.nsMap_none_of_in X cb zE,PySem.W.tail_of_in X ht]
  .cases q
 .cases q
abbrev V4(K:PySem.W.Frag)(x:Str):Addr:=match PySem.W.nsIn K mainGlobals x with
 |some (!.ref C)=>C
 |_=>0
abbrev Nc(K:PySem.W.Frag)(exc:@&Str):Bool:=exc.all λx=>exc.all λy=>decide (PySem.W.exmOne K (.ref (V4 K x)) (.ref (V4 K y))=!decide (x=y\/y="MintError"))
def bH1{exc:@&Str}(h:Nc K exc=true){y:Str}{C':Addr}(hx:exc.contains x=true)(hy:exc.contains y=true)(hC:w9 K x C)(Ju:w9 K y C'):PySem.W.exmOne K (.ref C) (.ref C')=!decide (x=y\/y="MintError"):=by
 let h1:=cY.mp h x (by simpa using hx);let h2:=bg (cY.mp h1 y (by simpa using hy));let e1:V4 K x=C:=by unfold V4;simp_all
 let e2:V4 K y=C':=by unfold V4;simp_all
 rw[e1,e2] at h2;exact h2
def EE{α:Type}{f:α->Nat}:∀{l:List α},(l.map f).Nodup->∀r∈l,l.find? (λx=>Nat.beq (f x) (f r))=!r
 |y::l,nd,r,hr=>by
  rw[cZ,dI] at nd;rcases aL.mp hr with rfl|hr
  .rw[List.find?_cons_of_pos];exact Nat.beq_refl _
  .rw[List.find?_cons_of_neg]
   .exact EE nd.2 r hr
   .intro z;exact nd.1 (aP.mpr #[r,hr,(jG z).symm])
def UN{α β:Type}{f:α->Nat}{g:β->Nat}{l:List α}{r:β}(h:g r∉l.map f):l.find? (λx=>Nat.beq (f x) (g r))=none:=by
 rw[kY];intro x hx z;exact h (aP.mpr #[x,hx,jG z])
section
variable{w:World}{h₀:Heap}{mg:Str->Option Value}{c:j8}{F:@&RF}{M:@&RM}{tp:Nat->Stmt}{mt:Nat->Nat->Stmt}
structure mX(K:PySem.W.Frag)(c:j8)(F:@&RF)(M:@&RM)(tp:Nat->Stmt)(mt:Nat->Nat->Stmt):Prop where
 qF:PF tp K F
 qM:PM mt K M
 qC:PC K c.cls
 qA:PA K c.pM
 qB:PB K c.blt
 qX:PX K c.exc
 xm:Nc K c.exc=true
structure mW(c:j8)(F:@&RF)(M:@&RM)(tp:Nat->Stmt)(mt:Nat->Nat->Stmt):Prop where
 cf:c.fns=F.map λr=>(r.nm,r.id)
 cm:c.rn=M.map λr=>(r.nm,r.cl,r.id)
 ci:c.cls.all (λy=>M.any λr=>decide (r.cl=y.1)&&decide (r.nm="__init__")&&Nat.beq r.id y.2)=true
 nd:(F.map (·.id)++M.map (·.id)).Nodup
 sF:F.all (λr=>zo r.N (r.N.take r.k) (u9 (tp r.i))&&decide (r.m.ar=(r.N.take r.k).length)&&decide (r.m.n=-r.N))=true
 sM:M.all (λr=>zo r.N (r.N.take r.k) (u9 (mt r.i r.j))&&decide (r.m.ar=(r.N.take r.k).length)&&decide (r.m.n=-r.N))=true
 oF:YF tp c F
 oM:YM mt c M
 bF:BF tp F
 bM:BM mt M
def Nz(I:mX K c F M tp mt)(X:mW c F M tp mt)(r:RF)(hr:r∈F):∃f fd,kB K c (r.d tp) r.m f fd/\PySem.W.nsIn K mainGlobals r.nm=!!.ref f/\vo F M r.id=!r.m:=by
 let#[f,fd,a,q]:=I.qF.get r hr;let s:=cY.mp X.sF r hr;simp only[Bool.and_eq_true,decide_eq_true_eq] at s;let o:=X.oF.get r hr;refine#[f,fd,#[q,q.binds (X.bF.get r hr),OV s.1.1,o,s.1.2,s.2],a,?_];unfold vo;rw[EE (f:=(·.id)) (cE.mp X.nd).1 r hr]
def NA(I:mX K c F M tp mt)(X:mW c F M tp mt)(r:RM)(hr:r∈M):∃C f fd,kB K c (r.d mt) r.m f fd/\PySem.W.nsIn K mainGlobals r.cl=!!.ref C/\Meth K C r.nm f/\vo F M r.id=!r.m:=by
 let#[C,f,fd,a,q1,q]:=I.qM.get r hr;let s:=cY.mp X.sM r hr;simp only[Bool.and_eq_true,decide_eq_true_eq] at s;let o:=X.oM.get r hr;refine#[C,f,fd,#[q,q.binds (X.bM.get r hr),OV s.1.1,o,s.1.2,s.2],a,q1,?_];let nd:=cE.mp X.nd;unfold vo;rw[UN (f:=λr:RF=>r.id) (g:=λr:RM=>r.id) (r:=r) (λz=>nd.2.2 _ z _ (aP.mpr #[r,hr,rfl]) rfl),EE (f:=λr:RM=>r.id) nd.2.1 r hr]
 rfl
def Uq(I:mX K c F M tp mt)(Y:mW c F M tp mt)(X:K.In h₀)(G:h₀.Ns mainGlobals mg)(con:∀x d,c.con.lookup x=!d->∃v u,mg x=!u/\RelV v u/\∀ρ H,f7 K ρ H d v)(tQ:∀x kvs,c.gd.lookup x=!kvs->∃A vs,mg x=!.ref A/\Bg K w.params A vs/\rX K kvs vs):oX w K mg c (vo F M):=by
 refine#[λx i hx=>?_,λx i hx=>?_,λx y i C hx hC=>?_,λf y C hx hC=>?_,con,λx hx=>?_,λx hx=>?_,λx y C C' hx hy hC Ju=>bH1 I.xm hx hy hC Ju,tQ]
 .let hm:=aX hx;rw[Y.cf] at hm;let#[r,hr,e]:=aP.mp hm;cases e;let#[f,fd,O,a,t]:=Nz I Y r hr;exact#[_,_,f,fd,t,O,cu X G a]
 .let hm:=aX hx;let h1:=cY.mp Y.ci _ hm;let#[r,hr,e]:=aU.mp h1;simp only[Bool.and_eq_true,decide_eq_true_eq] at e;let#[#[e1,e2],e3]:=e;let e3:=jG e3;let#[C,f,fd,O,a,q,t]:=NA I Y r hr;let#[C',a',hc,mk,kp]:=I.qC.get _ hm;rw[e1] at a;cases a.symm.trans a';rw[e2] at q;rw[e3] at t;exact#[C,_,_,f,fd,t,O,cu X G a,a,hc,#[mk,q.at_,q.fn,kp]]
 .rw[Y.cm] at hx;let#[r,hr,e]:=aP.mp hx;cases e;let#[C',f,fd,O,a,q,t]:=NA I Y r hr;cases a.symm.trans hC;exact#[_,_,f,fd,t,O,q]
 .let#[C',a,q]:=I.qA.get _ hx;cases a.symm.trans hC;exact q
 .exact PySem.W.mg_none_of X G (I.qB.get x (by simpa using hx))
 .let#[C,a,q]:=I.qX.get x (by simpa using hx);exact#[_,cu X G a,a,λbase pz xM=>#[_,_,_,_,a33 pz xM a q,PySem.F.excBase_ValueError]]
end
end M
namespace M
open PySem L2
variable{g g':G}{i j n k a b m c lo p t hl:Nat}{o o':O}{P:gi}{Q:KD}{E:KX}{N:Ends}{ms ns:@&Int}{l:@&D}{α:Type}{r:dy}{x f v:Int}{kvs:@&(Key×D)}{cs:@&b8}{kb:Bool->Prop}{rs:@&dy}{w:RW}{L H:@&Nat}
set_option hygiene false
local macro_rules|`(tactic|delta $x:ident)=>`(tactic|dsimp[$x:ident,d4,List.replicate])
local macro_rules|`(tactic|walk_at"w1")=>`(tactic|with_reducible first|refine V6 ?_|refine yj ?_|refine Bx ?_|refine Gq ?_|refine Uw ?_|refine bI4 ?_|refine NK ?_|refine UA ?_|refine Gp ?_|refine M9 ?_|refine BS ?_|(refine w_var (d:=?_) ?_ ?_;rotate_left;·with_unfolding_all rfl)|refine w_lit ?_|refine yK ?_|refine yJ ?_|refine Zj ?_|refine Uz ?_|refine Wi ?_|refine w_and ?_|refine w_or ?_|refine w_not ?_|refine w_ite ?_|refine Az ?_|refine Ux ?_|refine zh ?_|refine Bw ?_|refine V7 ?_|refine UB ?_|refine bI6 ?_|refine UC ?_|refine By ?_|refine Gs ?_|refine Zl ?_|refine Zm ?_|refine bI8 ?_|refine Ya ?_|refine X' ?_|refine XZ ?_|refine XX ?_|refine Zq ?_|refine Kd ?_|refine Zp ?_|refine ZC ?_|refine Zr ?_|refine Zv ?_|refine Zx ?_|refine Zw ?_|refine Zz ?_|refine ZA ?_|refine Zy ?_|refine tY ?_|refine Zs ?_|refine JO ?_|refine Zu ?_|refine JN ?_|refine FT ?_|refine Zg ?_|refine EB ?_|refine bG1 ?_|refine nu ?_|refine rZ ?_|refine KY ?_|refine Yj ?_|refine Z' ?_|refine BZ ?_|refine TV ?_|refine BY ?_|refine HP ?_|refine Ij ?_|refine HD ?_)
local macro_rules|`(tactic|walk_at"w2")=>`(tactic|repeat(with_reducible first|walk_at "w1"|refine Gf (by simp) ?_|refine Ge (by simp) ?_|refine s9 (a9 (by assumption)) (by with_unfolding_all rfl) ?_|refine E1 (a9 (by assumption)) ?_|refine FO (by unfold qD;decide) ?_))
local macro_rules|`(tactic|walk_at"w3")=>`(tactic|repeat(with_reducible first|walk_at "w1"|refine Gf (by simp) ?_|refine Ge (by simp) ?_|refine s9 (a9 (by assumption)) (by with_unfolding_all rfl) ?_|refine E1 (a9 (by assumption)) ?_|refine FO (by unfold qD;decide) ?_|refine And.intro (show List.length _ <= 1000 from by simp) ?_|refine C5 (by with_unfolding_all rfl) ?_|refine i8 ?_|refine x6 (by with_unfolding_all rfl) ?_))
local macro_rules|`(tactic|walk_at"")=>`(tactic|repeat(with_reducible first|walk_at "w1"|refine Wk ?_|refine bI5 ?_|refine Uy ?_|refine ZD ?_|refine bJ5 ?_|refine HE ?_|refine max2 ?_|refine min2 ?_|refine ZP ?_|refine W7 ?_|refine SH ?_|refine Jz ?_|refine Gf (by simp) ?_|refine Ge (by simp) ?_|refine s9 (a9 (by assumption)) (by with_unfolding_all rfl) ?_|refine E1 (a9 (by assumption)) ?_|refine FO (by unfold qD;decide) ?_|refine And.intro (show List.length _ <= 1000 from by simp) ?_|refine C5 (by with_unfolding_all rfl) ?_|refine i8 ?_|refine x6 (by with_unfolding_all rfl) ?_|refine And.intro (ON (by assumption)) ?_|refine And.intro (bD7 (by assumption)) ?_|refine And.intro (Yr (by assumption)) ?_|refine V1 (by decide) ?_|refine OC (by decide) (by decide) ?_|refine Cv ?_))
set_option hygiene true
@[inline]abbrev ff(a:ME):ME:=.cons a .nil
@[inline]abbrev eM(a b:ME):ME:=.cons a (.cons b .nil)
@[inline]abbrev gS(a b c:ME):ME:=.cons a (.cons b (.cons c .nil))
@[inline]abbrev mL(a b c d:ME):ME:=.cons a (.cons b (.cons c (.cons d .nil)))
@[inline]abbrev sE(a b c d e:ME):ME:=.cons a (.cons b (.cons c (.cons d (.cons e .nil))))
@[inline]abbrev xK(a b c d e f:ME):ME:=.cons a (.cons b (.cons c (.cons d (.cons e (.cons f .nil)))))
@[inline]abbrev DM(a b c d e f g:ME):ME:=.cons a (.cons b (.cons c (.cons d (.cons e (.cons f (.cons g .nil))))))
@[inline]abbrev dW(o:PySem.CmpOp)(a b:ME):ME:=.fR (.prim (.cmp o) (.cons a (.cons b .nil)))
@[inline]abbrev cN(a b:ME):ME:=.prim .ix (.cons a (.cons b .nil))
@[inline]abbrev bo(a:Int):ME:=.lit (.int a)
@[inline]abbrev gA(a:PySem.Str):ME:=.lit (.str a)
@[inline]abbrev dh(p:Pr)(a:ME):ME:=.prim p (.cons a .nil)
@[inline]abbrev bR(p:Pr)(a b:ME):ME:=.prim p (.cons a (.cons b .nil))
@[inline]abbrev aK:ME:=.var 0
@[inline]abbrev bq:ME:=.var 1
@[inline]abbrev rz:ME:=.var 10
@[inline]abbrev mM:ME:=.var 12
@[inline]abbrev wN:ME:=.var 13
@[inline]abbrev rq:ME:=.var 15
@[inline]abbrev wM:ME:=.var 16
@[inline]abbrev bw:ME:=.var 2
@[inline]abbrev bz:ME:=.var 3
@[inline]abbrev cF:ME:=.var 4
@[inline]abbrev dU:ME:=.var 5
@[inline]abbrev eL:ME:=.var 6
@[inline]abbrev gI:ME:=.var 7
@[inline]abbrev jc:ME:=.var 8
@[inline]abbrev qa:ME:=.var 9
abbrev J6:bj:=#[2,5,(.seq (.ifs (.dZ (dW .Lt (cN aK (bo 2)) bq) (dW .Lt (cN aK (bo 1)) (dh .len (cN aK (bo 0))))) (.seq (.set 2 (cN (cN aK (bo 0)) (cN aK (bo 1)))) (.seq (.fc aK (bo 1) (bR (.bin .Add) (cN aK (bo 1)) (bo 1))) (.seq (.fc aK (bo 2) (bo 0)) (.seq (.ifs (dW .GtE bw (bR (.bin .Pow) (bo 10) (bo 18))) (.seq (.fc aK (bo 2) bw) .pass) (.seq (.fc aK (bo 3) (bR (.bin .Mod) (bR (.bin .Add) (bR (.bin .Add) (bR (.bin .Mult) (cN aK (bo 3)) (bo 48271)) (bR (.bin .Mult) (bR (.bin .Mod) bw (bo 2147483629)) (bo 69621))) (bo 12345)) (bo 2147483647))) .pass)) .pass)))) .pass) (.seq (.ifs (dW .GtE (cN aK (bo 2)) bq) (.seq (.set 3 (bR (.bin .Mod) (cN aK (bo 2)) bq)) (.seq (.fc aK (bo 2) (bR (.bin .FloorDiv) (cN aK (bo 2)) bq)) (.seq (.ret bz) .pass))) .pass) (.seq (.set 4 (cN aK (bo 3))) (.seq (.fc aK (bo 3) (bR (.bin .Mod) (bR (.bin .Add) (bR (.bin .Add) (bR (.bin .Mult) (bR (.bin .Mod) (bR (.bin .Mult) cF cF) (bo 2147483629)) (bo 5)) (bR (.bin .Mult) cF (bo 16811))) (bo 2531011)) (bo 2147483647))) (.seq (.ret (bR (.bin .Mod) (bR (.bin .Add) (bR (.bin .FloorDiv) (cN aK (bo 3)) (bo 59)) (bR (.bin .Mult) (bR (.bin .Mod) (cN aK (bo 3)) (bo 8191)) (bo 31))) bq)) .pass)))))]
structure m9(g:G)(d:Nat):Prop where
 ex:∃(s:Nat) (p b r:Int) (xs:@&Int),g[d]?=!.lst [.ref s,.int p,.int b,.int r]/\g[s]?=!.lst (xs.map .int)/\s<d/\0<=p/\0<=b/\0<=r/\r<2147483647
structure Gr(d:Nat)(g g':G):Prop where
 len:-g<=-g'
 old:∀i,i≠d->i< -g->g'[i]?=g[i]?
def Gr.refl(d:Nat)(g:G):Gr d g g:=#[av _,λx x x=>rfl]
def Gr.trans{d:Nat}{g g1 g2:G}(a:Gr d g g1)(b:Gr d g1 g2):Gr d g g2:=#[aD a.len b.len,λi h1 h2=>(b.old i h1 (aF h2 a.len)).trans (a.old i h1 h2)]
def Gr.set(d:Nat)(g:G)(o:O):Gr d g (g.set d o):=#[by simp,λi h1 h2=>aA (cy h1)]
def Gr.snoc(d:Nat)(g:G)(o:O):Gr d g (g++[o]):=#[by simp,λi h1 h2=>aN h2]
def Gr.at{d:Nat}(h:Gr d g g')(hi:i≠d)(e:g[i]?=!o):g'[i]?=!o:=(h.old i hi (aw.mp e).1).trans e
def m8(h:g[i]?=!o):i< -g:=(aw.mp h).1
def m9.lt{d:Nat}(h:m9 g d):d< -g:=by
 let#[_,_,_,_,_,e,_]:=h.ex;exact m8 e
def m9.snoc{d:Nat}(h:m9 g d)(o:O):m9 (g++[o]) d:=by
 let#[s,p,b,r,xs,e1,e2,q]:=h.ex;exact#[s,p,b,r,xs,by rw[aN (m8 e1)];exact e1,by rw[aN (m8 e2)];exact e2,q]
abbrev n5:MS->MS
 |.seq _ b=>b
 |x=>x
def Gz{i j:Int}(h1:-(2 ^ 64)<i)(h2:i<2 ^ 64):qz i j:=.inl #[h1,h2]
def vD{i j:Int}(h1:-(2 ^ 64)<j)(h2:j<2 ^ 64):qz i j:=.inr #[h1,h2]
def a18{d:Nat}{n:Int}{c2:Option D}(hN:N.rt=Q)(D0:m9 g d)(hn:0<n)(nV:n<1073741824)(h:∀r g',0<=r->r<n->m9 g' d->Gr d g g'->Q (.int r) g'):wpS P (n5 J6.body) N [!.ref d,!.int n,c2,none,none] g E:=by
 let#[s,p,b,r,xs,e1,e2,qc,hp,hb,hr,rC]:=D0.ex;let eE:=m8 e1;subst hN;dsimp[J6,n5];walk_at "w2";refine if2 (λc=>?_) (λc=>?_)
 .walk_at "w2";refine V1 hn ?_;walk_at "w2";refine Bh #[hn,nV] ?_;walk_at "w2";refine X8 e1 (by rfl) ?_;walk_at "w2";refine h _ _ (fJ _ ()) (eT _ hn) #[s,p,b / n,r,xs,?_,?_,qc,hp,Int.ediv_nonneg hb (),hr,rC] (Gr.set d g _)
  .rw[bh eE];rfl
  .rw[aA (cz qc)];exact e2
 .walk_at "w2";let HQ:-(2 ^ 64)<r/\r<2 ^ 64:=#[by omega,by omega]
  refine O9 (Gz HQ.1 HQ.2) ?_;refine V1 ∅ ?_;refine O9 (vD ∅ ∅) ?_;walk_at "w2";refine O9 (vD ∅ ∅) ?_;walk_at "w2";refine V1 ∅ ?_;walk_at "w2";refine X8 e1 (by rfl) ?_;generalize fu:(r*r % 2147483629*5+r*16811+2531011) % 2147483647=r';let q0:0<=r':=by rw[<- fu];exact fJ _ ∅
  let q1:r'<2147483647:=by rw[<- fu];exact eT _ ∅
  let Td:(g.set d (.lst [.ref s,.int p,.int b,.int r']))[d]?=!.lst [.ref s,.int p,.int b,.int r']:=bh eE;change wpS P _ _ _ (g.set d (.lst [.ref s,.int p,.int b,.int r'])) E;walk_at "w2";refine Bh #[by decide,by decide] ?_;walk_at "w2";refine V1 ∅ ?_;refine O9 (vD ∅ ∅) ?_;walk_at "w2";refine V1 hn ?_;refine h _ _ (fJ _ ()) (eT _ hn) #[s,p,b,r',xs,Td,?_,qc,hp,hb,q0,q1] (Gr.set d g _);rw[aA (cz qc)];exact e2
def j5{T:Nat->Option bj}(hT:T 4=!J6){d:Nat}{n:Int}(D0:m9 g d)(hn:0<n)(nV:n<1073741824)(h:∀r g',0<=r->r<n->m9 g' d->Gr d g g'->Q (.int r) g'):c5 T (k+1) 4 [.ref d,.int n] g Q E:=by
 let#[s,p,b,r,xs,e1,e2,qc,hp,hb,hr,rC]:=D0.ex;let eE:=m8 e1;refine call_of hT rfl ?_;let tail:∀(g':G) (c2:Option D),m9 g' d->Gr d g g'->wpS (c5 T k) (n5 J6.body) #[λx g'=>Q .bK g',Q,λx x=>False,λx x=>False] [!.ref d,!.int n,c2,none,none] g' E :=
  λg' c2 D1 gr=>a18 rfl D1 hn nV λr g2 a b c e=>h r g2 a b c (gr.trans e)
 delta J6;walk_at "w2";refine if2 (λc=>?_) (λc=>?_)
 .walk_at "w2";refine if2 (λc'=>?_) (λc'=>?_)
  .walk_at "w2";let iU:p.toNat< -xs:=by
    rw[ak] at c';omega
   let ea:gP (xs.map D.int) p=!.int xs[p.toNat]:=by
    have:=A7 (xs:=xs.map D.int) (j:=p.toNat) (v:=.int xs[p.toNat]) (by rw[ai,ag iU];rfl)
    rwa [show((p.toNat:Nat):Int)=p by omega] at this
   refine s9 (a9 e2) ea ?_;generalize xs[p.toNat]=cell;walk_at "w2";refine X8 e1 (by rfl) ?_;let f1:(g.set d (.lst [.ref s,.int (p+1),.int b,.int r]))[d]?=!.lst [.ref s,.int (p+1),.int b,.int r]:=bh eE;walk_at "w2";refine X8 f1 (by rfl) ?_;rw[jj];let f2:(g.set d (.lst [.ref s,.int (p+1),.int 0,.int r]))[d]?=!.lst [.ref s,.int (p+1),.int 0,.int r]:=bh eE;change wpS (c5 T k) _ _ _ (g.set d (.lst [.ref s,.int (p+1),.int 0,.int r])) E;walk_at "w2";refine if2 (λc2=>?_) (λc2=>?_)
   .walk_at "w2";refine X8 f2 (by rfl) ?_;rw[jj];refine tail _ _ #[s,p+1,cell,r,xs,bh eE,by rw[aA (cz qc)];exact e2,qc,by omega,?_,hr,rC] (Gr.set d g _);let Jv:(0:Int)<=10 ^ (18:Int).toNat:=by decide
    omega
   .walk_at "w2";refine O9 (vD ∅ ∅) ?_;walk_at "w2";refine V1 ∅ ?_;refine O9 (vD ∅ ∅) ?_;walk_at "w2";refine V1 ∅ ?_;walk_at "w2";refine X8 f2 (by rfl) ?_;rw[jj];exact tail _ _ #[s,p+1,0,_,xs,bh eE,by rw[aA (cz qc)];exact e2,qc,by omega,by decide,fJ _ ∅,eT _ ∅] (Gr.set d g _)
  .exact tail _ _ D0 (Gr.refl _ _)
 .exact tail _ _ D0 (Gr.refl _ _)
abbrev Fs:bj:=#[1,1,(.seq (.ret (.dZ (bR .isin aK (.lit (.ty "int"))) (.eK (bR .isin aK (.lit (.ty "bool")))))) .pass)]
abbrev Z2:bj:=#[3,3,(.seq (.ret (.dZ (.call 38 (ff aK)) (.chain .LtE .LtE bq aK bw))) .pass)]
structure NF(T:Nat->Option bj):Prop where
 nf:T 1=!Z2
 is:T 38=!Fs
abbrev N9:bj:=#[1,3,(.seq (.set 1 (bo 0)) (.seq (.dX (.one 2) (.fE aK) (.seq (.ifs (.eK (.fR (.call 1 (gS bw bq (bo 7))))) (.seq (.ret (.lit (.bl false))) .pass) .pass) (.seq (.set 1 (bR (.bin .Add) bw (bo 1))) .pass))) (.seq (.ret (.lit (.bl true))) .pass)))]
abbrev Bs:bj:=#[1,1,(.seq (.ret (.prim .lst (mL (dh .list (bR (.nP false true) aK (bo 63))) (bo 0) (bo 0) (bo 29)))) .pass)]
abbrev yH:bj:=#[1,1,(.seq (.ret (.dZ (bR .isin aK (.lit (.ty "int"))) (.eK (bR .isin aK (.lit (.ty "bool")))))) .pass)]
abbrev J7:bj:=#[2,2,(.seq (.ifs (dW .Is bq (.lit .bK)) (.seq (.ret (bR (.cmp .Is) aK (.lit .bK))) .pass) .pass) (.seq (.ifs (.fR (bR .isin bq (.lit (.ty "bool")))) (.seq (.ret (.dZ (bR .isin aK (.lit (.ty "bool"))) (bR (.cmp .Eq) aK bq))) .pass) .pass) (.seq (.ifs (.fR (bR .isin bq (.lit (.ty "int")))) (.seq (.ret (.dZ (.call 6 (ff aK)) (bR (.cmp .Eq) aK bq))) .pass) .pass) (.seq (.ifs (.fR (bR .isin bq (.lit (.ty "str")))) (.seq (.ret (.dZ (bR .isin aK (.lit (.ty "str"))) (bR (.cmp .Eq) aK bq))) .pass) .pass) (.seq (.ifs (.jL (dW .NotEq (bR .isin bq (.lit (.ty "tuple"))) (bR .isin aK (.lit (.ty "tuple")))) (dW .NotEq (bR .isin bq (.lit (.ty "list"))) (bR .isin aK (.lit (.ty "list"))))) (.seq (.ret (.lit (.bl false))) .pass) .pass) (.seq (.ifs (dW .NotEq (dh .len aK) (dh .len bq)) (.seq (.ret (.lit (.bl false))) .pass) .pass) (.seq (.ret (dh .all (.comp [1,0] 4 (.one 3) (.eY (dh .len bq)) .no (.call 7 (eM (cN bq bz) (cN aK bz)))))) .pass)))))))]
def M6{g:G}{n:Nat}:∀ms:@&Int,(ms.map D.int).mapM (rd g n)=!ms.map PyData.int
 |[]=>rfl
 |m::r=>by
  rw[cZ,List.mapM_cons,M6 r];cases n<;>rfl
def lay_ints:∀ms:@&Int,PyData.canLayAll0 (ms.map PyData.int)=true
 |[]=>by rfl
 |m::r=>by simp[PyData.canLayAll0,PyData.canLay0,lay_ints r]
def Z9:∀ms ns:@&Int,PyData.eqvAll (ms.map PyData.int) (ns.map PyData.int)=decide (ms=ns)
 |[],[]=>by rfl
 |[],_::_=>by rfl
 |_::_,[]=>by rfl
 |m::r,n::q=>by
  simp only[List.map_cons,PyData.eqvAll,PyData.eqv,Z9 r q];by_cases h:m=n
  .subst h;simp
  .simp[h]
def Fl{i:Int}{k:Bool->Prop}(h:k (ms.any λm=>m==i)):rA g (.int i) (.tup (ms.map .int)) k:=by
 refine#[_,.inr #[_,_,_,rfl,M6 ms,rfl,lay_ints ms,by rfl,rfl],?_];rw[mn];exact h
def a59{k:Bool->Prop}(ha:d5 g a=!ms.map .int)(hb:d5 g b=!ns.map .int)(h:k (decide (ms=ns))):tS g (.ref a) (.ref b) k:=by
 refine#[_,.inr (.inr (.inr #[.list (ms.map .int),.list (ns.map .int),?_,?_,?_,?_,rfl])),?_]
 .simp only[rd];rw[ha];dsimp only;rw[M6];rfl
 .simp only[rd];rw[hb];dsimp only;rw[M6];rfl
 .simp[PyData.canLay0,lay_ints]
 .simp[PyData.canLay0,lay_ints]
 .simp only[PyData.eqv,Z9];exact h
section
variable{T:Nat->Option bj}{d:Nat}
def MC(h1:NF T){i:Int}(h:Q (.bl true) g):c5 T (k+1) 38 [.int i] g Q E:=by
 refine call_of h1.is rfl ?_;delta Fs;walk_at "w2";refine gX (c:="int") (b:=true) ∅ rfl ?_;walk_at "w2";refine gX (c:="bool") (b:=false) ∅ rfl ?_;walk_at "w2";exact h
def B3(h1:NF T){i l m:Int}(h:Q (.bl (decide (l<=i)&&decide (i<=m))) g):c5 T (k+2) 1 [.int i,.int l,.int m] g Q E:=by
 refine call_of h1.nf rfl ?_;delta Z2;walk_at "w2";refine MC h1 ?_;walk_at "w2";refine if2 (λc=>?_) (λc=>?_)
 .rw[az c] at h;walk_at "w2";exact h
 .rw[aM c] at h;exact h
abbrev gm:Int->@&Int->Bool
 |_,[]=>true
 |l,x::r=>(decide (l<=x)&&decide (x<=7))&&gm (x+1) r
def MJ(h1:NF T)(h2:T 2=!N9)(h:Q (.bl (gm 0 ms)) g):c5 T (k+3) 2 [.tup (ms.map .int)] g Q E:=by
 refine call_of h2 rfl ?_;refine v5 (b0 T _) (uG (b0 T _) ?_);walk_at "w2";refine#[_,rfl,_,λi U g'=>g'=g/\∃(l:Int) (z:Option D),U=[!.tup (ms.map .int),!.int l,z]/\gm 0 ms=gm l (ms.drop i),λy y y y=>t8,#[rfl,0,none,rfl,rfl],λi x U g' hx p=>?_,λU g' p=>?_]
 .let#[rfl,l,z,rfl,e]:=p;rw[ai] at hx;cases em:ms[i]? with
  |none=>rw[em] at hx;cases hx
  |some m =>
   rw[em] at hx;cases hx;let hi:=(aw.mp em).1;let ed:ms.drop i=m::ms.drop (i+1):=by
    rw[dH hi]
    congr 1
    exact(aw.mp em).2
   rw[ed] at e;simp only[gm] at e;change wpS _ _ _ _ _ _;walk_at "w2";refine B3 h1 ?_;walk_at "w2";cases hc:(decide (l<=m)&&decide (m<=7)) with
   |true =>
    rw[hc,sv] at e;walk_at "w2";exact#[rfl,m+1,!.int m,rfl,e]
   |false =>
    rw[hc,Bool.false_and] at e;rw[e] at h;exact h
 .let#[rfl,l,z,rfl,e]:=p;rw[eR #[_]] at e;rw[e] at h;exact h
def Vl(h3:T 3=!Bs)(hg:g[a]?=!.qp (ns.map .int))(h:∀d g',m9 g' d->-g<=d->(∀i,i< -g->g'[i]?=g[i]?)->Q (.ref d) g'):c5 T (k+1) 3 [.ref a] g Q E:=by
 refine call_of h3 rfl ?_;delta Bs;walk_at "w2";refine Ay (a49 hg) ?_;refine Bq (l:=cut (ns.map D.int) none (!63)) (a9 #[_]) ?_;walk_at "w2";let ec:cut (ns.map D.int) none (!63)=(cut ns none (!63)).map D.int:=by
  unfold cut;simp[List.map_take,List.map_drop]
 refine h _ _ #[(-g)+1,0,0,29,cut ns none (!63),?_,?_,?_,by decide,by decide,by decide,by decide] #[_] (λi hi=>?_)
 .simp
 .rw[<- ec];simp
 .simp
 .simp[List.getElem?_append,hi,Nat.lt_of_lt_of_le hi (by omega:-g<=-g+1),Nat.lt_of_lt_of_le hi (by omega:-g<=-g+1+1)]
end
def Km:∀{ms:@&Int} {l:Int},ms.Pairwise (· < ·)->(∀m∈ms,l<=m/\m<=7)->gm l ms=true
 |[],_,_,_=>rfl
 |m::r,l,hp,h=>by
  let#[h1,h2]:=fO.mp hp;let hm:=h m #[_];simp only[gm];rw[az hm.1,az hm.2,Km h2 λx hx=>#[by have:=h1 x hx;omega,(h x (by simp[hx])).2]]
  rfl
def M4{l:List α}{r:Int}(h0:0<=r)(h1:r< -l):∃v,gP l r=!v/\v∈l:=by
 let hi:r.toNat< -l:=by omega
 refine#[l[r.toNat],?_,cK hi];have:=A7 (xs:=l) (j:=r.toNat) (v:=l[r.toNat]) (ag hi)
 rwa [show((r.toNat:Nat):Int)=r by omega] at this
section
variable{T:Nat->Option bj}
def Nj(h7:T 7=!J7){a b:Bool}(h:Q (.bl (a==b)) g):c5 T (k+1) 7 [.bl a,.bl b] g Q E:=by
 refine call_of h7 rfl ?_;delta J7;walk_at "w2";walk_at "w2";refine gX (c:="bool") (b:=true) ∅ rfl ?_;walk_at "w2";refine gX (c:="bool") (b:=true) ∅ rfl ?_;walk_at "w2";exact h
end
abbrev E0:bj:=#[1,8,(.seq (.nj (.many [1,2,3,4,5]) aK) (.seq (.set 6 (.dZ (.call 1 (gS bq (bo 1) (bo 99))) (.call 2 (ff bw)))) (.seq (.set 7 (.dZ (.call 1 (gS bz (bo 1) (bo 99))) (.call 2 (ff cF)))) (.seq (.ret (.dZ eL (.dZ gI (.call 1 (gS dU (bo 0) (bo 9999)))))) .pass))))]
structure b8 where
 lo:Int
 lm:@&Int
 up:Int
 um:@&Int
 yr:Int
abbrev b8.d(c:b8):D:=.tup [.int c.lo,.tup (c.lm.map .int),.int c.up,.tup (c.um.map .int),.int c.yr]
abbrev A2(c:b8):Bool:=((decide (1<=c.lo)&&decide (c.lo<=99))&&gm 0 c.lm)&&(((decide (1<=c.up)&&decide (c.up<=99))&&gm 0 c.um)&&(decide (0<=c.yr)&&decide (c.yr<=9999)))
section
variable{T:Nat->Option bj}{d:Nat}
def aJ2(h1:NF T)(h2:T 2=!N9)(uY:T 12=!E0){c:b8}(h:Q (.bl (A2 c)) g):c5 T (k+4) 12 [c.d] g Q E:=by
 refine call_of uY rfl ?_;dsimp[E0,d4,List.replicate,b8.d];walk_at "w3";refine B3 h1 ?_;let s1:∀b:Bool,b=((decide (1<=c.lo)&&decide (c.lo<=99))&&gm 0 c.lm)->wpS (c5 T (k+3)) (n5 (n5 E0.body)) #[λx g'=>Q .bK g',Q,λx x=>False,λx x=>False] [!c.d,!.int c.lo,!.tup (c.lm.map .int),!.int c.up,!.tup (c.um.map .int),!.int c.yr,!.bl b,none] g E:=by
  intro b hb;dsimp[E0,n5];walk_at "w3";refine B3 h1 ?_;let s2:∀b':Bool,b'=((decide (1<=c.up)&&decide (c.up<=99))&&gm 0 c.um)->wpS (c5 T (k+3)) (n5 (n5 (n5 E0.body))) #[λx g'=>Q .bK g',Q,λx x=>False,λx x=>False] [!c.d,!.int c.lo,!.tup (c.lm.map .int),!.int c.up,!.tup (c.um.map .int),!.int c.yr,!.bl b,!.bl b'] g E:=by
   intro b' lX;dsimp[E0,n5];let e:A2 c=(b&&(b'&&(decide (0<=c.yr)&&decide (c.yr<=9999)))):=by unfold A2;rw[hb,lX]
   rw[e] at h;walk_at "w3";cases b
   .exact rZ h
   .refine nu ?_;walk_at "w3";cases b'
    .exact rZ h
    .refine nu ?_;walk_at "w3";exact B3 h1 h
  refine EB ?_;cases hc:(decide (1<=c.up)&&decide (c.up<=99)) with
  |false=>exact rZ (s2 false (by rw[hc];rfl))
  |true =>
   refine nu ?_;walk_at "w1";walk_at "w1";walk_at "w1";walk_at "w1";exact MJ h1 h2 (s2 _ (by rw[hc];rfl))
 refine EB ?_;cases hc:(decide (1<=c.lo)&&decide (c.lo<=99)) with
 |false=>exact rZ (s1 false (by rw[hc];rfl))
 |true =>
  refine nu ?_;walk_at "w1";walk_at "w1";walk_at "w1";walk_at "w1";exact MJ h1 h2 (s1 _ (by rw[hc];rfl))
end
abbrev W3:bj:=#[2,5,(.seq (.set 2 (dh .list bq)) (.seq (.set 3 (.prim .lst .nil)) (.seq (.dX (.one 4) (.eY (dh .len bq)) (.seq (.expr (.fo .append bz (ff (.fo .pop bw (ff (.call 4 (eM aK (dh .len bw)))))))) .pass)) (.seq (.ret bz) .pass))))]
def LZ{α:Type}:∀{l:List α} {j:Nat} (h:j< -l),(l[j]::l.eraseIdx j).Perm l
 |a::r,0,_=>by simp
 |a::r,j+1,h=>by
  simp only[List.getElem_cons_succ,List.eraseIdx_cons_succ];exact(List.Perm.swap _ _ _).trans ((LZ (l:=r) (j:=j) (by simpa using h)).cons a)
def Gr.M0{d x:Nat}(h:Gr d g g')(hx:-g<=x):Gr d g (g'.set x o):=#[by simp[h.len],λi h1 h2=>by rw[aA ()];exact h.old i h1 h2]
def m9.M0{d x:Nat}(h:m9 g d)(hx:d<x):m9 (g.set x o) d:=by
 let#[s,p,b,r,xs,e1,e2,hs,q]:=h.ex;exact#[s,p,b,r,xs,by rw[aA ()];exact e1,by rw[aA ()];exact e2,hs,q]
def b7:(g++[o])[(-g)]?=!o:=by simp
def u6(h:g[i]?=!o):(g++[o'])[i]?=!o:=by rw[aN (m8 h)];exact h
def get_set(h:g[i]?=!o):(g.set i o')[i]?=!o':=bh (m8 h)
def d6(h:g[i]?=!o)(hn:j≠i):(g.set j o')[i]?=!o:=by rw[aA hn];exact h
section
variable{T:Nat->Option bj}{d:Nat}
def Mv(h4:T 4=!J6)(Ds:T 21=!W3)(ha:g[a]?=!.lst l)(hl:-l<=1000)(hd:a≠d)(D0:m9 g d)(h:∀(l':@&D) b g',l'.Perm l->g'[b]?=!.lst l'->-g<=b->m9 g' d->Gr d g g'->Q (.ref b) g'):c5 T (k+2) 21 [.ref d,.ref a] g Q E:=by
 refine call_of Ds rfl ?_;delta W3;show Bq (a9 ha) ?_;left;let dl:=D0.lt;refine v5 (b0 T _) (O3 (b0 T _) ?_);left;let zV:(g++[O.lst l]++[O.lst []])[a]?=!.lst l:=u6 (u6 ha);refine E1 (a9 zV) ?_;refine #[_,rfl,by omega,by omega,l9 0 (-l),λi U g'=>∃ left found w,U=[!.ref d,!.ref a,!.ref (-g),!.ref (-g + 1),w]/\(left ++ found).Perm l/\-left + i=-l/\g'[(-g)]?=!.lst left/\g'[(-g) + 1]?=!.lst found/\m9 g' d/\Gr d g g',
  λi U g p=>t8,?_,λi x U g' hx p=>?_,λU g' p=>?_]
 .refine#[l,[],none,?_,by simp,by simp,?_,?_,(D0.snoc _).snoc _,(Gr.snoc _ _ _).trans (Gr.snoc _ _ _)]
  .simp
  .exact u6 b7
  .have:=b7 (g:=g++[O.lst l]) (o:=O.lst []);simpa using this
 .let#[left,found,w,rfl,hp,hn,e1,e2,D1,G1]:=p;let#[hi,rfl]:=x8 hx;change wpS _ _ _ _ _ _;show j5 (n:=(-left:Int)) h4 D1 () () λr g2 r0 r1 D2 G2=>?_;let f1:=G2.at () e1;let f2:=G2.at () e2;let hr:r.toNat< -left:=by omega
  show bN2 (j:=r.toNat) f1 () (ag hr) () ?_;show U6 (d6 f2 ()) ?_ ?_
  .have:=hp.length_eq;simp at this;omega
  show#[_,_,_,rfl,?_,?_,d6 (get_set f1) (),get_set (d6 f2 ()),(D2.M0 ()).M0 (),((G1.trans G2).M0 ()).M0 ()]
  .refine List.Perm.trans ?_ hp;have:=LZ hr;refine List.Perm.trans ?_ (fY found this);simp only[List.cons_append];rw[<- bW];exact(List.perm_append_singleton _ _)
  .rw[hX hr];omega
 .let#[left,found,w,rfl,hp,hn,e1,e2,D1,G1]:=p;change wpS _ _ _ _ _ _;left;rw[n4] at hn;have:left=[]:=eO ();subst this;exact h _ _ _ (by simpa using hp) e2 () D1 G1
end
abbrev AN:bj:=#[1,5,(.seq (.set 1 (.prim .lst (DM (.prim .tup .nil) (dh .tup (bo 0)) (bR .tup (bo 0) (bo 1)) (dh .tup (bo 1)) (.prim .tup (gS (bo 0) (bo 1) (bo 2))) (.prim .tup (mL (bo 0) (bo 1) (bo 2) (bo 7))) (dh .tup (bo 2))))) (.seq (.set 2 (cN bq (.call 4 (eM aK (cN (bR .tup (bo 4) (bo 7)) (dh .int (bR (.cmp .Eq) (.call 4 (eM aK (bo 4))) (bo 0)))))))) (.seq (.set 3 (cN bq (.call 4 (eM aK (bo 5))))) (.seq (.set 4 (cN (.prim .lst (xK (bo 0) (bo 0) (bo 1400) (bo 1400) (bo 1401) (bo 1))) (.call 4 (eM aK (bo 6))))) (.seq (.ret (.prim .tup (sE (bR (.bin .Add) (bo 1) (.call 4 (eM aK (bo 3)))) bw (bR (.bin .Add) (bo 1) (.call 4 (eM aK (bo 4)))) bz cF))) .pass)))))]
abbrev K7:bj:=#[4,4,(.seq (.ifs (.jL (dW .Eq (dh .len bq) (bo 0)) (.dZ (dW .Lt (dh .len bq) bz) (dW .Eq (.call 4 (eM aK (bo 3))) (bo 0)))) (.seq (.expr (.fo .append bq (ff bw))) (.seq (.ret (bR (.bin .Add) bw (bo 1))) .pass)) .pass) (.seq (.ifs (dW .Eq (.call 4 (eM aK (bo 5))) (bo 0)) (.seq (.fc bq (.call 4 (eM aK (dh .len bq))) bw) (.seq (.ret (bR (.bin .Add) bw (bo 1))) .pass)) .pass) (.seq (.ret bw) .pass)))]
structure kA(c:b8):Prop where
 good:A2 c=true
 l8:-c.lm<=8
 u8:-c.um<=8
def kA.mk'{lo up yr:Int}{lm um:@&Int}(h1:1<=lo)(h2:lo<=99)(h3:1<=up)(h4:up<=99)(h5:0<=yr)(h6:yr<=9999)(h7:gm 0 lm=true)(h8:gm 0 um=true)(h9:-lm<=8)(Jv:-um<=8):kA #[lo,lm,up,um,yr]:=by
 refine#[?_,h9,Jv];simp only[A2,h7,h8,decide_eq_true h1,decide_eq_true h2,decide_eq_true h3,decide_eq_true h4,decide_eq_true h5,decide_eq_true h6]
 rfl
def kA.inv{c:b8}(h:kA c):(1<=c.lo/\c.lo<=99)/\gm 0 c.lm=true/\(1<=c.up/\c.up<=99)/\gm 0 c.um=true/\0<=c.yr/\c.yr<=9999:=by
 have:=h.good;unfold A2 at this;simp only[Bool.and_eq_true,decide_eq_true_eq] at this;let#[#[#[a,b],e],#[#[c',d],f],p,q]:=this;exact#[#[a,b],e,#[c',d],f,p,q]
abbrev Y3:@&(@&Int):=[[],[0],[0,1],[1],[0,1,2],[0,1,2,7],[2]]
def Vc:∀ms∈Y3,gm 0 ms=true/\-ms<=8:=by decide
def Nl{r:Int}(h0:0<=r)(h7:r<7):∃ms,gP (Y3.map λms=>D.tup (ms.map .int)) r=!.tup (ms.map .int)/\gm 0 ms=true/\-ms<=8:=by
 let#[v,hv,hm]:=M4 (l:=Y3.map λms=>D.tup (ms.map .int)) h0 (by simpa[Y3] using h7);let#[ms,h1,rfl]:=aP.mp hm;exact#[ms,hv,Vc ms h1]
section
variable{T:Nat->Option bj}{d:Nat}
def aN4(h4:T 4=!J6)(Sr:T 22=!AN)(D0:m9 g d)(h:∀c g',kA c->m9 g' d->Gr d g g'->Q c.d g'):c5 T (k+2) 22 [.ref d] g Q E:=by
 refine call_of Sr rfl ?_;delta AN;let dl:=D0.lt;left;let D1:=D0.snoc (.lst (Y3.map λms=>D.tup (ms.map .int)));let G1:=Gr.snoc d g (.lst (Y3.map λms=>D.tup (ms.map .int)));let e1:(g++[O.lst (Y3.map λms=>D.tup (ms.map .int))])[(-g)]?=!(.lst (Y3.map λms=>D.tup (ms.map .int))):=b7;refine j5 h4 D1 ∅ ∅ λr g2 r0 r1 D2 G2=>?_;left;let e2:=G2.at () e1;let hn:∃n:Int,gP [D.int 4,D.int 7] (if decide (r=0)=true then 1 else 0)=!.int n/\0<n/\n<=7:=by
  by_cases hr:r=0
  .exact#[7,by rw[az hr];rfl,by decide,by decide]
  .exact#[4,by rw[aM hr];rfl,by decide,by decide]
 let#[n,en,n0,n7]:=hn;refine x6 en ?_;show j5 h4 D2 n0 () λr3 g3 jA jK D3 G3=>?_;let e3:=G3.at () e2;let#[lm,el,gl,ll]:=Nl jA ();refine s9 (a9 e3) el ?_;show j5 h4 D3 ∅ ∅ λr4 g4 sP uB D4 G4=>?_;let e4:=G4.at () e3;let#[um,eu,gu,lu]:=Nl sP ();refine s9 (a9 e4) eu ?_;left;let e5:(g4++[O.lst [.int 0,.int 0,.int 1400,.int 1400,.int 1401,.int 1]])[(-g4)]?=!.lst [.int 0,.int 0,.int 1400,.int 1400,.int 1401,.int 1]:=b7;refine j5 h4 (D4.snoc _) ∅ ∅ λr5 g5 my mx D5 G5=>?_;let e6:=G5.at (by have:=D4.lt;omega) e5;let#[v,hv,hm]:=M4 (l:=[D.int 0,.int 0,.int 1400,.int 1400,.int 1401,.int 1]) my (by simpa using mx);let hy:∃y:Int,v=.int y/\0<=y/\y<=9999:=by
  simp only[List.mem_cons,List.mem_nil_iff,or_false] at hm;rcases hm with rfl|rfl|rfl|rfl|rfl|rfl<;>exact#[_,rfl,by decide,by decide]
 let#[y,rfl,y0,y1]:=hy;refine s9 (a9 e6) hv ?_;show j5 h4 D5 ∅ ∅ λr6 g6 HU HS D6 G6=>?_;show j5 h4 D6 ∅ ∅ λr7 g7 r70 r71 D7 G7=>?_;left;exact h #[1+r6,lm,1+r7,um,y] _ (kA.mk' () () () () y0 y1 gl gu ll lu) D7 (G1.trans (G2.trans (G3.trans (G4.trans ((Gr.snoc _ _ _).trans (G5.trans (G6.trans G7)))))))
abbrev FN(l:@&D)(f:Int):Prop:=∃ns:@&Int,l=ns.map .int/\∀n∈ns,1<=n/\n<f
def a11(h4:T 4=!J6)(xF:T 23=!K7)(ha:g[a]?=!.lst l)(hl:-l<1000)(hs:FN l f)(f1:1<=f)(hd:d<a)(D0:m9 g d)(h:∀(l':@&D) (f':Int) g',l'≠[]->-l'<=-l+1->FN l' f'->f<=f'->f'<=f+1->g'[a]?=!.lst l'->m9 g' d->(∀i,i≠d->i≠a->i< -g->g'[i]?=g[i]?)->-g<=-g'->Q (.int f') g'):c5 T (k+2) 23 [.ref d,.ref a,.int f,.int v] g Q E:=by
 refine call_of xF rfl ?_;let#[ns,rfl,qf]:=id hs;let app:∀g':G,g'[a]?=!.lst (ns.map D.int)->m9 g' d->Gr d g g'->wpS (c5 T (k+1)) (.seq (.expr (.fo .append (.var 1) (.cons (.var 2) .nil))) (.seq (.ret (.prim (.bin .Add) (.cons (.var 2) (.cons (.lit (.int 1)) .nil)))) .pass)) #[λjz g1=>wpS (c5 T (k+1)) (n5 K7.body) #[λx g'=>Q .bK g',Q,λx x=>False,λx x=>False] jz g1 E,Q,λx x=>False,λx x=>False] [!.ref d,!.ref a,!.int f,!.int v] g' E:=by
  intro g' e D1 G1;show U6 e () ?_;show h _ _ _ #[_] #[_] #[ns++[f],by simp,λn hn=>?_] () () (get_set e) (D1.M0 hd) (λi h1 h2 h3=>?_) (by simp[G1.len])
  .rcases aV.mp hn with z|z
   .have:=qf n z;omega
   .simp at z;omega
  .rw[aA (cy h2)];exact G1.old i h1 h3
 let rest:∀g':G,g'[a]?=!.lst (ns.map D.int)->ns≠[]->m9 g' d->Gr d g g'->wpS (c5 T (k+1)) (n5 K7.body) #[λx g'=>Q .bK g',Q,λx x=>False,λx x=>False] [!.ref d,!.ref a,!.int f,!.int v] g' E:=by
  intro g' e fQ D1 G1;dsimp[K7,n5];show j5 h4 D1 ∅ ∅ λr g2 r0 r1 D2 G2=>?_;let e2:=G2.at () e;let hlen:0< -ns:=Ht.mpr fQ;show if2 (λc=>?_) (λc=>?_)
  .left;rw[ak];refine j5 h4 D2 () (by simp at hl;omega) λr3 g3 jA jK D3 G3=>?_;let e3:=G3.at () e2;let hj:mB (ns.map D.int).length r3=!r3.toNat:=by
    unfold mB;rw[aI jA,aI (by rw[ak];exact jK)]
   refine X8 e3 hj ?_;show h _ _ _ (by simp[fQ]) #[_] #[ns.set r3.toNat f,by simp,λn hn=>?_] () () (get_set e3) (D3.M0 hd) (λi h1 h2 h3=>?_) (by simp[((G1.trans G2).trans G3).len])
   .rcases qW hn with z|z
    .have:=qf n z;omega
    .omega
   .rw[aA (cy h2)];exact((G1.trans G2).trans G3).old i h1 h3
  .left;exact h _ _ _ (by simp[fQ]) #[_] hs () () e2 D2 (λi h1 h2 h3=>(G1.trans G2).old i h1 h3) (G1.trans G2).len
 delta K7;show if2 (λc=>?_) (λc=>?_)
 .refine nu ?_;exact app g ha D0 (Gr.refl _ _)
 .let fQ:ns≠[]:=λz=>c (by rw[z];rfl);show if2 (λc2=>?_) (λc2=>?_)
  .show j5 h4 D0 ∅ ∅ λr g2 r0 r1 D2 G2=>?_;show if2 (λc3=>?_) (λc3=>?_)
   .exact app g2 (G2.at () ha) D2 G2
   .exact rest g2 (G2.at () ha) fQ D2 G2
  .exact rest g ha fQ D0 (Gr.refl _ _)
end
abbrev M7:bj:=#[3,17,(.seq (.set 3 (.prim .lst .nil)) (.seq (.set 4 (bo 1)) (.seq (.set 5 (.prim .W7 .nil)) (.seq (.set 6 (cN (.prim .lst (gS (bo 0) (bo 1) (bo 1350))) (.call 4 (eM aK (bo 3))))) (.seq (.set 7 (bR (.bin .Add) (bo 1) (.call 4 (eM aK (bo 96))))) (.seq (.set 8 (bR (.bin .Add) (bo 2) (.call 4 (eM aK (bo 4))))) (.seq (.set 9 (bR .max (bo 0) (bR (.bin .Sub) (.call 4 (eM aK (bo 9))) (bo 6)))) (.seq (.set 10 (.prim .lst .nil)) (.seq (.dX (.one 11) (.eY bq) (.seq (.set 4 (.call 23 (mL aK bz cF bw))) (.seq (.set 12 (bR .tup (cN bz (.call 4 (eM aK (dh .len bz)))) (bR (.bin .Add) (bo 50) (.call 4 (eM aK (bR (.bin .Add) (bo 2) bw)))))) (.seq (.dX (.one 13) (.fE mM) (.seq (.ifs (dW .Eq (.call 4 (eM aK jc)) (bo 0)) (.seq (.set 14 (.call 4 (eM aK (bo 8)))) (.seq (.fc dU wN (dh .tuple (.comp [13,14,5] 5 (.one 4) (.eY (bo 8)) (.jL (dW .Eq cF bq) (dW .In cF (.fo .get bw (eM aK (.prim .tup .nil))))) cF))) .pass)) .pass) .pass)) (.seq (.ifs (dW .Eq (.call 4 (eM aK (bo 5))) (bo 0)) (.seq (.set 6 (bR .min (bo 9999) (bR (.bin .Add) (bR (.bin .Add) eL (bo 1)) (.call 4 (eM aK (bo 9)))))) .pass) .pass) (.seq (.set 15 (.comp [9,7] 4 (.one 3) (.fE mM) .no (bR (.bin .Add) (bR (.bin .Add) (bo 1) aK) (bR (.bin .Mod) (bR (.bin .Mult) bz bq) (bo 97))))) (.seq (.set 16 (bR (.bin .Mult) eL (dh .int (bR (.cmp .Gt) (.call 4 (eM aK (bo 4))) (bo 0))))) (.seq (.expr (.fo .append rz (ff (.prim .tup (sE (cN rq (bo 0)) (.fo .get dU (eM (cN mM (bo 0)) (.prim .tup .nil))) (cN rq (bo 1)) (.fo .get dU (eM (cN mM (bo 1)) (.prim .tup .nil))) wM))))) .pass)))))))) (.seq (.ret rz) .pass))))))))))]
abbrev qG(kvs:@&(Key×D)):Prop:=∀k v,u5 kvs k=!v->∃ms:@&Int,v=.tup (ms.map .int)/\gm 0 ms=true/\-ms<=8
set_option tactic.hygienic true in
def a83(kvs:@&(Key×D))(k k':Key)(v:D):u5 (putD kvs k v) k'=if k'=k then some v else u5 kvs k':=by
 unfold putD;split
 .rename_i nB;let go:∀l:@&(Key×D),u5 (l.map λkv=>if kv.1=k then(kv.1,v) else kv) k'=if k'=k then(if(l.any λkv=>decide (kv.1=k))=true then some v else none) else u5 l k':=by
   intro l
   induction l with
   |nil=>simp[u5]
   |cons p r ih =>
    let#[pk,pv]:=p;by_cases e:pk=k
    .subst e;by_cases e2:k'=pk
     .subst e2;simp[u5]
     .have:¬pk=k':=λz=>e2 z.symm;unfold u5 at ih ⊢;simp[this,e2] at ih ⊢;exact ih
    .by_cases e2:k'=k
     .subst e2;unfold u5 at ih ⊢;rw[kQ,show decide (pk=k')=false from aM e,iN];simp[e] at ih ⊢;exact ih
     .unfold u5 at ih ⊢;simp only[List.map_cons,e,if_false,List.find?_cons];by_cases e3:pk=k'
      .simp[e3,e2]
      .simp[e3];simp[e2] at ih;simp[e2];exact ih
  rw[go,nB]
  rfl
 .rename_i nB;unfold u5;rw[mj];by_cases e:k'=k
  .subst e;have:kvs.find? (λkv=>decide (kv.1=k'))=none:=by
    rw[kY];intro x hx hd;exact nB (aU.mpr #[x,hx,hd])
   rw[this];simp
  .have:¬k=k':=λz=>e z.symm;simp[this,e]
def Xv(kvs:@&(Key×D))(k:Key)(v:D):(putD kvs k v).length<=-kvs+1:=by
 unfold putD;split<;>simp
def qG.put{k:Key}(h:qG kvs)(h1:gm 0 ms=true)(h2:-ms<=8):qG (putD kvs k (.tup (ms.map .int))):=λk' v hv=>by
 rw[a83] at hv;split at hv
 .cases hv;exact#[ms,rfl,h1,h2]
 .exact h k' v hv
def qG.get(h:qG kvs)(k:Key):∃ms:@&Int,(u5 kvs k).getD (.tup [])=.tup (ms.map .int)/\gm 0 ms=true/\-ms<=8:=by
 cases e:u5 kvs k with
 |none=>exact#[[],rfl,rfl,by simp]
 |some v=>let#[ms,rfl,h1,h2]:=h k v e;exact#[ms,rfl,h1,h2]
def a56(p:Int->Bool):gm 0 (((List.range 8).map λ(n:Nat)=>(n:Int)).filter p)=true/\(((List.range 8).map λ(n:Nat)=>(n:Int)).filter p).length<=8:=by
 refine#[Km (List.Pairwise.filter _ ∅) λm hm=>?_,aD (jI _ _) ∅];have:=(bD.mp hm).1;revert this;revert m;intro m _ hm;simp at hm;let#[a,ha,rfl]:=hm;omega
def List.ah4{l:List α}{x:α}(h:l[i]?=!x):l.set i x=l:=by
 apply bV;intro j;by_cases e:i=j
 .subst e;rw[bh (aw.mp h).1];exact h.symm
 .rw[aA e]
section
variable{T:Nat->Option bj}{d:Nat}
abbrev a82:MS:=match M7.body with
 |.seq _ (.seq _ (.seq _ (.seq _ (.seq _ (.seq _ (.seq _ (.seq _ (.seq (.dX _ _ (.seq _ (.seq _ (.seq (.dX _ _ b) _)))) _))))))))=>b
 |x=>x
def Wq(h4:T 4=!J6){w0:Nat}{key wr:Int}{U:S}(hw:g[w0]?=!.dB kvs)(W:qG kvs)(hk:-kvs<1000)(hr:0<wr)(rC:wr<1000)(hd:d<w0)(D0:m9 g d)(s0:U[0]?=!!.ref d)(s5:U[5]?=!!.ref w0)(s8:U[8]?=!!.int wr)(Qi:U[13]?=!!.int key)(sl:-U=17)(h:∀z kh g',g'[w0]?=!.dB kh->qG kh->-kh<=-kvs+1->m9 g' d->(∀i,i≠d->i≠w0->i< -g->g'[i]?=g[i]?)->-g<=-g'->N.nx (U.set 14 z) g'):wpS (c5 T (k+1)) a82 N U g E:=by
 obtain⟨nM,tT⟩:∃z,U[14]?=!z:=#[_,ag ()]
 refine V6 (Gp (Gs (yK (Az (V7 (w_var s0 (V7 (w_var s8 (Bw ?_)))))))));refine j5 h4 D0 hr () λr g2 r0 r1 D2 G2=>?_;show if2 (λc=>?_) (λc=>?_)
 .refine yj (Bx (Az (V7 (w_var s0 (V7 (w_lit (Bw ?_)))))));refine j5 h4 D2 ∅ ∅ λr3 g3 jA jK D3 G3=>?_;let e3:=(G2.trans G3).at () hw;let t5:(U.set 14 (!.int r3))[5]?=!!.ref w0:=by rw[aA ∅];exact s5
  let HF:(U.set 14 (!.int r3))[13]?=!!.int key:=by rw[aA ∅];exact Qi
  let Qc:(U.set 14 (!.int r3))[14]?=!!.int r3:=bh ();let#[ms,em,_,_]:=W.get (.inl key);refine V6 (NK (yJ ?_));refine aR7 (b0 T _) (w_lit #[8,rfl,by decide,λi ys cA g'=>g'=g3/\-ys<=i/\(∃z w,cA=[!.int key,!.int r3,!.ref w0,z,w])/\ys=((((List.range i).map λ(n:Nat)=>(n:Int)).filter λs=>decide (s=r3)||ms.any λm=>m==s).map D.int),#[rfl,by simp,#[none,none,?_],rfl],λi ys U g' p=>p.2.1,λi ys cA g' hi p=>?_,λys cA g' p=>?_])
  .simp[L1,HF,Qc,t5,List.replicate]
  .let#[rfl,hl,#[z,w,rfl],e]:=p;let er:(List.range (i+1)).map (λ(n:Nat)=>(n:Int))=(List.range i).map (λ(n:Nat)=>(n:Int))++[(i:Int)]:=by rw[fH];simp
   let yes:(decide ((i:Int)=r3)||ms.any λm=>m==(i:Int))=true->bt (c5 T (k+1)) (.var 4) [!.int key,!.int r3,!.ref w0,z,!.int i] g' (λy g4=>g4=g'/\(ys++[y]).length<=i+1/\(∃z' w',[!.int key,!.int r3,!.ref w0,z,!D.int i]=[!.int key,!.int r3,!.ref w0,z',w'])/\(ys++[y])=((((List.range (i+1)).map λ(n:Nat)=>(n:Int)).filter λs=>decide (s=r3)||ms.any λm=>m==s).map D.int)) km:=λhc=>by
    show#[rfl,by simp;omega,#[_,_,rfl],?_];rw[er,eQ,dJ,<- e];simp[hc]
   show if2 (λc1=>?_) (λc1=>?_)
   .refine nu ?_;exact yes (by rw[az c1];rfl)
   .show Ga e3 (k:=.inl key) rfl ?_;rw[em];refine qH (Fl ?_);left;cases hc:(ms.any λm=>m==(i:Int)) with
    |true =>
     refine nu ?_;exact yes (by rw[hc];simp)
    |false =>
     refine rZ ?_;refine#[rfl,by omega,#[_,_,rfl],?_];rw[er,eQ,dJ,<- e];simp[hc,c1]
  .let#[rfl,hl,_,e]:=p;subst e;refine bJ0 (a9 b7) ?_;let#[f1,f2]:=a56 λs=>decide (s=r3)||ms.any λm=>m==s
   refine w_var t5 (w_var HF ?_);refine Bt (u6 e3) (k:=.inl key) rfl () ?_;refine h _ _ _ (get_set (u6 e3)) (W.put f1 f2) (Xv _ _ _) ((D3.snoc _).M0 hd) (λi h1 h2 h3=>?_) ?_
   .rw[aA (cy h2),aN (aF h3 (G2.trans G3).len)];exact(G2.trans G3).old i h1 h3
   .have:=(G2.trans G3).len;simp;omega
 .refine M9 ?_;let e2:=G2.at () hw;have:=h nM kvs g2 e2 W () D2 (λi h1 h2 h3=>G2.old i h1 h3) G2.len
  rwa [List.ah4 tT] at this
end
section
variable{T:Nat->Option bj}{d:Nat}
abbrev U2:MS:=match M7.body with
 |.seq _ (.seq _ (.seq _ (.seq _ (.seq _ (.seq _ (.seq _ (.seq _ (.seq (.dX _ _ b) _))))))))=>b
 |x=>x
structure jS(d s0 w0 f0 i:Nat)(g:G)(f y:Int):Prop where
 HL:∃l,g[s0]?=!.lst l/\FN l f/\-l<=i
 fr:1<=f/\f<=1+i
 PL:∃kvs,g[w0]?=!.dB kvs/\qG kvs/\-kvs<=2*i
 found:∃cs:@&b8,g[f0]?=!.lst (cs.map b8.d)/\-cs=i/\∀c∈cs,kA c
 year:0<=y/\y<=9999
 dr:m9 g d
def aL8{s0 w0 f0 n0:Nat}{n y st wr sh:Int}{zg PK PJ PH BR BQ:Option D}(h4:T 4=!J6)(xF:T 23=!K7)(S:jS d s0 w0 f0 i g f y)(hi:i<=100)(hv:1<=v/\v<=100)(fh:1<=st/\st<=96)(kJ:0<wr/\wr<1000)(kS:0<=sh/\sh<=2)(o1:d<n0)(o2:n0<=s0)(o3:s0<w0)(o4:w0<f0)(h:∀f' y' vW ph nM vV vU g',jS d s0 w0 f0 (i+1) g' f' y'->(∀j,j≠d->j<n0->g'[j]?=g[j]?)->-g<=-g'->N.nx [!.ref d,!.int n,!.int v,!.ref s0,!.int f',!.ref w0,!.int y',!.int st,!.int wr,!.int sh,!.ref f0,zg,vW,ph,nM,vV,vU] g') :
  wpS (c5 T (k+2)) U2 N [!.ref d,!.int n,!.int v,!.ref s0,!.int f,!.ref w0,!.int y,!.int st,!.int wr,!.int sh,!.ref f0,zg,PK,PJ,PH,BR,BQ] g E:=by
 let#[#[l,es,hs,hl],#[f1,f2],#[kvs,ew,W,hk],#[cs,ef,hc,hg],#[y0,y1],D0]:=S;let lf:=m8 ef;dsimp[U2,M7];show a11 h4 xF es () hs f1 () D0 λl1 f' g1 fQ ky ID f3 f5 iF D1 pY iB=>?_;let JD:g1[w0]?=!.dB kvs:=(pY w0 () () (m8 ew)).trans ew;let JI:g1[f0]?=!.lst (cs.map b8.d):=(pY f0 () () lf).trans ef;left;let gT:0< -l1:=Ht.mpr fQ;refine j5 (n:=(-l1:Int)) h4 D1 () () λr2 g2 jr jq D2 G2=>?_;let qt:=G2.at () iF;let JC:=G2.at () JD;let JH:=G2.at () JI;let#[x,hx,hm]:=M4 (l:=l1) jr jq;let#[ns,rfl,qf]:=id ID;let#[k1,mQ,rfl]:=aP.mp hm;refine s9 (a9 qt) hx ?_;show j5 (n:=2+v) h4 D2 () () λr3 g3 jA jK D3 G3=>?_;let DX:=G3.at () qt;let JB:=G3.at () JC;let DZ:=G3.at () JH;left;let kb1:=qf k1 mQ;let wu:∀j,j≠d->j<n0->g3[j]?=g[j]?:=λj a b=>by
  let lj:j< -g:=by omega
  rw[G3.old j a (by have:=G2.len;(clear hi hv fh kJ kS o1 hl f1 f2 hk hc y0 y1 f3 f5 jr ky gT jq jA jK kb1 a lj;omega)),G2.old j a (),pY j a () lj]
 let js:-g<=-g3:=by have:=G2.len;have:=G3.len;(clear hi hv fh kJ kS o1 o2 o3 o4 hl f1 f2 hk hc y0 y1 lf f3 f5 jr ky gT jq jA jK kb1;omega)
 refine v5 (b0 T _) (uG (b0 T _) ?_);show #[_,rfl,_,λj U g'=>∃ kh ph nM,U=[!.ref d,!.int n,!.int v,!.ref s0,!.int f',!.ref w0,!.int y,!.int st,!.int wr,!.int sh,!.ref f0,zg,!.tup [.int k1,.int (50 + r3)],ph,nM,BR,BQ]/\g'[w0]?=!.dB kh/\qG kh/\-kh <= 2 * i + j/\m9 g' d/\(∀ j,j ≠ d->j ≠ w0->j < -g3->g'[j]?=g3[j]?)/\-g3 <= -g',
  λu u u u=>t8,#[kvs,_,_,rfl,JB,W,by omega,D3,λu u u u=>rfl,av _],λj x U g' hx p=>?_,λU g' p=>?_]
 .let#[kh,ph,nM,rfl,SR,W',pG,D',Cg,wK]:=p;let gM:∃key:Int,x=.int key/\j<2:=by
   match j,hx with
   |0,hx=>cases hx;exact#[_,rfl,by decide]
   |1,hx=>cases hx;exact#[_,rfl,by decide]
   |j+2,hx=>simp at hx
  let#[key,rfl,hj]:=gM;change wpS _ _ _ _ _ _;refine Wq (k:=k+1) h4 SR W' (by(clear hv fh kJ kS o1 o2 o3 o4 hl f1 f2 hk y0 y1 lf f3 f5 iB jr ky gT jq jA jK kb1 js wK;omega)) kJ.1 kJ.2 () D' rfl rfl rfl rfl rfl λz Cs g2' e2 W2 lJ D2' sV wJ=>?_;exact#[Cs,_,_,rfl,e2,W2,by(clear hi hv fh kJ kS o1 o2 o3 o4 hl f1 f2 hk y0 y1 lf f3 f5 iB jr ky gT jq jA jK kb1 js wK hj wJ;omega),D2',λj a b c=>(sV j a b ()).trans (Cg j a b c),by(clear hi hv fh kJ kS o1 o2 o3 o4 hl f1 f2 hk hc y0 y1 lf f3 f5 iB jr ky gT jq jA jK kb1 js pG hj lJ;omega)]
 let#[wO,ph,nM,rfl,SQ,W4,jQ,D4,pX,ke]:=p;let SW:g'[s0]?=!.lst (ns.map D.int):=(pX s0 () () (m8 DX)).trans DX;let Ta:g'[f0]?=!.lst (cs.map b8.d):=(pX f0 () () (m8 DZ)).trans DZ;let wt:∀j,j≠d->j<n0->g'[j]?=g[j]?:=λj a b=>(pX j a () (by(clear hi hv fh kJ kS o1 hl f1 f2 hk hc y0 y1 f3 f5 iB jr ky gT jq jA jK kb1 jQ ke a;omega))).trans (wu j a b);clear pX wu G2 G3 iF JD JI qt JC JH DX JB DZ pY;let jQ:-wO<=2*(i+1):=by omega
 change wpS _ _ _ _ _ _;show j5 h4 D4 ∅ ∅ λr5 g5 my mx D5 G5=>?_;left;let tail:∀(y':Int) (g6:G),0<=y'->y'<=9999->m9 g6 d->Gr d g' g6->wpS (c5 T (k+2)) (n5 (n5 (n5 (n5 U2)))) N [!.ref d,!.int n,!.int v,!.ref s0,!.int f',!.ref w0,!.int y',!.int st,!.int wr,!.int sh,!.ref f0,zg,!.tup [.int k1,.int (50+r3)],ph,nM,BR,BQ] g6 E:=by
  intro y' g6 nO nN D6 G6;let SV:=G6.at () SW;let SO:=G6.at () SQ;let Ag:=G6.at () Ta;dsimp[U2,M7,n5];show aR6 (b0 T _) ?_;show#[_,rfl,by simp,λj ys U g7=>g7=g6/\(∃z w,U=[!.int sh,!.int st,z,w])/\ys=([k1,50+r3].take j).map (λkey=>D.int (1+sh+key*st % 97)),#[rfl,#[none,none,rfl],rfl],λj ys U g7 p=>?_,λj x ys U g7 hx p=>?_,λys U g7 p=>?_]
  .let#[rfl,_,rfl]:=p;simp;omega
  .let#[rfl,#[z,w,rfl],rfl]:=p;let gM:∃key:Int,x=.int key/\([k1,50+r3].take j).map (λkey=>D.int (1+sh+key*st % 97))++[D.int (1+sh+key*st % 97)]=([k1,50+r3].take (j+1)).map (λkey=>D.int (1+sh+key*st % 97)):=by
    match j,hx with
    |0,hx=>cases hx;exact#[_,rfl,rfl]
    |1,hx=>cases hx;exact#[_,rfl,rfl]
    |j+2,hx=>simp at hx
   let#[key,rfl,he]:=gM;change eX _ _ _ _ _ _;show O9 (vD () ()) ?_;left;exact#[rfl,#[_,_,rfl],he]
  let#[rfl,_,rfl]:=p;let eN:(g7++[O.lst [D.int (1+sh+k1*st % 97),D.int (1+sh+(50+r3)*st % 97)]])[(-g7)]?=!.lst [D.int (1+sh+k1*st % 97),D.int (1+sh+(50+r3)*st % 97)]:=b7;change wpS _ _ _ _ (g7++[O.lst [D.int (1+sh+k1*st % 97),D.int (1+sh+(50+r3)*st % 97)]]) _;show j5 h4 (D6.snoc _) ∅ ∅ λr8 g8 ot oq D8 G8=>?_;let l7:=D6.lt;let eN8:=G8.at () eN;let SU:=G8.at () (u6 SV);let DW:=G8.at () (u6 SO);let JG:=G8.at () (u6 Ag);show O9 (Gz () ()) ?_;left;let#[lm,el,gl,ll]:=W4.get (.inl k1);let#[um,eu,gu,lu]:=W4.get (.inl (50+r3));refine Ga DW (k:=.inl k1) rfl ?_;rw[el];show Ga DW (k:=.inl (50+r3)) rfl ?_;rw[eu];show U6 JG (by simp;omega) ?_;generalize kx:y'*(if decide (0<r8)=true then 1 else 0)=ty;let nk:0<=ty/\ty<=9999:=by
   rw[<- kx];split<;>simp<;>omega
  show h f' y' _ _ _ _ _ _ #[#[_,d6 SU (),ID,by(clear hi hv fh kJ kS o1 o2 o3 o4 f1 f2 hk y0 y1 lf f3 f5 iB jr gT jq jA jK kb1 js ke jQ my mx nO nN ot oq l7 ll lu kx nk;omega)],#[by omega,by(clear hi hv fh kJ kS o1 o2 o3 o4 hl f1 hk y0 y1 lf iB jr ky gT jq jA jK kb1 js ke jQ my mx nO nN ot oq l7 ll lu kx nk;omega)],#[wO,d6 DW (),W4,jQ],#[cs++[#[1+sh+k1*st % 97,lm,1+sh+(50+r3)*st % 97,um,ty]],?_,by simp[hc],?_],#[nO,nN],D8.M0 ()] (λj a b=>?_) ?_
  .rw[get_set JG];simp[b8.d]
  .intro c jU;rcases aV.mp jU with z|z
   .exact hg c z
   .simp at z;subst z;let m1:=fJ (k1*st) (show(97:Int)≠0 by decide);let m2:=eT (k1*st) (show(0:Int)<97 by decide);let m3:=fJ ((50+r3)*st) (show(97:Int)≠0 by decide);let m4:=eT ((50+r3)*st) (show(0:Int)<97 by decide);exact kA.mk' (by(clear hi hv fh kJ o1 o2 o3 o4 hl f1 f2 hk hc y0 y1 lf f3 f5 iB jr ky gT jq jA jK kb1 js ke jQ my mx nO nN ot oq l7 ll lu kx nk m2 m3 m4;omega)) (by(clear hi hv fh kJ o1 o2 o3 o4 hl f1 f2 hk hc y0 y1 lf f3 f5 iB jr ky gT jq jA jK kb1 js ke jQ my mx nO nN ot oq l7 ll lu kx nk m2 m3 m4;omega)) (by(clear hi hv fh kJ o1 o2 o3 o4 hl f1 f2 hk hc y0 y1 lf f3 f5 iB jr ky gT jq jA jK kb1 js ke jQ my mx nO nN ot oq l7 ll lu kx nk m1 m2 m4;omega)) (by(clear hi hv fh kJ o1 o2 o3 o4 hl f1 f2 hk hc y0 y1 lf f3 f5 iB jr ky gT jq jA jK kb1 js ke jQ my mx nO nN ot oq l7 ll lu kx nk m1 m2 m4;omega)) nk.1 nk.2 gl gu ll lu
  .let lj:j< -g':=by(clear hi hv fh kJ kS o1 hl f1 f2 hk hc y0 y1 f3 f5 iB jr ky gT jq jA jK kb1 jQ my mx nO nN ot oq l7 ll lu kx nk a;omega)
   rw[aA (by(clear hi hv fh kJ kS o1 hl f1 f2 hk hc y0 y1 lf f3 f5 iB jr ky gT jq jA jK kb1 js ke jQ my mx nO nN ot oq l7 ll lu kx nk a lj;omega)),G8.old j a (by have:=G6.len;simp;(clear hi hv fh kJ kS o1 o2 o3 o4 hl f1 f2 hk hc y0 y1 lf f3 f5 iB jr ky gT jq jA jK kb1 js ke jQ my mx nO nN ot oq l7 ll lu kx nk a b;omega)),aN (by have:=G6.len;(clear hi hv fh kJ kS o1 o2 o3 o4 hl f1 f2 hk hc y0 y1 lf f3 f5 iB jr ky gT jq jA jK kb1 js ke jQ my mx nO nN ot oq l7 ll lu kx nk a b;omega)),G6.old j a lj];exact wt j a b
  .have:=G6.len;have:=G8.len;simp at this ⊢
   (clear hi hv fh kJ kS o1 o2 o3 o4 hl f1 f2 hk hc y0 y1 lf f3 f5 iB jr ky gT jq jA jK kb1 jQ my mx nO nN ot oq l7 ll lu kx nk;omega)
 refine if2 (λc=>?_) (λc=>?_)
 .show j5 h4 D5 ∅ ∅ λr6 g6 HU HS D6 G6=>?_;left;generalize CC:(if y+1+r6<9999 then y+1+r6 else 9999)=y';have:0<=y'/\y'<=9999:=by rw[<- CC];split<;>omega
  exact tail y' g6 this.1 this.2 D6 (G5.trans G6)
 .refine M9 ?_;exact tail y g5 y0 y1 D5 G5
def a07(h4:T 4=!J6)(xF:T 23=!K7)(Sq:T 24=!M7){n:Int}(hn:0<=n/\n<=100)(hv:1<=v/\v<=100)(D0:m9 g d)(h:∀(cs:@&b8) a g',(-cs:Int)=n->(∀c∈cs,kA c)->g'[a]?=!.lst (cs.map b8.d)->-g<=a->m9 g' d->Gr d g g'->Q (.ref a) g'):c5 T (k+3) 24 [.ref d,.int n,.int v] g Q E:=by
 refine call_of Sq rfl ?_;delta M7;let dl:=D0.lt;left;let D1:m9 (g++[O.lst []]++[O.dB []]++[O.lst [.int 0,.int 1,.int 1350]]) d:=((D0.snoc _).snoc _).snoc _;let G1:Gr d g (g++[O.lst []]++[O.dB []]++[O.lst [.int 0,.int 1,.int 1350]]):=((Gr.snoc _ _ _).trans (Gr.snoc _ _ _)).trans (Gr.snoc _ _ _);let e0:(g++[O.lst []]++[O.dB []]++[O.lst [.int 0,.int 1,.int 1350]])[(-g)]?=!.lst []:=u6 (u6 b7);let e1:(g++[O.lst []]++[O.dB []]++[O.lst [.int 0,.int 1,.int 1350]])[(g++[O.lst []]).length]?=!.dB []:=u6 b7;let e2:(g++[O.lst []]++[O.dB []]++[O.lst [.int 0,.int 1,.int 1350]])[(g++[O.lst []]++[O.dB []]).length]?=!.lst [.int 0,.int 1,.int 1350]:=b7;let n1:(g++[O.lst []]).length=-g+1:=by simp
 let n2:(g++[O.lst []]++[O.dB []]).length=-g+2:=by simp
 rw[n1] at e1 ⊢;refine j5 h4 D1 ∅ ∅ λr2 g2 jr jq D2 G2=>?_;let Tf:=G2.at () e0;let kz:=G2.at () e1;let Tc:=G2.at () e2;let#[x,hx,hm]:=M4 (l:=[D.int 0,.int 1,.int 1350]) jr (by simpa using jq);let hy:∃y:Int,x=.int y/\0<=y/\y<=9999:=by
  simp only[List.mem_cons,List.mem_nil_iff,or_false] at hm;rcases hm with rfl|rfl|rfl<;>exact#[_,rfl,by decide,by decide]
 let#[y,rfl,y0,y1]:=hy;refine s9 (a9 Tc) hx ?_;show j5 h4 D2 ∅ ∅ λr3 g3 jA jK D3 G3=>?_;show j5 h4 D3 ∅ ∅ λr4 g4 sP uB D4 G4=>?_;show j5 h4 D4 ∅ ∅ λr5 g5 my mx D5 G5=>?_;let BB:=G3.trans (G4.trans G5);let Te:=BB.at () Tf;let rV:=BB.at () kz;let l5:=(G1.trans (G2.trans BB)).len;let lw:=m8 rV;left;generalize kS:(if r5-6>0 then r5-6 else 0)=sh;let HJ:0<=sh/\sh<=2:=by rw[<- kS];split<;>omega
 let Ah:(g5++[O.lst []])[(-g5)]?=!.lst []:=b7;refine v5 (b0 T _) (O3 (b0 T _) ?_);show #[by omega,by omega,l9 0 n.toNat,λi U g'=>∃ f' y' BN vW ph nM vV vU,U=[!.ref d,!.int n,!.int v,!.ref (-g),!.int f',!.ref (-g + 1),!.int y',!.int (1 + r3),!.int (2 + r4),!.int sh,!.ref (-g5),BN,vW,ph,nM,vV,vU]/\jS d (-g) (-g + 1) (-g5) i g' f' y'/\Gr d g g',
  λz z z z=>t8,#[1,y,none,none,none,none,none,none,rfl,#[#[[],u6 Te,#[[],rfl,by simp],by simp],#[by omega,by omega],#[[],u6 rV,(λk v hv=>by cases hv),by simp],#[[],Ah,rfl,by simp],#[y0,y1],D5.snoc _],(G1.trans (G2.trans BB)).trans (Gr.snoc _ _ _)],λi x U g' hx p=>?_,λU g' p=>?_]
 .let#[f',y',BN,vW,ph,nM,vV,vU,rfl,S,G']:=p;let#[hi,rfl]:=x8 hx;refine aL8 (n0:=-g) h4 xF S () hv #[by omega,by omega] #[by omega,by omega] HJ dl (av _) () () λf2 y2 a b c e f g2 S2 sV wJ=>?_;exact#[f2,y2,_,_,_,_,_,_,rfl,S2,#[by have:=G'.len;(clear hn hv dl jr jq y0 y1 jA jK sP uB my mx l5 lw kS HJ hi;omega),λj h1 h2=>(sV j h1 h2).trans (G'.old j h1 h2)]]
 .let#[f',y',BN,vW,ph,nM,vV,vU,rfl,S,G']:=p;left;let#[cs,ef,hc,hg]:=S.found;rw[n4] at hc;exact h cs _ _ () hg ef () S.dr G'
end
abbrev AH:bj:=#[2,8,(.seq (.set 2 (bR .lH (bo 1) (bR (.bin .Add) (bR (.bin .Add) (bR (.bin .FloorDiv) bq (bo 2)) (bR (.bin .Mod) bq (bo 2))) (bo 1)))) (.seq (.set 3 (bR (.bin .Add) bw (bR (.nP false true) (.call 21 (eM aK bw)) (bR (.bin .FloorDiv) bq (bo 2))))) (.seq (.set 4 (.call 4 (eM aK (bo 3)))) (.seq (.set 5 (.prim .lst .nil)) (.seq (.dX (.one 6) (.eY bq) (.seq (.set 7 (cN (.prim .lst (gS (bR (.bin .Add) (bo 1000) eL) (bo 0) (bR (.bin .Add) (bo 1) (bR (.bin .FloorDiv) (bR (.bin .Mult) (bo 2) eL) (bR .max (bo 1) bq))))) cF)) (.seq (.expr (.fo .append dU (ff (.prim .tup (sE (cN bz eL) (.prim .tup .nil) (bR (.bin .Add) (bo 1) (.call 4 (eM aK (bo 9)))) (.prim .tup .nil) gI))))) .pass))) (.seq (.ret dU) .pass))))))]
abbrev U7:bj:=#[2,9,(.seq (.set 2 (.call 4 (eM aK (bR (.bin .Add) bq (bo 1))))) (.seq (.set 3 (bR (.bin .Add) (bo 1) (.call 4 (eM aK (bo 3))))) (.seq (.set 4 (.call 4 (eM aK (bo 5)))) (.seq (.ifs (dW .Eq cF (bo 0)) (.seq (.ret (bR .tup (.comp [0] 3 (.one 2) (.eY bw) .no (.call 22 (ff aK))) bz)) .pass) .pass) (.seq (.ifs (dW .Eq cF (bo 4)) (.seq (.set 3 (bR (.bin .Add) (bo 1) (.call 4 (eM aK (bo 6))))) .pass) .pass) (.seq (.set 5 (.ite (dW .Eq cF (bo 4)) (.call 25 (eM aK bw)) (.call 24 (gS aK bw bz)))) (.seq (.set 5 (.comp [5] 3 (.one 2) (.fE (.call 21 (eM aK (dh .ku bw)))) .no (cN aK bw))) (.seq (.ifs (.dZ (dW .Eq cF (bo 1)) (dW .Gt bw (bo 0))) (.seq (.set 6 (.call 4 (eM aK bw))) (.seq (.set 7 (cN dU eL)) (.seq (.set 8 (cN dU (.call 4 (eM aK bw)))) (.seq (.fc dU eL (.prim .tup (sE (cN gI (bo 0)) (cN jc (bo 1)) (cN jc (bo 2)) (cN gI (bo 3)) (cN (.prim .lst (gS (cN gI (bo 4)) (cN jc (bo 4)) (bo 9999))) (.call 4 (eM aK (bo 3))))))) .pass)))) .pass) (.seq (.ifs (dW .Eq cF (bo 2)) (.seq (.set 3 (bo 1)) .pass) .pass) (.seq (.ret (bR .tup dU bz)) .pass))))))))))]
def Nh{p:Int->Prop}:∀{l:@&D},(∀x∈l,∃i:Int,x=.int i/\p i)->∃ns:@&Int,l=ns.map .int/\∀i∈ns,p i
 |[],_=>#[[],rfl,by simp]
 |x::r,h=>by
  let#[i,rfl,hi]:=h x #[_];let#[ns,rfl,hn]:=Nh (l:=r) λy hy=>h y (by simp[hy]);exact#[i::ns,rfl,λj hj=>(aL.mp hj).elim (λz=>z▸hi) (hn j)]
def Ny{lo:Int}{x:D}(h:x∈l9 lo n):∃i:Int,x=.int i/\lo<=i/\i<lo+n:=by
 let#[k,hk,rfl]:=aP.mp h;exact#[_,rfl,by omega,by have:=aR.mp hk;omega]
def GB{l:List α}(h:n<=-l):cut l none (!(n:Int))=l.take n:=by
 have:¬((n:Int)<0):=by omega
 unfold cut HT.fe;simp[this]
def UH{r:Int}(h0:0<=r)(h1:r< -ns):∃i∈ns,gP (ns.map D.int) r=!.int i:=by
 let#[v,hv,hm]:=M4 (l:=ns.map D.int) h0 (by simpa using h1);let#[i,hi,rfl]:=aP.mp hm;exact#[i,hi,hv]
def ES{r:Int}(h0:0<=r)(h1:r< -cs):∃c∈cs,gP (cs.map b8.d) r=!c.d:=by
 let#[v,hv,hm]:=M4 (l:=cs.map b8.d) h0 (by simpa using h1);let#[i,hi,rfl]:=aP.mp hm;exact#[i,hi,hv]
section
variable{T:Nat->Option bj}{d:Nat}
def a35(h4:T 4=!J6)(Ds:T 21=!W3)(So:T 25=!AH){n:Int}(hn:0<=n/\n<=100)(D0:m9 g d)(h:∀(cs:@&b8) a g',(-cs:Int)=n->(∀c∈cs,kA c)->g'[a]?=!.lst (cs.map b8.d)->-g<=a->m9 g' d->Gr d g g'->Q (.ref a) g'):c5 T (k+3) 25 [.ref d,.int n] g Q E:=by
 refine call_of So rfl ?_;delta AH;let dl:=D0.lt;show pZ (i:=1) (j:=n / 2+n % 2+1) () ?_;left;let hh:∃hf:Nat,(n / 2+n % 2+1-1).toNat=hf/\(hf:Int)=n / 2+n % 2/\hf<=50:=#[_,rfl,by omega,by omega]
 let#[hf,Dd,IV,qh]:=hh;rw[Dd];let e1:(g++[O.lst (l9 1 hf)])[(-g)]?=!.lst (l9 1 hf):=b7;refine Mv h4 Ds e1 (by rw[n4];omega) () (D0.snoc _) λl' b g2 hp e2 hb D2 G2=>?_;let kz:=G2.at () e1;show Ay (a9 e2) ?_;let hle:-l'=hf:=by rw[hp.length_eq,n4]
 let hc:cut l' none (!(n / 2))=l'.take (n / 2).toNat:=by
  have:=GB (l:=l') (n:=(n / 2).toNat) ()
  rwa [show(((n / 2).toNat:Nat):Int)=n / 2 by omega] at this
 rw[hc];refine O6 (u6 kz) b7 (by rw[n4,dA];omega) ?_;let#[rl,er,hr]:=Nh (p:=λi=>1<=i/\i<=50) (l:=l9 1 hf++l'.take (n / 2).toNat) λx hx=>by
  let zA:x∈l9 1 hf:=by
   rcases aV.mp hx with z|z
   .exact z
   .exact hp.mem_iff.mp (cj z)
  let#[i,rfl,h1,h2]:=Ny zA;exact#[i,rfl,h1,by omega]
 let hrl:(-rl:Int)=n:=by
  have:=hV List.length er;rw[bL,n4,dA,ak] at this;omega
 rw[er];let D3:=(D2.snoc (.lst (l'.take (n / 2).toNat))).snoc (.lst (rl.map D.int));let G3:=(Gr.snoc d g (.lst (l9 1 hf))).trans (G2.trans ((Gr.snoc d g2 (.lst (l'.take (n / 2).toNat))).trans (Gr.snoc d _ (.lst (rl.map D.int)))));let e3:(g2++[O.lst (l'.take (n / 2).toNat)]++[O.lst (rl.map D.int)])[(g2++[O.lst (l'.take (n / 2).toNat)]).length]?=!.lst (rl.map D.int):=b7;let l3:-g+1<=(g2++[O.lst (l'.take (n / 2).toNat)]).length:=by have:=G2.len;simp at this ⊢;omega
 generalize (g2++[O.lst (l'.take (n / 2).toNat)]).length=HN at *;show j5 h4 D3 ∅ ∅ λr4 g4 sP uB D4 G4=>?_;let e4:=G4.at () e3;left;let Pj:=G3.trans G4;let l4:=Pj.len;let e5:(g4++[O.lst []])[(-g4)]?=!.lst ([].map b8.d):=b7;let Ik:=m8 e4;refine v5 (b0 T _) (O3 (b0 T _) ?_);show #[by omega,by omega,l9 0 n.toNat,λi U g'=>∃ cs z6 z7,U=[!.ref d,!.int n,!.ref (-g),!.ref HN,!.int r4,!.ref (-g4),z6,z7]/\-cs=i/\(∀ c ∈ cs,kA c)/\g'[(-g4)]?=!.lst (cs.map b8.d)/\g'[HN]?=!.lst (rl.map D.int)/\m9 g' d/\Gr d g g',
  λy y y y=>t8,#[[],none,none,rfl,rfl,by simp,e5,u6 e4,D4.snoc _,Pj.trans (Gr.snoc _ _ _)],λi x U g' hx p=>?_,λU g' p=>?_]
 .let#[cs,z6,z7,rfl,hc,hg,ef,erw,D',G']:=p;let#[hi,rfl]:=x8 hx;show O9 (Gz ∅ ∅) ?_;show Bh #[by split<;>omega,by split<;>omega] ?_;left;obtain⟨yv,hy,Cy⟩:∃yv:Int,gP [D.int (1000+(0+(i:Int))),D.int 0,D.int (1+2*(0+(i:Int)) / (if n>1 then n else 1))] r4=!.int yv/\0<=yv/\yv<=9999:=by
   let dv0:0<=2*(0+(i:Int)) / (if n>1 then n else 1):=Int.ediv_nonneg () (by split<;>omega);let dv1:2*(0+(i:Int)) / (if n>1 then n else 1)<=2*(0+(i:Int)):=Int.ediv_le_self _ ();have:r4=0\/r4=1\/r4=2:=by omega
   rcases this with rfl|rfl|rfl
   .exact#[_,rfl,by omega,by(clear dl Dd qh hb l3 l4 Ik hc sP uB;omega)]
   .exact#[_,rfl,by omega,by omega]
   .exact#[_,rfl,by omega,by omega]
  refine s9 (a9 b7) hy ?_;left;let#[lo,xg,CT]:=UH (ns:=rl) (r:=0+(i:Int)) () (by(clear hn dl Dd qh hb l3 sP uB l4 Ik Cy;omega));refine And.intro (ON (u6 ef)) ?_;show s9 (a9 (u6 erw)) CT ?_;show j5 h4 (D'.snoc _) ∅ ∅ λr6 g6 HU HS D6 G6=>?_;let Ag:=G6.at () (u6 ef);let SX:=G6.at () (u6 erw);show U6 Ag (by simp;omega) ?_;let hlb:=hr lo xg;refine#[cs++[#[lo,[],1+r6,[],yv]],_,_,rfl,by simp[hc],?_,?_,d6 SX (),D6.M0 (),(G'.trans ((Gr.snoc _ _ _).trans G6)).M0 ()]
  .intro c jU;rcases aV.mp jU with z|z
   .exact hg c z
   .simp at z;subst z;exact kA.mk' () () () () Cy.1 Cy.2 rfl rfl #[_] #[_]
  .rw[get_set Ag];simp[b8.d]
 .let#[cs,z6,z7,rfl,hc,hg,ef,erw,D',G']:=p;left;rw[n4] at hc;exact h cs _ _ () hg ef () D' G'
end
section
variable{T:Nat->Option bj}{d:Nat}
structure LF(T:Nat->Option bj):Prop where
 pull:T 4=!J6
 order:T 21=!W3
 any:T 22=!AN
 sJ:T 23=!K7
 sG:T 24=!M7
 opened:T 25=!AH
 list:T 26=!U7
def aW3(hT:LF T){n:Int}(hn:0<=n/\n<=99)(D0:m9 g d)(h:∀(cs:@&b8) a (v:Int) g',(-cs:Int)<=n->(∀c∈cs,kA c)->g'[a]?=!.lst (cs.map b8.d)->-g<=a->1<=v->v<=6->m9 g' d->Gr d g g'->Q (.tup [.ref a,.int v]) g'):c5 T (k+4) 26 [.ref d,.int n] g Q E:=by
 refine call_of hT.list rfl ?_;delta U7;let dl:=D0.lt;show j5 (n:=n+1) hT.pull D0 () () λm g1 m0 m1 D1 G1=>?_;show j5 hT.pull D1 ∅ ∅ λr2 g2 jr jq D2 G2=>?_;show j5 hT.pull D2 ∅ ∅ λway g3 w0 w1 D3 G3=>?_;let BC:=G1.trans (G2.trans G3);let l3:=BC.len;show if2 (λc=>?_) (λc=>?_)
 .show J9 (b0 T _) (O3 (b0 T _) ?_);show#[by omega,by omega,l9 0 m.toNat,λi ys U g'=>∃cs z1 z2,ys=cs.map b8.d/\-cs=i/\(∀c∈cs,kA c)/\U=[!.ref d,z1,z2]/\m9 g' d/\Gr d g g',by rw[n4];omega,λi ys U g' p=>#[t8,?_],#[[],none,none,rfl,rfl,by simp,rfl,D3,BC],λi x ys U g' hx p=>?_,λys U g' p=>?_]
  .let#[cs,z1,z2,rfl,hc,_]:=p;simp[hc]
  .let#[cs,z1,z2,rfl,hc,hg,rfl,D',G']:=p;show aN4 hT.pull hT.any D' λc0 g4 gc D4 G4=>?_;refine#[cs++[c0],_,_,by simp,by simp[hc],λc1 tI=>?_,rfl,D4,G'.trans G4];rcases aV.mp tI with z|z
   .exact hg c1 z
   .simp at z;subst z;exact gc
  .let#[cs,z1,z2,rfl,hc,hg,rfl,D',G']:=p;rw[n4] at hc;left;exact h cs _ _ _ () hg b7 G'.len () () (D'.snoc _) (G'.trans (Gr.snoc _ _ _))
 let tail:∀(v:Int) (g4:G),1<=v->v<=6->m9 g4 d->Gr d g g4->wpS (c5 T (k+3)) (n5 (n5 (n5 (n5 (n5 U7.body))))) #[λw g'=>Q .bK g',Q,λw w=>False,λw w=>False] [!.ref d,!.int n,!.int m,!.int v,!.int way,none,none,none,none] g4 E:=by
  intro v g4 v0 v1 D4 G4;dsimp[U7,n5];let after:∀(cs:@&b8) a g5,(-cs:Int)=m->(∀c∈cs,kA c)->g5[a]?=!.lst (cs.map b8.d)->-g4<=a->m9 g5 d->Gr d g4 g5->wpS (c5 T (k+3)) (n5 (n5 (n5 (n5 (n5 (n5 U7.body)))))) #[λw g'=>Q .bK g',Q,λw w=>False,λw w=>False] [!.ref d,!.int n,!.int m,!.int v,!.int way,!.ref a,none,none,none] g5 E:=by
   intro cs a g5 hc hg ea la D5 G5;let Ph:=G4.trans G5;let l4:=G4.len;dsimp[U7,n5];show J9 (b0 T _) (lT (b0 T _) ?_);show rp () () ?_;left;let e6:(g5++[O.lst (l9 0 m.toNat)])[(-g5)]?=!.lst (l9 0 m.toNat):=b7;let l5:=D5.lt;refine Mv hT.pull hT.order e6 (by rw[n4];omega) () (D5.snoc _) λl' b g7 hp eb lb D7 G7=>?_;let Tb:=G7.at () (u6 ea);let xh:-l'=m.toNat:=by rw[hp.length_eq,n4]
   refine#[b,l',rfl,a9 eb,l',λi ys U g'=>∃kU z1 z2,ys=kU.map b8.d/\-kU=i/\(∀c∈kU,kA c)/\U=[!.ref a,z1,z2]/\g'=g7,by omega,λi ys U g' p=>?_,#[[],none,none,rfl,rfl,by simp,rfl,rfl],λi x ys U g' hx p=>?_,λys U g' p=>?_]
   .let#[kU,z1,z2,rfl,jU,_,_,rfl]:=p;exact#[o6 (a9 eb),by simp[jU]]
   .let#[kU,z1,z2,rfl,jU,qi,rfl,rfl]:=p;let#[j,rfl,j0,j1]:=Ny (hp.mem_iff.mp (aH hx));left;let#[c0,zQ,e0]:=ES (cs:=cs) j0 ();refine s9 (a9 Tb) e0 ?_;refine#[kU++[c0],_,_,by simp,by simp[jU],λc1 tI=>?_,rfl,rfl];rcases aV.mp tI with z|z
    .exact qi c1 z
    .simp at z;subst z;exact hg c1 zQ
   .let#[kU,z1,z2,rfl,jU,qi,rfl,rfl]:=p;let e8:(g'++[O.lst (kU.map b8.d)])[(-g')]?=!.lst (kU.map b8.d):=b7;let D8:=D7.snoc (.lst (kU.map b8.d));let G8:=(Ph.trans ((Gr.snoc d g5 (.lst (l9 0 m.toNat))).trans G7)).trans (Gr.snoc d g' (.lst (kU.map b8.d)));let l8:-g<=-g':=(Ph.trans ((Gr.snoc d g5 (.lst (l9 0 m.toNat))).trans G7)).len;let fin:∀(vf:@&b8) z6 z7 z8 g9,(-vf:Int)=m->(∀c∈vf,kA c)->g9[(-g')]?=!.lst (vf.map b8.d)->m9 g9 d->Gr d g g9->wpS (c5 T (k+3)) (n5 (n5 (n5 (n5 (n5 (n5 (n5 (n5 U7.body)))))))) #[λw g'=>Q .bK g',Q,λw w=>False,λw w=>False] [!.ref d,!.int n,!.int m,!.int v,!.int way,!.ref (-g'),z6,z7,z8] g9 E:=by
     intro vf z6 z7 z8 g9 Jj IY e9 D9 G9;dsimp[U7,n5];show if2 (λc=>?_) (λc=>?_)
     .left;exact h vf _ _ _ () IY e9 l8 () () D9 G9
     .left;exact h vf _ _ _ () IY e9 l8 v0 v1 D9 G9
    let pF:(-kU:Int)=m:=by omega
    let Cq:=D7.lt;show if2 (λc1=>?_) (λc1=>?_)
    .show if2 (λc2=>?_) (λc2=>?_)
     .show j5 (n:=m) hT.pull D8 c2 () λr g9 r0 r1 D9 G9=>?_;let e9:=G9.at () e8;let#[c0,zQ,e0]:=ES (cs:=kU) r0 (by(clear hn dl m0 m1 jr jq w0 w1 l3 c v0 v1 la l4 l5 lb xh jU l8 Cq c1 c2 r0;omega));show s9 (a9 e9) e0 ?_;show j5 (n:=m) hT.pull D9 c2 () λr' va Cc Qo Pk Pf=>?_;let lN:=Pf.at () e9;let#[c3,zP,e3]:=ES (cs:=kU) Cc (by(clear hn dl m0 m1 jr jq w0 w1 l3 c v0 v1 la l4 l5 lb xh jU l8 Cq c1 c2 r0 r1 Cc;omega));refine s9 (a9 lN) e3 ?_;dsimp only[b8.d];show j5 hT.pull (Pk.snoc _) ∅ ∅ λr'' Ac wm Cb D11 Hk=>?_;let QC:=Pk.lt;let qy:=Hk.at () (b7 (g:=va) (o:=.lst [.int c0.yr,.int c3.yr,.int 9999]));let xU:=Hk.at () (u6 (o':=.lst [.int c0.yr,.int c3.yr,.int 9999]) lN);let#[x,hx,hm]:=M4 (l:=[D.int c0.yr,.int c3.yr,.int 9999]) wm ();let#[a1,a2,a3,a4,a5,a6]:=(qi c0 zQ).inv;let#[b1,b2,b3,b4,b5,b6]:=(qi c3 zP).inv;let hy:∃y:Int,x=.int y/\0<=y/\y<=9999:=by
       simp only[List.mem_cons,List.mem_nil_iff,or_false] at hm;rcases hm with rfl|rfl|rfl
       .exact#[_,rfl,a5,a6]
       .exact#[_,rfl,b5,b6]
       .exact#[_,rfl,by decide,by decide]
      let#[y,rfl,y0,y1]:=hy;refine s9 (a9 qy) hx ?_;left;let hj:mB (kU.map b8.d).length r=!r.toNat:=by
       unfold mB;rw[aI r0,aI (by rw[ak];(clear hn dl m0 m1 jr jq w0 w1 l3 c v0 v1 la l4 l5 lb xh jU l8 Cq c1 c2 r0 Cc Qo wm Cb QC a1 a3 a5 a6 b1 b3 b5 b6 y0 y1;omega))]
      refine X8 xU hj ?_;let gr:kA #[c0.lo,c3.lm,c3.up,c0.um,y]:=kA.mk' a1.1 a1.2 b3.1 b3.2 y0 y1 b2 a4 (qi c3 zP).l8 (qi c0 zQ).u8;refine fin (kU.set r.toNat #[c0.lo,c3.lm,c3.up,c0.um,y]) _ _ _ _ (by simp;omega) (λc4 RE=>?_) ?_ (D11.M0 ()) ((G8.trans (G9.trans (Pf.trans ((Gr.snoc _ _ _).trans Hk)))).M0 l8)
      .rcases qW RE with z|z
       .exact qi c4 z
       .rw[z];exact gr
      .rw[get_set xU,List.map_set]
       rfl
     .refine M9 ?_;exact fin kU _ _ _ _ pF qi e8 D8 G8
    .exact fin kU _ _ _ _ pF qi e8 D8 G8
  show if2 (λc=>?_) (λc=>?_)
  .show a35 hT.pull hT.order hT.opened #[m0,by omega] D4 λcs a g5 hc hg ea la D5 G5=>?_;exact after cs a g5 hc hg ea la D5 G5
  .show a07 hT.pull hT.sJ hT.sG #[m0,by omega] #[v0,by omega] D4 λcs a g5 hc hg ea la D5 G5=>?_;exact after cs a g5 hc hg ea la D5 G5
 show if2 (λc=>?_) (λc=>?_)
 .show j5 hT.pull D3 ∅ ∅ λr4 g4 sP uB D4 G4=>?_;walk_at "w1";exact tail _ _ () () D4 (BC.trans G4)
 .refine M9 ?_;exact tail _ _ () () D3 BC
end
abbrev A5:bj:=#[1,1,(.seq (.ifs (.eK (.fR (.call 1 (gS aK (bo 1) (bo 9))))) (.seq (.raise "BadAnvils" (ff (gA "there are from one to nine anvils"))) .pass) .pass) .pass)]
abbrev AJ:bj:=#[2,2,(.seq (.ret (dh .all (.comp [1] 3 (.one 2) (.fE aK) .no (bR (.cmp .In) bw aK)))) .pass)]
abbrev FA:bj:=#[1,1,(.seq (.ifs (.eK (.fR (.call 12 (ff aK)))) (.seq (.raise "BadCoin" (ff (gA "it is no coin"))) .pass) .pass) .pass)]
abbrev Z6:bj:=#[1,2,(.seq (.ifs (dW .Gt (dh .len aK) (bo 9)) (.seq (.raise "TooMany" (ff (gA "at most nine coins are asked about at once"))) .pass) .pass) (.seq (.dX (.one 1) (.fE aK) (.seq (.expr (.call 39 (ff bq))) .pass)) .pass))]
abbrev U8:bj:=#[1,1,(.seq (.ifs (dW .NotIn aK (.lit (.tup [(.str "lower"),(.str "upper")]))) (.seq (.raise "BadSide" (ff (gA "a side is lower or upper"))) .pass) .pass) .pass)]
abbrev Fp:bj:=#[1,1,(.seq (.expr (.call 40 (ff aK))) (.seq (.ret (bR .oU (.lit (.tup [(.tup [(.str "lower"),(.int 0)]),(.tup [(.str "upper"),(.int 2)])])) aK)) .pass))]
noncomputable abbrev Pl(T:Nat->Option bj):Prop:=T 18=!Z6/\T 39=!FA
noncomputable abbrev Hm(T:Nat->Option bj):Prop:=T 19=!Fp/\T 40=!U8
abbrev AQ:bj:=#[2,2,(.seq (.ret (bR (.cmp .Eq) (dh .len (.comp [1] 3 (.one 2) (.fE aK) (dW .NotIn bw aK) bw)) (bo 0))) .pass)]
structure Ex(g g':G):Prop where
 len:-g<=-g'
 old:∀i,i< -g->g'[i]?=g[i]?
def Ex.refl(g:G):Ex g g:=#[av _,λx x=>rfl]
def Ex.trans{g g1 g2:G}(a:Ex g g1)(b:Ex g1 g2):Ex g g2:=#[aD a.len b.len,λi h=>(b.old i (aF h a.len)).trans (a.old i h)]
def Ex.snoc(g:G)(o:O):Ex g (g++[o]):=#[by simp,λi h=>aN h]
def Ex.at(h:Ex g g')(e:g[i]?=!o):g'[i]?=!o:=(h.old i (m8 e)).trans e
def Ex.gr(h:Ex g g')(d:Nat):Gr d g g':=#[h.len,λi x h2=>h.old i h2]
def Ex.draw{d:Nat}(h:Ex g g')(D0:m9 g d):m9 g' d:=by
 let#[s,p,b,r,xs,e1,e2,q]:=D0.ex;exact#[s,p,b,r,xs,h.at e1,h.at e2,q]
inductive J8(g:G):Nat->D->D->Prop
 |bK {n:Nat}:J8 g n .bK .bK
 |bl {n:Nat} (b:Bool):J8 g n (.bl b) (.bl b)
 |int {n:Nat} (i:Int):J8 g n (.int i) (.int i)
 |str {n:Nat} (x:Str):J8 g n (.str x) (.str x)
 |tup {n:Nat} {l m:@&D} (hl:-l=-m) (h:∀(i:Nat) x y,l[i]?=!x->m[i]?=!y->J8 g n x y) (hz:-m<=1000):J8 g (n+1) (.tup l) (.tup m)
 |lst {n a b:Nat} {l m:@&D} (ha:g[a]?=!.lst l) (hb:g[b]?=!.lst m) (hl:-l=-m) (h:∀(i:Nat) x y,l[i]?=!x->m[i]?=!y->J8 g n x y) (hz:-m<=1000):J8 g (n+1) (.ref a) (.ref b)
def J8.ex(e:Ex g g'){x y:D}(h:J8 g n x y):J8 g' n x y:=by
 induction h with
 |bK=>exact .bK
 |bl b=>exact .bl b
 |int i=>exact .int i
 |str x=>exact .str x
 |tup hl h hz ih=>exact .tup hl ih hz
 |lst ha hb hl h hz ih=>exact .lst (e.at ha) (e.at hb) hl ih hz
section
variable{T:Nat->Option bj}
def GN(h6:T 6=!yH){i:Int}(h:Q (.bl true) g):c5 T (k+1) 6 [.int i] g Q E:=by
 refine call_of h6 rfl ?_;delta yH;show gX (c:="int") (b:=true) ∅ rfl ?_;show gX (c:="bool") (b:=false) ∅ rfl ?_;left;exact h
abbrev UZ:MS:=match J7.body with
 |.seq _ (.seq _ (.seq _ (.seq _ (.seq _ b))))=>b
 |x=>x
def a44(h6:T 6=!yH)(h7:T 7=!J7):∀(n:Nat) {k:Nat} {g:G} {x y:D} {Q:KD} {E:KX},J8 g n x y->(∀g',Ex g g'->Q (.bl true) g')->c5 T (k+n+2) 7 [x,y] g Q E:=by
 let wj:∀(n:Nat),(∀{k:Nat} {g:G} {x y:D} {Q:KD} {E:KX},J8 g n x y->(∀g',Ex g g'->Q (.bl true) g')->c5 T (k+n+2) 7 [x,y] g Q E) ->
   ∀{k:Nat} {g:G} {x y:D} {l m:@&D} {Q:KD} {E:KX},(∀g',Ex g g'->K2 g' x=!l)->(∀g',Ex g g'->K2 g' y=!m)->-l=-m->-m<=1000->(∀(i:Nat) x y,l[i]?=!x->m[i]?=!y->J8 g n x y)->(∀g',Ex g g'->Q (.bl true) g') ->
   wpS (c5 T (k+n+2)) UZ #[λu g'=>Q .bK g',Q,λu u=>False,λu u=>False] [!x,!y] g E:=by
  intro n ih k g x y l m Q E hx hy hl hz hs hQ;let len:∀(z:D) (l:@&D) (g':G) (Q':KD),K2 g' z=!l->Q' (.int (-l)) g'->cW .len [z] g' Q':=λz l g' Q' e q=>#[_,_,#[rfl,.inl #[z,l,rfl,e,rfl]],q]
  refine yj (Gp (Gs (yK (yJ (w_var rfl (len _ _ _ _ (hx g (Ex.refl g)) ?_))))));refine yJ (w_var rfl (len _ _ _ _ (hy g (Ex.refl g)) ?_));refine Kd ?_;rw[hl,az rfl];show J9 (b0 T _) (O3 (b0 T _) ?_);refine yJ (w_var rfl (len _ _ _ _ (hy g (Ex.refl g)) ?_));refine#[_,rfl,by omega,by omega,l9 0 (-m),λi ys U g'=>∃z w,ys=List.replicate i (.bl true)/\U=[!y,!x,z,w]/\Ex g g',by rw[n4];exact hz,λi ys U g' p=>#[t8,?_],#[none,none,rfl,rfl,Ex.refl g],λi z ys U g' hz p=>?_,λys U g' p=>?_]
  .let#[z,w,rfl,_]:=p;simp
  .let#[z,w,rfl,rfl,e]:=p;let#[hi,rfl]:=x8 hz;let h1:l[i]?=some l[i]:=ag ();let h2:m[i]?=some m[i]:=ag hi;let a1:gP l (0+(i:Int))=some l[i]:=by rw[dO];exact A7 h1
   let a2:gP m (0+(i:Int))=some m[i]:=by rw[dO];exact A7 h2
   change eX _ _ _ _ _ _;refine By (nu (Az (V7 (yK (w_var rfl (w_var rfl #[_,_,#[rfl,.inl #[_,l,_,rfl,hx g' e,a1]],?_]))))));refine V7 (yK (w_var rfl (w_var rfl #[_,_,#[rfl,.inl #[_,m,_,rfl,hy g' e,a2]],?_])));refine Bw (ih ((hs i _ _ h1 h2).ex e) λg2 e2=>?_);exact#[_,_,by rw[List.replicate_succ'],rfl,e.trans e2]
  .let#[z,w,rfl,rfl,e]:=p;refine ye (a9 b7) (v:=true) ?_ (hQ _ (e.trans (Ex.snoc _ _)));have:List.replicate (l9 0 (-m)).length (D.bl true)=(List.replicate (l9 0 (-m)).length true).map D.bl:=by simp
   rw[this,T1];simp
 intro n
 induction n with
 |zero =>
  intro k g x y Q E h hQ;let h0:=hQ g (Ex.refl g);cases h with
  |bK =>
   refine call_of h7 rfl ?_;delta J7;left;exact h0
  |bl b=>exact Nj h7 (by simpa using h0)
  |int i =>
   refine call_of h7 rfl ?_;delta J7;show gX (c:="bool") (b:=false) ∅ rfl ?_;show gX (c:="int") (b:=true) ∅ rfl ?_;show GN h6 ?_;left;simpa using h0
  |str x =>
   refine call_of h7 rfl ?_;delta J7;show gX (c:="bool") (b:=false) ∅ rfl ?_;show gX (c:="int") (b:=false) ∅ rfl ?_;show gX (c:="str") (b:=true) ∅ rfl ?_;show gX (c:="str") (b:=true) ∅ rfl ?_;left;simpa using h0
 |succ n ih =>
  intro k g x y Q E h hQ;let h0:=hQ g (Ex.refl g);cases h with
  |bK =>
   refine call_of h7 rfl ?_;delta J7;left;exact h0
  |bl b=>exact Nj h7 (by simpa using h0)
  |int i =>
   refine call_of h7 rfl ?_;delta J7;show gX (c:="bool") (b:=false) ∅ rfl ?_;show gX (c:="int") (b:=true) ∅ rfl ?_;show GN h6 ?_;left;simpa using h0
  |str x =>
   refine call_of h7 rfl ?_;delta J7;show gX (c:="bool") (b:=false) ∅ rfl ?_;show gX (c:="int") (b:=false) ∅ rfl ?_;show gX (c:="str") (b:=true) ∅ rfl ?_;show gX (c:="str") (b:=true) ∅ rfl ?_;left;simpa using h0
  |@tup _ l m hl hs hz =>
   refine call_of h7 rfl ?_;let body:=wj n ih (k:=k) (x:=.tup l) (y:=.tup m) (E:=E) (λu u=>rfl) (λu u=>rfl) hl hz hs hQ;delta J7;show gX (c:="bool") (b:=false) ∅ rfl ?_;show gX (c:="int") (b:=false) ∅ rfl ?_;show gX (c:="str") (b:=false) ∅ rfl ?_;show gX (c:="tuple") (b:=true) ∅ rfl ?_;show gX (c:="tuple") (b:=true) ∅ rfl ?_;show fq rfl ?_;show gX (c:="list") (b:=false) ∅ rfl ?_;show gX (c:="list") (b:=false) ∅ rfl ?_;show fq rfl (M9 ?_);exact body
  |@lst _ a b l m ha hb hl hs hz =>
   refine call_of h7 rfl ?_;let body:=wj n ih (k:=k) (x:=.ref a) (y:=.ref b) (E:=E) (λg' e=>a9 (e.at ha)) (λg' e=>a9 (e.at hb)) hl hz hs hQ;let ta:∀c,ua g (.ref a) c=!(c=="list"):=λc=>by simp only[ua,ha]
   let tb:∀c,ua g (.ref b) c=!(c=="list"):=λc=>by simp only[ua,hb]
   delta J7;show gX (c:="bool") (b:=false) ∅ (tb _) ?_;show gX (c:="int") (b:=false) ∅ (tb _) ?_;show gX (c:="str") (b:=false) ∅ (tb _) ?_;show gX (c:="tuple") (b:=false) ∅ (tb _) ?_;show gX (c:="tuple") (b:=false) ∅ (ta _) ?_;show fq rfl ?_;show gX (c:="list") (b:=true) ∅ (tb _) ?_;show gX (c:="list") (b:=true) ∅ (ta _) ?_;show fq rfl (M9 ?_);exact body
end
abbrev kr(a b:@&Int):Bool:=a.all λs=>b.any λm=>m==s
section
variable{T:Nat->Option bj}{d:Nat}
def LB(Aa:T 15=!AJ){a b:@&Int}(ha:-a<=1000)(h:∀g',Ex g g'->Q (.bl (kr a b)) g'):c5 T (k+1) 15 [.tup (a.map .int),.tup (b.map .int)] g Q E:=by
 refine call_of Aa rfl ?_;delta AJ;show J9 (b0 T _) (uG (b0 T _) ?_);show#[_,rfl,_,λi ys U g'=>∃z w,ys=((a.take i).map λs=>b.any λm=>m==s).map D.bl/\U=[!.tup (b.map .int),z,w]/\g'=g,by simpa using ha,λi ys U g' p=>#[t8,?_],#[none,none,rfl,rfl,rfl],λi x ys U g' hx p=>?_,λys U g' p=>?_]
 .let#[z,w,rfl,_]:=p;simp;omega
 .let#[z,w,rfl,rfl,rfl]:=p;rw[ai,ae] at hx;let#[s,hs,rfl]:=hx;show qH (Fl ?_);refine#[_,_,?_,rfl,rfl];rw[bE,hs];simp
 .let#[z,w,rfl,rfl,rfl]:=p;refine ye (a9 b7) (T1 _) ?_;let e:((a.take (a.map D.int).length).map λs=>b.any λm=>m==s).all id=kr a b:=by
   simp[kr,List.all_map]
  rw[e];exact h _ (Ex.snoc _ _)
def aW1(Dt:T 17=!AQ){a b:@&Int}(ha:-a<=1000)(h:∀g',Ex g g'->Q (.bl (kr a b)) g'):c5 T (k+1) 17 [.tup (a.map .int),.tup (b.map .int)] g Q E:=by
 refine call_of Dt rfl ?_;delta AQ;show J9 (b0 T _) (uG (b0 T _) ?_);show#[_,rfl,_,λi ys U g'=>∃z w,ys=((a.take i).filter λs=>~~~(b.any λm=>m==s)).map D.int/\-ys<=i/\U=[!.tup (b.map .int),z,w]/\g'=g,by simpa using ha,λi ys U g' p=>#[t8,?_],#[none,none,rfl,by simp,rfl,rfl],λi x ys U g' hx p=>?_,λys U g' p=>?_]
 .let#[z,w,_,h1,_]:=p;exact h1
 .let#[z,w,e,hl,rfl,rfl]:=p;rw[ai,ae] at hx;let#[s,hs,rfl]:=hx;show O4 (Fl ?_);left;cases hc:(b.any λm=>m==s) with
  |true =>
   refine rZ #[_,_,?_,by omega,rfl,rfl];rw[bE,hs,e];simp[hc]
  |false =>
   refine nu (w_var rfl #[_,_,?_,by simp;omega,rfl,rfl]);rw[bE,hs,e];simp[hc]
 .let#[z,w,e,hl,rfl,rfl]:=p;rw[ak,cJ] at e;refine E1 (a9 b7) ?_;left;let e2:decide ((-ys:Int)=0)=kr a b:=by
   rw[e,ak,aW,cX];unfold kr;rw[cY];constructor
   .intro h0 s hs;let h1:(a.filter λs=>~~~(b.any λm=>m==s))=[]:=eO ();rw[vS] at h1;have:=h1 s hs;simpa using this
   .intro h0;let h1:(a.filter λs=>~~~(b.any λm=>m==s))=[]:=by
     rw[vS];intro s hs;simpa using h0 s hs
    rw[h1]
    rfl
  rw[e2];exact h _ (Ex.snoc _ _)
def WO{x:Str}(hx:PyData.strOk x=true)(h:kb (decide (x="lower")||decide (x="upper"))):rA g (.str x) (.tup [.str "lower",.str "upper"]) kb:=by
 refine#[_,.inr #[_,[.str "lower",.str "upper"],.str x,rfl,rfl,rfl,by decide +kernel,by exact hx,rfl],?_];let e:∀y:Str,PyData.eqv (.str y) (.str x)=decide (x=y):=λy=>by
  simp only[PyData.eqv];rw[aW,bx,cX];exact eq_comm
 simp only[List.any_cons,List.any_nil,Bool.or_false,e];exact h
def aB0(Sl:T 40=!U8){x:Str}(ho:PyData.strOk x=true)(h1:x="lower"\/x="upper"->Q .bK g)(h3:x≠"lower"->x≠"upper"->E #["BadSide"] g):c5 T (k+1) 40 [.str x] g Q E:=by
 refine call_of Sl rfl ?_;delta U8;show O4 (WO ho ?_);left;by_cases e:x="lower"\/x="upper"
 .refine fq (by rw[Bool.not_eq_false',fK,cX,cX];exact e) ?_;exact h1 e
 .refine gY (by rw[gf,Bool.or_eq_false_iff,cI,cI];exact not_or.mp e) ?_;left;exact h3 (λz=>e (.inl z)) (λz=>e (.inr z))
def K5(mH:Hm T){x:Str}(ho:PyData.strOk x=true)(h1:x="lower"->Q (.int 0) g)(h2:x="upper"->Q (.int 2) g)(h3:x≠"lower"->x≠"upper"->E #["BadSide"] g):c5 T (k+2) 19 [.str x] g Q E:=by
 refine call_of mH.1 rfl ?_;delta Fp;show aB0 mH.2 ho (λhx=>?_) h3;left;by_cases e1:x="lower"
 .let el:R8 [.tup [.str "lower",.int 0],.tup [.str "upper",.int 2]] x=!.int 0:=by simp[R8,e1]
  refine Kl el ?_;exact h1 e1
 .let e2:x="upper":=hx.resolve_left e1;let el:R8 [.tup [.str "lower",.int 0],.tup [.str "upper",.int 2]] x=!.int 2:=by simp[R8,e1];simp[e2]
  refine Kl el ?_;exact h2 e2
abbrev CB(c:b8):Prop:=-c.lm<=8/\-c.um<=8
def MN(h1:NF T)(h2:T 2=!N9)(uY:T 12=!E0)(xH:Pl T)(ha:g[a]?=!.lst (cs.map b8.d))(hz:-cs<=1000)(hm:9< -cs->E #["TooMany"] g)(hb:-cs<=9->cs.all A2=false->E #["BadCoin"] g)(h:-cs<=9->cs.all A2=true->Q .bK g):c5 T (k+6) 18 [.ref a] g Q E:=by
 refine call_of xH.1 rfl ?_;delta Z6;left;rw[ak];refine if2 (λc=>?_) (λc=>?_)
 .left;exact hm ()
 let h9:-cs<=9:=by omega
 show v5 (b0 T _) (lT (b0 T _) ?_);show#[a,_,rfl,a9 ha,cs.map b8.d,λi U g'=>∃z,U=[!.ref a,z]/\g'=g/\(cs.take i).all A2=true,λi U g' p=>?_,#[none,rfl,rfl,by simp],λi x U g' hx p=>?_,λU g' p=>?_]
 .let#[z,rfl,rfl,_]:=p;exact o6 (a9 ha)
 .let#[z,rfl,rfl,hg]:=p;rw[ai,ae] at hx;let#[c,hc,rfl]:=hx;refine i8 ?_;show call_of xH.2 rfl ?_;delta FA;show aJ2 h1 h2 uY ?_;left;cases e:A2 c with
  |true =>
   refine#[_,rfl,rfl,?_];rw[bE,hc];simp[hg,e]
  |false =>
   refine KY ?_;show hb h9 ?_;rw[List.all_eq_false];exact#[c,aH hc,by rw[e];decide]
 .let#[z,rfl,rfl,hg]:=p;rw[ak,cJ] at hg;exact h h9 hg
end
abbrev C3(f:Int)(c:b8):Int:=if f=0 then c.lo else c.up
abbrev ub(f:Int)(c:b8):@&Int:=if f=0 then c.lm else c.um
def CB.Qx{c:b8}(h:CB c)(f:Int):(ub f c).length<=1000:=by
 unfold ub;split
 .have:=h.1;omega
 .have:=h.2;omega
def O7(hf:f=0\/f=2)(c:b8):gP [D.int c.lo,D.tup (c.lm.map .int),D.int c.up,D.tup (c.um.map .int),D.int c.yr] f=!.int (C3 f c):=by
 rcases hf with rfl|rfl<;>rfl
def OF(hf:f=0\/f=2)(c:b8):gP [D.int c.lo,D.tup (c.lm.map .int),D.int c.up,D.tup (c.um.map .int),D.int c.yr] (f+1)=!(.tup ((ub f c).map .int)):=by
 rcases hf with rfl|rfl<;>rfl
def WJ(ms:@&Int):PyData.eqvAll (ms.map PyData.int) (ms.map PyData.int)=true:=by rw[Z9];simp
abbrev cD:b8:=#[0,[],0,[],0]
noncomputable abbrev bY(cs:@&b8)(i:Nat):b8:=cs.getD i cD
def F2{c:b8}(h:cs[i]?=!c):bY cs i=c:=by simp[bY,List.getD,h]
inductive RW where
 |fF|lower|upper
abbrev RW.s:RW->Str
 |.fF=>"coin"
 |.lower=>"lower"
 |.upper=>"upper"
structure dy where
 w:RW
 x:Int
 y:Int
abbrev dy.d(r:dy):D:=.tup [.str r.w.s,.int r.x,.int r.y]
abbrev meant(cs:@&b8)(w:RW)(x:Int)(i:Nat):Bool:=match w with
 |.fF=>decide ((i:Int)=x)
 |.lower=>decide ((bY cs i).lo=x)
 |.upper=>decide ((bY cs i).up=x)
abbrev iK(cs:@&b8)(w:RW)(x:Int):@&Nat:=(List.range (-cs)).filter (meant cs w x)
abbrev b9(l:@&Nat):@&D:=l.map λ(i:Nat)=>D.int i
abbrev rj(l:@&Nat):Nat:=(l.map (2 ^ ·)).sum
abbrev jm(n:Nat)(p:Nat->Bool):Nat:=rj ((List.range n).filter p)
def Om(n:Nat)(p:Nat->Bool):jm (n+1) p=jm n p+if p n=true then 2 ^ n else 0:=by
 unfold jm rj;rw[fH,eQ,dJ,List.sum_append];cases h:p n<;>simp[List.filter_cons,h]
def Ua(n:Nat)(p:Nat->Bool):jm n p<2 ^ n:=by
 induction n with
 |zero=>simp[jm,rj]
 |succ n ih =>
  rw[Om,Nat.pow_succ];split<;>omega
def NI(n:Nat)(p:Nat->Bool)(i:Nat):(jm n p).testBit i=(decide (i<n)&&p i):=by
 induction n with
 |zero=>simp[jm,rj]
 |succ n ih =>
  let hl:=Ua n p;rw[Om];by_cases hp:p n=true
  .rw[aI hp,Nat.add_comm];rcases fU i n with h|h|h
   .rw[Nat.testBit_two_pow_add_gt h,ih,az h,az ()]
   .subst h;rw[Nat.testBit_two_pow_add_eq,ih];simp[hp]
   .rw[Nat.testBit_lt_two_pow (aF (show 2 ^ n+jm n p<2 ^ (n+1) by omega) (BH () h)),aM ()]
    rfl
  .rw[aE hp,Nat.add_zero,ih];by_cases h:i=n
   .subst h;simp[hp]
   .rw[show decide (i<n)=decide (i<n+1) from eG.mpr ()]
def EA(a b:Nat):Builtin.bitAnd (a:Int) (b:Int)=((a &&& b:Nat):Int):=by
 rfl
def bC3(a b:Nat):Builtin.bitOr (a:Int) (b:Int)=((a |||b:Nat):Int):=by
 unfold Builtin.bitOr Builtin.bitAnd;let h1:∀x:Nat,decide (0<=Builtin.bitNot (x:Int))=false:=λx=>by unfold Builtin.bitNot;exact aM ()
 let h2:∀x:Nat,Builtin.bitNot (Builtin.bitNot (x:Int))=x:=λx=>by unfold Builtin.bitNot;omega
 rw[h1,h1];simp only[h2];simp
def bH8(a b:Nat):((a &&& b:Nat)≠0)↔∃i,a.testBit i=true/\b.testBit i=true:=by
 constructor
 .intro h;let#[i,hi]:=Nat.exists_testBit_of_ne_zero h;rw[Nat.testBit_and,aZ] at hi;exact#[i,hi]
 .rintro⟨i,h1,h2⟩ e;have:(a &&& b).testBit i=true:=by rw[Nat.testBit_and,h1,h2];rfl
  rw[e,Nat.zero_testBit] at this;cases this
def AB(s n:Nat)(p:Nat->Bool):((((s &&& jm n p:Nat):Int) != 0)=(List.range n).any λi=>s.testBit i&&p i):=by
 rw[aW,bne_iff_ne,aU];have:(((s &&& jm n p:Nat):Int)≠0)↔((s &&& jm n p:Nat)≠0):=by omega
 rw[this,bH8];constructor
 .rintro⟨i,h1,h2⟩;rw[NI,aZ,bQ] at h2;exact#[i,aR.mpr h2.1,by rw[h1,h2.2];rfl]
 .rintro⟨i,h1,h2⟩;rw[aZ] at h2;exact#[i,h2.1,by rw[NI,az (aR.mp h1),h2.2];rfl]
abbrev mw(a b:b8):Bool:=(decide (a.lo=b.lo)&&~~~kr a.lm b.lm)||(decide (a.up=b.up)&&~~~kr a.um b.um)
abbrev lG(a b:b8):Bool:=decide (0<b.yr)&&decide (b.yr<a.yr)
abbrev J5(cs:@&b8)(S:Nat->Bool)(p:Nat):Bool:=(List.range (-cs)).any λi=>S i&&mw (bY cs i) (bY cs p)
abbrev F6(cs:@&b8)(S:Nat->Bool)(p:Nat):Bool:=(List.range (-cs)).any λi=>S i&&lG (bY cs i) (bY cs p)
abbrev qQ(cs:@&b8)(S:Nat->Bool)(p:Nat)(d:Int):Bool :=
 ((List.range (-cs)).any λi=>(S i||decide (i=p))&&decide ((bY cs i).lo=d))&&((List.range (-cs)).any λi=>~~~S i&&decide ((bY cs i).lo=d))
abbrev se(cs:@&b8)(S:Nat->Bool)(p:Nat):Nat:=((u7 (cs.map b8.lo)).filter (qQ cs S p)).length
abbrev N8(cs:@&b8)(rs:@&dy)(S:Nat->Bool)(p:Nat):Bool:=rs.all λr=>~~~meant cs r.w r.y p||(List.range (-cs)).any λi=>S i&&meant cs r.w r.x i
abbrev fault(cs:@&b8)(v:Int)(rs:@&dy)(S:Nat->Bool)(p:Nat):Str :=
 if J5 cs S p=true then "wear" else if F6 cs S p=true then "year" else if v<se cs S p then "anvil" else if N8 cs rs S p=true then "" else "rule"
abbrev Ad(x:Str):D:=if x="" then .bK else .str x
def aM7{S S':Nat->Bool}(h:∀i,i< -cs->S i=S' i):fault cs v rs S p=fault cs v rs S' p:=by
 let a:∀f:Nat->Bool->Bool,((List.range (-cs)).any λi=>f i (S i))=(List.range (-cs)).any λi=>f i (S' i):=λf=>by
  rw[aW,aU,aU];constructor
  .rintro⟨i,h1,h2⟩;exact#[i,h1,by rw[<- h i (aR.mp h1)];exact h2]
  .rintro⟨i,h1,h2⟩;exact#[i,h1,by rw[h i (aR.mp h1)];exact h2]
 let b1:J5 cs S p=J5 cs S' p:=a λi t=>t&&mw (bY cs i) (bY cs p);let b2:F6 cs S p=F6 cs S' p:=a λi t=>t&&lG (bY cs i) (bY cs p);let b3:qQ cs S p=qQ cs S' p:=by
  funext d
  unfold qQ;rw[a λi t=>(t||decide (i=p))&&decide ((bY cs i).lo=d),a λi t=>~~~t&&decide ((bY cs i).lo=d)]
 let b4:N8 cs rs S p=N8 cs rs S' p:=by
  unfold N8
  congr 1
  funext r
  rw[a λi t=>t&&meant cs r.w r.x i]
 unfold fault se;rw[b1,b2,b3,b4]
abbrev R7:bj:=#[2,2,(.seq (.ifs (.eK (.fR (.call 1 (gS bq (bo 0) (bR (.bin .Sub) (dh .len aK) (bo 1)))))) (.seq (.raise "NoPlace" (ff (gA "no coin has that place"))) .pass) .pass) .pass)]
abbrev Y5:bj:=#[3,4,(.seq (.ifs (.eK (.fR (.call 38 (ff bw)))) (.seq (.ret (.prim .lst .nil)) .pass) .pass) (.seq (.ifs (dW .Eq bq (gA "coin")) (.seq (.ret (.comp [2] 3 (.one 2) (.eY (dh .len aK)) (dW .Eq bw aK) bw)) .pass) .pass) (.seq (.set 3 (.call 19 (ff bq))) (.seq (.ret (.comp [3,2] 5 (.many [3,4]) (.mD aK) (dW .Eq (cN cF aK) bq) bz)) .pass))))]
abbrev EI:bj:=#[2,3,(.seq (.expr (.call 18 (ff aK))) (.seq (.set 2 (.call 19 (ff bq))) (.seq (.ret (.iQ [2] 3 (.one 2) (.fE aK) .no (cN bw aK))) .pass)))]
abbrev Fq:bj:=#[2,5,(.seq (.nj (.many [2,3,4]) bq) (.seq (.ifs (.jL (dW .NotIn bw (.lit (.tup [(.str "coin"),(.str "lower"),(.str "upper")]))) (dW .Eq bz cF)) (.seq (.ret (.lit (.bl false))) .pass) .pass) (.seq (.ret (.dZ (bR (.cmp .NotEq) (.call 74 (gS aK bw bz)) (.prim .lst .nil)) (bR (.cmp .NotEq) (.call 74 (gS aK bw cF)) (.prim .lst .nil)))) .pass)))]
abbrev Z5:bj:=#[2,4,(.seq (.dX (.many [2,3]) (.mD bq) (.seq (.ifs (.eK (.fR (.call 88 (eM aK bz)))) (.seq (.expr .no) .pass) .pass) .pass)) .pass)]
abbrev AR:bj:=#[1,1,(.seq (.ret (dh .sum (.comp [] 2 (.one 1) (.fE aK) .no (bR (.bin .LShift) (bo 1) bq)))) .pass)]
abbrev Y4:bj:=#[2,2,(.seq (.ret (bR (.bin .BitOr) aK (bR (.bin .LShift) (bo 1) bq))) .pass)]
abbrev Ln:bj:=#[2,4,(.seq (.dX (.one 2) (.fE (.lit (.tup [(.str "lower"),(.str "upper")]))) (.seq (.set 3 (.call 19 (ff bw))) (.seq (.ifs (.dZ (dW .Eq (cN aK bz) (cN bq bz)) (.eK (.fR (.call 15 (eM (cN aK (bR (.bin .Add) bz (bo 1))) (cN bq (bR (.bin .Add) bz (bo 1)))))))) (.seq (.ret (.lit (.bl true))) .pass) .pass) .pass))) (.seq (.ret (.lit (.bl false))) .pass))]
abbrev GH:bj:=#[2,2,(.seq (.ret (.chain .Lt .Lt (bo 0) (cN bq (bo 4)) (cN aK (bo 4)))) .pass)]
abbrev Mt:bj:=#[1,1,(.seq (.ret (.comp [0] 3 (.one 2) (.fE aK) .no (.call 90 (ff (.comp [2] 4 (.many [2,3]) (.mD aK) (.fR (.call 92 (eM bz aK))) bw))))) .pass)]
abbrev MD:bj:=#[1,1,(.seq (.ret (.comp [0] 3 (.one 2) (.fE aK) .no (.call 90 (ff (.comp [2] 4 (.many [2,3]) (.mD aK) (.fR (.call 93 (eM bz aK))) bw))))) .pass)]
abbrev FD:bj:=#[1,1,(.seq (.ret (.comp [0] 3 (.one 2) (.fE (.call 20 (eM aK (gA "lower")))) .no (.call 90 (ff (.call 74 (gS aK (gA "lower") bw)))))) .pass)]
abbrev T2:bj:=#[2,8,(.seq (.set 2 (.comp [] 2 (.one 1) (.fE aK) .no (.prim .lst .nil))) (.seq (.dX (.many [3,4,5]) (.fE bq) (.seq (.set 6 (.call 90 (ff (.call 74 (gS aK bz cF))))) (.seq (.dX (.one 7) (.fE (.call 74 (gS aK bz dU))) (.seq (.ifs (dW .NotIn eL (cN bw gI)) (.seq (.expr (.fo .append (cN bw gI) (ff eL))) .pass) .pass) .pass)) .pass))) (.seq (.ret bw) .pass)))]
abbrev E4:bj:=#[3,3,(.seq (.expr (.call 18 (ff aK))) (.seq (.expr (.call 42 (ff bq))) (.seq (.expr (.call 89 (eM aK bw))) .pass)))]
abbrev FE:bj:=#[3,5,(.seq (.set 3 (.call 91 (eM bq bw))) (.seq (.set 4 (bR (.bin .Sub) (dh (.fld "full") aK) bq)) (.seq (.ret (dh .len (.comp [4,3] 4 (.one 3) (.fE (dh (.fld "lower_dies") aK)) (.dZ (.fR (bR (.bin .BitAnd) bz bq)) (.fR (bR (.bin .BitAnd) bz aK))) bz))) .pass)))]
abbrev FH:bj:=#[3,3,(.seq (.ifs (.fR (bR (.bin .BitAnd) bq (cN (dh (.fld "worn_by_place") aK) bw))) (.seq (.ret (gA "wear")) .pass) .pass) (.seq (.ifs (.fR (bR (.bin .BitAnd) bq (cN (dh (.fld "later_by_place") aK) bw))) (.seq (.ret (gA "year")) .pass) .pass) (.seq (.ifs (dW .Gt (.call 100 (gS aK bq bw)) (dh (.fld "room") aK)) (.seq (.ret (gA "anvil")) .pass) .pass) (.seq (.ifs (.eK (.fR (dh .all (.comp [1] 3 (.one 2) (.fE (cN (dh (.fld "needed_by_place") aK) bw)) .no (bR (.bin .BitAnd) aK bw))))) (.seq (.ret (gA "rule")) .pass) .pass) (.seq (.ret (.lit .bK)) .pass)))))]
abbrev Z7:bj:=#[4,4,(.seq (.jn "size" ["Bounds"] aK (dh .len bq)) (.seq (.jn "full" ["Bounds"] aK (bR (.bin .Sub) (bR (.bin .LShift) (bo 1) (dh .len bq)) (bo 1))) (.seq (.jn "room" ["Bounds"] aK bw) (.seq (.jn "worn_by_place" ["Bounds"] aK (.call 94 (ff bq))) (.seq (.jn "later_by_place" ["Bounds"] aK (.call 95 (ff bq))) (.seq (.jn "lower_dies" ["Bounds"] aK (.call 96 (ff bq))) (.seq (.jn "needed_by_place" ["Bounds"] aK (.call 97 (eM bq bz))) .pass)))))))]
section
variable{U:S}{t:MT}{it c elt:ME}{d8:@&Nat}
def B1(hP:j9 P)(Sh:S->Prop)(p:Nat->Bool)(w:Nat->D){k:IK}(hk:∀g',Ex g g'->k.Is l g')(hl:-l<=1000)(h0:Sh (L1 U d8 n))(hs:∀i d U g',l[i]?=!d->Ex g g'->Sh U->kE t d U λcQ=>eX P c cQ g' (λb g3=>b=p i/\Ex g g3/\if b=true then bt P elt cQ g3 (λy g4=>y=w i/\Ex g g4/\Sh cQ) km else Sh cQ) km)(hd:∀g',Ex g g'->Q (.ref (-g')) (g'++[.lst (((List.range (-l)).filter p).map w)]))(hi:∀R:IK->G->Prop,R k g->iO P it U g R E):bt P (.comp d8 n t it c elt) U g Q E:=by
 refine J9 hP (hi _ ?_);refine#[l,λi ys U g'=>Ex g g'/\ys=((List.range i).filter p).map w/\Sh U,hl,λi ys U g' q=>#[hk _ q.1,?_],#[Ex.refl _,rfl,h0],λi x ys U g' hx q=>?_,λys U g' q=>?_]
 .let#[_,rfl,_]:=q;rw[ak];exact aD (jI _ _) #[_]
 .let#[e1,rfl,sh]:=q;refine B8 (λcQ q=>x4 hP c _ _ _ _ _ _ (λb g3 q=>?_) (λv v z=>z) q) (hs i x U g' hx e1 sh);let#[rfl,e3,q]:=q;let ef:((List.range (i+1)).filter p).map w=((List.range i).filter p).map w++if p i=true then[w i] else[]:=by
   rw[fH,eQ,dJ];cases z:p i<;>simp only[List.filter_cons,z,List.filter_nil]<;>rfl
  cases hp:p i with
  |true =>
   rw[hp] at q ef;refine d0 hP elt _ _ _ _ _ _ (λy g4 q=>?_) (λv v z=>z) q;let#[rfl,e4,sh]:=q;exact#[e4,by rw[ef];rfl,sh]
  |false =>
   simp_all
 .let#[e1,rfl,sh]:=q;exact hd g' e1
def comp_map(hP:j9 P)(Sh:S->Prop)(w:Nat->D){k:IK}(hk:∀g',Ex g g'->k.Is l g')(hl:-l<=1000)(h0:Sh (L1 U d8 n))(hs:∀i d U g',l[i]?=!d->Ex g g'->Sh U->kE t d U λcQ=>bt P elt cQ g' (λy g4=>y=w i/\Ex g g4/\Sh cQ) km)(hd:∀g',Ex g g'->Q (.ref (-g')) (g'++[.lst ((List.range (-l)).map w)]))(hi:∀R:IK->G->Prop,R k g->iO P it U g R E):bt P (.comp d8 n t it .no elt) U g Q E:=by
 refine B1 hP Sh (λx=>true) w hk hl h0 (λi d U g' hx e sh=>B8 (λcQ q=>By #[rfl,e,?_]) (hs i d U g' hx e sh)) (λg' e=>?_) hi
 .exact nu q
 .have:=hd g' e
  rwa [show(List.range (-l)).filter (λx=>true)=List.range (-l) from List.filter_eq_self.mpr λx x=>rfl]
def O2(hP:j9 P){o:ME}(hl:d5 g a=!l)(h:∀Q:KD,Q (.ref a) g->bt P o U g Q E):∀R:IK->G->Prop,R (.lst a) g->iO P (.fE o) U g R E:=λR r=>lT hP (h _ #[a,l,rfl,hl,r])
def Et{o:ME}(hl:d5 g a=!l)(h:∀Q:KD,Q (.ref a) g->bt P o U g Q E):∀R:IK->G->Prop,R (.qv a) g->iO P (.mD o) U g R E:=λR r=>Cv (h _ #[a,l,rfl,hl,r])
def AZ(hP:j9 P){o:ME}(hj:j<=1000)(h:∀Q:KD,Q (.int (j:Nat)) g->bt P o U g Q E):∀R:IK->G->Prop,R (.fix (l9 0 j)) g->iO P (.eY o) U g R E:=λR r=>O3 hP (h _ #[j,rfl,by omega,by omega,by simpa using r])
end
def Q4(l:@&Nat):b9 l=(l.map λ(i:Nat)=>(i:Int)).map D.int:=by simp[b9]
structure iW(T:Nat->Option bj):Prop where
 nf:NF T
 h2:T 2=!N9
 uY:T 12=!E0
 xH:Pl T
 mH:Hm T
 Aa:T 15=!AJ
 Ss:T 20=!EI
 rK:T 74=!Y5
 Si:T 88=!Fq
 Sg:T 89=!Z5
 uX:T 90=!AR
 qm:T 91=!Y4
 Sf:T 92=!Ln
 Se:T 93=!GH
 Sd:T 94=!Mt
 Sb:T 95=!MD
 Sa:T 96=!FD
 RZ:T 97=!T2
 DK:T 100=!FE
 DJ:T 101=!FH
 DE:T 113=!Z7
section
variable{T:Nat->Option bj}{d:Nat}
def aw6(h1:NF T)(Dr:T 83=!R7){i:Int}(ha:g[a]?=!.lst l)(h:0<=i->i< -l->Q .bK g)(hn:¬(0<=i/\i< -l)->E #["NoPlace"] g):c5 T (k+3) 83 [.ref a,.int i] g Q E:=by
 refine call_of Dr rfl ?_;delta R7;show B3 (k:=k) h1 ?_;left;by_cases hi:0<=i/\i< -l
 .rw[az hi.1,az (show i<=(-l:Int)-1 by omega)];left;exact h hi.1 hi.2
 .have:(decide (0<=i)&&decide (i<=(-l:Int)-1))=false:=by
   rw[Bool.and_eq_false_iff,cI,cI];omega
  rw[this];left;exact hn hi
def at9(h1:NF T)(nX:T 42=!A5){i:Int}(h:1<=i->i<=9->Q .bK g)(hn:¬(1<=i/\i<=9)->E #["BadAnvils"] g):c5 T (k+3) 42 [.int i] g Q E:=by
 refine call_of nX rfl ?_;delta A5;show B3 (k:=k) h1 ?_;left;by_cases hi:1<=i/\i<=9
 .rw[az hi.1,az hi.2];exact h hi.1 hi.2
 .have:(decide (1<=i)&&decide (i<=9))=false:=by
   simp_all
  rw[this];left;exact hn hi
def M5(h1:NF T)(mH:Hm T)(rK:T 74=!Y5)(ha:g[a]?=!.lst (cs.map b8.d))(hz:-cs<=1000)(h:∀g' b,Ex g g'->-g<=b->g'[b]?=!(.lst (b9 (iK cs w x)))->Q (.ref b) g'):c5 T (k+3) 74 [.ref a,.str w.s,.int x] g Q E:=by
 refine call_of rK rfl ?_;delta Y5;show MC (k:=k+1) h1 ?_;left;let fld:∀f:Int,(f=0\/f=2)->(∀i c,cs[i]?=!c->meant cs w x i=decide (C3 f c=x))->bt (c5 T (k+2)) (.comp [3,2] 5 (.many [3,4]) (.mD (.var 0)) (.fR (.prim (.cmp .Eq) (.cons (.prim .ix (.cons (.var 4) (.cons (.var 0) .nil))) (.cons (.var 1) .nil)))) (.var 3)) [!.ref a,!.str w.s,!.int x,!.int f] g Q E:=λf hf hm=>by
  refine B1 (b0 T _) (λU=>∃z2 z3 z4,U=[!.int f,!.int x,z2,z3,z4]) (meant cs w x) (λi=>.int (i:Nat)) (l:=nZ (cs.map b8.d)) (λg' e=>Ao (a9 (e.at ha))) (by rw[Q5];simpa using hz) #[none,none,none,rfl] (λi d U g' hx e sh=>?_) (λg' e=>?_) (Et (a9 ha) λQ q=>w_var (d:=.ref a) rfl q)
  .let#[z2,z3,z4,rfl]:=sh;let#[dd,hd,rfl]:=AE hx;rw[ai,ae] at hd;let#[c,hc,rfl]:=hd;refine C5 rfl ?_;show x6 (O7 hf c) ?_;left;rw[hm i c hc];refine#[rfl,e,?_];refine if2 (λy=>?_) (λy=>?_)
   .left;exact#[rfl,e,_,_,_,rfl]
   .exact#[_,_,_,rfl]
  .rw[Q5,ak];exact h _ _ (e.trans (Ex.snoc _ _)) e.len b7
 cases w with
 |fF =>
  refine gY #[] ?_;show B1 (b0 T _) (λU=>∃z1 z2,U=[!.int x,z1,z2]) (meant cs .fF x) (λi=>.int (i:Nat)) (l:=l9 0 (-cs)) (λg' e=>t8) (by rw[n4];exact hz) #[none,none,rfl] (λi d U g' hx e sh=>?_) (λg' e=>?_) (AZ (b0 T _) hz λQ q=>?_)
  .let#[z2,z3,rfl]:=sh;let#[hi,rfl]:=x8 hx;rw[dO];refine i8 ?_;show#[rfl,e,?_];refine if2 (λy=>?_) (λy=>?_)
   .left;exact#[rfl,e,_,_,rfl]
   .exact#[_,_,rfl]
  .rw[n4];exact h _ _ (e.trans (Ex.snoc _ _)) e.len b7
  .left;rw[ak];exact q
 |lower =>
  refine fq #[] ?_;show K5 (k:=k) mH #[] (λy=>?_) (λz=>absurd z #[]) (λz=>absurd rfl z);exact fld 0 (.inl rfl) λi c hc=>by simp only[meant,F2 hc];rfl
 |upper =>
  refine fq #[] ?_;show K5 (k:=k) mH #[] (λz=>absurd z #[]) (λy=>?_) (λy z=>absurd rfl z);exact fld 2 (.inr rfl) λi c hc=>by simp only[meant,F2 hc];rfl
def Q9(uX:T 90=!AR){l:@&Nat}(ha:g[a]?=!.lst (b9 l))(hz:-l<=1000)(hl:∀i∈l,i<=1000)(h:∀g',Ex g g'->Q (.int (rj l:Nat)) g'):c5 T (k+1) 90 [.ref a] g Q E:=by
 refine call_of uX rfl ?_;delta AR;show comp_map (b0 T _) (λU=>∃z0 z1,U=[z0,z1]) (λi=>.int ((2 ^ (l.getD i 0):Nat):Int)) (l:=b9 l) (k:=.lst a) (λg' e=>o6 (a9 (e.at ha))) (by simpa[b9] using hz) #[none,none,rfl] (λi d U g' hx e sh=>?_) (λg' e=>?_) (O2 (b0 T _) (a9 ha) λQ q=>w_var (d:=.ref a) rfl q)
 .let#[z0,z1,rfl]:=sh;rw[b9,ai,ae] at hx;let#[j,hj,rfl]:=hx;refine i8 ?_;left;have:=hl j (aH hj);refine FP #[by omega,by omega,by decide] ?_;refine#[?_,e,_,_,rfl];simp[List.getD,hj]
 .refine KC (ns:=(List.range (-l)).map λi=>((2 ^ (l.getD i 0):Nat):Int)) (a9 (by simpa[b9] using b7)) ?_;have:((List.range (-l)).map λi=>((2 ^ (l.getD i 0):Nat):Int)).sum=(rj l:Nat):=by
   let e2:(List.range (-l)).map (λi=>((2 ^ (l.getD i 0):Nat):Int))=(l.map (2 ^ ·)).map λ(n:Nat)=>(n:Int):=by
    refine bV λi=>?_;rw[ai,ai,ai];by_cases hi:i< -l
    .simp[List.getD,hi]
    .rw[aT (by simpa using hi),aT ()]
     rfl
   rw[e2];unfold rj;generalize l.map (2 ^ ·)=m
   induction m with
   |nil=>rfl
   |cons x r ih=>simp[ih]
  rw[this];exact h _ (e.trans (Ex.snoc _ _))
def B6(qm:T 91=!Y4){s:Nat}(hp:p<=1000)(h:Q (.int ((s |||2 ^ p:Nat):Int)) g):c5 T (k+1) 91 [.int (s:Nat),.int (p:Nat)] g Q E:=by
 refine call_of qm rfl ?_;delta Y4;show FP #[by omega,by omega,by decide] ?_;refine XQ ?_;let e:(1:Int)*2 ^ ((p:Nat):Int).toNat=((2 ^ p:Nat):Int):=by simp
 rw[e,bC3];exact h
end
section
variable{T:Nat->Option bj}{d:Nat}
def MU{c:b8}(h:CB c):-c.lm<=1000/\-c.um<=1000:=#[aD h.1 ∅,aD h.2 ∅]
def aH4(hT:iW T){c e:b8}(hc:CB c)(h:∀g',Ex g g'->Q (.bl (mw c e)) g'):c5 T (k+3) 92 [c.d,e.d] g Q E:=by
 refine call_of hT.Sf rfl ?_;refine v5 (b0 T _) (uG (b0 T _) ?_);refine#[_,rfl,_,λi U g'=>Ex g g'/\(∃z2 z3,U=[!c.d,!e.d,z2,z3])/\(1<=i->(decide (c.lo=e.lo)&&~~~kr c.lm e.lm)=false)/\(2<=i->(decide (c.up=e.up)&&~~~kr c.um e.um)=false),λy y y y=>t8,#[Ex.refl _,#[none,none,rfl],λz=>absurd z (),λz=>absurd z ()],λi x U g' hx q=>?_,λU g' q=>?_]
 .let#[e1,#[z2,z3,rfl],q1,q2]:=q;refine i8 ?_
  match i,hx with
  |0,hx =>
   cases hx;show K5 (k:=k) hT.mH #[] (λy=>?_) (λz=>absurd z #[]) (λz=>absurd rfl z);show x6 (l:=[.int c.lo,.tup (c.lm.map .int),.int c.up,.tup (c.um.map .int),.int c.yr]) rfl ?_;show x6 (l:=[.int e.lo,.tup (e.lm.map .int),.int e.up,.tup (e.um.map .int),.int e.yr]) rfl ?_;show if2 (λh1=>?_) (λh1=>?_)
   .show x6 (l:=[.int c.lo,.tup (c.lm.map .int),.int c.up,.tup (c.um.map .int),.int c.yr]) rfl ?_;show x6 (l:=[.int e.lo,.tup (e.lm.map .int),.int e.up,.tup (e.um.map .int),.int e.yr]) rfl ?_;show LB (k:=k+1) hT.Aa (MU hc).1 λg2 e2=>?_;left;cases hw:kr c.lm e.lm with
    |false =>
     left;have:mw c e=true:=by unfold mw;rw[az h1,hw];rfl
     rw[<- this];exact h _ (e1.trans e2)
    |true =>
     exact#[e1.trans e2,#[_,_,rfl],λy=>by rw[az h1];rfl,λz=>absurd z ()]
   .exact#[e1,#[_,_,rfl],λy=>by rw[aM h1];rfl,λz=>absurd z ()]
  |1,hx =>
   cases hx;show K5 (k:=k) hT.mH #[] (λz=>absurd z #[]) (λy=>?_) (λy z=>absurd rfl z);show x6 (l:=[.int c.lo,.tup (c.lm.map .int),.int c.up,.tup (c.um.map .int),.int c.yr]) rfl ?_;show x6 (l:=[.int e.lo,.tup (e.lm.map .int),.int e.up,.tup (e.um.map .int),.int e.yr]) rfl ?_;show if2 (λh1=>?_) (λh1=>?_)
   .show x6 (l:=[.int c.lo,.tup (c.lm.map .int),.int c.up,.tup (c.um.map .int),.int c.yr]) rfl ?_;show x6 (l:=[.int e.lo,.tup (e.lm.map .int),.int e.up,.tup (e.um.map .int),.int e.yr]) rfl ?_;show LB (k:=k+1) hT.Aa (MU hc).2 λg2 e2=>?_;left;cases hw:kr c.um e.um with
    |false =>
     left;have:mw c e=true:=by unfold mw;rw[az h1,hw];simp
     rw[<- this];exact h _ (e1.trans e2)
    |true =>
     exact#[e1.trans e2,#[_,_,rfl],λy=>q1 (),λy=>by rw[az h1];rfl]
   .exact#[e1,#[_,_,rfl],λy=>q1 (),λy=>by rw[aM h1];rfl]
  |i+2,hx=>simp at hx
 .let#[e1,#[z2,z3,rfl],q1,q2]:=q;have:mw c e=false:=by unfold mw;rw[q1 ∅,q2 ∅];rfl
  rw[<- this];exact h _ e1
def WS(hT:iW T){c e:b8}(h:Q (.bl (lG c e)) g):c5 T (k+1) 93 [c.d,e.d] g Q E:=by
 refine call_of hT.Se rfl ?_;delta GH;show x6 (l:=[.int e.lo,.tup (e.lm.map .int),.int e.up,.tup (e.um.map .int),.int e.yr]) rfl ?_;show if2 (λh1=>?_) (λh1=>?_)
 .show x6 (l:=[.int c.lo,.tup (c.lm.map .int),.int c.up,.tup (c.um.map .int),.int c.yr]) rfl ?_;left;have:lG c e=decide (e.yr<c.yr):=by unfold lG;rw[az h1];rfl
  rw[<- this];exact h
 .have:lG c e=false:=by unfold lG;rw[aM h1];rfl
  rw[<- this];exact h
abbrev uy(cs:@&b8)(q:b8->b8->Bool):@&D:=(List.range (-cs)).map λi=>.int ((jm (-cs) λj=>q (bY cs j) (bY cs i):Nat):Int)
def vJ{q:Nat->Bool}:∀i∈(List.range (-cs)).filter q,i< -cs:=λi hi=>aR.mp (bD.mp hi).1
def K4{n:Nat}{q:Nat->Bool}:((List.range n).filter q).length<=n:=aD (jI _ _) #[_]
def Ws(hT:iW T)(ha:g[a]?=!.lst (cs.map b8.d))(hz:-cs<=9)(hB:∀c∈cs,CB c)(h:∀g' b,Ex g g'->-g<=b->g'[b]?=!.lst (uy cs mw)->Q (.ref b) g'):c5 T (k+4) 94 [.ref a] g Q E:=by
 refine call_of hT.Sd rfl ?_;refine comp_map (b0 T _) (λU=>∃z1 z2,U=[!.ref a,z1,z2]) (λi=>.int ((jm (-cs) λj=>mw (bY cs j) (bY cs i):Nat):Int)) (l:=cs.map b8.d) (k:=.lst a) (λg' e=>o6 (a9 (e.at ha))) (by simp;omega) #[none,none,rfl] (λi d U g' hx e sh=>?_) (λg' e=>?_) (O2 (b0 T _) (a9 ha) λQ q=>w_var (d:=.ref a) rfl q)
 .let#[z1,z2,rfl]:=sh;rw[ai,ae] at hx;let#[c,hc,rfl]:=hx;refine i8 ?_;show B1 (b0 T _) (λU=>∃z1 z2 z3,U=[!c.d,z1,z2,z3]) (λj=>mw (bY cs j) (bY cs i)) (λi=>.int (i:Nat)) (l:=nZ (cs.map b8.d)) (k:=.qv a) (λg2 e2=>Ao (a9 ((e.trans e2).at ha))) (by rw[Q5];simp;omega) #[none,none,none,rfl] (λj d U g2 hx e2 sh=>?_) (λg2 e2=>?_) (Et (a9 (e.at ha)) λQ q=>w_var (d:=.ref a) rfl q)
  .let#[z1,z2,z3,rfl]:=sh;let#[dd,hd,rfl]:=AE hx;rw[ai,ae] at hd;let#[c',jU,rfl]:=hd;refine C5 rfl ?_;show aH4 (k:=k) hT (hB c' (aH jU)) λg3 e3=>?_;show#[by simp only[F2 jU,F2 hc],e2.trans e3,?_];cases mw c' c with
   |true =>
    refine gY rfl ?_;left;exact#[rfl,e2.trans e3,_,_,_,rfl]
   |false=>exact fq rfl #[_,_,_,rfl]
  .show Q9 (k:=k+2) hT.uX (l:=(List.range (-cs)).filter λj=>mw (bY cs j) (bY cs i)) (by have:=b7 (g:=g2) (o:=.lst (((List.range (nZ (cs.map b8.d)).length).filter λj=>mw (bY cs j) (bY cs i)).map λi=>D.int (i:Nat)));rw[Q5,ak] at this ⊢;exact this) (aD K4 ()) (λj hj=>by have:=vJ j hj;omega) λg3 e3=>?_;exact#[rfl,(e.trans (e2.trans (Ex.snoc _ _))).trans e3,_,_,rfl]
 .refine h _ _ (e.trans (Ex.snoc _ _)) e.len ?_;rw[b7,ak]
  rfl
def a45(hT:iW T)(ha:g[a]?=!.lst (cs.map b8.d))(hz:-cs<=9)(h:∀g' b,Ex g g'->-g<=b->g'[b]?=!.lst (uy cs lG)->Q (.ref b) g'):c5 T (k+4) 95 [.ref a] g Q E:=by
 refine call_of hT.Sb rfl ?_;refine comp_map (b0 T _) (λU=>∃z1 z2,U=[!.ref a,z1,z2]) (λi=>.int ((jm (-cs) λj=>lG (bY cs j) (bY cs i):Nat):Int)) (l:=cs.map b8.d) (k:=.lst a) (λg' e=>o6 (a9 (e.at ha))) (by simp;omega) #[none,none,rfl] (λi d U g' hx e sh=>?_) (λg' e=>?_) (O2 (b0 T _) (a9 ha) λQ q=>w_var (d:=.ref a) rfl q)
 .let#[z1,z2,rfl]:=sh;rw[ai,ae] at hx;let#[c,hc,rfl]:=hx;refine i8 ?_;show B1 (b0 T _) (λU=>∃z1 z2 z3,U=[!c.d,z1,z2,z3]) (λj=>lG (bY cs j) (bY cs i)) (λi=>.int (i:Nat)) (l:=nZ (cs.map b8.d)) (k:=.qv a) (λg2 e2=>Ao (a9 ((e.trans e2).at ha))) (by rw[Q5];simp;omega) #[none,none,none,rfl] (λj d U g2 hx e2 sh=>?_) (λg2 e2=>?_) (Et (a9 (e.at ha)) λQ q=>w_var (d:=.ref a) rfl q)
  .let#[z1,z2,z3,rfl]:=sh;let#[dd,hd,rfl]:=AE hx;rw[ai,ae] at hd;let#[c',jU,rfl]:=hd;refine C5 rfl ?_;show WS (k:=k+2) hT ?_;show#[by simp only[F2 jU,F2 hc],e2,?_];cases lG c' c with
   |true =>
    refine gY rfl ?_;left;exact#[rfl,e2,_,_,_,rfl]
   |false=>exact fq rfl #[_,_,_,rfl]
  .show Q9 (k:=k+2) hT.uX (l:=(List.range (-cs)).filter λj=>lG (bY cs j) (bY cs i)) (by have:=b7 (g:=g2) (o:=.lst (((List.range (nZ (cs.map b8.d)).length).filter λj=>lG (bY cs j) (bY cs i)).map λi=>D.int (i:Nat)));rw[Q5,ak] at this ⊢;exact this) (aD K4 ()) (λj hj=>by have:=vJ j hj;omega) λg3 e3=>?_;exact#[rfl,(e.trans (e2.trans (Ex.snoc _ _))).trans e3,_,_,rfl]
 .refine h _ _ (e.trans (Ex.snoc _ _)) e.len ?_;rw[b7,ak]
  rfl
def WG(hT:iW T)(ha:g[a]?=!.lst (cs.map b8.d))(hz:-cs<=9)(hg:cs.all A2=true)(h:Q (.ref (-g)) (g++[.lst ((u7 (cs.map b8.lo)).map .int)])):c5 T (k+7) 20 [.ref a,.str "lower"] g Q E:=by
 refine call_of hT.Ss rfl ?_;delta EI;show MN (k:=k) hT.nf hT.h2 hT.uY hT.xH ha () (λz=>by omega) (λx z=>by rw[hg] at z;cases z) λx x=>?_;show K5 (k:=k+4) hT.mH #[] (λx=>?_) (λz=>absurd z #[]) (λz=>absurd rfl z);show Wl (b0 T _) (lT (b0 T _) ?_);show#[a,_,rfl,a9 ha,cs.map b8.d,λi ys U g'=>∃z w,ys=(cs.take i).map b8.lo/\U=[!.int 0,z,w]/\g'=g,by simp;omega,λi ys U g' p=>?_,#[none,none,rfl,rfl,rfl],λi c ys U g' hx p=>?_,λys U g' p=>?_]
 .let#[z,w,rfl,rfl,rfl]:=p;exact#[o6 (a9 ha),by simp;omega]
 .let#[z,w,rfl,rfl,rfl]:=p;rw[ai,ae] at hx;let#[c,hc,rfl]:=hx;show x6 (l:=[.int c.lo,.tup (c.lm.map .int),.int c.up,.tup (c.um.map .int),.int c.yr]) rfl ?_;refine#[_,rfl,_,_,?_,rfl,rfl];rw[bE,hc];simp
 .let#[z,w,rfl,rfl,rfl]:=p;rw[ak,cJ];exact h
abbrev pO(cs:@&b8):@&D:=(u7 (cs.map b8.lo)).map λd=>.int ((jm (-cs) (meant cs .lower d):Nat):Int)
def aA9(hT:iW T)(ha:g[a]?=!.lst (cs.map b8.d))(hz:-cs<=9)(hg:cs.all A2=true)(h:∀g' b,Ex g g'->-g<=b->g'[b]?=!.lst (pO cs)->Q (.ref b) g'):c5 T (k+8) 96 [.ref a] g Q E:=by
 refine call_of hT.Sa rfl ?_;delta FD;left;let CU:(u7 (cs.map b8.lo)).length<=9:=aD (X7 _) (by simpa using hz);unfold pO at h;refine J9 (b0 T _) (lT (b0 T _) ?_);show WG (k:=k) hT ha hz hg ?_;let e0:=Ex.snoc g (O.lst ((u7 (cs.map b8.lo)).map .int));let hb:=b7 (g:=g) (o:=O.lst ((u7 (cs.map b8.lo)).map .int));generalize u7 (cs.map b8.lo)=ds at *;generalize g++[O.lst (ds.map .int)]=g1 at *;refine#[_,_,rfl,a9 hb,ds.map .int,λi ys U g'=>Ex g1 g'/\ys=(ds.take i).map (λd=>.int ((jm (-cs) (meant cs .lower d):Nat):Int))/\∃z1 z2,U=[!.ref a,z1,z2],by simp;omega,λi ys U g' q=>#[o6 (a9 (q.1.at hb)),?_],#[Ex.refl _,rfl,none,none,rfl],λi x ys U g' hx q=>?_,λys U g' q=>?_]
 .let#[_,rfl,_]:=q;simp;omega
 .let#[e1,rfl,z1,z2,rfl]:=q;rw[ai,ae] at hx;let#[dd,hd,rfl]:=hx;refine i8 ?_;show M5 (k:=k+4) hT.nf hT.mH hT.rK (w:=.lower) ((e0.trans e1).at ha) () λg2 b2 e2 y xy=>?_;show Q9 (k:=k+6) hT.uX xy (aD K4 ()) (λj hj=>by have:=vJ j hj;omega) λg3 e3=>?_;refine#[e1.trans (e2.trans e3),?_,_,_,rfl];rw[bE,hd];simp[jm,iK]
 .let#[e1,rfl,z1,z2,rfl]:=q;rw[ak,cJ];exact h _ _ (e0.trans (e1.trans (Ex.snoc _ _))) (aD e0.len e1.len) b7
end
def S7{i:Int}{k:Bool->Prop}(ha:d5 g a=!ms.map .int)(h:k (ms.any λm=>m==i)):rA g (.int i) (.ref a) k:=by
 refine#[_,.inr #[_,_,_,ha,M6 ms,rfl,lay_ints ms,by rfl,rfl],?_];rw[mn];exact h
def AG{l:@&Nat}{k:Bool->Prop}(ha:g[a]?=!.lst (b9 l))(h:k (decide (i∈l))):rA g (.int (i:Nat)) (.ref a) k:=by
 refine S7 (ms:=l.map λ(i:Nat)=>(i:Int)) (by rw[<- Q4];exact a9 ha) ?_;have:((l.map λ(i:Nat)=>(i:Int)).any λm=>m==(i:Int))=decide (i∈l):=by
  rw[aW,aU,bQ];constructor
  .rintro⟨x,hx,e⟩;let#[j,hj,rfl]:=aP.mp hx;rw[bx] at e;rw[show i=j by omega];exact hj
  .exact λhi=>#[_,aP.mpr #[i,hi,rfl],by simp]
 rw[this];exact h
structure oZ(g:G)(nb lo n:Nat)(B:Nat->Nat)(F:Nat->Nat->Prop):Prop where
 ex:∃as:@&Nat,g[nb]?=!.lst (as.map .ref)/\-as=n/\as.Nodup/\(∀a∈as,lo<=a/\a≠nb)/\∀i a,as[i]?=!a->∃ms:@&Nat,g[a]?=!.lst (b9 ms)/\-ms<=B i/\∀m,m∈ms↔F i m
def oZ.at{g g':G}{nb lo n:Nat}{B:Nat->Nat}{F:Nat->Nat->Prop}(h:oZ g nb lo n B F)(e:Ex g g'):oZ g' nb lo n B F:=by
 let#[as,h1,h2,h3,h4,h5]:=h.ex;refine#[#[as,e.at h1,h2,h3,h4,λi a hi=>?_]];let#[ms,m1,m2]:=h5 i a hi;exact#[ms,e.at m1,m2]
def oZ.imp{nb:Nat}{B B':Nat->Nat}{F F':Nat->Nat->Prop}(h:oZ g nb lo n B F)(hB:∀i,i<n->B i<=B' i)(hF:∀i m,i<n->(F i m↔F' i m)):oZ g nb lo n B' F' :=
 let ⟨as,h1,h2,h3,h4,h5⟩:=h.ex
 #[#[as,h1,h2,h3,h4,λi a hi=>let ⟨ms,m1,m2,m3⟩:=h5 i a hi
  let jC:i<n:=by rw[<- h2];exact(aw.mp hi).1
  #[ms,m1,aD m2 (hB i jC),λm=>(m3 m).trans (hF i m jC)]]]
abbrev vz(cs:@&b8)(rs:@&dy)(i m:Nat):Prop:=∃r∈rs,meant cs r.w r.y i=true/\m=jm (-cs) (meant cs r.w r.x)
abbrev c9(rs:@&dy):@&D:=rs.map dy.d
def Lr{l:List α}(h:l.Nodup){a:α}(hi:l[i]?=!a)(hj:l[j]?=!a):i=j:=by
 let#[h1,e1]:=aw.mp hi;let#[h2,e2]:=aw.mp hj;exact(nh h).mp (e1.trans e2.symm)
section
variable{T:Nat->Option bj}{d:Nat}
def a40(hT:iW T)(ha:g[a]?=!.lst (cs.map b8.d))(hz:-cs<=9)(hc:g[c]?=!.lst (c9 rs))(hr:-rs<=900)(h:∀g' b,Ex g g'->-g<=b->oZ g' b (-g) (-cs) (λv=>-rs) (vz cs rs)->Q (.ref b) g'):c5 T (k+4) 97 [.ref a,.ref c] g Q E:=by
 refine call_of hT.RZ rfl ?_;delta T2;show J9 (b0 T _) (lT (b0 T _) ?_);show#[a,_,rfl,a9 ha,cs.map b8.d,λi ys U g'=>Ex g g'/\(∃as:@&Nat,ys=as.map .ref/\-as=i/\as.Nodup/\∀b∈as,(-g)<=b/\g'[b]?=!.lst [])/\∃z0 z1,U=[z0,z1],by simp;omega,λi ys U g' q=>#[o6 (a9 (q.1.at ha)),?_],#[Ex.refl _,#[[],rfl,rfl,by simp,by simp],none,none,rfl],λi x ys U g' hx q=>?_,λys U g' q=>?_]
 .let#[_,#[as,rfl,rfl,_],_]:=q;simp
 .let#[e1,#[as,rfl,hl,nd,hA],z0,z1,rfl]:=q;refine i8 ?_;show#[e1.trans (Ex.snoc _ _),#[as++[(-g')],by simp,by simp[hl],?_,λb hb=>?_],_,_,rfl]
  .rw[cE];exact#[nd,by simp,λx hx y hy=>by cases aQ.mp hy;exact aO (m8 (hA x hx).2)]
  .rcases aV.mp hb with hb|hb
   .exact#[(hA b hb).1,(Ex.snoc _ _).at (hA b hb).2]
   .cases aQ.mp hb;exact#[e1.len,b7]
 .let#[e1,#[as,rfl,hl,nd,hA],z0,z1,rfl]:=q;rw[ak] at hl;let e2:=e1.trans (Ex.snoc g' (O.lst (as.map D.ref)));let lo:=e1.len;let N0:oZ (g'++[O.lst (as.map D.ref)]) (-g') (-g) (-cs) (λv=>0) (vz cs []):=#[#[as,b7,hl,nd,λb hb=>#[(hA b hb).1,aO (m8 (hA b hb).2)],λi b hb=>#[[],(Ex.snoc _ _).at (hA b (aH hb)).2,by simp,λm=>#[λz=>absurd z #[_],(by rintro ⟨r,hr,_⟩;exact absurd hr #[_])]]]]
  generalize (-g')=nb at *;refine v5 (b0 T _) (lT (b0 T _) ?_);show#[c,_,rfl,a9 (e2.at hc),c9 rs,λi U g'=>Ex g g'/\oZ g' nb (-g) (-cs) (λv=>i) (vz cs (rs.take i))/\∃z3 z4 z5 z6 z7,U=[!.ref a,!.ref c,!.ref nb,z3,z4,z5,z6,z7],λi U g' q=>o6 (a9 (q.1.at hc)),#[e2,N0,none,none,none,none,none,rfl],λi x U g' hx q=>?_,λU g' q=>?_]
  .let#[e3,N3,z3,z4,z5,z6,z7,rfl]:=q;rw[c9,ai,ae] at hx;let#[r,fu,rfl]:=hx;let hi:i< -rs:=(aw.mp fu).1;refine C5 (l:=[.str r.w.s,.int r.x,.int r.y]) rfl ?_;show M5 (k:=k) hT.nf hT.mH hT.rK (e3.at ha) () λg4 b4 e4 v RI=>?_;show Q9 (k:=k+2) hT.uX RI (aD K4 ()) (λj hj=>by have:=vJ j hj;omega) λg5 e5=>?_;left;let Ah:=e3.trans (e4.trans e5);let N5:=N3.at (e4.trans e5);let ef:rj (iK cs r.w r.x)=jm (-cs) (meant cs r.w r.x):=rfl;rw[ef];generalize jm (-cs) (meant cs r.w r.x)=first at *
   refine v5 (b0 T _) (lT (b0 T _) ?_);show M5 (k:=k) hT.nf hT.mH hT.rK (Ah.at ha) () λg6 b6 e6 hb6 IG=>?_;refine#[b6,_,rfl,a9 IG,b9 (iK cs r.w r.y),λj U g'=>Ex g g'/\g'[b6]?=!(.lst (b9 (iK cs r.w r.y)))/\oZ g' nb (-g) (-cs) (λq=>i+if q∈(iK cs r.w r.y).take j then 1 else 0) (λq m=>vz cs (rs.take i) q m\/(q∈(iK cs r.w r.y).take j/\m=first))/\(∀as:@&Nat,g'[nb]?=!.lst (as.map .ref)->b6∉as)/\∃z7,U=[!.ref a,!.ref c,!.ref nb,!.str r.w.s,!.int r.x,!.int r.y,!.int (first:Nat),z7],λj U g' q=>o6 (a9 q.2.1),#[Ah.trans e6,IG,(N5.at e6).imp (λq v=>by simp) (λq m v=>by simp),?_,z7,rfl],λj x U g' hx q=>?_,λU g' q=>?_]
   .intro As h' hm;let#[LV,h1,h2,h3,h4,h5]:=N5.ex;have:=(e6.at h1).symm.trans h';let e':LV=As:=by
     let h0:LV.map D.ref=As.map D.ref:=by injection this with w;injection w
     exact(List.map_inj_right (λx y z=>by injection z)).mp h0
    subst e';let#[i',jC]:=cV.mp hm;let#[ms,m1,_]:=h5 i' b6 jC;have:=m8 m1;omega
   .let#[e7,p7,N7,zu,z7,rfl]:=q;rw[b9,ai,ae] at hx;let#[q,hq,rfl]:=hx;let IF:q< -cs:=vJ q (aH hq);let Rg:q∉(iK cs r.w r.y).take j:=λz=>by
     let#[j',uN]:=cV.mp z;let hl:j'<j:=by
      have:=(aw.mp uN).1;simp at this;omega
     rw[da hl] at uN;let Qr:(iK cs r.w r.y).Nodup:=ng.filter _;have:=Lr Qr uN hq;omega
    let tk:(iK cs r.w r.y).take (j+1)=(iK cs r.w r.y).take j++[q]:=by rw[bE,hq];rfl
    let#[yf,h1,h2,h3,h4,h5]:=N7.ex;let QW:q< -yf:=by omega
    let uT:=ag QW;generalize yf[q]=aq at uT;let#[ms,m1,m2,m3]:=h5 q aq uT;let gq:gP (yf.map D.ref) (q:Int)=!.ref aq:=A7 (by rw[ai,uT];rfl);refine i8 ?_;show s9 (a9 h1) gq ?_;refine O4 (AG m1 ?_);left;by_cases lU:first∈ms
    .refine fq (by simp[lU]) ?_;refine#[e7,p7,N7.imp (λq' v=>?_) (λq' m v=>?_),zu,_,rfl]
     .rw[tk];by_cases z:q'∈(iK cs r.w r.y).take j
      .simp[z]
      .simp[z]
     .rw[tk];simp only[List.mem_append,List.mem_singleton];constructor
      .rintro(z|⟨z1,z2⟩)
       .exact .inl z
       .exact .inr #[.inl z1,z2]
      .rintro(z|⟨z1|z1,z2⟩)
       .exact .inl z
       .exact .inr #[z1,z2]
       .subst z1 z2;exact(m3 m).mp lU
    .refine gY (by simp[lU]) ?_;show s9 (a9 h1) gq ?_;left;rw[aE Rg] at m2;refine U6 m1 (by simp[b9];omega) ?_;let oE:=aH uT;let fQ:=(h4 aq oE).2;let Ri:aq≠b6:=λz=>zu yf h1 (z▸oE);let Jw:=d6 (o':=O.lst (b9 ms++[D.int (first:Nat)])) h1 fQ;refine#[#[by simp;exact e7.len,λi' jC=>by rw[aA (by have:=(h4 aq oE).1;omega)];exact e7.old i' jC],d6 p7 Ri,#[#[yf,Jw,h2,h3,h4,λi' b hb=>?_]],λAs h'=>?_,_,rfl]
     .by_cases zL:i'=q
      .subst zL;have:b=aq:=by rw[uT] at hb;injection hb with z;exact z.symm
       subst this;refine#[ms++[first],by rw[get_set m1];simp[b9],?_,λm=>?_]
       .rw[tk];simp;omega
       .rw[aV,aQ,m3 m,tk];simp only[List.mem_append,List.mem_singleton];constructor
        .rintro((z|⟨z1,z2⟩)|z)
         .exact .inl z
         .exact .inr #[.inl z1,z2]
         .exact .inr #[.inr trivial,z]
        .rintro(z|⟨z1|z1,z2⟩)
         .exact .inl (.inl z)
         .exact .inl (.inr #[z1,z2])
         .exact .inr z2
      .let uR:aq≠b:=λz=>zL (Lr h3 hb (z▸uT));let#[Ih,k1,k2,k3]:=h5 i' b hb;refine#[Ih,d6 k1 uR,?_,λm=>(k3 m).trans ?_]
       .rw[tk];simpa[zL] using k2
       .rw[tk];simp[zL]
     .rw[Jw] at h';exact zu As (h1.trans h')
   .let#[e7,p7,N7,zu,z7,rfl]:=q;rw[b9,ak,cJ] at N7;refine#[e7,N7.imp (λq v=>by split<;>omega) (λq m hq=>?_),_,_,_,_,_,rfl];let tk:rs.take (i+1)=rs.take i++[r]:=by rw[bE,fu];rfl
    unfold vz;rw[tk];simp only[List.mem_append,List.mem_singleton];constructor
    .rintro(⟨r',h1,h2⟩|⟨h1,h2⟩)
     .exact#[r',.inl h1,h2]
     .exact#[r,.inr rfl,(bD.mp h1).2,by rw[h2];exact ef.symm]
    .rintro⟨r',h1|h1,h2,h3⟩
     .exact .inl #[r',h1,h2,h3]
     .subst h1;exact .inr #[bD.mpr #[aR.mpr hq,h2],by rw[h3];exact ef]
  .let#[e3,N3,z3,z4,z5,z6,z7,rfl]:=q;rw[c9,ak,cJ] at N3;left;exact h _ _ e3 lo N3
end
abbrev p9(cs:@&b8)(r:dy):Bool:= ~~~decide (r.x=r.y)&&(~~~(iK cs r.w r.x).isEmpty&&~~~(iK cs r.w r.y).isEmpty)
def in_words(h:kb true):rA g (.str w.s) (.tup [.str "coin",.str "lower",.str "upper"]) kb:=by
 refine#[_,.inr #[_,[.str "coin",.str "lower",.str "upper"],.str w.s,rfl,rfl,rfl,by decide +kernel,by cases w<;>decide +kernel,rfl],?_];have:([PyData.str "coin",PyData.str "lower",PyData.str "upper"].any λq=>PyData.eqv q (.str w.s))=true:=by
  cases w<;>decide +kernel
 rw[this];exact h
def ne_nil{l:@&Nat}(ha:g[a]?=!.lst (b9 l))(hb:g[b]?=!.lst [])(h:Q (.bl (~~~l.isEmpty)) g):cW (.cmp .NotEq) [.ref a,.ref b] g Q:=by
 refine yF (a59 (ms:=l.map λ(i:Nat)=>(i:Int)) (ns:=[]) (by rw[<- Q4];exact a9 ha) (a9 hb) ?_);have:decide ((l.map λ(i:Nat)=>(i:Int))=[])=l.isEmpty:=by cases l<;>simp
 rw[this];exact h
structure Bd(g:G)(b:Nat)(cs:@&b8)(v:Int)(rs:@&dy):Prop where
 ex:∃w l d nb,g[b]?=!(.ins "Bounds" [("size",.int (-cs)),("full",.int ((2 ^ (-cs)-1:Nat):Int)),("room",.int v),("worn_by_place",.ref w),("later_by_place",.ref l),("lower_dies",.ref d),("needed_by_place",.ref nb)]) /\
  g[w]?=!.lst (uy cs mw)/\g[l]?=!.lst (uy cs lG)/\g[d]?=!.lst (pO cs)/\oZ g nb 0 (-cs) (λ_=>-rs) (vz cs rs)
def Bd.at{g g':G}{b:Nat}{cs:@&b8}{v:Int}{rs:@&dy}(h:Bd g b cs v rs)(e:Ex g g'):Bd g' b cs v rs:=by
 let#[w,l,d,nb,h1,h2,h3,h4,h5]:=h.ex;exact#[#[w,l,d,nb,e.at h1,e.at h2,e.at h3,e.at h4,h5.at e]]
def aX2(l:List α)(z:α)(q:α->Bool):((List.range (-l)).filter λi=>q (l.getD i z)).length=(l.filter q).length:=by
 let e:l=(List.range (-l)).map λi=>l.getD i z:=by
  refine bV λi=>?_;rw[ai];by_cases hi:i< -l
  .rw[cB hi,ag hi];simp[List.getD,hi]
  .rw[aT (),aT (by simpa using hi)]
   rfl
 conv=>rhs;rw[e,List.filter_map,ak]
 rfl
def NN{q:Nat->Bool}{s:Nat}{S:Nat->Bool}(h:∀i,i<n->s.testBit i=S i):((Builtin.bitAnd ((jm n q:Nat):Int) (s:Nat)) != 0)=(List.range n).any λi=>S i&&q i:=by
 rw[EA,Nat.and_comm,AB,aW,aU,aU];constructor
 .rintro⟨i,h1,h2⟩;exact#[i,h1,by rw[<- h i (aR.mp h1)];exact h2]
 .rintro⟨i,h1,h2⟩;exact#[i,h1,by rw[h i (aR.mp h1)];exact h2]
def WV{s:Nat}(h:s<2 ^ n)(hi:i<n):(2 ^ n-1-s).testBit i= ~~~s.testBit i:=by
 grind
def P4(s p i:Nat):(s |||2 ^ p).testBit i=(s.testBit i||decide (i=p)):=by
 rw[Nat.testBit_or,Nat.testBit_two_pow]
 congr 1
 exact eG.mpr eq_comm
def P2{s:Nat}(h:s<2 ^ n)(hp:p<n):s |||2 ^ p<2 ^ n:=Nat.or_lt_two_pow h (BG () hp)
section
variable{T:Nat->Option bj}{d:Nat}
def aJ1(hT:iW T)(ha:g[a]?=!.lst (cs.map b8.d))(hz:-cs<=1000)(h:∀g',Ex g g'->Q (.bl (p9 cs r)) g'):c5 T (k+4) 88 [.ref a,r.d] g Q E:=by
 refine call_of hT.Si rfl ?_;delta Fq;show C5 (l:=[.str r.w.s,.int r.x,.int r.y]) rfl ?_;show O4 (in_words ?_);show if2 (λh1=>?_) (λh1=>?_)
 .have:p9 cs r=false:=by unfold p9;rw[az h1];rfl
  rw[<- this];exact h _ (Ex.refl _)
 .show M5 (k:=k) hT.nf hT.mH hT.rK ha hz λg1 b1 e1 z xA=>?_;show ne_nil ((Ex.snoc _ _).at xA) b7 ?_;left;cases h2:(iK cs r.w r.x).isEmpty with
  |true =>
   refine fq rfl ?_;have:p9 cs r=false:=by unfold p9;rw[aM h1,h2];rfl
   rw[<- this];exact h _ (e1.trans (Ex.snoc _ _))
  |false =>
   refine gY rfl ?_;show M5 (k:=k) hT.nf hT.mH hT.rK ((e1.trans (Ex.snoc _ _)).at ha) hz λg2 b2 e2 z xy=>?_;show ne_nil ((Ex.snoc _ _).at xy) b7 ?_;have:p9 cs r= ~~~(iK cs r.w r.y).isEmpty:=by unfold p9;rw[aM h1,h2];rfl
   rw[<- this];exact h _ ((e1.trans (Ex.snoc _ _)).trans (e2.trans (Ex.snoc _ _)))
def aw5(hT:iW T)(ha:g[a]?=!.lst (cs.map b8.d))(hz:-cs<=1000)(hc:g[c]?=!.lst (c9 rs))(hr:-rs<=900)(h:rs.all (p9 cs)=true->∀g',Ex g g'->Q .bK g')(hn:rs.all (p9 cs)=false->∀g',Ex g g'->False):c5 T (k+5) 89 [.ref a,.ref c] g Q E:=by
 refine call_of hT.Sg rfl ?_;delta Z5;show v5 (b0 T _) (Cv ?_);show#[c,_,rfl,a9 hc,nZ (c9 rs),λi U g'=>Ex g g'/\(∃z2 z3,U=[!.ref a,!.ref c,z2,z3])/\(rs.take i).all (p9 cs)=true,λi U g' q=>Ao (a9 (q.1.at hc)),#[Ex.refl _,#[none,none,rfl],rfl],λi x U g' hx q=>?_,λU g' q=>?_]
 .let#[e1,#[z2,z3,rfl],q]:=q;let#[dd,hd,rfl]:=AE hx;rw[c9,ai,ae] at hd;let#[r,fu,rfl]:=hd;let tk:rs.take (i+1)=rs.take i++[r]:=by rw[bE,fu];rfl
  refine C5 rfl ?_
  try show wpS _ _ _ _ _ _
  show aJ1 (k:=k) hT (e1.at ha) hz λg2 e2=>?_;left;cases hg:p9 cs r with
  |true =>
   left;exact#[e1.trans e2,#[_,_,rfl],by rw[tk,oi,q];simp[hg]]
  |false =>
   show hn ?_ _ (e1.trans e2);rw[List.all_eq_false];exact#[r,aH fu,by rw[hg];decide]
 .let#[e1,#[z2,z3,rfl],q]:=q;rw[Q5,c9,ak,cJ] at q;exact h q _ e1
def MM(hT:iW T)(nX:T 42=!A5)(pJ:T 98=!E4)(ha:g[a]?=!.lst (cs.map b8.d))(hz:-cs<=1000)(hc:g[c]?=!.lst (c9 rs))(hr:-rs<=900)(hm:9< -cs->E #["TooMany"] g)(hb:-cs<=9->cs.all A2=false->E #["BadCoin"] g)(hv:-cs<=9->cs.all A2=true->¬(1<=v/\v<=9)->E #["BadAnvils"] g)(hw:-cs<=9->cs.all A2=true->1<=v/\v<=9->rs.all (p9 cs)=false->∀g',Ex g g'->False)(h:-cs<=9->cs.all A2=true->1<=v/\v<=9->rs.all (p9 cs)=true->∀g',Ex g g'->Q .bK g'):c5 T (k+7) 98 [.ref a,.int v,.ref c] g Q E:=by
 refine call_of pJ rfl ?_;delta E4;show MN (k:=k) hT.nf hT.h2 hT.uY hT.xH ha hz hm hb λh9 hg=>?_;show at9 (k:=k+3) hT.nf nX (λv1 v2=>?_) (hv h9 hg);left;exact aw5 (k:=k+1) hT ha hz hc hr (h h9 hg #[v1,v2]) (hw h9 hg #[v1,v2])
def Nx{f:Str}{x:D}(fs:@&(Str×D)):(p6 f x fs).length<=-fs+1:=by
 induction fs with
 |nil=>simp[p6]
 |cons y r ih =>
  unfold p6;split<;>simp
  exact ih
def yB{f:Str}{x:D}{fs:@&(Str×D)}(h:-fs+1<n):(p6 f x fs).length<n:=dC (Nx fs) h
def yC{f:Str}{x:D}{fs:@&(Str×D)}(h:-fs+(m+1)<n):(p6 f x fs).length+m<n:=by
 have:=Nx (f:=f) (x:=x) fs;omega
abbrev f3(n:Nat)(v:Int):@&(Str×D):=[("size",.int n),("full",.int ((2 ^ n-1:Nat):Int)),("room",.int v)]
def vE(n:Nat)(v:Int):(f3 n v).length=3:=rfl
def ax0(hT:iW T)(ha:g[a]?=!.lst (cs.map b8.d))(hz:-cs<=9)(hg:cs.all A2=true)(hB:∀c∈cs,CB c)(hc:g[c]?=!.lst (c9 rs))(hr:-rs<=900)(hb:g[b]?=!(.ins "Bounds" []))(h:∀g',(-g)<=-g'->(∀i,i< -g->i≠b->g'[i]?=g[i]?)->Bd g' b cs v rs->Q .bK g'):c5 T (k+9) 113 [.ref b,.ref a,.int v,.ref c] g Q E:=by
 refine call_of hT.DE rfl ?_;delta Z7;let wD:b≠a:=λz=>by subst z;rw[ha] at hb;cases hb
 let zt:b≠c:=λz=>by subst z;rw[hc] at hb;cases hb
 show ui hb #[_] #[_] ?_;left;let pH:=d6 (o':=O.ins "Bounds" (p6 "size" (.int (cs.map b8.d).length) [])) ha wD;refine E1 (a9 pH) ?_;refine FP #[by omega,by simp;omega,by decide] ?_;show ui (get_set hb) #[_] (by first|(simp;done)|(refine yB ?_;repeat (first|(rw[vE];omega)|(simp;done)|refine yC ?_))) ?_;rw[jj];show ui (get_set hb) #[_] (by first|(simp;done)|(refine yB ?_;repeat (first|(rw[vE];omega)|(simp;done)|refine yC ?_))) ?_;rw[jj];let e0:p6 "room" (.int v) (p6 "full" (.int (1*2 ^ Int.toNat ((cs.map b8.d).length:Int)-1)) (p6 "size" (.int (cs.map b8.d).length) []))=(f3 (-cs) v):=by
  have:(1*2 ^ Int.toNat ((cs.map b8.d).length:Int)-1:Int)=((2 ^ (-cs)-1:Nat):Int):=by
   have:=fN (n:=-cs);rw[Int.natCast_sub this];simp
  rw[this,ak]
  rfl
 simp only[e0];let kp:∀(g1:G) (o:O),Ex (g.set b o) g1->(∀i,i< -g->i≠b->g1[i]?=g[i]?)/\-g<=-g1:=λg1 o e=>#[λi hi hn=>by rw[e.old i (by simpa using hi),aA (cy hn)],by have:=e.len;simpa using this]
 generalize ho:O.ins "Bounds" (f3 (-cs) v)=o1;let xA:=get_set (o':=o1) hb;let pH:=d6 (o':=o1) ha wD;let tI:=d6 (o':=o1) hc zt;let k1:=kp _ o1 (Ex.refl _);generalize g.set b o1=g1 at *;subst ho;show Ws (k:=k+4) hT pH hz hB λg2 w e2 hw1 hw=>?_;show ui (e2.at xA) #[_] (by rw[vE];omega) ?_;let lw:w≠b:=λz=>by have:=m8 xA;omega
 let Dj:=get_set (o':=O.ins "Bounds" (p6 "worn_by_place" (.ref w) (f3 (-cs) v))) (e2.at xA);let QR:=d6 (o':=O.ins "Bounds" (p6 "worn_by_place" (.ref w) (f3 (-cs) v))) hw lw.symm;let zU:=d6 (o':=O.ins "Bounds" (p6 "worn_by_place" (.ref w) (f3 (-cs) v))) (e2.at pH) wD;let zP:=d6 (o':=O.ins "Bounds" (p6 "worn_by_place" (.ref w) (f3 (-cs) v))) (e2.at tI) zt;let k3:(∀i,i< -g->i≠b->(g2.set b (O.ins "Bounds" (p6 "worn_by_place" (.ref w) (f3 (-cs) v))))[i]?=g[i]?)/\-g<=(g2.set b (O.ins "Bounds" (p6 "worn_by_place" (.ref w) (f3 (-cs) v)))).length:=#[λi hi hn=>by rw[aA (cy hn),e2.old i ()];exact k1.1 i hi hn,by simp;have:=e2.len;omega]
 generalize g2.set b (O.ins "Bounds" (p6 "worn_by_place" (.ref w) (f3 (-cs) v)))=g3 at *;show a45 (k:=k+4) hT zU hz λg4 l e4 ky hl=>?_;show ui (e4.at Dj) #[_] (by first|(simp;done)|(refine yB ?_;repeat (first|(rw[vE];omega)|(simp;done)|refine yC ?_))) ?_;let ll:l≠b:=λz=>by have:=m8 Dj;omega
 generalize ho:O.ins "Bounds" (p6 "later_by_place" (.ref l) (p6 "worn_by_place" (.ref w) (f3 (-cs) v)))=o5;let Di:=get_set (o':=o5) (e4.at Dj);let QQ:=d6 (o':=o5) (e4.at QR) lw.symm;let zJ:=d6 (o':=o5) hl ll.symm;let Jm:=d6 (o':=o5) (e4.at zU) wD;let RD:=d6 (o':=o5) (e4.at zP) zt;let k5:(∀i,i< -g->i≠b->(g4.set b o5)[i]?=g[i]?)/\-g<=(g4.set b o5).length:=#[λi hi hn=>by rw[aA (cy hn),e4.old i ()];exact k3.1 i hi hn,by simp;have:=e4.len;omega]
 generalize g4.set b o5=g5 at *;subst ho;show aA9 (k:=k) hT Jm hz hg λg6 dd e6 Jh hd=>?_;show ui (e6.at Di) #[_] (by first|(simp;done)|(refine yB ?_;repeat (first|(rw[vE];omega)|(simp;done)|refine yC ?_))) ?_;let ld:dd≠b:=λz=>by have:=m8 Di;omega
 generalize ho:O.ins "Bounds" (p6 "lower_dies" (.ref dd) (p6 "later_by_place" (.ref l) (p6 "worn_by_place" (.ref w) (f3 (-cs) v))))=o7;let Dh:=get_set (o':=o7) (e6.at Di);let QP:=d6 (o':=o7) (e6.at QQ) lw.symm;let zI:=d6 (o':=o7) (e6.at zJ) ll.symm;let RA:=d6 (o':=o7) hd ld.symm;let RK:=d6 (o':=o7) (e6.at Jm) wD;let RC:=d6 (o':=o7) (e6.at RD) zt;let k7:(∀i,i< -g->i≠b->(g6.set b o7)[i]?=g[i]?)/\-g<=(g6.set b o7).length:=#[λi hi hn=>by rw[aA (cy hn),e6.old i ()];exact k5.1 i hi hn,by simp;have:=e6.len;omega]
 generalize g6.set b o7=g7 at *;subst ho;show a40 (k:=k+4) hT RK hz RC hr λg8 nb e8 zG hn=>?_;show ui (e8.at Dh) #[_] (by first|(simp;done)|(refine yB ?_;repeat (first|(rw[vE];omega)|(simp;done)|refine yC ?_))) ?_;let lb7:=m8 Dh;let ln:nb≠b:=λz=>by omega
 generalize ho:O.ins "Bounds" (p6 "needed_by_place" (.ref nb) (p6 "lower_dies" (.ref dd) (p6 "later_by_place" (.ref l) (p6 "worn_by_place" (.ref w) (f3 (-cs) v)))))=o9;refine h _ (by simp;have:=e8.len;omega) (λi hi hn=>by rw[aA (cy hn),e8.old i ()];exact k7.1 i hi hn) #[#[w,l,dd,nb,?_,d6 (e8.at QP) lw.symm,d6 (e8.at zI) ll.symm,d6 (e8.at RA) ld.symm,?_]]
 .rw[get_set (e8.at Dh),<- ho]
  rfl
 .let#[as,q1,q2,q3,q4,q5]:=hn.ex;exact#[#[as,d6 q1 ln.symm,q2,q3,λx hx=>#[by omega,(q4 x hx).2],λi x hx=>let ⟨ms,m1,m2⟩:=q5 i x hx;#[ms,d6 m1 (λz=>by have:=(q4 x (aH hx)).1;omega),m2]]]
end
section
variable{T:Nat->Option bj}
def aw3(hT:iW T)(B:Bd g b cs v rs)(hz:-cs<=9){s:Nat}(hs:s<2 ^ (-cs))(hp:p< -cs)(h:∀g',Ex g g'->Q (.int (se cs s.testBit p:Nat)) g'):c5 T (k+2) 100 [.ref b,.int (s:Nat),.int (p:Nat)] g Q E:=by
 refine call_of hT.DK rfl ?_;delta FE;let#[w,l,dd,nb,h1,h2,h3,h4,h5]:=B.ex;show B6 (k:=k) hT.qm () ?_;show W6 h1 rfl ?_;left;let e1:((2 ^ (-cs)-1:Nat):Int)-(s:Nat)=((2 ^ (-cs)-1-s:Nat):Int):=by omega
 rw[e1];let CU:(u7 (cs.map b8.lo)).length<=9:=aD (X7 _) (by simpa using hz);let Ry:(pO cs).length=(u7 (cs.map b8.lo)).length:=by simp[pO]
 refine B1 (b0 T _) (λU=>∃z2 z3,U=[!(.int ((2 ^ (-cs)-1-s:Nat):Int)),!(.int ((s |||2 ^ p:Nat):Int)),z2,z3]) (λi=>qQ cs s.testBit p ((u7 (cs.map b8.lo)).getD i 0)) (λi=>(pO cs).getD i .bK) (l:=pO cs) (k:=.lst dd) (λg' e=>o6 (a9 (e.at h4))) () #[none,none,rfl] (λi x U g' hx e sh=>?_) (λg' e=>?_) (O2 (b0 T _) (a9 h4) λQ q=>?_)
 .let#[z2,z3,rfl]:=sh;let zA:=hx;rw[pO,ai,ae] at zA;let#[mU,hd,rfl]:=zA;let eg:(u7 (cs.map b8.lo)).getD i 0=mU:=by simp[List.getD,hd]
  refine i8 ?_;show yd ?_;left;let b1:=NN (n:=-cs) (q:=meant cs .lower mU) (s:=s |||2 ^ p) (S:=λi=>s.testBit i||decide (i=p)) (λi y=>P4 s p i);let b2:=NN (n:=-cs) (q:=meant cs .lower mU) (s:=2 ^ (-cs)-1-s) (S:=λi=>~~~s.testBit i) (λi hi=>WV hs hi);rw[b1,eg];let hu:qQ cs s.testBit p mU=(((List.range (-cs)).any λi=>(s.testBit i||decide (i=p))&&meant cs .lower mU i)&&(List.range (-cs)).any λi=>~~~s.testBit i&&meant cs .lower mU i):=rfl;rw[hu];cases (List.range (-cs)).any λi=>(s.testBit i||decide (i=p))&&meant cs .lower mU i with
  |false =>
   refine fq rfl ?_;exact#[rfl,e,fq rfl #[_,_,rfl]]
  |true =>
   refine gY rfl ?_;show yd ?_;left;rw[b2,sv];refine#[rfl,e,?_];cases (List.range (-cs)).any λi=>~~~s.testBit i&&meant cs .lower mU i with
   |false=>exact fq rfl #[_,_,rfl]
   |true =>
    refine gY rfl ?_;show#[?_,e,_,_,rfl];simp[List.getD,hx]
 .refine E1 (a9 b7) ?_;have:(((List.range (pO cs).length).filter λi=>qQ cs s.testBit p ((u7 (cs.map b8.lo)).getD i 0)).map λi=>(pO cs).getD i .bK).length=se cs s.testBit p:=by
   rw[ak,Ry,aX2 (u7 (cs.map b8.lo)) 0 (qQ cs s.testBit p)]
   rfl
  rw[this];exact h _ (e.trans (Ex.snoc _ _))
 .left;exact W6 h1 rfl q
def OY{q:b8->b8->Bool}(hp:p< -cs):gP (uy cs q) (p:Int)=!(.int ((jm (-cs) λj=>q (bY cs j) (bY cs p):Nat):Int)):=A7 (by rw[uy,ai,cB hp];rfl)
def NO{s:Nat}{q:Nat->Bool}:((Builtin.bitAnd (s:Nat) ((jm n q:Nat):Int)) != 0)=(List.range n).any λi=>s.testBit i&&q i:=by rw[EA,AB]
def aA8(hT:iW T)(B:Bd g b cs v rs)(hz:-cs<=9)(hr:-rs<=900){s:Nat}(hs:s<2 ^ (-cs))(hp:p< -cs)(h:∀g',Ex g g'->Q (Ad (fault cs v rs s.testBit p)) g'):c5 T (k+3) 101 [.ref b,.int (s:Nat),.int (p:Nat)] g Q E:=by
 refine call_of hT.DJ rfl ?_;delta FH;let#[w,l,dd,nb,h1,h2,h3,h4,h5]:=B.ex;show W6 h1 rfl ?_;show s9 (a9 h2) (OY hp) ?_;refine yd ?_;left;rw[NO];cases c1:(List.range (-cs)).any λi=>s.testBit i&&mw (bY cs i) (bY cs p) with
 |true =>
  refine gY rfl ?_;have:fault cs v rs s.testBit p="wear":=by unfold fault J5;rw[aI c1]
  rw[this] at h;exact h _ (Ex.refl _)
 |false =>
 refine fq rfl ?_;show W6 h1 rfl ?_;show s9 (a9 h3) (OY hp) ?_;refine yd ?_;left;rw[NO];cases c2:(List.range (-cs)).any λi=>s.testBit i&&lG (bY cs i) (bY cs p) with
 |true =>
  refine gY rfl ?_;have:fault cs v rs s.testBit p="year":=by unfold fault J5 F6;rw[aE (by rw[c1];decide),aI c2]
  rw[this] at h;exact h _ (Ex.refl _)
 |false =>
 refine fq rfl ?_;show aw3 (k:=k) hT B hz hs hp λg2 e2=>?_;show W6 (e2.at h1) rfl ?_;show if2 (λc3=>?_) (λc3=>?_)
 .have:fault cs v rs s.testBit p="anvil":=by unfold fault J5 F6;rw[aE (by rw[c1];decide),aE (by rw[c2];decide),aI c3]
  rw[this] at h;exact h _ e2
 left;let#[as,q1,q2,q3,q4,q5]:=h5.ex;let QZ:p< -as:=by omega
 let Dk:=ag QZ;generalize as[p]=ap at Dk;let#[ms,m1,m2,m3]:=q5 p ap Dk;refine comp_map (b0 T _) (λU=>∃z1 z2,U=[!.int (s:Nat),z1,z2]) (λi=>.int ((s &&& ms.getD i 0:Nat):Int)) (l:=b9 ms) (k:=.lst ap) (λg' e=>o6 (a9 ((e2.trans e).at m1))) (by simp[b9];omega) #[none,none,rfl] (λi x U g' hx e sh=>?_) (λg' e=>?_) (O2 (b0 T _) (a9 (e2.at m1)) λQ q=>?_)
 .let#[z1,z2,rfl]:=sh;rw[b9,ai,ae] at hx;let#[m,hm,rfl]:=hx;refine i8 ?_;show yd ?_;refine#[?_,e,_,_,rfl];rw[EA];simp[List.getD,hm]
 .refine Zn (ns:=(List.range (b9 ms).length).map λi=>((s &&& ms.getD i 0:Nat):Int)) (a9 (by rw[bB];exact b7)) ?_;let en:(((List.range (b9 ms).length).map λi=>((s &&& ms.getD i 0:Nat):Int)).all λn=>n != 0)=N8 cs rs s.testBit p:=by
   rw[aW,cY];unfold N8;rw[cY];constructor
   .intro hA r hr;cases CS:meant cs r.w r.y p with
    |false=>rfl
    |true =>
     let hm:=(m3 (jm (-cs) (meant cs r.w r.x))).mpr #[r,hr,CS,rfl];let#[i,hi]:=cV.mp hm;let IT:=(aw.mp hi).1;have:=hA ((s &&& jm (-cs) (meant cs r.w r.x):Nat):Int) (aP.mpr #[i,aR.mpr (by simpa[b9] using IT),by simp[List.getD,hi]]);rw[AB] at this;exact this
   .intro hA x hx;let#[i,hi,rfl]:=aP.mp hx;let hi:i< -ms:=by simpa[b9] using hi
    let hm:ms.getD i 0∈ms:=by simp[List.getD,hi]
    let#[r,hr,CS,em]:=(m3 _).mp hm;have:=hA r hr;rw[CS,sA,iN] at this;rw[em,AB];exact this
  rw[en];left;cases c4:N8 cs rs s.testBit p with
  |true =>
   have:fault cs v rs s.testBit p="":=by unfold fault J5 F6;rw[aE (by rw[c1];decide),aE (by rw[c2];decide),aE c3,aI c4]
   rw[this] at h;exact h _ (e2.trans (e.trans (Ex.snoc _ _)))
  |false =>
   have:fault cs v rs s.testBit p="rule":=by unfold fault J5 F6;rw[aE (by rw[c1];decide),aE (by rw[c2];decide),aE c3,aE (by rw[c4];decide)]
   rw[this] at h;exact h _ (e2.trans (e.trans (Ex.snoc _ _)))
 .show W6 (e2.at h1) rfl ?_;left;exact s9 (a9 (e2.at q1)) (A7 (by rw[ai,Dk];rfl)) q
end
abbrev vy:bj:=#[2,5,(.seq (.set 2 (cN (.prim .lst (mL (gA "coin") (gA "coin") (gA "lower") (gA "upper"))) (.call 4 (eM aK (bo 4))))) (.seq (.set 3 (dh .ku (dh .len bq))) (.seq (.ifs (dW .Eq bw (gA "lower")) (.seq (.set 3 (dh .sset (.comp [] 2 (.one 1) (.fE bq) .no (cN bq (bo 0))))) .pass) .pass) (.seq (.ifs (dW .Eq bw (gA "upper")) (.seq (.set 3 (dh .sset (.comp [] 2 (.one 1) (.fE bq) .no (cN bq (bo 2))))) .pass) .pass) (.seq (.ifs (dW .Lt (dh .len bz) (bo 2)) (.seq (.ret (.lit .bK)) .pass) .pass) (.seq (.set 4 (.call 4 (eM aK (dh .len bz)))) (.seq (.ret (.prim .tup (gS bw (cN bz cF) (cN bz (bR (.bin .Mod) (bR (.bin .Add) (bR (.bin .Add) cF (bo 1)) (.call 4 (eM aK (bR (.bin .Sub) (dh .len bz) (bo 1))))) (dh .len bz)))))) .pass)))))))]
abbrev GI:bj:=#[2,5,(.seq (.set 2 (.prim .lst .nil)) (.seq (.dX (.one 3) (.eY (cN (.prim .lst (xK (bo 0) (bo 0) (bo 1) (bo 1) (bo 2) (bo 4))) (.call 4 (eM aK (bo 6))))) (.seq (.set 4 (.call 105 (eM aK bq))) (.seq (.ifs (dW .IsNot cF (.lit .bK)) (.seq (.expr (.fo .append bw (ff cF))) .pass) .pass) .pass))) (.seq (.ret bw) .pass)))]
abbrev Ft:bj:=#[4,8,(.seq (.nj (.many [4,5,6]) bz) (.seq (.ifs (dW .Eq cF (gA "coin")) (.seq (.ret (.jL (bR (.cmp .NotEq) bw eL) (bR (.cmp .In) dU bq))) .pass) .pass) (.seq (.set 7 (.ite (dW .Eq cF (gA "lower")) (bo 0) (bo 2))) (.seq (.ret (.jL (bR (.cmp .NotEq) (cN (cN aK bw) gI) eL) (bR (.cmp .In) dU (.comp [7,0] 4 (.one 3) (.fE bq) .no (cN (cN bq bz) aK))))) .pass))))]
abbrev yo:bj:=#[5,10,(.seq (.set 5 (cN aK cF)) (.seq (.dX (.one 6) (.fE bz) (.seq (.dX (.one 7) (.fE (bR .lst (bo 0) (bo 2))) (.seq (.ifs (.dZ (dW .Eq (cN (cN aK eL) gI) (cN dU gI)) (.eK (.fR (.call 17 (eM (cN (cN aK eL) (bR (.bin .Add) gI (bo 1))) (cN dU (bR (.bin .Add) gI (bo 1)))))))) (.seq (.ret (gA "wear")) .pass) .pass) .pass)) .pass)) (.seq (.ifs (.dZ (dW .Gt (cN dU (bo 4)) (bo 0)) (dW .Gt (dh .max (bR (.bin .Add) (dh .lst (bo 0)) (.comp [0] 3 (.one 2) (.fE bz) .no (cN (cN aK bw) (bo 4))))) (cN dU (bo 4)))) (.seq (.ret (gA "year")) .pass) .pass) (.seq (.set 8 (bR (.bin .Add) (.comp [0] 3 (.one 2) (.fE bz) .no (cN (cN aK bw) (bo 0))) (dh .lst (cN dU (bo 0))))) (.seq (.set 9 (.comp [3,0] 4 (.one 3) (.eY (dh .len aK)) (dW .NotIn bz aK) (cN (cN bq bz) (bo 0)))) (.seq (.ifs (dW .Gt (dh .Z8 (.comp [9] 3 (.one 2) (.fE jc) (dW .In bw aK) bw)) bq) (.seq (.ret (gA "anvil")) .pass) .pass) (.seq (.ifs (.eK (.fR (dh .all (.comp [3,0,4] 5 (.one 4) (.fE bw) .no (.call 107 (mL bq aK bw cF)))))) (.seq (.ret (gA "rule")) .pass) .pass) (.seq (.ret (gA "")) .pass))))))))]
abbrev Ar:bj:=#[2,4,(.seq (.nj (.many [2,3]) (.call 26 (eM aK bq))) (.seq (.ret (.prim .tup (gS bw bz (.call 106 (eM aK bw))))) .pass))]
structure TBR(T:Nat->Option bj):Prop where
 lf:LF T
 DI:T 105=!vy
 DH:T 106=!GI
structure TB3(T:Nat->Option bj):Prop where
 Dt:T 17=!AQ
 DG:T 107=!Ft
 DF:T 108=!yo
structure uk(T:Nat->Option bj):Prop extends TBR T,TB3 T where
 tO:T 110=!Ar
instance{T:Nat->Option bj}:CoeOut (uk T) (TB3 T):=#[uk.toTB3]
instance{T:Nat->Option bj}:CoeOut (uk T) (TBR T):=#[uk.toTBR]
def OQ(hi:i< -cs)(h:meant cs w x i=true):(iK cs w x).isEmpty=false:=by
 cases e:iK cs w x with
 |nil =>
  have:i∈iK cs w x:=bD.mpr #[aR.mpr hi,h]
  simp_all
 |cons _ _=>rfl
section
variable{T:Nat->Option bj}{d:Nat}
def Lp{ns:@&Int}{x:Int}:x∈u7 ns↔x∈ns:=by
 rw[(N6 ns).mem_iff,ST.U5];simp
def NX(ns:@&Int):(u7 ns).Nodup:=(N6 ns).nodup_iff.mpr (ST.Fu _ _ #[_])
def Lw(hT:TBR T)(D0:m9 g d){L:@&Int}{sL:Nat}(hN:N.rt=Q)(hL:g[sL]?=!.lst (L.map .int))(hd:sL≠d)(nd:L.Nodup)(hl:-L<=9)(hm:∀x∈L,(iK cs w x).isEmpty=false)(h:∀g',m9 g' d->Gr d g g'->Q .bK g'/\∀r,p9 cs r=true->Q r.d g'):wpS (c5 T (k+1)) (match vy.body with|.seq _ (.seq _ (.seq _ (.seq _ b)))=>b|x=>x) N [!.ref d,!.ref a,!.str w.s,!.ref sL,none] g E:=by
 subst hN;dsimp[vy];show if2 (λh2=>?_) (λh2=>?_)
 .exact(h g D0 (Gr.refl _ _)).1
 rw[ak] at h2;show j5 (k:=k) hT.lf.pull D0 (by rw[ak];omega) (by rw[ak];omega) λr1 g1 h0 h1 D1 G1=>?_;rw[ak] at h1;left;obtain⟨j,rfl⟩:∃j:Nat,r1=j:=#[r1.toNat,by omega]
 let hj:j< -L:=by omega
 let gj:gP (L.map D.int) (j:Int)=!.int L[j]:=A7 (by rw[ai,ag hj];rfl);refine s9 (a9 (G1.at hd hL)) gj ?_;show E1 (a9 (G1.at hd hL)) ?_;show j5 (k:=k) hT.lf.pull D1 (by grind) (by grind) λr2 g2 k0 k1 D2 G2=>?_;rw[ak] at k1;left;let tJ:=(G1.trans G2).at hd hL;refine E1 (a9 tJ) ?_;refine V1 (by rw[ak];omega) ?_;obtain⟨j2,rfl⟩:∃j:Nat,r2=j:=#[r2.toNat,by omega]
 let em:((j:Int)+1+(j2:Nat)) % ((L.map D.int).length:Nat)=(((j+1+j2) % (-L):Nat):Int):=by simp
 rw[em];let tB:(j+1+j2) % (-L)< -L:=Pu _ ();let fQ:(j+1+j2) % (-L)≠j:=by
  by_cases hc:j+1+j2< -L
  .rw[Nat.mod_eq_of_lt hc];omega
  .rw[Nat.mod_eq_sub_mod (),Nat.mod_eq_of_lt ()];omega
 generalize (j+1+j2) % (-L)=j3 at *;let SD:gP (L.map D.int) (j3:Int)=!.int L[j3]:=A7 (by rw[ai,ag tB];rfl);refine s9 (a9 tJ) SD ?_;show(h g2 D2 (G1.trans G2)).2 #[w,L[j],L[j3]] ?_;unfold p9;rw[hm _ (cK hj),hm _ (cK tB),aM (λz=>fQ ((nh nd).mp z).symm)]
 rfl
def NB(hT:TBR T)(ha:g[a]?=!.lst (cs.map b8.d))(hz:-cs<=9)(hd:d<a)(D0:m9 g d)(h:∀g',m9 g' d->Gr d g g'->Q .bK g'/\∀r,p9 cs r=true->Q r.d g'):c5 T (k+2) 105 [.ref d,.ref a] g Q E:=by
 refine call_of hT.DI rfl ?_;delta vy;show j5 (k:=k) hT.lf.pull (D0.snoc _) ∅ ∅ λr0 g1 h0 h1 D1 G1=>?_;let Hl:=(Gr.snoc d g _).trans G1;let pH:=Hl.at (cz hd) ha;let l1:=Hl.len;let dl:=D0.lt;let hw:∃w:RW,gP [D.str "coin",D.str "coin",D.str "lower",D.str "upper"] r0=!.str w.s:=by
  obtain⟨j,rfl⟩:∃j:Nat,r0=j:=#[r0.toNat,by omega]
  have:j=0\/j=1\/j=2\/j=3:=by omega
  rcases this with rfl|rfl|rfl|rfl
  .exact#[.fF,rfl]
  .exact#[.fF,rfl]
  .exact#[.lower,rfl]
  .exact#[.upper,rfl]
 let#[w,hw]:=hw;refine s9 (a9 (G1.at (cz dl) b7)) hw ?_;show rp () (by simp;omega) ?_;left;let e2:=Ex.snoc g1 (O.lst (l9 0 (Int.toNat ((cs.map b8.d).length:Nat))));let rC:=b7 (g:=g1) (o:=O.lst (l9 0 (Int.toNat ((cs.map b8.d).length:Nat))));generalize g1++[O.lst (l9 0 (Int.toNat ((cs.map b8.d).length:Nat)))]=g2 at *;let zV:=e2.at pH;let D2:=e2.draw D1;let G2:=Hl.trans (e2.gr d);let fld:∀(f:Int) (w:RW) (N:Ends),(f=0\/f=2)->(∀i c,cs[i]?=!c->∀x,meant cs w x i=decide (C3 f c=x))->N.rt=Q->bt (c5 T (k+1)) (.prim .sset (.cons (.comp [] 2 (.one 1) (.fE (.var 1)) .no (.prim .ix (.cons (.var 1) (.cons (.lit (.int f)) .nil)))) .nil)) [!.ref d,!.ref a,!.str w.s,!.ref (-g1),none] g2 (λx g3=>wpS (c5 T (k+1)) (match vy.body with|.seq _ (.seq _ (.seq _ (.seq _ b)))=>b|x=>x) N [!.ref d,!.ref a,!.str w.s,!x,none] g3 E) E:=λf w N hf hm hN=>by
  show comp_map (b0 T _) (λU=>∃z0 z1,U=[z0,z1]) (λi=>.int (C3 f (bY cs i))) (l:=cs.map b8.d) (k:=.lst a) (λg' e=>o6 (a9 (e.at zV))) (by simp;omega) #[none,none,rfl] (λi x U g' hx e sh=>?_) (λg' e=>?_) (O2 (b0 T _) (a9 zV) λQ q=>w_var (d:=.ref a) rfl q)
  .let#[z0,z1,rfl]:=sh;rw[ai,ae] at hx;let#[c,hc,rfl]:=hx;refine i8 ?_;show x6 (O7 hf c) ?_;exact#[by rw[F2 hc],e,_,_,rfl]
  .refine OP (ns:=(List.range (-cs)).map λi=>C3 f (bY cs i)) (a9 (by rw[bB];rw[b7,ak];rfl)) (by simp;omega) ?_;let e3:=(e.trans (Ex.snoc g' (O.lst ((List.range (cs.map b8.d).length).map λi=>D.int (C3 f (bY cs i)))))).trans (Ex.snoc _ (O.lst ((u7 ((List.range (-cs)).map λi=>C3 f (bY cs i))).map .int)));let CU:(u7 ((List.range (-cs)).map λi=>C3 f (bY cs i))).length<=9:=aD (X7 _) (by simpa using hz);refine Lw (k:=k) hT (e3.draw D2) hN b7 (by have:=D2.lt;have:=e.len;simp;omega) (NX _) CU (λx hx=>?_) λg4 D4 G4=>h g4 D4 (G2.trans ((e3.gr d).trans G4));rw[Lp] at hx;let#[i,hi,rfl]:=aP.mp hx;let hi:=aR.mp hi;let hc:=ag hi;refine OQ hi ?_;rw[hm i _ hc,F2 hc];exact az rfl
 cases w with
 |fF =>
  refine fq #[] ?_;show fq #[] ?_;let er:l9 0 (Int.toNat ((cs.map b8.d).length:Nat))=((List.range (-cs)).map λ(i:Nat)=>(i:Int)).map D.int:=by
   simp[l9]
  refine Lw (k:=k) hT (w:=.fF) (L:=(List.range (-cs)).map λ(i:Nat)=>(i:Int)) D2 rfl (by rw[<- er];exact rC) () ?_ (by simpa using hz) (λx hx=>?_) λg4 D4 G4=>h g4 D4 (G2.trans G4)
  .exact fW.mpr (ng.imp λh e=>h ())
  .let#[i,hi,rfl]:=aP.mp hx;exact OQ (aR.mp hi) (az rfl)
 |lower =>
  refine gY #[] ?_;refine V6 ?_;refine Bx ?_;refine d0 (b0 T _) _ _ _ _ _ _ _ (λx g3 q=>?_) (λy y z=>z) (fld 0 .lower #[λy g'=>Q .bK g',Q,λy y=>False,λy y=>False] (.inl rfl) (λi c hc x=>by simp only[meant,F2 hc];rfl) rfl);refine yj ?_;show fq #[] ?_;exact q
 |upper =>
  refine fq #[] ?_;show gY #[] ?_;refine V6 ?_;refine Bx ?_;exact fld 2 .upper _ (.inr rfl) (λi c hc x=>by simp only[meant,F2 hc];rfl) rfl
end
section
variable{T:Nat->Option bj}{d:Nat}
def XD(hT:TBR T)(ha:g[a]?=!.lst (cs.map b8.d))(hz:-cs<=9)(hd:d<a)(D0:m9 g d)(h:∀(rs:@&dy) b g',(-rs)<=4->rs.all (p9 cs)=true->g'[b]?=!.lst (c9 rs)->-g<=b->m9 g' d->Gr d g g'->Q (.ref b) g'):c5 T (k+3) 106 [.ref d,.ref a] g Q E:=by
 refine call_of hT.DH rfl ?_;delta GI;left;let dl:=D0.lt;let e1:=Ex.snoc g (O.lst []);let Je:=b7 (g:=g) (o:=O.lst []);let D1:=D0.snoc (O.lst []);generalize g++[O.lst []]=g1 at *;refine v5 (b0 T _) (O3 (b0 T _) ?_);show j5 (k:=k+1) hT.lf.pull (D1.snoc _) ∅ ∅ λr0 g2 h0 h1 D2 G2=>?_;let l1:=m8 Je;let hw:∃j:Nat,j<=4/\gP [D.int 0,D.int 0,D.int 1,D.int 1,D.int 2,D.int 4] r0=!.int (j:Nat):=by
  obtain⟨j,rfl⟩:∃j:Nat,r0=j:=#[r0.toNat,by omega]
  have:j=0\/j=1\/j=2\/j=3\/j=4\/j=5:=by omega
  rcases this with rfl|rfl|rfl|rfl|rfl|rfl
  .exact#[0,by decide,rfl]
  .exact#[0,by decide,rfl]
  .exact#[1,by decide,rfl]
  .exact#[1,by decide,rfl]
  .exact#[2,by decide,rfl]
  .exact#[4,by decide,rfl]
 let#[j,hj,hw]:=hw;refine s9 (a9 (G2.at () b7)) hw ?_;refine#[j,rfl,by omega,by omega,_,λi U g'=>m9 g' d/\Gr d g g'/\(∃rs:@&dy,(-rs)<=i/\rs.all (p9 cs)=true/\g'[(-g)]?=!.lst (c9 rs))/\∃z3 z4,U=[!.ref d,!.ref a,!.ref (-g),z3,z4],λy y y y=>t8,#[D2,(e1.gr d).trans ((Gr.snoc d g1 _).trans G2),#[[],by simp,rfl,((Gr.snoc d g1 _).trans G2).at () Je],none,none,rfl],λi x U g' hx q=>?_,λU g' q=>?_]
 .let#[D3,G3,#[rs,hl,hA,hF],z3,z4,rfl]:=q;let#[hi,rfl]:=x8 hx;let hi:i<j:=by simpa using hi
  refine i8 ?_
  try show wpS _ _ _ _ _ _
  left;let zU:=G3.at (cz hd) ha;refine NB (k:=k) hT zU hz hd D3 λg4 D4 G4=>#[?_,λr hr=>?_]
  .left;exact#[D4,G3.trans G4,#[rs,by omega,hA,G4.at () hF],_,_,rfl]
  .show gY rfl ?_;let Jr:=G4.at () hF;show U6 Jr (by simp[c9];omega) ?_;refine#[D4.M0 (),(G3.trans G4).M0 (av _),#[rs++[r],by simp;omega,by rw[oi,hA];simp[hr],?_],_,_,rfl];rw[get_set Jr];simp[c9]
 .let#[D3,G3,#[rs,hl,hA,hF],z3,z4,rfl]:=q;rw[n4] at hl;left;exact h rs _ _ (by simp at hl;omega) hA hF (av _) D3 G3
def XB(hT:TBR T)(tO:T 110=!Ar){n:Int}(hn:0<=n/\n<=9)(D0:m9 g d)(h:∀(cs:@&b8) (rs:@&dy) a c (v:Int) g',(-cs:Int)<=n->(∀c∈cs,kA c)->g'[a]?=!.lst (cs.map b8.d)->-g<=a->-rs<=4->rs.all (p9 cs)=true->g'[c]?=!.lst (c9 rs)->-g<=c->a≠c->1<=v->v<=6->m9 g' d->Gr d g g'->Q (.tup [.ref a,.int v,.ref c]) g'):c5 T (k+5) 110 [.ref d,.int n] g Q E:=by
 refine call_of tO rfl ?_;delta Ar;show aW3 (k:=k) hT.lf #[hn.1,by omega] D0 λcs a v g1 hl hg ha zT v1 v2 D1 G1=>?_;refine C5 rfl ?_;left;let dl:=D0.lt;refine XD (k:=k+1) hT ha () () D1 λrs c g2 hr hR hc kT D2 G2=>?_;left;exact h cs rs a c v g2 hl hg (G2.at () ha) zT hr hR hc (aD G1.len kT) (aO (aF (m8 ha) kT)) v1 v2 D2 (G1.trans G2)
def UE:((H.map λ(i:Nat)=>(i:Int)).any λm=>m==x)=H.any λi=>decide ((i:Int)=x):=by
 rw[mn]
 rfl
def Al(hH:∀i∈H,i<n)(q:Nat->Bool):((List.range n).any λi=>decide (i∈H)&&q i)=H.any q:=by
 rw[aW,aU,aU];constructor
 .rintro⟨i,_,h⟩;rw[aZ,bQ] at h;exact#[i,h.1,h.2]
 .rintro⟨i,h1,h2⟩;exact#[i,aR.mpr (hH i h1),by rw[az h1,h2];rfl]
def M8(hi:i< -cs):gP (cs.map b8.d) (i:Int)=!(bY cs i).d:=A7 (by rw[ai,ag hi,F2 (ag hi)];rfl)
def aF9(hT:TB3 T)(ha:g[a]?=!.lst (cs.map b8.d))(hh:g[hl]?=!.lst (b9 H))(hH:∀i∈H,i< -cs)(tK:-H<=50)(hp:p< -cs)(h:∀g',Ex g g'->Q (.bl (~~~meant cs r.w r.y p||(List.range (-cs)).any λi=>decide (i∈H)&&meant cs r.w r.x i)) g'):c5 T (k+1) 107 [.ref a,.ref hl,.int (p:Nat),r.d] g Q E:=by
 refine call_of hT.DG rfl ?_;delta Ft;simp only[Al hH] at h;show C5 (l:=[.str r.w.s,.int r.x,.int r.y]) rfl ?_;left;let mU:∀(w:RW) (f:Int),(f=0\/f=2)->(∀i x,meant cs w x i=decide (C3 f (bY cs i)=x))->(∀g',Ex g g'->Q (.bl (~~~meant cs w r.y p||H.any λi=>meant cs w r.x i)) g')->bt (c5 T k) (.jL (.prim (.cmp .NotEq) (.cons (.prim .ix (.cons (.prim .ix (.cons (.var 0) (.cons (.var 2) .nil))) (.cons (.var 7) .nil))) (.cons (.var 6) .nil))) (.prim (.cmp .In) (.cons (.var 5) (.cons (.comp [7,0] 4 (.one 3) (.fE (.var 1)) .no (.prim .ix (.cons (.prim .ix (.cons (.var 1) (.cons (.var 3) .nil))) (.cons (.var 0) .nil)))) .nil)))) [!.ref a,!.ref hl,!.int (p:Nat),!r.d,!.str w.s,!.int r.x,!.int r.y,!.int f] g Q E:=λw f hf hm h=>by
  show s9 (a9 ha) (M8 hp) ?_;show x6 (O7 hf _) ?_;left;rw[hm] at h;by_cases c1:C3 f (bY cs p)=r.y
  .refine fq (by rw[az c1];rfl) ?_;show comp_map (b0 T _) (λU=>∃z2 z3,U=[!.int f,!.ref a,z2,z3]) (λi=>.int (C3 f (bY cs (H.getD i 0)))) (l:=b9 H) (k:=.lst hl) (λg' e=>o6 (a9 (e.at hh))) (by simp[b9];omega) #[none,none,rfl] (λi x U g' hx e sh=>?_) (λg' e=>?_) (O2 (b0 T _) (a9 hh) λQ q=>w_var (d:=.ref hl) rfl q)
   .let#[z2,z3,rfl]:=sh;rw[b9,ai,ae] at hx;let#[j,hj,rfl]:=hx;refine i8 ?_
    try show bt _ _ _ _ _ _
    show s9 (a9 (e.at ha)) (M8 (hH j (aH hj))) ?_;show x6 (O7 hf _) ?_;exact#[by simp[List.getD,hj],e,_,_,rfl]
   .refine qH (S7 (ms:=(List.range (b9 H).length).map λi=>C3 f (bY cs (H.getD i 0))) (a9 (by rw[bB];exact b7)) ?_);let e2:(((List.range (b9 H).length).map λi=>C3 f (bY cs (H.getD i 0))).any λm=>m==r.x)=(H.any λi=>meant cs w r.x i):=by
     rw[mn,aW,aU,aU];constructor
     .rintro⟨i,hi,h1⟩;let hi:i< -H:=by simpa[b9] using hi
      refine#[H[i],cK hi,?_];rw[hm];simpa[List.getD,hi] using h1
     .rintro⟨j,hj,h1⟩;let#[i,hi,rfl]:=br.mp hj;refine#[i,by simpa[b9] using hi,?_];rw[hm] at h1;simpa[List.getD,hi] using h1
    rw[e2];simp only[decide_eq_true c1,Bool.not_true,Bool.false_or] at h;exact h _ (e.trans (Ex.snoc _ _))
  .refine gY (by rw[aM c1];rfl) ?_;have:=h _ (Ex.refl _);rw[aM c1] at this;exact this
 let#[w,x,y]:=r;cases w with
 |fF =>
  refine gY (show decide (RW.fF.s="coin")=true from by decide +kernel) ?_;left;by_cases c1:((p:Nat):Int)=y
  .refine fq (by rw[az c1];rfl) ?_;show qH (S7 (ms:=H.map λ(i:Nat)=>(i:Int)) (by rw[<- Q4];exact a9 hh) ?_);rw[UE];have:=h _ (Ex.refl _);rw[show meant cs .fF y p=true from az c1] at this;exact this
  .refine gY (by rw[aM c1];rfl) ?_;have:=h _ (Ex.refl _);rw[show meant cs .fF y p=false from aM c1] at this;exact this
 |lower =>
  refine fq (show decide (RW.lower.s="coin")=false from by decide +kernel) ?_;show gY (show decide (RW.lower.s="lower")=true from by decide +kernel) ?_;refine w_lit (V6 (Gq ?_));exact mU .lower 0 (.inl rfl) (λi x=>rfl) h
 |upper =>
  refine fq (show decide (RW.upper.s="coin")=false from by decide +kernel) ?_;show fq (show decide (RW.upper.s="lower")=false from by decide +kernel) ?_;refine w_lit (V6 (Gq ?_));exact mU .upper 2 (.inr rfl) (λi x=>rfl) h
end
def LK:∀{ns:@&Int},ns≠[]->∃M∈ns,∀x∈ns,x<=M
 |[],h=>absurd rfl h
 |[x],_=>#[x,by simp,by simp]
 |x::y::r,_=>by
  let#[M,h1,h2]:=LK (ns:=y::r) #[_];by_cases h:x<=M
  .refine#[M,bI _ h1,λz hz=>?_];rcases aL.mp hz with rfl|hz
   .exact h
   .exact h2 z hz
  .refine#[x,by simp,λz hz=>?_];rcases aL.mp hz with rfl|hz
   .exact gH _
   .have:=h2 z hz;omega
def XE{l m:@&Int}(hl:l.Nodup)(hm:m.Nodup)(h:∀x,x∈l↔x∈m):-l=-m:=((List.perm_ext_iff_of_nodup hl hm).mpr h).length_eq
noncomputable abbrev ji(H:@&Nat):Nat->Bool:=λi=>decide (i∈H)
abbrev fTail(n:Nat):MS->MS
 |.seq a b=>match n with
  |0=>.seq a b
  |n+1=>fTail n b
 |x=>x
section
variable{T:Nat->Option bj}{d:Nat}
def LL(hT:TB3 T)(hN:N.rt=Q){z6 z7:Option D}(ha:g[a]?=!.lst (cs.map b8.d))(hz:-cs<=9)(hc:g[c]?=!.lst (c9 rs))(hr:-rs<=900)(hh:g[hl]?=!.lst (b9 H))(hH:∀i∈H,i< -cs)(tK:-H<=50)(hp:p< -cs)(w1:J5 cs (ji H) p=false)(w2:F6 cs (ji H) p=false)(h:∀g',Ex g g'->Q (.str (fault cs v rs (ji H) p)) g') :
  wpS (c5 T (k+1)) (fTail 3 yo.body) N [!.ref a,!.int v,!.ref c,!.ref hl,!.int (p:Nat),!(bY cs p).d,z6,z7,none,none] g E:=by
 subst hN;dsimp[yo,fTail];show comp_map (b0 T _) (λU=>∃z1 z2,U=[!.ref a,z1,z2]) (λi=>.int (bY cs (H.getD i 0)).lo) (l:=b9 H) (k:=.lst hl) (λg' e=>o6 (a9 (e.at hh))) (by simp[b9];omega) #[none,none,rfl] (λi x U g' hx e sh=>?_) (λg1 e1=>?_) (O2 (b0 T _) (a9 hh) λQ q=>w_var (d:=.ref hl) rfl q)
 .let#[z1,z2,rfl]:=sh;rw[b9,ai,ae] at hx;let#[j,hj,rfl]:=hx;refine i8 ?_
  try show bt _ _ _ _ _ _
  show s9 (a9 (e.at ha)) (M8 (hH j (aH hj))) ?_;show x6 (O7 (.inl rfl) _) ?_;exact#[by simp[List.getD,hj,C3],e,_,_,rfl]
 let e2:=e1.trans (Ex.snoc g1 (O.lst ((List.range (b9 H).length).map λi=>D.int (bY cs (H.getD i 0)).lo)));let eh:(List.range (b9 H).length).map (λi=>D.int (bY cs (H.getD i 0)).lo)=(H.map λi=>(bY cs i).lo).map D.int:=by
  rw[bB];refine bV λi=>?_;rw[ai,ai];by_cases hi:i< -H
  .rw[cB (by simpa[b9] using hi),ag hi];simp[List.getD,hi]
  .rw[aT (by simpa[b9] using hi),aT ()]
   rfl
 rw[eh] at e2 ⊢;let h2:=b7 (g:=g1) (o:=O.lst ((H.map λi=>(bY cs i).lo).map D.int));generalize g1++[O.lst ((H.map λi=>(bY cs i).lo).map D.int)]=g2 at *;show x6 (O7 (.inl rfl) _) ?_;left;let e3:=Ex.snoc g2 (O.lst [D.int (C3 0 (bY cs p))]);refine O6 (e3.at h2) b7 (by simp;omega) ?_;let e4:=(e2.trans e3).trans (Ex.snoc _ (O.lst ((H.map λi=>(bY cs i).lo).map D.int++[D.int (C3 0 (bY cs p))])));let h4:=b7 (g:=g2++[O.lst [D.int (C3 0 (bY cs p))]]) (o:=O.lst ((H.map λi=>(bY cs i).lo).map D.int++[D.int (C3 0 (bY cs p))]));let SY:(H.map λi=>(bY cs i).lo).map D.int++[D.int (C3 0 (bY cs p))]=((H.map λi=>(bY cs i).lo)++[(bY cs p).lo]).map D.int:=by simp[C3]
 rw[SY] at e4 h4 ⊢;generalize CZ:(H.map λi=>(bY cs i).lo)++[(bY cs p).lo]=fu at *;let lhr:-fu<=51:=by rw[<- CZ];simp;omega
 generalize g2++[O.lst [D.int (C3 0 (bY cs p))]]=g3 at *;generalize g3++[O.lst (fu.map D.int)]=g4 at *;generalize (-g3)=ah at *;show B1 (b0 T _) (λU=>∃z2 z3,U=[!.ref hl,!.ref a,z2,z3]) (λi=>~~~decide (i∈H)) (λi=>.int (bY cs i).lo) (l:=l9 0 (-cs)) (λg' e=>t8) (by rw[n4];omega) #[none,none,rfl] (λi d U g' hx e sh=>?_) (λg5 e5=>?_) (AZ (b0 T _) (by omega:-cs<=1000) λQ q=>?_)
 .let#[z2,z3,rfl]:=sh;let#[hi,rfl]:=x8 hx;rw[dO];refine i8 ?_
  try show eX _ _ _ _ _ _
  show O4 (AG ((e4.trans e).at hh) ?_);show#[rfl,e,?_];by_cases xo:i∈H
  .rw[az xo];exact fq rfl #[_,_,rfl]
  .rw[aM xo];refine gY rfl ?_;show s9 (a9 ((e4.trans e).at ha)) (M8 hi) ?_;show x6 (O7 (.inl rfl) _) ?_;exact#[rfl,e,_,_,rfl]
 rotate_left
 .show E1 (a9 (e4.at ha)) ?_;rw[ak];exact q
 let e6:=e5.trans (Ex.snoc g5 (O.lst (((List.range (l9 0 (-cs)).length).filter λi=>~~~decide (i∈H)).map λi=>D.int (bY cs i).lo)));let h6:=b7 (g:=g5) (o:=O.lst (((List.range (l9 0 (-cs)).length).filter λi=>~~~decide (i∈H)).map λi=>D.int (bY cs i).lo));let el:(((List.range (l9 0 (-cs)).length).filter λi=>~~~decide (i∈H)).map λi=>D.int (bY cs i).lo)=(((List.range (-cs)).filter λi=>~~~decide (i∈H)).map λi=>(bY cs i).lo).map D.int:=by
  rw[n4,bB]
  rfl
 rw[el] at e6 h6 ⊢;generalize eE:(((List.range (-cs)).filter λi=>~~~decide (i∈H)).map λi=>(bY cs i).lo)=lt' at *;generalize g5++[O.lst (lt'.map D.int)]=g6 at *;generalize (-g5)=al at *;show B1 (b0 T _) (λU=>∃z1 z2,U=[!.ref al,z1,z2]) (λi=>decide (fu.getD i 0∈lt')) (λi=>.int (fu.getD i 0)) (l:=fu.map D.int) (k:=.lst ah) (λg' e=>o6 (a9 ((e6.trans e).at h4))) (by simp;omega) #[none,none,rfl] (λi d U g' hx e sh=>?_) (λg7 e7=>?_) (O2 (b0 T _) (a9 (e6.at h4)) λQ q=>w_var (d:=.ref ah) rfl q)
 .let#[z1,z2,rfl]:=sh;rw[ai,ae] at hx;let#[x,hx,rfl]:=hx;let ex:fu.getD i 0=x:=by simp[List.getD,hx]
  refine i8 ?_
  try show eX _ _ _ _ _ _
  show qH (S7 (a9 (e.at h6)) ?_);left;let ed:(lt'.any λm=>m==x)=decide (x∈lt'):=by
   rw[aW,aU,bQ];exact#[(by rintro ⟨y,hy,e⟩;exact (bx.mp e)▸hy),λhy=>#[x,hy,by simp]]
  rw[ed,ex];refine#[rfl,e,?_];refine if2 (λz=>?_) (λz=>?_)
  .left;exact#[rfl,e,_,_,rfl]
  .exact#[_,_,rfl]
 let es:((List.range (fu.map D.int).length).filter λi=>decide (fu.getD i 0∈lt')).map (λi=>D.int (fu.getD i 0))=(((List.range (-fu)).filter λi=>decide (fu.getD i 0∈lt')).map λi=>fu.getD i 0).map D.int:=by
  rw[bB,ak]
  rfl
 let e8:=e7.trans (Ex.snoc g7 (O.lst (((List.range (fu.map D.int).length).filter λi=>decide (fu.getD i 0∈lt')).map λi=>D.int (fu.getD i 0))));refine bE7 (ns:=((List.range (-fu)).filter λi=>decide (fu.getD i 0∈lt')).map λi=>fu.getD i 0) (a9 (by rw[es];exact b7)) (by rw[ak];exact dC K4 ()) ?_;generalize g7++[O.lst (((List.range (fu.map D.int).length).filter λi=>decide (fu.getD i 0∈lt')).map λi=>D.int (fu.getD i 0))]=g8 at *;let en:(ST.i9 [] (((List.range (-fu)).filter λi=>decide (fu.getD i 0∈lt')).map λi=>fu.getD i 0)).length=se cs (ji H) p:=by
  unfold se;refine XE (ST.Fu _ _ #[_]) ((NX _).filter _) λx=>?_;rw[ST.U5,bD,Lp];unfold qQ;rw[aZ,aU,aU];simp only[List.not_mem_nil,false_or,List.mem_map,List.mem_filter,List.mem_range,Bool.and_eq_true,decide_eq_true_eq,Bool.or_eq_true,Bool.not_eq_true',decide_eq_false_iff_not];constructor
  .rintro⟨i,⟨hi,hx⟩,rfl⟩;let hm:fu.getD i 0∈fu:=by simp[List.getD,hi]
   generalize fu.getD i 0=x at *;rw[<- eE] at hx;simp only[List.mem_map,List.mem_filter,List.mem_range,Bool.not_eq_true',decide_eq_false_iff_not] at hx;rw[<- CZ] at hm;let#[j,#[tD,CW],tB]:=hx;let zy:∃q,q< -cs/\(q∈H\/q=p)/\(bY cs q).lo=x:=by
    rcases aV.mp hm with hm|hm
    .let#[q,hq,e]:=aP.mp hm;exact#[q,hH q hq,.inl hq,e]
    .exact#[p,hp,.inr rfl,(aQ.mp hm).symm]
   let#[q,q1,q2,q3]:=zy;refine#[#[bY cs j,?_,tB],#[q,q1,q2,q3],j,tD,CW,tB];rw[F2 (ag tD)];exact cK tD
  .rintro⟨_,⟨q,q1,q2,q3⟩,j,tD,CW,tB⟩;let hm:x∈fu:=by
    rw[<- CZ];rcases q2 with q2|q2
    .exact bC _ (aP.mpr #[q,q2,q3])
    .subst q2;exact bf _ (by rw[q3];simp)
   let#[i,hi,e]:=br.mp hm;refine#[i,#[hi,?_],by simp[List.getD,hi,e]];rw[show fu.getD i 0=x by simp[List.getD,hi,e],<- eE];simp only[List.mem_map,List.mem_filter,List.mem_range,Bool.not_eq_true',decide_eq_false_iff_not];exact#[j,#[tD,CW],tB]
 rw[en];left;let vd:=(e4.trans e6).trans e8;refine if2 (λc3=>?_) (λc3=>?_)
 .left;have:fault cs v rs (ji H) p="anvil":=by unfold fault;rw[aE (by rw[w1];decide),aE (by rw[w2];decide),aI c3]
  rw[this] at h;exact h _ vd
 show comp_map (b0 T _) (λU=>∃z3 z4,U=[!.ref hl,!.ref a,!.int (p:Nat),z3,z4]) (λi=>.bl (~~~meant cs (rs.getD i #[.fF,0,0]).w (rs.getD i #[.fF,0,0]).y p||(List.range (-cs)).any λj=>decide (j∈H)&&meant cs (rs.getD i #[.fF,0,0]).w (rs.getD i #[.fF,0,0]).x j)) (l:=c9 rs) (k:=.lst c) (λg' e=>o6 (a9 ((vd.trans e).at hc))) (by simp[c9];omega) #[none,none,rfl] (λi x U g' hx e sh=>?_) (λg9 e9=>?_) (O2 (b0 T _) (a9 (vd.at hc)) λQ q=>w_var (d:=.ref c) rfl q)
 .let#[z3,z4,rfl]:=sh;rw[c9,ai,ae] at hx;let#[r,rC,rfl]:=hx;refine i8 ?_
  try show bt _ _ _ _ _ _
  show aF9 (k:=k) hT ((vd.trans e).at ha) ((vd.trans e).at hh) hH tK hp λva lN=>?_;exact#[by simp[List.getD,rC],e.trans lN,_,_,rfl]
 let eb:((List.range (c9 rs).length).map λi=>D.bl (~~~meant cs (rs.getD i #[.fF,0,0]).w (rs.getD i #[.fF,0,0]).y p||(List.range (-cs)).any λj=>decide (j∈H)&&meant cs (rs.getD i #[.fF,0,0]).w (rs.getD i #[.fF,0,0]).x j))=(rs.map λr=>~~~meant cs r.w r.y p||(List.range (-cs)).any λj=>decide (j∈H)&&meant cs r.w r.x j).map D.bl:=by
  rw[bB];refine bV λi=>?_;rw[ai,ai];by_cases hi:i< -rs
  .rw[cB (by simpa[c9] using hi),ag hi];simp[List.getD,hi]
  .rw[aT (by simpa[c9] using hi),aT ()]
   rfl
 rw[eb];refine ye (a9 b7) (T1 _) ?_;let eN:(rs.map λr=>~~~meant cs r.w r.y p||(List.range (-cs)).any λj=>decide (j∈H)&&meant cs r.w r.x j).all id=N8 cs rs (ji H) p:=by
  rw[List.all_map]
  rfl
 rw[eN];left;let lN:=vd.trans (e9.trans (Ex.snoc g9 (O.lst ((rs.map λr=>~~~meant cs r.w r.y p||(List.range (-cs)).any λj=>decide (j∈H)&&meant cs r.w r.x j).map D.bl))));cases c4:N8 cs rs (ji H) p with
 |true =>
  left;have:fault cs v rs (ji H) p="":=by unfold fault;rw[aE (by rw[w1];decide),aE (by rw[w2];decide),aE c3,aI c4]
  rw[this] at h;exact h _ lN
 |false =>
  left;have:fault cs v rs (ji H) p="rule":=by unfold fault;rw[aE (by rw[w1];decide),aE (by rw[w2];decide),aE c3,aE (by rw[c4];decide)]
  rw[this] at h;exact h _ lN
end
section
variable{T:Nat->Option bj}{d:Nat}
def FQ(c:b8):gP [D.int c.lo,D.tup (c.lm.map .int),D.int c.up,D.tup (c.um.map .int),D.int c.yr] 4=!.int c.yr:=rfl
def Wr(hi:i∈H)(hH:∀i∈H,i< -cs)(h:mw (bY cs i) (bY cs p)=true):fault cs v rs (ji H) p="wear":=by
 unfold fault;rw[aI];unfold J5;rw[Al hH,aU];exact#[i,hi,h]
def Ll(hT:TB3 T)(hB:∀c∈cs,CB c)(ha:g[a]?=!.lst (cs.map b8.d))(hz:-cs<=9)(hc:g[c]?=!.lst (c9 rs))(hr:-rs<=900)(hh:g[hl]?=!.lst (b9 H))(hH:∀i∈H,i< -cs)(tK:-H<=50)(hp:p< -cs)(h:∀g',Ex g g'->Q (.str (fault cs v rs (ji H) p)) g'):c5 T (k+2) 108 [.ref a,.int v,.ref c,.ref hl,.int (p:Nat)] g Q E:=by
 refine call_of hT.DF rfl ?_;let RY:∀i,i< -cs->CB (bY cs i):=λi hi=>by rw[F2 (ag hi)];exact hB _ (cK hi)
 delta yo;show s9 (a9 ha) (M8 hp) ?_;show v5 (b0 T _) (lT (b0 T _) ?_);show#[hl,_,rfl,a9 hh,b9 H,λt U g'=>Ex g g'/\(∀i∈H.take t,mw (bY cs i) (bY cs p)=false)/\∃z6 z7,U=[!.ref a,!.int v,!.ref c,!.ref hl,!.int (p:Nat),!(bY cs p).d,z6,z7,none,none],λi U g' q=>o6 (a9 (q.1.at hh)),#[Ex.refl _,by simp,none,none,rfl],λt x U g' hx q=>?_,λU g' q=>?_]
 .let#[e1,q,z6,z7,rfl]:=q;rw[b9,ai,ae] at hx;let#[i,hi,rfl]:=hx;let xo:=aH hi;let lU:=hH i xo;refine i8 ?_
  try show wpS _ _ _ _ _ _
  show v5 (b0 T _) (lT (b0 T _) ?_);left;let e2:=e1.trans (Ex.snoc g' (O.lst [D.int 0,D.int 2]));let h2:=b7 (g:=g') (o:=O.lst [D.int 0,D.int 2]);generalize g'++[O.lst [D.int 0,D.int 2]]=g2 at *;refine#[_,_,rfl,a9 h2,[D.int 0,D.int 2],λj U g3=>Ex g2 g3/\(1<=j->(decide ((bY cs i).lo=(bY cs p).lo)&&~~~kr (bY cs i).lm (bY cs p).lm)=false)/\(2<=j->(decide ((bY cs i).up=(bY cs p).up)&&~~~kr (bY cs i).um (bY cs p).um)=false)/\∃z7,U=[!.ref a,!.int v,!.ref c,!.ref hl,!.int (p:Nat),!(bY cs p).d,!.int (i:Nat),z7,none,none],λj U g3 q=>o6 (a9 (q.1.at h2)),#[Ex.refl _,λz=>absurd z (),λz=>absurd z (),z7,rfl],λj x U g3 hx q=>?_,λU g3 q=>?_]
  .let#[e3,q1,q2,z7,rfl]:=q;let hf:∃f:Int,(f=0\/f=2)/\x=.int f/\(f=0↔j=0)/\j<2:=by
    match j,hx with
    |0,hx=>cases hx;exact#[0,.inl rfl,rfl,by simp,by omega]
    |1,hx=>cases hx;exact#[2,.inr rfl,rfl,by simp,by omega]
    |j+2,hx=>simp at hx
   let#[f,hf,rfl,Jb,hj]:=hf;let ve:=e2.trans e3;refine i8 ?_
   try show wpS _ _ _ _ _ _
   show s9 (a9 (ve.at ha)) (M8 lU) ?_;show x6 (O7 hf _) ?_;show x6 (O7 hf _) ?_;left;let fin:∀g4,Ex g3 g4->(decide (C3 f (bY cs i)=C3 f (bY cs p))&&~~~kr (ub f (bY cs i)) (ub f (bY cs p)))=false->(Ex g2 g4/\(1<=j+1->(decide ((bY cs i).lo=(bY cs p).lo)&&~~~kr (bY cs i).lm (bY cs p).lm)=false)/\(2<=j+1->(decide ((bY cs i).up=(bY cs p).up)&&~~~kr (bY cs i).um (bY cs p).um)=false)/\∃z7,([!.ref a,!.int v,!.ref c,!.ref hl,!.int (p:Nat),!(bY cs p).d,!.int (i:Nat),!.int f,none,none]:S)=[!.ref a,!.int v,!.ref c,!.ref hl,!.int (p:Nat),!(bY cs p).d,!.int (i:Nat),z7,none,none]):=λg4 e4 hw=>by
    refine#[e3.trans e4,λy=>?_,λz=>?_,_,rfl]
    .by_cases h0:j=0
     .rw[Jb.mpr h0] at hw;exact hw
     .exact q1 ()
    .have:¬f=0:=λw=>by have:=Jb.mp w;omega
     let f2:f=2:=hf.resolve_left this;rw[f2] at hw;exact hw
   refine if2 (λh1=>?_) (λh1=>?_)
   .show s9 (a9 (ve.at ha)) (M8 lU) ?_;show x6 (OF hf _) ?_;show x6 (OF hf _) ?_;show aW1 (k:=k) hT.Dt ((RY i lU).Qx f) λg4 e4=>?_;left;cases hw:kr (ub f (bY cs i)) (ub f (bY cs p)) with
    |false =>
     left;have:mw (bY cs i) (bY cs p)=true:=by
      unfold mw;rcases hf with rfl|rfl
      .rw[az (show(bY cs i).lo=(bY cs p).lo from h1),show kr (bY cs i).lm (bY cs p).lm=false from hw];rfl
      .rw[az (show(bY cs i).up=(bY cs p).up from h1),show kr (bY cs i).um (bY cs p).um=false from hw];simp
     rw[Wr xo hH this] at h;exact h _ (ve.trans e4)
    |true =>
     left;exact fin g4 e4 (by rw[hw];simp)
   .left;exact fin g3 (Ex.refl _) (by rw[aM h1];rfl)
  .let#[e3,q1,q2,z7,rfl]:=q
   try show wpS _ _ _ _ _ _
   try left
   refine#[e2.trans e3,λi' jC=>?_,_,_,rfl];rw[bE,hi] at jC;rcases aV.mp jC with jC|jC
   .exact q i' jC
   .have:i'=i:=by simpa using jC
    subst this;unfold mw;rw[q1 ∅,q2 ∅]
    rfl
 .let#[e1,q,z6,z7,rfl]:=q;rw[b9,ak,cJ] at q;let w1:J5 cs (ji H) p=false:=by
   unfold J5;rw[Al hH,List.any_eq_false];exact λi hi=>by rw[q i hi];decide
  try show wpS _ _ _ _ _ _
  refine yj ?_;show x6 (FQ _) ?_;left;let wL:F6 cs (ji H) p=(decide (0<(bY cs p).yr)&&H.any λi=>decide ((bY cs p).yr<(bY cs i).yr)):=by
   unfold F6;rw[Al hH,aW,aU,aZ,aU];constructor
   .rintro⟨i,h1,h2⟩;unfold lG at h2;rw[aZ] at h2;exact#[h2.1,i,h1,h2.2]
   .rintro⟨h1,i,h2,h3⟩;exact#[i,h2,by unfold lG;rw[h1,h3];rfl]
  refine if2 (λc1=>?_) (λc1=>?_)
  .left;let e2:=e1.trans (Ex.snoc g' (O.lst [D.int 0]));let h2:=b7 (g:=g') (o:=O.lst [D.int 0]);generalize g'++[O.lst [D.int 0]]=g2 at *;generalize (-g')=z0 at *;refine comp_map (b0 T _) (λU=>∃z1 z2,U=[!.ref a,z1,z2]) (λi=>.int (bY cs (H.getD i 0)).yr) (l:=b9 H) (k:=.lst hl) (λg' e=>o6 (a9 ((e2.trans e).at hh))) (by simp[b9];omega) #[none,none,rfl] (λi x U g' hx e sh=>?_) (λg3 e3=>?_) (O2 (b0 T _) (a9 (e2.at hh)) λQ q=>w_var (d:=.ref hl) rfl q)
   .let#[z1,z2,rfl]:=sh;rw[b9,ai,ae] at hx;let#[j,hj,rfl]:=hx;refine i8 ?_
    try show bt _ _ _ _ _ _
    show s9 (a9 ((e2.trans e).at ha)) (M8 (hH j (aH hj))) ?_;show x6 (FQ _) ?_;exact#[by simp[List.getD,hj],e,_,_,rfl]
   let ey:(List.range (b9 H).length).map (λi=>D.int (bY cs (H.getD i 0)).yr)=(H.map λi=>(bY cs i).yr).map D.int:=by
    rw[bB];refine bV λi=>?_;rw[ai,ai];by_cases hi:i< -H
    .rw[cB (by simpa[b9] using hi),ag hi];simp[List.getD,hi]
    .rw[aT (by simpa[b9] using hi),aT ()]
     rfl
   rw[ey];let e4:=e3.trans (Ex.snoc g3 (O.lst ((H.map λi=>(bY cs i).yr).map D.int)));refine O6 (e4.at h2) b7 (by simp;omega) ?_;let e5:=e4.trans (Ex.snoc _ (O.lst ([D.int 0]++(H.map λi=>(bY cs i).yr).map D.int)));let#[M,m1,m2]:=LK (ns:=0::H.map λi=>(bY cs i).yr) #[_];refine bN1 (ns:=0::H.map λi=>(bY cs i).yr) (a9 b7) m1 m2 ?_;show x6 (FQ _) ?_;left;let em:decide ((bY cs p).yr<M)=F6 cs (ji H) p:=by
    rw[wL,az c1,sv,aW,bQ,aU];constructor
    .intro hM;rcases aL.mp m1 with rfl|hm
     .omega
     .let#[i,hi,rfl]:=aP.mp hm;exact#[i,hi,az hM]
    .rintro⟨i,hi,h1⟩;have:=m2 _ (bI _ (aP.mpr #[i,hi,rfl]));have:=bg h1;omega
   rw[em];cases w2:F6 cs (ji H) p with
   |true =>
    left;have:fault cs v rs (ji H) p="year":=by unfold fault;rw[aE (by rw[w1];decide),aI w2]
    rw[this] at h;exact h _ (e2.trans e5)
   |false =>
    refine fq rfl ?_;refine M9 ?_;let Ai:=e2.trans e5;exact LL (k:=k) hT rfl (Ai.at ha) hz (Ai.at hc) hr (Ai.at hh) hH tK hp w1 w2 λg6 e6=>h g6 (Ai.trans e6)
  .refine fq rfl ?_;refine M9 ?_;let w2:F6 cs (ji H) p=false:=by rw[wL,aM c1];rfl
   exact LL (k:=k) hT rfl (e1.at ha) hz (e1.at hc) hr (e1.at hh) hH tK hp w1 w2 λg6 e6=>h g6 (e1.trans e6)
end
abbrev AO:bj:=#[3,3,(.seq (.ret (.dZ (bR (.cmp .NotEq) (.call 91 (eM bq bw)) bq) (bR (.cmp .Is) (.call 101 (gS aK bq bw)) (.lit .bK)))) .pass)]
abbrev LU:bj:=#[2,2,(.seq (.ret (.comp [0,1] 4 (.one 3) (.eY (dh (.fld "size") aK)) (.fR (.call 115 (gS aK bq bz))) bz)) .pass)]
abbrev Av:bj:=#[2,2,(.seq (.ret (.comp [0] 3 (.one 2) (.eY bq) (dW .Eq (bR (.bin .Mod) (bR (.bin .FloorDiv) aK (cN (.prim .lst (.cons (bo 1) (.cons (bo 2) (DM (bo 4) (bo 8) (bo 16) (bo 32) (bo 64) (bo 128) (bo 256))))) bw)) (bo 2)) (bo 1)) bw)) .pass)]
abbrev Aq:bj:=#[1,1,(.seq (.ret (cN (.prim .lst (.cons (bo 1) (.cons (bo 2) (.cons (bo 4) (DM (bo 8) (bo 16) (bo 32) (bo 64) (bo 128) (bo 256) (bo 512)))))) aK)) .pass)]
abbrev Z3:bj:=#[4,7,(.seq (.set 4 (.call 146 (eM bz (dh .len aK)))) (.seq (.set 5 (.prim .lst .nil)) (.seq (.dX (.one 6) (.eY (dh .len aK)) (.seq (.ifs (.dZ (dW .NotIn eL cF) (dW .Eq (.call 108 (sE aK bq bw cF eL)) (gA ""))) (.seq (.expr (.fo .append dU (ff eL))) .pass) .pass) .pass)) (.seq (.ret dU) .pass))))]
abbrev E8(cs:@&b8)(v:Int)(rs:@&dy)(s p:Nat):Bool:= ~~~s.testBit p&&decide (fault cs v rs s.testBit p="")
abbrev j7(cs:@&b8)(v:Int)(rs:@&dy)(s:Nat):@&Nat:=(List.range (-cs)).filter (E8 cs v rs s)
def WR(x:Str):R9 (Ad x)=decide (x=""):=by
 unfold Ad;by_cases h:x=""
 .rw[aI h,az h];rfl
 .rw[aE h,aM h];rfl
def bM0{s:Nat}:decide (((s |||2 ^ p:Nat):Int)=(s:Nat))=s.testBit p:=by
 rw[aW,bQ];constructor
 .intro h;let h:s |||2 ^ p=s:=by omega
  have:=P4 s p p;rw[h] at this;rw[this];simp
 .intro h;have:s |||2 ^ p=s:=BI λi=>by
   rw[P4];by_cases hi:i=p
   .subst hi;rw[h];rfl
   .rw[aM hi,Bool.or_false]
  rw[this]
structure TF(T:Nat->Option bj):Prop where
 tN:T 115=!AO
 DD:T 116=!LU
section
variable{T:Nat->Option bj}{d:Nat}
def aX0(hT:iW T)(tN:T 115=!AO)(B:Bd g b cs v rs)(hz:-cs<=9)(hr:-rs<=900){s:Nat}(hs:s<2 ^ (-cs))(hp:p< -cs)(h:∀g',Ex g g'->Q (.bl (E8 cs v rs s p)) g'):c5 T (k+4) 115 [.ref b,.int (s:Nat),.int (p:Nat)] g Q E:=by
 refine call_of tN rfl ?_;delta AO;show B6 (k:=k+2) hT.qm () ?_;left;rw[bM0];cases hb:s.testBit p with
 |true =>
  refine fq rfl ?_;have:E8 cs v rs s p=false:=by unfold E8;rw[hb];rfl
  rw[this] at h;exact h _ (Ex.refl _)
 |false =>
  refine gY rfl ?_;show aA8 (k:=k) hT B hz hr hs hp λg1 e1=>?_;left;have:E8 cs v rs s p=R9 (Ad (fault cs v rs s.testBit p)):=by unfold E8;rw[hb,WR];rfl
  rw[this] at h;exact h _ e1
def W5(hT:iW T)(hF:TF T)(B:Bd g b cs v rs)(hz:-cs<=9)(hr:-rs<=900){s:Nat}(hs:s<2 ^ (-cs))(h:∀g' l,Ex g g'->-g<=l->g'[l]?=!(.lst (b9 (j7 cs v rs s)))->Q (.ref l) g'):c5 T (k+5) 116 [.ref b,.int (s:Nat)] g Q E:=by
 refine call_of hF.DD rfl ?_;let#[w,l,dd,nb,h1,h2,h3,h4,h5]:=B.ex;refine B1 (b0 T _) (λU=>∃z2 z3,U=[!.ref b,!.int (s:Nat),z2,z3]) (E8 cs v rs s) (λi=>.int (i:Nat)) (l:=l9 0 (-cs)) (λg' e=>t8) (by rw[n4];omega) #[none,none,rfl] (λi d U g' hx e sh=>?_) (λg' e=>?_) (AZ (b0 T _) (by omega:-cs<=1000) λQ q=>?_)
 .let#[z2,z3,rfl]:=sh;let#[hi,rfl]:=x8 hx;rw[dO];refine i8 ?_;show aX0 (k:=k) hT hF.tN (B.at e) hz hr hs hi λg2 e2=>?_;show#[rfl,e.trans e2,?_];cases E8 cs v rs s i with
  |true =>
   refine gY rfl ?_;left;exact#[rfl,e.trans e2,_,_,rfl]
  |false=>exact fq rfl #[_,_,rfl]
 .rw[n4];exact h _ _ (e.trans (Ex.snoc _ _)) e.len b7
 .left;exact W6 h1 rfl q
abbrev Lb:@&D:=[.int 1,.int 2,.int 4,.int 8,.int 16,.int 32,.int 64,.int 128,.int 256]
def bA7(hi:i<9):gP Lb (i:Int)=!(.int ((2 ^ i:Nat):Int)):=by
 have:i=0\/i=1\/i=2\/i=3\/i=4\/i=5\/i=6\/i=7\/i=8:=by omega
 rcases this with rfl|rfl|rfl|rfl|rfl|rfl|rfl|rfl|rfl<;>rfl
def P7(lK:T 147=!Aq)(hn:n<=9)(h:∀g',Ex g g'->Q (.int ((2 ^ n:Nat):Int)) g'):c5 T (k+1) 147 [.int (n:Nat)] g Q E:=by
 refine call_of lK rfl ?_;delta Aq;show s9 (a9 b7) (d:=.int ((2 ^ n:Nat):Int)) ?_ (h _ (Ex.snoc _ _));have:n=0\/n=1\/n=2\/n=3\/n=4\/n=5\/n=6\/n=7\/n=8\/n=9:=by omega
 rcases this with rfl|rfl|rfl|rfl|rfl|rfl|rfl|rfl|rfl|rfl<;>rfl
def a89(tL:T 146=!Av){s:Nat}(hn:n<=9)(h:∀g' l,Ex g g'->-g<=l->g'[l]?=!(.lst (b9 ((List.range n).filter s.testBit)))->Q (.ref l) g'):c5 T (k+1) 146 [.int (s:Nat),.int (n:Nat)] g Q E:=by
 refine call_of tL rfl ?_;delta Av;show B1 (b0 T _) (λU=>∃z1 z2,U=[!.int (s:Nat),z1,z2]) s.testBit (λi=>.int (i:Nat)) (l:=l9 0 n) (λg' e=>t8) (by rw[n4];omega) #[none,none,rfl] (λi d U g' hx e sh=>?_) (λg' e=>?_) (AZ (b0 T _) (by omega:n<=1000) λQ q=>w_var (d:=.int (n:Nat)) rfl q)
 .let#[z1,z2,rfl]:=sh;let#[hi,rfl]:=x8 hx;rw[dO];refine i8 ?_;show s9 (a9 b7) (bA7 (i:=i) ()) ?_;let hp:(0:Int)<((2 ^ i:Nat):Int):=by have:=fN (n:=i);omega
  let CK:((2 ^ i:Nat):Int)<1073741824:=by
   have:=BG (a:=2) () (show i<30 by omega);omega
  refine OC hp CK ?_;left;let eb:decide ((s:Int) / ((2 ^ i:Nat):Int) % 2=1)=s.testBit i:=by
   rw[Nat.testBit_eq_decide_div_mod_eq];refine eG.mpr ?_;rw[<- Int.natCast_ediv];omega
  let e2:=e.trans (Ex.snoc g' (O.lst Lb));rw[eb];refine#[rfl,e2,?_];cases s.testBit i with
  |true =>
   refine gY rfl ?_;left;exact#[rfl,e2,_,_,rfl]
  |false=>exact fq rfl #[_,_,rfl]
 .rw[n4];exact h _ _ (e.trans (Ex.snoc _ _)) e.len b7
structure Hd(T:Nat->Option bj):Prop where
 tL:T 146=!Av
 lK:T 147=!Aq
 Dx:T 148=!Z3
def MK(hT:uk T)(xC:Hd T)(hB:∀c∈cs,CB c)(ha:g[a]?=!.lst (cs.map b8.d))(hz:-cs<=9)(hc:g[c]?=!.lst (c9 rs))(hr:-rs<=900){s:Nat}(h:∀g' l,Ex g g'->-g<=l->g'[l]?=!(.lst (b9 (j7 cs v rs s)))->Q (.ref l) g'):c5 T (k+3) 148 [.ref a,.int v,.ref c,.int (s:Nat)] g Q E:=by
 refine call_of xC.Dx rfl ?_;delta Z3;left;rw[ak];refine a89 (k:=k+1) xC.tL hz λg1 hl e1 ky hh=>?_;left;let e2:=e1.trans (Ex.snoc g1 (O.lst []));let IV:=(Ex.snoc g1 (O.lst [])).at hh;let h2:=b7 (g:=g1) (o:=O.lst []);let l1:=m8 hh;let ge:-g<=-g1:=e1.len;generalize (-g1)=fl at *;let hH:∀i∈(List.range (-cs)).filter s.testBit,i< -cs:=vJ;let tK:((List.range (-cs)).filter s.testBit).length<=50:=aD K4 ();let hS:∀i,i< -cs->ji ((List.range (-cs)).filter s.testBit) i=s.testBit i:=λi hi=>by
  rw[aW,bQ,bD,aR];exact#[λz=>z.2,λz=>#[hi,z]]
 refine v5 (b0 T _) (O3 (b0 T _) ?_);show E1 (a9 (e2.at ha)) ?_;refine#[_,rfl,by omega,by simp;omega,l9 0 (-cs),λi U g'=>Ex g g'/\g'[hl]?=!(.lst (b9 ((List.range (-cs)).filter s.testBit)))/\g'[fl]?=!(.lst (b9 ((List.range i).filter (E8 cs v rs s))))/\∃z6,U=[!.ref a,!.int v,!.ref c,!.int (s:Nat),!.ref hl,!.ref fl,z6],λy y y y=>by simp only[List.length_map,Int.toNat_natCast];exact t8,#[e2,IV,h2,none,rfl],λi x U g' hx q=>?_,λU g' q=>?_]
 .let#[e3,qh,h3,z6,rfl]:=q;let#[hi,rfl]:=x8 hx;rw[dO];refine i8 ?_;show O4 (AG qh ?_);left;let es:(List.range (i+1)).filter (E8 cs v rs s)=(List.range i).filter (E8 cs v rs s)++if E8 cs v rs s i=true then[i] else[]:=by
   rw[fH,eQ];cases z:E8 cs v rs s i<;>simp only[List.filter_cons,z,List.filter_nil]<;>rfl
  let RN:decide (i∈(List.range (-cs)).filter s.testBit)=s.testBit i:=hS i hi;rw[RN];cases hb:s.testBit i with
  |true =>
   refine fq rfl ?_;refine#[e3,qh,?_,_,rfl];rw[es,aE (by unfold E8;rw[hb];simp),dM];exact h3
  |false =>
   refine gY rfl ?_;show Ll (k:=k) hT hB (e3.at ha) hz (e3.at hc) hr qh hH tK hi λg4 e4=>?_;rw[aM7 hS];left;let Jd:E8 cs v rs s i=decide (fault cs v rs s.testBit i=""):=by unfold E8;rw[hb];rfl
   refine if2 (λc1=>?_) (λc1=>?_)
   .let h4:=e4.at h3;show U6 h4 (by have:=@K4 i (E8 cs v rs s);simp[b9];omega) ?_;refine#[#[by simp;exact(e3.trans e4).len,λj hj=>by rw[aA ()];exact(e3.trans e4).old j hj],d6 (e4.at qh) (),?_,_,rfl];rw[get_set h4,es,aI (by rw[Jd];exact az c1)];simp[b9]
   .refine#[e3.trans e4,e4.at qh,?_,_,rfl];rw[es,aE (by rw[Jd,aM c1];decide),dM];exact e4.at h3
 .let#[e3,qh,h3,z6,rfl]:=q;rw[n4] at h3;left;exact h _ _ e3 ge h3
end
abbrev Y6:bj:=#[4,6,(.seq (.ifs (dW .NotEq (dh .len bz) (dh .len aK)) (.seq (.ret (bR .tup (gA "many") (dh .len bz))) .pass) .pass) (.seq (.dX (.one 4) (.eY (dh .len bz)) (.seq (.ifs (.eK (.fR (.chain .LtE .Lt (bo 0) (cN bz cF) (dh .len aK)))) (.seq (.ret (bR .tup (gA "stranger") cF)) .pass) .pass) (.seq (.ifs (dW .In (cN bz cF) (bR (.nP false true) bz cF)) (.seq (.ret (bR .tup (gA "twice") cF)) .pass) .pass) .pass))) (.seq (.dX (.one 4) (.eY (dh .len bz)) (.seq (.set 5 (.call 108 (sE aK bq bw (bR (.nP false true) bz cF) (cN bz cF)))) (.seq (.ifs (dW .NotEq dU (gA "")) (.seq (.ret (bR .tup dU cF)) .pass) .pass) .pass))) (.seq (.ret (.lit .bK)) .pass))))]
def Nf{f:Nat->Option α}:(List.range (i+1)).findSome? f=none↔(List.range i).findSome? f=none/\f i=none:=by
 rw[fH,zd];cases (List.range i).findSome? f<;>simp
def GC{f:Nat->Option α}{r:α}(h:(List.range i).findSome? f=none)(hi:i<n)(hr:f i=!r):(List.range n).findSome? f=!r:=by
 let e:List.range n=List.range i++(List.range (n-i)).map (i+·):=by
  rw[<- List.range_add]
  congr 1
  omega
 obtain⟨m,hm⟩:∃m,n-i=m+1:=#[n-i-1,by omega]
 rw[e,zd,h,hm,List.range_succ_eq_map];simp[hr]
abbrev ou(n:Nat)(ns:@&Int)(i:Nat):Option (Str×Nat):=if 0<=ns.getD i 0/\ns.getD i 0<n then(if ns.getD i 0∈ns.take i then some ("twice",i) else none) else !("stranger",i)
abbrev L8(ns:@&Int)(i:Nat):@&Nat:=(ns.take i).map Int.toNat
abbrev rR(cs:@&b8)(v:Int)(rs:@&dy)(ns:@&Int)(i:Nat):Option (Str×Nat):=if fault cs v rs (ji (L8 ns i)) (ns.getD i 0).toNat="" then none else !(fault cs v rs (ji (L8 ns i)) (ns.getD i 0).toNat,i)
abbrev pairF:Option (Str×Nat)->D
 |some (w,i)=>.tup [.str w,.int i]
 |none=>.bK
abbrev Bb(cs:@&b8)(v:Int)(rs:@&dy)(ns:@&Int):Option (Str×Nat) :=
 if (-ns)=-cs then((List.range (-ns)).findSome? (ou (-cs) ns)).orElse λx=>(List.range (-ns)).findSome? (rR cs v rs ns) else !("many",(-ns))
def getD_at(h:ns[i]?=!x):ns.getD i 0=x:=by simp[List.getD,h]
set_option tactic.hygienic true in
def Gg(h:(List.range (-ns)).findSome? (ou n ns)=none)(hi:i< -ns):(0<=ns.getD i 0/\ns.getD i 0<n)/\ns.getD i 0∉ns.take i:=by
 have:=ic.mp h i (aR.mpr hi);unfold ou at this;split at this
 .rename_i h1;split at this
  .cases this
  .rename_i h2;exact#[h1,h2]
 .cases this
def Vy(h:(List.range (-ns)).findSome? (ou n ns)=none):∀j∈L8 ns i,j<n:=by
 intro j hj;let#[x,hx,rfl]:=aP.mp hj;let#[k,hk,rfl]:=br.mp (cj hx);have:=(Gg h hk).1;rw[getD_at (ag hk)] at this;omega
def a21(h:(List.range (-ns)).findSome? (ou n ns)=none):(ns.take i).map D.int=b9 (L8 ns i):=by
 unfold b9 L8;rw[bB];refine fk λx hx=>?_;let#[k,hk,rfl]:=br.mp (cj hx);have:=(Gg h hk).1;rw[getD_at (ag hk)] at this;change D.int ns[k]=D.int ((ns[k].toNat:Nat):Int);rw[Int.toNat_of_nonneg this.1]
def Vb{l:@&Int}:(l.any λm=>m==x)=decide (x∈l):=by
 rw[aW,aU,bQ];exact#[(by rintro ⟨y,hy,e⟩;exact (bx.mp e)▸hy),λhy=>#[x,hy,by simp]]
section
variable{T:Nat->Option bj}{d:Nat}{r:Nat}
def aG6(hT:TB3 T)(tP:T 109=!Y6)(hB:∀c∈cs,CB c)(ha:g[a]?=!.lst (cs.map b8.d))(hz:-cs<=9)(hc:g[c]?=!.lst (c9 rs))(hR:-rs<=900)(hr:g[r]?=!.lst (ns.map .int))(h:∀g',Ex g g'->Q (pairF (Bb cs v rs ns)) g'):c5 T (k+3) 109 [.ref a,.int v,.ref c,.ref r] g Q E:=by
 refine call_of tP rfl ?_;delta Y6;left;rw[ak,ak];unfold Bb at h;by_cases hn:-ns=-cs
 .rw[aI hn] at h;let hz2:-ns<=9:=by omega
  let EO:∀{i:Nat},i< -ns->gP (ns.map D.int) (i:Int)=!.int (ns.getD i 0):=λ{i} hi=>A7 (by rw[ai,ag hi,getD_at (ag hi)];rfl);refine fq (by rw[az ()];rfl) ?_;show v5 (b0 T _) (O3 (b0 T _) ?_);show#[by omega,by simp;omega,l9 0 (-ns),λi U g'=>Ex g g'/\(List.range i).findSome? (ou (-cs) ns)=none/\∃z4,U=[!.ref a,!.int v,!.ref c,!.ref r,z4,none],λy y y y=>by simp only[List.length_map,Int.toNat_natCast];exact t8,#[Ex.refl _,rfl,none,rfl],λi x U g' hx q=>?_,λU g' q=>?_]
  .let#[e1,q,z4,rfl]:=q;let#[hi,rfl]:=x8 hx;rw[dO];refine i8 ?_
   try show wpS _ _ _ _ _ _
   show s9 (a9 (e1.at hr)) (EO hi) ?_;left;let ir:ou (-cs) ns i=if 0<=ns.getD i 0/\ns.getD i 0< -cs then(if ns.getD i 0∈ns.take i then some (("twice":Str),i) else none) else !(("stranger":Str),i):=rfl
   let str:¬(0<=ns.getD i 0/\ns.getD i 0< -cs)->Q (.tup [.str "stranger",.int (i:Nat)]) g':=λhs=>by
    rw[GC q hi (show ou (-cs) ns i=some (("stranger":Str),i) by rw[ir,aE hs])] at h;exact h _ e1
   refine if2 (λs1=>?_) (λs1=>?_)
   .show E1 (a9 (e1.at ha)) ?_;rw[ak];left;by_cases s2:ns.getD i 0<(-cs:Nat)
    rotate_left
    .refine gY (by rw[aM s2];rfl) ?_;left;exact str λz=>s2 z.2
    refine fq (by rw[az s2];rfl) ?_;show s9 (a9 (e1.at hr)) (EO hi) ?_;show Ay (a9 (e1.at hr)) ?_;rw[GB (by rw[ak];omega),<- kP];refine qH (S7 (a9 b7) ?_);rw[Vb];show if2 (λht=>?_) (λht=>?_)
    .left;rw[GC q hi (show ou (-cs) ns i=some (("twice":Str),i) by rw[ir,aI #[s1,s2],aI ht])] at h;exact h _ (e1.trans (Ex.snoc _ _))
    .left;exact#[e1.trans (Ex.snoc _ _),Nf.mpr #[q,by rw[ir,aI #[s1,s2],aE ht]],_,rfl]
   .left;exact str λz=>s1 z.1
  .let#[e1,hp,z4,rfl]:=q;rw[n4] at hp;rw[hp] at h
   try show wpS _ _ _ _ _ _
   show v5 (b0 T _) (O3 (b0 T _) ?_);show E1 (a9 (e1.at hr)) ?_;refine#[_,rfl,by omega,by simp;omega,l9 0 (-ns),λi U g'=>Ex g g'/\(List.range i).findSome? (rR cs v rs ns)=none/\∃z4 z5,U=[!.ref a,!.int v,!.ref c,!.ref r,z4,z5],λy y y y=>by simp only[List.length_map,Int.toNat_natCast];exact t8,#[e1,rfl,_,_,rfl],λi x U g' hx q=>?_,λU g' q=>?_]
   .let#[e2,q,z4,z5,rfl]:=q;let#[hi,rfl]:=x8 hx;rw[dO];let lU:=Gg hp hi;let IW:(ns.getD i 0)=(((ns.getD i 0).toNat:Nat):Int):=by omega
    refine i8 ?_
    try show wpS _ _ _ _ _ _
    show Ay (a9 (e2.at hr)) ?_;rw[GB (by rw[ak];omega),<- kP,a21 hp];left;let e3:=e2.trans (Ex.snoc g' (O.lst (b9 (L8 ns i))));refine s9 (a9 (e3.at hr)) (EO hi) ?_;left;rw[IW];refine Ll (k:=k) hT hB (e3.at ha) hz (e3.at hc) hR b7 (Vy hp) (by unfold L8;simp;omega) () λg4 e4=>?_;left;let IZ:rR cs v rs ns i=if fault cs v rs (ji (L8 ns i)) (ns.getD i 0).toNat="" then none else !(fault cs v rs (ji (L8 ns i)) (ns.getD i 0).toNat,i):=rfl
    generalize fault cs v rs (ji (L8 ns i)) (ns.getD i 0).toNat=fx at *;by_cases zz:fx=""
    .refine fq (by rw[az zz];rfl) ?_;left;exact#[e3.trans e4,Nf.mpr #[q,by rw[IZ,aI zz]],_,_,rfl]
    .refine gY (by rw[aM zz];rfl) ?_;left;let h2:=GC q hi (show rR cs v rs ns i=some (fx,i) by rw[IZ,aE zz]);rw[show(Option.none.orElse λ_:Unit=>(List.range (-ns)).findSome? (rR cs v rs ns))=some (fx,i) from h2] at h;exact h _ (e3.trans e4)
   .let#[e2,q,z4,z5,rfl]:=q;rw[n4] at q;rw[show(Option.none.orElse λ_:Unit=>(List.range (-ns)).findSome? (rR cs v rs ns))=none from q] at h
    try show wpS _ _ _ _ _ _
    left;exact h _ e2
 .rw[aE hn] at h;refine gY (by rw[aM ()];rfl) ?_;left;rw[ak];exact h _ (Ex.refl _)
end
abbrev FG(n:Nat)(F:Nat->@&Nat):Prop:=∀s p,p∈F s->p<n/\s.testBit p=false
abbrev U4(n:Nat)(F:Nat->@&Nat):Nat->Nat->@&(@&Nat)
 |0,s=>if s=2 ^ n-1 then[[]] else[]
 |f+1,s=>if s=2 ^ n-1 then[[]] else(F s).flatMap λp=>(U4 n F f (s |||2 ^ p)).map (p::·)
abbrev j6(n:Nat)(F:Nat->@&Nat)(s:Nat):@&(@&Nat):=U4 n F (2 ^ n) s
def yg{s:Nat}(h:s.testBit p=false):s<s |||2 ^ p:=by
 let h1:s<=s |||2 ^ p:=Nat.left_le_or
 let h2:s |||2 ^ p≠s:=λe=>by
  have:=P4 s p p;rw[e,h] at this;simp at this
 omega
def E9{β:Type}{l:List α}{f g:α->List β}(h:∀x∈l,f x=g x):l.flatMap f=l.flatMap g:=by
 induction l with
 |nil=>rfl
 |cons a r ih=>rw[cP,cP,h a #[_],ih λx hx=>h x (by simp[hx])]
def LY{n:Nat}{F:Nat->@&Nat}(hF:FG n F):∀(f s:Nat),s<2 ^ n->2 ^ n-1-s<=f->U4 n F f s=U4 n F (f+1) s
 |0,s,hs,hf=>by
  let e:s=2 ^ n-1:=by omega
  simp only[U4];rw[aI e,aI e]
 |f+1,s,hs,hf=>by
  rw[U4,U4];by_cases e:s=2 ^ n-1
  .rw[aI e,aI e]
  .rw[aE e,aE e];refine E9 λp hp=>?_;have:=hF s p hp;rw[LY hF f (s |||2 ^ p) (P2 hs this.1) (by have:=yg this.2;omega)]
def K1{F:Nat->@&Nat}{s:Nat}(h:s=2 ^ n-1):j6 n F s=[[]]:=by
 unfold j6;obtain⟨m,hm⟩:∃m,2 ^ n=m+1:=#[2 ^ n-1,by have:=fN (n:=n);omega]
 rw[hm,U4,aI h]
def P8{F:Nat->@&Nat}(hF:FG n F){s:Nat}(hs:s<2 ^ n)(h:s≠2 ^ n-1):j6 n F s=(F s).flatMap λp=>(j6 n F (s |||2 ^ p)).map (p::·):=by
 unfold j6;obtain⟨m,hm⟩:∃m,2 ^ n=m+1:=#[2 ^ n-1,by have:=fN (n:=n);omega]
 conv=>lhs;rw[hm,U4,aE h]
 refine E9 λp hp=>?_;have:=hF s p hp;rw[hm,<- LY hF m (s |||2 ^ p) (P2 hs this.1) ()]
def Wn{F:Nat->@&Nat}(hF:FG n F){s:Nat}(hs:s<2 ^ n)(h:s≠2 ^ n-1):(j6 n F s).length=((F s).map λp=>(j6 n F (s |||2 ^ p)).length).sum:=by
 rw[P8 hF hs h,List.length_flatMap];simp[Function.comp_def]
inductive hJ(F:Nat->@&Nat):Nat->Prop
 |zero:hJ F 0
 |step {s p:Nat} (h:hJ F s) (hp:p∈F s):hJ F (s |||2 ^ p)
def hJ.lt{F:Nat->@&Nat}(hF:FG n F){s:Nat}(h:hJ F s):s<2 ^ n:=by
 induction h with
 |zero=>exact fG _
 |step h hp ih=>exact P2 ih (hF _ _ hp).1
def C8(cs:@&b8)(v:Int)(rs:@&dy):FG (-cs) (j7 cs v rs):=λs p hp=>by
 let#[h1,h2]:=bD.mp hp;unfold E8 at h2;rw[aZ,gf] at h2;exact#[aR.mp h1,h2.1]
def aX1{β:Type}{f:α->List β}{l:List α}{x:α}(hx:l[j]?=!x)(m:Nat):(l.flatMap f)[((l.take j).flatMap f).length+m]?=((l.drop j).flatMap f)[m]?/\(l.drop j).flatMap f=f x++(l.drop (j+1)).flatMap f:=by
 let e:l.flatMap f=(l.take j).flatMap f++(l.drop j).flatMap f:=by rw[<- Hu,bN]
 let hj:j< -l:=(aw.mp hx).1;let ed:l.drop j=x::l.drop (j+1):=by
  rw[dH hj]
  congr 1
  exact(aw.mp hx).2
 constructor
 .rw[e,cO ()]
  congr 1
  omega
 .rw[ed,cP]
noncomputable abbrev kN(j:Nat):Key:=.inl (j:Int)
def Fb{c:Key}{x:D}:u5 (putD kvs c x) c=!x:=by
 unfold u5 putD;by_cases h:(kvs.any λkv=>decide (kv.1=c))=true
 .rw[aI h]
  induction kvs with
  |nil=>cases h
  |cons kv r ih =>
   rw[cZ,fI];by_cases hk:kv.1=c
   .rw[aI hk];simp[hk]
   .rw[aE hk];simp only[hk,decide_false];refine ih ?_;rw[kQ,fK] at h;exact h.resolve_left (by simp[hk])
 .rw[aE h,mj];have:kvs.find? (λkv=>decide (kv.1=c))=none:=by
   rw[kY];exact λkv hk hc=>h (aU.mpr #[kv,hk,hc])
  rw[this];simp
def Lu{c c':Key}{x:D}(hn:c≠c'):u5 (putD kvs c x) c'=u5 kvs c':=by
 unfold u5 putD;by_cases h:(kvs.any λkv=>decide (kv.1=c))=true
 .rw[aI h];clear h
  induction kvs with
  |nil=>rfl
  |cons kv r ih =>
   rw[cZ,fI,fI];by_cases hk:kv.1=c
   .rw[aI hk];have:kv.1≠c':=λz=>hn (hk.symm.trans z);simp only[this,decide_false];exact ih
   .rw[aE hk];by_cases pG:kv.1=c'
    .simp only[pG,decide_true]
    .simp only[pG,decide_false];exact ih
 .rw[aE h,mj];have:[(c,x)].find? (λkv=>decide (kv.1=c'))=none:=by simp[hn]
  rw[this];simp
def Xx{c:Key}{x:D}:(putD kvs c x).length<=-kvs+1:=by
 unfold putD;split<;>simp
def FY{i:Nat}(h:i≠j):kN i≠kN j:=λz=>h (by have:(i:Int)=j:=nK z;omega)
abbrev K8:bj:=#[1,5,(.seq (.set 1 (.prim (.lA 0) .nil)) (.seq (.set 2 (.prim .lst .nil)) (.seq (.dX (.one 3) (.eY (bR (.bin .Add) (dh (.fld "full") aK) (bo 1))) (.seq (.ifs (dW .In bz bq) (.seq (.expr (.fo .append bw (ff bz))) (.seq (.dX (.one 4) (.fE (.call 116 (eM aK bz))) (.seq (.expr (.fo .lB bq (ff (.call 91 (eM bz cF))))) .pass)) .pass)) .pass) .pass)) (.seq (.ret bw) .pass))))]
abbrev EK:bj:=#[1,3,(.seq (.set 1 (.prim .W7 .nil)) (.seq (.dX (.one 2) (.pA (.call 117 (ff aK))) (.seq (.ifs (dW .Eq bw (dh (.fld "full") aK)) (.seq (.fc bq bw (bo 1)) .pass) (.seq (.fc bq bw (dh .sum (.comp [2,1] 4 (.one 3) (.fE (.call 116 (eM aK bw))) .no (cN bq (.call 91 (eM aK bz)))))) .pass)) .pass)) (.seq (.ret bq) .pass)))]
abbrev AI:bj:=#[4,7,(.seq (.set 4 (.call 116 (eM aK bw))) (.seq (.set 5 bz) (.seq (.set 6 (bo 0)) (.seq (.lh (dW .GtE dU (cN bq (.call 91 (eM bw (cN cF eL))))) (.seq (.lP 5 .oy (cN bq (.call 91 (eM bw (cN cF eL))))) (.seq (.lP 6 .iadd (bo 1)) .pass))) (.seq (.ret (bR .tup (cN cF eL) dU)) .pass)))))]
abbrev Q2:bj:=#[3,7,(.seq (.set 3 (.prim .lst .nil)) (.seq (.set 4 (bo 0)) (.seq (.set 5 bw) (.seq (.lh (dW .NotEq cF (dh (.fld "full") aK)) (.seq (.nj (.many [6,5]) (.call 122 (mL aK bq cF dU))) (.seq (.expr (.fo .append bz (ff eL))) (.seq (.set 4 (.call 91 (eM cF eL))) .pass)))) (.seq (.ret bz) .pass)))))]
abbrev R6:bj:=#[1,2,(.seq (.set 1 (.call 121 (ff aK))) (.seq (.ifs (dW .Eq (cN bq (bo 0)) (bo 0)) (.seq (.ret (.lit .bK)) .pass) .pass) (.seq (.ret (.call 123 (gS aK bq (bo 0)))) .pass)))]
def Q1:∀{l m:@&Nat},l.Nodup->(∀x∈l,x∈m)->-l<=-m
 |[],m,_,_=>cc _
 |x::r,m,nd,h=>by
  rw[dI] at nd;have:=Q1 (l:=r) (m:=m.erase x) nd.2 λy hy=>(List.mem_erase_of_ne λz=>nd.1 (by simp_all)).mpr (h y (by simp[hy]))
  grind
section
variable{U:S}{t:MT}{it elt:ME}{d8:@&Nat}
inductive yS(P:gi)(t:MT)(elt:ME)(Q:KD)(U:S)(k:IK)(g1:G):Prop
 |mk (l:@&D) (Sh:S->Prop) (w:Nat->D) (hk:∀g',Ex g1 g'->k.Is l g') (hl:-l<=1000) (h0:Sh U)
   (hs:∀i d U g',l[i]?=!d->Ex g1 g'->Sh U->kE t d U λcQ=>bt P elt cQ g' (λy g4=>y=w i/\Ex g1 g4/\Sh cQ) km) (hd:∀g',Ex g1 g'->Q (.ref (-g')) (g'++[.lst ((List.range (-l)).map w)])):yS P t elt Q U k g1
def a64(hP:j9 P)(h:iO P it U g (yS P t elt Q (L1 U d8 n)) E):bt P (.comp d8 n t it .no elt) U g Q E:=by
 refine J9 hP (E3 hP it _ _ _ _ _ _ (λk g1 h=>?_) (λv v z=>z) h);let#[l,Sh,w,hk,hl,h0,hs,hd]:=h;refine#[l,λi ys U g'=>Ex g1 g'/\ys=(List.range i).map w/\Sh U,hl,λi ys U g' q=>#[hk _ q.1,by simp_all],#[Ex.refl _,rfl,h0],λi x ys U g' hx q=>?_,λys U g' q=>?_]
 .let#[e1,rfl,sh]:=q;refine B8 (λcQ q=>By (nu (d0 hP elt _ _ _ _ _ _ (λy g4 q=>?_) (λv v z=>z) q))) (hs i x U g' hx e1 sh);let#[rfl,e4,sh]:=q;exact#[e4,by rw[fH,dJ];rfl,sh]
 .let#[e1,rfl,sh]:=q;exact hd g' e1
end
abbrev qE(g:G)(sd n:Nat)(K:@&Nat):Prop:=∃S m,g[sd]?=!.set S m/\m=-K/\K.Nodup/\(∀j∈K,j<2 ^ n)/\∀k:Int,S k=true↔∃j∈K,k=(j:Nat)
def qE.at{g g':G}{sd n:Nat}{K:@&Nat}(h:qE g sd n K)(e:Ex g g'):qE g' sd n K:=let ⟨S,m,h1,h2⟩:=h;#[S,m,e.at h1,h2]
def qE.size{sd:Nat}{K:@&Nat}(h:qE g sd n K):-K<=2 ^ n:=by
 let#[S,m,_,_,nd,lt,_]:=h;have:=Q1 (m:=List.range (2 ^ n)) nd λx hx=>aR.mpr (lt x hx)
 simp_all
structure TW(T:Nat->Option bj):Prop where
 oQ:T 117=!K8
 DC:T 121=!EK
structure Wy(g:G)(w:Nat)(cs:@&b8)(v:Int)(rs:@&dy):Prop where
 ex:∃kvs,g[w]?=!.dB kvs/\∀s,hJ (j7 cs v rs) s->u5 kvs (kN s)=!(.int ((j6 (-cs) (j7 cs v rs) s).length:Nat))
def Wy.at{g g':G}{w:Nat}{cs:@&b8}{v:Int}{rs:@&dy}(h:Wy g w cs v rs)(e:Ex g g'):Wy g' w cs v rs:=let ⟨kvs,h1,h2⟩:=h.ex;#[#[kvs,e.at h1,h2]]
def aV5{l:@&Nat}(hl:l.Pairwise (· > ·)){s x:Nat}(hi:l[i]?=!s)(hx:x∈l)(h:s<x):x∈l.take i:=by
 let#[j,hj,rfl]:=br.mp hx;let#[jC,rfl]:=aw.mp hi;let Rt:j<i:=by
  rcases fU j i with z|z|z
  .exact z
  .subst z;omega
  .have:=cS.mp hl i j jC hj z;omega
 exact cV.mpr #[j,by rw[da Rt,ag hj]]
def Bc(h:n<=9):1<=2 ^ n/\2 ^ n<=512:=#[fN,BH () h]
section
variable{T:Nat->Option bj}{d:Nat}{r:Nat}
def Mb(hT:iW T)(hF:TF T)(oQ:T 117=!K8)(B:Bd g b cs v rs)(hz:-cs<=9)(hr:-rs<=900)(h:∀(L:@&Nat) l g',Ex g g'->-g<=l->g'[l]?=!.lst (b9 L)->L.Pairwise (· < ·)->(∀s,s∈L↔hJ (j7 cs v rs) s)->-L<=512->Q (.ref l) g'):c5 T (k+6) 117 [.ref b] g Q E:=by
 refine call_of oQ rfl ?_;let ju:=C8 cs v rs;generalize pI:j7 cs v rs=F at *;let#[w0,l0,dd,nb,f1,f2,f3,f4,f5]:=B.ex;let p2:=Bc hz;refine Vn ?_;let s1:qE (g++[O.set (λk=>decide (k=0)) 1]) (-g) (-cs) [0]:=#[_,_,b7,rfl,by simp,by simp;omega,λk=>by simp]
 let e1:=Ex.snoc g (O.set (λk=>decide (k=0)) 1);generalize g++[O.set (λk=>decide (k=0)) 1]=g1 at *;left;let e2:=e1.trans (Ex.snoc g1 (O.lst []));let s2:=s1.at (Ex.snoc g1 (O.lst []));let t2:=b7 (g:=g1) (o:=O.lst []);let l1:-g< -g1:=by let#[_,_,z,_]:=s1;exact m8 z
 generalize (-g1)=tl at *;refine v5 (b0 T _) (O3 (b0 T _) ?_);show W6 (e2.at f1) rfl ?_;left;let en:((2 ^ (-cs)-1:Nat):Int)+1=((2 ^ (-cs):Nat):Int):=by omega
 rw[en];refine#[by omega,by omega,l9 0 (2 ^ (-cs)),λt U g'=>Ex g g'/\(∃K,qE g' (-g) (-cs) K/\∀j,j∈K↔j=0\/∃s p,s<t/\hJ F s/\p∈F s/\j=s |||2 ^ p)/\(∃L,g'[tl]?=!.lst (b9 L)/\L.Pairwise (· < ·)/\(∀s,s∈L↔s<t/\hJ F s)/\-L<=t)/\∃z3 z4,U=[!.ref b,!.ref (-g),!.ref tl,z3,z4],λw w w w=>by exact t8,#[e2,#[[0],s2,λj=>by simp],#[[],t2,by simp,by simp,by simp],none,none,rfl],λt x U g' hx q=>?_,λU g' q=>?_]
 .let#[e3,#[K,s3,hK],#[L,t3,pw,hL,xE],z3,z4,rfl]:=q;let#[ht,rfl]:=x8 hx;rw[dO];let oE:t∈K↔hJ F t:=by
   rw[hK];constructor
   .rintro(rfl|⟨s,p,_,h2,h3,rfl⟩)
    .exact .zero
    .exact .step h2 h3
   .intro h;cases h with
    |zero=>exact .inl rfl
    |step h hp=>exact .inr #[_,_,yg (ju _ _ hp).2,h,hp,rfl]
  refine i8 ?_;left;let#[S,m,sg,sm,snd,slt,sS]:=id s3;refine Zt sg ?_;left;let Jn:S (t:Nat)=true↔hJ F t:=by
   rw[sS,<- oE];exact#[(by rintro ⟨j,hj,e⟩;rw[show t=j by omega];exact hj),λz=>#[t,z,rfl]]
  cases hb:S (t:Nat) with
  |false =>
   let rE:¬hJ F t:=λz=>by rw[Jn.mpr z] at hb;cases hb
   refine fq rfl ?_;refine#[e3,#[K,s3,λj=>(hK j).trans #[?_,?_]],#[L,t3,pw,λs=>(hL s).trans #[λz=>#[by omega,z.2],λz=>#[?_,z.2]],by omega],_,_,rfl]
   .rintro(z|⟨s,p,h1,h2⟩)
    .exact .inl z
    .exact .inr #[s,p,by omega,h2]
   .rintro(z|⟨s,p,h1,h2,h3⟩)
    .exact .inl z
    .refine .inr #[s,p,?_,h2,h3];rcases dw s t with y|y
     .exact y
     .exact absurd (show hJ F t by rw[show t=s by omega];exact h2) rE
   .rcases dw s t with y|y
    .exact y
    .exact absurd (show hJ F t by rw[show t=s by omega];exact z.2) rE
  |true =>
   let hR:=Jn.mp hb;refine gY rfl ?_;show U6 t3 (by simp[b9];omega) ?_;let Qe:tl≠-g:=by omega
   let s4:qE (g'.set tl (.lst (b9 L++[D.int (t:Nat)]))) (-g) (-cs) K:=#[S,m,d6 sg Qe,sm,snd,slt,sS]
   let t4:(g'.set tl (.lst (b9 L++[D.int (t:Nat)])))[tl]?=!(.lst (b9 (L++[t]))):=by rw[get_set t3];simp[b9]
   let e4:Ex g (g'.set tl (.lst (b9 L++[D.int (t:Nat)]))):=#[by simp;exact e3.len,λi hi=>by rw[aA ()];exact e3.old i hi]
   generalize g'.set tl (.lst (b9 L++[D.int (t:Nat)]))=g4 at *;show v5 (b0 T _) (lT (b0 T _) ?_);show W5 (k:=k) hT hF (B.at e4) hz hr ht λg5 fl e5 Df h5=>?_;rw[pI] at h5;let l4:tl< -g4:=m8 t4;refine#[fl,_,rfl,a9 h5,b9 (F t),λj U g'=>Ex g g'/\g'[fl]?=!(.lst (b9 (F t)))/\g'[tl]?=!(.lst (b9 (L++[t])))/\(∃K',qE g' (-g) (-cs) K'/\∀x,x∈K'↔x∈K\/∃p∈(F t).take j,x=t |||2 ^ p)/\∃z4,U=[!.ref b,!.ref (-g),!.ref tl,!.int (t:Nat),z4],λj U g' q=>o6 (a9 q.2.1),#[e4.trans e5,h5,e5.at t4,#[K,s4.at e5,λx=>by simp],z4,rfl],λj x U g' hx q=>?_,λU g' q=>?_]
   .let#[e6,h6,t6,#[K',s6,uW],z4,rfl]:=q;rw[b9,ai,ae] at hx;let#[p,hp,rfl]:=hx;let ny:=aH hp;let oB:=(ju _ _ ny)
    let tk:(F t).take (j+1)=(F t).take j++[p]:=by rw[bE,hp];rfl
    let#[S6,m6,zm,HH,wa,wc,uz]:=id s6;refine i8 ?_;show#[Ve zm,?_];show B6 (k:=k+4) hT.qm () ?_;let hsz:=s6.size;refine bE2 zm () ?_;let eE:=P2 ht oB.1;refine#[#[by simp;exact e6.len,λi hi=>by rw[aA ()];exact e6.old i hi],d6 h6 (),d6 t6 (),?_,_,rfl];by_cases lU:S6 ((t |||2 ^ p:Nat):Int)=true
    .refine#[K',#[_,_,get_set zm,by rw[aI lU];exact HH,wa,wc,λk=>?_],λx=>?_]
     .rw[fK,bQ];constructor
      .rintro(z|z)
       .exact(uz k).mp z
       .subst z;exact(uz _).mp lU
      .exact λz=>.inl ((uz k).mpr z)
     .rw[uW x,tk];simp only[List.mem_append,List.mem_singleton];constructor
      .rintro(z|⟨q,z1,z2⟩)
       .exact .inl z
       .exact .inr #[q,.inl z1,z2]
      .rintro(z|⟨q,z1|z1,z2⟩)
       .exact .inl z
       .exact .inr #[q,z1,z2]
       .subst z1 z2;let#[y,y1,y2]:=(uz _).mp lU;rw[<- uW,show(t |||2 ^ q)=y by omega];exact y1
    .let CO:(t |||2 ^ p)∉K':=λz=>lU ((uz _).mpr #[_,z,rfl]);refine#[K'++[t |||2 ^ p],#[_,_,get_set zm,by rw[aE lU];simp[HH],?_,λy hy=>?_,λk=>?_],λx=>?_]
     .rw[cE];exact#[wa,by simp,λx hx y hy=>by cases aQ.mp hy;exact λz=>CO (z▸hx)]
     .rcases aV.mp hy with z|z
      .exact wc y z
      .cases aQ.mp z;exact eE
     .rw[fK,bQ,uz];simp only[List.mem_append,List.mem_singleton];constructor
      .rintro(⟨y,y1,y2⟩|z)
       .exact#[y,.inl y1,y2]
       .exact#[_,.inr rfl,z]
      .rintro⟨y,y1|y1,y2⟩
       .exact .inl #[y,y1,y2]
       .subst y1;exact .inr y2
     .rw[aV,aQ,uW x,tk];simp only[List.mem_append,List.mem_singleton];constructor
      .rintro((z|⟨q,z1,z2⟩)|z)
       .exact .inl z
       .exact .inr #[q,.inl z1,z2]
       .exact .inr #[p,.inr rfl,z]
      .rintro(z|⟨q,z1|z1,z2⟩)
       .exact .inl (.inl z)
       .exact .inl (.inr #[q,z1,z2])
       .subst z1;exact .inr z2
   .let#[e6,h6,t6,#[K',s6,uW],z4,rfl]:=q;rw[b9,ak,cJ] at uW;refine#[e6,#[K',s6,λj=>(uW j).trans ?_],#[L++[t],t6,?_,λs=>?_,by simp;omega],_,_,rfl]
    .rw[hK j];constructor
     .rintro((z|⟨s,p,h1,h2⟩)|⟨p,h1,h2⟩)
      .exact .inl z
      .exact .inr #[s,p,by omega,h2]
      .exact .inr #[t,p,by omega,hR,h1,h2]
     .rintro(z|⟨s,p,h1,h2,h3,h4⟩)
      .exact .inl (.inl z)
      .rcases dw s t with y|y
       .exact .inl (.inr #[s,p,y,h2,h3,h4])
       .have:s=t:=by omega
        subst this;exact .inr #[p,h3,h4]
    .rw[ba];exact#[pw,by simp,λx hx y hy=>by cases aQ.mp hy;exact((hL x).mp hx).1]
    .rw[aV,aQ,hL s];constructor
     .rintro(z|z)
      .exact#[by omega,z.2]
      .subst z;exact#[by omega,hR]
     .rintro⟨z1,z2⟩;rcases dw s t with y|y
      .exact .inl #[y,z2]
      .exact .inr ()
 .let#[e3,#[K,s3,hK],#[L,t3,pw,hL,xE],z3,z4,rfl]:=q;rw[n4] at hL xE;left;exact h L tl g' e3 () t3 pw (λs=>(hL s).trans #[λz=>z.2,λz=>#[z.lt ju,z]]) ()
def Wo(hT:iW T)(hF:TF T)(hW:TW T)(B:Bd g b cs v rs)(hz:-cs<=9)(hr:-rs<=900)(h:∀w g',Ex g g'->-g<=w->Wy g' w cs v rs->Q (.ref w) g'):c5 T (k+7) 121 [.ref b] g Q E:=by
 refine call_of hW.DC rfl ?_;delta EK;let ju:=C8 cs v rs;generalize pI:j7 cs v rs=F at *;let#[w0,l0,dd,nb,f1,f2,f3,f4,f5]:=B.ex;let p2:=Bc hz;left;let e1:=Ex.snoc g (O.dB []);let w1:=b7 (g:=g) (o:=O.dB []);generalize g++[O.dB []]=g1 at *;refine v5 (b0 T _) (QH ?_);show Mb (k:=k) hT hF hW.oQ (B.at e1) hz hr λL l g2 e2 hl h2 pw hL xE=>?_;rw[pI] at hL;let lw:=m8 w1;let Qp:L.reverse.Pairwise (· > ·):=gw.mpr pw;let Cu:(b9 L).length=-L:=by simp[b9]
 refine#[l,_,rfl,a9 h2,(b9 L).reverse,λi U g'=>Ex g g'/\g'[l]?=!.lst (b9 L)/\(∃kvs,g'[(-g)]?=!.dB kvs/\-kvs<=i/\∀s∈L.reverse.take i,u5 kvs (kN s)=!(.int ((j6 (-cs) F s).length:Nat)))/\∃z2,U=[!.ref b,!.ref (-g),z2],λi U g' q=>bF8 (a9 q.2.1),#[e1.trans e2,h2,#[[],e2.at w1,by simp,by simp],none,rfl],λi x U g' hx q=>?_,λU g' q=>?_]
 .let#[e3,h3,#[kvs,w3,hk,xi],z2,rfl]:=q;rw[b9,<- List.map_reverse,ai,ae] at hx;let#[s,hs,rfl]:=hx;let IT:i< -L:=by have:=(aw.mp hs).1;simpa using this
  let Iz:hJ F s:=(hL s).mp (dz.mp (aH hs));let rB:=Iz.lt ju;let tk:L.reverse.take (i+1)=L.reverse.take i++[s]:=by rw[bE,hs];rfl
  let fin:∀(N:Ends) g4 z2,Ex g' g4->(∀g5,(Ex g g5/\g5[l]?=!.lst (b9 L)/\(∃kvs,g5[(-g)]?=!.dB kvs/\-kvs<=i+1/\∀s∈L.reverse.take (i+1),u5 kvs (kN s)=!(.int ((j6 (-cs) F s).length:Nat)))/\∃z2,([!.ref b,!.ref (-g),z2]:S)=[!.ref b,!.ref (-g),z2])->N.nx [!.ref b,!.ref (-g),z2] g5)->Z0 (.ref (-g)) (.int (s:Nat)) (.int ((j6 (-cs) F s).length:Nat)) g4 λg5=>N.nx [!.ref b,!.ref (-g),z2] g5:=λN g4 z2 e4 hN=>by
   refine Bt (e4.at w3) rfl () ?_;refine hN _ #[#[by simp;exact(e3.trans e4).len,λj hj=>by rw[aA ()];exact(e3.trans e4).old j hj],d6 (e4.at h3) (),#[_,get_set (e4.at w3),aD Xx (),λs' jt=>?_],z2,rfl];rw[tk] at jt;by_cases CJ:s'=s
   .subst CJ;exact Fb
   .refine(Lu (FY (cy CJ))).trans (xi s' ?_);rcases aV.mp jt with z|z
    .exact z
    .exact absurd (aQ.mp z) CJ
  refine i8 ?_;show W6 (e3.at f1) rfl ?_;left;let ed:decide (((s:Nat):Int)=((2 ^ (-cs)-1:Nat):Int))=decide (s=2 ^ (-cs)-1):=eG.mpr ();rw[ed];refine if2 (λc1=>?_) (λc1=>?_)
  .left;let e1:(1:Int)=((j6 (-cs) F s).length:Nat):=by rw[K1 c1];rfl
   rw[e1];exact fin _ _ _ (Ex.refl _) λg5 z=>#[z.1,z.2.1,z.2.2.1,_,rfl]
  .show a64 (b0 T _) (lT (b0 T _) ?_);show W5 (k:=k+1) hT hF (B.at e3) hz hr rB λg4 fl e4 Df h4=>?_;rw[pI] at h4;refine#[fl,_,rfl,a9 h4,b9 (F s),λU=>∃z2 z3,U=[!.int (s:Nat),!.ref (-g),z2,z3],λi=>.int ((j6 (-cs) F (s |||2 ^ ((F s).getD i 0))).length:Nat),λg' e=>o6 (a9 (e.at h4)),?_,#[none,none,rfl],λj d U g5 hx e5 sh=>?_,λg5 e5=>?_]
   .have:(F s).length<=-cs:=by rw[<- pI];exact K4
    simp[b9];omega
   .let#[z2,z3,rfl]:=sh;rw[b9,ai,ae] at hx;let#[p,hp,rfl]:=hx;let ny:=aH hp;let oB:=ju _ _ ny;refine i8 ?_;show B6 (k:=k+5) hT.qm () ?_;let hv:u5 kvs (kN (s |||2 ^ p))=!(.int ((j6 (-cs) F (s |||2 ^ p)).length:Nat)):=by
     refine xi _ (aV5 Qp hs (dz.mpr ((hL _).mpr (.step Iz ny))) (yg oB.2))
    refine yG ((e4.trans e5).at w3) rfl hv ?_;exact#[by simp[List.getD,hp],e5,_,_,rfl]
   .let el:(List.range (b9 (F s)).length).map (λi=>D.int ((j6 (-cs) F (s |||2 ^ ((F s).getD i 0))).length:Nat))=(((F s).map λp=>(j6 (-cs) F (s |||2 ^ p)).length).map λ(n:Nat)=>(n:Int)).map D.int:=by
     refine bV λi=>?_;rw[ai,ai,ai,ai];by_cases hi:i<(F s).length
     .rw[cB (by simpa[b9] using hi),ag hi];simp[List.getD,hi]
     .rw[aT (by simpa[b9] using hi),aT ()]
      rfl
    rw[el];refine KC (a9 b7) ?_;let es:(((F s).map λp=>(j6 (-cs) F (s |||2 ^ p)).length).map λ(n:Nat)=>(n:Int)).sum=((j6 (-cs) F s).length:Nat):=by
     rw[Wn ju rB c1];generalize (F s).map (λp=>(j6 (-cs) F (s |||2 ^ p)).length)=m
     induction m with
     |nil=>rfl
     |cons x r ih=>simp[ih]
    rw[es];left;exact fin _ _ _ (e4.trans (e5.trans (Ex.snoc _ _))) λg6 z=>#[z.1,z.2.1,z.2.2.1,_,rfl]
 .let#[e3,h3,#[kvs,w3,hk,xi],z2,rfl]:=q;rw[List.length_reverse,Cu,bS #[_]] at xi;show h _ _ e3 (av _) #[#[kvs,w3,λs hs=>?_]];rw[pI] at hs ⊢;exact xi s (dz.mpr ((hL s).mpr hs))
end
structure TN(T:Nat->Option bj):Prop where
 tM:T 122=!AI
 DB:T 123=!Q2
section
variable{T:Nat->Option bj}{r w:Nat}
def aS6(hT:iW T)(hF:TF T)(tM:T 122=!AI)(B:Bd g b cs v rs)(W:Wy g w cs v rs)(hz:-cs<=9)(hr:-rs<=900){s:Nat}(hs:hJ (j7 cs v rs) s)(fQ:s≠2 ^ (-cs)-1)(hm:m<(j6 (-cs) (j7 cs v rs) s).length)(h:∀(p l:Nat) g',Ex g g'->p∈j7 cs v rs s->l<(j6 (-cs) (j7 cs v rs) (s |||2 ^ p)).length->(j6 (-cs) (j7 cs v rs) s)[m]?=((j6 (-cs) (j7 cs v rs) (s |||2 ^ p))[l]?).map (p::·)->Q (.tup [.int (p:Nat),.int (l:Nat)]) g'):c5 T (k+6) 122 [.ref b,.ref w,.int (s:Nat),.int (m:Nat)] g Q E:=by
 refine call_of tM rfl ?_;delta AI;let ju:=C8 cs v rs;let rB:=hs.lt ju;let eo:=P8 ju rB fQ;show W5 (k:=k) hT hF B hz hr rB λg1 ch e1 x mR=>?_;generalize pI:j7 cs v rs=F at *;let#[kvs,w1,w2]:=W.ex;rw[pI] at w2;left;generalize Jc:(λp=>(j6 (-cs) F (s |||2 ^ p)).map (p::·))=f at *;let xO:∀p,(f p).length=(j6 (-cs) F (s |||2 ^ p)).length:=λp=>by rw[<- Jc];simp
 rw[eo] at hm;let Qq:0<(F s).length:=by
  cases hl:F s with
  |nil=>rw[hl] at hm;simp at hm
  |cons _ _=>simp
 refine NL (λmm U g'=>Ex g1 g'/\∃j lf:Nat,U=[!.ref b,!.ref w,!.int (s:Nat),!.int (m:Nat),!.ref ch,!.int (lf:Nat),!.int (j:Nat)]/\j<(F s).length/\mm=(F s).length-j/\m=(((F s).take j).flatMap f).length+lf/\lf<(((F s).drop j).flatMap f).length) _ #[Ex.refl _,0,m,rfl,Qq,rfl,by simp,by simpa using hm] (λmm U g' q=>?_) (b0 T _);let#[e2,j,lf,rfl,hj,rfl,oC,tu]:=q;let hx:=ag hj;generalize (F s)[j]=p at hx;let ny:=aH hx;let oB:=ju _ _ ny;let hv:u5 kvs (kN (s |||2 ^ p))=!(.int ((f p).length:Nat)):=by rw[xO];exact w2 _ (.step hs ny)
 let ER:gP (b9 (F s)) (j:Int)=!.int (p:Nat):=A7 (by rw[b9,ai,hx];rfl);let sp:=aX1 (f:=f) hx lf;let kz:=e1.trans e2;show s9 (a9 (e2.at mR)) ER ?_;show B6 (k:=k+4) hT.qm () ?_;refine yG (kz.at w1) rfl hv ?_;left;by_cases hc:(f p).length<=lf
 .refine gY (az ()) ?_;refine MR rfl ?_;show s9 (a9 (e2.at mR)) ER ?_;show B6 (k:=k+4) hT.qm () ?_;refine yG (kz.at w1) rfl hv ?_;refine bF9 ?_;show MR rfl ?_;show bG4 ?_;let tk:(F s).take (j+1)=(F s).take j++[p]:=by rw[bE,hx];rfl
  rw[sp.2,bL] at tu;let tD:j+1<(F s).length:=by
   rcases dw (j+1) (F s).length with z|z
   .exact z
   .rw[eR z] at tu;simp at tu;omega
  refine#[_,?_,e2,j+1,lf-(f p).length,?_,tD,rfl,?_,by omega]
  .omega
  .let e1:((lf:Nat):Int)-((f p).length:Nat)=((lf-(f p).length:Nat):Int):=by omega
   let e2:((j:Nat):Int)+1=((j+1:Nat):Int):=by omega
   rw[e1,e2]
   rfl
  .rw[tk,Hu,bL,cP,List.flatMap_nil,dM];omega
 .refine fq (aM ()) ?_;show s9 (a9 (e2.at mR)) ER ?_;show h p lf g' kz ny (by rw[xO] at hc;omega) ?_;rw[eo,oC,sp.1,sp.2,aN (),<- Jc];simp
def aM3(hT:iW T)(hF:TF T)(hN:TN T)(B:Bd g b cs v rs)(W:Wy g w cs v rs)(hz:-cs<=9)(hr:-rs<=900){o:@&Nat}(hm:(j6 (-cs) (j7 cs v rs) 0)[m]?=!o)(h:∀l g',Ex g g'->-g<=l->g'[l]?=!.lst (b9 o)->Q (.ref l) g'):c5 T (k+7) 123 [.ref b,.ref w,.int (m:Nat)] g Q E:=by
 refine call_of hN.DB rfl ?_;delta Q2;let ju:=C8 cs v rs;let#[w0,l0,dd,nb,f1,f2,f3,f4,f5]:=B.ex;let p2:=Bc hz;left;let e1:=Ex.snoc g (O.lst []);let h1:=b7 (g:=g) (o:=O.lst []);refine NL (λmm U g'=>Ex g g'/\∃(s lf:Nat) (p:@&Nat) (z6:Option D),U=[!.ref b,!.ref w,!.int (m:Nat),!.ref (-g),!.int (s:Nat),!.int (lf:Nat),z6]/\mm=2 ^ (-cs)-s/\hJ (j7 cs v rs) s/\lf<(j6 (-cs) (j7 cs v rs) s).length/\some o=((j6 (-cs) (j7 cs v rs) s)[lf]?).map (p++·)/\g'[(-g)]?=!.lst (b9 p)/\-p<=s) _ #[e1,0,m,[],none,rfl,rfl,.zero,(aw.mp hm).1,by rw[hm];rfl,h1,by simp] (λmm U g' q=>?_) (b0 T _);let#[e2,s,lf,p,z6,rfl,rfl,hs,tu,ho,hp,ir]:=q;let rB:=hs.lt ju;show W6 (e2.at f1) rfl ?_;left;let ed:decide (((s:Nat):Int)=((2 ^ (-cs)-1:Nat):Int))=decide (s=2 ^ (-cs)-1):=eG.mpr ();rw[ed];by_cases fQ:s=2 ^ (-cs)-1
 .refine fq (by rw[az fQ];rfl) ?_;left;rw[K1 fQ] at tu ho;have:lf=0:=by simp at tu;omega
  subst this;have:o=p:=by simpa using ho
  subst this;exact h _ _ e2 (av _) hp
 .refine gY (by rw[aM fQ];rfl) ?_;show aS6 (k:=k) hT hF hN.tM (B.at e2) (W.at e2) hz hr hs fQ tu λq l g3 e3 hq hl Rb=>?_;refine C5 rfl ?_;let IF:=ju _ _ hq;let IH:=e3.at hp;show U6 IH (by simp[b9];omega) ?_;show B6 (k:=k+5) hT.qm () ?_;let IW:=yg IF.2;let ve:=e2.trans e3;refine#[_,?_,#[by simp;exact ve.len,λi hi=>by rw[aA ()];exact ve.old i hi],s |||2 ^ q,l,p++[q],_,rfl,rfl,.step hs hq,hl,?_,?_,by simp;omega]
  .omega
  .rw[ho,Rb];simp[Option.map_map,Function.comp_def]
  .rw[get_set IH];simp[b9]
def B4(hT:iW T)(hF:TF T)(hW:TW T)(hN:TN T)(lL:T 124=!R6)(B:Bd g b cs v rs)(hz:-cs<=9)(hr:-rs<=900)(h1:j6 (-cs) (j7 cs v rs) 0=[]->∀g',Ex g g'->Q .bK g')(h2:∀o l g',(j6 (-cs) (j7 cs v rs) 0)[0]?=!o->Ex g g'->-g<=l->g'[l]?=!.lst (b9 o)->Q (.ref l) g'):c5 T (k+8) 124 [.ref b] g Q E:=by
 refine call_of lL rfl ?_;delta R6;show Wo (k:=k) hT hF hW B hz hr λw g1 e1 hw W=>?_;left;let#[kvs,w1,w2]:=W.ex;refine yG w1 rfl (w2 0 .zero) ?_;left;cases ho:j6 (-cs) (j7 cs v rs) 0 with
 |nil =>
  refine gY #[_] ?_;exact h1 ho _ e1
 |cons o r =>
  refine fq (by simp;omega) ?_;left;exact aM3 (k:=k) hT hF hN (m:=0) (B.at e1) W hz hr (by rw[ho];rfl) λl g2 e2 hl h=>h2 o l g2 (by rw[ho];rfl) (e1.trans e2) (aD e1.len hl) h
end
abbrev kF(r:@&Nat):Nat:=r.foldl (λs p=>s |||2 ^ p) 0
def Ol(r:@&Nat)(p:Nat):kF (r++[p])=kF r |||2 ^ p:=by simp[kF,List.foldl_append]
def V2(r:@&Nat)(i:Nat):(kF r).testBit i=decide (i∈r):=by
 have:∀(r:@&Nat) (s:Nat),(r.foldl (λs p=>s |||2 ^ p) s).testBit i=(s.testBit i||decide (i∈r)):=by
  intro r
  induction r with
  |nil=>intro s;simp
  |cons p r ih =>
   intro s;rw[List.foldl_cons,ih,P4,Bool.or_assoc,aW];simp
 rw[kF,this];simp
def TZ:∀{r:@&Nat},(∀i∈r,i<n)->kF r<2 ^ n:=λ{r} h=>by
 have:∀(r:@&Nat) (s:Nat),(∀i∈r,i<n)->s<2 ^ n->r.foldl (λs p=>s |||2 ^ p) s<2 ^ n:=by
  intro r
  induction r with
  |nil=>intro s _ hs;exact hs
  |cons p r ih=>intro s h hs;exact ih _ (λi hi=>h i (by simp[hi])) (P2 hs (h p #[_]))
 exact this r 0 h (fG _)
abbrev U3(F:Nat->@&Nat):Nat->@&(@&Nat)
 |0=>[[]]
 |t+1=>(U3 F t).flatMap λr=>(F (kF r)).map λp=>r++[p]
def Y0{n:Nat}{F:Nat->@&Nat}(hF:FG n F):∀{t:Nat} {r:@&Nat},r∈U3 F t->-r=t/\r.Nodup/\∀i∈r,i<n
 |0,r,h=>by
  cases aQ.mp h;simp
 |t+1,r,h=>by
  let#[r0,h0,h1]:=iX.mp h;let#[p,hp,rfl]:=aP.mp h1;let#[g1,g2,g3]:=Y0 hF h0;let oB:=hF _ _ hp;rw[V2] at oB;refine#[by simp[g1],?_,λi hi=>?_]
  .rw[cE];exact#[g2,by simp,λx hx y hy=>by cases aQ.mp hy;exact λz=>(by simpa using oB.2:p∉r0) (z▸hx)]
  .rcases aV.mp hi with z|z
   .exact g3 i z
   .cases aQ.mp z;exact oB.1
def OD{r:@&Nat}(h:r.Nodup)(hl:-r=n)(hr:∀i∈r,i<n)(hi:i<n):i∈r:=by
 refine Decidable.byContradiction λhn=>?_;have:=Q1 (l:=i::r) (m:=List.range n) (dI.mpr #[hn,h]) λx hx=>by
  rcases aL.mp hx with rfl|hx
  .exact aR.mpr hi
  .exact aR.mpr (hr x hx)
 simp at this;omega
def Oj{r:@&Nat}(h:r.Nodup)(hr:∀i∈r,i<n):kF r=2 ^ n-1↔(-r)=n:=by
 constructor
 .intro e;have:∀i,i<n->i∈r:=λi hi=>by
   have:=V2 r i;rw[e,pe,az hi] at this;exact bg this.symm
  let h1:=Q1 (l:=List.range n) (m:=r) ng λi hi=>this i (aR.mp hi);let h2:=Q1 (l:=r) (m:=List.range n) h λi hi=>aR.mpr (hr i hi);simp at h1 h2;omega
 .intro hl;refine BI λi=>?_;rw[V2,pe];refine eG.mpr #[hr i,λhi=>OD h hl hr hi]
def Lv{n:Nat}{F:Nat->@&Nat}(hF:FG n F):∀{t:Nat},t<=n->(U3 F t).flatMap (λr=>(j6 n F (kF r)).map (r++·))=j6 n F 0
 |0,_=>by simp[U3,kF]
 |t+1,ht=>by
  rw[<- Lv hF (show t<=n by omega),U3,List.flatMap_assoc];refine E9 λr hr=>?_;let#[g1,g2,g3]:=Y0 hF hr;let fQ:kF r≠2 ^ n-1:=λz=>by have:=(Oj g2 g3).mp z;omega
  rw[P8 hF (TZ g3) fQ,List.map_flatMap,List.flatMap_map];refine E9 λp hp=>?_;rw[Ol,bB];refine fk λo x=>?_;simp
def Of{F:Nat->@&Nat}(hF:FG n F):U3 F n=j6 n F 0:=by
 rw[<- Lv hF (av n)];have:∀(l:@&(@&Nat)),(∀r∈l,r∈U3 F n)->l.flatMap (λr=>(j6 n F (kF r)).map (r++·))=l:=by
  intro l
  induction l with
  |nil=>intro _;rfl
  |cons r l ih =>
   intro h;let#[g1,g2,g3]:=Y0 hF (h r #[_]);rw[cP,ih λx hx=>h x (by simp[hx]),K1 ((Oj g2 g3).mpr g1)];simp
 exact(this _ λy h=>h).symm
abbrev unset(n s:Nat):@&Nat:=(List.range n).filter λp=>~~~s.testBit p
abbrev kc(q:Nat->Nat->Bool):Nat->@&Nat->Bool
 |_,[]=>true
 |s,p::r=>q s p&&kc q (s |||2 ^ p) r
def Ml{α β:Type}{f:α->List β}{q:α->Bool}:∀l:List α,(l.filter q).flatMap f=l.flatMap λx=>if q x=true then f x else[]
 |[]=>rfl
 |x::r=>by
  rw[cP,<- Ml r];cases h:q x
  .rw[iZ (by rw[h];decide),aE ∅]
   rfl
  .rw[iY h,aI rfl,cP]
def Mm{α β:Type}{f:α->List β}{q:β->Bool}:∀l:List α,(l.flatMap f).filter q=l.flatMap λx=>(f x).filter q
 |[]=>rfl
 |x::r=>by rw[cP,eQ,Mm r,cP]
def Mw{n:Nat}{F F':Nat->@&Nat}{q:Nat->Nat->Bool}(hF:FG n F)(hq:∀s,F' s=(F s).filter (q s)):∀(m s:Nat),2 ^ n-s<=m->s<2 ^ n->j6 n F' s=(j6 n F s).filter (kc q s)
 |0,s,hm,hs=>by omega
 |m+1,s,hm,hs=>by
  let RV:FG n F':=λs p hp=>hF s p (bD.mp (hq s▸hp)).1;by_cases e:s=2 ^ n-1
  .rw[K1 e,K1 e]
   rfl
  .rw[P8 RV hs e,P8 hF hs e,hq,Ml,Mm];refine E9 λp hp=>?_;let oB:=hF s p hp;let ih:=Mw hF hq m (s |||2 ^ p) (by have:=yg oB.2;omega) (P2 hs oB.1);rw[List.filter_map];cases IE:q s p
   .have:(kc q s ∘ λx=>p::x)=λy=>false:=by funext x;simp[kc,IE]
    rw[this];simp
   .rw[aI rfl,ih];have:(kc q s ∘ λx=>p::x)=kc q (s |||2 ^ p):=by funext x;simp[kc,IE]
    rw[this]
def Np{q:Nat->Nat->Bool}:∀(o pre:@&Nat),kc q (kF pre) o=true↔∀(i p:Nat),o[i]?=!p->q (kF (pre++o.take i)) p=true
 |[],pre=>by simp[kc]
 |x::r,pre=>by
  rw[kc,<- Ol,aZ,Np r (pre++[x])];constructor
  .rintro⟨h1,h2⟩ i p hp;cases i with
   |zero =>
    cases hp;simpa using h1
   |succ i =>
    have:=h2 i p (by simpa using hp);simpa using this
  .intro h;refine#[by simpa using h 0 x rfl,λi p hp=>?_];have:=h (i+1) p (by simpa using hp);simpa using this
def a37{a b:Nat->Nat->Bool}(h:∀s p,a s p=b s p)(s:Nat)(o:@&Nat):kc a s o=kc b s o:=by rw[show a=b from funext λs=>funext λp=>h s p]
abbrev E6(cs:@&b8)(r:dy)(s p:Nat):Bool:= ~~~meant cs r.w r.y p||(List.range (-cs)).any λi=>s.testBit i&&meant cs r.w r.x i
abbrev Bm(cs:@&b8)(v:Int)(s p:Nat):Bool:= ~~~J5 cs s.testBit p&&(~~~F6 cs s.testBit p&&~~~decide (v<se cs s.testBit p))
def WK(cs:@&b8)(v:Int)(rs:@&dy)(s p:Nat):decide (fault cs v rs s.testBit p="")=(Bm cs v s p&&rs.all λr=>E6 cs r s p):=by
 let en:(rs.all λr=>E6 cs r s p)=N8 cs rs s.testBit p:=rfl;rw[en];unfold fault Bm;cases J5 cs s.testBit p
 .cases F6 cs s.testBit p
  .by_cases h:v<se cs s.testBit p
   .rw[aE ∅,aE ∅,aI h,az h]
    rfl
   .rw[aE ∅,aE ∅,aE h,aM h];cases N8 cs rs s.testBit p<;>decide +kernel
  rfl
 rfl
def LM(cs:@&b8)(v:Int)(rs:@&dy)(s:Nat):j7 cs v rs s=(unset (-cs) s).filter (λp=>Bm cs v s p&&rs.all λr=>E6 cs r s p):=by
 unfold j7 unset;rw[Pz];refine ml λp x=>?_;unfold E8;rw[WK,Bool.and_comm]
def aU6(cs:@&b8)(v:Int)(rs mr:@&dy):j6 (-cs) (j7 cs v (rs++mr)) 0=(j6 (-cs) (j7 cs v rs) 0).filter (kc (λs p=>mr.all λr=>E6 cs r s p) 0):=by
 refine Mw (C8 cs v rs) (λs=>?_) _ 0 (av _) (fG _);rw[LM,LM,Pz];refine ml λp x=>?_;rw[oi];cases Bm cs v s p<;>cases (rs.all λr=>E6 cs r s p)<;>simp
def a34{F:Nat->@&Nat}(hF:FG n F){o:@&Nat}(h:o∈j6 n F 0):-o=n/\o.Nodup/\∀i∈o,i<n:=by
 rw[<- Of hF] at h;exact Y0 hF h
abbrev i0(r:dy):dy:=#[r.w,r.y,r.x]
def XC{o:@&Nat}(hl:-o=-cs)(nd:o.Nodup)(eE:∀i∈o,i< -cs)(hg:p9 cs r=true):kc (E6 cs (i0 r)) 0 o= ~~~kc (E6 cs r) 0 o:=by
 let HK:∀r:dy,kc (E6 cs r) 0 o=true↔∀(i p:Nat),o[i]?=!p->meant cs r.w r.y p=true->∃j∈o.take i,meant cs r.w r.x j=true:=λr=>by
  have:=Np (q:=E6 cs r) o [];rw[show kF []=0 from rfl] at this;rw[this];refine forall_congr' λi=>forall_congr' λp=>?_;refine#[λh hp hm=>?_,λh hp=>?_]
  .have:=h hp;unfold E6 at this;rw[hm,sA,iN,aU] at this;let#[j,_,hj]:=this;rw[aZ,jw,V2,bQ] at hj;exact#[j,hj.1,hj.2]
  .unfold E6;cases hm:meant cs r.w r.y p with
   |false=>rfl
   |true =>
    let#[j,hj,hx]:=h hp hm;rw[sA,iN,aU];exact#[j,aR.mpr (eE j (cj hj)),by rw[jw,V2,az hj,hx];rfl]
 let Tg:∀j,¬(meant cs r.w r.x j=true/\meant cs r.w r.y j=true):=λj ⟨h1,h2⟩=>by
  let Iu:r.x≠r.y:=by
   unfold p9 at hg;rw[aZ,gf,cI] at hg;exact hg.1
  unfold meant at h1 h2;cases hw:r.w<;>rw[hw] at h1 h2<;>exact Iu ((bg h1).symm.trans (bg h2))
 let ne:∀x,(iK cs r.w x).isEmpty=false->∃(i p:Nat),o[i]?=!p/\meant cs r.w x p=true:=λx hx=>by
  cases e:iK cs r.w x with
  |nil=>rw[e] at hx;cases hx
  |cons p _ =>
   let hp:p∈iK cs r.w x:=by rw[e];simp
   let#[h1,h2]:=bD.mp hp;let#[i,hi]:=cV.mp (OD nd hl eE (aR.mp h1));exact#[i,p,hi,h2]
 unfold p9 at hg;simp only[Bool.and_eq_true,Bool.not_eq_true'] at hg;let#[ix,px,tE,Rm]:=ne r.x hg.2.1;let#[iy,py,Ru,Rk]:=ne r.y hg.2.2;let least:∀(P:Nat->Prop) (n:Nat),P n->∃m,P m/\∀k,k<m->¬P k:=λP n hn=>by
  have:∀n,P n->∃m,P m/\∀k,k<m->¬P k:=by
   intro n
   induction n using Nat.strongRecOn with
   |_ n ih =>
    intro hn;by_cases h:∃k,k<n/\P k
    .let#[k,h1,h2]:=h;exact ih k h1 h2
    .exact#[n,hn,λk hk hp=>h #[k,hk,hp]]
  exact this n hn
 let#[fx,#[ax,uS,oG],lx]:=least (λi=>∃p,o[i]?=!p/\meant cs r.w r.x p=true) ix #[px,tE,Rm];let#[fy,#[ay,zS,tq],ly]:=least (λi=>∃p,o[i]?=!p/\meant cs r.w r.y p=true) iy #[py,Ru,Rk];let Iu:fx≠fy:=λz=>by
  subst z;rw[uS] at zS;cases zS;exact Tg _ #[oG,tq]
 let tk:∀{i j:Nat} {p:Nat},o[i]?=!p->i<j->p∈o.take j:=λ{i j p} h iV=>cV.mpr #[i,by rw[da iV];exact h];let back:∀{j p:Nat},p∈o.take j->∃i,i<j/\o[i]?=!p:=λ{j p} h=>by
  let#[i,hi]:=cV.mp h;let iV:i<j:=by
   have:=(aw.mp hi).1;simp at this;omega
  rw[da iV] at hi;exact#[i,iV,hi]
 let k1:kc (E6 cs r) 0 o=true↔fx<fy:=by
  rw[HK r];constructor
  .intro h;let#[j,hj,hm]:=h fy ay zS tq;let#[i,hi,ho]:=back hj;rcases dw i fx with z|z
   .exact absurd #[j,ho,hm] (lx i z)
   .omega
  .intro h i p hp hm;refine#[ax,tk uS ?_,oG];rcases dw i fy with z|z
   .exact absurd #[p,hp,hm] (ly i z)
   .omega
 let k2:kc (E6 cs (i0 r)) 0 o=true↔fy<fx:=by
  rw[HK (i0 r)];constructor
  .intro h;let#[j,hj,hm]:=h fx ax uS oG;let#[i,hi,ho]:=back hj;rcases dw i fy with z|z
   .exact absurd #[j,ho,hm] (ly i z)
   .omega
  .intro h i p hp hm;refine#[ay,tk zS ?_,tq];rcases dw i fx with z|z
   .exact absurd #[p,hp,hm] (lx i z)
   .omega
 rw[aW,k2,gf,<- Bool.not_eq_true,k1];omega
abbrev many(cs:@&b8)(v:Int)(rs:@&dy):Nat:=(j6 (-cs) (j7 cs v rs) 0).length
def NV(cs:@&b8)(v:Int)(rs:@&dy)(r:dy):many cs v (rs++[r])=((j6 (-cs) (j7 cs v rs) 0).filter (kc (E6 cs r) 0)).length:=by
 unfold many;rw[aU6]
 congr 2
 funext o
 exact a37 (λs p=>by simp) 0 o
def Le{α:Type}{q:α->Bool}:∀l:List α,(l.filter q).length+(l.filter λx=>~~~q x).length=-l
 |[]=>rfl
 |x::r=>by
  have:=Le (q:=q) r;cases h:q x
  .rw[iZ (by rw[h];decide),iY (by rw[h];rfl)];simp;omega
  .rw[iY h,iZ (by rw[h];decide)];simp;omega
def Lo(hg:p9 cs r=true):many cs v (rs++[r])+many cs v (rs++[i0 r])=many cs v rs:=by
 rw[NV,NV];have:(j6 (-cs) (j7 cs v rs) 0).filter (kc (E6 cs (i0 r)) 0)=(j6 (-cs) (j7 cs v rs) 0).filter λo=>~~~kc (E6 cs r) 0 o:=by
  refine ml λo ho=>?_;let#[h1,h2,h3]:=a34 (C8 cs v rs) ho;exact XC h1 h2 h3 hg
 rw[this];exact Le _
abbrev Fo:bj:=#[3,3,(.seq (.ifs (.eK (.fR (.call 74 (gS aK bq bw)))) (.seq (.raise "NoDie" (ff (gA "no coin is of that die"))) .pass) .pass) .pass)]
abbrev R5:bj:=#[1,2,(.seq (.set 1 (.call 117 (ff aK))) (.seq (.ifs (dW .Eq (cN bq (dh (.un .USub) (bo 1))) (dh (.fld "full") aK)) (.seq (.ret (.lit .bK)) .pass) .pass) (.seq (.ret bq) .pass)))]
abbrev Z4:bj:=#[3,3,(.seq (.ifs (dW .Eq bq (gA "coin")) (.seq (.expr (.call 83 (eM aK bw))) .pass) (.seq (.expr (.call 75 (gS aK bq bw))) .pass)) .pass)]
abbrev FC:bj:=#[4,4,(.seq (.ifs (dW .NotIn bq (.lit (.tup [(.str "coin"),(.str "lower"),(.str "upper")]))) (.seq (.raise "BadSide" (ff (gA "asked about are coins, lower dies or upper dies"))) .pass) .pass) (.seq (.expr (.call 136 (gS aK bq bw))) (.seq (.expr (.call 136 (gS aK bq bz))) (.seq (.ifs (dW .Eq bw bz) (.seq (.raise "SameOne" (ff (gA "two unlike ones are asked about"))) .pass) .pass) .pass))))]
abbrev S4:bj:=#[6,10,(.seq (.expr (.call 98 (gS aK bq bw))) (.seq (.expr (.call 137 (mL aK bz cF dU))) (.seq (.set 6 (.make "Bounds" 113 (gS aK bq (bR (.bin .Add) bw (dh .lst (.prim .tup (gS bz cF dU))))))) (.seq (.set 7 (.make "Bounds" 113 (gS aK bq (bR (.bin .Add) bw (dh .lst (.prim .tup (gS bz dU cF))))))) (.seq (.set 8 (.call 124 (ff eL))) (.seq (.set 9 (.call 124 (ff gI))) (.seq (.ifs (.dZ (dW .Is jc (.lit .bK)) (dW .Is qa (.lit .bK))) (.seq (.raise "NoOrder" (ff (gA "there is no order"))) .pass) .pass) (.seq (.ifs (dW .Is qa (.lit .bK)) (.seq (.ret (bR .tup (gA "first") (.call 129 (ff gI)))) .pass) .pass) (.seq (.ifs (dW .Is jc (.lit .bK)) (.seq (.ret (bR .tup (gA "later") (.call 129 (ff eL)))) .pass) .pass) (.seq (.ret (.prim .tup (gS (gA "either") jc qa))) .pass))))))))))]
abbrev EJ:bj:=#[6,6,(.seq (.ret (cN (.call 138 (xK aK bq bw bz cF dU)) (bo 0))) .pass)]
structure vL(T:Nat->Option bj):Prop where
 Sk:T 75=!Fo
 Dr:T 83=!R7
 lL:T 124=!R6
 qo:T 129=!R5
 DA:T 136=!Z4
 Dz:T 137=!FC
 xI:T 138=!S4
 Dy:T 139=!EJ
section
variable{T:Nat->Option bj}{d:Nat}{r:Nat}
def S0{K:G->Prop}(hT:iW T)(ha:g[a]?=!.lst (cs.map b8.d))(hz:-cs<=9)(hg:cs.all A2=true)(hB:∀c∈cs,CB c)(hc:g[c]?=!.lst (c9 rs))(hr:-rs<=900)(h:∀g',Ex g g'->Bd g' (-g) cs v rs->K g'):c5 T (k+9) 113 [.ref (-g),.ref a,.int v,.ref c] (g++[.ins "Bounds" []]) (λd g2=>d=.bK/\K g2) E:=by
 let x1:=Ex.snoc g (O.ins "Bounds" []);refine ax0 (k:=k) hT (x1.at ha) hz hg hB (x1.at hc) hr b7 λg2 l2 o2 B2=>?_;refine#[rfl,h g2 #[by simp at l2;omega,λi hi=>?_] B2];rw[o2 i (by simp;omega) (),x1.old i hi]
abbrev U1(cs:@&b8)(w:RW)(x:Int):Bool:= ~~~(iK cs w x).isEmpty
def aS3(h:U1 cs .fF x=true):0<=x/\x< -cs:=by
 unfold U1 at h;cases e:iK cs .fF x with
 |nil=>rw[e] at h;cases h
 |cons p _ =>
  let hp:p∈iK cs .fF x:=by rw[e];simp
  let#[h1,h2]:=bD.mp hp;have:=aR.mp h1;have:=bg h2;omega
def MO(hT:iW T)(hF:vL T)(ha:g[a]?=!.lst (cs.map b8.d))(hz:-cs<=9)(ht:U1 cs w x=true)(h:∀g',Ex g g'->Q .bK g'):c5 T (k+5) 136 [.ref a,.str w.s,.int x] g Q E:=by
 refine call_of hF.DA rfl ?_;delta Z4;left;let mU:w≠.fF->c5 T (k+4) 75 [.ref a,.str w.s,.int x] g (λy g1=>Q .bK g1) E:=λhw=>by
  refine call_of hF.Sk rfl ?_;delta Fo;show M5 (k:=k) hT.nf hT.mH hT.rK ha () λg1 b e1 y hb=>?_;show bJ4 (a9 hb) ?_;have:(b9 (iK cs w x)).isEmpty=(iK cs w x).isEmpty:=by unfold b9;cases iK cs w x<;>rfl
  rw[this];let pB:(iK cs w x).isEmpty=false:=by unfold U1 at ht;simpa using ht
  rw[pB];left;exact h _ e1
 cases w with
 |fF =>
  refine gY #[] ?_;left;have:=aS3 ht;exact aw6 (k:=k+1) hT.nf hF.Dr ha (λy y=>h _ (Ex.refl _)) (λz=>absurd #[this.1,by rw[ak];exact this.2] z)
 |lower =>
  refine fq #[] ?_;left;exact mU (λz=>by cases z)
 |upper =>
  refine fq #[] ?_;left;exact mU (λz=>by cases z)
def MH(hT:iW T)(hF:vL T){y:Int}(ha:g[a]?=!.lst (cs.map b8.d))(hz:-cs<=9)(hx:U1 cs w x=true)(hy:U1 cs w y=true)(hn:x≠y)(h:∀g',Ex g g'->Q .bK g'):c5 T (k+6) 137 [.ref a,.str w.s,.int x,.int y] g Q E:=by
 refine call_of hF.Dz rfl ?_;delta FC;show O4 (in_words ?_);show MO (k:=k) hT hF ha hz hx λg1 e1=>?_;show MO (k:=k) hT hF (e1.at ha) hz hy λg2 e2=>?_;show fq (aM hn) ?_;left;exact h _ (e1.trans e2)
def MP(hT:iW T)(hF:TF T)(hW:T 117=!K8)(qo:T 129=!R5)(B:Bd g b cs v rs)(hz:-cs<=9)(hr:-rs<=900)(h:∀(L:@&Nat) l g',Ex g g'->-g<=l->g'[l]?=!.lst (b9 L)->L.Pairwise (· < ·)->(∀s,s∈L↔hJ (j7 cs v rs) s)->-L<=512->(hJ (j7 cs v rs) (2 ^ (-cs)-1)->Q .bK g')/\(¬hJ (j7 cs v rs) (2 ^ (-cs)-1)->Q (.ref l) g')):c5 T (k+7) 129 [.ref b] g Q E:=by
 refine call_of qo rfl ?_;delta R5;let#[w0,l0,dd,nb,f1,f2,f3,f4,f5]:=B.ex;show Mb (k:=k) hT hF hW B hz hr λL l g1 e1 hl h1 pw hL xE=>?_;let#[QX,zD]:=h L l g1 e1 hl h1 pw hL xE;let h0:0∈L:=(hL 0).mpr .zero;let QY:=vR h0;let oH:=ag (show (-L)-1< -L by omega);generalize wX:L[(-L)-1]=z at oH;let atl:gP (b9 L) (-1)=!.int (z:Nat):=by
  unfold gP mB;let il:(b9 L).length=-L:=by simp[b9]
  rw[aE ∅,il,aI (by(clear hz hr hl wX;omega))];show(b9 L)[(-1+(-L:Int)).toNat]?=_;rw[show(-1+(-L:Int)).toNat=-L-1 by(clear hz hr hl wX;omega),b9,ai,oH]
  rfl
 let Ir:z∈L:=aH oH;let oG:∀x∈L,x<=z:=λx hx=>by
  let#[i,hi,rfl]:=br.mp hx;rcases dw i (-L-1) with y|y
  .have:=cS.mp pw i (-L-1) hi () y;omega
  .have:i=-L-1:=by(clear hz hr hl wX;omega)
   subst this;omega
 let QI:=((hL z).mp Ir).lt (C8 cs v rs);show s9 (a9 h1) atl ?_;show W6 (e1.at f1) rfl ?_;left;let ed:decide (((z:Nat):Int)=((2 ^ (-cs)-1:Nat):Int))=decide (z=2 ^ (-cs)-1):=eG.mpr (by(clear hz hr hl wX;omega));rw[ed];refine if2 (λc1=>?_) (λc1=>?_)
 .exact QX (c1▸(hL z).mp Ir)
 .show zD λhR=>c1 ?_;have:=oG _ ((hL _).mpr hR);omega
def Mn{r:dy}(h:p9 cs r=true):U1 cs r.w r.x=true/\U1 cs r.w r.y=true/\r.x≠r.y:=by
 unfold p9 at h;simp only[Bool.and_eq_true,Bool.not_eq_true',decide_eq_false_iff_not] at h;unfold U1;rw[h.2.1,h.2.2];exact#[rfl,rfl,h.1]
abbrev Q8(m1 m2:Nat):Str:=if m2=0 then "first" else if m1=0 then "later" else "either"
def UD(hT:iW T)(nX:T 42=!A5)(pJ:T 98=!E4)(hF:TF T)(hW:TW T)(hN:TN T)(hI:vL T){r:dy}(ha:g[a]?=!.lst (cs.map b8.d))(hz:-cs<=9)(hg:cs.all A2=true)(hB:∀c∈cs,CB c)(hv:1<=v/\v<=9)(hc:g[c]?=!.lst (c9 rs))(hr:-rs<=800)(hR:rs.all (p9 cs)=true)(nW:p9 cs r=true)(h1:many cs v (rs++[r])=0->many cs v (rs++[i0 r])=0->∀g',Ex g g'->E #["NoOrder"] g')(h2:¬(many cs v (rs++[r])=0/\many cs v (rs++[i0 r])=0)->∀g' l,Ex g g'->l≠[]->l.head?=!(.str (Q8 (many cs v (rs++[r])) (many cs v (rs++[i0 r]))))->Q (.tup l) g'):c5 T (k+12) 138 [.ref a,.int v,.ref c,.str r.w.s,.int r.x,.int r.y] g Q E:=by
 refine call_of hI.xI rfl ?_;delta S4;show MM (k:=k+4) hT nX pJ ha () hc () (λz=>by omega) (λu z=>by rw[hg] at z;cases z) (λu u z=>absurd hv z) (λu u u z=>by rw[hR] at z;cases z) λu u u u g1 e1=>?_;left;let#[tx,ty,Ci]:=Mn nW;refine MH (k:=k+5) hT hI (e1.at ha) hz tx ty Ci λg2 e2=>?_;let kz:=e1.trans e2;left;let s3:=Ex.snoc g2 (O.lst (c9 [r]));let kj:∀r:dy,c9 rs++c9 [r]=c9 (rs++[r]):=λr=>by simp[c9]
 refine O6 ((Ex.snoc _ _).at (kz.at hc)) b7 (by simp[c9];omega) ?_;rw[show[D.tup [D.str r.w.s,D.int r.x,D.int r.y]]=c9 [r] from rfl,kj];left;let e4:=(Ex.snoc g2 (O.lst (c9 [r]))).trans (Ex.snoc _ (O.lst (c9 (rs++[r]))));let c4:=b7 (g:=g2++[O.lst (c9 [r])]) (o:=O.lst (c9 (rs++[r])));generalize (g2++[O.lst (c9 [r])])++[O.lst (c9 (rs++[r]))]=g4 at *;let tT:=kz.trans e4;refine S0 (k:=k+2) hT (tT.at ha) hz hg hB c4 (by simp;omega) λg5 e5 B5=>?_;let rV:=tT.trans e5;generalize (-g4)=b1 at *;show O6 ((Ex.snoc _ _).at (rV.at hc)) b7 (by simp[c9];omega) ?_;rw[show[D.tup [D.str r.w.s,D.int r.y,D.int r.x]]=c9 [i0 r] from rfl,kj];left;let e6:=(Ex.snoc g5 (O.lst (c9 [i0 r]))).trans (Ex.snoc _ (O.lst (c9 (rs++[i0 r]))));let c6:=b7 (g:=g5++[O.lst (c9 [i0 r])]) (o:=O.lst (c9 (rs++[i0 r])));generalize (g5++[O.lst (c9 [i0 r])])++[O.lst (c9 (rs++[i0 r]))]=g6 at *;let xT:=rV.trans e6;refine S0 (k:=k+2) hT (xT.at ha) hz hg hB c6 (by simp;omega) λg7 e7 B7=>?_;let xS:=xT.trans e7;let yW:=B5.at (e6.trans e7);generalize (-g6)=b2 at *;left;let rp:(rs++[r]).length<=900:=by simp;omega
 let pZ:(rs++[i0 r]).length<=900:=by simp;omega
 let mz:∀{rs:@&dy},j6 (-cs) (j7 cs v rs) 0=[]↔many cs v rs=0:=λ{rs}=>by unfold many;exact dg.symm
 let nz:∀{rs:@&dy} {o:@&Nat},(j6 (-cs) (j7 cs v rs) 0)[0]?=!o->many cs v rs≠0:=λ{rs o} h z=>by rw[mz.mpr z] at h;cases h
 generalize zH:many cs v (rs++[r])=m1 at *;generalize uL:many cs v (rs++[i0 r])=m2 at *;let rest:∀(N:Ends) (E:KX) (x y:D) g8,Ex g7 g8->((m1=0/\x=.bK)\/(m1≠0/\∃i,x=.ref i))->((m2=0/\y=.bK)\/(m2≠0/\∃i,y=.ref i))->(m1=0->m2=0->∀g',Ex g g'->E #["NoOrder"] g')->(¬(m1=0/\m2=0)->∀g' l,Ex g g'->l≠[]->l.head?=!.str (Q8 m1 m2)->N.rt (.tup l) g')->wpS (c5 T (k+11)) (match S4.body with|.seq _ (.seq _ (.seq _ (.seq _ (.seq _ (.seq _ b)))))=>b|x=>x) N [!.ref a,!.int v,!.ref c,!.str r.w.s,!.int r.x,!.int r.y,!.ref b1,!.ref b2,!x,!y] g8 E:=by
  intro N E x y g8 e8 hx hy h1 h2;let qx:=xS.trans e8;dsimp[S4];let lC:∀{b mr} {Q:KD} {E:KX} {g8:G},Ex g g8->Bd g8 b cs v mr->-mr<=900->(∀g' x,Ex g g'->Q x g')->c5 T (k+11) 129 [.ref b] g8 Q E:=λe8 B hl hN =>
   MP (k:=k+4) hT hF hW.oQ hI.qo B hz hl λL l g9 e9 u u u u u=>#[λu=>hN _ _ (e8.trans e9),λu=>hN _ _ (e8.trans e9)]
  rcases hx with⟨z1,rfl⟩|⟨z1,i1,rfl⟩
  .rcases hy with⟨z2,rfl⟩|⟨z2,i2,rfl⟩
   .left;exact h1 z1 z2 _ qx
   .show lC qx (yW.at e8) rp λg' x e'=>?_;left;exact h2 (λz=>z2 z.2) _ _ e' #[_] (by unfold Q8;rw[aE z2,aI z1];rfl)
  .rcases hy with⟨z2,rfl⟩|⟨z2,i2,rfl⟩
   .show lC qx (B7.at e8) pZ λg' x e'=>?_;left;exact h2 (λz=>z1 z.1) _ _ e' #[_] (by unfold Q8;rw[aI z2];rfl)
   .left;exact h2 (λz=>z1 z.1) _ _ qx #[_] (by unfold Q8;rw[aE z2,aE z1];rfl)
 refine B4 (k:=k+3) hT hF hW hN hI.lL yW hz rp (λho g8 e8=>?_) (λo i g8 ho e8 u u=>?_)
 .let z1:m1=0:=zH▸mz.mp ho;show B4 (k:=k+3) hT hF hW hN hI.lL (B7.at e8) hz pZ (λki g9 e9=>?_) (λo2 i2 g9 ki e9 u u=>?_)
  .exact rest _ _ _ _ g9 (e8.trans e9) (.inl #[z1,rfl]) (.inl #[uL▸mz.mp ki,rfl]) h1 h2
  .exact rest _ _ _ _ g9 (e8.trans e9) (.inl #[z1,rfl]) (.inr #[uL▸nz ki,_,rfl]) h1 h2
 .let z1:m1≠0:=zH▸nz ho;show B4 (k:=k+3) hT hF hW hN hI.lL (B7.at e8) hz pZ (λki g9 e9=>?_) (λo2 i2 g9 ki e9 u u=>?_)
  .exact rest _ _ _ _ g9 (e8.trans e9) (.inr #[z1,_,rfl]) (.inl #[uL▸mz.mp ki,rfl]) h1 h2
  .exact rest _ _ _ _ g9 (e8.trans e9) (.inr #[z1,_,rfl]) (.inr #[uL▸nz ki,_,rfl]) h1 h2
def Wh(hT:iW T)(nX:T 42=!A5)(pJ:T 98=!E4)(hF:TF T)(hW:TW T)(hN:TN T)(hI:vL T){r:dy}(ha:g[a]?=!.lst (cs.map b8.d))(hz:-cs<=9)(hg:cs.all A2=true)(hB:∀c∈cs,CB c)(hv:1<=v/\v<=9)(hc:g[c]?=!.lst (c9 rs))(hr:-rs<=800)(hR:rs.all (p9 cs)=true)(nW:p9 cs r=true)(h1:many cs v (rs++[r])=0->many cs v (rs++[i0 r])=0->∀g',Ex g g'->E #["NoOrder"] g')(h2:¬(many cs v (rs++[r])=0/\many cs v (rs++[i0 r])=0)->∀g',Ex g g'->Q (.str (Q8 (many cs v (rs++[r])) (many cs v (rs++[i0 r])))) g'):c5 T (k+13) 139 [.ref a,.int v,.ref c,.str r.w.s,.int r.x,.int r.y] g Q E:=by
 refine call_of hI.Dy rfl ?_;delta EJ;show UD (k:=k) hT nX pJ hF hW hN hI ha hz hg hB hv hc hr hR nW h1 λfQ g' l e' hl hh=>?_;show x6 (d:=.str (Q8 (many cs v (rs++[r])) (many cs v (rs++[i0 r])))) (A7 (j:=0) (by cases l with|nil=>exact absurd rfl hl|cons x _=>simpa using hh)) ?_;exact h2 fQ _ e'
end
def UK{l:List α}:cut l (!(n:Int)) none=l.drop n:=by
 have:¬((n:Int)<0):=by omega
 unfold cut HT.fe;simp[this];by_cases h:n<=-l
 .rw[jv h,bS #[_]]
 .rw[Nat.min_eq_right (),eR (av _),eR ()];simp
def Ub(l:@&Nat):(kF l).testBit=ji l:=funext λi=>V2 l i
def EY{F:Nat->@&Nat}:∀{t:Nat} {r:@&Nat},r∈U3 F t↔(-r)=t/\∀i p,r[i]?=!p->p∈F (kF (r.take i))
 |0,r=>by
  constructor
  .intro h;cases aQ.mp h;exact#[rfl,λi p e=>by simp at e]
  .rintro⟨h,_⟩;cases dg.mp h;exact aQ.mpr rfl
 |t+1,r=>by
  change r∈(U3 F t).flatMap (λr=>(F (kF r)).map λp=>r++[p])↔_;rw[iX];constructor
  .rintro⟨r0,h0,h1⟩;let#[p,hp,rfl]:=aP.mp h1;let#[hl,hs]:=EY.mp h0;refine#[by simp[hl],λi q e=>?_];by_cases hi:i< -r0
   .rw[aN hi] at e;rw[List.take_append_of_le_length ()];exact hs i q e
   .let xp:i=-r0:=by
     have:=(aw.mp e).1;simp at this;omega
    subst xp;rw[cO (av _),Nat.sub_self] at e;cases e;rw[List.take_left' rfl];exact hp
  .rintro⟨hl,hs⟩;let ht:t< -r:=by omega
   refine#[r.take t,EY.mpr #[by simp;omega,λi p e=>?_],?_]
   .let hi:i<t:=by
     have:=(aw.mp e).1;simp at this;omega
    rw[da hi] at e;rw[List.take_take,jv ()];exact hs i p e
   .refine aP.mpr #[r[t],hs t _ (ag ht),?_];let e:=bE (l:=r) (i:=t);rw[ag ht,bS ()] at e;exact e.symm
structure yQ(cs:@&b8)(v:Int)(rs:@&dy)(o:@&Nat):Prop where
 len:-o=-cs
 st:∀i p,o[i]?=!p->p< -cs/\p∉o.take i/\fault cs v rs (ji (o.take i)) p=""
def NW{l:@&Nat}:p∈j7 cs v rs (kF l)↔p< -cs/\p∉l/\fault cs v rs (ji l) p="":=by
 unfold j7 E8;rw[bD,aR,Ub,aZ,bQ,gf,cI]
def WX{o:@&Nat}:o∈j6 (-cs) (j7 cs v rs) 0↔yQ cs v rs o:=by
 rw[<- Of (C8 cs v rs),EY];exact#[λh=>#[h.1,λi p e=>NW.mp (h.2 i p e)],λh=>#[h.len,λi p e=>NW.mpr (h.st i p e)]]
section
variable{o:@&Nat}
def yQ.none(h:yQ cs v rs o):Bb cs v rs (o.map λ(i:Nat)=>(i:Int))=none:=by
 let gD:∀i,i< -o->∃p,o[i]?=!p/\(o.map λ(i:Nat)=>(i:Int)).getD i 0=(p:Nat):=λi hi=>#[o[i],ag hi,getD_at (by rw[ai,ag hi];rfl)]
 unfold Bb;rw[aI (by rw[ak,h.len])];let p1:(List.range (o.map λ(i:Nat)=>(i:Int)).length).findSome? (ou (-cs) (o.map λ(i:Nat)=>(i:Int)))=Option.none:=by
  rw[ic];intro i hi;rw[aR,ak] at hi;let#[p,e1,e2]:=gD i hi;let#[h1,h2,_]:=h.st i p e1;unfold ou;rw[e2,aI #[by omega,by omega],aE];rw[<- kP];intro z;let#[q,hq,e]:=aP.mp z;exact h2 ((by omega:q=p)▸hq)
 let p2:(List.range (o.map λ(i:Nat)=>(i:Int)).length).findSome? (rR cs v rs (o.map λ(i:Nat)=>(i:Int)))=Option.none:=by
  rw[ic];intro i hi;rw[aR,ak] at hi;let#[p,e1,e2]:=gD i hi;let#[_,_,h3]:=h.st i p e1;unfold rR;have:L8 (o.map λ(i:Nat)=>(i:Int)) i=o.take i:=by
   unfold L8;rw[<- kP,bB];exact(fk λx x=>rfl).trans (List.map_id _)
  rw[e2,this,dP,aI h3]
 rw[p1,p2]
 rfl
end
abbrev Au:bj:=#[3,9,(.seq (.set 3 (.prim .W7 .nil)) (.seq (.set 4 (dh .lst (bo 0))) (.seq (.dX (.one 5) (.eY (bR (.bin .Add) (dh .len aK) (bo 1))) (.seq (.set 6 (.prim .W7 .nil)) (.seq (.dX (.one 7) (.fE cF) (.seq (.fc bz gI (.call 148 (mL aK bq bw gI))) (.seq (.dX (.one 8) (.fE (cN bz gI)) (.seq (.fc eL (bR (.bin .Add) gI (.call 147 (ff jc))) (.lit (.bl true))) .pass)) .pass))) (.seq (.set 4 (dh .lz (dh .list eL))) .pass)))) (.seq (.ret bz) .pass))))]
def GO{s:Nat}(h:s.testBit p=false):s |||2 ^ p=s+2 ^ p:=by
 induction p generalizing s with
 |zero =>
  rw[Nat.testBit_zero,cI] at h;let h1:=Nat.or_div_two (a:=s) (b:=1);let h2:(s |||1) % 2=1:=za.mpr (.inr rfl);rw[show(1:Nat) / 2=0 from rfl,Nat.or_zero] at h1;change s |||1=s+1
  omega
 |succ p ih =>
  let h0:(s / 2).testBit p=false:=by rw[Nat.testBit_succ] at h;exact h
  let h1:=Nat.or_div_two (a:=s) (b:=2 ^ (p+1));let h2:=za (a:=s) (b:=2 ^ (p+1));let e:2 ^ (p+1)=2*2 ^ p:=by rw[Nat.pow_succ,Nat.mul_comm]
  rw[e,Nat.mul_div_cancel_left _ ∅,ih h0] at h1;rw[e] at h2 ⊢;omega
abbrev Lay(F:Nat->@&Nat):Nat->Nat->Prop
 |0,s=>s=0
 |i+1,s=>∃r p,Lay F i r/\p∈F r/\s=r |||2 ^ p
def Lay.sO{F:Nat->@&Nat}:∀{i s:Nat},Lay F i s->hJ F s
 |0,_,h=>by cases h;exact .zero
 |i+1,_,⟨r,p,h1,h2,h3⟩=>by rw[h3];exact .step h1.sO h2
def VJ{F:Nat->@&Nat}{s:Nat}(h:hJ F s):∃i,Lay F i s:=by
 induction h with
 |zero=>exact#[0,rfl]
 |step _ hp ih=>let#[i,hi]:=ih;exact#[i+1,_,_,hi,hp,rfl]
def Lay.bits{n:Nat}{F:Nat->@&Nat}(hF:FG n F):∀{i s:Nat},Lay F i s->∃l:@&Nat,l.Nodup/\-l=i/\∀q∈l,s.testBit q=true/\q<n
 |0,s,_=>#[[],pS,rfl,λq hq=>absurd hq mZ]
 |i+1,s,⟨r,p,h1,h2,h3⟩=>by
  let#[l,n1,n2,n3]:=h1.bits hF;let#[p1,p2]:=hF r p h2;refine#[p::l,dI.mpr #[λz=>?_,n1],by simp[n2],λq hq=>?_]
  .rw[(n3 p z).1] at p2;cases p2
  .rw[h3,P4];rcases aL.mp hq with rfl|hq
   .exact#[by simp,p1]
   .exact#[by rw[(n3 q hq).1];rfl,(n3 q hq).2]
def Lay.le{F:Nat->@&Nat}(hF:FG n F){s:Nat}(h:Lay F i s):i<=n:=by
 let#[l,n1,n2,n3]:=h.bits hF;have:=Q1 (m:=List.range n) n1 λq hq=>aR.mpr (n3 q hq).2;rw[fX] at this;omega
abbrev Ky(kvs:@&(Key×D))(L:@&Nat):Prop:=kvs.map (·.1)=L.map kN/\L.Nodup
def Ky.put(h:Ky kvs L)(j:Nat)(x:D):∃L',Ky (putD kvs (kN j) x) L'/\∀s,s∈L'↔s∈L\/s=j:=by
 let#[h1,h2]:=h;let nB:(kvs.any λkv=>decide (kv.1=kN j))=true↔j∈L:=by
  rw[aU];constructor
  .rintro⟨kv,m,e⟩;let e:=bg e;have:kv.1∈L.map kN:=by rw[<- h1];exact Hs m
   let#[i,hi,e2]:=aP.mp this;have:i=j:=Classical.byContradiction λz=>FY z (e2.trans e);rw[<- this];exact hi
  .intro hj;have:kN j∈kvs.map (·.1):=by rw[h1];exact Hs hj
   let#[kv,m,e]:=aP.mp this;exact#[kv,m,az e]
 unfold putD;by_cases hj:j∈L
 .rw[aI (nB.mpr hj)];refine#[L,#[?_,h2],λs=>#[.inl,λz=>z.elim id λe=>e▸hj]];rw[bB,<- h1];refine fk λkv y=>?_;show(if kv.1=kN j then(kv.1,x) else kv).1=kv.1;split<;>rfl
 .rw[aE λz=>hj (nB.mp z)];refine#[L++[j],#[by rw[dJ,dJ,h1];rfl,cE.mpr #[h2,by simp,λa ha b hb=>by simp at hb;subst hb;exact λe=>hj (e▸ha)]],λs=>by simp]
def Ky.len(h:Ky kvs L):-kvs=-L:=by simpa using hV List.length h.1
def Ky.small(h:Ky kvs L)(hn:n<=9)(hL:∀s∈L,s<2 ^ n):-kvs<=512:=by
 let h1:=Q1 (m:=List.range (2 ^ n)) h.2 λq hq=>aR.mpr (hL q hq);have:=Bc hn;rw[h.len];simp at h1;omega
def Ky.keys(h:Ky kvs L):(kvs.map (·.1)).map kD=(L.map λj:Nat=>(j:Int)).map .int:=by
 rw[h.1,bB,bB];rfl
def bK5(hn:L.Nodup):∃S:@&Nat,(L7 (L.map λj:Nat=>(j:Int))).map D.int=b9 S/\S.Pairwise (· < ·)/\(∀s,s∈S↔s∈L)/\-S=-L:=by
 let hp:=FJ (L.map λj:Nat=>(j:Int));let hr:=Me (L.map λj:Nat=>(j:Int));generalize L7 (L.map λj:Nat=>(j:Int))=Z at *;let hZ:(Z.map Int.toNat).Perm L:=by
  have:=hp.map Int.toNat;rw[bB] at this;let e:(Int.toNat ∘ λj:Nat=>(j:Int))=id:=by funext j;simp
  rw[e,List.map_id] at this;exact this
 let hE:(Z.map Int.toNat).map (λj:Nat=>(j:Int))=Z:=by
  rw[bB];have:∀x∈Z,((λj:Nat=>(j:Int)) ∘ Int.toNat) x=x:=λx hx=>by
   let#[j,_,rfl]:=aP.mp (hp.mem_iff.mp hx);simp
  rw[fk this,List.map_id']
 refine#[Z.map Int.toNat,?_,?_,λs=>hZ.mem_iff,hZ.length_eq]
 .rw[b9,<- hE,bB,bB,bB,hE]
  rfl
 .let nd:(Z.map Int.toNat).Nodup:=hZ.nodup_iff.mpr hn;let h2:(Z.map Int.toNat).Pairwise (·<=·):=by
   rw[fW];exact hr.imp λh=>Int.toNat_le_toNat h
  exact(h2.and nd).imp λh=>Nat.lt_of_le_of_ne h.1 h.2
abbrev lQ(g:G)(t:Nat)(F:Nat->@&Nat)(P:Nat->Prop):Prop:=∃kvs L,g[t]?=!.dB kvs/\Ky kvs L/\(∀s,s∈L↔P s)/\∀s,P s->∃l,u5 kvs (kN s)=!.ref l/\g[l]?=!(.lst (b9 (F s)))
def lQ.at{g g':G}{t:Nat}{F:Nat->@&Nat}{P:Nat->Prop}(h:lQ g t F P)(e:Ex g g'):lQ g' t F P:=by
 let#[kvs,L,h1,h2,h3,h4]:=h;exact#[kvs,L,e.at h1,h2,h3,λs hs=>by let#[l,q1,q4]:=h4 s hs;exact#[l,q1,e.at q4]]
def lQ.cg{F:Nat->@&Nat}{P P':Nat->Prop}(h:lQ g t F P)(e:∀s,P' s↔P s):lQ g t F P':=by
 let#[kvs,L,h1,h2,h3,h4]:=h;exact#[kvs,L,h1,h2,λs=>(h3 s).trans (e s).symm,λs hs=>h4 s ((e s).mp hs)]
def ug(h1:g[i]?=!.lst l)(h2:g[j]?=!.dB kvs):j≠i:=λe=>by rw[e,h1] at h2;cases h2
def lQ.zq{w:Nat}{F:Nat->@&Nat}{P:Nat->Prop}{kw:@&(Key×D)}(h:lQ g t F P)(hw:g[w]?=!.dB kw)(ne:w≠t):lQ (g.set w o) t F P:=by
 let#[kvs,L,h1,h2,h3,h4]:=h;exact#[kvs,L,d6 h1 ne,h2,h3,λs hs=>by let#[l,q1,q4]:=h4 s hs;exact#[l,q1,d6 q4 (ug q4 hw)]]
def lQ.put{g:G}{t l r:Nat}{F:Nat->@&Nat}{P:Nat->Prop}{kvs:@&(Key×D)}(h:lQ g t F P)(hk:g[t]?=!.dB kvs)(hl:g[l]?=!(.lst (b9 (F r)))):lQ (g.set t (.dB (putD kvs (kN r) (.ref l)))) t F (λs=>P s\/s=r):=by
 let#[kh,L,h1,h2,h3,h4]:=h;rw[hk] at h1;cases h1;let#[L',k1,k2]:=h2.put r (.ref l);refine#[_,L',get_set hk,k1,λs=>by rw[k2,h3],λs hs=>?_];by_cases e:s=r
 .subst e;exact#[l,Fb,d6 hl (ug hl hk)]
 .let#[l',q1,q2]:=h4 s (hs.resolve_right e);exact#[l',by rw[Lu (FY λz=>e z.symm)];exact q1,d6 q2 (ug q2 hk)]
def take1{l:List α}{x:α}(h:l[i]?=!x)(y:α):y∈l.take (i+1)↔y∈l.take i\/y=x:=by
 rw[bE,h];simp
def Ki{x:Nat}(h:Ex g g')(hx:-g<=x):Ex g (g'.set x o):=#[by simp[h.len],λi hi=>by rw[aA ()];exact h.old i hi]
def M1{x:D}(h:(b9 L)[i]?=!x):∃j,L[i]?=!j/\x=.int (j:Nat):=by
 rw[b9,ai,ae] at h;let#[j,h1,h2]:=h;exact#[j,h1,h2.symm]
section
variable{T:Nat->Option bj}{d:Nat}{r:Nat}
def Fg(hT:uk T)(xC:Hd T)(oP:T 149=!Au)(hB:∀c∈cs,CB c)(ha:g[a]?=!.lst (cs.map b8.d))(hz:-cs<=9)(hc:g[c]?=!.lst (c9 rs))(hr:-rs<=900)(h:∀g' t,Ex g g'->-g<=t->lQ g' t (j7 cs v rs) (hJ (j7 cs v rs))->Q (.ref t) g'):c5 T (k+4) 149 [.ref a,.int v,.ref c] g Q E:=by
 refine call_of oP rfl ?_;delta Au;let ju:=C8 cs v rs;left;let e1:=Ex.snoc g (O.dB []);let t1:=b7 (g:=g) (o:=O.dB []);generalize g++[O.dB []]=g1 at *;let l1:=m8 t1;let e2:=e1.trans (Ex.snoc g1 (O.lst [.int 0]));let t2:=(Ex.snoc g1 (O.lst [.int 0])).at t1;let f2:=b7 (g:=g1) (o:=O.lst [.int 0]);generalize (-g1)=f at *;refine v5 (b0 T _) (O3 (b0 T _) ?_);show E1 (a9 (e2.at ha)) ?_;left;rw[ak];generalize pI:j7 cs v rs=F at *;refine#[by omega,by omega,l9 0 (-cs+1),λi U g'=>Ex g g'/\lQ g' (-g) F (λs=>∃j,j<i/\Lay F j s)/\∃fr Fr z5 z6 z7 z8,g'[fr]?=!.lst (b9 Fr)/\-g<=fr/\(∀s,s∈Fr↔Lay F i s)/\U=[!.ref a,!.int v,!.ref c,!.ref (-g),!.ref fr,z5,z6,z7,z8],λw w w w=>t8,#[e2,#[[],[],t2,#[rfl,pS],λs=>by simp,λs hs=>by omega],f,[0],none,none,none,none,f2,by omega,λs=>by simp[Lay],rfl],λi x U g' hx q=>?_,λU g' q=>?_]
 .let#[e3,T3,fr,Fr,z5,z6,z7,z8,F3,lf,rJ,rfl]:=q;let#[hi,rfl]:=x8 hx;refine i8 ?_;left;let e4:=e3.trans (Ex.snoc g' (O.dB []));let T4:=T3.at (Ex.snoc g' (O.dB []));let F4:=(Ex.snoc g' (O.dB [])).at F3;let w4:=b7 (g:=g') (o:=O.dB []);let lw:=e3.len;let nt:-g'≠-g:=λe=>by let#[_,_,q,_]:=T3;have:=m8 q;omega
  generalize (-g')=wd at *;refine v5 (b0 T _) (lT (b0 T _) ?_);show#[_,_,rfl,a9 F4,b9 Fr,λm U g'=>Ex g g'/\g'[fr]?=!.lst (b9 Fr)/\lQ g' (-g) F (λs=>(∃j,j<i/\Lay F j s)\/s∈Fr.take m)/\(∃kvs W,g'[wd]?=!.dB kvs/\Ky kvs W/\∀s,s∈W↔∃r∈Fr.take m,∃p∈F r,s=r |||2 ^ p)/\∃z7 z8,U=[!.ref a,!.int v,!.ref c,!.ref (-g),!.ref fr,!(.int ((0:Int)+(i:Nat))),!.ref wd,z7,z8],λw w w q=>o6 (a9 q.2.1),#[e4,F4,T4.cg λs=>by simp,#[[],[],w4,#[rfl,pS],λs=>by simp],z7,z8,rfl],λm x U g' hx q=>?_,λU g' q=>?_]
  .let#[e5,F5,T5,#[kvs,W,w5,k5,hW],z7,z8,rfl]:=q;let#[r,xc,rfl]:=M1 hx;refine i8 ?_;show MK (k:=k) hT xC hB (e5.at ha) hz (e5.at hc) hr λg6 l e6 ll h6=>?_;rw[pI] at h6;let T6:=T5.at e6;let#[kt,L6,xa,k6,RT,_]:=id T6;let eE:∀s,((∃j,j<i/\Lay F j s)\/s∈Fr.take m)->s<2 ^ (-cs):=λs hs=>by
    rcases hs with⟨j,_,hj⟩|hs
    .exact hj.sO.lt ju
    .exact((rJ s).mp (cj hs)).sO.lt ju
   let hk6:=k6.small hz λs hs=>eE s ((RT s).mp hs);let QV:hJ F r:=((rJ r).mp (aH xc)).sO;show Bt xa rfl () ?_;left;let T7:=T6.put xa h6;let h7:(g6.set (-g) (.dB (putD kt (kN r) (.ref l))))[l]?=!(.lst (b9 (F r))):=d6 h6 (ug h6 xa);let v7:(g6.set (-g) (.dB (putD kt (kN r) (.ref l))))[(-g)]?=!(.dB (putD kt (kN r) (.ref l))):=get_set xa;let e7:Ex g (g6.set (-g) (.dB (putD kt (kN r) (.ref l)))):=Ki (e5.trans e6) (av _);let F7:(g6.set (-g) (.dB (putD kt (kN r) (.ref l))))[fr]?=!.lst (b9 Fr):=d6 (e6.at F5) (ug (e6.at F5) xa);let w7:(g6.set (-g) (.dB (putD kt (kN r) (.ref l))))[wd]?=!.dB kvs:=d6 (e6.at w5) (cy nt);generalize g6.set (-g) (.dB (putD kt (kN r) (.ref l)))=g7 at *;refine v5 (b0 T _) (lT (b0 T _) ?_);show yG v7 rfl Fb ?_;refine#[_,_,rfl,a9 h7,b9 (F r),λq U g'=>Ex g g'/\g'[fr]?=!.lst (b9 Fr)/\g'[l]?=!(.lst (b9 (F r)))/\lQ g' (-g) F (λs=>((∃j,j<i/\Lay F j s)\/s∈Fr.take m)\/s=r)/\(∃kvs W,g'[wd]?=!.dB kvs/\Ky kvs W/\∀s,s∈W↔(∃r∈Fr.take m,∃p∈F r,s=r |||2 ^ p)\/∃p∈(F r).take q,s=r |||2 ^ p)/\∃z8,U=[!.ref a,!.int v,!.ref c,!.ref (-g),!.ref fr,!(.int ((0:Int)+(i:Nat))),!.ref wd,!.int (r:Nat),z8],λw w w q=>o6 (a9 q.2.2.1),#[e7,F7,h7,T7,#[kvs,W,w7,k5,λs=>by simp[hW]],z8,rfl],λq x U g' hx q=>?_,λU g' q=>?_]
   .let#[e8,F8,h8,T8,#[Il,W8,w8,k8,zW],z8,rfl]:=q;let#[p,hp,rfl]:=M1 hx;let ny:=ju r p (aH hp);refine i8 ?_;show P7 (k:=k+2) xC.lK () λg9 e9=>?_;left;let xj:=k8.small hz λs hs=>by
     rcases(zW s).mp hs with⟨r',fu,p',iU,e⟩|⟨p',iU,e⟩
     .rw[e];exact(hJ.step ((rJ r').mp (cj fu)).sO iU).lt ju
     .rw[e];exact(hJ.step QV (cj iU)).lt ju
    let es:((r:Nat):Int)+((2 ^ p:Nat):Int)=((r |||2 ^ p:Nat):Int):=by rw[GO ny.2];omega
    rw[es];refine Bt (e9.at w8) rfl () ?_;let#[W9,k9,RL]:=k8.put (r |||2 ^ p) (.bl true);refine#[Ki (e8.trans e9) lw,d6 (e9.at F8) (ug (e9.at F8) (e9.at w8)),d6 (e9.at h8) (ug (e9.at h8) (e9.at w8)),(T8.at e9).zq (e9.at w8) nt,#[_,W9,get_set (e9.at w8),k9,λs=>?_],_,rfl];rw[RL,zW];constructor
    .rintro((z|⟨p',iU,e⟩)|e)
     .exact .inl z
     .exact .inr #[p',(take1 hp p').mpr (.inl iU),e]
     .exact .inr #[p,(take1 hp p).mpr (.inr rfl),e]
    .rintro(z|⟨p',iU,e⟩)
     .exact .inl (.inl z)
     .rcases(take1 hp p').mp iU with z|rfl
      .exact .inl (.inr #[p',z,e])
      .exact .inr e
   .let#[e8,F8,h8,T8,#[Il,W8,w8,k8,zW],z8,rfl]:=q;refine#[e8,F8,T8.cg λs=>?_,#[Il,W8,w8,k8,λs=>?_],_,_,rfl]
    .rw[take1 xc];exact or_assoc.symm
    .rw[zW,show(F r).take (b9 (F r)).length=F r from bS (by simp[b9])];constructor
     .rintro(⟨r',fu,z⟩|z)
      .exact#[r',(take1 xc r').mpr (.inl fu),z]
      .exact#[r,(take1 xc r).mpr (.inr rfl),z]
     .rintro⟨r',fu,z⟩;rcases(take1 xc r').mp fu with y|rfl
      .exact .inl #[r',y,z]
      .exact .inr z
  .let#[e5,F5,T5,#[kvs,W,w5,k5,hW],z7,z8,rfl]:=q;rw[show Fr.take (b9 Fr).length=Fr from bS (by simp[b9])] at T5 hW;let xj:=k5.small hz λs hs=>by
    let#[r',fu,p',iU,e]:=(hW s).mp hs;rw[e];exact(hJ.step ((rJ r').mp fu).sO iU).lt ju
   show bN3 w5 () ?_;rw[k5.keys];let e6:=Ex.snoc g' (O.lst ((W.map λj:Nat=>(j:Int)).map .int));let h6:=b7 (g:=g') (o:=O.lst ((W.map λj:Nat=>(j:Int)).map .int));refine Vo (a9 h6) (by rw[ak,<- k5.len];omega) ?_;let#[S,s1,s2,s3,s4]:=bK5 k5.2;rw[s1];refine#[(e5.trans e6).trans (Ex.snoc _ _),((T5.at e6).at (Ex.snoc _ _)).cg λs=>?_,_,S,_,_,_,_,b7,(e5.trans e6).len,λs=>?_,rfl]
   .rw[rJ];constructor
    .rintro⟨j,hj,z⟩;by_cases e:j=i
     .subst e;exact .inr z
     .exact .inl #[j,by omega,z]
    .rintro(⟨j,hj,z⟩|z)
     .exact#[j,by omega,z]
     .exact#[i,by omega,z]
   .rw[s3,hW];constructor
    .rintro⟨r',fu,p',iU,e⟩;exact#[r',p',(rJ r').mp fu,iU,e]
    .rintro⟨r',p',fu,iU,e⟩;exact#[r',(rJ r').mpr fu,p',iU,e]
 .let#[e3,T3,fr,Fr,z5,z6,z7,z8,F3,lf,rJ,rfl]:=q;show h _ _ e3 (av _) (T3.cg λs=>#[λz=>?_,λz=>?_])
  .let#[i,hi]:=VJ z;exact#[i,by rw[n4];have:=hi.le ju;omega,hi]
  .let#[j,_,hj]:=z;exact hj.sO
end
def Ob{n:Nat}{F:Nat->@&Nat}(hF:FG n F):∀(m s:Nat),2 ^ n-s<=m->s<2 ^ n->hJ F s->j6 n F s≠[]->hJ F (2 ^ n-1)
 |0,s,hm,hs,_,_=>by omega
 |m+1,s,hm,hs,hr,ho=>by
  by_cases e:s=2 ^ n-1
  .exact e▸hr
  .rw[P8 hF hs e] at ho;let#[o,ho]:=qY _ ho;let#[p,hp,hq]:=iX.mp ho;let#[q,hq,_]:=aP.mp hq;let hb:=hF s p hp;let lt:=P2 hs hb.1;have:s<s |||2 ^ p:=by rw[GO hb.2];have:=fG p;omega
   exact Ob hF m _ () lt (.step hr hp) (Pw hq)
set_option tactic.hygienic true in
def XA{F:Nat->@&Nat}(hF:FG n F){s:Nat}(h:hJ F s):j6 n F s≠[]->j6 n F 0≠[]:=by
 induction h with
 |zero=>exact id
 |step h hp ih =>
  rename_i s p;intro z;refine ih ?_;let hs:=h.lt hF;by_cases e:s=2 ^ n-1
  .rw[K1 e];exact ni _ _
  .rw[P8 hF hs e];let#[o,ho]:=qY _ z;exact Pw (iX.mpr #[p,hp,aP.mpr #[o,ho,rfl]])
def Fc:hJ (j7 cs v rs) (2 ^ (-cs)-1)↔many cs v rs≠0:=by
 let hF:=C8 cs v rs;unfold many;rw[Ne,dg];constructor
 .intro h;refine XA hF h ?_;rw[K1 rfl];exact ni _ _
 .exact Ob hF _ 0 (av _) (fG _) .zero
structure sj(g:G)(lo:Nat)(cs:@&b8)(rs:@&dy)(n:Int)(y:D):Prop where
 ex:∃(f:Nat) (L:@&Nat),y=.ref f/\lo<=f/\g[f]?=!.lst (b9 L)/\L.Pairwise (· < ·)/\(∀s,s∈L↔hJ (j7 cs n rs) s)/\-L<=512
def sj.at{g g':G}{lo:Nat}{cs:@&b8}{rs:@&dy}{n:Int}{y:D}(h:sj g lo cs rs n y)(e:Ex g g'):sj g' lo cs rs n y :=
 let ⟨f,L,h1,h2,h3,h4⟩:=h.ex
 #[#[f,L,h1,h2,e.at h3,h4]]
inductive qS(g:G)(lo:Nat)(cs:@&b8)(v:Int)(rs:@&dy)(r:dy):@&D->Prop
 |first {y:D} (h1:many cs v (rs++[r])≠0) (h2:many cs v (rs++[i0 r])=0) (hp:sj g lo cs (rs++[i0 r]) v y):qS g lo cs v rs r [.str "first",y]
 |later {y:D} (h1:many cs v (rs++[r])=0) (h2:many cs v (rs++[i0 r])≠0) (hp:sj g lo cs (rs++[r]) v y):qS g lo cs v rs r [.str "later",y]
 |either {i j:Nat} {o p:@&Nat} (h1:(j6 (-cs) (j7 cs v (rs++[r])) 0)[0]?=!o) (l1:lo<=i) (g1:g[i]?=!.lst (b9 o)) (h2:(j6 (-cs) (j7 cs v (rs++[i0 r])) 0)[0]?=!p) (l2:lo<=j) (g2:g[j]?=!.lst (b9 p)) (ne:i≠j):qS g lo cs v rs r [.str "either",.ref i,.ref j]
section
variable{T:Nat->Option bj}{d:Nat}{l w:Nat}
def a81(hT:iW T)(nX:T 42=!A5)(pJ:T 98=!E4)(hF:TF T)(hW:TW T)(hN:TN T)(hI:vL T)(ha:g[a]?=!.lst (cs.map b8.d))(hz:-cs<=9)(hg:cs.all A2=true)(hB:∀c∈cs,CB c)(hv:1<=v/\v<=9)(hc:g[c]?=!.lst (c9 rs))(hr:-rs<=800)(hR:rs.all (p9 cs)=true)(nW:p9 cs r=true)(h1:many cs v (rs++[r])=0->many cs v (rs++[i0 r])=0->∀g',Ex g g'->E #["NoOrder"] g')(h2:∀g' l,Ex g g'->qS g' (-g) cs v rs r l->Q (.tup l) g'):c5 T (k+12) 138 [.ref a,.int v,.ref c,.str r.w.s,.int r.x,.int r.y] g Q E:=by
 refine call_of hI.xI rfl ?_;delta S4;show MM (k:=k+4) hT nX pJ ha () hc () (λz=>by omega) (λu z=>by rw[hg] at z;cases z) (λu u z=>absurd hv z) (λu u u z=>by rw[hR] at z;cases z) λu u u u g1 e1=>?_;left;let#[tx,ty,Ci]:=Mn nW;refine MH (k:=k+5) hT hI (e1.at ha) hz tx ty Ci λg2 e2=>?_;let kz:=e1.trans e2;left;let s3:=Ex.snoc g2 (O.lst (c9 [r]));let kj:∀r:dy,c9 rs++c9 [r]=c9 (rs++[r]):=λr=>by simp[c9]
 refine O6 ((Ex.snoc _ _).at (kz.at hc)) b7 (by simp[c9];omega) ?_;rw[show[D.tup [D.str r.w.s,D.int r.x,D.int r.y]]=c9 [r] from rfl,kj];left;let e4:=(Ex.snoc g2 (O.lst (c9 [r]))).trans (Ex.snoc _ (O.lst (c9 (rs++[r]))));let c4:=b7 (g:=g2++[O.lst (c9 [r])]) (o:=O.lst (c9 (rs++[r])));generalize (g2++[O.lst (c9 [r])])++[O.lst (c9 (rs++[r]))]=g4 at *;let tT:=kz.trans e4;refine S0 (k:=k+2) hT (tT.at ha) hz hg hB c4 (by simp;omega) λg5 e5 B5=>?_;let rV:=tT.trans e5;generalize (-g4)=b1 at *;show O6 ((Ex.snoc _ _).at (rV.at hc)) b7 (by simp[c9];omega) ?_;rw[show[D.tup [D.str r.w.s,D.int r.y,D.int r.x]]=c9 [i0 r] from rfl,kj];left;let e6:=(Ex.snoc g5 (O.lst (c9 [i0 r]))).trans (Ex.snoc _ (O.lst (c9 (rs++[i0 r]))));let c6:=b7 (g:=g5++[O.lst (c9 [i0 r])]) (o:=O.lst (c9 (rs++[i0 r])));generalize (g5++[O.lst (c9 [i0 r])])++[O.lst (c9 (rs++[i0 r]))]=g6 at *;let xT:=rV.trans e6;refine S0 (k:=k+2) hT (xT.at ha) hz hg hB c6 (by simp;omega) λg7 e7 B7=>?_;let xS:=xT.trans e7;let yW:=B5.at (e6.trans e7);generalize (-g6)=b2 at *;left;let rp:(rs++[r]).length<=900:=by simp;omega
 let pZ:(rs++[i0 r]).length<=900:=by simp;omega
 let mz:∀{rs:@&dy},j6 (-cs) (j7 cs v rs) 0=[]↔many cs v rs=0:=λ{rs}=>by unfold many;exact dg.symm
 let nz:∀{rs:@&dy} {o:@&Nat},(j6 (-cs) (j7 cs v rs) 0)[0]?=!o->many cs v rs≠0:=λ{rs o} h z=>by rw[mz.mpr z] at h;cases h
 let nR:∀{rs:@&dy},many cs v rs=0->¬hJ (j7 cs v rs) (2 ^ (-cs)-1):=λz y=>Fc.mp y z;let rest:∀(N:Ends) (E:KX) (x y:D) g8,Ex g7 g8->((many cs v (rs++[r])=0/\x=.bK)\/(∃i o,x=.ref i/\-g7<=i/\(j6 (-cs) (j7 cs v (rs++[r])) 0)[0]?=!o/\g8[i]?=!.lst (b9 o)/\x≠y))->((many cs v (rs++[i0 r])=0/\y=.bK)\/(∃i o,y=.ref i/\-g7<=i/\(j6 (-cs) (j7 cs v (rs++[i0 r])) 0)[0]?=!o/\g8[i]?=!.lst (b9 o)))->(many cs v (rs++[r])=0->many cs v (rs++[i0 r])=0->∀g',Ex g g'->E #["NoOrder"] g')->(∀g' l,Ex g g'->qS g' (-g) cs v rs r l->N.rt (.tup l) g')->wpS (c5 T (k+11)) (match S4.body with|.seq _ (.seq _ (.seq _ (.seq _ (.seq _ (.seq _ b)))))=>b|x=>x) N [!.ref a,!.int v,!.ref c,!.str r.w.s,!.int r.x,!.int r.y,!.ref b1,!.ref b2,!x,!y] g8 E:=by
  intro N E x y g8 e8 hx hy h1 h2;let qx:=xS.trans e8;dsimp[S4];let lC:∀{b mr} {Q:KD} {E:KX} {g8:G},Ex g g8->Bd g8 b cs v mr->-mr<=900->many cs v mr=0->(∀g' x,Ex g g'->sj g' (-g) cs mr v x->Q x g')->c5 T (k+11) 129 [.ref b] g8 Q E:=λe8 B hl m0 hN =>
   MP (k:=k+4) hT hF hW.oQ hI.qo B hz hl λL l g9 e9 q0 q1 q2 q3 q4=>#[λz=>absurd z (nR m0),λu=>hN _ _ (e8.trans e9) #[l,L,rfl,aD e8.len q0,q1,q2,q3,q4]]
  rcases hx with⟨z1,rfl⟩|⟨i1,o1,rfl,l1,w1,y1,ne⟩
  .rcases hy with⟨z2,rfl⟩|⟨i2,o2,rfl,l2,w2,y2⟩
   .left;exact h1 z1 z2 _ qx
   .show lC qx (yW.at e8) rp z1 λg' x e' P=>?_;left;exact h2 _ _ e' (.later z1 (nz w2) P)
  .rcases hy with⟨z2,rfl⟩|⟨i2,o2,rfl,l2,w2,y2⟩
   .show lC qx (B7.at e8) pZ z2 λg' x e' P=>?_;left;exact h2 _ _ e' (.first (nz w1) z2 P)
   .left;exact h2 _ _ qx (.either w1 (aD xS.len l1) y1 w2 (aD xS.len l2) y2 λz=>ne (by rw[z]))
 refine B4 (k:=k+3) hT hF hW hN hI.lL yW hz rp (λho g8 e8=>?_) (λo i g8 ho e8 li hi=>?_)
 .show B4 (k:=k+3) hT hF hW hN hI.lL (B7.at e8) hz pZ (λki g9 e9=>?_) (λo2 i2 g9 ki e9 Co xp=>?_)
  .exact rest _ _ _ _ g9 (e8.trans e9) (.inl #[mz.mp ho,rfl]) (.inl #[mz.mp ki,rfl]) h1 h2
  .exact rest _ _ _ _ g9 (e8.trans e9) (.inl #[mz.mp ho,rfl]) (.inr #[i2,o2,rfl,aD e8.len Co,ki,xp]) h1 h2
 .show B4 (k:=k+3) hT hF hW hN hI.lL (B7.at e8) hz pZ (λki g9 e9=>?_) (λo2 i2 g9 ki e9 Co xp=>?_)
  .exact rest _ _ _ _ g9 (e8.trans e9) (.inr #[i,o,rfl,li,ho,e9.at hi,λz=>by cases z]) (.inl #[mz.mp ki,rfl]) h1 h2
  .exact rest _ _ _ _ g9 (e8.trans e9) (.inr #[i,o,rfl,li,ho,e9.at hi,λz=>by cases z;have:=m8 hi;omega]) (.inr #[i2,o2,rfl,aD e8.len Co,ki,xp]) h1 h2
end
abbrev FZ:bj:=#[1,1,(.seq (.ret (.dZ (bR .isin aK (.lit (.ty "list"))) (dh .all (.comp [] 2 (.one 1) (.fE aK) .no (.call 6 (ff bq)))))) .pass)]
abbrev EX:bj:=#[4,8,(.seq (.set 4 (bR (.bin .Sub) (.call 147 (ff (dh .len aK))) (bo 1))) (.seq (.ifs (.jL (.eK (.fR (.call 86 (ff bz)))) (.jL (dW .NotEq bz (dh .sset bz)) (dW .NotIn (bo 0) bz))) (.seq (.ret (.lit (.bl false))) .pass) .pass) (.seq (.ifs (.eK (.fR (dh .all (.comp [4] 3 (.one 2) (.fE bz) .no (.chain .LtE .Lt (bo 0) bw aK))))) (.seq (.ret (.lit (.bl false))) .pass) .pass) (.seq (.set 6 (dh .lO (.comp [] 2 (.one 1) (.fE bz) .no (bR .tup bq (.lit (.bl true)))))) (.seq (.dX (.one 5) (.fE bz) (.seq (.dX (.one 7) (.fE (.call 148 (mL aK bq bw dU))) (.seq (.ifs (dW .NotIn (bR (.bin .Add) dU (.call 147 (ff gI))) eL) (.seq (.ret (.lit (.bl false))) .pass) .pass) .pass)) .pass)) (.seq (.ret (.lit (.bl true))) .pass))))))]
abbrev FF:bj:=#[4,4,(.seq (.ret (.dZ (.call 86 (ff aK)) (bR (.cmp .Is) (.call 109 (mL bq bw bz aK)) (.lit .bK)))) .pass)]
abbrev GG:bj:=#[4,4,(.seq (.qP (.seq (.ret (.call 138 (xK aK bq bw (cN bz (bo 0)) (cN bz (bo 1)) (cN bz (bo 2))))) .pass) [("NoOrder",(.lit .bK))]) .pass)]
abbrev GJ:bj:=#[5,7,(.seq (.set 5 (.prim .tup (gS (cN cF (bo 0)) (cN cF (bo 2)) (cN cF (bo 1))))) (.seq (.ifs (.jL (.eK (.fR (bR .isin aK (.lit (.ty "tuple"))))) (dW .Lt (dh .len aK) (bo 2))) (.seq (.ret (.lit (.bl false))) .pass) .pass) (.seq (.ifs (.dZ (dW .Eq (cN aK (bo 0)) (gA "either")) (dW .Eq (dh .len aK) (bo 3))) (.seq (.ifs (.eK (.fR (.call 151 (mL (cN aK (bo 1)) bq bw (bR (.bin .Add) bz (dh .lst cF)))))) (.seq (.ret (.lit (.bl false))) .pass) .pass) (.seq (.ret (.call 151 (mL (cN aK (bo 2)) bq bw (bR (.bin .Add) bz (dh .lst dU))))) .pass)) .pass) (.seq (.ifs (.jL (dW .NotEq (dh .len aK) (bo 2)) (dW .NotIn (cN aK (bo 0)) (bR .lst (gA "first") (gA "later")))) (.seq (.ret (.lit (.bl false))) .pass) .pass) (.seq (.set 6 (.ite (dW .Eq (cN aK (bo 0)) (gA "first")) dU cF)) (.seq (.ifs (.eK (.fR (.call 158 (mL bq bw (bR (.bin .Add) bz (dh .lst eL)) (cN aK (bo 1)))))) (.seq (.ret (.lit (.bl false))) .pass) .pass) (.seq (.ret (bR (.cmp .In) (bR (.bin .Sub) (.call 147 (ff (dh .len bq))) (bo 1)) (.call 149 (gS bq bw bz)))) .pass)))))))]
abbrev Eu:bj:=#[1,10,(.seq (.set 1 (.call 3 (ff aK))) (.seq (.dX (.one 2) (.eY (bo 2)) (.seq (.nj (.many [3,4,5]) (.call 110 (eM bq (cN (bR .tup (bo 9) (bo 5)) bw)))) (.seq (.set 6 (.call 105 (eM bq bz))) (.seq (.dX (.one 7) (.eY (bR (.bin .Mult) (bo 2) (dh .int (bR (.cmp .IsNot) eL (.lit .bK))))) (.seq (.set 8 (.call 30 (mL (dh .list bz) cF (dh .list dU) eL))) (.seq (.ifs (dW .Is jc (.lit .bK)) (.seq (.ifs (dW .In (bR (.bin .Sub) (.call 147 (ff (dh .len bz))) (bo 1)) (.call 149 (gS bz cF dU))) (.seq (.ret (.lit (.bl false))) .pass) .pass) .pass) (.seq (.ifs (.eK (.fR (.call 165 (sE jc bz cF dU eL)))) (.seq (.ret (.lit (.bl false))) .pass) .pass) (.seq (.ifs (.eK (.fR (.call 7 (eM (.call 139 (xK bz cF dU (cN eL (bo 0)) (cN eL (bo 1)) (cN eL (bo 2)))) (cN jc (bo 0)))))) (.seq (.ret (.lit (.bl false))) .pass) .pass) (.seq (.dX (.one 9) (.fE (bR (.nP true false) jc (bo 1))) (.seq (.expr (.fo .clear qa .nil)) .pass)) .pass)))) .pass))) .pass)))) (.seq (.ret (.lit (.bl true))) .pass)))]
structure uo(T:Nat->Option bj):Prop where
 tb:iW T
 nX:T 42=!A5
 pJ:T 98=!E4
 lq:uk T
 tf:TF T
 pU:Hd T
 tw:TW T
 tn:TN T
 ti:vL T
 h3:T 3=!Bs
 h6:T 6=!yH
 h7:T 7=!J7
 Su:T 11=!Eu
 Sn:T 30=!GG
 Sj:T 86=!FZ
 tP:T 109=!Y6
 oP:T 149=!Au
 Dw:T 151=!FF
 Dv:T 158=!EX
 Du:T 165=!GJ
def aL9(h:L.Pairwise (· < ·)):u7 (L.map λj:Nat=>(j:Int))=L.map λj:Nat=>(j:Int):=by
 refine Y1 ((N6 _).trans ?_) (Mf _) (fW.mpr (h.imp λz=>by omega));rw[Mz (ks:=[]) (by rw[jw];exact fW.mpr (h.imp λz e=>by omega))];exact jW _
section
variable{T:Nat->Option bj}{d:Nat}{l r w:Nat}
def WI(ha:g[a]?=!.lst (ns.map .int))(hb:g[b]?=!.lst (ns.map .int))(h:kb true):tS g (.ref a) (.ref b) kb:=by
 let rr:∀{x},g[x]?=!.lst (ns.map .int)->rd g 6 (.ref x)=!.list (ns.map PyData.int):=λhx=>by
  simp only[rd];rw[a9 hx];dsimp only;rw[M6]
  rfl
 refine#[_,.inr (.inr (.inr #[_,_,rr ha,rr hb,?_,?_,rfl])),?_]
 .simp only[PyData.canLay0];exact lay_ints ns
 .simp only[PyData.canLay0];exact lay_ints ns
 .simp only[PyData.eqv];rw[WJ];exact h
def NZ(hT:uo T)(hl:g[l]?=!.lst (b9 L))(hz:-L<=1000)(h:∀g',Ex g g'->Q (.bl true) g'):c5 T (k+2) 86 [.ref l] g Q E:=by
 refine call_of hT.Sj rfl ?_;delta FZ;show gX (c:="list") (b:=true) ∅ (show(match g[l]? with|some (.lst _)=>!("list"=="list")|_=>none)=some true by rw[hl];rfl) ?_;show comp_map (b0 T _) (λU=>∃z0 z1,U=[z0,z1]) (λy=>.bl true) (l:=b9 L) (k:=.lst l) (λg' e=>o6 (a9 (e.at hl))) (by simpa[b9] using hz) #[none,none,rfl] (λi x U g' hx e sh=>?_) (λg' e=>?_) (O2 (b0 T _) (a9 hl) λQ q=>w_var (d:=.ref l) rfl q)
 .let#[z0,z1,rfl]:=sh;let#[j,_,rfl]:=M1 hx;refine i8 ?_
  try show bt _ _ _ _ _ _
  left;exact GN hT.h6 #[rfl,e,_,_,rfl]
 .refine ye (v:=true) (a9 b7) ?_ (h _ (e.trans (Ex.snoc _ _)));rw[show(List.range (b9 L).length).map (λy=>D.bl true)=(List.replicate (b9 L).length true).map D.bl by rw[List.map_const',fX,Px],T1];simp
def aU2(hT:uo T)(hB:∀c∈cs,CB c)(ha:g[a]?=!.lst (cs.map b8.d))(hz:-cs<=9)(hc:g[c]?=!.lst (c9 rs))(hr:-rs<=900)(hl:g[l]?=!.lst (b9 L))(hL:-L<=512)(pw:L.Pairwise (· < ·))(h0:0∈L)(eE:∀s∈L,s<2 ^ (-cs)-1)(cl:∀s∈L,∀p∈j7 cs v rs s,s+2 ^ p∈L)(h:∀g',Ex g g'->Q (.bl true) g'):c5 T (k+5) 158 [.ref a,.int v,.ref c,.ref l] g Q E:=by
 let li:(b9 L).length=-L:=by simp[b9]
 refine call_of hT.Dv rfl ?_;delta EX;left;rw[ak];refine P7 (k:=k+3) hT.pU.lK hz λg1 e1=>?_;show NZ (k:=k+2) hT (e1.at hl) () λg2 e2=>?_;let kz:=e1.trans e2;left;let oI:=kz.at hl;rw[Q4] at oI;refine OP (a9 oI) (by simp;omega) ?_;rw[aL9 pw];let x3:=Ex.snoc g2 (O.lst ((L.map λj:Nat=>(j:Int)).map .int));let s3:=b7 (g:=g2) (o:=O.lst ((L.map λj:Nat=>(j:Int)).map .int));let IQ:=x3.at oI;let JK:=kz.trans x3;generalize g2++[O.lst ((L.map λj:Nat=>(j:Int)).map .int)]=g3 at *;show yF (WI IQ s3 ?_);show O4 (AG (i:=0) (by rw[Q4];exact IQ) ?_);rw[az h0];left;let IP:g3[l]?=!.lst (b9 L):=JK.at hl;refine comp_map (b0 T _) (λU=>∃z1 z2,U=[!(.int (((2 ^ (-cs):Nat):Int)-1)),z1,z2]) (λy=>.bl true) (l:=b9 L) (k:=.lst l) (λg' e=>o6 (a9 (e.at IP))) () #[none,none,rfl] (λi x U g' hx e sh=>?_) (λg4 e4=>?_) (O2 (b0 T _) (a9 IP) λQ q=>w_var (d:=.ref l) rfl q)
 .let#[z1,z2,rfl]:=sh;let#[j,hj,rfl]:=M1 hx;have:=eE j (aH hj);refine i8 ?_
  try show bt _ _ _ _ _ _
  show gY (az ()) ?_;left;exact#[by rw[az ()],e,_,_,rfl]
 refine ye (v:=true) (a9 b7) (by rw[show(List.range (b9 L).length).map (λy=>D.bl true)=(List.replicate (b9 L).length true).map D.bl by rw[List.map_const',fX,Px],T1];simp) ?_;let e5:=JK.trans (e4.trans (Ex.snoc g4 (O.lst ((List.range (b9 L).length).map λy=>D.bl true))));generalize g4++[O.lst ((List.range (b9 L).length).map λy=>D.bl true)]=g5 at *;left;let zJ:=e5.at hl;refine comp_map (b0 T _) (λU=>∃z0 z1,U=[z0,z1]) (λi=>.tup [.int ((L.getD i 0:Nat):Int),.bl true]) (l:=b9 L) (k:=.lst l) (λg' e=>o6 (a9 (e.at zJ))) () #[none,none,rfl] (λi x U g' hx e sh=>?_) (λg6 e6=>?_) (O2 (b0 T _) (a9 zJ) λQ q=>w_var (d:=.ref l) rfl q)
 .let#[z0,z1,rfl]:=sh;let#[j,hj,rfl]:=M1 hx;refine i8 ?_
  try show bt _ _ _ _ _ _
  left;exact#[by simp[List.getD,hj],e,_,_,rfl]
 let el:(List.range (b9 L).length).map (λi=>D.tup [.int ((L.getD i 0:Nat):Int),.bl true])=(L.map λj:Nat=>(j:Int)).map λk=>.tup [.int k,.bl true]:=by
  rw[bB,li];refine bV λi=>?_;rw[ai,ai];by_cases hi:i< -L
  .rw[cB hi,ag hi];simp[List.getD,hi]
  .rw[aT (by simpa using hi),aT ()]
   rfl
 rw[el];refine Vm (a9 b7) (by simp;omega) (fW.mpr (pw.imp λz e=>by omega)) ?_;let e7:=e5.trans (e6.trans ((Ex.snoc g6 (O.lst ((L.map λj:Nat=>(j:Int)).map λk=>.tup [.int k,.bl true]))).trans (Ex.snoc _ (O.dB ((L.map λj:Nat=>(j:Int)).map λk=>(.inl k,.bl true))))));let d7:=b7 (g:=g6++[O.lst ((L.map λj:Nat=>(j:Int)).map λk=>.tup [.int k,.bl true])]) (o:=O.dB ((L.map λj:Nat=>(j:Int)).map λk=>(.inl k,.bl true)));generalize (g6++[O.lst ((L.map λj:Nat=>(j:Int)).map λk=>.tup [.int k,.bl true])]).length=dd at *;generalize (g6++[O.lst ((L.map λj:Nat=>(j:Int)).map λk=>.tup [.int k,.bl true])])++[O.dB ((L.map λj:Nat=>(j:Int)).map λk=>(.inl k,.bl true))]=g7 at *;let inD:∀s,s∈L->(u5 ((L.map λj:Nat=>(j:Int)).map λk=>((.inl k:Key),D.bl true)) (.inl (s:Nat))).isSome=true:=λs hs=>by
  unfold u5;rw[fT,List.find?_isSome];exact#[(.inl ((s:Nat):Int),.bl true),aP.mpr #[_,aP.mpr #[s,hs,rfl],rfl],az rfl]
 left;let zI:=e7.at hl;refine v5 (b0 T _) (lT (b0 T _) ?_);show#[l,_,rfl,a9 zI,b9 L,λi U g'=>Ex g7 g'/\∃z5 z7,U=[!.ref a,!.int v,!.ref c,!.ref l,!(.int (((2 ^ (-cs):Nat):Int)-1)),z5,!.ref dd,z7],λi U g' q=>o6 (a9 (q.1.at zI)),#[Ex.refl _,_,_,rfl],λi x U g8 hx q=>?_,λU g8 q=>?_]
 .let#[e8,z5,z7,rfl]:=q;let#[s,hs,rfl]:=M1 hx;let QU:=aH hs;refine i8 ?_
  try show wpS _ _ _ _ _ _
  show v5 (b0 T _) (lT (b0 T _) ?_);left;let JJ:=e7.trans e8;refine MK (k:=k+1) hT.lq hT.pU hB (JJ.at ha) hz (JJ.at hc) hr λg9 f e9 hf9 h9=>?_;refine#[f,_,rfl,a9 h9,b9 (j7 cs v rs s),λj U g'=>Ex g9 g'/\∃z7,U=[!.ref a,!.int v,!.ref c,!.ref l,!(.int (((2 ^ (-cs):Nat):Int)-1)),!.int (s:Nat),!.ref dd,z7],λj U g' q=>o6 (a9 (q.1.at h9)),#[Ex.refl _,_,rfl],λj x U va hx q=>?_,λU va q=>?_]
  .let#[lN,z7,rfl]:=q;let#[p,hp,rfl]:=M1 hx;let ny:=aH hp;let hp9:=(C8 cs v rs s p ny).1;refine i8 ?_
   try show wpS _ _ _ _ _ _
   show P7 (k:=k+3) hT.pU.lK () λAc qy=>?_;left;rw[show((s:Nat):Int)+((2 ^ p:Nat):Int)=((s+2 ^ p:Nat):Int) by omega];refine O4 #[_,.inl #[_,_,_,rfl,((e8.trans e9).trans (lN.trans qy)).at d7,rfl,rfl],?_];rw[inD _ (cl s QU p ny)];left;exact#[lN.trans qy,_,rfl]
  .let#[lN,z7,rfl]:=q
   try show wpS _ _ _ _ _ _
   exact#[e8.trans (e9.trans lN),_,_,rfl]
 .let#[e8,z5,z7,rfl]:=q
  try show wpS _ _ _ _ _ _
  left;exact h _ (e7.trans e8)
def OL(hT:uo T)(hB:∀c∈cs,CB c)(ha:g[a]?=!.lst (cs.map b8.d))(hz:-cs<=9)(hc:g[c]?=!.lst (c9 rs))(hr:-rs<=900){o:@&Nat}(ho:yQ cs v rs o)(hl:g[l]?=!.lst (b9 o))(h:∀g',Ex g g'->Q (.bl true) g'):c5 T (k+4) 151 [.ref l,.ref a,.int v,.ref c] g Q E:=by
 let hn:=ho.len;refine call_of hT.Dw rfl ?_;delta FF;show NZ (k:=k+1) hT hl () λg1 e1=>?_;left;let l1:=e1.at hl;rw[Q4] at l1;refine aG6 (k:=k) hT.lq hT.tP hB (e1.at ha) hz (e1.at hc) hr l1 λg2 e2=>?_;rw[ho.none];left;exact h _ (e1.trans e2)
def OM{x:Str}(ha:g[a]?=!.lst [.str "first",.str "later"])(hx:PyData.strOk x=true)(h:kb (decide (x="first")||decide (x="later"))):rA g (.str x) (.ref a) kb:=by
 refine#[_,.inr #[_,[.str "first",.str "later"],.str x,a9 ha,rfl,rfl,by simp only[PyData.canLayAll0,PyData.canLay0,Bool.and_true];decide +kernel,by simp only[PyData.canLay0];exact hx,rfl],?_];let e:∀y:Str,PyData.eqv (.str y) (.str x)=decide (x=y):=λy=>by
  simp only[PyData.eqv];rw[aW,bx,cX];exact eq_comm
 simp only[List.any_cons,List.any_nil,Bool.or_false,e];exact h
def Ff(h:lQ g t (j7 cs v rs) (hJ (j7 cs v rs))):∃kvs,g[t]?=!.dB kvs/\(u5 kvs (.inl (((2 ^ (-cs):Nat):Int)-1))).isSome=decide (many cs v rs≠0):=by
 let pos:=fG (-cs);let#[kvs,M,t4,k4,hM,_]:=h;refine#[kvs,t4,?_];rw[show((2 ^ (-cs):Nat):Int)-1=((2 ^ (-cs)-1:Nat):Int) by omega];have:(u5 kvs (kN (2 ^ (-cs)-1))).isSome=true↔kN (2 ^ (-cs)-1)∈kvs.map (·.1):=by
  unfold u5;rw[fT,List.find?_isSome];simp only[List.mem_map,decide_eq_true_eq]
 rw[aW,this,cX,<- Fc,k4.1,<- hM];constructor
 .intro z;let#[j,hj,e]:=aP.mp z;have:(j:Int)=((2 ^ (-cs)-1:Nat):Int):=nK e;rw[<- show j=2 ^ (-cs)-1 by omega];exact hj
 .exact λz=>aP.mpr #[_,z,rfl]
def Kr(hT:uo T)(hB:∀c∈cs,CB c)(ha:g[a]?=!.lst (cs.map b8.d))(hz:-cs<=9)(hc:g[c]?=!.lst (c9 rs))(hr:-rs<=900){y:D}(hm:many cs v rs=0)(hy:sj g lo cs rs v y)(h:∀g',Ex g g'->Q (.bl true) g'):c5 T (k+5) 158 [.ref a,.int v,.ref c,y] g Q E:=by
 let#[f,L,rfl,_,p2,p3,p4,p5]:=hy.ex;let ju:=C8 cs v rs;refine aU2 (k:=k) hT hB ha hz hc hr p2 p5 p3 ((p4 0).mpr .zero) (λs hs=>?_) (λs hs p hp=>?_) h
 .let jt:=(p4 s).mp hs;have:=jt.lt ju;let ne:s≠2 ^ (-cs)-1:=λz=>Fc.mp (z▸jt) hm;omega
 .rw[<- GO (ju s p hp).2];exact(p4 _).mpr (.step ((p4 s).mp hs) hp)
def aT1(hT:uo T)(hB:∀c∈cs,CB c)(ha:g[a]?=!.lst (cs.map b8.d))(hz:-cs<=9)(hc:g[c]?=!.lst (c9 rs))(hr:-rs<=800){q:dy}{ws:@&D}(hq:p9 cs q=true)(W:qS g lo cs v rs q ws)(h:∀g',Ex g g'->Q (.bl true) g'):c5 T (k+7) 165 [.tup ws,.ref a,.int v,.ref c,q.d] g Q E:=by
 let kj:∀q:dy,c9 rs++c9 [q]=c9 (rs++[q]):=λq=>by simp[c9]
 let hp:=Lo (cs:=cs) (v:=v) (rs:=rs) hq;let lr:∀q:dy,(rs++[q]).length<=900:=λq=>by simp;omega
 let nz:∀{rs:@&dy} {o:@&Nat},(j6 (-cs) (j7 cs v rs) 0)[0]?=!o->yQ cs v rs o:=λh=>WX.mp (aH h);change c5 T (k+7) 165 [.tup ws,.ref a,.int v,.ref c,.tup [.str q.w.s,.int q.x,.int q.y]] g Q E;refine call_of hT.Du rfl ?_;delta GJ;show gX (c:="tuple") (b:=true) ∅ rfl ?_;cases W with
 |either h1 l1 g1 h2 l2 g2 ne =>
  left
  try refine fq #[_] ?_
  left
  try refine gY ∅ ?_
  left
  try refine gY #[_] ?_
  show O6 ((Ex.snoc _ _).at hc) b7 (by simp[c9];omega) ?_;rw[show[D.tup [D.str q.w.s,D.int q.x,D.int q.y]]=c9 [q] from rfl,kj];let e4:=(Ex.snoc g (O.lst (c9 [q]))).trans (Ex.snoc _ (O.lst (c9 (rs++[q]))));let c4:=b7 (g:=g++[O.lst (c9 [q])]) (o:=O.lst (c9 (rs++[q])));generalize (g++[O.lst (c9 [q])])++[O.lst (c9 (rs++[q]))]=g4 at *;show OL (k:=k+2) hT hB (e4.at ha) hz c4 (lr q) (nz h1) (e4.at g1) λg5 e5=>?_;left;let rT:=e4.trans e5;refine O6 ((Ex.snoc _ _).at (rT.at hc)) b7 (by simp[c9];omega) ?_;rw[show[D.tup [D.str q.w.s,D.int q.y,D.int q.x]]=c9 [i0 q] from rfl,kj];let e6:=(Ex.snoc g5 (O.lst (c9 [i0 q]))).trans (Ex.snoc _ (O.lst (c9 (rs++[i0 q]))));let c6:=b7 (g:=g5++[O.lst (c9 [i0 q])]) (o:=O.lst (c9 (rs++[i0 q])));generalize (g5++[O.lst (c9 [i0 q])])++[O.lst (c9 (rs++[i0 q]))]=g6 at *;let oV:=rT.trans e6;show OL (k:=k+2) hT hB (oV.at ha) hz c6 (lr _) (nz h2) (oV.at g2) λg7 e7=>?_;left;exact h _ (oV.trans e7)
 |first m1 m2 P =>
  let hm:many cs v rs≠0:=by omega
  left
  try refine fq #[_] ?_
  left
  try refine fq ∅ ?_
  left
  try refine fq #[_] ?_
  left;let x1:=Ex.snoc g (O.lst [D.str "first",D.str "later"]);refine O4 (OM b7 #[] ?_);generalize g++[_]=g1 at *;left
  try refine fq ∅ ?_
  left
  try refine gY ∅ ?_
  show O6 ((Ex.snoc _ _).at (x1.at hc)) b7 (by simp[c9];omega) ?_;rw[show[D.tup [D.str q.w.s,D.int q.y,D.int q.x]]=c9 [i0 q] from rfl,kj];let e4:=x1.trans ((Ex.snoc g1 (O.lst (c9 [i0 q]))).trans (Ex.snoc _ (O.lst (c9 (rs++[i0 q])))));let c4:=b7 (g:=g1++[O.lst (c9 [i0 q])]) (o:=O.lst (c9 (rs++[i0 q])));generalize (g1++[O.lst (c9 [i0 q])])++[O.lst (c9 (rs++[i0 q]))]=g4 at *;show Kr (k:=k+1) hT hB (e4.at ha) hz c4 (lr _) m2 (P.at e4) λg5 e5=>?_;let rT:=e4.trans e5;show E1 (a9 (rT.at ha)) ?_;left;rw[ak];refine P7 (k:=k+5) hT.pU.lK hz λg6 e6=>?_;left;let oV:=rT.trans e6;refine Fg (k:=k+2) hT.lq hT.pU hT.oP hB (oV.at ha) hz (oV.at hc) () λg7 t e7 z T7=>?_;let#[kvs,t7,hv]:=Ff T7;show qH #[_,.inl #[_,_,_,rfl,t7,rfl,rfl],?_];rw[hv,az hm]
  try left
  exact h _ (oV.trans e7)
 |later m1 m2 P =>
  let hm:many cs v rs≠0:=by omega
  left
  try refine fq #[_] ?_
  left
  try refine fq ∅ ?_
  left
  try refine fq #[_] ?_
  left;let x1:=Ex.snoc g (O.lst [D.str "first",D.str "later"]);refine O4 (OM b7 #[] ?_);generalize g++[_]=g1 at *;left
  try refine fq ∅ ?_
  left
  try refine fq ∅ ?_
  show O6 ((Ex.snoc _ _).at (x1.at hc)) b7 (by simp[c9];omega) ?_;rw[show[D.tup [D.str q.w.s,D.int q.x,D.int q.y]]=c9 [q] from rfl,kj];let e4:=x1.trans ((Ex.snoc g1 (O.lst (c9 [q]))).trans (Ex.snoc _ (O.lst (c9 (rs++[q])))));let c4:=b7 (g:=g1++[O.lst (c9 [q])]) (o:=O.lst (c9 (rs++[q])));generalize (g1++[O.lst (c9 [q])])++[O.lst (c9 (rs++[q]))]=g4 at *;show Kr (k:=k+1) hT hB (e4.at ha) hz c4 (lr _) m1 (P.at e4) λg5 e5=>?_;let rT:=e4.trans e5;show E1 (a9 (rT.at ha)) ?_;left;rw[ak];refine P7 (k:=k+5) hT.pU.lK hz λg6 e6=>?_;left;let oV:=rT.trans e6;refine Fg (k:=k+2) hT.lq hT.pU hT.oP hB (oV.at ha) hz (oV.at hc) () λg7 t e7 z T7=>?_;let#[kvs,t7,hv]:=Ff T7;show qH #[_,.inl #[_,_,_,rfl,t7,rfl,rfl],?_];rw[hv,az hm]
  try left
  exact h _ (oV.trans e7)
def aY5(hT:uo T){q:dy}(ha:g[a]?=!.lst (cs.map b8.d))(hz:-cs<=9)(hg:cs.all A2=true)(hB:∀c∈cs,CB c)(hv:1<=v/\v<=9)(hc:g[c]?=!.lst (c9 rs))(hr:-rs<=800)(hR:rs.all (p9 cs)=true)(hq:p9 cs q=true)(h1:many cs v rs=0->∀g',Ex g g'->Q .bK g')(h2:∀g' l,Ex g g'->qS g' (-g) cs v rs q l->Q (.tup l) g'):c5 T (k+13) 30 [.ref a,.int v,.ref c,q.d] g Q E:=by
 change c5 T (k+13) 30 [.ref a,.int v,.ref c,.tup [.str q.w.s,.int q.x,.int q.y]] g Q E;refine call_of hT.Sn rfl ?_;delta GG;show a81 (k:=k) hT.tb hT.nX hT.pJ hT.tf hT.tw hT.tn hT.ti ha hz hg hB hv hc hr hR hq (λm1 m2 g' e'=>?_) (λg' l e' W=>?_)
 .try left
  try refine ZL rfl ?_
  left;exact h1 (by have:=Lo (cs:=cs) (v:=v) (rs:=rs) hq;omega) _ e'
 .try left
  exact h2 _ _ e' W
def qS.sh{q:dy}{ws:@&D}(W:qS g lo cs v rs q ws):∃ys,ws=.str (Q8 (many cs v (rs++[q])) (many cs v (rs++[i0 q])))::ys/\∀y∈ys,∃f l,y=.ref f/\lo<=f/\g[f]?=!.lst l:=by
 let nz:∀{rs:@&dy} {o:@&Nat},(j6 (-cs) (j7 cs v rs) 0)[0]?=!o->many cs v rs≠0:=λ{rs o} h z=>by
  unfold many at z;rw[dg] at z;rw[z] at h;cases h
 let pp:∀{mr y},sj g lo cs mr v y->∀z∈[y],∃f l,z=.ref f/\lo<=f/\g[f]?=!.lst l:=λP z hz=>by
  let#[f,L,rfl,p1,p2,_]:=P.ex;cases aQ.mp hz;exact#[_,_,rfl,p1,p2]
 unfold Q8;cases W with
 |first h1 h2 P=>exact#[_,by rw[aI h2],pp P]
 |later h1 h2 P=>exact#[_,by rw[aE h2,aI h1],pp P]
 |either h1 l1 g1 h2 l2 g2 ne =>
  refine#[_,by rw[aE (nz h2),aE (nz h1)],λy hy=>?_];rcases aL.mp hy with rfl|hy
  .exact#[_,_,rfl,l1,g1]
  .cases aQ.mp hy;exact#[_,_,rfl,l2,g2]
def WT(hT:uo T):c5 T (k+15) 11 [.ref 0] [.qp (ns.map .int)] (λd u=>d=.bl true) km:=by
 refine call_of hT.Su rfl ?_;delta Eu;show Vl (k:=k+13) hT.h3 (a:=0) (ns:=ns) rfl λd g D0 u u=>?_;show aZ7 (n:=2) ∅ (λi U g=>m9 g d/\∃z2 z3 z4 z5 z6 z7 z8 z9,U=[!.ref 0,!.ref d,z2,z3,z4,z5,z6,z7,z8,z9]) #[D0,none,none,none,none,none,none,none,none,rfl] (λi U g hi p=>?_) (λU g p=>?_)
 .let#[D1,z2,z3,z4,z5,z6,z7,z8,z9,rfl]:=p;let dl:=D1.lt
  try show wpS _ _ _ _ _ _
  left;let hn:∃n:Int,gP [D.int 9,D.int 5] (i:Int)=!.int n/\0<=n/\n<=9:=by
   have:i=0\/i=1:=by omega
   rcases this with rfl|rfl
   .exact#[9,rfl,by decide,by decide]
   .exact#[5,rfl,by decide,by decide]
  let#[n,hn,n1,n2]:=hn;refine x6 hn ?_;show XB (k:=k+9) hT.lq.toTBR hT.lq.tO #[n1,n2] D1 λcs rs a c v g2 hl hG ha zT hr hR hc kT hac v1 v2 D2 G2=>?_;refine C5 rfl ?_
  try show wpS _ _ _ _ _ _
  let hz:-cs<=9:=by omega
  let hB:∀c∈cs,CB c:=λc hc=>#[(hG c hc).l8,(hG c hc).u8]
  let hg:cs.all A2=true:=cY.mpr λc hc=>(hG c hc).good;let hv:1<=v/\v<=9:=#[v1,by omega]
  show NB (k:=k+12) hT.lq.toTBR ha hz () D2 λg4 D4 G4=>#[?_,λq hq=>?_]
  .show v5 (b0 T _) (O3 (b0 T _) ?_);show O9 (by unfold qz;decide) ?_;refine#[_,rfl,by decide,by decide,[],λt U g'=>m9 g' d/\∃z2 z3 z4 z5 z6 z7 z8 z9,U=[!.ref 0,!.ref d,z2,z3,z4,z5,z6,z7,z8,z9],λu u u u=>t8,#[D4,_,_,_,_,_,_,_,_,rfl],λt x U g1 hx q=>?_,λU g1 q=>?_]
   .cases hx
   .try show wpS _ _ _ _ _ _
    try left
    exact q
  .let a4:=G4.at () ha;let c4:=G4.at () hc;unfold dy.d;show v5 (b0 T _) (O3 (b0 T _) ?_);show O9 (by unfold qz;decide) ?_;refine#[_,rfl,by decide,by decide,l9 0 2,λj U g'=>(∀x o,x< -g4->g4[x]?=!o->g'[x]?=!o)/\-g4<=-g'/\∃z7 z8 z9,U=[!.ref 0,!.ref d,!.int i,!.ref a,!.int v,!.ref c,!.tup [.str q.w.s,.int q.x,.int q.y],z7,z8,z9],λu u u u=>t8,#[λu u u z=>z,av _,_,_,_,rfl],λj x U g6 hx p=>?_,λU g6 p=>?_]
   .let#[k6,l6,z7,z8,z9,rfl]:=p;let#[hj,rfl]:=x8 hx;let la:=m8 a4;let lc:=m8 c4;let a6:=k6 _ _ la a4;let c6:=k6 _ _ lc c4;refine i8 ?_
    try show wpS _ _ _ _ _ _
    left
    try refine Bq (a9 a6) ?_
    left;let e7:=Ex.snoc g6 (O.lst (cs.map b8.d));let a7:=b7 (g:=g6) (o:=O.lst (cs.map b8.d));generalize g6++[O.lst (cs.map b8.d)]=g7 at *
    try refine Bq (a9 (e7.at c6)) ?_
    left;let e8:=e7.trans (Ex.snoc g7 (O.lst (c9 rs)));let c8:=b7 (g:=g7) (o:=O.lst (c9 rs));let a8:=(Ex.snoc g7 (O.lst (c9 rs))).at a7;generalize g7++[O.lst (c9 rs)]=g8 at *;let l8:=e8.len;refine aY5 (k:=k+1) hT a8 hz hg hB hv c8 () hR hq (λm0 g9 e9=>?_) (λg9 ws e9 W=>?_)
    .let ee:=e8.trans e9;show E1 (a9 (ee.at a6)) ?_;left;rw[ak];refine P7 (k:=k+13) hT.pU.lK hz λva lN=>?_;left;let ef:=ee.trans lN;refine Fg (k:=k+10) hT.lq hT.pU hT.oP hB (ef.at a6) hz (ef.at c6) () λAc t qy u T11=>?_;let#[kvs,t7,QS]:=Ff T11;show qH #[_,.inl #[_,_,_,rfl,t7,rfl,rfl],?_];rw[QS,aM (λz=>z m0)];left;let eh:=ef.trans qy;exact#[λx o hx e=>eh.at (k6 x o hx e),aD l6 eh.len,_,_,_,rfl]
    .let ee:=e8.trans e9;left
     try refine fq rfl ?_
     show aT1 (k:=k+7) hT hB (ee.at a6) hz (ee.at c6) () hq W λva lN=>?_;let ef:=ee.trans lN;show Wh (k:=k+1) hT.tb hT.nX hT.pJ hT.tf hT.tw hT.tn hT.ti (ef.at a6) hz hg hB hv (ef.at c6) () hR hq (λm1 m2=>?_) (λfQ Ac qy=>?_)
     .exfalso;have:many cs v (rs++[q])≠0\/many cs v (rs++[i0 q])≠0:=by
       let nz:∀{rs:@&dy} {o:@&Nat},(j6 (-cs) (j7 cs v rs) 0)[0]?=!o->many cs v rs≠0:=λ{rs o} h z=>by
        unfold many at z;rw[dg] at z;rw[z] at h;cases h
       cases W with
       |first h1 _ _=>exact .inl h1
       |later _ h2 _=>exact .inr h2
       |either h1=>exact .inl (nz h1)
      omega
     let eh:=ef.trans qy;let K11:∀x o,x< -g4->g4[x]?=!o->Ac[x]?=!o:=λx o hx e=>eh.at (k6 x o hx e);let L11:=aD l6 eh.len;let#[ys,rfl,QJ]:=W.sh;show x6 (d:=.str (Q8 (many cs v (rs++[q])) (many cs v (rs++[i0 q])))) (A7 (j:=0) rfl) ?_;show a44 hT.h6 hT.h7 0 (k:=k+12) (.str _) λg12 kz=>?_;show v5 (b0 T _) (uG (b0 T _) ?_);left;rw[show(1:Int)=((1:Nat):Int) from rfl,UK];refine#[_,rfl,ys,λt U g'=>(∀x o,x< -g4->g4[x]?=!o->g'[x]?=!o)/\-g4<=-g'/\(∀y∈ys,∃f l,y=.ref f/\-g4<=f/\g'[f]?=!.lst l)/\∃z7 z8 z9,U=[!.ref 0,!.ref d,!.int i,!.ref a,!.int v,!.ref c,!.tup [.str q.w.s,.int q.x,.int q.y],z7,z8,z9],λu u u u=>t8,#[λx o hx e=>kz.at (K11 x o hx e),aD L11 kz.len,λy hy=>?_,_,_,_,rfl],λt y U SI hy p=>?_,λU SI p=>?_]
     .let#[f,l,rfl,p1,p2]:=QJ y hy;exact#[f,l,rfl,by omega,(lN.trans (qy.trans kz)).at p2]
     .let#[Ct,Cr,Hx,z7,z8,z9,rfl]:=p;let#[f,l,rfl,p1,p2]:=Hx y (aH hy);refine i8 ?_
      try show wpS _ _ _ _ _ _
      left
      try refine#[WY p2,?_]
      show Va p2 ?_;show#[λx o hx e=>?_,by simpa using Cr,λy hy=>?_,_,_,_,rfl]
      .rw[aA ()];exact Ct x o hx e
      .let#[f',l',rfl,q1,q2]:=Hx y hy;by_cases z:f=f'
       .subst z;exact#[_,[],rfl,q1,by rw[bh (m8 q2)]]
       .exact#[_,l',rfl,q1,by rw[aA z];exact q2]
     .let#[Ct,Cr,_,z7,z8,z9,rfl]:=p
      try show wpS _ _ _ _ _ _
      try left
      exact#[Ct,Cr,_,_,_,rfl]
   .let#[k6,l6,z7,z8,z9,rfl]:=p
    try show wpS _ _ _ _ _ _
    left;let#[s,p,b,r,xs,q1,q2,q3]:=D4.ex;exact#[#[s,p,b,r,xs,k6 _ _ (m8 q1) q1,k6 _ _ (m8 q2) q2,q3],_,_,_,_,_,_,_,_,rfl]
 .let#[D1,z2,z3,z4,z5,z6,z7,z8,z9,rfl]:=p
  try show wpS _ _ _ _ _ _
  left
  rfl
end
end M
namespace Lk
open PySem L2 M
abbrev top(i:Nat):Stmt:=PySem.Challenge.pw_trussel_k27_whole_what_shows_firsts.main.body.getD i (.Pass #[0,0,0,0])
abbrev UJ:Stmt->@&Stmt
 |.ClassDef (body:=b) ..=>b
 |_=>[]
abbrev La(i j:Nat):Stmt:=(UJ (top i)).getD j (.Pass #[0,0,0,0])
abbrev F:@&RF:=[#[38,"is_number",["thing"],1,13,Fs],#[1,"number_from",["number","least","most"],3,14,Z2],#[2,"good_marks",["marks","least","spot"],1,15,N9],#[15,"within",["one","other"],2,16,AJ],#[12,"good_coin",["coin","lower","lower_marks","upper","upper_marks","year","good_lower","good_upper"],1,23,E0],#[39,"check_coin",["coin"],1,24,FA],#[18,"check_coins",["coins","coin"],1,25,Z6],#[83,"check_place",["coins","place"],2,26,R7],#[40,"check_side",["side"],1,27,U8],#[19,"die_field",["side"],1,28,Fp],#[74,"places_of",["coins","word","thing","field"],3,29,Y5],#[75,"check_die",["coins","side","die"],3,30,Fo],#[20,"dies_of",["coins","side","field"],2,31,EI],#[42,"check_anvils",["anvils"],1,36,A5],#[88,"good_rule",["coins","rule","word","one","other"],2,37,Fq],#[89,"check_rules",["coins","rules","at","rule"],2,38,Z5],#[90,"stand_of",["places"],1,39,AR],#[91,"with_coin",["stand","place"],2,40,Y4],#[92,"more_worn",["one","other","side","field"],2,41,Ln],#[93,"later",["one","other"],2,42,GH],#[94,"worn_stands",["coins"],1,43,Mt],#[95,"later_stands",["coins"],1,44,MD],#[96,"die_stands",["coins"],1,45,FD],#[97,"needed_stands",["coins","rules","needed","word","one","other","first","place"],2,46,T2],#[98,"check_asked",["coins","anvils","rules"],3,48,E4],#[100,"dies_in_use",["bounds","stand","place","struck","left"],3,49,FE],#[101,"next_fault",["bounds","stand","place"],3,50,FH],#[115,"follows",["bounds","stand","place"],3,52,AO],#[116,"followers",["bounds","stand"],2,53,LU],#[117,"reached_stands",["bounds","led_to","told","stand","place"],1,54,K8],#[121,"ways_on",["bounds","ways","stand"],1,56,EK],#[122,"step_on",["bounds","ways","stand","number","choices","left","at"],4,57,AI],#[123,"numbered_order",["bounds","ways","number","order","stand","left","place"],3,58,Q2],#[124,"first_order",["bounds","ways"],1,59,R6],#[129,"shown_paper",["bounds","stands"],1,61,R5],#[136,"check_thing",["coins","word","thing"],3,63,Z4],#[137,"check_pair",["coins","word","one","other"],4,64,FC],#[138,"why_of",["coins","anvils","rules","word","one","other","one_ahead","other_ahead","one_order","other_order"],6,65,S4],#[139,"told_of",["coins","anvils","rules","word","one","other"],6,66,EJ],#[3,"_law_open",["_law_script"],1,68,Bs],#[4,"_law_pull",["_law_draw","_law_total_of","_law_cell","_law_got","_law_seed"],2,69,J6],#[6,"_law_num",["_law_found"],1,70,yH],#[86,"_law_nums",["_law_found"],1,71,FZ],#[7,"_law_like",["_law_found","_law_due"],2,72,J7],#[21,"_law_order_of",["_law_draw","_law_numbers","_law_left","_law_found","_law_step"],2,73,W3],#[17,"_law_within",["_law_one","_law_other"],2,74,AQ],#[22,"_law_any_coin",["_law_draw","_law_menu","_law_lower","_law_upper","_law_year"],1,75,AN],#[23,"_law_seated",["_law_draw","_law_seats","_law_fresh","_law_anvils"],4,76,K7],#[24,"_law_struck",["_law_draw","_law_size","_law_anvils","_law_seats","_law_fresh","_law_worn","_law_year","_law_step","_law_wear","_law_shift","_law_found","_law_k","_law_keys","_law_key","_law_spot","_law_named","_law_told_year"],3,77,M7],#[25,"_law_opened",["_law_draw","_law_size","_law_dies","_law_row","_law_held","_law_found","_law_k","_law_year"],2,78,AH],#[26,"_law_list",["_law_draw","_law_most","_law_size","_law_anvils","_law_way","_law_found","_law_at","_law_coin","_law_other"],2,79,U7],#[105,"_law_rule",["_law_draw","_law_coins","_law_word","_law_some","_law_at"],2,80,vy],#[106,"_law_rules",["_law_draw","_law_coins","_law_found","_law_k","_law_rule_here"],2,81,GI],#[107,"_law_rule_kept",["_law_coins","_law_ahead","_law_place","_law_rule_here","_law_word","_law_one","_law_other","_law_at"],4,82,Ft],#[108,"_law_fault",["_law_coins","_law_anvils","_law_rules_here","_law_ahead","_law_place","_law_coin","_law_there_here","_law_at","_law_here","_law_later"],5,83,yo],#[109,"_law_order_due",["_law_coins","_law_anvils","_law_rules_here","_law_row","_law_k","_law_word"],4,84,Y6],#[146,"_law_there",["_law_stand","_law_size"],2,85,Av],#[147,"_law_power",["_law_place"],1,86,Aq],#[148,"_law_following",["_law_coins","_law_anvils","_law_rules_here","_law_stand","_law_there_here","_law_found","_law_place"],4,87,Z3],#[149,"_law_table",["_law_coins","_law_anvils","_law_rules_here","_law_table_here","_law_front","_law_step","_law_wider","_law_stand","_law_place"],3,88,Au],#[158,"_law_paper_ok",["_law_coins","_law_anvils","_law_rules_here","_law_stands","_law_end","_law_stand","_law_there_here","_law_place"],4,89,EX],#[151,"_law_good_order",["_law_found","_law_coins","_law_anvils","_law_rules_here"],4,90,FF],#[110,"_law_ready",["_law_draw","_law_most","_law_coins","_law_anvils"],2,91,Ar],#[30,"_law_asked",["_law_coins","_law_anvils","_law_rules_here","_law_rule_here"],4,92,GG],#[165,"_law_shown",["_law_found","_law_coins","_law_anvils","_law_rules_here","_law_rule_here","_law_back","_law_barred"],5,93,GJ],#[11,"law",["_law_script","_law_draw","_law_turn","_law_coins","_law_anvils","_law_rules_here","_law_rule_here","_law_step","_law_found","_law_one"],1,94,Eu]]
abbrev Ms:@&RM:=[#[113,"Bounds","__init__","Bounds.__init__",["self","coins","anvils","rules"],4,47,0,Z7]]
abbrev con:@&(Str×D):=[("LAST_SPOT",.int 7),("MOST_COINS",.int 9),("LAST_DIE",.int 99),("LAST_YEAR",.int 9999),("SIDES",.tup [(.str "lower"),(.str "upper")]),("MOST_ANVILS",.int 9),("RULE_WORDS",.tup [(.str "coin"),(.str "lower"),(.str "upper")]),("YEAR_FIELD",.int 4)]
abbrev gd:@&(Str×@&D):=[("DIE_FIELDS",[.tup [.str "lower",.int 0],.tup [.str "upper",.int 2]])]
abbrev exc:@&Str:=["BadAnvils","BadCoin","BadRule","BadSide","NoDie","NoOrder","NoPlace","SameOne","TooMany"]
abbrev c0:j8:=#[[],[],true,F.map λr=>(r.nm,r.id),con,["len","enumerate","list","tuple","isinstance","all","range","int","bool","str","max","min","sorted","set","dict","sum","reversed"],exc,gd,[("Bounds",113)],Ms.map λr=>(r.nm,r.cl,r.id),[("size","Bounds"),("full","Bounds"),("room","Bounds"),("worn_by_place","Bounds"),("later_by_place","Bounds"),("lower_dies","Bounds"),("needed_by_place","Bounds")],true,true,true]
noncomputable abbrev T:Nat->Option bj:=vo F Ms
def tx:mW c0 F Ms top La:=by
 refine#[rfl,rfl,by decide +kernel,by decide +kernel,by decide +kernel,by decide +kernel,?_,?_,?_,?_]
 all_goals
  repeat first
   |exact BF.nil
   |exact BM.nil
   |exact YF.nil
   |exact YM.nil
   |refine YF.cons (by kernel_rfl) ?_
   |refine YM.cons (by kernel_rfl) ?_
   |refine BF.cons (λx x x x x x=>(by(repeat refine HC λx=>?_);exact HB rfl)) ?_
   |refine BM.cons (λx x x x x x=>(by(repeat refine HC λx=>?_);exact HB rfl)) ?_
inductive vg:@&DictEntry->@&(Str×V)->Prop
 |nil:vg [] []
 |cons {h:Int} {x:Str} {t:Tok} {u:Value} {v:V} {es:@&DictEntry} {vs:@&(Str×V)} (r:RelV v u) (q:vg es vs):vg (#[h,.str x t,u]::es) ((x,v)::vs)
set_option tactic.hygienic true in
def vg.find{es vs}(x:Str)(h:vg es vs):K6 (vs.lookup x) (findBy Value.isStrOf es.toArray x):=by
 induction h with
 |nil=>trivial
 |cons r q ih =>
  rename_i h y t u v es vs;unfold findBy at ih ⊢;rw[List.find?_toArray] at ih ⊢;rw[fI,eI];by_cases e:x=y
  .rw[show(x==y)=true from by simp[e],show Value.isStrOf x (.str y t)=true from by simp[Value.isStrOf,e]];exact r
  .rw[show(x==y)=false from by simpa using e,show Value.isStrOf x (.str y t)=false from by simp[Value.isStrOf];exact λz=>e (z.symm)];exact ih
def all_mk{l:PySem.W.OpenLaw}{w:World}{K:PySem.W.Frag}{h:Heap}{mg:Str->Option Value}{fa:Addr}{Ej Ei Ab:Addr}{t0 t1 t2 t3 ya xZ t5 xY xX xW t7 rQ rP rO rL:Tok}{Ee:Array (Option Value)}{Eg:Nat}{Ed:Array (Option Value)}{Ef:Nat}{Sz:Nat}{oS oR:Int}(X:K.In h)(G:h.Ns mainGlobals mg)(Rv:mg "law"=!.ref fa)(I:mX K c0 F Ms top La)(e0:PySem.W.nsIn K mainGlobals "LAST_SPOT"=!!Value.int 7 t0)(e1:PySem.W.nsIn K mainGlobals "MOST_COINS"=!!Value.int 9 t1)(e2:PySem.W.nsIn K mainGlobals "LAST_DIE"=!!Value.int 99 t2)(e3:PySem.W.nsIn K mainGlobals "LAST_YEAR"=!!Value.int 9999 t3)(e4:PySem.W.nsIn K mainGlobals "SIDES"=!!.ref Ej)(Tq:K.lookup Ej=!#[.type "tuple",none,.seq (List.toArray [Value.str "lower" ya,Value.str "upper" xZ]) Eg,Ee])(e5:PySem.W.nsIn K mainGlobals "MOST_ANVILS"=!!Value.int 9 t5)(e6:PySem.W.nsIn K mainGlobals "RULE_WORDS"=!!.ref Ei)(Tp:K.lookup Ei=!#[.type "tuple",none,.seq (List.toArray [Value.str "coin" xY,Value.str "lower" xX,Value.str "upper" xW]) Ef,Ed])(e7:PySem.W.nsIn K mainGlobals "YEAR_FIELD"=!!Value.int 4 t7)(g0:PySem.W.nsIn K mainGlobals "DIE_FIELDS"=!!.ref Ab)(SF:K.lookup Ab=!#[.type "dict",none,.dict (List.toArray [#[oS,Value.str "lower" rQ,Value.int 0 rP],#[oR,Value.str "upper" rO,Value.int 2 rL]]) Sz,(List.toArray [])])(sR:oS=PyData.keyHash w.params "lower")(sQ:oR=PyData.keyHash w.params "upper")(Sy:(Ab==sysModules)=false)
  : ∃fd:FuncData,(∀(s:Shared) (v:Value),BindsTo s fd #[[v],[]] [("_law_script",v)])/\∀base:Heap,K.In base->base.Ns mainGlobals mg->jf l.prog w K mg base (jT l.prog w) 80 fa fd ["_law_script"] (rm exc K 1 (c5 T 40 11)):=by
 let A:oX w K mg c0 T:=by
  refine Uq I tx X G (λx d hx=>?_) (λx kvs hx=>?_)
  .let hm:=aX hx;simp only[c0,con,List.mem_cons,List.mem_nil_iff,or_false] at hm;rcases hm with z|z|z|z|z|z|z|z
   .cases z;exact#[(.int 7),_,cu X G e0,#[_,rfl],λy y=>.int _]
   .cases z;exact#[(.int 9),_,cu X G e1,#[_,rfl],λy y=>.int _]
   .cases z;exact#[(.int 99),_,cu X G e2,#[_,rfl],λy y=>.int _]
   .cases z;exact#[(.int 9999),_,cu X G e3,#[_,rfl],λy y=>.int _]
   .cases z;exact#[.ref Ej,_,cu X G e4,rfl,λy y=>.tup (vs:=[.str "lower",.str "upper"]) (.inr #[_,_,_,Tq,rfl,rfl,rfl,(by change 2<=sizeLine;decide),.cons #[_,rfl] (.cons #[_,rfl] (.nil))]) (.cons (.str _) (.cons (.str _) (.nil)))]
   .cases z;exact#[(.int 9),_,cu X G e5,#[_,rfl],λy y=>.int _]
   .cases z;exact#[.ref Ei,_,cu X G e6,rfl,λy y=>.tup (vs:=[.str "coin",.str "lower",.str "upper"]) (.inr #[_,_,_,Tp,rfl,rfl,rfl,(by change 3<=sizeLine;decide),.cons #[_,rfl] (.cons #[_,rfl] (.cons #[_,rfl] (.nil)))]) (.cons (.str _) (.cons (.str _) (.cons (.str _) (.nil))))]
   .cases z;exact#[(.int 4),_,cu X G e7,#[_,rfl],λy y=>.int _]
  .let hm:=aX hx;simp only[c0,gd,List.mem_cons,List.mem_nil_iff,or_false] at hm;let z:=hm
   .cases z;let er:vg [#[oS,Value.str "lower" rQ,Value.int 0 rP],#[oR,Value.str "upper" rO,Value.int 2 rL]] [("lower",.int 0),("upper",.int 2)]:=.cons (v:=.int 0) #[_,rfl] (.cons (v:=.int 2) #[_,rfl] (.nil));exact#[Ab,_,cu X G g0,#[_,_,SF,#[#[_,_,rfl,sR],#[#[_,_,rfl,sQ],True.intro]],Sy,λx=>er.find x],.cons (λy y=>.int _) (.cons (λy y=>.int _) (.nil))]
 let#[f,fd,O,a,t]:=Nz I tx _ (aH (i:=65) rfl);cases Rv.symm.trans (cu X G a);let#[oc,od,kV,doc,pm,an,gJ,ct,nU,rfl,lk,nA]:=O.fn.ex;exact#[_,λs v=>.of_eq rfl,λbase pz xM=>bI0 pz xM A 40 11 _ _ fa _ rfl O]
def walk{l:PySem.W.OpenLaw}{q:Program}{loose:@&Str}{XP:(Str->Option Value)->Heap->Prop}{YP:World->Heap->Prop}{d:DefRec}{K:Params->PySem.W.Frag}(hn:l.most=!63)(xr:d.params.defaults=[])(hY:∀(w:World) (h:Heap),YP w h->(K w.params).In h)(F:∀ (w:World) (mg:Str->Option Value) (fa:Addr) (h:Heap),(K w.params).In h->h.Ns mainGlobals mg->mg d.name=!.ref fa ->
   ∃ fd:FuncData,(∀ (s:Shared) (u:Value),BindsTo s fd #[[u],[]] [("_law_script",u)])/\∀ base:Heap,(K w.params).In base->base.Ns mainGlobals mg->jf l.prog w (K w.params) mg base (jT l.prog w) 80 fa fd ["_law_script"] (rm exc (K w.params) 1 (c5 T 40 11))) :
  PySem.W.WalkO q loose XP YP l.row.toRowW d [] (λf vs=>PySem.call f vs) :=
 L2.Wm (n:=63) (k:=80) (x:="_law_script") (CX:=λw=>jT l.prog w) (sp:=λw=>rm exc (K w.params) 1 (c5 T 40 11)) hn ∅ xr #[rfl,by decide,by decide] hY F (λw H a ns hl hO hS=>bF1 hO hS (WT (k:=25) #[#[#[rfl,rfl],rfl,rfl,#[rfl,rfl],#[rfl,rfl],rfl,rfl,rfl,rfl,rfl,rfl,rfl,rfl,rfl,rfl,rfl,rfl,rfl,rfl,rfl,rfl],rfl,rfl,#[#[#[rfl,rfl,rfl,rfl,rfl,rfl,rfl],rfl,rfl],#[rfl,rfl,rfl],rfl],#[rfl,rfl],#[rfl,rfl,rfl],#[rfl,rfl],#[rfl,rfl],#[rfl,rfl,rfl,rfl,rfl,rfl,rfl,rfl],rfl,rfl,rfl,rfl,rfl,rfl,rfl,rfl,rfl,rfl,rfl])) (by rintro _ _ _ _ _ ⟨_,_,_,_,_,_,_,z⟩;exact z)
end Lk
end _X
open _X
open PySem PySem.W PyProof.Rows
set_option maxRecDepth 100000 in
set_option maxHeartbeats 0 in
theorem PySem.Challenge.cw_trussel_k27_whole_what_shows_firsts_holds : PySem.Challenge.rw_trussel_k27_whole_what_shows_firsts.Holds := by
 w_on;o_law;k_head;(case hw=>w_witness2)
 k_fill
 refine Lk.walk (l:=PySem.Challenge.rw_trussel_k27_whole_what_shows_firsts) rfl rfl (fun w h Y=>PySem.W.kIn_of Y) ?F
 case F =>
  intro w mg fa h KX G hmg
  refine' Lk.all_mk KX G hmg ⟨?zz1,?zz2,?zz3,?zz4,?zz5,?zz6,?zz7⟩ ?_ ?_ ?_ ?_ ?_ ?_ ?_ ?_ ?_ ?_ ?_ ?_ ?_ ?_ ?_
  (case zz1=>repeat' first | (with_reducible show _=_;k_is) | exact M.PF.nil | apply M.PF.cons)
  (case zz2=>repeat' first | (with_reducible show _=_;k_is) | exact M.PM.nil | apply M.PM.cons)
  (case zz3=>repeat' first | (with_reducible show _=_;k_is) | exact M.PC.nil | apply M.PC.cons)
  (case zz4=>repeat' first | (with_reducible show _=_;k_is) | exact M.PA.nil | apply M.PA.cons)
  (case zz5=>repeat' first | (with_reducible show _=_;k_is) | exact M.PB.nil | apply M.PB.cons)
  (case zz6=>repeat' first | (with_reducible show _=_;first | (with_reducible show PySem.W.excIn _ _ _ _=true;k_exc) | k_is) | exact M.PX.nil | apply M.PX.cons)
  (case zz7=>kernel_rfl)
  all_goals try (with_reducible show _=_;k_is)
  all_goals try ((with_reducible show _=_);rfl)
#print axioms PySem.Challenge.cw_trussel_k27_whole_what_shows_firsts_holds
