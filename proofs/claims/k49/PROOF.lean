import PyProof.Rows.All
import Wide.All
import OpenK.AllK
import Wide.FinOn
import Lean
import PyProof.EqAt
import PyProof.EqKinds
import PyProof.TupleCall
import PySem.Challenge.RW_trussel_k49_whole_back_and_again
set_option Elab.async false
set_option linter.all false
set_option maxRecDepth 100000
set_option maxHeartbeats 4000000
set_option genInjectivity false
set_option bootstrap.genMatcherCode false
set_option genSizeOf false
set_option compiler.extract_closed false
set_option compiler.reuse false
local macro_rules|`(def $i:declId $s:optDeclSig $v:declVal)=>`(noncomputable def $i:declId $s:optDeclSig $v:declVal)
open Lean in
local macro_rules|`(universe $i)=>do
 let t<-`(theorem x:True:=⟨⟩)
 let f:=fun (n:Name)=>t.raw.setArg 1 ((t.raw.getArg 1).setArg 1 ((t.raw[1][1]).setArg 0 (mkIdent (.mkStr `PySem.W.Fast s!"tw{Name.hash n}"))))
 return mkNullNode (((`PySem.Challenge.rw_trussel_k49_whole_back_and_again::`PySem.Challenge.pw_trussel_k49_whole_back_and_again::[("o",List.range 896),("env",[41]),("heap",[39,46,896]),("sts",[49,64,79,94,109,124,139,154,169,184,199,214,229,244,259,274,318,348,575,605,682,771,856]),("tree",[47,63,78,93,108,123,138,153,168,183,198,213,228,243,258,273,317,347,487,571,602,681,770,855,895]),("view",[39])].flatMap fun (x,l)=>l.map fun i=>.mkStr `PySem.Challenge.cw_trussel_k49_whole_back_and_again_holds s!"{x}_{i}").map f).toArray)
universe x
namespace _X
set_option tactic.hygienic false
local macro_rules|`(#[$xs,*])=>`(⟨$xs,*⟩)
local macro_rules|`(_/$x)=>`(by simpa using $x)
local macro_rules|`(tactic|show $t)=>`(tactic|refine $t)
open Lean in
@[reducible]def pw_:Nat->Term->MacroM (TSyntax `rcasesPat)
 |0,_=>Macro.throwUnsupported
 |n+1,t=>do match t with
  |`(#[$xs,*])=>do let ys<-xs.getElems.mapM (pw_ n);`(rcasesPat|⟨$[$ys:rcasesPat],*⟩)
  |`(⟨$xs,*⟩)=>do let ys<-xs.getElems.mapM (pw_ n);`(rcasesPat|⟨$[$ys:rcasesPat],*⟩)
  |`(_)=>`(rcasesPat|_)
  |`($i:ident)=>`(rcasesPat|$i:ident)
  |_=>Macro.throwUnsupported
open Lean in
@[reducible]def ex_(e:Term)(xs:Array (TSyntax `rcasesPat))(t:TSyntax `tactic):MacroM (TSyntax `tactic):=do
 let n:=xs.size
 let mut t:=t
 if n>1&&n<13 then
  let r<-xs.mapM fun p=>`(rintroPat|$p:rcasesPat)
  let c:TSyntax `tactic<-if e.raw.isIdent then`(tactic|try clear $(⟨e.raw⟩):ident)else`(tactic|skip)
  for i in[0:n]do
   let k:=n-1-i
   let f:=mkIdent (.mkSimple s!"E{k}_{n-k}")
   t<-`(tactic|first|(refine $f ($e :) ?_;$c;rintro $r*)|($t:tactic))
 return t
local macro_rules|`(tactic|let $p:term:=$e)=>do
 let q<-pw_ 9 p
 let x:Array Lean.Term:=match p with|`(#[$xs,*])=>xs.getElems|_=>.empty
 ex_ e (<-x.mapM (pw_ 9)) (<-`(tactic|obtain $q:rcasesPat:=$e))
open Lean in
local macro_rules|`(tactic|rintro $ps*)=>do
 let mut o:Array (TSyntax `tactic):=.empty
 let mut c:=false
 for p in ps do
  let mut d:TSyntax `tactic<-`(tactic|rintro $p)
  let mut q:=p.raw
  -- (p) is p
  for _ in [0:9] do
   if q.isOfKind ``Parser.Tactic.rintroPat.one then q:=q[0]
   if q.isOfKind ``Parser.Tactic.rcasesPat.paren&&q[1][1].isNone&&q[1][0][0].getNumArgs==1 then q:=q[1][0][0][0]
  if q.isOfKind ``Parser.Tactic.rcasesPat.tuple then
   let xs:Array Syntax:=q[1].getSepArgs
   if xs.size>1 then
    c:=true
    let ys<-xs.mapM fun x=>`(rcasesPat|($(⟨x⟩):rcasesPatLo))
    let z<-`(z)
    d<-`(tactic|(intro $z:term;$(<-ex_ z ys (<-`(tactic|obtain $(⟨q⟩):rcasesPat:=$z))):tactic))
  o:=o.push d
 if !c then Macro.throwUnsupported
 `(tactic|($[$o:tactic];*))
local macro_rules|`(#[])=>`(by decide +kernel)
local macro_rules|`(#[_])=>`(by simp)
local macro_rules|`(-$x:ident)=>`(($x).length)
local macro_rules|`(!$x)=>`(some $x)
local macro_rules|`(~~~$x)=>`(not $x)
open Lean in
local macro_rules|`(tactic|let $d:letDecl)=>if d.raw[0].isOfKind ``Parser.Term.letIdDecl then`(tactic|have $d:letDecl)else Macro.throwUnsupported
local macro_rules|`(@&$x)=>`(List $x)
local macro_rules|`($s⁻¹)=>`(($s).heap.objs.size)
local macro_rules|`(tactic|exists $t:term)=>`(tactic|(walk_at"";refine $t))
local macro_rules|`(abbrev $i:declId $s:optDeclSig $v:declVal)=>`(noncomputable def $i:declId $s:optDeclSig $v:declVal)
local macro_rules|`(def $i:declId $[$b:bracketedBinder]* :$t $v:declVal)=>if t.raw.isOfKind `Lean.Parser.Term.prop||[`TE,`TT,`TS,`TG,`oG,`It,`TI,`R2,`TA,`St,`TO,`Bool,`Cx,`DR,`S,`d7,`qh,`aT,`O,`bY,`Rs,`D,`Str].contains t.raw.getId then`(noncomputable def $i:declId $[$b:bracketedBinder]* :$t $v:declVal)else`(theorem $i:declId $[$b:bracketedBinder]* :$t $v:declVal)
section
variable{A0:Sort _}{p q r s t u:Prop}{G:Prop}
def E0_2(h:p/\q)(k:p->q->G):G:=k h.1 h.2
def E0_3(h:p/\q/\r)(k:p->q->r->G):G:=k h.1 h.2.1 h.2.2
def E0_4(h:p/\q/\r/\s)(k:p->q->r->s->G):G:=k h.1 h.2.1 h.2.2.1 h.2.2.2
def E0_5(h:p/\q/\r/\s/\t)(k:p->q->r->s->t->G):G:=k h.1 h.2.1 h.2.2.1 h.2.2.2.1 h.2.2.2.2
def E0_6(h:p/\q/\r/\s/\t/\u)(k:p->q->r->s->t->u->G):G:=k h.1 h.2.1 h.2.2.1 h.2.2.2.1 h.2.2.2.2.1 h.2.2.2.2.2
end
section
variable{A0:Sort _}{p q r s t:A0->Prop}{G:Prop}
def E1_1(h:∃x,p x)(k:∀x,p x->G):G:=h.elim λx h=>k x h
def E1_2(h:∃x,p x/\q x)(k:∀x,p x->q x->G):G:=h.elim λx h=>k x h.1 h.2
def E1_3(h:∃x,p x/\q x/\r x)(k:∀x,p x->q x->r x->G):G:=h.elim λx h=>k x h.1 h.2.1 h.2.2
def E1_4(h:∃x,p x/\q x/\r x/\s x)(k:∀x,p x->q x->r x->s x->G):G:=h.elim λx h=>k x h.1 h.2.1 h.2.2.1 h.2.2.2
def E1_5(h:∃x,p x/\q x/\r x/\s x/\t x)(k:∀x,p x->q x->r x->s x->t x->G):G:=h.elim λx h=>k x h.1 h.2.1 h.2.2.1 h.2.2.2.1 h.2.2.2.2
end
section
variable{A0 A1:Sort _}{p q r s t u:A0->A1->Prop}{G:Prop}
def E2_1(h:∃x y,p x y)(k:∀x y,p x y->G):G:=h.elim λx h=>h.elim λy h=>k x y h
def E2_2(h:∃x y,p x y/\q x y)(k:∀x y,p x y->q x y->G):G:=h.elim λx h=>h.elim λy h=>k x y h.1 h.2
def E2_3(h:∃x y,p x y/\q x y/\r x y)(k:∀x y,p x y->q x y->r x y->G):G:=h.elim λx h=>h.elim λy h=>k x y h.1 h.2.1 h.2.2
def E2_4(h:∃x y,p x y/\q x y/\r x y/\s x y)(k:∀x y,p x y->q x y->r x y->s x y->G):G:=h.elim λx h=>h.elim λy h=>k x y h.1 h.2.1 h.2.2.1 h.2.2.2
def E2_5(h:∃x y,p x y/\q x y/\r x y/\s x y/\t x y)(k:∀x y,p x y->q x y->r x y->s x y->t x y->G):G:=h.elim λx h=>h.elim λy h=>k x y h.1 h.2.1 h.2.2.1 h.2.2.2.1 h.2.2.2.2
def E2_6(h:∃x y,p x y/\q x y/\r x y/\s x y/\t x y/\u x y)(k:∀x y,p x y->q x y->r x y->s x y->t x y->u x y->G):G:=h.elim λx h=>h.elim λy h=>k x y h.1 h.2.1 h.2.2.1 h.2.2.2.1 h.2.2.2.2.1 h.2.2.2.2.2
end
section
variable{A0 A1 A2:Sort _}{p q r s t u v:A0->A1->A2->Prop}{G:Prop}
def E3_1(h:∃x y z,p x y z)(k:∀x y z,p x y z->G):G:=h.elim λx h=>h.elim λy h=>h.elim λz h=>k x y z h
def E3_2(h:∃x y z,p x y z/\q x y z)(k:∀x y z,p x y z->q x y z->G):G:=h.elim λx h=>h.elim λy h=>h.elim λz h=>k x y z h.1 h.2
def E3_3(h:∃x y z,p x y z/\q x y z/\r x y z)(k:∀x y z,p x y z->q x y z->r x y z->G):G:=h.elim λx h=>h.elim λy h=>h.elim λz h=>k x y z h.1 h.2.1 h.2.2
def E3_4(h:∃x y z,p x y z/\q x y z/\r x y z/\s x y z)(k:∀x y z,p x y z->q x y z->r x y z->s x y z->G):G:=h.elim λx h=>h.elim λy h=>h.elim λz h=>k x y z h.1 h.2.1 h.2.2.1 h.2.2.2
def E3_5(h:∃x y z,p x y z/\q x y z/\r x y z/\s x y z/\t x y z)(k:∀x y z,p x y z->q x y z->r x y z->s x y z->t x y z->G):G:=h.elim λx h=>h.elim λy h=>h.elim λz h=>k x y z h.1 h.2.1 h.2.2.1 h.2.2.2.1 h.2.2.2.2
def E3_6(h:∃x y z,p x y z/\q x y z/\r x y z/\s x y z/\t x y z/\u x y z)(k:∀x y z,p x y z->q x y z->r x y z->s x y z->t x y z->u x y z->G):G:=h.elim λx h=>h.elim λy h=>h.elim λz h=>k x y z h.1 h.2.1 h.2.2.1 h.2.2.2.1 h.2.2.2.2.1 h.2.2.2.2.2
def E3_7(h:∃x y z,p x y z/\q x y z/\r x y z/\s x y z/\t x y z/\u x y z/\v x y z)(k:∀x y z,p x y z->q x y z->r x y z->s x y z->t x y z->u x y z->v x y z->G):G:=h.elim λx h=>h.elim λy h=>h.elim λz h=>k x y z h.1 h.2.1 h.2.2.1 h.2.2.2.1 h.2.2.2.2.1 h.2.2.2.2.2.1 h.2.2.2.2.2.2
end
section
variable{A0 A1 A2 A3:Sort _}{p q r s t u v:A0->A1->A2->A3->Prop}{G:Prop}
def E4_2(h:∃x y z w,p x y z w/\q x y z w)(k:∀x y z w,p x y z w->q x y z w->G):G:=h.elim λx h=>h.elim λy h=>h.elim λz h=>h.elim λw h=>k x y z w h.1 h.2
def E4_3(h:∃x y z w,p x y z w/\q x y z w/\r x y z w)(k:∀x y z w,p x y z w->q x y z w->r x y z w->G):G:=h.elim λx h=>h.elim λy h=>h.elim λz h=>h.elim λw h=>k x y z w h.1 h.2.1 h.2.2
def E4_4(h:∃x y z w,p x y z w/\q x y z w/\r x y z w/\s x y z w)(k:∀x y z w,p x y z w->q x y z w->r x y z w->s x y z w->G):G:=h.elim λx h=>h.elim λy h=>h.elim λz h=>h.elim λw h=>k x y z w h.1 h.2.1 h.2.2.1 h.2.2.2
def E4_5(h:∃x y z w,p x y z w/\q x y z w/\r x y z w/\s x y z w/\t x y z w)(k:∀x y z w,p x y z w->q x y z w->r x y z w->s x y z w->t x y z w->G):G:=h.elim λx h=>h.elim λy h=>h.elim λz h=>h.elim λw h=>k x y z w h.1 h.2.1 h.2.2.1 h.2.2.2.1 h.2.2.2.2
def E4_6(h:∃x y z w,p x y z w/\q x y z w/\r x y z w/\s x y z w/\t x y z w/\u x y z w)(k:∀x y z w,p x y z w->q x y z w->r x y z w->s x y z w->t x y z w->u x y z w->G):G:=h.elim λx h=>h.elim λy h=>h.elim λz h=>h.elim λw h=>k x y z w h.1 h.2.1 h.2.2.1 h.2.2.2.1 h.2.2.2.2.1 h.2.2.2.2.2
def E4_7(h:∃x y z w,p x y z w/\q x y z w/\r x y z w/\s x y z w/\t x y z w/\u x y z w/\v x y z w)(k:∀x y z w,p x y z w->q x y z w->r x y z w->s x y z w->t x y z w->u x y z w->v x y z w->G):G:=h.elim λx h=>h.elim λy h=>h.elim λz h=>h.elim λw h=>k x y z w h.1 h.2.1 h.2.2.1 h.2.2.2.1 h.2.2.2.2.1 h.2.2.2.2.2.1 h.2.2.2.2.2.2
end
section
variable{A0 A1 A2 A3 A4:Sort _}{p q r s t u v:A0->A1->A2->A3->A4->Prop}{G:Prop}
def E5_2(h:∃x y z w i,p x y z w i/\q x y z w i)(k:∀x y z w i,p x y z w i->q x y z w i->G):G:=h.elim λx h=>h.elim λy h=>h.elim λz h=>h.elim λw h=>h.elim λi h=>k x y z w i h.1 h.2
def E5_3(h:∃x y z w i,p x y z w i/\q x y z w i/\r x y z w i)(k:∀x y z w i,p x y z w i->q x y z w i->r x y z w i->G):G:=h.elim λx h=>h.elim λy h=>h.elim λz h=>h.elim λw h=>h.elim λi h=>k x y z w i h.1 h.2.1 h.2.2
def E5_4(h:∃x y z w i,p x y z w i/\q x y z w i/\r x y z w i/\s x y z w i)(k:∀x y z w i,p x y z w i->q x y z w i->r x y z w i->s x y z w i->G):G:=h.elim λx h=>h.elim λy h=>h.elim λz h=>h.elim λw h=>h.elim λi h=>k x y z w i h.1 h.2.1 h.2.2.1 h.2.2.2
def E5_6(h:∃x y z w i,p x y z w i/\q x y z w i/\r x y z w i/\s x y z w i/\t x y z w i/\u x y z w i)(k:∀x y z w i,p x y z w i->q x y z w i->r x y z w i->s x y z w i->t x y z w i->u x y z w i->G):G:=h.elim λx h=>h.elim λy h=>h.elim λz h=>h.elim λw h=>h.elim λi h=>k x y z w i h.1 h.2.1 h.2.2.1 h.2.2.2.1 h.2.2.2.2.1 h.2.2.2.2.2
def E5_7(h:∃x y z w i,p x y z w i/\q x y z w i/\r x y z w i/\s x y z w i/\t x y z w i/\u x y z w i/\v x y z w i)(k:∀x y z w i,p x y z w i->q x y z w i->r x y z w i->s x y z w i->t x y z w i->u x y z w i->v x y z w i->G):G:=h.elim λx h=>h.elim λy h=>h.elim λz h=>h.elim λw h=>h.elim λi h=>k x y z w i h.1 h.2.1 h.2.2.1 h.2.2.2.1 h.2.2.2.2.1 h.2.2.2.2.2.1 h.2.2.2.2.2.2
end
local macro_rules|`(tactic|left)=>`(tactic|walk_at"")
local macro_rules|`(())=>`(by omega)
local macro_rules|`(∅)=>`(by decide)
local macro_rules|`(tactic|omega)=>`(tactic|lia)
open Lean in
local macro_rules|`(universe $n $a*)=>do
 let mut r:=Array.empty
 for k in[0:a.size/2]do r:=r.push (<-`(noncomputable def $(a[2*k]!):ident:=@$(mkIdent (n.getId++a[2*k+1]!.getId))))
 return mkNullNode r
universe PySem BA Calls.Name_function_global Bv intKind_is Bw entryFor_alias Bx Str.cps_append GN wpAny_binaryOp_repeat_ref GO W.hideAll_get OL wpAny_onRaise OM wpAny_getItem_list_slice ON wpAny_comprehension_free OO W.of_hideAll OP W.kitx_tuple aL mem_of_lookup aQ Heap.get?_update_self aV Heap.SameBut.update aW wpAny_setState_of aZ wpAny_holding aa wpAny_bind ag Heap.get?_push_of_some ai wpAny_pure aq Heap.lt_size au Heap.get?_push_size bA wpAny_callSpecial?_slot bC Heap.get?_update_other bK wpAny_newObj_type bP W.mg_of bQ W.kia_one bV wpAny_mono bc Obj.data_mapFields bo wpAny_field br wpAny_call_entry cC wpAny_truthy_bool cD wpAny_setField cE call_meets cL wpAny_isInstance cM wpAny_Call_Name_kw cN wpAny_of_eq cQ Heap.size_push cc Obj.isFreed_of_fields dC codeAny_builtin dE wpAny_pyIter_list dM W.cellsFrom_some dS wpAny_rule de wpAny_typeOf dt wpAny_seqItems du F.slot_tuple_iterator_next eM wpAny_storeSet_of eN fits_of_scanBound fB isSubtype_type fC codeAny_mono fG Calls.callWith_builtin fX wpAny_attempt fY plainId_quiet fe F.slot_list_getattribute fg wpAny_setField_rec fk F.slot_zip_next gH wpAny_passesOwn gU F.args_tuple_add_2 gk Calls.evalArgs_plain iB F.slot_tuple_add iL Obj.cls_mapFields iP Heap.SameBut.refl iS wpAny_standAt ig tupleKind_room_in1 ik F.plainAttrs_list ip F.entry_tuple_add jN F.slot_int_rmul jT W.callWith_K jU F.args_tuple_iterator_next_1 je noFill_tuple_add jx W.plainGet_of jy W.callWith_K0 ky F.entry_tuple_iterator_next mM wpAny_pyIter_tuple mO typeIs_str mP typeIs_int mQ Walks.list mT Heap.IsSliceOf.new mU F.args_tuple_add_2 mV F.args_str_split_2 mr strLen_append mw seq_tuple_add mx Paired.length oI wpAny_sequenceKey oJ slot_list_getitem oR F.entry_tuple_add oS F.entry_str_split qZ wpAny_askSetting rh F.slot_tuple_add rj F.slot_str_split tO wpAny_throw tP sizeLine_eq tR F.args_zip_next_1 vB F.plainAttrs_str vC F.entry_zip_next vw wpAny_execs_nil ze ofString_length zf W.methodCall_KW
universe List By getElem_toArray Bz getElem?_of_mem GP toList_toArray OQ pairwise_cons OR map_filterMap OS filterMap_map OT Nodup.sublist aA map_append aD getElem?_map aE getElem?_set_ne aG mem_cons aK size_toArray aN mem_map aP mem_of_getElem? aX getElem?_set_self aj length_map ao getElem?_eq_getElem ax getElem?_eq_some_iff ay getElem?_append_left bL mem_cons_of_mem bS mem_append bT map_cons bU mem_append_right bW set_set bg length_append cF length_take cP filterMap_cons cS take_length cT all_eq_true cV take_succ cW perm_ext_iff_of_nodup cX getElem?_append_right cv mem_filter dD replicate_succ dF lookup_cons dG length_cons dH getElem?_replicate dI filter_cons df getElem?_eq_none_iff dw nodup_append eE mem_iff_getElem eK getElem_mem eR any_cons eV append_nil eX mem_singleton eY map_singleton fE mem_append_left fF eq_nil_of_length_eq_zero fP nodup_cons fQ foldl_cons fm length_filter_le fo getElem?_eq_none fq eq_nil_or_concat ft concat_eq_append gI mem_or_eq_of_mem_set gJ drop_eq_getElem_cons gP reverse_cons gQ append_assoc gh mem_range gi mem_filterMap iC take_of_length_le iD pairwise_lt_range iM length_set iN find?_cons iU take_append_drop iq any_eq_true jA getElem?_range jB filter_sublist jM all_cons jW mem_cons_self jX filter_append jg replicate_succ' jh Perm.refl kE map_map kF length_range kG getElem?_set kH flatten_replicate_singleton kW eraseIdx_eq_take_drop_succ kz findIdx?_eq_some_iff_getElem mR of_mem_zip mS length_zip oO mapM_cons oP length_eraseIdx_of_lt oQ getD_eq_getElem?_getD rf eq_of_mem_replicate rg cons.inj vF range_succ_eq_map vG drop_eq_nil_of_le zi length_replicate
universe Int GQ toNat_of_nonneg cj toNat_natCast gj emod_lt_of_pos iO emod_nonneg tT eq_ofNat_of_zero_le vH zero_add
universe Array OU append_assoc bD length_toList dg getElem?_eq_getElem fu getElem_eq_getD gu getElem?_eq_some_iff iV getElem?_toList jC toList_append ja getElem?_setIfInBounds_self_of_lt nZ getD_eq_getD_getElem? vI getElem?_eq_none
universe _root_ aC decide_eq_true aM decide_eq_false_iff_not aO decide_eq_false aw if_pos az if_neg bt decide_eq_true_iff bz of_decide_eq_true cO beq_eq_false_iff_ne gg beq_iff_eq ij congrArg
universe Nat aF ne_of_lt aH le_trans ak le_refl av lt_of_lt_of_le bH ne_of_gt bR lt_irrefl cG lt_trans cJ zero_le eJ le_of_lt gO lt_trichotomy iT eq_of_beq_eq_true jV lt_of_le_of_lt jf le_succ lH lt_succ_self oN not_lt vE mul_comm
universe Option aJ some.inj ae map_eq_some_iff ah bind_eq_some_iff eQ isSome_iff_exists kC isSome_map oK ne_none_iff_exists'
universe PyProof bf Rows.slot_tuple_getitem cg Rows.callWith_type1 jz Rows.F.entry_set_update_loop my Rows.Fr.set qi Rows.slicePart_none tQ Rows.entry_tuple_getitem tS Rows.boot_tuple vD Rows.boot_list vz Rows.tupleItemsOf_ zd Rows.args_tuple_getitem zg Rows.boot_str zh Rows.boot_int
universe Bool bu false_ne_true bx and_eq_true cz eq_iff_iff dR and_eq_false_iff fR or_eq_true gm not_eq_false' ji or_eq_false_iff kI not_eq_true' rm false_or
def aU:=@Ne.symm
def cq:=@Classical.not_and_iff_not_or_not
namespace L2
open PySem PySem.Spec PyProof.Rows
variable{xs vs:@&V}{us:@&Value}{H H':Hp}{a b f C dx:Addr}{o:HO}{u:Value}{P:Program}{w:World}{h h' base:Heap}{α:Type}{x m:Str}{e c tg:Expr}{X:Cx}{pi:@&(Addr×Obj)}{σ:St}{s:Shared}{t' i k:Nat}{ch fp:@&Addr}{N ps:@&Str}{M:Model}{A:Around}{E Q:Value->Shared->Prop}{v:V}{t:TA}{ta tb te:TE}{pos pos' p:Pos}{K:PySem.W.Frag}{es:@&Expr}{op:CmpOp}{r:R2}{fd:FuncData}{CX:nY}{sp:Sp}
noncomputable abbrev Key:=Sum Int Str
abbrev X5:Key->Value->Bool
 |.inl k,v=>Value.isInt k v
 |.inr x,v=>Value.isStrOf x v
abbrev b48(w:World):Key->Int
 |.inl k=>hashInt k
 |.inr x=>hashStr w x
def o9:∀{k:Key} {v:Value},X5 k v=true->(∃i t,k=Sum.inl i/\v=Value.int i t)\/(∃x t,k=Sum.inr x/\v=Value.str x t)
 |.inl i,v,h=>by
  let#[t,e]:=Value.isInt_shape h;show .inl #[i,t,rfl,e]
 |.inr x,v,h=>by
  let#[t,e]:=Value.isStrOf_shape h;show .inr #[x,t,rfl,e]
def a77(i:Int)(t:Tok):X5 (.inl i) (.int i t)=true:=by simp[X5,Value.isInt]
def a76(x:Str)(t:Tok):X5 (.inr x) (.str x t)=true:=by simp[X5,Value.isStrOf]
def Yp(a b:Int):decide ((Sum.inl a:Key)=Sum.inl b)=(a==b):=by
 by_cases e:a=b
 .subst e;simp
 .let h:¬(Sum.inl a:Key)=Sum.inl b:=λq=>e (Sum.inl.inj q);rw[aO h];show(cO.mpr e).symm
def Ys(a b:Str):decide ((Sum.inr a:Key)=Sum.inr b)=decide (a=b):=by
 simp
def Yq(a:Int)(b:Str):decide ((Sum.inl a:Key)=Sum.inr b)=false:=aO (λq=>nomatch q)
def Yr(a:Str)(b:Int):decide ((Sum.inr a:Key)=Sum.inl b)=false:=aO (λq=>nomatch q)
abbrev j4(prog:Program)(w:World):PySem.KeyKind prog w Key where
 is:=X5
 hash:=b48 w
 inj:=λv a b ha hb=>by
  rcases o9 ha with⟨i,t,rfl,rfl⟩|⟨x,t,rfl,rfl⟩
  .rcases o9 hb with⟨j,u,rfl,e⟩|⟨y,u,rfl,e⟩
   .injection e with e1 _;rw[e1]
   .exact nomatch e
  .rcases o9 hb with⟨j,u,rfl,e⟩|⟨y,u,rfl,e⟩
   .exact nomatch e
   .injection e with e1 _;rw[e1]
 byValue:=λk v h=>by
  rcases o9 h with⟨i,t,rfl,rfl⟩|⟨x,t,rfl,rfl⟩<;>rfl
 pyHash:=λhv h=>by
  rcases o9 hv with⟨i,t,rfl,rfl⟩|⟨x,t,rfl,rfl⟩
  .exact wpAny_pyHash_int h
  .exact wpAny_pyHash_str h
 eqBool:=λhu hv h=>by
  rcases o9 hu with⟨i,t,rfl,rfl⟩|⟨x,t,rfl,rfl⟩
  .rcases o9 hv with⟨j,u,rfl,rfl⟩|⟨y,u,rfl,rfl⟩
   .rw[Yp] at h;show wpAny_eqBool_int h
   .rw[Yq] at h;show SeqAt.EqAt.int_str i t y u _ _ _ _ h
  .rcases o9 hv with⟨j,u,rfl,rfl⟩|⟨y,u,rfl,rfl⟩
   .rw[Yr] at h;show SeqAt.EqAt.str_int x t j u _ _ _ _ h
   .rw[Ys] at h;show wpAny_eqBool_str h
 «strs»:=λk x t v h=>by
  rcases o9 h with⟨i,u,rfl,e⟩|⟨y,u,rfl,e⟩
  .exact nomatch e
  .injection e with e1 _;subst e1;cases v<;>rfl
def aV6(prog:Program)(w:World)(k:Key)(v:Value):(j4 prog w).is k v=X5 k v:=rfl
def Y2(prog:Program)(w:World)(i:Int)(t:Tok):(j4 prog w).is (.inl i) (.int i t)=true:=a77 i t
def aL9(prog:Program)(w:World)(x:Str)(t:Tok):(j4 prog w).is (.inr x) (.str x t)=true:=a76 x t
set_option genInjectivity true in
inductive V where
 |aR|bl (b:Bool)|int (i:Int)|str (x:Str)|lE (b:Array UInt8)|sP (b:UInt64)|ref (a:Addr)|ty (n:String)
 deriving DecidableEq
abbrev RelV:V->Value->Prop
 |.aR,u=>u=Value.none
 |.bl b,u=>u=Value.bool b
 |.int i,u=>∃t,u=Value.int i t
 |.str x,u=>∃t,u=Value.str x t
 |.lE b,u=>∃t,u=Value.bytes b t
 |.sP b,u=>∃t,u=Value.float b t
 |.ref a,u=>u=Value.ref a
 |.ty n,u=>u=Value.type n
noncomputable abbrev Vals:@&V->@&Value->Prop:=Paired RelV
def Vals.length{xs:@&V}{us:@&Value}(r:Vals xs us):-xs=-us:=mx r
def Vals.get:∀{xs:@&V} {us:@&Value} {i:Nat} {x:V},Vals xs us->xs[i]?=!x->∃u,us[i]?=!u/\RelV x u
 |_,_,_,_,.nil,e=>by simp at e
 |_,_,0,_,.cons r _,e=>by simp at e;subst e;show#[_,rfl,r]
 |_,_,i+1,x,.cons _ t,e=>by
  let#[u,h1,h2]:=Vals.get t (_/e);show#[u,by simpa using h1,h2]
def Vals.set{x:V}{u:Value}(r:RelV x u):∀{xs:@&V} {us:@&Value} (i:Nat),Vals xs us->Vals (xs.set i x) (us.set i u)
 |_,_,_,.nil=>.nil
 |_,_,0,.cons _ t=>.cons r t
 |_,_,i+1,.cons q t=>.cons q (Vals.set r i t)
def Vals.append{ys:@&V}{ws:@&Value}(h:Vals xs us)(s:Vals ys ws):Vals (xs++ys) (us++ws):=by
 induction h with
 |nil=>show s
 |cons r t ih=>show .cons r ih
def Vals.take:∀{xs:@&V} {us:@&Value} (n:Nat),Vals xs us->Vals (xs.take n) (us.take n)
 |_,_,0,_=>.nil
 |_,_,_+1,.nil=>.nil
 |_,_,n+1,.cons r t=>.cons r (Vals.take n t)
def Vals.drop:∀{xs:@&V} {us:@&Value} (n:Nat),Vals xs us->Vals (xs.drop n) (us.drop n)
 |_,_,0,r=>r
 |_,_,_+1,.nil=>.nil
 |_,_,n+1,.cons _ t=>Vals.drop n t
abbrev C7:Option V->Option Value->Prop
 |some v,!u=>RelV v u
 |none,none=>True
 |_,_=>False
abbrev KV{κ:Type}:@&(κ×V)->@&(κ×Value)->Prop:=Paired λ(p:κ×V) (q:κ×Value)=>p.1=q.1/\RelV p.2 q.2
abbrev kV:Key->V
 |.inl i=>.int i
 |.inr x=>.str x
inductive HO where
 |lst (xs:@&V)
 |tup (xs:@&V)
 |dK (kvs:@&(Key×V))|dT (kvs:@&(List Key×V))
 |set (S:Int->Bool) (n:Nat)
 |ins (C dx:Addr) (fs:@&(Str×V))
 |own (x:Addr)
 |xd (fs:@&(Str×V))
 |met (f x:Addr)
 |mB (lo hi:Int)
 |jJ (o:Obj) (u:HO)
 |qk (ps:Array Value)
 |ext (φ:Heap->Prop)
noncomputable abbrev Hp:=Addr->Option HO
abbrev upd(H:Hp)(a:Addr)(o:HO):Hp:=λb=>if b=a then some o else H b
def k7:upd H a o a=!o:=by unfold upd;rw[aw rfl]
def d8(h:b≠a):upd H a o b=H b:=by unfold upd;rw[az h]
def WX{u:HO}(h:H a=!o)(h':H b=!u)(d:o≠u):a≠b:=by
 intro e;subst e;rw[h] at h';show d (aJ h')
def j3(h:H a=!o)(h':H b=none):a≠b:=by
 intro e;simp_all
def F8(h:Heap)(a:Addr)(items:Array Value):Prop:=∃o,h.get? a=!o/\o.cls=.type "tuple"/\(∃n,o.data=.seq items n)/\o.dict=none
def F8.tup{h:Heap}{a:Addr}{items:Array Value}(x:F8 h a items):IsTup h a items:=let ⟨o,e,c,d,_⟩:=x;#[o,e,c,d]
def F8.new(h:Heap)(items:Array Value):F8 (h.push { cls:=.type "tuple",data:=.seq items }) h.objs.size items:=#[_,au _ rfl,rfl,#[_,rfl],rfl]
section
variable(P:Program)(w:World)
abbrev j7(H:Hp)(h:Heap)(a:Addr):HO->Prop
 |.lst xs=>-xs<=sizeLine/\∃(aS:@&Value) (n:Nat),Vals xs aS/\h.get? a=some { cls:=.type "list",data:=.seq aS.toArray n }
 |.tup xs=>-xs<=sizeLine/\∃aS:@&Value,Vals xs aS/\F8 h a aS.toArray
 |.dK kvs=>-kvs<=sizeLine/\(a==sysModules)=false/\∃vs,KV kvs vs/\h.DictOf (j4 P w) a vs
 |.dT kvs=>-kvs<=sizeLine/\(a==sysModules)=false/\∃xs:@&(List Key×Addr×Value),
   Paired (λ(p:@&Key×V) (q:@&Key×Addr×Value)=>p.1=q.1/\H q.2.1=!.tup (p.1.map kV)/\RelV p.2 q.2.2) kvs xs /\
   ∃o es ep,h.get? a=!o/\o.ExactDict/\o.data=.dict es ep/\es.toList=xs.map (entryOfKey (tupleKind (j4 P w)))/\(xs.map (·.1)).Nodup
 |.set S n=>h.SetOf (intKind P w) a S n
 |.ins C dx fs=>H dx=!.own a/\-fs<=1000/\dx≠a/\h.get? a=!PySem.W.instObj C dx /\
   ∃mA,h.Ns1 dx mA/\(∀f,C7 (fs.lookup f) (mA f))/\PySem.Within mA (fs.map (·.1))
 |.own _=>∃o,h.get? a=!o
 |.xd fs=>∃mA,h.Ns1 a mA/\∀f,C7 (fs.lookup f) (mA f)
 |.mB lo hi=>∃t u v,h.get? a=some { cls:=.type "range",data:=.fields (List.toArray [.int lo t,.int hi u,.int 1 v]) }
 |.jJ o u=>h.get? a=!o/\j7 H h a u
 |.qk ps=>h.get? a=some { cls:=.none,data:=.fields ps }
 |.met f x=>h.get? a=!PySem.W.methodObj (.ref f) (.ref x)
 |.ext φ=>φ h/\(∃o,h.get? a=!o)/\∀h1 h2:Heap,φ h1->(∀o,h1.get? a=!o->h2.get? a=!o)->φ h2
def fU(H:Hp)(h:Heap):Prop:=∀a o,H a=!o->j7 P w H h a o
end
def j7.lt(x:j7 P w H h a o):a<h.objs.size:=by
 cases o with
 |lst xs=>let#[_,_,_,_,e]:=x;show aq e
 |tup xs=>let#[_,_,_,p]:=x;show p.tup.lt
 |dK kvs=>let#[_,_,_,_,o,_,_,e,_]:=x;show aq e
 |dT kvs=>let#[_,_,_,_,o,_,_,e,_]:=x;show aq e
 |set S n=>let#[o,_,_,_,e,_]:=x;show aq e
 |ins C dx fs=>let#[_,_,_,e,_]:=x;show aq e
 |own y=>let#[_,e]:=x;show aq e
 |xd fs=>let#[_,#[_,_,_,e,_],_]:=x;show aq e
 |mB lo hi=>let#[_,_,_,e]:=x;show aq e
 |jJ ob u=>let#[e,_]:=x;show aq e
 |qk ps=>show aq (show h.get? a=some _ from x)
 |met f y=>show aq (show h.get? a=some _ from x)
 |ext φ=>let#[_,#[_,e],_]:=x;show aq e
def Paired.Ka{β:Type}{F G:α->β->Prop}{l₁:List α}{wA:List β}(h:Paired F l₁ wA)(f:∀a b,F a b->G a b):Paired G l₁ wA:=by
 induction h with
 |nil=>show .nil
 |cons r t ih=>show .cons (f _ _ r) ih
def j7.G6(x:j7 P w H h a o)(k:∀b u,(b=a\/H b=!.own a)->h.get? b=!u->h'.get? b=!u)(ho:∀b,H b=!.own a->H' b=!.own a)(ht:∀b xs,H b=!.tup xs->H' b=!.tup xs):j7 P w H' h' a o:=by
 induction o with
 |lst xs=>let#[z,aS,n,r,e]:=x;show#[z,aS,n,r,k _ _ (.inl rfl) e]
 |tup xs=>let#[z,aS,r,ob,e,c]:=x;show#[z,aS,r,ob,k _ _ (.inl rfl) e,c]
 |dK kvs=>let#[z,y,vs,r,ob,es,ep,e,c]:=x;show#[z,y,vs,r,ob,es,ep,k _ _ (.inl rfl) e,c]
 |dT kvs =>
  let#[z,y,xs,r,ob,es,ep,e,c]:=x;show#[z,y,xs,Paired.Ka r λp q z=>#[z.1,ht _ _ z.2.1,z.2.2],ob,es,ep,k _ _ (.inl rfl) e,c]
 |set S n=>let#[ob,es,ep,t,e,c]:=x;show#[ob,es,ep,t,k _ _ (.inl rfl) e,c]
 |ins C dx fs =>
  let#[d,z,ne,e,mA,#[od,es,ep,e2,c],r]:=x;show#[ho _ d,z,ne,k _ _ (.inl rfl) e,mA,#[od,es,ep,k _ _ (.inr d) e2,c],r]
 |own y=>let#[ob,e]:=x;show#[ob,k _ _ (.inl rfl) e]
 |xd fs=>let#[mA,#[od,es,ep,e,c],r]:=x;show#[mA,#[od,es,ep,k _ _ (.inl rfl) e,c],r]
 |mB lo hi=>let#[t,u,v,e]:=x;show#[t,u,v,k _ _ (.inl rfl) e]
 |jJ ob u ih=>let#[e,q]:=x;show#[k _ _ (.inl rfl) e,ih q]
 |qk ps =>
  let e:=x;show k a _ (.inl rfl) e
 |met f y =>
  let e:=x;show k a _ (.inl rfl) e
 |ext φ=>let#[p,#[o,e],st]:=x;show#[st _ _ p λo q=>k _ _ (.inl rfl) q,#[o,k _ _ (.inl rfl) e],st]
def fU.lt(x:fU P w H h)(e:H a=!o):a<h.objs.size:=(x a o e).lt
def fU.fresh(x:fU P w H h)(e:h.objs.size<=a):H a=none:=by
 cases q:H a with
 |none=>rfl
 |some u=>show absurd (av (x.lt q) e) (bR _)
def fU.kept(x:fU P w H h)(k:∀b u,h.get? b=!u->h'.get? b=!u):fU P w H h':=λa o e =>
 (x a o e).G6 (λb u y q=>k b u q) (λy q=>q) λy y q=>q
def fU.laid(x:fU P w H h)(k:∀b u,h.get? b=!u->h'.get? b=!u)(hp:h.objs.size<=a)(new:j7 P w (upd H a o) h' a o):fU P w (upd H a o) h':=λb u e=>by
 let hn:=x.fresh hp;by_cases hb:b=a
 .subst hb;rw[k7] at e;simp_all
 .rw[d8 hb] at e;show(x b u e).G6 (λc v y q=>k c v q) (λc q=>by rw[d8 (j3 q hn)];show q) λc xs q=>by rw[d8 (j3 q hn)];show q
def Rd(H:Hp)(a:Addr)(u:HO):Prop:=H a=!u\/∃o,H a=!.jJ o u
def Rd.ok{u:HO}(r:Rd H a u)(x:fU P w H h):j7 P w H h a u:=by
 rcases r with r|⟨o,r⟩
 .exact x a u r
 .let#[_,q]:=x a _ r;show q
abbrev za:Option HO->Prop
 |some (.lst _)=>True
 |some (.dK _)=>True
 |some (.dT _)=>True
 |some (.set _ _)=>True
 |some (.ins _ _ _)=>True
 |some (.ext _)=>True
 |_=>False
section
variable{x e:Addr}{o':HO}
def fU.write(ok:fU P w H h)(mu:za (H x))(he:e=x\/H e=!.own x)(k:∀b u,b≠e->h.get? b=!u->h'.get? b=!u)(xk:∃u,h'.get? e=!u)(new:j7 P w (upd H x o') h' x o'):fU P w (upd H x o') h':=λb u q=>by
 let wo:∀c y,H c=!.own y->c≠x:=λc y r z=>by subst z;rw[r] at mu;show mu
 let BL:∀c xs,H c=!.tup xs->c≠x:=λc xs r z=>by subst z;rw[r] at mu;show mu
 by_cases hb:b=x
 .subst hb;rw[k7] at q;cases q;show new
 .rw[d8 hb] at q;by_cases uA:b=e
  .let q':H b=!.own x:=by
    rcases he with z|z
    .exact absurd (uA.trans z) hb
    .rw[uA];show z
   rw[q] at q';cases q';let#[v,hv]:=xk;show#[v,by rw[uA];show hv]
  .refine(ok b u q).G6 (λc v hc r=>k c v ?_ r) (λc r=>by rw[d8 (wo c b r)];show r) λc xs r=>by rw[d8 (BL c xs r)];show r
   rcases hc with rfl|hc
   .exact uA
   .rintro rfl;rcases he with z|z
    .exact wo c b hc z
    .rw[hc] at z;cases z;show hb rfl
end
structure Un(fs ex:@&Addr)(H H':Hp)(h h':Heap):Prop where
 keep:∀b o,h.get? b=!o->H b=none->b∉fs->b∉ex->h'.get? b=!o
 slot:∀b o,h.get? b=!o->H b=none->b∈fs->b∉ex->∃sl,h'.get? b=some { o with slots:=sl }
 free:∀b o,h.get? b=!o->H b=none->b∉ex->H' b=none
 there:∀b o,h.get? b=!o->b∉ex->∃o',h'.get? b=!o'
 iE:∀b xs,H b=!.tup xs->H' b=!.tup xs
 iu:∀b o u,H b=!.jJ o u->H' b=!.jJ o u
 iG:∀b ps,H b=!.qk ps->∃more,H' b=!.qk (ps++more)
section
variable{fs ex:@&Addr}{H1:Hp}{h1:Heap}{x e:Addr}
def Un.any(u:Un fs ex H H1 h h1){ob:Obj}(q:h.get? b=!ob)(n:H b=none)(hx:b∉ex):∃sl,h1.get? b=some { ob with slots:=sl }:=by
 by_cases hb:b∈fs
 .exact u.slot b ob q n hb hx
 .exact#[ob.slots,u.keep b ob q n hb hx]
def Un.kept(k:∀b u,h.get? b=!u->h'.get? b=!u):Un fs ex H H h h' :=
 #[λb ob q x x x=>k b ob q,λb ob q x x x=>#[ob.slots,k b ob q],λx x x n x=>n,λb ob q x=>#[ob,k b ob q],λx x q=>q,λx x x q=>q,λx ps q=>#[(List.toArray []),by rw[q];simp]]
def Un.refl:Un fs ex H H h h:=Un.kept λx x q=>q
def Un.laid(k:∀b u,h.get? b=!u->h'.get? b=!u)(hp:h.objs.size<=a)(hn:H a=none):Un fs ex H (upd H a o) h h' where
 keep:=λb u q x x x=>k b u q
 slot:=λb u q x x x=>#[u.slots,k b u q]
 free:=λb u q n x=>by rw[d8 (aF (av (aq q) hp))];show n
 there:=λb u q x=>#[u,k b u q]
 iE:=λb xs q=>by rw[d8 (j3 q hn)];show q
 iu:=λb u xs q=>by rw[d8 (j3 q hn)];show q
 iG:=λb ps q=>#[(List.toArray []),by rw[d8 (j3 q hn),q];simp]
def Un.write(mu:za (H x))(he:e=x\/H e=!.own x)(k:∀b u,b≠e->h.get? b=!u->h'.get? b=!u)(xk:∃u,h'.get? e=!u):Un fs ex H (upd H x o) h h':=by
 let hx:∀b,H b=none->b≠x:=λb n z=>by subst z;rw[n] at mu;show mu
 let hb:∀b,H b=none->b≠e:=λb n z=>by
  simp_all
 let hm:∀b u,H b=!u->¬za (!u)->b≠x:=λb u q nm z=>by simp_all
 show #[λb u q n y y=>k b u (hb b n) q,λb u q n y y=>#[u.slots,k b u (hb b n) q],λb u q n y=>by rw [d8 (hx b n)];show n,λb u q y=>?_,
  λb xs q=>by rw [d8 (hm b _ q λz=>z)];show q,λb u xs q=>by rw [d8 (hm b _ q λz=>z)];show q,λb ps q=>#[(List.toArray []),by rw [d8 (hm b _ q λz=>z),q];simp]]
 by_cases uA:b=e
 .simp_all
 .exact#[u,k b u uA q]
end
abbrev oW(h:Heap)(H:Hp):@&Addr:=(List.range h.objs.size).filter λa=>(H a).isSome
abbrev qd(h:Heap)(H:Hp):Heap:=PySem.W.hideAll h (oW h H)
def a86(h:Heap)(H:Hp):(qd h H).objs.size=h.objs.size:=PySem.W.hideAll_size _ _
def Uy{o:Obj}(e:h.get? b=!o)(n:H b=none):(qd h H).get? b=!o :=
 GO _ e λhm=>by
  let q:=(cv.mp hm).2;rw[n] at q;simp at q
def Sm{o:Obj}(e:(qd h H).get? b=!o):h.get? b=!o/\H b=none:=by
 let e':=OO (oW h H) e;show#[e',?_];cases q:H b with
 |none=>rfl
 |some x =>
  let hm:b∈oW h H:=cv.mpr #[gh.mpr (aq e'),by simp[q]];let z:(qd h H).get? b=none:=PySem.W.hideAll_none (oW h H) hm
  simp_all
structure Mod(K:PySem.W.Frag)(mg:Str->Option Value)(base:Heap):Prop where
 nz:K.In base
 glob:base.Ns mainGlobals mg
 blt:∃mb,base.Ns builtinsNs mb/\∀x:Str,x≠"__name__"->mb x=bootBuiltins x
 nolimit:base.NoLimit
structure Cx where
 prog:Program
 w:World
 K:PySem.W.Frag
 mg:Str->Option Value
 base:Heap
 A:Around
 N:@&Str
 dA:Shared
 jt:Hp
 env:Env
 outer:@&Env
 stack:@&Env
 ex:@&Addr
 fn:Str->Bool
 calm:Bool
 pn:@&(Addr×Obj)
 xe:Value->Shared->Prop
 sg:Option (List (Option V)):=none
def Cx.Nd(X:Cx):Prop:=X.N.Nodup/\X.sg=none
abbrev fO(l:@&Env):@&Addr:=l.filterMap (·.frame)
noncomputable abbrev Cx.fs(X:Cx):@&Addr:=fO X.outer
def tM(sc:Scope)(x:Str):Prop:=sc.names.lookup x=!.local\/sc.names.lookup x=!.cell\/sc.names.lookup x=!.free
def Loc(sc:Scope)(x:Str):Prop:=sc.names.lookup x=!.local\/sc.names.lookup x=!.cell
abbrev Look(env:Env)(h:Heap)(m:Str->Option Value)(x:Str)(u:Value):Prop :=
 (env.kindOf x=!.local/\m x=!u)\/((env.kindOf x=!.cell\/env.kindOf x=!.free)/\∃c,env.cells.lookup x=!c/\h.IsCell c (!u))
structure Cx.Ok(X:Cx):Prop where
 mod:Mod X.K X.mg X.base
 kind:X.env.scope.kind=.function
 glob:X.env.globals=mainGlobals
 blt:X.env.builtins=builtinsNs
 above:X.dA.heap.objs.size<=X.env.locals
 inj:∀x y c,X.env.cells.lookup x=!c->X.env.cells.lookup y=!c->x=y
 has:∀x,(X.env.kindOf x=!.cell\/X.env.kindOf x=!.free)->∃c,X.env.cells.lookup x=!c
 qP:∀x c,X.fn x=true->X.env.cells.lookup x=!c->X.dA.heap.objs.size<=c
 hd:X.calm=true->X.A.handled=none
 frames:X.A.frames=!X.stack
 rE:X.stack=X.outer\/(X.stack=X.env::X.outer/\X.env.frame=!X.env.locals)
 yc:∀b∈X.ex,b≠X.env.locals/\∀x c,X.env.cells.lookup x=!c->c≠b
 bs:∀b o,X.base.get? b=!o->X.dA.heap.get? b=!o/\X.jt b=none
 nV:X.base.objs.size<=X.dA.heap.objs.size
 ka:∀b o,X.base.get? b=!o->b∉X.ex
 kT:∀b∈X.ex,b∉X.fs
 J9:X.dA.heap.FunFrames X.base X.outer
 oz:∀b∈X.fs,X.jt b=none
structure Inv(X:Cx)(pi:@&(Addr×Obj))(σ:@&(Option V))(H:Hp)(s:Shared):Prop where
 ok:X.Ok
 os:s.os=X.dA.os
 bare:AllBare s.gens
 base:Un X.fs X.ex X.jt H X.dA.heap s.heap
 loc:∃m,s.heap.Ns X.env.locals m/\∀(i:Nat) (x:Str) (v:V),X.N[i]?=!x->σ[i]?=!!v->tM X.env.scope x->∃u,RelV v u/\Look X.env s.heap m x u
 cell:∀x c,X.env.cells.lookup x=!c->∃v,s.heap.IsCell c v
 free:H X.env.locals=none
 eW:∀x c,X.env.cells.lookup x=!c->H c=none
 pin:∀p∈X.pn++pi,s.heap.get? p.1=!p.2/\H p.1=none/\p.1≠X.env.locals/\p.1∉X.fs/\∀v,p.2.data≠.cell v
 bB:fU X.prog X.w H s.heap
 len:σ.length=-X.N
 sg:∀cZ,X.sg=!cZ->σ=cZ
section
variable{σ:@&(Option V)}
def Cx.Ok.b37(ok:X.Ok){o:Obj}(e:X.base.get? b=!o):b∉X.fs:=λhb=>by
 have:=(ok.J9.mem hb).1
 simp_all
def Inv.bs(I:Inv X pi σ H s):∀b o,X.base.get? b=!o->s.heap.get? b=!o/\H b=none:=λb o e =>
 #[I.base.keep b o (I.ok.bs b o e).1 (I.ok.bs b o e).2 (I.ok.b37 e) (I.ok.ka b o e),I.base.free b o (I.ok.bs b o e).1 (I.ok.bs b o e).2 (I.ok.ka b o e)]
def Inv.bk(I:Inv X pi σ H s):∀b o,X.base.get? b=!o->s.heap.get? b=!o:=λb o e=>(I.bs b o e).1
def Inv.mod(I:Inv X pi σ H s):Mod X.K X.mg X.base:=I.ok.mod
def Inv.fZ(I:Inv X pi σ H s):X.K.In s.heap:=I.ok.mod.nz.keeps I.bk
def Inv.lt(I:Inv X pi σ H s):X.env.locals<s⁻¹:=let ⟨_,hn,_⟩:=I.loc;hn.lt
def Inv.sz(I:Inv X pi σ H s):X.dA.heap.objs.size<=s⁻¹:=aH I.ok.above (eJ I.lt)
def Inv.AX(I:Inv X pi σ H s)(h:s⁻¹<=a):a∉X.fs:=λhb=>by
 let#[_,o,ho,_]:=I.ok.J9.mem hb;show absurd (av (aq ho) (aH I.sz h)) (bR _)
def Inv.sT(I:Inv X pi σ H s):∀x c,X.env.cells.lookup x=!c->c≠X.env.locals:=λx c e z=>by
 let#[v,o,ho,hd]:=I.cell x c e;let#[m,#[o',es,ep,kN,sG,_],_]:=I.loc
 simp_all
def Inv.J9(I:Inv X pi σ H s):s.heap.FunFrames X.base X.outer:=by
 let all:∀(l:@&Env),(∀b∈fO l,b∈X.fs)->X.dA.heap.FunFrames X.base l->s.heap.FunFrames X.base l:=by
  intro l
  induction l with
  |nil=>intro _ _;trivial
  |cons env r ih =>
   intro hs hl;let#[hk,#[L,o,hf,hn,ho,hd],hr]:=hl;let hL:=hs L (by unfold fO;rw[cP,hf];show jW);let#[sl,e]:=I.base.slot L o ho (I.ok.oz L hL) hL λz=>I.ok.kT L z hL;show#[hk,#[L,_,hf,hn,e,hd],ih (λb hb=>hs b (by unfold fO;rw[cP,hf];show bL _ hb)) hr]
 show all X.outer (λx hb=>hb) I.ok.J9
def Inv.stack(I:Inv X pi σ H s):s.heap.FunFrames X.base X.stack:=by
 rcases I.ok.rE with e|⟨e,hf⟩
 .rw[e];show I.J9
 .rw[e];let#[m,hn,_]:=I.loc;show .cons (by rw[I.ok.kind];decide) hf hn ?_ I.J9;show Heap.get?_none_of_le (aH I.ok.nV I.ok.above)
def Inv.Q1(I:Inv X pi σ H s):∀b∈fO X.stack,b∈X.env.locals::X.fs:=λb hb=>by
 rcases I.ok.rE with e|⟨e,hf⟩
 .rw[e] at hb;show bL _ hb
 .rw[e] at hb;unfold fO at hb;rw[cP,hf] at hb;show hb
def Inv.AG(I:Inv X pi σ H s):∀b∈fO X.stack,H b=none:=λb hb=>by
 rcases aG.mp (I.Q1 b hb) with e|hb
 .rw[e];show I.free
 .let#[_,o,ho,_]:=I.ok.J9.mem hb;show I.base.free b o ho (I.ok.oz b hb) λz=>I.ok.kT b z hb
def Inv.step{g':Array GenState}{t':Nat}{d':Drawn}{ch:@&Addr}(I:Inv X pi σ H s)(lX:∀b∈ch,(b∈X.ex\/X.dA.heap.objs.size<=b)/\b≠X.env.locals/\(∀x c,X.env.cells.lookup x=!c->c≠b)/\∀p∈X.pn++pi,p.1≠b)(keep:∀b o,b≠X.env.locals->b∉X.fs->b∉ch->s.heap.get? b=!o->H b=none->h'.get? b=!o)(slot:∀b o,b≠X.env.locals->b∈X.fs->b∉ch->s.heap.get? b=!o->H b=none->∃sl,h'.get? b=some { o with slots:=sl })(free:∀b o,b∉ch->s.heap.get? b=!o->H b=none->H' b=none)(there:∀b o,b∉ch->s.heap.get? b=!o->∃o',h'.get? b=!o')(iE:∀b xs,H b=!.tup xs->H' b=!.tup xs)(iu:∀b o u,H b=!.jJ o u->H' b=!.jJ o u)(iG:∀b ps,H b=!.qk ps->∃more,H' b=!.qk (ps++more))(ns:∀m,s.heap.Ns X.env.locals m->h'.Ns X.env.locals m)(bB:fU X.prog X.w H' h')(hg:AllBare g') :
  Inv X pi σ H' { s with heap:=h',gens:=g',drawn:=d',toks:=t' }:=by
 let Hj:∀b o,X.dA.heap.get? b=!o->b≠X.env.locals:=λb o e=>aF (av (aq e) I.ok.above);let ue:∀b o,X.dA.heap.get? b=!o->b∉X.ex->b∉ch:=λb o e hx hb=>by
  rcases(lX b hb).1 with z|z
  .exact hx z
  .exact absurd (av (aq e) z) (bR _)
 let cellK:∀x c,X.env.cells.lookup x=!c->∀v,s.heap.IsCell c v->h'.IsCell c v:=λx c e v bh=>by
  let#[o,ho,hd]:=bh;let wy:c∉ch:=λz=>(lX c z).2.2.1 x c e rfl;by_cases hc:c∈X.fs
  .let#[sl,q]:=slot c o (I.sT x c e) hc wy ho (I.eW x c e);show#[_,q,hd]
  .exact#[o,keep c o (I.sT x c e) hc wy ho (I.eW x c e),hd]
 show#[I.ok,I.os,hg,#[λb o e n hb hx=>?_,λb o e n hb hx=>?_,λb o e n hx=>?_,λb o e hx=>?_,λb xs e=>iE b xs (I.base.iE b xs e),λb o xs e=>iu b o xs (I.base.iu b o xs e),λb ps e=>?_],?_,λx c e=>?_,?_,λx c e=>?_,λp hp=>?_,bB,I.len,I.sg]
 .exact keep b o (Hj b o e) hb (ue b o e hx) (I.base.keep b o e n hb hx) (I.base.free b o e n hx)
 .let#[sl,e1]:=I.base.slot b o e n hb hx;let#[Pj,e2]:=slot b _ (Hj b o e) hb (ue b o e hx) e1 (I.base.free b o e n hx);show#[Pj,e2]
 .let#[o',e1]:=I.base.there b o e hx;show free b o' (ue b o e hx) e1 (I.base.free b o e n hx)
 .let#[o',e1]:=I.base.there b o e hx;show there b o' (ue b o e hx) e1
 .let#[m1,e1]:=I.base.iG b ps e;let#[m2,e2]:=iG b _ e1;show#[m1++m2,by rw[e2,OU]]
 .let#[m,hn,hl]:=I.loc;show#[m,ns m hn,λi x v e1 e2 e3=>?_];let#[u,r,l]:=hl i x v e1 e2 e3;show#[u,r,?_];rcases l with l|⟨k,c,e,z⟩
  .exact .inl l
  .exact .inr #[k,c,e,cellK x c e _ z]
 .let#[v,z]:=I.cell x c e;show#[v,cellK x c e v z]
 .let#[m,#[o,_,_,ho,_],_]:=I.loc;show free _ o (λz=>(lX _ z).2.1 rfl) ho I.free
 .let#[v,o,ho,hd]:=I.cell x c e;show free c o (λz=>(lX c z).2.2.1 x c e rfl) ho (I.eW x c e)
 .let#[e,n,ne,nf,d]:=I.pin p hp;let wy:p.1∉ch:=λz=>(lX p.1 z).2.2.2 p hp rfl;show#[keep p.1 p.2 ne nf wy e n,free p.1 p.2 wy e n,ne,nf,d]
def Inv.un{t':Nat}(I:Inv X pi σ H s)(u:Un X.fs [] H H' s.heap h')(bB:fU X.prog X.w H' h'):Inv X pi σ H' { s with heap:=h',toks:=t' }:=by
 let#[m,#[o,es,ep,ho,r],_]:=id I.loc;let#[sl,hL]:=u.any ho I.free #[_];show I.step (g':=s.gens) (d':=s.drawn) (ch:=[]) (λx z=>nomatch z) (λb o x hb x e n=>u.keep b o e n hb #[_]) (λb o x hb x e n=>u.slot b o e n hb #[_]) (λb o x e n=>u.free b o e n #[_]) (λb o x e=>u.there b o e #[_]) u.iE u.iu u.iG (λm' hm=>by
  let#[o',ml,Ab,kN,r']:=hm;rw[ho] at kN;cases kN;show #[_,ml,Ab,hL,r']) bB I.bare
def Inv.call{g':Array GenState}{t':Nat}{d':Drawn}(I:Inv X pi σ H s)(u:Un (fO X.stack) ch H H' s.heap h')(bB:fU X.prog X.w H' h')(hg:AllBare g')(lX:∀b∈ch,(b∈X.ex\/X.dA.heap.objs.size<=b)/\b≠X.env.locals/\(∀x c,X.env.cells.lookup x=!c->c≠b)/\∀p∈X.pn++pi,p.1≠b) :
  Inv X pi σ H' { s with heap:=h',gens:=g',drawn:=d',toks:=t' }:=by
 let#[m,#[o,es,ep,ho,r],_]:=id I.loc;let#[sl,hL]:=u.any ho I.free λz=>(lX _ z).2.1 rfl;show I.step lX (λb o hL hb hc e n=>u.keep b o e n (λz=>(aG.mp (I.Q1 b z)).elim hL hb) hc) (λb o y y hc e n=>u.any e n hc) (λb o hc e n=>u.free b o e n hc) (λb o hc e=>u.there b o e hc) u.iE u.iu u.iG (λm' hm=>by
  let#[o',ml,Ab,kN,r']:=hm;rw[ho] at kN;cases kN;show #[_,ml,Ab,hL,r']) bB hg
def Inv.turned{t':Nat}{it:Addr}(I:Inv X pi σ H s)(k:∀b o,b≠it->s.heap.get? b=!o->h'.get? b=!o)(hn:H it=none)(hL:it≠X.env.locals)(h1:it∈X.ex\/X.dA.heap.objs.size<=it)(h2:∀x c,X.env.cells.lookup x=!c->c≠it)(h3:∀p∈X.pn++pi,p.1≠it):Inv X pi σ H { s with heap:=h',toks:=t' }:=by
 let Hi:∀b u,H b=!u->b≠it:=λb u e z=>by simp_all
 show I.step (g':=s.gens) (d':=s.drawn) (ch:=[it]) (λb hb=>?_) (λb o y y hc e y=>k b o (λz=>hc (by simp[z])) e) (λb o y y hc e y=>#[o.slots,k b o (λz=>hc (by simp[z])) e]) (λy y y y n=>n)
  (λb o hc e=>#[o,k b o (λz=>hc (by simp[z])) e]) (λy y e=>e) (λy y y e=>e) (λb ps e=>#[(List.toArray []),by rw[e];simp]) (λm hm=>?_) (λb u e=>?_) I.bare
 .let e:b=it:=by simpa using hb
  subst e;show#[h1,hL,h2,h3]
 .let#[o,es,ep,ho,r]:=hm;show#[o,es,ep,k _ o (aU hL) ho,r]
 .refine(I.bB b u e).G6 (λc v hc q=>k c v ?_ q) (λy q=>q) λy y q=>q;rcases hc with z|z
  .rw[z];show Hi b u e
  .exact Hi c _ z
def Inv.tok(I:Inv X pi σ H s)(t:Nat):Inv X pi σ H { s with toks:=t }:=I.un (h':=s.heap) (t':=t) Un.refl I.bB
def Inv.kept{t':Nat}(I:Inv X pi σ H s)(k:∀b u,s.heap.get? b=!u->h'.get? b=!u):Inv X pi σ H { s with heap:=h',toks:=t' }:=I.un (Un.kept k) (I.bB.kept k)
def Inv.laid{a:Addr}{o:HO}{t':Nat}(I:Inv X pi σ H s)(k:∀b u,s.heap.get? b=!u->h'.get? b=!u)(hp:s⁻¹<=a)(new:j7 X.prog X.w (upd H a o) h' a o) :
  Inv X pi σ (upd H a o) { s with heap:=h',toks:=t' }:=I.un (Un.laid k hp (I.bB.fresh hp)) (I.bB.laid k hp new)
def Inv.write{x e:Addr}{o:HO}{t':Nat}(I:Inv X pi σ H s)(mu:za (H x))(he:e=x\/H e=!.own x)(k:∀b u,b≠e->s.heap.get? b=!u->h'.get? b=!u)(xk:∃u,h'.get? e=!u)(new:j7 X.prog X.w (upd H x o) h' x o):Inv X pi σ (upd H x o) { s with heap:=h',toks:=t' }:=I.un (Un.write mu he k xk) (I.bB.write mu he k xk new)
def Inv.weak{cu:@&(Option V)}(hs:X.sg=none)(I:Inv X pi σ H s)(hl:-cu=σ.length)(w:∀(i:Nat) v,cu[i]?=!!v->σ[i]?=!!v):Inv X pi cu H s :=
 #[I.ok,I.os,I.bare,I.base,let ⟨m,hn,QA⟩:=I.loc;#[m,hn,λi x v e1 e2 e3=>QA i x v e1 (w i v e2) e3],I.cell,I.free,I.eW,I.pin,I.bB,hl.trans I.len,λy z=>by simp_all]
def Inv.Z9{fM:@&(Addr×Obj)}(I:Inv X pi σ H s)(h:∀p∈fM,s.heap.get? p.1=!p.2/\H p.1=none/\p.1≠X.env.locals/\p.1∉X.fs/\∀v,p.2.data≠.cell v):Inv X fM σ H s :=
 #[I.ok,I.os,I.bare,I.base,I.loc,I.cell,I.free,I.eW,λp hp=>(bS.mp hp).elim (λz=>I.pin p (fE _ z)) (h p),I.bB,I.len,I.sg]
def Nr(hN:N.Nodup){j:Nat}(a:N[i]?=!x)(b:N[j]?=!x):i=j:=by
 let#[h1,e1]:=ax.mp a;let#[h2,e2]:=ax.mp b;show(List.getElem_inj hN).mp (e1.trans e2.symm)
def KR{Q:Unit->Shared->Prop}(I:Inv X pi σ H s)(hN:X.Nd)(hi:X.N[i]?=!x)(hx:Loc X.env.scope x)(r:RelV v u)(h:∀s',Inv X pi (σ.set i (!v)) H s'->(∃a,Heap.SameBut a s.heap s'.heap/\(a=X.env.locals\/X.env.cells.lookup x=!a))->Q Unit.unit s')(hf:X.fn x=true\/X.env.scope.names.lookup x=!.local:=by first|show .inl rfl|show .inr rfl|assumption):wpAny M A (storeName X.env x u) Q E s:=by
 let#[m,hn,hl]:=id I.loc;let jH:(X.env.scope.kind==.class||(X.env.scope.kind==.module&&X.env.locals != X.env.globals))=false:=by rw[I.ok.kind];rfl
 let xh:i<σ.length:=by rw[I.len];show(ax.mp hi).1
 let sT:=I.sT;let tracked:∀{a:Addr} {h':Heap},(∃o,s.heap.get? a=!o/\H a=none)->Heap.SameBut a s.heap h'->fU X.prog X.w H h':=λ{a h'} ha hs b ob e=>by
  let#[_,_,lA]:=ha;show(I.bB b ob e).G6 (λc w' hc q=>(hs.2 c ?_).trans q) (λt q=>q) λt t q=>q;rintro rfl;rcases hc with rfl|hc
  .rw[lA] at e;cases e
  .rw[lA] at hc;cases hc
 rcases hx with hk|hk
 .refine wpAny_storeName_local hk hn (λh' wZ hs=>?_) jH;let#[oL,_,_,wW,_]:=id hn;show h _ #[I.ok,I.os,I.bare,#[λb o e n hb hx=>?_,λb o e n hb hx=>?_,I.base.free,λb o e hx=>?_,I.base.iE,I.base.iu,I.base.iG],#[_,wZ,λj y v' e1 e2 e3=>?_],λy c e=>?_,I.free,I.eW,λp hp=>?_,tracked #[oL,wW,I.free] hs,by simpa using I.len,λt z=>by rw[hN.2] at z;cases z] #[_,hs,.inl rfl]
  .exact(hs.2 b (aF (av (aq e) I.ok.above))).trans (I.base.keep b o e n hb hx)
  .let#[sl,e1]:=I.base.slot b o e n hb hx;show#[sl,(hs.2 b (aF (av (aq e) I.ok.above))).trans e1]
  .let#[o',e1]:=I.base.there b o e hx;show#[o',(hs.2 b (aF (av (aq e) I.ok.above))).trans e1]
  .by_cases hj:j=i
   .subst hj;rw[hi] at e1;cases e1;rw[aX xh] at e2;cases e2;show#[u,r,.inl #[hk,by simp]]
   .rw[aE (aU hj)] at e2;let#[u',r',q]:=hl j y v' e1 e2 e3;show#[u',r',?_];rcases q with⟨k,e⟩|⟨k,c,e,z⟩
    .refine .inl #[k,?_];have:y≠x:=λe=>hj (Nr hN.1 e1 (e▸hi));simp[this,e]
    .exact .inr #[k,c,e,z.sameBut hs (sT y c e)]
  .let#[w',z]:=I.cell y c e;show#[w',z.sameBut hs (sT y c e)]
  .let#[e,n,ne,nf,d]:=I.pin p hp;show#[(hs.2 p.1 ne).trans e,n,ne,nf,d]
 .let uy:X.fn x=true:=by
   simp_all
  let#[c,hc]:=I.ok.has x (.inl hk);let#[w',z]:=I.cell x c hc;show wpAny_storeName_cell I.ok.kind hk hc z (λh' xt hs=>?_);let#[oc,Ck,Cj]:=id z;show h { s with heap:=h' } #[I.ok,I.os,I.bare,#[λb o e n hb hx=>?_,λb o e n hb hx=>?_,I.base.free,λb o e hx=>?_,I.base.iE,I.base.iu,I.base.iG],#[m,hn.sameBut hs (aU (sT x c hc)),λj y v' e1 e2 e3=>?_],λy c' e=>?_,I.free,I.eW,λp hp=>?_,tracked #[oc,Ck,I.eW x c hc] hs,by simpa using I.len,λt z=>by rw[hN.2] at z;cases z] #[c,hs,.inr hc]
  .exact(hs.2 b (aF (av (aq e) (I.ok.qP x c uy hc)))).trans (I.base.keep b o e n hb hx)
  .let#[sl,e1]:=I.base.slot b o e n hb hx;show#[sl,(hs.2 b (aF (av (aq e) (I.ok.qP x c uy hc)))).trans e1]
  .let#[o',e1]:=I.base.there b o e hx;show#[o',(hs.2 b (aF (av (aq e) (I.ok.qP x c uy hc)))).trans e1]
  .by_cases hj:j=i
   .subst hj;rw[hi] at e1;cases e1;rw[aX xh] at e2;cases e2;show#[u,r,.inr #[.inl hk,c,hc,xt]]
   .rw[aE (aU hj)] at e2;let#[u',r',q]:=hl j y v' e1 e2 e3;show#[u',r',?_];rcases q with q|⟨k,c',e,z'⟩
    .exact .inl q
    .refine .inr #[k,c',e,z'.sameBut hs ?_];rintro rfl;show hj (Nr hN.1 e1 (I.ok.inj _ _ _ e hc▸hi))
  .by_cases uz:c'=c
   .subst uz;show#[_,xt]
   .let#[w2,z2]:=I.cell y c' e;show#[w2,z2.sameBut hs uz]
  .let#[e,n,ne,nf,d]:=I.pin p hp;show#[(hs.2 p.1 ?_).trans e,n,ne,nf,d];intro q;rw[q,Ck] at e;let q':=aJ e;show d w' (by rw[<- q'];show Cj)
def EL{Q:Unit->Shared->Prop}(I:Inv X pi σ H s)(hN:X.Nd)(hi:X.N[i]?=!x)(hx:Loc X.env.scope x)(r:RelV v u)(h:∀s',Inv X pi (σ.set i (!v)) H s'->Q Unit.unit s')(hf:X.fn x=true\/X.env.scope.names.lookup x=!.local:=by first|show .inl rfl|show .inr rfl|assumption):wpAny M A (storeName X.env x u) Q E s :=
 KR I hN hi hx r (λs' I' y=>h s' I') hf
def Inv.FA{s':Shared}(I:Inv X pi σ H s)(ho:s'.os=s.os)(u:Un (fO X.stack) ch H H' s.heap s'.heap)(bB:fU X.prog X.w H' s'.heap)(hg:AllBare s'.gens)(lX:∀b∈ch,(b∈X.ex\/X.dA.heap.objs.size<=b)/\b≠X.env.locals/\(∀x c,X.env.cells.lookup x=!c->c≠b)/\∀p∈X.pn++pi,p.1≠b):Inv X pi σ H' s':=by
 let#[h',g',d',t',o']:=s';let e:o'=s.os:=ho;subst e;show I.call (g':=g') (t':=t') (d':=d') u bB hg lX
end
noncomputable abbrev XK:=Value->Option Addr->Hp->Prop
noncomputable abbrev St:=@&(Option V)
noncomputable abbrev VK:=V->Hp->Prop
noncomputable abbrev TE:=St->Hp->VK->Prop
noncomputable abbrev TT:=St->Hp->(Bool->Hp->Prop)->Prop
noncomputable abbrev TA:=St->Hp->(List V->Hp->Prop)->Prop
structure Ends where
 nx:St->Hp->Prop
 rt:VK
 bk:St->Hp->Prop:=λ_ _=>False
 ct:St->Hp->Prop:=λ_ _=>False
noncomputable abbrev TS:=Ends->St->Hp->Prop
def EP(X:Cx)(pi:@&(Addr×Obj))(σ:St)(Q:VK)(u:Value)(s':Shared):Prop:=∃v H',Inv X pi σ H' s'/\RelV v u/\Q v H'
def TP(X:Cx)(pi:@&(Addr×Obj))(σ:St)(Q:Bool->Hp->Prop)(b:Bool)(s':Shared):Prop:=∃H',Inv X pi σ H' s'/\Q b H'
def AP(X:Cx)(pi:@&(Addr×Obj))(σ:St)(Q:@&V->Hp->Prop)(us:@&Value)(s':Shared):Prop:=∃vs H',Inv X pi σ H' s'/\Vals vs us/\Q vs H'
abbrev SP(X:Cx)(pi:@&(Addr×Obj))(D:Ends)(f:Flow)(s':Shared):Prop :=
 match f with
 |.next=>∃cu H',Inv X pi cu H' s'/\D.nx cu H'
 |.brk=>∃cu H',Inv X pi cu H' s'/\D.bk cu H'
 |.cont=>∃cu H',Inv X pi cu H' s'/\D.ct cu H'
 |.ret u=>∃v cu H',Inv X pi cu H' s'/\RelV v u/\D.rt v H'
abbrev PE(X:Cx)(e:Expr)(t:TE):Prop :=
 ∀(pi:@&(Addr×Obj)) (s:Shared) (σ:St) (H:Hp) (Q:VK),Inv X pi σ H s->t σ H Q->wpAny (model X.prog X.w) X.A (eval e X.env) (EP X pi σ Q) X.xe s
abbrev PT(X:Cx)(e:Expr)(t:TT):Prop :=
 ∀(pi:@&(Addr×Obj)) (s:Shared) (σ:St) (H:Hp) (Q:Bool->Hp->Prop),Inv X pi σ H s->t σ H Q->wpAny (model X.prog X.w) X.A (isTrue e X.env (eval e X.env)) (TP X pi σ Q) X.xe s
abbrev PW(X:Cx)(e:Expr)(t:TT):Prop :=
 ∀(whole:Sem Value) (pi:@&(Addr×Obj)) (s:Shared) (σ:St) (H:Hp) (Q:Bool->Hp->Prop),Inv X pi σ H s->t σ H Q->wpAny (model X.prog X.w) X.A (isTrue e X.env whole) (TP X pi σ Q) X.xe s
def PW.pt{t:TT}(h:PW X e t):PT X e t:=h _
abbrev PA(X:Cx)(es:@&Expr)(t:TA):Prop :=
 ∀(pos:Pos) (pi:@&(Addr×Obj)) (s:Shared) (σ:St) (H:Hp) (Q:@&V->Hp->Prop),Inv X pi σ H s->t σ H Q->wpAny (model X.prog X.w) X.A (spliced (backTo pos (starEach es X.env))) (AP X pi σ Q) X.xe s
abbrev PS(X:Cx)(st:Stmt)(t:TS):Prop :=
 ∀(pi:@&(Addr×Obj)) (s:Shared) (σ:St) (H:Hp) (D:Ends),Inv X pi σ H s->t D σ H->wpAny (model X.prog X.w) X.A (exec st X.env) (SP X pi D) X.xe s
abbrev jv(X:Cx)(st:@&Stmt)(t:TS):Prop :=
 ∀(pi:@&(Addr×Obj)) (s:Shared) (σ:St) (H:Hp) (D:Ends),Inv X pi σ H s->t D σ H->wpAny (model X.prog X.w) X.A (execs st X.env) (SP X pi D) X.xe s
def cB{t:Sem α}{Q Q':α->Shared->Prop}(h:wpAny M A t Q E s)(hQ:∀a s,Q a s->Q' a s):wpAny M A t Q' E s:=bV h hQ λy y x=>x
section
def bin{a b:Expr}(ha:PE X a ta)(hb:PE X b tb){R:V->V->Hp->Prop}(I:Inv X pi σ H s)(h:ta σ H λx H1=>tb σ H1 λy H2=>R x y H2){Q:α->Shared->Prop}{f:Value->Value->Sem α}(hf:∀v u s2 x y H2,Inv X pi σ H2 s2->RelV x v->RelV y u->R x y H2->wpAny (model X.prog X.w) X.A (f v u) Q X.xe s2) :
  wpAny (model X.prog X.w) X.A (eval a X.env) (λv bN=>wpAny (model X.prog X.w) X.A (eval b X.env) (λu gx=>wpAny (model X.prog X.w) X.A (f v u) Q X.xe gx) X.xe bN) X.xe s:=by
 show cB (ha pi s σ H _ I h) λv s1 bh=>?_;let#[x,H1,I1,r1,q1]:=bh;show cB (hb pi s1 σ H1 _ I1 q1) λu s2 bh=>?_;let#[y,H2,I2,r2,q2]:=bh;show hf v u s2 x y H2 I2 r1 r2 q2
def b00(i:Nat):TE:=λσ H Q=>∃v,σ[i]?=!!v/\Q v H
def tC(v:V):TE:=λx H Q=>Q v H
def Gq(hN:X.N[i]?=!x)(hv:tM X.env.scope x)(hd:(x==("__debug__":Str))=false:=by decide)(lY:(x==("__classdict__":Str))=false:=by decide):PE X (.Name x pos) (b00 i):=by
 intro pi s σ H Q I h;let#[v,e,h]:=h;let#[m,hn,hl]:=I.loc;let#[u,r,l]:=hl i x v hN e hv;let fin:EP X pi σ Q u s:=#[v,H,I,r,h]
 rcases l with⟨hk,hm⟩|⟨hk,c,hc,lB⟩
 .exact wpAny_Name (wpAny_loadName_local I.ok.kind hk hn hm fin) hd
 .rcases hk with hk|hk
  .exact wpAny_Name (wpAny_loadName_cell I.ok.kind hk hc lB fin) hd
  .exact wpAny_Name (wpAny_loadName_free I.ok.kind hk hc lB fin lY) hd
def Za{i j pos}:PE X (.Constant (.int i) j pos) (tC (.int i)):=λx x x H x I h=>wpAny_Constant_int #[.int i,H,I.tok _,#[_,rfl],h]
def Xh{b j pos}:PE X (.Constant (.bool b) j pos) (tC (.bl b)):=λx x x H x I h=>Constant_bool #[.bl b,H,I,rfl,h]
def Zc{j pos}:PE X (.Constant .none j pos) (tC .aR):=λx x x H x I h=>Constant_none #[.aR,H,I,rfl,h]
def Oe{x j pos}:PE X (.Constant (.str x) j pos) (tC (.str x)):=λy y y H y I h=>Calls.Constant_str #[.str x,H,I.tok _,#[_,rfl],h]
def Gl(X:Cx)(x:Str):Prop:=X.env.kindOf x=!.globalImplicit
def O6(I:Inv X pi σ H s)(hg:Gl X x)(hm:X.mg x=!u)(h:Q u s)(hd:(x==("__debug__":Str))=false:=by decide):wpAny (model X.prog X.w) X.A (eval (.Name x pos) X.env) Q E s :=
 BA I.ok.kind hg (Calls.loadGlobal_global (by rw[I.ok.glob];show I.mod.glob.keeps I.bk) hm h) hd
def Q7(I:Inv X pi σ H s)(hg:Gl X x)(hm:X.mg x=none)(hv:bootBuiltins x=!u)(h:Q u s)(hn:x≠"__name__":=by decide)(hd:(x==("__debug__":Str))=false:=by decide):wpAny (model X.prog X.w) X.A (eval (.Name x pos) X.env) Q E s:=by
 let#[mb,h1,h2]:=I.mod.blt;show BA I.ok.kind hg (Calls.loadGlobal_builtin (by rw[I.ok.glob];show I.mod.glob.keeps I.bk) hm (by rw[I.ok.blt];show h1.keeps I.bk) ((h2 x hn).trans hv) h) hd
def AE(hg:Gl X x)(hm:X.mg x=!u)(r:RelV v u)(hd:(x==("__debug__":Str))=false:=by decide):PE X (.Name x pos) (tC v) :=
 λy y y H y I h=>O6 I hg hm #[v,H,I,r,h] hd
def Sy(hg:Gl X x)(hm:X.mg x=none)(hv:bootBuiltins x=!u)(r:RelV v u)(hn:x≠"__name__":=by decide)(hd:(x==("__debug__":Str))=false:=by decide):PE X (.Name x pos) (tC v) :=
 λy y y H y I h=>Q7 I hg hm hv #[v,H,I,r,h] hn hd
variable{a b:Expr}
variable{tA zu:TT}{rest:@&Expr}
def b12(t u:TT):TT:=λσ H Q=>t σ H λc H1=>if c=true then u σ H1 Q else Q false H1
def Pd(t u:TT):TT:=λσ H Q=>t σ H λc H1=>if c=true then Q true H1 else u σ H1 Q
def b05(t:TT):TT:=λσ H Q=>t σ H λc H1=>Q (~~~c) H1
def SR(ha:PT X a tA):PW X (.BoolOp .And [a] pos) tA:=by
 intro wh pi s σ H Q I h;show isTrue_and (cB (ha pi s σ H Q I h) λc s1 e=>?_);cases c with
 |true=>show isTrue_and_nil e
 |false=>show e
def Zu(ha:PT X a tA):PW X (.BoolOp .Or [a] pos) tA:=by
 intro wh pi s σ H Q I h;show isTrue_or (cB (ha pi s σ H Q I h) λc s1 e=>?_);cases c with
 |false=>show isTrue_or_nil e
 |true=>show e
def Zt(ha:PT X a tA)(hb:PW X (.BoolOp .And (b::rest) pos) zu):PW X (.BoolOp .And (a::b::rest) pos) (b12 tA zu):=by
 intro wh pi s σ H Q I h;show isTrue_and (cB (ha pi s σ H _ I h) ?_);rintro c s1 ⟨H1,I1,q1⟩;cases c with
 |true=>show hb wh pi s1 σ H1 Q I1 q1
 |false=>show#[H1,I1,q1]
def Xp(ha:PT X a tA)(hb:PW X (.BoolOp .Or (b::rest) pos) zu):PW X (.BoolOp .Or (a::b::rest) pos) (Pd tA zu):=by
 intro wh pi s σ H Q I h;show isTrue_or (cB (ha pi s σ H _ I h) ?_);rintro c s1 ⟨H1,I1,q1⟩;cases c with
 |true=>show#[H1,I1,q1]
 |false=>show hb wh pi s1 σ H1 Q I1 q1
def Zs(ha:PT X a tA):PT X (.UnaryOp .Not a pos) (b05 tA):=by
 intro pi s σ H Q I h;show isTrue_not (ha pi s σ H (λc H1=>Q (~~~c) H1) I h)
def XE(ta tb:TE):TE:=λσ H Q=>ta σ H λx H1=>∃c,x=.bl c/\if c=true then tb σ H1 Q else Q (.bl false) H1
def b04(ta tb:TE):TE:=λσ H Q=>ta σ H λx H1=>∃c,x=.bl c/\if c=true then Q (.bl true) H1 else tb σ H1 Q
def XI(ta:TE):TE:=λσ H Q=>ta σ H λx H1=>∃c,x=.bl c/\Q (.bl (~~~c)) H1
def Zf{op}{t:TE}(h:PE X a t):PE X (.BoolOp op [a] pos) t:=λpi s σ H Q I hw=>BoolOp_one (h pi s σ H Q I hw)
def YY(ha:PE X a ta)(hb:PE X (.BoolOp .And (b::rest) pos) tb):PE X (.BoolOp .And (a::b::rest) pos) (XE ta tb):=by
 intro pi s σ H Q I h;show BoolOp_and (cB (ha pi s σ H _ I h) λv s1 bh=>?_);let#[x,H1,I1,r1,q1]:=bh;let#[c,rfl,q1]:=q1;cases r1;show cC ?_;cases c with
 |true=>show hb pi s1 σ H1 Q I1 q1
 |false=>show#[.bl false,H1,I1,rfl,q1]
def Xk(ha:PE X a ta)(hb:PE X (.BoolOp .Or (b::rest) pos) tb):PE X (.BoolOp .Or (a::b::rest) pos) (b04 ta tb):=by
 intro pi s σ H Q I h;show BoolOp_or (cB (ha pi s σ H _ I h) λv s1 bh=>?_);let#[x,H1,I1,r1,q1]:=bh;let#[c,rfl,q1]:=q1;cases r1;show cC ?_;cases c with
 |false=>show hb pi s1 σ H1 Q I1 q1
 |true=>show#[.bl true,H1,I1,rfl,q1]
def Ze(ha:PE X a ta):PE X (.UnaryOp .Not a pos) (XI ta):=by
 intro pi s σ H Q I h;show UnaryOp_ (cB (ha pi s σ H _ I h) λv s1 bh=>?_);let#[x,H1,I1,r1,q1]:=bh;let#[c,rfl,q1]:=q1;cases r1;show not_of (cC #[.bl (~~~c),H1,I1,rfl,q1])
def Pe(t:TT)(ta tb:TE):TE:=λσ H Q=>t σ H λc H1=>if c=true then ta σ H1 Q else tb σ H1 Q
def Va(hc:PT X c tA)(ha:PE X a ta)(hb:PE X b tb):PE X (.IfExp c a b pos) (Pe tA ta tb):=by
 intro pi s σ H Q I h;show wpAny_IfExp (cB (hc pi s σ H _ I h) ?_);rintro d s1 ⟨H1,I1,q1⟩;cases d with
 |true=>show ha pi s1 σ H1 Q I1 q1
 |false=>show hb pi s1 σ H1 Q I1 q1
end
abbrev fT(K:PySem.W.Frag)(H:Hp)(a:Addr)(xs:@&V):Prop :=
 Rd H a (.lst xs) \/
  ∃(o:Obj) (aS:Array Value) (n:Nat),K.lookup a=!o/\o.cls=.type "list"/\o.dict=none/\o.data=.seq aS n/\aS.size<=sizeLine/\Vals xs aS.toList
abbrev gF(K:PySem.W.Frag)(H:Hp)(a:Addr)(xs:@&V):Prop :=
 Rd H a (.tup xs) \/
  ∃(o:Obj) (aS:Array Value) (n:Nat),K.lookup a=!o/\o.cls=.type "tuple"/\o.data=.seq aS n/\aS.size<=sizeLine/\Vals xs aS.toList
abbrev b64:Value->Option V
 |.none=>!.aR
 |.bool b=>!.bl b
 |.int i _=>!.int i
 |.str x _=>!.str x
 |.bytes b _=>!.lE b
 |.float b _=>!.sP b
 |.ref a=>!.ref a
 |.type n=>!.ty n
 |_=>none
def RelV.abs{x:V}(r:RelV x u):b64 u=!x:=by
 cases x with
 |aR=>cases r;rfl
 |bl _=>cases r;rfl
 |int _=>let#[t,rfl]:=r;rfl
 |str _=>let#[t,rfl]:=r;rfl
 |lE _=>let#[t,rfl]:=r;rfl
 |sP _=>let#[t,rfl]:=r;rfl
 |ref _=>cases r;rfl
 |ty _=>cases r;rfl
def RelV.inj{x y:V}{u:Value}(r:RelV x u)(q:RelV y u):x=y:=aJ (r.abs.symm.trans q.abs)
def Vals.inj{xs ys:@&V}{us:@&Value}(h:Vals xs us)(h':Vals ys us):xs=ys:=by
 induction h generalizing ys with
 |nil=>cases h';rfl
 |cons r t ih =>
  cases h' with
  |cons r' t'=>rw[r.inj r',ih t']
section
variable{ys:@&V}
def fT.of(h:H a=!.lst xs):fT K H a xs:=.inl (.inl h)
def Inv.list(I:Inv X pi σ H s)(h:fT X.K H a xs):∃aS:@&Value,Vals xs aS/\PlainL s.heap a aS.toArray/\-xs<=sizeLine:=by
 rcases h with h|⟨o,aS,n,hk,hc,hd,hs,hz,r⟩
 .let#[z,aS,n,r,e]:=h.ok I.bB;show#[aS,r,#[_,n,e,rfl,rfl,rfl],z]
 .refine#[aS.toList,r,#[o,n,I.fZ a o hk,hc,hd,by simpa using hs],?_];let e:=-r
  grind
def Inv.tuple(I:Inv X pi σ H s)(h:gF X.K H a xs):∃aS:@&Value,Vals xs aS/\IsTup s.heap a aS.toArray/\-xs<=sizeLine:=by
 rcases h with h|⟨o,aS,n,hk,hc,hs,hz,r⟩
 .let#[z,aS,r,p]:=h.ok I.bB;show#[aS,r,p.tup,z]
 .refine#[aS.toList,r,#[o,I.fZ a o hk,hc,n,by simpa using hs],?_];let e:=-r;simp only[Array.length_toList] at e;omega
def Inv.Nj(I:Inv X pi σ H s)(h:fT X.K H a xs)(h':fT X.K H a ys):xs=ys:=by
 let#[aS,r,#[o,n,e,_,_,d],_]:=I.list h;let#[its',r',#[o',n',e',_,_,d'],_]:=I.list h';rw[e] at e';cases e';rw[d] at d';injection d' with d1 _;have:aS=its':=by simpa using ij Array.toList d1
 subst this;show r.inj r'
def Inv.KS(I:Inv X pi σ H s)(h:gF X.K H a xs)(h':gF X.K H a ys):xs=ys:=by
 let#[aS,r,#[o,e,_,n,d],_]:=I.tuple h;let#[its',r',#[o',e',_,n',d'],_]:=I.tuple h';rw[e] at e';cases e';rw[d] at d';injection d' with d1 _;have:aS=its':=by simpa using ij Array.toList d1
 subst this;show r.inj r'
end
noncomputable abbrev Cx.R8(X:Cx)(E:Value->Shared->Prop):Cx:={ X with xe:=E }
def Cx.Ok.R8{X:Cx}(ok:X.Ok)(E:Value->Shared->Prop):(X.R8 E).Ok :=
 #[ok.mod,ok.kind,ok.glob,ok.blt,ok.above,ok.inj,ok.has,ok.qP,ok.hd,ok.frames,ok.rE,ok.yc,ok.bs,ok.nV,ok.ka,ok.kT,ok.J9,ok.oz]
def Cx.Ok.Ar(ok:(X.R8 E).Ok):X.Ok :=
 #[ok.mod,ok.kind,ok.glob,ok.blt,ok.above,ok.inj,ok.has,ok.qP,ok.hd,ok.frames,ok.rE,ok.yc,ok.bs,ok.nV,ok.ka,ok.kT,ok.J9,ok.oz]
def Inv.R8(I:Inv X pi σ H s)(E:Value->Shared->Prop):Inv (X.R8 E) pi σ H s:=#[I.ok.R8 E,I.os,I.bare,I.base,I.loc,I.cell,I.free,I.eW,I.pin,I.bB,I.len,I.sg]
def Inv.Ar(I:Inv (X.R8 E) pi σ H s):Inv X pi σ H s:=#[I.ok.Ar,I.os,I.bare,I.base,I.loc,I.cell,I.free,I.eW,I.pin,I.bB,I.len,I.sg]
section
variable{st:Stmt}{rest:@&Stmt}{t u:TS}
def JA:TS:=λD σ H=>D.nx σ H
def b02(t u:TS):TS:=λD σ H=>t { D with nx:=u D } σ H
def SN:jv X [] JA:=λ_ _ σ H _ I h=>vw #[σ,H,I,h]
def Vj(h1:PS X st t)(h2:jv X rest u):jv X (st::rest) (b02 t u):=by
 intro pi s σ H D I h;show wpAny_execs_cons (cB (h1 pi s σ H { D with nx:=u D } I h) λf s1 q=>?_);cases f with
 |next =>
  let#[cu,H',I',q]:=q;show h2 pi s1 cu H' D I' q
 |ret v=>show q
 |brk=>show q
 |cont=>show q
def SK:PS X (.Pass pos) JA:=λ_ _ σ H _ I h=>wpAny_Pass #[σ,H,I,h]
def Inv.quiet(I:Inv X pi σ H s):interactive X.env=false:=by simp[interactive,I.ok.kind]
def XH(te:TE):TS:=λD σ H=>te σ H λx H1=>D.nx σ H1
def SJ(he:PE X e te)(hs:swapsWith e none pos.line X.env=pure false:=by rfl):PS X (.Expr e pos) (XH te):=by
 intro pi s σ H D I h;show wpAny_Expr_any (cB (he pi s σ H _ I h) (by rintro v s1 ⟨x,H1,I1,r1,q1⟩;show #[σ,H1,I1,q1])) I.quiet hs
def b03(te:TE):TS:=λD σ H=>te σ H D.rt
def Zq(he:PE X e te):PS X (.Return (!e) pos) (b03 te):=by
 intro pi s σ H D I h;show wpAny_Return_some (cB (he pi s σ H _ I h) (by rintro v s1 ⟨x,H1,I1,r1,q1⟩;show #[x,σ,H1,I1,r1,q1]))
def XM:TS:=λD x H=>D.rt .aR H
def SM:PS X (.Return none pos) XM:=λ_ _ σ H _ I h=>wpAny_Return_none #[.aR,σ,H,I,rfl,h]
def b07(c:TT)(t u:TS):TS:=λD σ H=>c σ H λb H1=>if b=true then t D σ H1 else u D σ H1
def Xo{a b:@&Stmt}{tc:TT}(hc:PT X c tc)(ha:jv X a t)(hb:jv X b u):PS X (.If c a b pos) (b07 tc t u):=by
 intro pi s σ H D I h;show wpAny_If (cB (hc pi s σ H _ I h) ?_);rintro d s1 ⟨H1,I1,q1⟩;cases d with
 |true=>show ha pi s1 σ H1 D I1 q1
 |false=>show hb pi s1 σ H1 D I1 q1
end
noncomputable abbrev TG:=V->St->Hp->(St->Hp->Prop)->Prop
noncomputable abbrev oG:=@&V->St->Hp->(St->Hp->Prop)->Prop
abbrev PG(X:Cx)(target:Expr)(t:TG):Prop :=
 ∀(pi:@&(Addr×Obj)) (s:Shared) (σ:St) (H:Hp) (v:V) (u:Value) (Q:St->Hp->Prop),Inv X pi σ H s->RelV v u->t v σ H Q ->
  wpAny (model X.prog X.w) X.A (assign target X.env u) (λx s'=>∃cu H',Inv X pi cu H' s'/\Q cu H') X.xe s
abbrev vo(X:Cx)(ts:@&Expr)(t:oG):Prop :=
 ∀(pi:@&(Addr×Obj)) (s:Shared) (σ:St) (H:Hp) (vs:@&V) (us:@&Value) (Q:St->Hp->Prop),Inv X pi σ H s->Vals vs us->t vs σ H Q ->
  wpAny (model X.prog X.w) X.A (assignInOrder ((assignEach ts X.env).map (·.2)) us) (λx s'=>∃cu H',Inv X pi cu H' s'/\Q cu H') X.xe s
noncomputable abbrev DN:=V->V->V->Hp->(Hp->Prop)->Prop
abbrev DM(X:Cx)(t:DN):Prop :=
 ∀(pi:@&(Addr×Obj)) (s:Shared) (σ:St) (H:Hp) (o i v:V) (ov iv u:Value) (Q:Hp->Prop),Inv X pi σ H s->RelV o ov->RelV i iv->RelV v u->t o i v H Q ->
  wpAny (model X.prog X.w) X.A (setItem ov iv u) (λx s'=>∃H',Inv X pi σ H' s'/\Q H') X.xe s
noncomputable abbrev GD:=V->V->Hp->VK->Prop
abbrev OE(X:Cx)(op:Operator)(t:GD):Prop :=
 ∀(pi:@&(Addr×Obj)) (s:Shared) (σ:St) (H:Hp) (x y:V) (v u:Value) (Q:VK),Inv X pi σ H s->RelV x v->RelV y u->t x y H Q ->
  wpAny (model X.prog X.w) X.A (inplaceOp op v u) (EP X pi σ Q) X.xe s
def uV(i:Nat):TG:=λv σ H Q=>Q (σ.set i (!v)) H
def Mw(hN:X.Nd)(hi:X.N[i]?=!x)(hx:Loc X.env.scope x)(hf:X.fn x=true\/X.env.scope.names.lookup x=!.local:=by first|show .inl rfl|show .inr rfl|assumption):PG X (.Name x pos) (uV i):=by
 intro pi s σ H v u Q I r h;show wpAny_assign_Name (EL I hN hi hx r (λs' I'=>#[_,H,I',h]) hf)
def JX:oG:=λvs σ H Q=>vs=[]/\Q σ H
def Jb(t:TG)(u:oG):oG:=λvs σ H Q=>∃v r,vs=v::r/\t v σ H λcu H'=>u r cu H' Q
def SG:vo X [] JX:=by
 intro pi s σ H vs us Q I r h;let#[e,h]:=h;show assignInOrder_nil #[σ,H,I,h]
def Vf{t:TG}{u:oG}(h1:PG X e t)(h2:vo X es u)(hs:(assignEach (e::es) X.env).map (·.2)=assign e X.env::(assignEach es X.env).map (·.2):=by rfl):vo X (e::es) (Jb t u):=by
 intro pi s σ H vs us Q I r h;let#[v,vr,e1,h]:=h;subst e1;cases r with
 |cons r rr =>
  rw[hs];show assignInOrder_cons (cB (h1 pi s σ H _ _ _ I r h) λx s1 bh=>?_);let#[ju,H1,I1,q1]:=bh;show h2 pi s1 ju H1 _ _ Q I1 rr q1
def b53(K:PySem.W.Frag)(n:Nat)(t:oG):TG:=λv σ H Q=>∃a xs,v=.ref a/\gF K H a xs/\-xs=n/\t xs σ H Q
def Zj{t:oG}{n:Nat}(hc:X.calm=true)(h:vo X es t)(hn:(assignEach es X.env).length=n:=by rfl)(eZ:(assignEach es X.env).findIdx? (·.1)=none:=by rfl):PG X (.Tuple es k pos) (b53 X.K n t):=by
 intro pi s σ H v u Q I r hw;let#[a,xs,e1,hq,hl,hw]:=hw;subst e1;cases r;let#[aS,rv,ht,hz]:=I.tuple hq;show assign_Tuple_tuple (I.ok.hd hc) ht (by simp[hn,<- hl,(-rv)]) eZ λh' hx=>?_;let I1:=I.kept (t':=s.toks) λb o e=>hx b o (aF (aq e)) e;show h pi _ σ H xs _ Q I1 (_/rv) hw
def b54(to ti:TE)(t:DN):TG:=λv σ H Q=>to σ H λo H1=>ti σ H1 λi H2=>t o i v H2 λH3=>Q σ H3
def Zi{o i:Expr}{to ti:TE}{t:DN}(ho:PE X o to)(hi:PE X i ti)(hs:DM X t)(ha:∀ v,assign (.Subscript o i pos) X.env v=(do
   let ov <- holding [v] (eval o X.env)
   let iv <- holding [v,ov] (eval i X.env)
   standAt pos
   holding [v,ov,iv] (setItem ov iv v)
   release [v,ov,iv] []):=by intro _;rfl):PG X (.Subscript o i pos) (b54 to ti t):=by
 intro pi s σ H v u Q I r h;rw[ha];show aa (aZ (cB (ho pi s σ H _ I h) λov s1 bh=>?_));let#[x,H1,I1,r1,q1]:=bh;show aa (aZ (cB (hi pi s1 σ H1 _ I1 q1) λiv s2 bh=>?_));let#[y,H2,I2,r2,q2]:=bh;show aa (iS (aa (aZ (cB (hs pi s2 σ H2 x y v ov iv u _ I2 r1 r2 r q2) ?_))));rintro _ s3 ⟨H3,I3,q3⟩;show wpAny_release #[σ,H3,I3,q3]
def uO(te:TE)(g:TG):TS:=λD σ H=>te σ H λx H1=>g x σ H1 D.nx
def Gs{g:TG}(he:PE X e te)(hg:PG X tg g)(hs:swapsWithSole [tg] e pos.line X.env=pure false:=by rfl)(hw:swappedStores [tg] e X.env=pure none:=by rfl)(h1:(assignEach [tg] X.env).map (·.2)=[assign tg X.env]:=by rfl):PS X (.Assign [tg] e pos) (uO te g):=by
 intro pi s σ H D I h;show wpAny_Assign_stores (cB (he pi s σ H _ I h) λv s1 bh=>?_) hs hw;let#[x,H1,I1,r1,q1]:=bh;rw[h1];show cB (hg pi s1 σ H1 x v _ I1 r1 q1) λy s2 q=>q
def Of(hN:X.Nd)(hi:X.N[i]?=!x)(hx:Loc X.env.scope x)(he:PE X e te)(hs:swapsWith e (!.Name x pos') pos.line X.env=pure false:=by rfl)(hf:X.fn x=true\/X.env.scope.names.lookup x=!.local:=by first|show .inl rfl|show .inr rfl|assumption) :
  PS X (.Assign [.Name x pos'] e pos) (uO te (uV i)):=by
 intro pi s σ H D I h;show wpAny_Assign_Name (cB (he pi s σ H _ I h) λv s1 bh=>?_) hs;let#[y,H1,I1,r1,q1]:=bh;show EL I1 hN hi hx r1 (λs2 I2=>#[_,H1,I2,q1]) hf
def b11(i:Nat)(te:TE)(ti:GD):TS:=λD σ H=>∃x,σ[i]?=!!x/\te σ H λy H1=>ti x y H1 λz H2=>D.nx (σ.set i (!z)) H2
def Zm{op:Operator}{ti:GD}(hN:X.Nd)(hi:X.N[i]?=!x)(hx:Loc X.env.scope x)(he:PE X e te)(ho:OE X op ti)(hf:X.fn x=true\/X.env.scope.names.lookup x=!.local:=by first|show .inl rfl|show .inr rfl|assumption) :
  PS X (.AugAssign (.Name x pos') op e pos) (b11 i te ti):=by
 intro pi s σ H D I h;let#[v,e1,h]:=h;let#[m,hn,hl]:=I.loc;let rC:tM X.env.scope x:=by rcases hx with k|k;show .inl k;show .inr (.inl k)
 let#[u,r,l]:=hl i x v hi e1 rC;show wpAny_AugAssign_Name ?_;let go:wpAny (model X.prog X.w) X.A (eval e X.env) (λw gx=>wpAny (model X.prog X.w) X.A (inplaceOp op u w) (λr gW=>wpAny (model X.prog X.w) X.A (storeName X.env x r) (λt=>SP X pi D .next) X.xe gW) X.xe gx) X.xe s:=by
  show cB (he pi s σ H _ I h) λw s1 bh=>?_;let#[y,H1,I1,r1,q1]:=bh;show cB (ho pi s1 σ H1 v y u w _ I1 r r1 q1) λz s2 bh=>?_;let#[zv,H2,I2,r2,q2]:=bh;show EL I2 hN hi hx r2 (λs3 I3=>#[_,H2,I3,q2]) hf
 rcases l with⟨hk,hm⟩|⟨hk,c,hc,lB⟩
 .exact wpAny_loadName_local I.ok.kind hk hn hm go
 .rcases hk with hk|hk
  .exact wpAny_loadName_cell I.ok.kind hk hc lB go
  .rcases hx with k|k
   .have:X.env.scope.names.lookup x=!.free:=hk;rw[k] at this;cases this
   .have:X.env.scope.names.lookup x=!.free:=hk;rw[k] at this;cases this
structure It where
 go:Nat->Hp->Prop
 tW:Nat->Hp->V->Hp->Prop
 stop:Nat->Hp->Prop
abbrev H9(X:Cx)(pi:@&(Addr×Obj))(H:Hp)(b:Addr):Prop :=
 H b=none/\b≠X.env.locals/\b∉X.fs/\(b∈X.ex\/X.dA.heap.objs.size<=b)/\(∀x c,X.env.cells.lookup x=!c->c≠b)/\∀p∈X.pn++pi,p.1≠b
def Inv.qT(I:Inv X pi σ H s)(hb:s⁻¹<=b)(hn:H' b=none):H9 X pi H' b:=by
 show#[hn,bH (av I.lt hb),I.AX hb,.inr (aH I.sz hb),λx c e z=>?_,λp hp z=>?_]
 .let#[v,q]:=I.cell x c e;show absurd (av q.lt (by simp_all)) (bR _)
 .exact absurd (av (aq (I.pin p hp).1) (by simp_all)) (bR _)
structure Turn(P:Program)(w:World)(K:PySem.W.Frag)(tg:Expr)(J:It)(fp:@&Addr)(it:Addr)(tn:Nat->Heap->Prop):Prop where
 mem:it∈fp
 obj:∀i h,tn i h->∀b∈fp,∃o,h.get? b=!o/\∀v,o.data≠.cell v
 keep:∀i h h',tn i h->(∀b∈fp,∀o,h.get? b=!o->h'.get? b=!o)->tn i h'
 item:∀(X:Cx),X.prog=P->X.w=w->X.K=K->X.calm=true->∀(i:Nat) (pi:@&(Addr×Obj)) (s:Shared) (σ:St) (H:Hp) (E:Value->Shared->Prop),Inv X pi σ H s->(∀b∈fp,H9 X pi H b)->tn i s.heap->J.go i H ->
  wpAny (model P w) X.A (pyNext (.ref it)) (λr s1=>∃ u,r=!u /\
   wpAny (model P w) X.A (letOwnedTupleGo tg (.ref it) u) (λ_ s2=>∃ x H',Inv X pi σ H' s2/\RelV x u/\J.tW i H x H'/\tn (i + 1) s2.heap/\∀ b ∈ fp,H' b=none) E s1) E s
 done:∀(X:Cx),X.prog=P->X.w=w->X.K=K->X.calm=true->∀(i:Nat) (pi:@&(Addr×Obj)) (s:Shared) (σ:St) (H:Hp) (E:Value->Shared->Prop),Inv X pi σ H s->(∀b∈fp,H9 X pi H b)->tn i s.heap->J.stop i H ->
  wpAny (model P w) X.A (pyNext (.ref it)) (λr s1=>r=none/\Inv X pi σ H s1) E s
 self:∀(A:Around) (i:Nat) (s:Shared) (Q:Value->Shared->Prop) (E:Value->Shared->Prop),tn i s.heap->Q (.ref it) s->wpAny (model P w) A (pyIter (.ref it)) Q E s
noncomputable abbrev TI:=St->Hp->(It->Hp->Prop)->Prop
abbrev OF(X:Cx)(pi:@&(Addr×Obj))(σ:St)(tg:Expr)(R:It->Hp->Prop)(wJ:Value)(s2:Shared):Prop :=
 ∃(it:Addr) (fp:@&Addr) (tn:Nat->Heap->Prop) (J:It) (H':Hp),wJ=.ref it/\Inv X pi σ H' s2/\Turn X.prog X.w X.K tg J fp it tn/\tn 0 s2.heap/\(∀b∈fp,H9 X pi H' b)/\R J H'
abbrev PI(X:Cx)(tg iter:Expr)(wi:TI):Prop :=
 ∀(pi:@&(Addr×Obj)) (s:Shared) (σ:St) (H:Hp) (R:It->Hp->Prop),Inv X pi σ H s->wi σ H R ->
  wpAny (model X.prog X.w) X.A (eval iter X.env) (λv s1=>wpAny (model X.prog X.w) X.A (pyIter v) (OF X pi σ tg R) X.xe s1) X.xe s
def Bh{it:Addr}{o:Obj}{n:String}{vs:Array Value}{Q:Unit->Shared->Prop}(ho:s.heap.get? it=!o)(hc:o.cls=.type n)(hd:o.data=.fields vs)(hn:["enumerate","zip","dict_itemiterator","dict_reverseitemiterator","odict_iterator","itertools.zip_longest","itertools.pairwise"].contains n=false)(hQ:Q Unit.unit s):wpAny M A (letOwnedTupleGo tg (.ref it) u) Q E s:=by
  cases tg<;>first
    |show ai hQ
    | (cases u <;> first
        |show ai hQ
        | (show aa (wpAny_load ho ?_)
           rw[hc,hd];change wpAny M A (if(["enumerate","zip","dict_itemiterator","dict_reverseitemiterator","odict_iterator","itertools.zip_longest","itertools.pairwise"].contains n&&vs[0]?==!rawInt _)=true then _ else _) Q E s;rw[az (by intro h;rw[hn,Bool.false_and] at h;cases h)];show ai hQ))
abbrev GK(K:PySem.W.Frag)(a:Addr):It :=
 #[λi H=>∃xs x,fT K H a xs/\xs[i]?=!x,λi H x H'=>H'=H/\∀xs,fT K H a xs->xs[i]?=!x,λi H=>∃xs,fT K H a xs/\-xs<=i]
abbrev GI(K:PySem.W.Frag)(a:Addr):It :=
 #[λi H=>∃xs x,gF K H a xs/\xs[i]?=!x,λi H x H'=>H'=H/\∀xs,gF K H a xs->xs[i]?=!x,λi H=>∃xs,gF K H a xs/\-xs<=i]
def zb(lo:Int)(n:Nat):It:=#[λi y=>i<n,λi H x H'=>H'=H/\x=.int (lo+i),λi y=>n<=i]
def a10(a it:Addr):Turn P w K tg (GK K a) [it] it (λi h=>h.IsListIter it a i) where
 mem:=by simp
 obj:=λi h st b hb=>by
  let e:b=it:=by simpa using hb
  subst e;let#[o,e,c,d]:=st;show#[o,e,λv z=>by simp_all]
 keep:=λi h h' st k=>st.at λo e=>k it #[_] o e
 item:=by
  intro X hP hw hK hc i pi s σ H E I hf st hg;subst hP hw hK;let#[xs,x,hq,hx]:=hg;let#[aS,rv,p,hz]:=I.list hq;let#[u,hu,ru]:=rv.get hx;let#[f0,f1,f2,f3,f4,f5]:=hf it #[_];show wpAny_pyNext_list_item st p.isList (_/hu) λh' kJ sb=>?_;let I1:=I.turned (t':=s.toks) (λb o hb e=>(sb.2 b hb).trans e) f0 f1 f3 f4 f5;let#[o,e,c,d]:=id kJ;show#[u,rfl,Bh e c d ∅ #[x,H,I1,ru,#[rfl,λys hy=>by rw[I.Nj hy hq];show hx],kJ,λb hb=>(hf b hb).1]]
 done:=by
  intro X hP hw hK hc i pi s σ H E I hf st hg;subst hP hw hK;let#[xs,hq,hx]:=hg;let#[aS,rv,p,hz]:=I.list hq;let#[f0,f1,f2,f3,f4,f5]:=hf it #[_];let hl:=-rv;show wpAny_pyNext_list_end (I.ok.hd hc) st p.isList (by simp;omega) λh' eb=>#[rfl,I.turned (t':=s.toks) (λb o hb e=>eb b o hb e) f0 f1 f3 f4 f5]
 self:=λy y y y y st h=>wpAny_pyIter_listiter st h
def aT4(a it:Addr):Turn P w K tg (GI K a) [it] it (λi h=>h.IsTupleIter it a i) where
 mem:=by simp
 obj:=λi h st b hb=>by
  let e:b=it:=by simpa using hb
  subst e;let#[o,e,c,d]:=st;show#[o,e,λv z=>by simp_all]
 keep:=λi h h' st k=>st.at λo e=>k it #[_] o e
 item:=by
  intro X hP hw hK hc i pi s σ H E I hf st hg;subst hP hw hK;let#[xs,x,hq,hx]:=hg;let#[aS,rv,p,hz]:=I.tuple hq;let#[u,hu,ru]:=rv.get hx;let#[f0,f1,f2,f3,f4,f5]:=hf it #[_];show wpAny_pyNext_tuple_item st (show s.heap.IsTuple a aS.toArray from p) (_/hu) λh' kJ sb=>?_;let I1:=I.turned (t':=s.toks) (λb o hb e=>(sb.2 b hb).trans e) f0 f1 f3 f4 f5;let#[o,e,c,d]:=id kJ;show#[u,rfl,Bh e c d ∅ #[x,H,I1,ru,#[rfl,λys hy=>by rw[I.KS hy hq];show hx],kJ,λb hb=>(hf b hb).1]]
 done:=by
  intro X hP hw hK hc i pi s σ H E I hf st hg;subst hP hw hK;let#[xs,hq,hx]:=hg;let#[aS,rv,p,hz]:=I.tuple hq;let#[f0,f1,f2,f3,f4,f5]:=hf it #[_];let hl:=-rv;show wpAny_pyNext_tuple_end (I.ok.hd hc) st (show s.heap.IsTuple a aS.toArray from p) (by simp;omega) λh' eb=>#[rfl,I.turned (t':=s.toks) (λb o hb e=>eb b o hb e) f0 f1 f3 f4 f5]
 self:=λy y y y y st h=>wpAny_pyIter_tupleiter st h
def aT5(it:Addr)(lo:Int)(n:Nat):Turn P w K tg (zb lo n) [it] it (λi h=>IsRangeIter h it (lo+(i:Nat)*1) ((n:Int)-(i:Nat)) 1) where
 mem:=by simp
 obj:=λi h st b hb=>by
  let e:b=it:=by simpa using hb
  subst e;show #[_,st,λv z=>by
   let z':Data.fields _=Data.cell v:=z;cases z']
 keep:=λi h h' st k=>k it #[_] _ st
 item:=by
  intro X hP hw hK hc i pi s σ H E I hf st hg;subst hP hw hK;let#[f0,f1,f2,f3,f4,f5]:=hf it #[_];let W:=Walks.range (prog:=X.prog) (w:=X.w) (I.ok.hd hc) it lo 1 n;show W.item i s _ _ hg st λv h' tk hv kJ kk=>?_;let#[t,rfl]:=hv;let I1:Inv X pi σ H { s with heap:=h',toks:=tk }:=I.turned (λb o hb e=>kk b o (_/hb) e) f0 f1 f3 f4 f5;show#[_,rfl,Bh kJ rfl rfl ∅ #[.int (lo+i),H,I1,#[t,?_],#[rfl,rfl],kJ,λb hb=>(hf b hb).1]];rw[Int.mul_one]
 done:=by
  intro X hP hw hK hc i pi s σ H E I hf st hg;subst hP hw hK;let#[f0,f1,f2,f3,f4,f5]:=hf it #[_];show wpAny_pyNext_range_end (I.ok.hd hc) st (by have:n<=i:=hg;omega) λh' eb=>#[rfl,I.turned (t':=s.toks) (λb o hb e=>eb b o hb e) f0 f1 f3 f4 f5]
 self:=λx x x x x st h=>wpAny_pyIter_rangeiter st h
def Nx{R:It->Hp->Prop}{lo hi:Int}{t u v:Tok}{tk:Nat}(I:Inv X pi σ H s)(h1:-(2 ^ 62)<=lo)(h2:lo<2 ^ 62)(h3:-(2 ^ 62)<=hi)(h4:hi<2 ^ 62)(q:R (zb lo (hi-lo).toNat) H):wpAny (model X.prog X.w) X.A (pyIter (.ref s⁻¹)) (OF X pi σ tg R) E { s with heap:=s.heap.push { cls:=.type "range",data:=.fields (List.toArray [.int lo t,.int hi u,.int 1 v]) },toks:=tk }:=by
 show wpAny_pyIter_range (IsRange.new ..) (small_one h1 h2 h3 h4) ?_;let I1:Inv X pi σ H { s with heap:=s.heap.push { cls:=.type "range",data:=.fields (List.toArray [.int lo t,.int hi u,.int 1 v]) },toks:=tk }:=I.kept λb o e=>ag _ e;show #[(s.heap.push { cls:=.type "range",data:=.fields (List.toArray [.int lo t,.int hi u,.int 1 v]) }).objs.size,[(s.heap.push { cls:=.type "range",data:=.fields (List.toArray [.int lo t,.int hi u,.int 1 v]) }).objs.size],_,_,H,rfl,
  I1.kept (t':=tk) λb o e=>ag _ e,aT5 _ lo (hi - lo).toNat,?_,λb hb=>?_,q]
 .let e1:lo+((0:Nat):Int)*1=lo:=by simp
  let e2:(((hi-lo).toNat:Nat):Int)-((0:Nat):Int)=Builtin.Range.rangeSize lo hi 1:=by rw[rangeSize_one];split<;>omega
  rw[e1,e2];show au _ rfl
 .let e:b=(s.heap.push { cls:=.type "range",data:=.fields (List.toArray [.int lo t,.int hi u,.int 1 v]) }).objs.size:=by simpa using hb
  subst e;show I1.qT (ak _) (I1.bB.fresh (ak _))
def WA(ta:TA):TI:=λσ H R=>ta σ H λvs H1=>∃j:Int,vs=[.int j]/\-(2 ^ 62)<=j/\j<2 ^ 62/\R (zb 0 j.toNat) H1
def WB(ta:TA):TI:=λσ H R=>ta σ H λvs H1=>∃i j:Int,vs=[.int i,.int j]/\(-(2 ^ 62)<=i/\i<2 ^ 62/\-(2 ^ 62)<=j/\j<2 ^ 62)/\R (zb i (j-i).toNat) H1
def a40{a:Expr}{ta:TA}(hg:Gl X "range")(hm:X.mg "range"=none)(ha:PA X [a] ta)(hs:starEach [a] X.env=[(false,eval a X.env)]:=by rfl):PI X tg (.Call (.Name "range" p) [a] [] pos) (WA ta):=by
 intro pi s σ H R I h;show Call_ (Q7 I hg hm boot_range (cg (cB (ha pos pi s σ H _ I h) λus s1 bh=>?_) hs rfl));let#[vs,H1,I1,r1,q1]:=bh;let#[j,e,q1,q2,q]:=q1;subst e;cases r1 with
 |cons r rr =>
  cases rr;let#[t,rfl]:=r;show call_range_1 (Nx I1 () () q1 q2 (_/q))
def a39{a b:Expr}{ta:TA}(hg:Gl X "range")(hm:X.mg "range"=none)(ha:PA X [a,b] ta)(hs:starEach [a,b] X.env=[(false,eval a X.env),(false,eval b X.env)]:=by rfl)(iZ:starEach [b] X.env=[(false,eval b X.env)]:=by rfl) :
  PI X tg (.Call (.Name "range" p) [a,b] [] pos) (WB ta):=by
 intro pi s σ H R I h;show Call_ (Q7 I hg hm boot_range (cg (cB (ha pos pi s σ H _ I h) λus s1 bh=>?_) (by rw[hs,iZ]) (by rw[iZ];rfl)));let#[vs,H1,I1,r1,q1]:=bh;let#[i,j,e,#[q1,q2,q3,q4],q]:=q1;subst e;cases r1 with
 |cons r rr =>
  cases rr with
  |cons r' rr =>
   cases rr;let#[t,rfl]:=r;let#[t',rfl]:=r';show call_range_2 (Nx I1 q1 q2 q3 q4 q)
def b08(wi:TI)(g:TG)(tb:TS):TS:=λD σ H=>wi σ H λJ H1=>∃W:Nat->Nat->St->Hp->Prop,(∃m,W 0 m σ H1)/\∀i m σ H,W i m σ H ->
 (J.stop i H/\D.nx σ H)\/(J.go i H/\∃N:St->Hp->Prop,(∀cu H',N cu H'->∃m',m'<m/\W (i+1) m' cu H')/\∀x H',J.tW i H x H'->g x σ H' λdz H2=>tb { D with nx:=N,ct:=N,bk:=D.nx } dz H2)
abbrev yI(fp:@&Addr)(h:Heap):@&(Addr×Obj):=fp.filterMap λb=>(h.get? b).map λo=>(b,o)
def Fq{o:Obj}(hb:b∈fp)(e:h.get? b=!o):(b,o)∈yI fp h:=gi.mpr #[b,hb,by rw[e];rfl]
def a53{p:Addr×Obj}(hp:p∈yI fp h):p.1∈fp/\h.get? p.1=!p.2:=by
 let#[b,hb,e]:=gi.mp hp;cases q:h.get? b with
 |none=>simp_all
 |some o =>
  rw[q] at e;let e':=aJ e;subst e';show#[hb,q]
def Inv.pinned(I:Inv X pi σ H s)(hf:∀b∈fp,H9 X pi H b)(ho:∀b∈fp,∃o,s.heap.get? b=!o/\∀v,o.data≠.cell v):Inv X (pi++yI fp s.heap) σ H s :=
 I.Z9 λp hp=>(bS.mp hp).elim (λz=>I.pin p (bU _ z)) λz=>by
  let#[hb,e]:=a53 z;let#[f0,f1,f2,_]:=hf p.1 hb;let#[o,e',d]:=ho p.1 hb;rw[e] at e';cases e';show#[e,f0,f1,f2,d]
def Inv.EN{pl:@&(Addr×Obj)}(I:Inv X (pi++pl) σ H s):Inv X pi σ H s:=I.Z9 λp hp=>I.pin p (bU _ (fE _ hp))
def Zo{iter:Expr}{body:@&Stmt}{wi:TI}{g:TG}{tb:TS}(hp:PassesOwn (model X.prog X.w) X.A X.env X.xe)(hc:X.calm=true)(hi:PI X tg iter wi)(hg:PG X tg g)(hb:jv X body tb)(hs:∀x,foldedSetIterable iter X.env x=pure x:=by intro _;rfl):PS X (.For tg iter body [] pos) (b08 wi g tb):=by
 intro pi s σ H D I h;show wpAny_For (cB (hi pi s σ H _ I h) λv s1 h1=>cB h1 λwJ s2 h2=>?_) hs;let#[it,fp,tn,J,H2,e,I2,T,oX,f2,W,#[m0,w0],turn]:=h2;subst e;let rF:∀{H':Hp},(∀b∈fp,H' b=none)->∀b∈fp,H9 X pi H' b:=λhn b hb=>#[hn b hb,(f2 b hb).2]
 show codeAny_forLoop_any (λn s'=>∃i cu H',Inv X pi cu H' s'/\tn i s'.heap/\(∀b∈fp,H' b=none)/\W i n cu H') ?_ m0 #[0,σ,H2,I2,oX,λb hb=>(f2 b hb).1,w0];rintro n s3 ⟨i,lI,H3,I3,vT,ya,w3⟩;rcases turn i n lI H3 w3 with⟨stop,qn⟩|⟨go,N,hN,step⟩
 .refine gH hp (cB (T.done X rfl rfl rfl hc i pi s3 lI H3 X.xe I3 (rF ya) vT stop) ?_);rintro r s4 ⟨hr,I4⟩;subst hr;show vw #[lI,H3,I4,qn]
 .refine gH hp (cB (T.item X rfl rfl rfl hc i pi s3 lI H3 X.xe I3 (rF ya) vT go) ?_);rintro r s4 ⟨u,hr,h4⟩;subst hr;show gH hp (cB h4 λy s5 bh=>?_);let#[x,H5,I5,r5,y5,rG,Dy]:=bh;let GL:=I5.pinned (rF Dy) (T.obj _ _ rG);show gH hp (cB (hg _ s5 lI H5 x u _ GL r5 (step x H5 y5)) λy s6 bh=>?_);let#[rq,H6,I6,q6]:=bh;show gH hp (cB (hb _ s6 rq H6 _ I6 q6) λf s7 q7=>?_);let again:∀{mX:St} {H7:Hp},Inv X (pi++yI fp s5.heap) mX H7 s7->N mX H7->∃m,m<n/\∃i cu H',Inv X pi cu H' s7/\tn i s7.heap/\(∀b∈fp,H' b=none)/\W i m cu H':=λ{mX H7} I7 n7=>by
   let#[m',hm,w7]:=hN mX H7 n7;show#[m',hm,i+1,mX,H7,I7.EN,T.keep _ _ _ rG λb hb o e=>(I7.pin (b,o) (bU _ (bU _ (Fq hb e)))).1,λb hb=>?_,w7];let#[o,e,d]:=T.obj _ _ rG b hb;show(I7.pin (b,o) (bU _ (bU _ (Fq hb e)))).2.1
  cases f with
  |next=>let#[mX,H7,I7,n7]:=q7;show again I7 n7
  |cont=>let#[mX,H7,I7,n7]:=q7;show again I7 n7
  |brk=>let#[mX,H7,I7,q7]:=q7;show#[mX,H7,I7.EN,q7]
  |ret v=>let#[x7,mX,H7,I7,r7,q7]:=q7;show#[x7,mX,H7,I7.EN,r7,q7]
noncomputable abbrev R2:=V->V->Hp->VK->Prop
abbrev fj(X:Cx)(f:Value->Value->Sem Value)(r:R2):Prop :=
 ∀(pi:@&(Addr×Obj)) (s:Shared) (σ:St) (H:Hp) (x y:V) (v u:Value) (Q:VK),Inv X pi σ H s->RelV x v->RelV y u->r x y H Q ->
  wpAny (model X.prog X.w) X.A (f v u) (EP X pi σ Q) X.xe s
abbrev Bu(X:Cx)(f:Value->Sem Value)(r:V->Hp->VK->Prop):Prop :=
 ∀(pi:@&(Addr×Obj)) (s:Shared) (σ:St) (H:Hp) (x:V) (v:Value) (Q:VK),Inv X pi σ H s->RelV x v->r x H Q ->
  wpAny (model X.prog X.w) X.A (f v) (EP X pi σ Q) X.xe s
abbrev k9(X:Cx)(f:Value)(r:@&V->Hp->VK->Prop):Prop :=
 ∀(pi:@&(Addr×Obj)) (s:Shared) (σ:St) (H:Hp) (xs:@&V) (us:@&Value) (Q:VK),Inv X pi σ H s->Vals xs us->r xs H Q ->
  wpAny (model X.prog X.w) X.A (call f us) (EP X pi σ Q) X.xe s
abbrev b65(X:Cx)(r:V->Hp->(Bool->Hp->Prop)->Prop):Prop :=
 ∀(pi:@&(Addr×Obj)) (s:Shared) (σ:St) (H:Hp) (x:V) (v:Value) (Q:Bool->Hp->Prop),Inv X pi σ H s->RelV x v->r x H Q ->
  wpAny (model X.prog X.w) X.A (truthy v) (TP X pi σ Q) X.xe s
def tZ(r:R2)(ta tb:TE):TE:=λσ H Q=>ta σ H λx H1=>tb σ H1 λy H2=>r x y H2 Q
def Pb(r:V->Hp->VK->Prop)(ta:TE):TE:=λσ H Q=>ta σ H λx H1=>r x H1 Q
def rI(C:Int->Int->Prop)(g:Int->Int->V):R2:=λx y H Q=>∃i j,x=.int i/\y=.int j/\C i j/\Q (g i j) H
def mD(g:Int->Int->V):R2:=λx y H Q=>∃i j,x=.int i/\y=.int j/\Q (g i j) H
abbrev rU(g:Int->V):V->Hp->VK->Prop:=λx H Q=>∃i,x=.int i/\Q (g i) H
section
variable{a b:Expr}
def DS(ha:PE X a ta)(hb:PE X b tb){R:V->V->Hp->Prop}(I:Inv X pi σ H s)(h:ta σ H λx H1=>tb σ H1 λy H2=>R x y H2){f:Value->Value->Sem Value}(hf:∀v u s2 x y H2,Inv X pi σ H2 s2->RelV x v->RelV y u->R x y H2->wpAny (model X.prog X.w) X.A (f v u) Q X.xe s2) :
  wpAny (model X.prog X.w) X.A (eval a X.env) (λv bN=>wpAny (model X.prog X.w) X.A (eval b X.env) (λu gx=>wpAny (model X.prog X.w) X.A (f v u) Q X.xe gx) X.xe bN) X.xe s:=by
 show cB (ha pi s σ H _ I h) λv s1 bh=>?_;let#[x,H1,I1,r1,q1]:=bh;show cB (hb pi s1 σ H1 _ I1 q1) λu s2 bh=>?_;let#[y,H2,I2,r2,q2]:=bh;show hf v u s2 x y H2 I2 r1 r2 q2
def Jn{op:Operator}(ho:fj X (binaryOp op) r)(ha:PE X a ta)(hb:PE X b tb):PE X (.BinOp a op b pos) (tZ r ta tb):=by
 intro pi s σ H Q I h;show wpAny_BinOp (DS ha hb I h λv u s2 x y H2 I2 rx ry q=>ho pi s2 σ H2 x y v u Q I2 rx ry q)
def Xl{op:UnaryOp}{r:V->Hp->VK->Prop}(ho:Bu X (unaryOp op) r)(ha:PE X a ta):PE X (.UnaryOp op a pos) (Pb r ta):=by
 intro pi s σ H Q I h;show UnaryOp_ (cB (ha pi s σ H _ I h) (by rintro v s1 ⟨x,H1,I1,r1,q1⟩;show ho pi s1 σ H1 x v Q I1 r1 q1))
def wg{f:Value->Value->Sem Value}{C:Int->Int->Prop}{g:Int->Int->Int}(rule:∀(i j:Int) (t u:Tok) (s:Shared) (Q:Value->Shared->Prop) (E:Value->Shared->Prop),C i j->Q (.int (g i j) s.toks) { s with toks:=s.toks+1 }->wpAny (model X.prog X.w) X.A (f (.int i t) (.int j u)) Q E s) :
  fj X f (rI C λi j=>.int (g i j)):=by
 intro pi s σ H x y v u Q I rx ry h;let#[i,j,rfl,rfl,hc,q]:=h;let#[t,rfl]:=rx;let#[t',rfl]:=ry;show rule i j t t' s _ _ hc #[.int (g i j),H,I.tok _,#[_,rfl],q]
def uN{f:Value->Value->Sem Value}{g:Int->Int->Int}(rule:∀(i j:Int) (t u:Tok) (s:Shared) (Q:Value->Shared->Prop) (E:Value->Shared->Prop),Q (.int (g i j) s.toks) { s with toks:=s.toks+1 }->wpAny (model X.prog X.w) X.A (f (.int i t) (.int j u)) Q E s) :
  fj X f (mD λi j=>.int (g i j)):=by
 intro pi s σ H x y v u Q I rx ry h;let#[i,j,rfl,rfl,q]:=h;let#[t,rfl]:=rx;let#[t',rfl]:=ry;show rule i j t t' s _ _ #[.int (g i j),H,I.tok _,#[_,rfl],q]
def AY{f:Value->Value->Sem Value}{g:Int->Int->Bool}(rule:∀(i j:Int) (t u:Tok) (s:Shared) (Q:Value->Shared->Prop) (E:Value->Shared->Prop),Q (.bool (g i j)) s->wpAny (model X.prog X.w) X.A (f (.int i t) (.int j u)) Q E s) :
  fj X f (mD λi j=>.bl (g i j)):=by
 intro pi s σ H x y v u Q I rx ry h;let#[i,j,rfl,rfl,q]:=h;let#[t,rfl]:=rx;let#[t',rfl]:=ry;show rule i j t t' s _ _ #[.bl (g i j),H,I,rfl,q]
def DK(i j:Int):Prop:=0<j/\j<1073741824
def S3(i j:Int):Prop:=0<=j/\j<=1000000/\i.natAbs<2 ^ 64
def qQ(i j:Int):Prop:=(-(2 ^ 64)<i/\i<2 ^ 64)\/(-(2 ^ 64)<j/\j<2 ^ 64)
def qQ.ok{i j:Int}(h:qQ i j):IntMulOk i j:=by
 rcases h with⟨h1,h2⟩|⟨h1,h2⟩
 .exact .of_left (intBits_le_64 h1 h2)
 .exact .of_right (intBits_le_64 h1 h2)
def YE:fj X (binaryOp .Add) (mD λi j=>.int (i+j)):=uN λx x x x x x x q=>add_int q
def YR:fj X (binaryOp .Sub) (mD λi j=>.int (i-j)):=uN λx x x x x x x q=>sub_int q
def YL:fj X (binaryOp .Mult) (rI qQ λi j=>.int (i*j)):=wg λx x x x x x x hc q=>mul_int q hc.ok
def Sr:fj X (binaryOp .FloorDiv) (rI DK λi j=>.int (i / j)):=wg λi j x x x x x hc q=>by
 let h1:=hc.1;let h2:=hc.2;show floordiv_int () (by rw[Int.fdiv_eq_ediv_of_nonneg i ()];show q) (.inl (PyProof.noPylong_small ()))
def YK:fj X (binaryOp .Mod) (rI (λx j=>0<j) λi j=>.int (i % j)):=wg λi j x x x x x hc q=>by
 show mod_int' () (by rw[Int.fmod_eq_emod_of_nonneg i ()];show q)
def YN:fj X (binaryOp .Pow) (rI S3 λi j=>.int (i ^ j.toNat)):=wg λx x x x x x x hc q=>pow_int_small hc.1 hc.2.1 hc.2.2 q
def YQ:fj X (binaryOp .LShift) (rI S3 λi j=>.int (i*2 ^ j.toNat)):=wg λx x x x x x x hc q=>lshift_int_small hc.1 hc.2.1 hc.2.2 q
def YG:fj X (binaryOp .BitAnd) (mD λi j=>.int (Builtin.bitAnd i j)):=uN λx x x x x x x q=>and_int q
def Xe:fj X (binaryOp .BitOr) (mD λi j=>.int (Builtin.bitOr i j)):=uN λx x x x x x x q=>or_int q
def bA7:fj X (inplaceOp .Add) (mD λi j=>.int (i+j)):=uN λx x x x x x x q=>iadd_int q
def bA6:fj X (inplaceOp .Sub) (mD λi j=>.int (i-j)):=uN λx x x x x x x q=>isub_int q
def OZ{f:Value->Sem Value}{g:Int->Int}(rule:∀(i:Int) (t:Tok) (s:Shared) (Q:Value->Shared->Prop) (E:Value->Shared->Prop),Q (.int (g i) s.toks) { s with toks:=s.toks+1 }->wpAny (model X.prog X.w) X.A (f (.int i t)) Q E s) :
  Bu X f (rU λi=>.int (g i)):=by
 intro pi s σ H x v Q I rx h;let#[i,rfl,q]:=h;let#[t,rfl]:=rx;show rule i t s _ _ #[.int (g i),H,I.tok _,#[_,rfl],q]
def bD3:Bu X (unaryOp .USub) (rU λi=>.int (-(i))):=OZ λx x x x x q=>neg_int q
end
abbrev Ke:V->V->Bool
 |.aR,.aR=>true|.aR,.int _=>true|.int _,.aR=>true|.aR,.bl _=>true|.bl _,.aR=>true|.aR,.str _=>true|.str _,.aR=>true
 |.int _,.int _=>true|.bl _,.bl _=>true|.str _,.str _=>true|.lE _,.lE _=>true
 |.int _,.str _=>true|.str _,.int _=>true|.bl _,.str _=>true|.str _,.bl _=>true
 |_,_=>false
def Pp:R2:=λx y H Q=>Ke x y=true/\Q (.bl (decide (x=y))) H
def Po:R2:=λx y H Q=>Ke x y=true/\Q (.bl (~~~decide (x=y))) H
def Mb{i j:Int}:decide (V.int i=V.int j)=(i==j):=by
 rw[cz];simp
def Af{i j:Bool}:decide (V.bl i=V.bl j)=(i==j):=by
 rw[cz];simp
def Mc{i j:Str}:decide (V.str i=V.str j)=(i==j):=by
 rw[cz];simp
def Ma{i j:Array UInt8}:decide (V.lE i=V.lE j)=(i.toList==j.toList):=by
 rw[cz];simp
section
variable{a b:Expr}{tc:TE}
def f9{Q:VK}{k k':Bool}(I:Inv X pi σ H s)(q:Q (.bl k) H)(e:k=k'):EP X pi σ Q (.bool k') s:=by
 subst e;show#[.bl k,H,I,rfl,q]
def FK:fj X (compareOp .Eq) Pp:=by
 intro pi s σ H x y v u Q I rx ry h;let#[hs,q]:=h;cases x with
 |aR =>
  cases rx;cases y with
  |aR=>cases ry;show PySem.EqNone.eq_none_none (f9 I q #[_])
  |bl j=>cases ry;show PySem.EqNone.eq_none_bool (f9 I q #[_])
  |int j=>let#[t',rfl]:=ry;show PySem.EqNone.eq_none_int (f9 I q #[_])
  |str j=>let#[t',rfl]:=ry;show PySem.EqNone.eq_none_str (f9 I q #[_])
  |_=>show absurd (show false=true from hs) Bool.false_ne_true
 |bl i =>
  cases rx;cases y with
  |aR=>cases ry;show PySem.EqNone.eq_bool_none (f9 I q #[_])
  |bl j=>cases ry;show eq_bool (f9 I q Af)
  |str j=>let#[t',rfl]:=ry;show PySem.EqMixed.eq_bool_str (f9 I q #[_])
  |_=>show absurd (show false=true from hs) Bool.false_ne_true
 |int i =>
  let#[t,rfl]:=rx;cases y with
  |aR=>cases ry;show PySem.EqNone.eq_int_none (f9 I q #[_])
  |int j=>let#[t',rfl]:=ry;show eq_int (f9 I q Mb)
  |str j=>let#[t',rfl]:=ry;show PySem.EqMixed.eq_int_str (f9 I q #[_])
  |_=>show absurd (show false=true from hs) Bool.false_ne_true
 |str i =>
  let#[t,rfl]:=rx;cases y with
  |aR=>cases ry;show PySem.EqNone.eq_str_none (f9 I q #[_])
  |bl j=>cases ry;show PySem.EqMixed.eq_str_bool (f9 I q #[_])
  |int j=>let#[t',rfl]:=ry;show PySem.EqMixed.eq_str_int (f9 I q #[_])
  |str j=>let#[t',rfl]:=ry;show eq_str (f9 I q Mc)
  |_=>show absurd (show false=true from hs) Bool.false_ne_true
 |lE i =>
  let#[t,rfl]:=rx;cases y with
  |lE j=>let#[t',rfl]:=ry;show PySem.W.eq_bytes (f9 I q Ma)
  |_=>show absurd (show false=true from hs) Bool.false_ne_true
 |_=>cases y<;>show absurd (show false=true from hs) bu
def FL:fj X (compareOp .NotEq) Po:=by
 intro pi s σ H x y v u Q I rx ry h;let#[hs,q]:=h;cases x with
 |aR =>
  cases rx;cases y with
  |aR=>cases ry;show PySem.EqNone.ne_none_none (f9 I q #[_])
  |bl j=>cases ry;show PySem.EqNone.ne_none_bool (f9 I q #[_])
  |int j=>let#[t',rfl]:=ry;show PySem.EqNone.ne_none_int (f9 I q #[_])
  |str j=>let#[t',rfl]:=ry;show PySem.EqNone.ne_none_str (f9 I q #[_])
  |_=>show absurd (show false=true from hs) Bool.false_ne_true
 |bl i =>
  cases rx;cases y with
  |aR=>cases ry;show PySem.EqNone.ne_bool_none (f9 I q #[_])
  |bl j=>cases ry;show ne_bool (f9 I q (congrArg not Af))
  |str j=>let#[t',rfl]:=ry;show PySem.EqMixed.ne_bool_str (f9 I q #[_])
  |_=>show absurd (show false=true from hs) Bool.false_ne_true
 |int i =>
  let#[t,rfl]:=rx;cases y with
  |aR=>cases ry;show PySem.EqNone.ne_int_none (f9 I q #[_])
  |int j=>let#[t',rfl]:=ry;show ne_int (f9 I q (congrArg not Mb))
  |str j=>let#[t',rfl]:=ry;show PySem.EqMixed.ne_int_str (f9 I q #[_])
  |_=>show absurd (show false=true from hs) Bool.false_ne_true
 |str i =>
  let#[t,rfl]:=rx;cases y with
  |aR=>cases ry;show PySem.EqNone.ne_str_none (f9 I q #[_])
  |bl j=>cases ry;show PySem.EqMixed.ne_str_bool (f9 I q #[_])
  |int j=>let#[t',rfl]:=ry;show PySem.EqMixed.ne_str_int (f9 I q #[_])
  |str j=>let#[t',rfl]:=ry;show ne_str (f9 I q (congrArg not Mc))
  |_=>show absurd (show false=true from hs) Bool.false_ne_true
 |lE i =>
  let#[t,rfl]:=rx;cases y with
  |lE j=>let#[t',rfl]:=ry;show PySem.W.ne_bytes (f9 I q (congrArg not Ma))
  |_=>show absurd (show false=true from hs) Bool.false_ne_true
 |_=>cases y<;>show absurd (show false=true from hs) bu
def Xd:fj X (compareOp .Lt) (mD λi j=>.bl (decide (i<j))):=AY λx x x x x x x q=>lt_int q
def Xc:fj X (compareOp .LtE) (mD λi j=>.bl (decide (i<=j))):=AY λx x x x x x x q=>le_int q
def Xb:fj X (compareOp .Gt) (mD λi j=>.bl (decide (j<i))):=AY λx x x x x x x q=>gt_int q
def Xa:fj X (compareOp .GtE) (mD λi j=>.bl (decide (j<=i))):=AY λx x x x x x x q=>ge_int q
def a50:fj X (compareOp .In) (λx y H Q=>∃i j,x=.str i/\y=.str j/\Q (.bl (~~~(Builtin.Str.occurrences j i 0 (-j) 1).isEmpty)) H):=by
 intro pi s σ H x y v u Q I rx ry h;let#[i,j,rfl,rfl,q]:=h;let#[t,rfl]:=rx;let#[t',rfl]:=ry;show in_str (f9 I q rfl)
def YJ:fj X (compareOp .Is) (λx y H Q=>y=.aR/\Q (.bl (decide (x=.aR))) H):=by
 intro pi s σ H x y v u Q I rx ry h;let#[rfl,q]:=h;cases ry;show is_none_gen (f9 I q ?_);cases x<;>first
  |(cases rx;rfl)
  |(let#[t,rfl]:=rx;rfl)
def Ss:fj X (compareOp .IsNot) (λx y H Q=>y=.aR/\Q (.bl (~~~decide (x=.aR))) H):=by
 intro pi s σ H x y v u Q I rx ry h;let#[rfl,q]:=h;cases ry;show isnot_none_gen (f9 I q ?_);cases x<;>first
  |(cases rx;rfl)
  |(let#[t,rfl]:=rx;rfl)
def aF8:fj X (compareOp .NotIn) (λx y H Q=>∃i j,x=.str i/\y=.str j/\Q (.bl (~~~(~~~(Builtin.Str.occurrences j i 0 (-j) 1).isEmpty))) H):=by
 intro pi s σ H x y v u Q I rx ry h;let#[i,j,rfl,rfl,q]:=h;let#[t,rfl]:=rx;let#[t',rfl]:=ry;show notIn_str (f9 I q rfl)
def Mu(ho:fj X (compareOp op) r)(ha:PE X a ta)(hb:PE X b tb)(hm:behindInMarks op b=false):PE X (.Compare a [op] [b] pos) (tZ r ta tb):=by
 intro pi s σ H Q I h;show wpAny_Compare1 (DS ha hb I h λv u s2 x y H2 I2 rx ry q=>ho pi s2 σ H2 x y v u Q I2 rx ry q) hm
def FN(t:TE):TT:=λσ H Q=>t σ H λx H'=>∃k,x=.bl k/\Q k H'
def Mz(ho:fj X (compareOp op) r)(ha:PE X a ta)(hb:PE X b tb)(hm:behindInMarks op b=false):PT X (.Compare a [op] [b] pos) (FN (tZ r ta tb)):=by
 intro pi s σ H Q I h;show wpAny_isTrue_Compare1 (cB (ha pi s σ H _ I h) λv s1 ⟨x,H1,I1,r1,q1⟩=>cB (hb pi s1 σ H1 _ I1 q1) λu s2 ⟨y,H2,I2,r2,q2⟩ =>
  cB (ho pi s2 σ H2 x y v u _ I2 r1 r2 q2) λc s3 ⟨z,H3,I3,r3,k,e,q3⟩=>?_) hm
 subst e;cases r3;show cC #[H3,I3,q3]
def Gw(r r':R2)(ta tb tc:TE):TE:=λσ H Q=>ta σ H λx H1=>tb σ H1 λy H2=>r x y H2 λz H3=>∃k,z=.bl k /\
 (if k=true then tc σ H3 λw' H4=>r' y w' H4 Q else Q (.bl false) H3)
def UY{iA:CmpOp}{r':R2}(ho:fj X (compareOp op) r)(kN:fj X (compareOp iA) r')(ha:PE X a ta)(hb:PE X b tb)(hc:PE X c tc)(hm:lastMarks [op,iA] [b,c]=false:=by with_unfolding_all rfl):PE X (.Compare a [op,iA] [b,c] pos) (Gw r r' ta tb tc):=by
 intro pi s σ H Q I h;show Compare_chain (cB (ha pi s σ H _ I h) λv s1 ⟨x,H1,I1,r1,q1⟩=>chain_link (cB (hb pi s1 σ H1 _ I1 q1) λu s2 ⟨y,H2,I2,r2,q2⟩ =>
  cB (ho pi s2 σ H2 x y v u _ I2 r1 r2 q2) λd s3 ⟨z,H3,I3,r3,k,e,q3⟩=>?_)) hm
 subst e;cases r3;show cC ?_;cases k with
 |false=>show ite_ff #[.bl false,H3,I3,rfl,q3]
 |true=>show ite_tt (chain_last (cB (hc pi s3 σ H3 _ I3 q3) (by rintro w' s4 ⟨z',H4,I4,r4,q4⟩;show kN pi s4 σ H4 y z' u w' Q I4 r2 r4 q4)))
def Vk{iA:CmpOp}{r':R2}(ho:fj X (compareOp op) r)(kN:fj X (compareOp iA) r')(ha:PE X a ta)(hb:PE X b tb)(hc:PE X c tc)(hm:lastMarks [op,iA] [b,c]=false:=by with_unfolding_all rfl):PT X (.Compare a [op,iA] [b,c] pos) (FN (Gw r r' ta tb tc)):=by
 intro pi s σ H Q I h;show isTrue_chain (cB (ha pi s σ H _ I h) λv s1 ⟨x,H1,I1,r1,q1⟩=>test_link (cB (hb pi s1 σ H1 _ I1 q1) λu s2 ⟨y,H2,I2,r2,q2⟩ =>
  cB (ho pi s2 σ H2 x y v u _ I2 r1 r2 q2) λd s3 ⟨z,H3,I3,r3,k,e,q3⟩=>?_)) hm
 subst e;cases r3;show cC ?_;cases k with
 |false =>
  let#[k',e',q']:=q3;cases e';show ite_ff #[H3,I3,q']
 |true =>
  show ite_tt (test_last (cB (hc pi s3 σ H3 _ I3 q3) ?_));rintro w' s4 ⟨z',H4,I4,r4,q4⟩;show cB (kN pi s4 σ H4 y z' u w' _ I4 r2 r4 q4) λd' s5 bh=>?_;let#[z2,H5,I5,r5,k2,e2,q5]:=bh;subst e2;cases r5;show cC #[H5,I5,q5]
abbrev DO(K:PySem.W.Frag)(x:V)(H:Hp)(k:Bool):Prop :=
 match x with
 |.aR=>k=false
 |.bl b=>k=b
 |.int i=>k=(i != 0)
 |.str y=>-y<=sizeLine/\k=((-y:Int) != 0)
 |.lE y=>y.size<=sizeLine/\k=((y.size:Int) != 0)
 |.ref p=>(∃xs,fT K H p xs/\k= ~~~xs.isEmpty)\/(∃xs,gF K H p xs/\k= ~~~xs.isEmpty)\/∃kvs,H p=!.dK kvs/\k= ~~~kvs.isEmpty
 |_=>False
def aX0{κ:Type}{kvs:@&(κ×V)}{vs:@&(κ×Value)}(r:KV kvs vs):(~~~vs.isEmpty)= ~~~kvs.isEmpty:=by
 cases r<;>rfl
def Lf{aS:@&Value}(r:Vals xs aS):(~~~aS.toArray.isEmpty)= ~~~xs.isEmpty:=by
 cases r<;>simp
def yF:(sizeLine:Nat)<2 ^ 63:=by rw[tP];decide
def bD6:b65 X (λx H Q=>∃k,DO X.K x H k/\Q k H):=by
 intro pi s σ H x v Q I rx h;let#[k,e,q]:=h;let hs:=tP;cases x with
 |aR =>
  cases rx;let e':=e;subst e';show truthy_none #[H,I,q]
 |bl b =>
  cases rx;let e':=e;subst e';show cC #[H,I,q]
 |int i =>
  let#[t,rfl]:=rx;let e':=e;subst e';show PySem.P.truthy_int #[H,I,q]
 |str y =>
  let#[t,rfl]:=rx;let#[hy,e']:=e;subst e';show PySem.P.truthy_str () #[H,I.tok _,q]
 |lE y =>
  let#[t,rfl]:=rx;let#[hy,e']:=e;subst e';show PySem.W.truthy_bytes () #[H,I.tok _,q]
 |ref p =>
  cases rx;let e':=e;rcases e' with⟨xs,hx,e'⟩|⟨xs,hx,e'⟩|⟨kvs,hx,e'⟩
  .subst e';let#[aS,r,pl,hz]:=I.list hx;let hlen:=-r;show wpAny_truthy_list pl.isList (by simp only[List.size_toArray];omega) #[H,I.tok _,by rw[Lf r];show q]
  .subst e';let#[aS,r,pl,hz]:=I.tuple hx;let hlen:=-r;show truthy_tuple pl (by simp only[List.size_toArray];omega) #[H,I.tok _,by rw[Lf r];show q]
  .subst e';let#[hz,hS,vs,r,m]:=I.bB p _ hx;let hlen:=mx r;show wpAny_truthy_dict hS m () #[H,I.tok _,by rw[aX0 r];show q]
 |_=>show(show False from e).elim
def Vl(ha:PE X a ta)(he:∀whole,isTrue a X.env whole=(do let v <- whole;standAt a.pos;holding [v] (truthy v))) :
  PT X a (λσ H Q=>ta σ H λx H'=>∃k,DO X.K x H' k/\Q k H'):=by
 intro pi s σ H Q I h;show isTrue_plain (cB (ha pi s σ H _ I h) (by rintro v s1 ⟨x,H1,I1,r1,q1⟩;show bD6 pi s1 σ H1 x v Q I1 r1 q1)) (he _)
def aV2:fj X (binaryOp .Add) (λx y H Q=>∃i j,x=.str i/\y=.str j/\-i+-j<=sizeLine/\Q (.str (i++j)) H):=by
 intro pi s σ H x y v u Q I rx ry h;let#[i,j,rfl,rfl,hz,q]:=h;let#[t,rfl]:=rx;let#[t',rfl]:=ry;show add_str (λt' tk=>#[.str (i++j),H,I.tok _,#[_,rfl],q]) hz
def vals1{x:V}(r:Vals [x] us):∃u,us=[u]/\RelV x u:=by
 cases r with
 |cons r1 r2=>cases r2;show#[_,rfl,r1]
def vals2{x y:V}(r:Vals [x,y] us):∃u w',us=[u,w']/\RelV x u/\RelV y w':=by
 cases r with
 |cons r1 r2 =>
  cases r2 with
  |cons r3 r4=>cases r4;show#[_,_,rfl,r1,r3]
def Ks:k9 X (.type "int") (λxs H Q=>(∃i,xs=[.int i]/\Q (.int i) H)\/∃k,xs=[.bl k]/\Q (.int (if k then 1 else 0)) H):=by
 intro pi s σ H xs us Q I r h;rcases h with⟨i,rfl,q⟩|⟨k,rfl,q⟩
 .let#[u,rfl,t,rfl]:=vals1 r;show call_int_int #[.int i,H,I,#[_,rfl],q]
 .let#[u,rfl,r1]:=vals1 r;cases r1;show call_int_bool #[.int (if k then 1 else 0),H,I.tok _,#[_,rfl],q]
def aJ8:k9 X (.type "str") (λxs H Q=>∃i,xs=[.int i]/\i.natAbs.log2<1920/\Q (.str (toString i)) H):=by
 intro pi s σ H xs us Q I r h;let#[i,rfl,hz,q]:=h;let#[u,rfl,t,rfl]:=vals1 r;show PySem.P.str_of_int hz #[.str _,H,I.tok _,#[_,rfl],q]
end
structure sY(h:Heap)(x dx C:Addr)(mA:Str->Option Value):Prop where
 obj:h.get? x=!PySem.W.instObj C dx
 ns:h.Ns1 dx mA
 ne:dx≠x
set_option tactic.hygienic true in
def KG{mA:Str->Option Value}(n:h.Ns1 dx mA):∃od,h.get? dx=!od/\∀name,PySem.W.lookIn name od=!mA name:=by
 let#[o,es,ep,ho,hd,hk,_,hm]:=n;show#[o,ho,λname=>?_];let e:=hm name;unfold nsFind findBy at e;rw[<- Array.find?_toList] at e;unfold PySem.W.lookIn;rw[hd];dsimp only;split
 .rename_i y q;rw[q] at e;show ij some e
 .rename_i q;rw[q] at e;let a:es.toList.any (·.refKey)=false:=by
   rw[List.any_eq_false];intro y hy;let#[z,t,pE]:=hk y (Array.mem_toList_iff.mp hy);simp[DictEntry.refKey,pE]
  let a':¬es.toList.any (·.refKey)=true:=by rw[a];show bu
  rw[az a'];show ij some e
def sY.look{x:Addr}{mA:Str->Option Value}(I:sY h x dx C mA):∃od,PySem.W.InstAt h x (PySem.W.instObj C dx) C (!od)/\∀name,PySem.W.lookIn name od=!mA name :=
 let ⟨od,ho,hl⟩:=KG I.ns
 #[od,#[I.obj,rfl,rfl,ho],hl]
section
variable{prog:Program}{x:Addr}{mA:Str->Option Value}{name:Str}{v:Value}
def get_map{expr:Bool}(X:K.In s.heap)(I:sY s.heap x dx C mA)(hg:PySem.W.plainGet K C name=true)(hh:PySem.W.hasDictIn K C=true)(ha:PySem.W.findIn K (.ref C) name=!none)(hv:mA name=!v)(Cb:PySem.W.handedIn v=true)(h:Q v { s with toks:=s.toks+1 }) :
  wpAny (model prog w) A (getAttr (.ref x) name expr) Q E s:=by
 let#[od,J,hl]:=I.look;show PySem.W.get_value X J (jx hg).1 (PySem.W.findObj_own hh ha rfl (by rw[hl,hv])) Cb h
def Ux{pl:Sem Bool}{Q:Value×@&Value->Shared->Prop}(X:K.In s.heap)(I:sY s.heap x dx C mA)(hg:PySem.W.plainGet K C name=true)(hf:PySem.W.findIn K (.ref C) name=!!.ref f)(ht:PySem.W.isFn K (.ref f)=true)(hv:mA name=none)(h:Q (.ref f,[.ref x]) s) :
  wpAny (model prog w) A (getMethod (.ref x) name pl) Q E s:=by
 let#[od,J,hl]:=I.look;show PySem.W.method_fn X J (jx hg).1 (jx hg).2 hf (gg.mp ht) (by show(PySem.W.lookIn name od).map (·.isSome)=!false;simp_all) h
def Th{ns:@&Str}{Q:Unit->Shared->Prop}(X:K.In s.heap)(I:sY s.heap x dx C mA)(hs:PySem.W.findIn K (.ref C) "__setattr__"=!!(.builtin "object.__setattr__"))(hp:PySem.W.plainOver K C=true)(ht:PySem.W.takerIn K C name=!none)(hh:PySem.W.hasDictIn K C=true)(hw:PySem.Within mA ns)(gD:-ns<=sizeLine)(h:∀h',sY h' x dx C (λy=>if y=name then some v else mA y)->Heap.SameBut dx s.heap h'->Q Unit.unit { s with heap:=h',toks:=s.toks+2 }) :
  wpAny (model prog w) A (setAttr (.ref x) name v) Q E s:=by
 let#[od,J,hl]:=I.look;show PySem.W.set_plain X J hs (PySem.W.osa_open X J hp ht λb=>?_);let#[cd,hc,sG]:=PySem.W.any_some hh;let hx:=I.obj;show aa (ai (aa (aa (wpAny_loadPart hx (aa (PySem.W.Looks.here (PySem.W.looks_clsIn X hc) ?_))))));rw[sG];show ai (aa (ai (aa ?_)));show wpAny_nsSet1 I.ns λh' nD iZ=>?_;let#[oD,esD,epD,Qv,QL,QN]:=nD.count (PySem.Within.cons name v hw);show aa (wpAny_lookBehind Qv (by rw[QL];show pastItsLine_dict (aH QN (by grind))) ?_);show ai (h _ #[(iZ.2 _ (aU I.ne)).trans I.obj,nD,I.ne] iZ)
def UI{R:Result->Shared->Prop}{vs:@&Value}{kw:@&(Str×Value)}(X:K.In s.heap)(hm:PySem.W.makesIn K C=true)(hi:PySem.W.findIn K (.ref C) "__init__"=!!.ref f)(hf:PySem.W.typeIn K (.ref f)=!(.type "function"))(h:codeAny (model prog w) (A.under (.builtin "type.__call__" #[.ref C :: vs,kw])) (.call (.ref f) #[.ref (s⁻¹ + 1) :: vs,kw]) (PySem.W.InitBack (s⁻¹ + 1) R)
   { s with heap:=(s.heap.push PySem.W.emptyDict).push (PySem.W.instObj C s⁻¹) }) :
  codeAny (model prog w) A (.call (.ref C) #[vs,kw]) R s:=by
 show PySem.W.make_core (PySem.W.makes_of X hm) (PySem.W.looks_findIn X hi) (λself=>PySem.W.bind_fn X self hf) (.inl rfl) h
end
abbrev v5(f:Str)(v:V):@&(Str×V)->@&(Str×V)
 |[]=>[(f,v)]
 |(g,x)::r=>if g=f then(g,v)::r else(g,x)::v5 f v r
def Lv(f g:Str)(v:V):∀fs:@&(Str×V),(v5 f v fs).lookup g=if g=f then some v else fs.lookup g
 |[]=>by
  change List.lookup g [(f,v)]=_;by_cases h:g=f
  .let hb:=gg.mpr h;simp only[List.lookup,hb,if_pos h]
  .let hb:=cO.mpr h;simp only[List.lookup,hb,if_neg h]
 |(k,x)::r=>by
  let ih:=Lv f g v r;rw[show v5 f v ((k,x)::r)=(if k=f then(k,v)::r else(k,x)::v5 f v r) from rfl];by_cases hk:k=f
  .rw[aw hk];by_cases h:g=k
   .let hb:=gg.mpr h;simp only[List.lookup,hb,if_pos (h.trans hk)]
   .let hb:=cO.mpr h;simp only[List.lookup,hb,if_neg (λe:g=f=>h (e.trans hk.symm))]
  .rw[az hk];by_cases h:g=k
   .let hb:=gg.mpr h;simp only[List.lookup,hb,if_neg (λe:g=f=>hk (h.symm.trans e))]
   .let hb:=cO.mpr h;simp only[List.lookup,hb];show ih
def ET(f:Str)(v:V):∀fs:@&(Str×V),f∈(v5 f v fs).map (·.1)/\∀g,g∈fs.map (·.1)->g∈(v5 f v fs).map (·.1)
 |[]=>#[by simp[v5],λg h=>by simp at h]
 |(k,x)::r=>by
  let#[i1,i2]:=ET f v r;rw[show v5 f v ((k,x)::r)=(if k=f then(k,v)::r else(k,x)::v5 f v r) from rfl];by_cases hk:k=f
  .rw[aw hk]
   grind
  .rw[az hk];show#[?_,λg h=>?_]
   .exact bL _ i1
   .rcases aG.mp h with e|e
    .exact aG.mpr (.inl e)
    .exact bL _ (i2 g e)
def Lu(f:Str)(v:V):∀fs:@&(Str×V),(v5 f v fs).length<=-fs+1
 |[]=>by simp[v5]
 |(k,x)::r=>by
  let ih:=Lu f v r;rw[show v5 f v ((k,x)::r)=(if k=f then(k,v)::r else(k,x)::v5 f v r) from rfl]
  grind
def C7.some_of{o:Option Value}(r:C7 (!v) o):∃u,o=!u/\RelV v u:=by
 cases o with
 |none=>show(show False from r).elim
 |some u=>show#[u,rfl,r]
def C7.none_of{o:Option Value}(r:C7 none o):o=none:=by
 cases o with
 |none=>rfl
 |some u=>show(show False from r).elim
def a88(r:RelV v u):PySem.W.handedIn u=true:=by
 cases v with
 |aR=>cases (show u=Value.none from r);rfl
 |bl b=>cases (show u=Value.bool b from r);rfl
 |int i=>let#[t,e]:=(show ∃t,u=Value.int i t from r);cases e;rfl
 |str x=>let#[t,e]:=(show ∃t,u=Value.str x t from r);cases e;rfl
 |lE b=>let#[t,e]:=(show ∃t,u=Value.bytes b t from r);cases e;rfl
 |sP b=>let#[t,e]:=(show ∃t,u=Value.float b t from r);cases e;rfl
 |ref a=>cases (show u=Value.ref a from r);rfl
 |ty n=>cases (show u=Value.type n from r);rfl
section
variable{fs:@&(Str×V)}
def Ay(bB:fU P w H h)(e:H a=!.ins C dx fs):∃mA,sY h a dx C mA/\(∀f,C7 (fs.lookup f) (mA f))/\PySem.Within mA (fs.map (·.1))/\-fs<=1000/\H dx=!.own a:=by
 let#[d,z,ne,ob,mA,n,r,q]:=(show j7 P w H h a (.ins C dx fs) from bB a _ e)
 show#[mA,#[ob,n,ne],r,q,z,d]
end
structure jd(K:PySem.W.Frag)(C:Addr):Prop where
 pg:PySem.W.plainGet K C Str.empty=true
 hd:PySem.W.hasDictIn K C=true
 po:PySem.W.plainOver K C=true
 sa:PySem.W.findIn K (.ref C) "__setattr__"=!!(.builtin "object.__setattr__")
def jd.get(c:jd K C)(f:Str):PySem.W.plainGet K C f=true:=c.pg
def B6(K:PySem.W.Frag)(C:Addr)(f:Str):Prop:=PySem.W.findIn K (.ref C) f=!none
def B6.XN{f:Str}(n:B6 K C f):PySem.W.takerIn K C f=!none:=by
 unfold PySem.W.takerIn;rw[show PySem.W.findIn K (.ref C) f=some none from n]
 rfl
structure Meth(K:PySem.W.Frag)(C:Addr)(m:Str)(f:Addr):Prop where
 at_:PySem.W.findIn K (.ref C) m=!!.ref f
 fn:PySem.W.isFn K (.ref f)=true
 kp:PySem.W.keepIn K (.ref f)=true
section
variable{fs:@&(Str×V)}{f:Str}
def Ld{b:Bool}(I:Inv X pi σ H s)(e:H a=!.ins C dx fs)(c:jd X.K C)(n:B6 X.K C f)(l:fs.lookup f=!v)(h:∀u s',Inv X pi σ H s'->RelV v u->Q u s'):wpAny (model X.prog X.w) A (getAttr (.ref a) f b) Q E s:=by
 let#[mA,O,r,_,_,_]:=Ay I.bB e;let#[u,hu,ru]:=C7.some_of (by rw[<- l];show r f);show get_map I.fZ O (c.get f) c.hd n hu (a88 ru) (h u _ (I.tok _) ru)
def Le{g:Addr}{pl:Sem Bool}{Q:Value×@&Value->Shared->Prop}(I:Inv X pi σ H s)(e:H a=!.ins C dx fs)(c:jd X.K C)(k:Meth X.K C m g)(l:fs.lookup m=none)(h:Q (.ref g,[.ref a]) s):wpAny (model X.prog X.w) A (getMethod (.ref a) m pl) Q E s:=by
 let#[mA,O,r,_,_,_]:=Ay I.bB e;let hn:=C7.none_of (by rw[<- l];show r m);show Ux I.fZ O (c.get m) k.at_ k.fn hn h
def Lm{y:V}{Q:Unit->Shared->Prop}(I:Inv X pi σ H s)(e:H a=!.ins C dx fs)(c:jd X.K C)(n:B6 X.K C f)(hl:-fs<1000)(ry:RelV y u)(h:∀s',Inv X pi σ (upd H a (.ins C dx (v5 f y fs))) s'->Q Unit.unit s'):wpAny (model X.prog X.w) A (setAttr (.ref a) f u) Q E s:=by
 let#[mA,O,r,wi,_,ho]:=Ay I.bB e;let hz:(fs.map (·.1)).length<=sizeLine:=by rw[aj,tP];omega
 show Th I.fZ O c.sa c.po n.XN c.hd wi hz λh' O' sb=>h _ ?_;let hd:∃o,h'.get? dx=!o:=let ⟨o,_,_,e',_⟩:=O'.ns;#[o,e']
 show I.write (by rw[e];show True.intro) (.inr ho) (λb q hb z=>(sb.2 b hb).trans z) hd ?_;show#[by rw[d8 O.ne];show ho,?_,O.ne,O'.obj,_,O'.ns,λg=>?_,λg hg=>?_]
 .have:=Lu f y fs;omega
 .change C7 ((v5 f y fs).lookup g) (if g=f then some u else mA g);rw[Lv];by_cases q:g=f
  .rw[aw q,aw q];show ry
  .rw[az q,az q];show r g
 .by_cases q:g=f
  .rw[q];show(ET f y fs).1
  .refine(ET f y fs).2 g (wi g λz=>hg ?_);show(if g=f then some u else mA g)=none;rw[az q];show z
def Inv.made(I:Inv X pi σ H s):Inv X pi σ (upd (upd H s⁻¹ (.own (s⁻¹+1))) (s⁻¹+1) (.ins C s⁻¹ []))
  { s with heap:=(s.heap.push PySem.W.emptyDict).push (PySem.W.instObj C s⁻¹) }:=by
 let e1:(s.heap.push PySem.W.emptyDict).get? s⁻¹=!PySem.W.emptyDict:=au s.heap rfl;let e2:((s.heap.push PySem.W.emptyDict).push (PySem.W.instObj C s⁻¹)).get? (s⁻¹+1)=!(PySem.W.instObj C s⁻¹):=by
  have:=au (s.heap.push PySem.W.emptyDict) (o:=PySem.W.instObj C s⁻¹) rfl
  rwa [cQ] at this
 let e3:(s.heap.push PySem.W.emptyDict).Ns s⁻¹ (λx=>none):=#[PySem.W.emptyDict,(List.toArray []),_,e1,rfl,(λe he=>absurd he #[_]),λx=>rfl]
 let I1:=I.laid (o:=.own (s⁻¹+1)) (h':=s.heap.push PySem.W.emptyDict) (t':=s.toks) (λb u q=>ag _ q) (ak _) #[_,e1];show I1.laid (t':=s.toks) (λb u q=>ag _ q) (Nat.le_of_eq (cQ _ _)) ?_;let ne:s⁻¹≠s⁻¹+1:=aF (lH _);show#[by rw[d8 ne,k7],cJ _,ne,e2,λx=>none,(Heap.Ns1.of_empty e3).at λo q=>ag _ q,λx=>True.intro,λy hy=>absurd rfl hy]
def bC2{prog:Program}{env:Env}(hb:attributeBase e f env (eval e env)=eval e env)(h:wpAny (model prog w) A (eval e env) (λo bN=>wpAny (model prog w) A (getAttr o f true) Q E bN) E s):wpAny (model prog w) A (eval (.Attribute e f pos) env) Q E s :=
 Attribute_any_ h (by rw[arm_eval_Attribute,hb])
end
def b09(K:PySem.W.Frag)(ta:TE)(f:Str):TE:=λσ H Q=>ta σ H λx H1=>∃a C dx fs v,x=.ref a/\H1 a=!.ins C dx fs/\jd K C/\B6 K C f/\fs.lookup f=!v/\Q v H1
def b23(K:PySem.W.Frag)(ta tv:TE)(f:Str):TS:=λD σ H=>tv σ H λy H1=>ta σ H1 λx H2=>∃a C dx fs,x=.ref a/\H2 a=!.ins C dx fs/\jd K C/\B6 K C f/\-fs<1000 /\
 D.nx σ (upd H2 a (.ins C dx (v5 f y fs)))
abbrev DL(X:Cx)(op:Operator)(rd:V->V->Hp->VK->Prop):Prop :=
 ∀(pi:@&(Addr×Obj)) (s:Shared) (σ:St) (H:Hp) (x y:V) (u v:Value) (Q:VK),Inv X pi σ H s->RelV x u->RelV y v->rd x y H Q->wpAny (model X.prog X.w) X.A (inplaceOp op u v) (EP X pi σ Q) X.xe s
def SX(K:PySem.W.Frag)(ta tv:TE)(rd:V->V->Hp->VK->Prop)(f:Str):TS:=λD σ H=>ta σ H λx H1=>∃a C dx fs v,x=.ref a/\H1 a=!.ins C dx fs/\jd K C/\B6 K C f/\fs.lookup f=!v /\
 tv σ H1 λy H2=>rd v y H2 λz H3=>∃uG jc,H3 a=!.ins C uG jc/\-jc<1000/\D.nx σ (upd H3 a (.ins C uG (v5 f z jc)))
section
variable{o value:Expr}{f:Str}{vO:Pos}{tv:TE}
def Y'(he:PE X e ta)(hb:attributeBase e f X.env (eval e X.env)=eval e X.env):PE X (.Attribute e f pos) (b09 X.K ta f):=by
 intro pi s σ H Q I h;show bC2 hb (cB (he pi s σ H _ I h) λu s1 bh=>?_);let#[x,H1,I1,rx,a,C,dx,fs,v,ex,ea,c,n,l,q]:=bh;subst ex;obtain rfl:u=Value.ref a:=rx;show Ld I1 ea c n l λu' s2 I2 ru=>#[v,H1,I2,ru,q]
def Zn(ha:PE X o ta)(hv:PE X value tv)(hs:swapsWith value (!.Attribute o f pos') pos.line X.env=pure false):PS X (.Assign [.Attribute o f pos'] value pos) (b23 X.K ta tv f):=by
 intro pi s σ H D I h;show plainObj_wpAny_Assign_Attribute (cB (hv pi s σ H _ I h) ?_) hs;rintro u s1 ⟨y,H1,I1,ry,q⟩;show cB (ha pi s1 σ H1 _ I1 q) λov s2 bh=>?_;let#[x,H2,I2,rx,a,C,dx,fs,ex,ea,c,n,l,q2]:=bh;subst ex;obtain rfl:ov=Value.ref a:=rx;show Lm I2 ea c n l ry λs3 I3=>#[σ,_,I3,q2]
def a36{op:Operator}{rd:V->V->Hp->VK->Prop}(ha:PE X o ta)(hv:PE X value tv)(pA:DL X op rd):PS X (.AugAssign (.Attribute o f vO) op value pos) (SX X.K ta tv rd f):=by
 intro pi s σ H D I h;show wpAny_AugAssign_AttributeAny (cB (ha pi s σ H _ I h) λov s1 bh=>?_);let#[x,H1,I1,rx,a,C,dx,fs,v,ex,ea,c,n,l,q]:=bh;subst ex;obtain rfl:ov=Value.ref a:=rx;show Ld I1 ea c n l λu s2 I2 ru=>cB (hv pi s2 σ H1 _ I2 q) ?_;rintro w3 s3 ⟨y,H2,I3,ry,q3⟩;show cB (pA pi s3 σ H2 v y u w3 _ I3 ru ry q3) λw4 s4 bh=>?_;let#[z,H3,I4,rz,uG,jc,RP,l',q4]:=bh;show Lm I4 RP c n l' rz λs5 I5=>#[σ,_,I5,q4]
abbrev b33:V->V->Hp->VK->Prop:=λx y H Q=>∃i j,x=.int i/\y=.int j/\Q (.int (i+j)) H
def Yj:DL X .Add b33:=by
 rintro pi s σ H x y u v Q I rx ry ⟨i,j,rfl,rfl,q⟩;let#[t,rfl]:=(show ∃t,u=Value.int i t from rx)
 let#[t',rfl]:=(show ∃t',v=Value.int j t' from ry)
 show PyProof.Rows.iadd_int #[.int (i+j),H,I.tok _,#[_,rfl],q]
end
section
variable{c:Value}{b:Bool}
inductive hJ(K:PySem.W.Frag)(H:Hp):V->Value->Prop where
 |aR:hJ K H .aR (.type "NoneType")
 |bl (x:Bool):hJ K H (.bl x) (.type "bool")
 |int (i:Int):hJ K H (.int i) (.type "int")
 |str (x:Str):hJ K H (.str x) (.type "str")
 |sP (x:UInt64):hJ K H (.sP x) (.type "float")
 |lst {a:Addr} {xs:@&V} (e:H a=!.lst xs):hJ K H (.ref a) (.type "list")
 |jJ {a:Addr} {o:Obj} {xs:@&V} (e:H a=!.jJ o (.lst xs)):hJ K H (.ref a) (.type "list")
 |tup {a:Addr} {xs:@&V} (e:H a=!.tup xs):hJ K H (.ref a) (.type "tuple")
 |dK {a:Addr} {kvs:@&(Key×V)} (e:H a=!.dK kvs):hJ K H (.ref a) (.type "dict")
 |dT {a:Addr} {kvs:@&(List Key×V)} (e:H a=!.dT kvs):hJ K H (.ref a) (.type "dict")
 |ins {a C dx:Addr} {fs:@&(Str×V)} (e:H a=!.ins C dx fs) (cl:jd K C) (ha:PySem.W.findIn K (.ref C) "__class__"=!!(.builtin "object.__class__"))
   (hn:PySem.W.specialIn K (.builtin "object.__class__") "__get__"=!!(.builtin "getset_descriptor.__get__")) (wM:PySem.W.takesIn K (.builtin "object.__class__")=!true)
   (hm:PySem.W.mroIn K C (.type "object")=!true):hJ K H (.ref a) (.ref C)
def a81{x:V}{t:Value}(I:Inv X pi σ H s)(rx:RelV x u)(ty:hJ X.K H x t)(e:PySem.W.kitOne X.K t c=!b)(h:∀tk,Q (.bool b) { s with toks:=tk }) :
  wpAny (model X.prog X.w) A (call (.builtin "isinstance") [u,c]) Q E s:=by
 cases ty with
 |aR=>cases (show u=Value.none from rx);show bQ PySem.W.kitx_none I.fZ True.intro e (λz=>nomatch z) h
 |bl y=>cases (show u=Value.bool y from rx);show bQ PySem.W.kitx_bool I.fZ True.intro e (λz=>nomatch z) h
 |int i=>let#[t,q]:=(show ∃t,u=Value.int i t from rx);cases q;show bQ PySem.W.kitx_int I.fZ True.intro e (λz=>nomatch z) h
 |str y=>let#[t,q]:=(show ∃t,u=Value.str y t from rx);cases q;show bQ PySem.W.kitx_str I.fZ True.intro e (λz=>nomatch z) h
 |sP y=>let#[t,q]:=(show ∃t,u=Value.float y t from rx);cases q;show bQ PySem.W.kitx_float I.fZ True.intro e (λz=>nomatch z) h
 |@lst a xs ea =>
  cases (show u=Value.ref a from rx);let#[_,_,n,_,h1]:=(show j7 X.prog X.w H s.heap a (.lst xs) from I.bB a _ ea)
  show bQ PySem.W.kitx_list I.fZ #[_,h1,rfl] e (λz=>nomatch z) h
 |@jJ a ob xs ea =>
  cases (show u=Value.ref a from rx);let#[_,_,_,n,_,h1]:=(show j7 X.prog X.w H s.heap a (.jJ ob (.lst xs)) from I.bB a _ ea)
  show bQ PySem.W.kitx_list I.fZ #[_,h1,rfl] e (λz=>nomatch z) h
 |@tup a xs ea =>
  cases (show u=Value.ref a from rx);let#[_,_,_,p]:=(show j7 X.prog X.w H s.heap a (.tup xs) from I.bB a _ ea)
  let#[o,h1,h2,_]:=p;show bQ OP I.fZ #[o,h1,h2] e (λz=>nomatch z) h
 |@dK a kvs ea =>
  cases (show u=Value.ref a from rx);let#[_,_,vs,_,p]:=(show j7 X.prog X.w H s.heap a (.dK kvs) from I.bB a _ ea)
  let#[o,es,ep,h1,h2,_]:=p;show bQ PySem.W.kitx_dict I.fZ #[o,h1,h2.1] e (λz=>nomatch z) h
 |@dT a kvs ea =>
  cases (show u=Value.ref a from rx);let#[_,_,xs,_,o,es,ep,h1,h2,_]:=(show j7 X.prog X.w H s.heap a (.dT kvs) from I.bB a _ ea)
  show bQ PySem.W.kitx_dict I.fZ #[o,h1,h2.1] e (λz=>nomatch z) h
 |@ins a C dx fs ea cl ha hn wM hm =>
  cases (show u=Value.ref a from rx);let#[mA,O,_]:=Ay I.bB ea;let#[od,J,_]:=O.look;show bQ (PySem.W.kitx_own (cl.get _) cl.hd ha hn wM hm) I.fZ J e (λz=>nomatch z) h
end
structure q9(k:Nat)(A:Around):Prop where
 hd:A.handled=none
 dp:A.depth+3*k+5<recursionLimit
 un:A.units+16*k+200<cLine
def q9.mono{j:Nat}(r:q9 k A)(h:j<=k):q9 j A:=#[r.hd,by have:=r.dp;omega,by have:=r.un;omega]
def q9.deeper{k:Nat}{A:Around}(r:q9 (k+1) A)(env:Env):q9 k (A.deeper env) :=
 #[r.hd,by have:=r.dp;change A.depth+1+3*k+5<_;omega,by have:=r.un;change A.units+3+16*k+200<_;omega]
def aW3{kw:@&(Str×Value)}:(A.under (.builtin "type.__call__" #[.ref C::us,kw])).depth=A.depth+1:=by
 rfl
def aW2{kw:@&(Str×Value)}:(A.under (.builtin "type.__call__" #[.ref C::us,kw])).units=A.units+1:=by
 rfl
def q9.make(r:q9 (k+1) A)(C:Addr)(us:@&Value)(kw:@&(Str×Value)):q9 k (A.under (.builtin "type.__call__" #[.ref C::us,kw])) :=
 #[r.hd,by have:=r.dp;rw[aW3];omega,by have:=r.un;rw[aW2];omega]
def q9.depth{k:Nat}{A:Around}(r:q9 k A):A.depth<recursionLimit:=by have:=r.dp;omega
def Ed:TA:=λx H Q=>Q [] H
def XF(ta:TE)(tr:TA):TA:=λσ H Q=>ta σ H λx H1=>tr σ H1 λxs H2=>Q (x::xs) H2
def Q5:PA X [] Ed:=λx x x x H Q I h=>Calls.spliced_nil #[[],H,I,.nil,h]
def K5(ha:PE X e te)(hr:PA X es t)(hs:starEach (e::es) X.env=(false,eval e X.env)::starEach es X.env:=by rfl):PA X (e::es) (XF te t):=by
 intro pos pi s σ H Q I h;rw[hs];change wpAny _ _ (spliced ((false,eval e X.env)::backTo pos (starEach es X.env))) _ _ s;show Calls.spliced_cons (cB (ha pi s σ H _ I h) λu s1 bh=>?_);let#[x,H1,I1,r1,q1]:=bh;show cB (hr pos pi s1 σ H1 _ I1 q1) (by rintro us s2 ⟨xs,H2,I2,r2,q2⟩;show #[x::xs,H2,I2,.cons r1 r2,q2])
def b01(t:TA):TE:=λσ H Q=>t σ H λxs H1=>-xs<=sizeLine/\∀p,H1 p=none->Q (.ref p) (upd H1 p (.tup xs))
def b06(t:TA):TE:=λσ H Q=>t σ H λxs H1=>-xs<=sizeLine/\∀p,H1 p=none->Q (.ref p) (upd H1 p (.lst xs))
def Zh{x1}(h:PA X es t):PE X (.Tuple es x1 pos) (b01 t):=by
 intro pi s σ H Q I hq;show wpAny_Tuple_spliced (cB (h pos pi s σ H _ I hq) ?_);rintro us s1 ⟨xs,H1,I1,r,z,q⟩;show #[by rw[<- -r];show z,?_];let hf:=I1.bB.fresh (ak _);show#[.ref s1⁻¹,upd H1 s1⁻¹ (.tup xs),I1.laid (t':=s1.toks) (λb u e=>ag _ e) (ak _) ?_,rfl,q _ hf];show#[z,us,r,#[_,au _ rfl,rfl,#[_,rfl],rfl]]
def Zb(h:PA X es t):PE X (.List es pos) (b06 t):=by
 intro pi s σ H Q I hq;show wpAny_List_spliced (cB (h pos pi s σ H _ I hq) ?_);rintro us s1 ⟨xs,H1,I1,r,z,q⟩;show #[by rw[<- -r];show z,?_];let hf:=I1.bB.fresh (ak _);show#[.ref s1⁻¹,upd H1 s1⁻¹ (.lst xs),I1.laid (t':=s1.toks) (λb u e=>ag _ e) (ak _) ?_,rfl,q _ hf];show#[z,us,0,r,au _ rfl]
noncomputable abbrev Sp:=@&V->Hp->VK->XK->Prop
noncomputable abbrev nY:=@&Env->Hp->Shared->XK->Value->Shared->Prop
structure sW(P:Program)(w:World)(K:PySem.W.Frag)(mg:Str->Option Value)(base:Heap)(A:Around)(outer:@&Env)(s:Shared)(H:Hp):Prop where
 frames:A.frames=!outer
 mod:Mod K mg base
 bs:∀b o,base.get? b=!o->s.heap.get? b=!o/\H b=none
 nV:base.objs.size<=s⁻¹
 J9:s.heap.FunFrames base outer
 oz:∀b∈fO outer,H b=none
 bB:fU P w H s.heap
 bare:AllBare s.gens
abbrev CE(outer:@&Env)(P:Program)(w:World)(H:Hp)(s:Shared)(Q:VK)(u:Value)(s':Shared):Prop :=
 ∃v H',s'.os=s.os/\AllBare s'.gens/\Un (fO outer) [] H H' s.heap s'.heap/\fU P w H' s'.heap/\RelV v u/\Q v H'
abbrev CR(CX:nY)(outer:@&Env)(P:Program)(w:World)(H:Hp)(s:Shared)(Q:VK)(E:XK)(r:Result)(s':Shared):Prop :=
 match r with
 |.ok (.ret u)=>CE outer P w H s Q u s'
 |.ok _=>False
 |.error e=>CX outer H s E e s'
structure gN(P:Program)(w:World)(K:PySem.W.Frag)(mg:Str->Option Value)(base:Heap)(CX:nY)(k:Nat)(f:Addr)(fd:FuncData)(ps:@&Str)(sp:Sp):Prop where
 len:∀vs H Q E,sp vs H Q E->-vs=-ps
 run:∀(A:Around) (outer:@&Env) (s:Shared) (H:Hp) (args:Args) (us:@&Value) (vs:@&V) (Q:VK) (E:XK),q9 k A->sW P w K mg base A outer s H->BindsTo s fd args (ps.zip us)->Vals vs us->sp vs H Q E ->
  codeAny (model P w) A (.call (.ref f) args) (CR CX outer P w H s Q E) s
def sW.make{mg:Str->Option Value}{outer:@&Env}(e:sW P w K mg base A outer s H)(C:Addr)(us:@&Value)(kw:@&(Str×Value)) :
  sW P w K mg base (A.under (.builtin "type.__call__" #[.ref C::us,kw])) outer s H:=#[by first|show e.frames|(simpa[Around.under,Code.envs,Code.isFrame,pushEnvs] using e.frames),e.mod,e.bs,e.nV,e.J9,e.oz,e.bB,e.bare]
section
variable{s':Shared}
def Inv.JW(I:Inv X pi σ H s):sW X.prog X.w X.K X.mg X.base X.A X.stack s H :=
 #[I.ok.frames,I.ok.mod,I.bs,aH I.ok.nV I.sz,I.stack,I.AG,I.bB,I.bare]
def Inv.after{Q:VK}(I:Inv X pi σ H s)(h:CE X.stack X.prog X.w H s Q u s'):EP X pi σ Q u s':=by
 let#[v,H',os,bare,un,bB,r,q]:=h;let#[hh,g,d,t,uc]:=s';obtain rfl:uc=s.os:=os;show#[v,H',I.call (h':=hh) (g':=g) (d':=d) (t':=t) un bB bare (λb z=>absurd z #[_]),r,q]
end
def Jy(sp:Sp)(jS:@&V)(E:XK)(t:TA):TE:=λσ H Q=>t σ H λvs H1=>sp (vs++jS) H1 Q E
def Jz(C:Addr)(sp:Sp)(jS:@&V)(E:XK)(t:TA):TE:=λσ H Q=>t σ H λvs H1=>∀x dx,H1 x=none->H1 dx=none->dx≠x ->
 sp (.ref x::(vs++jS)) (upd (upd H1 dx (.own x)) x (.ins C dx [])) (λv H2=>v=.aR/\Q (.ref x) H2) E
abbrev Binds(K:PySem.W.Frag)(fd:FuncData)(ps:@&Str)(ds:@&Value):Prop :=
 ∀(s:Shared) (us:@&Value),K.In s.heap->(us++ds).length=-ps->BindsTo s fd #[us,[]] (ps.zip (us++ds))
def Binds.all(h:∀us:@&Value,(-us)=-ps->bindArgs fd #[us,[]]=pure (ps.zip us)):Binds K fd ps []:=λs us x hl=>by
 rw[eV] at hl ⊢;show .of_eq (h us hl)
def Passes(CX:nY)(X:Cx)(E:XK):Prop:=∀(pi:@&(Addr×Obj)) (σ:St) (H:Hp) (s:Shared) (e:Value) (s':Shared),Inv X pi σ H s->CX X.stack H s E e s'->X.xe e s'
section
variable{jS:@&V}{ds:@&Value}{E:XK}
def An{Q:VK}(F:gN X.prog X.w X.K X.mg X.base CX k f fd ps sp)(hr:q9 k X.A)(hb:Binds X.K fd ps ds)(hd:Vals jS ds)(hx:Passes CX X E)(I:Inv X pi σ H s)(r:Vals vs us)(h:sp (vs++jS) H Q E):wpAny (model X.prog X.w) X.A (call (.ref f) us) (EP X pi σ Q) X.xe s:=by
 let r2:=r.append hd;let hl:(us++ds).length=-ps:=by rw[<- -r2];show F.len _ _ _ _ h
 show wpAny_call (fC (F.run X.A X.stack s H #[us,[]] (us++ds) (vs++jS) Q E hr I.JW (hb s us I.fZ hl) r2 h) λr s' hq=>?_);cases r with
 |error e=>show hx pi σ H s e s' I hq
 |ok fl =>
  cases fl with
  |ret u=>show I.after hq
  |next=>show False.elim hq
  |brk=>show False.elim hq
  |cont=>show False.elim hq
def Sz(F:gN X.prog X.w X.K X.mg X.base CX k f fd ps sp)(hr:q9 k X.A)(hg:Gl X x)(hm:X.mg x=!.ref f)(hk:PySem.W.keepIn X.K (.ref f)=true)(hb:Binds X.K fd ps ds)(hd:Vals jS ds)(hx:Passes CX X E)(ha:PA X (e::es) t)(hZ:(x==("__debug__":Str))=false:=by decide)(he:starEach (e::es) X.env=(false,eval e X.env)::starEach es X.env:=by rfl)(gE:(backTo pos (starEach es X.env)).any (·.1)=false:=by rfl) :
  PE X (.Call (.Name x p) (e::es) [] pos) (Jy sp jS E t):=by
 intro pi s σ H Q I h;show cM (O6 I hg hm ?_ hZ);show jT I.ok.mod.nz hk (cB (ha pos pi s σ H _ I h) ?_) he gE;rintro us s1 ⟨vs,H1,I1,r,q⟩;show #[I1.fZ,?_];show An F hr hb hd hx I1 r q
def UX(F:gN X.prog X.w X.K X.mg X.base CX k f fd ps sp)(hr:q9 k X.A)(hg:Gl X x)(hm:X.mg x=!.ref f)(hk:PySem.W.keepIn X.K (.ref f)=true)(hb:Binds X.K fd ps ds)(hd:Vals jS ds)(hx:Passes CX X E)(hZ:(x==("__debug__":Str))=false:=by decide):PE X (.Call (.Name x p) [] [] pos) (Jy sp jS E Ed):=by
 intro pi s σ H Q I h;show cM (O6 I hg hm ?_ hZ);show jy I.fZ hk (An (us:=[]) F hr hb hd hx I .nil h)
structure Mk(K:PySem.W.Frag)(C f:Addr):Prop where
 makes:PySem.W.makesIn K C=true
 init:PySem.W.findIn K (.ref C) "__init__"=!!.ref f
 fn:PySem.W.isFn K (.ref f)=true
 kp:PySem.W.keepIn K (.ref C)=true
def Ny{Q:VK}(M:Mk X.K C f)(F:gN X.prog X.w X.K X.mg X.base CX k f fd ps sp)(hr:q9 (k+1) X.A)(hb:Binds X.K fd ps ds)(hd:Vals jS ds)(hx:Passes CX X E)(I:Inv X pi σ H s)(r:Vals vs us)(h:∀x dx,H x=none->H dx=none->dx≠x->sp (.ref x::(vs++jS)) (upd (upd H dx (.own x)) x (.ins C dx [])) (λv H2=>v=.aR/\Q (.ref x) H2) E) :
  wpAny (model X.prog X.w) X.A (call (.ref C) us) (EP X pi σ Q) X.xe s:=by
 let hq:=h (s⁻¹+1) s⁻¹ (I.bB.fresh (jf _)) (I.bB.fresh (ak _)) (aF (lH _));let I2:=Inv.made (C:=C) I;let r2:Vals (V.ref (s⁻¹+1)::(vs++jS)) (Value.ref (s⁻¹+1)::(us++ds)):=.cons rfl (r.append hd);let hl:(Value.ref (s⁻¹+1)::us++ds).length=-ps:=by
  let e:=-r2;rw[F.len _ _ _ _ hq] at e;show e.symm
 show wpAny_call (UI I.fZ M.makes M.init (gg.mp M.fn) (fC (F.run _ X.stack _ _ #[Value.ref (s⁻¹ + 1) :: us,[]] (Value.ref (s⁻¹ + 1) :: (us ++ ds)) _ _ E (hr.make C us [])
  (I2.JW.make C us []) (hb _ (Value.ref (s⁻¹ + 1) :: us) I2.fZ hl) r2 hq) λr s' nB=>?_))
 cases r with
 |error e=>show hx pi σ _ _ e s' I2 nB
 |ok fl =>
  cases fl with
  |ret u =>
   let#[v,H',I3,rv,ev,q3]:=I2.after nB;subst ev;show#[rv,#[V.ref (s⁻¹+1),H',I3,rfl,q3]]
  |next=>show False.elim nB
  |brk=>show False.elim nB
  |cont=>show False.elim nB
def SE(M:Mk X.K C f)(F:gN X.prog X.w X.K X.mg X.base CX k f fd ps sp)(hr:q9 (k+1) X.A)(hg:Gl X x)(hm:X.mg x=!.ref C)(hb:Binds X.K fd ps ds)(hd:Vals jS ds)(hx:Passes CX X E)(ha:PA X (e::es) t)(hZ:(x==("__debug__":Str))=false:=by decide)(he:starEach (e::es) X.env=(false,eval e X.env)::starEach es X.env:=by rfl)(gE:(backTo pos (starEach es X.env)).any (·.1)=false:=by rfl) :
  PE X (.Call (.Name x p) (e::es) [] pos) (Jz C sp jS E t):=by
 intro pi s σ H Q I h;show cM (O6 I hg hm ?_ hZ);show jT I.ok.mod.nz M.kp (cB (ha pos pi s σ H _ I h) ?_) he gE;rintro us s1 ⟨vs,H1,I1,r,q⟩;show #[I1.fZ,?_];show Ny M F hr hb hd hx I1 r q
def Vc(M:Mk X.K C f)(F:gN X.prog X.w X.K X.mg X.base CX k f fd ps sp)(hr:q9 (k+1) X.A)(hg:Gl X x)(hm:X.mg x=!.ref C)(hb:Binds X.K fd ps ds)(hd:Vals jS ds)(hx:Passes CX X E)(hZ:(x==("__debug__":Str))=false:=by decide):PE X (.Call (.Name x p) [] [] pos) (Jz C sp jS E Ed):=by
 intro pi s σ H Q I h;show cM (O6 I hg hm ?_ hZ);show jy I.fZ M.kp (Ny (us:=[]) M F hr hb hd hx I .nil h)
end
structure iR(N P:@&Str)(sc:Scope):Prop where
 kind:sc.kind=.function
 co:sc.isCoroutine=false
 gen:sc.isGenerator=false
 nd:N.Nodup
 pre:N.take (-P)=P
 par:∀x∈P,sc.names.lookup x=!.local\/sc.names.lookup x=!.cell
 nh:∀y∈sc.names,y.2≠.free
def Kr{kindOf:Str->Option NameKind}{x:Str}:∀{binds:@&(Str×Value)} {m:Str->Option Value},(∀v,(x,v)∉binds)->bindL kindOf binds m x=m x
 |[],_,_=>rfl
 |(n,v)::r,m,h=>by
  unfold bindL;rw[Kr λw hw=>h w (bL _ hw)];split
  .have:x≠n:=by rintro rfl;show h v jW
   simp[this]
  .rfl
def Ko{kindOf:Str->Option NameKind}{x:Str}:∀{binds:@&(Str×Value)} {m:Str->Option Value},(∀v,(x,v)∉binds)->bindC kindOf binds m x=m x
 |[],_,_=>rfl
 |(n,v)::r,m,h=>by
  unfold bindC;rw[Ko λw hw=>h w (bL _ hw)];split
  .rfl
  .have:x≠n:=by rintro rfl;show h v jW
   simp[this]
def Kp{kindOf:Str->Option NameKind}{x:Str}{v:Value}:∀{P:@&Str} {vs:@&Value} {i:Nat} {m:Str->Option Value},P.Nodup->P[i]?=!x->vs[i]?=!v->kindOf x=!.local ->
  bindL kindOf (P.zip vs) m x=!v
 |[],_,_,_,_,h,_,_=>by simp at h
 |_::_,[],_,_,_,_,h,_=>by simp at h
 |p::P,w::vs,0,m,nd,h1,h2,hk=>by
  simp at h1 h2;subst h1;subst h2;change bindL kindOf ((p,w)::P.zip vs) m p=_;unfold bindL;rw[Kr λv hv=>(fP.mp nd).1 (mR hv).1,aw hk];simp
 |p::P,w::vs,i+1,m,nd,h1,h2,hk=>by
  unfold bindL;show Kp (fP.mp nd).2 (_/h1) (_/h2) hk
def Kn{kindOf:Str->Option NameKind}{x:Str}{v:Value}:∀{P:@&Str} {vs:@&Value} {i:Nat} {m:Str->Option Value},P.Nodup->P[i]?=!x->vs[i]?=!v->kindOf x≠!.local ->
  bindC kindOf (P.zip vs) m x=!v
 |[],_,_,_,_,h,_,_=>by simp at h
 |_::_,[],_,_,_,_,h,_=>by simp at h
 |p::P,w::vs,0,m,nd,h1,h2,hk=>by
  simp at h1 h2;subst h1;subst h2;change bindC kindOf ((p,w)::P.zip vs) m p=_;unfold bindC;rw[Ko λv hv=>(fP.mp nd).1 (mR hv).1,az hk];simp
 |p::P,w::vs,i+1,m,nd,h1,h2,hk=>by
  unfold bindC;show Kn (fP.mp nd).2 (_/h1) (_/h2) hk
def start(N:@&Str)(vs:@&V):St:=vs.map some++List.replicate (-N- -vs) none
abbrev qb(CX:nY)(P:Program)(w:World)(K:PySem.W.Frag)(mg:Str->Option Value)(base:Heap)(N:@&Str)(qual:Str)(scope:Scope)(f:Addr)(cd:Value)(A:Around)(outer:@&Env)(s:Shared)(H:Hp)(E:XK):Cx where
 prog:=P
 w:=w
 K:=K
 mg:=mg
 base:=base
 A:=A.deeper (envOfC qual scope s⁻¹ f cd)
 N:=N
 dA:=s
 jt:=H
 env:=envOfC qual scope s⁻¹ f cd
 outer:=outer
 stack:=envOfC qual scope s⁻¹ f cd::outer
 ex:=[]
 calm:=true
 fn:=λx=>true
 pn:=[]
 xe:=λe s'=>wpAny (model P w) (A.deeper (envOfC qual scope s⁻¹ f cd)) (leaving (envOfC qual scope s⁻¹ f cd) e) (λx oY=>CX outer H s E e oY) (λe' oY=>CX outer H s E e' oY) s'
def Ez{sc:Scope}{n:Nat}(h:sc.names.lookup x=!.cell):∃c,(cellsFrom n sc.names []).lookup x=!c:=by
 let q:=dM sc.names n [] (.inl h);show eQ.mp q
def a82{mg:Str->Option Value}{qual:Str}{scope:Scope}{cd:Value}{outer:@&Env}{s1:Shared}{E:XK}(S:iR N ps scope)(hd:A.handled=none)(e0:sW P w K mg base A outer s H)(hl:-vs=-ps)(r:Vals vs us)(x:InCallC s s⁻¹ (bindL (envOfC qual scope s⁻¹ f cd).kindOf (ps.zip us) λt=>none) (cellsFrom (s⁻¹+1) scope.names []) (bindC (envOfC qual scope s⁻¹ f cd).kindOf (ps.zip us) λt=>none) s1) :
  Inv (qb CX P w K mg base N qual scope f cd A outer s H E) [] (start N vs) H s1:=by
 let gE:-ps<=-N:=by have:=ij List.length S.pre;grind
 let#[h1,tk,rfl,hk]:=x.done;let wt:∀b:Addr,b∉(qb CX P w K mg base N qual scope f cd A outer s H E).ex:=λb z=>absurd (show b∈([]:@&Addr) from z) #[_];show #[#[e0.mod,S.kind,rfl,rfl,ak _,λy z c h1 h2=>?_,λy hy=>?_,λy c t h=>?_,λt=>hd,Around.frames_deeper e0.frames,.inr #[rfl,rfl],λb z=>absurd z (wt b),e0.bs,e0.nV,λb t t=>wt b,λb z=>absurd z (wt b),e0.J9,e0.oz],
  rfl,e0.bare,Un.kept hk,#[_,x.toInCall.ns,λi y v h1 h2 h3=>?_],λy c h=>#[_,x.cell y c h],e0.bB.fresh (ak _),λy c h=>?_,λp hp=>absurd (show p ∈ ([]:@&(Addr × Obj)) from hp) #[_],e0.bB.kept hk,?_,λcZ z=>absurd (show (none:Option (List (Option V)))=some cZ from z) #[_]]
 .exact name_of_addr x.apart (aL h1) (aL h2)
 .rcases hy with hy|hy
  .exact Ez hy
  .exact absurd rfl (S.nh _ (aL hy))
 .exact eJ (x.above y c (aL h))
 .let hi:i< -vs:=by
   unfold start at h2;by_cases hi:i< -vs
   .exact hi
   .rw[cX (_/hi)] at h2;rw[dH] at h2
    simp_all
  let ha:vs[i]?=!v:=by
   unfold start at h2;rw[ay (_/hi),aD] at h2;cases e:vs[i]? with
   |none=>rw[e] at h2;cases h2
   |some a=>rw[e] at h2;cases h2;rfl
  let#[u,hu,rv]:=r.get ha;let hp:ps[i]?=!y:=by
   rw[<- S.pre,List.getElem?_take_of_lt ()];show h1
  let Hk:ps.Nodup:=by rw[<- S.pre];show S.nd.sublist (List.take_sublist _ _)
  show#[u,rv,?_];rcases S.par y (aP hp) with k|k
  .exact .inl #[k,Kp Hk hp hu k]
  .let#[c,e]:=Ez k;show .inr #[.inl k,c,e,?_];let q:=x.cell y c e;rw[Kn Hk hp hu (by change scope.names.lookup y≠_;rw[k];decide)] at q;show q
 .exact e0.bB.fresh (eJ (x.above y c (aL h)))
 .unfold start;change _=-N
  simp_all
def Wu{mg:Str->Option Value}{name qual:Str}{params:Arguments}{body:@&Stmt}{scope:Scope}{dV kV doc pm fJ ct oc:Value}{an od:Option Addr}{mE:Array (Option Value)}(lk:K.lookup f=!#[oc,od,.func (PySem.W.fnOf name qual params body scope dV kV doc pm an fJ ct),mE])(lY:PySem.W.codeIn K fJ qual=true)(S:iR N ps scope)(len:∀vs H Q E,sp vs H Q E->-vs=-ps)(xu:∀ (A:Around) (outer:@&Env) (s:Shared) (H:Hp) (vs:@&V) (Q:VK) (E:XK),q9 k (A.deeper (envOfC qual scope s⁻¹ f fJ))->sp vs H Q E ->
   ∃ t,jv (qb CX P w K mg base N qual scope f fJ A outer s H E) body t/\t { nx:=λz H'=>Q .aR H',rt:=Q } (start N vs) H) :
  gN P w K mg base CX (k+1) f (PySem.W.fnOf name qual params body scope dV kV doc pm an fJ ct) ps sp:=by
 show#[len,λA outer s H args us vs Q E hr e0 hb r uj=>?_];let hl:=len _ _ _ _ uj;let KX:=e0.mod.nz.keeps λb o e=>(e0.bs b o e).1;let lim:=e0.mod.nolimit.keeps λb o e=>(e0.bs b o e).1;let ly:∀y∈ps.zip us,scope.names.lookup y.1=!.local\/(scope.names.lookup y.1=!.cell/\((cellsFrom (s⁻¹+1) scope.names []).lookup y.1).isSome=true):=λ⟨n,v⟩ hy=>by
  rcases S.par n (mR hy).1 with q|q
  .exact .inl q
  .exact .inr #[q,dM _ _ _ (.inl q)]
 show codeAny_call_function hr.depth (KX _ _ lk) rfl S.co S.gen rfl (PySem.W.codeRec_of KX lY) (hb _ _ _ _ ?_);show wpAny_newFunctionEnv_cells S.kind ly λenv he s1 x=>?_;subst he;show#[lim.keeps x.toInCall.keep,codeAny_func ?_];let#[t,ht,hq]:=xu A outer s H vs Q E (hr.deeper _) uj;let I:Inv (qb CX P w K mg base N qual scope f fJ A outer s H E) [] (start N vs) H s1:=a82 S hr.hd e0 hl r x;show bV (ht [] s1 (start N vs) H _ I hq) (λfl s' hs=>?_) λe s' hs=>hs;let fin:∀{cu:St} {H':Hp} {v:V} {u:Value},Inv (qb CX P w K mg base N qual scope f fJ A outer s H E) [] cu H' s'->RelV v u->Q v H'->CE outer P w H s Q u s' :=
  λ{cu H' v u} J rv q=>#[v,H',J.os,J.bare,J.base,J.bB,rv,q]
 cases fl with
 |ret u =>
  let#[v,cu,H',J,rv,q]:=hs;show fin J rv q
 |next =>
  let#[cu,H',J,q]:=hs;show fin (v:=V.aR) J rfl q
 |brk =>
  let#[_,_,_,q]:=hs
  simp_all
 |cont =>
  let#[_,_,_,q]:=hs
  simp_all
section
variable{id T:String}{r:@&V->Hp->VK->Prop}
def BG(r:@&V->Hp->VK->Prop)(t:TA):TE:=λσ H Q=>t σ H λvs H1=>r vs H1 Q
def AN(hc:k9 X (.builtin id) r)(hg:Gl X x)(hm:X.mg x=none)(hv:bootBuiltins x=!.builtin id)(ha:PA X (e::es) t)(hn:x≠"__name__":=by decide)(hZ:(x==("__debug__":Str))=false:=by decide)(he:starEach (e::es) X.env=(false,eval e X.env)::starEach es X.env:=by rfl)(gE:(backTo pos (starEach es X.env)).any (·.1)=false:=by rfl):PE X (.Call (.Name x p) (e::es) [] pos) (BG r t):=by
 intro pi s σ H Q I h;show cM (Q7 I hg hm hv ?_ hn hZ);show PyProof.Rows.callWith_builtin1 (cB (ha pos pi s σ H _ I h) (by rintro us s1 ⟨vs,H1,I1,r1,q1⟩;show hc pi s1 σ H1 vs us Q I1 r1 q1)) he gE
def E7(hc:k9 X (.type T) r)(hg:Gl X x)(hm:X.mg x=none)(hv:bootBuiltins x=!.type T)(ha:PA X (e::es) t)(hn:x≠"__name__":=by decide)(hZ:(x==("__debug__":Str))=false:=by decide)(he:starEach (e::es) X.env=(false,eval e X.env)::starEach es X.env:=by rfl)(gE:(backTo pos (starEach es X.env)).any (·.1)=false:=by rfl):PE X (.Call (.Name x p) (e::es) [] pos) (BG r t):=by
 intro pi s σ H Q I h;show cM (Q7 I hg hm hv ?_ hn hZ);show cg (cB (ha pos pi s σ H _ I h) (by rintro us s1 ⟨vs,H1,I1,r1,q1⟩;show hc pi s1 σ H1 vs us Q I1 r1 q1)) he gE
end
end L2
namespace HT
open PySem PyProof.Rows
section
variable{prog:Program}{w:World}{A:Around}{E:Value->Shared->Prop}{s:Shared}
def bC0{t b:Addr}{vs ws:@&Value}{Q:Value->Shared->Prop}(ht:IsTup s.heap t vs.toArray)(hb:IsTup s.heap b ws.toArray)(hv:vs≠[])(h1:ws=[]->Q (.ref t) s)(h2:ws≠[]->Q (.ref s⁻¹) { s with heap:=s.heap.push { cls:=.type "tuple",data:=.seq (vs++ws).toArray } })(gD:-vs+-ws<=sizeLine):wpAny (model prog w) A (binaryOp .Add (.ref t) (.ref b)) Q E s:=by
 let#[#[cls,dd,data,sl],ho,hc,n,hd]:=id ht;let#[#[yj,qO,data2,kY],jq,qE,n2,hd2]:=id hb;subst hc hd qE hd2;let e:vs.toArray++ws.toArray=(vs++ws).toArray:=by simp
 by_cases hw:ws=[]
 .exact concat_meets #[_,ho,rfl] #[_,jq,rfl] je mw iB ip (gU _ _)
   (tuple_addW1 t b vs.toArray ws.toArray n n2 dd qO sl kY (_/hv) (by simp[hw])) #[ho,jq,h1 hw]
 .refine concat_meets #[_,ho,rfl] #[_,jq,rfl] je mw iB ip (gU _ _)
   (tuple_addW2 t b vs.toArray ws.toArray n n2 dd qO sl kY (_/hv) (_/hw) ()) #[ho,jq,?_]
  rw[e];show h2 hw
abbrev dW(n d:Nat):Option Int->Nat
 |none=>d
 |some v=>if v<0 then(v+(n:Int)).toNat else min v.toNat n
def LY(v:Int)(n d:Nat):(if v<0 then max (v+(n:Int)) 0 else min v (n:Int))=((dW n d (!v):Nat):Int):=by
 show(if v<0 then max (v+(n:Int)) 0 else min v (n:Int))=(((if v<0 then(v+(n:Int)).toNat else min v.toNat n):Nat):Int)
 grind
def aZ4(lo hi:Option Int)(n:Nat):Builtin.Slice.sliceAdjust lo hi 1 (n:Int)=(((dW n 0 lo:Nat):Int),((dW n n hi:Nat):Int)):=by
 show Prod.ext ?_ ?_
 .cases lo with
  |none=>rfl
  |some v=>show LY v n 0
 .cases hi with
  |none=>rfl
  |some v=>show LY v n n
def aU8(i j:Nat):Builtin.Slice.slicePlaces (i:Int) (j:Int) 1=j-i:=by
 unfold Builtin.Slice.slicePlaces;let h1:(1:Int)>0:=by omega
 simp only[h1,if_true,Int.ediv_one];split<;>omega
def Ln{v:Value}{o:Option Int}{Q:Option Int->Shared->Prop}(p:IsPart v o)(h:Q o s):wpAny (model prog w) A (Builtin.Slice.slicePartIndex v) Q E s:=by
 cases p with
 |none=>show qi h
 |int i t=>show slicePart_int h
def U5{sl:Addr}{vl vu:Value}{lo hi:Option Int}{n:Nat}{Q:Int×Int×Nat->Shared->Prop}(hs:s.heap.IsSliceOf sl vl vu .none)(pl:IsPart vl lo)(pu:IsPart vu hi)(h:Q (((dW n 0 lo:Nat):Int),1,dW n n hi-dW n 0 lo) s):wpAny (model prog w) A (Builtin.Slice.sliceApplied (.ref sl) (pure (n:Int))) Q E s:=by
 let#[os,lU,nF,oq]:=id hs;show aa (aa (bo lU oq (x:=vl) rfl (aa (bo lU oq (x:=vu) rfl (aa (bo lU oq (x:=.none) rfl (ai ?_)))))));show aa (qi ?_);show aa (Ln pl (aa (Ln pu (aa (ai ?_)))));change wpAny _ _ (match Builtin.Slice.sliceAdjust lo hi 1 (n:Int) with|(lo,hi)=>pure (lo,(1:Int),Builtin.Slice.slicePlaces lo hi 1)) _ _ s;rw[aZ4 lo hi n];change wpAny _ _ (pure (((dW n 0 lo:Nat):Int),(1:Int),Builtin.Slice.slicePlaces ((dW n 0 lo:Nat):Int) ((dW n n hi:Nat):Int) 1)) _ _ s;rw[aU8];show ai h
def Vg(xs:Array Value)(i k:Nat):((List.range k).filterMap λ(m:Nat)=>xs[((i:Int)+(m:Int)*1).toNat]?).toArray=((xs.toList.drop i).take k).toArray:=by
 let e:(λ(m:Nat)=>xs[((i:Int)+(m:Int)*1).toNat]?)=λm=>xs[i+m]?:=by
  funext m
  have:((i:Int)+(m:Int)*1).toNat=i+m:=by omega
  rw[this]
 rw[e];have:=pick_run xs i k;rw[OS] at this;let e2:((λx=>xs[x]?) ∘ λx=>i+x)=λm=>xs[i+m]?:=rfl;rw[e2] at this;rw[this]
def al5{t sl:Addr}{items:Array Value}{vl vu:Value}{lo hi:Option Int}{Q:Value->Shared->Prop}(ht:IsTup s.heap t items)(hs:s.heap.IsSliceOf sl vl vu .none)(pl:IsPart vl lo)(pu:IsPart vu hi)(hw:¬(dW items.size 0 lo=0/\dW items.size items.size hi=items.size))(h:Q (.ref s⁻¹) { s with heap:=s.heap.push { cls:=.type "tuple",data:=.seq ((items.toList.drop (dW items.size 0 lo)).take (dW items.size items.size hi-dW items.size 0 lo)).toArray } })(gD:items.size<=sizeLine):wpAny (model prog w) A (getItem (.ref t) (.ref sl)) Q E s:=by
 let gY:sizeOk (.seq ((items.toList.drop (dW items.size 0 lo)).take (dW items.size items.size hi-dW items.size 0 lo)).toArray):=by
  show((items.toList.drop (dW items.size 0 lo)).take (dW items.size items.size hi-dW items.size 0 lo)).toArray.size<=sizeLine;rw[aK,cF,List.length_drop,bD];omega
 let#[os,lU,nF,oq]:=id hs;let xA:s.TypeIs (.ref sl) "slice":=#[os,lU,nF]
 unfold getItem
 try with_reducible show aZ ?_
 show aa (oI ht.typeIs ∅ ?_);show aa (bA ht.typeIs bf
  (br bf ht.typeIs tQ ?_ (zd _ _)))
 change wpAny _ _ (Builtin.Tuple.tupleItemsOf (.ref t) >>= _) _ _ s;show aa (vz ht ?_);show aa (de xA ?_);show aa (U5 hs pl pu ?_);let kO:¬((((dW items.size 0 lo:Nat):Int)==0&&(1:Int)==1&&(dW items.size items.size hi-dW items.size 0 lo)==items.size)=true):=by
  grind
 change wpAny _ _ (if(((dW items.size 0 lo:Nat):Int)==0&&(1:Int)==1&&(dW items.size items.size hi-dW items.size 0 lo)==items.size)=true then _ else _) _ _ s;rw[az kO,Vg]
 first
  |show wpAny_bind (wpAny_newObj_type (wpAny_pure #[_,rfl,wpAny_pure h]) gY)
  |show wpAny_bind (wpAny_newObj_type (wpAny_bind (wpAny_pure (wpAny_pure #[_,rfl,wpAny_pure h]))) gY)
  |show wpAny_bind (wpAny_bind (wpAny_newObj_type (wpAny_pure (wpAny_pure #[_,rfl,wpAny_pure h])) gY))
  |show wpAny_bind (wpAny_bind (wpAny_newObj_type (wpAny_pure #[_,rfl,wpAny_pure h]) gY))
end
end HT
namespace L2
open PySem PySem.Spec PyProof.Rows
variable{X:Cx}{e:Expr}{pos:Pos}{n t':Nat}{α:Type}{a:Addr}{pi:@&(Addr×Obj)}{σ:St}{H H':Hp}{s:Shared}{aS:@&Value}{A:Around}{y x:V}{u:Value}{o:Option V}{w:World}{E:Value->Shared->Prop}{kvs:@&(List Key×V)}{P:Program}
noncomputable abbrev TO:=St->Hp->(Option Int->Hp->Prop)->Prop
abbrev PO(X:Cx)(e:Option Expr)(t:TO):Prop :=
 ∀(pi:@&(Addr×Obj)) (s:Shared) (σ:St) (H:Hp) (Q:Option Int->Hp->Prop),Inv X pi σ H s->t σ H Q ->
  wpAny (model X.prog X.w) X.A (evalPart e X.env) (λu s'=>∃o H',Inv X pi σ H' s'/\IsPart u o/\Q o H') X.xe s
def TB:TO:=λx H Q=>Q none H
def XJ(t:TE):TO:=λσ H Q=>t σ H λx H1=>∃i,x=.int i/\Q (!i) H1
section
variable{te:TE}{lo hi:Option Expr}{tl th:TO}{p2:Pos}
def Mx:PO X none TB:=by
 intro pi s σ H Q I h;show ai #[none,H,I,.none,h]
def My(h:PE X e te):PO X (!e) (XJ te):=by
 intro pi s σ H Q I hw;show cB (h pi s σ H _ I hw) λu s1 bh=>?_;let#[x,H1,I1,r1,q1]:=bh;let#[i,rfl,q]:=q1;let#[t,rfl]:=r1;show#[!i,H1,I1,.int i t,q]
abbrev yY(X:Cx)(r:V->Option Int->Option Int->Hp->VK->Prop):Prop :=
 ∀(pi:@&(Addr×Obj)) (s:Shared) (σ:St) (H:Hp) (x:V) (v vl vu:Value) (lo hi:Option Int) (sl:Addr) (Q:VK),Inv X pi σ H s->RelV x v->s.heap.IsSliceOf sl vl vu .none->IsPart vl lo->IsPart vu hi->r x lo hi H Q ->
  ∃T id,typeLookup (.type T) "__getitem__"=pure (!.builtin id)/\s.TypeIs v T/\wpAny (model X.prog X.w) X.A (getItem v (.ref sl)) (EP X pi σ Q) X.xe s
def Pc(r:V->Option Int->Option Int->Hp->VK->Prop)(te:TE)(tl th:TO):TE:=λσ H Q=>te σ H λx H1=>tl σ H1 λl H2=>th σ H2 λu H3=>r x l u H3 Q
def Nu{r:V->Option Int->Option Int->Hp->VK->Prop}(hr:yY X r)(he:PE X e te)(hl:PO X lo tl)(hu:PO X hi th):PE X (.Subscript e (.Slice lo hi none p2) pos) (Pc r te tl th):=by
 intro pi s σ H Q I h;show Subscript_ (cB (he pi s σ H _ I h) λv s1 bh=>?_);let#[x,H1,I1,r1,q1]:=bh;show wpAny_Slice (cB (hl pi s1 σ H1 _ I1 q1) ?_);rintro vl s2 ⟨l,H2,I2,pl,q2⟩;show cB (hu pi s2 σ H2 _ I2 q2) λvu s3 bh=>?_;let#[u,H3,I3,pu,q3]:=bh;show ai ?_;let I4:Inv X pi σ H3 { s3 with heap:=s3.heap.push { cls:=.type "slice",data:=.fields (List.toArray [vl,vu,.none]) } }:=I3.kept (t':=s3.toks) λb ob q=>ag _ q;let#[T,id,hT,ht,hg]:=hr pi { s3 with heap:=s3.heap.push { cls:=.type "slice",data:=.fields (List.toArray [vl,vu,.none]) } } σ H3 x v vl vu l u s3⁻¹ Q I4 r1 (mT ..) pl pu q3;show tail_any ht hT hg (by rfl)
abbrev qa(xs:@&V)(lo hi:Option Int):@&V:=(xs.drop (HT.dW (-xs) 0 lo)).take (HT.dW (-xs) (-xs) hi-HT.dW (-xs) 0 lo)
def Lq(xs:@&V)(lo hi:Option Int):(qa xs lo hi).length<=-xs:=by
 unfold qa;rw[cF,List.length_drop];omega
abbrev b25(K:PySem.W.Frag):V->Option Int->Option Int->Hp->VK->Prop:=λx lo hi H Q=>∃a xs,x=.ref a/\gF K H a xs /\
 ¬(HT.dW (-xs) 0 lo=0/\HT.dW (-xs) (-xs) hi=-xs)/\∀p,H p=none->Q (.ref p) (upd H p (.tup (qa xs lo hi)))
def ZQ:yY X (b25 X.K):=by
 intro pi s σ H x v vl vu lo hi sl Q I rx hs pl pu h;let#[a,xs,rfl,hx,hw,q]:=h;cases rx;let#[aS,r,ht,hz]:=I.tuple hx;let hlen:aS.toArray.size=-xs:=by show r.length.symm
 show#["tuple",_,bf.lookup,ht.typeIs,?_];show HT.al5 ht hs pl pu (by rw[hlen];show hw) ?_ (by rw[hlen];show hz);rw[hlen];show#[.ref s⁻¹,_,I.laid (t':=s.toks) (λb ob q=>ag _ q) (ak _) ?_,rfl,q _ (I.bB.fresh (ak _))];show#[aH (Lq xs lo hi) hz,_,(r.drop (HT.dW (-xs) 0 lo)).take (HT.dW (-xs) (-xs) hi-HT.dW (-xs) 0 lo),F8.new _ _]
def Xq(K:PySem.W.Frag):R2:=λx y H Q=>∃a b xs ys,x=.ref a/\y=.ref b/\gF K H a xs/\gF K H b ys/\xs≠[]/\-xs+-ys<=sizeLine /\
 (ys=[]->Q (.ref a) H)/\(ys≠[]->∀p,H p=none->Q (.ref p) (upd H p (.tup (xs++ys))))
def Vals.T7{xs:@&V}{us:@&Value}(r:Vals xs us):us=[]↔xs=[]:=by
 cases r with
 |nil=>simp
 |cons _ _=>simp
def Sq:fj X (binaryOp .Add) (Xq X.K):=by
 intro pi s σ H x y v u Q I rx ry h;let#[a,b,xs,ys,rfl,rfl,ha,hb,hx,hz,q1,q2]:=h;cases rx;cases ry;let#[aS,r1,p1,_]:=I.tuple ha;let#[lS,r2,p2,_]:=I.tuple hb;show HT.bC0 p1 p2 (λz=>hx (r1.T7.mp z)) (λz=>#[.ref a,H,I,rfl,q1 (r2.T7.mp z)]) (λz=>?_) (by rw[<- -r1,<- -r2];show hz);show#[.ref s⁻¹,_,I.laid (t':=s.toks) (λb ob q=>ag _ q) (ak _) ?_,rfl,q2 (λw=>z (r2.T7.mpr w)) _ (I.bB.fresh (ak _))];show#[by rw[bg];show hz,_,r1.append r2,F8.new _ _]
end
abbrev lh(n:Nat)(i:Int):Option Nat:=if 0<=i then(if i<n then some i.toNat else none) else if -(n:Int)<=i then some (i+n).toNat else none
abbrev iQ{α:Type}(xs:List α)(i:Int):Option α:=(lh (-xs) i).bind λj=>xs[j]?
def Mj{i:Int}{j:Nat}(h:lh n i=!j):seqIndex? i n=!j/\j<n/\-(n:Int)<=i/\i<n:=by
 unfold lh at h;by_cases h0:0<=i
 .rw[aw h0] at h;by_cases h1:i<n
  .rw[aw h1] at h;let e:=aJ h;show#[by rw[seqIndex_of h0 h1,e],by omega,by omega,h1]
  simp_all
 .rw[az h0] at h;by_cases h1:-(n:Int)<=i
  .rw[aw h1] at h;let e:=aJ h;show#[by rw[seqIndex_neg () h1,e],by omega,h1,by omega]
  simp_all
def LV{xs:List α}{i:Int}{v:α}(h:iQ xs i=!v):∃j,seqIndex? i (-xs)=!j/\xs[j]?=!v/\j< -xs/\-(-xs:Int)<=i/\i< -xs:=by
 unfold iQ at h;cases e:lh (-xs) i with
 |none=>simp_all
 |some j =>
  rw[e] at h;let#[h1,h2,h3,h4]:=Mj e;show#[j,h1,h,h2,h3,h4]
def E4{xs:List α}{j:Nat}{v:α}(h:xs[j]?=!v):iQ xs (j:Int)=!v:=by
 let hj:=(ax.mp h).1;let e:lh (-xs) (j:Int)=!j:=by
  unfold lh
  simp_all
 unfold iQ;rw[e];show h
def Ef(b:Expr):Prop:=∀o i,subscripted b false o i=operate [o,i] (getItem o i)
abbrev vt(X:Cx)(r:R2):Prop :=
 ∀(value slice:Expr) (pi:@&(Addr×Obj)) (s:Shared) (σ:St) (H:Hp) (x y:V) (v u:Value) (Q:VK),Inv X pi σ H s->RelV x v->RelV y u->r x y H Q ->
  subscripted slice false v u=operate [v,u] (getItem v u)->wpAny (model X.prog X.w) X.A (subscriptTail value slice v u) (EP X pi σ Q) X.xe s
abbrev kU(X:Cx)(id:String)(r:V->@&V->Hp->VK->Prop):Prop :=
 ∀(pi:@&(Addr×Obj)) (s:Shared) (σ:St) (H:Hp) (x:V) (xs:@&V) (v:Value) (us:@&Value) (Q:VK),Inv X pi σ H s->RelV x v->Vals xs us->r x xs H Q ->
  wpAny (model X.prog X.w) X.A (call (.builtin id) (v::us)) (EP X pi σ Q) X.xe s
section
variable{a b:Expr}{ta tb:TE}
def Jm{r:R2}(hr:vt X r)(ha:PE X a ta)(hb:PE X b tb)(hs:Ef b):PE X (.Subscript a b pos) (tZ r ta tb):=by
 intro pi s σ H Q I h;show Subscript_ (DS ha hb I h λv u s2 x y H2 I2 rx ry q=>hr a b pi s2 σ H2 x y v u Q I2 rx ry q (hs _ _))
def b31(K:PySem.W.Frag):R2:=λx y H Q=>∃p xs i v,x=.ref p/\y=.int i/\fT K H p xs/\iQ xs i=!v/\Q v H
def b30(K:PySem.W.Frag):R2:=λx y H Q=>∃p xs i v,x=.ref p/\y=.int i/\gF K H p xs/\iQ xs i=!v/\Q v H
def bA3:vt X (b31 X.K):=by
 intro value slice pi s σ H x y v u Q I rx ry h hs;let#[p,xs,i,z,rfl,rfl,hq,he,q]:=h;cases rx;let#[t,rfl]:=ry;let#[aS,r,pl,hz]:=I.list hq;let#[j,h1,h2,h3,h4,h5]:=LV he;let#[w,ew,fH]:=r.get h2;let hl:=-r;let hn:=yF;let fin:EP X pi σ Q w s:=#[z,H,I,fH,q]
 by_cases h0:0<=i
 .let hj:i.toNat=j:=by
   rw[seqIndex_of h0 h5] at h1;show aJ h1
  show item_listR pl.isList h0 () (by rw[hj];simpa using ew) fin hs
 .let hj:(i+(aS.toArray.size:Int)).toNat=j:=by
   rw[seqIndex_neg () h4] at h1;rw[aK,<- hl];show aJ h1
  show subscriptTail_builtinR pl.isList.typeIs oJ.lookup
   (wpAny_getItem_list_neg pl.isList () (by rw[aK]<;>omega) () (by rw[hj];simpa using ew) #[rfl,fin]) hs
def Yn:vt X (b30 X.K):=by
 intro value slice pi s σ H x y v u Q I rx ry h hs;let#[p,xs,i,z,rfl,rfl,hq,he,q]:=h;cases rx;let#[t,rfl]:=ry;let#[aS,r,pl,hz]:=I.tuple hq;let#[j,h1,h2,h3,h4,h5]:=LV he;let#[w,ew,fH]:=r.get h2;let hl:=-r;let hn:=yF;let fin:EP X pi σ Q w s:=#[z,H,I,fH,q]
 show subscriptTail_builtinR pl.typeIs slot_tuple_getitem.lookup
  (getItem_tuple pl () () (by rw[aK,<- hl];show h1) (_/ew) #[rfl,fin]) hs
def aW1(aS:@&Value)(n j:Nat)(u:Value):Obj.mapSeq (·.setIfInBounds j u) { cls:=.type "list",data:=.seq aS.toArray n }={ cls:=.type "list",data:=.seq (aS.set j u).toArray n }:=by
 simp[Obj.mapSeq]
def Inv.lst{pi:@&(Addr×Obj)}{σ:St}{H:Hp}{s:Shared}{p:Addr}{xs:@&V}(I:Inv X pi σ H s)(h:H p=!.lst xs) :
  ∃(aS:@&Value) (n:Nat),Vals xs aS/\s.heap.get? p=some { cls:=.type "list",data:=.seq aS.toArray n }/\-xs<=sizeLine:=by
 let#[z,aS,n,r,e]:=I.bB p _ h;show#[aS,n,r,e,z]
def Inv.Yy{p:Addr}{xs ys:@&V}{its':@&Value}{n':Nat}{f:Obj->Obj}(I:Inv X pi σ H s)(h:H p=!.lst xs)(ho:s.heap.get? p=some { cls:=.type "list",data:=.seq aS.toArray n })(hf:f { cls:=.type "list",data:=.seq aS.toArray n }={ cls:=.type "list",data:=.seq its'.toArray n' })(r:Vals ys its')(hz:-ys<=sizeLine)(t:Nat) :
  Inv X pi σ (upd H p (.lst ys)) { s with heap:=s.heap.update p f,toks:=t }:=by
 let e:(s.heap.update p f).get? p=some { cls:=.type "list",data:=.seq its'.toArray n' }:=by
  rw[aQ f ho (by rw[hf]<;>rfl),hf]
 show I.write (by rw[h];trivial) (.inl rfl) (λb u hb q=>(bC _ _ (aU hb)).trans q) #[_,e] ?_;show#[hz,its',n',r,e]
abbrev Xt:V->V->V->Hp->(Hp->Prop)->Prop:=λo i v H Q=>∃p xs k j,o=.ref p/\i=.int k/\H p=!.lst xs/\lh (-xs) k=!j/\Q (upd H p (.lst (xs.set j v)))
def set_list:DM X Xt:=by
 intro pi s σ H o i v ov iv u Q I ro ri rv h;let#[p,xs,k,j,rfl,rfl,hp,hj,q]:=h;cases ro;let#[t,rfl]:=ri;let#[aS,n,r,ho,hz]:=I.lst hp;let#[h1,h2,h3,h4]:=Mj hj;let hl:=-r;let hn:=yF;let I':Inv X pi σ (upd H p (.lst (xs.set j v))) { s with heap:=s.heap.update p (Obj.mapSeq (·.setIfInBounds j u)) } :=
  I.Yy hp ho (aW1 aS n j u) (r.set rv j) (by rw[iM];show hz) s.toks
 by_cases h0:0<=k
 .let hk:k.toNat=j:=by
   rw[seqIndex_of h0 h4] at h1;show aJ h1
  show PySem.W.ki_setAt ho h0 () (by rw[aK,<- hl];show h4) (by rw[hk];show#[_,I',q])
 .let hk:(k+(aS.toArray.size:Int)).toNat=j:=by
   rw[seqIndex_neg () h3] at h1;rw[aK,<- hl];show aJ h1
  show PySem.W.ki_setBack ho () (by rw[aK,<- hl];show h3) () (by rw[hk];show#[_,I',q])
def aE2(lo hi:Option Int)(n:Nat):(sliceBounds lo hi none n).1=((HT.dW n 0 lo:Nat):Int)/\(sliceBounds lo hi none n).2.1=((HT.dW n n hi:Nat):Int)/\(sliceBounds lo hi none n).2.2=1:=by
 show#[?_,?_,rfl]
 .cases lo with
  |none=>rfl
  |some i =>
   simp only[sliceBounds,HT.dW,Option.getD_none,show(1:Int)>0 by decide,if_true]
   grind
 .cases hi with
  |none=>rfl
  |some i =>
   simp only[sliceBounds,HT.dW,Option.getD_none,show(1:Int)>0 by decide,if_true]
   grind
def aA3(aS:@&Value)(lo hi:Option Int):slicePick aS.toArray lo hi none=((aS.drop (HT.dW (-aS) 0 lo)).take (HT.dW (-aS) (-aS) hi-HT.dW (-aS) 0 lo)).toArray:=by
 let#[h1,h2,h3]:=aE2 lo hi aS.toArray.size;unfold slicePick;rw[h1,h2,h3];simp only[sliceRange_one,pick_run,List.size_toArray]<;>rfl
abbrev b26(K:PySem.W.Frag):V->Option Int->Option Int->Hp->VK->Prop:=λx lo hi H Q=>∃a xs,x=.ref a/\fT K H a xs/\∀p,H p=none->Q (.ref p) (upd H p (.lst (qa xs lo hi)))
def Tp:yY X (b26 X.K):=by
 intro pi s σ H x v vl vu lo hi sl Q I rx hs pl pu h;let#[a,xs,rfl,hx,q]:=h;cases rx;let#[aS,r,ht,hz]:=I.list hx;let hlen:=-r;show#["list",_,oJ.lookup,ht.isList.typeIs,?_];show OM ht.isList hs pl pu .none #[_] ?_ (by grind);rw[aA3,<- hlen];show#[.ref s⁻¹,_,I.laid (t':=s.toks) (λb ob q=>ag _ q) (ak _) ?_,rfl,q _ (I.bB.fresh (ak _))];show#[aH (Lq xs lo hi) hz,_,0,(r.drop (HT.dW (-xs) 0 lo)).take (HT.dW (-xs) (-xs) hi-HT.dW (-xs) 0 lo),au _ rfl]
abbrev N8:V->Bool
 |.aR=>true
 |.bl _=>true
 |.int _=>true
 |.str _=>true
 |_=>false
abbrev lD:V->V->Bool
 |.aR,.aR=>true
 |.bl a,.bl b=>a==b
 |.bl a,.int b=>(if a then 1 else 0)==b
 |.int a,.bl b=>a==(if b then 1 else 0)
 |.int a,.int b=>a==b
 |.str a,.str b=>a==b
 |_,_=>false
def Yf{v:Value}(ry:RelV y u)(rx:RelV x v)(fy:N8 y=true)(fx:N8 x=true):SeqAt.EqAt A s u v (lD y x):=by
 cases y with
 |aR =>
  cases ry;cases x with
  |aR=>cases rx;show SeqAt.EqAt.same _
  |bl b=>cases rx;show SeqAt.EqAt.none_bool b
  |int b=>let#[t,rfl]:=rx;show SeqAt.EqAt.none_int b t
  |str b=>let#[t,rfl]:=rx;show SeqAt.EqAt.none_str b t
  |_=>show absurd (show false=true from fx) Bool.false_ne_true
 |bl a =>
  cases ry;cases x with
  |aR=>cases rx;show SeqAt.EqAt.bool_none a
  |bl b=>cases rx;show SeqAt.EqAt.bool_bool a b
  |int b=>let#[t,rfl]:=rx;show SeqAt.EqAt.bool_int a b t
  |str b=>let#[t,rfl]:=rx;show SeqAt.EqAt.bool_str a b t
  |_=>show absurd (show false=true from fx) Bool.false_ne_true
 |int a =>
  let#[t',rfl]:=ry;cases x with
  |aR=>cases rx;show SeqAt.EqAt.int_none a t'
  |bl b=>cases rx;show SeqAt.EqAt.int_bool a t' b
  |int b=>let#[t,rfl]:=rx;show SeqAt.EqAt.int_int a t' b t
  |str b=>let#[t,rfl]:=rx;show SeqAt.EqAt.int_str a t' b t
  |_=>show absurd (show false=true from fx) Bool.false_ne_true
 |str a =>
  let#[t',rfl]:=ry;cases x with
  |aR=>cases rx;show SeqAt.EqAt.str_none a t'
  |bl b=>cases rx;show SeqAt.EqAt.str_bool a t' b
  |int b=>let#[t,rfl]:=rx;show SeqAt.EqAt.str_int a t' b t
  |str b=>let#[t,rfl]:=rx;show SeqAt.EqAt.str_str a t' b t
  |_=>show absurd (show false=true from fx) Bool.false_ne_true
 |_=>show absurd (show false=true from fy) bu
def uF(x:V)(u:Value):Bool:=match u with
 |.none=>lD .aR x
 |.bool b=>lD (.bl b) x
 |.int i _=>lD (.int i) x
 |.str z _=>lD (.str z) x
 |_=>false
def Gh(r:RelV y u)(f:N8 y=true):uF x u=lD y x:=by
 cases y with
 |aR=>cases r;rfl
 |bl b=>cases r;rfl
 |int i=>let#[t,rfl]:=r;rfl
 |str z=>let#[t,rfl]:=r;rfl
 |_=>show absurd (show false=true from f) bu
def EI{A:Around}{s:Shared}{x:V}{v:Value}(rx:RelV x v)(fx:N8 x=true):∀{xs:@&V} {us:@&Value},Vals xs us->xs.all N8=true->∀u∈us,SeqAt.EqAt A s u v (uF x u)
 |_,_,.nil,_=>λu hu=>by cases hu
 |y::xs,u::us,.cons r t,f=>λu' hu=>by
  rw[jM,bx] at f;rcases aG.mp hu with rfl|hu
  .rw[Gh r f.1];show Yf r rx f.1 fx
  .exact EI rx fx t f.2 u' hu
def aK2:k9 X (.builtin "len") (λxs H Q=>∃p ys,xs=[.ref p]/\(fT X.K H p ys\/gF X.K H p ys)/\Q (.int (-ys)) H):=by
 intro pi s σ H xs us Q I r h;let#[p,ys,rfl,hq,q]:=h;let#[u,rfl,rx]:=vals1 r;cases rx;let hn:=yF;rcases hq with hq|hq
 .let#[aS,r',pl,hz]:=I.list hq;let hlen:=-r';show Calls.call_len_list pl.isList (by simp only[List.size_toArray]<;>omega) #[.int (-ys),H,I.tok _,#[s.toks+1,by rw[aK,hlen]],q]
 .let#[aS,r',pl,hz]:=I.tuple hq;let hlen:=-r';show len_tuple pl (by simp only[List.size_toArray]<;>omega) #[.int (-ys),H,I.tok _,#[s.toks+1,by rw[aK,hlen]],q]
def aK1:k9 X (.builtin "len") (λxs H Q=>∃z,xs=[.str z]/\-z<=sizeLine/\Q (.int (-z)) H):=by
 intro pi s σ H xs us Q I r h;let#[z,rfl,hz,q]:=h;let#[u,rfl,t,rfl]:=vals1 r;let hn:=yF;show len_str () #[.int (-z),H,I.tok _,#[_,rfl],q]
def aK0:k9 X (.type "list") (λxs H Q=>∃p ys,xs=[.ref p]/\(fT X.K H p ys\/gF X.K H p ys)/\∀l,H l=none->Q (.ref l) (upd H l (.lst ys))):=by
 intro pi s σ H xs us Q I r h;let#[p,ys,rfl,hq,q]:=h;let#[u,rfl,rx]:=vals1 r;cases rx;let fin:∀(aS:@&Value),Vals ys aS->-ys<=sizeLine->∀(h':Heap) (c':Nat),(∀b o',s.heap.get? b=!o'->h'.get? b=!o') ->
   h'.get? s⁻¹=some { cls:=.type "list",dict:=none,data:=.seq aS.toArray c',slots:=(List.toArray []) }->EP X pi σ Q (.ref s⁻¹) { s with heap:=h' }:=λaS r' hz h' c' kp e =>
  #[.ref s⁻¹,_,I.laid (t':=s.toks) kp (ak _) (show j7 X.prog X.w _ h' _ (.lst ys) from#[hz,aS,c',r',e]),rfl,q _ (I.bB.fresh (ak _))]
 rcases hq with hq|hq
 .let#[aS,r',pl,hz]:=I.list hq;let hlen:=-r';let#[o,ho,hc,n,hd]:=pl.isList;show call_list_seq p (.inl rfl) ho hc hd (λh' c' kp e=>fin aS r' hz h' c' kp e) (by simp_all)
 .let#[aS,r',pl,hz]:=I.tuple hq;let hlen:=-r';let#[o,ho,hc,n,hd]:=pl;show call_list_seq p (.inr rfl) ho hc hd (λh' c' kp e=>fin aS r' hz h' c' kp e) (by simp_all)
def aA6:k9 X (.type "tuple") (λxs H Q=>∃p ys,xs=[.ref p]/\((fT X.K H p ys/\∀l,H l=none->Q (.ref l) (upd H l (.tup ys)))\/(gF X.K H p ys/\Q (.ref p) H))):=by
 intro pi s σ H xs us Q I r h;let#[p,ys,rfl,h]:=h;let#[u,rfl,rx]:=vals1 r;cases rx;rcases h with⟨hq,q⟩|⟨hq,q⟩
 .let#[aS,r',pl,hz]:=I.list hq;let hlen:=-r';show call_tuple_list pl.isList (λh' kp=>?_) (by simp_all);let I1:=I.kept (t':=s.toks) kp;let I2:Inv X pi σ (upd H h'.objs.size (.tup ys)) { s with heap:=h'.push { cls:=.type "tuple",data:=.seq aS.toArray } } :=
   I1.laid (t':=s.toks) (λb o e=>ag _ e) (ak _) (show j7 X.prog X.w _ _ _ (.tup ys) from#[hz,aS,r',F8.new _ _])
  show#[.ref h'.objs.size,_,I2,rfl,q _ (I1.bB.fresh (ak _))]
 .let#[aS,r',pl,hz]:=I.tuple hq;show call_tuple_same pl #[.ref p,H,I,rfl,q]
def oV(K:PySem.W.Frag)(T:String)(x:V)(H:Hp):Prop:=match x with
 |.str _=>T="str"
 |.int _=>T="int"
 |.ref p=>(T="list"/\∃xs,fT K H p xs)\/(T="tuple"/\∃o,K.lookup p=!o/\o.cls=.type "tuple"/\o.dict=none) \/
   (T="dict"/\((∃kvs,H p=!.dK kvs)\/∃kvs,H p=!.dT kvs))\/(T="set"/\∃S n,H p=!.set S n)
 |_=>False
def Ou{T:String}{v:Value}(I:Inv X pi σ H s)(r:RelV x v)(ty:oV X.K T x H) :
  s.TypeIs v T/\∀a,v=.ref a->∃ob,s.heap.get? a=!ob/\ob.dict=none:=by
 cases x with
 |str z =>
  let#[t,rfl]:=r;cases (show T="str" from ty);show#[mO s z t,λy e=>nomatch e]
 |int i =>
  let#[t,rfl]:=r;cases (show T="int" from ty);show#[mP s i t,λy e=>nomatch e]
 |ref p =>
  cases r;rcases ty with⟨rfl,xs,hq⟩|⟨rfl,o,hk,hc,hd⟩|⟨rfl,hk⟩|⟨rfl,S,n,hk⟩
  .let#[aS,_,pl,_]:=I.list hq;show#[pl.isList.typeIs,λa e=>?_];cases e;let#[o,n,e,c,hd,_]:=pl;show#[o,e,hd]
  .refine#[#[o,I.fZ p o hk,hc],λa e=>?_];cases e;show#[o,I.fZ _ o hk,hd]
  .let z:∃o,s.heap.get? p=!o/\o.ExactDict:=by
    rcases hk with⟨kvs,hk⟩|⟨kvs,hk⟩
    .let#[_,_,_,_,o,_,_,e,ex,_]:=I.bB p _ hk;show#[o,e,ex]
    .let#[_,_,_,_,o,_,_,e,ex,_]:=I.bB p _ hk;show#[o,e,ex]
   let#[o,e,ex]:=z;show#[#[o,e,ex.1],λa e2=>?_];cases e2;show#[o,e,ex.2.1]
  .let#[o,_,_,_,e,ex,_]:=I.bB p _ hk;show#[#[o,e,ex.1],λa e2=>?_];cases e2;show#[o,e,ex.2.1]
 |_=>show False.elim ty
def b10(K:PySem.W.Frag)(T:String)(r:V->@&V->Hp->VK->Prop)(to:TE):TE:=λσ H Q=>to σ H λx H1=>oV K T x H1/\r x [] H1 Q
def Pf(K:PySem.W.Frag)(T:String)(r:V->@&V->Hp->VK->Prop)(to:TE)(t:TA):TE:=λσ H Q=>to σ H λx H1=>oV K T x H1/\t σ H1 λxs H2=>r x xs H2 Q
variable{o:Expr}{es:@&Expr}{to:TE}{t:TA}{name:Str}{apos eG:Pos}{T id:String}{r:V->@&V->Hp->VK->Prop}
def YZ(pa:PlainAttrs T)(slot:Slot T name id)(sv:typeOf (.builtin id)=pure (.type "method_descriptor"))(hm:kU X id r)(ho:PE X o to)(fW:attributeBase o name X.env (eval o X.env)=eval o X.env:=by rfl)(fV:(apos.endLine==eG.line)=true:=by rfl):PE X (.Call (.Attribute o name apos) [] [] eG) (b10 X.K T r to):=by
 intro pi s σ H Q I h;show wpAny_Call_method0_late fW fV (cB (ho pi s σ H _ I h) λv s1 bh=>?_);let#[x,H1,I1,r1,ty,q1]:=bh;let#[h1,h2]:=Ou I1 r1 ty;show#[T,id,pa,slot,sv,h1,h2,fG rfl (PySem.evalArgs_none (hm pi s1 σ H1 x [] v [] Q I1 r1 .nil q1))]
def Xi(pa:PlainAttrs T)(slot:Slot T name id)(sv:typeOf (.builtin id)=pure (.type "method_descriptor"))(hm:kU X id r)(ho:PE X o to)(ha:PA X (e::es) t)(fW:attributeBase o name X.env (eval o X.env)=eval o X.env:=by rfl)(kR:((backTo eG (starEach (e :: es) X.env)).all (λx=>~~~x.1) && (backToKw eG (keywordEach [] X.env)).all (λx=>x.1.isSome)
   && decide ((e :: es).length + ([]:@&Keyword).length + (if ([]:@&Keyword).isEmpty then 0 else 1) < 30))=true:=by rfl)(fV:(apos.endLine==eG.line)=true:=by rfl)(hs:starEach (e::es) X.env=(false,eval e X.env)::starEach es X.env:=by rfl)(eU:(backTo eG (starEach es X.env)).any (·.1)=false:=by rfl) :
  PE X (.Call (.Attribute o name apos) (e::es) [] eG) (Pf X.K T r to t):=by
 intro pi s σ H Q I h;show wpAny_Call_method_late fW kR fV rfl (cB (ho pi s σ H _ I h) λv s1 bh=>?_);let#[x,H1,I1,r1,ty,q1]:=bh;let#[h1,h2]:=Ou I1 r1 ty;show#[T,id,pa,slot,sv,h1,h2,?_];let hA:=ha eG pi s1 σ H1 _ I1 q1;rw[hs] at hA ⊢;show fG (by show(false||(backTo eG (starEach es X.env)).any (·.1))=false;rw[eU]<;>rfl) (gk ?_);show cB hA (by rintro us s2 ⟨vs,H2,I2,r2,q2⟩;show hm pi s2 σ H2 x vs v us Q I2 r1 r2 q2)
end
abbrev GG(X:Cx)(id:String)(r:V->@&V->Hp->VK->Prop):Prop :=
 ∀(pi:@&(Addr×Obj)) (s:Shared) (σ:St) (H:Hp) (x:V) (xs:@&V) (v:Value) (us:@&Value) (Q:VK),Inv X pi σ H s->RelV x v->Vals xs us->r x xs H Q ->
  wpAny (model X.prog X.w) X.A (call (.builtin id) (v::us)) (EP X pi σ Q) X.xe s
def Vals.one{us:@&Value}(h:Vals [x] us):∃u,us=[u]/\RelV x u:=by
 cases h with
 |cons r h =>
  cases h;show#[_,rfl,r]
def Vals.zero:∀{us:@&Value},Vals [] us->us=[]
 |_,.nil=>rfl
def Vals.dropLast{xs:@&V}{us:@&Value}(h:Vals xs us):Vals xs.dropLast us.dropLast:=by
 induction h with
 |nil=>show .nil
 |cons r t ih =>
  cases t with
  |nil=>show .nil
  |cons q t'=>show .cons r ih
def Vals.eraseIdx:∀{xs:@&V} {us:@&Value} (i:Nat),Vals xs us->Vals (xs.eraseIdx i) (us.eraseIdx i)
 |_,_,_,.nil=>.nil
 |_,_,0,.cons _ t=>t
 |_,_,i+1,.cons r t=>.cons r (Vals.eraseIdx i t)
def Vals.reverse{xs:@&V}{us:@&Value}(h:Vals xs us):Vals xs.reverse us.reverse:=by
 induction h with
 |nil=>show .nil
 |cons r t ih=>rw[gP,gP];show Vals.append ih (.cons r .nil)
def Vals.rep{xs:@&V}{us:@&Value}(h:Vals xs us):∀k:Nat,Vals (List.replicate k xs).flatten (List.replicate k us).flatten
 |0=>.nil
 |k+1=>by
  show Vals.append h (Vals.rep h k)
def foldl_rep(aS:@&Value):∀(k:Nat) (acc:@&Value),
  List.foldl (λx1 x2=>x1++x2) acc.toArray (List.replicate k aS.toArray)=(acc++(List.replicate k aS).flatten).toArray
 |0,acc=>by simp
 |k+1,acc=>by
  let e:acc.toArray++aS.toArray=(acc++aS).toArray:=by simp
  let e2:(acc++aS)++(List.replicate k aS).flatten=acc++(List.replicate (k+1) aS).flatten:=by
   rw[dD,List.flatten_cons,gQ]
  rw[<- e2,<- foldl_rep aS k (acc++aS),<- e,dD,fQ]
section
variable{l:Addr}{xs ys:@&V}
def Inv.tj{its':@&Value}{f:Array Value->Array Value}{t':Nat}(I:Inv X pi σ H s)(hH:H l=!.lst xs)(e:s.heap.get? l=some { cls:=.type "list",data:=.seq aS.toArray n })(hf:f aS.toArray=its'.toArray)(hv:Vals ys its')(hz:-ys<=sizeLine) :
  Inv X pi σ (upd H l (.lst ys)) { s with heap:=s.heap.update l (Obj.mapSeq f),toks:=t' }:=by
 let q:=PySem.IsL.update e f;rw[hf] at q;show I.write (by rw[hH];show trivial) (.inl rfl) (λb' u hb hu=>(bC s.heap (Obj.mapSeq f) (aU hb)).trans hu) #[_,q] ?_;show#[hz,its',_,hv,q]
def Inv.J'{t':Nat}(I:Inv X pi σ H s)(hv:Vals ys aS)(hz:-ys<=sizeLine) :
  Inv X pi σ (upd H s⁻¹ (.lst ys)) { s with heap:=s.heap.push { cls:=.type "list",data:=.seq aS.toArray },toks:=t' } :=
 I.laid (λx x q=>ag _ q) (ak _) #[hz,aS,0,hv,au _ rfl]
def Inv.fresh(I:Inv X pi σ H s):H s⁻¹=none:=I.bB.fresh (ak _)
def Inv.uM(I:Inv X pi σ H s)(hH:H l=!.lst xs):-xs<=sizeLine/\∃(aS:@&Value) (n:Nat),Vals xs aS/\-xs=-aS/\s.heap.get? l=some { cls:=.type "list",data:=.seq aS.toArray n }:=by
 let#[z,aS,n,r,e]:=I.bB l _ hH;show#[z,aS,n,r,(-r),e]
def UR(h:n<=sizeLine):Builtin.List.listTooLong n=false:=by
 unfold Builtin.List.listTooLong
 simp_all
end
abbrev SU:V->@&V->Hp->VK->Prop:=λx vs H Q=>∃l xs y,x=.ref l/\vs=[y]/\H l=!.lst xs/\-xs<sizeLine/\Q .aR (upd H l (.lst (xs++[y])))
def a59:GG X "list.append" SU:=by
 intro pi s σ H x vs v us Q I rx rv h;let#[l,xs,y,rfl,rfl,hH,hz,q]:=h;cases rx;let#[u,rfl,ru]:=rv.one;let#[z,aS,n,r,hl,e]:=I.uM hH;show cE F.slot_list_append #[_,e,rfl] F.entry_list_append (F.args_list_append_2 _ _) (PySem.list_append l aS.toArray n u (by grind)) #[e,?_];show#[.aR,_,I.tj (its':=aS++[u]) hH e #[_] (r.append (.cons ru .nil)) ?_,rfl,q]
 grind
abbrev b29:V->@&V->Hp->VK->Prop:=λx vs H Q=>∃l xs y,x=.ref l/\vs=[]/\H l=!.lst xs/\xs[(-xs)-1]?=!y/\Q y (upd H l (.lst xs.dropLast))
def Yz:GG X "list.pop" b29:=by
 intro pi s σ H x vs v us Q I rx rv h;let#[l,xs,y,rfl,rfl,hH,hy,q]:=h;cases rx;let ui:=rv.zero;subst ui;let#[z,aS,n,r,hl,e]:=I.uM hH;let#[u,hu,ru]:=r.get hy;let sj:aS.toArray[aS.toArray.size-1]?=!u:=by
  change aS.toArray[(-aS)-1]?=!u;rw[<- iV,<- hl];show hu
 show cE F.slot_list_pop #[_,e,rfl] F.entry_list_pop (F.args_list_pop_1 _) (MeetsSeq.list_pop_last l aS.toArray n u sj (by rw[aK];omega)) #[e,?_];show#[y,_,I.tj (its':=aS.dropLast) hH e ?_ r.dropLast ?_,ru,q]
 .simp
 .rw[List.length_dropLast];omega
abbrev Zw:V->@&V->Hp->VK->Prop:=λx vs H Q=>∃l xs,x=.ref l/\vs=[]/\H l=!.lst xs/\Q .aR (upd H l (.lst []))
def UO:GG X "list.clear" Zw:=by
 intro pi s σ H x vs v us Q I rx rv h;let#[l,xs,rfl,rfl,hH,q]:=h;cases rx;let ui:=rv.zero;subst ui;let#[z,aS,n,r,hl,e]:=I.uM hH;show cE F.slot_list_clear #[_,e,rfl] F.entry_list_clear (F.args_list_clear_1 _) (AutoSeq1.list_clear_list_0 l aS.toArray n (by rw[aK];omega)) #[e,?_];show#[.aR,_,I.tj (its':=[]) hH e rfl .nil (cJ _),rfl,q]
def b32:R2:=λx y H Q=>∃l b xs zs,x=.ref l/\y=.ref b/\H l=!.lst xs/\H b=!.lst zs/\-xs+-zs<=sizeLine/\∀p,H p=none->Q (.ref p) (upd H p (.lst (xs++zs)))
def YI:fj X (binaryOp .Add) b32:=by
 intro pi s σ H x y v u Q I rx ry h;let#[l,b,xs,zs,rfl,rfl,hH,hB,hz,q]:=h;cases rx;cases ry;let#[z,aS,n,r,hl,e]:=I.uM hH;let#[z2,lS,n2,r2,kP,e2]:=I.uM hB;show PySem.P.add_list e e2 ?_ (by rw[aK,aK];omega);let ea:aS.toArray++lS.toArray=(aS++lS).toArray:=by simp
 rw[ea];show#[.ref _,_,I.J' (t':=s.toks) (r.append r2) (by rw[bg];omega),rfl,q _ I.fresh]
def b28:R2:=λx y H Q=>∃l k xs,x=.ref l/\y=.int k/\H l=!.lst xs/\-(2 ^ 63)<=k/\k<2 ^ 63/\-xs*k.toNat<=sizeLine /\
 ∀p,H p=none->Q (.ref p) (upd H p (.lst (List.replicate k.toNat xs).flatten))
def len_rep(xs:List α)(k:Nat):(List.replicate k xs).flatten.length=k*-xs:=by
 simp
def YO:fj X (binaryOp .Mult) b28:=by
 intro pi s σ H x y v u Q I rx ry h;let#[l,k,xs,rfl,rfl,hH,h1,h2,hz,q]:=h;cases rx;let#[t,rfl]:=ry;let#[z,aS,n,r,hl,e]:=I.uM hH;let hlen:aS.toArray.size*k.toNat<=sizeLine:=by rw[aK,<- hl];show hz
 let CB:¬aS.toArray.size*k.toNat>(2 ^ 63-1) / 8:=by
  have:(sizeLine:Nat)<=(2 ^ 63-1) / 8:=by decide
  omega
 let Cy:¬(~~~Builtin.List.listFitsIndex k)=true:=by
  rw[fitsIndex_both h1 h2];show bu
 let xb:¬Builtin.List.listTooLong (aS.toArray.size*k.toNat)=true:=by
  rw[UR hlen];show bu
 let lV:List.foldl (λx1 x2=>x1++x2) (List.toArray []) (List.replicate (if aS.toArray.isEmpty=true then 0 else k.toNat) aS.toArray)=(List.replicate k.toNat aS).flatten.toArray:=by
  let f0:∀m:Nat,List.foldl (λx1 x2=>x1++x2) (List.toArray []) (List.replicate m aS.toArray)=(List.replicate m aS).flatten.toArray:=λm=>by
   have:=foldl_rep aS m []
   simp_all
  rw[f0];cases aS with
  |nil=>simp
  |cons a r'=>rfl
 show GN ∅ #[_,e,rfl] (λs'=>mP s' k t) noFill_list_mul F.fills_int_mul jN repeat_list F.slot_int_index.lookup
  (cE jN (mP s k t) F.entry_int_rmul (F.args_int_rmul_2 _ _) (int___rmul___int_list k t l aS.toArray n)
   #[e,rfl,#[_,e,rfl],cE F.slot_list_mul #[_,e,rfl] F.entry_list_mul (F.args_list_mul_2 _ _) (AutoListH.list___mul___list_int_3 l aS.toArray n k t Cy CB xb) #[e,?_]])
 rw[lV];show#[.ref _,_,I.J' (t':=s.toks) (r.rep k.toNat) (by rw[len_rep,vE];show hz),rfl,q _ I.fresh]
section
variable{κ:Type}[DecidableEq κ]
abbrev O2(kvs:@&(κ×V))(k:κ):Option V:=(kvs.find? λkv=>decide (kv.1=k)).map (·.2)
abbrev putK(kvs:@&(κ×V))(k:κ)(v:V):@&(κ×V) :=
 if(kvs.any λkv=>decide (kv.1=k))=true then kvs.map (λkv=>if kv.1=k then(kv.1,v) else kv) else kvs++[(k,v)]
abbrev Be(kvs:@&(κ×V))(k:κ):@&(κ×V):=kvs.filter λkv=>decide (kv.1≠k)
def ER{p:κ×V}{r:@&(κ×V)}{k:κ}(e:p.1=k):O2 (p::r) k=!p.2:=by simp[O2,List.find?_cons,e]
def EO{p:κ×V}{r:@&(κ×V)}{k:κ}(e:¬p.1=k):O2 (p::r) k=O2 r k:=by simp[O2,List.find?_cons,e]
def NI(k:κ):∀kvs:@&(κ×V),(kvs.any λkv=>decide (kv.1=k))=(O2 kvs k).isSome
 |[]=>rfl
 |p::r=>by
  rw[eR];by_cases e:p.1=k
  .simp only[ER e,decide_eq_true e,Bool.true_or,Option.isSome_some]
  .rw[EO e,aO e,rm];show NI k r
def Z4(kvs:@&(κ×V))(k:κ)(v:V):(putK kvs k v).length<=-kvs+1:=by
 unfold putK;split
 .simp
 simp
def C7.Q9{u:Option Value}(r:C7 o u):o.isSome=u.isSome:=by
 cases o with
 |none=>cases u with
  |none=>rfl
  |some _=>show(show False from r).elim
 |some _=>cases u with
  |none=>show(show False from r).elim
  |some _=>rfl
def C7.getD{o:Option V}{u:Option Value}{d:V}{d':Value}(r:C7 o u)(rd:RelV d d'):RelV (o.getD d) (u.getD d'):=by
 cases o with
 |none=>cases u with
  |none=>show rd
  |some _=>show(show False from r).elim
 |some _=>cases u with
  |none=>show(show False from r).elim
  |some _=>show r
def KV.val{kvs:@&(κ×V)}{vs:@&(κ×Value)}(r:KV kvs vs)(k:κ):C7 (O2 kvs k) (valueAt vs k):=by
 induction r with
 |nil=>show True.intro
 |@cons p q ps qs h t ih =>
  let#[h1,h2]:=h;by_cases e:p.1=k
  .let e':=h1.symm.trans e;let b:valueAt (q::qs) k=!q.2:=by simp[valueAt,List.find?_cons,e']
   rw[ER e,b];show h2
  .let e':¬q.1=k:=λz=>e (h1.trans z);let b:valueAt (q::qs) k=valueAt qs k:=by simp[valueAt,List.find?_cons,e']
   rw[EO e,b];show ih
def KV.any{kvs:@&(κ×V)}{vs:@&(κ×Value)}(r:KV kvs vs)(k:κ):(kvs.any λkv=>decide (kv.1=k))=vs.any λkv=>decide (kv.1=k):=by
 induction r with
 |nil=>rfl
 |cons h t ih=>simp_all
def KV.Eb{kvs:@&(κ×V)}{vs:@&(κ×Value)}(r:KV kvs vs)(k:κ)(ry:RelV y u) :
  KV (kvs.map λkv=>if kv.1=k then(kv.1,y) else kv) (vs.map λkv=>if kv.1=k then(kv.1,u) else kv):=by
 induction r with
 |nil=>show .nil
 |@cons p q ps qs h t ih =>
  rw[bT,bT];show .cons ?_ ih;let#[h1,h2]:=h;by_cases e:p.1=k
  .rw[aw e,aw (h1.symm.trans e)];show#[h1,ry]
  .rw[az e,az (λz=>e (h1.trans z))];show#[h1,h2]
def KV.put{kvs:@&(κ×V)}{vs:@&(κ×Value)}(r:KV kvs vs)(k:κ)(ry:RelV y u):KV (putK kvs k y) (stored vs k u):=by
 unfold putK stored;rw[r.any k];by_cases e:(vs.any λkv=>decide (kv.1=k))=true
 .rw[aw e,aw e];show r.Eb k ry
 .rw[az e,az e];show Paired.snoc r #[rfl,ry]
def KV.drop{kvs:@&(κ×V)}{vs:@&(κ×Value)}(r:KV kvs vs)(k:κ):KV (Be kvs k) (without vs k):=by
 unfold Be without
 induction r with
 |nil=>show .nil
 |@cons p q ps qs h t ih =>
  let#[h1,h2]:=h;rw[dI,dI];by_cases e:p.1=k
  .let a:¬decide (p.1≠k)=true:=by simp[e]
   let b:¬decide (q.1≠k)=true:=by simp[h1.symm.trans e]
   rw[az a,az b];show ih
  .let e':¬q.1=k:=λz=>e (h1.trans z);let a:decide (p.1≠k)=true:=by simp[e]
   let b:decide (q.1≠k)=true:=by simp[e']
   rw[aw a,aw b];show .cons #[h1,h2] ih
def KV.keys{kvs:@&(κ×V)}{vs:@&(κ×Value)}(r:KV kvs vs):kvs.map (·.1)=vs.map (·.1):=by
 induction r with
 |nil=>rfl
 |cons h t ih=>simp_all
def KV.length{kvs:@&(κ×V)}{vs:@&(κ×Value)}(r:KV kvs vs):-kvs=-vs:=mx r
end
def uX{k:Key}(r:RelV (kV k) u):(j4 P w).is k u=true:=by
 cases k with
 |inl i=>let#[t,e]:=(show ∃t,u=Value.int i t from r);subst e;show Y2 P w i t
 |inr x=>let#[t,e]:=(show ∃t,u=Value.str x t from r);subst e;show aL9 P w x t
def KA{P:Program}{w:World}:∀{ks:@&Key} {us:@&Value},Vals (ks.map kV) us->ItemsAre (j4 P w) ks us
 |[],_,r=>by cases r;show .nil
 |k::ks,_,r=>by
  cases r with
  |cons h t=>show .cons (uX h) (KA t)
noncomputable abbrev KT(H:Hp):@&(List Key×V)->@&(List Key×Addr×Value)->Prop:=Paired λp q=>p.1=q.1/\H q.2.1=!.tup (p.1.map kV)/\RelV p.2 q.2.2
def KT.val{xs:@&(List Key×Addr×Value)}(r:KT H kvs xs)(k:@&Key):C7 (O2 kvs k) ((atKey xs k).map (·.2)):=by
 induction r with
 |nil=>show True.intro
 |@cons p q ps qs h t ih =>
  let#[h1,_,h2]:=h;by_cases e:p.1=k
  .let e':=h1.symm.trans e;let b:atKey (q::qs) k=!q.2:=by simp[atKey,List.find?_cons,e']
   rw[ER e,b];show h2
  .let e':¬q.1=k:=λz=>e (h1.trans z);let b:atKey (q::qs) k=atKey qs k:=by simp[atKey,List.find?_cons,e']
   rw[EO e,b];show ih
def KT.Eb{xs:@&(List Key×Addr×Value)}(r:KT H kvs xs)(k:@&Key)(ry:RelV y u) :
  KT H (kvs.map λkv=>if kv.1=k then(kv.1,y) else kv) (xs.map (putAt k u)):=by
 induction r with
 |nil=>show .nil
 |@cons p q ps qs h t ih =>
  rw[bT,bT];show .cons ?_ ih;let#[h1,h2,h3]:=h;unfold putAt;by_cases e:p.1=k
  .rw[aw e,aw (h1.symm.trans e)];show#[h1,h2,ry]
  .rw[az e,az (λz=>e (h1.trans z))];show#[h1,h2,h3]
def KT.put{xs:@&(List Key×Addr×Value)}(r:KT H kvs xs)(k:@&Key){b:Addr}(hb:H b=!.tup (k.map kV))(ry:RelV y u) :
  KT H (putK kvs k y) (storedH xs k b u):=by
 let e:(kvs.any λkv=>decide (kv.1=k))=(atKey xs k).isSome:=by
  rw[NI,(r.val k).Q9,kC]
 unfold putK storedH;rw[e];by_cases q:(atKey xs k).isSome=true
 .rw[aw q,aw q];show r.Eb k ry
 .rw[az q,az q];show Paired.snoc r #[rfl,hb,ry]
def KT.keeps{xs:@&(List Key×Addr×Value)}(r:KT H kvs xs)(ht:∀b ys,H b=!.tup ys->H' b=!.tup ys):KT H' kvs xs :=
 Paired.Ka r λx x z=>#[z.1,ht _ _ z.2.1,z.2.2]
section
variable{h:Heap}
def Jq{u:HO}(ok:fU P w H h)(e:Rd H a u):j7 P w H h a u:=e.ok ok
def uT{kvs:@&(Key×V)}(ok:fU P w H h)(e:Rd H a (.dK kvs)):-kvs<=sizeLine/\(a==sysModules)=false/\∃vs,KV kvs vs/\h.DictOf (j4 P w) a vs :=
 show j7 P w H h a (.dK kvs) from Jq ok e
def FF{kvs:@&(Key×V)}(ok:fU P w H h)(e:H a=!.dK kvs):-kvs<=sizeLine/\(a==sysModules)=false/\∃vs,KV kvs vs/\h.DictOf (j4 P w) a vs:=uT ok (.inl e)
def yE{ks:@&Key}(ok:fU P w H h)(e:H a=!.tup (ks.map kV)):(tupleKind (j4 P w)).is h ks a:=by
 let#[_,aS,r,o,h1,h2,#[n,h3],_]:=(show j7 P w H h a (.tup (ks.map kV)) from ok a _ e)
 show#[o,aS.toArray,n,h1,h2,h3,by simpa using KA r]
def yv(ok:fU P w H h)(e:Rd H a (.dT kvs)):-kvs<=sizeLine/\(a==sysModules)=false /\
  ∃xs,KT H kvs xs/\h.DictOfH (tupleKind (j4 P w)) a xs:=by
 let#[z,y,xs,r,o,es,ep,h1,h2,h3,h4,h5]:=(show j7 P w H h a (.dT kvs) from Jq ok e)
 show#[z,y,xs,r,o,es,ep,h1,h2,h3,h4,λx hx=>?_,h5];let all:∀{l:@&(List Key×V)} {m:@&(List Key×Addr×Value)},KT H l m->∀x∈m,(tupleKind (j4 P w)).is h x.1 x.2.1:=by
  intro l m q
  induction q with
  |nil=>simp
  |@cons p q ps qs hq t ih =>
   intro x hx;rcases aG.mp hx with e|hx
   .exact yE ok (by simp_all)
   .exact ih x hx
 show all r x hx
def Wt(ok:fU P w H h)(e:H a=!.dT kvs):-kvs<=sizeLine/\(a==sysModules)=false /\
  ∃xs,KT H kvs xs/\h.DictOfH (tupleKind (j4 P w)) a xs:=yv ok (.inl e)
end
abbrev Z7(H:Hp)(a:Addr)(y:V)(r:Option V):Prop :=
 (∃kvs k,Rd H a (.dK kvs)/\y=kV k/\r=O2 kvs k)\/∃kvs k b,Rd H a (.dT kvs)/\y=.ref b/\H b=!.tup (k.map kV)/\r=O2 kvs k
abbrev AS(H:Hp)(a:Addr)(y v:V)(H':Hp):Prop :=
 (∃kvs k,H a=!.dK kvs/\y=kV k/\-kvs<sizeLine/\H'=upd H a (.dK (putK kvs k v))) \/
 ∃kvs k b,H a=!.dT kvs/\y=.ref b/\H b=!.tup (k.map kV)/\-kvs<sizeLine/\H'=upd H a (.dT (putK kvs k v))
def Z7.k{H:Hp}{a:Addr}{kvs:@&(Key×V)}{k:Key}(e:H a=!.dK kvs):Z7 H a (kV k) (O2 kvs k):=.inl #[kvs,k,.inl e,rfl,rfl]
def AS.k{H:Hp}{a:Addr}{kvs:@&(Key×V)}{k:Key}{v:V}(e:H a=!.dK kvs)(hl:-kvs<sizeLine):AS H a (kV k) v (upd H a (.dK (putK kvs k v))):=.inl #[kvs,k,e,rfl,hl,rfl]
section
variable{v:V}{r:Value}
def Inv.big(I:Inv X pi σ H s):sysModules<s⁻¹:=by
 let h:=(I.mod.glob.keeps I.bk).lt;show cG ∅ h
def a99{Q:Value->Shared->Prop}(hu:A.units+1<cLine)(I:Inv X pi σ H s)(g:Z7 H a y (!v))(ry:RelV y u)(h:∀w' s',Inv X pi σ H s'->RelV v w'->Q w' s') :
  wpAny (model X.prog X.w) A (getItem (.ref a) u) Q E s:=by
 rcases g with⟨kvs,k,e,ey,l⟩|⟨kvs,k,b,e,ey,eb,l⟩
 .subst ey;let#[z,hd,vs,rel,dd]:=uT I.bB e;let#[w',hw,fH]:=C7.some_of (by rw[l];show rel.val k);show wpAny_getItem_of (uX ry) dd.mapOf hw (h w' _ (I.tok _) fH)
 .subst ey;cases (show u=Value.ref b from ry);let#[z,hd,xs,rel,dd]:=yv I.bB e;let#[w',hw,fH]:=C7.some_of (by rw[l];show rel.val k);let#[p,hp,pz]:=ae.mp hw;show wpAny_getItem_heap (ig hu) (yE I.bB eb) dd hp ?_;rw[pz];show h w' _ (I.tok _) fH
def b58{Q:Value->Shared->Prop}(hu:A.units+1<cLine)(I:Inv X pi σ H s)(g:Z7 H a y o)(ry:RelV y u)(h:∀s',Inv X pi σ H s'->Q (.bool o.isSome) s') :
  wpAny (model X.prog X.w) A (compareOp .In u (.ref a)) Q E s:=by
 rcases g with⟨kvs,k,e,ey,l⟩|⟨kvs,k,b,e,ey,eb,l⟩
 .subst ey;let#[z,hd,vs,rel,dd]:=uT I.bB e;show wpAny_in_of (uX ry) hd dd.mapOf ?_;rw[<- (rel.val k).Q9,<- l];show h _ (I.tok _)
 .subst ey;cases (show u=Value.ref b from ry);let#[z,hd,xs,rel,dd]:=yv I.bB e;show wpAny_in_heap (ig hu) (yE I.bB eb) hd dd ?_;let q:=(rel.val k).Q9;rw[kC] at q;rw[<- q,<- l];show h _ (I.tok _)
def bB7{Q:Value->Shared->Prop}(hu:A.units+1<cLine)(I:Inv X pi σ H s)(g:Z7 H a y o)(ry:RelV y u)(h:∀s',Inv X pi σ H s'->Q (.bool (~~~o.isSome)) s') :
  wpAny (model X.prog X.w) A (compareOp .NotIn u (.ref a)) Q E s:=by
 rcases g with⟨kvs,k,e,ey,l⟩|⟨kvs,k,b,e,ey,eb,l⟩
 .subst ey;let#[z,hd,vs,rel,dd]:=uT I.bB e;show wpAny_notIn_of (uX ry) hd dd.mapOf ?_;rw[<- (rel.val k).Q9,<- l];show h _ (I.tok _)
 .subst ey;cases (show u=Value.ref b from ry);let#[z,hd,xs,rel,dd]:=yv I.bB e;show wpAny_notIn_heap (ig hu) (yE I.bB eb) hd dd ?_;let q:=(rel.val k).Q9;rw[kC] at q;rw[<- q,<- l];show h _ (I.tok _)
def Ej{h':Heap}{t':Nat}{ob:HO}(I:Inv X pi σ H s)(mu:za (H a))(hs:Heap.SameBut a s.heap h')(he:∃q,h'.get? a=!q)(new:j7 X.prog X.w (upd H a ob) h' a ob) :
  Inv X pi σ (upd H a ob) { s with heap:=h',toks:=t' } :=
 I.write mu (.inl rfl) (λb q hb z=>(hs.2 b hb).trans z) he new
def Ag{h':Heap}{kvs:@&(Key×V)}{vs:@&(Key×Value)}(z:-kvs<=sizeLine)(hd:(a==sysModules)=false)(rel:KV kvs vs)(dd:h'.DictOf (j4 P w) a vs) :
  j7 P w H' h' a (.dK kvs):=#[z,hd,vs,rel,dd]
def a98{Q:Unit->Shared->Prop}(hu:A.units+1<cLine)(I:Inv X pi σ H s)(g:AS H a y v H')(ry:RelV y u)(rv:RelV v r)(h:∀s',Inv X pi σ H' s'->Q Unit.unit s') :
  wpAny (model X.prog X.w) A (setItem (.ref a) u r) Q E s:=by
 rcases g with⟨kvs,k,e,ey,l,eH⟩|⟨kvs,k,b,e,ey,eb,l,eH⟩
 .subst ey eH;let#[z,hd,vs,rel,dd]:=FF I.bB e;let hz:-vs<=sizeLine:=by rw[<- -rel];show z
  let hl:(putK kvs k v).length<=sizeLine:=by have:=Z4 kvs k v;omega
  show wpAny_setItem_pairs (uX ry) dd λh' pW hs=>h _ ?_;let he:∃q,h'.get? a=!q:=let ⟨q,_,_,hq,_⟩:=pW;#[q,hq]
  show Ej I (by rw[e];show True.intro) hs he (Ag hl hd (rel.put k rv) pW)
 .subst ey eH;cases (show u=Value.ref b from ry);let#[z,hd,xs,rel,dd]:=Wt I.bB e;let hz:-xs<=sizeLine:=by rw[<- mx rel];show z
  let hl:(putK kvs k v).length<=sizeLine:=by have:=Z4 kvs k v;omega
  show wpAny_setItem_heap (ig hu) (yE I.bB eb) dd λh' pW hs=>h _ ?_;let#[q,es,ep,hq,h2,h3,h4,_,h5]:=pW;show Ej I (by rw[e];show True.intro) hs #[q,hq] #[hl,hd,_,(rel.put k eb rv).keeps λc ys ec=>?_,q,es,ep,hq,h2,h3,h4,h5];rw[d8 (WX ec e (λz=>nomatch z))];show ec
end
def aM5(I:Inv X pi σ H s)(g:Z7 H a y o):s.TypeIs (.ref a) "dict":=by
 rcases g with⟨kvs,k,e,_,_⟩|⟨kvs,k,b,e,_,_,_⟩
 .let#[_,_,vs,_,dd]:=uT I.bB e;show dd.typeIs
 .let#[_,_,xs,_,dd]:=yv I.bB e;show dd.typeIs
def Nc(h:Heap)(hb:sysModules<h.objs.size):j7 P w H (h.push { cls:=.type "dict",data:=.dict (List.toArray []) }) h.objs.size (.dK []) :=
 #[cJ _,cO.mpr (aU (aF hb)),[],.nil,Heap.DictOf.new h]
def bE5:TE:=λx H Q=>∀p,H p=none->Q (.ref p) (upd H p (.dK []))
def UZ:PE X (.Dict [] [] pos) bE5:=λpi s σ H Q I h =>
 wpAny_Dict_empty #[.ref s⁻¹,_,I.laid (t':=s.toks) (λx x q=>ag _ q) (ak _) (Nc s.heap I.big),rfl,h _ (I.bB.fresh (ak _))]
abbrev Ap:@&(TE×TE)->St->Hp->(List (V×V)->Hp->Prop)->Prop
 |[],_,H,Q=>Q [] H
 |(tk,tv)::r,σ,H,Q=>tk σ H λx H1=>tv σ H1 λy H2=>Ap r σ H2 λps H3=>Q ((x,y)::ps) H3
noncomputable abbrev VV:@&(V×V)->@&(Value×Value)->Prop:=Paired λp q=>RelV p.1 q.1/\RelV p.2 q.2
abbrev yZ(X:Cx)(pos:Pos)(keys:@&(Option Expr))(values:@&Expr)(iy:@&(TE×TE)):Prop :=
 ∀(pi:@&(Addr×Obj)) (s:Shared) (σ:St) (H:Hp) (Q:@&(V×V)->Hp->Prop),Inv X pi σ H s->Ap iy σ H Q ->
  wpAny (model X.prog X.w) X.A (evalPairs (pairTrees keys values X.env pos)) (λvs s'=>∃ps H',Inv X pi σ H' s'/\VV ps vs/\Q ps H') X.xe s
def SI:yZ X pos [] [] []:=λpi s σ H Q I h=>pairTrees_nil_walk #[[],H,I,.nil,h]
def Vh{k v:Expr}{ks:@&(Option Expr)}{vs:@&Expr}{tk tv:TE}{iy:@&(TE×TE)}(hk:PE X k tk)(hv:PE X v tv)(hr:yZ X pos ks vs iy) :
  yZ X pos (some k::ks) (v::vs) ((tk,tv)::iy):=λpi s σ H Q I h =>
 pairTrees_cons_walk (cB (hk pi s σ H _ I h) λu s1 ⟨x,H1,I1,rx,q1⟩=>cB (hv pi s1 σ H1 _ I1 q1) λw2 s2 ⟨y,H2,I2,ry,q2⟩ =>
  cB (hr pi s2 σ H2 _ I2 q2) (by rintro ws s3 ⟨ps,H3,I3,rel,q3⟩;show #[(x,y) :: ps,H3,I3,.cons #[rx,ry] rel,q3]))
abbrev U9(kvs more:@&(Key×V)):@&(Key×V):=more.foldl (λacc kv=>putK acc kv.1 kv.2) kvs
def KV.merge:∀{more:@&(Key×V)} {rs:@&(Key×Value)} {kvs:@&(Key×V)} {vs:@&(Key×Value)},KV more rs->KV kvs vs->KV (U9 kvs more) (merged vs rs):=by
 intro more rs kvs vs r
 induction r generalizing kvs vs with
 |nil=>intro q;show q
 |@cons p q ps qs h t ih =>
  intro r0;let e:KV (putK kvs p.1 p.2) (stored vs q.1 q.2):=by
   have:=r0.put p.1 h.2;rw[<- h.1];show this
  show ih e
def LM:∀(more kvs:@&(Key×V)),(U9 kvs more).length<=-kvs+-more
 |[],kvs=>by change (-kvs)<=-kvs+0;omega
 |p::r,kvs=>by
  let h1:=LM r (putK kvs p.1 p.2);let h2:=Z4 kvs p.1 p.2;show(U9 (putK kvs p.1 p.2) r).length<=_
  grind
def La{P:Program}{w:World}:∀{kvs:@&(Key×V)} {ws:@&(Value×Value)},VV (kvs.map λkv=>(kV kv.1,kv.2)) ws->∃rs,Carries (j4 P w) ws rs/\KV kvs rs
 |[],_,r=>by cases r;show#[[],True.intro,.nil]
 |p::kvs,_,r=>by
  cases r with
  |@cons a b as bs h t =>
   let#[rs,c,q]:=La (P:=P) (w:=w) t;let#[b1,b2]:=b;show#[(p.1,b2)::rs,#[uX h.1,rfl,c],.cons #[rfl,h.2] q]
def XG(iy:@&(TE×TE)):TE:=λσ H Q=>∀p,H p=none->Ap iy σ (upd H p (.dK [])) λps H2=>H2 p=!.dK []/\∃kvs:@&(Key×V),ps=kvs.map (λkv=>(kV kv.1,kv.2))/\-kvs<=15/\Q (.ref p) (upd H2 p (.dK (U9 [] kvs)))
def SA{keys:@&(Option Expr)}{values:@&Expr}{iy:@&(TE×TE)}(h:yZ X pos keys values iy)(lZ:keys.all (·.isSome)=true)(hl:-keys=-values)(h0:keys≠[])(Du:-keys<=15):PE X (.Dict keys values pos) (XG iy):=by
 intro pi s σ H Q I q;let hn:=I.bB.fresh (ak s⁻¹);let I1:=I.laid (h':=s.heap.push { cls:=.type "dict",data:=.dict (List.toArray []) }) (t':=s.toks) (λx x q=>ag _ q) (ak _) (Nc s.heap I.big);show wpAny_Dict_walk (knd:=j4 X.prog X.w) lZ hl h0 Du (cB (h pi _ σ _ _ I1 (q _ hn)) λws s2 bh=>?_);let#[ps,H2,I2,rel,e,kvs,ep,lk,q2]:=bh;subst ep;let#[rs,c,rk]:=La rel;let#[z,hd,vs0,r0,dd]:=FF I2.bB e;cases r0;show#[rs,c,dd,λh' pW hs=>#[.ref s⁻¹,_,?_,rfl,q2]];let hz:(U9 [] kvs).length<=sizeLine:=by
  let h1:=LM kvs [];rw[List.length_nil] at h1;rw[tP];omega
 let he:∃q,h'.get? s⁻¹=!q:=let ⟨q,_,_,hq,_⟩:=pW;#[q,hq]
 show Ej I2 (by rw[e];show True.intro) hs he (Ag hz hd (rk.merge .nil) pW)
section
variable{kvs:@&(Key×V)}
def Uo{Q:Value->Shared->Prop}(I:Inv X pi σ H s)(e:Rd H a (.dK kvs))(h:∀p s',H p=none->Inv X pi σ (upd H p (.dK kvs)) s'->Q (.ref p) s'):wpAny (model X.prog X.w) A (call (.type "dict") [.ref a]) Q E s:=by
 let#[z,hd,vs,rel,dd]:=uT I.bB e;show kt_call_dict hd dd (by rw[<- -rel];show z) λh' pW hs=>?_;show h _ _ (I.bB.fresh (ak _)) (I.laid (t':=s.toks) (λb q hq=>?_) (ak _) (Ag z (cO.mpr (aU (aF I.big))) rel pW));show(hs.2 b (aF (aq hq))).trans (ag _ hq)
end
end L2
namespace OK
open PySem PySem.W PySem.Calls PyProof.Rows
def as1{P:Params}{h:Heap}:∀(ns:@&Int) (vs:@&Value),WellAll P h vs (ns.map WData.int)->IntsAre vs ns:=by
 intro ns
 induction ns with
 |nil =>
  intro vs w;cases w;show .nil
 |cons n ns ih =>
  intro vs w;cases w with
  |cons a b =>
   cases a;show .cons _ _ (ih _ b)
def a26{l:OpenLaw}{n:Nat}(hn:l.most=!n){P:Params}{h:Heap}{args:@&WData}{vals:@&Value}(pw:l.row.toRowW.claim.pre args=true)(BZ:WellAll P h vals args) :
  ∃a vs ns,vals=[Value.ref a]/\args=[WData.list (ns.map WData.int)]/\h.get? a=some { cls:=.type "list",data:=.seq vs.toArray }/\IntsAre vs ns/\-ns<=n:=by
 let Qs:WShape.hasAll [] args [.list .int]=true:=(pre_splitW pw).1;let hc:l.pre.holds [] { args:=args }=true:=(pre_splitW pw).2;let#[d,r,rfl,h1,h2]:=hasAllW_cons Qs;obtain rfl:=hasAllW_nil h2;let#[xs,rfl,h3]:=hasW_list h1;let#[ns,rfl]:=items_int h3;let hlen:-ns<=n:=by
  let h4:(WTm.not (.lt (.lit (.int (n:Int))) (.len (.arg 0)))).holds [] { args:=[.list (ns.map .int)] }=true:=by
   let h4:=(holds_andW hc).1;rw[hn] at h4;show h4
  let h5:=condW_of h4 (w_not (w_lt w_lit (w_len_list (w_arg rfl))))
  simp_all
 cases BZ with
 |cons w1 w2 =>
  cases w2;cases w1 with
  |list ho lZ=>show#[_,_,ns,rfl,rfl,ho,as1 ns _ lZ,hlen]
def a37(l:OpenLaw)(args:@&WData):l.row.toRowW.claim.post args (.bool true) args=true :=
 postW_of
  (show WShape.has [] (.bool true) .bool=true by rfl)
  (show(WTm.eq .res (.lit (.bool true))).value [] { args:=args,res:=!.bool true,after:=args }=some (.bool (true==true)) from w_eq_bool (w_res rfl) w_lit) rfl
def aM9{l:OpenLaw}{n:Nat}{q:Program}{loose:@&Str}{XP:(Str->Option Value)->Heap->Prop}{YP:World->Heap->Prop}{d:DefRec}(hn:l.most=!n)(xo:d.params.defaults=[])(call:∀ (w:World) (dA bN:Shared) (mg mb:Str->Option Value) (fa:Addr) (o:Obj) (pm cd doc:Value) (a:Addr) (vs:@&Value) (ns:@&Int),
   Ground q loose [] XP w dA mg mb bN.heap->YP w bN.heap ->
   bN.heap.get? fa=!o->o.data=.func (docDef d.name d.params d.body d.scope pm cd doc)->bN.heap.CodeRec cd d.name->mg d.name=!.ref fa ->
   bN.heap.get? a=some { cls:=.type "list",data:=.seq vs.toArray }->IntsAre vs ns->-ns<=n->bN.gens=(List.toArray []) ->
   codeAny (model l.prog w) callerA (.call (.ref fa) #[[.ref a],[]]) (λr s'=>r=.ok (.ret (.bool true))/\OldK bN.heap s'.heap/\s'.os=bN.os/\AllBare s'.gens) bN) :
  WalkO q loose XP YP l.row.toRowW d [] (λf vs=>PySem.call f vs):=by
 intro w dA bN mg mb G Y fa o pm cd doc dV kV ho hd lY hD hmg hg args vals as pw Qz hrd BZ qy;obtain rfl:dV=.none:=Dflts.none hD xo;obtain rfl:kV=.none:=Dflts.noKw hD;let#[a,vs,ns,rfl,rfl,kM,hints,hlen]:=a26 hn pw BZ;show enter_call (fC (call w dA bN mg mb fa o pm cd doc a vs ns G Y ho (fd_plain hd) lY hmg kM hints hlen hg) λr s' hq=>?_);let#[rfl,h2,h3,h4]:=hq;show#[.inl #[.bool true,.bool true,[],rfl,λx=>rfl,.bool true,a37 l _,λx=>#[List.Pairwise.nil,λx hm=>(nomatch hm)]],h2,h3,h4]
end OK
namespace L2
open PySem PySem.Spec PyProof.Rows
variable{w:World}{x qual:Str}{X:Cx}{A:Around}{s:Shared}{elt iter tg:Expr}{ifs:@&Expr}{scope:Scope}{pos:Pos}{cl:@&(Str×Addr)}{C:Addr}{N':@&Str}{c9:@&Nat}{fp:@&Addr}{g:TG}{tc:TT}{te:TE}
def KU:∀{vs:@&Value} {ns:@&Int},IntsAre vs ns->Vals (ns.map V.int) vs
 |_,_,.nil=>.nil
 |_,_,.cons n t h=>.cons #[t,rfl] (KU h)
def AU(H:Hp):Prop:=∀b,H b=none\/∃o xs,H b=!.jJ o (.lst xs)
def UD{P:Program}{K:PySem.W.Frag}{mg mb:Str->Option Value}{CX:nY}{k:Nat}{fa a:Addr}{fd:FuncData}{sp:Sp}{bN:Shared}{vs:@&Value}{ns:@&Int}(KX:K.In bN.heap)(qx:bN.heap.Ns mainGlobals mg)(hb:bN.heap.Ns builtinsNs mb)(CD:∀x:Str,x≠"__name__"->mb x=bootBuiltins x)(Cp:bN.heap.NoLimit)(hg:bN.gens=(List.toArray []))(ha:bN.heap.get? a=some { cls:=.type "list",data:=.seq vs.toArray })(hi:IntsAre vs ns)(hl:-ns<=sizeLine)(hr:q9 k callerA)(F:∀base:Heap,K.In base->base.Ns mainGlobals mg->gN P w K mg base CX k fa fd [x] sp)(xw:∀(s:Shared) (u:Value),BindsTo s fd #[[u],[]] [(x,u)])(uj:∀H:Hp,AU H->fT K H a (ns.map V.int)->sp [.ref a] H (λv y=>v=.bl true) λy y y=>False)(CN:∀H e s',CX [] H bN (λy y y=>False) e s'->False) :
  codeAny (model P w) callerA (.call (.ref fa) #[[.ref a],[]]) (λr s'=>r=.ok (.ret (.bool true))/\OldK bN.heap s'.heap/\s'.os=bN.os/\AllBare s'.gens) bN:=by
 let rv:=KU hi;let PY:=-hi;let core:∀H:Hp,AU H->fT K H a (ns.map V.int)->fU P w H bN.heap->(∀b,H b≠none->b=a)->(H a≠none->K.lookup a=none) ->
   codeAny (model P w) callerA (.call (.ref fa) #[[.ref a],[]]) (λr s'=>r=.ok (.ret (.bool true))/\OldK bN.heap s'.heap/\s'.os=bN.os/\AllBare s'.gens) bN:=by
  intro H hO hS bB hA hK;let K7:∀{b:Addr} {o:Obj},bN.heap.get? b=!o->H b=none->(qd bN.heap H).get? b=!o:=λe n=>Uy e n;let wt:∀{b:Addr} {o:Obj} {es:Array DictEntry} {ep:Nat},bN.heap.get? b=!o->o.data=.dict es ep->H b=none:=λ{b o es ep} e d=>by
   grind
  let zy:∀{b:Addr} {m:Str->Option Value},bN.heap.Ns b m->(qd bN.heap H).Ns b m:=λ{b m} ⟨o,es,ep,e,d,r⟩=>#[o,es,ep,K7 e (wt e d),d,r]
  let HX:K.In (qd bN.heap H):=λb o e=>K7 (KX b o e) (by
   grind)
  let hM:Mod K mg (qd bN.heap H):=#[HX,zy qx,#[mb,zy hb,CD],let ⟨mc,h1,h2⟩:=Cp;#[mc,zy h1,h2]]
  let e0:sW P w K mg (qd bN.heap H) callerA [] bN H:=#[rfl,hM,λb o e=>Sm e,Nat.le_of_eq (a86 _ _),trivial,λb hb=>absurd (show b∈([]:@&Addr) from hb) #[_],bB,.of_eq hg]
  show fC ((F _ HX (zy qx)).run callerA [] bN H #[[.ref a],[]] [.ref a] [.ref a] _ _ hr e0 (xw bN (.ref a)) (.cons rfl .nil) (uj H hO hS)) λr s' h=>?_;cases r with
  |error e=>show(CN H e s' h).elim
  |ok fl =>
   cases fl with
   |next=>show False.elim h
   |brk=>show False.elim h
   |cont=>show False.elim h
   |ret u =>
    let#[v,H',os,bare,un,Cg,r',q]:=h;let q':=q;subst q';obtain rfl:u=Value.bool true:=r';show#[rfl,OldK.of_keep λb o e=>?_,os,bare];cases q:H b with
    |none=>show un.keep b o e q (by intro z;show absurd (show b∈([]:@&Addr) from z) #[_]) #[_]
    |some u =>
     rcases hO b with z|⟨ob,xs,z⟩
     .simp_all
     .let z2:=un.iu b ob _ z;let#[e1,_]:=bB b _ z;let#[e2,_]:=Cg b _ z2
      simp_all
 cases hk:K.lookup a with
 |some o =>
  let e:=KX a o hk;rw[ha] at e;cases e;show core (λy=>none) (λy=>.inl rfl) (.inr #[_,vs.toArray,_,hk,rfl,rfl,rfl,by simp_all,by simpa using rv]) (λb u z=>by simp_all) (λb z=>absurd rfl z) λz=>absurd rfl z
 |none =>
  show core (λb=>if b=a then some (.jJ { cls:=.type "list",data:=.seq vs.toArray } (.lst (ns.map V.int))) else none) (λb=>?_) (.inl (.inr #[{ cls:=.type "list",data:=.seq vs.toArray },aw rfl])) (λb u z=>?_) (λb z=>?_) λy=>hk
  .by_cases hb:b=a
   .exact .inr #[_,_,aw hb]
   .exact .inl (az hb)
  .by_cases hb:b=a
   .let z':=(aw hb).symm.trans z;cases z';subst hb;show#[ha,by rw[aj];show hl,vs,_,rv,ha]
   simp_all
  .by_cases hb:b=a
   .exact hb
   .exact absurd (az hb) z
def TY{l:PySem.W.OpenLaw}{n k:Nat}{q:Program}{loose:@&Str}{XP:(Str->Option Value)->Heap->Prop}{YP:World->Heap->Prop}{d:DefRec}{K:Params->PySem.W.Frag}{CX:World->nY}{sp:World->Sp}(hn:l.most=!n)(nD:n<=sizeLine)(xo:d.params.defaults=[])(hr:q9 k callerA)(hY:∀(w:World) (h:Heap),YP w h->(K w.params).In h)(F:∀ (w:World) (mg:Str->Option Value) (fa:Addr) (h:Heap),(K w.params).In h->h.Ns mainGlobals mg->mg d.name=!.ref fa ->
   ∃fd:FuncData,(∀(s:Shared) (u:Value),BindsTo s fd #[[u],[]] [(x,u)]) /\
    ∀ base:Heap,(K w.params).In base->base.Ns mainGlobals mg->gN l.prog w (K w.params) mg base (CX w) k fa fd [x] (sp w))(uj:∀(w:World) (H:Hp) (a:Addr) (ns:@&Int),(-ns)<=n->AU H->fT (K w.params) H a (ns.map V.int)->sp w [.ref a] H (λv y=>v=.bl true) λy y y=>False)(CN:∀(w:World) (H:Hp) (s:Shared) (e:Value) (s':Shared),CX w [] H s (λy y y=>False) e s'->False) :
  PySem.W.WalkO q loose XP YP l.row.toRowW d [] (λf vs=>PySem.call f vs):=by
 show OK.aM9 hn xo λw dA bN mg mb fa o pm cd doc a vs ns G Y ho hd lY hmg kM hints hlen hg=>?_;let KX:=hY w _ Y;let#[fd,hb,hF]:=F w mg fa _ KX G.T.g hmg;show UD KX G.T.g G.T.b G.T.builtins G.T.nolimit hg kM hints (aH hlen nD) hr hF hb (λH hO hS=>uj w H a ns hlen hO hS) λH e s'=>CN w H bN e s'
abbrev B5(s:Stmt):Arguments:=match s with
 |.FunctionDef _ a _ _ _ _ _ _ _ _=>a
 |_=>{ posonlyargs:=[],args:=[],vararg:=none,kwonlyargs:=[],kw_defaults:=[],kwarg:=none,defaults:=[] }
abbrev l8(s:Stmt):@&Stmt:=match s with
 |.FunctionDef _ _ b _ _ _ _ _ _ _=>b
 |_=>[]
abbrev l7(s:Stmt):Scope:=match s with
 |.FunctionDef _ _ _ _ _ _ sc _ _ _=>sc
 |_=>{ kind:=.function,names:=[],isGenerator:=false,isCoroutine:=false }
structure qY(K:PySem.W.Frag)(x qual:Str)(st:Stmt)(f:Addr)(fd:FuncData):Prop where
 ex:∃(oc:Value) (od:Option Addr) (kV doc pm:Value) (an:Option Addr) (fJ ct:Value) (mE:Array (Option Value)),
  fd=PySem.W.fnOf x qual (B5 st) (l8 st) (l7 st) .none kV doc pm an fJ ct/\K.lookup f=!#[oc,od,.func fd,mE]/\PySem.W.codeIn K fJ qual=true
 kp:PySem.W.keepIn K (.ref f)=true
section
variable{K:PySem.W.Frag}
def qY.binds{st:Stmt}{f:Addr}{fd:FuncData}{ps:@&Str}(F:qY K x qual st f fd)(h:∀(kV doc pm:Value) (an:Option Addr) (fJ ct:Value) (us:@&Value),(-us)=-ps->bindArgs (PySem.W.fnOf x qual (B5 st) (l8 st) (l7 st) .none kV doc pm an fJ ct) #[us,[]]=pure (ps.zip us)):Binds K fd ps []:=by
 let#[oc,od,kV,doc,pm,an,fJ,ct,mE,rfl,lk,lY]:=F.ex;show .all (h kV doc pm an fJ ct)
def NN{st:Stmt}{f:Addr}{oc:Value}{od an:Option Addr}{mE:Array (Option Value)}{kV doc pm fJ ct:Value}(l:K.lookup f=!#[oc,od,.func (PySem.W.fnOf x qual (B5 st) (l8 st) (l7 st) .none kV doc pm an fJ ct),mE])(c:PySem.W.codeIn K fJ qual=true)(k:PySem.W.keepIn K (.ref f)=true):qY K x qual st f (PySem.W.fnOf x qual (B5 st) (l8 st) (l7 st) .none kV doc pm an fJ ct):=#[#[oc,od,kV,doc,pm,an,fJ,ct,mE,rfl,l,c],k]
end
section
variable{prog:Program}{R:Result->Shared->Prop}
def aJ5{target:Expr}{it acc:Value}{env:Env}(I:Nat->Shared->Prop)(turn:∀ n s,I n s->wpAny (model prog w) A (pyNext it) (λr bN=>match r with
   |none=>R (.ok .next) bN
   | some v=>wpAny (model prog w) A (letOwnedTupleGo target it v) (λy bN=>wpAny (model prog w) A (assign target env v) (λ_ gx =>
     wpAny (model prog w) A (forIn ifs true λc r=>if r=true then do let ok <- isTrue c env (eval c env);pure (ForInStep.yield ok) else pure (ForInStep.yield r)) (λok gW =>
      if ok=true then wpAny (model prog w) A (eval elt env) (λx lP =>
       wpAny (model prog w) A (call (.builtin "list.append") [acc,x]) (λy lO=>∃ m,m < n/\I m lO) (λy y=>False) lP) (notedBy (model prog w) A env λe s'=>R (.error e) s') gW
      else ∃ m,m < n/\I m gW) (λy y=>False) gx) (λy y=>False) bN) (λy y=>False) bN) (λy y=>False) s)(n:Nat)(h:I n s) :
  codeAny (model prog w) A (.compLoop (.ListComp elt [#[target,iter,ifs,0]] scope pos) 0 it acc env) R s:=by
 show codeAny_loop rfl I (λn s hI=>?_) n h;change wpAny _ A ((compTurn (.ListComp elt [#[target,iter,ifs,0]] scope pos) 0 it acc env).onRaise (λx=>do noteFrame x env;theTreesLotGoes x)) _ _ s;show wpAny_noted ?_;rw[compTurn_list];show aa (iS (aa (bV (turn n s hI) (λr bN eT=>?_) λy y h'=>h'.elim)));cases r with
 |none=>show ai eT
 |some v =>
  show aa (bV eT (λy bN eT=>?_) λy y h'=>h'.elim);show aa (bV eT (λy gx kL=>aa (bV kL (λok gW wK=>?_) λy y h'=>h'.elim)) λy y h'=>h'.elim);cases ok with
  |false=>show wpAny_pure #[rfl,wK]
  |true =>
   show aa (aa (bV wK (λx lP BU=>aa (bV BU (λy lO BS=>ai (ai #[rfl,BS])) λy y h'=>h'.elim)) λy y h'=>h'))
end
abbrev mq(X:Cx)(es:@&Expr)(t:TT):Prop :=
 ∀(pi:@&(Addr×Obj)) (s:Shared) (σ:St) (H:Hp) (Q:Bool->Hp->Prop),Inv X pi σ H s->t σ H Q ->
  wpAny (model X.prog X.w) X.A (forIn es true λc r=>if r=true then do let ok <- isTrue c X.env (eval c X.env);pure (ForInStep.yield ok) else pure (ForInStep.yield r)) (TP X pi σ Q) X.xe s
def We:TT:=λx H Q=>Q true H
def SO:mq X [] We:=λpi s σ H Q I h=>ai #[H,I,h]
def SQ{c:Expr}{t:TT}(h:PT X c t):mq X [c] t:=by
 intro pi s σ H Q I q;show aa (aa (bV (h pi s σ H Q I q) (λb s' hb=>ai (ai hb)) λy y x=>x))
abbrev K0(scope:Scope)(cl:@&(Str×Addr))(C:Addr):@&(Str×Addr):=cellsFrom (C+1) scope.names []++cl
def E0:∀(names:@&(Str×NameKind)) (n:Nat) (acc:@&(Str×Addr)),cellsFrom n names acc=cellsFrom n names []++acc
 |[],_,_=>rfl
 |(y,k)::r,n,acc=>by
  unfold cellsFrom;split
  .rw[E0 r (n+1) ((y,n)::acc),E0 r (n+1) [(y,n)],gQ]
   rfl
  .exact E0 r n acc
def V5{x:Str}{c:Addr}:∀{names:@&(Str×NameKind)} {n:Nat},(x,c)∈cellsFrom n names []->(x,NameKind.cell)∈names
 |[],_,h=>by simp[cellsFrom] at h
 |(y,k)::r,n,h=>by
  unfold cellsFrom at h;split at h
  .rw[E0] at h;rcases bS.mp h with z|z
   .exact bL _ (V5 z)
   grind
  .exact bL _ (V5 h)
def N6{α:Type}:∀{a b:@&(Str×α)},(a++b).lookup x=(a.lookup x).or (b.lookup x)
 |[],_=>rfl
 |(y,v)::r,b=>by
  grind
def Kt(h:scope.names.lookup x=!.cell\/∃c,cl.lookup x=!c):∃c,(K0 scope cl C).lookup x=!c:=by
 unfold K0;rw[N6];cases e:(cellsFrom (C+1) scope.names []).lookup x with
 |some c=>show#[c,rfl]
 |none =>
  rcases h with h|h
  .let q:=dM scope.names (C+1) [] (.inl h);rw[e] at q;cases q
  .exact h
def O0{env:Env}:∀{names:@&(Str×NameKind)} {x:Str},names.lookup x=!.cell ->
  (names.map λ(n,k)=>if(k==NameKind.free&&env.scope.kind==.function&&env.kindOf n==!.cell) then(n,NameKind.cell) else(n,k)).lookup x=!.cell
 |[],_,h=>by simp at h
 |(n,k)::r,x,h=>by
  let ih:=@O0 env r x;change List.lookup x ((if(k==NameKind.free&&env.scope.kind==.function&&env.kindOf n==!.cell)=true then(n,NameKind.cell) else(n,k))::_)=_;cases hx:x==n with
  |true =>
   simp only[List.lookup_cons,hx] at h
   simp_all
  |false =>
   simp only[List.lookup_cons,hx] at h;by_cases hc:(k==NameKind.free&&env.scope.kind==.function&&env.kindOf n==!.cell)=true
   .rw[aw hc];simp only[List.lookup_cons,hx];show ih h
   .rw[az hc];simp only[List.lookup_cons,hx];show ih h
def Nb{h:Heap}(ck:CellsOk h (C+1) (cellsFrom (C+1) scope.names [])){c:Addr}(e:(K0 scope cl C).lookup x=!c):C<c\/cl.lookup x=!c:=by
 unfold K0 at e;rw[N6] at e;cases e2:(cellsFrom (C+1) scope.names []).lookup x with
 |some c' =>
  rw[e2] at e;cases e;show .inl (ck.empty x c (aL e2)).2
 |none =>
  rw[e2] at e;show .inr e
def aA0{M:Model}{E:Value->Shared->Prop}{globals:Addr}{outer:Env}{Q:Env->Shared->Prop}(hQ:∀ eT:Heap,eT.Ns s⁻¹ (λx=>none)->(∀ b o,s.heap.get? b=!o->eT.get? b=!o)->CellsOk eT (s⁻¹ + 1) (cellsFrom (s⁻¹ + 1) scope.names []) ->
   Q (newEnv scope s⁻¹ globals (K0 scope cl s⁻¹) qual none .none (!outer) builtinsNs) { s with heap:=eT }) :
  wpAny M A (newFunctionEnv scope globals cl [] qual none .none (!outer)) Q E s:=by
 simp only[newFunctionEnv,Option.isSome_some,if_true];show aa (wpAny_alloc ?_);show aa (wpAny_layCells _ (λname kind cells=>by rfl) _ _ _ _ ?_);let ok:=cellsFrom_ok scope.names (s.heap.push { cls:=.type "dict",data:=.dict (List.toArray []) }) (s⁻¹+1) [] #[λx x hm=>(nomatch hm),List.Pairwise.nil] #[_];rw[cQ] at ok;rw[show({ s with heap:=s.heap.push { cls:=.type "dict",data:=.dict (List.toArray []) } }:Shared).heap.objs.size=s⁻¹+1 from cQ ..];show aa (ai (ai ?_));rw[E0];show hQ _ ((Heap.Ns.new s.heap (.type "dict")).keeps (pushCells_keeps _ _)) (λb o e=>pushCells_keeps _ _ b o (ag _ e)) ok
abbrev d6(X:Cx)(pi:@&(Addr×Obj))(scope:Scope)(N':@&Str)(cl:@&(Str×Addr))(C:Addr)(s:Shared)(H:Hp)(fp:@&Addr):Cx where
 prog:=X.prog
 w:=X.w
 K:=X.K
 mg:=X.mg
 base:=X.base
 A:=X.A
 N:=N'
 dA:=s
 jt:=H
 env:=compEnvC scope (K0 scope cl C) C X.env
 outer:=X.stack
 stack:=X.stack
 ex:=fp
 calm:=true
 fn:=λx=>decide (scope.names.lookup x=!.cell)
 pn:=X.pn++pi
 xe:=λy y=>False
structure dQ(X:Cx)(scope:Scope)(N':@&Str)(c9:@&Nat)(cl:@&(Str×Addr)):Prop where
 kind:scope.kind=.function
 cells:∀y∈scope.names,y.2=.cell->scope.names.lookup y.1=!.cell
 names:∀y∈scope.names,y.2=.local->scope.names.lookup y.1=!.local
 sU:closureFor scope X.env=pure cl
 cin:∀x c,cl.lookup x=!c->X.env.cells.lookup x=!c
 yk:∀x,scope.names.lookup x=!.free->∃c,cl.lookup x=!c
 nd:N'.Nodup
 Sb:∀(i j:Nat),c9[i]?=!j->∃x,N'[i]?=!x/\X.N[j]?=!x/\scope.names.lookup x=!.free/\(X.env.kindOf x=!.cell\/X.env.kindOf x=!.free)
 DI:-c9<=-N'
def E5{env:Env}:∀{names:@&(Str×NameKind)} {x:Str},names.lookup x=!.free ->
  (names.map λ(n,k)=>if(k==NameKind.free&&env.scope.kind==.function&&env.kindOf n==!.cell) then(n,NameKind.cell) else(n,k)).lookup x=!.cell \/
  (names.map λ(n,k)=>if(k==NameKind.free&&env.scope.kind==.function&&env.kindOf n==!.cell) then(n,NameKind.cell) else(n,k)).lookup x=!.free
 |[],_,h=>by simp at h
 |(n,k)::r,x,h=>by
  let ih:=@E5 env r x;change List.lookup x ((if(k==NameKind.free&&env.scope.kind==.function&&env.kindOf n==!.cell)=true then(n,NameKind.cell) else(n,k))::_)=_\/List.lookup x ((if(k==NameKind.free&&env.scope.kind==.function&&env.kindOf n==!.cell)=true then(n,NameKind.cell) else(n,k))::_)=_;cases hx:x==n with
  |true =>
   simp only[List.lookup_cons,hx] at h;cases h;by_cases hc:(NameKind.free==NameKind.free&&env.scope.kind==.function&&env.kindOf n==!.cell)=true
   .rw[aw hc];simp[List.lookup_cons,hx]
   .rw[az hc];simp[List.lookup_cons,hx]
  |false =>
   simp only[List.lookup_cons,hx] at h;by_cases hc:(k==NameKind.free&&env.scope.kind==.function&&env.kindOf n==!.cell)=true
   .rw[aw hc];simp only[List.lookup_cons,hx];show ih h
   .rw[az hc];simp only[List.lookup_cons,hx];show ih h
def O1{env:Env}:∀{names:@&(Str×NameKind)} {x:Str},((names.map λ(n,k)=>if(k==NameKind.free&&env.scope.kind==.function&&env.kindOf n==!.cell) then(n,NameKind.cell) else(n,k)).lookup x=!.cell \/
  (names.map λ(n,k)=>if (k == NameKind.free && env.scope.kind == .function && env.kindOf n == !.cell) then (n,NameKind.cell) else (n,k)).lookup x=!.free)->names.lookup x=!.free \/ names.lookup x=!.cell
 |[],_,h=>by simp at h
 |(n,k)::r,x,h=>by
  let ih:=@O1 env r x;rw[bT] at h;cases hx:x==n with
  |true =>
   simp only[List.lookup_cons,hx];by_cases hc:(k==NameKind.free&&env.scope.kind==.function&&env.kindOf n==!.cell)=true
   .refine .inl ?_;simp only[Bool.and_eq_true,beq_iff_eq] at hc;rw[hc.1.1]
   .simp only[if_neg hc,List.lookup_cons,hx] at h;rcases h with h|h
    .exact .inr h
    .exact .inl h
  |false =>
   simp only[List.lookup_cons,hx];by_cases hc:(k==NameKind.free&&env.scope.kind==.function&&env.kindOf n==!.cell)=true
   .simp only[if_pos hc,List.lookup_cons,hx] at h;show ih h
   .simp only[if_neg hc,List.lookup_cons,hx] at h;show ih h
def F5(σ:St)(c9:@&Nat)(n:Nat):St:=c9.map (λj=>(σ[j]?).join)++List.replicate (n- -c9) none
section
variable{pi:@&(Addr×Obj)}{σ:St}{H:Hp}
def Inv.aX9{h1:Heap}{tk:Nat}(I:Inv X pi σ H s)(S:dQ X scope N' c9 cl)(hc:X.calm=true)(hf:∀b∈fp,H9 X pi H b)(ho:∀b∈fp,∃o,s.heap.get? b=!o)(hC:s⁻¹<=C)(hn:∃m,h1.Ns C m)(k:∀b o,s.heap.get? b=!o->h1.get? b=!o)(ck:CellsOk h1 (C+1) (cellsFrom (C+1) scope.names [])) :
  Inv (d6 X pi scope N' cl C s H fp) [] (F5 σ c9 (-N')) H { s with heap:=h1,toks:=tk }:=by
 let#[m,hm]:=hn;let QC:=S.kind;let Hh:∀b o,s.heap.get? b=!o->b≠C:=λb o e z=>absurd (aq e) (by simp_all);let two:∀{x:Str} {c:Addr},(K0 scope cl C).lookup x=!c->(C<c/\h1.IsCell c none/\(x,c)∈cellsFrom (C+1) scope.names [])\/(cl.lookup x=!c/\(cellsFrom (C+1) scope.names []).lookup x=none):=λ{x c} h=>by
  unfold K0 at h;rw[N6] at h;cases e:(cellsFrom (C+1) scope.names []).lookup x with
  |some c' =>
   rw[e] at h;cases h;let hm:=aL e;show .inl #[(ck.empty x c hm).2,(ck.empty x c hm).1,hm]
  |none =>
   rw[e] at h;show .inr #[h,rfl]
 let wj:∀{x:Str} {c:Addr},cl.lookup x=!c->c<s⁻¹:=λ{x c} h=>by
  let#[v,o,e,_]:=I.cell x c (S.cin x c h);show aq e
 let frees:∀{x:Str},scope.names.lookup x=!.free->(K0 scope cl C).lookup x=cl.lookup x:=λ{x} h=>by
  unfold K0;rw[N6];cases e:(cellsFrom (C+1) scope.names []).lookup x with
  |some c' =>
   have:=S.cells _ (V5 (aL e)) rfl
   simp_all
  |none=>rfl
 show#[#[I.mod,QC,I.ok.glob,I.ok.blt,hC,?_,?_,?_,λw=>I.ok.hd hc,I.ok.frames,.inl rfl,?_,I.bs,?_,?_,?_,I.stack,I.AG],rfl,I.bare,Un.kept k,#[m,hm,?_],?_,?_,?_,?_,I.bB.kept k,?_,λcZ z=>absurd (show(none:Option (List (Option V)))=some cZ from z) #[_]]
 .intro x y c h1 h2;rcases two h1 with⟨l1,_,q1⟩|⟨q1,_⟩<;>rcases two h2 with⟨l2,_,q2⟩|⟨q2,_⟩
  .exact PySem.name_of_addr ck.apart q1 q2
  .exact absurd (cG l1 (av (wj q2) hC)) (bR _)
  .exact absurd (cG l2 (av (wj q1) hC)) (bR _)
  .exact I.ok.inj x y c (S.cin x c q1) (S.cin y c q2)
 .intro x hx;rcases O1 hx with z|z
  .let#[c,hc]:=S.yk x z;show#[c,(frees z).trans hc]
  .let q:=dM scope.names (C+1) [] (.inl z);let#[c,hc]:=eQ.mp q;show#[c,?_];show(K0 scope cl C).lookup x=!c;unfold K0;rw[N6,hc]
   rfl
 .intro x c hf h;let z:=bz hf;let q:=dM scope.names (C+1) [] (.inl z);rcases two h with⟨l,_⟩|⟨_,e⟩
  .exact eJ (jV hC l)
  simp_all
 .intro b hb;let#[f0,f1,f2,f3,f4,f5]:=hf b hb;let#[o,e]:=ho b hb;show#[Hh b o e,λx c h=>?_];rcases two h with⟨l,_⟩|⟨q,_⟩
  .intro z;subst z;show absurd (cG l (av (aq e) hC)) (bR _)
  .exact f4 x c (S.cin x c q)
 .exact aH I.ok.nV I.sz
 .intro b o e hb;let#[f0,f1,f2,f3,f4,f5]:=hf b hb;rcases f3 with f3|f3
  .exact I.ok.ka b o e f3
  .exact absurd (aq (I.ok.bs b o e).1) (oN.mpr f3)
 .intro b hb z;let#[f0,f1,f2,f3,f4,f5]:=hf b hb;rcases aG.mp (I.Q1 b z) with z|z
  .exact f1 z
  .exact f2 z
 .intro i x v Dv h2 h3;let hi:i< -c9:=by
   unfold F5 at h2;by_cases hi:i< -c9
   .exact hi
   .rw[cX (_/hi),dH] at h2
    simp_all
  obtain⟨j,hj⟩:∃j,c9[i]?=!j:=#[_,ao hi]
  let hs:σ[j]?=!!v:=by
   unfold F5 at h2;rw[ay (_/hi),aD,hj] at h2;simp only[Option.map_some] at h2;cases e:σ[j]? with
   |none=>rw[e] at h2;cases h2
   |some a=>rw[e] at h2;show ij some (aJ h2)
  let#[y,Qm,Ql,BX,Qk]:=S.Sb i j hj;let ey:y=x:=by
   let xF:N'[i]?=!x:=Dv;rw[Qm] at xF;show aJ xF
  subst ey;let#[m0,HF,hl]:=I.loc;let ⟨u,ru,hu⟩:=hl j y v Ql hs (by
   rcases Qk with z|z
   .exact .inr (.inl z)
   .exact .inr (.inr z))
  show#[u,ru,.inr #[E5 BX,?_]];rcases hu with⟨z,_⟩|⟨_,c,QO,qE⟩
  .simp_all
  .let#[c',xt]:=S.yk y BX;let e:=S.cin y c' xt;rw[QO] at e;cases e;let#[o,e1,e2]:=qE;show#[c,(frees BX).trans xt,o,k _ _ e1,e2]
 .intro x c h;rcases two h with⟨_,q,_⟩|⟨q,_⟩
  .exact#[none,q]
  .let#[v,o,e1,e2]:=I.cell x c (S.cin x c q);show#[v,o,k _ _ e1,e2]
 .exact I.bB.fresh hC
 .intro x c h;rcases two h with⟨l,_⟩|⟨q,_⟩
  .exact I.bB.fresh (eJ (jV hC l))
  .exact I.eW x c (S.cin x c q)
 .intro p hp;let lj:p∈X.pn++pi:=by simpa[d6] using hp
  let#[p1,p2,p3,p4,p5]:=I.pin p lj;show#[k _ _ p1,p2,Hh _ _ p1,λz=>?_,p5];rcases aG.mp (I.Q1 _ z) with z|z
  .exact p3 z
  .exact p4 z
 .unfold F5;change _=-N';rw[bg,aj,zi];have:=S.DI;omega
def Inv.M'{fM:@&(Addr×Obj)}{cu:St}{H':Hp}{s':Shared}(I:Inv X pi σ H s)(hf:∀b∈fp,H9 X pi H b)(J:Inv (d6 X pi scope N' cl C s H fp) fM cu H' s'):Inv X pi σ H' s' :=
 I.FA (ch:=fp) J.os J.base J.bB J.bare λb hb=>by
  let#[f0,f1,f2,f3,f4,f5]:=hf b hb;show#[f3,f1,f4,f5]
def Inv.XQ{D:Addr}{ys:@&V}{aS:@&Value}{n:Nat}(I:Inv X pi σ H s)(f:H9 X pi H D)(hs:X.dA.heap.objs.size<=D)(hv:Vals ys aS)(hz:-ys<=sizeLine)(ho:s.heap.get? D=some { cls:=.type "list",data:=.seq aS.toArray n }):Inv X pi σ (upd H D (.lst ys)) s:=by
 let#[f0,f1,f2,f3,f4,f5]:=f;let fN:∀b o,X.dA.heap.get? b=!o->b≠D:=λb o e z=>absurd (aq e) (by rw[z];show oN.mpr hs);let tup:∀b u,H b=!u->upd H D (.lst ys) b=!u:=λb u e=>by rw[d8 (j3 e f0)];show e
 show#[I.ok,I.os,I.bare,#[?_,?_,?_,I.base.there,?_,?_,?_],I.loc,I.cell,?_,?_,?_,?_,I.len,I.sg]
 .exact λb o e n1 n2 n3=>I.base.keep b o e n1 n2 n3
 .exact λb o e n1 n2 n3=>I.base.slot b o e n1 n2 n3
 .exact λb o e n1 n2=>by rw[d8 (fN b o e)];show I.base.free b o e n1 n2
 .exact λb xs e=>tup _ _ (I.base.iE b xs e)
 .exact λb o u e=>tup _ _ (I.base.iu b o u e)
 .exact λb ps e=>by
   let#[more,q]:=I.base.iG b ps e;show#[more,tup _ _ q]
 .rw[d8 f1.symm];show I.free
 .exact λx c e=>by rw[d8 (f4 x c e)];show I.eW x c e
 .intro p hp;let#[p1,p2,p3]:=I.pin p hp;show#[p1,by rw[d8 (f5 p hp)];show p2,p3]
 .intro a o e;by_cases ha:a=D
  .subst ha;rw[k7] at e;cases e;show#[hz,aS,n,hv,ho]
  .rw[d8 ha] at e;let q:=I.bB a o e;show q.G6 (λb u y h=>h) (λb hb=>tup _ _ hb) (λb xs hb=>tup _ _ hb)
end
def yB(wi:TI)(c9:@&Nat)(n:Nat)(g:TG)(tc:TT)(te:TE):TE:=λσ H Q=>wi σ H λJ H1=>∃W:Nat->Nat->@&V->St->Hp->Prop,(∃m,W 0 m [] (F5 σ c9 n) H1)/\∀i m ys σ H,W i m ys σ H ->
 (J.stop i H/\∀p,H p=none->Q (.ref p) (upd H p (.lst ys))) \/
 (J.go i H/\-ys < sizeLine/\∀ x H',J.tW i H x H'->g x σ H' λdz H2=>tc dz H2 λb H3 =>
  if b=true then te dz H3 λy H4=>∃ m',m' < m/\W (i + 1) m' (ys ++ [y]) dz H4 else ∃ m',m' < m/\W (i + 1) m' ys dz H3)
noncomputable abbrev b36(aS:@&Value)(n:Nat):Obj:={ cls:=.type "list",data:=.seq aS.toArray n }
section
variable{pi:@&(Addr×Obj)}{σ:St}{H:Hp}
structure OI(X:Cx)(n0:Nat){α:Type}(K:Addr->α->Heap->Obj->Prop)(fin:Addr->α->HO):Prop where
 nc:∀{a y h o},K a y h o->∀v,o.data≠.cell v
 get:∀{a y h o},K a y h o->h.get? a=!o
 G6:∀{a y h h' o},K a y h o->h'.get? a=!o->K a y h' o
 done:∀{pi σ H s a y o},n0<=a->Inv X pi σ H s->H9 X pi H a->X.dA.heap.objs.size<=a->K a y s.heap o->Inv X pi σ (upd H a (fin a y)) s
def VX{α:Type}{K:Addr->α->Heap->Obj->Prop}{fin:Addr->α->HO}{y0:α}{o0:Obj}{Bd:α->Prop}{tb:α->St->Hp->(α->Hp->Prop)->Prop}{body:(Shared->Prop)->Shared->Prop}{LP:Shared->Prop}{it:Addr}{tn:Nat->Heap->Prop}{J:It}{R:Result->Shared->Prop}{W:Nat->Nat->α->St->Hp->Prop}{m0:Nat}{Q:VK}{eT:Heap}{env:Env}(G:OI X s⁻¹ K fin)(S:dQ X scope N' c9 cl)(hc:X.calm=true)(hg:PG (d6 X pi scope N' cl C s H fp) tg g)(ht:mq (d6 X pi scope N' cl C s H fp) ifs tc)(I:Inv X pi σ H s)(T:Turn X.prog X.w X.K tg J fp it tn)(st:tn 0 s.heap)(hf:∀b∈fp,H9 X pi H b)(w0:W 0 m0 y0 (F5 σ c9 (-N')) H)(turn:∀ i m y σ H,W i m y σ H->(J.stop i H/\∀ p,H p=none->Q (.ref p) (upd H p (fin p y))) \/
   (J.go i H/\Bd y/\∀ x H',J.tW i H x H'->g x σ H' λdz H2=>tc dz H2 λb H3 =>
    if b=true then tb y dz H3 λy' H4=>∃ m',m' < m/\W (i + 1) m' y' dz H4 else ∃ m',m' < m/\W (i + 1) m' y dz H3))(CK:∀s' H' m,Inv X pi σ H' s'->Q (.ref s⁻¹) H'->s'.heap.Ns C m->H' C=none->s⁻¹<=C->R (.ok .next) s')(qx:∃m,eT.Ns C m)(Hx:∀b o,(s.heap.push o0).get? b=!o->eT.get? b=!o)(xr:CellsOk eT (C+1) (cellsFrom (C+1) scope.names []))(eC:s⁻¹+1=C)(k0:K s⁻¹ y0 eT o0)(ev:(d6 X pi scope N' cl C s H fp).env=env)(CG:∀ y o fM cu H' s' (P:α->Hp->Prop) (R':Shared->Prop),Bd y->K s⁻¹ y s'.heap o->(∀ {zj H8 s8},Inv (d6 X pi scope N' cl C s H fp) fM zj H8 s8->s8.heap.get? s⁻¹=!o)->Inv (d6 X pi scope N' cl C s H fp) fM cu H' s'->tb y cu H' P ->
   (∀ s8 H8 y' h' t' o',Inv (d6 X pi scope N' cl C s H fp) fM cu H8 s8->P y' H8->(∀ b u,b ≠ s⁻¹->s8.heap.get? b=!u->h'.get? b=!u)->K s⁻¹ y' h' o'->R' { s8 with heap:=h',toks:=t' })->body R' s')(lp:∀ (I:Nat->Shared->Prop),(∀ n s,I n s->wpAny (model X.prog X.w) X.A (pyNext (.ref it)) (λr bN=>match r with
   |none=>R (.ok .next) bN
   | some v=>wpAny (model X.prog X.w) X.A (letOwnedTupleGo tg (.ref it) v) (λt bN=>wpAny (model X.prog X.w) X.A (assign tg env v) (λ_ gx =>
     wpAny (model X.prog X.w) X.A (forIn ifs true λc r=>if r=true then do let ok <- isTrue c env (eval c env);pure (ForInStep.yield ok) else pure (ForInStep.yield r)) (λok gW =>
      if ok=true then body (λlO=>∃ m,m < n/\I m lO) gW else ∃ m,m < n/\I m gW) (λt t=>False) gx) (λt t=>False) bN) (λt t=>False) bN) (λt t=>False) s)->∀ n,I n { s with heap:=eT }->LP { s with heap:=eT }) :
  tn 0 eT/\LP { s with heap:=eT }:=by
 subst ev;generalize CM:s.heap.push o0=H2 at Hx;generalize eD:s⁻¹=D at *;let HZ:D≠C:=by omega
 let lt:∀b o,s.heap.get? b=!o->b<D:=λb o e=>by rw[<- eD];show aq e
 let zB:D<=C:=by omega
 let ue:∀b o,s.heap.get? b=!o->b≠C:=λb o e=>aF (av (lt b o e) zB);let wx:∀b o,s.heap.get? b=!o->b≠D:=λb o e=>aF (lt b o e);let old:∀b o,s.heap.get? b=!o->eT.get? b=!o:=λb o e=>Hx b o (CM▸ag _ e);let kM:∀b∈fp,∃o,s.heap.get? b=!o:=λb hb=>by
  let#[o,e,_]:=T.obj _ _ st b hb;show#[o,e]
 let HY:D∉fp:=λhm=>by
  let#[o,e]:=kM D hm;show wx D o e rfl
 let X1:Inv (d6 X pi scope N' cl C s H fp) [] (F5 σ c9 (-N')) H { s with heap:=eT } :=
  I.aX9 S hc hf kM (by rw[eD];omega) qx old xr
 let qo:=T.keep _ _ _ st λb t o e=>old b o e;let RL:∀{H':Hp},(∀b∈fp,H' b=none)->∀b∈fp,H9 (d6 X pi scope N' cl C s H fp) [] H' b:=λhn b hb=>by
  let#[f0,f1,f2,f3,f4,f5]:=hf b hb;let#[o,e]:=kM b hb;show#[hn b hb,?_,?_,.inl hb,λx c q=>(Nb xr q).elim (λl z=>absurd (cG (z▸l) (av (lt b o e) zB)) (bR _)) λq=>f4 x c (S.cin x c q),λp hp=>?_]
  .exact ue b o e
  .exact λz=>by
    rcases aG.mp (I.Q1 b z) with z|z
    .exact f1 z
    .exact f2 z
  .let lj:p∈X.pn++pi:=by simpa[d6] using hp
   show f5 p lj
 let fD:∀{H':Hp},H' D=none->H9 (d6 X pi scope N' cl C s H fp) [] H' D:=λhn=>by
  show#[hn,HZ,λz=>?_,.inr (by change s⁻¹<=D;omega),λx c q=>?_,λp hp=>?_]
  .exact absurd (I.AX (a:=D) ()) λkO=>by
    rcases aG.mp (I.Q1 D z) with z|z
    .exact absurd I.lt (by rw[<- z,eD];show bR _)
    .exact kO z
  .rcases Nb xr q with l|q
   .exact λz=>absurd (av (z▸l) zB) (bR _)
   .let#[v,o,e,_]:=I.cell x c (S.cin x c q);show wx c o e
  .let lj:p∈X.pn++pi:=by simpa[d6] using hp
   show wx _ _ (I.pin p lj).1
 show#[qo,lp (λn s'=>∃(i:Nat) (y:α) (cu:St) (H':Hp) (o:Obj),Inv (d6 X pi scope N' cl C s H fp) [] cu H' s'/\tn i s'.heap/\(∀b∈fp,H' b=none)/\H' D=none/\K D y s'.heap o/\W i n y cu H') ?_ m0 #[0,y0,_,H,o0,X1,qo,λb hb=>(hf b hb).1,I.bB.fresh (),k0,w0]];rintro n s3 ⟨i,y,lI,H3,o,I3,vT,ya,d3,k3,w3⟩;let OG:Inv (d6 X pi scope N' cl C s H fp) [(D,o)] lI H3 s3:=I3.Z9 λp hp=>by
  let z:p=(D,o):=by simpa using hp
  subst z;let#[f0,f1,f2,_]:=fD d3;show#[G.get k3,f0,f1,f2,G.nc k3]
 let uD:∀{H':Hp},(∀b∈fp,H' b=none)->∀b∈fp,H9 (d6 X pi scope N' cl C s H fp) [(D,o)] H' b:=λ{H'} hn b hb=>by
  let#[f0,f1,f2,f3,f4,f5]:=RL hn b hb;show#[f0,f1,f2,f3,f4,λp hp=>?_];let lj:p∈(d6 X pi scope N' cl C s H fp).pn\/p=(D,o):=by simpa using hp
  rcases lj with z|z
  .exact f5 p (fE _ z)
  .subst z;show λz=>HY (by rw[show D=b from z];show hb)
 rcases turn i n y lI H3 w3 with⟨stop,q⟩|⟨go,hz,step⟩
 .refine cB (T.done (d6 X pi scope N' cl C s H fp) rfl rfl rfl rfl i _ s3 _ H3 _ OG (uD ya) vT stop) ?_;rintro r s4 ⟨hr,I4⟩;subst hr;let J4:=I.M' hf I4;let RN:H9 X pi H3 D:=by
   show#[d3,bH (by rw[<- eD];show I.lt),I.AX (),.inr (by have:=I.sz;omega),λx c q=>?_,λp hp=>?_]
   .let#[v,o,e,_]:=I.cell x c q;show wx c o e
   .exact wx _ _ (I.pin p hp).1
  let#[mC,Cn,_]:=I4.loc;show CK s4 _ mC (G.done (ak _) J4 RN (by have:=I.sz;omega) (G.G6 k3 (I4.pin (D,o) #[_]).1)) (q D d3) Cn (by rw[d8 HZ.symm];show I4.free) zB
 .refine cB (T.item (d6 X pi scope N' cl C s H fp) rfl rfl rfl rfl i _ s3 _ H3 _ OG (uD ya) vT go) ?_;rintro r s4 ⟨u,hr,h4⟩;subst hr;show cB h4 λt s5 bh=>?_;let#[x,H5,I5,r5,y5,rG,Dy]:=bh;let GL:=I5.pinned (uD Dy) (T.obj _ _ rG);show cB (hg _ s5 _ H5 x u _ GL r5 (step x H5 y5)) λt s6 bh=>?_;let#[rq,H6,I6,q6]:=bh;show cB (ht _ s6 rq H6 _ I6 q6) ?_;rintro ok s7 ⟨H7,I7,q7⟩;let back:∀{zj:St} {H8:Hp} {s8:Shared},Inv (d6 X pi scope N' cl C s H fp) ([(D,o)]++yI fp s5.heap) zj H8 s8->(∀b∈fp,H8 b=none)/\tn (i+1) s8.heap/\H8 D=none/\s8.heap.get? D=!o :=
   λ{zj H8 s8} I8=>by
    let pf:∀b∈fp,∀o,s5.heap.get? b=!o->s8.heap.get? b=!o/\H8 b=none:=λb hb o e=>by
     have:=I8.pin (b,o) (bU _ (bU _ (Fq hb e)));show#[this.1,this.2.1]
    let pd:=I8.pin (D,o) #[_];show#[λb hb=>?_,T.keep _ _ _ rG λb hb o e=>(pf b hb o e).1,pd.2.1,pd.1];let#[o,e,_]:=T.obj _ _ rG b hb;show(pf b hb o e).2
  cases ok with
  |false =>
   let#[m',hm,w7]:=q7;let#[b1,b2,b3,b4]:=back I7;show#[m',hm,i+1,y,rq,H7,o,I7.Z9 λp hp=>absurd hp #[_],b2,b1,b3,G.G6 k3 b4,w7]
  |true =>
   show CG y o _ rq H7 s7 _ _ hz (G.G6 k3 (back I7).2.2.2) (λI8=>(back I8).2.2.2) I7 q7 ?_;rintro s8 H8 y' h' t' o' I8 ⟨m',hm,w8⟩ kp k8;let#[b1,b2,b3,b4]:=back I8;let I8':Inv (d6 X pi scope N' cl C s H fp) [] rq H8 s8:=I8.Z9 λp hp=>absurd hp #[_];let#[f0,f1,f2,f3,f4,f5]:=fD (H':=H8) b3;show#[m',hm,i+1,y',rq,H8,o',I8'.turned (t':=t') (λb o hb e=>kp b o hb e) f0 f1 f3 f4 f5,T.keep _ _ _ b2 λb hb o e=>kp b o (λz=>HY (by rw[<- z];show hb)) e,b1,b3,k8,w8]
def KL(a:Addr)(ys:@&V)(h:Heap)(o:Obj):Prop:=∃aS n,Vals ys aS/\-ys<=sizeLine/\o=b36 aS n/\h.get? a=!o
def Uw{n0:Nat}:OI X n0 KL λx ys=>.lst ys where
 nc:=λ⟨_,_,_,_,e,_⟩ v z=>by subst e;cases z
 get:=λ⟨_,_,_,_,_,e⟩=>e
 G6:=λ⟨aS,n,h1,h2,h3,_⟩ e=>#[aS,n,h1,h2,h3,e]
 done:=λ_ I f hs ⟨aS,n,h1,h2,h3,e⟩=>I.XQ f hs h1 h2 (h3▸e)
def Fj{it:Addr}{tn:Nat->Heap->Prop}{J:It}{xx:Addr->Shared->Hp->Value->Shared->Prop}{RR:Value->Addr->Result->Shared->Prop}{E:Value->Shared->Prop}{W:Nat->Nat->@&V->St->Hp->Prop}{m0:Nat}{Q:VK}(S:dQ X scope N' c9 cl)(hc:X.calm=true)(hg:∀C s H,PG (d6 X pi scope N' cl C s H fp) tg g)(ht:∀C s H,mq (d6 X pi scope N' cl C s H fp) ifs tc)(he:∀C s H,PE ((d6 X pi scope N' cl C s H fp).R8 (xx C s H)) elt te)(I:Inv X pi σ H s)(T:Turn X.prog X.w X.K tg J fp it tn)(st:tn 0 s.heap)(hf:∀b∈fp,H9 X pi H b)(w0:W 0 m0 [] (F5 σ c9 (-N')) H)(turn:∀ i m ys σ H,W i m ys σ H->(J.stop i H/\∀ p,H p=none->Q (.ref p) (upd H p (.lst ys))) \/
   (J.go i H/\-ys < sizeLine/\∀ x H',J.tW i H x H'->g x σ H' λdz H2=>tc dz H2 λb H3 =>
    if b=true then te dz H3 λy H4=>∃ m',m' < m/\W (i + 1) m' (ys ++ [y]) dz H4 else ∃ m',m' < m/\W (i + 1) m' ys dz H3))(CK:∀D C s' H' m,Inv X pi σ H' s'->Q (.ref D) H'->s'.heap.Ns C m->H' C=none->s⁻¹<=C->RR (.ref D) C (.ok .next) s')(QX:∀D C e s',s⁻¹<=C->xx C s H e s'->notedBy (model X.prog X.w) X.A (compEnvC scope (K0 scope cl C) C X.env) (λe s'=>RR (.ref D) C (.error e) s') e s') :
  wpAny (model X.prog X.w) X.A (newList []) (λacc gW=>wpAny (model X.prog X.w) X.A (newFunctionEnv scope X.env.globals cl [] X.env.qual none .none (!X.env)) (λcenv lP =>
   cenv.frame=X.env.frame/\codeAny (model X.prog X.w) X.A (.compStart (.ListComp elt [#[tg,iter,ifs,0]] scope pos) 0 (.ref it) acc { cenv with scope:=relabel scope X.env }) (RR acc cenv.locals) lP) E gW) E s:=by
 show bK (aA0 λeT sy nA xr=>?_);let eC:(s.heap.push { cls:=.type "list",dict:=none,data:=.seq ([]:@&Value).toArray }).objs.size=s⁻¹+1:=cQ ..
 replace eC:=eC.symm
 generalize (s.heap.push { cls:=.type "list",dict:=none,data:=.seq ([]:@&Value).toArray }).objs.size=C at *;show (λL=>#[rfl,codeAny_compStart_list L.2 (T.self _ 0 _ _ _ L.1 L.2)]) (VX (tb:=λys σ H P=>te σ H λy H'=>P (ys ++ [y]) H')
  (body:=λP gW=>wpAny (model X.prog X.w) X.A (eval elt (compEnvC scope (K0 scope cl C) C X.env)) (λx lP=>wpAny (model X.prog X.w) X.A (call (.builtin "list.append") [.ref s⁻¹,x]) (λz lO=>P lO) (λz z=>False) lP) (notedBy (model X.prog X.w) X.A (compEnvC scope (K0 scope cl C) C X.env) λe s'=>RR (.ref s⁻¹) C (.error e) s') gW)
  Uw S hc (hg C s H) (ht C s H) I T st hf w0 turn (λs' H' m=>CK _ C s' H' m) #[_,sy] nA xr eC #[[],0,.nil,cJ _,rfl,nA _ _ (au _ rfl)] rfl (λys o fM cu H' s' P R' hz k hb I' q hR=>?_) (λI turn n h=>aJ5 I turn n h))
 .refine bV (he C s H _ s' cu H' _ (I'.R8 _) q) (λxv s8 bh=>?_) λe s' hx=>QX _ C e s' () hx;let#[y,H8,I8,r8,q8]:=bh;let I8:=I8.Ar;let#[aS,nn,v3,z3,rfl,_]:=k;let b4:=hb I8;show cE F.slot_list_append #[_,b4,rfl] F.entry_list_append (F.args_list_append_2 _ _) (PySem.list_append _ aS.toArray nn xv (by rw[aK];have:=-v3;omega)) #[b4,?_];let q0:=PySem.IsL.update b4 (·.push xv);rw[show aS.toArray.push xv=(aS++[xv]).toArray by simp] at q0;show hR s8 H8 _ _ s8.toks _ I8 q8 (λb' u hb hu=>(bC s8.heap (Obj.mapSeq (·.push xv)) (aU hb)).trans hu) #[_,_,v3.append (.cons r8 .nil),by rw[bg,List.length_singleton];omega,rfl,q0]
def Inv.yw{h':Heap}{s2:Shared}{H2:Hp}(I:Inv X pi σ H s)(hC:s2⁻¹<=C)(I2:Inv X pi σ H2 s2)(hn:H C=none)(sb:Heap.SameBut C s.heap h'):Inv X pi σ H { s with heap:=h' }:=by
 let f:=I2.qT (H':=H) hC hn;let#[f0,f1,f2,f3,f4,f5]:=f;show I.turned (t':=s.toks) (λb o hb e=>sb.extBut b o hb e) f0 f1 f3 f4 f5
def Lb{M:Model}{E:Value->Shared->Prop}{a:Sem Value}{b:Sem Env}{P:Env->Prop}{Q:Value->Env->Shared->Prop}(h:wpAny M A a (λx s1=>wpAny M A b (λy s2=>P y/\Q x y s2) E s1) E s):wpAny M A a (λx s1=>wpAny M A b (λy s2=>Q x y s2) E s1) E s :=
 bV h (λw w h=>bV h (λw w h=>h.2) λw w z=>z) λw w z=>z
def Mv{wi:TI}(S:dQ X scope N' c9 cl)(hc:X.calm=true)(hi:PI X tg iter wi)(hg:∀pi C s H fp,PG (d6 X pi scope N' cl C s H fp) tg g)(ht:∀pi C s H fp,mq (d6 X pi scope N' cl C s H fp) ifs tc)(he:∀pi C s H fp,PE (d6 X pi scope N' cl C s H fp) elt te)(hs:∀x,foldedSetIterable iter X.env x=pure x):PE X (.ListComp elt [#[tg,iter,ifs,0]] scope pos) (yB wi c9 (-N') g tc te):=by
 intro pi s σ H Q I h;show ON rfl hs S.sU S.kind S.names (cB (hi pi s σ H _ I h) λxv bN eT=>cB eT λwJ gx kL=>?_);let#[it,fp,tn,J,H2,e,I2,T,oX,f2,W,#[m0,w0],turn]:=kL;subst e;show Lb (Fj S hc (λC s H=>hg pi C s H fp) (λC s H=>ht pi C s H fp) (λC s H=>he pi C s H fp) I2 T oX f2 w0 turn ?_ λy y y y y z=>z.elim);intro D C s' H' m I' q hn hC gD;show#[m,hn,λh' sb=>#[.ref D,H',I'.yw gD I2 hC sb,rfl,q]]
def aL7{vU px:Pos}{wi:TI}{i:Nat}(S:dQ X scope N' c9 cl)(hc:X.calm=true)(hi:PI X tg iter wi)(hg:∀pi C s H fp,PG (d6 X pi scope N' cl C s H fp) tg g)(ht:∀pi C s H fp,mq (d6 X pi scope N' cl C s H fp) ifs tc)(he:∀pi C s H fp,PE (d6 X pi scope N' cl C s H fp) elt te)(hs:∀x,foldedSetIterable iter X.env x=pure x)(hN:X.Nd)(xi:X.N[i]?=!x)(hx:Loc X.env.scope x)(hf:X.fn x=true\/X.env.scope.names.lookup x=!.local) :
  PS X (.Assign [.Name x px] (.ListComp elt [#[tg,iter,ifs,0]] scope pos) vU) (uO (yB wi c9 (-N') g tc te) (uV i)):=by
 intro pi s σ H D I h;let zG:∃b,swapsWith (.ListComp elt [#[tg,iter,ifs,0]] scope pos) (!.Name x px) vU.line X.env=pure b:=#[_,rfl]
 let#[b,zG]:=zG;cases b with
 |false=>show Of hN xi hx (Mv S hc hi hg ht he hs) zG hf pi s σ H D I h
 |true =>
  rw[exec_Assign_Name_used _ _ _ _ zG];show aa (iS (aa ?_));show aa (bV (ON rfl hs S.sU S.kind S.names
   (cB (hi pi s σ H _ I h) λxv bN eT=>cB eT λwJ gx kL=>?_)) (λy s' hq=>ai (ai hq)) λy y e=>e)
  let#[it,fp,tn,J,H2,e,I2,T,oX,f2,W,#[m0,w0],turn]:=kL;subst e;show Lb (Fj (Q:=λv H1=>uV i v σ H1 D.nx) S hc (λC s H=>hg pi C s H fp) (λC s H=>ht pi C s H fp) (λC s H=>he pi C s H fp) I2 T oX f2 w0 turn ?_ λy y y y y z=>z.elim);intro Dl C s' H' m I' q hn hC gD;show wpAny_assign_Name (KR I' hN xi hx (v:=.ref Dl) rfl (?_) hf);rintro s3 I3 ⟨a,sb,ha⟩;let Rc:C≠a:=by
   let#[f0,f1,f2,f3,f4,f5]:=I2.qT (H':=H') gD hC;rcases ha with z|z
   .rw[z];show f1
   .exact λz'=>f4 _ _ z z'.symm
  let#[f0,f1,f2,f3,f4,f5]:=I2.qT (H':=H') gD hC;show#[m,hn.sameBut sb Rc,λh3 Pk=>#[_,H',I3.turned (t':=s3.toks) (λb o hb e=>Pk.extBut b o hb e) f0 f1 f3 f4 f5,q]]
end
end L2
namespace HT
open PySem PyProof.Rows
section
variable{prog:Program}{w:World}{A:Around}{E:Value->Shared->Prop}{s:Shared}
def Ud{t b:Addr}{ws:@&Value}{Q:Value->Shared->Prop}(ht:IsTup s.heap t (List.toArray []))(hb:IsTup s.heap b ws.toArray)(h1:Q (.ref b) s):wpAny (model prog w) A (binaryOp .Add (.ref t) (.ref b)) Q E s:=by
 let#[#[cls,dd,data,sl],ho,hc,n,hd]:=id ht;let#[#[yj,qO,data2,kY],jq,qE,n2,hd2]:=id hb;simp only at hc hd qE hd2;subst hc hd qE hd2;show concat_meets #[_,ho,rfl] #[_,jq,rfl] je mw iB ip (gU _ _)
   (tuple_addW0 t b (List.toArray []) ws.toArray n n2 dd qO sl kY rfl) #[ho,jq,h1]
def af3{t sl:Addr}{items:Array Value}{vl vu:Value}{lo hi:Option Int}{Q:Value->Shared->Prop}(ht:IsTup s.heap t items)(hs:s.heap.IsSliceOf sl vl vu .none)(pl:IsPart vl lo)(pu:IsPart vu hi)(hw:dW items.size 0 lo=0/\dW items.size items.size hi=items.size)(h:Q (.ref t) s):wpAny (model prog w) A (getItem (.ref t) (.ref sl)) Q E s:=by
 let#[os,lU,nF,oq]:=id hs;let xA:s.TypeIs (.ref sl) "slice":=#[os,lU,nF]
 unfold getItem
 try with_reducible show aZ ?_
 show aa (oI ht.typeIs ∅ ?_);show aa (bA ht.typeIs bf
  (br bf ht.typeIs tQ ?_ (zd _ _)))
 change wpAny _ _ (Builtin.Tuple.tupleItemsOf (.ref t) >>= _) _ _ s;show aa (vz ht ?_);show aa (de xA ?_);show aa (U5 hs pl pu ?_);let BW:((((dW items.size 0 lo:Nat):Int)==0&&(1:Int)==1&&(dW items.size items.size hi-dW items.size 0 lo)==items.size)=true):=by
  simp_all
 change wpAny _ _ (if(((dW items.size 0 lo:Nat):Int)==0&&(1:Int)==1&&(dW items.size items.size hi-dW items.size 0 lo)==items.size)=true then _ else _) _ _ s;rw[aw BW];show aa (aa (de ht.typeIs (ai ?_)))
 first
  |show wpAny_bind (wpAny_rule (wpAny_bind (wpAny_pure #[_,rfl,wpAny_pure h])))
  |show wpAny_bind (wpAny_rule (wpAny_pure #[_,rfl,wpAny_pure h]))
  |show wpAny_bind (wpAny_rule (wpAny_bind (wpAny_pure (wpAny_pure #[_,rfl,wpAny_pure h]))))
end
end HT
namespace L2
open PySem PySem.Spec PyProof.Rows
section
variable{X:Cx}
def Zv(K:PySem.W.Frag):R2:=λx y H Q=>∃a b xs ys,x=.ref a/\y=.ref b/\gF K H a xs/\gF K H b ys/\-xs+-ys<=sizeLine /\
 (xs=[]->Q (.ref b) H)/\(ys=[]->Q (.ref a) H)/\(∀p,H p=none->Q (.ref p) (upd H p (.tup (xs++ys))))
def UU:fj X (binaryOp .Add) (Zv X.K):=by
 intro pi s σ H x y v u Q I rx ry h;let#[a,b,xs,ys,rfl,rfl,ha,hb,hz,q0,q1,q2]:=h;by_cases hx:xs=[]
 .subst hx;cases rx;cases ry;let#[aS,r1,p1,_]:=I.tuple ha;let#[lS,r2,p2,_]:=I.tuple hb;cases r1;show HT.Ud p1 p2 #[.ref b,H,I,rfl,q0 rfl]
 .exact Sq pi s σ H _ _ v u Q I rx ry #[a,b,xs,ys,rfl,rfl,ha,hb,hx,hz,q1,λz=>q2]
abbrev Xu(K:PySem.W.Frag):V->Option Int->Option Int->Hp->VK->Prop:=λx lo hi H Q=>∃a xs,x=.ref a/\gF K H a xs /\
 (qa xs lo hi=xs->Q (.ref a) H)/\∀p,H p=none->Q (.ref p) (upd H p (.tup (qa xs lo hi)))
def Tq:yY X (Xu X.K):=by
 intro pi s σ H x v vl vu lo hi sl Q I rx hs pl pu h;let#[a,xs,rfl,hx,q0,q]:=h;by_cases hw:HT.dW (-xs) 0 lo=0/\HT.dW (-xs) (-xs) hi=-xs
 .cases rx;let#[aS,r,ht,hz]:=I.tuple hx;let hlen:aS.toArray.size=-xs:=by show r.length.symm
  show#["tuple",_,bf.lookup,ht.typeIs,?_];show HT.af3 ht hs pl pu (by rw[hlen];show hw) #[.ref a,H,I,rfl,q0 (by unfold qa;simp_all)]
 .exact ZQ pi s σ H _ v vl vu lo hi sl Q I rx hs pl pu #[a,xs,rfl,hx,hw,q]
def aM8:k9 X (.builtin "isinstance") (λxs H Q=>∃x t c b,xs=[x,.ty c]/\hJ X.K H x t/\PySem.W.kitOne X.K t (.type c)=!b/\Q (.bl b) H):=by
 intro pi s σ H xs us Q I r h;let#[x,t,c,b,rfl,hT,hk,q]:=h;let#[u,w',rfl,ru,fH]:=vals2 r;cases (show w'=Value.type c from fH);show a81 I ru hT hk λtk=>#[.bl b,H,I.tok tk,rfl,q]
def Wb(hc:X.calm=true):k9 X (.builtin "all") (λxs H Q=>∃(a:Addr) (bs:@&Bool),xs=[.ref a]/\fT X.K H a (bs.map V.bl)/\Q (.bl (bs.all id)) H):=by
 intro pi s σ H xs us Q I r h;let#[a,bs,rfl,ha,q]:=h;let#[u,rfl,ru]:=vals1 r;cases ru;let#[aS,rv,p,hz]:=I.list ha;show call_all_walk ?_;show dE p.isList ?_;let fN:a≠s⁻¹:=by
  let#[o,e,_]:=id p.isList;show aF (aq e)
 let hl:=-rv;rw[aj] at hl;show#[s⁻¹,_,_,_,_,_,λi=>bs.getD i true,rfl,mQ (A:=X.A.in1) (I.ok.hd hc) _ a fN aS.toArray,#[#[_,au _ rfl,rfl,rfl],?_],?_,λh' tk k=>?_]
 .let#[o,e,q1]:=id p.isList;show#[o,ag _ e,q1]
 .intro i v s' Q' E' hP hQ;let hv:aS[i]?=!v:=by simpa using hP
  let hi:i< -bs:=by rw[hl];show(ax.mp hv).1
  let#[u',wL,BI]:=rv.get (by rw[aD,ao hi];rfl);rw[hv] at wL;cases wL;cases (show v=Value.bool bs[i] from BI);show cC ?_;have:bs.getD i true=bs[i]:=by simp[List.getD,hi]
  dsimp only at hQ;rw[this] at hQ;show hQ
 .let e1:(List.range aS.toArray.size).all (λi=>bs.getD i true)=bs.all id:=by
   rw[aK,<- hl];rw[cz];simp only[List.all_eq_true,List.mem_range,id];constructor
   .intro hh x hx;let#[i,hi,rfl]:=eE.mp hx;have:=hh i hi;simpa[List.getD,hi] using this
   .intro hh i hi;have:=hh bs[i] (eK hi);simpa[List.getD,hi] using this
  rw[e1];show #[.bl (bs.all id),H,I.kept (t':=tk) λb o e=>k b o (by
   intro hb;have:b=s⁻¹:=by simpa using hb
   show absurd (aq e) (by rw [this];show bR _)) (ag _ e),rfl,q]
end
end L2
namespace HT
open PySem PyProof.Rows
section
variable{prog:Program}{w:World}{A:Around}{E:Value->Shared->Prop}{s:Shared}
def an4{sl:Addr}{n:Nat}{t:Tok}{Q:Int×Int×Nat->Shared->Prop}(hs:s.heap.IsSliceOf sl .none .none (.int (-1) t))(h:Q ((n:Int)-1,-1,n) s) :
  wpAny (model prog w) A (Builtin.Slice.sliceApplied (.ref sl) (pure (n:Int))) Q E s:=by
 let#[os,lU,nF,oq]:=id hs;show aa (aa (bo lU oq (x:=.none) rfl (aa (bo lU oq (x:=.none) rfl (aa (bo lU oq (x:=.int (-1) t) rfl (ai ?_)))))));show aa (slicePart_int ?_);show aa (qi (aa (qi (aa (ai ?_)))));change wpAny _ _ (pure ((n:Int)-1,(-1:Int),Builtin.Slice.slicePlaces ((n:Int)-1) (-1) (-1))) _ _ s;let e2:Builtin.Slice.slicePlaces ((n:Int)-1) (-1) (-1)=n:=by
  unfold Builtin.Slice.slicePlaces
  grind
 rw[e2];show ai h
def Nv(xs:Array Value):((List.range xs.size).filterMap λ(m:Nat)=>xs[(((xs.size:Nat):Int)-1+(m:Int)*(-1)).toNat]?).toArray=xs.toList.reverse.toArray:=by
 congr 1
 apply List.ext_getElem?;intro i;let e:(List.range xs.size).filterMap (λ(m:Nat)=>xs[(((xs.size:Nat):Int)-1+(m:Int)*(-1)).toNat]?)=(List.range xs.size).map λm=>xs.toList.reverse.getD m .none:=by
  have:∀(l:@&Nat),(∀m∈l,m<xs.size)->l.filterMap (λ(m:Nat)=>xs[(((xs.size:Nat):Int)-1+(m:Int)*(-1)).toNat]?)=l.map λm=>xs.toList.reverse.getD m .none:=by
   intro l hl
   induction l with
   |nil=>rfl
   |cons a r ih =>
    let ha:=hl a #[_];let e1:(((xs.size:Nat):Int)-1+(a:Int)*(-1)).toNat=xs.size-1-a:=by omega
    let e2:xs[xs.size-1-a]?=some xs[xs.size-1-a]:=by simp
    let e3:xs.toList.reverse.getD a .none=xs[xs.size-1-a]:=by
     let hl:a< -xs.toList.reverse:=by simpa using ha
     rw[oQ,ao hl];simp[List.getElem_reverse]
    rw[cP,e1,e2,bT,e3,ih λm hm=>hl m (by simp[hm])]
  show this _ λm hm=>by simpa using hm
 rw[e];by_cases hi:i<xs.size
 .rw[aD,jA hi];simp only[Option.map_some,List.getD_eq_getElem?_getD];rw[ao (_/hi)]
  rfl
 simp_all
def al4{t sl:Addr}{items:Array Value}{tk:Tok}{Q:Value->Shared->Prop}(ht:IsTup s.heap t items)(hs:s.heap.IsSliceOf sl .none .none (.int (-1) tk))(h:Q (.ref s⁻¹) { s with heap:=s.heap.push { cls:=.type "tuple",data:=.seq items.toList.reverse.toArray } })(gD:items.size<=sizeLine):wpAny (model prog w) A (getItem (.ref t) (.ref sl)) Q E s:=by
 let gY:sizeOk (.seq items.toList.reverse.toArray):=by
  change items.toList.reverse.toArray.size<=sizeLine;rw[aK,List.length_reverse,bD];show gD
 let#[os,lU,nF,oq]:=id hs;let xA:s.TypeIs (.ref sl) "slice":=#[os,lU,nF]
 unfold getItem
 try with_reducible show aZ ?_
 show aa (oI ht.typeIs ∅ ?_);show aa (bA (name:=Str.ofString "__getitem__") ht.typeIs bf
  (br bf ht.typeIs tQ ?_ (zd _ _)))
 change wpAny _ _ (Builtin.Tuple.tupleItemsOf (.ref t) >>= _) _ _ s;show aa (vz ht ?_);show aa (de xA ?_);show aa (an4 hs ?_);let kO:¬((((items.size:Nat):Int)-1==0&&(-1:Int)==1&&items.size==items.size)=true):=by
  simp
 change wpAny _ _ (if(((items.size:Nat):Int)-1==0&&(-1:Int)==1&&items.size==items.size)=true then _ else _) _ _ s;rw[az kO,Nv]
 first
  |show wpAny_bind (m:=Builtin.Tuple.tupleExact _) (wpAny_newObj_type (wpAny_pure #[_,rfl,wpAny_pure h]) gY)
  |show wpAny_bind (m:=Builtin.Tuple.tupleExact _) (wpAny_newObj_type (wpAny_bind (wpAny_pure (wpAny_pure #[_,rfl,wpAny_pure h]))) gY)
  |show wpAny_bind (wpAny_bind (m:=Builtin.Tuple.tupleExact _) (wpAny_newObj_type (wpAny_pure (wpAny_pure #[_,rfl,wpAny_pure h])) gY))
  |show wpAny_bind (wpAny_bind (m:=Builtin.Tuple.tupleExact _) (wpAny_newObj_type (wpAny_pure #[_,rfl,wpAny_pure h]) gY))
end
end HT
namespace L2
open PySem PySem.Spec PyProof.Rows
variable{X:Cx}{e:Expr}{pos:Pos}{H H':Hp}{σ:St}{s s':Shared}{B:Heap}{ea C L:Addr}{a0:Value}{l:@&Env}{Ξ:XK}{A:Around}{M:Model}
section
variable{st:Expr}{te ts:TE}{p2:Pos}
def aA2(aS:@&Value):slicePick aS.toArray none none (!(-1))=aS.reverse.toArray:=by
 let h:=HT.Nv aS.toArray;unfold slicePick;let e1:(sliceBounds none none (!(-1)) aS.toArray.size).1=((aS.toArray.size:Nat):Int)-1:=rfl;let e2:(sliceBounds none none (!(-1)) aS.toArray.size).2.1=-1:=rfl;let e3:(sliceBounds none none (!(-1)) aS.toArray.size).2.2=-1:=rfl;rw[e1,e2,e3];let e4:sliceRange (((aS.toArray.size:Nat):Int)-1) (-1) (-1)=(List.range aS.toArray.size).map λ(m:Nat)=>(((aS.toArray.size:Nat):Int)-1+(m:Int)*(-1)).toNat:=by
  unfold sliceRange;let h2:(if((aS.toArray.size:Nat):Int)-1 > -1 then(((aS.toArray.size:Nat):Int)-1-(-1)-(-1)-1) / (-(-1)) else 0).toNat=aS.toArray.size:=by
   grind
  simp_all
 rw[e4,OS];rw[show aS.reverse=aS.toArray.toList.reverse from rfl,<- h]
 rfl
def Zg(he:PE X e te)(hs:PE X st ts):PE X (.Subscript e (.Slice none none (!st) p2) pos) (λσ H Q=>te σ H λx H1=>ts σ H1 λy H2=>y=.int (-1)/\∃a xs,x=.ref a/\((gF X.K H2 a xs/\∀p,H2 p=none->Q (.ref p) (upd H2 p (.tup xs.reverse)))\/(fT X.K H2 a xs/\∀p,H2 p=none->Q (.ref p) (upd H2 p (.lst xs.reverse))))):=by
 intro pi s σ H Q I h;show Subscript_ (cB (he pi s σ H _ I h) λv s1 bh=>?_);let#[x,H1,I1,r1,q1]:=bh;show wpAny_Slice ?_;show ai ?_;show ai ?_;show cB (hs pi s1 σ H1 _ I1 q1) λu s2 bh=>?_;let#[y,H2,I2,r2,q2]:=bh;let#[rfl,a,xs,rfl,q]:=q2;let#[t,rfl]:=r2;cases r1;let I4:Inv X pi σ H2 { s2 with heap:=s2.heap.push { cls:=.type "slice",data:=.fields (List.toArray [.none,.none,.int (-1) t]) } }:=I2.kept (t':=s2.toks) λb ob q=>ag _ q;rcases q with⟨hx,q⟩|⟨hx,q⟩
 .let#[aS,r,ht,hz]:=I4.tuple hx;let hlen:aS.toArray.size=-xs:=by show r.length.symm
  show tail_any (ops:=[.ref a,.ref s2⁻¹]) ht.typeIs bf.lookup (HT.al4 ht (mT ..) ?_ (by rw[hlen];show hz)) (by rfl);show#[.ref _,_,I4.laid (t':=s2.toks) (o:=.tup xs.reverse) (λb ob q=>ag _ q) (ak _) ?_,rfl,q _ (I4.bB.fresh (ak _))];show#[by simp_all,aS.reverse,r.reverse,F8.new _ _]
 .let#[aS,r,ht,hz]:=I4.list hx;let hlen:aS.toArray.size=-xs:=by show r.length.symm
  show tail_any (ops:=[.ref a,.ref s2⁻¹]) ht.isList.typeIs oJ.lookup (OM ht.isList (mT ..) .none .none (.int (-1) t) #[_] ?_ (by rw[hlen];show hz)) (by rfl);rw[aA2];show#[.ref _,_,I4.laid (t':=s2.toks) (o:=.lst xs.reverse) (λb ob q=>ag _ q) (ak _) ?_,rfl,q _ (I4.bB.fresh (ak _))];show#[by simp_all,_,0,r.reverse,au _ rfl]
end
def j7.get{P:Program}{w:World}{h:Heap}{a:Addr}:∀{o:HO},j7 P w H h a o->∃ob,h.get? a=!ob
 |.lst _,x=>by let#[_,_,_,_,e]:=x;show#[_,e]
 |.tup _,x=>by let#[_,_,_,o,e,_]:=x;show#[o,e]
 |.dK _,x=>by let#[_,_,_,_,o,es,ep,e,_]:=x;show#[o,e]
 |.dT _,x=>by let#[_,_,_,_,o,es,ep,e,_]:=x;show#[o,e]
 |.set _ _,x=>by let#[o,es,ep,t,e,_]:=x;show#[o,e]
 |.ins _ _ _,x=>by let#[_,_,_,e,_]:=x;show#[_,e]
 |.own _,x=>x
 |.xd _,x=>by let#[mA,n,_]:=x;let#[od,e,_]:=KG n;show#[od,e]
 |.mB _ _,x=>by let#[_,_,_,e]:=x;show#[_,e]
 |.jJ _ _,x=>#[_,x.1]
 |.qk _,x=>#[_,x]
 |.met _ _,x=>#[_,x]
 |.ext _,x=>x.2.1
abbrev Fu(H':Hp)(h0:Heap)(l:@&Env)(e:Value)(C:Addr)(h:Heap):Prop :=
 ∃(ea:Addr) (a0:Value) (B:Heap),e=.ref ea/\Heap.FlyingW B l ea (.ref C) a0 h/\∀b o,h.get? b=!o->b∉fO l->(H' b≠none\/∃o0,h0.get? b=!o0)->B.get? b=!o
abbrev gT(P:Program)(w:World):nY:=λouter H s E e s'=>∃(C:Addr) (H':Hp),s'.os=s.os/\AllBare s'.gens/\Un (fO outer) [] H H' s.heap s'.heap/\fU P w H' s'.heap/\Fu H' s.heap outer e C s'.heap/\E (.ref C) none H'
section
variable{pi:@&(Addr×Obj)}{E:XK}{e:Value}
def Inv.flew(I:Inv X pi σ H s)(h:gT X.prog X.w X.stack H s E e s'):∃C H',Inv X pi σ H' s'/\Fu H' s.heap X.stack e C s'.heap/\E (.ref C) none H':=by
 let#[C,H',ho,hb,hu,bB,fl,hE]:=h;show#[C,H',I.FA ho hu bB hb #[_],fl,hE]
def AI(I:Inv X pi σ H s){b:Addr}(hb:b∈fO X.stack):∃o,s.heap.get? b=!o/\∀vs,o.data≠.fields vs:=(I.stack.mem hb).2
def FE{ox:Heap}(I:Inv X pi σ H s)(eZ:X.stack=X.env::X.outer)(hex:X.ex=[])(hf:X.env.frame=!X.env.locals)(pj:∀b o,s.heap.get? b=!o->b∉fO X.stack->(H b≠none\/∃o0,X.dA.heap.get? b=!o0)->B.get? b=!o)(sl:∀b∈fO X.stack,∀o,s.heap.get? b=!o->∃sl,ox.get? b=some { o with slots:=sl })(fw:Heap.FlyingW B X.outer ea (.ref C) a0 ox)(hE:E (.ref C) none H):gT X.prog X.w X.outer X.jt X.dA E (.ref ea) { s with heap:=ox }:=by
 let lT:∀b,b∈fO X.outer->b∈fO X.stack:=λb hb=>by rw[eZ];unfold fO at hb ⊢;rw[cP,hf];show bL _ hb
 let wq:∀b o,X.dA.heap.get? b=!o->b∉fO X.outer->b∉fO X.stack:=λb o e hb z=>by
  rcases aG.mp (I.Q1 b z) with z|z
  .exact absurd (aq e) (by rw[z];show oN.mpr I.ok.above)
  .exact hb z
 let oW:∀b u,H b=!u->b∉fO X.stack:=λb u e z=>by rw[I.AG b z] at e;cases e
 let kept:∀b o,s.heap.get? b=!o->b∉fO X.stack->(H b≠none\/∃o0,X.dA.heap.get? b=!o0)->ox.get? b=!o:=λb o e n q=>fw.1 b o (pj b o e n q);let wu:∀b,b∉X.ex:=λb=>by rw[hex];simp
 show#[C,H,I.os,I.bare,#[?_,?_,?_,?_,I.base.iE,I.base.iu,I.base.iG],?_,#[ea,a0,B,rfl,fw,?_],hE]
 .exact λb o e n1 n2 x=>kept b o (I.base.keep b o e n1 n2 (wu b)) (wq b o e n2) (.inr #[o,e])
 .intro b o e n1 n2 _;let#[Ph,e1]:=I.base.slot b o e n1 n2 (wu b);let#[kY,e2]:=sl b (lT b n2) _ e1;show#[kY,e2]
 .exact λb o e n1 x=>I.base.free b o e n1 (wu b)
 .intro b o e _;let#[o1,e1]:=I.base.there b o e (wu b);by_cases hb:b∈fO X.stack
  .let#[kY,e2]:=sl b hb _ e1;show#[_,e2]
  .exact#[o1,kept b o1 e1 hb (.inr #[o,e])]
 .intro a o e;show (I.bB a o e).G6 (λb u hb q=>by
   let jI:∃v,H b=!v:=by
    rcases hb with rfl|hb
    .exact#[o,e]
    .exact#[_,hb]
   let#[v,hv]:=jI;show kept b u q (oW b v hv) (.inl (by rw [hv];simp))) (λb hb=>hb) (λb xs hb=>hb)
 .intro b o e n q;rcases q with q|⟨o0,q⟩
  .let#[v,hv]:=oK.mp q;let#[o1,e1]:=(I.bB b v hv).get;let z:=pj b o1 e1 (oW b v hv) (.inl (by rw[hv];simp));let z':=fw.1 b o1 z;have:o=o1:=by
    let e':ox.get? b=!o:=e;rw[z'] at e';show(aJ e').symm
   subst this;show z
  .let#[o1,e1]:=I.base.there b o0 q (wu b);let z:=pj b o1 e1 (wq b o0 q n) (.inr #[o0,q]);let z':=fw.1 b o1 z;have:o=o1:=by
    let e':ox.get? b=!o:=e;rw[z'] at e';show(aJ e').symm
   subst this;show z
def aH7{h0:Heap}{Ex:Value->Shared->Prop}(I:Inv X pi σ H s)(fl:Fu H h0 X.stack e C s.heap)(RD:∀b o,X.dA.heap.get? b=!o->∃o',h0.get? b=!o')(eZ:X.stack=X.env::X.outer)(hex:X.ex=[])(hf:X.env.frame=!X.env.locals)(hE:E (.ref C) none H):wpAny (model X.prog X.w) X.A (leaving X.env e) (λx oY=>gT X.prog X.w X.outer X.jt X.dA E e oY) Ex s:=by
 let#[ea,a0,B,rfl,fw,hB]:=fl;rw[eZ] at fw;show wpAny_leaves_onW (by rw[I.ok.frames,eZ]) hf fw λox sO us=>?_;show FE I eZ hex hf (λb o e n q=>hB b o e n (q.imp id (by rintro ⟨o0,q⟩;show RD b o0 q))) (λb hb o e=>?_) sO hE;let#[o1,e1,nf]:=AI I hb;rw[e] at e1;cases e1;show us b o e nf
def aW6{h':Heap}{vs:@&Value}{Ex:Value->Shared->Prop}(I:Inv X pi σ H s)(hx:Heap.MadeExcOf s.heap h' ea (.ref C) vs)(eZ:X.stack=X.env::X.outer)(hex:X.ex=[])(hf:X.env.frame=!X.env.locals)(hE:E (.ref C) none H):wpAny (model X.prog X.w) X.A (leaving X.env (.ref ea)) (λx oY=>gT X.prog X.w X.outer X.jt X.dA E (.ref ea) oY) Ex { s with heap:=h' }:=by
 let uy:=I.stack;rw[eZ] at uy;let QD:∀env∈(X.env::X.outer),∀b,env.frame=!b->b∈fO X.stack:=λenv he b hb=>by rw[eZ];show gi.mpr #[env,he,hb]
 show wpAny_leaves_madeW (by rw[I.ok.frames,eZ]) hf (λb o q=>OO _ q) (PySem.W.funFrames_hide uy QD) hx λox t fw x x us=>?_;show(show gT X.prog X.w X.outer X.jt X.dA E (.ref ea) { s with heap:=ox } from FE I eZ hex hf (λb o e n x=>GO _ e n) (λb hb o e=>?_) fw hE);let#[o1,e1,nf]:=AI I hb;rw[e] at e1;cases e1;show us b o (hx.keeps b o e) nf
def VR{h0 h h1:Heap}{Pg:Program}{w:World}(u:Un (fO l) [] H H' h0 h)(ok:fU Pg w H' h)(hB:∀b o,h.get? b=!o->b∉fO l->(H' b≠none\/∃o0,h0.get? b=!o0)->B.get? b=!o)(st:B.StaysIn h1)(us:h.UpToSlots h1)(ux:∀b∈fO l,H' b=none/\∃o,h.get? b=!o/\∀vs,o.data≠.fields vs):Un (fO l) [] H H' h0 h1/\fU Pg w H' h1/\∀b o,h1.get? b=!o->b∉fO l->(H' b≠none\/∃o0,h0.get? b=!o0)->B.get? b=!o:=by
 let oW:∀b u,H' b=!u->b∉fO l:=λb u e z=>by rw[(ux b z).1] at e;cases e
 let kept:∀b o,h.get? b=!o->b∉fO l->(H' b≠none\/∃o0,h0.get? b=!o0)->h1.get? b=!o:=λb o e n q=>st b o (hB b o e n q);let Ij:∀b∈fO l,∀o,h.get? b=!o->∃sl,h1.get? b=some { o with slots:=sl }:=λb hb o e=>by
  let#[_,o1,e1,nf]:=ux b hb;rw[e] at e1;cases e1;show us b o e nf
 show#[#[?_,?_,u.free,?_,u.iE,u.iu,u.iG],?_,?_]
 .exact λb o e n1 n2 n3=>kept b o (u.keep b o e n1 n2 n3) n2 (.inr #[o,e])
 .intro b o e n1 n2 n3;let#[Ph,e1]:=u.slot b o e n1 n2 n3;let#[kY,e2]:=Ij b n2 _ e1;show#[kY,e2]
 .intro b o e n;let#[o1,e1]:=u.there b o e n;by_cases hb:b∈fO l
  .let#[kY,e2]:=Ij b hb _ e1;show#[_,e2]
  .exact#[o1,kept b o1 e1 hb (.inr #[o,e])]
 .intro a o e;show (ok a o e).G6 (λb u hb q=>by
   let jI:∃v,H' b=!v:=by
    rcases hb with rfl|hb
    .exact#[o,e]
    .exact#[_,hb]
   let#[v,hv]:=jI;show kept b u q (oW b v hv) (.inl (by rw [hv];simp))) (λb hb=>hb) (λb xs hb=>hb)
 .intro b o e n q;have:∃o1,h.get? b=!o1:=by
   rcases q with q|⟨o0,q⟩
   .let#[v,hv]:=oK.mp q;show(ok b v hv).get
   .exact u.there b o0 q #[_]
  let#[o1,e1]:=this;let z:=hB b o1 e1 n q;rw[st b o1 z] at e;cases e;show z
structure Lies(X:Cx)(H H':Hp)(s:Shared)(B:Heap)(ea C:Addr)(a0:Value)(s':Shared):Prop where
 os:s'.os=s.os
 bare:AllBare s'.gens
 un:Un (fO X.stack) [] H H' s.heap s'.heap
 bB:fU X.prog X.w H' s'.heap
 pj:∀b o,s'.heap.get? b=!o->b∉fO X.stack->(H' b≠none\/∃o0,s.heap.get? b=!o0)->B.get? b=!o
def Lies.inv(I:Inv X pi σ H s)(l:Lies X H H' s B ea C a0 s'):Inv X pi σ H' s':=I.FA l.os l.un l.bB l.bare #[_]
def leave_held{Ex:Value->Shared->Prop}(I:Inv X pi σ H s)(l:Lies X H H' s B ea C a0 s')(hh:Heap.HeldW B X.stack ea (.ref C) a0 X.env.locals s'.heap)(eZ:X.stack=X.env::X.outer)(hex:X.ex=[])(hf:X.env.frame=!X.env.locals)(hE:E (.ref C) none H'):wpAny (model X.prog X.w) X.A (leaving X.env (.ref ea)) (λx oY=>gT X.prog X.w X.outer X.jt X.dA E (.ref ea) oY) Ex s':=by
 let J:=l.inv I;let Cw:=hh;rw[eZ] at Cw;show aa (wpAny_noteFrame_againW hf Cw.2.2.2 ?_);show wpAny_landsW Cw λox fl us=>?_;let#[k1,k2,#[_,_,k3],k4]:=fl;show FE J eZ hex hf (λb o e n q=>l.pj b o e n (q.imp id (by rintro ⟨o0,q⟩;show I.base.there b o0 q (by rw[hex];simp)))) (λb hb o e=>?_) #[k1,k2,k3,k4] hE;let#[o1,e1,nf]:=AI J hb;rw[e] at e1;cases e1;show us b o e nf
def Au(X:Cx)(Ξ:XK):Prop:=∀(pi:@&(Addr×Obj)) (σ:St) (H:Hp) (s:Shared) (h':Heap) (ea C:Addr) (vs:@&Value),Inv X pi σ H s->Heap.MadeExcOf s.heap h' ea (.ref C) vs->Ξ (.ref C) none H->X.xe (.ref ea) { s with heap:=h' }
def ve(X:Cx)(Ξ:XK):Prop:=∀(pi:@&(Addr×Obj)) (σ:St) (H H':Hp) (s s':Shared) (B:Heap) (ea C:Addr) (a0:Value),Inv X pi σ H s->Lies X H H' s B ea C a0 s'->Heap.HeldW B X.stack ea (.ref C) a0 X.env.locals s'.heap->Ξ (.ref C) none H'->X.xe (.ref ea) s'
def bE2(C:Addr)(Ξ:XK)(t:TA):TS:=λ_ σ H=>t σ H λvs H1=>-vs<=sizeLine/\Ξ (.ref C) none H1
def Vi{x:Str}{B newId gL:String}{bm:@&Value}{np eG:Pos}{jL:Expr}{rest:@&Expr}{t:TA}(hc:X.calm=true)(O:OwnCls x C bm newId X.mg X.base)(FB:ExcBaseFacts B newId gL bm)(hg:Gl X x)(ha:PA X (jL::rest) t)(hr:Au X Ξ)(he:starEach (jL::rest) X.env=(false,eval jL X.env)::starEach rest X.env)(eU:(backTo eG (starEach rest X.env)).any (·.1)=false)(hd:(x==("__debug__":Str))=false) :
  PS X (.Raise (!.Call (.Name x np) (jL::rest) [] eG) none pos) (bE2 C Ξ t):=by
 intro pi s σ H D I h;let#[tl,N,nm,q,bs,hdct,sn,sub,ab,col,dd,k0,k1,k2,k3,k5,mN,hC,hN,zJ,T]:=O.obj;show wpAny_Raise_call_subT (nm:=nm) (q:=q) (N:=N) (bs:=bs) (hdct:=hdct) (sn:=sn) (sub:=sub) (ab:=ab) (col:=col) (dd:=dd) (k0:=k0) (k1:=k1) (k2:=k2) (k3:=k3) (k5:=k5)
  FB (T.hasType FB.hasBase) (I.ok.hd hc) (by rw[he];show(false||(backTo eG (starEach rest X.env)).any (·.1))=false;rw[eU];rfl) zJ (O6 I hg O.bound #[rfl,?_] hd)
 let h':=ha eG pi s σ H _ I h;rw[he] at h' ⊢;show gk (bV h' (λvs gx kL=>?_) λz z y=>y);let#[ws,H1,I1,rv,hz,hE]:=kL;show#[rfl,by rw[<- -rv];show hz,I1.bk _ _ hC,hN.keeps I1.bk,T.keeps I1.bk,λh2 ea hm=>hr pi σ H1 gx h2 ea C vs I1 hm hE]
def V8(X:Cx)(pi:@&(Addr×Obj))(xe:Value->Shared->Prop)(o:Option St:=none):Cx:={ X with pn:=X.pn++pi,xe:=xe,sg:=o }
def E8(X:Cx)(ea:Addr):Cx:={ X with A:=X.A.mark (!.ref ea),calm:=false,xe:=λx x=>False,sg:=none }
def Inv.XO{xe:Value->Shared->Prop}{o:Option St}(ho:∀τ,o=!τ->σ=τ)(I:Inv X pi σ H s):Inv (V8 X pi xe o) [] σ H s :=
 #[#[I.ok.mod,I.ok.kind,I.ok.glob,I.ok.blt,I.ok.above,I.ok.inj,I.ok.has,I.ok.qP,I.ok.hd,I.ok.frames,I.ok.rE,I.ok.yc,I.ok.bs,I.ok.nV,I.ok.ka,I.ok.kT,I.ok.J9,I.ok.oz],I.os,I.bare,I.base,I.loc,I.cell,I.free,I.eW,
  λp hp=>I.pin p (by simpa [V8] using hp),I.bB,I.len,ho]
def Inv.tK{xe:Value->Shared->Prop}{o:Option St}{fM:@&(Addr×Obj)}(hs:X.sg=none)(I:Inv (V8 X pi xe o) fM σ H s):Inv X pi σ H s :=
 #[#[I.ok.mod,I.ok.kind,I.ok.glob,I.ok.blt,I.ok.above,I.ok.inj,I.ok.has,I.ok.qP,I.ok.hd,I.ok.frames,I.ok.rE,I.ok.yc,I.ok.bs,I.ok.nV,I.ok.ka,I.ok.kT,I.ok.J9,I.ok.oz],I.os,I.bare,I.base,I.loc,I.cell,I.free,I.eW,
  λp hp=>I.pin p (fE _ hp),I.bB,I.len,λx z=>by simp_all]
def Inv.Ot(I:Inv X pi σ H s):Inv (E8 X ea) pi σ H s :=
 #[#[I.ok.mod,I.ok.kind,I.ok.glob,I.ok.blt,I.ok.above,I.ok.inj,I.ok.has,I.ok.qP,λz=>(by cases z),I.ok.frames,I.ok.rE,I.ok.yc,I.ok.bs,I.ok.nV,I.ok.ka,I.ok.kT,I.ok.J9,I.ok.oz],I.os,I.bare,I.base,I.loc,I.cell,I.free,I.eW,I.pin,I.bB,I.len,λcZ z=>absurd (show(none:Option St)=some cZ from z) #[_]]
def Inv.vj(hs:X.sg=none)(J:X.Ok)(I:Inv (E8 X ea) pi σ H s):Inv X pi σ H s :=
 #[J,I.os,I.bare,I.base,I.loc,I.cell,I.free,I.eW,I.pin,I.bB,I.len,λx z=>by simp_all]
def SP.tK{xe:Value->Shared->Prop}{o:Option St}{D:Ends}{f:Flow}(hs:X.sg=none)(h:SP (V8 X pi xe o) [] D f s):SP X pi D f s:=by
 cases f with
 |next=>let#[a,b,I,q]:=h;show#[a,b,I.tK hs,q]
 |brk=>let#[a,b,I,q]:=h;show#[a,b,I.tK hs,q]
 |cont=>let#[a,b,I,q]:=h;show#[a,b,I.tK hs,q]
 |ret u=>let#[v,a,b,I,r,q]:=h;show#[v,a,b,I.tK hs,r,q]
def SP.vj{ea:Addr}{D:Ends}{f:Flow}(hs:X.sg=none)(J:X.Ok)(h:SP (E8 X ea) pi D f s):SP X pi D f s:=by
 cases f with
 |next=>let#[a,b,I,q]:=h;show#[a,b,I.vj hs J,q]
 |brk=>let#[a,b,I,q]:=h;show#[a,b,I.vj hs J,q]
 |cont=>let#[a,b,I,q]:=h;show#[a,b,I.vj hs J,q]
 |ret u=>let#[v,a,b,I,r,q]:=h;show#[v,a,b,I.vj hs J,r,q]
abbrev tG(X:Cx)(D:Ends)(cZ:St)(C:Addr)(H:Hp):@&ExceptHandler->Prop
 |.ExceptHandler (!.Name x _) none (nU::qm) _::rest=>Gl X x/\(x==("__debug__":Str))=false/\∃C' b,X.mg x=!.ref C'/\PySem.W.exmOne X.K (.ref C) (.ref C')=!b /\
   (if b=true then ∃t:TS,(∀ea,jv (E8 X ea) (nU::qm) t)/\t D cZ H else tG X D cZ C H rest)
 |[]=>∃Ξ:XK,ve X Ξ/\Ξ (.ref C) none H
 |_=>False
end
section
variable{pi:@&(Addr×Obj)}{e:Value}{D:Ends}
abbrev Bs(X:Cx)(pi:@&(Addr×Obj))(D:Ends)(hs:@&ExceptHandler):Value->Shared->Prop:=λe bN =>
 wpAny (model X.prog X.w) X.A (noteFrame e X.env) (λx gx=>wpAny (model X.prog X.w) X.A (setFlight e none) (λx gW=>wpAny (model X.prog X.w) X.A (handleBy e X.env hs) (SP X pi D) X.xe gW) X.xe gx) X.xe bN
def Lies.step{h1:Heap}(I:Inv X pi σ H s)(l:Lies X H H' s B ea C a0 s')(st:B.StaysIn h1)(us:s'.heap.UpToSlots h1):Lies X H H' s B ea C a0 { s' with heap:=h1 }:=by
 let J:=l.inv I;let#[u,ok,ib]:=VR l.un l.bB l.pj st us λb hb=>#[J.AG b hb,AI J hb]
 show#[l.os,l.bare,u,ok,ib]
def aM1{cls:Value}{E:Value->Shared->Prop}{Q:Unit->Shared->Prop}(fw:Heap.FlyingW B l ea cls a0 s.heap)(h:∀h',Heap.HeldW B l ea cls a0 L h'->(∀b o,s.heap.get? b=!o->(∀vs,o.data≠.fields vs)->h'.get? b=!o)->Q Unit.unit { s with heap:=h' }):wpAny M A (setFlight (.ref ea) (!L)) Q E s:=by
 let#[f1,f2,f3,oe,vs,T,oT,ts,he,jH,hd,h1,sC,pG,hT,ot,h3]:=fw;let wN:=(gu.mp h3).1;let other:∀b,b≠T->(s.heap.update T (Obj.mapFields (·.setIfInBounds 3 ((!L).elim Value.none λf=>rawInt f)))).get? b=s.heap.get? b :=
  λb hb=>bC _ _ (aU hb)
 let kc:∀b o,s.heap.get? b=!o->(∀vs,o.data≠.fields vs)->b≠T:=λb o hb wY q=>by
  rw[q,hT] at hb;injection hb with hb;subst hb;show wY ts ot
 show aa (bo he hd h1 ?_);show cD hT ot wN (h _ #[λb o QR=>(other b λq=>by simp_all).trans (f1 b o QR),f2,
  f3.of_keeps λb o hb wY=>#[o,(other b (kc b o hb wY)).trans hb,rfl],?_] λb o hb wY=>(other b (kc b o hb wY)).trans hb)
 show#[oe,vs,T,_,_,(other ea (aU pG)).trans he,jH,hd,h1,sC,pG,aQ _ hT (cc (bc ot _)),bc ot _,by simp[wN]]
set_option tactic.hygienic true in
def Ky{B:Heap}{ea C:Addr}{a0:Value}{cZ:St}(oj:X.sg=none)(hf:X.env.frame=!X.env.locals)(zL:-cZ=σ.length)(zE:∀(i:Nat) v,cZ[i]?=!!v->σ[i]?=!!v):∀(hs:@&ExceptHandler) (s':Shared),Inv X pi σ H s->Lies X H H' s B ea C a0 s'->Heap.FlyingW B X.stack ea (.ref C) a0 s'.heap->tG X D cZ C H' hs ->
  wpAny (model X.prog X.w) X.A (handleBy (.ref ea) X.env hs) (SP X pi D) X.xe s'
 |[],s',I,l,fw,t=>by
  let#[Ξ,hh,hE]:=t;show wpAny_handleBy_nil ?_;let#[f1,f2,f3,oe,vs,T,oT,ts,he,jH,hd,h1,_]:=id fw;show aa (bo he hd h1 ?_);rw[az #[_],hf];show aa (aM1 fw λh2 held k=>tO ?_);let l2:=l.step I held.1 (λb o hb hn=>#[o.slots,k b o hb hn]);show hh pi σ H H' s _ B ea C a0 I l2 held hE
 |.ExceptHandler none _ _ _::_,_,_,_,_,t=>t.elim
 |.ExceptHandler (!e) nm bd pos::rest,s',I,l,fw,t=>by
  cases e
  case Name x np =>
   cases nm with
   |some y=>show t.elim
   |none =>
    cases bd with
    |nil=>show t.elim
    |cons nU qm =>
     let#[hg,hZ,C',b,hm,hx,q]:=t;let J:=l.inv I;let JM:Inv (E8 X ea) pi σ H' s':=J.Ot;let LT:PySem.W.Looks (model X.prog X.w) s'.heap (typeOf (.ref ea)) (.ref C):=λA Q E s2 k q=>by
      let#[ob,ho,hc]:=fw.there;show wpAny_typeOf_ref (k _ _ ho) (by rw[hc];show q)
     show wpAny_handleBy_cons (codeAny_handlers_test ?_) (by intro z;cases z);show O6 JM hg hm ?_ hZ;show(PySem.W.exm_one J.fZ LT hx).here ?_;cases b with
     |false =>
      show Ky oj hf zL zE rest s' I l fw q
     |true =>
      let#[t,ht,hq]:=q;show codeAny_handlers_suite ?_;show wpAny_setFlight_noneW fw.1 fw.2.2.1 fw.2.2.2.at λh2 k1 k2 k3 k4=>?_;let l2:=l.step I k1 (λb o hb hn=>#[o.slots,k4 b o hb hn]);let J2:=l2.inv I;let J3:Inv (E8 X ea) pi cZ H' { s' with heap:=h2 }:=(Inv.weak oj J2 zL zE).Ot;show bV (ht ea pi _ _ H' D J3 hq) (λf s2 hf=>hf.vj oj I.ok) λu u z=>z.elim
  all_goals show t.elim
def UW{hs:@&ExceptHandler}{o:Option St}{cZ:St}(oj:X.sg=none)(eZ:X.stack=X.env::X.outer)(hf:X.env.frame=!X.env.locals)(BV:∀σ:St,σ.length=-X.N->(∀τ,o=!τ->σ=τ)->-cZ=σ.length/\∀(i:Nat) v,cZ[i]?=!!v->σ[i]?=!!v)(hT:∀C H',Ξ (.ref C) none H'->tG X D cZ C H' hs) :
  Passes (gT X.prog X.w) (V8 X pi (Bs X pi D hs) o) Ξ:=by
 intro fM σ H s e s' I0 h;let I:=I0.tK oj;let#[zL,zE]:=BV σ I.len I0.sg;let#[C,H',ho,hb,hu,bB,#[ea,a0,B,rfl,fw,hB],hE]:=h;let l:Lies X H H' s B ea C a0 s':=#[ho,hb,hu,bB,hB]
 let fw:Heap.FlyingW B X.stack ea (.ref C) a0 s'.heap:=fw;let sO:=fw;rw[eZ] at sO;show wpAny_looks_onW (by rw[I.ok.frames,eZ]) hf sO λh1 held us=>?_;let l1:=l.step I held.1 us;show wpAny_landsW held λh2 fl OX=>?_;let l2:=l1.step I fl.1 OX;rw[<- eZ] at fl;show Ky oj hf zL zE hs _ I l2 fl (hT C H' hE)
def Zr{hs:@&ExceptHandler}{h₀:ExceptHandler}{body:@&Stmt}{t:Ends->St->TS}{Ξ:Ends->St->XK}(f:St->Option St)(z:St->St)(hz:∀σ τ,f σ=!τ->σ=τ)(oj:X.sg=none)(hb:∀pi D σ,(∀C H',Ξ D σ (.ref C) none H'->tG X D (z σ) C H' (h₀::hs))->jv (V8 X pi (Bs X pi D (h₀::hs)) (f σ)) body (t D σ)) :
  PS X (.Try body (h₀::hs) [] [] pos) (λD σ H=>(∀C H',Ξ D σ (.ref C) none H'->tG X D (z σ) C H' (h₀::hs))/\t D σ D σ H):=by
 intro pi s σ H D I ⟨hT,h⟩;show wpAny_Try_except (bV (hb pi D σ hT [] s σ H D (I.XO (hz σ)) h) (λf s1 q=>?_) λe s1 q=>q);let q:=q.tK oj;cases f with
 |next =>
  let#[cu,H',I',q]:=q;show cB (vw #[cu,H',I',q]) λx x z=>z
 |brk=>show q
 |cont=>show q
 |ret u=>show q
end
section
variable{E:Value->Shared->Prop}{env:Env}
def Um{scope:Scope}{ni first:Sem Value}{g:Comprehension}{gs:@&Comprehension}{cl:@&(Str×Addr)}{Q:Value->Shared->Prop}{RX:Value->Addr->Result->Shared->Prop}(jb:clausesOf e=g::gs)(hs:∀x,foldedSetIterable g.iter env x=pure x)(xq:closureFor scope env=pure cl)(ly:scope.kind=.function)(sA:∀x∈scope.names,x.2=.local->scope.names.lookup x.1=!.local)(ok:∀acc C f s',RX acc C (.ok f) s'->∃m,s'.heap.Ns C m/\∀h',Heap.SameBut C s'.heap h'->Q acc { s' with heap:=h' })(er:∀acc C x s',RX acc C (.error x) s'->∃m,s'.heap.Ns C m/\∀h' m',h'.Ns C m'->Heap.SameBut C s'.heap h'->∀cenv:Env,cenv.frame=env.frame->wpAny M A (PySem.passOn "comprehension.variables-let-go" x cenv:Sem Value) (λw w=>False) E { s' with heap:=h' })(h:wpAny M A first (λx s1=>wpAny M A (pyIter x) (λit s2=>wpAny M A ni (λacc s3=>wpAny M A (newFunctionEnv scope env.globals cl [] env.qual none .none (!env)) (λcenv s4 =>
   cenv.frame=env.frame/\codeAny M A (.compStart e 0 it acc { cenv with scope:=relabel scope env }) (RX acc cenv.locals) s4) E s3) E s2) E s1) E s):wpAny M A (comprehension e scope env pos ni false first none) Q E s:=by
 let keep:∀{α:Type} {m:Sem α} {P P':α->Shared->Prop} {t:Shared},wpAny M A m P E t->(∀a t',P a t'->P' a t')->wpAny M A m P' E t:=λa b=>bV a b λw w z=>z;unfold comprehension;rw[xq,jb];show aa (keep h λx s1 h1=>aa (iS (aa (cN (hs x) (aa (aZ (keep h1 λit s2 h2=>wpAny_standIf (aa (keep h2 λacc s3 h3=>aa (ai (aa (keep h3 λcenv s4 h4=>?_))))))))))));let#[ux,h4]:=h4;dsimp only;let hv:∀x∈(scope.names.filter λx=>(x.2==.local||x.2==.cell)&&x.1 != (".0":Str)).reverse,x.2=.local->Env.kindOf { cenv with scope:=relabel scope env } x.1=!.local :=
  λx hx hl=>lookup_relabel_local (sA x (cv.mp (List.mem_reverse.mp hx)).1 hl)
 show aZ (aa (fX (aZ (wpAny_run (fC h4 λr s5 h5=>?_)))));cases r with
 |ok f =>
  let#[m,n5,q]:=ok _ _ _ _ h5;show aa (aZ (wpAny_comp_letGo (cenv:={ cenv with scope:=relabel scope env }) ly _ s5 m hv n5 λh6 m6 w k6=>ai (q h6 k6)))
 |error x =>
  let#[m,n5,q]:=er _ _ _ _ h5;show aa (aZ (wpAny_comp_letGo (cenv:={ cenv with scope:=relabel scope env }) ly _ s5 m hv n5 λh6 m6 n6 k6=>bV (q h6 m6 n6 k6 _ ux) (λw w f=>f.elim) λw w y=>y))
end
def LJ{B B' h h2:Heap}{C:Addr}(hB:∀b,b≠C->B'.get? b=B.get? b)(hh:∀b,b≠C->h2.get? b=h.get? b){oC:Obj}(hC:B.get? C=!oC):∀{l:@&Env},h.FunFrames B l->h2.FunFrames B' l
 |[],x=>x
 |env::r,⟨x1,⟨L,o,x2,x3,x4,x5⟩,x6⟩=>by
  let hL:L≠C:=λz=>by rw[z,hC] at x3;cases x3
  show#[x1,#[L,o,x2,(hB L hL).trans x3,(hh L hL).trans x4,x5],LJ hB hh hC x6]
section
variable{pi:@&(Addr×Obj)}
def aM2{cls:Value}{E:Value->Shared->Prop}{Q:Unit->Shared->Prop}(fw:Heap.HeldW B l ea cls a0 L s.heap)(h:∀h',Heap.HeldW B l ea cls a0 L h'->(∀b o,s.heap.get? b=!o->(∀vs,o.data≠.fields vs)->h'.get? b=!o)->Q Unit.unit { s with heap:=h' }):wpAny M A (setFlight (.ref ea) (!L)) Q E s:=by
 let#[f1,f2,f3,oe,vs,T,oT,ts,he,jH,hd,h1,sC,pG,hT,ot,h3]:=fw;let Ig:3<ts.size:=(gu.mp h3).1;let og:∀b,b≠T->(s.heap.update T (Obj.mapFields (·.setIfInBounds 3 ((!L).elim Value.none λf=>rawInt f)))).get? b=s.heap.get? b:=λb hb=>bC _ _ (aU hb);let Hg:∀b o,s.heap.get? b=!o->(∀vs,o.data≠.fields vs)->b≠T:=λb o hb hn q=>by
  simp_all
 show aa (bo he hd h1 ?_);show cD hT ot Ig (h _ #[λb o hb=>(og b λq=>by simp_all).trans (f1 b o hb),f2,f3.of_keeps λb o hb hn=>#[o,(og b (Hg b o hb hn)).trans hb,rfl],?_] λb o hb hn=>(og b (Hg b o hb hn)).trans hb);show#[oe,vs,T,_,_,(og ea (aU pG)).trans he,jH,hd,h1,sC,pG,aQ _ hT (cc (bc ot _)),bc ot _,by simp[Ig]]
def Lies.yw{h2:Heap}{Cc:Addr}{o o2:Obj}(l:Lies X H H' s B ea Cc a0 s')(held:Heap.HeldW B X.stack ea (.ref Cc) a0 L s'.heap)(sb:Heap.SameBut C s'.heap h2)(zX:h2.get? C=!o2)(Hf:o2.isFreed=false)(hn:H C=none)(hs:s.heap.get? C=!o)(nf:C∉fO X.stack) :
  ∃B',Lies X H H' { s with heap:=s.heap.update C λx=>o2 } B' ea Cc a0 { s' with heap:=h2 }/\Heap.HeldW B' X.stack ea (.ref Cc) a0 L h2:=by
 let#[oC,eC]:=l.un.there C o hs #[_];let n':H' C=none:=l.un.free C o hs hn #[_];let hB:B.get? C=!oC:=l.pj C oC eC nf (.inr #[o,hs]);let b1:(B.update C λx=>o2).get? C=!o2:=aQ _ hB Hf;let b2:∀b,b≠C->(B.update C λx=>o2).get? b=B.get? b:=λb hb=>bC _ _ (aU hb);let s1:(s.heap.update C λx=>o2).get? C=!o2:=aQ _ hs Hf;let s2:∀b,b≠C->(s.heap.update C λx=>o2).get? b=s.heap.get? b:=λb hb=>bC _ _ (aU hb);let pH:∀b,b≠C->h2.get? b=s'.heap.get? b:=sb.2;let ne:∀{b:Addr},B.get? b=none->b≠C:=λ{b} h z=>by rw[z,hB] at h;cases h
 let#[f1,f2,f3,oe,vs,T,oT,ts,he,jH,hd,h1,sC,pG,hT,ot,h3]:=held;show#[B.update C λx=>o2,#[l.os,l.bare,#[λb u e n1 n2 n3=>?_,λb u e n1 n2 n3=>?_,λb u e n1 n2=>?_,λb u e n1=>?_,l.un.iE,l.un.iu,l.un.iG],?_,λb u e n1 q=>?_],λb u e=>?_,(b2 ea (ne f2)).trans f2,LJ b2 pH hB f3,oe,vs,T,oT,ts,(pH ea (ne f2)).trans he,jH,hd,h1,(b2 T (ne sC)).trans sC,pG,(pH T (ne sC)).trans hT,ot,h3]
 .by_cases z:b=C
  .subst z;rw[show({ s with heap:=s.heap.update b λx=>o2 }:Shared).heap.get? b=_ from s1] at e;cases e;show zX
  .exact(pH b z).trans (l.un.keep b u ((s2 b z).symm.trans e) n1 n2 n3)
 .let z:b≠C:=λz=>nf (z▸n2);let#[sl,q]:=l.un.slot b u ((s2 b z).symm.trans e) n1 n2 n3;show#[sl,(pH b z).trans q]
 .by_cases z:b=C
  .subst z;show n'
  .exact l.un.free b u ((s2 b z).symm.trans e) n1 n2
 .by_cases z:b=C
  .subst z;show#[_,zX]
  .let#[w,q]:=l.un.there b u ((s2 b z).symm.trans e) n1;show#[w,(pH b z).trans q]
 .intro a u e;show (l.bB a u e).G6 (λb w hb q=>by
   have:b≠C:=λz=>by
    rcases hb with rfl|hb
    .rw[z,n'] at e;cases e
    .rw[z,n'] at hb;cases hb
   show (pH b this).trans q) (λb hb=>hb) (λb xs hb=>hb)
 .by_cases z:b=C
  .subst z;rw[show({ s' with heap:=h2 }:Shared).heap.get? b=_ from zX] at e;cases e;show b1
  .refine(b2 b z).trans (l.pj b u ((pH b z).symm.trans e) n1 ?_);rcases q with q|⟨o0,q⟩
   .exact .inl q
   .exact .inr #[o0,(s2 b z).symm.trans q]
 .by_cases z:b=C
  .subst z;rw[b1] at e;cases e;show zX
  .exact(pH b z).trans (f1 b u ((b2 b z).symm.trans e))
abbrev Ae(X:Cx)(Ξ:XK)(pi:@&(Addr×Obj))(scope:Scope)(N':@&Str)(cl:@&(Str×Addr))(fp:@&Addr)(C:Addr)(s:Shared)(H:Hp):Value->Shared->Prop :=
 λe s'=>∃lg ju H1 s1,Inv (d6 X pi scope N' cl C s H fp) lg ju H1 s1/\gT X.prog X.w X.stack H1 s1 Ξ e s'
abbrev JV(X:Cx)(pi:@&(Addr×Obj))(σ:St)(Q:VK):Value->Addr->Result->Shared->Prop:=λacc C r s'=>match r with
 |.ok _=>∃m,s'.heap.Ns C m/\∀h',Heap.SameBut C s'.heap h'->EP X pi σ Q acc { s' with heap:=h' }
 |.error x=>∃m,s'.heap.Ns C m/\∀h' m',h'.Ns C m'->Heap.SameBut C s'.heap h'->∀cenv:Env,cenv.frame=X.env.frame->wpAny (model X.prog X.w) X.A (PySem.passOn "comprehension.variables-let-go" x cenv:Sem Value) (λy y=>False) X.xe { s' with heap:=h' }
def Ve{elt tg iter:Expr}{ifs:@&Expr}{scope:Scope}{N':@&Str}{c9:@&Nat}{cl:@&(Str×Addr)}{wi:TI}{g:TG}{tc:TT}{te:TE}(eZ:X.stack=X.env::X.outer)(hf:X.env.frame=!X.env.locals)(hh:ve X Ξ)(S:dQ X scope N' c9 cl)(hc:X.calm=true)(hi:PI X tg iter wi)(hg:∀pi C s H fp,PG (d6 X pi scope N' cl C s H fp) tg g)(ht:∀pi C s H fp,mq (d6 X pi scope N' cl C s H fp) ifs tc)(he:∀pi C s H fp,PE ((d6 X pi scope N' cl C s H fp).R8 (Ae X Ξ pi scope N' cl fp C s H)) elt te)(hs:∀x,foldedSetIterable iter X.env x=pure x):PE X (.ListComp elt [#[tg,iter,ifs,0]] scope pos) (yB wi c9 (-N') g tc te):=by
 intro pi s σ H Q I h;show Um (RX:=JV X pi σ Q)
  rfl hs S.sU S.kind S.names (λy y y y z=>z) (λy y y y z=>z) (cB (hi pi s σ H _ I h) λxv s1 h1=>cB h1 λwJ s2 h2=>?_)
 let#[it,fp,tn,J,H2,e,I2,T,oX,f2,W,#[m0,w0],turn]:=h2;subst e;show Fj (xx:=λC s H=>Ae X Ξ pi scope N' cl fp C s H) (RR:=JV X pi σ Q) S hc (λC s H=>hg pi C s H fp) (λC s H=>ht pi C s H fp) (λC s H=>he pi C s H fp) I2 T oX f2 w0 turn ?_ ?_
 .intro D C s' H' m I' q hn hC gD;show#[m,hn,λh' sb=>#[.ref D,H',I'.yw gD I2 hC sb,rfl,q]]
 .rintro D C e s' gD ⟨lg,ju,H1,s1,K1,cx⟩;let#[Cc,H',ho,hb,hu,bB,#[ea,a0,B,rfl,fw,hB],hE]:=cx;let J1:Inv X pi σ H1 s1:=I2.M' f2 K1;let l:Lies X H1 H' s1 B ea Cc a0 s':=#[ho,hb,hu,bB,hB]
  let sO:=fw;rw[eZ] at sO;change wpAny (model X.prog X.w) X.A (noteFrame (.ref ea) X.env) _ _ s';show wpAny_looks_onW (by rw[J1.ok.frames,eZ]) hf sO λh3 held us=>?_;rw[<- eZ] at held;let l1:=l.step J1 held.1 us;let lc:Lies (d6 X pi scope N' cl C s2 H2 fp) H1 H' s1 B ea Cc a0 { s' with heap:=h3 }:=#[l1.os,l1.bare,l1.un,l1.bB,l1.pj]
  let#[mC,Cn,_]:=(lc.inv K1).loc;show#[mC,Cn,λh4 m4 n4 sb cenv ux=>?_];let#[o4,es,ep,e4,_]:=n4;let Px:o4.isFreed=false:=(Heap.get?_some_iff.mp e4).2;let#[m1,#[o1,ia,ep1,e1,_],_]:=K1.loc;let n1:H1 C=none:=K1.free;let nf:C∉fO X.stack:=λz=>by
   rcases aG.mp (I2.Q1 C z) with z|z
   .exact absurd I2.lt (by simp_all)
   .exact I2.AX gD z
  let#[B2,l2,qD]:=l1.yw held sb e4 Px n1 e1 nf;let J2:Inv X pi σ H1 { s1 with heap:=s1.heap.update C λy=>o4 }:=J1.yw gD I2 n1 (aV _ _ _);let#[g1,g2,g3,oe,vs,T',oT,ts,xn,jH,hd,QF,_]:=id qD;show aa (bo xn hd QF ?_);rw[az #[_],ux,hf];show aa (aM2 qD λh5 qz k5=>tO ?_);let l5:=l2.step J2 qz.1 (λb o hb hn=>#[o.slots,k5 b o hb hn]);show hh pi σ H1 H' _ _ B2 ea Cc a0 J2 l5 qz hE
end
def Xj{t:TE}(he:PE X e t):PE X (.FormattedValue e (-1) none pos) (λσ H Q=>t σ H λx H1=>(∃i,x=.int i/\i.natAbs.log2<1920/\Q (.str (toString i)) H1)\/∃y,x=.str y/\-y<=sizeLine/\Q (.str y) H1):=by
 intro pi s σ H Q I h;show wpAny_FormattedValue_plain (cB (he pi s σ H _ I h) λv s1 bh=>?_);let#[x,H1,I1,r1,q1]:=bh;rcases q1 with⟨i,rfl,hd,q⟩|⟨y,rfl,hy,q⟩
 .let#[t,rfl]:=r1;show wpAny_formatField_int hd #[.str _,H1,I1.tok _,#[_,rfl],q]
 .let#[t,rfl]:=r1;show wpAny_formatField_str #[.str _,H1,I1,#[_,rfl],q] #[.str _,H1,I1.tok _,#[_,rfl],q] hy
inductive vn(X:Cx):@&Expr->@&TE->Prop
 |nil:vn X [] []
 |cons {e:Expr} {t:TE} {es:@&Expr} {ts:@&TE} (h:PE X e t) (r:vn X es ts):vn X (e::es) (t::ts)
abbrev Bq:@&TE->St->Hp->Str->(Str->Hp->Prop)->Prop
 |[],_,H,acc,Q=>Q acc H
 |t::ts,σ,H,acc,Q=>t σ H λx H1=>∃y,x=.str y/\(acc++y).length<=sizeLine/\Bq ts σ H1 (acc++y) Q
def Ni{pi:@&(Addr×Obj)}{σ:St}{Q:Str->Hp->Prop}:∀{es:@&Expr} {ts:@&TE},vn X es ts->∀{s:Shared} {H:Hp} {acc:Str},Inv X pi σ H s->Bq ts σ H acc Q ->
  Joins (model X.prog X.w) X.A X.xe (evalEach es X.env) acc (λout s1=>∃H1,Inv X pi σ H1 s1/\Q out H1) s
 |_,_,.nil,s,H,acc,I,h=>#[H,I,h]
 |_,_,.cons he r,s,H,acc,I,h=>by
  show cB (he pi s σ H _ I h) λv s1 bh=>?_;let#[x,H1,I1,r1,y,ey,hy,q1]:=bh;subst ey;let#[t,rfl]:=r1;show#[y,t,rfl,hy,Ni r I1 q1]
def KZ{M:Model}{A:Around}{E:Value->Shared->Prop}{Q Q':Str->Shared->Prop}(hq:∀x s,Q x s->Q' x s):∀{l:@&(Sem Value)} {acc:Str} {s:Shared},Joins M A E l acc Q s->Joins M A E l acc Q' s
 |[],acc,s,h=>hq _ _ h
 |x::r,acc,s,h=>cB h (by rintro v s1 ⟨y,t,e,hz,h1⟩;show #[y,t,e,hz,KZ hq h1])
def SD{lM lL:Expr}{rest:@&Expr}{ts:@&TE}(h:vn X (lM::lL::rest) ts):PE X (.JoinedStr (lM::lL::rest) pos) (λσ H Q=>Bq ts σ H Str.empty λout H1=>-out<=sizeLine/\Q (.str out) H1):=by
 intro pi s σ H Q I hw;show wpAny_JoinedStr (KZ (by rintro x s1 ⟨H1,I1,hl,q⟩;show #[hl,.str x,H1,I1.tok _,#[_,rfl],q]) (Ni h I hw))
def aW9{lo:Int}{acc:Array Value}{n:Nat}(h:ItemsOf (λi v=>∃t,v=.int (lo+i*1) t) acc n):Vals ((List.range n).map λ(k:Nat)=>V.int (lo+k)) acc.toList:=by
 let hl:-acc.toList=n:=by
  have:=h.1;omega
 let go:∀(m:Nat) (l:@&Value),(-l)<=n->m+-l=n->(∀i v,l[i]?=!v->∃t,v=Value.int (lo+((m+i:Nat):Int)) t)->Vals ((List.range' m (-l)).map λ(k:Nat)=>V.int (lo+k)) l:=by
  intro m l
  induction l generalizing m with
  |nil=>intro _ _ _;show .nil
  |cons x r ih =>
   intro h1 h2 h3;show .cons ?_ (ih (m+1) (by simp at h1;omega) (by simp at h2;omega) λi v hv=>?_)
   .let#[t,e]:=h3 0 x rfl;show#[t,by rw[e];simp]
   .let#[t,e]:=h3 (i+1) v (_/hv)
    grind
 have:=go 0 acc.toList () () λi v hv=>?_
 .rw[hl,<- List.range_eq_range'] at this;show this
 .have:acc[i]?=!v:=by rw[<- iV];show hv
  let#[t,e]:=h.2 i v this;show#[t,?_];rw[e];simp
def LK(hc:X.calm=true):k9 X (.type "list") (λxs H Q=>∃a lo hi,xs=[.ref a]/\H a=!.mB lo hi/\(-(2 ^ 62)<=lo/\lo<2 ^ 62/\-(2 ^ 62)<=hi/\hi<2 ^ 62/\hi-lo<=100000)/\∀p,H p=none->Q (.ref p) (upd H p (.lst ((List.range (hi-lo).toNat).map λ(k:Nat)=>V.int (lo+k))))):=by
 intro pi s σ H xs us Q I r h;let#[a,lo,hi,rfl,ha,#[h1,h2,h3,h4,h5],q]:=h;let#[t,u,v,ho]:=I.bB a _ ha;cases r with
 |cons r rr =>
 cases rr;cases r;let hn:Builtin.Range.rangeSize lo hi 1=((hi-lo).toNat:Nat):=by rw[rangeSize_one];split<;>omega
 show call_list_range (I.ok.hd hc) ho (small_one h1 h2 h3 h4) hn () λh' jO acc c hk hS kQ=>?_;let hp:=I.bB.fresh (ak _);show#[.ref _,_,I.laid (o:=.lst ((List.range (hi-lo).toNat).map λ(k:Nat)=>V.int (lo+k))) (t':=jO) hk (ak _) #[?_,acc.toList,c,aW9 kQ,by simpa using hS],rfl,q _ hp];rw[aj,kF];have:(hi-lo).toNat<=100000:=by omega
 show aH this ∅
def a44{a:Expr}{ta:TA}{p:Pos}(hg:Gl X "range")(hm:X.mg "range"=none)(ha:PA X [a] ta)(hs:starEach [a] X.env=[(false,eval a X.env)]):PE X (.Call (.Name "range" p) [a] [] pos) (λσ H Q=>ta σ H λvs H1=>∃j:Int,vs=[.int j]/\∀q,H1 q=none->Q (.ref q) (upd H1 q (.mB 0 j))):=by
 intro pi s σ H Q I h;show cM (Q7 I hg hm boot_range (cg (cB (ha pos pi s σ H _ I h) λus s1 bh=>?_) hs rfl));let#[vs,H1,I1,r1,q1]:=bh;let#[j,e,q]:=q1;subst e;cases r1 with
 |cons r rr =>
  cases rr;let#[t,rfl]:=r;show call_range_1 #[.ref s1⁻¹,_,I1.laid (o:=.mB 0 j) (λb o e=>ag _ e) (ak _) #[_,_,_,au _ rfl],rfl,q _ (I1.bB.fresh (ak _))]
def a43{a b:Expr}{ta:TA}{p:Pos}(hg:Gl X "range")(hm:X.mg "range"=none)(ha:PA X [a,b] ta)(hs:starEach [a,b] X.env=[(false,eval a X.env),(false,eval b X.env)])(iZ:starEach [b] X.env=[(false,eval b X.env)]):PE X (.Call (.Name "range" p) [a,b] [] pos) (λσ H Q=>ta σ H λvs H1=>∃i j:Int,vs=[.int i,.int j]/\∀q,H1 q=none->Q (.ref q) (upd H1 q (.mB i j))):=by
 intro pi s σ H Q I h;show cM (Q7 I hg hm boot_range (cg (cB (ha pos pi s σ H _ I h) λus s1 bh=>?_) (by rw[hs,iZ]) (by rw[iZ];rfl)));let#[vs,H1,I1,r1,q1]:=bh;let#[i,j,e,q]:=q1;subst e;cases r1 with
 |cons r rr =>
  cases rr with
  |cons r' rr =>
   cases rr;let#[t,rfl]:=r;let#[t',rfl]:=r';show call_range_2 #[.ref s1⁻¹,_,I1.laid (o:=.mB i j) (λb o e=>ag _ e) (ak _) #[_,_,_,au _ rfl],rfl,q _ (I1.bB.fresh (ak _))]
abbrev yp(K:PySem.W.Frag)(P:Params)(a:Addr)(kvs:@&(Str×V)):Prop :=
 ∃es n,K.lookup a=!#[.type "dict",none,.dict es n,(List.toArray [])]/\PySem.W.KeysLit P es.toList/\(a==sysModules)=false/\∀x,C7 (kvs.lookup x) (findBy Value.isStrOf es x)
def Od{kvs:@&(Str×V)}(neg:Bool):fj X (compareOp (if neg then .NotIn else .In)) (λx y H Q=>∃a z,y=.ref a/\yp X.K X.w.params a kvs/\x=.str z/\Q (.bl (xor neg (kvs.lookup z).isSome)) H):=by
 intro pi s σ H x y v u Q I rx ry h;let#[a,z,rfl,#[es,n,hl,hk,lo,hf],rfl,q]:=h;let#[t,rfl]:=rx;cases ry;let hm:=PySem.W.mapOf_K (prog:=X.prog) I.fZ hl hk;let e:=hf z;let ee:(findBy Value.isStrOf es z).isSome=(kvs.lookup z).isSome:=by
  cases h1:kvs.lookup z<;>cases h2:findBy Value.isStrOf es z<;>rw[h1,h2] at e<;>first|rfl|show e.elim
 cases neg
 .exact wpAny_in_of (strKind_is X.prog X.w z t) lo hm #[.bl _,H,I.tok _,by rw[ee];rfl,by simpa using q]
 .exact wpAny_notIn_of (strKind_is X.prog X.w z t) lo hm #[.bl _,H,I.tok _,by rw[ee];rfl,by simpa using q]
def WI{kvs:@&(Str×V)}:vt X (λx y H Q=>∃a z v,x=.ref a/\yp X.K X.w.params a kvs/\y=.str z/\kvs.lookup z=!v/\Q v H):=by
 intro value slice pi s σ H x y v u Q I rx ry h hs;let#[a,z,d,rfl,#[es,n,hl,hk,lo,hf],rfl,hz,q]:=h;cases rx;let#[t,rfl]:=ry;let hm:=PySem.W.mapOf_K (prog:=X.prog) I.fZ hl hk;let e:=hf z;rw[hz] at e;cases h2:findBy Value.isStrOf es z with
 |none=>rw[h2] at e;show e.elim
 |some r =>
  rw[h2] at e;show tail_any hm.typeIs slot_dict_getitem.lookup (wpAny_getItem_of (strKind_is X.prog X.w z t) hm h2 #[d,H,I.tok _,e,q]) hs
def bA4(hu:X.A.units+1<cLine):vt X (λx y H Q=>∃a v,x=.ref a/\Z7 H a y (!v)/\Q v H):=by
 intro value slice pi s σ H x y v u Q I rx ry h hs;let#[a,d,rfl,g,q]:=h;cases rx;show tail_any (aM5 I g) slot_dict_getitem.lookup (a99 hu I g ry λw' s3 I3 fH=>#[d,H,I3,fH,q]) hs
end L2
namespace ST
open PySem PyProof.Rows
variable{xs:Array Nat}{i k j n ep:Nat}{t:SetTable}{h h':Heap}{L:Bool}{es:Array (Int×Value)}{x f:Value}{prog:Program}{w:World}{a I b l:Addr}{ks ns:@&Int}{A:Around}{E Q:Value->Shared->Prop}{s:Shared}{pl:@&Nat}{α:Type}{r:Rd}{items:Array Value}
noncomputable abbrev kB(xs:Array Nat):Prop:=xs.toList.Pairwise (· < ·)
def kB.lt(h:kB xs)(xj:i<k)(hk:k<xs.size):xs.getD i 0<xs.getD k 0:=by
 have:=List.pairwise_iff_getElem.mp h i k (_/cG xj hk) (_/hk) xj;rw[<- fu (h:=cG xj hk),<- fu (h:=hk)];show this
def kB.le(h:kB xs)(xj:i<=k)(hk:k<xs.size):xs.getD i 0<=xs.getD k 0:=by
 rcases Nat.eq_or_lt_of_le xj with e|e
 .rw[e];show ak _
 .exact eJ (h.lt e hk)
def El{xs:Array Nat}{j:Nat}(h:kB xs):∀(fuel lo hi:Nat),hi-lo<=fuel->lo<=hi->hi<=xs.size->(∀i,i<lo->xs.getD i 0<j)->(∀i,hi<=i->i<xs.size->j<=xs.getD i 0) ->
  SetTable.below.go xs j fuel lo hi<=xs.size/\(∀i,i<SetTable.below.go xs j fuel lo hi->xs.getD i 0<j)/\∀i,SetTable.below.go xs j fuel lo hi<=i->i<xs.size->j<=xs.getD i 0
 |0,lo,hi,h1,h2,h3,h4,h5=>by
  have:lo=hi:=by omega
  subst this;show#[h3,h4,h5]
 |fuel+1,lo,hi,h1,h2,h3,h4,h5=>by
  unfold SetTable.below.go;split
  .let hm:(lo+hi) / 2<xs.size:=by omega
   let em:xs.getD ((lo+hi) / 2) j=xs.getD ((lo+hi) / 2) 0:=by simp[Array.getD,hm]
   dsimp only;rw[em];by_cases hc:xs.getD ((lo+hi) / 2) 0<j
   .rw[aw hc];show El h fuel _ hi () () h3 (λi kQ=>jV (h.le () hm) hc) h5
   .rw[az hc];show El h fuel lo _ () () () h4 λi kQ hs=>aH (Nat.le_of_not_lt hc) (h.le kQ hs)
  .have:lo=hi:=by omega
   subst this;show#[h3,h4,h5]
def T4(j:Nat)(h:kB xs):SetTable.below xs j<=xs.size/\(∀i,i<SetTable.below xs j->xs.getD i 0<j)/\∀i,SetTable.below xs j<=i->i<xs.size->j<=xs.getD i 0 :=
 El h _ 0 _ () () (ak _) (λi hi=>absurd hi (Nat.not_lt_zero _)) λi h1 h2=>absurd h2 ()
def below_at(h:kB xs)(hi:i<xs.size):SetTable.below xs (xs.getD i 0)=i:=by
 let#[h1,h2,h3]:=T4 (xs.getD i 0) h;rcases gO (SetTable.below xs (xs.getD i 0)) i with z|z|z
 .exact absurd (h3 _ (ak _) ()) (Nat.not_le_of_lt (h.lt z hi))
 .exact z
 .exact absurd (h2 i z) (bR _)
def aY7(h:kB xs)(hi:i<xs.size):SetTable.below xs (xs.getD i 0+1)=i+1:=by
 let#[h1,h2,h3]:=T4 (xs.getD i 0+1) h;rcases gO (SetTable.below xs (xs.getD i 0+1)) (i+1) with z|z|z
 .have:=h3 i () hi;omega
 .exact z
 .have:=h2 (i+1) z;have:=h.lt (lH i) (k:=i+1) ();omega
def aY6(h:kB xs):SetTable.below xs 0=0:=by
 let#[_,h2,_]:=T4 0 h;rcases Nat.eq_zero_or_pos (SetTable.below xs 0) with z|z
 .exact z
 .exact absurd (h2 0 z) (Nat.not_lt_zero _)
def getD_mem(hi:i<xs.size):xs[i]?=!xs.getD i 0:=by simp[Array.getD,hi]
def aU4(h:kB t.place)(hs:t.slot j=.empty):j∉t.place.toList:=by
 intro hm;let#[i,hi,e]:=eE.mp hm;let kQ:i<t.place.size:=by simpa using hi
 let ej:t.place.getD i 0=j:=by rw[<- fu];simpa using e
 let hb:=below_at h kQ;rw[ej] at hb;unfold SetTable.slot at hs;dsimp only at hs;rw[hb,getD_mem kQ,ej] at hs;simp at hs
def aU6(h:kB xs)(hj:j∉xs.toList):kB (SetTable.insertAt xs (SetTable.below xs j) j):=by
 let#[h1,h2,h3]:=T4 j h;show(SetTable.insertAt xs (SetTable.below xs j) j).toList.Pairwise (· < ·);rw[SetTable.toList_insertAt,List.pairwise_append];let tk:∀a∈xs.toList.take (SetTable.below xs j),a<j:=λa ha=>by
  let#[i,hi,e]:=eE.mp ha;rw[cF] at hi;let hs:i<xs.size:=by omega
  have:=h2 i ()
  simp_all
 let dp:∀b∈xs.toList.drop (SetTable.below xs j),j<b:=λb hb=>by
  let#[i,hi,e]:=eE.mp hb;let hs:SetTable.below xs j+i<xs.size:=by grind
  have:=h3 (SetTable.below xs j+i) () hs;rw[<- fu (h:=hs)] at this;let fN:b≠j:=λz=>hj (by rw[<- z];show List.mem_of_mem_drop hb);simp at e;omega
 show#[h.take,OQ.mpr #[dp,h.drop],λa ha b hb=>?_];let ou:=tk a ha
 grind
def a32(n:Nat):kB (Array.range n):=by
 show(Array.range n).toList.Pairwise (· < ·);rw[Array.toList_range];show iD
structure Well(L:Bool)(t:SetTable):Prop where
 ua:kB t.place
 sS:t.dummies=(List.toArray [])
 led:t.led=L
set_option tactic.hygienic true in
def UQ(hd:t.dummies=(List.toArray []))(j:Nat):t.slot j≠.dummy:=by
 unfold SetTable.slot;dsimp only;split
 .simp
 .rw[hd];split
  .rename_i z;simp[SetTable.has] at z
  simp
set_option tactic.hygienic true in
def Lx{t:SetTable}(hd:t.dummies=(List.toArray [])){hashAt:Nat->Int}{h:Int}:∀(fuel:Nat) (p:SetTable.Probe) {j:Nat} {dm:Option Nat},p.dummy=none->SetTable.probe.go t hashAt h fuel p=!.empty j dm->t.slot j=.empty/\dm=none
 |0,p,j,dm,_,e=>by simp[SetTable.probe.go] at e
 |fuel+1,p,j,dm,hp,e=>by
  unfold SetTable.probe.go at e;let ad:∀q:SetTable.Probe,q.dummy=none->(t.advance q).dummy=none:=λq hq=>by
   unfold SetTable.advance;split
   .exact hq
   .exact hq
  split at e
  .simp_all
  .rename_i hs;show absurd hs (UQ hd _)
  .split at e
   .cases e
   .exact Lx hd fuel _ (ad p hp) e
set_option tactic.hygienic true in
def a92(hd:t.dummies=(List.toArray [])){h:Int}{wd:Bool}(e:t.freeSlot h=!(j,wd)):t.slot j=.empty/\wd=false:=by
 unfold SetTable.freeSlot at e;split at e
 .rename_i j' dm hp;let#[h1,h2]:=Lx hd _ _ rfl hp;subst h2;cases e;show#[h1,rfl]
 .cases e
def K8(h:Well L t)(n:Nat):Well L (t.standIn n):=#[a32 n,rfl,h.led]
set_option tactic.hygienic true in
def aM0{h:Int}(hw:Well L t):Well L (layNew t es h x).2.1/\(layNew t es h x).2.2.1=false:=by
 unfold layNew;split
 .rename_i slot wd e;let#[h1,h2]:=a92 hw.sS e;show#[?_,h2];let hd:SetTable.has t.dummies slot=false:=by rw[hw.sS];rfl
  let w2:Well L (t.put slot).1:=#[aU6 hw.ua (aU4 hw.ua h1),by simp only[SetTable.put,hd];show hw.sS,hw.led]
  dsimp only;unfold SetTable.orStandIn;split
  .exact w2
  .exact K8 w2 _
 .exact#[K8 hw _,rfl]
def KC{mask finger moves:Nat}{led plain:Bool}{hashes:Array Int}{o:Array Nat}(hl:led=L)(e:SetTable.laid mask finger moves led plain hashes=!(t,o)):Well L t:=by
 unfold SetTable.laid at e;cases ho:SetTable.layClean mask hashes with
 |none=>rw[ho] at e;cases e
 |some owner =>
  rw[ho] at e;simp only[Option.bind_eq_bind,Option.bind_some,Option.pure_def,Option.some.injEq,Prod.mk.injEq] at e;let#[rfl,_]:=e;show#[?_,rfl,hl];show(List.map _ _).toArray.toList.Pairwise (· < ·);rw[GP];let sub:((List.range (mask+1)).filterMap λj=>(owner.getD j none).map (j,·)).map (·.1) |>.Sublist (List.range (mask+1)):=by
   generalize List.range (mask+1)=l
   induction l with
   |nil=>simp
   |cons a r ih =>
    rw[cP];cases owner.getD a none with
    |none=>show ih.cons a
    |some k=>show ih.cons_cons a
  show List.Pairwise.sublist sub iD
set_option tactic.hygienic true in
def aA4(hw:Well L t):Well L (relayAll t es n).2.1:=by
 unfold relayAll;split
 .rename_i t' order e;dsimp only;split
  .exact KC hw.led e
  .exact K8 hw _
 .exact K8 hw _
abbrev toI:Value->Int
 |.int k _=>k
 |_=>0
def Led(w:World):Bool:= ~~~(w.params.followText "set-order")
abbrev j8(prog:Program)(w:World)(h:Heap)(a:Addr)(ks:@&Int):Prop :=
 ∃o es ep t,h.get? a=!o/\o.ExactSet/\o.data=.set es ep t/\ElemsOf (intKind prog w) es.toList/\(es.toList.map λe=>toI e.2).Perm ks/\ks.Nodup/\es.size<scanBound/\t.fits es.size=true/\Well (Led w) t
def j8.at(x:j8 prog w h a ks)(k:∀o,h.get? a=!o->h'.get? a=!o):j8 prog w h' a ks:=by
 let#[o,es,ep,t,e,r]:=x;show#[o,es,ep,t,k o e,r]
def yL{e:Int×Value}{es:@&(Int×Value)}(h:ElemsOf (intKind prog w) es)(he:e∈es):∃tk,e.2=.int (toI e.2) tk/\e.1=(intKind prog w).hash (toI e.2):=by
 let#[#[k,h1,h2],_]:=h e he;let#[t,ht]:=Value.isInt_shape h1;show#[t,by rw[ht];rfl,?_];rw[h2,ht]
 rfl
def NK{e:Int×Value}{es:@&(Int×Value)}(h:ElemsOf (intKind prog w) es)(he:e∈es)(k:Int):(intKind prog w).is k e.2=decide (toI e.2=k):=by
 let#[t,ht,_]:=yL h he;rw[ht]
 rfl
def j8.mem{a:Addr}{es:@&(Int×Value)}(h:ElemsOf (intKind prog w) es)(hp:(es.map λe=>toI e.2).Perm ks)(k:Int):(es.findIdx? λe=>(intKind prog w).is k e.2).isSome=decide (k∈ks):=by
 rw[cz,bt,<- hp.mem_iff,aN,eQ];constructor
 .rintro⟨i,hi⟩;let#[h1,h2,_]:=kz.mp hi;let hm:=eK h1;rw[NK h hm] at h2;show#[_,hm,bz h2]
 .rintro⟨e,he,rfl⟩;cases hf:es.findIdx? λe'=>(intKind prog w).is (toI e.2) e'.2 with
  |some i=>show#[i,rfl]
  |none =>
   have:=List.findIdx?_eq_none_iff.mp hf e he;rw[NK h he] at this;simp at this
abbrev F7(ks:@&Int)(k:Int):@&Int:=if k∈ks then ks else ks++[k]
def MU(ks:@&Int)(k:Int):(F7 ks k).length<=-ks+1:=by unfold F7;split<;>simp
def Iv{k:Int}{tk:Tok}{Q:Bool->Shared->Prop}(hS:j8 prog w s.heap a ks)(hr:-ks+1<scanBound)(h:∀h' b,Heap.SameBut a s.heap h'->j8 prog w h' a (F7 ks k)->Q b { s with heap:=h' }):wpAny (model prog w) A (setAddHashed a (.int k tk) ((intKind prog w).hash k)) Q E s:=by
 let#[o,es,ep,t,ho,hx,hd,iK,hp,hn,hb,hf,hw]:=hS;let hlen:es.size=-ks:=by rw[<- hp.length_eq];simp
 let pE:(intKind prog w).is k (.int k tk)=true:=Bv _ _ _ _;let gv:∀(b:Bool) (s1:Shared) (Q':Unit->Shared->Prop),Q' Unit.unit s1->wpAny (model prog w) A (match b with|true=>rule "set.scan.the-table-gave-way"|false=>pure Unit.unit) Q' E s1:=λb s1 Q' q=>by
  cases b
  .exact ai q
  .exact dS q
 show aZ (aa (aW ho hd hf ?_));dsimp only;rw[byScan_of rfl hb iK,aw rfl];show aa (aa (dS (aa (wpAny_setScan_of pE ho hd hf iK ?_))));let hm:=j8.mem (a:=a) iK hp k;cases wV:es.toList.findIdx? (λe=>(intKind prog w).is k e.2) with
 |some j =>
  let hk:k∈ks:=by simp_all
  show ai (ai ?_);show h s.heap _ (iP a s.heap) ?_;unfold F7;rw[aw hk];show#[o,es,ep,t,ho,hx,hd,iK,hp,hn,hb,hf,hw]
 |none =>
  rw[wV] at hm;let hk:k∉ks:=by simpa using hm.symm
  let p1:=layNew_perm t es ((intKind prog w).hash k) (.int k tk);let f1:=layNew_fits t es ((intKind prog w).hash k) (.int k tk);let#[w1,GV]:=aM0 hw;generalize layNew t es ((intKind prog w).hash k) (.int k tk)=R1 at p1 f1 w1 GV ⊢;let#[ia,t1,wd,RI]:=R1;subst GV;rw[Array.toList_push] at p1;let Im:=(iK.push pE rfl).perm p1;let sz1:ia.size=es.size+1:=by rw[<- bD,p1.length_eq];simp
  let k1:(ia.toList.map λe=>toI e.2).Perm (F7 ks k):=by
   unfold F7;rw[az hk];show(p1.map _).trans ?_;rw[aA];show hp.append_right _
  let n1:(F7 ks k).Nodup:=by
   unfold F7;rw[az hk,dw];show#[hn,by simp,λx hx y hy=>by grind]
  show aa (gv _ _ _ ?_);let fin:∀ (t2:SetTable),t2.fits ia.size=true->Well (Led w) t2->wpAny (model prog w) A (do
    storeSet a ia t2
    if(~~~false&&t2.tooFull)=true then do
      (match(relayAll t2 ia (SetTable.grown ia.size)).2.2 with|true=>rule "set.scan.the-table-gave-way"|false=>pure Unit.unit)
      storeSet a (relayAll t2 ia (SetTable.grown ia.size)).1 (relayAll t2 ia (SetTable.grown ia.size)).2.1
      pure (!true)
     else pure (!true)) (λr s'=>wpAny (model prog w) A (match r with | some added=>pure added | none=>setAddHashedIn a (.int k tk) ((intKind prog w).hash k) 99999) Q E s') E s:=λt2 f2 w2=>by
   let g1:(s.heap.update a (Obj.putSet ia t2)).get? a=some { o with data:=.set ia (ep+1) t2 }:=by
    have:=aQ (Obj.putSet ia t2) ho (by rw[putSet_of ia t2 hd];rfl);rw[putSet_of ia t2 hd] at this;show this
   show aa (eM ho hd ?_ (eN ()));let vZ:=aV s.heap a (Obj.putSet ia t2);split
   .let p2:=relayAll_perm t2 ia (SetTable.grown ia.size);let f3:=relayAll_fits t2 ia (SetTable.grown ia.size);let w3:=aA4 (es:=ia) (n:=SetTable.grown ia.size) w2;generalize relayAll t2 ia (SetTable.grown ia.size)=R2 at p2 f3 w3 ⊢;let#[yd,t3,gv2]:=R2;dsimp only at p2 f3 w3 ⊢;let sz2:yd.size=ia.size:=by rw[<- bD,p2.length_eq,bD]
    show aa (gv _ _ _ ?_);show aa (eM g1 rfl ?_ (eN ()));show ai (ai (h _ _ (vZ.trans (aV _ a _)) ?_));let g2:((s.heap.update a (Obj.putSet ia t2)).update a (Obj.putSet yd t3)).get? a=some { o with data:=.set yd (ep+1+1) t3 }:=by
     have:=aQ (Obj.putSet yd t3) g1 (by rfl);show this
    show#[_,yd,_,t3,g2,hx,rfl,Im.perm p2,(p2.map _).trans k1,n1,by omega,f3,w3]
   .exact ai (ai (h _ _ vZ #[_,ia,_,t2,g1,hx,rfl,Im,k1,n1,by omega,f1 |> λz=>f2,w2]))
  split
  .refine aa (cN (hashByValue_scannable 8 rfl) ?_);show fin _ f1 w1
  .refine aa (ai ?_);show fin _ f1 w1
def aI7:entryFor table "set.__iter__"=some Builtin.«frozenset.__iter__» :=
 Bw (id':="frozenset.__iter__") (by kernel_rfl) rfl #[] (by kernel_rfl)
def C0:Slot "set_iterator" "__next__" "set_iterator.__next__" :=
 .of (owner:="set_iterator") (n:="__next__") (by rw[typeLookup_type,builtinLookup_eq_fast];kernel_rfl) #[] #[] #[]
  (by first|show .inl #[]|show .inr #[]) (by rw[fB];kernel_rfl)
def Lr:entryFor table "set_iterator.__next__"=some Builtin.«set_iterator.__next__»:=entryFor_of_tree (by kernel_rfl)
def LB(a:Value):argsOk "set_iterator.__next__" #[[a],[]]:=by
 unfold argsOk
 kernel_rfl
def LH:Slot "set_iterator" "__iter__" "set_iterator.__iter__" :=
 .of (owner:="set_iterator") (n:="__iter__") (by rw[typeLookup_type,builtinLookup_eq_fast];kernel_rfl) #[] #[] #[]
  (by first|show .inl #[]|show .inr #[]) (by rw[fB];kernel_rfl)
def aM4:entryFor table "set_iterator.__iter__"=some Builtin.«dict_keyiterator.__iter__» :=
 Bw (id':="dict_keyiterator.__iter__") (by kernel_rfl) rfl #[] (by kernel_rfl)
def aK8(a:Value):argsOk "set_iterator.__iter__" #[[a],[]]:=by
 unfold argsOk
 kernel_rfl
inductive Rd|text|plain|drawn
structure Lies(h:Heap)(a:Addr)(es:Array (Int×Value))(ep:Nat)(t:SetTable):Prop where
 at_:∃o,h.get? a=!o/\o.cls=.type "set"/\o.data=.set es ep t
 fit:t.fits es.size=true
def Lies.at(x:Lies h a es ep t)(k:∀o,h.get? a=!o->h'.get? a=!o):Lies h' a es ep t :=
 #[let ⟨o,e,r⟩:=x.at_;#[o,k o e,r],x.fit]
def D8(h:Heap)(I a:Addr)(f:Value)(i n ep:Nat):Prop:=∃o,h.get? I=!o/\o.cls=.type "set_iterator"/\o.data=.fields (List.toArray [f,rawInt i,.ref a,rawInt n,rawInt ep])
def D8.at(x:D8 h I a f i n ep)(k:∀o,h.get? I=!o->h'.get? I=!o):D8 h' I a f i n ep:=let ⟨o,e,r⟩:=x;#[o,k o e,r]
def D8.ty(x:D8 s.heap I a f i n ep):s.TypeIs (.ref I) "set_iterator":=let ⟨o,e,c,_⟩:=x;#[o,e,c]
abbrev yx(w:World)(a:Addr)(es:Array (Int×Value))(ep:Nat)(pl:@&Nat):Rd->@&Value
 |.text=>(pickOrder (w.params.setOrder a ep) es).toList.map (·.2)
 |.plain=>es.toList.map (·.2)
 |.drawn=>pl.map λj=>(es.getD j (0,.none)).2
abbrev slotAt(t:SetTable):Nat->Nat
 |0=>0
 |i+1=>t.place.getD i 0+1
abbrev O9(h:Heap)(t:SetTable)(b:Addr)(pl:@&Nat)(i:Nat)(f:Value):Rd->Prop
 |.text=>∃k:Nat,f=rawInt k
 |.plain=>f=rawInt (slotAt t i)
 |.drawn=>f=.ref b/\∃o e,h.get? b=!o/\o.cls=.type "tuple"/\o.data=.seq (pl.map λj=>rawInt (j:Nat)).toArray e
abbrev uJ(w:World)(es:Array (Int×Value))(t:SetTable)(pl:@&Nat):Rd->Prop
 |.text=>w.params.followText "set-order"=true
 |.plain=>w.params.followText "set-order"=false/\(t.plain=true\/es.size<=1)/\Well true t
 |.drawn=>w.params.followText "set-order"=false/\pl.Perm (List.range es.size)
def V7{Q:Bool->Shared->Prop}(h:Q (w.params.followText "set-order") s):wpAny (model prog w) A setsByText Q E s:=by
 show aa (qZ (ai h))
def KJ(hL:Lies s.heap a es ep t)(ht:w.params.followText "set-order"=true){sl g:Nat}{Q:Option (Value×Nat)->Shared->Prop}(h:Q (((pickOrder (w.params.setOrder a ep) es)[g]?).map λe=>(e.2,sl)) s) :
  wpAny (model prog w) A (setNext a sl g ep) Q E s:=by
 let#[o,ho,_,hd]:=hL.at_;show aa (aW ho hd hL.fit ?_);show aa (V7 ?_);rw[ht,aw rfl,az #[_]];show aa (aa (aW ho hd hL.fit ?_));show aa (V7 ?_);rw[ht,aw rfl];show aa (qZ (ai (ai h)))
def Li(hL:Lies s.heap a es ep t)(ht:w.params.followText "set-order"=false)(hp:t.plain=true\/es.size<=1)(hl:t.led=true){sl g:Nat}{Q:Option (Value×Nat)->Shared->Prop}(h:Q (match es[SetTable.below t.place sl]?,t.place[SetTable.below t.place sl]? with|some (_,x),!j=>!(x,j+1)|_,_=>none) s):wpAny (model prog w) A (setNext a sl g ep) Q E s:=by
 let#[o,ho,_,hd]:=hL.at_;show aa (aW ho hd hL.fit ?_);show aa (V7 ?_);rw[ht,az ∅];change wpAny _ _ (if(~~~t.plain&&decide (es.size>1))=true then _ else _) _ _ _;rw[az (by rcases hp with e|e<;>simp[e])];show aa (cN (a:=Unit.unit) ?_ (ai h));show((if(~~~t.led&&~~~es.isEmpty)=true then unsupported "set:maker-not-led" else pure Unit.unit):Sem Unit)=pure Unit.unit;rw[hl]
 rfl
def aV5(hL:Lies s.heap a es ep t)(hj:j<es.size)(h:Q (es.getD j (0,.none)).2 s):wpAny (model prog w) A (setNextDrawn a j ep) Q E s:=by
 let#[o,ho,_,hd]:=hL.at_;show aa (aW ho hd hL.fit ?_);dsimp only;rw[az #[_]];let e:es[j]?=!es.getD j (0,.none):=by simp_all
 rw[e];show ai h
def NH(hL:Lies s.heap a es ep t):t.place.size=es.size:=by
 have:=hL.fit;unfold SetTable.fits at this;simp at this;show this.1
def K'(hw:kB t.place)(hi:i<=t.place.size):SetTable.below t.place (slotAt t i)=i:=by
 cases i with
 |zero=>show aY6 hw
 |succ i=>show aY7 hw ()
def entries{Q:Array (Int×Value)->Shared->Prop}(hL:Lies s.heap a es ep t)(h:Q es s):wpAny (model prog w) A (setEntries a) Q E s:=by
 let#[o,ho,_,hd]:=hL.at_;show aa (aW ho hd hL.fit (ai h))
def b56{f':Value}(hi:D8 h I a f i n ep)(hx:x=rawInt ((i:Int)+1)):D8 ((h.update I (Obj.mapFields (·.setIfInBounds 0 f'))).update I (Obj.mapFields (·.setIfInBounds 1 x))) I a f' (i+1) n ep:=by
 let#[o,ho,hc,hd]:=hi;let h1:=aQ (Obj.mapFields (·.setIfInBounds 0 f')) ho (cc (bc hd _));let d1:(Obj.mapFields (·.setIfInBounds 0 f') o).data=.fields (List.toArray [f',rawInt i,.ref a,rawInt n,rawInt ep]):=by rw[bc hd];simp
 let h2:=aQ (Obj.mapFields (·.setIfInBounds 1 x)) h1 (cc (bc d1 _));show#[_,h2,(iL ..).trans ((iL ..).trans hc),?_];rw[bc d1]
 simp_all
def b57(hi:D8 h I a f i n ep)(hx:x=rawInt ((i:Int)+1)):D8 (h.update I (Obj.mapFields (·.setIfInBounds 1 x))) I a f (i+1) n ep:=by
 let#[o,ho,hc,hd]:=hi;let h2:=aQ (Obj.mapFields (·.setIfInBounds 1 x)) ho (cc (bc hd _));show#[_,h2,(iL ..).trans hc,?_];rw[bc hd];subst hx;simp[rawInt]
def Kf{f':Value}{m:Sem α}{Q':α->Shared->Prop}(hi:D8 s.heap I a f i n ep)(hx:x=rawInt ((i:Int)+1))(h:∀h',D8 h' I a f' (i+1) n ep->Heap.SameBut I s.heap h'->wpAny (model prog w) A m Q' E { s with heap:=h' }) :
  wpAny (model prog w) A (do setField (.ref I) 0 f';setField (.ref I) 1 x;m) Q' E s:=by
 let#[o,ho,hc,hd]:=id hi;show aa (cD ho hd #[_] ?_);let h1:=aQ (Obj.mapFields (·.setIfInBounds 0 f')) ho (cc (bc hd _));let d1:(Obj.mapFields (·.setIfInBounds 0 f') o).data=.fields (List.toArray [f',rawInt i,.ref a,rawInt n,rawInt ep]):=by rw[bc hd];simp
 show aa (cD h1 d1 #[_] ?_);show h _ (b56 hi hx) ((aV ..).trans (aV ..))
def b22{m:Sem α}{Q':α->Shared->Prop}(hi:D8 s.heap I a f i n ep)(hx:x=rawInt ((i:Int)+1))(h:∀h',D8 h' I a f (i+1) n ep->Heap.SameBut I s.heap h'->wpAny (model prog w) A m Q' E { s with heap:=h' }) :
  wpAny (model prog w) A (do setField (.ref I) 1 x;m) Q' E s:=by
 let#[o,ho,hc,hd]:=id hi;show aa (cD ho hd #[_] ?_);show h _ (b57 hi hx) (aV ..)
def AO(next:Nat->Nat)(xs:Array α):(pickOrder next xs).toList.Perm xs.toList:=by
 let go:∀(fuel k:Nat) (left:List α) (out:Array α),fuel=-left->(pickOrder.go next fuel k left out).toList.Perm (out.toList++left):=by
  intro fuel
  induction fuel with
  |zero =>
   intro k left out e;have:=fF e.symm;subst this;simp[pickOrder.go]
  |succ n ih =>
   intro k left out e;let dO:next k % (-left)< -left:=Nat.mod_lt _ ()
   unfold pickOrder.go;rw[ao dO];show(ih _ _ _ (by rw[oP dO];omega)).trans ?_;rw[Array.toList_push,gQ];show List.Perm.append_left _ ?_;have:left.Perm (left[next k % (-left)]::left.eraseIdx (next k % (-left))):=by
    rw[kW]
    conv=>lhs;rw[<- iU (next k % (-left)) left,gJ dO]
    show List.perm_middle
   show this.symm
 have:=go xs.size 0 xs.toList (List.toArray []) #[_];simpa[pickOrder] using this
def next_item{Q:Option Value->Shared->Prop}(hL:Lies s.heap a es ep t)(hr:uJ w es t pl r)(hi:D8 s.heap I a f i es.size ep)(hf:O9 s.heap t b pl i f r)(fN:b≠I)(dO:i<es.size)(h:∀v h' f',(yx w a es ep pl r)[i]?=!v->D8 h' I a f' (i+1) es.size ep->O9 h' t b pl (i+1) f' r->Heap.SameBut I s.heap h'->Q (!v) { s with heap:=h' }):wpAny (model prog w) A (pyNext (.ref I)) Q E s:=by
 let#[o,ho,hc,hd]:=id hi;show aa (fX (bA hi.ty C0 (br C0 hi.ty Lr ?_ (LB _))));show aa (ai ?_);show aa (wpAny_fieldsOf ho hd ?_);show aa (entries hL ?_);rw[az #[_]];rw[cj,cj];cases r with
 |text =>
  let#[k,rfl]:=hf;show aa (KJ hL hr ?_);let hl:i<(pickOrder (w.params.setOrder a ep) es).size:=by
   have:=(AO (w.params.setOrder a ep) es).length_eq
   simp_all
  rw[dg hl];show Kf hi rfl λh' h1 h2=>ai #[_,rfl,ai (h _ _ _ ?_ h1 #[_,rfl] h2)];show((pickOrder (w.params.setOrder a ep) es).toList.map (·.2))[i]?=_;simp[hl]
 |plain =>
  let#[r1,r2,r3]:=hr;let hs:=NH hL;obtain rfl:=hf;dsimp only[rawInt];rw[cj];show aa (Li hL r1 r2 r3.led ?_);rw[K' r3.ua (),dg dO,getD_mem ()];show Kf hi rfl λh' h1 h2=>ai #[_,rfl,ai (h _ _ _ ?_ h1 rfl h2)];show(es.toList.map (·.2))[i]?=_;simp[dO]
 |drawn =>
  let#[r1,r2]:=hr;let#[rfl,ob,e,hb,HS,zO]:=hf;let gE:i< -pl:=by rw[r2.length_eq];simpa using dO
  show aa (dt hb zO ?_);let hj:pl[i]<es.size:=by
   have:=r2.mem_iff.mp (eK gE)
   simp_all
  let e1:(pl.map λj=>rawInt (j:Nat)).toArray[i]?=!rawInt (pl[i]:Nat):=by simp[gE]
  dsimp only;rw[e1];show aa (aV5 hL hj ?_);show b22 hi rfl λh' h1 h2=>ai #[_,rfl,ai (h _ _ _ ?_ h1 #[rfl,ob,e,by rw[h2.2 b fN];show hb,HS,zO] h2)];show(pl.map λj=>(es.getD j (0,.none)).2)[i]?=_;simp[gE]
def EK{Q:Option Value->Shared->Prop}{h0:Heap}(hh:A.handled=none)(RC:Heap.ExtBut I h0 s.heap)(h:∀h',Heap.ExtBut I h0 h'->Q none { s with heap:=h' }) :
  wpAny (model prog w) A.in1 (newExc (.type "StopIteration") [] >>= λe=>(raiseNew e:Sem Fin)) (λfin s'=>∃v,fin=Fin.done (Flow.ret v)/\wpAny (model prog w) A (pure (!v)) Q E s')
   (λe s'=>wpAny (model prog w) A (do
     let x <- isInstance e (Value.type "StopIteration")
     if x=true then pure none else throw e) Q E s') s:=by
 show aa ?_;show aa (bK ?_ (by size_fits));show aa (cN (a:=Value.none) (by rfl) ?_);show bK ?_ (by size_fits);show aa (wpAny_handled ?_);rw[show A.in1.handled=none from hh];show aa (ai (tO ?_));show aa (cL #[_,au _ rfl,rfl] isSubtype_stop ?_);show ai (h _ ((RC.push _).push _))
def next_end{Q:Option Value->Shared->Prop}(hh:A.handled=none)(hL:Lies s.heap a es ep t)(hr:uJ w es t pl r)(hi:D8 s.heap I a f es.size es.size ep)(hf:O9 s.heap t b pl es.size f r)(fN:b≠I)(h:∀h',Heap.ExtBut I s.heap h'->Q none { s with heap:=h' }):wpAny (model prog w) A (pyNext (.ref I)) Q E s:=by
 let#[o,ho,hc,hd]:=id hi;show aa (fX (bA hi.ty C0 (br C0 hi.ty Lr ?_ (LB _))));show aa (ai ?_);show aa (wpAny_fieldsOf ho hd ?_);show aa (entries hL ?_);rw[az #[_]];rw[cj,cj];cases r with
 |text =>
  let#[k,rfl]:=hf;show aa (KJ hL hr ?_);let hl:(pickOrder (w.params.setOrder a ep) es).size<=es.size:=by
   have:=(AO (w.params.setOrder a ep) es).length_eq
   grind
  rw[vI hl];show aa (cD ho hd #[_] ?_);show EK hh (aV ..).extBut h
 |plain =>
  let#[r1,r2,r3]:=hr;let hs:=NH hL;obtain rfl:=hf;dsimp only[rawInt];rw[cj];show aa (Li hL r1 r2 r3.led ?_);rw[K' r3.ua (),vI (ak _)];show aa (cD ho hd #[_] ?_);show EK hh (aV ..).extBut h
 |drawn =>
  let#[r1,r2]:=hr;let#[rfl,ob,e,hb,HS,zO]:=hf;let gE:-pl=es.size:=by rw[r2.length_eq];simp
  show aa (dt hb zO ?_);let e1:(pl.map λj=>rawInt (j:Nat)).toArray[es.size]?=none:=by simp[gE]
  dsimp only;rw[e1];show aa (cD ho hd #[_] ?_);let h1:=aQ (Obj.mapFields (·.setIfInBounds 0 (Value.int 0 0))) ho (cc (bc hd _));show aa (cD h1 (bc hd _) #[_] ?_);show EK hh ((aV ..).trans (aV ..)).extBut h
def a41{l:List α}(dO:k< -l):(l[k]::l.eraseIdx k).Perm l:=by
 rw[kW]
 conv=>rhs;rw[<- iU k l,gJ dO]
 show List.perm_middle.symm
def Fl{α:Type}:∀(n:Nat) (xs:List α) (s:Shared) (Q:List α->Shared->Prop),n=-xs->(∀ys d,ys.Perm xs->Q ys { s with drawn:=d })->wpAny (model prog w) A (drawOrder n xs) Q E s
 |0,xs,s,Q,e,h=>by
  have:=fF e.symm;subst this;show ai (h [] s.drawn (jh _))
 |n+1,[],s,Q,e,h=>by simp at e
 |n+1,x::xs,s,Q,e,h=>by
  show aa ?_;intro Γ p hΓ;show#[by simp,?_];generalize (model prog w).w.draws .order (s.drawn.get .order)=k;let dO:k % (x::xs).length<(x::xs).length:=Nat.mod_lt _ #[_];let go:wpAny (model prog w) A (match (x :: xs)[k % (x :: xs).length]? with
   |some y=>do
    let ys <- drawOrder n ((x::xs).eraseIdx (k % (x::xs).length))
    pure (y::ys)
   | none=>unsupported "internal:drawOrder") Q E { s with drawn:=s.drawn.bump .order }:=by
   rw[ao dO];show aa (Fl n _ _ _ (by rw[oP dO];omega) λys d hp=>ai ?_);show h _ d ((List.Perm.cons _ hp).trans (a41 dO))
  show go
def Nt(hr:uJ w es t pl r):(yx w a es ep pl r).Perm (es.toList.map (·.2)):=by
 cases r with
 |text=>show(AO _ es).map _
 |plain=>rfl
 |drawn =>
  show(hr.2.map _).trans ?_;have:(List.range es.size).map (λj=>(es.getD j (0,.none)).2)=es.toList.map (·.2):=by
   apply List.ext_getElem
   .simp
   simp_all
  rw[this]
def Lies.ty(hL:Lies s.heap a es ep t):s.TypeIs (.ref a) "set":=let ⟨o,e,c,_⟩:=hL.at_;#[o,e,c]
def VD(hL:Lies s.heap a es ep t)(hw:Well (Led w) t)(hz:es.size<=10000)(h:∀r pl b f I h' d',uJ w es t pl r->D8 h' I a f 0 es.size ep->O9 h' t b pl 0 f r->b≠I->(b=a\/s⁻¹<=b)->(∀c o,s.heap.get? c=!o->h'.get? c=!o)->s⁻¹<=I->s⁻¹<=h'.objs.size->Q (.ref I) { s with heap:=h',drawn:=d' }) :
  wpAny (model prog w) A (pyIter (.ref a)) Q E s:=by
 let#[o,ho,Ck,hd]:=hL.at_;show wpAny_pyIter_slot hL.ty F.slot_set_iter (br F.slot_set_iter hL.ty aI7 ?_ (F.args_set_iter_1 _));show aa (ai ?_);show aa (aa (entries hL (ai ?_)));show aa (aa (aW ho hd hL.fit ?_));show aa (V7 (ai ?_));let dO:=aq ho;let fin:∀(r:Rd) (f:Value) (b:Addr) (pl:@&Nat) (h1:Heap) (d1:Drawn),uJ w es t pl r->(∀h',(∀c o,h1.get? c=!o->h'.get? c=!o)->O9 h' t b pl 0 f r)->b<h1.objs.size->(b=a\/s⁻¹<=b)->(∀c o,s.heap.get? c=!o->h1.get? c=!o)->s⁻¹<=h1.objs.size ->
   wpAny (model prog w) A.in1 (do
    let e <- setEpoch a
    ret (<- newFields "set_iterator" [f,rawInt 0,.ref a,rawInt es.size,rawInt e])) (λfin s'=>∃ v,fin=Fin.done (Flow.ret v)/\∃ T' r,s'.TypeIs v T'/\typeLookup (.type T') "__next__"=pure (!r)/\Q v s') E { s with heap:=h1,drawn:=d1 }:=λr f b pl h1 d1 hr hf hb QS he gD=>by
  let uB:=hL.at λo e=>he a o e;let#[o1,wX,_,QM]:=uB.at_;show aa (aa (aW wX QM uB.fit (ai ?_)));show aa (bK (ai #[_,rfl,"set_iterator",_,#[_,au _ rfl,rfl],C0.lookup,?_]));show h r pl b f h1.objs.size _ d1 hr #[_,au _ rfl,rfl,rfl] (hf _ λc o e=>ag _ e) (aF hb) QS (λc o e=>ag _ (he c o e)) gD (by rw[size_push'];show Nat.le_succ_of_le gD)
 cases hT:w.params.followText "set-order" with
 |true =>
  show aa (ai ?_);show fin .text (rawInt 0) a [] s.heap s.drawn hT (λh' x=>#[0,rfl]) dO (.inl rfl) (λc o e=>e) (ak _)
 |false =>
  change wpAny _ _ (if(~~~false&&(~~~t.plain&&decide (es.size>1)))=true then _ else _ ) _ _ _;by_cases hp:t.plain=true\/es.size<=1
  .rw[az (by rcases hp with e|e<;>simp[e])];show aa (ai ?_);show fin .plain (rawInt 0) a [] s.heap s.drawn #[hT,hp,?_] (λh' x=>rfl) dO (.inl rfl) (λc o e=>e) (ak _);have:Led w=true:=by unfold Led;rw[hT];rfl
   simp_all
  .rw[aw (by grind)];show aa (Fl _ _ _ _ (kF).symm λys d hy=>?_);let hl:-ys=es.size:=by rw[hy.length_eq];simp
   show aa (bK ?_ (by show(List.map _ ys).toArray.size<=sizeLine;rw[aK,aj,hl];show aH hz ∅));show fin .drawn (.ref s⁻¹) s⁻¹ ys _ d #[hT,hy] (λh' hk=>#[rfl,_,_,hk _ _ (au _ rfl),rfl,rfl]) #[_] (.inr (ak _)) (λc o e=>ag _ e) #[_]
def a22(hh:A.handled=none)(hr:uJ w es t pl r)(fN:b≠I)(Qw:a≠I) :
  Walks prog w A I [I,a,b] [I] es.size (λi v=>(yx w a es ep pl r)[i]?=!v) (λi h=>Lies h a es ep t/\∃f,D8 h I a f i es.size ep/\O9 h t b pl i f r) where
 sub:=λc hc=>by simp_all
 frame:=λi h h' st hk=>by
  let#[hL,f,hi,hf]:=st;show#[hL.at λo e=>hk a #[_] o e,f,hi.at λo e=>hk I #[_] o e,?_];cases r with
  |text=>show hf
  |plain=>show hf
  |drawn =>
   let#[e1,o,e,h1,h2]:=hf;show#[e1,o,e,hk b #[_] o h1,h2]
 item:=λi s Q E hi st hQ=>by
  let#[hL,f,hI,hf]:=st;show next_item hL hr hI hf fN hi λv h' f' hv h1 h2 h3=>hQ v h' s.toks hv #[hL.at λo e=>by rw[h3.2 a Qw];show e,f',h1,h2] λc o hc e=>h3.extBut c o (λz=>hc (by simp[z])) e
 done:=λs Q E st hQ=>by
  let#[hL,f,hI,hf]:=st;show next_end hh hL hr hI hf fN λh' he=>hQ h' s.toks λc o hc e=>he c o (λz=>hc (by simp[z])) e
 self:=λi s Q E st hQ=>by
  let#[hL,f,hI,hf]:=st;show wpAny_pyIter_slot hI.ty LH (br LH hI.ty aM4 ?_ (aK8 _));show aa (ai (ai #[_,rfl,"set_iterator",_,hI.ty,C0.lookup,hQ]))
def aH3:typeLookup (.type "set") "__len__"=pure (!(.builtin "set.__len__")):=by rfl
def aL6(hh:A.handled=none)(hL:Lies s.heap a es ep t)(hw:Well (Led w) t)(hz:es.size<=10000){Q:@&Value->Shared->Prop}(h:∀(vs:@&Value) h' d' jO,vs.Perm (es.toList.map (·.2))->(∀c o,s.heap.get? c=!o->h'.get? c=!o)->s⁻¹<=h'.objs.size->s.toks<=jO->Q vs { s with heap:=h',drawn:=d',toks:=jO }) :
  wpAny (model prog w) A (collect (.ref a)) Q E s:=by
 let dO:=let ⟨o,ho,_⟩:=hL.at_;aq ho
 show aa (wpAny_runValue (dC F.entry_proto_collect ?_));show aa (bK ?_);show ai #[fY F.plain_list_iadd _,dC F.entry_list_iadd ?_];let uB:Lies (s.heap.push { cls:=.type "list",data:=.seq ([]:@&Value).toArray }) a es ep t:=hL.at λo e=>ag _ e;let zU:(s.heap.push { cls:=.type "list",data:=.seq ([]:@&Value).toArray }).get? s⁻¹=some { cls:=.type "list",data:=.seq ([]:@&Value).toArray }:=au _ rfl;let fN:=bH dO;let h1:Builtin.List.listSameRef (.ref s⁻¹) (.ref a)=false:=by simp[Builtin.List.listSameRef,fN]
 change wpAny _ A.in1 (Builtin.List.listExtendWith (.ref s⁻¹) (.ref a) (.ref s⁻¹)) _ _ _;show aa (de (Lies.ty uB) ?_);rw[az (by rw[h1];decide)];show aa (VD uB hw hz λr pl b f I h2 d2 hr hI hf hb QP he CL h2z=>?_);let zV:=uB.at λo e=>he a o e;let ow:=he _ _ zU;show aa (aZ ?_);show aa (wpAny_specialOf (Lies.ty zV) aH3 ?_);generalize HK:("set.__len__":String)=Qg;dsimp only;rw[show splitId Qg=some ("set","__len__") from by subst HK;decide +kernel];show aa (cL (b:=true) (Lies.ty zV) (by rfl) ?_);rw[az ∅];subst HK;rw[aw #[]];show aa (de (Lies.ty zV) ?_);show ai ?_;rw[aw #[]];show aa (dS ?_);show aa ?_;show aa (wpAny_updateSeq ow rfl ?_);let zT:=aQ (Obj.mapSeq (·.push Value.none)) ow rfl;show wpAny_updateSeq (s:={ s with heap:=_,drawn:=d2 }) zT rfl ?_;let QV:=aQ (Obj.mapSeq (·.pop)) zT rfl;let og:∀c o,c≠s⁻¹->h2.get? c=!o->((h2.update s⁻¹ (Obj.mapSeq (·.push Value.none))).update s⁻¹ (Obj.mapSeq (·.pop))).get? c=!o :=
  λc o hc e=>(bC _ _ (aU hc)).trans ((bC _ _ (aU hc)).trans e)
 let uh:s⁻¹<(s.heap.push { cls:=.type "list",data:=.seq ([]:@&Value).toArray }).objs.size:=by simp
 let hSI:=bH (av uh CL);let hSb:b≠s⁻¹:=by
  rcases QP with z|z
  .rw[z];show aU fN
  .exact bH (av uh z)
 let W:=(a22 (prog:=prog) (A:=A.in1) (ep:=ep) hh hr hb (aF (av (cG dO uh) CL))).toS;let st:Lies h2 a es ep t/\∃f,D8 h2 I a f 0 es.size ep/\O9 h2 t b pl 0 f r:=#[zV,f,hI,hf]
 let oX:=W.frame 0 ({ s with heap:=h2,drawn:=d2 }:Shared) _ s.toks st (ak _) λc hc o e=>og c o (λz=>by simp at hc;rcases hc with y|y|y<;>simp_all) e;show ai #[fY F.plain_extend_loop _,codeAny_extend_loopS W (aH hz ∅) _ (λz=>by simp at z;rcases z with y|y|y<;>simp_all) _ es.size 0 _ _ _ rfl (cJ _) oX QV (ItemsOf.nil _) λs' yJ c' hm lC xy=>?_];show aa (wpAny_load lC ?_);show ai ?_;let eS:s'={ s with heap:=s'.heap,drawn:=d2,toks:=s'.toks }:=by
  let#[lj,g',d',jO,uc]:=s';let m1:g'=s.gens:=hm.gens;let m2:d'=d2:=hm.drawn;let m3:uc=s.os:=hm.os
  grind
 let eo:yJ.toList=yx w a es ep pl r:=by
  let l1:(yx w a es ep pl r).length=es.size:=by rw[(Nt hr).length_eq];simp
  apply List.ext_getElem
  .rw[l1];simpa using xy.1
  .intro i h1 h2;have:=xy.2 i yJ.toList[i] (by simp at h1 ⊢);dsimp only at this;rw[ao h2] at this;show(aJ this).symm
 rw[eo,eS];show h _ _ d2 s'.toks (Nt hr) (λc o e=>?_) (eJ (aq lC)) hm.toks;let hc:=aq e;let n1:=aF hc;let n2:=aF (av (cG hc uh) CL);show hm.heap c o (by simp[n1,n2]) (og c o n1 (he c o (ag _ e)))
def aU3(hh:A.handled=none)(hS:j8 prog w s.heap a ks)(Ie:-ks<64)(h:∀(S:Addr) (vs:@&Value) (ns:@&Int) e h' d' jO,IntsAre vs ns->ns.Perm ks->ns.Pairwise (·<=·)->h'.get? S=!(seqObj "list" vs.toArray e)->s⁻¹<=S->(∀c o,s.heap.get? c=!o->h'.get? c=!o)->s.toks<=jO->Q (.ref S) { s with heap:=h',drawn:=d',toks:=jO }) :
  wpAny (model prog w) A (call (.builtin "sorted") [.ref a]) Q E s:=by
 let#[o,es,ep,t,ho,hx,hd,iK,hp,hn,hb,hf,hw]:=hS;let hL:Lies s.heap a es ep t:=#[#[o,ho,hx.1,hd],hf]
 let hz:es.size=-ks:=by rw[<- hp.length_eq];simp
 show Calls.call_function_entry kind_sorted plain_sorted entry_sorted (args_sorted1 _) ?_;unfold Builtin.«sorted»;show aa (m:=checkCount "sorted" 1 1 _) (ai ?_);show aa (aL6 (A:=A.in1) hh hL hw () λvs h1 d1 zt hv he uh wM=>?_);let hI:IntsAre vs (vs.map toI):=by
  let all:∀v∈vs,∃tk,v=.int (toI v) tk:=λv Cb=>by
   let#[e,xn,rfl]:=aN.mp (hv.mem_iff.mp Cb);let#[tk,h1,_]:=yL iK xn;show#[tk,h1]
  clear hv
  induction vs with
  |nil=>show .nil
  |cons v r ih =>
   let#[tk,e]:=all v #[_];have:=IntsAre.cons (toI v) tk (ih λu hu=>all u (by simp[hu]));rw[<- e] at this;show this
 let hk:(vs.map toI).Perm ks:=by
  show(hv.map toI).trans ?_;rw[kE];show hp
 let hl:-vs<64:=by rw[hv.length_eq];simp;omega
 show aa (wpAny_newList (s:={ s with heap:=h1,drawn:=d1,toks:=zt }) ?_);let wW:(h1.push (seqObj "list" vs.toArray 0)).get? h1.objs.size=!(seqObj "list" vs.toArray 0):=au _ rfl;show aa (aZ (br (s:={ s with heap:=h1.push (seqObj "list" vs.toArray 0),drawn:=d1,toks:=zt }) slot_list_sort #[_,wW,rfl] entry_list_sort (list_sort_tree wW hI hl λout BN a1 a2 a3=>#[_,rfl,?_]) (args_list_sort _)));let#[e,xn]:=sortedHeap_at (vs:=vs) (out:=out) wW;show ai #[_,rfl,h h1.objs.size out.toList BN e _ d1 zt a1 (a2.trans hk) a3 xn uh (λc o' e'=>?_) wM];let hc:=aq (he c o' e');rw[sortedHeap_old (aF hc) (by rw[size_push'];show Nat.lt_succ_of_lt hc)];show ag _ (he c o' e')
abbrev i8(ks xs:@&Int):@&Int:=xs.foldl F7 ks
def G5:∀(xs ks:@&Int),(i8 ks xs).length<=-ks+-xs
 |[],ks=>by simp[i8]
 |x::xs,ks=>by
  have:=G5 xs (F7 ks x);let h2:=MU ks x;show(i8 (F7 ks x) xs).length<=_
  grind
set_option tactic.hygienic true in
def F9:∀(xs ks:@&Int) (k:Int),k∈i8 ks xs↔k∈ks\/k∈xs
 |[],ks,k=>by simp[i8]
 |x::xs,ks,k=>by
  change k∈i8 (F7 ks x) xs↔_;rw[F9 xs];unfold F7;split
  .rename_i h;constructor
   .rintro(a|a)
    .exact .inl a
    .exact .inr (by simp[a])
   .rintro(a|a)
    .exact .inl a
    .rcases aG.mp a with rfl|b
     .exact .inl h
     .exact .inr b
  .simp[or_assoc]
set_option tactic.hygienic true in
def W5:∀(xs ks:@&Int),ks.Nodup->(i8 ks xs).Nodup
 |[],ks,h=>h
 |x::xs,ks,h=>by
  show W5 xs _ ?_;unfold F7;split
  .exact h
  .rename_i hk;rw[dw];show#[h,by simp,λa ha b hb=>by simp at hb;subst hb;show λz=>hk (z▸ha)]
def Lc:Well (Led w) (SetTable.fresh 0 0 (Led w)):=#[by simp[kB,SetTable.fresh],rfl,rfl]
def Kw(e:h.get? a=some { cls:=.type "set",dict:=none,data:=.set (List.toArray []) 0 (.fresh 0 0 (Led w)) }):j8 prog w h a [] :=
 #[_,(List.toArray []),0,_,e,#[rfl,rfl,rfl],rfl,(by intro e he;simp at he),by simp,by simp,by decide,by rfl,Lc]
def VS{R:Result->Shared->Prop}{fp wr:@&Addr}{G:Array GenState->Array GenState->Prop}{P:Nat->Value->Prop}{St:Nat->Shared->Prop}(W:WalksS prog w A.in1 I fp wr G n P St)(HW:a∉fp)(hn:n=-ns)(hv:∀i v,P i v->∃tk,v=.int (ns.getD i 0) tk)(hb:n+1<scanBound):∀(k i:Nat) (s:Shared),i+k=n->St i s->j8 prog w s.heap a (i8 [] (ns.take i)) ->
   (∀s',Moved (a::wr) G s s'->j8 prog w s'.heap a (i8 [] ns)->R (.ok (.ret .none)) s')->codeAny (model prog w) A (.builtin "set.update.loop" #[[.ref a,.ref I],[]]) R s:=by
 let hw:a∉wr:=λh=>HW (W.sub _ h);let mY:∀b∈wr,b∈a::wr:=λb hb=>by simp[hb]
 intro k
 induction k with
 |zero =>
  intro i s e st hS hR;obtain rfl:i=n:=by omega
  show dC jz ?_;show aa (W.done s _ _ st λs' m=>ai (hR s' (m.mono mY) (j8.at ?_ λo e=>m.heap a o hw e)))
  simp_all
 |succ k ih =>
  intro i s e st hS hR;let dO:i< -ns:=by omega
  show dC jz ?_;show aa (W.item i s _ _ () st λv s' hP kJ m=>?_);let#[tk,rfl]:=hv i v hP;let lC:=j8.at hS λo e=>m.heap a o hw e;let hl:=G5 (ns.take i) [];rw[cF] at hl;simp only[List.length_nil] at hl;show aa (aZ ?_);show aZ (aa ((intKind prog w).pyHash (k:=ns.getD i 0) (Bv _ _ _ _) ?_));show Iv (s:={ s' with toks:=s'.toks+1 }) lC () λh' bb sb ow=>?_;let e2:F7 (i8 [] (ns.take i)) (ns.getD i 0)=i8 [] (ns.take (i+1)):=by
   unfold i8;rw[cV,List.foldl_append,ao dO];simp[List.getD,dO]
  rw[e2] at ow;show ai #[fY PyProof.Rows.F.plain_set_update_loop _,ih (i+1) _ () (W.frame _ s' _ _ kJ (jf _) λb hb o e=>by rw[sb.2 b λz=>HW (z▸hb)];show e) ow λs2 m2 h2=>?_];show hR s2 (Moved.trans W.gtrans ((m.mono mY).then_heap (jf _) λb o hb e=>by rw[sb.2 b λz=>hb (by rw[z];simp)];show e) m2) h2
noncomputable abbrev A9(w:World):Obj:={ cls:=.type "set",dict:=none,data:=.set (List.toArray []) 0 (.fresh 0 0 (Led w)) }
def Mr(h:Q (.ref s⁻¹) { s with heap:=s.heap.push (A9 w) }):wpAny (model prog w) A (newSet (.type "set")) Q E s:=by
 show aa (V7 ?_);show bK h (cJ _)
def Ui(x:Value)(h:Q (.ref s⁻¹) { s with heap:=s.heap.push (A9 w) }):codeAny (model prog w) A (.call (.builtin "set.__new__") #[[.type "set",x],[]]) (wants Q E) s:=by
 show codeAny_of_tree (?_:wpAny _ A.in1 (do
  checkBuiltinCall "set.__new__" #[[.type "set",x],[]]
  again (.builtin "set.__new__" #[[.type "set",x],[]])) _ _ s)
 show aa (cN (F.newCall_set_1 x) (ai #[fY F.plain_set_new _,?_]));show dC F.entry_set_new ?_;let sub:=sub_set_self;show aa ?_;show aa (cN (by rfl) ?_);show aa (cN sub ?_);show ai ?_;show aa (Mr (ai h))
def EB{vs:@&Value}(h:IntsAre vs ns):-vs=-ns:=by
 induction h with
 |nil=>rfl
 |cons n t r ih=>simp[ih]
def yR(h:Heap)(l:Addr)(items:Array Value):Prop:=h.IsList l items\/h.IsTuple l items
def yR.lt(x:yR h l items):l<h.objs.size:=by
 rcases x with⟨_,e,_⟩|⟨_,e,_⟩<;>show aq e
def UB{Q:Fin->Shared->Prop}(hh:A.handled=none)(hS:s.heap.get? a=!A9 w)(hl:yR s.heap l items)(hi:IntsAre items.toList ns)(hb:items.size+1<scanBound)(fN:a≠l)(h:∀h' tk,j8 prog w h' a (i8 [] ns)->(∀b o,b≠a->s.heap.get? b=!o->h'.get? b=!o)->s.toks<=tk->wpAny (model prog w) A (ret .none) Q E { s with heap:=h',toks:=tk }) :
  wpAny (model prog w) A (Builtin.«set.__init__» #[[.ref a,.ref l],[]]) Q E s:=by
 let hT:s.TypeIs (.ref a) "set":=#[_,hS,rfl]
 let dO:=hl.lt;let zK:=aF dO;show aa (cN rfl ?_);let nm:∀{Q':String->Shared->Prop},(∀x,Q' x s)->wpAny (model prog w) A (typeNameOfCut 200 (.ref a)) Q' E s:=λ{Q'} q=>by
  show aa (aa (de hT ?_));show ai (cN (a:="set") ?_ (q _))
  rfl
 show aa (nm λx=>?_);show aa (ai ?_);show aa (ai ?_);show aa (aa (aW hS rfl rfl (ai ?_)));rw[az (by unfold SetTable.fill;simp[SetTable.fresh])];unfold Builtin.Frozenset.updateFrom Builtin.Frozenset.isAnySet;obtain⟨c,uz,xB,it,hit,HG,St,W,eZ⟩:∃c:String,(c="list"\/c="tuple")/\s.TypeIs (.ref l) c/\∃it:Obj,(∀Q':Value->Shared->Prop,Q' (.ref s⁻¹) { s with heap:=s.heap.push it }->wpAny (model prog w) A (pyIter (.ref l)) Q' E s) /\
   (∀b o,s.heap.get? b=!o->(s.heap.push it).get? b=!o)/\∃St:Nat->Shared->Prop,WalksS prog w A.in1 s⁻¹ [s⁻¹,l] [s⁻¹] (λa b=>b=a) items.size (λi v=>items[i]?=!v) St/\St 0 { s with heap:=s.heap.push it }:=by
  rcases hl with hl|hl
  .let#[o,ho,hc,_]:=id hl;show#["list",.inl rfl,#[o,ho,hc],_,λQ' q=>dE hl q,λb o e=>ag _ e,_,(mQ (A:=A.in1) hh _ l zK items).toS,#[#[_,au _ rfl,rfl,rfl],hl.push _]]
  .let#[o,ho,hc,_]:=id hl;show#["tuple",.inr rfl,#[o,ho,hc],_,λQ' q=>mM hl q,λb o e=>ag _ e,_,(Walks.tuple (A:=A.in1) hh _ l zK items).toS,#[#[_,au _ rfl,rfl,rfl],hl.push _]]
 show aa (aa (aa (cL (b:=false) xB (by rcases uz with rfl|rfl<;>(rw[fB];kernel_rfl)) ?_)));show cL (b:=false) xB (by rcases uz with rfl|rfl<;>(rw[fB];kernel_rfl)) ?_;rw[az ∅];show aa (de xB ?_);rw[az (by rcases uz with rfl|rfl<;>decide)];show aa (hit _ ?_);show aa (wpAny_runValue ?_);let QT:=aq hS;let gD:items.size=-ns:=by show EB hi
 show VS W (by simp only[List.mem_cons,List.not_mem_nil,or_false,not_or];show#[aF QT,fN]) gD (λi v hv=>IntsAre.int_at hi i v (by rw[iV];show hv)) hb items.size 0 _ ()
  eZ (Kw (HG _ _ hS)) λs' m lC=>?_
 let eS:s'={ s with heap:=s'.heap,toks:=s'.toks }:=by
  let#[lj,g',d',jO,uc]:=s';let m1:g'=s.gens:=m.gens;let m2:d'=s.drawn:=m.drawn;let m3:uc=s.os:=m.os
  simp_all
 rw[eS];show ai (h _ _ lC (λb o hb e=>?_) m.toks);show m.heap b o (by simp only[List.mem_cons,List.not_mem_nil,or_false,not_or];show#[hb,aF (aq e)]) (HG _ _ e)
def MX(hh:A.handled=none)(hl:yR s.heap l items)(hi:IntsAre items.toList ns)(hb:items.size+1<scanBound)(h:∀h' tk,j8 prog w h' s⁻¹ (i8 [] ns)->(∀b o,s.heap.get? b=!o->h'.get? b=!o)->s.toks<=tk->Q (.ref s⁻¹) { s with heap:=h',toks:=tk }) :
  wpAny (model prog w) A (call (.type "set") [.ref l]) Q E s:=by
 let cs:=F.called_set;let#[_,_,y1]:=cs.mro;let y2:=cs.made;let y3:=cs.sub;let y6:=F.typeCall_set_1 (.ref l);show wpAny_call (codeAny_of_tree (?_:wpAny _ _ (callAny (.type "set") _) _ _ _));show ai #[Code.quiet_builtin _ #[],dC F.entry_type_call ?_];rw[Around.under_plain (weight_type_call_type "set" [.ref l] []) rfl]
 repeat (any_goals (first|assumption|wp_step))
 show fC (Ui (.ref l) (E:=E) (Q:=λv s1=>v=.ref s⁻¹/\s1={ s with heap:=s.heap.push (A9 w) }) #[rfl,rfl]) ?_;rintro(e|fl) s1 hr
 .exact hr
 cases fl with
 |next=>show hr
 |brk=>show hr
 |cont=>show hr
 |ret v =>
 let#[rfl,rfl]:=hr;let hS:(s.heap.push (A9 w)).get? s⁻¹=!A9 w:=au _ rfl;let hT:Shared.TypeIs { s with heap:=s.heap.push (A9 w) } (.ref s⁻¹) "set":=#[_,hS,rfl]
 let y7:=cs.init.lookup;let y8:=cs.init.bind (.ref s⁻¹)
 repeat (any_goals (first|assumption|wp_step))
 show fC (codeAny_call_builtin (R:=wants (λv s2=>v=.none/\∃h' tk,s2={ s with heap:=h',toks:=tk }/\j8 prog w h' s⁻¹ (i8 [] ns)/\(∀b o,s.heap.get? b=!o->h'.get? b=!o)/\s.toks<=tk) E) cs.init.plain F.entry_set_init (check_set_init_1 hT ?_)) ?_
 .let pD:yR (s.heap.push (A9 w)) l items:=hl.imp (·.push _) (·.push _);let Qy:=hl.lt;show UB (by simp[hh]) hS pD hi hb (bH Qy) λh' tk h1 h2 h3=>ai #[rfl,h',tk,rfl,h1,λb o e=>h2 b o (aF (aq e)) (ag _ e),h3]
 .rintro(e|fl) s2 hr
  .exact hr
  cases fl with
  |next=>show hr
  |brk=>show hr
  |cont=>show hr
  |ret v =>
  let#[rfl,h',tk,rfl,h1,h2,h3]:=hr
  repeat (any_goals (first|assumption|wp_step))
  show h _ _ h1 h2 h3
end ST
namespace L2
open PySem PySem.Spec PyProof.Rows
abbrev qU(X:Cx)(a:Addr)(ks:@&Int):HO:=.ext λh=>ST.j8 X.prog X.w h a ks
abbrev K9(ns:@&Int):@&Int:=(ST.i8 [] ns).mergeSort (λa b=>decide (a<=b))
def Ff:∀{a b:@&Int},a.Perm b->a.Pairwise (·<=·)->b.Pairwise (·<=·)->a=b
 |[],b,h,_,_=>by simp_all
 |x::a,[],h,_,_=>absurd h.length_eq #[_]
 |x::a,y::b,h,h1,h2=>by
  rw[OQ] at h1 h2;let e:x=y:=by
   let m1:=h.mem_iff (a:=y);let m2:=h.mem_iff (a:=x);simp only[List.mem_cons,true_or,true_iff,iff_true] at m1 m2;rcases m1 with z|z
   .exact z.symm
   .grind
  subst e;rw[Ff (h.cons_inv) h1.2 h2.2]
def Lo(ns:@&Int):(K9 ns).Pairwise (·<=·):=by
 have:=List.pairwise_mergeSort (le:=λa b:Int=>decide (a<=b)) (λa b c h1 h2=>by simp at *;omega) (λa b=>by simp;omega) (ST.i8 [] ns);show this.imp λh=>by simpa using h
def Ft(ns:@&Int):(K9 ns).Perm (ST.i8 [] ns):=List.mergeSort_perm _ _
def a19(ns:@&Int):(K9 ns).length<=-ns:=by
 rw[(Ft ns).length_eq];have:=ST.G5 ns []
 simp_all
section
variable{X:Cx}{pi:@&(Addr×Obj)}{σ:St}{H:Hp}{s:Shared}
def Inv.draw(I:Inv X pi σ H s)(d:Drawn):Inv X pi σ H { s with drawn:=d } :=
 I.step (g':=s.gens) (t':=s.toks) (d':=d) (ch:=[]) #[_] (λb o x x x e x=>e) (λb o x x x e x=>#[o.slots,e]) (λb o x x e=>e) (λb o x e=>#[o,e]) (λx x e=>e) (λx x x e=>e) (λb ps e=>#[(List.toArray []),by simp[e]]) (λm hm=>hm) I.bB I.bare
def Eu{h:Heap}{a:Addr}{ks:@&Int}(x:ST.j8 X.prog X.w h a ks):j7 X.prog X.w H h a (qU X a ks) :=
 #[x,by let#[o,_,_,_,e,_]:=x;show#[o,e],λh1 h2 y k=>y.at k]
def aT1{ns:@&Int}{vs:@&Value}(h:IntsAre vs ns):Vals (ns.map V.int) vs:=by
 induction h with
 |nil=>show .nil
 |cons n t r ih=>show .cons #[t,rfl] ih
def Fm:∀{ns:@&Int} {vs:@&Value},Vals (ns.map V.int) vs->IntsAre vs ns
 |[],_,h=>by cases h;show .nil
 |n::ns,_,h=>by
  cases h with
  |cons r rr =>
   let#[t,rfl]:=r;show .cons n t (Fm rr)
def LC(hc:X.calm=true):k9 X (.type "set") (λxs H Q=>∃a ns,xs=[.ref a]/\fT X.K H a (ns.map V.int)/\-ns<60/\∀p,H p=none->Q (.ref p) (upd H p (qU X p (ST.i8 [] ns)))):=by
 intro pi s σ H xs us Q I r h;let#[a,ns,rfl,hq,hl,q]:=h;cases r with
 |cons r rr =>
 cases rr;cases r;let#[aS,rv,p,hz]:=I.list hq;let hI:=Fm rv;let hlen:=ST.EB hI;show ST.MX (ns:=ns) (I.ok.hd hc) (.inl p.isList) (_/hI) (by rw[aK,hlen];show av (Nat.succ_lt_succ hl) ∅) λh' tk hS hk x=>?_;show#[.ref _,_,I.laid (a:=s⁻¹) (t':=tk) hk (ak _) (Eu hS),rfl,q _ (I.bB.fresh (ak _))]
def LD(hc:X.calm=true):k9 X (.type "set") (λxs H Q=>∃a ns,xs=[.ref a]/\gF X.K H a (ns.map V.int)/\-ns<60/\∀p,H p=none->Q (.ref p) (upd H p (qU X p (ST.i8 [] ns)))):=by
 intro pi s σ H xs us Q I r h;let#[a,ns,rfl,hq,hl,q]:=h;cases r with
 |cons r rr =>
 cases rr;cases r;let#[aS,rv,p,hz]:=I.tuple hq;let hI:=Fm rv;let hlen:=ST.EB hI;show ST.MX (ns:=ns) (I.ok.hd hc) (.inr (show s.heap.IsTuple a aS.toArray from p)) (_/hI) (by rw[aK,hlen];show av (Nat.succ_lt_succ hl) ∅) λh' tk hS hk x=>?_;show#[.ref _,_,I.laid (a:=s⁻¹) (t':=tk) hk (ak _) (Eu hS),rfl,q _ (I.bB.fresh (ak _))]
def X8(hc:X.calm=true):k9 X (.builtin "sorted") (λxs H Q=>∃a ns,xs=[.ref a]/\H a=!qU X a (ST.i8 [] ns)/\-ns<60/\∀p,H p=none->Q (.ref p) (upd H p (.lst ((K9 ns).map V.int)))):=by
 intro pi s σ H xs us Q I r h;let#[a,ns,rfl,ha,hl,q]:=h;cases r with
 |cons r rr =>
 cases rr;cases r;let hS:ST.j8 X.prog X.w s.heap a (ST.i8 [] ns):=(I.bB a _ ha).1;let hn:=ST.G5 ns [];simp only[List.length_nil] at hn;show ST.aU3 (I.ok.hd hc) hS () λS vs BN e h' d' jO h1 h2 h3 h4 h5 h6 x=>?_;let e1:BN=K9 ns:=Ff (h2.trans (Ft ns).symm) h3 (Lo ns);subst e1;let hz:=a19 ns;show#[.ref S,_,(I.laid (a:=S) (o:=.lst ((K9 ns).map V.int)) (t':=jO) h6 h5 #[by rw[aj];show aH hz (aH (eJ hl) ∅),vs,e,aT1 h1,h4]).draw d',rfl,q S (I.bB.fresh h5)]
end
end L2
namespace ST
open PySem PyProof.Rows
end ST
namespace L2
open PySem PySem.Spec PyProof.Rows
end L2
namespace HT
open PySem PyProof.Rows Builtin
def an5:fillsNumberSlot (.type "tuple") "mul"=pure false :=
 PySem.fillsNumberSlot_seq F.slot_tuple_mul.lookup #[] F.slot_tuple_rmul.lookup #[]
def aF0:seqRepeat? (.type "tuple")=pure (!(.builtin "tuple.__mul__")):=by
 rfl
def av8(a:Int)(t:Tok)(l:Addr)(items:Array Value)(n:Nat)(dd:Option Addr)(sl:Array (Option Value)) :
  Meets (Builtin.«int.__rmul__» #[[.int a t,.ref l],[]]) (λx R s=>s.heap.get? l=some { cls:=.type "tuple",dict:=dd,data:=.seq items n,slots:=sl }/\R (.ok (.ret Value.notImplemented)) s) :=
 .of_wp λprog w A R s h=>by let#[hl,h]:=h;wp_walk;show#[_,rfl,h]
section
variable{prog:Program}{w:World}{A:Around}{E:Value->Shared->Prop}{s:Shared}
def aX2(aS:@&Value):∀(m:Nat) (acc:Array Value),List.foldl (λx1 x2=>x1++x2) acc (List.replicate m aS.toArray)=acc++(List.replicate m aS).flatten.toArray:=by
 intro m
 induction m with
 |zero=>intro acc;simp
 |succ m ih=>intro acc;rw[dD,fQ,ih,dD,List.flatten_cons];simp
def a11{a:Addr}{aS:@&Value}{n:Int}{t:Tok}{Q:Value->Shared->Prop}(ht:IsTup s.heap a aS.toArray)(fN:aS≠[])(h1:1<=n)(h2:n<2 ^ 62)(hz:-aS*n.toNat<=sizeLine)(q1:n=1->Q (.ref a) s)(q2:Q (.ref s⁻¹) { s with heap:=s.heap.push { cls:=.type "tuple",data:=.seq (List.replicate n.toNat aS).flatten.toArray } }):wpAny (model prog w) A (binaryOp .Mult (.ref a) (.int n t)) Q E s:=by
 let#[o,ho,hc,k,hd]:=id ht;let#[cls,dict,data,slots]:=o;subst hc hd;let he:aS.toArray.isEmpty=false:=by grind
 show GN ∅ ht.typeIs (λs'=>mP s' n t) an5 F.fills_int_mul jN aF0 F.slot_int_index.lookup
  (cE jN (mP s n t) F.entry_int_rmul (F.args_int_rmul_2 _ _) (av8 n t a aS.toArray k dict slots) #[ho,rfl,ht.typeIs,?_])
 show br F.slot_tuple_mul ht.typeIs F.entry_tuple_mul ?_ (F.args_tuple_mul_2 _ _);show aa (cN (show asIndex (.int n t)=pure n from rfl) ?_);rw[az (by simp only[Bool.or_eq_true,decide_eq_true_eq];omega)];show aa (vz ht ?_);let big:¬((aS.toArray.size:Int)*n>(2 ^ 63-1) / 8):=by
  rw[aK];have:((-aS*n.toNat:Nat):Int)=(-aS:Int)*n:=by grind
  let hs:sizeLine<2 ^ 59:=by decide
  omega
 let many:¬(Builtin.Tuple.tupleTooMany ((aS.toArray.size:Int)*n)=true):=by
  unfold Builtin.Tuple.tupleTooMany
  grind
 let gD:sizeOk (.seq (List.replicate n.toNat aS).flatten.toArray):=by
  show(List.replicate n.toNat aS).flatten.toArray.size<=sizeLine;simp only[List.size_toArray,List.length_flatten,List.map_replicate,List.sum_replicate_nat];rw[vE];show hz
 by_cases e1:n=1
 .subst e1;rw[aw (by rw[he];rfl)];show aa (aa (de ht.typeIs (ai ?_)))
  first
   |show aa (dS (aa (ai #[_,rfl,ai (q1 rfl)])))
   |show aa (dS (ai #[_,rfl,(q1 rfl)]))
   |show aa (dS (ai #[_,rfl,ai (q1 rfl)]))
 .rw[az (by rw[he];simpa using e1)];rw[az (by grind),az big,az many];rw[show List.foldl (λx1 x2=>x1++x2) (List.toArray []) (List.replicate n.toNat aS.toArray)=(List.replicate n.toNat aS).flatten.toArray by rw[aX2];simp]
  first
   |show aa (bK (ai #[_,rfl,q2]) gD)
   |show aa (bK (ai #[_,rfl,ai q2]) gD)
end
end HT
namespace L2
open PySem PySem.Spec PyProof.Rows
section
variable{X:Cx}
def Xs(K:PySem.W.Frag):R2:=λx y H Q=>∃(a:Addr) (n:Int) (xs:@&V),x=.ref a/\y=.int n/\gF K H a xs/\xs≠[]/\1<=n/\n<2 ^ 62/\-xs*n.toNat<=sizeLine /\
 (n=1->Q (.ref a) H)/\(∀p,H p=none->Q (.ref p) (upd H p (.tup (List.replicate n.toNat xs).flatten)))
def Su:fj X (binaryOp .Mult) (Xs X.K):=by
 intro pi s σ H x y v u Q I rx ry h;let#[a,n,xs,rfl,rfl,ha,fN,h1,h2,hz,q1,q2]:=h;cases rx;let#[tk,rfl]:=ry;let#[aS,r,p,_]:=I.tuple ha;show HT.a11 p (λz=>fN (r.T7.mp z)) h1 h2 (by rw[<- -r];show hz) (λe=>#[.ref a,H,I,rfl,q1 e]) ?_;show#[.ref s⁻¹,_,I.laid (t':=s.toks) (λb ob q=>ag _ q) (ak _) ?_,rfl,q2 _ (I.bB.fresh (ak _))];show#[by rw[len_rep,vE];show hz,_,r.rep _,F8.new _ _]
abbrev E3(sep:Str)(ys:@&Str):Nat:=ys.foldl (λn y=>n+-y+-sep) 0
def a16:∀{ys:@&Str} {vs:@&Value},Vals (ys.map V.str) vs->∃l:@&(Str×Tok),vs=strValues l/\l.map (·.1)=ys:=by
 intro ys
 induction ys with
 |nil=>intro vs h;cases h;show#[[],rfl,rfl]
 |cons y ys ih =>
  intro vs h;cases h with
  |cons r rr =>
   let#[t,rfl]:=r;let#[l,rfl,e]:=ih rr;show#[(y,t)::l,rfl,by simp_all]
def a90(sep:Str):∀(ps:@&Str) (acc:Array Nat) (n:Nat),acc.size<=n->(ps.foldl (λacc p=>acc++sep.cps++p.cps) acc).size<=ps.foldl (λn y=>n+-y+-sep) n:=by
 intro ps
 induction ps with
 |nil=>intro acc n h;show h
 |cons p ps ih =>
  intro acc n h;rw[fQ,fQ];show ih _ _ ?_;rw[Array.size_append,Array.size_append];have:-p=p.cps.size:=rfl;have:-sep=sep.cps.size:=rfl;omega
def ES(sep:Str)(ys:@&Str):(Builtin.Str.glued sep ys).length<=E3 sep ys:=by
 cases ys with
 |nil=>show ak _
 |cons y ys =>
  show((ys.foldl (λacc p=>acc++sep.cps++p.cps) y.cps)).size<=ys.foldl (λn y=>n+-y+-sep) (0+-y+-sep);show a90 sep ys _ _ ?_;have:-y=y.cps.size:=rfl;omega
def Sh:kU X "str.join" (λx xs H Q=>∃sep a ys,x=.str sep/\xs=[.ref a]/\fT X.K H a (ys.map V.str)/\E3 sep ys<=sizeLine/\Q (.str (Builtin.Str.glued sep ys)) H):=by
 intro pi s σ H x xs v us Q I rx r h;let#[sep,a,ys,rfl,rfl,hq,hz,q]:=h;let#[t,rfl]:=rx;cases r with
 |cons r rr =>
 cases rr;cases r;let#[aS,rv,pl,_]:=I.list hq;let#[l,rfl,el]:=a16 rv;let hl:Builtin.Str.tooLong ((l.map (·.1)).toArray.foldl (·+·.length+-sep) 0)=false:=by
  unfold Builtin.Str.tooLong;rw[aM,List.foldl_toArray,el];show oN.mpr hz
 show cE F.slot_str_join (mO s sep t) F.entry_str_join (F.args_str_join_2 _ _) (meets_str_join_list sep t a l hl) #[pl.isList,?_];let fin:wants (EP X pi σ Q) X.xe (Except.ok (Flow.ret (.str (Builtin.Str.glued sep ys) s.toks))) { s with toks:=s.toks+1 }:=#[.str _,H,I.tok _,#[_,rfl],q]
 let gen:(Made.str (Builtin.Str.glued sep (l.map (·.1)))).post (λv s'=>wants (EP X pi σ Q) X.xe (Except.ok (Flow.ret v)) s') s:=by
  rw[el];show#[aH (ES sep ys) hz,fin]
 rcases l with _|⟨p,_|⟨p2,l⟩⟩
 .exact gen
 .subst el;show#[.str p.1,H,I,#[_,rfl],q]
 .exact gen
end
end L2
namespace HT
open PySem PyProof.Rows Builtin PySem.SeqAt
def aA1(l:Addr)(items:Array Value)(n:Nat)(dd:Option Addr)(sl:Array (Option Value))(x:Value)(e:Value->Bool)(j:Nat)(hj:j<items.size)(hit:e items[j]=true)(kO:∀m (hm:m<items.size),m<j->e items[m]=false) :
    Meets (Builtin.«tuple.index» #[[.ref l,x],[]])
      (λA R s=>s.heap.get? l=some { cls:=.type "tuple",dict:=dd,data:=.seq items n,slots:=sl }/\(∀y,y∈items->EqAt A.in1 s y x (e y))/\R (.ok (.ret (.int j s.toks))) { s with toks:=s.toks+1 }) :=
  .of_wp λprog w A R s h=>by
    let#[hp,g,d,tk,os]:=s;let#[hl,he,h]:=h
    wp_walk using wpAny_loadPart' hl
    change wpAny (model prog w) A.in1 (forIn ([:Min.min items.size items.size]:Std.Legacy.Range) ((none,Unit.unit):Option PySem.Fin × Unit) (λ(i:Nat) __s =>
            match items[i]? with
            |some y=>do
              let __do_lift <- eqBool y x
              if __do_lift=true then do
                  let __do_lift <- retInt (i:Nat)
                  pure (ForInStep.done (!__do_lift,Unit.unit))
                else pure (ForInStep.yield (none,Unit.unit))
            | x=>pure (ForInStep.yield (none,Unit.unit)))) _ _ _
    rw[Std.Legacy.Range.forIn_eq_forIn_range'];show wpAny_forIn_list _ (λrest b s'=>b=(none,Unit.unit)/\s'=#[hp,g,d,tk,os]/\∃i,rest=List.range' i (items.size-i)/\i<=j) _ ?_ ?_ _ _ #[rfl,rfl,0,by simp,cJ _]
    . rintro y rest b s' ⟨rfl,rfl,i,hr,hi⟩;let dO:i<items.size:=by omega
      rw[show items.size-i=(items.size-(i+1))+1 by omega,List.range'_succ] at hr;cases hr;rw[show items[y]?=some items[y] from dg dO];show aa (he _ (Array.getElem_mem dO) prog w _ _ ?_);by_cases js:y=j
      . subst js
        wp_walk
        show#[_,rfl,h]
      . rw[kO y dO ()]
        wp_walk
        grind
    . rintro b s' ⟨rfl,rfl,i,hr,hi⟩;exfalso;have:=ij List.length hr
      grind
section
variable{prog:Program}{w:World}{A:Around}{E:Value->Shared->Prop}{s:Shared}
def a56:typeLookup (.type "tuple") (dunderI "add")=pure none:=by
 kernel_rfl
def Uz{t b:Addr}{vs ws:@&Value}{Q:Value->Shared->Prop}(ht:IsTup s.heap t vs.toArray)(hb:IsTup s.heap b ws.toArray)(h0:vs=[]->Q (.ref b) s)(h1:ws=[]->Q (.ref t) s)(h2:Q (.ref s⁻¹) { s with heap:=s.heap.push { cls:=.type "tuple",data:=.seq (vs++ws).toArray } })(gD:-vs+-ws<=sizeLine):wpAny (model prog w) A (inplaceOp .Add (.ref t) (.ref b)) Q E s:=by
 let#[#[cls,dd,data,sl],ho,hc,n,hd]:=id ht;let#[#[yj,qO,data2,kY],jq,qE,n2,hd2]:=id hb;subst hc hd qE hd2;let e:vs.toArray++ws.toArray=(vs++ws).toArray:=by simp
 show wpAny_inplaceOp_concat #[_,ho,rfl] #[_,jq,rfl] a56 je mw ?_;by_cases hv:vs=[]
 .subst hv;show cE rh #[_,ho,rfl] oR (mU _ _) (tuple_addW0 t b (List.toArray []) ws.toArray n n2 dd qO sl kY rfl) #[ho,jq,h0 rfl]
 by_cases hw:ws=[]
 .exact cE rh #[_,ho,rfl] oR (mU _ _) (tuple_addW1 t b vs.toArray ws.toArray n n2 dd qO sl kY (_/hv) (by simp[hw])) #[ho,jq,h1 hw]
 .refine cE rh #[_,ho,rfl] oR (mU _ _) (tuple_addW2 t b vs.toArray ws.toArray n n2 dd qO sl kY (_/hv) (_/hw) ()) #[ho,jq,?_];rw[e];show h2
end
end HT
namespace L2
open PySem PySem.Spec PyProof.Rows
variable{xs:@&V}
section
variable{X:Cx}
def As(ys:@&V)(y:V)(n:Nat):Prop:=ys.all N8=true/\N8 y=true/\(∃z,ys[n]?=!z/\lD z y=true)/\∀(m:Nat) z,m<n->ys[m]?=!z->lD z y=false
def Ey:∀{xs:@&V} {us:@&Value} {i:Nat} (hi:i< -us),Vals xs us->∃x,xs[i]?=!x/\RelV x us[i]
 |_,_,0,hi,.cons r _=>#[_,rfl,r]
 |_,_,i+1,hi,.cons _ t=>by
  let#[x,h1,h2]:=Ey (_/hi) t;show#[x,by simpa using h1,by simpa using h2]
def JH(h:xs.all N8=true){i:Nat}{x:V}(e:xs[i]?=!x):N8 x=true:=cT.mp h x (aP e)
def Ku{ys:@&V}{y:V}{n:Nat}{aS:@&Value}(F:As ys y n)(r:Vals ys aS):∃hn:n<aS.toArray.size,uF y aS.toArray[n]=true/\∀m (hm:m<aS.toArray.size),m<n->uF y aS.toArray[m]=false:=by
 let#[fs,fy,#[z,hz,he],kO]:=F;let hl:=-r;let hn:n< -aS:=by
  grind
 show#[by simpa using hn,?_,λm hm Cm=>?_]
 .let#[x,hx,rx]:=Ey hn r;rw[hz] at hx;cases hx;rw[By,Gh rx (JH fs hz)];show he
 .let uq:m< -aS:=by simpa using hm
  let#[x,hx,rx]:=Ey uq r;rw[By,Gh rx (JH fs hx)];show kO m x Cm hx
abbrev MC(K:PySem.W.Frag):V->@&V->Hp->VK->Prop:=λx xs H Q=>∃a ys y n,x=.ref a/\xs=[y]/\gF K H a ys/\As ys y n/\Q (.int n) H
abbrev MB(K:PySem.W.Frag):V->@&V->Hp->VK->Prop:=λx xs H Q=>∃a ys y n,x=.ref a/\xs=[y]/\fT K H a ys/\As ys y n/\n<2 ^ 62/\Q (.int n) H
def a57:kU X "tuple.index" (MC X.K):=by
 intro pi s σ H x xs v us Q I rx r h;let#[a,ys,y,n,rfl,rfl,hq,W,q]:=h;cases rx;cases r with
 |cons ry rr =>
 cases rr;let#[aS,rv,p,hz]:=I.tuple hq;let#[hn,hit,kO]:=Ku W rv;let#[#[cls,dd,data,sl],ho,hc,k,hd]:=id p;simp only at hc hd;subst hc hd;show cE F.slot_tuple_index p.typeIs F.entry_tuple_index (F.args_tuple_index_2 _ _) (HT.aA1 a aS.toArray k dd sl _ (uF y) n hn hit kO) #[ho,λw hw=>EI ry W.2.1 rv W.1 w (_/hw),#[.int n,H,I.tok _,#[_,rfl],q]]
def a58(hu:X.A.units+100<cLine):kU X "list.index" (MB X.K):=by
 intro pi s σ H x xs v us Q I rx r h;let#[a,ys,y,n,rfl,rfl,hq,W,nD,q]:=h;cases rx;cases r with
 |cons ry rr =>
 cases rr;let#[aS,rv,p,hz]:=I.list hq;let pt:=p.isList.typeIs;let#[#[cls,dd,data,sl],k,ho,hc,HR,hd]:=id p;simp only at hc HR hd;subst hc HR hd;let#[hn,hit,kO]:=Ku W rv;show cE F.slot_list_index pt F.entry_list_index (F.args_list_index_2 _ _) (SeqAt.list_indexAt a aS.toArray k none sl _ (uF y) n hn () hit kO) #[ho,λw hw=>EI ry W.2.1 rv W.1 w (_/hw),#[.int n,H,I.tok _,#[_,rfl],q]]
abbrev yS(K:PySem.W.Frag)(H:Hp)(a:Addr)(xs:@&V):Prop :=
 H a=!.tup xs\/∃(o:Obj) (aS:Array Value) (n:Nat),K.lookup a=!o/\o.cls=.type "tuple"/\o.dict=none/\o.data=.seq aS n/\aS.size<=sizeLine/\Vals xs aS.toList
def yS.sq{K:PySem.W.Frag}{H:Hp}{a:Addr}(h:yS K H a xs):gF K H a xs:=by
 rcases h with h|⟨o,aS,n,h1,h2,_,h3,h4,h5⟩
 .exact .inl (.inl h)
 .exact .inr #[o,aS,n,h1,h2,h3,h4,h5]
def Inv.Wf{pi:@&(Addr×Obj)}{σ:St}{H:Hp}{s:Shared}{a:Addr}(I:Inv X pi σ H s)(h:yS X.K H a xs):s.TypeIs (.ref a) "tuple"/\∀b,Value.ref a=.ref b->∃ob,s.heap.get? b=!ob/\ob.dict=none:=by
 rcases h with h|⟨o,aS,n,h1,h2,h3,_⟩
 .let#[_,aS,_,o,e,c,_,d]:=(show j7 X.prog X.w H s.heap a (.tup xs) from I.bB a _ h)
  show#[#[o,e,c],λb q=>by cases q;show#[o,e,d]]
 .exact#[#[o,I.fZ a o h1,h2],λb q=>by cases q;show#[o,I.fZ a o h1,h3]]
def bE4(K:PySem.W.Frag)(to:TE)(t:TA):TE:=λσ H Q=>to σ H λx H1=>(∃a xs,x=.ref a/\fT K H1 a xs/\t σ H1 λys H2=>MB K x ys H2 Q)\/(∃a xs,x=.ref a/\yS K H1 a xs/\t σ H1 λys H2=>MC K x ys H2 Q)
def Vb{o e:Expr}{es:@&Expr}{to:TE}{t:TA}{apos eG:Pos}(hu:X.A.units+100<cLine)(ho:PE X o to)(ha:PA X (e::es) t)(fW:attributeBase o "index" X.env (eval o X.env)=eval o X.env)(kR:((backTo eG (starEach (e :: es) X.env)).all (λx=>~~~x.1) && (backToKw eG (keywordEach [] X.env)).all (λx=>x.1.isSome)
   && decide ((e :: es).length + ([]:@&Keyword).length + (if ([]:@&Keyword).isEmpty then 0 else 1) < 30))=true)(fV:(apos.endLine==eG.line)=true)(hs:starEach (e::es) X.env=(false,eval e X.env)::starEach es X.env)(eU:(backTo eG (starEach es X.env)).any (·.1)=false) :
  PE X (.Call (.Attribute o "index" apos) (e::es) [] eG) (bE4 X.K to t):=by
 intro pi s σ H Q I h;show wpAny_Call_method_late fW kR fV rfl (cB (ho pi s σ H _ I h) λv s1 bh=>?_);let#[x,H1,I1,r1,q1]:=bh;rcases q1 with⟨a,xs,rfl,hq,q1⟩|⟨a,xs,rfl,hq,q1⟩
 .cases r1;let#[aS,rv,pl,hz]:=I1.list hq;let pt:=pl.isList.typeIs;let#[ob,k,e1,_,e2,_]:=id pl;show#["list","list.index",F.plainAttrs_list,F.slot_list_index,F.type_list_index,pt,λb q=>by cases q;show#[ob,e1,e2],?_];let hA:=ha eG pi s1 σ H1 _ I1 q1;rw[hs] at hA ⊢;show fG (by show(false||(backTo eG (starEach es X.env)).any (·.1))=false;rw[eU]<;>rfl) (gk ?_);show cB hA (by rintro us s2 ⟨vs,H2,I2,r2,q2⟩;show a58 hu pi s2 σ H2 (.ref a) vs (.ref a) us Q I2 rfl r2 q2)
 .cases r1;let#[pt,hd]:=I1.Wf hq;show#["tuple","tuple.index",F.plainAttrs_tuple,F.slot_tuple_index,F.type_tuple_index,pt,hd,?_];let hA:=ha eG pi s1 σ H1 _ I1 q1;rw[hs] at hA ⊢;show fG (by show(false||(backTo eG (starEach es X.env)).any (·.1))=false;rw[eU]<;>rfl) (gk ?_);show cB hA (by rintro us s2 ⟨vs,H2,I2,r2,q2⟩;show a57 pi s2 σ H2 (.ref a) vs (.ref a) us Q I2 rfl r2 q2)
abbrev Xr(K:PySem.W.Frag):V->V->Hp->VK->Prop:=λx y H Q=>(∃i j,x=.int i/\y=.int j/\Q (.int (i+j)) H) \/
 ∃a b xs ys,x=.ref a/\y=.ref b/\gF K H a xs/\gF K H b ys/\-xs+-ys<=sizeLine/\(xs=[]->Q (.ref b) H)/\(ys=[]->Q (.ref a) H)/\(∀p,H p=none->Q (.ref p) (upd H p (.tup (xs++ys))))
def Mh:DL X .Add (Xr X.K):=by
 rintro pi s σ H x y u v Q I rx ry h;rcases h with h|⟨a,b,xs,ys,rfl,rfl,ha,hb,hz,q0,q1,q2⟩
 .exact Yj pi s σ H x y u v Q I rx ry h
 .cases rx;cases ry;let#[aS,r1,p1,_]:=I.tuple ha;let#[lS,r2,p2,_]:=I.tuple hb;show HT.Uz p1 p2 (λz=>#[.ref b,H,I,rfl,q0 (r1.T7.mp z)]) (λz=>#[.ref a,H,I,rfl,q1 (r2.T7.mp z)]) ?_ (by rw[<- -r1,<- -r2];show hz);show#[.ref s⁻¹,_,I.laid (t':=s.toks) (λb ob q=>ag _ q) (ak _) ?_,rfl,q2 _ (I.bB.fresh (ak _))];show#[by rw[bg];show hz,_,r1.append r2,F8.new _ _]
end
end L2
namespace ST
open PySem PyProof.Rows
variable{mask ep n:Nat}{h:Heap}{ks ms:@&Int}{es:Array (Int×Value)}{t:SetTable}{o:Obj}
def bB1{i p fuel:Nat}{owner:Array (Option Nat)}(h:owner.getD i (!0)=none):SetTable.layClean.free mask owner (fuel+1) i p=!i:=by
 unfold SetTable.layClean.free;let e:SetTable.runEnd mask i+1-i=(SetTable.runEnd mask i-i)+1:=by
  unfold SetTable.runEnd;split<;>omega
 rw[e,vF,iN];rw[Nat.add_zero,h]
 rfl
def Spot(k:Int):Prop:=0<=k/\k<8
structure Own(mask:Nat)(owner:Array (Option Nat))(pre:@&Int):Prop where
 sz:owner.size=mask+1
 fwd:∀(i:Nat) (k:Int),pre[i]?=!k->owner[k.toNat]?=!!i
 bwd:∀(j i:Nat),owner[j]?=!!i->pre[i]?=!(j:Int)
def Mm{mask:Nat}(hm:7<=mask):∀(hs pre:@&Int) (owner:Array (Option Nat)),(pre++hs).Nodup->(∀k∈pre++hs,Spot k)->Own mask owner pre ->
  ∃ jG,Own mask jG (pre ++ hs)/\hs.foldl (λacc h=>do
   let (owner,k) <- acc
   let j <- SetTable.layClean.free mask owner (SetTable.turns mask) (SetTable.bits h % (mask+1)) (SetTable.bits h)
   pure (owner.setIfInBounds j (!k),k + 1)) (!(owner,(-pre)))=!(jG,(pre ++ hs).length)
 |[],pre,owner,_,_,o=>#[owner,by simpa using o,by simp]
 |h::hs,pre,owner,hn,hp,o=>by
  let#[h0,h8]:=hp h #[_];let eb:SetTable.bits h % (mask+1)=h.toNat:=by
   unfold SetTable.bits;rw[Int.emod_eq_of_lt h0 ()];show Nat.mod_eq_of_lt ()
  let dO:h.toNat<owner.size:=by rw[o.sz];omega
  let lA:owner[h.toNat]?=!none:=by
   rw[dg dO];cases e:owner[h.toNat] with
   |none=>rfl
   |some i =>
    have:=o.bwd h.toNat i (by rw[dg dO,e]);rw[GQ h0] at this;let hm:=aP this;rw[dw] at hn;show absurd rfl (hn.2.2 h hm h #[_])
  let ef:SetTable.layClean.free mask owner (SetTable.turns mask) (SetTable.bits h % (mask+1)) (SetTable.bits h)=!h.toNat:=by
   rw[eb];show bB1 (by rw[nZ,lA];rfl)
  let o':Own mask (owner.setIfInBounds h.toNat (!(-pre))) (pre++[h]):=by
   show#[by rw[Array.size_setIfInBounds];show o.sz,λi k hi=>?_,λj i hj=>?_]
   .rw[List.getElem?_append] at hi;split at hi
    .let hk:=o.fwd i k hi
     grind
    .have:i- -pre=0:=by
      cases e:i- -pre with
      |zero=>rfl
      |succ n=>rw[e] at hi;simp at hi
     rw[this] at hi;cases hi;have:i=-pre:=by omega
     subst this;rw[ja dO]
   .by_cases e:h.toNat=j
    .subst e;rw[ja dO] at hj;cases hj;rw[GQ h0];simp
    .rw[Array.getElem?_setIfInBounds_ne e] at hj;have:=o.bwd j i hj;rw[ay (ax.mp this).1];show this
  let#[jG,o2,e2]:=Mm hm hs (pre++[h]) _ (_/hn) (_/hp) o';show#[jG,by simpa using o2,?_]
  simp_all
def aW7{finger moves:Nat}{led plain:Bool}{hashes:Array Int}(hm:7<=mask)(hn:hashes.toList.Nodup)(hs:∀k∈hashes.toList,Spot k) :
  ∃t o,SetTable.laid mask finger moves led plain hashes=!(t,o)/\o.toList.Perm (List.range hashes.size)/\t.mask=mask/\t.place.size=hashes.size:=by
 let o0:Own mask (Array.replicate (mask + 1) none) []:=#[by simp,λi k h=>by simp at h,λj i h=>by
  rw[Array.getElem?_replicate] at h
  simp_all]
 let#[owner,o,e]:=Mm hm hashes.toList [] _ (_/hn) (_/hs) o0;let el:SetTable.layClean mask hashes=!owner:=by
  unfold SetTable.layClean;rw[<- Array.foldl_toList];have:=e;simp only[List.length_nil] at this;rw[this]
  rfl
 let hP:((List.range (mask+1)).filterMap λj=>owner.getD j none).Perm (List.range hashes.size):=by
  let gd:∀j i,owner.getD j none=some i↔owner[j]?=!!i:=λj i=>by
   rw[nZ];cases owner[j]? with
   |none=>simp
   |some x=>simp
  show(cW ?_ List.nodup_range).mpr λi=>?_
  .unfold List.Nodup;rw[List.pairwise_filterMap];show List.Pairwise.imp ?_ iD;intro a b zR x hx y hy z;subst z;let h1:=o.bwd a x ((gd _ _).mp hx);let h2:=o.bwd b x ((gd _ _).mp hy);rw[h1] at h2
   grind
  .rw[gi,gh];constructor
   .rintro⟨j,_,hj⟩;have:=(ax.mp (o.bwd j i ((gd _ _).mp hj))).1;simpa using this
   .intro hi;let kQ:i< -hashes.toList:=by simpa using hi
    let hg:=ao kQ;let hk:=hs _ (eK kQ);show#[(hashes.toList[i]).toNat,gh.mpr ?_,(gd _ _).mpr (o.fwd i _ hg)];have:=hk.2;omega
 show#[{ mask,place:=((List.filterMap (λj=>(owner.getD j none).map (j,·)) (List.range (mask+1))).map (·.1)).toArray,dummies:=(List.toArray []),finger,led,moves,plain },((List.filterMap (λj=>(owner.getD j none).map (j,·)) (List.range (mask+1))).map (·.2)).toArray,?_,?_,rfl,?_]
 .unfold SetTable.laid;rw[el]
  rfl
 .rw[GP,OR];have:(λj=>Option.map (λx:Nat×Nat=>x.2) (Option.map (λx=>(j,x)) (owner.getD j none)))=λj=>owner.getD j none:=by
   funext j
   cases owner.getD j none<;>rfl
  rw[this];show hP
 .rw[aK,aj];have:=hP.length_eq;rw[kF] at this;rw[<- this];let e3:(List.range (mask+1)).filterMap (λj=>owner.getD j none)=(List.filterMap (λj=>(owner.getD j none).map (j,·)) (List.range (mask+1))).map (·.2):=by
   rw[OR]
   congr 1
   funext j
   cases owner.getD j none<;>rfl
  rw[e3,aj]
section
variable{prog:Program}{w:World}{A:Around}{E:Value->Shared->Prop}{s:Shared}{a:Addr}
abbrev pZ(prog:Program)(w:World)(h:Heap)(a:Addr)(ks:@&Int):Prop :=
 ∃o es ep t,h.get? a=!o/\o.ExactSet/\o.data=.set es ep t/\ElemsOf (intKind prog w) es.toList/\(es.toList.map λe=>toI e.2).Perm ks/\ks.Nodup/\es.size<scanBound/\t.fits es.size=true/\Well (Led w) t/\(ks=[]->7<=t.mask)
def pZ.toW(x:pZ prog w h a ks):j8 prog w h a ks:=by
 let#[o,es,ep,t,h1,h2,h3,h4,h5,h6,h7,h8,h9,_]:=x;show#[o,es,ep,t,h1,h2,h3,h4,h5,h6,h7,h8,h9]
def j8.toV(x:j8 prog w h a ks)(hn:ks≠[]):pZ prog w h a ks:=by
 let#[o,es,ep,t,h1,h2,h3,h4,h5,h6,h7,h8,h9]:=x;show#[o,es,ep,t,h1,h2,h3,h4,h5,h6,h7,h8,h9,λz=>absurd z hn]
def j8.same{us:@&Int}(x:j8 prog w h a ks)(hp:ks.Perm us):j8 prog w h a us:=by
 let#[o,es,ep,t,h1,h2,h3,h4,h5,h6,h7]:=x;show#[o,es,ep,t,h1,h2,h3,h4,h5.trans hp,hp.nodup_iff.mp h6,h7]
def a87{k:Int}(h:Spot k):(intKind prog w).hash k=k:=by
 let#[h0,h8]:=h;change hashInt k=k;have:k=0\/k=1\/k=2\/k=3\/k=4\/k=5\/k=6\/k=7:=by omega
 rcases this with rfl|rfl|rfl|rfl|rfl|rfl|rfl|rfl<;>decide +kernel
def aI2(iK:ElemsOf (intKind prog w) es.toList)(hp:(es.toList.map λe=>toI e.2).Perm ks)(hs:∀k∈ks,Spot k):(es.map (·.1)).toList=es.toList.map λe=>toI e.2:=by
 rw[Array.toList_map];show List.map_congr_left λe he=>?_;let#[tk,h1,h2]:=yL iK he;rw[h2];show a87 (hs _ (hp.mem_iff.mp (aN.mpr #[e,he,rfl])))
def Ml{finger moves:Nat}{led plain:Bool}(hm:7<=mask)(gD:es.size<=mask)(hl:led=Led w)(iK:ElemsOf (intKind prog w) es.toList)(hp:(es.toList.map λe=>toI e.2).Perm ks)(hn:ks.Nodup)(hs:∀k∈ks,Spot k) :
  ∃t o,SetTable.laid mask finger moves led plain (es.map (·.1))=!(t,o)/\(o.filterMap (es[·]?)).toList.Perm es.toList/\(o.filterMap (es[·]?)).size=es.size/\t.mask=mask/\t.fits es.size=true/\Well (Led w) t:=by
 let eh:=aI2 iK hp hs;let#[t,o,e,hP,h1,h2]:=aW7 hm (by rw[eh];show hp.nodup_iff.mpr hn) (by rw[eh];show λk hk=>hs k (hp.mem_iff.mp hk));rw[Array.size_map] at hP h2;let e2:(o.filterMap (es[·]?)).toList.Perm es.toList:=by
  rw[Array.toList_filterMap];show(hP.filterMap _).trans ?_;have:(List.range es.size).filterMap (es[·]?)=es.toList:=by
   let gen:∀(l:@&(Int×Value)),(List.range (-l)).filterMap (λi=>l[i]?)=l:=λl=>by
    induction l with
    |nil=>rfl
    |cons x r ih =>
     rw[dG,vF,cP];simp only[List.getElem?_cons_zero,List.filterMap_map]
     congr 1
   have:=gen es.toList
   simp_all
  rw[this]
 let hw:=KC hl e;show#[t,o,e,e2,by rw[<- bD,e2.length_eq,bD],h1,?_,hw];unfold SetTable.fits SetTable.fill;rw[hw.sS,h2,h1];simp;show gD
def Jr{o:Array Nat}(gD:(o.filterMap (es[·]?)).size=es.size){Q:Array (Int×Value)×SetTable->Shared->Prop}(h:Q (o.filterMap (es[·]?),t) s):wpAny (model prog w) A (do
  let some (t,order):=(some (t,o):Option (SetTable×Array Nat))|unsupported "internal:set-table-without-room"
  let ml:=order.filterMap (es[·]?)
  if ml.size != es.size then unsupported "internal:set-table-lost-an-element"
  pure (ml,t)) Q E s:=by
 dsimp only;rw[az (by rw[gD];simp)];show ai h
def AF{ml:Array (Int×Value)}{t':SetTable}(ho:h.get? a=!o)(hd:o.data=.set es ep t):(h.update a (Obj.putSet ml t')).get? a=some { o with data:=.set ml (ep+1) t' }:=by
 have:=aQ (Obj.putSet ml t') ho (by rw[putSet_of ml t' hd];rfl);rw[putSet_of ml t' hd] at this;show this
def above:∀n,n<300->7<SetTable.sizeAbove n/\n<SetTable.sizeAbove n/\SetTable.sizeAbove n<=sizeLine:=by decide +kernel
def SW{Q:Unit->Shared->Prop}(hS:j8 prog w s.heap a ks)(hs:∀k∈ks,Spot k)(hn:n<300)(hkn:-ks<=n)(h:∀h',Heap.SameBut a s.heap h'->(∃o es ep t,h'.get? a=!o/\o.ExactSet/\o.data=.set es ep t/\ElemsOf (intKind prog w) es.toList/\(es.toList.map λe=>toI e.2).Perm ks/\ks.Nodup/\es.size<scanBound/\t.fits es.size=true/\Well (Led w) t/\t.mask=SetTable.sizeAbove n-1)->Q Unit.unit { s with heap:=h' }):wpAny (model prog w) A (setRelay a n) Q E s:=by
 let#[o,es,ep,t,ho,hx,hd,iK,hp,om,hb,hf,hw]:=hS;let#[a1,a2,a3]:=above n hn;let gD:es.size=-ks:=by rw[<- hp.length_eq];simp
 show aa (aW ho hd hf ?_);dsimp only;rw[az ()];let#[t2,od,e1,e2,e3,e4,e5,e6]:=Ml (mask:=SetTable.sizeAbove n-1) () () hw.led iK hp om hs;unfold SetTable.relaid;rw[e1];show aa (Jr e3 ?_);dsimp only;show eM ho hd (h _ (aV s.heap a _) #[_,_,_,_,AF ho hd,hx,rfl,iK.perm e2,(e2.map _).trans hp,om,by omega,by rw[e3];show e5,e6,e4]) (eN ())
def Zx{Q:Unit->Shared->Prop}(hS:pZ prog w s.heap a ks)(hs:∀k∈ks,Spot k)(hn:-ks+n<100)(h:∀h',Heap.SameBut a s.heap h'->(∃o es ep t,h'.get? a=!o/\o.ExactSet/\o.data=.set es ep t/\ElemsOf (intKind prog w) es.toList/\(es.toList.map λe=>toI e.2).Perm ks/\ks.Nodup/\es.size<scanBound/\t.fits es.size=true/\Well (Led w) t/\(ks=[]->7<=t.mask)/\(ks=[]->n<=t.mask))->Q Unit.unit { s with heap:=h' }):wpAny (model prog w) A (setRoomFor a n) Q E s:=by
 let#[o,es,ep,t,ho,hx,hd,iK,hp,om,hb,hf,hw,hm]:=id hS;let gD:es.size=-ks:=by rw[<- hp.length_eq];simp
 let gE:t.place.size=es.size:=by
  simp only[SetTable.fits,Bool.and_eq_true,beq_iff_eq] at hf;show hf.1
 show aa (aW ho hd hf ?_);by_cases c:(t.fill+n)*5>=t.mask*3
 .let e:t.roomFor n=!((t.place.size+n)*2):=by unfold SetTable.roomFor;rw[aw c]
  rw[e];show SW hS.toW hs () () λh' hk lC=>h h' hk ?_;let#[o,es,ep,t',ho,hx,hd,iK,hp,om,hb,hf,hw,hm]:=lC;let#[a1,a2,a3]:=above ((t.place.size+n)*2) ();show#[o,es,ep,t',ho,hx,hd,iK,hp,om,hb,hf,hw,λx=>by omega,λx=>by omega]
 .let e:t.roomFor n=none:=by unfold SetTable.roomFor;rw[az c]
  rw[e];show ai (h s.heap (iP a s.heap) #[o,es,ep,t,ho,hx,hd,iK,hp,om,hb,hf,hw,hm,λx=>by omega])
def bD0{Q:Array (Int×Value)->Shared->Prop}(ho:s.heap.get? a=!o)(hd:o.data=.set es ep t)(hf:t.fits es.size=true)(hw:Well (Led w) t)(h:∀l d',l.toList.Perm es.toList->Q l { s with drawn:=d' }):wpAny (model prog w) A (setWalk a) Q E s:=by
 show aa (aW ho hd hf ?_);show aa (V7 ?_);cases hb:w.params.followText "set-order" with
 |true =>
  show aa (qZ (ai (h _ s.drawn (AO _ es))))
 |false =>
  rw[az ∅];let hl:t.led=true:=by rw[hw.led];unfold Led;rw[hb];rfl
  split
  .refine aa (Fl _ _ _ _ #[_] λys d hp=>ai (h _ d (_/hp)))
  .refine aa (m:=(do if(~~~t.led&&decide (es.size>1))=true then unsupported "set:maker-not-led")) ?_;rw[hl];show ai (ai (h es s.drawn (jh _)))
def SS{l:@&Addr}{Q:Bool->Shared->Prop}(hl:∀a∈l,∃o es ep t,s.heap.get? a=!o/\o.data=.set es ep t/\t.fits es.size=true/\ElemsOf (intKind prog w) es.toList)(h:Q true s):wpAny (model prog w) A (setsQuiet l) Q E s:=by
 show aa (wpAny_forIn_list _ (λrest b s'=>b=(none,PUnit.unit)/\s'=s/\∀a∈rest,a∈l) _ (λx rest b s' p=>?_) (λb s' p=>?_) _ _ #[rfl,rfl,λv z=>z])
 .let#[rfl,rfl,hm]:=p;let#[o,es,ep,t,ho,hd,hf,iK]:=hl x (hm x #[_]);show aa (aa (aW ho hd hf (ai ?_)));show aa (wpAny_forIn_array' _ (λrest b s2=>b=(none,PUnit.unit)/\s2=s'/\∀e∈rest,e∈es.toList) _ (λy Hb b s2 p=>?_) (λb s2 p=>?_) _ _ #[rfl,rfl,λv z=>z])
  .let#[rfl,rfl,pC]:=p;let#[tk,e1,_]:=yL iK (pC y #[_]);dsimp only;rw[e1];show ai #[rfl,rfl,λe z=>pC e (by simp[z])]
  .let#[rfl,rfl,_]:=p;show ai #[rfl,rfl,λe z=>hm e (by simp[z])]
 .let#[rfl,rfl,_]:=p;show ai h
def TU{r:Addr}{ms:@&Int}{Q:Array (Int×Value)->Shared->Prop}(ho:s.heap.get? a=!o)(hd:o.data=.set es ep t)(hf:t.fits es.size=true)(hw:Well (Led w) t)(iK:ElemsOf (intKind prog w) es.toList)(hR:j8 prog w s.heap r ks)(h:∀l h' d',l.toList.Perm es.toList->Heap.SameBut r s.heap h'->j8 prog w h' r ks->Q l { s with heap:=h',drawn:=d' }):wpAny (model prog w) A (setWalkUnseen a [r] (!r)) Q E s:=by
 let#[o',ml,Ab,t',kN,Qo,sG,xl,lj,wZ,jI,Cz,Ca]:=id hR;let wk:wpAny (model prog w) A (setWalk a) Q E s:=bD0 ho hd hf hw λl d' hp=>h l s.heap d' hp (iP r s.heap) hR;show aa (aW ho hd hf ?_);show aa (V7 ?_);split
 .exact wk
 .refine aa (SS (λb hb=>?_) ?_)
  .simp only[List.mem_cons,List.mem_nil_iff,or_false] at hb;rcases hb with rfl|rfl
   .exact#[_,_,_,_,ho,hd,hf,iK]
   .exact#[_,_,_,_,kN,sG,Cz,xl]
  .refine aa (dS ?_);show aa (aW kN sG Cz ?_);dsimp only;split
   .refine aa (eM kN sG ?_ (eN jI));show ai (h es _ s.drawn (jh _) (aV s.heap r _) #[_,_,_,_,AF kN sG,Qo,rfl,xl,lj,wZ,jI,Cz,#[Ca.ua,Ca.sS,?_]]);show(t'.led&&t.led)=_;rw[Ca.led,hw.led,Bool.and_self]
   .exact ai (h es s.heap s.drawn (jh _) (iP r s.heap) hR)
def ND(hp:(es.toList.map λe=>toI e.2).Perm ks):es.size=-ks:=by rw[<- hp.length_eq];simp
def aX4(hf:t.fits n=true):t.place.size=n:=by
 simp only[SetTable.fits,Bool.and_eq_true,beq_iff_eq] at hf;show hf.1
def Mq{r o:Addr}{each:Sem Unit}{Q:Unit->Shared->Prop}(hR:pZ prog w s.heap r ks)(hO:j8 prog w s.heap o ms)(fN:r≠o)(ur:∀k∈ks,Spot k)(lx:∀k∈ms,Spot k)(hl:-ks+-ms<100)(QJ:∀(s':Shared) (Q':Unit->Shared->Prop),s'.heap.get? o=s.heap.get? o->Q' Unit.unit s'->wpAny (model prog w) A each Q' E s')(h:∀h' d' us,(∀b o',b≠r->s.heap.get? b=!o'->h'.get? b=!o')->pZ prog w h' r us->us.Nodup->(∀k,k∈us↔k∈ks\/k∈ms)->Q Unit.unit { s with heap:=h',drawn:=d' }):wpAny (model prog w) A (setMerge r o each) Q E s:=by
 let#[oo,eo,epo,to,zH,hox,Ci,nC,pA,uo,HA,zI,how]:=id hO;let gD:=ND pA;let om:=let ⟨_,_,_,_,_,_,_,_,_,z,_⟩:=hR;z
 unfold setMerge;rw[az (_/fN)];show aa (aW zH Ci zI ?_);dsimp only;by_cases he:eo.size=0
 .rw[aw (by simpa[Array.isEmpty] using he)];let HF:ms=[]:=fF ();show ai (h s.heap s.drawn ks (λb o' y e=>e) hR om λk=>by rw[HF];simp)
 rw[az (by simpa[Array.isEmpty] using he)];let xa:ms≠[]:=λz=>he (by rw[gD,z];rfl);show aa (Zx hR ur () λh1 uv QZ=>?_);let#[or',es,ep,ts,uk,hx,hd,iK,hp,_,hb,hf,hw,HD,Cm]:=id QZ;let QB:h1.get? o=!oo:=by rw[<- zH];show uv.2 o (aU fN)
 let Cr:∀b o',b≠r->s.heap.get? b=!o'->h1.get? b=!o':=λb o' hb e=>by rw[<- e];show uv.2 b hb
 show aa (aW uk hd hf ?_);let HM:ts.fill=-ks:=by
  unfold SetTable.fill;rw[hw.sS,aX4 hf,ND hp]
  rfl
 let xc:(ts.led&&to.led)=Led w:=by rw[hw.led,how.led,Bool.and_self]
 by_cases HI:ks=[]
 .subst HI;let wR:ts.road to=.slotForSlot\/ts.road to=.clean:=by
   unfold SetTable.road;rw[az (by simp_all)];split
   .exact .inl rfl
   .exact .inr rfl
  rcases wR with hr|hr
  .rw[hr];show eM uk hd (h _ s.drawn ms (λb o' hb e=>?_) #[_,_,_,_,AF uk hd,hx,rfl,nC,pA,uo,HA,zI,#[how.ua,how.sS,xc],λz=>absurd z xa] uo λk=>by simp) (eN HA);rw[<- Cr b o' hb e];show(aV h1 r _).2 b hb
  .rw[hr];let#[t2,od,e1,e2,e3,e4,e5,e6]:=Ml (HD rfl) (Cm rfl) xc nC pA uo lx;rw[e1];show aa (Jr e3 ?_);dsimp only;show eM uk hd (h _ s.drawn ms (λb o' hb e=>?_) #[_,_,_,_,AF uk hd,hx,rfl,nC.perm e2,(e2.map _).trans pA,uo,by omega,by rw[e3];show e5,e6,λz=>absurd z xa] uo λk=>by simp) (eN ());rw[<- Cr b o' hb e];show(aV h1 r _).2 b hb
 .let hr:ts.road to=.oneByOne:=by
   unfold SetTable.road
   simp_all
  rw[hr];let QW:j8 prog w h1 r ks:=#[or',es,ep,ts,uk,hx,hd,iK,hp,om,hb,hf,hw]
  show aa (TU (ms:=ms) QB Ci zI how nC QW λl h2 d2 Co Cs QY=>?_);show aa (wpAny_forIn_array' _ (λrest b s'=>∃us h',s'={ s with heap:=h',drawn:=d2 }/\us.Nodup/\us≠[]/\-us+-rest<1000/\j8 prog w h' r us/\(∀b o',b≠r->s.heap.get? b=!o'->h'.get? b=!o')/\(∀k,(k∈us\/k∈rest.map λe=>toI e.2)↔(k∈ks\/k∈ms))/\∀e∈rest,e∈eo.toList) _ (λx rest b s' p=>?_) (λb s' p=>?_) _ _ #[ks,h2,rfl,om,HI,?_,QY,λb o' hb e=>?_,λk=>?_,λe he=>Co.mem_iff.mp he])
  .let#[us,h',rfl,Cd,sk,zF,CH,lz,lW,lT]:=p;let#[x1,x2]:=x;let#[tk,e1,e2]:=yL nC (lT (x1,x2) #[_]);generalize toI x2=k at e1 e2;subst e1;subst e2;show aa (aZ (Iv CH (by simp at zF;show cG () (show 1000<scanBound by decide)) λh3 b3 HH zT=>?_));let HB:h3.get? o=!oo:=by
    rw[HH.2 o (aU fN)];show lz o oo (aU fN) zH
   show aa (QJ _ _ (by rw[zH];show HB) ?_);show aa (aW HB Ci zI ?_);rw[az #[_]];show ai #[F7 us k,h3,rfl,?_,?_,?_,zT,λb o' hb e=>?_,λj=>?_,λe he=>lT e (by simp[he])]
   .exact W5 [k] us Cd
   .unfold F7;split
    .exact sk
    .simp
   .have:=MU us k
    grind
   .rw[HH.2 b hb];show lz b o' hb e
   .rw[<- lW j];have:=F9 [k] us j;simp only[i8,List.foldl_cons,List.foldl_nil] at this;rw[this];simp[toI,or_assoc]
  .let#[us,h',rfl,Cd,sk,zF,CH,lz,lW,lT]:=p;show ai (h h' d2 us lz (CH.toV sk) Cd λk=>by rw[<- lW k];simp)
  .let e1:=Co.length_eq
   grind
  .rw[Cs.2 b hb];show Cr b o' hb e
  .rw[(Co.map _).mem_iff,pA.mem_iff]
def Uc(hT:s.TypeIs (.ref a) "set"){Q:Value->Shared->Prop}(h:Q (.type "set") s):wpAny (model prog w) A (Builtin.Frozenset.baseOf a) Q E s:=by
 show aa (cL (b:=true) hT (by rfl) ?_);show ai h
def Eg(hT:s.TypeIs (.ref a) "set"){Q:Bool->Shared->Prop}(h:Q true s):wpAny (model prog w) A (Builtin.Frozenset.isAnySet (.ref a)) Q E s:=by
 show aa (cL (b:=true) hT (by rfl) ?_);show ai h
def Gv(x:j8 prog w h a ks):∃o,h.get? a=!o/\o.cls=.type "set":=by
 let#[o,_,_,_,e,hx,_]:=x;show#[o,e,hx.1]
def aX6:entryFor table "set.__or__"=some Builtin.«frozenset.__or__»:=Bw (id':="frozenset.__or__") (by kernel_rfl) rfl #[] (by kernel_rfl)
def Yb{Q:Value->Shared->Prop}(hA:j8 prog w s.heap a ks)(ur:∀k∈ks,Spot k)(hl:-ks<100)(h:∀h' d' us,(∀c o',s.heap.get? c=!o'->h'.get? c=!o')->pZ prog w h' s⁻¹ us->us.Nodup->(∀k,k∈us↔k∈ks)->Q (.ref s⁻¹) { s with heap:=h',drawn:=d' }):wpAny (model prog w) A (Builtin.Frozenset.copyOf a) Q E s:=by
 let#[oa,ea,ca]:=Gv hA;let la:=aq ea;unfold Builtin.Frozenset.copyOf;show aa (Uc #[oa,ea,ca] ?_);show aa (Mr ?_);show aa (ai ?_);let hE:(s.heap.push (A9 w)).get? s⁻¹=!A9 w:=au _ rfl;let#[o,es,ep,t,h1,h2,h3,h4,h5,h6,h7,h8,h9]:=Kw (prog:=prog) hE;let hV:pZ prog w (s.heap.push (A9 w)) s⁻¹ []:=#[_,(List.toArray []),0,.fresh 0 0 (Led w),hE,#[rfl,rfl,rfl],rfl,by simp[ElemsOf],by simp,by simp,by decide,rfl,Lc,λx=>ak 7]
 show aa (Mq hV (hA.at λo e=>ag _ e) (bH la) (λk hk=>by simp at hk) ur (_/hl) (λs' Q' x q=>ai q) λh' d' us hk hS hn hm=>?_);show ai (h h' d' us (λc o' e=>hk c o' (aF (aq e)) (ag _ e)) hS hn λk=>by rw[hm k];simp)
def b35{b:Addr}{Q:Value->Shared->Prop}(hA:j8 prog w s.heap a ks)(hB:j8 prog w s.heap b ms)(zR:a≠b)(ur:∀k∈ks,Spot k)(lx:∀k∈ms,Spot k)(hl:-ks+-ms<90)(h:∀h' d' us,(∀c o',s.heap.get? c=!o'->h'.get? c=!o')->j8 prog w h' s⁻¹ us->us.Nodup->(∀k,k∈us↔k∈ks\/k∈ms)->Q (.ref s⁻¹) { s with heap:=h',drawn:=d' }):wpAny (model prog w) A (binaryOp .BitOr (.ref a) (.ref b)) Q E s:=by
 let#[oa,ea,ca]:=Gv hA;let#[ob,eb,cb]:=Gv hB;let CJ:s.TypeIs (.ref a) "set":=#[oa,ea,ca]
 let HV:s.TypeIs (.ref b) "set":=#[ob,eb,cb]
 let lb:=aq eb;show wpAny_binaryOp_same CJ HV F.fills_set_or F.slot_set_or (br F.slot_set_or CJ aX6 ?_ (F.args_set_or_2 _ _));show aa (cN rfl ?_);show aa (aa (Eg CJ ?_));show Eg HV ?_;show aa (ai ?_);let hU:∀(us:@&Int) (h':Heap),pZ prog w h' s⁻¹ us->(∀k∈us,Spot k)->us.Nodup->-us<=8:=λus h' x hs hn=>by
  have:us.Sublist us:=List.Sublist.refl _;let hp:us.Perm ((List.range 8).map (λ(n:Nat)=>(n:Int)) |>.filter (·∈us)):=by
   show(cW hn ?_).mpr λk=>?_
   .exact OT jB ∅
   .rw[cv];constructor
    .intro hk;show#[?_,by simpa using hk];let#[h0,h8]:=hs k hk;rw[aN];show#[k.toNat,gh.mpr (),by omega]
    .rintro⟨_,hk⟩;simpa using hk
  rw[hp.length_eq];show aH (fm _ _) ∅
 show aa (aa (Yb hA ur () λh1 d1 us uv zU Qx HE=>?_));let ui:∀k∈us,Spot k:=λk hk=>ur k ((HE k).mp hk);let zF:=hU us h1 zU ui Qx;dsimp only;rw[aw (by simp[Ne.symm zR])];let CI:Shared.TypeIs { s with heap:=h1,drawn:=d1 } (.ref b) "set":=#[ob,uv b ob eb,cb]
 show aa (ai ?_);show aa (aZ ?_);unfold Builtin.Frozenset.updateFrom;show aa (Eg CI ?_);rw[aw rfl];show aa (ai ?_);unfold Builtin.Frozenset.merge;let Ic:=hB.at (uv b);let#[o,es,ep,t,ho,hx,hd,iK,hp,hn,hb,hf,hw]:=id Ic;let HN:∀(s':Shared) (Q':Nat->Shared->Prop),s'.heap.get? b=!o->Q' ep s'->wpAny (model prog w) A.in1 (setEpoch b) Q' E s':=λs' Q' e q=>by
  unfold setEpoch;show aa (aW e hd hf (ai q))
 show aa (HN _ _ ho ?_);show Mq zU Ic (bH lb) ui lx () (λs' Q' e q=>?_) λh2 d2 vs Cs ow nD pC=>?_
 .unfold Builtin.Frozenset.unchanged;show aa (HN _ _ (e.trans ho) ?_);rw[az #[_]];show ai q
 .refine ai (ai #[_,rfl,by simp,?_]);show h h2 d2 vs (λc o' e=>Cs c o' (aF (aq e)) (uv c o' e)) ow.toW nD λk=>by rw[pC k,HE k]
end
end ST
namespace L2
open PySem PySem.Spec PyProof.Rows
variable{X:Cx}
def a48:fj X (binaryOp .BitOr) (λx y H Q=>∃a b ns ms,x=.ref a/\y=.ref b/\a≠b/\H a=!qU X a (ST.i8 [] ns)/\H b=!qU X b (ST.i8 [] ms)/\(∀k∈ns,ST.Spot k)/\(∀k∈ms,ST.Spot k)/\-ns+-ms<50 /\
  ∀ p,H p=none->Q (.ref p) (upd H p (qU X p (ST.i8 [] (ns ++ ms))))):=by
 intro pi s σ H x y v u Q I rx ry h;let#[a,b,ns,ms,rfl,rfl,zR,ha,hb,qx,lx,hl,q]:=h;cases rx;cases ry;let hA:=(I.bB a _ ha).1;let hB:=(I.bB b _ hb).1;let l1:=ST.G5 ns [];let l2:=ST.G5 ms [];let m1:=ST.F9 ns [];let m2:=ST.F9 ms [];show ST.b35 hA hB zR (λk hk=>qx k (by simpa using(m1 k).mp hk)) (λk hk=>lx k (by simpa using(m2 k).mp hk)) (by simp at l1 l2;omega) λh' d' us hk hS hn hm=>?_;let lC:ST.j8 X.prog X.w h' s⁻¹ (ST.i8 [] (ns ++ ms)):=hS.same ((cW hn (ST.W5 _ _ #[_])).mpr λk=>by
  rw[hm k,m1 k,m2 k,ST.F9];simp)
 show#[.ref _,_,(I.laid (t':=s.toks) hk (ak _) (Eu lC)).draw d',rfl,q _ (I.bB.fresh (ak _))]
end L2
namespace ST
open PySem PyProof.Rows
end ST
namespace L2
open PySem PySem.Spec PyProof.Rows
variable{X:Cx}
def Wc(hc:X.calm=true):k9 X (.builtin "all") (λxs H Q=>∃(a:Addr) (ns:@&Int),xs=[.ref a]/\fT X.K H a (ns.map V.int)/\Q (.bl (ns.all λn=>n != 0)) H):=by
 intro pi s σ H xs us Q I r h;let#[a,ns,rfl,ha,q]:=h;let#[u,rfl,ru]:=vals1 r;cases ru;let#[aS,rv,p,hz]:=I.list ha;show call_all_walk ?_;show dE p.isList ?_;let fN:a≠s⁻¹:=by
  let#[o,e,_]:=id p.isList;show aF (aq e)
 let hl:=-rv;rw[aj] at hl;show#[s⁻¹,_,_,_,_,_,λi=>ns.getD i 1 != 0,rfl,mQ (A:=X.A.in1) (I.ok.hd hc) _ a fN aS.toArray,#[#[_,au _ rfl,rfl,rfl],?_],?_,λh' tk k=>?_]
 .let#[o,e,q1]:=id p.isList;show#[o,ag _ e,q1]
 .intro i v s' Q' E' hP hQ;let hv:aS[i]?=!v:=by simpa using hP
  let hi:i< -ns:=by rw[hl];show(ax.mp hv).1
  let#[u',wL,BI]:=rv.get (i:=i) (x:=V.int ns[i]) (by rw[aD,ao hi];rfl);rw[hv] at wL;cases wL;let#[t,rfl]:=BI;show truthy_int ?_;have:ns.getD i 1=ns[i]:=by simp[List.getD,hi]
  dsimp only at hQ;rw[this] at hQ;show hQ
 .let e1:(List.range aS.toArray.size).all (λi=>ns.getD i 1 != 0)=ns.all λn=>n != 0:=by
   rw[aK,<- hl];rw[cz];simp only[List.all_eq_true,List.mem_range];constructor
   .intro hh x hx;let#[i,hi,rfl]:=eE.mp hx;have:=hh i hi;simpa[List.getD,hi] using this
   .intro hh i hi;have:=hh ns[i] (eK hi);simpa[List.getD,hi] using this
  rw[e1];show #[.bl _,H,I.kept (t':=tk) λb o e=>k b o (by
   intro hb;have:b=s⁻¹:=by simpa using hb
   show absurd (aq e) (by rw [this];show bR _)) (ag _ e),rfl,q]
def aA7:k9 X (.builtin "len") (λxs H Q=>∃a,∃ks:@&Int,xs=[.ref a]/\H a=!qU X a ks/\Q (.int (-ks)) H):=by
 intro pi s σ H xs us Q I r h;let#[a,ks,rfl,ha,q]:=h;let#[u,rfl,ru]:=vals1 r;cases ru;let hS:ST.j8 X.prog X.w s.heap a ks:=(I.bB a _ ha).1;let#[o,es,ep,t,e,ex,ed,_,hp,nd,hz,hf,_]:=hS;let hl:es.size=-ks:=by have:=hp.length_eq;simpa using this
 show call_len_set e ex ed hf (by have:scanBound<2 ^ 62:=∅;omega) #[.int (-ks),H,I.tok _,#[_,by rw[hl]],q]
def a51:fj X (compareOp .In) (λx y H Q=>∃i a S n,x=.int i/\y=.ref a/\H a=!.set S n/\Q (.bl (S i)) H):=by
 intro pi s σ H x y v u Q I rx ry h;let#[i,a,S,n,rfl,rfl,ha,q]:=h;let#[t,rfl]:=rx;cases ry;show wpAny_inSet_of (Bv _ _ _ _) rfl (I.bB a _ ha) #[.bl (S i),H,I.tok _,rfl,q]
def aF9:fj X (compareOp .NotIn) (λx y H Q=>∃i a S n,x=.int i/\y=.ref a/\H a=!.set S n/\Q (.bl (~~~S i)) H):=by
 intro pi s σ H x y v u Q I rx ry h;let#[i,a,S,n,rfl,rfl,ha,q]:=h;let#[t,rfl]:=rx;cases ry;show wpAny_notInSet_of (Bv _ _ _ _) rfl (I.bB a _ ha) #[.bl (~~~S i),H,I.tok _,rfl,q]
end L2
namespace ST
open PySem PyProof.Rows
end ST
namespace L2
open PySem PyProof.Rows
abbrev Xz(ns:@&Int):@&Int:=ns.mergeSort (λa b=>decide (a<=b))
section
variable{X:Cx}
def KW:∀{ks:@&Key} {l:@&Value},(-l)=-ks->(∀(i:Nat) v,l[i]?=!v->∃k,ks[i]?=!k/\X5 k v=true)->Vals (ks.map kV) l
 |[],[],_,_=>.nil
 |k::ks,v::l,hl,h=>by
  let#[k',e,hk]:=h 0 v rfl;cases e;show .cons ?_ (KW (_/hl) λi v e=>h (i+1) v e);rcases o9 hk with⟨i,t,rfl,rfl⟩|⟨x,t,rfl,rfl⟩<;>show#[t,rfl]
def aw5(hc:X.calm=true):k9 X (.type "list") (λxs H Q=>∃a kvs,xs=[.ref a]/\H a=!.dK kvs/\-kvs<=10000/\∀p,H p=none->Q (.ref p) (upd H p (.lst ((kvs.map (·.1)).map kV)))):=by
 intro pi s σ H xs us Q I r h;let#[a,kvs,rfl,ha,hl,q]:=h;let#[u,rfl,rx]:=vals1 r;cases rx;let#[_,hd,vs,kv,hD]:=FF I.bB ha;let#[ep,hA]:=hD.dictAt;let kP:-vs<=10000:=by rw[<- -kv];show hl
 show PySem.W.kdl_call (PySem.W.kdl_dict (kvs:=vs) (ep:=ep) hd) (I.ok.hd hc) hA (aH kP ∅) λh' tk acc c k1 k2 k3=>?_;let hv:Vals ((kvs.map (·.1)).map kV) acc.toList:=by
  show KW (by rw[bD,k3.1,aj,(-kv)]) λi v e=>?_;let#[k,x,e1,e2]:=k3.2 i v (_/e);show#[k,by rw[kv.keys,aD,e1];rfl,e2]
 show#[.ref s⁻¹,_,(I.laid (a:=s⁻¹) (o:=.lst ((kvs.map (·.1)).map kV)) (t':=tk) k1 (ak _) #[by rw[aj,aj];show aH hl ∅,acc.toList,c,hv,by simpa using k2]),rfl,q _ (I.bB.fresh (ak _))]
end
end L2
namespace ST
open PySem PyProof.Rows
variable{tk:Tok}{items:Array Value}{n:Nat}{ks:@&Int}
def aH4:typeLookup (.type "list") "keys"=pure none:=by rfl
def ar6:typeLookup (.type "list") "__getattr__"=pure none:=by rfl
section
variable{prog:Program}{w:World}{A:Around}{E:Value->Shared->Prop}{h:Heap}{g:Array GenState}{d:Drawn}{t:Nat}{os:OsState}{a:Addr}{o:Obj}
def ar8{Q:Fin->Shared->Prop}(hh:A.handled=none)(hx:h.get? a=!o)(hc:o.cls=.type "list")(hn:o.dict=none)(hd:o.data=.seq items n)(hq:∀e h' tk,(∀b o,h.get? b=!o->h'.get? b=!o)->t<=tk->(∃oe,h'.get? e=!oe/\oe.cls=.type "AttributeError")->E (.ref e) #[h',g,d,tk,os]) :
  wpAny (model prog w) A (Builtin.«object.__getattribute__» #[[.ref a,.str "keys" tk],[]]) Q E #[h,g,d,t,os]:=by
 let hT:(#[h,g,d,t,os]:Shared).TypeIs (.ref a) "list":=#[_,hx,hc]
 let f4:=aH4
 repeat (any_goals (first|assumption|wp_step))
 rw[hd];unfold instanceDict
 repeat (any_goals (first|assumption|wp_step))
 rw[hc];rw[hn];rw[aw (by rfl)];show ai ?_;unfold Builtin.ObjectAttr.inDict;show ai ?_
 repeat (any_goals (first|assumption|wp_step))
 let hm:(Str.ofString (toString "'"++toString ((Manifest.find? "list").elim "list" λx=>x.tpName)++toString "' object has no attribute '")++Str.ofString "keys"++Str.ofString "'").length<=sizeLine:=by decide +kernel
 generalize (Str.ofString (toString "'"++toString ((Manifest.find? "list").elim "list" λx=>x.tpName)++toString "' object has no attribute '")++Str.ofString "keys"++Str.ofString "'")=msg at *;unfold raiseAttrError
 repeat (any_goals (first|assumption|wp_step))
 let f5:isSubtype (.type "AttributeError") (.type "AttributeError")=pure true:=by rfl
 show cN f5 ?_
 repeat (any_goals (first|assumption|wp_step))
 show wpAny_raiseNew_none hh (hq _ _ _ (λb ob e=>?_) () ?_)
 .let hb:b≠(h.push { cls:=Value.type "tuple",data:=Data.seq (List.toArray [Value.str msg t]) }).objs.size:=by
   have:=aq e;rw[cQ];show aF (Nat.lt_succ_of_lt this)
  show((aV _ _ _).2 b hb).trans (ag _ (ag _ e))
 .exact#[_,aQ _ (au _ rfl) rfl,rfl]
def av5{R:Result->Shared->Prop}(hh:A.handled=none)(hx:h.get? a=!o)(hc:o.cls=.type "list")(hn:o.dict=none)(hd:o.data=.seq items n)(hq:∀e h' tk,(∀b o,h.get? b=!o->h'.get? b=!o)->t<=tk->(∃oe,h'.get? e=!oe/\oe.cls=.type "AttributeError")->R (.error (.ref e)) #[h',g,d,tk,os]) :
  codeAny (model prog w) A (.call (.builtin "list.__getattribute__") #[[.ref a,.str "keys" tk],[]]) R #[h,g,d,t,os] :=
 codeAny_call_builtin fe.plain F.entry_list_ga (fe.check _ _ _ _ _ _ _ _ (show(#[h,g,d,t,os]:Shared).TypeIs (.ref a) "list" from#[_,hx,hc]) (F.args_list_getattribute_2 _ _) (ar8 (by simp[hh]) hx hc hn hd hq))
def aH8{Q:Value->Shared->Prop}(hh:A.handled=none)(hx:h.get? a=!o)(hc:o.cls=.type "list")(hn:o.dict=none)(hd:o.data=.seq items n)(hq:∀e h' tk,(∀b o,h.get? b=!o->h'.get? b=!o)->t<=tk->(∃oe,h'.get? e=!oe/\oe.cls=.type "AttributeError")->E (.ref e) #[h',g,d,tk,os]):wpAny (model prog w) A (getAttrBy (.ref a) (.str "keys" tk) false) Q E #[h,g,d,t,os]:=by
 let hT:(#[h,g,d,t,os]:Shared).TypeIs (.ref a) "list":=#[_,hx,hc]
 let f2:=fe.lookup;let f3:=fe.bind (.ref a)
 repeat (any_goals (first|assumption|wp_step))
 show av5 hh hx hc hn hd ?_;rintro e h' jO k1 k2 ⟨oe,he,zN⟩;let pG:(#[h',g,d,jO,os]:Shared).TypeIs (.ref e) "AttributeError":=#[_,he,zN]
 let f5:isSubtype (.type "AttributeError") (.type "AttributeError")=pure true:=by rw[fB];kernel_rfl
 let f6:=ar6;unfold getattributeRaised;show aa (cL pG f5 ?_);rw[aw rfl];unfold hookBehind
 repeat (any_goals (first|assumption|wp_step))
 show hq e h' jO k1 k2 #[oe,he,zN]
def av6{Q:Option Value->Shared->Prop}(hh:A.handled=none)(hx:h.get? a=!o)(hc:o.cls=.type "list")(hn:o.dict=none)(hd:o.data=.seq items n)(hq:∀h' tk,(∀b o,h.get? b=!o->h'.get? b=!o)->t<=tk->Q none #[h',g,d,tk,os]):wpAny (model prog w) A (getAttr? (.ref a) "keys") Q E #[h,g,d,t,os]:=by
 unfold getAttr? getAttrBy?;let f5:isSubtype (.type "AttributeError") (.type "AttributeError")=pure true:=by rw[fB];kernel_rfl
 show aa (wpAny_mkText ?_);show aa (fX (aH8 hh hx hc hn hd ?_));rintro e h' jO k1 k2 ⟨oe,he,zN⟩;show aa (cL (show(#[h',g,d,jO,os]:Shared).TypeIs (.ref e) "AttributeError" from#[_,he,zN]) f5 ?_);rw[aw rfl];show ai (hq h' jO k1 (Nat.le_of_succ_le k2))
def P1:plainId "dict.update.loop"=true:=by decide +kernel
def Ls:entryFor table "dict.update.loop"=some Builtin.«dict.update.loop»:=entryFor_of_tree (by kernel_rfl)
abbrev I9(ks:@&Int):@&(L2.Key×Value):=ks.map λk=>(.inl k,.bool true)
def stored_new{k:Int}(h:k∉ks):stored (I9 ks) (.inl k:L2.Key) (.bool true)=I9 (ks++[k]):=by
 unfold stored;rw[az]
 .simp[I9]
 .intro z;rw[iq] at z;let#[x,hx,e]:=z;let#[j,hj,rfl]:=aN.mp hx;have:=Sum.inl.inj (bz e);show h (this▸hj)
def aU9{R:Result->Shared->Prop}{I:Addr}{fp wr:@&Addr}{G:Array GenState->Array GenState->Prop}{P:Nat->Value->Prop}{St:Nat->Shared->Prop}(W:WalksS prog w A.in1 I fp wr G n P St)(HU:a∉fp)(hn:n=-ks){tp:Nat->Addr}(hv:∀i v,P i v->v=.ref (tp i))(Hw:∀i,i<n->tp i∉a::wr)(hb:n<=10000)(nd:ks.Nodup):∀(k i:Nat) (s:Shared),i+k=n->St i s->(∀j,j<n->∃tk,s.heap.IsTuple (tp j) (List.toArray [.int (ks.getD j 0) tk,.bool true]))->s.heap.DictOf (L2.j4 prog w) a (I9 (ks.take i)) ->
   (∀s',Moved (a::wr) G s s'->s'.heap.DictOf (L2.j4 prog w) a (I9 ks)->R (.ok (.ret .none)) s')->codeAny (model prog w) A (.builtin "dict.update.loop" #[[.ref a,.ref I,rawInt i,.none],[]]) R s:=by
 let hw:a∉wr:=λh=>HU (W.sub _ h);let mY:∀b∈wr,b∈a::wr:=λb hb=>by simp[hb]
 intro k
 induction k with
 |zero =>
  intro i s e st ht hS hR;obtain rfl:i=n:=by omega
  show dC Ls ?_;rw[Around.under_plainId P1 _];unfold Builtin.«dict.update.loop»;show aa (W.done s _ _ st λs' m=>?_);show aa (ai ?_);show ai (hR s' (m.mono mY) ?_);rw[hn,cS] at hS;let#[o,es,ep,ho,r]:=hS;show#[o,es,ep,m.heap a o hw ho,r]
 |succ k ih =>
  intro i s e st ht hS hR;let dO:i< -ks:=by omega
  show dC Ls ?_;rw[Around.under_plainId P1 _];unfold Builtin.«dict.update.loop»;show aa (W.item i s _ _ () st λv s' hP kJ m=>?_);cases hv i v hP;let lC:s'.heap.DictOf (L2.j4 prog w) a (I9 (ks.take i)):=by
   let#[o,es,ep,ho,r]:=hS;show#[o,es,ep,m.heap a o hw ho,r]
  let mH:∀j,j<n->∃tk,s'.heap.IsTuple (tp j) (List.toArray [.int (ks.getD j 0) tk,.bool true]):=λj hj=>by
   let#[tk,o,ho,r]:=ht j hj;show#[tk,o,m.heap _ o (λz=>Hw j hj (by simp[z])) ho,r]
  let#[tk,o,ho,hc,nn,hd]:=mH i ();show aa (aZ ?_);show aa (wpAny_tryCatch ?_);unfold Builtin.Dict.pairItems;show aa (de (show s'.TypeIs (.ref (tp i)) "tuple" from#[o,ho,hc]) ?_);rw[aw ∅];unfold seqItems?;show aa (aa (wpAny_load ho ?_));rw[hd];show ai (ai ?_);show aZ ?_;unfold dictSet;show aZ (aa ((L2.j4 prog w).pyHash (L2.Y2 _ _ _ _) ?_));let hl:(I9 (ks.take i)).length<=10000:=by
   unfold I9;rw[aj,cF];omega
  show wpAny_dictSetHashed_pairs (L2.Y2 _ _ _ _) lC (λh' ow sb=>?_) (aH hl ∅);let ek:ks.take (i+1)=ks.take i++[ks.getD i 0]:=by
   rw[cV,ao dO];simp[List.getD,dO]
  let kO:ks.getD i 0∉ks.take i:=by
   have:(ks.take (i+1)).Nodup:=nd.sublist (List.take_sublist _ _);rw[ek,dw] at this;show λz=>this.2.2 _ z _ #[_] rfl
  rw[stored_new kO,<- ek] at ow;show ai #[fY P1 _,?_];rw[show((i:Nat):Int)+1=((i+1:Nat):Int) by omega];show ih (i+1) _ () (W.frame _ s' _ _ kJ (jf _) λb hb o e=>by rw[sb.2 b λz=>HU (z▸hb)];show e) (λj hj=>?_) ow λs2 m2 h2=>?_
  .let#[tk,o,ho,r]:=mH j hj;show#[tk,o,(sb.2 _ λz=>Hw j hj (by simp[z])).trans ho,r]
  .exact hR s2 (Moved.trans W.gtrans ((m.mono mY).then_heap (jf _) λb o hb e=>by rw[sb.2 b λz=>hb (by rw[z];simp)];show e) m2) h2
def aY3{l:Addr}{tp:Nat->Addr}{nn:Nat}{s:Shared}{Q:Value->Shared->Prop}(hh:A.handled=none)(ho:s.heap.get? l=!o)(hc:o.cls=.type "list")(hn:o.dict=none)(hd:o.data=.seq items nn)(gD:items.size=-ks)(hit:∀(i:Nat) (v:Value),items[i]?=!v->v=.ref (tp i))(ht:∀j,j< -ks->∃tk,s.heap.IsTuple (tp j) (List.toArray [.int (ks.getD j 0) tk,.bool true]))(hb:-ks<=10000)(nd:ks.Nodup)(h:∀h' tk,h'.DictOf (L2.j4 prog w) s⁻¹ (I9 ks)->(∀b o,s.heap.get? b=!o->h'.get? b=!o)->s.toks<=tk->Q (.ref s⁻¹) { s with heap:=h',toks:=tk }) :
  wpAny (model prog w) A (call (.type "dict") [.ref l]) Q E s:=by
 show callType_codes (Q₁:=λobj bN=>obj=.ref s⁻¹/\bN={ s with heap:=s.heap.push { cls:=.type "dict",data:=.dict (List.toArray []) } }) F.kt_called_dict (F.kt_typeCall_dict_1 _) F.entry_dict_init (kt_code_dict_new _ #[rfl,rfl]) ?_;rintro obj bN ⟨rfl,rfl⟩;let lV:(s.heap.push { cls:=.type "dict",data:=.dict (List.toArray []) }).DictOf (L2.j4 prog w) s⁻¹ []:=Heap.DictOf.new s.heap;show#[lV.typeIs,F.args_dict_init_2 _ _,?_];let wX:(s.heap.push { cls:=.type "dict",data:=.dict (List.toArray []) }).get? l=!o:=ag _ ho;let xB:Shared.TypeIs { s with heap:=s.heap.push { cls:=.type "dict",data:=.dict (List.toArray []) } } (.ref l) "list":=#[o,wX,hc]
 unfold Builtin.«dict.__init__»;show aa ?_;unfold Builtin.Dict.selfAndRest;show aa (wpAny_notOrdered_dict lV.typeIs ?_);show ai ?_;change wpAny _ _ (Builtin.Dict.updateFrom "dict.__init__" s⁻¹ (.ref l) [] .none) _ _ _;unfold Builtin.Dict.updateFrom;show aa (de xB ?_);rw[aw ∅];show aa (av6 (by simp[hh]) wX hc hn hd λh1 zt k1 k2=>?_);rw[aw (by rfl)];show aa (dS ?_);let jq:=k1 _ _ wX;let kP:h1.IsList l items:=#[o,jq,hc,nn,hd]
 let dO:=aq jq;let zK:=aF dO;show aa (dE kP ?_);show ai #[fY P1 _,?_];let la:=aq ho;let#[oa,_,_,Qu,_]:=id lV;let qG:=aq (k1 _ _ Qu);let tl:∀j,j< -ks->tp j<s⁻¹:=λj hj=>by
  let#[_,o',e,_]:=ht j hj;show aq e
 show aU9 (mQ (by simp[hh]) h1.objs.size l zK items).toS (λz=>?_) gD hit (λj hj z=>?_) () nd items.size 0 _ () #[#[_,au _ rfl,rfl,rfl],kP.push _] (λj hj=>?_) ?_ λs' m lC=>?_
 .simp only[List.mem_cons,List.not_mem_nil,or_false] at z;rcases z with z|z
  .exact aF qG z
  .exact bH la z
 .have:=tl j ();simp only[List.mem_cons,List.not_mem_nil,or_false] at z;rcases z with z|z
  .exact aF this z
  .exact aF (cG this qG) z
 .let#[tk,o',e,r]:=ht j ();show#[tk,o',ag _ (k1 _ _ (ag _ e)),r]
 .let#[o',es,ep,e,r]:=lV;show#[o',es,ep,ag _ (k1 _ _ e),r]
 .let eS:s'={ s with heap:=s'.heap,toks:=s'.toks }:=by
   let#[lj,g',d',jO,uc]:=s';let m1:=m.gens;let m2:=m.drawn;let m3:=m.os;subst m1;subst m2;subst m3
   rfl
  rw[eS];show#[rfl,h _ _ lC (λb o' e=>?_) (aH k2 m.toks)];let lb:=aq e;show m.heap b o' (λz=>?_) (ag _ (k1 _ _ (ag _ e)));simp only[List.mem_cons,List.not_mem_nil,or_false] at z;rcases z with z|z
  .exact aF lb z
  .exact aF (cG lb qG) z
end
end ST
namespace L2
open PySem PyProof.Rows
section
variable{X:Cx}
def MR:∀ks:@&Int,KV (ks.map λk=>((.inl k:Key),V.bl true)) (ST.I9 ks)
 |[]=>.nil
 |_::ks=>.cons #[rfl,rfl] (MR ks)
def at5(hc:X.calm=true):k9 X (.type "dict") (λxs H Q=>∃a,∃(ts:@&Addr) (ks:@&Int),xs=[.ref a]/\fT X.K H a (ts.map V.ref)/\-ts=-ks/\(∀(i:Nat) t k,ts[i]?=!t->ks[i]?=!k->gF X.K H t [.int k,.bl true])/\-ks<=10000/\ks.Nodup/\∀p,H p=none->Q (.ref p) (upd H p (.dK (ks.map λk=>(.inl k,.bl true))))):=by
 intro pi s σ H xs us Q I r h;let#[a,ts,ks,rfl,hq,hl,ht,hz,nd,q]:=h;let#[u,rfl,ru]:=vals1 r;cases ru;let#[aS,rv,#[o,n,ho,jb,QK,hd],_]:=I.list hq;let hlen:-aS=-ts:=by rw[<- -rv];simp
 show ST.aY3 (tp:=λi=>ts.getD i 0) (I.ok.hd hc) ho jb QK hd (by rw[aK];omega) (λi v hv=>?_) (λj hj=>?_) hz nd λh' tk hS hk wM=>?_
 .rw[List.getElem?_toArray] at hv;let hi:i< -ts:=by rw[<- hlen];show(ax.mp hv).1
  let#[u,hu,ru]:=rv.get (by rw[aD,ao hi];rfl);rw[hv] at hu;cases hu;rw[show ts.getD i 0=ts[i] by simp[List.getD,hi]];show ru
 .let HJ:j< -ts:=by omega
  let#[lS,BH,p2,_]:=I.tuple (ht j ts[j] ks[j] (ao HJ) (ao hj));cases BH with
  |cons r1 r2 =>
  cases r2 with
  |cons r2 r3 =>
  cases r3;let#[tk,rfl]:=r1;cases r2;rw[show ts.getD j 0=ts[j] by simp[List.getD,HJ],show ks.getD j 0=ks[j] by simp[List.getD,hj]];show#[tk,p2]
 .exact#[.ref _,_,I.laid (t':=tk) hk (ak _) (Ag (by rw[aj];show aH hz ∅) (cO.mpr (aU (aF I.big))) (MR ks) hS),rfl,q _ (I.bB.fresh (ak _))]
end
end L2
namespace L2
open PySem PySem.Spec PyProof.Rows
variable{prog P:Program}{w:World}{A:Around}{s:Shared}{X:Cx}{l t z i1 i2:Addr}{i:Nat}
def yM{k:Key}{u:Value}(h:(j4 P w).is k u=true):RelV (kV k) u:=by
 rw[aV6] at h;rcases o9 h with⟨j,t,e1,e2⟩|⟨x,t,e1,e2⟩
 .subst e1 e2;show#[t,rfl]
 .subst e1 e2;show#[t,rfl]
def KV.at{kvs:@&(Key×V)}{vs:@&(Key×Value)}(r:KV kvs vs):∀{i:Nat} {k:Key} {x:V},kvs[i]?=!(k,x)->∃u,vs[i]?=!(k,u)/\RelV x u:=by
 unfold KV at r
 induction r with
 |nil=>intro i k x h;simp at h
 |cons h r ih =>
  intro i k x e;cases i with
  |zero =>
   simp at e;subst e;let#[h1,h2]:=h;show #[_,by
    change some _=!(k,_);let Dv:k=_:=h1;rw [Dv],h2]
  |succ i=>simpa using ih (_/e)
def KY:∀l:@&(Str×Tok),Vals ((l.map (·.1)).map V.str) (strValues l)
 |[]=>.nil
 |p::l=>.cons #[_,rfl] (KY l)
def Nk{pi:@&(Addr×Obj)}{σ:St}{H:Hp}{Q:VK}{l:@&(Str×Tok)}{ys:@&Str}{t':Nat}(I:Inv X pi σ H s)(hl:l.map (·.1)=ys)(hz:-ys<=sizeLine)(q:∀p,H p=none->Q (.ref p) (upd H p (.lst (ys.map V.str)))) :
  EP X pi σ Q (.ref s⁻¹) { s with heap:=s.heap.push { cls:=.type "list",data:=.seq (strValues l).toArray },toks:=t' }:=by
 subst hl;show#[.ref s⁻¹,_,I.laid (a:=s⁻¹) (o:=.lst ((l.map (·.1)).map V.str)) (t':=t') (λx x e=>ag _ e) (ak _) #[by rw[aj];show hz,strValues l,_,KY l,au _ rfl],rfl,q _ (I.bB.fresh (ak _))]
def UP:kU X "str.split" (λx xs H Q=>∃a b:Str,x=.str a/\xs=[.str b]/\(-b==0)=false/\-a<=sizeLine/\(Txt.split a b).length<=sizeLine/\∀p,H p=none->Q (.ref p) (upd H p (.lst ((Txt.split a b).map V.str)))):=by
 intro pi s σ H x xs v us Q I rx r h;let#[a,b,rfl,rfl,hb,ha,hz,q]:=h;let#[t,rfl]:=rx;cases r with
 |cons r rr =>
 cases rr;let#[u,rfl]:=r;let one:Txt.split a b=[a]->EP X pi σ Q (.ref s⁻¹) { s with heap:=s.heap.push { cls:=.type "list",data:=.seq [Value.str a t].toArray } }:=λe=>by
  have:=Nk (l:=[(a,t)]) (ys:=Txt.split a b) (t':=s.toks) I (by rw[e];rfl) hz q;show this
 cases h1:(decide (-a< -b)||decide (Builtin.Str.strKind a<Builtin.Str.strKind b))
 .cases hf:(Builtin.Str.occurrences a b 0 (-a) (-a+1)).isEmpty
  .let es:Txt.split a b=Builtin.Str.partsBetween a (Builtin.Str.occurrences a b 0 (-a) (-a+1)) (-b):=by unfold Txt.split;rw[az (by rw[h1];decide),az (by rw[hf];decide)]
   show cE rj (mO _ _ _) oS (mV _ _) (meets_str_split_sep a b t u h1 hb hf ha (by rw[<- es];show hz)) ?_;rw[strsFrom_eq];show Nk (l:=numbered s.toks _) (ys:=Txt.split a b) I ((numbered_texts _ _).trans es.symm) hz q
  .exact cE rj (mO _ _ _) oS (mV _ _) (meets_str_split_not_found a b t u h1 hb hf) (one (by unfold Txt.split;rw[az (by rw[h1];decide),aw hf]))
 .exact cE rj (mO _ _ _) oS (mV _ _) (meets_str_split_cannot_occur a b t u h1) (one (by unfold Txt.split;rw[aw h1]))
def aK3:k9 X (.type "int") (λxs H Q=>∃a:Str,∃n,xs=[.str a]/\-a<=640/\PySem.intText? a=!n/\Q (.int n) H):=by
 intro pi s σ H xs us Q I r h;let#[a,n,rfl,hl,hn,q]:=h;let#[u,rfl,t,rfl]:=vals1 r;show PySem.W.KIN.call_text hn hl #[.int n,H,I.tok _,#[_,rfl],q]
def GJ(x:Str):It:=#[λi y=>i< -x,λi H v H'=>H'=H/\∃c,x.cps[i]?=!c/\v=.str #[(List.toArray [c])],λi y=>-x<=i]
def VN{K:PySem.W.Frag}{tg:Expr}(x:Str)(t:Tok)(it:Addr):Turn P w K tg (GJ x) [it] it (λi h=>h.IsStrIter it "str_ascii_iterator" x t i) where
 mem:=by simp
 obj:=λi h st b hb=>by
  let e:b=it:=by simpa using hb
  subst e;let#[o,e,c,d]:=st;show#[o,e,λv z=>by rw[d] at z;cases z]
 keep:=λi h h' st k=>let ⟨o,ho,r⟩:=st;#[o,k it #[_] o ho,r]
 item:=by
  intro X hP hw hK hc i pi s σ H E I hf st hg;subst hP hw hK;let#[f0,f1,f2,f3,f4,f5]:=hf it #[_];let hg:i<x.cps.size:=hg;show wpAny_pyNext_ascii_item st (c:=x.cps[i]) (by simp[hg]) λh' kJ sb=>?_;let I1:Inv X pi σ H { s with heap:=h',toks:=s.toks+1 }:=I.turned (λb o hb e=>(sb.2 b hb).trans e) f0 f1 f3 f4 f5;let#[o,e,c,d]:=id kJ;show#[_,rfl,Bh (s:={ s with heap:=h',toks:=s.toks+1 }) e c d ∅ #[.str #[(List.toArray [x.cps[i]])],H,I1,#[_,rfl],#[rfl,_,by simp[hg],rfl],kJ,λb hb=>(hf b hb).1]]
 done:=by
  intro X hP hw hK hc i pi s σ H E I hf st hg;subst hP hw hK;let#[f0,f1,f2,f3,f4,f5]:=hf it #[_];let hg:x.cps.size<=i:=hg;show wpAny_pyNext_ascii_end (I.ok.hd hc) st (by simp[hg]) λh' eb=>#[rfl,I.turned (t':=s.toks) (λb o hb e=>eb b o hb e) f0 f1 f3 f4 f5]
 self:=λy y y y y st h=>wpAny_pyIter_striter_ascii st h
section
def VG{E:Value->Shared->Prop}{y:Value}{ys:@&Value}{Q:@&Value->Shared->Prop}(hh:A.handled=none)(hl:s.heap.IsList l (y::ys).toArray)(hz:-ys<sizeLine)(hQ:∀(h':Heap) (tk:Nat),(∀b o,s.heap.get? b=!o->h'.get? b=!o)->Q [y,.ref h'.objs.size] { s with heap:=h'.push { cls:=.type "list",data:=.seq ys.toArray },toks:=tk }):wpAny (model prog w) A (unpackItems (.ref l) 2 (!1)) Q E s:=by
 let ll:l<s⁻¹:=by let#[o,ho,_]:=hl;show aq ho
 let ne:l≠s⁻¹:=aF ll;unfold unpackItems notIterableAtAll;show aa (aa (wpAny_specialOf hl.typeIs PySem.F.slot_list_iter.lookup (ai ?_)));simp only[Bool.false_eq_true,if_false];show aa (aZ (dE hl ?_));show aa (aZ (PySem.W.kun_draw ne 1 0 _ _ #[_,au _ rfl,rfl,rfl] (hl.push _) #[_] λh1 Hq vZ=>?_));let l1:h1.IsList l (y::ys).toArray:=(hl.push _).extBut vZ.extBut ne;let Qf:=Hq;let#[o1,e1,_]:=Qf;let l2:=l1;let#[o2,e2,_]:=l2;change wpAny _ _ (if(1:Nat)<1 then _ else _) _ _ _;rw[az ()];show aa (aZ (PySem.W.kun_collect (s:={ s with heap:=h1 }) (T:="list_iterator") (.inr (.inr (.inl rfl))) (mQ (A:=A.in1) hh s⁻¹ l ne (y::ys).toArray) (λj u st=>st.1.typeIs) (k:=1) #[_] #[Hq,l1] (aq e1) (aq e2) (λh2 tk hk=>?_) (by rw[aK,dG];omega)));change wpAny _ _ (if (-ys)<0 then _ else _) _ _ _;rw[az ()];change wpAny _ _ (newList (ys.take (-ys-0)) >>= λd=>pure ([y]++[d]++ys.drop (-ys-0))) _ _ _;rw[Nat.sub_zero,cS,List.drop_length];show aa (wpAny_newList (s:={ s with heap:=h2,toks:=tk }) (ai (hQ h2 tk λb o e=>hk b o (aF (aq e)) (vZ.extBut b o (aF (aq e)) (ag _ e)))) ())
variable{pos:Pos}
def Jc(K:PySem.W.Frag)(t:oG):TG:=λv σ H Q=>∃l x xs,v=.ref l/\fT K H l (x::xs)/\∀p,H p=none->t [x,.ref p] σ (upd H p (.lst xs)) Q
def SF{a b:Expr}{pb:Pos}{k:Nat}{t:oG}(hc:X.calm=true)(h:vo X [a,b] t)(ha:∀e p,a≠.Starred e p:=by intro _ _ h;cases h)(hb:∀e p,b≠.Starred e p:=by intro _ _ h;cases h):PG X (.Tuple [a,.Starred b pb] k pos) (Jc X.K t):=by
 intro pi s σ H v u Q I r hw;let#[l,x,xs,rfl,hq,hw]:=hw;cases r;let#[aS,rv,p,hz]:=I.list hq;cases rv with
 |@cons _ y _ ys r rr =>
 let e1:assignEach [a,.Starred b pb] X.env=[(false,assign a X.env),(true,assign b X.env)]:=by
  cases a<;>first|rfl|show(ha _ _ rfl).elim
 let e2:assignEach [a,b] X.env=[(false,assign a X.env),(false,assign b X.env)]:=by
  cases a<;>first|show(ha _ _ rfl).elim|(cases b<;>first|rfl|show(hb _ _ rfl).elim)
 rw[assign_Tuple];show aa (iS ?_);unfold unpack;rw[e1];show aa (aZ (VG (I.ok.hd hc) p.isList (by have:=-rr;rw[dG] at hz;omega) λh' tk hk=>?_));let I2:Inv X pi σ H { s with heap:=h',toks:=tk }:=I.kept hk;have:=h pi { s with heap:=h'.push { cls:=.type "list",data:=.seq ys.toArray },toks:=tk } σ (upd H h'.objs.size (.lst xs)) [x,.ref h'.objs.size] [y,.ref h'.objs.size] Q
  (I2.laid (t':=tk) (λc o e=>ag _ e) (ak _) #[by rw[dG] at hz;omega,ys,_,rr,au _ rfl]) (.cons r (.cons rfl .nil)) (hw _ (I2.bB.fresh (ak _)))
 rw[e2] at this;show this
end
section
variable{E:Value->Shared->Prop}
def WZ{it:Addr}{items:Array Value}{x:Value}{Q:Value->Shared->Prop}(hit:s.heap.IsTupleIter it t i)(ht:s.heap.IsTuple t items)(hx:items[i]?=!x)(hQ:∀h',h'.IsTupleIter it t (i+1)->Heap.SameBut it s.heap h'->Q x { s with heap:=h' }):wpAny (model prog w) A (Builtin.SmallTypes.nextOf (.ref it)) Q E s:=by
 let#[o,e1,e2,e3]:=id hit;let#[p,e4,_,m,e5]:=ht;unfold Builtin.SmallTypes.nextOf;show aa (bA (name:=Str.ofString "__next__") hit.typeIs du (br du hit.typeIs ky ?_ (jU _)));change wpAny _ _ (field (.ref it) 0 >>= _) _ _ s;show aa (bo e1 e3 (x:=.ref t) rfl ?_);change wpAny _ _ (if(Value.ref t==Value.none)=true then _ else _) _ _ s;rw[az (show ¬((Value.ref t==Value.none)=true) from bu)];change wpAny _ _ (field (.ref it) 1 >>= _) _ _ s;show aa (bo e1 e3 (x:=.int i 0) rfl ?_);change wpAny _ _ (seqItems? (.ref t) >>= _) _ _ s;show aa (dt e4 e5 ?_);simp only[Int.toNat_natCast,hx];show aa (cD e1 e3 #[_] (ai #[x,rfl,ai (hQ _ ?_ (aV ..))]));show#[_,aQ _ e1 (cc (bc e3 _)),(iL ..).trans e2,by rw[bc e3];simp[rawInt]]
def YD{it:Addr}{items:Array Value}{Q:Value->Shared->Prop}(hh:A.handled=none)(hit:s.heap.IsTupleIter it t i)(ht:s.heap.IsTuple t items)(hx:items[i]?=none)(hE:∀h' e,Heap.ExtBut it s.heap h'->(∃o,h'.get? e=!o/\o.cls=.type "StopIteration")->E (.ref e) { s with heap:=h' }):wpAny (model prog w) A (Builtin.SmallTypes.nextOf (.ref it)) Q E s:=by
 let#[o,e1,e2,e3]:=id hit;let#[p,e4,_,m,e5]:=ht;unfold Builtin.SmallTypes.nextOf;show aa (bA (name:=Str.ofString "__next__") hit.typeIs du (br du hit.typeIs ky ?_ (jU _)));change wpAny _ _ (field (.ref it) 0 >>= _) _ _ s;show aa (bo e1 e3 (x:=.ref t) rfl ?_);change wpAny _ _ (if(Value.ref t==Value.none)=true then _ else _) _ _ s;rw[az (show ¬((Value.ref t==Value.none)=true) from bu)];change wpAny _ _ (field (.ref it) 1 >>= _) _ _ s;show aa (bo e1 e3 (x:=.int i 0) rfl ?_);change wpAny _ _ (seqItems? (.ref t) >>= _) _ _ s;show aa (dt e4 e5 ?_);simp only[Int.toNat_natCast,hx];show aa (dS (aa (cD e1 e3 #[_] ?_)));change wpAny _ _ (newExc (.type "StopIteration") [] >>= _) _ _ _;show aa ?_;simp only[newExc,newTuple];show aa (bK ?_ (by size_fits));show aa (m:=firstArgMember _ _) (cN (a:=Value.none) (by first|rfl|(simp only[firstArgMember];rfl)) ?_);show bK ?_ (by size_fits);simp only[raiseNew];show aa (wpAny_handled ?_)
 first|rw[show A.in1.handled=none from hh]|rw[hh]
 show aa (ai (tO ?_));show hE _ _ (((aV ..).extBut.push _).push _) #[_,au _ rfl,rfl]
structure Zd(z TI TO i1 i2:Addr):Prop where
 TIz:TI≠z
 TOz:TO≠z
 i1z:i1≠z
 i2z:i2≠z
 TITO:TI≠TO
 TIi1:TI≠i1
 TIi2:TI≠i2
 TOi1:TO≠i1
 TOi2:TO≠i2
 i12:i1≠i2
structure Zp(h:Heap)(z TI TO i1 i2 t l:Addr)(i:Nat)(f:Value):Prop where
 z:IsZip h z TI TO f
 p:IsPair h TI (.ref i1) (.ref i2)
 o:∃a b,IsPair h TO a b
 a:h.IsTupleIter i1 t i
 b:h.IsListIter i2 l i
def XT{TI TO:Addr}{xs ys:Array Value}{x y:Value}{Q:Option Value->Shared->Prop}(D:Zd z TI TO i1 i2)(Z:Zp s.heap z TI TO i1 i2 t l i .none)(ht:s.heap.IsTuple t xs)(hl:s.heap.IsList l ys)(hx:xs[i]?=!x)(hy:ys[i]?=!y)(hQ:∀h',Zp h' z TI TO i1 i2 t l (i+1) (rawInt s⁻¹)->IsPair h' s⁻¹ x y->(∀c o,c≠z->c≠TO->c≠i1->c≠i2->s.heap.get? c=!o->h'.get? c=!o)->Q (!(.ref s⁻¹)) { s with heap:=h' }):wpAny (model prog w) A (pyNext (.ref z)) Q E s:=by
 let l1z:t≠z:=by
  rintro rfl;let#[o,e,c,_]:=ht;rw[Z.z] at e;cases e;simp at c
 let l2z:l≠z:=by
  rintro rfl;let#[o,e,c,_]:=hl;rw[Z.z] at e;cases e;simp at c
 let l2i1:l≠i1:=by
  rintro rfl;let#[o,e,c,_]:=hl;let#[o',e',c',_]:=Z.a;rw[e'] at e;cases e;rw[c'] at c;simp at c
 let l2TO:l≠TO:=by
  rintro rfl;let#[o,e,c,_]:=hl;let#[a,b,h]:=Z.o;rw[h] at e;cases e;simp at c
 let hT:s.TypeIs (.ref z) "zip":=#[_,Z.z,rfl]
 let#[a,b,ho]:=Z.o;unfold pyNext;show aa (fX (bA (name:=Str.ofString "__next__") hT fk (br fk hT vC ?_ (tR _))));change wpAny _ _ (field (.ref z) 2 >>= _) _ _ _;show aa (bo Z.z rfl (x:=.bool false) rfl ?_);change wpAny _ _ (field (.ref z) 3 >>= _) _ _ _;show aa (bo Z.z rfl (x:=.ref TI) rfl (aa (dt Z.p rfl ?_)));change wpAny _ _ (Builtin.SmallTypes.ownedTupleIsFree (.ref z) >>= _) _ _ _;unfold Builtin.SmallTypes.ownedTupleIsFree;show aa (aa (bo Z.z rfl (x:=.none) rfl (ai ?_)));simp only[if_true];show aa (dS (aa (bo Z.z rfl (x:=.ref TO) rfl (aa (fg Z.z #[_] λh1 z1 s1=>?_)))))
 replace z1:IsZip h1 z TI TO .ellipsis:=z1
 show aa ?_;simp only[List.zipIdx_cons,List.zipIdx_nil,List.forIn_cons,List.forIn_nil];show aa (aa (OL ?_));change wpAny _ _ (Builtin.SmallTypes.nextOf (.ref i1) >>= _) _ _ _;show aa (WZ (Z.a.extBut s1.extBut D.i1z) (ht.extBut s1.extBut l1z) hx λh2 a2 s2=>ai ?_);let o2:IsPair h2 TO a b:=s2.extBut _ _ D.TOi1 (s1.extBut _ _ D.TOz ho);show aa (dt o2 rfl (aa (wpAny_updateSeq_pair o2 λh3 o3 s3=>?_)))
 replace o3:IsPair h3 TO x b:=o3
 show aa (wpAny_letGo (ai ?_));show aa (aa (OL ?_));change wpAny _ _ (Builtin.SmallTypes.nextOf (.ref i2) >>= _) _ _ _;show aa (wpAny_nextOf_list_item (((Z.b.extBut s1.extBut D.i2z).extBut s2.extBut D.i12.symm).extBut s3.extBut D.TOi2.symm) (((hl.extBut s1.extBut l2z).extBut s2.extBut l2i1).extBut s3.extBut l2TO) hy λh4 b4 s4=>ai ?_);let o4:IsPair h4 TO x b:=s4.extBut _ _ D.TOi2 o3;show aa (dt o4 rfl (aa (wpAny_updateSeq_pair o4 λh5 o5 s5=>?_)))
 replace o5:IsPair h5 TO x y:=o5
 show aa (wpAny_letGo (ai (ai (aa (dt o5 rfl (aa (wpAny_newTuple ?_)))))));let sz:h5.objs.size=s⁻¹:=by rw[s5.1,s4.1,s3.1,s2.1,s1.1]
 let z5:IsZip h5 z TI TO .ellipsis:=s5.extBut _ _ D.TOz.symm (s4.extBut _ _ D.i2z.symm (s3.extBut _ _ D.TOz.symm (s2.extBut _ _ D.i1z.symm z1)));let k5:∀c o,c≠z->c≠TO->c≠i1->c≠i2->s.heap.get? c=!o->h5.get? c=!o:=λc o c1 c2 c3 c4 e=>s5.extBut _ _ c2 (s4.extBut _ _ c4 (s3.extBut _ _ c2 (s2.extBut _ _ c3 (s1.extBut _ _ c1 e))));let a5:=((a2.extBut s3.extBut D.TOi1.symm).extBut s4.extBut D.i12).extBut s5.extBut D.TOi1.symm;let b5:=b4.extBut s5.extBut D.TOi2.symm;let zl:z<h5.objs.size:=aq z5;change wpAny _ _ (Builtin.SmallTypes.ownedTupleHandOut (.ref z) (.ref h5.objs.size) >>= _) _ _ _;unfold Builtin.SmallTypes.ownedTupleHandOut;let z6:IsZip (h5.push { cls:=.type "tuple",data:=.seq (List.toArray [x,y]) }) z TI TO .ellipsis:=ag _ z5;show aa (aa (fg z6 #[_] λh7 z7 s7=>?_))
 replace z7:IsZip h7 z TI TO (rawInt h5.objs.size):=z7
 show fg z7 #[_] λh8 z8 s8=>?_
 replace z8:IsZip h8 z TI TO (rawInt h5.objs.size):=z8
 let up:∀c o,c≠z->h5.get? c=!o->h8.get? c=!o:=λc o c1 e=>s8.extBut _ _ c1 (s7.extBut _ _ c1 (ag _ e));let t8:IsPair h8 h5.objs.size x y:=s8.extBut _ _ (bH zl) (s7.extBut _ _ (bH zl) (au _ rfl));rw[sz] at z8 t8;show ai #[_,rfl,ai ?_];change Q (!.ref h5.objs.size) _;rw[sz];show hQ h8 #[z8,up _ _ D.TIz (k5 _ _ D.TIz D.TITO D.TIi1 D.TIi2 Z.p),#[x,y,up _ _ D.TOz o5],a5.at λo e=>up _ o D.i1z e,b5.at λo e=>up _ o D.i2z e] t8 λc o c1 c2 c3 c4 e=>up c o c1 (k5 c o c1 c2 c3 c4 e)
def bC7{TI TO:Addr}{xs:Array Value}{f:Value}{Q:Option Value->Shared->Prop}(hh:A.handled=none)(D:Zd z TI TO i1 i2)(Z:Zp s.heap z TI TO i1 i2 t l i .none)(ht:s.heap.IsTuple t xs)(hx:xs[i]?=none)(hQ:∀h',(∀c o,c≠z->c≠TO->c≠i1->c≠i2->s.heap.get? c=!o->h'.get? c=!o)->Q none { s with heap:=h' }):wpAny (model prog w) A (pyNext (.ref z)) Q E s:=by
 let l1z:t≠z:=by
  rintro rfl;let#[o,e,c,_]:=ht;rw[Z.z] at e;cases e;simp at c
 let hT:s.TypeIs (.ref z) "zip":=#[_,Z.z,rfl]
 let#[a,b,ho]:=Z.o;unfold pyNext;show aa (fX (bA (name:=Str.ofString "__next__") hT fk (br fk hT vC ?_ (tR _))));change wpAny _ _ (field (.ref z) 2 >>= _) _ _ _;show aa (bo Z.z rfl (x:=.bool false) rfl ?_);change wpAny _ _ (field (.ref z) 3 >>= _) _ _ _;show aa (bo Z.z rfl (x:=.ref TI) rfl (aa (dt Z.p rfl ?_)));change wpAny _ _ (Builtin.SmallTypes.ownedTupleIsFree (.ref z) >>= _) _ _ _;unfold Builtin.SmallTypes.ownedTupleIsFree;show aa (aa (bo Z.z rfl (x:=.none) rfl (ai ?_)));simp only[if_true];show aa (dS (aa (bo Z.z rfl (x:=.ref TO) rfl (aa (fg Z.z #[_] λh1 z1 s1=>?_)))))
 replace z1:IsZip h1 z TI TO .ellipsis:=z1
 show aa ?_;simp only[List.zipIdx_cons,List.zipIdx_nil,List.forIn_cons,List.forIn_nil];show aa (aa (OL ?_));change wpAny _ _ (Builtin.SmallTypes.nextOf (.ref i1) >>= _) _ _ _;show aa (YD hh (Z.a.extBut s1.extBut D.i1z) (ht.extBut s1.extBut l1z) hx λh2 e s2 he=>?_);let#[oe,e1,e2]:=he;let z2:IsZip h2 z TI TO .ellipsis:=s2 _ _ D.i1z.symm z1;let ne:e≠z:=λx=>by subst x;rw[z2] at e1;cases e1;simp at e2
 show fg z2 #[_] λh3 y s3=>?_;show aa (cL (T:="StopIteration") (b:=true) #[oe,s3.extBut _ _ ne e1,e2] isSubtype_stop ?_);show ai (hQ _ λc o c1 y c3 y x=>s3.extBut _ _ c1 (s2 _ _ c3 (s1.extBut _ _ c1 x)))
noncomputable abbrev zo(h:Heap)(t:Addr):Heap:=h.push { cls:=.type "tuple_iterator",data:=.fields (List.toArray [.ref t,.int 0 0]) }
noncomputable abbrev zm(h:Heap)(t l:Addr):Heap:=(zo h t).push { cls:=.type "list_iterator",data:=.fields (List.toArray [.ref l,.int 0 0]) }
noncomputable abbrev zk(h:Heap)(t l:Addr):Heap:=(zm h t l).push { cls:=.type "tuple",data:=.seq (List.toArray [.ref h.objs.size,.ref (zo h t).objs.size]) }
noncomputable abbrev vJ(h:Heap)(t l:Addr):Heap:=(zk h t l).push { cls:=.type "tuple",data:=.seq (List.toArray [.none,.none]) }
noncomputable abbrev tV(h:Heap)(t l:Addr):Heap:=(vJ h t l).push { cls:=.type "zip",data:=.fields (List.toArray [.none,.bool false,.bool false,.ref (zm h t l).objs.size,.ref (zk h t l).objs.size]) }
def aG9(t l:Addr)(xs ys:Array Value):Meets (Builtin.«zip.__new__» #[[.type "zip",.ref t,.ref l],[]]) (λx R s=>s.heap.IsTuple t xs/\s.heap.IsList l ys/\R (.ok (.ret (.ref (vJ s.heap t l).objs.size))) { s with heap:=tV s.heap t l }) :=
 .of_wp λprog w A R s h=>by
  let#[hp,g,d,tk,os]:=s;let#[a,b,h]:=h;let lT:=sub_zip;let b1:Heap.IsTuple (Shared.heap #[hp,g,d,tk,os]) t xs:=a;let b2:Heap.IsList (Shared.heap #[hp.push { cls:=.type "tuple_iterator",data:=.fields (List.toArray [.ref t,.int 0 0]) },g,d,tk,os]) l ys:=Heap.IsList.push b _
  wp_walk using mM b1,dE b2
  show#[_,rfl,h]
def aM7{xs ys:Array Value}{Q:Value->Shared->Prop}(ht:s.heap.IsTuple t xs)(hl:s.heap.IsList l ys)(h:∀h',Zp h' (s⁻¹+4) (s⁻¹+2) (s⁻¹+3) s⁻¹ (s⁻¹+1) t l 0 .none->(∀c o,s.heap.get? c=!o->h'.get? c=!o)->Q (.ref (s⁻¹+4)) { s with heap:=h' }):wpAny (model prog w) A (call (.type "zip") [.ref t,.ref l]) Q E s:=by
 show callType_new PySem.F.called_zip ∅ (PySem.F.typeCall_zip_2 _ _) (PySem.F.newCall_zip_2 _ _) (λobj=>PySem.F.args_object_init_3 obj _ _) PySem.F.entry_zip_new (aG9 t l xs ys) #[ht,hl,?_];let z1:(zo s.heap t).objs.size=s⁻¹+1:=cQ ..;let z2:(zm s.heap t l).objs.size=s⁻¹+2:=by rw[cQ,z1]
 let z3:(zk s.heap t l).objs.size=s⁻¹+3:=by rw[cQ,z2]
 let z4:(vJ s.heap t l).objs.size=s⁻¹+4:=by rw[cQ,z3]
 let g5:(tV s.heap t l).get? (vJ s.heap t l).objs.size=!_:=au _ rfl;let g4:(tV s.heap t l).get? (zk s.heap t l).objs.size=!_:=ag _ (au _ rfl);let g3:(tV s.heap t l).get? (zm s.heap t l).objs.size=!_:=ag _ (ag _ (au _ rfl));let g2:(tV s.heap t l).get? (zo s.heap t).objs.size=!_:=ag _ (ag _ (ag _ (au _ rfl)));let g1:(tV s.heap t l).get? s⁻¹=!_:=ag _ (ag _ (ag _ (ag _ (au _ rfl))));change _/\Q (.ref (vJ s.heap t l).objs.size) _;rw[z2,z3,z4] at g5;rw[z1,z2] at g3;rw[z3] at g4;rw[z1] at g2;rw[z4];show#[#[_,g5,rfl],?_];show h _ #[g5,g3,#[_,_,g4],#[_,g1,rfl,rfl],#[_,g2,rfl,rfl]] λc o e=>ag _ (ag _ (ag _ (ag _ (ag _ e))))
abbrev GH(K:PySem.W.Frag)(t a:Addr):It :=
 #[λi H=>∃xs ys x y,gF K H t xs/\fT K H a ys/\xs[i]?=!x/\ys[i]?=!y,λi H v H'=>∃p x y,H p=none/\v=.ref p/\(∀xs,gF K H t xs->xs[i]?=!x)/\(∀ys,fT K H a ys->ys[i]?=!y)/\H'=upd H p (.tup [x,y]),λi H=>∃xs,gF K H t xs/\-xs<=i]
def VO{K:PySem.W.Frag}{elts:@&Expr}{x1:Nat}{tp:Pos}{a TI TO:Addr}(D:Zd z TI TO i1 i2):Turn P w K (.Tuple elts x1 tp) (GH K t a) [z,TI,TO,i1,i2] z (λi h=>Zp h z TI TO i1 i2 t a i .none) where
 mem:=by simp
 obj:=λi h st b hb=>by
  let#[a',b',ho]:=st.o;let#[o1,e1,_,d1]:=st.a;let#[o2,e2,_,d2]:=st.b;simp only[List.mem_cons,List.mem_nil_iff,or_false] at hb;rcases hb with rfl|rfl|rfl|rfl|rfl
  .exact#[_,st.z,λv z=>by cases (show Data.fields _=Data.cell v from z)]
  .exact#[_,st.p,λv z=>by cases (show Data.seq _ _=Data.cell v from z)]
  .exact#[_,ho,λv z=>by cases (show Data.seq _ _=Data.cell v from z)]
  .exact#[_,e1,λv z=>by rw[d1] at z;cases z]
  .exact#[_,e2,λv z=>by rw[d2] at z;cases z]
 keep:=λi h h' st k=>by
  let#[a',b',ho]:=st.o;show#[k z #[_] _ st.z,k TI #[_] _ st.p,#[a',b',k TO #[_] _ ho],st.a.at λo e=>k i1 #[_] o e,st.b.at λo e=>k i2 #[_] o e]
 item:=by
  intro X hP hw hK hc i pi s σ H E I hf st hg;subst hP hw hK;let#[xs,ys,x,y,hq,hr,hx,hy]:=hg;let#[aS,rv,p,hz]:=I.tuple hq;let#[u,hu,ru]:=rv.get hx;let#[Qc,fH,p',zD]:=I.list hr;let#[v,hv,Pm]:=fH.get hy;show XT D st (show s.heap.IsTuple t aS.toArray from p) p'.isList (x:=u) (y:=v) (_/hu) (_/hv) λh' qo pr k1=>?_;show#[_,rfl,wpAny_letOwnedTupleGo_zip qo.z λh2 z2 s2=>?_];let s2:Heap.SameBut z h' h2:=s2;let kp:∀b o,b∉[z,TI,TO,i1,i2]->s.heap.get? b=!o->h2.get? b=!o:=λb o hb q=>by
   simp only[List.mem_cons,List.mem_nil_iff,or_false,not_or] at hb;show(s2.2 b hb.1).trans (k1 b o hb.1 hb.2.2.1 hb.2.2.2.1 hb.2.2.2.2 q)
  let zl:z<s⁻¹:=aq st.z;let hn:H s⁻¹=none:=I.bB.fresh (ak _);let t2:h2.get? s⁻¹=some { cls:=.type "tuple",data:=.seq (List.toArray [u,v]) }:=(s2.2 _ (bH zl)).trans pr;let ne:∀b u',H b=!u'->b∉[z,TI,TO,i1,i2]:=λb u' q hb=>by rw[(hf b hb).1] at q;cases q
  let bB:fU X.prog X.w (upd H s⁻¹ (.tup [x,y])) h2:=λb o q=>by
   by_cases hb:b=s⁻¹
   .subst hb;rw[k7] at q;cases q;show#[by change 2<=sizeLine;decide,[u,v],.cons ru (.cons Pm .nil),_,t2,rfl,#[_,rfl],rfl]
   .rw[d8 hb] at q;show(I.bB b o q).G6 (λc v hc q'=>?_) (λc q'=>by rw[d8 (j3 q' hn)];show q') λc ys q'=>by rw[d8 (j3 q' hn)];show q'
    rcases hc with z|z
    .subst z;show kp _ _ (ne _ _ q) q'
    .exact kp _ _ (ne _ _ z) q'
  let I2:Inv X pi σ (upd H s⁻¹ (.tup [x,y])) { s with heap:=h2 }:=by
   show I.step (g':=s.gens) (d':=s.drawn) (t':=s.toks) (ch:=[z,TI,TO,i1,i2]) (λb hb=>?_) (λb o l l hb q l=>kp b o hb q) (λb o l l hb q l=>#[o.slots,kp b o hb q])
    (λb o l q n=>by rw[d8 (aF (aq q))];show n) (λb o hb q=>#[o,kp b o hb q])
    (λb ys q=>by rw[d8 (j3 q hn)];show q) (λb o' ys q=>by rw[d8 (j3 q hn)];show q) (λb ps q=>#[(List.toArray []),by rw[d8 (j3 q hn),q];simp]) (λm hm=>?_) bB I.bare
   .let#[e0,e1,e2,e3,e4,e5]:=hf b hb;show#[e3,e1,e4,e5]
   .let#[o,es,ep,ho,r]:=hm;show#[o,es,ep,kp _ o (λhb=>(hf _ hb).2.1 rfl) ho,r]
  show#[.ref s⁻¹,_,I2,rfl,#[s⁻¹,x,y,hn,rfl,λzs sj=>by rw[I.KS sj hq];show hx,λzs sj=>by rw[I.Nj sj hr];show hy,rfl],?_,λb hb=>?_]
  .let#[a',b',ho]:=qo.o;show#[z2,(s2.2 _ D.TIz).trans qo.p,#[a',b',(s2.2 _ D.TOz).trans ho],qo.a.at λo e=>(s2.2 _ D.i1z).trans e,qo.b.at λo e=>(s2.2 _ D.i2z).trans e]
  let jI:b<s⁻¹:=by
   let#[a',b',ho]:=st.o;let#[o1,e1,_]:=st.a;let#[o2,e2,_]:=st.b;let pF:=hb;simp only[List.mem_cons,List.mem_nil_iff,or_false] at pF;rcases pF with rfl|rfl|rfl|rfl|rfl
   .exact zl
   .exact aq st.p
   .exact aq ho
   .exact aq e1
   .exact aq e2
  rw[d8 (aF jI)];show(hf b hb).1
 done:=by
  intro X hP hw hK hc i pi s σ H E I hf st hg;subst hP hw hK;let#[xs,hq,hx]:=hg;let#[aS,rv,p,hz]:=I.tuple hq;let hl:=-rv;show bC7 (f:=.none) (I.ok.hd hc) D st (show s.heap.IsTuple t aS.toArray from p) (by simp;omega) λh' eb=>#[rfl,?_]
  let kp:∀b o,b∉[z,TI,TO,i1,i2]->s.heap.get? b=!o->h'.get? b=!o:=λb o hb q=>by
   simp only[List.mem_cons,List.mem_nil_iff,or_false,not_or] at hb;show eb b o hb.1 hb.2.2.1 hb.2.2.2.1 hb.2.2.2.2 q
  let ne:∀b u',H b=!u'->b∉[z,TI,TO,i1,i2]:=λb u' q hb=>by rw[(hf b hb).1] at q;cases q
  let bB:fU X.prog X.w H h':=λb o q=>by
   show(I.bB b o q).G6 (λc v hc q'=>?_) (λc q'=>q') λc ys q'=>q';rcases hc with z|z
   .subst z;show kp _ _ (ne _ _ q) q'
   .exact kp _ _ (ne _ _ z) q'
  show I.step (g':=s.gens) (d':=s.drawn) (t':=s.toks) (ch:=[z,TI,TO,i1,i2]) (λb hb=>?_) (λb o l l hb q l=>kp b o hb q) (λb o l l hb q l=>#[o.slots,kp b o hb q])
   (λb o l q n=>n) (λb o hb q=>#[o,kp b o hb q]) (λb ys q=>q) (λb o' ys q=>q) (λb ps q=>#[(List.toArray []),by rw[q];simp]) (λm hm=>?_) bB I.bare
  .let#[e0,e1,e2,e3,e4,e5]:=hf b hb;show#[e3,e1,e4,e5]
  .let#[o,es,ep,ho,r]:=hm;show#[o,es,ep,kp _ o (λhb=>(hf _ hb).2.1 rfl) ho,r]
 self:=λl l l l l st h=>wpAny_pyIter_zip st.z h
def Zl{a b:Expr}{ta:TA}{p pos tp:Pos}{elts:@&Expr}{x1:Nat}(hg:Gl X "zip")(hm:X.mg "zip"=none)(ha:PA X [a,b] ta)(hs:starEach [a,b] X.env=[(false,eval a X.env),(false,eval b X.env)])(iZ:starEach [b] X.env=[(false,eval b X.env)]) :
  PI X (.Tuple elts x1 tp) (.Call (.Name "zip" p) [a,b] [] pos) (λσ H R=>ta σ H λvs H1=>∃t a,vs=[.ref t,.ref a]/\(∃xs,gF X.K H1 t xs)/\(∃ys,fT X.K H1 a ys)/\R (GH X.K t a) H1):=by
 intro pi s σ H R I h;show Call_ (Q7 I hg hm PyProof.Rows.boot_zip (cg (cB (ha pos pi s σ H _ I h) λus s1 bh=>?_) (by rw[hs,iZ]) (by rw[iZ];rfl)));let#[vs,H1,I1,r1,q1]:=bh;let#[t,a,e,#[xs,hq],#[ys,hr],q]:=q1;subst e;cases r1 with
 |cons r rr =>
  cases rr with
  |cons r' rr =>
   cases rr;cases r;cases r';let#[aS,rv,p1,hz]:=I1.tuple hq;let#[Qc,fH,p2,Hs]:=I1.list hr;show aM7 (show s1.heap.IsTuple t aS.toArray from p1) p2.isList λh' Z hk=>wpAny_pyIter_zip Z.z ?_;let ne:∀n j k:Nat,j≠k->n+j≠n+k:=λn j k h=>by omega
   let le:∀n k:Nat,n<=n+k:=λn k=>by omega
   let dd:Zd (s1⁻¹+4) (s1⁻¹+2) (s1⁻¹+3) s1⁻¹ (s1⁻¹+1):=#[ne _ 2 4 ∅,ne _ 3 4 ∅,ne _ 0 4 ∅,ne _ 1 4 ∅,ne _ 2 3 ∅,ne _ 2 0 ∅,ne _ 2 1 ∅,ne _ 3 0 ∅,ne _ 3 1 ∅,ne _ 0 1 ∅]
   show#[_,[s1⁻¹+4,s1⁻¹+2,s1⁻¹+3,s1⁻¹,s1⁻¹+1],_,_,H1,rfl,I1.kept (t':=s1.toks) hk,VO (t:=t) (a:=a) dd,Z,λb hb=>?_,q];let jI:s1⁻¹<=b:=by
    simp only[List.mem_cons,List.mem_nil_iff,or_false] at hb;rcases hb with rfl|rfl|rfl|rfl|rfl
    .exact le _ 4
    .exact le _ 2
    .exact le _ 3
    .exact le _ 0
    .exact le _ 1
   show I1.qT jI (I1.bB.fresh jI)
end
end L2
namespace M
open PySem L2
set_option genInjectivity true in
inductive D where
 |aR|bl (b:Bool)|int (i:Int)|str (x:Str)|ty (n:String)|ref (i:Nat)|tup (l:@&D)
set_option genInjectivity true in
inductive O where
 |lst (l:@&D)|pV (l:@&D)
 |bX (kvs:@&(Key×D))
 |ins (c:Str) (fs:@&(Str×D))
 |set (S:Int->Bool) (n:Nat)
abbrev O.mut:O->Bool
 |.pV _=>false
 |_=>true
abbrev Z5:D->Option Key
 |.int i=>!.inl i
 |.str x=>!.inr x
 |_=>none
abbrev J7(kvs:@&(Key×D))(k:Key):Option D:=(kvs.find? λkv=>decide (kv.1=k)).map (·.2)
abbrev putD(kvs:@&(Key×D))(k:Key)(v:D):@&(Key×D) :=
 if(kvs.any λkv=>decide (kv.1=k))=true then kvs.map (λkv=>if kv.1=k then(kv.1,v) else kv) else kvs++[(k,v)]
abbrev u7(f:Str)(v:D):@&(Str×D)->@&(Str×D)
 |[]=>[(f,v)]
 |(g,x)::r=>if g=f then(g,v)::r else(g,x)::u7 f v r
abbrev X4:@&D->Str->Option D
 |.tup [.str y,v]::r,x=>if x=y then some v else X4 r x
 |_::_,_=>none
 |[],_=>none
abbrev X6:@&D->Option Str
 |[]=>!Str.empty
 |.str x::r=>(X6 r).map λy=>x++y
 |_=>none
structure Xn where
 cls:Str
noncomputable abbrev G:=@&O
noncomputable abbrev S:=@&(Option D)
noncomputable abbrev KD:=D->G->Prop
noncomputable abbrev KX:=Xn->G->Prop
noncomputable abbrev ku:KX:=λx x=>False
abbrev Gi:Option O->Option (@&D)
 |some (.lst l)=>!l
 |some (.pV l)=>!l
 |_=>none
noncomputable abbrev c6(g:G)(a:Nat):Option (@&D):=Gi g[a]?
abbrev rd(g:G):Nat->D->Option PyData
 |_,.aR=>!.none
 |_,.bl b=>!.bool b
 |_,.int i=>!.int i
 |_,.str x=>!.str x
 |_,.ty _=>none
 |0,.ref _=>none
 |0,.tup _=>none
 |n+1,.ref a=>match c6 g a with
  |some l=>(l.mapM (rd g n)).map .list
  |none=>none
 |n+1,.tup l=>(l.mapM (rd g n)).map .tuple
abbrev qr(g:G)(l:@&D):Option (@&PyData):=l.mapM (rd g 6)
abbrev C6(g:G):D->Option (@&D)
 |.tup l=>!l
 |.ref a=>c6 g a
 |_=>none
abbrev X7:D->Bool
 |.aR=>true
 |_=>false
abbrev cut{α:Type}(xs:List α)(lo hi:Option Int):List α:=(xs.drop (HT.dW (-xs) 0 lo)).take (HT.dW (-xs) (-xs) hi-HT.dW (-xs) 0 lo)
abbrev sZ(g:G)(x:D)(c:String):Option Bool:=match x with
 |.aR=>!(c=="NoneType")
 |.bl _=>!(c=="bool"||c=="int")
 |.int _=>!(c=="int")
 |.str _=>!(c=="str")
 |.tup _=>!(c=="tuple")
 |.ref a=>match g[a]? with
  |some (.lst _)=>!(c=="list")
  |_=>none
 |.ty _=>none
abbrev l6(lo:Int)(n:Nat):@&D:=(List.range n).map λ(k:Nat)=>.int (lo+k)
abbrev J6:@&D->Option Bool
 |[]=>!true
 |.bl b::r=>(J6 r).map λc=>b&&c
 |_=>none
inductive Pr where
 |bin (op:Operator)|un (op:UnaryOp)|cmp (op:CmpOp)
 |ix|mZ (lo hi:Bool)|rev|tup|lst|mm
 |len|list|tuple|isin|all|max|min|int|str|ke|kd|sset|vS|ko
 |Ii|nK|kS|fv|mj|fld (f:Str)
 |append|pop|get|index|join|iadd|clear|jF|extend|any|vV|sum|tj|sh|wa|BR|DD|yg|vY (i:Int)|split
noncomputable abbrev DR:=@&D->G->D->G->Prop
abbrev arR:Operator->Int->Int->Int->Prop
 |.Add,i,j,r=>r=i+j
 |.Sub,i,j,r=>r=i-j
 |.Mult,i,j,r=>qQ i j/\r=i*j
 |.FloorDiv,i,j,r=>DK i j/\r=i / j
 |.Mod,i,j,r=>0<j/\r=i % j
 |.Pow,i,j,r=>S3 i j/\r=i ^ j.toNat
 |.LShift,i,j,r=>S3 i j/\r=i*2 ^ j.toNat
 |.BitAnd,i,j,r=>r=Builtin.bitAnd i j
 |.BitOr,i,j,r=>r=Builtin.bitOr i j
 |_,_,_,_=>False
def b60(op:Operator):DR:=λxs g d g' =>
 (∃i j r,xs=[.int i,.int j]/\arR op i j r/\d=.int r/\g'=g) \/
 (op=.Add/\((∃ l m,xs=[.tup l,.tup m]/\-l + -m <= 100000/\d=.tup (l ++ m)/\g'=g) \/
  (∃a b l m,xs=[.ref a,.ref b]/\g[a]?=!.lst l/\g[b]?=!.lst m/\-l+-m<=100000/\d=.ref (-g)/\g'=g++[.lst (l++m)]) \/
  (∃ x y,xs=[.str x,.str y]/\-x + -y <= 100000/\d=.str (x ++ y)/\g'=g))) \/
 (op=.Mult/\((∃ a l n,xs=[.ref a,.int n]/\g[a]?=!.lst l/\-(2 ^ 62) <= n/\n < 2 ^ 62/\-l * n.toNat <= 100000/\d=.ref (-g)/\g'=g ++ [.lst (List.replicate n.toNat l).flatten]) \/
  (∃ l n,xs=[.tup l,.int n]/\l ≠ []/\1 <= n/\n < 2 ^ 62/\-l * n.toNat <= 100000/\d=.tup (List.replicate n.toNat l).flatten/\g'=g)))
def OY(op:UnaryOp):DR:=λxs g d g'=>op=.USub/\∃i,xs=[.int i]/\d=.int (-(i))/\g'=g
abbrev ye(g:G)(x y:D)(b:Bool):Prop :=
 (∃i j,x=.int i/\y=.int j/\b=decide (i=j))\/(∃i j,x=.bl i/\y=.bl j/\b=(i==j))\/(∃i j,x=.str i/\y=.str j/\b=decide (i=j)) \/
 ∃p q,rd g 6 x=!p/\rd g 6 y=!q/\p.canLay0=true/\q.canLay0=true/\b=PyData.eqv p q
abbrev inR(g:G)(x y:D)(b:Bool):Prop :=
 (∃a kvs c,y=.ref a/\g[a]?=!.bX kvs/\Z5 x=!c/\b=(J7 kvs c).isSome) \/
 ∃l ps p,C6 g y=!l/\qr g l=!ps/\rd g 6 x=!p/\PyData.canLayAll0 ps=true/\p.canLay0=true/\b=(ps.any λq=>PyData.eqv q p)
def Kh(g:G)(x y:D)(b:Bool):Prop:=∃a S n i,y=.ref a/\g[a]?=!.set S n/\x=.int i/\b=S i
def Kj(x y:D)(b:Bool):Prop:=∃i j,x=.str i/\y=.str j/\b= ~~~(Builtin.Str.occurrences j i 0 (-j) 1).isEmpty
abbrev sgn(a:Str):@&D:=a.cps.toList.map λc=>.str #[(List.toArray [c])]
abbrev JU(g:G)(x y:D)(b:Bool):CmpOp->Prop
 |.Eq=>ye g x y b
 |.NotEq=>ye g x y (~~~b)
 |.In=>inR g x y b\/Kh g x y b\/Kj x y b
 |.NotIn=>inR g x y (~~~b)\/Kh g x y (~~~b)\/Kj x y (~~~b)
 |.Lt=>∃i j,x=.int i/\y=.int j/\b=decide (i<j)
 |.LtE=>∃i j,x=.int i/\y=.int j/\b=decide (i<=j)
 |.Gt=>∃i j,x=.int i/\y=.int j/\b=decide (j<i)
 |.GtE=>∃i j,x=.int i/\y=.int j/\b=decide (j<=i)
 |.Is=>y=.aR/\b=X7 x
 |.IsNot=>y=.aR/\b= ~~~X7 x
def b59(op:CmpOp):DR:=λxs g d g'=>∃x y b,xs=[x,y]/\JU g x y b op/\d=.bl b/\g'=g
abbrev Kk(g:G)(x:D)(b:Bool):Prop :=
 (x=.aR/\b=false)\/x=.bl b\/(∃i,x=.int i/\b=(i != 0))\/(∃l,x=.tup l/\b= ~~~l.isEmpty)\/∃a l,x=.ref a/\c6 g a=!l/\b= ~~~l.isEmpty
def Qe:DR:=λxs g d g'=>g'=g/\((∃x l i,xs=[x,.int i]/\C6 g x=!l/\iQ l i=!d)\/(∃a kvs y c,xs=[.ref a,y]/\g[a]?=!.bX kvs/\Z5 y=!c/\J7 kvs c=!d) \/
 False)
def vW(x:D)(lo hi:Option Int)(g:G)(d:D)(g':G):Prop:=(∃l,x=.tup l/\d=.tup (cut l lo hi)/\g'=g)\/∃a l,x=.ref a/\c6 g a=!l/\d=.ref (-g)/\g'=g++[.lst (cut l lo hi)]
abbrev b17:Bool->Bool->DR
 |false,false,xs,g,d,g'=>∃x,xs=[x]/\vW x none none g d g'
 |true,false,xs,g,d,g'=>∃x i,xs=[x,.int i]/\vW x (!i) none g d g'
 |false,true,xs,g,d,g'=>∃x j,xs=[x,.int j]/\vW x none (!j) g d g'
 |true,true,xs,g,d,g'=>∃x i j,xs=[x,.int i,.int j]/\vW x (!i) (!j) g d g'
def b24:DR:=λxs g d g'=>(∃l,xs=[.tup l]/\d=.tup l.reverse/\g'=g)\/∃a l,xs=[.ref a]/\c6 g a=!l/\d=.ref (-g)/\g'=g++[.lst l.reverse]
def Wg:DR:=λxs g d g'=>-xs<=1000/\d=.tup xs/\g'=g
def b45:DR:=λxs g d g'=>-xs<=1000/\d=.ref (-g)/\g'=g++[.lst xs]
abbrev uK:@&D->@&(Key×D)->Option (List (Key×D))
 |[],kvs=>!kvs
 |k::v::r,kvs=>(Z5 k).bind λc=>uK r (putD kvs c v)
 |_,_=>none
def Wr:DR:=λxs g d g'=>xs=[]/\d=.ref (-g)/\g'=g++[.bX []]
def b46:DR:=λxs g d g'=>g'=g/\((∃x l,xs=[x]/\C6 g x=!l/\d=.int (-l))\/False\/∃x,xs=[.str x]/\-x<=100000/\d=.int (-x))
abbrev kD:Key->D
 |.inl i=>.int i
 |.inr x=>.str x
def WT:DR:=λxs g d g'=>(∃x l,xs=[x]/\C6 g x=!l/\d=.ref (-g)/\g'=g++[.lst l])\/∃a kvs,xs=[.ref a]/\g[a]?=!.bX kvs/\-kvs<=10000/\d=.ref (-g)/\g'=g++[.lst ((kvs.map (·.1)).map kD)]
def bD5:DR:=λxs g d g'=>∃x l,xs=[x]/\C6 g x=!l/\d=.tup l/\g'=g
def WE:DR:=λxs g d g'=>∃x c b,xs=[x,.ty c]/\c∈["int","bool","str","tuple","list"]/\sZ g x c=!b/\d=.bl b/\g'=g
def allR:DR:=λxs g d g'=>∃a l b,xs=[.ref a]/\c6 g a=!l/\(J6 l=!b\/∃ns:@&Int,l=ns.map .int/\b=ns.all λn=>n != 0)/\d=.bl b/\g'=g
abbrev Iw:@&D->Option Bool
 |[]=>!false
 |.bl b::r=>(Iw r).map λc=>b||c
 |_=>none
def anyR:DR:=λxs g d g'=>∃a l b,xs=[.ref a]/\c6 g a=!l/\Iw l=!b/\d=.bl b/\g'=g
def ZR:DR:=λxs g d g'=>False\/∃x,∃ns:@&Int,xs=[x]/\C6 g x=!ns.map .int/\-ns<60/\d=.ref (-g)/\g'=g++[.lst ((Xz ns).map .int)]
def b44:DR:=λxs g d g'=>g'=g/\((∃i j,xs=[.int i,.int j]/\d=.int (if j>i then j else i))\/∃a,∃(ns:@&Int) (M:Int),xs=[.ref a]/\c6 g a=!ns.map .int/\M∈ns/\(∀x∈ns,x<=M)/\d=.int M)
def b43:DR:=λxs g d g'=>g'=g/\((∃i j,xs=[.int i,.int j]/\d=.int (if j<i then j else i))\/False)
def Xw:DR:=λxs g d g'=>∃a i S n,xs=[.ref a,.int i]/\g[a]?=!.set S n/\n+1<4096/\d=.aR/\g'=g.set a (.set (λk=>S k||decide (k=i)) (if S i then n else n+1))
def WQ:DR:=λxs g d g'=>∃a,∃ns:@&Int,xs=[.ref a]/\c6 g a=!ns.map .int/\-ns<600/\d=.ref (-g)/\g'=g++[.set (λk=>decide (k∈ns)) (ST.i8 [] ns).length]
def Zy(i:Int):DR:=λxs g d g'=>xs=[]/\d=.ref (-g)/\g'=g++[.set (λk=>decide (k=i)) 1]
def b14:DR:=λxs g d g'=>∃a,∃ns:@&Int,xs=[.ref a]/\c6 g a=!ns.map .int/\d=.int ns.sum/\g'=g
def WU:DR:=λxs g d g'=>∃a,∃ns:@&Int,xs=[.ref a]/\c6 g a=!ns.map .int/\-ns<60/\d=.int (ST.i8 [] ns).length/\g'=g
def WG:DR:=λxs g d g'=>∃i j,xs=[.int i,.int j]/\d=.int (i-j)/\g'=g
def b50:DR:=λxs g d g'=>g'=g/\((∃i,xs=[.int i]/\d=.int i)\/(∃b,xs=[.bl b]/\d=.int (if b then 1 else 0))\/∃x n,xs=[.str x]/\-x<=640/\PySem.intText? x=!n/\d=.int n)
def ZS:DR:=λxs g d g'=>∃a b:Str,xs=[.str a,.str b]/\(-b==0)=false/\-a<=100000/\(Txt.split a b).length<=100000/\d=.ref (-g)/\g'=g++[.lst ((Txt.split a b).map .str)]
def b15:DR:=λxs g d g'=>(∃i,xs=[.int i]/\i.natAbs.log2<1920/\d=.str (toString i)/\g'=g)\/∃x,xs=[.str x]/\d=.str x/\g'=g
def Yw:DR:=λxs g d g'=>∃j,xs=[.int j]/\-(2 ^ 62)<=j/\j<=100000/\d=.ref (-g)/\g'=g++[.lst (l6 0 j.toNat)]
def Yx:DR:=λxs g d g'=>∃i j,xs=[.int i,.int j]/\(-(2 ^ 62)<=i/\i<2 ^ 62/\-(2 ^ 62)<=j/\j<2 ^ 62/\j-i<=100000)/\d=.ref (-g)/\g'=g++[.lst (l6 i (j-i).toNat)]
def XA:DR:=λxs g d g'=>∃a ns,xs=[.ref a]/\c6 g a=!ns.map .int/\-ns<60/\d=.ref (-g)/\g'=g++[.lst ((K9 ns).map .int)]
def b13:DR:=λxs g d g'=>∃ns ms:@&Int,xs=[.tup (ns.map .int),.tup (ms.map .int)]/\(∀k∈ns,ST.Spot k)/\(∀k∈ms,ST.Spot k)/\-ns+-ms<50/\d=.ref (-g)/\g'=g++[.lst ((K9 (ns++ms)).map .int)]
def DX(neg:Bool):DR:=λxs g d g'=>∃kvs x,xs=[.tup kvs,.str x]/\d=.bl (xor neg (X4 kvs x).isSome)/\g'=g
def Wy:DR:=λxs g d g'=>∃kvs x,xs=[.tup kvs,.str x]/\X4 kvs x=!d/\g'=g
def RK:DR:=λxs g d g'=>g'=g/\((∃i,xs=[.int i]/\i.natAbs.log2<1920/\d=.str (toString i))\/∃x,xs=[.str x]/\-x<=2000/\d=.str x)
def Ww:DR:=λxs g d g'=>∃x,X6 xs=!x/\d=.str x/\g'=g
def b55(f:Str):DR:=λxs g d g'=>∃a c fs,xs=[.ref a]/\g[a]?=!.ins c fs/\fs.lookup f=!d/\g'=g
def appendR:DR:=λxs g d g'=>∃a y l,xs=[.ref a,y]/\g[a]?=!.lst l/\-l<100000/\d=.aR/\g'=g.set a (.lst (l++[y]))
def b34:DR:=λxs g d g'=>∃a i l k,xs=[.ref a,.int i]/\g[a]?=!.lst l/\-(2 ^ 63)<=i/\i<2 ^ 63/\seqIndex? i (-l)=!k/\l[k]?=!d/\g'=g.set a (.lst (l.eraseIdx k))
def b52:DR:=λxs g d g'=>∃a y z kvs c,xs=[.ref a,y,z]/\g[a]?=!.bX kvs/\Z5 y=!c/\d=(J7 kvs c).getD z/\g'=g
abbrev uU:D->Bool
 |.aR=>true
 |.bl _=>true
 |.int _=>true
 |.str _=>true
 |_=>false
abbrev toV:D->V
 |.bl b=>.bl b
 |.int i=>.int i
 |.str x=>.str x
 |_=>.aR
def R0(l:@&D)(y:D)(n:Nat):Prop:=l.all uU=true/\uU y=true/\(∃z,l[n]?=!z/\lD (toV z) (toV y)=true)/\∀(m:Nat) z,m<n->l[m]?=!z->lD (toV z) (toV y)=false
def Yk:DR:=λxs g d g'=>∃x y l n,xs=[x,y]/\C6 g x=!l/\R0 l y n/\-l<=100000/\d=.int n/\g'=g
def joinR:DR:=λxs g d g'=>∃sep a ys,xs=[.str sep,.ref a]/\c6 g a=!ys.map .str/\E3 sep ys<=100000/\d=.str (Builtin.Str.glued sep ys)/\g'=g
def WC:DR:=λxs g d g'=>(∃i j,xs=[.int i,.int j]/\d=.int (i+j)/\g'=g)\/∃l m,xs=[.tup l,.tup m]/\-l+-m<=100000/\d=.tup (l++m)/\g'=g
def Ya:DR:=λxs g d g'=>∃a l,xs=[.ref a]/\g[a]?=!.lst l/\d=.aR/\g'=g.set a (.lst [])
def Xm:DR:=λxs g d g'=>∃a l,xs=[.ref a]/\g[a]?=!.lst (l++[d])/\g'=g.set a (.lst l)
def bB4:DR:=λxs g d g'=>∃a b l m,xs=[.ref a,.ref b]/\g[a]?=!.lst l/\g[b]?=!.lst m/\-l+-m<=100000/\d=.aR/\g'=g.set a (.lst (l++m))
def Yc:DR:=λxs g d g'=>(∃a kvs,xs=[.ref a]/\g[a]?=!.bX kvs/\d=.ref (-g)/\g'=g++[.bX kvs])\/∃a,∃ks:@&Int,xs=[.ref a]/\c6 g a=!(ks.map λk=>.tup [.int k,.bl true])/\-ks<=1000/\ks.Nodup/\d=.ref (-g)/\g'=g++[.bX (ks.map λk=>(.inl k,.bl true))]
abbrev uD(p:Key×Int×Int):Key×D:=(p.1,.tup [.int p.2.1,.int p.2.2])
def WO(n:Int)(p:Key×Int×Int):Bool:= ~~~(decide (p.2.1=n)||decide (p.2.2=n))
def Wq:DR:=λxs g d g'=>∃a n,∃fs:@&(Key×Int×Int),xs=[.ref a,.int n]/\g[a]?=!.bX (fs.map uD)/\-fs<1000/\(fs.map (·.1)).Nodup/\d=.ref (-g)/\g'=g++[.bX ((fs.filter (WO n)).map uD)]
abbrev delD(kvs:@&(Key×D))(k:Key):@&(Key×D):=kvs.filter λkv=>decide (kv.1≠k)
def Ws:DR:=λxs g d g'=>∃a y kvs c,xs=[.ref a,y]/\g[a]?=!.bX kvs/\Z5 y=!c/\J7 kvs c=!d/\g'=g.set a (.bX (delD kvs c))
abbrev PR:Pr->DR
 |.DD=>Wq
 |.yg=>Ws
 |.split=>ZS
 |.clear=>Ya
 |.any=>anyR
 |.sum=>b14
 |.wa=>Xw
 |.BR=>WQ
 |.vY i=>Zy i
 |.tj=>WU
 |.sh=>WG
 |.vV=>ZR
 |.extend=>bB4
 |.jF=>Xm
 |.ko=>Yc
 |.bin op=>b60 op
 |.un op=>OY op
 |.cmp op=>b59 op
 |.ix=>Qe
 |.mZ a b=>b17 a b
 |.rev=>b24
 |.tup=>Wg
 |.lst=>b45
 |.mm=>Wr
 |.len=>b46
 |.list=>WT
 |.tuple=>bD5
 |.isin=>WE
 |.all=>allR
 |.max=>b44
 |.min=>b43
 |.int=>b50
 |.str=>b15
 |.ke=>Yw
 |.kd=>Yx
 |.sset=>XA
 |.vS=>b13
 |.Ii=>DX false
 |.nK=>DX true
 |.kS=>Wy
 |.fv=>RK
 |.mj=>Ww
 |.fld f=>b55 f
 |.append=>appendR
 |.pop=>b34
 |.get=>b52
 |.index=>Yk
 |.join=>joinR
 |.iadd=>WC
def cA(p:Pr)(xs:@&D)(g:G)(Q:KD):Prop:=∃d g',PR p xs g d g'/\Q d g'
def yf(g:G)(x y:D)(k:Bool->Prop):Prop:=∃b,ye g x y b/\k b
def si(g:G)(x y:D)(k:Bool->Prop):Prop:=∃b,inR g x y b/\k b
def qV(g:G)(x:D)(k:Bool->Prop):Prop:=∃b,Kk g x b/\k b
def b20(x y v:D)(g g':G):Prop:=(∃a i l j,x=.ref a/\y=.int i/\g[a]?=!.lst l/\lh (-l) i=!j/\g'=g.set a (.lst (l.set j v))) \/
 ∃a kvs c,x=.ref a/\g[a]?=!.bX kvs/\Z5 y=!c/\-kvs<100000/\g'=g.set a (.bX (putD kvs c v))
def qg(x y v:D)(g:G)(k:G->Prop):Prop:=∃g',b20 x y v g g'/\k g'
def Ju(f:Str)(cs:@&Str)(x v:D)(g g':G):Prop:=∃a c fs,x=.ref a/\g[a]?=!.ins c fs/\c∈cs/\-fs<100/\g'=g.set a (.ins c (u7 f v fs))
def yy(f:Str)(cs:@&Str)(x v:D)(g:G)(k:G->Prop):Prop:=∃g',Ju f cs x v g g'/\k g'
abbrev mF:Pr->D->G->Prop
 |.get,x,g=>∃a kvs,x=.ref a/\g[a]?=!.bX kvs
 |.yg,x,g=>∃a kvs,x=.ref a/\g[a]?=!.bX kvs
 |.join,x,g=>∃y,x=.str y
 |.split,x,g=>∃y,x=.str y
 |.wa,x,g=>∃a S n,x=.ref a/\g[a]?=!.set S n
 |.index,x,g=>(∃l,x=.tup l)\/∃a l,x=.ref a/\c6 g a=!l
 |_,x,g=>∃a l,x=.ref a/\c6 g a=!l
inductive IK where
 |fix (l:@&D)|lst (a:Nat)|Il (a:Nat)|G' (a n:Nat)|tU (l:@&D) (a:Nat)
abbrev IK.at:IK->Nat->G->Option (Option D)
 |.fix l,i,_=>some l[i]?
 |.lst a,i,g=>match c6 g a with
  |some l=>some l[i]?
  |none=>none
 |.Il a,i,g=>match c6 g a with
  |some l=>!(l[i]?.map λd=>.tup [.int i,d])
  |none=>none
 |.tU l a,i,g=>match c6 g a with
  |some m=>if (-l)=-m then some ((l.zip m)[i]?.map λp=>.tup [p.1,p.2]) else none
  |none=>none
 |.G' a n,i,g=>match c6 g a with
  |some l=>if (-l)=n then some (if i<n then l[n-1-i]? else none) else none
  |none=>none
inductive MT where
 |one (i:Nat)|many (is:@&Nat)
abbrev Q3:@&Nat->@&D->S->Option S
 |[],[],σ=>!σ
 |i::is,d::ds,σ=>Q3 is ds (σ.set i (!d))
 |_,_,_=>none
def kX(t:MT)(x:D)(σ:S)(k:S->Prop):Prop:=match t with
 |.one i=>k (σ.set i (!x))
 |.many is=>∃l cu,x=.tup l/\Q3 is l σ=!cu/\k cu
set_option genInjectivity false in
set_option genSizeOf false in
inductive ME where
 |var (i:Nat)|lit (d:D)
 |nil|cons (a b:ME)|prim (p:Pr) (es:ME)|dk (p:Pr) (o es:ME)|oB (es:ME)
 |chain (o1 o2:CmpOp) (a b c:ME)
 |eI (a b:ME)|hW (a b:ME)|cK (a:ME)|ite (c a b:ME)
 |call (f:Nat) (es:ME)|make (c:Str) (f:Nat) (es:ME)|bp (m:Str) (cs:@&(Str×Nat)) (o es:ME)
 |comp (c9:@&Nat) (n:Nat) (tg:MT) (it cond elt:ME)|jZ (c9:@&Nat) (n:Nat) (tg:MT) (it cond elt:ME)|gX (c9:@&Nat) (n:Nat) (tg:MT) (it cond elt:ME)
 |iJ (e:ME)|gC (a:ME)|iH (a b:ME)|ug (e:ME)|uf (e:ME)|oh (a b:ME)|dY (e:ME)|no
noncomputable abbrev ff:=Nat->@&D->G->KD->KX->Prop
def P8(σ:S)(c9:@&Nat)(n:Nat):S:=c9.map (λj=>(σ[j]?).join)++List.replicate (n- -c9) none
abbrev turns(k:IK)(σ:S)(g:G)(fin:S->G->Prop)(turn:D->(S->G->Prop)->S->G->Prop):Prop :=
 ∃W:Nat->Nat->S->G->Prop,(∃m,W 0 m σ g)/\∀i m σ g,W i m σ g->(k.at i g=!none/\fin σ g)\/∃x,k.at i g=!!x/\∃N2:S->G->Prop,(∀cu g',N2 cu g'->∃m',m'<m/\W (i+1) m' cu g')/\turn x N2 σ g
abbrev Aq(k:IK)(σ:S)(g:G)(fin:@&D->G->Prop)(turn:D->(Option D->S->G->Prop)->S->G->Prop):Prop :=
 ∃W:Nat->Nat->@&D->S->G->Prop,(∃m,W 0 m [] σ g)/\∀i m ys σ g,W i m ys σ g->(k.at i g=!none/\fin ys g) \/
  ∃x,k.at i g=!!x/\-ys<100000/\turn x (λy cu g'=>∃m',m'<m/\W (i+1) m' (ys++y.toList) cu g') σ g
abbrev Gx(k:IK)(σ:S)(g:G)(fin:@&Int->G->Prop)(turn:D->(Option Int->S->G->Prop)->S->G->Prop):Prop :=
 ∃W:Nat->Nat->@&Int->S->G->Prop,(∃m,W 0 m [] σ g)/\∀i m ys σ g,W i m ys σ g->(k.at i g=!none/\-ys<60/\fin ys g) \/
  ∃x,k.at i g=!!x/\-ys<60/\turn x (λy cu g'=>∃m',m'<m/\W (i+1) m' (ys++y.toList) cu g') σ g
mutual
noncomputable def aY(P:ff):ME->S->G->KD->KX->Prop
 |.var i,σ,g,Q,_=>∃d,σ[i]?=!!d/\Q d g
 |.lit d,_,g,Q,_=>Q d g
 |.prim p es,σ,g,Q,E=>fz P es σ g (λxs g1=>cA p xs g1 Q) E
 |.dk p o es,σ,g,Q,E=>aY P o σ g (λx g1=>mF p x g1/\fz P es σ g1 (λxs g2=>cA p (x::xs) g2 Q) E) E
 |.oB es,σ,g,Q,E=>fz P es σ (g++[.bX []]) (λxs g1=>∃kvs,uK xs []=!kvs/\-xs<=30/\g1[(-g)]?=!.bX []/\Q (.ref (-g)) (g1.set (-g) (.bX kvs))) E
 |.chain o1 o2 a b c,σ,g,Q,E=>aY P a σ g (λx g1=>aY P b σ g1 (λy g2=>cA (.cmp o1) [x,y] g2 λz g3=>∃t,z=.bl t/\if t=true then aY P c σ g3 (λw g4=>cA (.cmp o2) [y,w] g4 Q) E else Q (.bl false) g3) E) E
 |.eI a b,σ,g,Q,E=>aY P a σ g (λx g1=>∃t,x=.bl t/\if t=true then aY P b σ g1 Q E else Q (.bl false) g1) E
 |.hW a b,σ,g,Q,E=>aY P a σ g (λx g1=>∃t,x=.bl t/\if t=true then Q (.bl true) g1 else aY P b σ g1 Q E) E
 |.cK a,σ,g,Q,E=>aY P a σ g (λx g1=>∃t,x=.bl t/\Q (.bl (~~~t)) g1) E
 |.ite c a b,σ,g,Q,E=>dN P c σ g (λt g1=>if t=true then aY P a σ g1 Q E else aY P b σ g1 Q E) E
 |.call f es,σ,g,Q,E=>fz P es σ g (λxs g1=>P f xs g1 Q E) E
 |.make c f es,σ,g,Q,E=>fz P es σ g (λxs g1=>P f (.ref (-g1)::xs) (g1++[.ins c []]) (λd g2=>d=.aR/\Q (.ref (-g1)) g2) E) E
 |.bp m cs o es,σ,g,Q,E=>aY P o σ g (λx g1=>∃a c fs f,x=.ref a/\g1[a]?=!.ins c fs/\fs.lookup m=none/\cs.lookup c=!f/\fz P es σ g1 (λxs g2=>P f (x::xs) g2 Q E) E) E
 |.comp c9 n tg it cond elt,σ,g,Q,E=>iW P it σ g (λk g1=>Aq k (P8 σ c9 n) g1 (λys g=>Q (.ref (-g)) (g++[.lst ys])) λx N σ g=>kX tg x σ λdz=>dN P cond dz g (λb g3=>if b=true then aY P elt dz g3 (λy g4=>N (!y) dz g4) ku else N none dz g3) ku) E
 |.gX c9 n tg it cond elt,σ,g,Q,E=>iW P it σ g (λk g1=>Aq k (P8 σ c9 n) g1 (λys g=>Q (.ref (-g)) (g++[.lst ys])) λx N σ g=>kX tg x σ λdz=>dN P cond dz g (λb g3=>if b=true then aY P elt dz g3 (λy g4=>N (!y) dz g4) E else N none dz g3) ku) E
 |.jZ c9 n tg it cond elt,σ,g,Q,E=>iW P it σ g (λk g1=>Gx k (P8 σ c9 n) g1 (λys g=>Q (.ref (-g)) (g++[.lst ((K9 ys).map .int)])) λx N σ g=>kX tg x σ λdz=>dN P cond dz g (λb g3=>if b=true then aY P elt dz g3 (λy g4=>∃j,y=.int j/\N (!j) dz g4) ku else N none dz g3) ku) E
 |.nil,_,_,_,_=>False
 |.cons _ _,_,_,_,_=>False
 |.iJ _,_,_,_,_=>False
 |.gC _,_,_,_,_=>False
 |.iH _ _,_,_,_,_=>False
 |.ug _,_,_,_,_=>False
 |.uf _,_,_,_,_=>False
 |.oh _ _,_,_,_,_=>False
 |.dY _,_,_,_,_=>False
 |.no,_,_,_,_=>False
noncomputable def fz(P:ff):ME->S->G->(List D->G->Prop)->KX->Prop
 |.nil,_,g,Q,_=>Q [] g
 |.cons a b,σ,g,Q,E=>aY P a σ g (λx g1=>fz P b σ g1 (λxs g2=>Q (x::xs) g2) E) E
 |_,_,_,_,_=>False
noncomputable def dN(P:ff):ME->S->G->(Bool->G->Prop)->KX->Prop
 |.eI a b,σ,g,Q,E=>dN P a σ g (λt g1=>if t=true then dN P b σ g1 Q E else Q false g1) E
 |.hW a b,σ,g,Q,E=>dN P a σ g (λt g1=>if t=true then Q true g1 else dN P b σ g1 Q E) E
 |.cK a,σ,g,Q,E=>dN P a σ g (λt g1=>Q (~~~t) g1) E
 |.no,_,g,Q,_=>Q true g
 |.dY e,σ,g,Q,E=>aY P e σ g (λx g1=>qV g1 x λb=>Q b g1) E
 |_,_,_,_,_=>False
noncomputable def iW(P:ff):ME->S->G->(IK->G->Prop)->KX->Prop
 |.iJ e,σ,g,R,E=>aY P e σ g (λx g1=>(∃l,x=.tup l/\R (.fix l) g1)\/(∃a l,x=.ref a/\c6 g1 a=!l/\R (.lst a) g1)\/∃a:Str,x=.str a/\a.cps.all (·<128)=true/\R (.fix (sgn a)) g1) E
 |.gC a,σ,g,R,E=>aY P a σ g (λx g1=>∃j:Int,x=.int j/\-(2 ^ 62)<=j/\j<2 ^ 62/\R (.fix (l6 0 j.toNat)) g1) E
 |.iH a b,σ,g,R,E=>aY P a σ g (λx g1=>aY P b σ g1 (λy g2=>∃i j:Int,x=.int i/\y=.int j/\(-(2 ^ 62)<=i/\i<2 ^ 62/\-(2 ^ 62)<=j/\j<2 ^ 62)/\R (.fix (l6 i (j-i).toNat)) g2) E) E
 |.ug e,σ,g,R,E=>aY P e σ g (λx g1=>∃a l,x=.ref a/\c6 g1 a=!l/\R (.Il a) g1) E
 |.oh a b,σ,g,R,E=>aY P a σ g (λx g1=>aY P b σ g1 (λy g2=>∃l i m,x=.tup l/\y=.ref i/\c6 g2 i=!m/\R (.tU l i) g2) E) E
 |.uf e,σ,g,R,E=>aY P e σ g (λx g1=>∃a l,x=.ref a/\c6 g1 a=!l/\R (.G' a (-l)) g1) E
 |_,_,_,_,_=>False
end
set_option genInjectivity false in
set_option genSizeOf false in
inductive MS where
 |pass|seq (a b:MS)|expr (e:ME)|set (i:Nat) (e:ME)|tY (t:MT) (e:ME)|eP (o i v:ME)|dU (f:Str) (cs:@&Str) (o v:ME)
 |kq (f:Str) (cs:@&Str) (o v:ME)|nW (i:Nat) (p:Pr) (v:ME)|zw (o1 i1 o2 i2 e:ME)|lN (i j:Nat) (e:ME)
 |ifs (c:ME) (a b:MS)|jK (t:MT) (it:ME) (b:MS)|vM (c:ME) (b:MS)|ret (e:ME)|rJ|brk|cont
 |raise (x:Str) (es:ME)|R9 (b:MS) (hs:@&(Str×ME))
structure Ends where
 nx:S->G->Prop
 rt:KD
 bk:S->G->Prop:=λ_ _=>False
 ct:S->G->Prop:=λ_ _=>False
abbrev lK(P:ff)(N:Ends)(σ:S)(E:KX):@&(Str×ME)->KX
 |[],x,g=>E x g
 |(y,e)::r,x,g=>if x.cls=y\/y="MintError" then aY P e σ g N.rt ku else lK P N σ E r x g
abbrev wpS(P:ff):MS->Ends->S->G->KX->Prop
 |.pass,N,σ,g,_=>N.nx σ g
 |.seq a b,N,σ,g,E=>wpS P a { N with nx:=λju g1=>wpS P b N ju g1 E } σ g E
 |.expr e,N,σ,g,E=>aY P e σ g (λs g1=>N.nx σ g1) E
 |.set i e,N,σ,g,E=>aY P e σ g (λx g1=>N.nx (σ.set i (!x)) g1) E
 |.tY t e,N,σ,g,E=>aY P e σ g (λx g1=>kX t x σ λju=>N.nx ju g1) E
 |.lN i j e,N,σ,g,E=>aY P e σ g (λv g1=>∃a x l,v=.ref a/\c6 g1 a=!(x::l)/\N.nx ((σ.set i (!x)).set j (!.ref (-g1))) (g1++[.lst l])) E
 |.eP o i v,N,σ,g,E=>aY P v σ g (λx g1=>aY P o σ g1 (λy g2=>aY P i σ g2 (λz g3=>qg y z x g3 λg4=>N.nx σ g4) E) E) E
 |.dU f cs o v,N,σ,g,E=>aY P v σ g (λx g1=>aY P o σ g1 (λy g2=>yy f cs y x g2 λg3=>N.nx σ g3) E) E
 |.kq f cs o v,N,σ,g,E=>aY P o σ g (λy g1=>∃a c fs x,y=.ref a/\g1[a]?=!.ins c fs/\c∈cs/\fs.lookup f=!x/\aY P v σ g1 (λz g3=>cA .iadd [x,z] g3 λw g4=>∃jc,g4[a]?=!.ins c jc/\-jc<100/\N.nx σ (g4.set a (.ins c (u7 f w jc)))) E) E
 |.zw o1 i1 o2 i2 e,N,σ,g,E=>aY P e σ g (λx g1=>∃u v,x=.tup [u,v]/\aY P o1 σ g1 (λy1 g2=>aY P i1 σ g2 (λz1 g3=>qg y1 z1 u g3 λg4=>aY P o2 σ g4 (λy2 g5=>aY P i2 σ g5 (λz2 g6=>qg y2 z2 v g6 λg7=>N.nx σ g7) E) E) E) E) E
 |.nW i p v,N,σ,g,E=>∃x,σ[i]?=!!x/\aY P v σ g (λz g1=>cA p [x,z] g1 λw g2=>N.nx (σ.set i (!w)) g2) E
 |.ifs c a b,N,σ,g,E=>dN P c σ g (λt g1=>if t=true then wpS P a N σ g1 E else wpS P b N σ g1 E) E
 |.jK t it b,N,σ,g,E=>iW P it σ g (λk g1=>turns k σ g1 N.nx λx N2 σ g=>kX t x σ λdz=>wpS P b { N with nx:=N2,ct:=N2,bk:=N.nx } dz g E) E
 |.vM c b,N,σ,g,E=>∃W:Nat->S->G->Prop,(∃m,W m σ g)/\∀m σ g,W m σ g->dN P c σ g (λt g1=>if t=true then ∃N2:S->G->Prop,(∀cu g',N2 cu g'->∃m',m'<m/\W m' cu g')/\wpS P b { N with nx:=N2,ct:=N2,bk:=N.nx } σ g1 E else N.nx σ g1) E
 |.ret e,N,σ,g,E=>aY P e σ g N.rt E
 |.rJ,N,_,g,_=>N.rt .aR g
 |.brk,N,σ,g,_=>N.bk σ g
 |.cont,N,σ,g,_=>N.ct σ g
 |.raise x es,_,σ,g,E=>fz P es σ g (λvs g1=>-vs<=1000/\E #[x] g1) E
 |.R9 b hs,N,σ,g,E=>wpS P b N σ g (lK P N (σ.map λs=>none) E hs)
structure aT where
 ar:Nat
 n:Nat
 body:MS
def b0(m:aT)(ds:@&D):S:=ds.map some++List.replicate (m.n- -ds) none
abbrev a8(T:Nat->Option aT):Nat->ff
 |0,_,_,_,_,_=>False
 |k+1,f,ds,g,Q,E=>∃m,T f=!m/\-ds=m.ar/\wpS (a8 T k) m.body #[λx g'=>Q .aR g',Q,λx x=>False,λx x=>False] (b0 m ds) g E
end M
namespace M
open PySem L2
variable{g:G}{K:PySem.W.Frag}{H:Hp}{a p:Addr}{vs:@&V}{i:Nat}{o:O}{u:HO}{l:@&D}
def p9{p xs}{Q Q':KD}(h:∀d g,Q d g->Q' d g)(q:cA p xs g Q):cA p xs g Q':=by
 let#[d,g',a,b]:=q;show#[d,g',a,h _ _ b]
def a12{x}{k k':Bool->Prop}(h:∀b,k b->k' b)(q:qV g x k):qV g x k':=by
 let#[b,a,z]:=q;show#[b,a,h _ z]
def V9{x y v}{k k':G->Prop}(h:∀g,k g->k' g)(q:qg x y v g k):qg x y v g k':=by
 let#[b,a,z]:=q;show#[b,a,h _ z]
def aU5{f cs x v}{k k':G->Prop}(h:∀g,k g->k' g)(q:yy f cs x v g k):yy f cs x v g k':=by
 let#[b,a,z]:=q;show#[b,a,h _ z]
def C8{t x σ}{k k':S->Prop}(h:∀σ,k σ->k' σ)(q:kX t x σ k):kX t x σ k':=by
 cases t with
 |one i=>show h _ q
 |many is=>let#[l,cu,a,b,c]:=q;show#[l,cu,a,b,h _ c]
def aT3{k σ g}{fin kn:S->G->Prop}{turn iw:D->(S->G->Prop)->S->G->Prop}(h:∀σ g,fin σ g->kn σ g)(h2:∀x N σ g,turn x N σ g->iw x N σ g)(q:turns k σ g fin turn):turns k σ g kn iw:=by
 let#[W,w0,q]:=q;show#[W,w0,λi m σ g w=>?_];rcases q i m σ g w with⟨a,b⟩|⟨x,a,N2,b,c⟩
 .exact .inl #[a,h _ _ b]
 .exact .inr #[x,a,N2,b,h2 _ _ _ _ c]
def Lz{k σ g}{fin kn:@&D->G->Prop}{turn iw:D->(Option D->S->G->Prop)->S->G->Prop}(h:∀ys g,fin ys g->kn ys g)(h2:∀x N σ g,turn x N σ g->iw x N σ g)(q:Aq k σ g fin turn):Aq k σ g kn iw:=by
 let#[W,w0,q]:=q;show#[W,w0,λi m ys σ g w=>?_];rcases q i m ys σ g w with⟨a,b⟩|⟨x,a,b,c⟩
 .exact .inl #[a,h _ _ b]
 .exact .inr #[x,a,b,h2 _ _ _ _ c]
def aL5{k σ g}{fin kn:@&Int->G->Prop}{turn iw:D->(Option Int->S->G->Prop)->S->G->Prop}(h:∀ys g,fin ys g->kn ys g)(h2:∀x N σ g,turn x N σ g->iw x N σ g)(q:Gx k σ g fin turn):Gx k σ g kn iw:=by
 let#[W,w0,q]:=q;show#[W,w0,λi m ys σ g w=>?_];rcases q i m ys σ g w with⟨a,b,c⟩|⟨x,a,b,c⟩
 .exact .inl #[a,b,h _ _ c]
 .exact .inr #[x,a,b,h2 _ _ _ _ c]
def E9{t:Bool}{A B A' B':Prop}(h1:A->A')(h2:B->B')(q:if t=true then A else B):if t=true then A' else B':=by
 cases t
 .exact h2 q
 .exact h1 q
def i3(P:ff):Prop:=∀f xs g Q Q' E E',(∀d g,Q d g->Q' d g)->(∀x g,E x g->E' x g)->P f xs g Q E->P f xs g Q' E'
mutual
def b7{P:ff}(hP:i3 P):∀(e:ME) (σ:S) (g:G) (Q Q':KD) (E E':KX),(∀d g,Q d g->Q' d g)->(∀x g,E x g->E' x g)->aY P e σ g Q E->aY P e σ g Q' E'
 |.var i,σ,g,Q,Q',E,E',h,hx,q=>by
  let#[d,a,b]:=q;show#[d,a,h _ _ b]
 |.lit d,σ,g,Q,Q',E,E',h,hx,q=>by show h _ _ q
 |.prim p es,σ,g,Q,Q',E,E',h,hx,q=>by
  show A2 hP es _ _ _ _ _ _ (λxs g1 q=>p9 h q) hx q
 |.dk p o es,σ,g,Q,Q',E,E',h,hx,q=>by
  show b7 hP o _ _ _ _ _ _ (λx g1 q=>#[q.1,A2 hP es _ _ _ _ _ _ (λxs g2 q=>p9 h q) hx q.2]) hx q
 |.oB es,σ,g,Q,Q',E,E',h,hx,q=>by
  show A2 hP es _ _ _ _ _ _ (by rintro xs g1 ⟨kvs,a,b,c,d⟩;show #[kvs,a,b,c,h _ _ d]) hx q
 |.chain o1 o2 a b c,σ,g,Q,Q',E,E',h,hx,q=>by
  show b7 hP a _ _ _ _ _ _ (λx g1 q=>b7 hP b _ _ _ _ _ _ (λy g2 q=>p9 (λz g3 q=>?_) q) hx q) hx q;let#[t,e,q]:=q;show#[t,e,E9 (λq=>b7 hP c _ _ _ _ _ _ (λw g4 q=>p9 h q) hx q) (h _ _) q]
 |.eI a b,σ,g,Q,Q',E,E',h,hx,q=>by
  show b7 hP a _ _ _ _ _ _ (λx g1 q=>?_) hx q;let#[t,e,q]:=q;show#[t,e,E9 (λq=>b7 hP b _ _ _ _ _ _ h hx q) (h _ _) q]
 |.hW a b,σ,g,Q,Q',E,E',h,hx,q=>by
  show b7 hP a _ _ _ _ _ _ (λx g1 q=>?_) hx q;let#[t,e,q]:=q;show#[t,e,E9 (h _ _) (λq=>b7 hP b _ _ _ _ _ _ h hx q) q]
 |.cK a,σ,g,Q,Q',E,E',h,hx,q=>by
  show b7 hP a _ _ _ _ _ _ (λx g1 q=>?_) hx q;let#[t,e,q]:=q;show#[t,e,h _ _ q]
 |.ite c a b,σ,g,Q,Q',E,E',h,hx,q=>by
  show u3 hP c _ _ _ _ _ _ (λt g1 q=>E9 (λq=>b7 hP a _ _ _ _ _ _ h hx q) (λq=>b7 hP b _ _ _ _ _ _ h hx q) q) hx q
 |.call f es,σ,g,Q,Q',E,E',h,hx,q=>by
  show A2 hP es _ _ _ _ _ _ (λxs g1 q=>hP _ _ _ _ _ _ _ h hx q) hx q
 |.make c f es,σ,g,Q,Q',E,E',h,hx,q=>by
  show A2 hP es _ _ _ _ _ _ (λxs g1 q=>hP _ _ _ _ _ _ _ (λd g2 q=>#[q.1,h _ _ q.2]) hx q) hx q
 |.bp m cs o es,σ,g,Q,Q',E,E',h,hx,q=>by
  show b7 hP o _ _ _ _ _ _ (λx g1 q=>?_) hx q;let#[a,c,fs,f,q1,q2,q3,q4,q]:=q;show#[a,c,fs,f,q1,q2,q3,q4,A2 hP es _ _ _ _ _ _ (λxs g2 q=>hP _ _ _ _ _ _ _ h hx q) hx q]
 |.comp c9 n tg it cond elt,σ,g,Q,Q',E,E',h,hx,q=>by
  show B7 hP it _ _ _ _ _ _ (λk g1 q=>Lz (λys g q=>h _ _ q) (λv v v v q=>q) q) hx q
 |.gX c9 n tg it cond elt,σ,g,Q,Q',E,E',h,hx,q=>by
  show B7 hP it _ _ _ _ _ _ (λk g1 q=>Lz (λys g q=>h _ _ q) (λx N σ g q=>C8 (λdz q=>u3 hP cond _ _ _ _ _ _ (λb g3 q=>by
   cases b
   .exact q
   .exact b7 hP elt _ _ _ _ _ _ (λv v z=>z) hx q) (λv v z=>z) q) q) q) hx q
 |.jZ c9 n tg it cond elt,σ,g,Q,Q',E,E',h,hx,q=>by
  show B7 hP it _ _ _ _ _ _ (λk g1 q=>aL5 (λys g q=>h _ _ q) (λv v v v q=>q) q) hx q
 |.nil,σ,g,Q,Q',E,E',h,hx,q=>(show False from q).elim
 |.cons _ _,σ,g,Q,Q',E,E',h,hx,q=>(show False from q).elim
 |.iJ _,σ,g,Q,Q',E,E',h,hx,q=>(show False from q).elim
 |.gC _,σ,g,Q,Q',E,E',h,hx,q=>(show False from q).elim
 |.iH _ _,σ,g,Q,Q',E,E',h,hx,q=>(show False from q).elim
 |.ug _,σ,g,Q,Q',E,E',h,hx,q|.uf _,σ,g,Q,Q',E,E',h,hx,q|.oh _ _,σ,g,Q,Q',E,E',h,hx,q=>(show False from q).elim
 |.dY _,σ,g,Q,Q',E,E',h,hx,q=>(show False from q).elim
 |.no,σ,g,Q,Q',E,E',h,hx,q=>(show False from q).elim
def A2{P:ff}(hP:i3 P):∀(e:ME) (σ:S) (g:G) (Q Q':@&D->G->Prop) (E E':KX),(∀d g,Q d g->Q' d g)->(∀x g,E x g->E' x g)->fz P e σ g Q E->fz P e σ g Q' E'
 |.nil,σ,g,Q,Q',E,E',h,hx,q=>by show h _ _ q
 |.cons a b,σ,g,Q,Q',E,E',h,hx,q=>by
  show b7 hP a _ _ _ _ _ _ (λx g1 q=>A2 hP b _ _ _ _ _ _ (λxs g2 q=>h _ _ q) hx q) hx q
 |.var _,σ,g,Q,Q',E,E',h,hx,q|.lit _,σ,g,Q,Q',E,E',h,hx,q|.prim _ _,σ,g,Q,Q',E,E',h,hx,q|.dk _ _ _,σ,g,Q,Q',E,E',h,hx,q|.oB _,σ,g,Q,Q',E,E',h,hx,q|.chain _ _ _ _ _,σ,g,Q,Q',E,E',h,hx,q|.eI _ _,σ,g,Q,Q',E,E',h,hx,q|.hW _ _,σ,g,Q,Q',E,E',h,hx,q|.cK _,σ,g,Q,Q',E,E',h,hx,q|.ite _ _ _,σ,g,Q,Q',E,E',h,hx,q|.call _ _,σ,g,Q,Q',E,E',h,hx,q
 |.make _ _ _,σ,g,Q,Q',E,E',h,hx,q|.bp _ _ _ _,σ,g,Q,Q',E,E',h,hx,q|.comp _ _ _ _ _ _,σ,g,Q,Q',E,E',h,hx,q|.jZ _ _ _ _ _ _,σ,g,Q,Q',E,E',h,hx,q|.gX _ _ _ _ _ _,σ,g,Q,Q',E,E',h,hx,q|.iJ _,σ,g,Q,Q',E,E',h,hx,q|.gC _,σ,g,Q,Q',E,E',h,hx,q|.iH _ _,σ,g,Q,Q',E,E',h,hx,q|.ug _,σ,g,Q,Q',E,E',h,hx,q|.uf _,σ,g,Q,Q',E,E',h,hx,q|.oh _ _,σ,g,Q,Q',E,E',h,hx,q|.dY _,σ,g,Q,Q',E,E',h,hx,q|.no,σ,g,Q,Q',E,E',h,hx,q=>(show False from q).elim
def u3{P:ff}(hP:i3 P):∀(e:ME) (σ:S) (g:G) (Q Q':Bool->G->Prop) (E E':KX),(∀d g,Q d g->Q' d g)->(∀x g,E x g->E' x g)->dN P e σ g Q E->dN P e σ g Q' E'
 |.eI a b,σ,g,Q,Q',E,E',h,hx,q=>by
  show u3 hP a _ _ _ _ _ _ (λt g1 q=>E9 (λq=>u3 hP b _ _ _ _ _ _ h hx q) (h _ _) q) hx q
 |.hW a b,σ,g,Q,Q',E,E',h,hx,q=>by
  show u3 hP a _ _ _ _ _ _ (λt g1 q=>E9 (h _ _) (λq=>u3 hP b _ _ _ _ _ _ h hx q) q) hx q
 |.cK a,σ,g,Q,Q',E,E',h,hx,q=>by show u3 hP a _ _ _ _ _ _ (λt g1 q=>h _ _ q) hx q
 |.no,σ,g,Q,Q',E,E',h,hx,q=>by show h _ _ q
 |.dY e,σ,g,Q,Q',E,E',h,hx,q=>by show b7 hP e _ _ _ _ _ _ (λx g1 q=>a12 (λb q=>h _ _ q) q) hx q
 |.var _,σ,g,Q,Q',E,E',h,hx,q|.lit _,σ,g,Q,Q',E,E',h,hx,q|.prim _ _,σ,g,Q,Q',E,E',h,hx,q|.dk _ _ _,σ,g,Q,Q',E,E',h,hx,q|.oB _,σ,g,Q,Q',E,E',h,hx,q|.chain _ _ _ _ _,σ,g,Q,Q',E,E',h,hx,q|.ite _ _ _,σ,g,Q,Q',E,E',h,hx,q|.call _ _,σ,g,Q,Q',E,E',h,hx,q|.nil,σ,g,Q,Q',E,E',h,hx,q|.cons _ _,σ,g,Q,Q',E,E',h,hx,q
 |.make _ _ _,σ,g,Q,Q',E,E',h,hx,q|.bp _ _ _ _,σ,g,Q,Q',E,E',h,hx,q|.comp _ _ _ _ _ _,σ,g,Q,Q',E,E',h,hx,q|.jZ _ _ _ _ _ _,σ,g,Q,Q',E,E',h,hx,q|.gX _ _ _ _ _ _,σ,g,Q,Q',E,E',h,hx,q|.iJ _,σ,g,Q,Q',E,E',h,hx,q|.gC _,σ,g,Q,Q',E,E',h,hx,q|.iH _ _,σ,g,Q,Q',E,E',h,hx,q|.ug _,σ,g,Q,Q',E,E',h,hx,q|.uf _,σ,g,Q,Q',E,E',h,hx,q|.oh _ _,σ,g,Q,Q',E,E',h,hx,q=>(show False from q).elim
def B7{P:ff}(hP:i3 P):∀(e:ME) (σ:S) (g:G) (Q Q':IK->G->Prop) (E E':KX),(∀d g,Q d g->Q' d g)->(∀x g,E x g->E' x g)->iW P e σ g Q E->iW P e σ g Q' E'
 |.iJ e,σ,g,Q,Q',E,E',h,hx,q=>by
  show b7 hP e _ _ _ _ _ _ (λx g1 q=>q.imp (by rintro ⟨l,a,b⟩;show #[l,a,h _ _ b]) λq=>q.imp (by rintro ⟨i,l,a,b,c⟩;show #[i,l,a,b,h _ _ c]) (by rintro ⟨a,b,c,d⟩;show #[a,b,c,h _ _ d])) hx q
 |.gC a,σ,g,Q,Q',E,E',h,hx,q=>by
  show b7 hP a _ _ _ _ _ _ (by rintro x g1 ⟨j,a,b,c,d⟩;show #[j,a,b,c,h _ _ d]) hx q
 |.iH a b,σ,g,Q,Q',E,E',h,hx,q=>by
  show b7 hP a _ _ _ _ _ _ (λx g1 q=>b7 hP b _ _ _ _ _ _ (by rintro y g2 ⟨i,j,a,b,c,d⟩;show #[i,j,a,b,c,h _ _ d]) hx q) hx q
 |.ug e,σ,g,Q,Q',E,E',h,hx,q=>by
  show b7 hP e _ _ _ _ _ _ (by rintro x g1 ⟨i,l,a,b,c⟩;show #[i,l,a,b,h _ _ c]) hx q
 |.oh a b,σ,g,Q,Q',E,E',h,hx,q=>by
  show b7 hP a _ _ _ _ _ _ (λx g1 q=>b7 hP b _ _ _ _ _ _ (by rintro y g2 ⟨l,i,m,e1,e2,e3,q⟩;show #[l,i,m,e1,e2,e3,h _ _ q]) hx q) hx q
 |.uf e,σ,g,Q,Q',E,E',h,hx,q=>by
  show b7 hP e _ _ _ _ _ _ (by rintro x g1 ⟨i,l,a,b,c⟩;show #[i,l,a,b,h _ _ c]) hx q
 |.var _,σ,g,Q,Q',E,E',h,hx,q|.lit _,σ,g,Q,Q',E,E',h,hx,q|.prim _ _,σ,g,Q,Q',E,E',h,hx,q|.dk _ _ _,σ,g,Q,Q',E,E',h,hx,q|.oB _,σ,g,Q,Q',E,E',h,hx,q|.chain _ _ _ _ _,σ,g,Q,Q',E,E',h,hx,q|.ite _ _ _,σ,g,Q,Q',E,E',h,hx,q|.call _ _,σ,g,Q,Q',E,E',h,hx,q|.nil,σ,g,Q,Q',E,E',h,hx,q|.cons _ _,σ,g,Q,Q',E,E',h,hx,q
 |.eI _ _,σ,g,Q,Q',E,E',h,hx,q|.hW _ _,σ,g,Q,Q',E,E',h,hx,q|.cK _,σ,g,Q,Q',E,E',h,hx,q|.dY _,σ,g,Q,Q',E,E',h,hx,q|.no,σ,g,Q,Q',E,E',h,hx,q
 |.make _ _ _,σ,g,Q,Q',E,E',h,hx,q|.bp _ _ _ _,σ,g,Q,Q',E,E',h,hx,q|.comp _ _ _ _ _ _,σ,g,Q,Q',E,E',h,hx,q|.jZ _ _ _ _ _ _,σ,g,Q,Q',E,E',h,hx,q|.gX _ _ _ _ _ _,σ,g,Q,Q',E,E',h,hx,q=>(show False from q).elim
end
structure Ends.le(N N':Ends):Prop where
 nx:∀σ g,N.nx σ g->N'.nx σ g
 rt:∀d g,N.rt d g->N'.rt d g
 bk:∀σ g,N.bk σ g->N'.bk σ g
 ct:∀σ g,N.ct σ g->N'.ct σ g
set_option tactic.hygienic true in
def NJ{P:ff}(hP:i3 P){N N':Ends}{E E':KX}(h:N.le N')(hx:∀x g,E x g->E' x g){σ:S}:∀(hs:@&(Str×ME)) x g,lK P N σ E hs x g->lK P N' σ E' hs x g
 |[],x,g,q=>hx x g q
 |(y,e)::r,x,g,q=>by
  unfold lK at q ⊢;split
  .rename_i hh;rw[aw hh] at q;show b7 hP e _ _ _ _ _ _ h.rt (λw w z=>z) q
  .rename_i hh;rw[az hh] at q;show NJ hP h hx r x g q
def wpS_mono{P:ff}(hP:i3 P):∀(s:MS) (N N':Ends) (σ:S) (g:G) (E E':KX),N.le N'->(∀x g,E x g->E' x g)->wpS P s N σ g E->wpS P s N' σ g E'
 |.pass,N,N',σ,g,E,E',h,hx,q=>h.nx _ _ q
 |.seq a b,N,N',σ,g,E,E',h,hx,q=>wpS_mono hP a { N with nx:=λju g1=>wpS P b N ju g1 E } { N' with nx:=λju g1=>wpS P b N' ju g1 E' } _ _ _ _ #[λju g1 q=>wpS_mono hP b _ _ _ _ _ _ h hx q,h.rt,h.bk,h.ct] hx q
 |.expr e,N,N',σ,g,E,E',h,hx,q=>b7 hP e _ _ _ _ _ _ (λx g1 q=>h.nx _ _ q) hx q
 |.set i e,N,N',σ,g,E,E',h,hx,q=>b7 hP e _ _ _ _ _ _ (λx g1 q=>h.nx _ _ q) hx q
 |.tY t e,N,N',σ,g,E,E',h,hx,q=>b7 hP e _ _ _ _ _ _ (λx g1 q=>C8 (λσ q=>h.nx _ _ q) q) hx q
 |.lN i j e,N,N',σ,g,E,E',h,hx,q=>b7 hP e _ _ _ _ _ _ (by rintro x g1 ⟨a,y,l,e1,e2,q⟩;show #[a,y,l,e1,e2,h.nx _ _ q]) hx q
 |.eP o i v,N,N',σ,g,E,E',h,hx,q=>b7 hP v _ _ _ _ _ _ (λx g1 q=>b7 hP o _ _ _ _ _ _ (λy g2 q=>b7 hP i _ _ _ _ _ _ (λz g3 q=>V9 (λg q=>h.nx _ _ q) q) hx q) hx q) hx q
 |.dU f cs o v,N,N',σ,g,E,E',h,hx,q=>b7 hP v _ _ _ _ _ _ (λx g1 q=>b7 hP o _ _ _ _ _ _ (λy g2 q=>aU5 (λg q=>h.nx _ _ q) q) hx q) hx q
 | .kq f cs o v,N,N',σ,g,E,E',h,hx,q=>b7 hP o _ _ _ _ _ _ (λy g1 q=>by
   let#[a,c,fs,x,q1,q2,q3,q4,q]:=q;show #[a,c,fs,x,q1,q2,q3,q4,b7 hP v _ _ _ _ _ _ (λz g3 q=>p9 (λw g4 q=>by
    let#[jc,k1,k2,k3]:=q;show #[jc,k1,k2,h.nx _ _ k3]) q) hx q]) hx q
 |.zw o1 i1 o2 i2 e,N,N',σ,g,E,E',h,hx,q=>b7 hP e _ _ _ _ _ _ (λx g1 q=>let ⟨u,v,q1,q⟩:=q;#[u,v,q1,b7 hP o1 _ _ _ _ _ _ (λy g2 q=>b7 hP i1 _ _ _ _ _ _ (λz g3 q=>V9 (λg4 q=>b7 hP o2 _ _ _ _ _ _ (λy g5 q=>b7 hP i2 _ _ _ _ _ _ (λz g6 q=>V9 (λg q=>h.nx _ _ q) q) hx q) hx q) q) hx q) hx q]) hx q
 |.nW i p v,N,N',σ,g,E,E',h,hx,q=>let ⟨x,q1,q⟩:=q;#[x,q1,b7 hP v _ _ _ _ _ _ (λz g1 q=>p9 (λw g2 q=>h.nx _ _ q) q) hx q]
 |.ifs c a b,N,N',σ,g,E,E',h,hx,q=>u3 hP c _ _ _ _ _ _ (λt g1 q=>E9 (λq=>wpS_mono hP a _ _ _ _ _ _ h hx q) (λq=>wpS_mono hP b _ _ _ _ _ _ h hx q) q) hx q
 |.jK t it b,N,N',σ,g,E,E',h,hx,q=>B7 hP it _ _ _ _ _ _ (λk g1 q=>aT3 h.nx (λx N2 σ g q=>C8 (λdz q=>wpS_mono hP b { N with nx:=N2,ct:=N2,bk:=N.nx } { N' with nx:=N2,ct:=N2,bk:=N'.nx } _ _ _ _ #[λr r z=>z,h.rt,h.nx,λr r z=>z] hx q) q) q) hx q
 |.vM c b,N,N',σ,g,E,E',h,hx,q=>by
  let#[W,w0,q]:=q;show#[W,w0,λm σ g w=>u3 hP c _ _ _ _ _ _ (λt g1 q=>E9 (λq=>?_) (h.nx _ _) q) hx (q m σ g w)];let#[N2,a,q]:=q;show#[N2,a,wpS_mono hP b { N with nx:=N2,ct:=N2,bk:=N.nx } { N' with nx:=N2,ct:=N2,bk:=N'.nx } _ _ _ _ #[λr r z=>z,h.rt,h.nx,λr r z=>z] hx q]
 |.ret e,N,N',σ,g,E,E',h,hx,q=>b7 hP e _ _ _ _ _ _ h.rt hx q
 |.rJ,N,N',σ,g,E,E',h,hx,q=>h.rt _ _ q
 |.brk,N,N',σ,g,E,E',h,hx,q=>h.bk _ _ q
 |.cont,N,N',σ,g,E,E',h,hx,q=>h.ct _ _ q
 |.raise x es,N,N',σ,g,E,E',h,hx,q=>A2 hP es _ _ _ _ _ _ (λvs g1 q=>#[q.1,hx _ _ q.2]) hx q
 |.R9 b hs,N,N',σ,g,E,E',h,hx,q=>wpS_mono hP b _ _ _ _ _ _ h (λx g q=>NJ hP h hx hs x g q) q
def b9(T:Nat->Option aT):∀k,i3 (a8 T k)
 |0=>λf xs g Q Q' E E' h hx q=>q.elim
 |k+1=>λf xs g Q Q' E E' h hx q=>by
  let#[m,a,b,q]:=q;show#[m,a,b,wpS_mono (b9 T k) m.body #[λx g'=>Q .aR g',Q,λx x=>False,λx x=>False] _ _ _ _ _ #[λx x z=>h _ _ z,h,λx x z=>z,λx x z=>z] hx q]
abbrev TupAt(K:PySem.W.Frag)(H:Hp)(a:Addr)(vs:@&V):Prop :=
 H a=!.tup vs\/∃(o:Obj) (aS:Array Value) (n:Nat),K.lookup a=!o/\o.cls=.type "tuple"/\o.dict=none/\o.data=.seq aS n/\aS.size<=sizeLine/\Vals vs aS.toList
def TupAt.d(h:TupAt K H a vs):yS K H a vs:=h
def TupAt.sq{K:PySem.W.Frag}{H:Hp}{a:Addr}{vs:@&V}(h:TupAt K H a vs):gF K H a vs:=h.d.sq
mutual
inductive c8(K:PySem.W.Frag)(ρ:@&Addr)(H:Hp):D->V->Prop
 |aR:c8 K ρ H .aR .aR
 |bl (b:Bool):c8 K ρ H (.bl b) (.bl b)
 |int (i:Int):c8 K ρ H (.int i) (.int i)
 |str (x:Str):c8 K ρ H (.str x) (.str x)
 |ty (n:String):c8 K ρ H (.ty n) (.ty n)
 |ref {i:Nat} {a:Addr} (h:ρ[i]?=!a):c8 K ρ H (.ref i) (.ref a)
 |tup {l:@&D} {a:Addr} {vs:@&V} (h:TupAt K H a vs) (r:a9 K ρ H l vs):c8 K ρ H (.tup l) (.ref a)
inductive a9(K:PySem.W.Frag)(ρ:@&Addr)(H:Hp):@&D->@&V->Prop
 |nil:a9 K ρ H [] []
 |cons {d:D} {v:V} {ds:@&D} {vs:@&V} (h:c8 K ρ H d v) (r:a9 K ρ H ds vs):a9 K ρ H (d::ds) (v::vs)
end
structure Ext(ρ:@&Addr)(H:Hp)(bE:@&Addr)(H':Hp):Prop where
 pre:∃more,bE=ρ++more
 tup:∀a xs,H a=!.tup xs->H' a=!.tup xs
def Ext.refl(ρ:@&Addr)(H:Hp):Ext ρ H ρ H:=#[#[[],by simp],λx x h=>h]
def Ext.trans{ρ H bJ H1 fb H2}(a:Ext ρ H bJ H1)(b:Ext bJ H1 fb H2):Ext ρ H fb H2:=by
 let#[#[m,rfl],t]:=a;let#[#[m',rfl],t']:=b;show#[#[m++m',by simp],λx xs h=>t' _ _ (t _ _ h)]
def Ext.get{ρ H bE H'}(e:Ext ρ H bE H')(h:ρ[i]?=!a):bE[i]?=!a:=by
 let#[#[m,rfl],_]:=e;rw[ay (ax.mp h).1];show h
def TupAt.ext{K ρ H bE H'}(e:Ext ρ H bE H')(h:TupAt K H a vs):TupAt K H' a vs:=h.elim (λz=>.inl (e.tup _ _ z)) .inr
mutual
def c8.ext{K ρ H bE H'}(e:Ext ρ H bE H'):∀{d v},c8 K ρ H d v->c8 K bE H' d v
 |_,_,.aR=>.aR
 |_,_,.bl b=>.bl b
 |_,_,.int i=>.int i
 |_,_,.str x=>.str x
 |_,_,.ty n=>.ty n
 |_,_,.ref h=>.ref (e.get h)
 |_,_,.tup h r=>.tup (h.ext e) (a9.ext e r)
def a9.ext{K ρ H bE H'}(e:Ext ρ H bE H'):∀{ds vs},a9 K ρ H ds vs->a9 K bE H' ds vs
 |_,_,.nil=>.nil
 |_,_,.cons h r=>.cons (c8.ext e h) (a9.ext e r)
end
def a9.length{K ρ H}{ds:@&D}{vs:@&V}(h:a9 K ρ H ds vs):-ds=-vs:=by
 induction ds generalizing vs with
 |nil=>cases h;rfl
 |cons d ds ih =>
  cases h with
  |cons q r=>simp[ih r]
def a9.get{K ρ H}:∀{ds vs} {i:Nat} {d:D},a9 K ρ H ds vs->ds[i]?=!d->∃v,vs[i]?=!v/\c8 K ρ H d v
 |_,_,_,_,.nil,h=>by simp at h
 |_,_,0,_,.cons h _,e=>by simp at e;subst e;show#[_,rfl,h]
 |_,_,i+1,d,.cons _ r,e=>by
  let#[v,h1,h2]:=a9.get r (_/e);show#[v,by simpa using h1,h2]
def a9.set{K ρ H}{d:D}{v:V}(h:c8 K ρ H d v):∀{ds vs} (i:Nat),a9 K ρ H ds vs->a9 K ρ H (ds.set i d) (vs.set i v)
 |_,_,_,.nil=>.nil
 |_,_,0,.cons _ r=>.cons h r
 |_,_,i+1,.cons q r=>.cons q (a9.set h i r)
def a9.append{K ρ H}{ds es:@&D}{ws:@&V}(h:a9 K ρ H ds vs)(s:a9 K ρ H es ws):a9 K ρ H (ds++es) (vs++ws):=by
 induction ds generalizing vs with
 |nil=>cases h;show s
 |cons d ds ih =>
  cases h with
  |cons q r=>show .cons q (ih r)
def a9.rep{K ρ H}{ds:@&D}{vs:@&V}(r:a9 K ρ H ds vs):∀n,a9 K ρ H (List.replicate n ds).flatten (List.replicate n vs).flatten
 |0=>.nil
 |n+1=>by
  show a9.append r (a9.rep r n)
def a9.erase{K ρ H}:∀{ds:@&D} {vs:@&V} (i:Nat),a9 K ρ H ds vs->a9 K ρ H (ds.eraseIdx i) (vs.eraseIdx i)
 |_,_,_,.nil=>.nil
 |_,_,0,.cons _ r=>r
 |_,_,i+1,.cons q r=>.cons q (a9.erase i r)
def a9.take{K ρ H}:∀{ds:@&D} {vs:@&V} (n:Nat),a9 K ρ H ds vs->a9 K ρ H (ds.take n) (vs.take n)
 |_,_,0,_=>.nil
 |_,_,_+1,.nil=>.nil
 |_,_,n+1,.cons h r=>.cons h (a9.take n r)
def a9.drop{K ρ H}:∀{ds:@&D} {vs:@&V} (n:Nat),a9 K ρ H ds vs->a9 K ρ H (ds.drop n) (vs.drop n)
 |_,_,0,r=>r
 |_,_,_+1,.nil=>.nil
 |_,_,n+1,.cons _ r=>a9.drop n r
def a9.reverse{K ρ H}:∀{ds:@&D} {vs:@&V},a9 K ρ H ds vs->a9 K ρ H ds.reverse vs.reverse
 |_,_,.nil=>.nil
 |_,_,.cons h r=>by
  rw[gP,gP];show a9.append (a9.reverse r) (.cons h .nil)
def a9.cut{K ρ H}{ds:@&D}{vs:@&V}(r:a9 K ρ H ds vs)(lo hi:Option Int):a9 K ρ H (M.cut ds lo hi) (qa vs lo hi):=by
 unfold M.cut qa;rw[(-r)];show(r.drop _).take _
def a9.ints{K ρ H}:∀{ns:@&Int} {vs:@&V},a9 K ρ H (ns.map D.int) vs->vs=ns.map V.int
 |[],_,.nil=>rfl
 |_::_,_,.cons h r=>by cases h;rw[a9.ints r];rfl
def a9.ofInts{K ρ H}:∀(ns:@&Int),a9 K ρ H (ns.map D.int) (ns.map V.int)
 |[]=>.nil
 |n::r=>.cons (.int n) (a9.ofInts r)
abbrev uR(K:PySem.W.Frag)(H:Hp)(a:Addr)(vs:@&V):Prop :=
 (∃o,H a=!.jJ o (.lst vs))\/∃(o:Obj) (aS:Array Value) (n:Nat),K.lookup a=!o/\o.cls=.type "list"/\o.dict=none/\o.data=.seq aS n/\aS.size<=sizeLine/\Vals vs aS.toList
def uR.sq(h:uR K H a vs):fT K H a vs:=h.elim (by rintro ⟨o,z⟩;show .inl (.inr #[o,z])) .inr
inductive d4{α:Type}(K:PySem.W.Frag)(ρ:@&Addr)(H:Hp):@&(α×D)->@&(α×V)->Prop
 |nil:d4 K ρ H [] []
 |cons {k:α} {d:D} {v:V} {ds:@&(α×D)} {vs:@&(α×V)} (h:c8 K ρ H d v) (r:d4 K ρ H ds vs):d4 K ρ H ((k,d)::ds) ((k,v)::vs)
def d4.ext{α:Type}{K ρ H bE H'}(e:Ext ρ H bE H'){ds:@&(α×D)}{vs:@&(α×V)}(h:d4 K ρ H ds vs):d4 K bE H' ds vs:=by
 induction h with
 |nil=>show .nil
 |cons h r ih=>show .cons (h.ext e) ih
def d4.drop{K ρ H}{ds:@&(Key×D)}{vs:@&(Key×V)}(k:Key)(h:d4 K ρ H ds vs):d4 K ρ H (delD ds k) (Be vs k):=by
 unfold delD Be
 induction h with
 |nil=>show .nil
 |cons h r ih =>
  rw[dI,dI];split
  .exact .cons h ih
  .exact ih
def d4.get{α:Type}{K ρ H}{ds:@&(α×D)}{vs:@&(α×V)}(h:d4 K ρ H ds vs):∀{i:Nat} {k:α} {d:D},ds[i]?=!(k,d)->∃v,vs[i]?=!(k,v)/\c8 K ρ H d v:=by
 induction h with
 |nil=>intro i k d e;simp at e
 |cons h r ih =>
  intro i k d e;cases i with
  |zero=>simp at e;let#[rfl,rfl]:=e;show#[_,rfl,h]
  |succ i=>simpa using ih (_/e)
def d4.length{α:Type}{K ρ H}{ds:@&(α×D)}{vs:@&(α×V)}(h:d4 K ρ H ds vs):-ds=-vs:=by
 induction h with
 |nil=>rfl
 |cons h r ih=>simp[ih]
abbrev tF(K:PySem.W.Frag)(ρ:@&Addr)(H:Hp):Option D->Option V->Prop
 |some d,!v=>c8 K ρ H d v
 |none,none=>True
 |_,_=>False
def d4.val{K ρ H}:∀{ds vs} (k:Key),d4 K ρ H ds vs->tF K ρ H (J7 ds k) (O2 vs k)
 |_,_,k,.nil=>trivial
 |_,_,k,.cons (k:=k') h r=>by
  unfold J7 O2;rw[iN,iN];by_cases e:k'=k
  .simp only[e,decide_true];show h
  .simp only[e,decide_false];show d4.val k r
def d4.Iy{K ρ H}:∀{ds vs} (k:Key),d4 K ρ H ds vs->(ds.any λkv=>decide (kv.1=k))=(vs.any λkv=>decide (kv.1=k))
 |_,_,k,.nil=>rfl
 |_,_,k,.cons h r=>by simp only[List.any_cons,d4.Iy k r]
def d4.snoc{K ρ H}{k:Key}{d:D}{v:V}(h:c8 K ρ H d v){ds vs}(t:d4 K ρ H ds vs):d4 K ρ H (ds++[(k,d)]) (vs++[(k,v)]):=by
 induction ds generalizing vs with
 |nil=>cases t;show .cons h .nil
 |cons d ds ih =>
  cases t with
  |cons q r=>show .cons q (ih r)
def d4.Gk{K ρ H}{k:Key}{d:D}{v:V}(h:c8 K ρ H d v):∀{ds vs},d4 K ρ H ds vs->d4 K ρ H (ds.map λkv=>if kv.1=k then(kv.1,d) else kv) (vs.map λkv=>if kv.1=k then(kv.1,v) else kv)
 |_,_,.nil=>.nil
 |_,_,.cons (k:=k') q r=>by
  simp only[List.map_cons];by_cases e:k'=k
  .rw[aw e,aw e];show .cons h (d4.Gk h r)
  .rw[az e,az e];show .cons q (d4.Gk h r)
def d4.put{K ρ H}{k:Key}{d:D}{v:V}(h:c8 K ρ H d v){ds vs}(r:d4 K ρ H ds vs):d4 K ρ H (putD ds k d) (putK vs k v):=by
 unfold putD putK;rw[r.Iy k];split
 .exact r.Gk h
 .exact r.snoc h
noncomputable abbrev m9(K:PySem.W.Frag)(x:Str)(C:Addr):Prop:=PySem.W.nsIn K mainGlobals x=!!.ref C
set_option tactic.hygienic true in
def d4.look{K ρ H}{ds:@&(Str×D)}{vs:@&(Str×V)}(f:Str)(h:d4 K ρ H ds vs):tF K ρ H (ds.lookup f) (vs.lookup f):=by
 induction h with
 |nil=>trivial
 |cons h r ih =>
  rename_i k d v ds vs;rw[dF,dF];cases f==k
  .exact ih
  .exact h
def d4.v5{K ρ H}{f:Str}{d:D}{v:V}(h:c8 K ρ H d v){ds:@&(Str×D)}{vs:@&(Str×V)}(r:d4 K ρ H ds vs):d4 K ρ H (u7 f d ds) (L2.v5 f v vs):=by
 induction r with
 |nil=>show .cons h .nil
 |cons q r ih =>
  unfold u7 L2.v5;split
  .exact .cons h r
  .exact .cons q ih
def Fs{f:Str}{d:D}{p:Str->Prop}(hf:p f):∀{ds:@&(Str×D)},(∀x∈ds,p x.1)->∀x∈u7 f d ds,p x.1
 |[],_,x,hx=>by
  have:x=(f,d):=by simpa[u7] using hx
  simp_all
 |(k,e)::r,h,x,hx=>by
  unfold u7 at hx;split at hx
  .rcases aG.mp hx with z|z
   .rw[z];show h (k,e) #[_]
   .exact h x (by simp[z])
  .rcases aG.mp hx with z|z
   .rw[z];show h (k,e) #[_]
   .exact Fs hf (λy hy=>h y (by simp[hy])) x z
abbrev OH(K:PySem.W.Frag)(ρ:@&Addr)(H:Hp):O->HO->Prop
 |.lst l,.lst vs=>a9 K ρ H l vs
 |.bX kvs,.dK vs=>d4 K ρ H kvs vs
 |.set S n,.set S' n'=>S=S'/\n=n'
 |.ins c fs,.ins C _ vs=>m9 K c C/\jd K C/\d4 K ρ H fs vs/\∀x∈fs,B6 K C x.1
 |_,_=>False
def OH.ext{K ρ H bE H'}(e:Ext ρ H bE H'){o:O}{u:HO}(h:OH K ρ H o u):OH K bE H' o u:=by
 cases o<;>cases u<;>first|show h.elim|show a9.ext e h|show d4.ext e h|show#[h.1,h.2.1,h.2.2.1.ext e,h.2.2.2]|show h
def OH.tJ{K ρ H}{xs:@&V}(h:OH K ρ H o (.tup xs)):False:=by cases o<;>show h
def OH.WY{K ρ H}{ob:Obj}(h:OH K ρ H o (.jJ ob u)):False:=by cases o<;>show h
def G8(K:PySem.W.Frag)(ρ:@&Addr)(H:Hp)(o:O)(a:Addr):Prop:=match o with
 |.pV l=>∃vs,uR K H a vs/\a9 K ρ H l vs
 |o=>∃u,H a=!u/\OH K ρ H o u
def G8.of{K ρ H}(hu:H a=!u)(h:OH K ρ H o u):G8 K ρ H o a:=by
 cases o<;>first|show#[u,hu,h]|(cases u<;>show h.elim)
def G8.inv{K ρ H}(m:o.mut=true)(h:G8 K ρ H o a):∃u,H a=!u/\OH K ρ H o u:=by
 cases o<;>first|show h|cases m
def G8.lst{K ρ H}{l:@&D}{a:Addr}(h:G8 K ρ H (.lst l) a):∃vs,H a=!.lst vs/\a9 K ρ H l vs:=by
 let#[u,h1,h2]:=h;cases u<;>first|show#[_,h1,h2]|show h2.elim
def G8.bX{K ρ H}{l:@&(Key×D)}{a:Addr}(h:G8 K ρ H (.bX l) a):∃vs,H a=!.dK vs/\d4 K ρ H l vs:=by
 let#[u,h1,h2]:=h;cases u<;>first|show#[_,h1,h2]|show h2.elim
def G8.set{K ρ H}{S:Int->Bool}{n:Nat}{a:Addr}(h:G8 K ρ H (.set S n) a):H a=!.set S n:=by
 let#[u,h1,h2]:=h;cases u<;>first|(let#[rfl,rfl]:=(show _/\_ from h2);show h1)|show h2.elim
def G8.ins{K ρ H}{c:Str}{fs:@&(Str×D)}{a:Addr}(h:G8 K ρ H (.ins c fs) a):∃C dx vs,H a=!.ins C dx vs/\m9 K c C/\jd K C/\d4 K ρ H fs vs/\∀x∈fs,B6 K C x.1:=by
 let#[u,h1,h2]:=h;cases u<;>first|show#[_,_,_,h1,h2]|show h2.elim
structure Rl(K:PySem.W.Frag)(ρ:@&Addr)(g:G)(H:Hp):Prop where
 len:ρ.length=-g
 obj:∀(i:Nat) o a,g[i]?=!o->ρ[i]?=!a->G8 K ρ H o a
 nd:∀(i j:Nat) o o' a,g[i]?=!o->g[j]?=!o'->o.mut=true->o'.mut=true->ρ[i]?=!a->ρ[j]?=!a->i=j
section
variable{ρ:@&Addr}
def Rl.lst(R:Rl K ρ g H){i:Nat}{l:@&D}{a:Addr}(h:g[i]?=!.lst l)(ha:ρ[i]?=!a):∃vs,H a=!.lst vs/\a9 K ρ H l vs:=(R.obj _ _ _ h ha).lst
def Rl.bX(R:Rl K ρ g H){i:Nat}{l:@&(Key×D)}{a:Addr}(h:g[i]?=!.bX l)(ha:ρ[i]?=!a):∃vs,H a=!.dK vs/\d4 K ρ H l vs:=(R.obj _ _ _ h ha).bX
def Rl.set(R:Rl K ρ g H){i:Nat}{S:Int->Bool}{n:Nat}{a:Addr}(h:g[i]?=!.set S n)(ha:ρ[i]?=!a):H a=!.set S n:=(R.obj _ _ _ h ha).set
def Rl.ins(R:Rl K ρ g H){i:Nat}{c:Str}{fs:@&(Str×D)}{a:Addr}(h:g[i]?=!.ins c fs)(ha:ρ[i]?=!a):∃C dx vs,H a=!.ins C dx vs/\m9 K c C/\jd K C/\d4 K ρ H fs vs/\∀x∈fs,B6 K C x.1:=(R.obj _ _ _ h ha).ins
def Rl.items(R:Rl K ρ g H)(h:c6 g i=!l)(ha:ρ[i]?=!a):∃vs,fT K H a vs/\a9 K ρ H l vs:=by
 cases e:g[i]? with
 |none=>rw[c6,e] at h;cases h
 |some o =>
  rw[c6,e] at h;let q:=R.obj _ _ _ e ha;cases o with
  |lst m=>cases h;let#[vs,z,r]:=q.lst;show#[vs,fT.of z,r]
  |pV m=>cases h;let#[vs,z,r]:=q;show#[vs,z.sq,r]
  |_=>cases h
def o8{o:HO}(hp:H p=none):Ext ρ H ρ (upd H p o):=#[#[[],by simp],λa xs h=>by rw[d8 (j3 h hp)];show h]
def uR.upd{p a:Addr}{o:HO}{vs:@&V}(h:uR K H a vs)(hp:∀ob u,H p≠!.jJ ob u):uR K (upd H p o) a vs:=by
 rcases h with⟨ob,z⟩|z
 .refine .inl #[ob,?_];rw[d8 ?_]
  .exact z
  .intro e;subst e;show hp _ _ z
 .exact .inr z
def G8.upd{p a:Addr}{o:O}{u:HO}{bE:@&Addr}(h:G8 K ρ H o a)(fN:o.mut=true->a≠p)(hp:∀ob u,H p≠!.jJ ob u)(e:Ext ρ H bE (L2.upd H p u)):G8 K bE (L2.upd H p u) o a:=by
 cases hm:o.mut with
 |true =>
  let#[u',h1,h2]:=h.inv hm;show .of (by rw[d8 (fN hm)];show h1) (h2.ext e)
 |false =>
  cases o<;>first|cases hm|skip
  let#[vs,z,r]:=h;show#[vs,z.upd hp,r.ext e]
def Rl.grow{o:HO}(R:Rl K ρ g H)(hp:H p=none):Rl K ρ g (upd H p o):=by
 let e:Ext ρ H ρ (upd H p o):=o8 hp;show#[R.len,λi ob a h1 h2=>?_,R.nd];let q:=R.obj _ _ _ h1 h2;show q.upd (λhm=>?_) (λob u z=>by simp_all) e;let#[u,h1,_]:=q.inv hm;show j3 h1 hp
def Rl.u9(R:Rl K ρ g H)(p:Addr):(ρ++[p])[(-g)]?=!p:=by rw[<- R.len];simp
def B8{o:HO}(hp:H p=none):Ext ρ H (ρ++[p]) (upd H p o):=#[#[[p],rfl],(o8 (ρ:=ρ) hp).tup]
def Rl.new{p:Addr}{o:O}{u:HO}(R:Rl K ρ g H)(hp:H p=none)(r:OH K ρ H o u):Rl K (ρ++[p]) (g++[o]) (upd H p u):=by
 let e:Ext ρ H (ρ++[p]) (upd H p u):=B8 hp;let old:∀{i:Nat} {ob:O} {a:Addr},g[i]?=!ob->(ρ++[p])[i]?=!a->ρ[i]?=!a:=λ{i ob a} h1 h2=>by
  rw[ay (by rw[R.len];show(ax.mp h1).1)] at h2;show h2
 let split:∀{i:Nat} {ob:O},(g++[o])[i]?=!ob->g[i]?=!ob\/(i=-g/\ob=o):=λ{i ob} h=>by
  rcases gO i (-g) with q|q|q
  .rw[ay q] at h;show .inl h
  .subst q;simp at h;show .inr #[rfl,h.symm]
  .rw[fo (by simp;omega)] at h;cases h
 show#[by simp[R.len],λi ob a h1 h2=>?_,λi j o1 o2 a h1 h2 m1 m2 h3 h4=>?_]
 .rcases split h1 with q|⟨rfl,rfl⟩
  .let z:=R.obj _ _ _ q (old q h2);show z.upd (λhm=>?_) (λob u z=>by simp_all) e;let#[u,h1,_]:=z.inv hm;show j3 h1 hp
  .rw[R.u9] at h2;cases h2;show .of k7 (r.ext e)
 .let nq:∀{i:Nat} {o:O} {a:Addr},g[i]?=!o->o.mut=true->ρ[i]?=!a->a≠p:=λ{i o a} h1 hm h2=>by
   let#[u,z,_]:=(R.obj _ _ _ h1 h2).inv hm;show j3 z hp
  rcases split h1 with q|⟨rfl,_⟩
  .rcases split h2 with q'|⟨rfl,_⟩
   .exact R.nd _ _ _ _ _ q q' m1 m2 (old q h3) (old q' h4)
   .rw[R.u9] at h4;cases h4;show absurd rfl (nq q m1 (old q h3))
  .rcases split h2 with q'|⟨rfl,_⟩
   .rw[R.u9] at h3;cases h3;show absurd rfl (nq q' m2 (old q' h4))
   .rfl
def Rl.alloc(R:Rl K ρ g H)(hp:H p=none)(r:a9 K ρ H l vs):Rl K (ρ++[p]) (g++[.lst l]) (upd H p (.lst vs)):=R.new hp r
def Rl.put{o':O}(R:Rl K ρ g H)(h:g[i]?=!o)(hm:o.mut=true)(ha:ρ[i]?=!a)(r:OH K ρ H o' u) :
  Rl K ρ (g.set i o') (upd H a u)/\Ext ρ H ρ (upd H a u):=by
 let#[u0,z0,He]:=(R.obj _ _ _ h ha).inv hm;let e:Ext ρ H ρ (upd H a u):=#[#[[],by simp],λb xs q=>by rw[d8];show q;intro z;subst z;rw[z0] at q;cases q;show He.tJ]
 show#[#[by simp[R.len],λj ob b h1 h2=>?_,λj k o1 o2 b h1 h2 m1 m2 h3 h4=>?_],e]
 .by_cases js:i=j
  .subst js;rw[ha] at h2;cases h2;let hi:=(ax.mp h).1;rw[aX hi] at h1;cases h1;show .of k7 (r.ext e)
  .rw[aE js] at h1;show(R.obj _ _ _ h1 h2).upd (λuq ez=>?_) (λob u z=>by rw[z0] at z;cases z;show He.WY) e;subst ez;show js (R.nd _ _ _ _ _ h h1 hm uq ha h2)
 .let back:∀{j:Nat} {m:O},(g.set i o')[j]?=!m->m.mut=true->∃m',g[j]?=!m'/\m'.mut=true:=λ{j m} q uq=>by
   by_cases js:i=j
   .subst js;show#[o,h,hm]
   .rw[aE js] at q;show#[m,q,uq]
  let#[_,q1,n1]:=back h1 m1;let#[_,q2,n2]:=back h2 m2;show R.nd _ _ _ _ _ q1 q2 n1 n2 h3 h4
def Rl.write{l':@&D}(R:Rl K ρ g H)(h:g[i]?=!.lst l)(ha:ρ[i]?=!a)(r:a9 K ρ H l' vs) :
  Rl K ρ (g.set i (.lst l')) (upd H a (.lst vs))/\Ext ρ H ρ (upd H a (.lst vs)):=R.put h rfl ha r
end
structure l9(K:PySem.W.Frag)(ρ:@&Addr)(H:Hp)(σ:S)(bI:St):Prop where
 len:σ.length=-bI
 val:∀(i:Nat) d,σ[i]?=!!d->∃v,bI[i]?=!!v/\c8 K ρ H d v
section
variable{ρ bE:@&Addr}{H':Hp}
def l9.ext{σ bI}(e:Ext ρ H bE H')(r:l9 K ρ H σ bI):l9 K bE H' σ bI:=#[r.len,λi d h=>let ⟨v,a,b⟩:=r.val i d h;#[v,a,b.ext e]]
def l9.set{σ bI d v}(r:l9 K ρ H σ bI)(i:Nat)(h:c8 K ρ H d v):l9 K ρ H (σ.set i (!d)) (bI.set i (!v)):=by
 show#[by simp[r.len],λj e q=>?_];by_cases js:i=j
 .subst js;let hi:i<σ.length:=by
   have:=(ax.mp q).1
   simp_all
  rw[aX hi] at q;cases q;show#[v,by rw[aX (by rw[<- r.len];show hi)],h]
 .rw[aE js] at q ⊢;show r.val j e q
def l9.start{ds vs}{n:Nat}(r:a9 K ρ H ds vs):l9 K ρ H (ds.map some++List.replicate (n- -ds) none) (vs.map some++List.replicate (n- -vs) none):=by
 show#[by simp[(-r)],λi d h=>?_];by_cases hi:i< -ds
 .rw[ay (_/hi),aD] at h;cases e:ds[i]? with
  |none=>rw[e] at h;cases h
  |some x =>
   rw[e] at h;cases h;let#[v,h1,h2]:=r.get e;show#[v,?_,h2];rw[ay (by rw[aj,<- -r];show hi),aD,h1]
   rfl
 .rw[cX (_/hi),dH] at h;split at h<;>cases h
def l9.c9{σ bI}(r:l9 K ρ H σ bI)(c9:@&Nat)(n:Nat):l9 K ρ H (P8 σ c9 n) (F5 bI c9 n):=by
 show#[by simp[P8,F5],λi d h=>?_];unfold P8 at h;unfold F5;by_cases hi:i< -c9
 .rw[ay (_/hi),aD,ao hi] at h;rw[ay (_/hi),aD,ao hi];simp only[Option.map_some] at h ⊢;cases e:σ[c9[i]]? with
  |none=>simp_all
  |some x =>
   rw[e] at h;let hx:=aJ h;subst hx;let#[v,h1,h2]:=r.val _ _ e;show#[v,by rw[h1];rfl,h2]
 .rw[cX (_/hi),dH] at h;split at h<;>cases h
end
end M
namespace M
open PySem L2 PySem.Spec PyProof.Rows
variable{b:Bool}{d:D}{X:Cx}{ρ:@&Addr}{g:G}{H:Hp}{σ:L2.St}{s:Shared}{l:@&D}{v x:V}{vs:@&V}
abbrev LQ(K:PySem.W.Frag)(ρ:@&Addr)(H:Hp)(Q:VK):KD:=λd g'=>∀bE H' v,Ext ρ H bE H'->Rl K bE g' H'->c8 K bE H' d v->Q v H'
def LQ.ext{K ρ H bJ H1 Q d g}(e:Ext ρ H bJ H1)(h:LQ K ρ H Q d g):LQ K bJ H1 Q d g:=λbE H' v e' R r=>h bE H' v (e.trans e') R r
def LQ.now{K ρ H Q d g v}(h:LQ K ρ H Q d g)(R:Rl K ρ g H)(r:c8 K ρ H d v):Q v H:=h ρ H v (.refl _ _) R r
def LQ.new{K ρ H Q}{g:G}{l:@&D}{vs:@&V}{p:Addr}(h:LQ K ρ H Q (.ref (-g)) (g++[.lst l]))(R:Rl K ρ g H)(hp:H p=none)(r:a9 K ρ H l vs):Q (.ref p) (upd H p (.lst vs)) :=
 h (ρ++[p]) _ _ (B8 hp) (R.alloc hp r) (.ref (R.u9 p))
def LQ.tup{K ρ H Q}{g:G}{l:@&D}{vs:@&V}{p:Addr}(h:LQ K ρ H Q (.tup l) g)(R:Rl K ρ g H)(hp:H p=none)(r:a9 K ρ H l vs):Q (.ref p) (upd H p (.tup vs)) :=
 h ρ _ _ (o8 hp) (R.grow hp) (.tup (.inl k7) (r.ext (o8 hp)))
def r2(K:PySem.W.Frag)(p:Pr):R2:=λx y H Q=>∃d e g ρ,Rl K ρ g H/\c8 K ρ H d x/\c8 K ρ H e y/\cA p [d,e] g (LQ K ρ H Q)
abbrev r1(K:PySem.W.Frag)(p:Pr):V->Hp->VK->Prop:=λx H Q=>∃d g ρ,Rl K ρ g H/\c8 K ρ H d x/\cA p [d] g (LQ K ρ H Q)
abbrev rN(K:PySem.W.Frag)(p:Pr):@&V->Hp->VK->Prop:=λxs H Q=>∃ds g ρ,Rl K ρ g H/\a9 K ρ H ds xs/\cA p ds g (LQ K ρ H Q)
def i5{n:Nat}(h:n<=100000):n<=sizeLine:=aH h ∅
def AB{n:Nat}(h:n<100000):n<sizeLine:=av h ∅
def c8.i0{K ρ H i v}(h:c8 K ρ H (.int i) v):v=.int i:=by cases h;rfl
def c8.o6{K ρ H i v}(h:c8 K ρ H (.str i) v):v=.str i:=by cases h;rfl
def c8.N9{K ρ H i v}(h:c8 K ρ H (.bl i) v):v=.bl i:=by cases h;rfl
def c8.Am{K ρ H v}(h:c8 K ρ H .aR v):v=.aR:=by cases h;rfl
def c8.XR{K ρ H n v}(h:c8 K ρ H (.ty n) v):v=.ty n:=by cases h;rfl
def c8.i4{K ρ H i v}(h:c8 K ρ H (.ref i) v):∃a,v=.ref a/\ρ[i]?=!a:=by cases h;show#[_,rfl,by assumption]
def c8.w9{K ρ H l v}(h:c8 K ρ H (.tup l) v):∃a vs,v=.ref a/\TupAt K H a vs/\a9 K ρ H l vs:=by cases h;show#[_,_,rfl,by assumption,by assumption]
def a9.one{K ρ H d vs}(h:a9 K ρ H [d] vs):∃v,vs=[v]/\c8 K ρ H d v:=by
 cases h with
 |cons r rr=>cases rr;show#[_,rfl,r]
def a9.two{K ρ H d e vs}(h:a9 K ρ H [d,e] vs):∃v w,vs=[v,w]/\c8 K ρ H d v/\c8 K ρ H e w:=by
 cases h with
 |cons r rr=>let#[w,rfl,q]:=rr.one;show#[_,_,rfl,r,q]
def A1{a b c:D}(h:[a,b]=[c,d]):a=c/\b=d:=by cases h;show#[rfl,rfl]
section
def YH(op:Operator):fj X (binaryOp op) (r2 X.K (.bin op)):=by
 intro pi s σ H x y v u Q I rx ry h;let#[d,e,g,ρ,R,rd,re,d',g',h,q]:=h;rcases h with⟨i,j,r,ex,ha,rfl,rfl⟩|⟨rfl,h⟩|⟨rfl,h⟩
 .let#[rfl,rfl]:=A1 ex;obtain rfl:=rd.i0;obtain rfl:=re.i0;let fin:=q.now R (.int r);cases op<;>first|show(show False from ha).elim|skip
  .cases ha;show YE pi s σ H _ _ v u Q I rx ry #[i,j,rfl,rfl,fin]
  .cases ha;show YR pi s σ H _ _ v u Q I rx ry #[i,j,rfl,rfl,fin]
  .let#[hc,rfl]:=ha;show YL pi s σ H _ _ v u Q I rx ry #[i,j,rfl,rfl,hc,fin]
  .let#[hc,rfl]:=ha;show YK pi s σ H _ _ v u Q I rx ry #[i,j,rfl,rfl,hc,fin]
  .let#[hc,rfl]:=ha;show YN pi s σ H _ _ v u Q I rx ry #[i,j,rfl,rfl,hc,fin]
  .let#[hc,rfl]:=ha;show YQ pi s σ H _ _ v u Q I rx ry #[i,j,rfl,rfl,hc,fin]
  .cases ha;show Xe pi s σ H _ _ v u Q I rx ry #[i,j,rfl,rfl,fin]
  .cases ha;show YG pi s σ H _ _ v u Q I rx ry #[i,j,rfl,rfl,fin]
  .let#[hc,rfl]:=ha;show Sr pi s σ H _ _ v u Q I rx ry #[i,j,rfl,rfl,hc,fin]
 .rcases h with⟨l,m,ex,hz,rfl,rfl⟩|⟨a,b,l,m,ex,ha,hb,hz,rfl,rfl⟩|⟨x',y',ex,hz,rfl,rfl⟩
  .let#[rfl,rfl]:=A1 ex;let#[a,vs,rfl,ta,rs]:=rd.w9;let#[b,ws,rfl,tb,rt]:=re.w9;show UU pi s σ H _ _ v u Q I rx ry #[a,b,vs,ws,rfl,rfl,ta.sq,tb.sq,?_,λz=>?_,λz=>?_,λp hp=>q.tup R hp (rs.append rt)]
   .rw[<- -rs,<- -rt];show i5 hz
   .subst z;cases rs;show q.now R (.tup tb rt)
   .subst z;cases rt;rw[eV] at q;show q.now R (.tup ta rs)
  .let#[rfl,rfl]:=A1 ex;let#[a',rfl,ra]:=rd.i4;let#[b',rfl,rb]:=re.i4;let#[vs,z1,rs]:=R.lst ha ra;let#[ws,z2,rt]:=R.lst hb rb;show YI pi s σ H _ _ v u Q I rx ry #[_,_,vs,ws,rfl,rfl,z1,z2,by rw[<- -rs,<- -rt];show i5 hz,λp hp=>q.new R hp (rs.append rt)]
  .let#[rfl,rfl]:=A1 ex;obtain rfl:=rd.o6;obtain rfl:=re.o6;show aV2 pi s σ H _ _ v u Q I rx ry #[_,_,rfl,rfl,i5 hz,q.now R (.str _)]
 .rcases h with⟨a,l,n,ex,ha,h1,h2,hz,rfl,rfl⟩|⟨l,n,ex,fN,h1,h2,hz,rfl,rfl⟩
  rotate_left
  .let#[rfl,rfl]:=A1 ex;let#[a',vs,rfl,ta,rs]:=rd.w9;obtain rfl:=re.i0;show Su pi s σ H _ _ v u Q I rx ry #[_,_,vs,rfl,rfl,ta.sq,λz=>?_,h1,h2,by rw[<- -rs];show i5 hz,λz=>?_,λp hp=>q.tup R hp (rs.rep _)]
   .subst z;cases rs;show fN rfl
   .subst z;have:(List.replicate (Int.toNat 1) l).flatten=l:=by simp
    rw[this] at q;show q.now R (.tup ta rs)
  let#[rfl,rfl]:=A1 ex;let#[a',rfl,ra]:=rd.i4;obtain rfl:=re.i0;let#[vs,z1,rs]:=R.lst ha ra;show YO pi s σ H _ _ v u Q I rx ry #[_,_,vs,rfl,rfl,z1,by omega,by omega,by rw[<- -rs];show i5 hz,λp hp=>q.new R hp (rs.rep _)]
def Xf(op:UnaryOp):Bu X (unaryOp op) (r1 X.K (.un op)):=by
 intro pi s σ H x v Q I rx h;let#[d,g,ρ,R,rd,d',g',#[rfl,i,ex,rfl,rfl],q]:=h;cases ex;obtain rfl:=rd.i0;show bD3 pi s σ H _ v Q I rx #[_,rfl,q.now R (.int _)]
section
variable{pi:@&(Addr×Obj)}
def Ly(I:Inv X pi σ H s)(R:Rl X.K ρ g H)(n:Nat)(ih:∀{d:D} {v:V} {u:Value} {p:PyData},rd g n d=!p->c8 X.K ρ H d v->RelV v u->∃as,Reads s.heap u p as/\p.depth<=n):∀{vs:@&V} {us:@&Value} {ps:@&PyData},l.mapM (rd g n)=!ps->a9 X.K ρ H l vs->Vals vs us->∃as,ReadsAll s.heap us ps as/\PyData.depthAll ps<=n:=by
 induction l with
 |nil =>
  intro vs us ps h rs rv;cases rs;cases rv;simp at h;subst h;show#[_,.nil,cJ _]
 |cons d l il =>
  intro vs us ps h rs rv;cases rs with
  |cons ir rs =>
   cases rv with
   |cons ru rv =>
    rw[oO] at h;cases e:rd g n d with
    |none=>simp_all
    |some p =>
     rw[e] at h;cases e2:l.mapM (rd g n) with
     |none=>rw[e2] at h;cases h
     |some qs =>
      rw[e2] at h;cases h;let#[as,q1,d1]:=ih e ir ru;let#[bs,q2,d2]:=il e2 rs rv;show#[_,.cons q1 q2,?_];simp only[PyData.depthAll];omega
set_option tactic.hygienic true in
def U8(I:Inv X pi σ H s)(R:Rl X.K ρ g H)(n:Nat):∀{d:D} {v:V} {u:Value} {p:PyData},rd g n d=!p->c8 X.K ρ H d v->RelV v u->∃as,Reads s.heap u p as/\p.depth<=n:=by
 induction n with
 |zero =>
  intro d v u p h r ru;cases r with
  |aR=>simp only[rd] at h;cases h;cases ru;show#[_,.none,Nat.zero_le _]
  |bl b=>simp only[rd] at h;cases h;cases ru;show#[_,.bool b,Nat.zero_le _]
  |int i=>simp only[rd] at h;cases h;let#[t,rfl]:=ru;show#[_,.int i t,Nat.zero_le _]
  |str x=>simp only[rd] at h;cases h;let#[t,rfl]:=ru;show#[_,.str x t,Nat.zero_le _]
  |_=>simp only[rd] at h;cases h
 |succ n ih =>
  intro d v u p h r ru;cases r with
  |aR=>simp only[rd] at h;cases h;cases ru;show#[_,.none,Nat.zero_le _]
  |bl b=>simp only[rd] at h;cases h;cases ru;show#[_,.bool b,Nat.zero_le _]
  |int i=>simp only[rd] at h;cases h;let#[t,rfl]:=ru;show#[_,.int i t,Nat.zero_le _]
  |str x=>simp only[rd] at h;cases h;let#[t,rfl]:=ru;show#[_,.str x t,Nat.zero_le _]
  |ty x=>simp only[rd] at h;cases h
  |ref ha =>
   rename_i i a;simp only[rd] at h;cases e:c6 g i with
   |none=>simp_all
   |some l =>
    rw[e] at h;dsimp only at h;cases e2:l.mapM (rd g n) with
    |none=>simp_all
    |some ps =>
     rw[e2] at h;cases h;cases ru;let#[vs,hq,rs]:=R.items e ha;let#[aS,rv,p,hz]:=I.list hq;let#[as,q,hd]:=Ly I R n ih e2 rs rv;let#[o,ho,hc,k,sE]:=p.isList;show#[_,.list ho hc sE (_/q),?_];simp only[PyData.depth];omega
  |tup ht rs =>
   rename_i l a vs;simp only[rd] at h;cases e2:l.mapM (rd g n) with
   |none=>simp_all
   |some ps =>
    rw[e2] at h;cases h;cases ru;let#[aS,rv,pt,hz]:=I.tuple ht.sq;let#[as,q,hd]:=Ly I R n ih e2 rs rv;let#[o,ho,hc,k,sE]:=id pt;show#[_,.tuple ho hc sE (_/q),?_];simp only[PyData.depth];omega
end
end
def yM{K ρ H}{c:Key}(h:Z5 d=!c)(r:c8 K ρ H d v):v=kV c:=by
 cases r<;>first|(cases h;rfl)|cases h
def tF.some{K ρ H}{o:Option V}{d:D}(h:tF K ρ H (!d) o):∃v,o=!v/\c8 K ρ H d v:=by
 cases o with
 |none=>show h.elim
 |some v=>show#[v,rfl,h]
def tF.isSome{K ρ H}{o:Option V}{d:Option D}(h:tF K ρ H d o):d.isSome=o.isSome:=by
 cases o<;>cases d<;>first|rfl|show h.elim
def Ja{pi:@&(Addr×Obj)}{e:D}{y:V}{v u:Value}{Q:VK}(hu:X.A.units+100<cLine)(I:Inv X pi σ H s)(rx:RelV x v)(ry:RelV y u)(R:Rl X.K ρ g H)(ir:c8 X.K ρ H d x)(re:c8 X.K ρ H e y)(h:ye g d e b)(neg:Bool)(q:Q (.bl (xor neg b)) H):wpAny (model X.prog X.w) X.A (compareOp (if neg then .NotEq else .Eq) v u) (EP X pi σ Q) X.xe s:=by
 rcases h with⟨i,j,rfl,rfl,rfl⟩|⟨i,j,rfl,rfl,rfl⟩|⟨i,j,rfl,rfl,rfl⟩|⟨p,p',h1,h2,c1,c2,rfl⟩
 .obtain rfl:=ir.i0;obtain rfl:=re.i0;cases neg
  .exact FK pi s σ H _ _ v u Q I rx ry #[rfl,by simp_all]
  .exact FL pi s σ H _ _ v u Q I rx ry #[rfl,by simp_all]
 .obtain rfl:=ir.N9;obtain rfl:=re.N9;cases neg
  .exact FK pi s σ H _ _ v u Q I rx ry #[rfl,by rw[Af];simpa using q]
  .exact FL pi s σ H _ _ v u Q I rx ry #[rfl,by rw[Af];simpa using q]
 .obtain rfl:=ir.o6;obtain rfl:=re.o6;cases neg
  .exact FK pi s σ H _ _ v u Q I rx ry #[rfl,by simp_all]
  .exact FL pi s σ H _ _ v u Q I rx ry #[rfl,by simp_all]
 .let#[as,q1,d1]:=U8 I R 6 h1 ir rx;let#[bs,q2,d2]:=U8 I R 6 h2 re ry;let hr:X.A.units+min p.depth p'.depth<cLine:=by omega
  cases neg
  .exact SeqAt.compareEq_reads q1 q2 c1 c2 hr #[.bl _,H,I,rfl,by simpa using q]
  .exact SeqAt.compareNe_reads q1 q2 c1 c2 hr #[.bl _,H,I,rfl,by simpa using q]
def in_of{pi:@&(Addr×Obj)}{e:D}{y:V}{v u:Value}{Q:VK}(hu:X.A.units+100<cLine)(I:Inv X pi σ H s)(rx:RelV x v)(ry:RelV y u)(R:Rl X.K ρ g H)(ir:c8 X.K ρ H d x)(re:c8 X.K ρ H e y)(h:inR g d e b)(neg:Bool)(q:Q (.bl (xor neg b)) H):wpAny (model X.prog X.w) X.A (compareOp (if neg then .NotIn else .In) v u) (EP X pi σ Q) X.xe s:=by
 rcases h with⟨a,kvs,c,rfl,ha,hc,rfl⟩|⟨l,ps,p,h0,h1,h2,c1,c2,rfl⟩
 .let#[a',rfl,ra]:=re.i4;let#[vs,z,rs]:=R.bX ha ra;have:=yM hc ir;subst this;cases ry;rw[(rs.val c).isSome] at q;cases neg
  .exact b58 () I (Z7.k z) rx λs' I'=>#[.bl _,H,I',rfl,by simpa using q]
  .exact bB7 () I (Z7.k z) rx λs' I'=>#[.bl _,H,I',rfl,by simpa using q]
 .let#[as,q1,d1]:=U8 I R 6 h2 ir rx;cases e with
  |tup m =>
   cases h0;let h3:rd g 7 (.tup l)=!.tuple ps:=by simp only[rd];rw[show l.mapM (rd g 6)=some ps from h1];rfl
   let#[bs,q2,d2]:=U8 I R 7 h3 re ry;let hr:X.A.units+1+min (PyData.depthAll ps) p.depth<cLine:=by omega
   cases neg
   .exact SeqAt.in_tuple_reads q2 q1 c1 c2 hr #[.bl _,H,I,rfl,by simpa using q]
   .exact SeqAt.notIn_tuple_reads q2 q1 c1 c2 hr #[.bl _,H,I,rfl,by simpa using q]
  |ref a =>
   let h3:rd g 7 (.ref a)=!.list ps:=by
    simp only[rd];rw[show c6 g a=some l from h0];dsimp only;rw[show l.mapM (rd g 6)=some ps from h1]
    rfl
   let#[bs,q2,d2]:=U8 I R 7 h3 re ry;let hr:X.A.units+1+min (PyData.depthAll ps) p.depth<cLine:=by omega
   cases neg
   .exact SeqAt.in_list_reads q2 q1 c1 c2 hr #[.bl _,H,I,rfl,by simpa using q]
   .exact SeqAt.notIn_list_reads q2 q1 c1 c2 hr #[.bl _,H,I,rfl,by simpa using q]
  |_=>cases h0
def vk(hu:X.A.units+100<cLine)(op:CmpOp):fj X (compareOp op) (r2 X.K (.cmp op)):=by
 intro pi s σ H x y v u Q I rx ry h;let#[d,e,g,ρ,R,ir,re,d',g',#[x',y',b,ex,h,rfl,rfl],q]:=h;let#[rfl,rfl]:=A1 ex;let fin:=q.now R (.bl b);let ph:∀{P:Int->Int->Bool},(∃i j,d=.int i/\e=.int j/\b=P i j)->∃i j,x=.int i/\y=.int j/\b=P i j:=λhh=>by
  let#[i,j,z1,z2,z3]:=hh;show#[i,j,(z1▸ir).i0,(z2▸re).i0,z3]
 cases op
 .exact Ja hu I rx ry R ir re h false (_/fin)
 .exact Ja hu I rx ry R ir re h true (_/fin)
 .let#[i,j,e1,e2,e3]:=ph (P:=λi j=>decide (i<j)) h;show Xd pi s σ H _ _ v u Q I rx ry #[i,j,e1,e2,by subst e3;show fin]
 .let#[i,j,e1,e2,e3]:=ph (P:=λi j=>decide (i<=j)) h;show Xc pi s σ H _ _ v u Q I rx ry #[i,j,e1,e2,by subst e3;show fin]
 .let#[i,j,e1,e2,e3]:=ph (P:=λi j=>decide (j<i)) h;show Xb pi s σ H _ _ v u Q I rx ry #[i,j,e1,e2,by subst e3;show fin]
 .let#[i,j,e1,e2,e3]:=ph (P:=λi j=>decide (j<=i)) h;show Xa pi s σ H _ _ v u Q I rx ry #[i,j,e1,e2,by subst e3;show fin]
 .let#[rfl,rfl]:=(show _/\_ from h)
  obtain rfl:=re.Am;show YJ pi s σ H _ _ v u Q I rx ry #[rfl,?_];let e:X7 d=decide (x=V.aR):=by cases ir<;>simp[X7]
  rw[<- e];show fin
 .let#[rfl,rfl]:=(show _/\_ from h)
  obtain rfl:=re.Am;show Ss pi s σ H _ _ v u Q I rx ry #[rfl,?_];let e:X7 d=decide (x=V.aR):=by cases ir<;>simp[X7]
  rw[<- e];show fin
 .rcases h with h|⟨a,S,n,i,rfl,ha,rfl,rfl⟩|⟨i,j,rfl,rfl,rfl⟩
  .exact in_of hu I rx ry R ir re h false (_/fin)
  .let#[a',rfl,ra]:=re.i4;obtain rfl:=ir.i0;show a51 pi s σ H _ _ v u Q I rx ry #[i,a',S,n,rfl,rfl,R.set ha ra,fin]
  .obtain rfl:=re.o6;obtain rfl:=ir.o6;show a50 pi s σ H _ _ v u Q I rx ry #[i,j,rfl,rfl,fin]
 .rcases h with h|⟨a,S,n,i,rfl,ha,rfl,hb⟩|⟨i,j,rfl,rfl,hb⟩
  .exact in_of hu I rx ry R ir re h true (_/fin)
  .let#[a',rfl,ra]:=re.i4;obtain rfl:=ir.i0;show aF9 pi s σ H _ _ v u Q I rx ry #[i,a',S,n,rfl,rfl,R.set ha ra,by rw[<- hb,Bool.not_not];show fin]
  .obtain rfl:=re.o6;obtain rfl:=ir.o6;show aF8 pi s σ H _ _ v u Q I rx ry #[i,j,rfl,rfl,by rw[<- hb,Bool.not_not];show fin]
def empty_eq{K ρ H}(r:a9 K ρ H l vs):l.isEmpty=vs.isEmpty:=by cases r<;>rfl
def bD7{K:PySem.W.Frag}(R:Rl K ρ g H)(r:c8 K ρ H d x)(h:Kk g d b):DO K x H b:=by
 rcases h with⟨rfl,rfl⟩|rfl|⟨i,rfl,rfl⟩|⟨l,rfl,rfl⟩|⟨a,l,rfl,hl,rfl⟩
 .obtain rfl:=r.Am;rfl
 .obtain rfl:=r.N9;rfl
 .obtain rfl:=r.i0;rfl
 .let#[a,vs,rfl,ht,rs]:=r.w9;show .inr (.inl #[_,ht.sq,by rw[empty_eq rs]])
 .let#[a',rfl,ha]:=r.i4;let#[vs,hq,rs]:=R.items hl ha;show .inl #[_,hq,by rw[empty_eq rs]]
def bC3{K ρ H}{i:Int}(r:a9 K ρ H l vs)(h:iQ l i=!d):∃v,iQ vs i=!v/\c8 K ρ H d v:=by
 unfold iQ at h ⊢;rw[<- -r];cases e:lh (-l) i with
 |none=>simp_all
 |some j =>
  rw[e] at h;show r.get h
def Ao{K ρ H}{x:D}(R:Rl K ρ g H)(r:c8 K ρ H x v)(h:C6 g x=!l):∃a vs,v=.ref a/\a9 K ρ H l vs/\((∃i,x=.ref i/\ρ[i]?=!a)/\fT K H a vs\/x=.tup l/\TupAt K H a vs):=by
 cases r with
 |tup ht rs=>cases h;show#[_,_,rfl,rs,.inr #[rfl,ht]]
 |ref ha=>let#[vs,hq,rs]:=R.items h ha;show#[_,_,rfl,rs,.inl #[#[_,rfl,ha],hq]]
 |_=>cases h
def WJ(hu:X.A.units+100<cLine):vt X (r2 X.K .ix):=by
 intro value slice pi s σ H x y v u Q I rx ry h hs;let#[d,e,g,ρ,R,ir,re,d',g',#[rfl,h],q]:=h;rcases h with⟨x',l,i,ex,hl,ha⟩|⟨a,kvs,y',c,ex,ha,hc,hv⟩|z
 .let#[rfl,rfl]:=A1 ex;obtain rfl:=re.i0;let#[a,vs,rfl,rs,h]:=Ao R ir hl;let#[w,hw,fH]:=bC3 rs ha;rcases h with⟨_,hq⟩|⟨_,ht⟩
  .exact bA3 value slice pi s σ H _ _ v u Q I rx ry #[_,_,i,w,rfl,rfl,hq,hw,q.now R fH] hs
  .exact Yn value slice pi s σ H _ _ v u Q I rx ry #[_,_,i,w,rfl,rfl,ht.sq,hw,q.now R fH] hs
 .let#[rfl,rfl]:=A1 ex;let#[a',rfl,ra]:=ir.i4;let#[vs,z,rs]:=R.bX ha ra;have:=yM hc re;subst this;let q2:=rs.val c;rw[hv] at q2;let#[w,hw,fH]:=q2.some;show bA4 () value slice pi s σ H _ _ v u Q I rx ry #[_,w,rfl,by have:=Z7.k (k:=c) z;rw[hw] at this;show this,q.now R fH] hs
 .exact z.elim
abbrev Pn(K:PySem.W.Frag):V->Option Int->Option Int->Hp->VK->Prop:=λx lo hi H Q=>∃d g ρ d' g',Rl K ρ g H/\c8 K ρ H d x/\vW d lo hi g d' g'/\LQ K ρ H Q d' g'
def Jv:yY X (Pn X.K):=by
 intro pi s σ H x v vl vu lo hi sl Q I rx hs pl pu h;let#[d,g,ρ,d',g',R,ir,h,q]:=h;rcases h with⟨l,rfl,rfl,rfl⟩|⟨a,l,rfl,hl,rfl,rfl⟩
 .let#[a,vs,rfl,ht,rs]:=ir.w9;show Tq pi s σ H _ v vl vu lo hi sl Q I rx hs pl pu #[_,_,rfl,ht.sq,λz=>?_,λp hp=>q.tup R hp (rs.cut lo hi)];show q.now R (.tup ht ?_);have:=rs.cut lo hi
  simp_all
 .let#[a',rfl,ha]:=ir.i4;let#[vs,hq,rs]:=R.items hl ha;show Tp pi s σ H _ v vl vu lo hi sl Q I rx hs pl pu #[_,_,rfl,hq,λp hp=>q.new R hp (rs.cut lo hi)]
abbrev b27(K:PySem.W.Frag):V->V->V->Hp->(Hp->Prop)->Prop:=λo i v H Q=>∃DB di dv g ρ,Rl K ρ g H/\c8 K ρ H DB o/\c8 K ρ H di i/\c8 K ρ H dv v/\qg DB di dv g (λg'=>∀bE H',Ext ρ H bE H'->Rl K bE g' H'->Q H')
def ZL(hu:X.A.units+100<cLine):DM X (b27 X.K):=by
 intro pi s σ H o i v ov iv u Q I ro ri rv h;let#[DB,di,dv,g,ρ,R,r1,r2,r3,g',h,q]:=h;rcases h with⟨a,i',l,j,rfl,rfl,hl,hj,rfl⟩|⟨a,kvs,c,rfl,ha,hc,hz,rfl⟩
 .let#[a',rfl,ha]:=r1.i4;obtain rfl:=r2.i0;let#[vs,z,rs]:=R.lst hl ha;let#[R',e']:=R.write hl ha (rs.set r3 j);show set_list pi s σ H _ _ _ ov iv u Q I ro ri rv #[_,vs,_,j,rfl,rfl,z,by rw[<- -rs];show hj,q ρ _ e' R']
 .let#[a',rfl,ra]:=r1.i4;let#[vs,z,rs]:=R.bX ha ra;have:=yM hc r2;subst this;let#[R',e']:=R.put (o':=.bX (putD kvs c dv)) (u:=.dK (putK vs c v)) ha rfl ra (rs.put r3);cases ro;show a98 () I (AS.k z (by rw[<- -rs];show AB hz)) ri rv λs' I'=>#[_,I',q ρ _ e' R']
def Yv:k9 X (.builtin "len") (rN X.K .len):=by
 intro pi s σ H xs us Q I r h;let#[ds,g,ρ,R,rs,d',g',#[rfl,h],q]:=h;rcases h with⟨x,l,rfl,hl,rfl⟩|z|⟨x,rfl,hz,rfl⟩
 .let#[v,rfl,rv]:=rs.one;let#[a,vs,rfl,rl,h]:=Ao R rv hl;show aK2 pi s σ H _ us Q I r #[_,_,rfl,?_,by rw[<- -rl];show q.now R (.int _)];show h.imp (λz=>z.2) (λz=>z.2.sq)
 .exact z.elim
 .let#[v,rfl,rv]:=rs.one;obtain rfl:=rv.o6;show aK1 pi s σ H _ us Q I r #[_,rfl,i5 hz,q.now R (.int _)]
def EC{K ρ H}:∀(ks:@&Key),a9 K ρ H (ks.map kD) (ks.map kV)
 |[]=>.nil
 |.inl _::r=>.cons (.int _) (EC r)
 |.inr _::r=>.cons (.str _) (EC r)
def d4.keys{α:Type}{K ρ H}{ds:@&(α×D)}{vs:@&(α×V)}(h:d4 K ρ H ds vs):ds.map (·.1)=vs.map (·.1):=by
 induction h with
 |nil=>rfl
 |cons _ _ ih=>simp_all
def bA0(hc:X.calm=true):k9 X (.type "list") (rN X.K .list):=by
 intro pi s σ H xs us Q I r h;obtain⟨ds,g,ρ,R,rs,d',g',⟨x,l,rfl,hl,rfl,rfl⟩|⟨a,kvs,rfl,ha,hn,rfl,rfl⟩,q⟩:=h
 rotate_left
 .let#[v,rfl,rv]:=rs.one;let#[a',rfl,ra]:=rv.i4;let#[vs,z,rk]:=R.bX ha ra;show aw5 hc pi s σ H _ us Q I r #[_,vs,rfl,z,by rw[<- -rk];show hn,λp hp=>q (ρ++[p]) _ _ (B8 hp) (R.new hp (by rw[rk.keys];show EC _)) (.ref (R.u9 p))]
 let#[v,rfl,rv]:=rs.one;let#[a,vs,rfl,rl,h]:=Ao R rv hl;show aK0 pi s σ H _ us Q I r #[_,_,rfl,h.imp (λz=>z.2) (λz=>z.2.sq),λp hp=>q.new R hp rl]
def VM:k9 X (.type "tuple") (rN X.K .tuple):=by
 intro pi s σ H xs us Q I r h;let#[ds,g,ρ,R,rs,d',g',#[x,l,rfl,hl,rfl,rfl],q]:=h;let#[v,rfl,rv]:=rs.one;let#[a,vs,rfl,rl,h]:=Ao R rv hl;show aA6 pi s σ H _ us Q I r #[a,vs,rfl,?_];show h.imp (λz=>#[z.2,λp hp=>q.tup R hp rl]) (λz=>#[z.2.sq,q.now R (.tup z.2 rl)])
def bA5:k9 X (.builtin "isinstance") (rN X.K .isin):=by
 intro pi s σ H xs us Q I r h;let#[ds,g,ρ,R,rs,d',g',#[x,c,b,rfl,hc,hb,rfl,rfl],q]:=h;let#[v,w,rfl,r1,r2]:=rs.two;obtain rfl:=r2.XR;let fin:=q.now R (.bl b);let go:∀(t:Value) (v:V),hJ X.K H v t->PySem.W.kitOne X.K t (.type c)=!b->Vals [v,V.ty c] us->wpAny (model X.prog X.w) X.A (call (.builtin "isinstance") us) (EP X pi σ Q) X.xe s :=
  λt v ht hk r=>aM8 pi s σ H _ us Q I r #[v,t,c,b,rfl,ht,hk,fin]
 simp only[List.mem_cons,List.mem_nil_iff,or_false] at hc;cases r1 with
 |aR=>show go _ _ .aR ?_ r;cases hb;rcases hc with rfl|rfl|rfl|rfl|rfl<;>rfl
 |bl y=>show go _ _ (.bl y) ?_ r;cases hb;rcases hc with rfl|rfl|rfl|rfl|rfl<;>rfl
 |int y=>show go _ _ (.int y) ?_ r;cases hb;rcases hc with rfl|rfl|rfl|rfl|rfl<;>rfl
 |str y=>show go _ _ (.str y) ?_ r;cases hb;rcases hc with rfl|rfl|rfl|rfl|rfl<;>rfl
 |ty _=>cases hb
 |tup ht rs =>
  cases hb;rcases ht with ht|ht
  .refine go _ _ (.tup ht) ?_ r;rcases hc with rfl|rfl|rfl|rfl|rfl<;>rfl
  .let#[o,aS,n,lk,jb,_]:=ht;let#[u,w',rfl,ru,fH]:=vals2 r;cases (show w'=Value.type c from fH);cases ru;let hk:PySem.W.kitOne X.K (.type "tuple") (.type c)=!(c=="tuple"):=by rcases hc with rfl|rfl|rfl|rfl|rfl<;>rfl
   show bQ OP I.fZ #[o,I.fZ _ _ lk,jb] hk (λz=>nomatch z) λtk=>#[.bl _,H,I.tok tk,rfl,fin]
 |@ref i a ha =>
  let pF:∃m,g'[i]?=!.lst m/\b=(c=="list"):=by
   simp only[sZ] at hb;split at hb
   .exact#[_,by assumption,(aJ hb).symm]
   .cases hb
  let#[m,e,rfl]:=pF;let#[vs,z,_]:=R.lst e ha;show go _ _ (.lst z) ?_ r;rcases hc with rfl|rfl|rfl|rfl|rfl<;>rfl
set_option tactic.hygienic true in
def aZ3:∀{l:@&D} {b:Bool},J6 l=!b->∃bs:@&Bool,l=bs.map D.bl/\b=bs.all id:=by
 intro l
 induction l with
 |nil=>intro b h;cases h;show#[[],rfl,rfl]
 |cons d r ih =>
  intro b h;cases d<;>first|(cases h;done)|skip
  rename_i c;simp only[J6] at h;cases e:J6 r with
  |none=>simp_all
  |some b' =>
   rw[e] at h;cases h;let#[bs,rfl,rfl]:=ih e;show#[c::bs,rfl,by simp]
def a9.Ua{K ρ H}:∀{bs:@&Bool} {vs:@&V},a9 K ρ H (bs.map D.bl) vs->vs=bs.map V.bl:=by
 intro bs
 induction bs with
 |nil=>intro vs h;cases h;rfl
 |cons b r ih =>
  intro vs h;cases h with
  |cons h rr=>rw[ih rr,h.N9];rfl
def XZ(hc:X.calm=true):k9 X (.builtin "all") (rN X.K .all):=by
 intro pi s σ H xs us Q I r h;let#[ds,g,ρ,R,rs,d',g',#[a,l,b,rfl,hl,hb,rfl,rfl],q]:=h;let#[v,rfl,rv]:=rs.one;let#[a',rfl,ra]:=rv.i4;let#[vs,hq,rs]:=R.items hl ra;rcases hb with hb|⟨ns,rfl,rfl⟩
 rotate_left
 .have:=rs.ints;subst this;show Wc hc pi s σ H _ us Q I r #[_,ns,rfl,hq,q.now R (.bl _)]
 let#[bs,rfl,rfl]:=aZ3 hb;have:=rs.Ua;subst this;show Wb hc pi s σ H _ us Q I r #[_,bs,rfl,hq,q.now R (.bl _)]
def Yl:k9 X (.type "int") (rN X.K .int):=by
 intro pi s σ H xs us Q I r h;let#[ds,g,ρ,R,rs,d',g',#[rfl,h],q]:=h;rcases h with⟨i,rfl,rfl⟩|⟨b,rfl,rfl⟩|⟨x,n,rfl,hl,hn,rfl⟩
 .let#[v,rfl,rv]:=rs.one;obtain rfl:=rv.i0;show Ks pi s σ H _ us Q I r (.inl #[i,rfl,q.now R (.int _)])
 .let#[v,rfl,rv]:=rs.one;obtain rfl:=rv.N9;show Ks pi s σ H _ us Q I r (.inr #[b,rfl,q.now R (.int _)])
 .let#[v,rfl,rv]:=rs.one;obtain rfl:=rv.o6;show aK3 pi s σ H _ us Q I r #[x,n,rfl,hl,hn,q.now R (.int _)]
def ZX:k9 X (.type "str") (rN X.K .str):=by
 intro pi s σ H xs us Q I r h;obtain⟨ds,g,ρ,R,rs,d',g',⟨i,rfl,hi,rfl,rfl⟩|⟨x,rfl,rfl,rfl⟩,q⟩:=h
 .let#[v,rfl,rv]:=rs.one;obtain rfl:=rv.i0;show aJ8 pi s σ H _ us Q I r #[i,rfl,hi,q.now R (.str _)]
 .let#[v,rfl,rv]:=rs.one;obtain rfl:=rv.o6;let#[u,rfl,t,rfl]:=vals1 r;show PySem.P.str_of_str #[.str _,H,I,#[_,rfl],q.now R (.str _)]
abbrev rM(K:PySem.W.Frag)(p:Pr):V->@&V->Hp->VK->Prop:=λx xs H Q=>∃d ds g ρ,Rl K ρ g H/\c8 K ρ H d x/\a9 K ρ H ds xs/\cA p (d::ds) g (LQ K ρ H Q)
def V4{a b:D}{m:@&D}(h:a::l=b::m):a=b/\l=m:=by cases h;show#[rfl,rfl]
def VZ:kU X "list.append" (rM X.K .append):=by
 intro pi s σ H x xs v us Q I rx r h;let#[d,ds,g,ρ,R,rd,rs,d',g',#[a,y,l,ex,ha,hz,rfl,rfl],q]:=h;let#[rfl,rfl]:=V4 ex;let#[a',rfl,ra]:=rd.i4;let#[w,rfl,fH]:=rs.one;let#[vs,z1,rv]:=R.lst ha ra;let#[R2,e2]:=R.write ha ra (rv.append (.cons fH .nil));show a59 pi s σ H _ _ v us Q I rx r #[_,vs,_,rfl,rfl,z1,by rw[<- -rv];show AB hz,q ρ _ _ e2 R2 .aR]
def Uh:kU X "list.clear" (rM X.K .clear):=by
 intro pi s σ H x xs v us Q I rx r h;let#[d,ds,g,ρ,R,rd,rs,d',g',#[a,l,ex,ha,rfl,rfl],q]:=h;let#[rfl,rfl]:=V4 ex;let#[a',rfl,ra]:=rd.i4;cases rs;let#[vs,z1,rv]:=R.lst ha ra;let#[R2,e2]:=R.write ha ra (a9.nil);show UO pi s σ H _ _ v us Q I rx r #[_,vs,rfl,rfl,z1,q ρ _ _ e2 R2 .aR]
def SH:kU X "list.pop" (rM X.K .jF):=by
 intro pi s σ H x xs v us Q I rx r h;let#[d,ds,g,ρ,R,rd,rs,y,g',#[a,l,ex,ha,rfl],q]:=h;let#[rfl,rfl]:=V4 ex;let#[a',rfl,ra]:=rd.i4;cases rs;let#[vs,z1,rv]:=R.lst ha ra;let#[w,hw,fH]:=rv.get (i:=-l) (d:=y) #[_];let hl:-vs=-l+1:=by rw[<- -rv];simp
 let rl:a9 X.K ρ H l vs.dropLast:=by
  have:=rv.erase (-l);rw[List.eraseIdx_append_of_length_le (ak _)] at this;rw[show vs.eraseIdx (-l)=vs.dropLast by rw[List.eraseIdx_eq_dropLast];omega] at this;simpa using this
 let#[R2,e2]:=R.write ha ra rl;show Yz pi s σ H _ _ v us Q I rx r #[_,vs,w,rfl,rfl,z1,by rw[hl];show hw,q ρ _ _ e2 R2 (fH.ext e2)]
def d4.JB{K ρ H}:∀ks:@&Int,d4 K ρ H (ks.map λk=>((.inl k:Key),D.bl true)) (ks.map λk=>((.inl k:Key),V.bl true))
 |[]=>.nil
 |_::ks=>.cons (.bl true) (d4.JB ks)
def KO{K ρ H}:∀{ks:@&Int} {vs:@&V},a9 K ρ H (ks.map λk=>.tup [.int k,.bl true]) vs->∃ts:@&Addr,vs=ts.map V.ref/\-ts=-ks/\∀(i:Nat) t k,ts[i]?=!t->ks[i]?=!k->gF K H t [.int k,.bl true]
 |[],_,h=>by cases h;simp
 |k::ks,_,h=>by
  cases h with
  |cons r rs =>
  let#[ts,rfl,hl,ht]:=KO rs;let#[a,vs,rfl,h1,h2]:=r.w9;show#[a::ts,rfl,by simp[hl],λi t k' e1 e2=>?_];cases i with
  |zero =>
   cases e1;cases e2;cases h2 with
   |cons r1 r2 =>
   cases r2 with
   |cons r2 r3 =>
   cases r3;cases r1;cases r2;show h1.sq
  |succ i=>show ht i t k' e1 e2
def Up(hc:X.calm=true):k9 X (.type "dict") (rN X.K .ko):=by
 intro pi s σ H xs us Q I r h;obtain⟨ds,g,ρ,R,rs,d',g',⟨a,kvs,rfl,ha,rfl,rfl⟩|⟨a,ks,rfl,ha,hz,nd,rfl,rfl⟩,q⟩:=h
 .let#[v,rfl,rv]:=rs.one;let#[a',rfl,ra]:=rv.i4;let#[vs,z1,rk]:=R.bX ha ra;cases r with
  |cons r rr =>
  cases rr;cases r;show Uo I (.inl z1) λp s' hp I'=>#[.ref p,_,I',rfl,?_]
  show q (ρ++[p]) _ _ (B8 hp) (R.new hp rk) (.ref (R.u9 p))
 .let#[v,rfl,rv]:=rs.one;let#[a',rfl,ra]:=rv.i4;let#[vs,z1,rk]:=R.items ha ra;let#[ts,rfl,hl,ht]:=KO rk;show at5 hc pi s σ H _ us Q I r #[a',ts,ks,rfl,z1,hl,ht,by omega,nd,λp hp=>?_];show q (ρ++[p]) _ _ (B8 hp) (R.new hp (d4.JB ks)) (.ref (R.u9 p))
def a9.strs{K ρ H}{ys:@&Str}(h:a9 K ρ H (ys.map D.str) vs):vs=ys.map V.str:=by
 induction ys generalizing vs with
 |nil=>cases h;rfl
 |cons y ys ih =>
  cases h with
  |cons q r=>cases q;rw[ih r];rfl
def bA2:kU X "str.join" (rM X.K .join):=by
 intro pi s σ H x xs v us Q I rx r h;let#[d,ds,g,ρ,R,rd,rs,d',g',#[sep,a,ys,ex,ha,hz,rfl,rfl],q]:=h;let#[rfl,rfl]:=V4 ex;obtain rfl:=rd.o6;let#[w,rfl,fH]:=rs.one;let#[a',rfl,ra]:=fH.i4;let#[vs,hq,rv]:=R.items ha ra;obtain rfl:=rv.strs;show Sh pi s σ H _ _ v us Q I rx r #[sep,a',ys,rfl,rfl,hq,i5 hz,q.now R (.str _)]
def a9.ofStrs{K ρ H}:∀ys:@&Str,a9 K ρ H (ys.map D.str) (ys.map V.str)
 |[]=>.nil
 |y::ys=>.cons (.str _) (a9.ofStrs ys)
def VE:kU X "str.split" (rM X.K .split):=by
 intro pi s σ H x xs v us Q I rx r h;let#[d,ds,g,ρ,R,rd,rs,d',g',#[a,b,ex,hb,ha,hz,rfl,rfl],q]:=h;let#[rfl,rfl]:=V4 ex;obtain rfl:=rd.o6;let#[w,rfl,fH]:=rs.one;obtain rfl:=fH.o6;show UP pi s σ H _ _ v us Q I rx r #[a,b,rfl,rfl,hb,i5 ha,i5 hz,λp hp=>?_];show q (ρ++[p]) _ _ (B8 hp) (R.new hp (o:=.lst ((Txt.split a b).map .str)) (u:=.lst ((Txt.split a b).map V.str)) (a9.ofStrs _)) (.ref (R.u9 p))
def ty_str(R:Rl X.K ρ g H)(r:c8 X.K ρ H d v)(h:∃y,d=.str y):oV X.K "str" v H:=by
 let#[y,rfl]:=h;obtain rfl:=r.o6;show rfl
def ty_list(R:Rl X.K ρ g H)(r:c8 X.K ρ H d v)(h:∃a l,d=.ref a/\c6 g a=!l):oV X.K "list" v H:=by
 let#[a,l,rfl,hl]:=h;let#[a',rfl,ra]:=r.i4;let#[vs,hq,_]:=R.items hl ra;show .inl #[rfl,vs,hq]
noncomputable abbrev gZ:=@&Str×XK
abbrev LX(K:PySem.W.Frag)(ρ:@&Addr)(H:Hp)(Ξ:gZ):KX:=λx g'=>∀bE H' C,Ext ρ H bE H'->Rl K bE g' H'->x.cls∈Ξ.1->m9 K x.cls C->Ξ.2 (.ref C) none H'
def LX.ext{K:PySem.W.Frag}{bJ:@&Addr}{H1:Hp}{Ξ:gZ}(e:Ext ρ H bJ H1){x:Xn}(h:LX K ρ H Ξ x g):LX K bJ H1 Ξ x g:=λbE H' C e' R hm c=>h bE H' C (e.trans e') R hm c
noncomputable abbrev oE(ex:@&Str):gZ:=(ex,λx x x=>False)
def LE(K:PySem.W.Frag)(Ξ:gZ)(t:S->G->KD->KX->Prop):TE:=λbI H Q=>∃σ g ρ,l9 K ρ H σ bI/\Rl K ρ g H/\t σ g (LQ K ρ H Q) (LX K ρ H Ξ)
def LT(K:PySem.W.Frag)(Ξ:gZ)(t:S->G->(Bool->G->Prop)->KX->Prop):TT:=λbI H Q=>∃σ g ρ,l9 K ρ H σ bI/\Rl K ρ g H/\t σ g (λb g'=>∀bE H',Ext ρ H bE H'->Rl K bE g' H'->Q b H') (LX K ρ H Ξ)
def LA(K:PySem.W.Frag)(Ξ:gZ)(t:S->G->(List D->G->Prop)->KX->Prop):TA:=λbI H Q=>∃σ g ρ,l9 K ρ H σ bI/\Rl K ρ g H/\t σ g (λds g'=>∀bE H' vs,Ext ρ H bE H'->Rl K bE g' H'->a9 K bE H' ds vs->Q vs H') (LX K ρ H Ξ)
def pY(K:PySem.W.Frag)(fS:@&Addr)(H0:Hp)(k:IK)(J:It):Prop:=∀ρ g H,Ext fS H0 ρ H->Rl K ρ g H->∀i,(k.at i g=!none->J.stop i H) /\
 ∀d,k.at i g=!!d->J.go i H/\∀v H',J.tW i H v H'->Ext ρ H ρ H'/\Rl K ρ g H'/\c8 K ρ H' d v
def LI(K:PySem.W.Frag)(Ξ:gZ)(t:S->G->(IK->G->Prop)->KX->Prop):TI:=λbI H R=>∃σ g ρ,l9 K ρ H σ bI/\Rl K ρ g H/\t σ g (λk g'=>∀bE H' J,Ext ρ H bE H'->Rl K bE g' H'->pY K bE H' k J->R J H') (LX K ρ H Ξ)
def LG(K:PySem.W.Frag)(t:MT):TG:=λv bI H Q=>∃d σ g ρ,l9 K ρ H σ bI/\Rl K ρ g H/\c8 K ρ H d v/\kX t d σ (λcu=>∀dJ,l9 K ρ H cu dJ->Q dJ H)
abbrev LN(K:PySem.W.Frag)(ρ:@&Addr)(H:Hp)(N:L2.Ends):Ends where
 nx:=λcu g'=>∀bE H' dJ,Ext ρ H bE H'->Rl K bE g' H'->l9 K bE H' cu dJ->N.nx dJ H'
 rt:=LQ K ρ H N.rt
 bk:=λcu g'=>∀bE H' dJ,Ext ρ H bE H'->Rl K bE g' H'->l9 K bE H' cu dJ->N.bk dJ H'
 ct:=λcu g'=>∀bE H' dJ,Ext ρ H bE H'->Rl K bE g' H'->l9 K bE H' cu dJ->N.ct dJ H'
def LS(K:PySem.W.Frag)(Ξ:gZ)(t:Ends->S->G->KX->Prop):TS:=λN bI H=>∃σ g ρ,l9 K ρ H σ bI/\Rl K ρ g H/\t (LN K ρ H N) σ g (LX K ρ H Ξ)
end M
namespace L2
open PySem PySem.Spec PyProof.Rows
variable{t t':TT}
section
variable{X:Cx}{e:Expr}
def PE.imp{t t':TE}(h:PE X e t)(i:∀σ H Q,t' σ H Q->t σ H Q):PE X e t':=λpi s σ H Q I q=>h pi s σ H Q I (i σ H Q q)
def PT.imp(h:PT X e t)(i:∀σ H Q,t' σ H Q->t σ H Q):PT X e t':=λpi s σ H Q I q=>h pi s σ H Q I (i σ H Q q)
def PW.imp(h:PW X e t)(i:∀σ H Q,t' σ H Q->t σ H Q):PW X e t':=λw pi s σ H Q I q=>h w pi s σ H Q I (i σ H Q q)
def PA.imp{es:@&Expr}{t t':TA}(h:PA X es t)(i:∀σ H Q,t' σ H Q->t σ H Q):PA X es t':=λp pi s σ H Q I q=>h p pi s σ H Q I (i σ H Q q)
def mq.imp{es:@&Expr}(h:mq X es t)(i:∀σ H Q,t' σ H Q->t σ H Q):mq X es t':=λpi s σ H Q I q=>h pi s σ H Q I (i σ H Q q)
def PI.imp{tg:Expr}{t t':TI}(h:PI X tg e t)(i:∀σ H Q,t' σ H Q->t σ H Q):PI X tg e t':=λpi s σ H Q I q=>h pi s σ H Q I (i σ H Q q)
def PG.imp{t t':TG}(h:PG X e t)(i:∀v σ H Q,t' v σ H Q->t v σ H Q):PG X e t':=λpi s σ H v u Q I r q=>h pi s σ H v u Q I r (i v σ H Q q)
def PS.imp{st:Stmt}{t t':TS}(h:PS X st t)(i:∀N σ H,t' N σ H->t N σ H):PS X st t':=λpi s σ H N I q=>h pi s σ H N I (i N σ H q)
def jv.imp{st:@&Stmt}{t t':TS}(h:jv X st t)(i:∀N σ H,t' N σ H->t N σ H):jv X st t':=λpi s σ H N I q=>h pi s σ H N I (i N σ H q)
end
end L2
namespace M
open PySem L2 PySem.Spec PyProof.Rows
variable{Ξ:gZ}{P:ff}{op iA:CmpOp}{rest es:@&Expr}{gR mo:ME}{p2 q apos jE:Pos}{x:Str}{o:Expr}
section
variable{K:PySem.W.Frag}(hP:i3 P){ρ fS:@&Addr}{H H0:Hp}{σ:S}{bI:L2.St}{g:G}{m:ME}
include hP
def fc{Q0:KD}{Q:VK}(s:l9 K ρ H σ bI)(R:Rl K ρ g H)(e0:Ext fS H0 ρ H)(h:aY P m σ g Q0 (LX K fS H0 Ξ))(k:∀x g1 bJ H1 v1,Ext ρ H bJ H1->Rl K bJ g1 H1->c8 K bJ H1 x v1->Q0 x g1->Q v1 H1):LE K Ξ (aY P m) bI H Q :=
 #[σ,g,ρ,s,R,b7 hP m _ _ _ _ _ _ (λx g1 h bJ H1 v1 e1 R1 r1=>k x g1 bJ H1 v1 e1 R1 r1 h) (λy y z=>LX.ext e0 z) h]
def jP{Q0:@&D->G->Prop}{Q:@&V->Hp->Prop}(s:l9 K ρ H σ bI)(R:Rl K ρ g H)(e0:Ext fS H0 ρ H)(h:fz P m σ g Q0 (LX K fS H0 Ξ))(k:∀x g1 bJ H1 v1,Ext ρ H bJ H1->Rl K bJ g1 H1->a9 K bJ H1 x v1->Q0 x g1->Q v1 H1):LA K Ξ (fz P m) bI H Q :=
 #[σ,g,ρ,s,R,A2 hP m _ _ _ _ _ _ (λx g1 h bJ H1 v1 e1 R1 r1=>k x g1 bJ H1 v1 e1 R1 r1 h) (λy y z=>LX.ext e0 z) h]
def rD{Q0:Bool->G->Prop}{Q:Bool->Hp->Prop}(s:l9 K ρ H σ bI)(R:Rl K ρ g H)(e0:Ext fS H0 ρ H)(h:dN P m σ g Q0 (LX K fS H0 Ξ))(k:∀t g1 bJ H1,Ext ρ H bJ H1->Rl K bJ g1 H1->Q0 t g1->Q t H1):LT K Ξ (dN P m) bI H Q :=
 #[σ,g,ρ,s,R,u3 hP m _ _ _ _ _ _ (λt g1 h bJ H1 e1 R1=>k t g1 bJ H1 e1 R1 h) (λx x z=>LX.ext e0 z) h]
def vP{ms:MS}{N:L2.Ends}{N0:Ends}(s:l9 K ρ H σ bI)(R:Rl K ρ g H)(e0:Ext fS H0 ρ H)(h:wpS P ms N0 σ g (LX K fS H0 Ξ))(k:N0.le (LN K ρ H N)):LS K Ξ (wpS P ms) N bI H :=
 #[σ,g,ρ,s,R,wpS_mono hP ms _ _ _ _ _ _ k (λx x z=>LX.ext e0 z) h]
end
def a9.mB{K ρ H}(lo:Int)(n:Nat):a9 K ρ H (l6 lo n) ((List.range n).map λ(k:Nat)=>V.int (lo+k)):=by
 have:∀l:@&Nat,a9 K ρ H (l.map λ(k:Nat)=>D.int (lo+k)) (l.map λ(k:Nat)=>V.int (lo+k)):=by
  intro l
  induction l with
  |nil=>show .nil
  |cons x r ih=>show .cons (.int _) ih
 show this _
section
variable{X:Cx}(hP:i3 P){a b c e:Expr}{ma mb mc:ME}{pos:Pos}{p:Pr}
include hP
def Gu(h:PE X e (tZ (r2 X.K p) (LE X.K Ξ (aY P ma)) (LE X.K Ξ (aY P mb)))):PE X e (LE X.K Ξ (aY P (.prim p (.cons ma (.cons mb .nil))))) :=
 h.imp λbI H Q bh=>by
  let#[σ,g,ρ,s,R,h]:=bh;show fc hP s R (.refl _ _) h λx g1 bJ H1 v1 e1 R1 r1 h=>fc hP (s.ext e1) R1 e1 h λy g2 fb H2 v2 e2 R2 r2 h =>
   #[x,y,g2,fb,R2,r1.ext e2,r2,p9 (λd g' h=>h.ext (e1.trans e2)) h]
def ZV(h:PT X e (FN (tZ (r2 X.K (.cmp op)) (LE X.K Ξ (aY P ma)) (LE X.K Ξ (aY P mb))))):PT X e (LT X.K Ξ (dN P (.dY (.prim (.cmp op) (.cons ma (.cons mb .nil)))))) :=
 h.imp λbI H Q bh=>by
  let#[σ,g,ρ,s,R,h]:=bh;show fc hP s R (.refl _ _) h λx g1 bJ H1 v1 e1 R1 r1 h=>fc hP (s.ext e1) R1 e1 h λy g2 fb H2 v2 e2 R2 r2 h=>?_;let#[d',g',h,q]:=h;let#[x',y',t,ex,hc,rfl,rfl]:=id h;show#[x,y,g',fb,R2,r1.ext e2,r2,_,_,h,λbE H' v e' R' r'=>?_];let#[t',ht,q]:=q;rcases ht with⟨z,_⟩|z|⟨i,z,_⟩|⟨l,z,_⟩|⟨a,l,z,_⟩<;>cases z
  show#[_,r'.N9,q bE H' (e1.trans (e2.trans e')) R']
def Js{op:UnaryOp}(ha:PE X a (LE X.K Ξ (aY P ma))):PE X (.UnaryOp op a pos) (LE X.K Ξ (aY P (.prim (.un op) (.cons ma .nil)))) :=
 (Xl (Xf op) ha).imp λbI H Q bh=>by
  let#[σ,g,ρ,s,R,h]:=bh;show fc hP s R (.refl _ _) h λx g1 bJ H1 v1 e1 R1 r1 h=>#[x,g1,bJ,R1,r1,p9 (λd g' h=>h.ext e1) h]
def MY:∀bI H Q,LE X.K Ξ (aY P (.chain op iA ma mb mc)) bI H Q->Gw (r2 X.K (.cmp op)) (r2 X.K (.cmp iA)) (LE X.K Ξ (aY P ma)) (LE X.K Ξ (aY P mb)) (LE X.K Ξ (aY P mc)) bI H Q:=λbI H Q bh=>by
 let#[σ,g,ρ,s,R,h]:=bh;show fc hP s R (.refl _ _) h λx g1 bJ H1 v1 e1 R1 r1 h=>fc hP (s.ext e1) R1 e1 h λy g2 fb H2 v2 e2 R2 r2 h=>?_;show#[x,y,g2,fb,R2,r1.ext e2,r2,p9 (λd g3 h jY H3 v3 e3 R3 r3=>?_) h];let#[t,rfl,h]:=h;obtain rfl:=r3.N9;show#[t,rfl,?_];cases t
 .exact h jY H3 _ (e1.trans (e2.trans e3)) R3 (.bl _)
 .exact fc hP (s.ext (e1.trans (e2.trans e3))) R3 (e1.trans (e2.trans e3)) h λz g4 lJ H4 v4 e4 R4 r4 h =>
   #[y,z,g4,lJ,R4,r2.ext (e3.trans e4),r4,p9 (λd g' h=>h.ext (e1.trans (e2.trans (e3.trans e4)))) h]
def Vr(hu:X.A.units+100<cLine)(ha:PE X a (LE X.K Ξ (aY P ma)))(hb:PE X b (LE X.K Ξ (aY P mb)))(hc:PE X c (LE X.K Ξ (aY P mc)))(hm:lastMarks [op,iA] [b,c]=false) :
  PE X (.Compare a [op,iA] [b,c] pos) (LE X.K Ξ (aY P (.chain op iA ma mb mc))):=(UY (vk hu op) (vk hu iA) ha hb hc hm).imp (MY hP)
def Ue{σ:S}{g:G}{Q:Bool->G->Prop}{E:KX}(h:dN P (.dY (.chain op iA ma mb mc)) σ g Q E):aY P (.chain op iA ma mb mc) σ g (λd g'=>∃t,d=.bl t/\Q t g') E:=by
 let one:∀{o:CmpOp} {xs:@&D} {g:G},cA (.cmp o) xs g (λd g1=>qV g1 d λb=>Q b g1)->cA (.cmp o) xs g λd g'=>∃t,d=.bl t/\Q t g':=by
  intro o xs g h;let#[d',g',h,t',ht,q]:=h;let#[x',y',t,ex,hc,rfl,rfl]:=id h;show#[_,_,h,t',?_,q];rcases ht with⟨z,_⟩|z|⟨i,z,_⟩|⟨l,z,_⟩|⟨a,l,z,_⟩<;>first|show z|cases z
 show b7 hP ma _ _ _ _ _ _ (λx g1 h=>b7 hP mb _ _ _ _ _ _ (λy g2 h=>p9 (λz g3 h=>?_) h) (λv v z=>z) h) (λv v z=>z) h;let#[t,rfl,h]:=h;show#[t,rfl,?_];cases t
 .let#[b,hb,q]:=(show qV g3 (.bl false) λb=>Q b g3 from h)
  rcases hb with⟨z,_⟩|z|⟨i,z,_⟩|⟨l,z,_⟩|⟨a,l,z,_⟩<;>first|(cases z;show#[_,rfl,q])|cases z
 .exact b7 hP mc _ _ _ _ _ _ (λw g4 h=>one h) (λv v z=>z) h
def VF(hu:X.A.units+100<cLine)(ha:PE X a (LE X.K Ξ (aY P ma)))(hb:PE X b (LE X.K Ξ (aY P mb)))(hc:PE X c (LE X.K Ξ (aY P mc)))(hm:lastMarks [op,iA] [b,c]=false) :
  PT X (.Compare a [op,iA] [b,c] pos) (LT X.K Ξ (dN P (.dY (.chain op iA ma mb mc)))) :=
 (Vk (vk hu op) (vk hu iA) ha hb hc hm).imp λbI H Q ⟨σ,g,ρ,s,R,h⟩ =>
  MY hP bI H _ (fc hP s R (.refl _ _) (Ue hP h) λx g1 bJ H1 v1 e1 R1 r1 h=>by
   let#[t,rfl,h]:=h;show #[t,r1.N9,h bJ H1 e1 R1])
def Zz(ha:PE X a (LE X.K Ξ (aY P ma)))(hb:PE X (.BoolOp .And (b::rest) pos) (LE X.K Ξ (aY P mb))):PE X (.BoolOp .And (a::b::rest) pos) (LE X.K Ξ (aY P (.eI ma mb))) :=
 (YY ha hb).imp λbI H Q bh=>by
  let#[σ,g,ρ,s,R,h]:=bh;show fc hP s R (.refl _ _) h λx g1 bJ H1 v1 e1 R1 r1 h=>?_;let#[t,rfl,h]:=h;show#[t,r1.N9,?_];cases t
  .exact h bJ H1 _ e1 R1 (.bl _)
  .exact fc hP (s.ext e1) R1 e1 h λy g2 fb H2 v2 e2 R2 r2 h=>h fb H2 v2 (e1.trans e2) R2 r2
def Xy(ha:PE X a (LE X.K Ξ (aY P ma)))(hb:PE X (.BoolOp .Or (b::rest) pos) (LE X.K Ξ (aY P mb))):PE X (.BoolOp .Or (a::b::rest) pos) (LE X.K Ξ (aY P (.hW ma mb))) :=
 (Xk ha hb).imp λbI H Q bh=>by
  let#[σ,g,ρ,s,R,h]:=bh;show fc hP s R (.refl _ _) h λx g1 bJ H1 v1 e1 R1 r1 h=>?_;let#[t,rfl,h]:=h;show#[t,r1.N9,?_];cases t
  .exact fc hP (s.ext e1) R1 e1 h λy g2 fb H2 v2 e2 R2 r2 h=>h fb H2 v2 (e1.trans e2) R2 r2
  .exact h bJ H1 _ e1 R1 (.bl _)
def ZG(ha:PE X a (LE X.K Ξ (aY P ma))):PE X (.UnaryOp .Not a pos) (LE X.K Ξ (aY P (.cK ma))) :=
 (Ze ha).imp λbI H Q bh=>by
  let#[σ,g,ρ,s,R,h]:=bh;show fc hP s R (.refl _ _) h λx g1 bJ H1 v1 e1 R1 r1 h=>?_;let#[t,rfl,h]:=h;show#[t,r1.N9,h bJ H1 _ e1 R1 (.bl _)]
def ZF(hc:PT X c (LT X.K Ξ (dN P mc)))(ha:PE X a (LE X.K Ξ (aY P ma)))(hb:PE X b (LE X.K Ξ (aY P mb))):PE X (.IfExp c a b pos) (LE X.K Ξ (aY P (.ite mc ma mb))) :=
 (Va hc ha hb).imp λbI H Q bh=>by
  let#[σ,g,ρ,s,R,h]:=bh;show rD hP s R (.refl _ _) h λt g1 bJ H1 e1 R1 h=>?_;cases t
  .exact fc hP (s.ext e1) R1 e1 h λy g2 fb H2 v2 e2 R2 r2 h=>h fb H2 v2 (e1.trans e2) R2 r2
  .exact fc hP (s.ext e1) R1 e1 h λy g2 fb H2 v2 e2 R2 r2 h=>h fb H2 v2 (e1.trans e2) R2 r2
def ZJ{k:Nat}(h:PA X es (LA X.K Ξ (fz P gR))):PE X (.Tuple es k pos) (LE X.K Ξ (aY P (.prim .tup gR))) :=
 (Zh h).imp λbI H Q bh=>by
  let#[σ,g,ρ,s,R,h]:=bh;show jP hP s R (.refl _ _) h λds g1 bJ H1 vs e1 R1 r1 h=>?_;let#[d',g',#[hz,rfl,rfl],q]:=h;show#[by rw[<- -r1];show i5 (aH hz ∅),λp hp=>(q.ext e1).tup R1 hp r1]
def Oi(h:PA X es (LA X.K Ξ (fz P gR))):PE X (.List es pos) (LE X.K Ξ (aY P (.prim .lst gR))) :=
 (Zb h).imp λbI H Q bh=>by
  let#[σ,g,ρ,s,R,h]:=bh;show jP hP s R (.refl _ _) h λds g1 bJ H1 vs e1 R1 r1 h=>?_;let#[d',g',#[hz,rfl,rfl],q]:=h;show#[by rw[<- -r1];show i5 (aH hz ∅),λp hp=>(q.ext e1).new R1 hp r1]
def L0:PA X [] (LA X.K Ξ (fz P .nil)) :=
 (Q5).imp λbI H Q bh=>by
  let#[σ,g,ρ,s,R,h]:=bh;show h ρ H [] (.refl _ _) R .nil
def B3(ha:PE X a (LE X.K Ξ (aY P ma)))(h:PA X es (LA X.K Ξ (fz P gR)))(hs:starEach (a::es) X.env=(false,eval a X.env)::starEach es X.env):PA X (a::es) (LA X.K Ξ (fz P (.cons ma gR))) :=
 (K5 ha h hs).imp λbI H Q bh=>by
  let#[σ,g,ρ,s,R,h]:=bh;show fc hP s R (.refl _ _) h λx g1 bJ H1 v1 e1 R1 r1 h=>jP hP (s.ext e1) R1 e1 h λxs g2 fb H2 vs e2 R2 r2 h=>h fb H2 _ (e1.trans e2) R2 (.cons (r1.ext e2) r2)
def VA(ha:PE X a (LE X.K Ξ (aY P ma)))(hb:PE X b (LE X.K Ξ (aY P mb))):PE X (.Subscript a (.Slice (!b) none none p2) pos) (LE X.K Ξ (aY P (.prim (.mZ true false) (.cons ma (.cons mb .nil))))) :=
 (Nu Jv ha (My hb) Mx).imp λbI H Q bh=>by
  let#[σ,g,ρ,s,R,h]:=bh;show fc hP s R (.refl _ _) h λx g1 bJ H1 v1 e1 R1 r1 h=>fc hP (s.ext e1) R1 e1 h λy g2 fb H2 v2 e2 R2 r2 h=>?_;let#[d',g',#[x',i,ex,h],q]:=h;cases ex;show#[i,r2.i0,x,g2,fb,d',g',R2,r1.ext e2,h,q.ext (e1.trans e2)]
def Vz(ha:PE X a (LE X.K Ξ (aY P ma)))(hb:PE X b (LE X.K Ξ (aY P mb))):PE X (.Subscript a (.Slice none (!b) none p2) pos) (LE X.K Ξ (aY P (.prim (.mZ false true) (.cons ma (.cons mb .nil))))) :=
 (Nu Jv ha Mx (My hb)).imp λbI H Q bh=>by
  let#[σ,g,ρ,s,R,h]:=bh;show fc hP s R (.refl _ _) h λx g1 bJ H1 v1 e1 R1 r1 h=>fc hP (s.ext e1) R1 e1 h λy g2 fb H2 v2 e2 R2 r2 h=>?_;let#[d',g',#[x',i,ex,h],q]:=h;cases ex;show#[i,r2.i0,x,g2,fb,d',g',R2,r1.ext e2,h,q.ext (e1.trans e2)]
def ZW(ha:PE X a (LE X.K Ξ (aY P ma)))(he:∀whole,isTrue a X.env whole=(do let v <- whole;standAt a.pos;holding [v] (truthy v))):PT X a (LT X.K Ξ (dN P (.dY ma))) :=
 (Vl ha he).imp λbI H Q bh=>by
  let#[σ,g,ρ,s,R,h]:=bh;show fc hP s R (.refl _ _) h λx g1 bJ H1 v1 e1 R1 r1 h=>?_;let#[b,h1,h2]:=h;show#[b,bD7 R1 r1 h1,h2 bJ H1 e1 R1]
def ZU(ha:PT X a (LT X.K Ξ (dN P ma))):PT X (.UnaryOp .Not a pos) (LT X.K Ξ (dN P (.cK ma))) :=
 (Zs ha).imp λbI H Q bh=>by
  let#[σ,g,ρ,s,R,h]:=bh;show rD hP s R (.refl _ _) h λt g1 bJ H1 e1 R1 h=>h bJ H1 e1 R1
def ZY(ha:PT X a (LT X.K Ξ (dN P ma)))(hb:PW X (.BoolOp .And (b::rest) pos) (LT X.K Ξ (dN P mb))):PW X (.BoolOp .And (a::b::rest) pos) (LT X.K Ξ (dN P (.eI ma mb))) :=
 (Zt ha hb).imp λbI H Q bh=>by
  let#[σ,g,ρ,s,R,h]:=bh;show rD hP s R (.refl _ _) h λt g1 bJ H1 e1 R1 h=>?_;cases t
  .exact h bJ H1 e1 R1
  .exact rD hP (s.ext e1) R1 e1 h λt g2 fb H2 e2 R2 h=>h fb H2 (e1.trans e2) R2
def XC(ha:PT X a (LT X.K Ξ (dN P ma)))(hb:PW X (.BoolOp .Or (b::rest) pos) (LT X.K Ξ (dN P mb))):PW X (.BoolOp .Or (a::b::rest) pos) (LT X.K Ξ (dN P (.hW ma mb))) :=
 (Xp ha hb).imp λbI H Q bh=>by
  let#[σ,g,ρ,s,R,h]:=bh;show rD hP s R (.refl _ _) h λt g1 bJ H1 e1 R1 h=>?_;cases t
  .exact rD hP (s.ext e1) R1 e1 h λt g2 fb H2 e2 R2 h=>h fb H2 (e1.trans e2) R2
  .exact h bJ H1 e1 R1
def Ts:mq X [] (LT X.K Ξ (dN P .no)) :=
 (SO).imp λbI H Q bh=>by
  let#[σ,g,ρ,s,R,h]:=bh;show h ρ H (.refl _ _) R
def ZA{v:Value}(hv:(∃id,v=.builtin id)\/∃T,v=.type T)(hc:k9 X v (rN X.K p))(hg:Gl X x)(hm:X.mg x=none)(hb:bootBuiltins x=!v)(ha:PA X (e::es) (LA X.K Ξ (fz P gR)))(hn:x≠"__name__")(hd:(x==("__debug__":Str))=false)(eZ:starEach (e::es) X.env=(false,eval e X.env)::starEach es X.env)(gE:(backTo pos (starEach es X.env)).any (·.1)=false):PE X (.Call (.Name x q) (e::es) [] pos) (LE X.K Ξ (aY P (.prim p gR))):=by
 let base:PE X (.Call (.Name x q) (e::es) [] pos) (BG (rN X.K p) (LA X.K Ξ (fz P gR))):=by
  rcases hv with⟨id,rfl⟩|⟨T,rfl⟩
  .exact AN hc hg hm hb ha hn hd eZ gE
  .exact E7 hc hg hm hb ha hn hd eZ gE
 show base.imp λbI H Q bh=>?_;let#[σ,g,ρ,s,R,h]:=bh;show jP hP s R (.refl _ _) h λxs g1 bJ H1 vs e1 R1 r1 h=>#[xs,g1,bJ,R1,r1,p9 (λd g' h=>h.ext e1) h]
def Tf{T:String}{name:Str}{id:String}(pa:PlainAttrs T)(slot:Slot T name id)(sv:typeOf (.builtin id)=pure (.type "method_descriptor"))(hm:kU X id (rM X.K p))(hk:∀{d:D} {v:V} {g:G} {ρ:@&Addr} {H:Hp},Rl X.K ρ g H->c8 X.K ρ H d v->mF p d g->oV X.K T v H)(ho:PE X o (LE X.K Ξ (aY P mo)))(ha:PA X (e::es) (LA X.K Ξ (fz P gR)))(fW:attributeBase o name X.env (eval o X.env)=eval o X.env)(kR:((backTo pos (starEach (e::es) X.env)).all (λx=>~~~x.1)&&(backToKw pos (keywordEach [] X.env)).all (λx=>x.1.isSome)&&decide ((e::es).length+([]:@&Keyword).length+(if([]:@&Keyword).isEmpty then 0 else 1)<30))=true)(fV:(apos.endLine==pos.line)=true)(hs:starEach (e::es) X.env=(false,eval e X.env)::starEach es X.env)(eU:(backTo pos (starEach es X.env)).any (·.1)=false) :
  PE X (.Call (.Attribute o name apos) (e::es) [] pos) (LE X.K Ξ (aY P (.dk p mo gR))) :=
 (Xi pa slot sv hm ho ha fW kR fV hs eU).imp λbI H Q bh=>by
  let#[σ,g,ρ,s,R,h]:=bh;show fc hP s R (.refl _ _) h λx g1 bJ H1 v1 e1 R1 r1 h=>#[hk R1 r1 h.1,jP hP (s.ext e1) R1 e1 h.2 λxs g2 fb H2 ws e2 R2 r2 h =>
   #[x,xs,g2,fb,R2,r1.ext e2,r2,p9 (λd g' h=>h.ext (e1.trans e2)) h]]
def Vx{T:String}{name:Str}{id:String}(pa:PlainAttrs T)(slot:Slot T name id)(sv:typeOf (.builtin id)=pure (.type "method_descriptor"))(hm:kU X id (rM X.K p))(hk:∀{d:D} {v:V} {g:G} {ρ:@&Addr} {H:Hp},Rl X.K ρ g H->c8 X.K ρ H d v->mF p d g->oV X.K T v H)(ho:PE X o (LE X.K Ξ (aY P mo)))(fW:attributeBase o name X.env (eval o X.env)=eval o X.env)(fV:(apos.endLine==pos.line)=true) :
  PE X (.Call (.Attribute o name apos) [] [] pos) (LE X.K Ξ (aY P (.dk p mo .nil))) :=
 (YZ pa slot sv hm ho fW fV).imp λbI H Q bh=>by
  let#[σ,g,ρ,s,R,h]:=bh;show fc hP s R (.refl _ _) h λx g1 bJ H1 v1 e1 R1 r1 h=>#[hk R1 r1 h.1,x,[],g1,bJ,R1,r1,.nil,p9 (λd g' h=>h.ext e1) h.2]
omit hP in
def Ng{K ρ H}{d:D}{v:V}(r:c8 K ρ H d v)(h:uU d=true):v=toV d/\N8 v=true:=by
 cases r with
 |aR=>show#[rfl,rfl]
 |bl _=>show#[rfl,rfl]
 |int _=>show#[rfl,rfl]
 |str _=>show#[rfl,rfl]
 |ty _=>show absurd h bu
 |ref _=>show absurd h bu
 |tup _ _=>show absurd h bu
omit hP in
def a93{K ρ H}{l:@&D}{vs:@&V}(r:a9 K ρ H l vs)(h:l.all uU=true):vs=l.map toV/\vs.all N8=true:=by
 induction l generalizing vs with
 |nil=>cases r;show#[rfl,rfl]
 |cons d l ih =>
  cases r with
  |cons rd rs =>
   rw[jM,bx] at h;let#[e1,f1]:=Ng rd h.1;let#[e2,f2]:=ih rs h.2;subst e1 e2;show#[rfl,by rw[jM,f1,f2];rfl]
omit hP in
def Kv{K ρ H}{l:@&D}{vs:@&V}{y:D}{w:V}{n:Nat}(r:a9 K ρ H l vs)(ry:c8 K ρ H y w)(h:R0 l y n):As vs w n:=by
 let#[h1,h2,#[z,h3,h4],h5]:=h;let#[e1,f1]:=a93 r h1;let#[e2,f2]:=Ng ry h2;subst e1 e2;show#[f1,f2,#[toV z,by rw[aD,h3];rfl,h4],λm z' hm hz=>?_];rw[aD,ae] at hz;let#[OW,hz,rfl]:=hz;show h5 m OW hm hz
def Vt(hu:X.A.units+100<cLine)(ho:PE X o (LE X.K Ξ (aY P mo)))(ha:PA X (e::es) (LA X.K Ξ (fz P gR)))(fW:attributeBase o "index" X.env (eval o X.env)=eval o X.env)(kR:((backTo pos (starEach (e::es) X.env)).all (λx=>~~~x.1)&&(backToKw pos (keywordEach [] X.env)).all (λx=>x.1.isSome)&&decide ((e::es).length+([]:@&Keyword).length+(if([]:@&Keyword).isEmpty then 0 else 1)<30))=true)(fV:(apos.endLine==pos.line)=true)(hs:starEach (e::es) X.env=(false,eval e X.env)::starEach es X.env)(eU:(backTo pos (starEach es X.env)).any (·.1)=false) :
  PE X (.Call (.Attribute o "index" apos) (e::es) [] pos) (LE X.K Ξ (aY P (.dk .index mo gR))) :=
 (Vb hu ho ha fW kR fV hs eU).imp λbI H Q bh=>by
  let#[σ,g,ρ,s,R,h]:=bh;show fc hP s R (.refl _ _) h λx g1 bJ H1 v1 e1 R1 r1 h=>?_;let#[hk,h]:=h;rcases hk with⟨l,rfl⟩|⟨a,l,rfl,hl⟩
  .let#[a',vs,rfl,ta,rs]:=r1.w9;show .inr #[a',vs,rfl,ta.d,jP hP (s.ext e1) R1 e1 h λxs g2 fb H2 ws e2 R2 r2 h=>?_];let#[d',g',#[x,y,l',n,ex,hi,W,hz,rfl,rfl],q]:=h;cases ex;cases hi;let#[w,rfl,fH]:=r2.one;show#[a',vs,w,n,rfl,rfl,(ta.ext e2).sq,Kv (rs.ext e2) fH W,(q.ext (e1.trans e2)).now R2 (.int n)]
  .let#[a',rfl,ra]:=r1.i4;let#[vs,hq,_]:=R1.items hl ra;show .inl #[a',vs,rfl,hq,jP hP (s.ext e1) R1 e1 h λxs g2 fb H2 ws e2 R2 r2 h=>?_];let#[d',g',#[x,y,l',n,ex,hi,W,hz,rfl,rfl],q]:=h;cases ex;let#[w,rfl,fH]:=r2.one;let#[oU,Qt,lQ]:=R2.items (show c6 _ a=some l' from hi) (e2.get ra);let hn:n<2 ^ 62:=by
     let#[_,_,#[z,zD,_],_]:=W;have:=(ax.mp zD).1;omega
   show#[a',oU,w,n,rfl,rfl,Qt,Kv lQ fH W,hn,(q.ext (e1.trans e2)).now R2 (.int n)]
def Vu(hc:X.calm=true)(ha:PE X a (LE X.K Ξ (aY P ma)))(nE:Gl X "list")(pB:X.mg "list"=none)(hg:Gl X "range")(hm:X.mg "range"=none)(hs:starEach [a] X.env=[(false,eval a X.env)]) :
  PE X (.Call (.Name "list" p2) [.Call (.Name "range" q) [a] [] pos] [] jE) (LE X.K Ξ (aY P (.prim .ke (.cons ma .nil)))) :=
 (E7 (LK hc) nE pB (by rfl) (K5 (a44 hg hm (B3 hP ha (L0 hP) (by rw[hs];rfl)) hs) Q5)).imp λbI H Q bh=>by
  let#[σ,g,ρ,s,R,h]:=bh;show jP hP s R (.refl _ _) h λxs g1 bJ H1 vs e1 R1 r1 h=>?_;let#[d',g',#[j,rfl,h1,h2,rfl,rfl],q]:=h;let#[v,rfl,rv]:=r1.one;obtain rfl:=rv.i0;show#[j,rfl,λq' hq=>#[q',0,j,rfl,k7,#[by omega,by omega,h1,by omega,by omega],λp hp=>?_]];rw[show(j-0).toNat=j.toNat by omega];show(q.ext (e1.trans (o8 hq))).new (R1.grow hq) hp (a9.mB 0 _)
def Vv(hc:X.calm=true)(ha:PE X a (LE X.K Ξ (aY P ma)))(hb:PE X b (LE X.K Ξ (aY P mb)))(nE:Gl X "list")(pB:X.mg "list"=none)(hg:Gl X "range")(hm:X.mg "range"=none)(hs:starEach [a,b] X.env=[(false,eval a X.env),(false,eval b X.env)])(iZ:starEach [b] X.env=[(false,eval b X.env)]) :
  PE X (.Call (.Name "list" p2) [.Call (.Name "range" q) [a,b] [] pos] [] jE) (LE X.K Ξ (aY P (.prim .kd (.cons ma (.cons mb .nil))))) :=
 (E7 (LK hc) nE pB (by rfl) (K5 (a43 hg hm (B3 hP ha (B3 hP hb (L0 hP) (by rw[iZ];rfl)) (by rw[hs,iZ])) hs iZ) Q5)).imp λbI H Q bh=>by
  let#[σ,g,ρ,s,R,h]:=bh;show jP hP s R (.refl _ _) h λxs g1 bJ H1 vs e1 R1 r1 h=>?_;let#[d',g',#[i,j,rfl,hb,rfl,rfl],q]:=h;let#[v,w,rfl,rv,fH]:=r1.two;obtain rfl:=rv.i0;obtain rfl:=fH.i0;show#[i,j,rfl,λq' hq=>#[q',i,j,rfl,k7,hb,λp hp=>(q.ext (e1.trans (o8 hq))).new (R1.grow hq) hp (a9.mB i _)]]
def Tg(hc:X.calm=true)(ha:PE X a (LE X.K Ξ (aY P ma)))(nE:Gl X "sorted")(pB:X.mg "sorted"=none)(hg:Gl X "set")(hm:X.mg "set"=none)(hs:starEach [a] X.env=[(false,eval a X.env)]) :
  PE X (.Call (.Name "sorted" p2) [.Call (.Name "set" q) [a] [] pos] [] jE) (LE X.K Ξ (aY P (.prim .sset (.cons ma .nil)))) :=
 (AN (X8 hc) nE pB (by rfl) (K5 (E7 (LC hc) hg hm (by rfl) (B3 hP ha (L0 hP) (by rw[hs];rfl)) ∅ ∅ (by rw[hs];rfl) rfl) Q5)).imp λbI H Q bh=>by
  let#[σ,g,ρ,s,R,h]:=bh;show jP hP s R (.refl _ _) h λxs g1 bJ H1 vs e1 R1 r1 h=>?_;let#[d',g',#[i,ns,rfl,hl,hz,rfl,rfl],q]:=h;let#[v,rfl,rv]:=r1.one;let#[a',rfl,ra]:=rv.i4;let#[ws,hq,rs]:=R1.items hl ra;obtain rfl:=rs.ints;show#[_,ns,rfl,hq,hz,λq' nB=>#[q',ns,rfl,k7,hz,λp hp=>?_]];show(q.ext (e1.trans (o8 nB))).new (R1.grow nB) hp (a9.ofInts _)
def Td(hc:X.calm=true)(ha:PE X a (LE X.K Ξ (aY P ma)))(nE:Gl X "len")(pB:X.mg "len"=none)(hg:Gl X "set")(hm:X.mg "set"=none)(hs:starEach [a] X.env=[(false,eval a X.env)]) :
  PE X (.Call (.Name "len" p2) [.Call (.Name "set" q) [a] [] pos] [] jE) (LE X.K Ξ (aY P (.prim .tj (.cons ma .nil)))) :=
 (AN aA7 nE pB PySem.boot_len (K5 (E7 (LC hc) hg hm (by rfl) (B3 hP ha (L0 hP) (by rw[hs];rfl)) ∅ ∅ (by rw[hs];rfl) rfl) Q5)).imp λbI H Q bh=>by
  let#[σ,g,ρ,s,R,h]:=bh;show jP hP s R (.refl _ _) h λxs g1 bJ H1 vs e1 R1 r1 h=>?_;let#[d',g',#[i,ns,rfl,hl,hz,rfl,rfl],q]:=h;let#[v,rfl,rv]:=r1.one;let#[a',rfl,ra]:=rv.i4;let#[ws,hq,rs]:=R1.items hl ra;obtain rfl:=rs.ints;show#[_,ns,rfl,hq,by omega,λq' nB=>#[q',_,rfl,k7,?_]];show(q.ext (e1.trans (o8 nB))).now (R1.grow nB) (.int _)
def ZD{f:Str}(ha:PE X a (LE X.K Ξ (aY P ma)))(hb:attributeBase a f X.env (eval a X.env)=eval a X.env):PE X (.Attribute a f pos) (LE X.K Ξ (aY P (.prim (.fld f) (.cons ma .nil)))) :=
 (Y' ha hb).imp λbI H Q bh=>by
  let#[σ,g,ρ,s,R,h]:=bh;show fc hP s R (.refl _ _) h λx g1 bJ H1 v1 e1 R1 r1 h=>?_;let#[d',g',#[i,c,fs,ex,hi,hf,rfl],q]:=h;cases ex;let#[a',rfl,ra]:=r1.i4;let#[C,dx,vs,hH,_,hC,rk,na]:=R1.ins hi ra;let lk:=rk.look f;rw[hf] at lk;let#[v,hv,rv]:=lk.some;show#[a',C,dx,vs,v,rfl,hH,hC,na _ (aL hf),hv,q bJ H1 v e1 R1 rv]
def ZI{i j:Nat}{y:Str}{q1 q2 p1 p3 p4 px py:Pos}(hc:X.calm=true)(hi:X.N[i]?=!x)(hj:X.N[j]?=!y)(vx:tM X.env.scope x)(vy:tM X.env.scope y)(dx:(x==("__debug__":Str))=false)(cx:(x==("__classdict__":Str))=false)(dy:(y==("__debug__":Str))=false)(cy:(y==("__classdict__":Str))=false)(nE:Gl X "sorted")(pB:X.mg "sorted"=none)(hg:Gl X "set")(hm:X.mg "set"=none) :
  PE X (.Call (.Name "sorted" p2) [.BinOp (.Call (.Name "set" q1) [.Name x px] [] p1) .BitOr (.Call (.Name "set" q2) [.Name y py] [] p3) p4] [] jE) (LE X.K Ξ (aY P (.prim .vS (.cons (.var i) (.cons (.var j) .nil))))) :=
 (AN (X8 hc) nE pB (by rfl) (K5 (Jn a48 (E7 (LD hc) hg hm (by rfl) (K5 (Gq hi vx dx cx) Q5)) (E7 (LD hc) hg hm (by rfl) (K5 (Gq hj vy dy cy) Q5))) Q5)).imp λbI H Q bh=>by
  let#[σ,g,ρ,s,R,h]:=bh;let#[d1,e1,d2,e2,d',g',#[ns,ms,ex,qx,lx,hl,rfl,rfl],q]:=h;cases ex;let#[v1,s1,r1]:=s.val _ _ e1;let#[v2,s2,r2]:=s.val _ _ e2;let#[a1,zq,rfl,t1,ng]:=r1.w9;obtain rfl:=ng.ints;show#[.ref a1,s1,a1,ns,rfl,t1.sq,by omega,λp1 Cf=>?_];let#[a2,oU,BJ,t2,lQ]:=(r2.ext (o8 Cf)).w9;obtain rfl:=lQ.ints;show#[.ref a2,by rw[<- BJ];show s2,a2,ms,rfl,t2.sq,by omega,λp2 pz=>?_];let fN:=j3 (k7) pz;show#[p1,p2,ns,ms,rfl,rfl,fN,by rw[d8 fN];show k7,k7,qx,lx,hl,λp3 Hz=>#[p3,ns++ms,rfl,k7,by rw[bg];omega,λp hp=>?_]];show(q.ext (((o8 Cf).trans (o8 pz)).trans (o8 Hz))).new (((R.grow Cf).grow pz).grow Hz) hp (a9.ofInts _)
end
section
variable{X:Cx}{pos:Pos}
def ZK{i:Nat}(hN:X.N[i]?=!x)(hv:tM X.env.scope x)(hd:(x==("__debug__":Str))=false)(lY:(x==("__classdict__":Str))=false):PE X (.Name x pos) (LE X.K Ξ (aY P (.var i))) :=
 (Gq hN hv hd lY).imp λbI H Q bh=>by
  let#[σ,g,ρ,s,R,h]:=bh;let#[d,e,h]:=h;let#[v,h1,h2]:=s.val _ _ e;show#[v,h1,h.now R h2]
def U7{e:Expr}{d:D}{v:V}(h:PE X e (tC v))(r:∀ρ H,c8 X.K ρ H d v):PE X e (LE X.K Ξ (aY P (.lit d))) :=
 h.imp λbI H Q bh=>by
  let#[σ,g,ρ,s,R,h]:=bh;show LQ.now h R (r ρ H)
def Ta:PE X (.Dict [] [] pos) (LE X.K Ξ (aY P (.prim .mm .nil))) :=
 (UZ).imp λbI H Q ⟨σ,g,ρ,s,R,h⟩ p hp=>by
  let#[d',g',#[_,rfl,rfl],q]:=h;show q (ρ++[p]) _ _ (B8 hp) (R.new hp d4.nil) (.ref (R.u9 p))
end
end M
namespace L2
open PySem PySem.Spec PyProof.Rows
section
variable{X:Cx}{m:Str}{pos apos:Pos}{e o:Expr}{es:@&Expr}{ta:TE}{t:TA}
def bE3(X:Cx)(m:Str)(E:XK)(ta:TE)(t:TA):TE:=λσ H Q=>ta σ H λx H1=>∃a C dx fs f fd ps k sp,x=.ref a/\H1 a=!.ins C dx fs/\fs.lookup m=none/\jd X.K C/\Meth X.K C m f /\
 gN X.prog X.w X.K X.mg X.base (gT X.prog X.w) k f fd ps sp/\q9 k X.A/\Binds X.K fd ps []/\t σ H1 λvs H2=>sp (x::(vs++[])) H2 Q E
def Vd{pl:Sem Bool}{E:XK}(he:PE X o ta)(hx:Passes (gT X.prog X.w) X E)(ha:PA X (e::es) t)(eZ:starEach (e::es) X.env=(false,eval e X.env)::starEach es X.env)(gE:(backTo pos (starEach es X.env)).any (·.1)=false)(ht:eval (.Call (.Attribute o m apos) (e :: es) [] pos) X.env=(do
   let ov <- eval o X.env
   standAt apos.atName
   let (f,first) <- holding [ov] (getMethod ov m pl)
   callWith pos f first (backTo pos (starEach (e :: es) X.env)) (backToKw pos (keywordEach [] X.env)))) :
  PE X (.Call (.Attribute o m apos) (e::es) [] pos) (bE3 X m E ta t):=by
 intro pi s σ H Q I h;show zf (cB (he pi s σ H _ I h) λu s1 bh=>?_) ht;let#[x,H1,I1,rx,a,C,dx,fs,f,fd,ps,k,sp,ex,ea,l,c,hm,F,hr,hb,q]:=bh;subst ex;obtain rfl:u=Value.ref a:=rx;show Le I1 ea c hm l ?_;show jT I.ok.mod.nz hm.kp (cB (ha pos pi s1 σ H1 _ I1 q) ?_) eZ gE;rintro us s2 ⟨vs,H2,I2,r,q2⟩;show #[I2.fZ,?_];show An (vs:=.ref a::vs) F hr hb .nil hx I2 (.cons rfl r) q2
def Tz(X:Cx)(m:Str)(E:XK)(ta:TE):TE:=λσ H Q=>ta σ H λx H1=>∃a C dx fs f fd ps k sp,x=.ref a/\H1 a=!.ins C dx fs/\fs.lookup m=none/\jd X.K C/\Meth X.K C m f /\
 gN X.prog X.w X.K X.mg X.base (gT X.prog X.w) k f fd ps sp/\q9 k X.A/\Binds X.K fd ps []/\sp [x] H1 Q E
def a45{pl:Sem Bool}{E:XK}(he:PE X o ta)(hx:Passes (gT X.prog X.w) X E)(ht:eval (.Call (.Attribute o m apos) [] [] pos) X.env=(do
   let ov <- eval o X.env
   standAt apos.atName
   let (f,first) <- holding [ov] (getMethod ov m pl)
   callWith pos f first (backTo pos (starEach [] X.env)) (backToKw pos (keywordEach [] X.env)))) :
  PE X (.Call (.Attribute o m apos) [] [] pos) (Tz X m E ta):=by
 intro pi s σ H Q I h;show zf (cB (he pi s σ H _ I h) λu s1 bh=>?_) ht;let#[x,H1,I1,rx,a,C,dx,fs,f,fd,ps,k,sp,ex,ea,l,c,hm,F,hr,hb,q]:=bh;subst ex;obtain rfl:u=Value.ref a:=rx;show Le I1 ea c hm l ?_;show jy I1.fZ hm.kp (An (us:=[.ref a]) (vs:=[.ref a]) F hr hb .nil hx I1 (.cons rfl .nil) q)
end
end L2
namespace M
open PySem L2 PySem.Spec PyProof.Rows
variable{K:PySem.W.Frag}{H H0:Hp}{neg:Bool}{a fa C:Addr}{x:Str}{p:Pos}{kvs xs:@&D}{k f:Nat}{fd:FuncData}{ps:@&Str}{fS:@&Addr}{vs:@&V}{es:@&Expr}{e:Expr}{gR:ME}
inductive qR(K:PySem.W.Frag):@&D->@&(Str×V)->Prop
 |nil:qR K [] []
 |cons {x:Str} {d:D} {v:V} {ds:@&D} {vs:@&(Str×V)} (h:∀ρ H,c8 K ρ H d v) (r:qR K ds vs):qR K (.tup [.str x,d]::ds) ((x,v)::vs)
set_option tactic.hygienic true in
def qR.look{ρ:@&Addr}{ds vs}(x:Str)(h:qR K ds vs):tF K ρ H (X4 ds x) (vs.lookup x):=by
 induction h with
 |nil=>trivial
 |cons h r ih =>
  rename_i y d v ds vs;unfold X4;rw[dF];by_cases e:x=y
  .rw[aw e,show(x==y)=true from by simp[e]];show h ρ H
  .rw[az e,show(x==y)=false from by simpa using e];show ih
def Ba(X:Cx)(x:Str)(kvs:@&D):Prop:=∃A vs,X.mg x=!.ref A/\yp X.K X.w.params A vs/\qR X.K kvs vs
abbrev Bg(neg:Bool):Pr:=if neg then .nK else .Ii
def Mg:PR (Bg neg)=DX neg:=by cases neg<;>rfl
def a17(a b c:Str):a++b++c=a++(b++c):=by
 show ij Str.mk (OU ..)
def Tr(x:Str):x++Str.empty=x:=by cases x;change Str.mk _=_;simp[Str.empty]
def Sk(x:Str):Str.empty++x=x:=by cases x;change Str.mk _=_;simp[Str.empty]
section
variable{X:Cx}{Ξ:gZ}{P:ff}(hP:i3 P){a c:Expr}{ma:ME}{pos:Pos}
include hP
def ZE(hg:Gl X x)(hd:(x==("__debug__":Str))=false)(hG:Ba X x kvs)(ha:PE X a (LE X.K Ξ (aY P ma)))(hm:behindInMarks (if neg then .NotIn else .In) (.Name x p)=false) :
  PE X (.Compare a [if neg then .NotIn else .In] [.Name x p] pos) (LE X.K Ξ (aY P (.prim (Bg neg) (.cons (.lit (.tup kvs)) (.cons ma .nil))))):=by
 let#[A,vs,hmg,hk,gr]:=hG;show(Mu (Od (kvs:=vs) neg) ha (AE (v:=.ref A) hg hmg rfl hd) hm).imp λbI H Q bh=>?_;let#[σ,g,ρ,s,R,h]:=bh;show fc hP s R (.refl _ _) h λd g1 bJ H1 v1 e1 R1 r1 h=>?_;let#[d',g',h,q]:=h;rw[Mg] at h;let#[wD,z,ex,rfl,rfl]:=h;cases ex;obtain rfl:=r1.o6;show#[A,z,rfl,hk,rfl,?_];rw[<- (gr.look (ρ:=bJ) (H:=H1) z).isSome];show q bJ H1 _ e1 R1 (.bl _)
def ZT(hg:Gl X x)(hd:(x==("__debug__":Str))=false)(hG:Ba X x kvs)(ha:PE X a (LE X.K Ξ (aY P ma)))(hm:behindInMarks (if neg then .NotIn else .In) (.Name x p)=false) :
  PT X (.Compare a [if neg then .NotIn else .In] [.Name x p] pos) (LT X.K Ξ (dN P (.dY (.prim (Bg neg) (.cons (.lit (.tup kvs)) (.cons ma .nil)))))):=by
 let#[A,vs,hmg,hk,gr]:=hG;show(Mz (Od (kvs:=vs) neg) ha (AE (v:=.ref A) hg hmg rfl hd) hm).imp λbI H Q bh=>?_;let#[σ,g,ρ,s,R,h]:=bh;show fc hP s R (.refl _ _) h λd g1 bJ H1 v1 e1 R1 r1 h=>?_;let#[d',g',h,t,ht,q]:=h;rw[Mg] at h;let#[wD,z,ex,rfl,rfl]:=h;cases ex;obtain rfl:=r1.o6;show#[A,z,rfl,hk,rfl,t,?_,q bJ H1 e1 R1];rw[<- (gr.look (ρ:=bJ) (H:=H1) z).isSome];rcases ht with⟨z,_⟩|z|⟨i,z,_⟩|⟨l,z,_⟩|⟨a,l,z,_⟩<;>cases z
 rfl
def Tc(hg:Gl X x)(hd:(x==("__debug__":Str))=false)(hG:Ba X x kvs)(ha:PE X a (LE X.K Ξ (aY P ma)))(hs:Ef a):PE X (.Subscript (.Name x p) a pos) (LE X.K Ξ (aY P (.prim .kS (.cons (.lit (.tup kvs)) (.cons ma .nil))))):=by
 let#[A,vs,hmg,hk,gr]:=hG;show(Jm (WI (kvs:=vs)) (AE (v:=.ref A) hg hmg rfl hd) ha hs).imp λbI H Q bh=>?_;let#[σ,g,ρ,s,R,h]:=bh;show fc hP s R (.refl _ _) h λd g1 bJ H1 v1 e1 R1 r1 h=>?_;let#[d',g',#[wD,z,ex,hz,rfl],q]:=h;cases ex;obtain rfl:=r1.o6;let lk:=gr.look (ρ:=bJ) (H:=H1) z;rw[hz] at lk;let#[w,hw,lk]:=lk.some;show#[A,z,w,rfl,hk,rfl,hw,q bJ H1 _ e1 R1 lk]
def Xx(ha:PE X a (LE X.K Ξ (aY P ma))):PE X (.FormattedValue a (-1) none pos) (LE X.K Ξ (aY P (.prim .fv (.cons ma .nil)))) :=
 (Xj ha).imp λbI H Q bh=>by
  let#[σ,g,ρ,s,R,h]:=bh;show fc hP s R (.refl _ _) h λd g1 bJ H1 v1 e1 R1 r1 h=>?_;let#[d',g',#[rfl,h],q]:=h;rcases h with⟨i,ex,h1,rfl⟩|⟨z,ex,h1,rfl⟩
  .cases ex;show .inl #[i,r1.i0,h1,q bJ H1 _ e1 R1 (.str _)]
  .cases ex;show .inr #[z,r1.o6,i5 (),q bJ H1 _ e1 R1 (.str _)]
omit hP in
inductive mK(X:Cx)(Ξ:gZ)(P:ff):@&Expr->ME->@&TE->Prop
 |nil:mK X Ξ P [] .nil []
 |lit {x:Str} {j:Nat} {p:Pos} {es:@&Expr} {ms:ME} {ts:@&TE} (hx:-x<=2000) (r:mK X Ξ P es ms ts):mK X Ξ P (.Constant (.str x) j p::es) (.cons (.lit (.str x)) ms) (LE X.K Ξ (aY P (.lit (.str x)))::ts)
 |val {e:Expr} {m:ME} {p:Pos} {es:@&Expr} {ms:ME} {ts:@&TE} (he:PE X e (LE X.K Ξ (aY P m))) (r:mK X Ξ P es ms ts):mK X Ξ P (.FormattedValue e (-1) none p::es) (.cons (.prim .fv (.cons m .nil)) ms) (LE X.K Ξ (aY P (.prim .fv (.cons m .nil)))::ts)
def mK.Pw{es ms ts}(h:mK X Ξ P es ms ts):vn X es ts:=by
 induction h with
 |nil=>show .nil
 |lit hx r ih=>show .cons (U7 Oe λx x=>.str _) ih
 |val he r ih=>show .cons (Xx hP he) ih
set_option tactic.hygienic true in
def mK.join{bI:L2.St}{Q:Str->Hp->Prop}{es ms ts}(hf:mK X Ξ P es ms ts):∀{σ:S} {g:G} {ρ:@&Addr} {H:Hp} {acc:Str},(-acc)+2000*-es<=100000->l9 X.K ρ H σ bI->Rl X.K ρ g H ->
  fz P ms σ g (λds g1=>∃x,X6 ds=!x/\∀bE H',Ext ρ H bE H'->Rl X.K bE g1 H'->Q (acc++x) H') (LX X.K ρ H Ξ)->Bq ts bI H acc (λout H1=>-out<=sizeLine/\Q out H1):=by
 let tl:∀{acc y:Str} {ρ:@&Addr} {H:Hp} {bJ:@&Addr} {H1:Hp} {ds:@&D} {g1:G},Ext ρ H bJ H1->(∃x,X6 (.str y::ds)=!x/\∀bE H',Ext ρ H bE H'->Rl X.K bE g1 H'->Q (acc++x) H')->∃x,X6 ds=!x/\∀bE H',Ext bJ H1 bE H'->Rl X.K bE g1 H'->Q (acc++y++x) H':=by
  intro acc y ρ H bJ H1 ds g1 e1 h;let#[x,hx,h]:=h;simp only[X6] at hx;cases hj:X6 ds with
  |none=>simp_all
  |some x' =>
   rw[hj] at hx;cases hx;show#[x',rfl,λbE H' e' R'=>?_];rw[a17];show h bE H' (e1.trans e') R'
 induction hf with
 |nil =>
  intro σ g ρ H acc ha s R h;let#[x,hx,h]:=h;cases hx;show#[i5 (_/ha),h ρ H (.refl _ _) R]
 |lit hx r ih =>
  rename_i y j p es ms ts;intro σ g ρ H acc ha s R h;show#[σ,g,ρ,s,R,?_];intro bJ H1 v1 e1 R1 r1;obtain rfl:=r1.o6;let hl:(acc++y).length<=-acc+2000:=by rw[mr];omega
  simp only[List.length_cons] at ha;show#[y,rfl,i5 (),ih () (s.ext e1) R1 (A2 hP _ _ _ _ _ _ _ (λds g1 h=>tl e1 h) (λw w z=>LX.ext e1 z) h)]
 |val he r ih =>
  rename_i e m p es ms ts;intro σ g ρ H acc ha s R h;show#[σ,g,ρ,s,R,?_];simp only[List.length_cons] at ha;show b7 hP m _ _ _ _ _ _ (λd g1 h=>?_) (λw w z=>z) h;let#[d',g',#[rfl,h],q]:=h;let hy:∃y,d'=.str y/\-y<=2000:=by
   rcases h with⟨i,ex,h1,rfl⟩|⟨z,ex,h1,rfl⟩
   .exact#[_,rfl,by rw[ze];have:=int_text_length_le ∅ h1;omega]
   .exact#[z,rfl,h1]
  let#[y,rfl,hy]:=hy;show#[_,_,#[rfl,h],λbJ H1 v1 e1 R1 r1=>?_];obtain rfl:=r1.o6;let hl:(acc++y).length<=-acc+2000:=by rw[mr];omega
  show#[y,rfl,i5 (),ih () (s.ext e1) R1 (A2 hP _ _ _ _ _ _ _ (λds g1 h=>tl e1 h) (λw w z=>LX.ext e1 z) q)]
def Tb{lM lL:Expr}{rest:@&Expr}{ms:ME}{ts:@&TE}(h:mK X Ξ P (lM::lL::rest) ms ts)(hl:(lM::lL::rest).length<=40):PE X (.JoinedStr (lM::lL::rest) pos) (LE X.K Ξ (aY P (.prim .mj ms))) :=
 (SD (h.Pw hP)).imp λbI H Q bh=>by
  let#[σ,g,ρ,s,R,hw]:=bh;show mK.join hP h ?_ s R (A2 hP ms _ _ _ _ _ _ (λds g1 hw=>?_) (λy y z=>z) hw)
  .have:Str.empty.length=0:=rfl;omega
  .let#[d',g',#[x,hx,rfl,rfl],q]:=hw;show#[x,hx,λbE H' e' R'=>?_];rw[Sk];show q bE H' _ e' R' (.str _)
omit hP in
abbrev qp(ex:@&Str)(K:PySem.W.Frag)(n:Nat)(t:@&D->G->KD->KX->Prop):Sp:=λvs H Q E=>-vs=n/\∃ds g ρ,a9 K ρ H ds vs/\Rl K ρ g H/\t ds g (LQ K ρ H Q) (LX K ρ H (ex,E))
omit hP in
abbrev oH(X:Cx)(P:ff)(ex:@&Str)(k f:Nat)(fa:Addr)(fd:FuncData)(ps:@&Str):Prop :=
 gN X.prog X.w X.K X.mg X.base (gT X.prog X.w) k fa fd ps (qp ex X.K (-ps) (P f))/\Binds X.K fd ps []/\∀ds g Q E,P f ds g Q E->-ds=-ps
def yz{k:Nat}(F:oH X P Ξ.1 k f fa fd ps){ρ:@&Addr}{g:G}{Q0:KD}{Q:VK}(e0:Ext fS H0 ρ H)(R:Rl X.K ρ g H)(r:a9 X.K ρ H xs vs)(h:P f xs g Q0 (LX X.K fS H0 Ξ))(k:∀d g',Q0 d g'->LQ X.K ρ H Q d g'):qp Ξ.1 X.K (-ps) (P f) (vs++[]) H Q Ξ.2:=by
 rw[eV];show#[by rw[<- -r];show F.2.2 _ _ _ _ h,xs,g,ρ,r,R,hP _ _ _ _ _ _ _ k (λx x z=>LX.ext e0 z) h]
def SY(hx:Passes (gT X.prog X.w) X Ξ.2)(F:oH X P Ξ.1 k f fa fd ps)(hr:q9 k X.A)(hg:Gl X x)(hm:X.mg x=!.ref fa)(hk:PySem.W.keepIn X.K (.ref fa)=true)(ha:PA X (e::es) (LA X.K Ξ (fz P gR)))(hd:(x==("__debug__":Str))=false)(eZ:starEach (e::es) X.env=(false,eval e X.env)::starEach es X.env)(gE:(backTo pos (starEach es X.env)).any (·.1)=false):PE X (.Call (.Name x p) (e::es) [] pos) (LE X.K Ξ (aY P (.call f gR))) :=
 (Sz F.1 hr hg hm hk F.2.1 .nil hx ha hd eZ gE).imp λbI H Q bh=>by
  let#[σ,g,ρ,s,R,h]:=bh;show jP hP s R (.refl _ _) h λxs g1 bJ H1 vs e1 R1 r1 h=>yz hP F e1 R1 r1 h λd g' h=>h.ext e1
def Vq(hx:Passes (gT X.prog X.w) X Ξ.2)(F:oH X P Ξ.1 k f fa fd ps)(hr:q9 k X.A)(hg:Gl X x)(hm:X.mg x=!.ref fa)(hk:PySem.W.keepIn X.K (.ref fa)=true)(hd:(x==("__debug__":Str))=false):PE X (.Call (.Name x p) [] [] pos) (LE X.K Ξ (aY P (.call f .nil))) :=
 (UX F.1 hr hg hm hk F.2.1 .nil hx hd).imp λbI H Q bh=>by
  let#[σ,g,ρ,s,R,h]:=bh;show yz hP F (.refl _ _) R .nil h λd g' h=>h
def Mp{c:Str}(F:oH X P Ξ.1 k f fa fd ps)(hC:m9 X.K c C)(hc:jd X.K C){ρ:@&Addr}{g1:G}{Q:VK}(e0:Ext fS H0 ρ H)(R:Rl X.K ρ g1 H)(r:a9 X.K ρ H xs vs)(h:P f (.ref (-g1)::xs) (g1++[.ins c []]) (λd g2=>d=.aR/\LQ X.K fS H0 Q (.ref (-g1)) g2) (LX X.K fS H0 Ξ)):∀x dx,H x=none->H dx=none->dx≠x->qp Ξ.1 X.K (-ps) (P f) (.ref x::(vs++[])) (upd (upd H dx (.own x)) x (.ins C dx [])) (λv H2=>v=.aR/\Q (.ref x) H2) Ξ.2:=by
 intro x dx hx HP fN;let Ht:upd H dx (.own x) x=none:=by rw[d8 (aU fN)];show hx
 let R2:=R.grow (o:=.own x) HP;let e2:Ext ρ H ρ (upd H dx (.own x)):=o8 HP;let R3:=R2.new (o:=.ins c []) (u:=.ins C dx []) Ht #[hC,hc,.nil,λx hx=>absurd hx #[_]];let e3:Ext ρ (upd H dx (.own x)) (ρ++[x]) (upd (upd H dx (.own x)) x (.ins C dx [])):=B8 Ht;have:=yz hP F (e0.trans (e2.trans e3)) R3 (.cons (.ref (R.u9 x)) (r.ext (e2.trans e3))) h (Q:=λv H2=>v=.aR/\Q (.ref x) H2) λd g' q bE H' v e' R' r'=>by
  let#[rfl,q]:=q;show#[r'.Am,q bE H' _ (e0.trans (e2.trans (e3.trans e'))) R' (.ref (e'.get (R.u9 x)))]
 show this
def Te(hx:Passes (gT X.prog X.w) X Ξ.2)(F:oH X P Ξ.1 k f fa fd ps)(M:Mk X.K C fa)(hC:m9 X.K x C)(hc:jd X.K C)(hr:q9 (k+1) X.A)(hg:Gl X x)(hm:X.mg x=!.ref C)(ha:PA X (e::es) (LA X.K Ξ (fz P gR)))(hd:(x==("__debug__":Str))=false)(eZ:starEach (e::es) X.env=(false,eval e X.env)::starEach es X.env)(gE:(backTo pos (starEach es X.env)).any (·.1)=false):PE X (.Call (.Name x p) (e::es) [] pos) (LE X.K Ξ (aY P (.make x f gR))) :=
 (SE M F.1 hr hg hm F.2.1 .nil hx ha hd eZ gE).imp λbI H Q bh=>by
  let#[σ,g,ρ,s,R,h]:=bh;show jP hP s R (.refl _ _) h λxs g1 bJ H1 vs e1 R1 r1 h=>Mp hP F hC hc e1 R1 r1 h
def Vw(hx:Passes (gT X.prog X.w) X Ξ.2)(F:oH X P Ξ.1 k f fa fd ps)(M:Mk X.K C fa)(hC:m9 X.K x C)(hc:jd X.K C)(hr:q9 (k+1) X.A)(hg:Gl X x)(hm:X.mg x=!.ref C)(hd:(x==("__debug__":Str))=false):PE X (.Call (.Name x p) [] [] pos) (LE X.K Ξ (aY P (.make x f .nil))) :=
 (Vc M F.1 hr hg hm F.2.1 .nil hx hd).imp λbI H Q bh=>by
  let#[σ,g,ρ,s,R,h]:=bh;show Mp hP F hC hc (.refl _ _) R .nil h
omit hP in
def Ee(X:Cx)(P:ff)(ex:@&Str)(m:Str)(cs:@&(Str×Nat)):Prop:=∀c f C,cs.lookup c=!f->m9 X.K c C->∃k fa fd ps,Meth X.K C m fa/\oH X P ex k f fa fd ps/\q9 k X.A
def Vy{m:Str}{cs:@&(Str×Nat)}{o:Expr}{mo:ME}{apos:Pos}{pl:Sem Bool}(hx:Passes (gT X.prog X.w) X Ξ.2)(hM:Ee X P Ξ.1 m cs)(ho:PE X o (LE X.K Ξ (aY P mo)))(ha:PA X (e::es) (LA X.K Ξ (fz P gR)))(eZ:starEach (e::es) X.env=(false,eval e X.env)::starEach es X.env)(gE:(backTo pos (starEach es X.env)).any (·.1)=false)(ht:eval (.Call (.Attribute o m apos) (e :: es) [] pos) X.env=(do
   let ov <- eval o X.env
   standAt apos.atName
   let (f,first) <- holding [ov] (getMethod ov m pl)
   callWith pos f first (backTo pos (starEach (e :: es) X.env)) (backToKw pos (keywordEach [] X.env)))):PE X (.Call (.Attribute o m apos) (e :: es) [] pos) (LE X.K Ξ (aY P (.bp m cs mo gR))) :=
 (Vd ho hx ha eZ gE ht).imp λbI H Q bh=>by
  let#[σ,g,ρ,s,R,h]:=bh;show fc hP s R (.refl _ _) h λx g1 bJ H1 v1 e1 R1 r1 h=>?_;let#[i,c,fs,f,rfl,hi,hf,nF,h]:=h;let#[a',rfl,ra]:=r1.i4;let#[C,dx,vs,hH,hC,jb,rk,na]:=R1.ins hi ra;let#[k,fa,fd,ps,M,F,hr]:=hM c f C nF hC;let lk:=rk.look m;rw[hf] at lk;let hl:vs.lookup m=none:=by cases e:vs.lookup m with|none=>rfl|some w=>rw[e] at lk;show lk.elim
  show#[a',C,dx,vs,fa,fd,ps,k,_,rfl,hH,hl,jb,M,F.1,hr,F.2.1,?_];show jP hP (s.ext e1) R1 e1 h λxs g2 fb H2 ws e2 R2 r2 h=>yz hP F (e1.trans e2) R2 (.cons (.ref (e2.get ra)) r2) h λd g' h=>h.ext (e1.trans e2)
def a24{m:Str}{cs:@&(Str×Nat)}{o:Expr}{mo:ME}{apos:Pos}{pl:Sem Bool}(hx:Passes (gT X.prog X.w) X Ξ.2)(hM:Ee X P Ξ.1 m cs)(ho:PE X o (LE X.K Ξ (aY P mo)))(ht:eval (.Call (.Attribute o m apos) [] [] pos) X.env=(do
   let ov <- eval o X.env
   standAt apos.atName
   let (f,first) <- holding [ov] (getMethod ov m pl)
   callWith pos f first (backTo pos (starEach [] X.env)) (backToKw pos (keywordEach [] X.env)))):PE X (.Call (.Attribute o m apos) [] [] pos) (LE X.K Ξ (aY P (.bp m cs mo .nil))) :=
 (a45 ho hx ht).imp λbI H Q bh=>by
  let#[σ,g,ρ,s,R,h]:=bh;show fc hP s R (.refl _ _) h λx g1 bJ H1 v1 e1 R1 r1 h=>?_;let#[i,c,fs,f,rfl,hi,hf,nF,h]:=h;let#[a',rfl,ra]:=r1.i4;let#[C,dx,vs,hH,hC,jb,rk,na]:=R1.ins hi ra;let#[k,fa,fd,ps,M,F,hr]:=hM c f C nF hC;let lk:=rk.look m;rw[hf] at lk;let hl:vs.lookup m=none:=by cases e:vs.lookup m with|none=>rfl|some w=>rw[e] at lk;show lk.elim
  show#[a',C,dx,vs,fa,fd,ps,k,_,rfl,hH,hl,jb,M,F.1,hr,F.2.1,yz hP F e1 R1 (.cons (.ref ra) .nil) h λd g' h=>h.ext e1]
end
inductive kr(K:PySem.W.Frag)(ρ:@&Addr)(H:Hp):@&D->@&(V×V)->Prop
 |nil:kr K ρ H [] []
 |cons {k d:D} {x y:V} {ds:@&D} {ps:@&(V×V)} (h1:c8 K ρ H k x) (h2:c8 K ρ H d y) (r:kr K ρ H ds ps):kr K ρ H (k::d::ds) ((x,y)::ps)
set_option tactic.hygienic true in
def Yd{K ρ H}{ps:@&(V×V)}(r:kr K ρ H xs ps):∀{acc kvs:@&(Key×D)} {accV:@&(Key×V)},uK xs acc=!kvs->d4 K ρ H acc accV->∃more:@&(Key×V),ps=more.map (λkv=>(kV kv.1,kv.2))/\2*-more=-xs/\d4 K ρ H kvs (U9 accV more):=by
 induction r with
 |nil =>
  intro acc kvs accV h ra;cases h;show#[[],rfl,rfl,ra]
 |cons h1 h2 r ih =>
  rename_i k d x y ds ps;intro acc kvs accV h ra;simp only[uK] at h;cases hk:Z5 k with
  |none=>simp_all
  |some c =>
   rw[hk] at h;let#[more,e1,e2,r2]:=ih (show uK ds (putD acc c d)=some kvs from h) (ra.put h2);let ex:=yM hk h1;show#[(c,y)::more,by simp_all,by grind,r2]
section
variable{X:Cx}{Ξ:gZ}{P:ff}(hP:i3 P){pos:Pos}
inductive mL(X:Cx)(Ξ:gZ)(P:ff):@&(Option Expr)->@&Expr->ME->@&(TE×TE)->Prop
 |nil:mL X Ξ P [] [] .nil []
 |cons {k v:Expr} {ks:@&(Option Expr)} {vs:@&Expr} {mk mv ms:ME} {iy:@&(TE×TE)} (hk:PE X k (LE X.K Ξ (aY P mk))) (hv:PE X v (LE X.K Ξ (aY P mv))) (r:mL X Ξ P ks vs ms iy) :
   mL X Ξ P (some k::ks) (v::vs) (.cons mk (.cons mv ms)) ((LE X.K Ξ (aY P mk),LE X.K Ξ (aY P mv))::iy)
def mL.Pu{ks vs ms iy}(h:mL X Ξ P ks vs ms iy):yZ X pos ks vs iy:=by
 induction h with
 |nil=>show SI
 |cons hk hv r ih=>show Vh hk hv ih
def mL.len{ks vs ms iy}(h:mL X Ξ P ks vs ms iy):ks.all (·.isSome)=true/\-ks=-vs:=by
 induction h with
 |nil=>show#[rfl,rfl]
 |cons hk hv r ih=>show#[by simpa using ih.1,by simp[ih.2]]
include hP
def mL.pairs{ks vs ms iy}(hd:mL X Ξ P ks vs ms iy):∀{bI:L2.St} {σ:S} {g:G} {ρ fS:@&Addr} {H H0:Hp} {Qd:@&D->G->Prop} {Q:@&(V×V)->Hp->Prop},l9 X.K ρ H σ bI->Rl X.K ρ g H->Ext fS H0 ρ H->fz P ms σ g Qd (LX X.K fS H0 Ξ) ->
  (∀ds g' bE H' ps,Ext ρ H bE H'->Rl X.K bE g' H'->kr X.K bE H' ds ps->Qd ds g'->Q ps H')->Ap iy bI H Q:=by
 induction hd with
 |nil =>
  intro bI σ g ρ fS H H0 Qd Q s R e0 h k;show k [] g ρ H [] (.refl _ _) R .nil h
 |cons hk hv r ih =>
  intro bI σ g ρ fS H H0 Qd Q s R e0 h k;show fc hP s R e0 h λx g1 bJ H1 v1 e1 R1 r1 h=>fc hP (s.ext e1) R1 (e0.trans e1) h λy g2 fb H2 v2 e2 R2 r2 h=>?_;show ih (s.ext (e1.trans e2)) R2 (e0.trans (e1.trans e2)) h λds g' bE H' ps e' R' rp hq=>?_;show k _ g' bE H' _ (e1.trans (e2.trans e')) R' (.cons (r1.ext (e2.trans e')) (r2.ext e') rp) hq
def ZC{ks:@&(Option Expr)}{vs:@&Expr}{ms:ME}{iy:@&(TE×TE)}(hd:mL X Ξ P ks vs ms iy)(h0:ks≠[])(Du:-ks<=15):PE X (.Dict ks vs pos) (LE X.K Ξ (aY P (.oB ms))) :=
 (SA hd.Pu hd.len.1 hd.len.2 h0 Du).imp λbI H Q ⟨σ,g,ρ,s,R,h⟩ p hp=>by
  let e1:Ext ρ H (ρ++[p]) (upd H p (.dK [])):=B8 hp;show mL.pairs hP hd (s.ext e1) (R.new hp (o:=.bX []) (u:=.dK []) d4.nil) e1 h λds g2 fb H2 ps e2 R2 rp hq=>?_;let#[kvs,hk,hz,hg,q]:=hq;let pz:fb[(-g)]?=!p:=e2.get (R.u9 p);let#[vs',hv,rv]:=R2.bX hg pz;cases rv;let#[more,em,hl,rk]:=Yd rp hk (accV:=[]) .nil;show#[hv,more,em,by omega,?_];let#[R3,e3]:=R2.put (o':=.bX kvs) (u:=.dK (U9 [] more)) hg rfl pz rk;show q fb _ _ (e1.trans (e2.trans e3)) R3 (.ref pz)
end
def WM{l:@&D}(ht:TupAt K H0 a vs)(rs:a9 K fS H0 l vs):pY K fS H0 (.fix l) (GI K a):=by
 intro ρ g H e R i;let mH:=ht.ext e;let wb:=rs.ext e;show#[λh=>#[vs,mH.sq,?_],λd h=>?_]
 .have:=df.mp (aJ h);rw[<- -wb];show this
 .let#[v,hv,rv]:=wb.get (aJ h);show#[#[vs,v,mH.sq,hv],λw H' y=>?_];let#[rfl,y]:=y;have:=y vs mH.sq;rw[hv] at this;cases this;show#[.refl _ _,R,rv]
def WK{j:Nat}(ha:fS[j]?=!a):pY K fS H0 (.lst j) (GK K a):=by
 intro ρ g H e R i;let ou:=e.get ha;show#[λh=>?_,λd h=>?_]
 .simp only[IK.at] at h;cases el:c6 g j with
  |none=>simp_all
  |some l =>
   rw[el] at h;let#[vs,hq,rs]:=R.items el ou;show#[vs,hq,?_];have:=df.mp (aJ h);rw[<- -rs];show this
 .simp only[IK.at] at h;cases el:c6 g j with
  |none=>simp_all
  |some l =>
   rw[el] at h;let#[vs,hq,rs]:=R.items el ou;let#[v,hv,rv]:=rs.get (aJ h);show#[#[vs,v,hq,hv],λw H' y=>?_];let#[rfl,y]:=y;have:=y vs hq;rw[hv] at this;cases this;show#[.refl _ _,R,rv]
def Jg{lo:Int}{n:Nat}:pY K fS H0 (.fix (l6 lo n)) (zb lo n):=by
 unfold l6;intro ρ g H e R i;show#[λh=>?_,λd h=>?_]
 .have:=df.mp (aJ h);change n<=i;simpa using this
 .let h:=aJ h;let hi:i<n:=by
   have:=(ax.mp h).1
   simp_all
  rw[aD,jA hi] at h;cases h;show#[hi,λw H' y=>?_];let#[rfl,rfl]:=y;show#[.refl _ _,R,.int _]
def WL{a:Str}:pY K fS H0 (.fix (sgn a)) (GJ a):=by
 intro ρ g H e R i;show#[λh=>?_,λd h=>?_]
 .simp only[IK.at] at h;have:=df.mp (aJ h);change a.cps.size<=i;simpa[sgn] using this
 .simp only[IK.at] at h;let h:=aJ h;unfold sgn at h;rw[aD,ae] at h;let#[c,hc,rfl]:=h;let hc:a.cps[i]?=!c:=by simpa using hc
  show#[(gu.mp hc).1,λw H' y=>?_];let#[rfl,c',h',rfl]:=y;rw[hc] at h';cases h';show#[.refl _ _,R,.str _]
def WN{t:Addr}{l:@&D}{j:Nat}(ht:TupAt K H0 t vs)(rs:a9 K fS H0 l vs)(ha:fS[j]?=!a):pY K fS H0 (.tU l j) (GH K t a):=by
 intro ρ g H e R i;let mH:=ht.ext e;let wb:=rs.ext e;let ou:=e.get ha;show#[λh=>?_,λd h=>?_]
 .simp only[IK.at] at h;cases el:c6 g j with
  |none=>rw[el] at h;cases h
  |some m =>
   rw[el] at h;dsimp only at h;by_cases hl:-l=-m
   .rw[aw hl] at h;let h:=aJ h;rw[Option.map_eq_none_iff] at h;have:=df.mp h;rw[mS] at this;show#[vs,mH.sq,?_];rw[<- -wb];omega
   .rw[az hl] at h;cases h
 .simp only[IK.at] at h;cases el:c6 g j with
  |none=>rw[el] at h;cases h
  |some m =>
   rw[el] at h;dsimp only at h;by_cases hl:-l=-m
   .rw[aw hl] at h;let h:=aJ h;rw[ae] at h;let#[#[d1,d2],hd,rfl]:=h;let#[h1,h2]:=List.getElem?_zip_eq_some.mp hd;let#[v1,jo,Pl]:=wb.get h1;let#[ws,hq,rws]:=R.items el ou;let#[v2,jm,BH]:=rws.get h2;show#[#[vs,ws,v1,v2,mH.sq,hq,jo,jm],λw H' y=>?_];let#[p,x,x',hp,rfl,y1,y2,rfl]:=y;let y1:=y1 vs mH.sq;rw[jo] at y1;cases y1;let y2:=y2 ws hq;rw[jm] at y2;cases y2;show#[o8 hp,R.grow hp,.tup (.inl k7) (.cons (Pl.ext (o8 hp)) (.cons (BH.ext (o8 hp)) .nil))]
   .rw[az hl] at h;cases h
end M
namespace L2
open PySem PySem.Spec PyProof.Rows
def Zk{X:Cx}{tg l:Expr}{tl:TE}(hl:PE X l tl):PI X tg l (λσ H R=>tl σ H λx H1=>(∃a,x=.ref a/\(∃xs,fT X.K H1 a xs)/\R (GK X.K a) H1)\/(∃a,x=.ref a/\(∃xs,gF X.K H1 a xs)/\R (GI X.K a) H1)\/∃a:Str,x=.str a/\a.cps.all (·<128)=true/\R (GJ a) H1):=by
 intro pi s σ H R I h;show cB (hl pi s σ H _ I h) λv s1 bh=>?_;let#[x,H1,I1,r1,q1]:=bh;rcases q1 with⟨a,e,⟨xs,hq⟩,q⟩|⟨a,e,⟨xs,hq⟩,q⟩|⟨a,rfl,ha,q⟩
 .subst e;cases r1;let#[aS,rv,p,hz]:=I1.list hq;show dE p.isList ?_;show#[s1⁻¹,[s1⁻¹],_,_,H1,rfl,I1.kept (t':=s1.toks) λb o e=>ag _ e,a10 a _,#[_,au _ rfl,rfl,rfl],λb hb=>?_,q];let e:b=s1⁻¹:=by simpa using hb
  subst e;show I1.qT (ak _) (I1.bB.fresh (ak _))
 .subst e;cases r1;let#[aS,rv,p,hz]:=I1.tuple hq;show mM (show s1.heap.IsTuple a aS.toArray from p) ?_;show#[s1⁻¹,[s1⁻¹],_,_,H1,rfl,I1.kept (t':=s1.toks) λb o e=>ag _ e,aT4 a _,#[_,au _ rfl,rfl,rfl],λb hb=>?_,q];let e:b=s1⁻¹:=by simpa using hb
  subst e;show I1.qT (ak _) (I1.bB.fresh (ak _))
 .let#[t,rfl]:=r1;show wpAny_pyIter_ascii ha ?_;show#[s1⁻¹,[s1⁻¹],_,_,H1,rfl,I1.kept (t':=s1.toks) λb o e=>ag _ e,VN a t _,#[_,au _ rfl,rfl,rfl],λb hb=>?_,q];let e:b=s1⁻¹:=by simpa using hb
  subst e;show I1.qT (ak _) (I1.bB.fresh (ak _))
end L2
namespace M
open PySem L2 PySem.Spec PyProof.Rows
variable{X:Cx}{pos p tp:Pos}{i:Nat}{x f:Str}{t:MT}{o:Expr}{mo mi:ME}{cs:@&Str}
section
variable{Ξ:gZ}{P:ff}(hP:i3 P){a b tg:Expr}{ma mb:ME}
include hP
def ZN(ha:PE X a (LE X.K Ξ (aY P ma))):PI X tg a (LI X.K Ξ (iW P (.iJ ma))) :=
 (Zk ha).imp λbI H R bh=>by
  let#[σ,g,ρ,s,Rr,h]:=bh;show fc hP s Rr (.refl _ _) h λx g1 bJ H1 v1 e1 R1 r1 h=>?_;rcases h with⟨l,rfl,h⟩|⟨i,l,rfl,hl,h⟩|⟨w,rfl,ha,h⟩
  .let#[a',vs,rfl,ht,rs]:=r1.w9;show .inr (.inl #[_,rfl,#[_,ht.sq],h bJ H1 _ e1 R1 (WM ht rs)])
  .let#[a',rfl,ou]:=r1.i4;let#[vs,hq,rs]:=R1.items hl ou;show .inl #[_,rfl,#[_,hq],h bJ H1 _ e1 R1 (WK ou)]
  .obtain rfl:=r1.o6;show .inr (.inr #[_,rfl,ha,h bJ H1 _ e1 R1 WL])
def ZO{elts:@&Expr}{x1:Nat}(ha:PE X a (LE X.K Ξ (aY P ma)))(hb:PE X b (LE X.K Ξ (aY P mb)))(hg:Gl X "zip")(hm:X.mg "zip"=none)(hs:starEach [a,b] X.env=[(false,eval a X.env),(false,eval b X.env)])(iZ:starEach [b] X.env=[(false,eval b X.env)]) :
  PI X (.Tuple elts x1 tp) (.Call (.Name "zip" p) [a,b] [] pos) (LI X.K Ξ (iW P (.oh ma mb))) :=
 (Zl hg hm (B3 hP ha (B3 hP hb (L0 hP) (by rw[iZ];rfl)) (by rw[hs,iZ])) hs iZ).imp λbI H R bh=>by
  let#[σ,g,ρ,s,Rr,h]:=bh;show jP hP (m:=.cons ma (.cons mb .nil)) s Rr (.refl _ _) (Q0:=λxs g1=>∃l i m,xs=[.tup l,.ref i]/\c6 g1 i=!m/\∀bE H' J,Ext ρ H bE H'->Rl X.K bE g1 H'->pY X.K bE H' (.tU l i) J->R J H') ?_ λxs g1 bJ H1 vs e1 R1 r1 h=>?_
  .skip
   show b7 hP ma _ _ _ _ _ _ (λx g1 h=>b7 hP mb _ _ _ _ _ _ (by rintro y g2 ⟨l,i,m,e,e',h1,h⟩;show #[l,i,m,by rw[e,e'],h1,h]) (λu u z=>z) h) (λu u z=>z) h
  .let#[l,i,m,rfl,hl,h]:=h;let#[v,w,rfl,rv,fH]:=r1.two;let#[t,vs,rfl,ht,rs]:=rv.w9;let#[a',rfl,ra]:=fH.i4;let#[ws,hq,_]:=R1.items hl ra;show#[_,_,rfl,#[_,ht.sq],#[_,hq],h bJ H1 _ e1 R1 (WN ht rs ra)]
def Tn(ha:PE X a (LE X.K Ξ (aY P ma)))(hg:Gl X "range")(hm:X.mg "range"=none)(hs:starEach [a] X.env=[(false,eval a X.env)]):PI X tg (.Call (.Name "range" p) [a] [] pos) (LI X.K Ξ (iW P (.gC ma))) :=
 (a40 hg hm (B3 hP ha (L0 hP) (by rw[hs];rfl)) hs).imp λbI H R bh=>by
  let#[σ,g,ρ,s,Rr,h]:=bh;show jP hP s Rr (.refl _ _) (Q0:=λxs g1=>∃j:Int,xs=[.int j]/\-(2 ^ 62)<=j/\j<2 ^ 62/\∀bE H' J,Ext ρ H bE H'->Rl X.K bE g1 H'->pY X.K bE H' (.fix (l6 0 j.toNat)) J->R J H') ?_ λxs g1 bJ H1 vs e1 R1 r1 h=>?_
  .exact b7 hP ma _ _ _ _ _ _ (by rintro x g1 ⟨j,e,h1,h2,h⟩;show #[j,by rw[e],h1,h2,h]) (λy y z=>z) h
  .let#[j,rfl,h1,h2,h]:=h;let#[v,rfl,rv]:=r1.one;obtain rfl:=rv.i0;show#[_,rfl,h1,h2,h bJ H1 _ e1 R1 Jg]
def To(ha:PE X a (LE X.K Ξ (aY P ma)))(hb:PE X b (LE X.K Ξ (aY P mb)))(hg:Gl X "range")(hm:X.mg "range"=none)(hs:starEach [a,b] X.env=[(false,eval a X.env),(false,eval b X.env)])(iZ:starEach [b] X.env=[(false,eval b X.env)]) :
  PI X tg (.Call (.Name "range" p) [a,b] [] pos) (LI X.K Ξ (iW P (.iH ma mb))) :=
 (a39 hg hm (B3 hP ha (B3 hP hb (L0 hP) (by rw[iZ];rfl)) (by rw[hs,iZ])) hs iZ).imp λbI H R bh=>by
  let#[σ,g,ρ,s,Rr,h]:=bh;show jP hP s Rr (.refl _ _) (Q0:=λxs g1=>∃i j:Int,xs=[.int i,.int j]/\(-(2 ^ 62)<=i/\i<2 ^ 62/\-(2 ^ 62)<=j/\j<2 ^ 62)/\∀bE H' J,Ext ρ H bE H'->Rl X.K bE g1 H'->pY X.K bE H' (.fix (l6 i (j-i).toNat)) J->R J H') ?_ λxs g1 bJ H1 vs e1 R1 r1 h=>?_
  .exact b7 hP ma _ _ _ _ _ _ (λx g1 h=>b7 hP mb _ _ _ _ _ _ (by rintro y g2 ⟨i,j,e,e',h1,h⟩;show #[i,j,by rw[e,e'],h1,h]) (λu u z=>z) h) (λu u z=>z) h
  .let#[i,j,rfl,h1,h]:=h;let#[v,w,rfl,rv,fH]:=r1.two;obtain rfl:=rv.i0;obtain rfl:=fH.i0;show#[_,_,rfl,h1,h bJ H1 _ e1 R1 Jg]
end
def ZM(hN:X.Nd)(hi:X.N[i]?=!x)(hx:Loc X.env.scope x)(hf:X.fn x=true\/X.env.scope.names.lookup x=!.local):PG X (.Name x pos) (LG X.K (.one i)) :=
 (Mw hN hi hx hf).imp λv bI H Q hq=>by
  let#[d,σ,g,ρ,s,R,r,h]:=hq;show h _ (s.set i r)
inductive fL(X:Cx):@&Expr->@&Nat->Prop
 |nil:fL X [] []
 |cons {x:Str} {p:Pos} {i:Nat} {es:@&Expr} {is:@&Nat} (hi:X.N[i]?=!x) (hx:Loc X.env.scope x) (hf:X.fn x=true\/X.env.scope.names.lookup x=!.local) (r:fL X es is):fL X (.Name x p::es) (i::is)
abbrev Ah:@&Nat->oG
 |[]=>JX
 |i::is=>Jb (uV i) (Ah is)
def KP(hN:X.Nd){es:@&Expr}{is:@&Nat}(h:fL X es is):vo X es (Ah is):=by
 induction h with
 |nil=>show SG
 |cons hi hx hf r ih=>show Vf (Mw hN hi hx hf) ih rfl
def Fh:∀{es:@&Expr} {is:@&Nat},fL X es is->(assignEach es X.env).length=-is/\(assignEach es X.env).findIdx? (·.1)=none
 |_,_,.nil=>#[rfl,rfl]
 |_,_,.cons (x:=x) (p:=p) (es:=es) hi hx hf r=>by
  let#[h1,h2]:=Fh r;let e:assignEach (.Name x p::es) X.env=(false,assign (.Name x p) X.env)::assignEach es X.env:=rfl;rw[e];show#[by simp[h1],?_];rw[List.findIdx?_cons,h2]
  rfl
def Kx{K:PySem.W.Frag}{ρ:@&Addr}{H:Hp}{k:S->Prop}{Q:L2.St->Hp->Prop}:∀{is:@&Nat} {l:@&D} {vs:@&V} {σ cu:S} {bI:L2.St},Q3 is l σ=!cu->a9 K ρ H l vs->l9 K ρ H σ bI->(∀dJ,l9 K ρ H cu dJ->Q dJ H)->Ah is vs bI H Q
 |[],_,_,_,_,_,h,.nil,s,q=>by
  cases h;show#[rfl,q _ s]
 |[],_,_,_,_,_,h,.cons _ _,s,q=>by cases h
 |i::is,_,_,_,_,_,h,.nil,s,q=>by cases h
 |i::is,_,_,_,_,_,h,.cons r rr,s,q=>by
  show#[_,_,rfl,Kx (k:=k) h rr (s.set i r) q]
def Ll:∀{is:@&Nat} {l:@&D} {σ cu:S},Q3 is l σ=!cu->-l=-is
 |[],[],_,_,_=>rfl
 |[],_::_,_,_,h=>by simp only[Q3] at h;cases h
 |_::_,[],_,_,h=>by simp only[Q3] at h;cases h
 |_::is,_::l,_,_,h=>by simp only[Q3] at h;simp[Ll h]
def MK{es:@&Expr}{is:@&Nat}{k:Nat}(hc:X.calm=true)(hN:X.Nd)(hs:fL X es is):PG X (.Tuple es k pos) (LG X.K (.many is)) :=
 (Zj hc (KP hN hs) (Fh hs).1 (Fh hs).2).imp λv bI H Q bh=>by
  let#[d,σ,g,ρ,s,R,r,h]:=bh;let#[l,cu,rfl,e,h]:=h;let#[a',vs,rfl,ht,rs]:=r.w9;show#[_,_,rfl,ht.sq,by rw[<- -rs];show Ll e,Kx (k:=λx=>True) e rs s h]
def LN.ext{K ρ H N bJ H1}(e:Ext ρ H bJ H1):(LN K ρ H N).le (LN K bJ H1 N) :=
 #[λσ g h bE H' dJ e' R s=>h bE H' dJ (e.trans e') R s,λd g h=>h.ext e,λσ g h bE H' dJ e' R s=>h bE H' dJ (e.trans e') R s,λσ g h bE H' dJ e' R s=>h bE H' dJ (e.trans e') R s]
section
variable{Ξ:gZ}{P:ff}(hP:i3 P){a b c tg:Expr}{ma mb mc:ME}{st:Stmt}{rest:@&Stmt}{BP nk:MS}
include hP
def Om:jv X [] (LS X.K Ξ (wpS P .pass)) :=
 (SN).imp (by rintro N bI H ⟨σ,g,ρ,s,R,h⟩;show h ρ H bI (.refl _ _) R s)
def MM(h1:PS X st (LS X.K Ξ (wpS P BP)))(h2:jv X rest (LS X.K Ξ (wpS P nk))):jv X (st::rest) (LS X.K Ξ (wpS P (.seq BP nk))) :=
 (Vj h1 h2).imp λN bI H ⟨σ,g,ρ,s,R,h⟩ =>
  vP hP s R (.refl _ _) (show wpS P BP { LN X.K ρ H N with nx:=λju g1=>wpS P nk (LN X.K ρ H N) ju g1 (LX X.K ρ H Ξ) } σ g (LX X.K ρ H Ξ) from h) #[λju g1 h bJ H1 OV e1 R1 s1=>vP hP s1 R1 e1 h (LN.ext e1),λx x z=>z,λx x z=>z,λx x z=>z]
def Tv(ha:PE X a (LE X.K Ξ (aY P ma)))(hs:swapsWith a none pos.line X.env=pure false):PS X (.Expr a pos) (LS X.K Ξ (wpS P (.expr ma))) :=
 (SJ ha hs).imp (by rintro N bI H ⟨σ,g,ρ,s,R,h⟩;show fc hP s R (.refl _ _) h λx g1 bJ H1 v1 e1 R1 r1 h=>h bJ H1 bI e1 R1 (s.ext e1))
def Oq(h0:PS X (.Assign [.Name x p] a pos) (uO (LE X.K Ξ (aY P ma)) (uV i))):PS X (.Assign [.Name x p] a pos) (LS X.K Ξ (wpS P (.set i ma))) :=
 h0.imp (by rintro N bI H ⟨σ,g,ρ,s,R,h⟩;show fc hP s R (.refl _ _) h λx g1 bJ H1 v1 e1 R1 r1 h=>h bJ H1 _ e1 R1 ((s.ext e1).set i r1))
def bE6(h0:PS X (.Assign [tg] a pos) (uO (LE X.K Ξ (aY P ma)) (LG X.K t))):PS X (.Assign [tg] a pos) (LS X.K Ξ (wpS P (.tY t ma))) :=
 h0.imp (by rintro N bI H ⟨σ,g,ρ,s,R,h⟩;show fc hP s R (.refl _ _) h λx g1 bJ H1 v1 e1 R1 r1 h=>#[x,σ,g1,bJ,s.ext e1,R1,r1,C8 (λcu h dJ s'=>h bJ H1 dJ e1 R1 s') h])
def Tx{j:Nat}(h0:PS X (.Assign [tg] a pos) (uO (LE X.K Ξ (aY P ma)) (Jc X.K (Ah [i,j])))):PS X (.Assign [tg] a pos) (LS X.K Ξ (wpS P (.lN i j ma))) :=
 h0.imp λN bI H ⟨σ,g,ρ,s,R,h⟩=>fc hP s R (.refl _ _) h λv g1 bJ H1 v1 e1 R1 r1 h=>by
  let#[b,x,l,rfl,hl,h]:=h;let#[a',rfl,ra]:=r1.i4;let#[vs,hq,rs]:=R1.items hl ra;cases rs with
  |@cons _ y _ ys rx rs =>
  show#[a',y,ys,rfl,hq,λp hp=>#[y,_,rfl,.ref p,[],rfl,rfl,?_]];let e2:=B8 (ρ:=bJ) (o:=.lst ys) hp;show h (bJ++[p]) _ _ (e1.trans e2) (R1.new hp (o:=.lst l) (u:=.lst ys) rs) (((s.ext (e1.trans e2)).set i (rx.ext e2)).set j (.ref (R1.u9 p)))
def VJ(hu:X.A.units+100<cLine){i:Expr}(ha:PE X a (LE X.K Ξ (aY P ma)))(ho:PE X o (LE X.K Ξ (aY P mo)))(hi:PE X i (LE X.K Ξ (aY P mi)))(hs:swapsWithSole [.Subscript o i tp] a pos.line X.env=pure false)(ou:∀ v,assign (.Subscript o i tp) X.env v=(do
   let ov <- holding [v] (eval o X.env)
   let iv <- holding [v,ov] (eval i X.env)
   standAt tp
   holding [v,ov,iv] (setItem ov iv v)
   release [v,ov,iv] [])):PS X (.Assign [.Subscript o i tp] a pos) (LS X.K Ξ (wpS P (.eP mo mi ma))) :=
 (Gs ha (Zi ho hi (ZL hu) ou) hs).imp λN bI H ⟨σ,g,ρ,s,R,h⟩ =>
  fc hP s R (.refl _ _) h λx g1 bJ H1 v1 e1 R1 r1 h=>fc hP (s.ext e1) R1 e1 h λy g2 fb H2 v2 e2 R2 r2 h=>fc hP (s.ext (e1.trans e2)) R2 (e1.trans e2) h λz g3 jY H3 v3 e3 R3 r3 h =>
   #[y,z,x,g3,jY,R3,r2.ext e3,r3,r1.ext (e2.trans e3),V9 (λg4 h lJ H4 e4 R4=>h lJ H4 bI (e1.trans (e2.trans (e3.trans e4))) R4 (s.ext (e1.trans (e2.trans (e3.trans e4))))) h]
omit hP in
def Ad(K:PySem.W.Frag)(f:Str)(cs:@&Str):Prop:=∀c C,c∈cs->m9 K c C->B6 K C f
omit hP in
def Tj(hF:Ad X.K f cs){ρ:@&Addr}{H:Hp}{g g':G}{x v:D}{xv vv:V}(R:Rl X.K ρ g H)(rx:c8 X.K ρ H x xv)(rv:c8 X.K ρ H v vv)(h:Ju f cs x v g g') :
  ∃a C dx fs,xv=.ref a/\H a=!.ins C dx fs/\jd X.K C/\B6 X.K C f/\-fs<1000/\Rl X.K ρ g' (upd H a (.ins C dx (v5 f vv fs)))/\Ext ρ H ρ (upd H a (.ins C dx (v5 f vv fs))):=by
 let#[i,c,fs,rfl,hi,hc,hz,rfl]:=h;let#[a',rfl,ra]:=rx.i4;let#[C,dx,vs,hH,hC,jb,rk,na]:=R.ins hi ra;let#[R',e']:=R.put (o':=.ins c (u7 f v fs)) (u:=.ins C dx (v5 f vv vs)) hi rfl ra #[hC,jb,rk.v5 rv,Fs (hF c C hc hC) na];show#[a',C,dx,vs,rfl,hH,jb,hF c C hc hC,by rw[<- -rk];omega,R',e']
def Tw(hF:Ad X.K f cs)(ho:PE X o (LE X.K Ξ (aY P mo)))(ha:PE X a (LE X.K Ξ (aY P ma)))(hs:swapsWith a (!.Attribute o f tp) pos.line X.env=pure false):PS X (.Assign [.Attribute o f tp] a pos) (LS X.K Ξ (wpS P (.dU f cs mo ma))) :=
 (Zn ho ha hs).imp λN bI H ⟨σ,g,ρ,s,R,h⟩=>fc hP s R (.refl _ _) h λx g1 bJ H1 v1 e1 R1 r1 h=>fc hP (s.ext e1) R1 e1 h λy g2 fb H2 v2 e2 R2 r2 h=>by
  let#[g3,h,q]:=h;let#[a',C,dx,fs,hx,hH,jb,na,hz,R3,e3]:=Tj hF R2 r2 (r1.ext e2) h;show#[a',C,dx,fs,hx,hH,jb,na,hz,q fb _ bI (e1.trans (e2.trans e3)) R3 (s.ext (e1.trans (e2.trans e3)))]
def Tu{op:Operator}{p:Pr}(pA:(op=.Add/\p=.iadd)\/(op=.Sub/\p=.sh))(hN:X.Nd)(hi:X.N[i]?=!x)(hx:Loc X.env.scope x)(hf:X.fn x=true\/X.env.scope.names.lookup x=!.local)(ha:PE X a (LE X.K Ξ (aY P ma))):PS X (.AugAssign (.Name x tp) op a pos) (LS X.K Ξ (wpS P (.nW i p ma))):=by
 let ho:OE X op (r2 X.K p):=by
  intro pi s σ H x y v u Q I rx ry h;let#[d,e,g,ρ,R,rd,re,d',g',hr,q]:=h;rcases pA with⟨rfl,rfl⟩|⟨rfl,rfl⟩
  .rcases hr with⟨i,j,ex,rfl,rfl⟩|⟨l,m,ex,hz,rfl,rfl⟩
   .let#[rfl,rfl]:=A1 ex;obtain rfl:=rd.i0;obtain rfl:=re.i0;show bA7 pi s σ H _ _ v u Q I rx ry #[i,j,rfl,rfl,q.now R (.int _)]
   .let#[rfl,rfl]:=A1 ex;let#[p1,zq,rfl,t1,ng]:=rd.w9;let#[p2,oU,rfl,t2,lQ]:=re.w9;show Mh pi s σ H _ _ v u Q I rx ry (.inr #[p1,p2,zq,oU,rfl,rfl,t1.sq,t2.sq,by rw[<- -ng,<- -lQ];show i5 hz,λz=>?_,λz=>?_,λp hp=>q.tup R hp (ng.append lQ)])
    .subst z;cases ng;show q.now R (.tup t2 lQ)
    .subst z;cases lQ;rw[eV] at q;show q.now R (.tup t1 ng)
  .let#[i,j,ex,rfl,rfl]:=hr;let#[rfl,rfl]:=A1 ex;obtain rfl:=rd.i0;obtain rfl:=re.i0;show bA6 pi s σ H _ _ v u Q I rx ry #[i,j,rfl,rfl,q.now R (.int _)]
 show(Zm hN hi hx ha ho hf).imp λN bI H bh=>?_;let#[σ,g,ρ,s,R,h]:=bh;let#[xd,Qn,h]:=h;let#[xv,hv,rx]:=s.val _ _ Qn;show#[xv,hv,fc hP s R (.refl _ _) h λz g1 bJ H1 v1 e1 R1 r1 h=>?_];show#[xd,z,g1,bJ,R1,rx.ext e1,r1,p9 (λw g2 q=>?_) h];show λfb H2 v2 e2 R2 r2=>q fb H2 _ (e1.trans e2) R2 ((s.ext (e1.trans e2)).set i r2)
def Tt(hF:Ad X.K f cs)(ho:PE X o (LE X.K Ξ (aY P mo)))(ha:PE X a (LE X.K Ξ (aY P ma))):PS X (.AugAssign (.Attribute o f tp) .Add a pos) (LS X.K Ξ (wpS P (.kq f cs mo ma))) :=
 (a36 ho ha Mh).imp λN bI H ⟨σ,g,ρ,s,R,h⟩=>fc hP s R (.refl _ _) h λy g1 bJ H1 v1 e1 R1 r1 h=>by
  let#[i,c,fs,x,rfl,hi,hc,hf,h]:=h;let#[a',rfl,ra]:=r1.i4;let#[C,dx,vs,hH,hC,jb,rk,na]:=R1.ins hi ra;let lk:=rk.look f;rw[hf] at lk;let#[v,hv,rv]:=lk.some;show#[a',C,dx,vs,v,rfl,hH,jb,hF c C hc hC,hv,fc hP (s.ext e1) R1 e1 h λz g3 jY H3 v3 e3 R3 r3 h=>?_];let#[d',g',hR,jc,kQ,hz,q]:=h;let fin:∀{lJ:@&Addr} {H4:Hp} {vv:V},Ext jY H3 lJ H4->Rl X.K lJ g' H4->c8 X.K lJ H4 d' vv->∃uG jc,H4 a'=!.ins C uG jc/\-jc<1000/\N.nx bI (upd H4 a' (.ins C uG (v5 f vv jc))):=by
   intro lJ H4 vv e4 R4 r4;let#[C2,Io,oU,CM,Ia,CA,Ha,Py]:=R4.ins kQ ((e3.trans e4).get ra);have:C2=C:=by grind
   subst this;let#[R5,e5]:=R4.put (o':=.ins c (u7 f d' jc)) (u:=.ins C2 Io (v5 f vv oU)) kQ rfl ((e3.trans e4).get ra) #[Ia,CA,Ha.v5 r4,Fs (hF c C2 hc Ia) Py];show#[Io,oU,CM,by rw[<- -Ha];omega,q lJ _ bI (e1.trans (e3.trans (e4.trans e5))) R5 (s.ext (e1.trans (e3.trans (e4.trans e5))))]
  rcases hR with⟨j,l,ex,rfl,rfl⟩|⟨l,m,ex,Hs,rfl,rfl⟩
  .let#[rfl,rfl]:=A1 ex;obtain rfl:=rv.i0;obtain rfl:=r3.i0;show .inl #[_,_,rfl,rfl,fin (.refl _ _) R3 (.int _)]
  .let#[rfl,rfl]:=A1 ex;let#[p1,zq,rfl,t1,ng]:=(rv.ext e3).w9;let#[p2,oU,rfl,t2,lQ]:=r3.w9;show .inr #[p1,p2,zq,oU,rfl,rfl,t1.sq,t2.sq,by rw[<- -ng,<- -lQ];show i5 Hs,λz=>?_,λz=>?_,λp hp=>?_]
   .subst z;cases ng;show fin (.refl _ _) R3 (.tup t2 lQ)
   .subst z;cases lQ;rw[eV] at fin;show fin (.refl _ _) R3 (.tup t1 ng)
   .exact fin (o8 hp) (R3.grow hp) (.tup (.inl k7) ((ng.append lQ).ext (o8 hp)))
def XD{sa sb:@&Stmt}{Hm msb:MS}(hc:PT X c (LT X.K Ξ (dN P mc)))(ha:jv X sa (LS X.K Ξ (wpS P Hm)))(hb:jv X sb (LS X.K Ξ (wpS P msb))):PS X (.If c sa sb pos) (LS X.K Ξ (wpS P (.ifs mc Hm msb))) :=
 (Xo hc ha hb).imp λN bI H ⟨σ,g,ρ,s,R,h⟩=>rD hP s R (.refl _ _) h λt g1 bJ H1 e1 R1 h=>by
  cases t
  .exact vP hP (s.ext e1) R1 e1 h (LN.ext e1)
  .exact vP hP (s.ext e1) R1 e1 h (LN.ext e1)
def Oo(ha:PE X a (LE X.K Ξ (aY P ma))):PS X (.Return (!a) pos) (LS X.K Ξ (wpS P (.ret ma))) :=
 (Zq ha).imp (by rintro N bI H ⟨σ,g,ρ,s,R,h⟩;show #[σ,g,ρ,s,R,h])
def ZZ{iter:Expr}{body:@&Stmt}{mb:MS}(hp:PassesOwn (model X.prog X.w) X.A X.env X.xe)(hc:X.calm=true)(hi:PI X tg iter (LI X.K Ξ (iW P mi)))(hg:PG X tg (LG X.K t))(hb:jv X body (LS X.K Ξ (wpS P mb)))(hs:∀x,foldedSetIterable iter X.env x=pure x):PS X (.For tg iter body [] pos) (LS X.K Ξ (wpS P (.jK t mi mb))) :=
 (Zo hp hc hi hg hb hs).imp λN bI H bh=>by
  let#[σ,g,ρ,s,R,h]:=bh;show#[σ,g,ρ,s,R,B7 hP mi _ _ _ _ _ _ (λk g1 h bJ H1 J e1 R1 j1=>?_) (λu u z=>z) h];let#[W,#[m0,w0],h]:=h;show#[λi m dJ H'=>∃cu g' bE,Ext bJ H1 bE H'/\l9 X.K bE H' cu dJ/\Rl X.K bE g' H'/\W i m cu g',#[m0,σ,g1,bJ,.refl _ _,s.ext e1,R1,w0],?_];rintro i m dJ H' ⟨cu,g',bE,e',s',R',w'⟩;let#[wI,wH]:=j1 bE g' H' e' R' i;rcases h i m cu g' w' with⟨ek,q⟩|⟨x,ek,N2,Ra,q⟩
  .exact .inl #[wI ek,q bE H' dJ (e1.trans e') R' s']
  .let#[go,yl]:=wH x ek;show .inr #[go,λmW H2=>∃dz g2 fb,Ext bJ H1 fb H2/\l9 X.K fb H2 dz mW/\Rl X.K fb g2 H2/\N2 dz g2,?_,?_]
   .rintro mW H2 ⟨dz,g2,fb,e2,s2,R2,n2⟩;let#[m',hm,w2]:=Ra dz g2 n2;show#[m',hm,dz,g2,fb,e2,s2,R2,w2]
   .intro v H2 y;let#[e2,R2,r2]:=yl v H2 y;show#[x,cu,g',bE,s'.ext e2,R2,r2,C8 (λdz q mW s2=>?_) q];show vP hP s2 R2 (e1.trans (e'.trans e2)) q #[?_,?_,?_,?_]
    .exact λlI g3 n3 jY H3 rn e3 R3 s3=>#[lI,g3,jY,(e'.trans e2).trans e3,s3,R3,n3]
    .exact λd g3 h=>h.ext (e1.trans (e'.trans e2))
    .exact λlI g3 h jY H3 rn e3 R3 s3=>h jY H3 rn (e1.trans ((e'.trans e2).trans e3)) R3 s3
    .exact λlI g3 n3 jY H3 rn e3 R3 s3=>#[lI,g3,jY,(e'.trans e2).trans e3,s3,R3,n3]
def Na{c9:@&Nat}{n:Nat}{iX me:ME}:∀bI H Q,LE X.K Ξ (aY P (.comp c9 n t mi iX me)) bI H Q->yB (LI X.K Ξ (iW P mi)) c9 n (LG X.K t) (LT X.K (oE Ξ.1) (dN P iX)) (LE X.K (oE Ξ.1) (aY P me)) bI H Q:=λbI H Q bh=>by
 let#[σ,g,ρ,s,R,h]:=bh;show#[σ,g,ρ,s,R,B7 hP mi _ _ _ _ _ _ (λk g1 h bJ H1 J e1 R1 j1=>?_) (λw w z=>z) h];let#[W,#[m0,w0],h]:=h;show#[λi m vK dJ H'=>∃ys cu g' bE,Ext bJ H1 bE H'/\l9 X.K bE H' cu dJ/\Rl X.K bE g' H'/\a9 X.K bE H' ys vK/\W i m ys cu g',#[m0,[],_,g1,bJ,.refl _ _,(s.ext e1).c9 c9 n,R1,.nil,w0],?_];rintro i m vK dJ H' ⟨ys,cu,g',bE,e',s',R',ry,w'⟩;let#[wI,wH]:=j1 bE g' H' e' R' i;rcases h i m ys cu g' w' with⟨ek,q⟩|⟨x,ek,hz,q⟩
 .exact .inl #[wI ek,λp hp=>(q.ext (e1.trans e')).new R' hp ry]
 .let#[go,yl]:=wH x ek;show .inr #[go,by rw[<- -ry];show AB hz,λv H2 y=>?_];let#[e2,R2,r2]:=yl v H2 y;show#[x,cu,g',bE,s'.ext e2,R2,r2,C8 (λdz q mW s2=>?_) q];show#[dz,g',bE,s2,R2,u3 hP iX _ _ _ _ _ _ (λb g3 q jY H3 e3 R3=>?_) (λw w z=>z.elim) q];cases b
  .let#[m',hm,w3]:=q;show#[m',hm,ys,dz,g3,jY,(e'.trans e2).trans e3,s2.ext e3,R3,(ry.ext e2).ext e3,by simpa using w3]
  .refine#[dz,g3,jY,s2.ext e3,R3,b7 hP me _ _ _ _ _ _ (λz g4 q lJ H4 v4 e4 R4 r4=>?_) (λw w z=>z.elim) q];let#[m',hm,w4]:=q;show#[m',hm,ys++[z],dz,g4,lJ,(e'.trans e2).trans (e3.trans e4),(s2.ext e3).ext e4,R4,(((ry.ext e2).ext e3).ext e4).append (.cons r4 .nil),by simpa using w4]
def a33{c9:@&Nat}{n:Nat}{iX me:ME}:∀bI H Q,LE X.K Ξ (aY P (.gX c9 n t mi iX me)) bI H Q->yB (LI X.K Ξ (iW P mi)) c9 n (LG X.K t) (LT X.K (oE Ξ.1) (dN P iX)) (LE X.K Ξ (aY P me)) bI H Q:=λbI H Q bh=>by
 let#[σ,g,ρ,s,R,h]:=bh;show#[σ,g,ρ,s,R,B7 hP mi _ _ _ _ _ _ (λk g1 h bJ H1 J e1 R1 j1=>?_) (λw w z=>z) h];let#[W,#[m0,w0],h]:=h;show#[λi m vK dJ H'=>∃ys cu g' bE,Ext bJ H1 bE H'/\l9 X.K bE H' cu dJ/\Rl X.K bE g' H'/\a9 X.K bE H' ys vK/\W i m ys cu g',#[m0,[],_,g1,bJ,.refl _ _,(s.ext e1).c9 c9 n,R1,.nil,w0],?_];rintro i m vK dJ H' ⟨ys,cu,g',bE,e',s',R',ry,w'⟩;let#[wI,wH]:=j1 bE g' H' e' R' i;rcases h i m ys cu g' w' with⟨ek,q⟩|⟨x,ek,hz,q⟩
 .exact .inl #[wI ek,λp hp=>(q.ext (e1.trans e')).new R' hp ry]
 .let#[go,yl]:=wH x ek;show .inr #[go,by rw[<- -ry];show AB hz,λv H2 y=>?_];let#[e2,R2,r2]:=yl v H2 y;show#[x,cu,g',bE,s'.ext e2,R2,r2,C8 (λdz q mW s2=>?_) q];show#[dz,g',bE,s2,R2,u3 hP iX _ _ _ _ _ _ (λb g3 q jY H3 e3 R3=>?_) (λw w z=>z.elim) q];cases b
  .let#[m',hm,w3]:=q;show#[m',hm,ys,dz,g3,jY,(e'.trans e2).trans e3,s2.ext e3,R3,(ry.ext e2).ext e3,by simpa using w3]
  .refine#[dz,g3,jY,s2.ext e3,R3,b7 hP me _ _ _ _ _ _ (λz g4 q lJ H4 v4 e4 R4 r4=>?_) (λw w z=>z.ext (e1.trans ((e'.trans e2).trans e3))) q];let#[m',hm,w4]:=q;show#[m',hm,ys++[z],dz,g4,lJ,(e'.trans e2).trans (e3.trans e4),(s2.ext e3).ext e4,R4,(((ry.ext e2).ext e3).ext e4).append (.cons r4 .nil),by simpa using w4]
end
end M
namespace M
open PySem L2
section
variable{P:ff}(hP:i3 P)
include hP
end
end M
namespace M
open PySem L2 PySem.Spec PyProof.Rows
variable{X:Cx}{Ξ:gZ}{P:ff}{x qual:Str}{pos:Pos}{c:d7}{i n k:Nat}{e o b a d:Expr}{es args:@&Expr}{env:Env}{p:Pr}{f:Addr}{sc scope:Scope}{A:Around}{s:Shared}{H:Hp}{r:CF}{m:ME}{cd:Value}{N:@&Str}{outer:@&Env}{E:XK}
section
variable(hP:i3 P)
include hP
def VI{C:Addr}{B newId gL:String}{bm:@&Value}{np eG:Pos}{jL:Expr}{rest:@&Expr}{gR:ME}(hc:X.calm=true)(O:OwnCls x C bm newId X.mg X.base)(FB:ExcBaseFacts B newId gL bm)(hg:Gl X x)(ha:PA X (jL::rest) (LA X.K Ξ (fz P gR)))(hr:Au X Ξ.2)(hx:x∈Ξ.1)(hC:m9 X.K x C)(he:starEach (jL::rest) X.env=(false,eval jL X.env)::starEach rest X.env)(eU:(backTo eG (starEach rest X.env)).any (·.1)=false)(hd:(x==("__debug__":Str))=false):PS X (.Raise (!.Call (.Name x np) (jL::rest) [] eG) none pos) (LS X.K Ξ (wpS P (.raise x gR))) :=
 (Vi hc O FB hg ha hr he eU hd).imp λN bI H bh=>by
  let#[σ,g,ρ,s,R,h]:=bh;show jP hP s R (.refl _ _) h λds g1 bJ H1 vs e1 R1 r1 h=>?_;show#[by rw[<- -r1];show i5 (aH h.1 ∅),h.2 bJ H1 C e1 R1 hx hC]
abbrev AZ(X:Cx)(ex:@&Str)(D:L2.Ends)(cZ:L2.St)(hs:@&ExceptHandler):gZ:=(ex,λv x H=>∃C,v=.ref C/\tG X D cZ C H hs)
inductive kx(X:Cx)(Ξ:gZ)(P:ff):@&ExceptHandler->@&(Str×ME)->Prop
 |nil (hh:ve X Ξ.2):kx X Ξ P [] []
 |cons {y:Str} {C':Addr} {p p1 p2:Pos} {e:Expr} {me:ME} {hs:@&ExceptHandler} {ms:@&(Str×ME)} (hg:Gl X y) (hd:(y==("__debug__":Str))=false) (hm:X.mg y=!.ref C')
   (hx:∀x C,x∈Ξ.1->m9 X.K x C->PySem.W.exmOne X.K (.ref C) (.ref C')=!decide (x=y\/y="MintError")) (he:∀ea,PE (E8 X ea) e (LE X.K (oE Ξ.1) (aY P me))) (r:kx X Ξ P hs ms) :
   kx X Ξ P (.ExceptHandler (!.Name y p) none [.Return (!e) p1] p2::hs) ((y,me)::ms)
 |og {y:Str} {C':Addr} {p p2:Pos} {nU:Stmt} {su:@&Stmt} {hs:@&ExceptHandler} {ms:@&(Str×ME)} (hg:Gl X y) (hd:(y==("__debug__":Str))=false) (hm:X.mg y=!.ref C')
   (hx:∀x C,x∈Ξ.1->m9 X.K x C->PySem.W.exmOne X.K (.ref C) (.ref C')=!decide (x=y\/y="MintError")) (r:kx X Ξ P hs ms) :
   kx X Ξ P (.ExceptHandler (!.Name y p) none (nU::su) p2::hs) ((y,.no)::ms)
set_option tactic.hygienic true in
def EM{N:L2.Ends}{ρ bE:@&Addr}{H H':Hp}{σ:S}{g:G}{x:Xn}{C:Addr}(hl:σ.length=-X.N)(e:Ext ρ H bE H')(R:Rl X.K bE g H')(hx:x.cls∈Ξ.1)(hC:m9 X.K x.cls C) :
  ∀{hs:@&ExceptHandler} {ms:@&(Str×ME)},kx X Ξ P hs ms->lK P (LN X.K ρ H N) (σ.map λw=>none) (LX X.K ρ H Ξ) ms x g->tG X N (List.replicate (-X.N) none) C H' hs
 |_,_,.nil hh,q=>#[Ξ.2,hh,q bE H' C e R hx hC]
 |_,_,.cons (me:=me) hg hd hm BY he r,q=>by
  show#[hg,hd,_,_,hm,BY _ _ hx hC,?_];unfold lK at q;split at q
  .rename_i ex;rw[aw (_/ex)];show#[LS X.K (oE Ξ.1) (wpS P (.seq (.ret me) .pass)),λea=>MM (X:=E8 X ea) (Ξ:=oE Ξ.1) hP (Oo (X:=E8 X ea) hP (he ea)) (Om (X:=E8 X ea) hP),?_];show#[σ.map λw=>none,g,bE,#[by simp[hl],λi d z=>?_],R,?_]
   .rw[aD] at z;cases e:σ[i]? with
    |none=>rw[e] at z;cases z
    |some y=>rw[e] at z;cases z
   .skip
    show b7 hP me _ _ _ _ _ _ (λd g1 h=>?_) (λw w z=>z.elim) q;show h.ext e
  .rename_i ex;rw[az (_/ex)];show EM hl e R hx hC r q
 |_,_,.og hg hd hm BY r,q=>by
  show#[hg,hd,_,_,hm,BY _ _ hx hC,?_];unfold lK at q;split at q
  .exact(show False from q).elim
  .rename_i ex;rw[az (_/ex)];show EM hl e R hx hC r q
def Z'{h₀:ExceptHandler}{hs:@&ExceptHandler}{ms:@&(Str×ME)}{body:@&Stmt}{mb:MS}(oj:X.sg=none)(hb:∀pi D,jv (V8 X pi (Bs X pi D (h₀::hs))) body (LS X.K (AZ X Ξ.1 D (List.replicate (-X.N) none) (h₀::hs)) (wpS P mb)))(hh:kx X Ξ P (h₀::hs) ms):PS X (.Try body (h₀::hs) [] [] pos) (LS X.K Ξ (wpS P (.R9 mb ms))):=by
 intro pi s bI H N I ⟨σ,g,ρ,sr,R,h⟩;show Zr (t:=λD y=>LS X.K (AZ X Ξ.1 D (List.replicate (-X.N) none) (h₀::hs)) (wpS P mb)) (Ξ:=λD y=>(AZ X Ξ.1 D (List.replicate (-X.N) none) (h₀::hs)).2) (λy=>none) (λy=>List.replicate (-X.N) none) (λy y z=>by cases z) oj (λpi D y y=>hb pi D) pi s bI H N I #[(by rintro C H' ⟨C',e,z⟩;simp_all),?_];show#[σ,g,ρ,sr,R,wpS_mono hP mb _ _ _ _ _ _ #[λy y z=>z,λy y z=>z,λy y z=>z,λy y z=>z] (λx g1 q bE H' C e' R' hm hc=>#[C,rfl,?_]) h];show EM (Ξ:=Ξ) hP (sr.len.trans I.len) e' R' hm hc hh q
end
structure d7 where
 N:@&Str
 nm:@&(Str×NameKind)
 oA:Bool
 fns:@&(Str×Nat)
 con:@&(Str×D)
 blt:@&Str
 exc:@&Str
 gd:@&(Str×@&D)
 cls:@&(Str×Nat)
 nj:@&(Str×Str×Nat)
 nS:@&(Str×Str)
 jD:Bool
 iF:Bool
 wr:Bool:=true
abbrev gK:Expr->Bool
 |.Set ..=>false
 |.Starred ..=>false
 |.Slice ..=>false
 |_=>true
abbrev x8:Expr->Bool
 |.ListComp ..=>false
 |.SetComp ..=>false
 |.DictComp ..=>false
 |_=>true
abbrev tJ:Expr->Bool
 |.Tuple ..=>false
 |_=>true
abbrev Fg:Expr->Bool
 |.Name ..=>true
 |.Call ..=>true
 |.Subscript ..=>true
 |.Constant ..=>true
 |.Attribute ..=>true
 |.BinOp ..=>true
 |_=>false
abbrev yH:Expr->Bool
 |.Call (.Name ..) [] ..=>false
 |_=>true
abbrev d7.idx(c:d7)(x:Str):Option Nat:=c.N.findIdx? λy=>decide (y=x)
def d7.rC(c:d7)(x:Str):Bool:=match c.nm.lookup x with
 |some .local=>true
 |some .cell=>true
 |some .free=>true
 |_=>false
def d7.gl(c:d7)(x:Str):Bool:=decide (c.nm.lookup x=!.globalImplicit)
def d7.A7(c:d7)(x:Str):Bool:=decide (c.nm.lookup x=!.local)||decide (c.nm.lookup x=!.cell)
def S0(x:Str):Bool:=(x==("__debug__":Str))==false&&(x==("__classdict__":Str))==false&&decide (x≠"__name__")
abbrev FQ:@&(Str×String):=[("int","int"),("bool","bool"),("str","str"),("tuple","tuple"),("list","list")]
abbrev Ge:@&(Str×Pr):=[("len",.len),("list",.list),("tuple",.tuple),("isinstance",.isin),("all",.all),("int",.int),("str",.str),("dict",.ko)]
abbrev yO:@&(Str×Pr):=[("clear",.clear),("pop",.jF)]
abbrev Gm:@&(Str×Pr):=[("append",.append),("join",.join),("split",.split)]
abbrev U1:Expr->Option (Str×@&Expr)
 |.Call (.Name x _) args [] _=>!(x,args)
 |_=>none
abbrev Iz:Expr->Bool
 |.Tuple ..=>true
 |_=>false
abbrev asName:Expr->Option Str
 |.Name x _=>!x
 |_=>none
abbrev frees(sc:Scope):@&Str:=(sc.names.filter λy=>decide (y.2=.free)).map (·.1)
abbrev locals(sc:Scope):@&Str:=(sc.names.filter λy=>decide (y.2=.local)||decide (y.2=.cell)).map (·.1)
def d7.inner(c:d7)(sc:Scope):d7:={ c with N:=frees sc++locals sc,nm:=sc.names,oA:=false,jD:=false,iF:=false,wr:=true }
abbrev d7.c9(c:d7)(sc:Scope):@&Nat:=(frees sc).map λx=>(c.idx x).getD 0
abbrev d7.Et(c:d7)(sc:Scope):Bool :=
 decide (sc.kind=.function)&&sc.names.all (λy=>~~~decide (y.2=.cell)||decide (sc.names.lookup y.1=!.cell))&&sc.names.all (λy=>~~~decide (y.2=.local)||decide (sc.names.lookup y.1=!.local)) &&
 decide (frees sc++locals sc).Nodup&&(frees sc).all (λx=>(c.idx x).isSome&&decide (sc.names.lookup x=!.free)&&(decide (c.nm.lookup x=!.cell)||decide (c.nm.lookup x=!.free)))
abbrev d7.slot(c:d7)(e:Expr):Option Nat:=(asName e).bind λx=>if c.A7 x then c.idx x else none
abbrev d7.slots(c:d7):@&Expr->Option (@&Nat)
 |[]=>![]
 |e::r=>(c.slot e).bind λi=>(c.slots r).map λis=>i::is
abbrev d7.tg(c:d7)(e:Expr):Option MT:=((c.slot e).map .one).orElse λx=>match e with
 |.Tuple es _ _=>(c.slots es).map .many
 |_=>none
abbrev tI:Const->Option D
 |.int i=>!.int i
 |.bool b=>!.bl b
 |.none=>!.aR
 |.str x=>!.str x
 |_=>none
structure CF where
 e:d7->Expr->Option ME
 t:d7->Expr->Option ME
 s:d7->Stmt->Option MS
section
variable(r:CF)(c:d7)
abbrev c1(p:Pr)(a:Expr):Option ME:=(r.e c a).map λm=>.prim p (.cons m .nil)
abbrev c2(p:Pr)(a b:Expr):Option ME:=(r.e c a).bind λma=>(r.e c b).map λmb=>.prim p (.cons ma (.cons mb .nil))
abbrev G0:@&Expr->Option ME
 |[]=>!.nil
 |e::es=>if gK e then(r.e c e).bind λm=>(G0 es).map λms=>.cons m ms else none
abbrev JJ:Expr->Option Str
 |.Constant (.str x) _ _=>!x
 |_=>none
abbrev JP:Expr->Option Expr
 |.FormattedValue e k none _=>if k=-1 then some e else none
 |_=>none
abbrev yt:@&Expr->Option ME
 |[]=>!.nil
 |e::es=>((JJ e).bind λx=>if (-x)<=2000 then(yt es).map λms=>.cons (.lit (.str x)) ms else none).orElse λ_ =>
   (JP e).bind λa=>(r.e c a).bind λm=>(yt es).map λms=>.cons (.prim .fv (.cons m .nil)) ms
abbrev Bc:@&(Option Expr)->@&Expr->Option ME
 |[],[]=>!.nil
 |some k::ks,v::vs=>(r.e c k).bind λmk=>(r.e c v).bind λmv=>(Bc ks vs).map λms=>.cons mk (.cons mv ms)
 |_,_=>none
abbrev FC(op:BoolOp):@&Expr->Option ME
 |[]=>none
 |[a]=>r.e c a
 |a::b::rs=>(r.e c a).bind λma=>(FC op (b::rs)).map λmb=>match op with
  |.And=>.eI ma mb
  |.Or=>.hW ma mb
abbrev FD(op:BoolOp):@&Expr->Option ME
 |[]=>none
 |[a]=>r.t c a
 |a::b::rs=>(r.t c a).bind λma=>(FD op (b::rs)).map λmb=>match op with
  |.And=>.eI ma mb
  |.Or=>.hW ma mb
abbrev JL:@&Expr->Option ME
 |[]=>!.no
 |[e]=>r.t c e
 |_=>none
abbrev B0:@&Stmt->Option MS
 |[]=>!.pass
 |s::rs=>(r.s c s).bind λm=>(B0 rs).map λms=>.seq m ms
abbrev F'(x:Str):Option ME :=
 if S0 x then(if c.rC x then(c.idx x).map .var else if c.gl x then((c.con.lookup x).map .lit).orElse λy=>if c.blt.contains x then(FQ.lookup x).map λt=>.lit (.ty t) else none else none) else none
abbrev BC(op:UnaryOp)(a:Expr):Option ME:=if op=.Not then(r.e c a).map .cK else c1 r c (.un op) a
abbrev d7.DW(b:Expr):Option (@&D):=(asName b).bind λx=>if c.gl x&&S0 x then c.gd.lookup x else none
abbrev b51:CmpOp->Option Bool
 |.In=>!false
 |.NotIn=>!true
 |_=>none
abbrev yW(a:Expr)(ops:@&CmpOp)(bs:@&Expr):Option ME:=match ops,bs with
 |[op],[b]=>if behindInMarks op b then none else((b51 op).bind λneg=>(c.DW b).bind λkvs=>(r.e c a).map λma=>.prim (Bg neg) (.cons (.lit (.tup kvs)) (.cons ma .nil))).orElse λx=>c2 r c (.cmp op) a b
 |[op,iA],[b,d]=>if lastMarks [op,iA] [b,d] then none else(r.e c a).bind λma=>(r.e c b).bind λmb=>(r.e c d).map λmd=>.chain op iA ma mb md
 |_,_=>none
abbrev Gb:Expr->Bool
 |.UnaryOp .USub (.Constant (.int i) _ _) _=>decide (i=1)
 |_=>false
abbrev b61:Expr->Option (Option Expr×Option Expr×Option Expr)
 |.Slice lo hi st _=>!(lo,hi,st)
 |_=>none
abbrev GU(a:Expr):Option Expr->Option Expr->Option Expr->Option ME
 |some b,none,none=>c2 r c (.mZ true false) a b
 |none,!b,none=>c2 r c (.mZ false true) a b
 |none,none,!d=>if Gb d then c1 r c .rev a else none
 |_,_,_=>none
abbrev Km(a b:Expr):Option ME:=((b61 b).bind λq=>GU r c a q.1 q.2.1 q.2.2).orElse λx=>if gK b then((c.DW a).bind λkvs=>(r.e c b).map λmb=>.prim .kS (.cons (.lit (.tup kvs)) (.cons mb .nil))).orElse λx=>c2 r c .ix a b else none
abbrev GS(x:Str)(e:Expr):Option ME:=(U1 e).bind λq =>
 if x="list" && q.1="range" && c.blt.contains "list" && c.blt.contains "range" && c.gl "range" then (match q.2 with
  |[a]=>if gK a then c1 r c .ke a else none
  |[a,b]=>if gK a&&gK b then c2 r c .kd a b else none
  | _=>none)
 else if x="sorted" && q.1="set" && c.blt.contains "sorted" && c.blt.contains "set" && c.gl "set" then (match q.2 with
  |[a]=>if gK a then c1 r c .sset a else none
  | _=>none)
 else if x="len" && q.1="set" && c.blt.contains "len" && c.blt.contains "set" && c.gl "set" then (match q.2 with
  |[a]=>if gK a then c1 r c .tj a else none
  | _=>none)
 else none
abbrev Wh(x:Str)(e:Expr):@&Expr->Option ME
 |[]=>GS r c x e
 |_=>none
abbrev GA(x:Str):Option ME:=if S0 x&&c.gl x then((c.fns.lookup x).map λf=>.call f .nil).orElse λy=>(c.cls.lookup x).map λf=>.make x f .nil else none
abbrev GB(x:Str)(e:Expr)(es:@&Expr):Option ME:=if S0 x&&c.gl x then(Wh r c x e es).orElse λy=>(G0 r c (e::es)).bind λms=>((c.fns.lookup x).map λf=>.call f ms).orElse λy=>((c.cls.lookup x).map λf=>.make x f ms).orElse λy=>if c.blt.contains x then(Ge.lookup x).map λp=>.prim p ms else none else none
abbrev OD(x:Str):@&Expr->Option ME
 |[]=>GA c x
 |e::es=>GB r c x e es
abbrev d7.meths(m:Str):@&(Str×Nat):=(c.nj.filter λy=>decide (y.1=m)).map (·.2)
abbrev GC(o:Expr)(m:Str)(apos pos:Pos)(args:@&Expr):Option ME :=
 if yH o && (apos.endLine == pos.line) && decide (-args < 20) then (r.e c o).bind λmo=>(G0 r c args).bind λms=>if m="index" then (if args.isEmpty then none else !.dk .index mo ms) else if args.isEmpty && (yO.lookup m).isSome then (yO.lookup m).map λp=>.dk p mo ms else (match Gm.lookup m with
  |some p=>if args.isEmpty then none else !.dk p mo ms
  | none=>!.bp m (c.meths m) mo ms) else none
abbrev FZ(f:Expr)(args:@&Expr)(jk:@&Keyword)(pos:Pos):Option ME:=if jk.isEmpty then(match f with
 |.Name x _=>OD r c x args
 |.Attribute o m apos=>GC r c o m apos pos args
 | _=>none) else none
abbrev yu(tg e:Expr):Option ME:=(((U1 e).bind λq =>
  if q.1="range" then (match q.2 with
   |[a]=>if c.gl "range"&&c.blt.contains "range"&&gK a then(r.e c a).map .gC else none
   |[a,b]=>if c.gl "range"&&c.blt.contains "range"&&gK a&&gK b then(r.e c a).bind λma=>(r.e c b).map λmb=>.iH ma mb else none
   | _=>none)
  else if q.1="zip" then (match q.2 with
   |[a,b]=>if c.gl "zip"&&c.blt.contains "zip"&&gK a&&gK b&&Iz tg then(r.e c a).bind λma=>(r.e c b).map λmb=>.oh ma mb else none
   | _=>none)
  else none):Option ME).orElse λx=>if gK e then (r.e c e).map .iJ else none
abbrev vd(elt:Expr)(gens:@&Comprehension)(sc:Scope):Option ME:=match gens with
 |[#[tg,it,ifs,Hr]]=>if c.Et sc&&decide (Hr=0)&&gK it then((c.inner sc).tg tg).bind λt=>(yu r c tg it).bind λmi=>(JL r (c.inner sc) ifs).bind λmc=>(r.e (c.inner sc) elt).map λme=>.comp (c.c9 sc) (frees sc++locals sc).length t mi mc me else none
 |_=>none
abbrev b62:Expr->Option Str
 |.Name x _=>!x
 |_=>none
abbrev BD(f:Expr)(args:@&Expr)(jk:@&Keyword):Option ME:=(λ(_:CF) (_:d7)=>none) r c
abbrev JO:Expr->Option (Expr×Expr)
 |.BinOp a .BitOr b _=>!(a,b)
 |_=>none
abbrev DQ:@&Expr->Option Str
 |[.Name x _]=>!x
 |_=>none
abbrev zp(f:Expr)(args:@&Expr)(jk:@&Keyword):Option ME:=match args with
 |[a]=>if jk.isEmpty&&decide (b62 f=some "sorted")&&c.gl "sorted"&&c.blt.contains "sorted"&&c.gl "set"&&c.blt.contains "set" then(JO a).bind λq=>(U1 q.1).bind λu=>(U1 q.2).bind λv=>if decide (u.1="set")&&decide (v.1="set") then(DQ u.2).bind λx=>(DQ v.2).bind λy=>if S0 x&&S0 y&&c.rC x&&c.rC y then(c.idx x).bind λi=>(c.idx y).map λj=>.prim .vS (.cons (.var i) (.cons (.var j) .nil)) else none else none else none
 |_=>none
abbrev Jw:Expr->Option ME
 |.Name x _=>F' c x
 |.Constant k _ _=>(tI k).map .lit
 |.BinOp a op b _=>c2 r c (.bin op) a b
 |.UnaryOp op a _=>BC r c op a
 |.Compare a ops bs _=>yW r c a ops bs
 |.BoolOp op vs _=>FC r c op vs
 |.IfExp t a b _=>(r.t c t).bind λmt=>(r.e c a).bind λma=>(r.e c b).map λmb=>.ite mt ma mb
 |.Tuple es _ _=>(G0 r c es).map (.prim .tup)
 |.List es _=>(G0 r c es).map (.prim .lst)
 |.Subscript a b _=>Km r c a b
 |.Dict ks vs _=>if ks.isEmpty&&vs.isEmpty then some (.prim .mm .nil) else if decide (-ks<=15) then(Bc r c ks vs).map .oB else none
 |.JoinedStr vs _=>if decide (2<=-vs)&&decide (-vs<=40) then(yt r c vs).map (.prim .mj) else none
 |.Attribute o f _=>if yH o then c1 r c (.fld f) o else none
 |.Call f args jk pos=>(BD r c f args jk).orElse λy=>(zp c f args jk).orElse λy=>FZ r c f args jk pos
 |.ListComp elt gens sc _=>vd r c elt gens sc
 |_=>none
abbrev stepT:Expr->Option ME
 |.UnaryOp op a _=>if op=.Not then(r.t c a).map .cK else none
 |.BoolOp op vs _=>FD r c op vs
 |.Compare a ops bs _=>(yW r c a ops bs).map .dY
 |e=>if Fg e then(r.e c e).map .dY else none
abbrev IV:Expr->Option ME
 |.Constant k _ _=>(tI k).map .lit
 |_=>none
abbrev Gg:@&Expr->Option ME
 |[]=>!.nil
 |e::es=>(IV e).bind λm=>(Gg es).map λms=>.cons m ms
abbrev IU:Expr->Option ME
 |.List es _=>(Gg es).map (.prim .lst)
 |.Constant k _ _=>(tI k).map .lit
 |_=>none
abbrev Wi:@&Stmt->Option Expr
 | [s]=>(match s with
  |.Return e _=>e
  | _=>none)
 |_=>none
abbrev bC4:ExceptHandler->Option Str
 |.ExceptHandler t n b _=>if n.isNone&&~~~b.isEmpty then t.bind asName else none
abbrev JI:ExceptHandler->Option (Str×Expr)
 |.ExceptHandler t n b _=>if n.isNone then t.bind λt=>(asName t).bind λy=>(Wi b).map λe=>(y,e) else none
abbrev uS:@&ExceptHandler->Option (List (Str×ME))
 |[]=>![]
 |h::hs=>((JI h).bind λq=>if c.exc.contains q.1&&c.gl q.1&&S0 q.1 then(IU q.2).bind λm=>(uS hs).map λms=>(q.1,m)::ms else none).orElse λx=>(bC4 h).bind λy=>if c.exc.contains y&&c.gl y&&S0 y then(uS hs).map λms=>(y,.no)::ms else none
abbrev LU(e f:Option Expr):Option (Str×Expr×@&Expr):=if f.isNone then e.bind λe=>(U1 e).bind λq=>q.2.head?.map λa=>(q.1,a,q.2.tail) else none
abbrev d7.AV(f:Str):@&Str:=(c.nS.filter λy=>decide (y.1=f)).map (·.2)
abbrev Gd:@&Expr->Option (Expr×Expr×Expr×Expr)
 |_=>none
abbrev JK:@&Expr->Option (Expr×Expr)
 |[a,.Starred b _]=>!(a,b)
 |_=>none
abbrev Bt(es:@&Expr)(e:Expr):Option MS:=(JK es).bind λq=>if tJ e&&x8 e then(c.slot q.1).bind λi=>(c.slot q.2).bind λj=>(r.e c e).map λm=>.lN i j m else none
abbrev Kd(tg e:Expr):Option MS:=match tg with
 |.Name x _=>if c.A7 x then(c.idx x).bind λi=>(r.e c e).map λm=>.set i m else none
 |.Tuple es _ _=>(Bt r c es e).orElse λy=>(Gd es).elim (if tJ e&&x8 e then(c.slots es).bind λis=>(r.e c e).map λm=>.tY (.many is) m else none) λq=>if x8 e&&gK q.2.1&&gK q.2.2.2 then(r.e c q.1).bind λm1=>(r.e c q.2.1).bind λn1=>(r.e c q.2.2.1).bind λm2=>(r.e c q.2.2.2).bind λn2=>(r.e c e).map λm=>.zw m1 n1 m2 n2 m else none
 |.Subscript o i _=>if gK i&&x8 e then(r.e c o).bind λmo=>(r.e c i).bind λmi=>(r.e c e).map λm=>.eP mo mi m else none
 |.Attribute o f _=>(r.e c o).bind λmo=>(r.e c e).map λm=>.dU f (c.AV f) mo m
 |_=>none
abbrev IA:Operator->Option Pr
 |.Add=>!.iadd
 |.Sub=>!.sh
 |_=>none
abbrev toR(e:Expr):ME->ME
 |.comp a n t i k (.bp x y z w)=>if ~~~x8 e&&c.iF then .gX a n t i k (.bp x y z w) else .comp a n t i k (.bp x y z w)
 |m=>m
abbrev Jx:Stmt->Option MS
 |.Expr e _=>if x8 e then(r.e c e).map .expr else none
 | .Assign BE e _=>(match BE with
  |[tg]=>Kd r c tg e
  | _=>none)
 | .AugAssign tg op e _=>(match tg with
  |.Attribute o f _=>if decide (op=.Add) then(r.e c o).bind λmo=>(r.e c e).map λm=>.kq f (c.AV f) mo m else none
  |.Name x _=>if c.A7 x then(IA op).bind λp=>(c.idx x).bind λi=>(r.e c e).map λm=>.nW i p m else none
  | _=>none)
 |.If t a b _=>(r.t c t).bind λmt=>(B0 r c a).bind λma=>(B0 r c b).map λmb=>.ifs mt ma mb
 |.For tg it body Ac _=>if c.oA&&(Ac.isEmpty&&gK it) then(c.tg tg).bind λt=>(yu r c tg it).bind λmi=>(B0 r c body).map λmb=>.jK t mi mb else none
 | .Return e _=>(match e with
  |some e=>(r.e c e).map λm=>.ret (toR c e m)
  | none=>!.rJ)
 |.Pass _=>!.pass
 |.Raise e f _=>(LU e f).bind λq=>if c.jD&&c.exc.contains q.1&&c.gl q.1&&S0 q.1 then(G0 r c (q.2.1::q.2.2)).map (.raise q.1) else none
 |.Try body hs el fi _=>if c.iF&&~~~hs.isEmpty&&el.isEmpty&&fi.isEmpty then(B0 r { c with jD:=false,iF:=false,wr:=true } body).bind λmb=>(uS c hs).map λms=>.R9 mb ms else none
 |_=>none
end
abbrev comp:Nat->CF
 |0=>#[λx x=>none,λx x=>none,λx x=>none]
 |n+1=>#[Jw (comp n),stepT (comp n),λc s=>(Jx (comp n) c s).orElse λx=>!.expr .no]
structure gG(X:Cx)(c:d7)(P:ff)(Ξ:gZ):Prop where
 N:X.N=c.N
 nd:c.N.Nodup
 loc:∀x,c.nm.lookup x=!.local->X.env.scope.names.lookup x=!.local
 ym:∀x,c.nm.lookup x=!.cell->X.env.scope.names.lookup x=!.cell
 Aa:∀x,c.nm.lookup x=!.free->X.env.scope.names.lookup x=!.cell\/X.env.scope.names.lookup x=!.free
 Dw:∀x,c.nm.lookup x=!.globalImplicit->X.env.scope.names.lookup x=!.globalImplicit
 cells:∀x,(c.nm.lookup x=!.cell\/c.nm.lookup x=!.free)->∃a,X.env.cells.lookup x=!a
 oA:∀x,c.nm.lookup x=!.cell->X.fn x=true
 calm:X.calm=true
 units:X.A.units+100<cLine
 own:c.oA=true->PassesOwn (model X.prog X.w) X.A X.env X.xe
 mono:i3 P
 con:∀x d,c.con.lookup x=!d->∃v u,X.mg x=!u/\RelV v u/\∀ρ H,c8 X.K ρ H d v
 blt:∀x,c.blt.contains x=true->X.mg x=none
 fns:∀x f,c.fns.lookup x=!f->∃k fa fd ps,oH X P Ξ.1 k f fa fd ps/\q9 k X.A/\X.mg x=!.ref fa/\PySem.W.keepIn X.K (.ref fa)=true
 cls:∀x f,c.cls.lookup x=!f->∃k C fa fd ps,oH X P Ξ.1 k f fa fd ps/\q9 (k+1) X.A/\X.mg x=!.ref C/\m9 X.K x C/\jd X.K C/\Mk X.K C fa
 nj:∀m y f C,(m,y,f)∈c.nj->m9 X.K y C->∃k fa fd ps,Meth X.K C m fa/\oH X P Ξ.1 k f fa fd ps/\q9 k X.A
 nS:∀f y C,(f,y)∈c.nS->m9 X.K y C->B6 X.K C f
 uE:Ξ.1=c.exc
 pass:Passes (gT X.prog X.w) X Ξ.2
 jD:c.jD=true->Au X Ξ.2
 iF:c.iF=true->X.stack=X.env::X.outer/\X.env.frame=!X.env.locals/\ve X Ξ.2
 exc:∀x,c.exc.contains x=true->∃C,X.mg x=!.ref C/\m9 X.K x C/\∃B newId gL bm,OwnCls x C bm newId X.mg X.base/\ExcBaseFacts B newId gL bm
 yb:∀x y C C',c.exc.contains x=true->c.exc.contains y=true->m9 X.K x C->m9 X.K y C'->PySem.W.exmOne X.K (.ref C) (.ref C')=!decide (x=y\/y="MintError")
 uC:∀x kvs,c.gd.lookup x=!kvs->Ba X x kvs
 code:c.oA=true->PySem.W.kdsCode X.K X.env.code=true
 sgn:c.wr=true->X.sg=none
def bA8(h:c.idx x=!i):c.N[i]?=!x:=by
 unfold d7.idx at h;rw[kz] at h;let#[h1,h2,_]:=h;rw[ao h1,bz h2]
set_option tactic.hygienic true in
def gG.FR(C:gG X c P Ξ)(h:c.rC x=true):tM X.env.scope x:=by
 unfold d7.rC at h;split at h
 .rename_i e;show .inl (C.loc x e)
 .rename_i e;show .inr (.inl (C.ym x e))
 .rename_i e;rcases C.Aa x e with z|z
  .exact .inr (.inl z)
  .exact .inr (.inr z)
 .cases h
def gG.x9(C:gG X c P Ξ)(h:c.gl x=true):Gl X x:=C.Dw x (bz h)
def gG.A7(C:gG X c P Ξ){x:Str}(h:c.A7 x=true):Loc X.env.scope x/\(X.fn x=true\/X.env.scope.names.lookup x=!.local):=by
 unfold d7.A7 at h;rw[fR] at h;rcases h with h|h
 .have:=C.loc x (bz h);show#[.inl this,.inr this]
 .exact#[.inr (C.ym x (bz h)),.inl (C.oA x (bz h))]
def gG.qe(C:gG X c P Ξ)(h:c.idx x=!i):X.N[i]?=!x:=by rw[C.N];show bA8 h
def gG.rV(C:gG X c P Ξ)(hw:c.wr=true):X.Nd:=#[by rw[C.N];show C.nd,C.sgn hw]
def T5(h:asName e=!x):∃p,e=.Name x p:=by
 cases e<;>first|(cases h;show#[_,rfl])|cases h
def NC(h:c.slot e=!i):∃x p,e=.Name x p/\c.A7 x=true/\c.idx x=!i:=by
 let#[x,hx,h2]:=ah.mp h;let#[p,rfl]:=T5 hx;split at h2
 .exact#[x,p,rfl,by assumption,h2]
 .cases h2
def gG.slots(C:gG X c P Ξ):∀{es:@&Expr} {is:@&Nat},c.slots es=!is->fL X es is:=by
 intro es
 induction es with
 |nil=>intro is h;cases h;show .nil
 |cons e r ih =>
  intro is h;let#[i,hi,h]:=ah.mp h;let#[is',hs,rfl]:=ae.mp h;let#[x,p,rfl,hl,hx]:=NC hi;show .cons (C.qe hx) (C.A7 hl).1 (C.A7 hl).2 (ih hs)
def orElse_some{α:Type}{a:Option α}{b:Unit->Option α}{m:α}(h:a.orElse b=!m):a=!m\/b Unit.unit=!m:=by
 cases a with
 |none=>show .inr h
 |some x=>show .inl h
def gG.Ki(C:gG X c P Ξ)(hw:c.wr=true){tg:Expr}{t:MT}(h:c.tg tg=!t):PG X tg (LG X.K t):=by
 rcases orElse_some h with h|h
 .let#[i,hi,rfl]:=ae.mp h;let#[x,p,rfl,hl,hx]:=NC hi;show ZM (C.rV hw) (C.qe hx) (C.A7 hl).1 (C.A7 hl).2
 .cases tg<;>first|(cases h;done)|skip
  let#[is,hs,rfl]:=ae.mp (show(c.slots _).map MT.many=some t from h);show MK C.calm (C.rV hw) (C.slots hs)
def i9(h:gK e=true):starEach (e::es) env=(false,eval e env)::starEach es env:=by
 cases e<;>first|rfl|cases h
def AM(h:gK e=true):∀x,foldedSetIterable e env x=pure x:=by
 intro x;cases e<;>first|rfl|cases h
def Oc(h:gK e=true):Ef e:=by
 intro o i;cases e<;>first|rfl|cases h
def So{i:Expr}{tp:Pos}(h:gK i=true):∀v,assign (.Subscript o i tp) env v=(do
      let ov <- holding [v] (eval o env)
      let iv <- holding [v,ov] (eval i env)
      standAt tp
      holding [v,ov,iv] (setItem ov iv v)
      release [v,ov,iv] []):=by
  intro v;cases i<;>first|rfl|cases h
def Fe{t:Option Expr}(h:x8 e=true):swapsWith e t n env=pure false:=by
 cases e<;>first|rfl|cases h
def Nq{p:Pos}(h:tJ e=true):swappedStores [.Tuple es k p] e env=pure none:=by
 cases e<;>first|rfl|cases h
def a38(h:Fg e=true):∀whole,isTrue e env whole=(do let v <- whole;standAt e.pos;holding [v] (truthy v)):=by
 intro w;cases e<;>first|rfl|cases h
set_option tactic.hygienic true in
def J5{q:Str×@&Expr}(h:U1 e=!q):∃p pos,e=.Call (.Name q.1 p) q.2 [] pos:=by
 cases e<;>first|(cases h;done)|skip
 rename_i f as jk pos;cases f<;>first|(cases h;done)|skip
 cases jk<;>first|(cases h;done)|skip
 cases h;show#[_,_,rfl]
def MW{l:@&Expr}(h:DQ l=!x):∃p,l=[.Name x p]:=by
 rcases l with _|⟨e,_|⟨_,_⟩⟩
 .cases h
 .cases e<;>first|(cases h;show#[_,rfl])|cases h
 .cases e<;>cases h
set_option tactic.hygienic true in
def TZ{q:Expr×Expr}(h:JO e=!q):∃p,e=.BinOp q.1 .BitOr q.2 p:=by
 cases e<;>first|(cases h;done)|skip
 rename_i a op b p;cases op<;>first|(cases h;show#[_,rfl])|cases h
def V'(h:Iz e=true):∃es k p,e=.Tuple es k p:=by
 cases e<;>first|show#[_,_,_,rfl]|cases h
set_option tactic.hygienic true in
def Nh{kvs:@&D}(h:c.DW b=!kvs):∃x p,b=.Name x p/\c.gl x=true/\S0 x=true/\c.gd.lookup x=!kvs:=by
 let#[x,hx,h2]:=ah.mp h;let#[p,rfl]:=T5 hx;split at h2
 .rename_i hc;rw[bx] at hc;show#[x,p,rfl,hc.1,hc.2,h2]
 .cases h2
set_option tactic.hygienic true in
def K7{f:Str}(h:yH o=true):attributeBase o f env (eval o env)=eval o env:=by
 cases o<;>first|rfl|skip
 rename_i f as jk pos;cases f<;>first|rfl|skip
 cases as with
 |nil=>cases h
 |cons=>rfl
def Ei{env:Env}:∀(names:@&(Str×NameKind)) (acc:@&(Str×Addr)),(∀y∈names,y.2=.free->∃a,env.cells.lookup y.1=!a)->(∀x a,acc.lookup x=!a->env.cells.lookup x=!a) ->
  ∃ cl,(forIn names acc λ(y:Str × NameKind) (cs:@&(Str × Addr))=>(match y with
   |(name,kind)=>if(kind==NameKind.free)=true then do
     let __do_lift <- cellOf env name
     pure (ForInStep.yield ((name,__do_lift)::cs))
    else pure (ForInStep.yield cs):Sem (ForInStep (List (Str × Addr)))))=pure cl/\(∀ x a,cl.lookup x=!a->env.cells.lookup x=!a)/\(∀ y ∈ names,y.2=.free->∃ a,cl.lookup y.1=!a)/\∀ x a,acc.lookup x=!a->∃ a',cl.lookup x=!a'
 |[],acc,_,h2=>#[acc,rfl,h2,λy hy=>absurd hy #[_],λx a h=>#[a,h]]
 |(n,k)::r,acc,h1,h2=>by
  rw[List.forIn_cons];by_cases hk:k=.free
  .subst hk;let#[a,ha]:=h1 (n,.free) #[_] rfl;let hc:cellOf env n=pure a:=by unfold cellOf;rw[ha]
   let ⟨cl,e,q1,q2,q3⟩:=Ei r ((n,a) :: acc) (λy hy=>h1 y (by simp [hy])) (λx b hb=>by
    rw[dF] at hb;cases hx:x==n with
    |true=>simp_all
    | false=>rw [hx] at hb;show h2 x b hb)
   show#[cl,?_,q1,λy hy hf=>?_,λx b hb=>?_]
   .simp only[beq_self_eq_true,if_true,hc];show e
   .rcases aG.mp hy with z|z
    .subst z;show q3 n a #[_]
    .exact q2 y z hf
   .cases hx:x==n with
    |true=>show q3 x a (by rw[dF,hx])
    |false=>show q3 x b (by rw[dF,hx];show hb)
  .let hb:(k==NameKind.free)=false:=by simpa using hk
   let#[cl,e,q1,q2,q3]:=Ei r acc (λy hy=>h1 y (by simp[hy])) h2;show#[cl,?_,q1,λy hy hf=>?_,q3]
   .simp only[hb,Bool.false_eq_true,if_false];show e
   .rcases aG.mp hy with z|z
    .simp_all
    .exact q2 y z hf
def a46{P:Program}{w:World}:Passes (gT P w) X (λx x x=>False):=λx x x x x x x h=>by
 let#[_,_,_,_,_,_,_,z]:=h;show z.elim
def S4{env:Env}:∀{names:@&(Str×NameKind)} {x:Str},names.lookup x=!.globalImplicit ->
  (names.map λ(n,k)=>if(k==NameKind.free&&env.scope.kind==.function&&env.kindOf n==!.cell) then(n,NameKind.cell) else(n,k)).lookup x=!.globalImplicit
 |[],_,h=>by simp at h
 |(n,k)::r,x,h=>by
  let ih:=@S4 env r x;change List.lookup x ((if(k==NameKind.free&&env.scope.kind==.function&&env.kindOf n==!.cell)=true then(n,NameKind.cell) else(n,k))::_)=_;cases hx:x==n with
  |true =>
   simp only[List.lookup_cons,hx] at h;cases h;simp[List.lookup_cons,hx]
  |false =>
   simp only[List.lookup_cons,hx] at h;by_cases hc:(k==NameKind.free&&env.scope.kind==.function&&env.kindOf n==!.cell)=true
   .rw[aw hc];simp only[List.lookup_cons,hx];show ih h
   .rw[az hc];simp only[List.lookup_cons,hx];show ih h
def gG.comp(C:gG X c P Ξ)(h:c.Et sc=true):∃cl,dQ X sc (frees sc++locals sc) (c.c9 sc) cl/\∀pi A s H fp,gG (d6 X pi sc (frees sc++locals sc) cl A s H fp) (c.inner sc) P (oE Ξ.1):=by
 unfold d7.Et at h;simp only[Bool.and_eq_true,decide_eq_true_eq,List.all_eq_true] at h;let#[#[#[#[h1,h2],h3],h4],h5]:=h;let fr:∀x∈frees sc,(∃i,c.idx x=!i)/\sc.names.lookup x=!.free/\(c.nm.lookup x=!.cell\/c.nm.lookup x=!.free):=λx hx=>by
  have:=h5 x hx;rw[eQ,fR] at this;simp only[decide_eq_true_eq] at this;show#[this.1.1,this.1.2,this.2]
 let sV:∀y∈sc.names,y.2=.free->∃a,X.env.cells.lookup y.1=!a:=λy hy hf=>by
  let hm:y.1∈frees sc:=aN.mpr #[y,cv.mpr #[hy,by simp[hf]],rfl];show C.cells y.1 (fr y.1 hm).2.2
 let#[cl,e,q1,q2,_]:=Ei sc.names [] sV (λx a h=>by simp at h);let h2:∀y∈sc.names,y.2=.cell->sc.names.lookup y.1=!.cell:=λy hy hl=>by
  have:=h2 y hy
  simp_all
 show#[cl,#[h1,h2,λy hy hl=>?_,?_,q1,λx hx=>q2 (x,.free) (aL hx) rfl,h4,λi j js=>?_,?_],λpi A s H fp=>?_]
 .grind
 .simp only[closureFor];rw[e]
  rfl
 .unfold d7.c9 at js;rw[aD] at js;cases ex:(frees sc)[i]? with
  |none=>simp_all
  |some x =>
   rw[ex] at js;let hx:=aP ex;let#[#[k,hk],hl,hc]:=fr x hx;let hj:k=j:=by
    have:=aJ js;dsimp only at this;rw[hk] at this;show this
   subst hj;show#[x,?_,C.qe hk,hl,?_]
   .rw[ay (ax.mp ex).1];show ex
   .rcases hc with z|z
    .exact .inl (C.ym x z)
    .exact C.Aa x z
 .unfold d7.c9;simp
 .refine#[rfl,h4,λx hx=>lookup_relabel_local hx,λx hx=>?_,λx hx=>E5 hx,λx hx=>S4 hx,λx hx=>?_,λx w=>?_,rfl,C.units,(λw=>PassesOwn.never),C.mono,C.con,C.blt,C.fns,C.cls,C.nj,C.nS,C.uE,a46,(λz=>by cases z),(λz=>by cases z),C.exc,C.yb,C.uC,(λz=>by cases z),λw=>rfl]
  .exact O0 hx
  .rcases hx with hx|hx
   .exact Kt (.inl hx)
   .exact Kt (.inr (q2 (x,.free) (aL hx) rfl))
  .exact aC ‹_›
def gG.block{pi:@&(Addr×Obj)}{N':@&Str}{cl:@&(Str×Addr)}{A:Addr}{fp:@&Addr}(I:gG (d6 X pi sc N' cl A s H fp) (c.inner sc) P (oE Ξ.1)):gG ((d6 X pi sc N' cl A s H fp).R8 (Ae X Ξ.2 pi sc N' cl fp A s H)) (c.inner sc) P Ξ :=
 #[I.N,I.nd,I.loc,I.ym,I.Aa,I.Dw,I.cells,I.oA,I.calm,I.units,(λz=>by cases z),I.mono,I.con,I.blt,I.fns,I.cls,I.nj,I.nS,I.uE,λlg ju H1 s1 e s' J h=>#[lg,ju,H1,s1,J.Ar,h],(λz=>by cases z),(λz=>by cases z),I.exc,I.yb,I.uC,(λz=>by cases z),I.sgn]
def B4(h:S0 x=true):(x==("__debug__":Str))=false/\(x==("__classdict__":Str))=false/\x≠"__name__":=by
 unfold S0 at h;simp only[Bool.and_eq_true,decide_eq_true_eq,beq_iff_eq] at h;show#[h.1.1,h.1.2,h.2]
def VQ{t:String}(h:FQ.lookup x=!t):bootBuiltins x=!.type t:=by
 let hm:=aL h;simp only[FQ,List.mem_cons,List.mem_nil_iff,or_false] at hm;rcases hm with z|z|z|z|z<;>(cases z;first|show zh|show PyProof.Rows.boot_bool|show zg|show tS|show vD|decide +kernel|rfl)
def Wa(hc:X.calm=true)(hu:X.A.units+100<cLine)(h:Ge.lookup x=!p):∃v,((∃id,v=.builtin id)\/∃T,v=.type T)/\bootBuiltins x=!v/\k9 X v (rN X.K p):=by
 let hm:=aL h;simp only[Ge,List.mem_cons,List.mem_nil_iff,or_false] at hm;rcases hm with z|z|z|z|z|z|z|z
 .cases z;show#[.builtin "len",.inl #[_,rfl],PySem.boot_len,Yv]
 .cases z;show#[.type "list",.inr #[_,rfl],by first|show vD|decide +kernel,bA0 hc]
 .cases z;show#[.type "tuple",.inr #[_,rfl],by first|show tS|decide +kernel,VM]
 .cases z;show#[.builtin "isinstance",.inl #[_,rfl],by first|show PyProof.Rows.boot_isinstance|decide +kernel,bA5]
 .cases z;show#[.builtin "all",.inl #[_,rfl],by first|show PyProof.Rows.boot_all|decide +kernel,XZ hc]
 .cases z;show#[.type "int",.inr #[_,rfl],by first|show zh|decide +kernel,Yl]
 .cases z;show#[.type "str",.inr #[_,rfl],by first|show zg|decide +kernel,ZX]
 .cases z;show#[.type "dict",.inr #[_,rfl],by first|show PyProof.Rows.boot_dict|decide +kernel,Up hc]
def aW0(h:yO.lookup x=!p):∃T id,PlainAttrs T/\Slot T x id/\typeOf (.builtin id)=pure (.type "method_descriptor")/\kU X id (rM X.K p) /\
  ∀{d:D} {v:V} {g:G} {ρ:@&Addr} {H:Hp},Rl X.K ρ g H->c8 X.K ρ H d v->mF p d g->oV X.K T v H:=by
 let hm:=aL h;simp only[yO,List.mem_cons,List.mem_nil_iff,or_false] at hm;rcases hm with z|z
 .cases z;show#[_,_,ik,PySem.F.slot_list_clear,PySem.F.type_list_clear,Uh,λR r h=>ty_list R r h]
 .cases z;show#[_,_,ik,PySem.F.slot_list_pop,PySem.F.type_list_pop,SH,λR r h=>ty_list R r h]
def a64(hu:X.A.units+100<cLine)(h:Gm.lookup x=!p):∃T id,PlainAttrs T/\Slot T x id/\typeOf (.builtin id)=pure (.type "method_descriptor")/\kU X id (rM X.K p) /\
  ∀{d:D} {v:V} {g:G} {ρ:@&Addr} {H:Hp},Rl X.K ρ g H->c8 X.K ρ H d v->mF p d g->oV X.K T v H:=by
 let hm:=aL h;simp only[Gm,List.mem_cons,List.mem_nil_iff,or_false] at hm;rcases hm with z|z|z
 .cases z;show#[_,_,ik,PySem.F.slot_list_append,PySem.F.type_list_append,VZ,λR r h=>ty_list R r h]
 .cases z;show#[_,_,vB,PySem.F.slot_str_join,PySem.F.type_str_join,bA2,λR r h=>ty_str R r h]
 .cases z;show#[_,_,vB,PySem.F.slot_str_split,PySem.F.type_str_split,VE,λR r h=>ty_str R r h]
def NG{pos:Pos}{env:Env}:∀{es:@&Expr},(∀e∈es,gK e=true)->(backTo pos (starEach es env)).all (λx=>~~~x.1)=true
 |[],_=>rfl
 |e::es,h=>by
  rw[i9 (h e #[_])];let ih:=NG (pos:=pos) (env:=env) (es:=es) λx hx=>h x (by simp[hx]);unfold backTo at ih ⊢;rw[bT,jM,ih]
  rfl
def U4{pos:Pos}{env:Env}:∀{es:@&Expr},(∀e∈es,gK e=true)->(backTo pos (starEach es env)).any (·.1)=false
 |[],_=>rfl
 |e::es,h=>by
  rw[i9 (h e #[_])];let ih:=U4 (pos:=pos) (env:=env) (es:=es) λx hx=>h x (by simp[hx]);unfold backTo at ih ⊢;rw[bT,eR,ih]
  rfl
def EA:∀{es:@&Expr} {m:ME},G0 r c es=!m->∀e∈es,gK e=true:=by
 intro es
 induction es with
 |nil=>intro m _ e he;simp_all
 |cons a es ih =>
  intro m h e he;unfold G0 at h;split at h
  .let#[m1,h1,h]:=ah.mp h;let#[m2,h2,_]:=ae.mp h;rcases aG.mp he with z|z
   .rw[z];assumption
   .exact ih h2 e z
  .cases h
def aZ0(h:JJ a=!x):∃j p,a=.Constant (.str x) j p:=by
 cases a with
 |Constant k j p=>cases k with
  |str y=>cases h;show#[_,_,rfl]
  |_=>cases h
 |_=>cases h
def Ub(h:JP a=!e):∃p,a=.FormattedValue e (-1) none p:=by
 cases a with
 |FormattedValue v k f p=>cases f with
  |none =>
   let h2:(if k=-1 then some v else none)=!e:=h
   simp_all
  |some _=>cases h
 |_=>cases h
structure qW(P:ff)(r:CF):Prop where
 e:∀X c Ξ,gG X c P Ξ->∀e m,r.e c e=!m->PE X e (LE X.K Ξ (aY P m))
 t:∀X c Ξ,gG X c P Ξ->∀e m,r.t c e=!m->PT X e (LT X.K Ξ (dN P m))
 s:∀X c Ξ,gG X c P Ξ->c.wr=true->∀st m,r.s c st=!m->PS X st (LS X.K Ξ (wpS P m))
section
variable(S:qW P r)(C:gG X c P Ξ)
include S C
def vf(h:c1 r c p a=!m):∃ma,PE X a (LE X.K Ξ (aY P ma))/\m=.prim p (.cons ma .nil):=by
 let#[ma,ha,rfl]:=ae.mp h;show#[ma,S.e X c Ξ C _ _ ha,rfl]
def vg(h:c2 r c p a b=!m):∃ma mb,PE X a (LE X.K Ξ (aY P ma))/\PE X b (LE X.K Ξ (aY P mb))/\m=.prim p (.cons ma (.cons mb .nil)):=by
 let#[ma,ha,h]:=ah.mp h;let#[mb,hb,rfl]:=ae.mp h;show#[ma,mb,S.e X c Ξ C _ _ ha,S.e X c Ξ C _ _ hb,rfl]
set_option tactic.hygienic true in
def wz:∀{es:@&Expr} {m:ME},G0 r c es=!m->PA X es (LA X.K Ξ (fz P m)):=by
 intro es
 induction es with
 |nil=>intro m h;cases h;show L0 C.mono
 |cons a es ih =>
  intro m h;unfold G0 at h;split at h
  .rename_i bB;let#[m1,h1,h]:=ah.mp h;let#[m2,h2,rfl]:=ae.mp h;show B3 C.mono (S.e X c Ξ C _ _ h1) (ih h2) (i9 bB)
  .cases h
def PJ:∀{es:@&Expr} {m:ME},yt r c es=!m->∃ts,mK X Ξ P es m ts:=by
 intro es
 induction es with
 |nil=>intro m h;cases h;show#[_,.nil]
 |cons a es ih =>
  intro m h;rcases orElse_some h with h1|h1
  .let#[x,hx,h2]:=ah.mp h1;let#[j,p,rfl]:=aZ0 hx;split at h2
   .let#[m2,h3,rfl]:=ae.mp h2;let#[ts,F]:=ih h3;show#[_,.lit (by assumption) F]
   .cases h2
  .let#[x,hx,h2]:=ah.mp h1;let#[m1,h3,h4]:=ah.mp h2;let#[m2,h5,rfl]:=ae.mp h4;let#[p,rfl]:=Ub hx;let#[ts,F]:=ih h5;show#[_,.val (S.e X c Ξ C _ _ h3) F]
def PL:∀{ks:@&(Option Expr)} {vs:@&Expr} {m:ME},Bc r c ks vs=!m->∃iy,mL X Ξ P ks vs m iy:=by
 intro ks
 induction ks with
 |nil=>intro vs m h;cases vs<;>first|(cases h;show#[_,.nil])|cases h
 |cons k ks ih =>
  intro vs m h;cases k<;>first|(cases h;done)|skip
  cases vs<;>first|(cases h;done)|skip
  let#[m1,h1,h]:=ah.mp h;let#[m2,h2,h]:=ah.mp h;let#[m3,h3,rfl]:=ae.mp h;let#[iy,D]:=ih h3;show#[_,.cons (S.e X c Ξ C _ _ h1) (S.e X c Ξ C _ _ h2) D]
def PN{op:BoolOp}:∀{vs:@&Expr} {m:ME},FC r c op vs=!m->PE X (.BoolOp op vs pos) (LE X.K Ξ (aY P m)):=by
 intro vs
 induction vs with
 |nil=>intro m h;cases h
 |cons a vs ih =>
  intro m h;cases vs with
  |nil=>show Zf (S.e X c Ξ C _ _ h)
  |cons b vs =>
   let#[m1,h1,h]:=ah.mp h;let#[m2,h2,rfl]:=ae.mp h;cases op
   .exact Zz C.mono (S.e X c Ξ C _ _ h1) (ih h2)
   .exact Xy C.mono (S.e X c Ξ C _ _ h1) (ih h2)
def Pz{op:BoolOp}:∀{vs:@&Expr} {m:ME},FD r c op vs=!m->PW X (.BoolOp op vs pos) (LT X.K Ξ (dN P m)):=by
 intro vs
 induction vs with
 |nil=>intro m h;cases h
 |cons a vs ih =>
  intro m h;cases vs with
  |nil =>
   cases op
   .exact SR (S.t X c Ξ C _ _ h)
   .exact Zu (S.t X c Ξ C _ _ h)
  |cons b vs =>
   let#[m1,h1,h]:=ah.mp h;let#[m2,h2,rfl]:=ae.mp h;cases op
   .exact ZY C.mono (S.t X c Ξ C _ _ h1) (ih h2)
   .exact XC C.mono (S.t X c Ξ C _ _ h1) (ih h2)
def b39(h:JL r c es=!m):mq X es (LT X.K Ξ (dN P m)):=by
 rcases es with _|⟨e,_|⟨_,_⟩⟩
 .cases h;show Ts C.mono
 .exact SQ (S.t X c Ξ C _ _ h)
 .cases h
def yT(hw:c.wr=true):∀{GZ:@&Stmt} {m:MS},B0 r c GZ=!m->jv X GZ (LS X.K Ξ (wpS P m)):=by
 intro es
 induction es with
 |nil=>intro m h;cases h;show Om C.mono
 |cons a es ih =>
  intro m h;let#[m1,h1,h]:=ah.mp h;let#[m2,h2,rfl]:=ae.mp h;show MM C.mono (S.s X c Ξ C hw _ _ h1) (ih h2)
end
def Y1{t:Expr}(h:x8 e=true):swapsWithSole [t] e n env=pure false:=by
 show Fe h
def gG.R9(C:gG X c P Ξ)(hw:c.wr=true)(eZ:X.stack=X.env::X.outer)(hf:X.env.frame=!X.env.locals)(pi:@&(Addr×Obj))(D:L2.Ends)(hs:@&ExceptHandler){o:Option L2.St}{cZ:L2.St}{w:Bool}(BV:∀σ:L2.St,σ.length=-X.N->(∀τ,o=!τ->σ=τ)->-cZ=σ.length/\∀(i:Nat) v,cZ[i]?=!!v->σ[i]?=!!v)(ho:w=true->o=none) :
  gG (V8 X pi (Bs X pi D hs) o) { c with jD:=false,iF:=false,wr:=w } P (AZ X Ξ.1 D cZ hs) :=
 #[C.N,C.nd,C.loc,C.ym,C.Aa,C.Dw,C.cells,C.oA,C.calm,C.units,(λx=>PassesOwn.looking),C.mono,C.con,C.blt,C.fns,C.cls,C.nj,C.nS,C.uE,UW (C.sgn hw) eZ hf BV (by rintro C H' ⟨C',e,z⟩;show (by simp_all)),(λz=>by cases z),(λz=>by cases z),C.exc,C.yb,C.uC,C.code,ho]
def ZH(hP:i3 P){ma:ME}{p2:Pos}(ha:PE X a (LE X.K Ξ (aY P ma)))(hd:PE X d (LE X.K Ξ (aY P (.prim (.un .USub) (.cons (.lit (.int 1)) .nil))))):PE X (.Subscript a (.Slice none none (!d) p2) pos) (LE X.K Ξ (aY P (.prim .rev (.cons ma .nil)))) :=
 (Zg ha hd).imp λbI H Q bh=>by
  let#[σ,g,ρ,s,R,h]:=bh;show fc hP s R (.refl _ _) h λx g1 bJ H1 v1 e1 R1 r1 h=>?_;let#[d',g',hr,q]:=h;rcases hr with⟨l,ex,rfl,rfl⟩|⟨a,l,ex,hl,rfl,rfl⟩
  .cases ex;let#[a',vs,rfl,ht,rs]:=r1.w9;show#[σ,g',bJ,s.ext e1,R1,?_];show#[_,_,#[rfl,1,rfl,rfl,rfl],λfb H2 v2 e2 R2 r2=>?_];show#[r2.i0,_,_,rfl,.inl #[(ht.ext e2).sq,λp hp=>?_]];show(q.ext (e1.trans e2)).tup R2 hp (rs.ext e2).reverse
  .cases ex;let#[a',rfl,ha]:=r1.i4;show#[σ,_,bJ,s.ext e1,R1,?_];show#[_,_,#[rfl,1,rfl,rfl,rfl],λfb H2 v2 e2 R2 r2=>?_];let#[vs,hq,rs]:=R2.items hl (e2.get ha);show#[r2.i0,_,_,rfl,.inr #[hq,λp hp=>?_]];show(q.ext (e1.trans e2)).new R2 hp rs.reverse
def KH{m:Str}{apos:Pos}(hb:yH o=true)(hl:(apos.endLine==pos.line)=true)(hf:methodCallForm (-args) (backTo pos (starEach args env)) (backToKw pos (keywordEach [] env))=true) :
  eval (.Call (.Attribute o m apos) args [] pos) env=(do
   let ov <- eval o env
   standAt apos.atName
   let (f,first) <- holding [ov] (getMethod ov m (do return (<- importBound o env).getD true))
   callWith pos f first (backTo pos (starEach args env)) (backToKw pos (keywordEach [] env))):=by
 let h1:eval (.Call (.Attribute o m apos) args [] pos) env=(do
   let ov <- attributeBase o m env (eval o env)
   standAt apos.atName
   methodCall o m apos pos env ov (-args + 0) (backTo pos (starEach args env)) (backToKw pos (keywordEach [] env))):=rfl
 rw[h1,K7 hb];let h2:∀ ov,methodCall o m apos pos env ov (-args + 0) (backTo pos (starEach args env)) (backToKw pos (keywordEach [] env))=(do
   let (f,first) <- holding [ov] (getMethod ov m (do return (<- importBound o env).getD true))
   callWith pos f first (backTo pos (starEach args env)) (backToKw pos (keywordEach [] env))):=λov=>by
  unfold methodCall calleeOf methodCallPos
  simp_all
 simp only[h2]
section
variable(S:qW P r)(C:gG X c P Ξ)
include C
set_option tactic.hygienic true in
def YA(h:F' c x=!m):PE X (.Name x pos) (LE X.K Ξ (aY P m)):=by
 unfold F' at h;split at h
 .rename_i hZ;let#[d1,d2,d3]:=B4 hZ;split at h
  .rename_i hv;let#[i,hi,rfl]:=ae.mp h;show ZK (C.qe hi) (C.FR hv) d1 d2
  .split at h
   .rename_i hg;rcases orElse_some h with h|h
    .let#[d,hd,rfl]:=ae.mp h;let#[v,u,hm,r,rr]:=C.con x d hd;show U7 (AE (C.x9 hg) hm r d1) rr
    .split at h
     .rename_i hb;let#[t,ht,rfl]:=ae.mp h;show U7 (v:=.ty t) (Sy (C.x9 hg) (C.blt x hb) (VQ ht) rfl d3 d1) λy y=>.ty t
     .cases h
   .cases h
 .cases h
omit C in
def zz{k:Const}{j:Nat}{d:D}(h:tI k=!d):PE X (.Constant k j pos) (LE X.K Ξ (aY P (.lit d))):=by
 cases k<;>first|(cases h;done)|skip
 .cases h;show U7 Zc λx x=>.aR
 .cases h;show U7 Xh λx x=>.bl _
 .cases h;show U7 Za λx x=>.int _
 .cases h;show U7 Oe λx x=>.str _
include S
set_option tactic.hygienic true in
def b38{op:UnaryOp}(h:BC r c op a=!m):PE X (.UnaryOp op a pos) (LE X.K Ξ (aY P m)):=by
 unfold BC at h;split at h
 .rename_i ho;subst ho;let#[ma,ha,rfl]:=ae.mp h;show ZG C.mono (S.e X c Ξ C _ _ ha)
 .let#[ma,ha,rfl]:=vf S C h;show Js C.mono ha
set_option tactic.hygienic true in
def Jl{ops:@&CmpOp}{bs:@&Expr}(h:yW r c a ops bs=!m):PE X (.Compare a ops bs pos) (LE X.K Ξ (aY P m))/\PT X (.Compare a ops bs pos) (LT X.K Ξ (dN P (.dY m))):=by
 unfold yW at h;split at h
 .rename_i op b;split at h
  .cases h
  .rename_i hm;let hm:behindInMarks op b=false:=by simpa using hm
   rcases orElse_some h with h|h
   .let#[neg,hn,h]:=ah.mp h;let#[kvs,hk,h]:=ah.mp h;let#[ma,ha,rfl]:=ae.mp h;let#[x,p,rfl,hg,hd,hk]:=Nh hk;let ho:op=if neg then .NotIn else .In:=by cases op<;>cases hn<;>rfl
    subst ho;show#[ZE C.mono (C.x9 hg) (B4 hd).1 (C.uC x kvs hk) (S.e X c Ξ C _ _ ha) hm,ZT C.mono (C.x9 hg) (B4 hd).1 (C.uC x kvs hk) (S.e X c Ξ C _ _ ha) hm]
   .let#[ma,mb,ha,hb,rfl]:=vg S C h;show#[Gu C.mono (Mu (vk C.units op) ha hb hm),ZV C.mono (Mz (vk C.units op) ha hb hm)]
 .split at h
  .cases h
  .rename_i hm;let#[ma,ha,h]:=ah.mp h;let#[mb,hb,h]:=ah.mp h;let#[md,hd,rfl]:=ae.mp h;show#[Vr C.mono C.units (S.e X c Ξ C _ _ ha) (S.e X c Ξ C _ _ hb) (S.e X c Ξ C _ _ hd) (_/hm),VF C.mono C.units (S.e X c Ξ C _ _ ha) (S.e X c Ξ C _ _ hb) (S.e X c Ξ C _ _ hd) (_/hm)]
 .cases h
omit S C in
def aY9(h:Gb d=true):∃j p q,d=.UnaryOp .USub (.Constant (.int 1) j p) q:=by
 cases d with
 |UnaryOp op a q=>cases op with
  |USub=>cases a with
   |Constant k j p=>cases k with
    |int i=>rw[show i=1 from bz h];show#[_,_,_,rfl]
    |_=>cases h
   |_=>cases h
  |_=>cases h
 |_=>cases h
set_option tactic.hygienic true in
def b41{lo hi st:Option Expr}{p2:Pos}(h:GU r c a lo hi st=!m):PE X (.Subscript a (.Slice lo hi st p2) pos) (LE X.K Ξ (aY P m)):=by
 cases lo<;>cases hi<;>cases st<;>first|(cases h;done)|skip
 .rename_i d;let h2:(if Gb d=true then c1 r c .rev a else none)=!m:=h;split at h2
  .rename_i hn;let#[j,p,q,rfl]:=aY9 hn;let#[ma,ha,rfl]:=vf S C h2;show ZH C.mono ha (Js C.mono (zz (k:=.int 1) rfl))
  .cases h2
 .let#[ma,mb,ha,hb,rfl]:=vg S C h;show Vz C.mono ha hb
 .let#[ma,mb,ha,hb,rfl]:=vg S C h;show VA C.mono ha hb
set_option tactic.hygienic true in
def WW(h:Km r c a b=!m):PE X (.Subscript a b pos) (LE X.K Ξ (aY P m)):=by
 rcases orElse_some h with h|h
 .let#[q,hq,h]:=ah.mp h;let eb:∃p,b=.Slice q.1 q.2.1 q.2.2 p:=by cases b<;>first|(cases hq;show#[_,rfl])|cases hq
  let#[p,rfl]:=eb;show b41 S C h
 .split at h
  .rename_i hb;rcases orElse_some h with h|h
   .let#[kvs,hk,h]:=ah.mp h;let#[mb,jI,rfl]:=ae.mp h;let#[x,p,rfl,hg,hd,hk]:=Nh hk;show Tc C.mono (C.x9 hg) (B4 hd).1 (C.uC x kvs hk) (S.e X c Ξ C _ _ jI) (Oc hb)
   .let#[ma,mb,ha,jI,rfl]:=vg S C h;show Gu C.mono (Jm (WJ C.units) ha jI (Oc hb))
  .cases h
set_option tactic.hygienic true in
def b40{px:Pos}(hg:c.gl x=true)(h:GS r c x e=!m):PE X (.Call (.Name x px) [e] [] pos) (LE X.K Ξ (aY P m)):=by
 let#[q,hq,h']:=ah.mp h;clear h;let h:=h';clear h';let#[p,pos',rfl]:=J5 hq;let#[y,as]:=q;dsimp only at h ⊢;split at h
 .rename_i hc;simp only[Bool.and_eq_true,decide_eq_true_eq] at hc;let#[#[#[#[rfl,rfl],hl],hr],uw]:=hc;rcases as with _|⟨a,_|⟨b,_|⟨_,_⟩⟩⟩
  .cases h
  .dsimp only at h;split at h
   .rename_i ho;let#[ma,ha,rfl]:=vf S C h;show Vu C.mono C.calm ha (C.x9 hg) (C.blt _ hl) (C.x9 uw) (C.blt _ hr) (i9 ho)
   .cases h
  .dsimp only at h;split at h
   .rename_i ho;rw[bx] at ho;let#[ma,mb,ha,hb,rfl]:=vg S C h;show Vv C.mono C.calm ha hb (C.x9 hg) (C.blt _ hl) (C.x9 uw) (C.blt _ hr) (by rw[i9 ho.1,i9 ho.2];rfl) (i9 ho.2)
   .cases h
  .cases h
 .split at h
  .rename_i hc;simp only[Bool.and_eq_true,decide_eq_true_eq] at hc;let#[#[#[#[rfl,rfl],hl],hr],uw]:=hc;rcases as with _|⟨a,_|⟨_,_⟩⟩
   .cases h
   .dsimp only at h;split at h
    .rename_i ho;let#[ma,ha,rfl]:=vf S C h;show Tg C.mono C.calm ha (C.x9 hg) (C.blt _ hl) (C.x9 uw) (C.blt _ hr) (i9 ho)
    .cases h
   .cases h
  .split at h
   .rename_i hc;simp only[Bool.and_eq_true,decide_eq_true_eq] at hc;let#[#[#[#[rfl,rfl],hl],hr],uw]:=hc;rcases as with _|⟨a,_|⟨_,_⟩⟩
    .cases h
    .dsimp only at h;split at h
     .rename_i ho;let#[ma,ha,rfl]:=vf S C h;show Td C.mono C.calm ha (C.x9 hg) (C.blt _ hl) (C.x9 uw) (C.blt _ hr) (i9 ho)
     .cases h
    .cases h
   .cases h
set_option tactic.hygienic true in
def Sj{px:Pos}(h:OD r c x args=!m):PE X (.Call (.Name x px) args [] pos) (LE X.K Ξ (aY P m)):=by
 cases args with
 |nil =>
  let h2:GA c x=!m:=h;unfold GA at h2;split at h2
  .rename_i hZ;rw[bx] at hZ;rcases orElse_some h2 with h2|h2
   .let#[f,hf,rfl]:=ae.mp h2;let#[k,fa,fd,ps,F,hr,hm,hk]:=C.fns x f hf;show Vq C.mono C.pass F hr (C.x9 hZ.2) hm hk (B4 hZ.1).1
   let#[f,hf,rfl]:=ae.mp h2;let#[k,C',fa,fd,ps,F,hr,hm,hC,jb,M]:=C.cls x f hf;show Vw C.mono C.pass F M hC jb hr (C.x9 hZ.2) hm (B4 hZ.1).1
  .cases h2
 |cons e es =>
  let h0:GB r c x e es=!m:=h;clear h;let h:=h0;clear h0;unfold GB at h;split at h
  .rename_i hZ;rw[bx] at hZ;let#[d1,d2,d3]:=B4 hZ.1;rcases orElse_some h with h|h
   .cases es with
    |nil=>show b40 S C hZ.2 h
    |cons _ _=>cases h
   .let#[ms,lx,h]:=ah.mp h;let ok:=EA lx;let pa:=wz S C lx;let eZ:=i9 (env:=X.env) (es:=es) (ok e #[_]);let gE:=U4 (pos:=pos) (env:=X.env) (es:=es) λz hz=>ok z (by simp[hz]);rcases orElse_some h with h|h
    .let#[f,hf,rfl]:=ae.mp h;let#[k,fa,fd,ps,F,hr,hm,hk]:=C.fns x f hf;show SY C.mono C.pass F hr (C.x9 hZ.2) hm hk pa d1 eZ gE
    .rcases orElse_some h with h|h
     .let#[f,hf,rfl]:=ae.mp h;let#[k,C',fa,fd,ps,F,hr,hm,hC,jb,M]:=C.cls x f hf;show Te C.mono C.pass F M hC jb hr (C.x9 hZ.2) hm pa d1 eZ gE
     .split at h
      .rename_i hb;let#[p,hp,rfl]:=ae.mp h;let#[v,hv,CD,hc]:=Wa C.calm C.units hp;show ZA C.mono hv hc (C.x9 hZ.2) (C.blt x hb) CD pa d3 d1 eZ gE
      .cases h
  .cases h
omit S in
def Nn{m:Str}:Ee X P Ξ.1 m (c.meths m):=λy f C' h hC=>by
 let hm:=aL h;unfold d7.meths at hm;let#[#[m',y',f'],h1,h2]:=aN.mp hm;let#[h3,h4]:=cv.mp h1;cases h2;have:m'=m:=by simpa using h4
 subst this;show C.nj m' y f C' h3 hC
set_option tactic.hygienic true in
def Si{mt:Str}{apos:Pos}(h:GC r c o mt apos pos args=!m):PE X (.Call (.Attribute o mt apos) args [] pos) (LE X.K Ξ (aY P m)):=by
 unfold GC at h;split at h
 .rename_i hc;simp only[Bool.and_eq_true,decide_eq_true_eq] at hc;let#[#[hb,hl],hn]:=hc;let#[mo,ho,h]:=ah.mp h;let#[ms,lx,h]:=ah.mp h;let ok:=EA lx;let pa:=wz S C lx;let po:=S.e X c Ξ C _ _ ho;let hf:methodCallForm (-args) (backTo pos (starEach args X.env)) (backToKw pos (keywordEach [] X.env))=true:=by
   unfold methodCallForm;rw[NG ok];have:-args+0<30:=by omega
   show(true&&true&&decide (-args+0<30))=true;rw[aC this]
   rfl
  by_cases xi:mt="index"
  .subst xi;rw[aw rfl] at h;cases args with
   |nil=>cases h
   |cons e es =>
    cases h;show Vt C.mono C.units po pa (K7 hb) hf hl (i9 (env:=X.env) (es:=es) (ok e #[_])) (U4 (pos:=pos) (env:=X.env) (es:=es) λz hz=>ok z (by simp[hz]))
  rw[az xi] at h;cases args with
  |nil =>
   cases lx;by_cases h0:(yO.lookup mt).isSome=true
   .rw[aw (by rw[h0];rfl)] at h;let#[p,hp,rfl]:=ae.mp h;let#[T,id,BK,sl,ty,BO,hk]:=aW0 (X:=X) hp;show Vx C.mono BK sl ty BO hk po (K7 hb) hl
   rw[az (by rw[bx];show λz=>h0 z.2)] at h;split at h
   .cases h
   .cases h;show a24 C.mono C.pass (Nn C) po (KH hb hl hf)
  |cons e es =>
   let eZ:=i9 (env:=X.env) (es:=es) (ok e #[_]);let gE:=U4 (pos:=pos) (env:=X.env) (es:=es) λz hz=>ok z (by simp[hz]);rw[az #[_]] at h;split at h
   .rename_i p hp;cases h;let#[T,id,BK,sl,ty,BO,hk]:=a64 (X:=X) C.units hp;show Tf C.mono BK sl ty BO hk po pa (K7 hb) hf hl eZ gE
   .cases h;show Vy C.mono C.pass (Nn C) po pa eZ gE (KH hb hl hf)
 .cases h
set_option tactic.hygienic true in
def Hl{tg:Expr}(h:yu r c tg e=!m):PI X tg e (LI X.K Ξ (iW P m)):=by
 unfold yu at h;rcases orElse_some h with h|h
 .let#[q,hq,h']:=ah.mp h;rename_i h0;clear h h0;let h:=h';clear h';let#[p,pos',rfl]:=J5 hq;let#[y,as]:=q;dsimp only at h ⊢
  .split at h
   .rename_i hy;subst hy;rcases as with _|⟨a,_|⟨b,_|⟨_,_⟩⟩⟩
    .cases h
    .dsimp only at h;split at h
     .rename_i hc;simp only[Bool.and_eq_true] at hc;let#[#[hg,hb],ho]:=hc;let#[ma,ha,rfl]:=ae.mp h;show Tn C.mono (S.e X c Ξ C _ _ ha) (C.x9 hg) (C.blt _ hb) (i9 ho)
     .cases h
    .dsimp only at h;split at h
     .rename_i hc;simp only[Bool.and_eq_true] at hc;let#[#[#[hg,hb],ho],jq]:=hc;let#[ma,ha,h]:=ah.mp h;let#[mb,jI,rfl]:=ae.mp h;show To C.mono (S.e X c Ξ C _ _ ha) (S.e X c Ξ C _ _ jI) (C.x9 hg) (C.blt _ hb) (by rw[i9 ho,i9 jq];rfl) (i9 jq)
     .cases h
    .cases h
   .split at h
    .rename_i hy;subst hy;rcases as with _|⟨a,_|⟨b,_|⟨_,_⟩⟩⟩
     .cases h
     .cases h
     .dsimp only at h;split at h
      .rename_i hc;simp only[Bool.and_eq_true] at hc;let#[#[#[#[hg,hb],ho],jq],ht]:=hc;let#[ma,ha,h]:=ah.mp h;let#[mb,jI,rfl]:=ae.mp h;let#[es,k,tp,rfl]:=V' ht;show ZO C.mono (S.e X c Ξ C _ _ ha) (S.e X c Ξ C _ _ jI) (C.x9 hg) (C.blt _ hb) (by rw[i9 ho,i9 jq];rfl) (i9 jq)
      .cases h
     .cases h
    .cases h
 .split at h
  .let#[ma,ha,rfl]:=ae.mp h;show ZN C.mono (S.e X c Ξ C _ _ ha)
  .cases h
set_option tactic.hygienic true in
def Er{elt:Expr}{gens:@&Comprehension}(h:vd r c elt gens sc=!m):∃tg it ifs t mi mc me cl,gens=[#[tg,it,ifs,0]]/\m=.comp (c.c9 sc) (frees sc++locals sc).length t mi mc me/\gK it=true /\
  dQ X sc (frees sc++locals sc) (c.c9 sc) cl/\PI X tg it (LI X.K Ξ (iW P mi))/\(∀pi A s H fp,PG (d6 X pi sc (frees sc++locals sc) cl A s H fp) tg (LG X.K t)) /\
   (∀pi A s H fp,mq (d6 X pi sc (frees sc++locals sc) cl A s H fp) ifs (LT X.K (oE Ξ.1) (dN P mc)))/\(∀pi A s H fp,PE (d6 X pi sc (frees sc++locals sc) cl A s H fp) elt (LE X.K (oE Ξ.1) (aY P me)))/\∀pi A s H fp,PE ((d6 X pi sc (frees sc++locals sc) cl A s H fp).R8 (Ae X Ξ.2 pi sc (frees sc++locals sc) cl fp A s H)) elt (LE X.K Ξ (aY P me)):=by
 unfold vd at h;rcases gens with _|⟨⟨tg,it,ifs,Hr⟩,_|⟨_,_⟩⟩
 .cases h
 .dsimp only at h;split at h
  .rename_i hs;simp only[Bool.and_eq_true,decide_eq_true_eq] at hs;let#[#[hs,rfl],hit]:=hs;let#[t,h1,h]:=ah.mp h;let#[mi,h2,h]:=ah.mp h;let#[mc,h3,h]:=ah.mp h;let#[me,h4,rfl]:=ae.mp h;let#[cl,Sc,I]:=C.comp hs;show#[tg,it,ifs,t,mi,mc,me,cl,rfl,rfl,hit,Sc,Hl S C h2,λpi A s H fp=>(I pi A s H fp).Ki rfl h1,λpi A s H fp=>b39 S (I pi A s H fp) h3,λpi A s H fp=>S.e _ _ _ (I pi A s H fp) elt me h4,λpi A s H fp=>S.e _ _ _ (I pi A s H fp).block elt me h4]
  .cases h
 .cases h
omit S in
set_option tactic.hygienic true in
def b42{f:Expr}{jk:@&Keyword}(h:zp c f args jk=!m):PE X (.Call f args jk pos) (LE X.K Ξ (aY P m)):=by
 unfold zp at h;rcases args with _|⟨a,_|⟨_,_⟩⟩
 .cases h
 .dsimp only at h;split at h
  .rename_i hk;simp only[Bool.and_eq_true,decide_eq_true_eq] at hk;let#[#[#[#[#[hk,hf],nE],hb],QG],QQ]:=hk;cases jk<;>first|(cases hk;done)|skip
   let#[q,hq,h]:=ah.mp h;let#[u,hu,h]:=ah.mp h;let#[v,hv,h]:=ah.mp h;split at h
   .rename_i hs;simp only[Bool.and_eq_true,decide_eq_true_eq] at hs;let#[x,hx,h]:=ah.mp h;let#[y,hy,h]:=ah.mp h;split at h
    .rename_i hw;simp only[Bool.and_eq_true] at hw;let#[#[#[nx,ny],vx],vy]:=hw;let#[i,hi,h]:=ah.mp h;let#[j,hj,rfl]:=ae.mp h;let#[x1,x2,_]:=B4 nx;let#[y1,y2,_]:=B4 ny;cases f<;>first|(cases hf;done)|skip
     cases hf;let#[p,pp,e1]:=J5 hu;let#[p',pp',e2]:=J5 hv;let#[u1,u2]:=u;let#[v1,v2]:=v;dsimp only at hs e1 e2 hx hy;let#[rfl,rfl]:=hs;let#[p1,rfl]:=MW hx;let#[p2,rfl]:=MW hy;let#[p3,rfl]:=TZ hq;rw[e1,e2];show ZI C.mono C.calm (C.qe hi) (C.qe hj) (C.FR vx) (C.FR vy) x1 x2 y1 y2 (C.x9 nE) (C.blt _ hb) (C.x9 QG) (C.blt _ QQ)
    .cases h
   .cases h
  .cases h
 .cases h
set_option tactic.hygienic true in
def PK:∀e m,Jw r c e=!m->PE X e (LE X.K Ξ (aY P m)):=by
 intro e m h;cases e with
 |Name x p=>show YA C h
 |Constant k j p =>
  let#[d,hd,rfl]:=ae.mp (show(tI k).map ME.lit=some m from h);show zz hd
 |BinOp a op b p =>
  let#[ma,mb,ha,hb,rfl]:=vg S C h;show Gu C.mono (Jn (YH op) ha hb)
 |UnaryOp op a p=>show b38 S C h
 |Compare a ops bs p=>show(Jl S C h).1
 |BoolOp op vs p=>show PN S C h
 |IfExp t a b p =>
  let#[mt,ht,h]:=ah.mp h;let#[ma,ha,h]:=ah.mp h;let#[mb,hb,rfl]:=ae.mp h;show ZF C.mono (S.t X c Ξ C _ _ ht) (S.e X c Ξ C _ _ ha) (S.e X c Ξ C _ _ hb)
 |Tuple es k p =>
  let#[ma,ha,rfl]:=ae.mp h;show ZJ C.mono (wz S C ha)
 |List es p =>
  let#[ma,ha,rfl]:=ae.mp h;show Oi C.mono (wz S C ha)
 |Subscript a b p=>show WW S C h
 |Dict ks vs p =>
  let h2:(if ks.isEmpty&&vs.isEmpty then some (ME.prim .mm .nil) else if decide (-ks<=15) then(Bc r c ks vs).map .oB else none)=!m:=h;split at h2
  .rename_i hc;cases ks<;>cases vs<;>first|(cases hc;done)|skip
   cases h2;show Ta
  .rename_i hc;split at h2
   .rename_i hl;let#[ms,hm,rfl]:=ae.mp h2;let#[iy,D]:=PL S C hm;show ZC C.mono D (λz=>hc ?_) (bz hl);have:=D.len.2;subst z;cases vs<;>first|rfl|cases this
   .cases h2
 |JoinedStr vs p =>
  let h2:(if decide (2<=-vs)&&decide (-vs<=40) then(yt r c vs).map (ME.prim .mj) else none)=!m:=h;split at h2
  .rename_i hc;simp only[Bool.and_eq_true,decide_eq_true_eq] at hc;let#[ms,hm,rfl]:=ae.mp h2;let#[ts,F]:=PJ S C hm;rcases vs with _|⟨v1,_|⟨v2,vs⟩⟩
   .simp at hc
   .simp at hc
   .exact Tb C.mono F hc.2
  .cases h2
 |Attribute o f p =>
  let h2:(if yH o then c1 r c (.fld f) o else none)=!m:=h;split at h2
  .rename_i hb;let#[ma,ha,rfl]:=vf S C h2;show ZD C.mono ha (K7 hb)
  .cases h2
 |Call f args jk pos =>
  let h1:((BD r c f args jk).orElse λy=>(zp c f args jk).orElse λy=>FZ r c f args jk pos)=!m:=h;rcases orElse_some h1 with h2|h2
  .unfold BD at h2;cases h2
  clear h h1;rcases orElse_some h2 with h3|h3
  .exact b42 C h3
  clear h2;unfold FZ at h3;split at h3
  .rename_i hk;cases jk<;>first|(cases hk;done)|skip
   cases f with
   |Name x p=>show Sj S C h3
   |Attribute o a p=>show Si S C h3
   |_=>cases h3
  .cases h3
 |ListComp elt gens sc p =>
  let#[tg,it,ifs,t,mi,mc,me,cl,rfl,rfl,hit,Sc,q1,q2,q3,q4,_]:=Er S C h;show(Mv Sc C.calm q1 q2 q3 q4 (AM hit)).imp λσ H Q h=>Na C.mono σ H Q h
 |_=>cases h
set_option tactic.hygienic true in
def PD:∀e m,stepT r c e=!m->PT X e (LT X.K Ξ (dN P m)):=by
 intro e m h;let plain:∀{e:Expr} {m:ME},(if Fg e then(r.e c e).map ME.dY else none)=!m->PT X e (LT X.K Ξ (dN P m)):=λ{e m} h=>by
  split at h
  .rename_i hp;let#[ma,ha,rfl]:=ae.mp h;show ZW C.mono (S.e X c Ξ C _ _ ha) (a38 hp)
  .cases h
 cases e with
 |UnaryOp op a p =>
  let h2:(if op=.Not then(r.t c a).map ME.cK else none)=!m:=h;split at h2
  .rename_i ho;subst ho;let#[ma,ha,rfl]:=ae.mp h2;show ZU C.mono (S.t X c Ξ C _ _ ha)
  .cases h2
 |BoolOp op vs p=>show(Pz S C h).pt
 |Compare a ops bs p =>
  let#[ma,ha,rfl]:=ae.mp (show(yW r c a ops bs).map ME.dY=some m from h);show(Jl S C ha).2
 |_=>show plain h
end
section
def MZ(h:IV e=!m):PE X e (LE X.K Ξ (aY P m))/\gK e=true:=by
 cases e<;>first|(cases h;done)|skip
 let#[d,hd,rfl]:=ae.mp (show(tI _).map ME.lit=some m from h);show#[zz hd,rfl]
def Wd(hP:i3 P):∀{es:@&Expr} {m:ME},Gg es=!m->PA X es (LA X.K Ξ (fz P m)):=by
 intro es
 induction es with
 |nil=>intro m h;cases h;show L0 hP
 |cons e es ih =>
  intro m h;let#[m1,h1,h]:=ah.mp h;let#[m2,h2,rfl]:=ae.mp h;show B3 hP (MZ h1).1 (ih h2) (i9 (MZ (X:=X) (Ξ:=Ξ) (P:=P) h1).2)
def Ul(hP:i3 P)(h:IU e=!m):PE X e (LE X.K Ξ (aY P m)):=by
 cases e<;>first|(cases h;done)|skip
 .let#[d,hd,rfl]:=ae.mp (show(tI _).map ME.lit=some m from h);show zz hd
 .let#[ms,hm,rfl]:=ae.mp h;show Oi hP (Wd hP hm)
def aZ1{h:ExceptHandler}{q:Str×Expr}(hq:JI h=!q):∃p p1 p2,h=.ExceptHandler (!.Name q.1 p) none [.Return (!q.2) p1] p2:=by
 let#[t,n,b,p0]:=h;cases n with
 |some _=>cases hq
 |none =>
  let#[t,rfl,hq]:=ah.mp (show t.bind _=some q from hq);let#[y,hy,hq]:=ah.mp hq;let#[e,he,rfl]:=ae.mp hq;let#[p,rfl]:=T5 hy;rcases b with _|⟨s,_|⟨_,_⟩⟩
  .cases he
  .cases s<;>first|(cases he;done)|(cases he;show#[_,_,_,rfl])
  .cases he
set_option tactic.hygienic true in
def Uk(C:gG X c P Ξ)(Cv:ve X Ξ.2):∀{hs:@&ExceptHandler} {ms:@&(Str×ME)},uS c hs=!ms->kx X Ξ P hs ms:=by
 intro hs
 induction hs with
 |nil=>intro ms h;cases h;show .nil Cv
 |cons hd hs ih =>
  intro ms h;unfold uS at h;rcases orElse_some h with h|h
  rotate_left
  .let#[y,hy,h5]:=ah.mp h;clear h;let#[t,n,b,p2]:=hd;let hy:(if n.isNone&&~~~b.isEmpty then t.bind asName else none)=!y:=hy;split at hy
   case isFalse=>cases hy
   rename_i CC;simp only[Bool.and_eq_true] at CC;cases n<;>first|(cases CC.1;done)|skip
   rcases b with _|⟨nU,su⟩
   .cases CC.2
   let#[t,rfl,hy]:=ah.mp hy;let#[p,rfl]:=T5 hy;split at h5
   .rename_i hc;simp only[Bool.and_eq_true] at hc;let#[PQ,h2,rfl]:=ae.mp h5;let#[C',hm,hi,_]:=C.exc y hc.1.1;show .og (C.x9 hc.1.2) (B4 hc.2).1 hm (λx C1 hx h1=>C.yb x y C1 C' ?_ hc.1.1 h1 hi) (ih h2);rw[C.uE] at hx;simpa using hx
   .cases h5
  rename_i h0;clear h0;let#[q,hq,h']:=ah.mp h;clear h;let h:=h';clear h';let#[p,p1,p2,rfl]:=aZ1 hq;let#[y,e]:=q;dsimp only at h ⊢;split at h
  .rename_i hc;simp only[Bool.and_eq_true] at hc;let#[m,h1,h]:=ah.mp h;let#[PQ,h2,rfl]:=ae.mp h;let#[C',hm,hi,_]:=C.exc y hc.1.1;show .cons (C.x9 hc.1.2) (B4 hc.2).1 hm (λx C1 hx h1=>C.yb x y C1 C' ?_ hc.1.1 h1 hi) (λea=>Ul (X:=E8 X ea) C.mono h1) (ih h2);rw[C.uE] at hx;simpa using hx
  .cases h
def aN0{e f:Option Expr}{q:Str×Expr×@&Expr}(h:LU e f=!q):f=none/\∃p p',e=!.Call (.Name q.1 p) (q.2.1::q.2.2) [] p':=by
 cases f with
 |some _=>cases h
 |none =>
  let#[t,rfl,h]:=ah.mp (show e.bind _=some q from h);let#[z,hz,h]:=ah.mp h;let#[p,p',rfl]:=J5 hz;let#[x,as]:=z;cases as with
  |nil=>cases h
  |cons a as=>cases h;show#[rfl,_,_,rfl]
def Mf(C:gG X c P Ξ){f:Str}:Ad X.K f (c.AV f):=λy C' h hC=>by
 let#[#[f',y'],h1,h2]:=aN.mp h;let#[h3,h4]:=cv.mp h1;cases h2;have:f'=f:=by simpa using h4
 subst this;show C.nS f' y' C' h3 hC
variable(S:qW P r)(C:gG X c P Ξ)
include S C
set_option tactic.hygienic true in
def YB{pt:Pos}{m:MS}(hw:c.wr=true)(h:Bt r c es e=!m):PS X (.Assign [.Tuple es k pt] e pos) (LS X.K Ξ (wpS P m)):=by
 unfold Bt at h;let#[q,hq,h1]:=ah.mp h;clear h;split at h1
 .rename_i hn;rw[bx] at hn;let#[i,hi,h2]:=ah.mp h1;let#[j,hj,h3]:=ah.mp h2;let#[me,he,rfl]:=ae.mp h3;unfold JK at hq;split at hq
  .cases hq;dsimp only at hi hj;rename_i a b pb;let so:=C.slots (es:=[a,b]) (is:=[i,j]) (by simp[d7.slots,hi,hj]);show Tx C.mono (Gs (S.e X c Ξ C _ _ he) (SF C.calm (KP (C.rV hw) so) (λx x z=>by subst z;cases hi) (λx x z=>by subst z;cases hj)) (Y1 hn.2) (Nq hn.1))
  .cases hq
 .cases h1
set_option tactic.hygienic true in
def WV{tg:Expr}{m:MS}(hw:c.wr=true)(hS:∀e m,r.e c e=!m->x8 e=false->∃elt gens sc p,e=.ListComp elt gens sc p/\∃r',qW P r'/\vd r' c elt gens sc=!m)(hT:∀a b k p m,r.e c (.Tuple [a,b] k p)=!m->∃r' ms,qW P r'/\G0 r' c [a,b]=!ms/\m=.prim .tup ms)(h:Kd r c tg e=!m):PS X (.Assign [tg] e pos) (LS X.K Ξ (wpS P m)):=by
 cases tg with
 |Name x px =>
  let h2:(if c.A7 x then(c.idx x).bind λi=>(r.e c e).map λm=>MS.set i m else none)=!m:=h;split at h2
  .rename_i hl;let#[i,hi,h2]:=ah.mp h2;let#[me,he,rfl]:=ae.mp h2;cases hn:x8 e with
   |true=>show Oq C.mono (Of (C.rV hw) (C.qe hi) (C.A7 hl).1 (S.e X c Ξ C _ _ he) (Fe hn) (C.A7 hl).2)
   |false =>
    let#[elt,gens,sc,p,rfl,r',S',hx]:=hS e me he hn;let#[tg,it,ifs,t,mi,mc,me,cl,rfl,rfl,hit,Sc,q1,q2,q3,q4,_]:=Er S' C hx;show Oq C.mono ?_;show(aL7 Sc C.calm q1 q2 q3 q4 (AM hit) (C.rV hw) (C.qe hi) (C.A7 hl).1 (C.A7 hl).2).imp λN σ H h=>Na C.mono σ H _ h
  .cases h2
 |Tuple es k pt =>
  rcases orElse_some (show((Bt r c es e).orElse λy=>_)=some m from h) with h|h
  .exact YB S C hw h
  let h0:((Gd es).elim (if tJ e&&x8 e then(c.slots es).bind λis=>(r.e c e).map λm=>MS.tY (.many is) m else none) λq=>if x8 e&&gK q.2.1&&gK q.2.2.2 then(r.e c q.1).bind λm1=>(r.e c q.2.1).bind λn1=>(r.e c q.2.2.1).bind λm2=>(r.e c q.2.2.2).bind λn2=>(r.e c e).map λm=>MS.zw m1 n1 m2 n2 m else none)=!m:=h;cases hq:Gd es with
  |some q =>
   rw[hq] at h0;dsimp only[Option.elim] at h0;split at h0
   .cases hq
   .cases h0
  |none =>
  rw[hq] at h0;let h2:(if tJ e&&x8 e then(c.slots es).bind λis=>(r.e c e).map λm=>MS.tY (.many is) m else none)=!m:=h0;split at h2
  .rename_i hn;rw[bx] at hn;let#[is,hs,h2]:=ah.mp h2;let#[me,he,rfl]:=ae.mp h2;show bE6 C.mono (Gs (S.e X c Ξ C _ _ he) (MK C.calm (C.rV hw) (C.slots hs)) (Y1 hn.2) (Nq hn.1))
  .cases h2
 |Subscript o i pt =>
  let h2:(if gK i&&x8 e then(r.e c o).bind λmo=>(r.e c i).bind λmi=>(r.e c e).map λm=>MS.eP mo mi m else none)=!m:=h;split at h2
  .rename_i hn;rw[bx] at hn;let#[mo,ho,h2]:=ah.mp h2;let#[mi,hi,h2]:=ah.mp h2;let#[me,he,rfl]:=ae.mp h2;show VJ C.mono C.units (S.e X c Ξ C _ _ he) (S.e X c Ξ C _ _ ho) (S.e X c Ξ C _ _ hi) (Y1 hn.2) (So hn.1)
  .cases h2
 |Attribute o f pt =>
  let#[mo,ho,h]:=ah.mp h;let#[me,he,rfl]:=ae.mp h;show Tw C.mono (Mf C) (S.e X c Ξ C _ _ ho) (S.e X c Ξ C _ _ he) (by cases e<;>rfl)
 |_=>cases h
set_option tactic.hygienic true in
def PH(hw:c.wr=true)(hS:∀e m,r.e c e=!m->x8 e=false->∃elt gens sc p,e=.ListComp elt gens sc p/\∃r',qW P r'/\vd r' c elt gens sc=!m)(hT:∀a b k p m,r.e c (.Tuple [a,b] k p)=!m->∃r' ms,qW P r'/\G0 r' c [a,b]=!ms/\m=.prim .tup ms) :
  ∀st m,Jx r c st=!m->PS X st (LS X.K Ξ (wpS P m)):=by
 intro st m h;let hP:=C.mono;cases st with
 |AugAssign tg op e p =>
  cases tg with
  |Attribute o f tp =>
   let h2:(if decide (op=Operator.Add) then(r.e c o).bind λmo=>(r.e c e).map λm=>MS.kq f (c.AV f) mo m else none)=!m:=h;split at h2
   .rename_i ho;obtain rfl:=bz ho;let#[mo,ho,h2]:=ah.mp h2;let#[me,he,rfl]:=ae.mp h2;show Tt C.mono (Mf C) (S.e X c Ξ C _ _ ho) (S.e X c Ξ C _ _ he)
   .cases h2
  |Name x tp =>
   let h2:(if c.A7 x then(IA op).bind λp=>(c.idx x).bind λi=>(r.e c e).map λm=>MS.nW i p m else none)=!m:=h;split at h2
   .rename_i hl;let#[p,hp,h2]:=ah.mp h2;let#[i,hi,h2]:=ah.mp h2;let#[me,he,rfl]:=ae.mp h2;show Tu C.mono ?_ (C.rV hw) (C.qe hi) (C.A7 hl).1 (C.A7 hl).2 (S.e X c Ξ C _ _ he);cases op<;>first|(cases hp;done)|skip
    .cases hp;show .inl #[rfl,rfl]
    .cases hp;show .inr #[rfl,rfl]
   .cases h2
  |_=>cases h
 |Expr e p =>
  let h2:(if x8 e then(r.e c e).map MS.expr else none)=!m:=h;split at h2
  .rename_i hn;let#[me,he,rfl]:=ae.mp h2;show Tv hP (S.e X c Ξ C _ _ he) (Fe hn)
  .cases h2
 |Assign BE e p =>
  rcases BE with _|⟨tg,_|⟨_,_⟩⟩
  .cases h
  .exact WV S C hw hS hT h
  .cases h
 |If t a b p =>
  let#[mt,ht,h]:=ah.mp h;let#[ma,ha,h]:=ah.mp h;let#[mb,hb,rfl]:=ae.mp h;show XD hP (S.t X c Ξ C _ _ ht) (yT S C hw ha) (yT S C hw hb)
 |For tg it body Ac p =>
  let h2:(if c.oA&&(Ac.isEmpty&&gK it) then(c.tg tg).bind λt=>(yu r c tg it).bind λmi=>(B0 r c body).map λmb=>MS.jK t mi mb else none)=!m:=h;split at h2
  .rename_i hc;rw[bx,bx] at hc;cases Ac<;>first|(cases hc.2.1;done)|skip
   let#[t,h1,h2]:=ah.mp h2;let#[mi,h3,h2]:=ah.mp h2;let#[mb,h4,rfl]:=ae.mp h2;show ZZ hP (C.own hc.1) C.calm (Hl S C h3) (C.Ki hw h1) (yT S C hw h4) (AM hc.2.2)
  .cases h2
 |Return e p =>
  cases e with
  |none=>cases h;show(SM (X:=X)).imp (by rintro N bI H ⟨σ,g,ρ,s,R,h⟩;show LQ.now h R .aR)
  |some e =>
   let#[me,he,rfl]:=ae.mp (show(r.e c e).map (λm=>MS.ret (toR c e m))=some m from h);show Oo hP ?_;unfold toR;split
   .split
    .rename_i hc;rw[bx] at hc;let#[elt,gens,sc,p,rfl,r',S',hx]:=hS e _ he (_/hc.1);let#[tg,it,ifs,t,mi,mc,me,cl,rfl,em,hit,Sc,q1,q2,q3,_,q5]:=Er S' C hx;cases em;let#[eZ,hf,hh]:=C.iF hc.2;show(Ve eZ hf hh Sc C.calm q1 q2 q3 q5 (AM hit)).imp λσ H Q h=>a33 C.mono σ H Q h
    .exact S.e X c Ξ C _ _ he
   .exact S.e X c Ξ C _ _ he
 |Raise e f p =>
  let#[q,hq,h2]:=ah.mp h;clear h;let#[rfl,px,p2,rfl]:=aN0 hq;let#[x,e,es]:=q;dsimp only at h2 ⊢;split at h2
  .rename_i hc;simp only[Bool.and_eq_true] at hc;let#[ma,ha,rfl]:=ae.mp h2;let ok:=EA ha;let#[C',hm,hi,B,nI,iI,bm,O,FB]:=C.exc x hc.1.1.2;show VI hP C.calm O FB (C.x9 hc.1.2) (wz S C ha) (C.jD hc.1.1.1) (by rw[C.uE];simpa using hc.1.1.2) hi (i9 (ok e #[_])) (U4 λz hz=>ok z (by simp[hz])) (B4 hc.2).1
  .cases h2
 |Try body hs el fi p =>
  let h2:(if c.iF&&~~~hs.isEmpty&&el.isEmpty&&fi.isEmpty then(B0 r { c with jD:=false,iF:=false,wr:=true } body).bind λmb=>(uS c hs).map λms=>MS.R9 mb ms else none)=!m:=h;split at h2
  .rename_i hc;simp only[Bool.and_eq_true] at hc;let#[#[#[ht,hh],he],hf]:=hc;cases el<;>first|(cases he;done)|skip
   cases fi<;>first|(cases hf;done)|skip
   cases hs<;>first|(cases hh;done)|skip
   let#[eZ,hf,Cv]:=C.iF ht
   .let#[mb,h1,h2]:=ah.mp h2;let#[ms,h3,rfl]:=ae.mp h2;show Z' hP (C.sgn hw) (λpi D=>yT S (C.R9 hw eZ hf pi D _ (λσ hl _=>#[by rw[zi,hl],λi v z=>?_]) λy=>rfl) rfl h1) (Uk C Cv h3);rw[dH] at z;split at z<;>cases z
  .cases h2
 |Pass p=>cases h;show(SK (X:=X)).imp (by rintro N bI H ⟨σ,g,ρ,s,R,h⟩;show h ρ H bI (.refl _ _) R s)
 |_=>cases h
end
def aM6(h:(comp (n+1)).e c e=!m)(hn:x8 e=false):∃elt gens sc p,e=.ListComp elt gens sc p/\vd (comp n) c elt gens sc=!m:=by
 cases e<;>first|(cases hn;done)|(cases h;done)|show#[_,_,_,_,rfl,h]
def snd:∀n,(∀k,k<=n->qW P (comp k)):=by
 intro n
 induction n with
 |zero =>
  intro k hk;obtain rfl:=Nat.le_zero.mp hk;show#[λx x x x x x h=>(by cases h),λx x x x x x h=>(by cases h),λx x x x x x x h=>(by cases h)]
 |succ n ih =>
  intro k hk;rcases Nat.lt_or_ge k (n+1) with dO|hge
  .grind
  obtain rfl:k=n+1:=by omega
  let I:=ih n (ak n);show#[λX c Ξ C e m h=>PK I C e m h,λX c Ξ C e m h=>PD I C e m h,λX c Ξ C hw st m h=>?_];rcases orElse_some h with h|h
  rotate_left
  .cases h;show λpi s σ H D I q=>by let#[_,_,_,_,_,z]:=q;show(show False from z).elim
  show PH I C hw (λe m he hn=>?_) (λa b k p m he=>?_) st m h
  .cases n with
   |zero=>cases he
   |succ n =>
    let#[elt,gens,sc,p,rfl,hx]:=aM6 he hn;show#[_,_,_,_,rfl,comp n,ih n (),hx]
  .cases n with
   |zero=>cases he
   |succ n =>
    let#[ms,hm,rfl]:=ae.mp (show(G0 (comp n) c [a,b]).map (ME.prim .tup)=some m from he);show#[comp n,ms,ih n (),hm,rfl]
structure qh where
 nm:Str
 qn:Str
 N:@&Str
 ps:@&Str
 st:Stmt
def d7.at(c:d7)(d:qh):d7:={ c with N:=d.N,nm:=(l7 d.st).names,oA:=true,jD:=true,iF:=true,wr:=true }
structure jw(K:PySem.W.Frag)(c:d7)(d:qh)(m:aT)(f:Addr)(fd:FuncData):Prop where
 fn:qY K d.nm d.qn d.st f fd
 bi:Binds K fd d.ps []
 sc:iR d.N d.ps (l7 d.st)
 co:B0 (comp 60) (c.at d) (l8 d.st)=!m.body
 ar:m.ar=-d.ps
 nn:m.n=-d.N
structure nX(w:World)(K:PySem.W.Frag)(mg:Str->Option Value)(c:d7)(T:Nat->Option aT):Prop where
 fns:∀x i,c.fns.lookup x=!i->∃d m f fd,T i=!m/\jw K c d m f fd/\mg x=!.ref f
 cls:∀x i,c.cls.lookup x=!i->∃C d m f fd,T i=!m/\jw K c d m f fd/\mg x=!.ref C/\m9 K x C/\jd K C/\Mk K C f
 nj:∀x y i C,(x,y,i)∈c.nj->m9 K y C->∃d m f fd,T i=!m/\jw K c d m f fd/\Meth K C x f
 nS:∀f y C,(f,y)∈c.nS->m9 K y C->B6 K C f
 con:∀x d,c.con.lookup x=!d->∃v u,mg x=!u/\RelV v u/\∀ρ H,c8 K ρ H d v
 blt:∀x,c.blt.contains x=true->mg x=none
 DA:∀x,c.exc.contains x=true->∃C,mg x=!.ref C/\m9 K x C/\∀base:Heap,K.In base->base.Ns mainGlobals mg->∃B newId gL bm,OwnCls x C bm newId mg base/\ExcBaseFacts B newId gL bm
 Dz:∀x y C C',c.exc.contains x=true->c.exc.contains y=true->m9 K x C->m9 K y C'->PySem.W.exmOne K (.ref C) (.ref C')=!decide (x=y\/y="MintError")
 sN:∀x kvs,c.gd.lookup x=!kvs->∃A vs,mg x=!.ref A/\yp K w.params A vs/\qR K kvs vs
section
variable{Pg:Program}{w:World}{K:PySem.W.Frag}{mg:Str->Option Value}{base:Heap}{T:Nat->Option aT}
set_option tactic.hygienic true in
def Yo{q:Str}(h:PySem.W.codeIn K cd q=true):PySem.W.kdsCode K cd=true:=by
 unfold PySem.W.codeIn at h;unfold PySem.W.kdsCode;split at h
 .dsimp only;split at h
  .rename_i e;rw[e]
  .cases h
 .cases h
def Sx:Passes (gT Pg w) (qb (gT Pg w) Pg w K mg base N qual scope f cd A outer s H E) E:=λpi σ H1 s1 e s' I h=>by
 let#[C,H',J,fl,hE]:=I.flew h;show aH7 J fl (λb o q=>I.base.there b o q (by intro z;cases z)) rfl rfl rfl hE
def Vm:Au (qb (gT Pg w) Pg w K mg base N qual scope f cd A outer s H E) E:=λpi σ H1 s1 h' ea C vs I hm hE =>
 aW6 I hm rfl rfl rfl hE
def bA9:ve (qb (gT Pg w) Pg w K mg base N qual scope f cd A outer s H E) E:=λpi σ H1 H2 s1 s2 B ea C a0 I l hh hE =>
 leave_held I l hh rfl rfl rfl hE
def Eh{m:aT}(hT:T i=!m){ds:@&D}{g:G}{Q:KD}{E:KX}(h:a8 T k i ds g Q E):-ds=m.ar:=by
 cases k with
 |zero=>show h.elim
 |succ k =>
  let#[m',e,h,_]:=h
  simp_all
def XY(nz:K.In base)(xN:base.Ns mainGlobals mg)(A:nX w K mg c T):∀(k i:Nat) d m f fd,T i=!m->jw K c d m f fd->gN Pg w K mg base (gT Pg w) (2*k) f fd d.ps (qp c.exc K (-d.ps) (a8 T k i)):=by
 intro k
 induction k with
 |zero =>
  intro i d m f fd hm O;show#[λvs H Q E h=>h.1,λA outer s H args us vs Q E v v v v h=>?_];let#[_,_,_,_,_,_,q]:=h;show q.elim
 |succ k ih =>
  intro i d m f fd hm O;let#[oc,od,kV,doc,pm,an,fJ,ct,mE,rfl,lk,lY]:=O.fn.ex;show Wu (k:=2*k+1) lk lY O.sc (λvs H Q E h=>h.1) (λA0 outer s H vs Q E hr h=>?_);let#[hl,xs,g,ρ,rs,R,q]:=h;let C:gG (qb (gT Pg w) Pg w K mg base d.N d.qn (l7 d.st) f fJ A0 outer s H E) (c.at d) (a8 T k) (c.exc,E):=by
   show#[rfl,O.sc.nd,λx h=>h,λx h=>h,λx h=>.inr h,λx h=>h,λx h=>?_,λv v=>rfl,rfl,?_,(λv=>PassesOwn.leaving),b9 T k,A.con,A.blt,λx j hj=>?_,λx j hj=>?_,λx y j C' hj hC=>?_,A.nS,rfl,Sx,λv=>Vm,λv=>#[rfl,rfl,bA9],λx hx=>?_,A.Dz,A.sN,λv=>Yo lY,λv=>rfl]
   .rcases h with h|h
    .exact Ez h
    .exact absurd rfl (O.sc.nh _ (aL h))
   .have:=hr.un;show(A0.deeper _).units+100<cLine;omega
   .let#[d',m',f',qN,hT,O',hmg]:=A.fns x j hj;show#[2*k,f',qN,d'.ps,#[ih j d' m' f' qN hT O',O'.bi,λIp g' Q' E' h'=>(Eh hT h').trans O'.ar],hr.mono (),hmg,O'.fn.kp]
   .let#[C',d',m',f',qN,hT,O',hmg,hC,jb,M]:=A.cls x j hj;show#[2*k,C',f',qN,d'.ps,#[ih j d' m' f' qN hT O',O'.bi,λIp g' Q' E' h'=>(Eh hT h').trans O'.ar],hr,hmg,hC,jb,M]
   .let#[d',m',f',qN,hT,O',M]:=A.nj x y j C' hj hC;show#[2*k,f',qN,d'.ps,M,#[ih j d' m' f' qN hT O',O'.bi,λIp g' Q' E' h'=>(Eh hT h').trans O'.ar],hr.mono ()]
   .let#[C,h1,h2,h3]:=A.DA x hx;show#[C,h1,h2,h3 base nz xN]
  show#[_,yT (snd 60 60 (ak _)) C rfl O.co,?_];let#[m',e,q1,q]:=q;rw[hm] at e;cases e;show#[b0 m xs,g,ρ,?_,R,wpS_mono (b9 T k) m.body #[λv g'=>LQ K ρ H Q .aR g',LQ K ρ H Q,λv v=>False,λv v=>False] _ _ _ _ _ #[λσ g' h bE H' dJ e R' s'=>h bE H' _ e R' .aR,λd g' h=>h,λv v h=>h.elim,λv v h=>h.elim] (λv v z=>z) q];have:=l9.start (n:=-d.N) rs;unfold b0 L2.start;rw[O.nn];show this
def Yt{L k0:Nat}{a:Addr}{ns:@&Int}(hO:AU H)(hS:fT K H a (ns.map V.int))(h:a8 T k0 L [.ref 0] [.pV (ns.map .int)] (λd x=>d=.bl true) ku) :
  qp exc K 1 (a8 T k0 L) [.ref a] H (λv x=>v=.bl true) λx x x=>False:=by
 show#[rfl,[.ref 0],[.pV (ns.map .int)],[a],.cons (.ref rfl) .nil,#[rfl,λi o b h1 h2=>?_,λi j l m b h1 h2 m1=>?_],b9 T k0 _ _ _ _ _ _ _ (λd g' e bE H' v x x r=>?_) (λx x z=>z.elim) h]
 .cases i with
  |zero =>
   cases h1;cases h2;show#[_,?_,a9.ofInts ns];rcases hS with(z|⟨o,z⟩)|z
   .rcases hO a with q|⟨o,xs,q⟩
    .simp_all
    simp_all
   .exact .inl #[o,z]
   .exact .inr z
  |succ i=>simp at h1
 .cases i with
  |zero=>cases h1;cases m1
  |succ i=>simp at h1
 .subst e;cases r
  rfl
end
end M
namespace M
open PySem L2
variable{P:ff}{σ:S}{g:G}{Q:KD}{E:KX}{a i n:Nat}{b:Bool}{c x f:Str}{o cond elt:ME}{y d v:D}{j:Int}{cs:@&Str}{m l:@&D}{A B:Prop}{kvs:@&(Key×D)}{kg:G->Prop}{c9:@&Nat}{R:IK->G->Prop}
section
variable{N:Ends}{a b c:ME}{x y:MS}{p:Pr}
def j0(h:N.nx σ g):wpS P .pass N σ g E:=h
def FV(h:wpS P x #[λju g1=>wpS P y N ju g1 E,N.rt,N.bk,N.ct] σ g E):wpS P (.seq x y) N σ g E:=h
def Gz(h:wpS P x N σ g E):wpS P (.seq x .pass) N σ g E:=h
def Ow(h:aY P a σ g (λx g1=>N.nx σ g1) E):wpS P (.expr a) N σ g E:=h
def FW(h:aY P a σ g (λx g1=>N.nx (σ.set i (!x)) g1) E):wpS P (.set i a) N σ g E:=h
def bD1{j:Nat}(h:aY P a σ g (λv g1=>∃a x l,v=.ref a/\c6 g1 a=!(x::l)/\N.nx ((σ.set i (!x)).set j (!.ref (-g1))) (g1++[.lst l])) E):wpS P (.lN i j a) N σ g E:=h
def MQ{i:ME}(h:aY P a σ g (λx g1=>aY P o σ g1 (λy g2=>aY P i σ g2 (λz g3=>qg y z x g3 λg4=>N.nx σ g4) E) E) E):wpS P (.eP o i a) N σ g E:=h
def OA(h:aY P a σ g (λx g1=>aY P o σ g1 (λy g2=>yy f cs y x g2 λg3=>N.nx σ g3) E) E):wpS P (.dU f cs o a) N σ g E:=h
def Ov(h:aY P o σ g (λy g1=>∃a' c fs x,y=.ref a'/\g1[a']?=!.ins c fs/\c∈cs/\fs.lookup f=!x/\aY P a σ g1 (λz g3=>cA .iadd [x,z] g3 λw g4=>∃jc,g4[a']?=!.ins c jc/\-jc<100/\N.nx σ (g4.set a' (.ins c (u7 f w jc)))) E) E):wpS P (.kq f cs o a) N σ g E:=h
def FT(h:dN P c σ g (λt g1=>if t=true then wpS P x N σ g1 E else wpS P y N σ g1 E) E):wpS P (.ifs c x y) N σ g E:=h
def JE(h:aY P a σ g N.rt E):wpS P (.ret a) N σ g E:=h
def MP{x:Str}(h:fz P a σ g (λvs g1=>-vs<=1000/\E #[x] g1) E):wpS P (.raise x a) N σ g E:=h
def JG{hs:@&(Str×ME)}(h:wpS P x N σ g (lK P N (σ.map λy=>none) E hs)):wpS P (.R9 x hs) N σ g E:=h
def Je{x:Xn}{y:Str}{e:ME}{r:@&(Str×ME)}(hx:x.cls=y)(h:aY P e σ g N.rt ku):lK P N σ E ((y,e)::r) x g:=by unfold lK;rw[aw (.inl hx)];show h
def Wz{x:Xn}{e:ME}{r:@&(Str×ME)}(h:aY P e σ g N.rt ku):lK P N σ E (("MintError",e)::r) x g:=by unfold lK;rw[aw (.inr rfl)];show h
def w_var(e:σ[i]?=!!d)(h:Q d g):aY P (.var i) σ g Q E:=by show#[d,e,h]
def w_lit(h:Q d g):aY P (.lit d) σ g Q E:=h
def Oz(h:fz P a σ g (λxs g1=>cA p xs g1 Q) E):aY P (.prim p a) σ g Q E:=h
def Kl(h:cA p [] g Q):aY P (.prim p .nil) σ g Q E:=by show h
def yV(h:aY P a σ g (λx g1=>cA p [x] g1 Q) E):aY P (.prim p (.cons a .nil)) σ g Q E:=by show h
def tE(h:aY P a σ g (λx g1=>aY P b σ g1 (λy g2=>cA p [x,y] g2 Q) E) E):aY P (.prim p (.cons a (.cons b .nil))) σ g Q E:=by show h
def MN{o1 o2:CmpOp}(h:aY P a σ g (λx g1=>aY P b σ g1 (λy g2=>cA (.cmp o1) [x,y] g2 λz g3=>∃t,z=.bl t/\if t=true then aY P c σ g3 (λw g4=>cA (.cmp o2) [y,w] g4 Q) E else Q (.bl false) g3) E) E):aY P (.chain o1 o2 a b c) σ g Q E:=h
def w_and(h:aY P a σ g (λx g1=>∃t,x=.bl t/\if t=true then aY P b σ g1 Q E else Q (.bl false) g1) E):aY P (.eI a b) σ g Q E:=h
def w_not(h:aY P a σ g (λx g1=>∃t,x=.bl t/\Q (.bl (~~~t)) g1) E):aY P (.cK a) σ g Q E:=h
def w_ite(h:dN P c σ g (λt g1=>if t=true then aY P a σ g1 Q E else aY P b σ g1 Q E) E):aY P (.ite c a b) σ g Q E:=h
def Gy{f:Nat}(h:fz P a σ g (λxs g1=>P f xs g1 Q E) E):aY P (.call f a) σ g Q E:=h
def Ox{f:Nat}{c:Str}(h:fz P a σ g (λxs g1=>P f (.ref (-g1)::xs) (g1++[.ins c []]) (λd g2=>d=.aR/\Q (.ref (-g1)) g2) E) E):aY P (.make c f a) σ g Q E:=h
def MO{m:Str}{cs:@&(Str×Nat)}(h:aY P o σ g (λx g1=>∃a' c fs f,x=.ref a'/\g1[a']?=!.ins c fs/\fs.lookup m=none/\cs.lookup c=!f/\fz P a σ g1 (λxs g2=>P f (x::xs) g2 Q E) E) E):aY P (.bp m cs o a) σ g Q E:=h
def Oy(h:aY P o σ g (λx g1=>mF p x g1/\fz P a σ g1 (λxs g2=>cA p (x::xs) g2 Q) E) E):aY P (.dk p o a) σ g Q E:=h
def XS(h:fz P a σ (g++[.bX []]) (λxs g1=>∃kvs,uK xs []=!kvs/\-xs<=30/\g1[(-g)]?=!.bX []/\Q (.ref (-g)) (g1.set (-g) (.bX kvs))) E):aY P (.oB a) σ g Q E:=h
def FU{Q:@&D->G->Prop}(h:Q [] g):fz P .nil σ g Q E:=h
def Z8{Q:@&D->G->Prop}(h:aY P a σ g (λx g1=>fz P b σ g1 (λxs g2=>Q (x::xs) g2) E) E):fz P (.cons a b) σ g Q E:=h
def OB{Q:Bool->G->Prop}(h:dN P a σ g (λt g1=>if t=true then dN P b σ g1 Q E else Q false g1) E):dN P (.eI a b) σ g Q E:=h
def JF{Q:Bool->G->Prop}(h:dN P a σ g (λt g1=>if t=true then Q true g1 else dN P b σ g1 Q E) E):dN P (.hW a b) σ g Q E:=h
def OC{Q:Bool->G->Prop}(h:dN P a σ g (λt g1=>Q (~~~t) g1) E):dN P (.cK a) σ g Q E:=h
def FX{Q:Bool->G->Prop}(h:Q true g):dN P .no σ g Q E:=h
def FY{Q:Bool->G->Prop}(h:aY P a σ g (λx g1=>qV g1 x λb=>Q b g1) E):dN P (.dY a) σ g Q E:=h
end
section
variable{i:Int}{kb:Bool->Prop}{t s:Bool}
def Ir(h:Q (.int (i+j)) g):cA (.bin .Add) [.int i,.int j] g Q:=#[_,_,.inl #[i,j,_,rfl,rfl,rfl,rfl],h]
def Iu(h:Q (.int (i-j)) g):cA (.bin .Sub) [.int i,.int j] g Q:=#[_,_,.inl #[i,j,_,rfl,rfl,rfl,rfl],h]
def X9(c:qQ i j)(h:Q (.int (i*j)) g):cA (.bin .Mult) [.int i,.int j] g Q:=#[_,_,.inl #[i,j,_,rfl,#[c,rfl],rfl,rfl],h]
def T6(c:0<j)(h:Q (.int (i % j)) g):cA (.bin .Mod) [.int i,.int j] g Q:=#[_,_,.inl #[i,j,_,rfl,#[c,rfl],rfl,rfl],h]
def Fw(c:DK i j)(h:Q (.int (i / j)) g):cA (.bin .FloorDiv) [.int i,.int j] g Q:=#[_,_,.inl #[i,j,_,rfl,#[c,rfl],rfl,rfl],h]
def Ga(h1:0<j)(h2:j<1073741824)(h:Q (.int (i / j)) g):cA (.bin .FloorDiv) [.int i,.int j] g Q:=Fw #[h1,h2] h
def tH(c:S3 i j)(h:Q (.int (i ^ j.toNat)) g):cA (.bin .Pow) [.int i,.int j] g Q:=#[_,_,.inl #[i,j,_,rfl,#[c,rfl],rfl,rfl],h]
def Fy(hl:-l+-m<=100000)(h:Q (.tup (l++m)) g):cA (.bin .Add) [.tup l,.tup m] g Q:=#[_,_,.inr (.inl #[rfl,.inl #[l,m,rfl,hl,rfl,rfl]]),h]
def Wj{y:Str}(hl:-x+-y<=100000)(h:Q (.str (x++y)) g):cA (.bin .Add) [.str x,.str y] g Q:=#[_,_,.inr (.inl #[rfl,.inr (.inr #[x,y,rfl,hl,rfl,rfl])]),h]
def IB{i j:Nat}(hi:g[i]?=!.lst l)(hj:g[j]?=!.lst m)(hl:-l+-m<=100000)(h:Q (.ref (-g)) (g++[.lst (l++m)])):cA (.bin .Add) [.ref i,.ref j] g Q:=#[_,_,.inr (.inl #[rfl,.inr (.inl #[i,j,l,m,rfl,hi,hj,hl,rfl,rfl])]),h]
def IC{i:Nat}{n:Int}(hi:g[i]?=!.lst l)(h1:-(2 ^ 62)<=n)(h2:n<2 ^ 62)(hl:-l*n.toNat<=100000)(h:Q (.ref (-g)) (g++[.lst (List.replicate n.toNat l).flatten])):cA (.bin .Mult) [.ref i,.int n] g Q:=#[_,_,.inr (.inr #[rfl,.inl #[i,l,n,rfl,hi,h1,h2,hl,rfl,rfl]]),h]
def X'{n:Int}(fN:l≠[])(h1:1<=n)(h2:n<2 ^ 62)(hl:-l*n.toNat<=100000)(h:Q (.tup (List.replicate n.toNat l).flatten) g):cA (.bin .Mult) [.tup l,.int n] g Q:=#[_,_,.inr (.inr #[rfl,.inr #[l,n,rfl,fN,h1,h2,hl,rfl,rfl]]),h]
def JC(h:Q (.int (-(i))) g):cA (.un .USub) [.int i] g Q:=#[_,_,#[rfl,i,rfl,rfl,rfl],h]
def V6{op:CmpOp}{x:D}(hb:JU g x y b op)(h:Q (.bl b) g):cA (.cmp op) [x,y] g Q:=#[_,_,#[x,y,b,rfl,hb,rfl,rfl],h]
def JT(h:Q (.bl (decide (i<j))) g):cA (.cmp .Lt) [.int i,.int j] g Q:=V6 #[i,j,rfl,rfl,rfl] h
def JS(h:Q (.bl (decide (i<=j))) g):cA (.cmp .LtE) [.int i,.int j] g Q:=V6 #[i,j,rfl,rfl,rfl] h
def JR(h:Q (.bl (decide (j<i))) g):cA (.cmp .Gt) [.int i,.int j] g Q:=V6 #[i,j,rfl,rfl,rfl] h
def JQ(h:Q (.bl (decide (j<=i))) g):cA (.cmp .GtE) [.int i,.int j] g Q:=V6 #[i,j,rfl,rfl,rfl] h
def DT{x:D}(h:yf g x y λb=>Q (.bl b) g):cA (.cmp .Eq) [x,y] g Q:=let ⟨_,hb,h⟩:=h;V6 hb h
def DU{x:D}(h:yf g x y λb=>Q (.bl (~~~b)) g):cA (.cmp .NotEq) [x,y] g Q:=let ⟨b,hb,h⟩:=h;V6 (show ye g x y (~~~(~~~b)) from by simp_all) h
def S2{x:D}(h:si g x y λb=>Q (.bl b) g):cA (.cmp .In) [x,y] g Q:=let ⟨_,hb,h⟩:=h;V6 (.inl hb) h
def Wk{i j:Str}(h:Q (.bl (~~~(Builtin.Str.occurrences j i 0 (-j) 1).isEmpty)) g):cA (.cmp .In) [.str i,.str j] g Q:=V6 (.inr (.inr #[i,j,rfl,rfl,rfl])) h
def T3{x:D}(h:si g x y λb=>Q (.bl (~~~b)) g):cA (.cmp .NotIn) [x,y] g Q:=let ⟨b,hb,h⟩:=h;V6 (.inl (show inR g x y (~~~(~~~b)) from by simp_all)) h
def Jo(h:kb (decide (i=j))):yf g (.int i) (.int j) kb:=#[_,.inl #[i,j,rfl,rfl,rfl],h]
def Kc(h:kb (t==s)):yf g (.bl t) (.bl s) kb:=#[_,.inr (.inl #[t,s,rfl,rfl,rfl]),h]
def Jp{y:Str}(h:kb (decide (x=y))):yf g (.str x) (.str y) kb:=#[_,.inr (.inr (.inl #[x,y,rfl,rfl,rfl])),h]
def IE(h:Q (.bl (decide (i=j))) g):cA (.cmp .Eq) [.int i,.int j] g Q:=DT (Jo h)
def Fz(h:Q (.bl (~~~decide (i=j))) g):cA (.cmp .NotEq) [.int i,.int j] g Q:=DU (Jo h)
def ID(h:Q (.bl (t==s)) g):cA (.cmp .Eq) [.bl t,.bl s] g Q:=DT (Kc h)
def IS(h:Q (.bl (~~~(t==s))) g):cA (.cmp .NotEq) [.bl t,.bl s] g Q:=DU (Kc h)
def IF{p q:Str}(h:Q (.bl (decide (p=q))) g):cA (.cmp .Eq) [.str p,.str q] g Q:=DT (Jp h)
def IT{p q:Str}(h:Q (.bl (~~~decide (p=q))) g):cA (.cmp .NotEq) [.str p,.str q] g Q:=DU (Jp h)
def qS(h:Q (.bl (X7 d)) g):cA (.cmp .Is) [d,.aR] g Q:=V6 #[rfl,rfl] h
def Bb(h:Q (.bl (~~~X7 d)) g):cA (.cmp .IsNot) [d,.aR] g Q:=V6 #[rfl,rfl] h
def II(h:Q (.bl true) g):cA (.cmp .Is) [.aR,.aR] g Q:=qS h
def IL(h:Q (.bl false) g):cA (.cmp .Is) [.int i,.aR] g Q:=qS h
def IJ(h:Q (.bl false) g):cA (.cmp .Is) [.bl t,.aR] g Q:=qS h
def IP(h:Q (.bl false) g):cA (.cmp .Is) [.str x,.aR] g Q:=qS h
def IQ(h:Q (.bl false) g):cA (.cmp .Is) [.tup l,.aR] g Q:=qS h
def IM(h:Q (.bl false) g):cA (.cmp .Is) [.ref n,.aR] g Q:=qS h
def IG(h:Q (.bl false) g):cA (.cmp .IsNot) [.aR,.aR] g Q:=Bb h
def IH(h:Q (.bl true) g):cA (.cmp .IsNot) [.int i,.aR] g Q:=Bb h
def tD(h:kb t):qV g (.bl t) kb:=#[t,.inr (.inl rfl),h]
def Br{i:Nat}(hl:c6 g i=!l)(h:kb (~~~l.isEmpty)):qV g (.ref i) kb:=#[_,.inr (.inr (.inr (.inr #[i,l,rfl,hl,rfl]))),h]
def LW{p:Bool->Prop}(h:p t):∃s,D.bl t=D.bl s/\p s:=#[t,rfl,h]
def NQ{p:Int->Prop}(h:p i):∃s,D.int i=D.int s/\p s:=#[i,rfl,h]
def if2{c:Prop}[Decidable c](h1:c->A)(h2:¬c->B):if decide c=true then A else B:=by
 simp_all
def pk(h:A):if true=true then A else B:=by rw[aw rfl];show h
def C9(h:B):if false=true then A else B:=by rw[az ∅];show h
def JY(h:A):if(~~~false)=true then A else B:=by show h
def JZ(h:B):if(~~~true)=true then A else B:=by rw[az ∅];show h
def dB(hb:b=false)(h:B):if b=true then A else B:=by rw[hb];show C9 h
def fA(hb:b=true)(h:A):if b=true then A else B:=by rw[hb];show pk h
def A5(hl:c6 g a=!l)(h2:iQ l i=!d)(h:Q d g):cA .ix [.ref a,.int i] g Q:=#[_,_,#[rfl,.inl #[_,l,i,rfl,hl,h2]],h]
def Z6(h2:iQ l i=!d)(h:Q d g):cA .ix [.tup l,.int i] g Q:=#[_,_,#[rfl,.inl #[_,l,i,rfl,rfl,h2]],h]
def i6{i:Nat}{k:Key}(hg:g[i]?=!.bX kvs)(hk:Z5 y=!k)(hv:J7 kvs k=!v)(h:Q v g):cA .ix [.ref i,y] g Q:=#[_,_,#[rfl,.inr (.inl #[i,kvs,y,k,rfl,hg,hk,hv])],h]
def S5(hl:g[a]?=!.lst l)(hn:lh (-l) i=!n)(h:kg (g.set a (.lst (l.set n v)))):qg (.ref a) (.int i) v g kg:=#[_,.inl #[a,i,l,n,rfl,rfl,hl,hn,rfl],h]
def Jt{i:Nat}{k:Key}(hg:g[i]?=!.bX kvs)(hk:Z5 y=!k)(hl:-kvs<100000)(h:kg (g.set i (.bX (putD kvs k v)))):qg (.ref i) y v g kg:=#[_,.inr #[i,kvs,k,rfl,hg,hk,hl,rfl],h]
def t9{fs:@&(Str×D)}(hg:g[a]?=!.ins c fs)(hc:c∈cs)(hl:-fs<100)(h:kg (g.set a (.ins c (u7 f v fs)))):yy f cs (.ref a) v g kg:=#[_,#[a,c,fs,rfl,hg,hc,hl,rfl],h]
def i7{fs:@&(Str×D)}(hg:g[a]?=!.ins c fs)(hf:fs.lookup f=!d)(h:Q d g):cA (.fld f) [.ref a] g Q:=#[_,_,#[a,c,fs,rfl,hg,hf,rfl],h]
def a6(h:g[a]?=!.lst l):c6 g a=!l:=by simp only[c6,h,Gi]
def a80(h:g[a]?=!.pV l):c6 g a=!l:=by simp only[c6,h,Gi]
def j5(hl:c6 g a=!l)(h:Q (.int (-l)) g):cA .len [.ref a] g Q:=#[_,_,#[rfl,.inl #[_,l,rfl,hl,rfl]],h]
def Jh(h:Q (.int (-l)) g):cA .len [.tup l] g Q:=#[_,_,#[rfl,.inl #[_,l,rfl,rfl,rfl]],h]
def Ol(h:Q (.tup (cut l (!i) none)) g):cA (.mZ true false) [.tup l,.int i] g Q:=#[_,_,#[_,i,rfl,.inl #[l,rfl,rfl,rfl]],h]
def Oj(h:Q (.tup (cut l none (!i))) g):cA (.mZ false true) [.tup l,.int i] g Q:=#[_,_,#[_,i,rfl,.inl #[l,rfl,rfl,rfl]],h]
def ZP(hl:c6 g a=!l)(h:Q (.ref (-g)) (g++[.lst (cut l none (!i))])):cA (.mZ false true) [.ref a,.int i] g Q:=#[_,_,#[_,i,rfl,.inr #[a,l,rfl,hl,rfl,rfl]],h]
def Xv(hl:c6 g a=!l)(h:Q (.ref (-g)) (g++[.lst l.reverse])):cA .rev [.ref a] g Q:=#[_,_,.inr #[a,l,rfl,hl,rfl,rfl],h]
def vb(hl:-l<=1000)(h:Q (.tup l) g):cA .tup l g Q:=#[_,_,#[hl,rfl,rfl],h]
def va(hl:-l<=1000)(h:Q (.ref (-g)) (g++[.lst l])):cA .lst l g Q:=#[_,_,#[hl,rfl,rfl],h]
def uZ(hl:c6 g a=!l)(h:Q (.ref (-g)) (g++[.lst l])):cA .list [.ref a] g Q:=#[_,_,.inl #[_,l,rfl,hl,rfl,rfl],h]
def Ji(h:Q (.ref (-g)) (g++[.lst l])):cA .list [.tup l] g Q:=#[_,_,.inl #[_,l,rfl,rfl,rfl,rfl],h]
def FO(hl:c6 g a=!l)(h:Q (.tup l) g):cA .tuple [.ref a] g Q:=#[_,_,#[_,l,rfl,hl,rfl,rfl],h]
def FP(h:Q (.tup l) g):cA .tuple [.tup l] g Q:=#[_,_,#[_,l,rfl,rfl,rfl,rfl],h]
def gf{c:String}(hc:c∈["int","bool","str","tuple","list"])(hb:sZ g d c=!b)(h:Q (.bl b) g):cA .isin [d,.ty c] g Q:=#[_,_,#[d,c,b,rfl,hc,hb,rfl,rfl],h]
def M9{i:Nat}(hg:g[i]?=!.lst l)(hl:-l<100000)(h:Q .aR (g.set i (.lst (l++[y])))):cA .append [.ref i,y] g Q:=#[_,_,#[i,y,l,rfl,hg,hl,rfl,rfl],h]
def Gp:mF .join (.str x) g:=#[x,rfl]
def Gn:mF .split (.str x) g:=#[x,rfl]
def m_split{a b:Str}{l:@&Str}(hb:(-b==0)=false)(ha:-a<=100000)(e:Txt.split a b=l)(hz:-l<=100000)(h:Q (.ref (-g)) (g++[.lst (l.map .str)])):cA .split [.str a,.str b] g Q:=#[_,_,#[a,b,rfl,hb,ha,by rw[e];show hz,rfl,by rw[e]],h]
def Gj{sep:Str}{i:Nat}{ys:@&Str}(hl:c6 g i=!ys.map .str)(hz:E3 sep ys<=100000)(h:Q (.str (Builtin.Str.glued sep ys)) g):cA .join [.str sep,.ref i] g Q:=#[_,_,#[sep,i,ys,rfl,hl,hz,rfl,rfl],h]
def NZ:mF .index (.tup l) g:=.inl #[l,rfl]
def NY(hl:c6 g a=!l):mF .index (.ref a) g:=.inr #[a,l,rfl,hl]
def Jk(W:R0 l y n)(hz:-l<=100000)(h:Q (.int n) g):cA .index [.tup l,y] g Q:=#[_,_,#[_,y,l,n,rfl,rfl,W,hz,rfl,rfl],h]
def Jj(hl:c6 g a=!l)(W:R0 l y n)(hz:-l<=100000)(h:Q (.int n) g):cA .index [.ref a,y] g Q:=#[_,_,#[_,y,l,n,rfl,hl,W,hz,rfl,rfl],h]
def NP(hl:-l+-m<=100000)(h:Q (.tup (l++m)) g):cA .iadd [.tup l,.tup m] g Q:=#[_,_,.inr #[l,m,rfl,hl,rfl,rfl],h]
def C4{i:Nat}(hg:g[i]?=!.lst l):mF .append (.ref i) g:=#[i,l,rfl,a6 hg]
def PV(h1:-(2 ^ 62)<=j)(h2:j<=100000)(h:Q (.ref (-g)) (g++[.lst (l6 0 j.toNat)])):cA .ke [.int j] g Q:=#[_,_,#[j,rfl,h1,h2,rfl,rfl],h]
def PU(h1:-(2 ^ 62)<=i/\i<2 ^ 62/\-(2 ^ 62)<=j/\j<2 ^ 62/\j-i<=100000)(h:Q (.ref (-g)) (g++[.lst (l6 i (j-i).toNat)])):cA .kd [.int i,.int j] g Q:=#[_,_,#[i,j,rfl,h1,rfl,rfl],h]
def Xg{ns ms:@&Int}(h1:∀k∈ns,ST.Spot k)(h2:∀k∈ms,ST.Spot k)(hl:-ns+-ms<50)(h:Q (.ref (-g)) (g++[.lst ((K9 (ns++ms)).map .int)])):cA .vS [.tup (ns.map .int),.tup (ms.map .int)] g Q:=#[_,_,#[ns,ms,rfl,h1,h2,hl,rfl,rfl],h]
def yG{i:Nat}(hg:g[i]?=!.lst (l++[y]))(h:Q y (g.set i (.lst l))):cA .jF [.ref i] g Q:=#[_,_,#[i,l,rfl,hg,rfl],h]
def yP{i:Nat}(hg:g[i]?=!.lst l):mF .jF (.ref i) g:=#[i,l,rfl,a6 hg]
def Sw{i:Nat}(hg:g[i]?=!.bX kvs)(h:Q (.ref (-g)) (g++[.bX kvs])):cA .ko [.ref i] g Q:=#[_,_,.inl #[i,kvs,rfl,hg,rfl,rfl],h]
def Jf{v:Bool}(h:Q (.int (if v then 1 else 0)) g):cA .int [.bl v] g Q:=#[_,_,#[rfl,.inr (.inl #[v,rfl,rfl])],h]
def WD{n:Int}(hl:-x<=640)(hn:PySem.intText? x=!n)(h:Q (.int n) g):cA .int [.str x] g Q:=#[_,_,#[rfl,.inr (.inr #[x,n,rfl,hl,hn,rfl])],h]
def Bp(hi:i.natAbs.log2<1920)(h:Q (.str (toString i)) g):cA .str [.int i] g Q:=#[_,_,.inl #[i,rfl,hi,rfl,rfl],h]
def YT(h:Q (.str x) g):cA .str [.str x] g Q:=#[_,_,.inr #[x,rfl,rfl,rfl],h]
def Jd{kvs:@&D}(h:Q (.bl (~~~(X4 kvs x).isSome)) g):cA .nK [.tup kvs,.str x] g Q:=#[_,_,#[kvs,x,rfl,rfl,rfl],by rw[Bool.true_xor];show h]
def uW{kvs:@&D}(hv:X4 kvs x=!v)(h:Q v g):cA .kS [.tup kvs,.str x] g Q:=#[_,_,#[kvs,x,rfl,hv,rfl],h]
def YS(hx:X6 l=!x)(h:Q (.str x) g):cA .mj l g Q:=#[_,_,#[x,hx,rfl,rfl],h]
def Fx{i:Nat}{v:Bool}(hl:c6 g i=!l)(hv:J6 l=!v)(h:Q (.bl v) g):cA .all [.ref i] g Q:=#[_,_,#[i,l,v,rfl,hl,.inl hv,rfl,rfl],h]
def s9{i:Nat}{x:D}{k:S->Prop}(h:k (σ.set i (!x))):kX (.one i) x σ k:=h
def O3{is:@&Nat}{cu:S}{k:S->Prop}(e:Q3 is l σ=!cu)(h:k cu):kX (.many is) (.tup l) σ k:=#[l,cu,rfl,e,h]
end
def VY:∀(bs:@&Bool),J6 (bs.map D.bl)=!bs.all id:=by
 intro bs
 induction bs with
 |nil=>rfl
 |cons b r ih=>simp[J6,ih]
def call_of{T:Nat->Option aT}{k f:Nat}{m:aT}{ds:@&D}(hT:T f=!m)(hl:-ds=m.ar)(h:wpS (a8 T k) m.body #[λx g'=>Q .aR g',Q,λx x=>False,λx x=>False] (b0 m ds) g E):a8 T (k+1) f ds g Q E:=#[m,hT,hl,h]
def c7{a:ME}{f:Nat}{m:Str}{fs:@&(Str×D)}{cs:@&(Str×Nat)}(hg:g[i]?=!.ins c fs)(hf:fs.lookup m=none)(hc:cs.lookup c=!f)(h:fz P a σ g (λxs g2=>P f (.ref i::xs) g2 Q E) E) :
  ∃a' c fs f,D.ref i=.ref a'/\g[a']?=!.ins c fs/\fs.lookup m=none/\cs.lookup c=!f/\fz P a σ g (λxs g2=>P f (.ref i::xs) g2 Q E) E:=#[i,c,fs,f,rfl,hg,hf,hc,h]
def IK.Is(k:IK)(l:@&D)(g:G):Prop:=∀i,k.at i g=some l[i]?
def J0:(IK.fix l).Is l g:=λx=>rfl
def Q8(h:c6 g a=!l):(IK.lst a).Is l g:=λi=>by simp only[IK.at,h]
abbrev R6(l m:@&D):@&D:=(l.zip m).map λp=>.tup [p.1,p.2]
def Ym(h:c6 g a=!m)(e:-l=-m):(IK.tU l a).Is (R6 l m) g:=λi=>by
 simp only[IK.at,h,if_pos e,R6,List.getElem?_map]
def O4{lo:Int}{x:D}(h:(l6 lo n)[i]?=!x):i<n/\x=.int (lo+i):=by
 unfold l6 at h;let hi:i<n:=by
  have:=(ax.mp h).1;simpa using this
 rw[aD,jA hi] at h;cases h;show#[hi,rfl]
def E1(lo:Int)(n:Nat):(l6 lo n).length=n:=by simp[l6]
section
variable{N:Ends}{it a b c:ME}{s:MS}{t:MT}
def VP{k:IK}{fin:S->G->Prop}{turn:D->(S->G->Prop)->S->G->Prop}(I:Nat->S->G->Prop)(hk:∀i σ g,I i σ g->k.Is l g)(h0:I 0 σ g)(hs:∀i x σ g,l[i]?=!x->I i σ g->turn x (I (i+1)) σ g)(hd:∀σ g,I (-l) σ g->fin σ g):turns k σ g fin turn:=by
 show#[λi m σ g=>m=-l-i/\i<=-l/\I i σ g,#[(-l),by simp,cJ _,h0],?_];rintro i m σ g ⟨rfl,hi,p⟩;rw[hk i σ g p i];by_cases dO:i< -l
 .rw[ao dO];show .inr #[_,rfl,I (i+1),λcu g' p'=>#[(-l)-(i+1),by omega,rfl,dO,p'],hs i l[i] σ g (ao dO) p]
 .let e:i=-l:=by omega
  subst e;rw[fo (ak _)];show .inl #[rfl,hd σ g p]
inductive zc(P:ff)(t:MT)(s:MS)(N:Ends)(E:KX)(σ:S)(k:IK)(g1:G):Prop
 |mk (l:@&D) (I:Nat->S->G->Prop) (hk:∀i σ g,I i σ g->k.Is l g) (h0:I 0 σ g1)
   (hs:∀i x σ g,l[i]?=!x->I i σ g->kX t x σ λdz=>wpS P s #[I (i+1),N.rt,N.nx,I (i+1)] dz g E) (hd:∀σ g,I (-l) σ g->N.nx σ g):zc P t s N E σ k g1
def P0(hP:i3 P)(h:iW P it σ g (zc P t s N E σ) E):wpS P (.jK t it s) N σ g E :=
 B7 hP it _ _ _ _ _ _ (λk g1 hq=>by let#[l,I,hk,h0,hs,hd]:=hq;show VP I hk h0 hs hd) (λx x z=>z) h
inductive CompI(P:ff)(t:MT)(cond elt:ME)(E:KX)(Q:KD)(σ:S)(k:IK)(g1:G):Prop
 |mk (l:@&D) (I:Nat->@&D->S->G->Prop) (hl:-l<=1000) (hk:∀i ys σ g,I i ys σ g->k.Is l g/\-ys<=i) (h0:I 0 [] σ g1)
   (hs:∀i x ys σ g,l[i]?=!x->I i ys σ g->kX t x σ λdz=>dN P cond dz g (λc g3=>if c=true then aY P elt dz g3 (λy g4=>I (i+1) (ys++[y]) dz g4) E else I (i+1) ys dz g3) ku)
   (hd:∀ys σ g,I (-l) ys σ g->Q (.ref (-g)) (g++[.lst ys])):CompI P t cond elt E Q σ k g1
def P9(hP:i3 P)(h:iW P it σ g (CompI P t cond elt ku Q (P8 σ c9 n)) E):aY P (.comp c9 n t it cond elt) σ g Q E:=by
 show B7 hP it _ _ _ _ _ _ (λk g1 h=>?_) (λx x z=>z) h;let#[l,I,hl,hk,h0,hs,hd]:=h;show#[λi m ys σ g=>m=-l-i/\i<=-l/\I i ys σ g,#[(-l),by simp,cJ _,h0],?_];rintro i m ys σ g ⟨rfl,hi,p⟩;let#[Ct,hy]:=hk i ys σ g p;rw[Ct i];by_cases dO:i< -l
 .rw[ao dO];show .inr #[_,rfl,by omega,C8 (λdz q=>u3 hP cond _ _ _ _ _ _ (λc g3 q=>?_) (λx x z=>z) q) (hs i l[i] ys σ g (ao dO) p)];cases c
  .exact#[(-l)-(i+1),by omega,rfl,dO,by simpa using(show I (i+1) ys dz g3 from q)]
  .exact b7 hP elt _ _ _ _ _ _ (λy g4 q=>#[(-l)-(i+1),by omega,rfl,dO,by simpa using q]) (λx x z=>z) q
 .let e:i=-l:=by omega
  subst e;rw[fo (ak _)];show .inl #[rfl,hd ys σ g p]
def TN(hP:i3 P)(h:iW P it σ g (CompI P t cond elt E Q (P8 σ c9 n)) E):aY P (.gX c9 n t it cond elt) σ g Q E:=by
 show B7 hP it _ _ _ _ _ _ (λk g1 h=>?_) (λx x z=>z) h;let#[l,I,hl,hk,h0,hs,hd]:=h;show#[λi m ys σ g=>m=-l-i/\i<=-l/\I i ys σ g,#[(-l),by simp,cJ _,h0],?_];rintro i m ys σ g ⟨rfl,hi,p⟩;let#[Ct,hy]:=hk i ys σ g p;rw[Ct i];by_cases dO:i< -l
 .rw[ao dO];show .inr #[_,rfl,by omega,C8 (λdz q=>u3 hP cond _ _ _ _ _ _ (λc g3 q=>?_) (λx x z=>z) q) (hs i l[i] ys σ g (ao dO) p)];cases c
  .exact#[(-l)-(i+1),by omega,rfl,dO,by simpa using(show I (i+1) ys dz g3 from q)]
  .exact b7 hP elt _ _ _ _ _ _ (λy g4 q=>#[(-l)-(i+1),by omega,rfl,dO,by simpa using q]) (λx x z=>z) q
 .let e:i=-l:=by omega
  subst e;rw[fo (ak _)];show .inl #[rfl,hd ys σ g p]
def Lp(hP:i3 P)(h:aY P a σ g (λx g1=>∃j:Nat,x=.int j/\j<=1000/\∃I:Nat->@&D->S->G->Prop,I 0 [] (P8 σ c9 n) g1/\(∀i ys σ g,I i ys σ g->-ys<=i) /\
      (∀(i:Nat) ys σ g,i<j->I i ys σ g->kX t (.int i) σ λdz=>dN P cond dz g (λc g3=>if c=true then aY P elt dz g3 (λy g4=>I (i+1) (ys++[y]) dz g4) ku else I (i+1) ys dz g3) ku) /\
      ∀ ys σ g,I j ys σ g->Q (.ref (-g)) (g ++ [.lst ys])) E):aY P (.comp c9 n t (.gC a) cond elt) σ g Q E:=by
  show P9 hP ?_;show b7 hP a _ _ _ _ _ _ (λx g1 h=>?_) (λw w z=>z) h;let#[j,rfl,hj,I,h0,hz,hs,hd]:=h;show#[j,rfl,by omega,by omega,_,I,by rw[E1];simpa using hj,λi ys σ g p=>#[J0,hz i ys σ g p],h0,λi x ys σ g hx p=>?_,λys σ g p=>hd ys σ g (by rw[E1] at p;simpa using p)];let#[hi,rfl]:=O4 hx;rw[show(0:Int)+(i:Int)=i by omega];show hs i ys σ g (_/hi) p
def aS9(hP:i3 P)(h:aY P a σ g (λx g1=>∃l,x=.tup l/\-l<=1000/\∃I:Nat->@&D->S->G->Prop,I 0 [] (P8 σ c9 n) g1/\(∀i ys σ g,I i ys σ g->-ys<=i) /\
      (∀(i:Nat) x ys σ g,l[i]?=!x->I i ys σ g->kX t x σ λdz=>dN P cond dz g (λc g3=>if c=true then aY P elt dz g3 (λy g4=>I (i+1) (ys++[y]) dz g4) ku else I (i+1) ys dz g3) ku) /\
      ∀ ys σ g,I (-l) ys σ g->Q (.ref (-g)) (g ++ [.lst ys])) E):aY P (.comp c9 n t (.iJ a) cond elt) σ g Q E:=by
  show P9 hP ?_;show b7 hP a _ _ _ _ _ _ (λx g1 h=>?_) (λw w z=>z) h;let#[l,rfl,hj,I,h0,hz,hs,hd]:=h;show .inl #[l,rfl,_,I,hj,λi ys σ g p=>#[J0,hz i ys σ g p],h0,hs,hd]
def AW(hP:i3 P)(h:aY P a σ g (λx g1=>∃j:Int,x=.int j/\-(2 ^ 62)<=j/\j<2 ^ 62/\R (.fix (l6 0 j.toNat)) g1) E):iW P (.gC a) σ g R E:=h
def DY(hP:i3 P)(h:aY P a σ g (λx g1=>aY P b σ g1 (λy g2=>∃i j:Int,x=.int i/\y=.int j/\(-(2 ^ 62)<=i/\i<2 ^ 62/\-(2 ^ 62)<=j/\j<2 ^ 62)/\R (.fix (l6 i (j-i).toNat)) g2) E) E):iW P (.iH a b) σ g R E:=h
def qw(hP:i3 P)(h:aY P a σ g (λx g1=>∃i l,x=.ref i/\c6 g1 i=!l/\R (.lst i) g1) E):iW P (.iJ a) σ g R E:=by
 show b7 hP a _ _ _ _ _ _ (λx g1 h=>.inr (.inl h)) (λy y z=>z) h
def Qi(hP:i3 P)(h:aY P a σ g (λx g1=>∃w:Str,x=.str w/\w.cps.all (·<128)=true/\R (.fix (sgn w)) g1) E):iW P (.iJ a) σ g R E:=by
 show b7 hP a _ _ _ _ _ _ (λx g1 h=>.inr (.inr h)) (λy y z=>z) h
def Qh(h:aY P a σ g (λx g1=>aY P b σ g1 (λy g2=>∃l i m,x=.tup l/\y=.ref i/\c6 g2 i=!m/\R (.tU l i) g2) E) E):iW P (.oh a b) σ g R E:=h
end
end M
namespace M
open PySem L2 PySem.Spec PyProof.Rows
variable{K:PySem.W.Frag}{x:Str}{C:Addr}
structure RF where
 id:Nat
 nm:Str
 N:@&Str
 k:Nat
 i:Nat
 m:aT
structure RM where
 id:Nat
 cl:Str
 nm:Str
 qn:Str
 N:@&Str
 k:Nat
 i:Nat
 j:Nat
 m:aT
def RF.d(tp:Nat->Stmt)(r:RF):qh:=#[r.nm,r.nm,r.N,r.N.take r.k,tp r.i]
def RM.d(mt:Nat->Nat->Stmt)(r:RM):qh:=#[r.nm,r.qn,r.N,r.N.take r.k,mt r.i r.j]
abbrev uP(F:@&RF)(M:@&RM)(i:Nat):Option aT:=match F.find? λr=>Nat.beq r.id i with
 |some r=>!r.m
 |none=>(M.find? λr=>Nat.beq r.id i).map (·.m)
section
variable(tp:Nat->Stmt)(mt:Nat->Nat->Stmt)(K:PySem.W.Frag)
abbrev PF:@&RF->Prop
 |[]=>True
 |r::l=>(∃f fd,PySem.W.nsIn K mainGlobals r.nm=!!.ref f/\qY K r.nm r.nm (tp r.i) f fd)/\PF l
abbrev PM:@&RM->Prop
 |[]=>True
 |r::l=>(∃C f fd,PySem.W.nsIn K mainGlobals r.cl=!!.ref C/\Meth K C r.nm f/\qY K r.nm r.qn (mt r.i r.j) f fd)/\PM l
abbrev PC:@&(Str×Nat)->Prop
 |[]=>True
 |r::l=>(∃C,PySem.W.nsIn K mainGlobals r.1=!!.ref C/\jd K C/\PySem.W.makesIn K C=true/\PySem.W.keepIn K (.ref C)=true)/\PC l
abbrev PA:@&(Str×Str)->Prop
 |[]=>True
 |r::l=>(∃C,PySem.W.nsIn K mainGlobals r.2=!!.ref C/\PySem.W.findIn K (.ref C) r.1=!none)/\PA l
abbrev PB:@&Str->Prop
 |[]=>True
 |r::l=>PySem.W.nsIn K mainGlobals r=!none/\PB l
abbrev PX:@&Str->Prop
 |[]=>True
 |r::l=>(∃C,PySem.W.nsIn K mainGlobals r=!!.ref C/\PySem.W.excIn K C [.type "ValueError",.type "Exception",.type "BaseException",.type "object"] "ValueError.__new__"=true)/\PX l
abbrev BF:@&RF->Prop
 |[]=>True
 |r::l=>(∀(kV doc pm:Value) (an:Option Addr) (fJ ct:Value) (us:@&Value),(-us)=(r.N.take r.k).length->bindArgs (PySem.W.fnOf r.nm r.nm (B5 (tp r.i)) (l8 (tp r.i)) (l7 (tp r.i)) .none kV doc pm an fJ ct) #[us,[]]=pure ((r.N.take r.k).zip us))/\BF l
abbrev BM:@&RM->Prop
 |[]=>True
 |r::l=>(∀(kV doc pm:Value) (an:Option Addr) (fJ ct:Value) (us:@&Value),(-us)=(r.N.take r.k).length->bindArgs (PySem.W.fnOf r.nm r.qn (B5 (mt r.i r.j)) (l8 (mt r.i r.j)) (l7 (mt r.i r.j)) .none kV doc pm an fJ ct) #[us,[]]=pure ((r.N.take r.k).zip us))/\BM l
abbrev YF(c:d7):@&RF->Prop
 |[]=>True
 |r::l=>B0 (comp 60) (c.at (r.d tp)) (l8 (tp r.i))=!r.m.body/\YF c l
abbrev YM(c:d7):@&RM->Prop
 |[]=>True
 |r::l=>B0 (comp 60) (c.at (r.d mt)) (l8 (mt r.i r.j))=!r.m.body/\YM c l
end
section
variable{tp:Nat->Stmt}{mt:Nat->Nat->Stmt}{c:d7}{id k i j:Nat}{cl nm qn:Str}{N:@&Str}{m:aT}{f:Addr}{oc kV doc pm fJ ct:Value}{od an:Option Addr}{mE:Array (Option Value)}
def PF.nil:PF tp K []:=trivial
def PF.cons{l:@&RF}(a:PySem.W.nsIn K mainGlobals nm=!!.ref f)(lk:K.lookup f=!#[oc,od,.func (PySem.W.fnOf nm nm (B5 (tp i)) (l8 (tp i)) (l7 (tp i)) .none kV doc pm an fJ ct),mE])(cd:PySem.W.codeIn K fJ nm=true)(kp:PySem.W.keepIn K (.ref f)=true)(h:PF tp K l):PF tp K (#[id,nm,N,k,i,m]::l):=#[#[f,_,a,NN lk cd kp],h]
def PM.nil:PM mt K []:=trivial
def PM.cons{l:@&RM}(c0:PySem.W.nsIn K mainGlobals cl=!!.ref C)(a:PySem.W.findIn K (.ref C) nm=!!.ref f)(af:PySem.W.isFn K (.ref f)=true)(lk:K.lookup f=!#[oc,od,.func (PySem.W.fnOf nm qn (B5 (mt i j)) (l8 (mt i j)) (l7 (mt i j)) .none kV doc pm an fJ ct),mE])(cd:PySem.W.codeIn K fJ qn=true)(kp:PySem.W.keepIn K (.ref f)=true)(h:PM mt K l):PM mt K (#[id,cl,nm,qn,N,k,i,j,m]::l):=#[#[C,f,_,c0,#[a,af,kp],NN lk cd kp],h]
def PC.nil:PC K []:=trivial
def PC.cons{l:@&(Str×Nat)}(cn:PySem.W.nsIn K mainGlobals x=!!.ref C)(cp:PySem.W.plainGet K C Str.empty=true)(RZ:PySem.W.hasDictIn K C=true)(RV:PySem.W.plainOver K C=true)(RU:PySem.W.findIn K (.ref C) "__setattr__"=!!(.builtin "object.__setattr__"))(RW:PySem.W.makesIn K C=true)(RY:PySem.W.keepIn K (.ref C)=true)(h:PC K l):PC K ((x,i)::l):=#[#[C,cn,#[cp,RZ,RV,RU],RW,RY],h]
def PA.nil:PA K []:=trivial
def PA.cons{l:@&(Str×Str)}(cn:PySem.W.nsIn K mainGlobals x=!!.ref C)(fl:PySem.W.findIn K (.ref C) nm=!none)(h:PA K l):PA K ((nm,x)::l):=#[#[C,cn,fl],h]
def PB.nil:PB K []:=trivial
def PB.cons{l:@&Str}(cn:PySem.W.nsIn K mainGlobals x=!none)(h:PB K l):PB K (x::l):=#[cn,h]
def PX.nil:PX K []:=trivial
def PX.cons{l:@&Str}(cn:PySem.W.nsIn K mainGlobals x=!!.ref C)(q:PySem.W.excIn K C [.type "ValueError",.type "Exception",.type "BaseException",.type "object"] "ValueError.__new__"=true)(h:PX K l):PX K (x::l):=#[#[C,cn,q],h]
def GX{P:@&Value->Prop}{n:Nat}(h:∀a vs,(-vs)=n->P (a::vs))(us:@&Value)(hl:-us=n+1):P us:=by
 cases us with
 |nil=>cases hl
 |cons a vs=>show h a vs (Nat.succ.inj hl)
def GW{P:@&Value->Prop}(h:P [])(us:@&Value)(hl:-us=0):P us:=by
 simp_all
def BF.nil:BF tp []:=trivial
def BF.cons{l:@&RF}(h:∀(kV doc pm:Value) (an:Option Addr) (fJ ct:Value) (us:@&Value),(-us)=(N.take k).length->bindArgs (PySem.W.fnOf nm nm (B5 (tp i)) (l8 (tp i)) (l7 (tp i)) .none kV doc pm an fJ ct) #[us,[]]=pure ((N.take k).zip us))(h2:BF tp l):BF tp (#[id,nm,N,k,i,m]::l):=#[h,h2]
def BM.nil:BM mt []:=trivial
def BM.cons{l:@&RM}(h:∀(kV doc pm:Value) (an:Option Addr) (fJ ct:Value) (us:@&Value),(-us)=(N.take k).length->bindArgs (PySem.W.fnOf nm qn (B5 (mt i j)) (l8 (mt i j)) (l7 (mt i j)) .none kV doc pm an fJ ct) #[us,[]]=pure ((N.take k).zip us))(h2:BM mt l):BM mt (#[id,cl,nm,qn,N,k,i,j,m]::l):=#[h,h2]
def YF.nil:YF tp c []:=trivial
def YF.cons{l:@&RF}(h:B0 (comp 60) (c.at #[nm,nm,N,N.take k,tp i]) (l8 (tp i))=!m.body)(h2:YF tp c l):YF tp c (#[id,nm,N,k,i,m]::l):=#[h,h2]
def YM.nil:YM mt c []:=trivial
def YM.cons{l:@&RM}(h:B0 (comp 60) (c.at #[nm,qn,N,N.take k,mt i j]) (l8 (mt i j))=!m.body)(h2:YM mt c l):YM mt c (#[id,cl,nm,qn,N,k,i,j,m]::l):=#[h,h2]
def YF.get:∀{l:@&RF},YF tp c l->∀r∈l,B0 (comp 60) (c.at (r.d tp)) (l8 (tp r.i))=!r.m.body
 |_::_,h,r,hr=>(aG.mp hr).elim (λz=>z▸h.1) (YF.get h.2 r)
def YM.get:∀{l:@&RM},YM mt c l->∀r∈l,B0 (comp 60) (c.at (r.d mt)) (l8 (mt r.i r.j))=!r.m.body
 |_::_,h,r,hr=>(aG.mp hr).elim (λz=>z▸h.1) (YM.get h.2 r)
def PF.get:∀{l:@&RF},PF tp K l->∀r∈l,∃f fd,PySem.W.nsIn K mainGlobals r.nm=!!.ref f/\qY K r.nm r.nm (tp r.i) f fd
 |_::_,h,r,hr=>(aG.mp hr).elim (λz=>z▸h.1) (PF.get h.2 r)
def PM.get:∀{l:@&RM},PM mt K l->∀r∈l,∃C f fd,PySem.W.nsIn K mainGlobals r.cl=!!.ref C/\Meth K C r.nm f/\qY K r.nm r.qn (mt r.i r.j) f fd
 |_::_,h,r,hr=>(aG.mp hr).elim (λz=>z▸h.1) (PM.get h.2 r)
def PC.get:∀{l:@&(Str×Nat)},PC K l->∀r∈l,∃C,PySem.W.nsIn K mainGlobals r.1=!!.ref C/\jd K C/\PySem.W.makesIn K C=true/\PySem.W.keepIn K (.ref C)=true
 |_::_,h,r,hr=>(aG.mp hr).elim (λz=>z▸h.1) (PC.get h.2 r)
def PA.get:∀{l:@&(Str×Str)},PA K l->∀r∈l,∃C,PySem.W.nsIn K mainGlobals r.2=!!.ref C/\PySem.W.findIn K (.ref C) r.1=!none
 |_::_,h,r,hr=>(aG.mp hr).elim (λz=>z▸h.1) (PA.get h.2 r)
def PB.get:∀{l:@&Str},PB K l->∀r∈l,PySem.W.nsIn K mainGlobals r=!none
 |_::_,h,r,hr=>(aG.mp hr).elim (λz=>z▸h.1) (PB.get h.2 r)
def PX.get:∀{l:@&Str},PX K l->∀r∈l,∃C,PySem.W.nsIn K mainGlobals r=!!.ref C/\PySem.W.excIn K C [.type "ValueError",.type "Exception",.type "BaseException",.type "object"] "ValueError.__new__"=true
 |_::_,h,r,hr=>(aG.mp hr).elim (λz=>z▸h.1) (PX.get h.2 r)
def BF.get:∀{l:@&RF},BF tp l->∀r∈l,∀(kV doc pm:Value) (an:Option Addr) (fJ ct:Value) (us:@&Value),(-us)=(r.N.take r.k).length->bindArgs (PySem.W.fnOf r.nm r.nm (B5 (tp r.i)) (l8 (tp r.i)) (l7 (tp r.i)) .none kV doc pm an fJ ct) #[us,[]]=pure ((r.N.take r.k).zip us)
 |_::_,h,r,hr=>(aG.mp hr).elim (λz=>z▸h.1) (BF.get h.2 r)
def BM.get:∀{l:@&RM},BM mt l->∀r∈l,∀(kV doc pm:Value) (an:Option Addr) (fJ ct:Value) (us:@&Value),(-us)=(r.N.take r.k).length->bindArgs (PySem.W.fnOf r.nm r.qn (B5 (mt r.i r.j)) (l8 (mt r.i r.j)) (l7 (mt r.i r.j)) .none kV doc pm an fJ ct) #[us,[]]=pure ((r.N.take r.k).zip us)
 |_::_,h,r,hr=>(aG.mp hr).elim (λz=>z▸h.1) (BM.get h.2 r)
end
def zx(N P:@&Str)(sc:Scope):Bool:=decide (sc.kind=.function)&&~~~sc.isCoroutine&&~~~sc.isGenerator&&decide N.Nodup&&decide (N.take (-P)=P)&&P.all (λx=>decide (sc.names.lookup x=!.local)||decide (sc.names.lookup x=!.cell))&&sc.names.all λy=>decide (y.2≠.free)
def Oh{N P:@&Str}{sc:Scope}(h:zx N P sc=true):iR N P sc:=by
 unfold zx at h;simp only[Bool.and_eq_true,decide_eq_true_eq,Bool.not_eq_true',List.all_eq_true,Bool.or_eq_true] at h;let#[#[#[#[#[#[h1,h2],h3],h4],h5],h6],h7]:=h;show#[h1,h2,h3,h4,h5,h6,h7]
set_option tactic.hygienic true in
def a47{h₀:Heap}{mg:Str->Option Value}{JD:@&Value}{newId:String}(X:K.In h₀)(G:h₀.Ns mainGlobals mg)(e:PySem.W.nsIn K mainGlobals x=!!.ref C)(q:PySem.W.excIn K C JD newId=true):PyProof.Rows.OwnCls x C JD newId mg h₀:=by
 show#[bP X G e,?_];unfold PySem.W.excIn at q;split at q
 .rename_i dd cd sl ho;split at q
  .rename_i C' bm k0 k1 k2 k3 n k5 hm hs;simp only[Bool.and_eq_true,beq_iff_eq,Bool.not_eq_true'] at q;let#[#[#[#[#[z1,z2],xp],ht],bB],zJ]:=q;subst z1;subst z2;let#[nm,bs,mro,ns,qn,hd,sn,sub,ab,col,del]:=cd;dsimp only at hm xp bB zJ;subst hm xp;let Qr:sl=(List.toArray [k0,k1,k2,k3,!.builtin n,k5]):=by
    let#[l]:=sl;simp only at hs;rw[hs]
   subst Qr;show#[bm,ns,nm,qn,bs,hd,sn,sub,ab,col,dd,k0,k1,k2,k3,k5,_,X _ _ ho,.of_isNs (PySem.W.isNs_of_in X bB),PySem.W.nsMap_none_of_in X bB zJ,PySem.W.tail_of_in X ht]
  .cases q
 .cases q
abbrev U0(K:PySem.W.Frag)(x:Str):Addr:=match PySem.W.nsIn K mainGlobals x with
 |some (!.ref C)=>C
 |_=>0
def Me(K:PySem.W.Frag)(exc:@&Str):Bool:=exc.all λx=>exc.all λy=>decide (PySem.W.exmOne K (.ref (U0 K x)) (.ref (U0 K y))=!decide (x=y\/y="MintError"))
def Yg{exc:@&Str}(h:Me K exc=true){y:Str}{C':Addr}(hx:exc.contains x=true)(hy:exc.contains y=true)(hC:m9 K x C)(Ib:m9 K y C'):PySem.W.exmOne K (.ref C) (.ref C')=!decide (x=y\/y="MintError"):=by
 let h1:=cT.mp h x (_/hx);let h2:=bz (cT.mp h1 y (_/hy));let e1:U0 K x=C:=by unfold U0;simp_all
 let e2:U0 K y=C':=by unfold U0;simp_all
 rw[e1,e2] at h2;show h2
def Ek{α:Type}{f:α->Nat}:∀{l:List α},(l.map f).Nodup->∀r∈l,l.find? (λx=>Nat.beq (f x) (f r))=!r
 |y::l,nd,r,hr=>by
  rw[bT,fP] at nd;rcases aG.mp hr with rfl|hr
  .rw[List.find?_cons_of_pos];show Nat.beq_refl _
  .rw[List.find?_cons_of_neg]
   .exact Ek nd.2 r hr
   .intro z;show nd.1 (aN.mpr #[r,hr,(iT z).symm])
def bB3{α β:Type}{f:α->Nat}{g:β->Nat}{l:List α}{r:β}(h:g r∉l.map f):l.find? (λx=>Nat.beq (f x) (g r))=none:=by
 rw[List.find?_eq_none];intro x hx z;show h (aN.mpr #[x,hx,iT z])
section
variable{w:World}{h₀:Heap}{mg:Str->Option Value}{c:d7}{F:@&RF}{M:@&RM}{tp:Nat->Stmt}{mt:Nat->Nat->Stmt}
structure lG(K:PySem.W.Frag)(c:d7)(F:@&RF)(M:@&RM)(tp:Nat->Stmt)(mt:Nat->Nat->Stmt):Prop where
 qF:PF tp K F
 qM:PM mt K M
 qC:PC K c.cls
 qA:PA K c.nS
 qB:PB K c.blt
 qX:PX K c.exc
 xm:Me K c.exc=true
structure lF(c:d7)(F:@&RF)(M:@&RM)(tp:Nat->Stmt)(mt:Nat->Nat->Stmt):Prop where
 cf:c.fns=F.map λr=>(r.nm,r.id)
 cm:c.nj=M.map λr=>(r.nm,r.cl,r.id)
 ci:c.cls.all (λy=>M.any λr=>decide (r.cl=y.1)&&decide (r.nm="__init__")&&Nat.beq r.id y.2)=true
 nd:(F.map (·.id)++M.map (·.id)).Nodup
 sF:F.all (λr=>zx r.N (r.N.take r.k) (l7 (tp r.i))&&decide (r.m.ar=(r.N.take r.k).length)&&decide (r.m.n=-r.N))=true
 sM:M.all (λr=>zx r.N (r.N.take r.k) (l7 (mt r.i r.j))&&decide (r.m.ar=(r.N.take r.k).length)&&decide (r.m.n=-r.N))=true
 oF:YF tp c F
 oM:YM mt c M
 bF:BF tp F
 bM:BM mt M
def MF(I:lG K c F M tp mt)(X:lF c F M tp mt)(r:RF)(hr:r∈F):∃f fd,jw K c (r.d tp) r.m f fd/\PySem.W.nsIn K mainGlobals r.nm=!!.ref f/\uP F M r.id=!r.m:=by
 let#[f,fd,a,q]:=I.qF.get r hr;let s:=cT.mp X.sF r hr;simp only[Bool.and_eq_true,decide_eq_true_eq] at s;let o:=X.oF.get r hr;show#[f,fd,#[q,q.binds (X.bF.get r hr),Oh s.1.1,o,s.1.2,s.2],a,?_];unfold uP;rw[Ek (dw.mp X.nd).1 r hr]
def MG(I:lG K c F M tp mt)(X:lF c F M tp mt)(r:RM)(hr:r∈M):∃C f fd,jw K c (r.d mt) r.m f fd/\PySem.W.nsIn K mainGlobals r.cl=!!.ref C/\Meth K C r.nm f/\uP F M r.id=!r.m:=by
 let#[C,f,fd,a,q1,q]:=I.qM.get r hr;let s:=cT.mp X.sM r hr;simp only[Bool.and_eq_true,decide_eq_true_eq] at s;let o:=X.oM.get r hr;show#[C,f,fd,#[q,q.binds (X.bM.get r hr),Oh s.1.1,o,s.1.2,s.2],a,q1,?_];let nd:=dw.mp X.nd;unfold uP;rw[bB3 (λz=>nd.2.2 _ z _ (aN.mpr #[r,hr,rfl]) rfl),Ek nd.2.1 r hr]
 rfl
def bE1(I:lG K c F M tp mt)(Y:lF c F M tp mt)(X:K.In h₀)(G:h₀.Ns mainGlobals mg)(con:∀x d,c.con.lookup x=!d->∃v u,mg x=!u/\RelV v u/\∀ρ H,c8 K ρ H d v)(sN:∀x kvs,c.gd.lookup x=!kvs->∃A vs,mg x=!.ref A/\yp K w.params A vs/\qR K kvs vs):nX w K mg c (uP F M):=by
 show#[λx i hx=>?_,λx i hx=>?_,λx y i C hx hC=>?_,λf y C hx hC=>?_,con,λx hx=>?_,λx hx=>?_,λx y C C' hx hy hC Ib=>Yg I.xm hx hy hC Ib,sN]
 .let hm:=aL hx;rw[Y.cf] at hm;let#[r,hr,e]:=aN.mp hm;cases e;let#[f,fd,O,a,t]:=MF I Y r hr;show#[_,_,f,fd,t,O,bP X G a]
 .let hm:=aL hx;let h1:=cT.mp Y.ci _ hm;let#[r,hr,e]:=iq.mp h1;simp only[Bool.and_eq_true,decide_eq_true_eq] at e;let#[#[e1,e2],e3]:=e;let e3:=iT e3;let#[C,f,fd,O,a,q,t]:=MG I Y r hr;let#[C',a',hc,mk,kp]:=I.qC.get _ hm;rw[e1] at a;cases a.symm.trans a';rw[e2] at q;rw[e3] at t;show#[C,_,_,f,fd,t,O,bP X G a,a,hc,#[mk,q.at_,q.fn,kp]]
 .rw[Y.cm] at hx;let#[r,hr,e]:=aN.mp hx;cases e;let#[C',f,fd,O,a,q,t]:=MG I Y r hr;cases a.symm.trans hC;show#[_,_,f,fd,t,O,q]
 .let#[C',a,q]:=I.qA.get _ hx;cases a.symm.trans hC;show q
 .exact PySem.W.mg_none_of X G (I.qB.get x (_/hx))
 .let#[C,a,q]:=I.qX.get x (_/hx);show#[_,bP X G a,a,λbase nz xN=>#[_,_,_,_,a47 nz xN a q,PySem.F.excBase_ValueError]]
end
end M
namespace M
open PySem L2
variable{g g':G}{i n k m a q c p u:Nat}{o o':O}{j r b v:Int}{Q:KD}{E:KX}{N:Ends}{α:Type}{x:Str}{y:D}{kb:Bool->Prop}{go on gS ups:@&Int}{s t:bY}{dd:Dd}{ds:@&Dd}
set_option hygiene false
local macro_rules|`(tactic|delta $x:ident)=>`(tactic|dsimp[$x:ident,b0,List.replicate])
open Lean Parser.Tactic in
local macro_rules|`(tactic|walk_at"w1")=>do
 let q<-`(?_)
 let N:=fun k (l:List Syntax)=>Syntax.node .none k l.toArray
 let a:Array (TSyntax ``tacticSeq):=([`Gz,`FV,`FW,`JE,`Ow,`vN,`MQ,`OA,`FT,`j0,`rB,`w_lit,`tE,`yV,`Kl,`Oz,`MN,`w_and,`w_or,`w_not,`w_ite,`Gy,`Ox,`MO,`FU,`Z8,`OB,`JF,`OC,`FX,`FY,`Ir,`Iu,`JC,`JT,`JS,`JR,`JQ,`IE,`Fz,`ID,`IS,`IF,`II,`IL,`IJ,`IP,`IQ,`IM,`qS,`IG,`IH,`yn,`yo,`Bb,`tD,`LW,`NQ,`pk,`C9,`JY,`JZ,`Jh,`rH,`Ol,`Oj,`wc,`Ji,`FP].map fun n=>⟨N ``tacticSeq [N ``tacticSeq1Indented [mkNullNode [N ``refine [mkAtom "refine",Syntax.mkApp (mkIdent n) [q].toArray]].toArray]]⟩).toArray
 `(tactic|with_reducible first|(refine w_var (d:=?_) ?_ ?_;rotate_left;·with_unfolding_all rfl)$[|$a]*)
local macro_rules|`(tactic|walk_at"w2")=>`(tactic|repeat(with_reducible first|walk_at "w1"|refine vb (by simp) ?_|refine va (by simp) ?_|refine A5 (a6 (by assumption)) (by with_unfolding_all rfl) ?_|refine j5 (a6 (by assumption)) ?_|refine tH (by unfold S3;decide) ?_))
local macro_rules|`(tactic|walk_at"w3")=>`(tactic|repeat(with_reducible first|walk_at "w1"|refine vb (by simp) ?_|refine va (by simp) ?_|refine A5 (a6 (by assumption)) (by with_unfolding_all rfl) ?_|refine j5 (a6 (by assumption)) ?_|refine tH (by unfold S3;decide) ?_|refine And.intro (show List.length _ <= 1000 from by simp) ?_|refine O3 (by with_unfolding_all rfl) ?_|refine s9 ?_|refine Z6 (by with_unfolding_all rfl) ?_))
open Lean Parser.Tactic in
local macro_rules|`(tactic|walk_at"")=>do
 let q<-`(?_)
 let N:=fun k (l:List Syntax)=>Syntax.node .none k l.toArray
 let a:Array (TSyntax ``tacticSeq):=([`MP,`JG,`Oy,`IT,`vR,`vQ,`max2,`min2,`Jf,`mm,`Dx,`Jd,`s9,`Qj].map fun n=>⟨N ``tacticSeq [N ``tacticSeq1Indented [mkNullNode [N ``refine [mkAtom "refine",Syntax.mkApp (mkIdent n) [q].toArray]].toArray]]⟩).toArray
 `(tactic|repeat(with_reducible first|walk_at "w1"|refine vb (by simp) ?_|refine va (by simp) ?_|refine A5 (a6 (by assumption)) (by with_unfolding_all rfl) ?_|refine j5 (a6 (by assumption)) ?_|refine tH (by unfold S3;decide) ?_|refine And.intro (show List.length _ <= 1000 from by simp) ?_|refine O3 (by with_unfolding_all rfl) ?_|refine Z6 (by with_unfolding_all rfl) ?_|refine And.intro (C4 (by assumption)) ?_|refine And.intro (rW (by assumption)) ?_|refine And.intro (BQ (by assumption)) ?_|refine T6 (by decide) ?_|refine Ga (by decide) (by decide) ?_$[|$a]*))
@[inline]abbrev dP(a:ME):ME:=.cons a .nil
@[inline]abbrev rA(a b:ME):ME:=.cons a (.cons b .nil)
@[inline]abbrev vL(a b c:ME):ME:=.cons a (.cons b (.cons c .nil))
@[inline]abbrev tX(a b c d:ME):ME:=.cons a (.cons b (.cons c (.cons d .nil)))
@[inline]abbrev BB(a b c d e:ME):ME:=.cons a (.cons b (.cons c (.cons d (.cons e .nil))))
@[inline]abbrev GR(a b c d e f g:ME):ME:=.cons a (.cons b (.cons c (.cons d (.cons e (.cons f (.cons g .nil))))))
@[inline]abbrev jQ(f:Nat)(a:ME):ME:=.call f (.cons a .nil)
@[inline]abbrev dZ(f:Nat)(a b:ME):ME:=.call f (.cons a (.cons b .nil))
@[inline]abbrev lR(f:Nat)(a b c:ME):ME:=.call f (.cons a (.cons b (.cons c .nil)))
@[inline]abbrev ub(f:Nat)(a b c d:ME):ME:=.call f (.cons a (.cons b (.cons c (.cons d .nil))))
@[inline]abbrev cI(o:PySem.CmpOp)(a b:ME):ME:=.dY (.prim (.cmp o) (.cons a (.cons b .nil)))
@[inline]abbrev cY(a:ME)(b c:MS):MS:=.seq (.ifs a b .pass) c
@[inline]abbrev oy(t:MT)(a:ME)(b c:MS):MS:=.seq (.jK t a b) c
@[inline]abbrev bZ(a b:ME):ME:=.prim .ix (.cons a (.cons b .nil))
@[inline]abbrev ba(a:Int):ME:=.lit (.int a)
@[inline]abbrev bq(a:PySem.Str):ME:=.lit (.str a)
@[inline]abbrev bG(p:Pr)(a:ME):ME:=.prim p (.cons a .nil)
@[inline]abbrev bw(p:Pr)(a b:ME):ME:=.prim p (.cons a (.cons b .nil))
@[inline]abbrev bO(a:ME):MS:=.seq (.ret a) .pass
@[inline]abbrev eO(a:MS):MS:=.seq a .pass
@[inline]abbrev gM(a b:MS):MS:=.seq a b
@[inline]abbrev eF(n:Nat)(a:ME)(b:MS):MS:=.seq (.set n a) b
@[inline]abbrev aB:ME:=.var 0
@[inline]abbrev aI:ME:=.var 1
@[inline]abbrev wC:ME:=.var 10
@[inline]abbrev nu:ME:=.var 11
@[inline]abbrev nt:ME:=.var 12
@[inline]abbrev qt:ME:=.var 13
@[inline]abbrev bj:ME:=.var 2
@[inline]abbrev cR:ME:=.var 3
@[inline]abbrev fI:ME:=.var 4
@[inline]abbrev gy:ME:=.var 5
@[inline]abbrev kK:ME:=.var 6
@[inline]abbrev jj:ME:=.var 7
@[inline]abbrev pe:ME:=.var 8
@[inline]abbrev wB:ME:=.var 9
@[inline]abbrev kA(a:ME)(b:MS):MS:=.seq (.expr a) b
def P2:aT:=#[2,5,(cY (.eI (cI .Lt (bZ aB (ba 2)) aI) (cI .Lt (bZ aB (ba 1)) (bG .len (bZ aB (ba 0))))) (eF 2 (bZ (bZ aB (ba 0)) (bZ aB (ba 1))) (gM (.eP aB (ba 1) (bw (.bin .Add) (bZ aB (ba 1)) (ba 1))) (gM (.eP aB (ba 2) (ba 0)) (eO (.ifs (cI .GtE bj (bw (.bin .Pow) (ba 10) (ba 18))) (eO (.eP aB (ba 2) bj)) (eO (.eP aB (ba 3) (bw (.bin .Mod) (bw (.bin .Add) (bw (.bin .Add) (bw (.bin .Mult) (bZ aB (ba 3)) (ba 48271)) (bw (.bin .Mult) (bw (.bin .Mod) bj (ba 2147483629)) (ba 69621))) (ba 12345)) (ba 2147483647))))))))) (cY (cI .GtE (bZ aB (ba 2)) aI) (eF 3 (bw (.bin .Mod) (bZ aB (ba 2)) aI) (gM (.eP aB (ba 2) (bw (.bin .FloorDiv) (bZ aB (ba 2)) aI)) (bO cR))) (eF 4 (bZ aB (ba 3)) (gM (.eP aB (ba 3) (bw (.bin .Mod) (bw (.bin .Add) (bw (.bin .Add) (bw (.bin .Mult) (bw (.bin .Mod) (bw (.bin .Mult) fI fI) (ba 2147483629)) (ba 5)) (bw (.bin .Mult) fI (ba 16811))) (ba 2531011)) (ba 2147483647))) (bO (bw (.bin .Mod) (bw (.bin .Add) (bw (.bin .FloorDiv) (bZ aB (ba 3)) (ba 59)) (bw (.bin .Mult) (bw (.bin .Mod) (bZ aB (ba 3)) (ba 8191)) (ba 31))) aI))))))]
def tw:aT:=#[1,2,(eF 1 (dZ 4 aB (bw (.bin .Pow) (ba 10) (ba 9))) (cY (cI .Eq (dZ 4 aB (ba 2)) (ba 0)) (eO (.set 1 (bw (.bin .Add) aI (bw (.bin .Pow) (ba 10) (ba 25))))) (cY (cI .Eq (dZ 4 aB (ba 2)) (ba 0)) (bO (bw (.bin .Sub) (bG (.un .USub) (ba 1)) aI)) (bO aI))))]
structure d0(g:G)(d:Nat):Prop where
 ex:∃(s:Nat) (p b r:Int) (xs:@&Int),g[d]?=!.lst [.ref s,.int p,.int b,.int r]/\g[s]?=!.lst (xs.map .int)/\s<d/\0<=p/\0<=b/\0<=r/\r<2147483647
structure Gr(d:Nat)(g g':G):Prop where
 len:-g<=-g'
 old:∀i,i≠d->i< -g->g'[i]?=g[i]?
def Gr.refl(d:Nat)(g:G):Gr d g g:=#[ak _,λx x x=>rfl]
def Gr.trans{d:Nat}{g g1 g2:G}(a:Gr d g g1)(b:Gr d g1 g2):Gr d g g2:=#[aH a.len b.len,λi h1 h2=>(b.old i h1 (av h2 a.len)).trans (a.old i h1 h2)]
def Gr.set(d:Nat)(g:G)(o:O):Gr d g (g.set d o):=#[by simp,λi h1 h2=>aE (aU h1)]
def Gr.snoc(d:Nat)(g:G)(o:O):Gr d g (g++[o]):=#[by simp,λi h1 h2=>ay h2]
def Gr.at{d:Nat}(h:Gr d g g')(hi:i≠d)(e:g[i]?=!o):g'[i]?=!o:=(h.old i hi (ax.mp e).1).trans e
def d5(h:g[i]?=!o):i< -g:=(ax.mp h).1
def d0.lt{d:Nat}(h:d0 g d):d< -g:=by
 let#[_,_,_,_,_,e,_]:=h.ex;show d5 e
def d0.snoc{d:Nat}(h:d0 g d)(o:O):d0 (g++[o]) d:=by
 let#[s,p,b,r,xs,e1,e2,q]:=h.ex;show#[s,p,b,r,xs,by rw[ay (d5 e1)];show e1,by rw[ay (d5 e2)];show e2,q]
abbrev vc:MS->MS
 |.seq _ b=>b
 |x=>x
def Gf{i:Int}(h1:-(2 ^ 64)<i)(h2:i<2 ^ 64):qQ i j:=.inl #[h1,h2]
def yD{i:Int}(h1:-(2 ^ 64)<j)(h2:j<2 ^ 64):qQ i j:=.inr #[h1,h2]
def a34{P:ff}{d:Nat}{n:Int}{c2:Option D}(hN:N.rt=Q)(D0:d0 g d)(hn:0<n)(nD:n<1073741824)(h:∀r g',0<=r->r<n->d0 g' d->Gr d g g'->Q (.int r) g'):wpS P (vc P2.body) N [!.ref d,!.int n,c2,none,none] g E:=by
 let#[s,p,b,r,xs,e1,e2,pv,hp,hb,hr,wU]:=D0.ex;let dO:=d5 e1;subst hN;dsimp[P2,vc];walk_at "w2";show if2 (λc=>?_) (λc=>?_)
 .walk_at "w2";show T6 hn ?_;walk_at "w2";show Fw #[hn,nD] ?_;walk_at "w2";show S5 e1 (by rfl) ?_;walk_at "w2";show h _ _ (iO _ ()) (gj _ hn) #[s,p,b / n,r,xs,?_,?_,pv,hp,Int.ediv_nonneg hb (),hr,wU] (Gr.set d g _)
  .rw[aX dO];rfl
  .rw[aE (bH pv)];show e2
 .walk_at "w2";let Hc:-(2 ^ 64)<r/\r<2 ^ 64:=#[by omega,by omega]
  show X9 (Gf Hc.1 Hc.2) ?_;show T6 ∅ ?_;show X9 (yD ∅ ∅) ?_;walk_at "w2";show X9 (yD ∅ ∅) ?_;walk_at "w2";show T6 ∅ ?_;walk_at "w2";show S5 e1 (by rfl) ?_;generalize wV:(r*r % 2147483629*5+r*16811+2531011) % 2147483647=r';let q0:0<=r':=by rw[<- wV];show iO _ ∅
  let q1:r'<2147483647:=by rw[<- wV];show gj _ ∅
  let sR:(g.set d (.lst [.ref s,.int p,.int b,.int r']))[d]?=!.lst [.ref s,.int p,.int b,.int r']:=aX dO;change wpS P _ _ _ (g.set d (.lst [.ref s,.int p,.int b,.int r'])) E;walk_at "w2";show Fw #[by decide,by decide] ?_;walk_at "w2";show T6 ∅ ?_;show X9 (yD ∅ ∅) ?_;walk_at "w2";show T6 hn ?_;show h _ _ (iO _ ()) (gj _ hn) #[s,p,b,r',xs,sR,?_,pv,hp,hb,q0,q1] (Gr.set d g _);rw[aE (bH pv)];show e2
def j9{T:Nat->Option aT}(hT:T 4=!P2){d:Nat}{n:Int}(D0:d0 g d)(hn:0<n)(nD:n<1073741824)(h:∀r g',0<=r->r<n->d0 g' d->Gr d g g'->Q (.int r) g'):a8 T (k+1) 4 [.ref d,.int n] g Q E:=by
 let#[s,p,b,r,xs,e1,e2,pv,hp,hb,hr,wU]:=D0.ex;let dO:=d5 e1;show call_of hT rfl ?_;let tail:∀(g':G) (c2:Option D),d0 g' d->Gr d g g'->wpS (a8 T k) (vc P2.body) #[λx g'=>Q .aR g',Q,λx x=>False,λx x=>False] [!.ref d,!.int n,c2,none,none] g' E :=
  λg' c2 D1 gr=>a34 rfl D1 hn nD λr g2 a b c e=>h r g2 a b c (gr.trans e)
 delta P2;walk_at "w2";show if2 (λc=>?_) (λc=>?_)
 .walk_at "w2";show if2 (λc'=>?_) (λc'=>?_)
  .walk_at "w2";let lj:p.toNat< -xs:=by
    rw[aj] at c';omega
   let ea:iQ (xs.map D.int) p=!.int xs[p.toNat]:=by
    have:=E4 (xs:=xs.map D.int) (by rw[aD,ao lj];rfl)
    rwa [show((p.toNat:Nat):Int)=p by omega] at this
   show A5 (a6 e2) ea ?_;generalize xs[p.toNat]=cell;walk_at "w2";show S5 e1 (by rfl) ?_;let f1:(g.set d (.lst [.ref s,.int (p+1),.int b,.int r]))[d]?=!.lst [.ref s,.int (p+1),.int b,.int r]:=aX dO;walk_at "w2";show S5 f1 (by rfl) ?_;rw[bW];let f2:(g.set d (.lst [.ref s,.int (p+1),.int 0,.int r]))[d]?=!.lst [.ref s,.int (p+1),.int 0,.int r]:=aX dO;change wpS (a8 T k) _ _ _ (g.set d (.lst [.ref s,.int (p+1),.int 0,.int r])) E;walk_at "w2";show if2 (λc2=>?_) (λc2=>?_)
   .walk_at "w2";show S5 f2 (by rfl) ?_;rw[bW];show tail _ _ #[s,p+1,cell,r,xs,aX dO,by rw[aE (bH pv)];show e2,pv,by omega,?_,hr,wU] (Gr.set d g _);let h10:(0:Int)<=10 ^ (18:Int).toNat:=by decide
    omega
   .walk_at "w2";show X9 (yD ∅ ∅) ?_;walk_at "w2";show T6 ∅ ?_;show X9 (yD ∅ ∅) ?_;walk_at "w2";show T6 ∅ ?_;walk_at "w2";show S5 f2 (by rfl) ?_;rw[bW];show tail _ _ #[s,p+1,0,_,xs,aX dO,by rw[aE (bH pv)];show e2,pv,by omega,by decide,iO _ ∅,gj _ ∅] (Gr.set d g _)
  .exact tail _ _ D0 (Gr.refl _ _)
 .exact tail _ _ D0 (Gr.refl _ _)
def NL{T:Nat->Option aT}(hT:T 4=!P2)(QU:T 5=!tw){d:Nat}(D0:d0 g d)(h:∀r g',d0 g' d->Gr d g g'->Q (.int r) g'):a8 T (k+2) 5 [.ref d] g Q E:=by
 show call_of QU rfl ?_;delta tw;walk_at "w2";show j9 hT D0 ∅ ∅ λr1 g1 y y D1 G1=>?_;walk_at "w2";show j9 hT D1 ∅ ∅ λr2 g2 y y D2 G2=>?_;walk_at "w2";let OJ:=G1.trans G2;let last:∀(x:Int),wpS (a8 T (k+1)) (vc (vc tw.body)) #[λy g'=>Q .aR g',Q,λy y=>False,λy y=>False] [!.ref d,!.int x] g2 E:=λx=>by
  dsimp[tw,vc];walk_at "w2";show j9 hT D2 ∅ ∅ λr3 g3 y y D3 G3=>?_;walk_at "w2";show if2 (λc=>?_) (λc=>?_)
  .walk_at "w2";show h _ _ D3 (OJ.trans G3)
  .walk_at "w2";show h _ _ D3 (OJ.trans G3)
 show if2 (λc=>?_) (λc=>?_)
 .refine Gz ?_;show FW ?_;show tE ?_;walk_at "w1";show tE ?_;walk_at "w1";walk_at "w1";show tH (by unfold S3;decide) ?_;walk_at "w1";show last _
 .exact last _
def EV:aT:=#[1,1,(bO (.eI (bw .isin aB (.lit (.ty "int"))) (.cK (bw .isin aB (.lit (.ty "bool"))))))]
def Y4:aT:=#[3,3,(bO (.eI (jQ 38 aB) (.chain .LtE .LtE aI aB bj)))]
structure NF(T:Nat->Option aT):Prop where
 nf:T 1=!Y4
 is:T 38=!EV
def Bm:aT:=#[1,1,(bO (.prim .lst (tX (bG .list (bw (.mZ false true) aB (ba 63))) (ba 0) (ba 0) (ba 29))))]
def tB:aT:=#[1,1,(bO (.eI (bw .isin aB (.lit (.ty "int"))) (.cK (bw .isin aB (.lit (.ty "bool"))))))]
def B9:aT:=#[2,2,(cY (cI .Is aI (.lit .aR)) (bO (bw (.cmp .Is) aB (.lit .aR))) (cY (.dY (bw .isin aI (.lit (.ty "bool")))) (bO (.eI (bw .isin aB (.lit (.ty "bool"))) (bw (.cmp .Eq) aB aI))) (cY (.dY (bw .isin aI (.lit (.ty "int")))) (bO (.eI (jQ 6 aB) (bw (.cmp .Eq) aB aI))) (cY (.dY (bw .isin aI (.lit (.ty "str")))) (bO (.eI (bw .isin aB (.lit (.ty "str"))) (bw (.cmp .Eq) aB aI))) (cY (.hW (cI .NotEq (bw .isin aI (.lit (.ty "tuple"))) (bw .isin aB (.lit (.ty "tuple")))) (cI .NotEq (bw .isin aI (.lit (.ty "list"))) (bw .isin aB (.lit (.ty "list"))))) (bO (.lit (.bl false))) (cY (cI .NotEq (bG .len aB) (bG .len aI)) (bO (.lit (.bl false))) (bO (bG .all (.comp [1,0] 4 (.one 3) (.gC (bG .len aI)) .no (dZ 7 (bZ aI cR) (bZ aB cR)))))))))))]
section
variable{T:Nat->Option aT}{d:Nat}
def aI1(h1:NF T){i:Int}(h:Q (.bl true) g):a8 T (k+1) 38 [.int i] g Q E:=by
 show call_of h1.is rfl ?_;delta EV;walk_at "w2";show gf (b:=true) ∅ rfl ?_;walk_at "w2";show gf ∅ rfl ?_;walk_at "w2";show h
def C3(h1:NF T){i l m:Int}(h:Q (.bl (decide (l<=i)&&decide (i<=m))) g):a8 T (k+2) 1 [.int i,.int l,.int m] g Q E:=by
 show call_of h1.nf rfl ?_;delta Y4;walk_at "w2";show aI1 h1 ?_;walk_at "w2";show if2 (λc=>?_) (λc=>?_)
 .rw[aC c] at h;walk_at "w2";show h
 .rw[aO c] at h;show h
def Sv(h3:T 3=!Bm){ns:@&Int}(hg:g[a]?=!.pV (ns.map .int))(h:∀d g',d0 g' d->-g<=d->(∀i,i< -g->g'[i]?=g[i]?)->Q (.ref d) g'):a8 T (k+1) 3 [.ref a] g Q E:=by
 show call_of h3 rfl ?_;delta Bm;walk_at "w2";show ZP (a80 hg) ?_;show uZ (l:=cut (ns.map D.int) none (!63)) (a6 #[_]) ?_;walk_at "w2";let ec:cut (ns.map D.int) none (!63)=(cut ns none (!63)).map D.int:=by
  unfold cut;simp[List.map_take,List.map_drop]
 show h _ _ #[(-g)+1,0,0,29,cut ns none (!63),?_,?_,?_,by decide,by decide,by decide,by decide] #[_] (λi hi=>?_)
 .simp
 .rw[<- ec];simp
 .simp
 .simp[List.getElem?_append,hi,Nat.lt_of_lt_of_le hi (by omega:-g<=-g+1),Nat.lt_of_lt_of_le hi (by omega:-g<=-g+1+1)]
end
def AH{l:List α}(h0:0<=r)(h1:r< -l):∃v,iQ l r=!v/\v∈l:=by
 let hi:r.toNat< -l:=by omega
 show#[l[r.toNat],?_,eK hi];have:=E4 (ao hi)
 rwa [show((r.toNat:Nat):Int)=r by omega] at this
section
variable{T:Nat->Option aT}
def Mo(h7:T 7=!B9){a b:Bool}(h:Q (.bl (a==b)) g):a8 T (k+1) 7 [.bl a,.bl b] g Q E:=by
 show call_of h7 rfl ?_;delta B9;walk_at "w2";walk_at "w2";show gf (c:="bool") (b:=true) ∅ rfl ?_;walk_at "w2";show gf (c:="bool") (b:=true) ∅ rfl ?_;walk_at "w2";show h
end
def d0.yU{d x:Nat}(h:d0 g d)(hx:d<x):d0 (g.set x o) d:=by
 let#[s,p,b,r,xs,e1,e2,hs,q]:=h.ex;show#[s,p,b,r,xs,by rw[aE ()];show e1,by rw[aE ()];show e2,hs,q]
def b8:(g++[o])[(-g)]?=!o:=by simp
def A8(h:g[i]?=!o):(g++[o'])[i]?=!o:=by rw[ay (d5 h)];show h
def get_set(h:g[i]?=!o):(g.set i o')[i]?=!o':=aX (d5 h)
def a7{j:Nat}(h:g[i]?=!o)(hn:j≠i):(g.set j o')[i]?=!o:=by rw[aE hn];show h
def V3:aT:=#[1,1,(eO (.ifs (.cK (.dY (lR 1 aB (ba 1) (ba 9)))) (eO (.raise "BadAnvils" (dP (bq "there are from one to nine anvils")))) .pass))]
def Bl:aT:=#[2,2,(cY (cI .Eq (dZ 4 aB (ba 12)) (ba 7)) (bO (jQ 5 aB)) (bO (bw (.bin .Sub) (dZ 4 aB (bw (.bin .Add) aI (ba 4))) (ba 2))))]
def T1:aT:=#[1,1,(eO (.ifs (cI .NotIn aB (.lit (.tup [(.str "lower"),(.str "upper")]))) (eO (.raise "BadSide" (dP (bq "a side is lower or upper")))) .pass))]
structure Ex(g g':G):Prop where
 len:-g<=-g'
 old:∀i,i< -g->g'[i]?=g[i]?
def Ex.refl(g:G):Ex g g:=#[ak _,λx x=>rfl]
def Ex.trans{g g1 g2:G}(a:Ex g g1)(b:Ex g1 g2):Ex g g2:=#[aH a.len b.len,λi h=>(b.old i (av h a.len)).trans (a.old i h)]
def Ex.snoc(g:G)(o:O):Ex g (g++[o]):=#[by simp,λi h=>ay h]
def Ex.at(h:Ex g g')(e:g[i]?=!o):g'[i]?=!o:=(h.old i (d5 e)).trans e
def Ex.gr(h:Ex g g')(d:Nat):Gr d g g':=#[h.len,λi x h2=>h.old i h2]
def Ex.draw{d:Nat}(h:Ex g g')(D0:d0 g d):d0 g' d:=by
 let#[s,p,b,r,xs,e1,e2,q]:=D0.ex;show#[s,p,b,r,xs,h.at e1,h.at e2,q]
inductive w6(g:G):Nat->D->D->Prop
 |aR {n:Nat}:w6 g n .aR .aR
 |bl {n:Nat} (b:Bool):w6 g n (.bl b) (.bl b)
 |int {n:Nat} (i:Int):w6 g n (.int i) (.int i)
 |str {n:Nat} (x:Str):w6 g n (.str x) (.str x)
 |tup {n:Nat} {l m:@&D} (hl:-l=-m) (h:∀(i:Nat) x y,l[i]?=!x->m[i]?=!y->w6 g n x y) (hz:-m<=1000):w6 g (n+1) (.tup l) (.tup m)
 |lst {n a b:Nat} {l m:@&D} (ha:g[a]?=!.lst l) (hb:g[b]?=!.lst m) (hl:-l=-m) (h:∀(i:Nat) x y,l[i]?=!x->m[i]?=!y->w6 g n x y) (hz:-m<=1000):w6 g (n+1) (.ref a) (.ref b)
def w6.ex(e:Ex g g'){x:D}(h:w6 g n x y):w6 g' n x y:=by
 induction h with
 |aR=>show .aR
 |bl b=>show .bl b
 |int i=>show .int i
 |str x=>show .str x
 |tup hl h hz ih=>show .tup hl ih hz
 |lst ha hb hl h hz ih=>show .lst (e.at ha) (e.at hb) hl ih hz
section
variable{T:Nat->Option aT}
def Ob(h6:T 6=!tB){i:Int}(h:Q (.bl true) g):a8 T (k+1) 6 [.int i] g Q E:=by
 show call_of h6 rfl ?_;delta tB;exists gf (b:=true) ∅ rfl ?_;exists gf ∅ rfl ?_;left;show h
abbrev bA1:MS:=match B9.body with
 |.seq _ (.seq _ (.seq _ (.seq _ (.seq _ b))))=>b
 |x=>x
def j6(h6:T 6=!tB)(h7:T 7=!B9):∀(n:Nat) {k:Nat} {g:G} {x y:D} {Q:KD} {E:KX},w6 g n x y->(∀g',Ex g g'->Q (.bl true) g')->a8 T (k+n+2) 7 [x,y] g Q E:=by
 let vX:∀(n:Nat),(∀{k:Nat} {g:G} {x y:D} {Q:KD} {E:KX},w6 g n x y->(∀g',Ex g g'->Q (.bl true) g')->a8 T (k+n+2) 7 [x,y] g Q E) ->
   ∀{k:Nat} {g:G} {x y:D} {l m:@&D} {Q:KD} {E:KX},(∀g',Ex g g'->C6 g' x=!l)->(∀g',Ex g g'->C6 g' y=!m)->-l=-m->-m<=1000->(∀(i:Nat) x y,l[i]?=!x->m[i]?=!y->w6 g n x y)->(∀g',Ex g g'->Q (.bl true) g') ->
   wpS (a8 T (k+n+2)) bA1 #[λv g'=>Q .aR g',Q,λv v=>False,λv v=>False] [!x,!y] g E:=by
  intro n ih k g x y l m Q E hx hy hl hz hs hQ;let len:∀(z:D) (l:@&D) (g':G) (Q':KD),C6 g' z=!l->Q' (.int (-l)) g'->cA .len [z] g' Q':=λz l g' Q' e q=>#[_,_,#[rfl,.inl #[z,l,rfl,e,rfl]],q]
  show FV (FT (FY (tE (yV (w_var rfl (len _ _ _ _ (hx g (Ex.refl g)) ?_))))));show yV (w_var rfl (len _ _ _ _ (hy g (Ex.refl g)) ?_));show Fz ?_;rw[hl,aC rfl];exists P9 (b9 T _) (AW (b9 T _) ?_);show yV (w_var rfl (len _ _ _ _ (hy g (Ex.refl g)) ?_));show#[_,rfl,by omega,by omega,l6 0 (-m),λi ys σ g'=>∃z w,ys=List.replicate i (.bl true)/\σ=[!y,!x,z,w]/\Ex g g',by rw[E1];show hz,λi ys σ g' p=>#[J0,?_],#[none,none,rfl,rfl,Ex.refl g],λi z ys σ g' hz p=>?_,λys σ g' p=>?_]
  .let#[z,w,rfl,_]:=p;simp
  .let#[z,w,rfl,rfl,e]:=p;let#[hi,rfl]:=O4 hz;let h1:l[i]?=some l[i]:=ao ();let h2:=ao hi;let a1:iQ l (0+(i:Int))=some l[i]:=by rw[vH];show E4 h1
   let a2:iQ m (0+(i:Int))=some m[i]:=by rw[vH];show E4 h2
   change dN _ _ _ _ _ _;show FX (pk (Gy (Z8 (tE (w_var rfl (w_var rfl #[_,_,#[rfl,.inl #[_,l,_,rfl,hx g' e,a1]],?_]))))));show Z8 (tE (w_var rfl (w_var rfl #[_,_,#[rfl,.inl #[_,m,_,rfl,hy g' e,a2]],?_])));show FU (ih ((hs i _ _ h1 h2).ex e) λg2 e2=>?_);show#[_,_,by rw[jg],rfl,e.trans e2]
  .let#[z,w,rfl,rfl,e]:=p;show Fx (a6 b8) ?_ (hQ _ (e.trans (Ex.snoc _ _)));have:List.replicate (l6 0 (-m)).length (D.bl true)=(List.replicate (l6 0 (-m)).length true).map D.bl:=by simp
   rw[this,VY];simp
 intro n
 induction n with
 |zero =>
  intro k g x y Q E h hQ;let h0:=hQ g (Ex.refl g);cases h with
  |aR =>
   show call_of h7 rfl ?_;delta B9;left;show h0
  |bl b=>show Mo h7 (_/h0)
  |int i =>
   show call_of h7 rfl ?_;delta B9;exists gf (c:="bool") (b:=false) ∅ rfl ?_;exists gf (c:="int") (b:=true) ∅ rfl ?_;exists Ob h6 ?_;left;simpa using h0
  |str x =>
   show call_of h7 rfl ?_;delta B9;exists gf (c:="bool") (b:=false) ∅ rfl ?_;exists gf (c:="int") (b:=false) ∅ rfl ?_;exists gf (c:="str") (b:=true) ∅ rfl ?_;exists gf (c:="str") (b:=true) ∅ rfl ?_;left;simpa using h0
 |succ n ih =>
  intro k g x y Q E h hQ;let h0:=hQ g (Ex.refl g);cases h with
  |aR =>
   show call_of h7 rfl ?_;delta B9;left;show h0
  |bl b=>show Mo h7 (_/h0)
  |int i =>
   show call_of h7 rfl ?_;delta B9;exists gf (c:="bool") (b:=false) ∅ rfl ?_;exists gf (c:="int") (b:=true) ∅ rfl ?_;exists Ob h6 ?_;left;simpa using h0
  |str x =>
   show call_of h7 rfl ?_;delta B9;exists gf (c:="bool") (b:=false) ∅ rfl ?_;exists gf (c:="int") (b:=false) ∅ rfl ?_;exists gf (c:="str") (b:=true) ∅ rfl ?_;exists gf (c:="str") (b:=true) ∅ rfl ?_;left;simpa using h0
  |@tup _ l m hl hs hz =>
   show call_of h7 rfl ?_;let body:=vX n ih (k:=k) (x:=.tup l) (y:=.tup m) (E:=E) (λv v=>rfl) (λv v=>rfl) hl hz hs hQ;delta B9;exists gf (c:="bool") (b:=false) ∅ rfl ?_;exists gf (c:="int") (b:=false) ∅ rfl ?_;exists gf (c:="str") (b:=false) ∅ rfl ?_;exists gf (c:="tuple") (b:=true) ∅ rfl ?_;exists gf (c:="tuple") (b:=true) ∅ rfl ?_;exists dB rfl ?_;exists gf (c:="list") (b:=false) ∅ rfl ?_;exists gf (c:="list") (b:=false) ∅ rfl ?_;exists dB rfl (j0 ?_);show body
  |@lst _ a b l m ha hb hl hs hz =>
   show call_of h7 rfl ?_;let body:=vX n ih (k:=k) (x:=.ref a) (y:=.ref b) (E:=E) (λg' e=>a6 (e.at ha)) (λg' e=>a6 (e.at hb)) hl hz hs hQ;let ta:∀c,sZ g (.ref a) c=!(c=="list"):=λc=>by simp only[sZ,ha]
   let tb:∀c,sZ g (.ref b) c=!(c=="list"):=λc=>by simp only[sZ,hb]
   delta B9;exists gf (c:="bool") (b:=false) ∅ (tb _) ?_;exists gf (c:="int") (b:=false) ∅ (tb _) ?_;exists gf (c:="str") (b:=false) ∅ (tb _) ?_;exists gf (c:="tuple") (b:=false) ∅ (tb _) ?_;exists gf (c:="tuple") (b:=false) ∅ (ta _) ?_;exists dB rfl ?_;exists gf (c:="list") (b:=true) ∅ (tb _) ?_;exists gf (c:="list") (b:=true) ∅ (ta _) ?_;exists dB rfl (j0 ?_);show body
end
section
variable{T:Nat->Option aT}
def UA(hx:PyData.strOk x=true)(h:kb (decide (x="lower")||decide (x="upper"))):si g (.str x) (.tup [.str "lower",.str "upper"]) kb:=by
 show#[_,.inr #[_,[.str "lower",.str "upper"],.str x,rfl,rfl,rfl,by decide +kernel,by show hx,rfl],?_];let e:∀y:Str,PyData.eqv (.str y) (.str x)=decide (x=y):=λy=>by
  simp only[PyData.eqv];rw[cz,gg,bt];show eq_comm
 simp only[List.any_cons,List.any_nil,Bool.or_false,e];show h
def aA5(CT:T 40=!T1)(ho:PyData.strOk x=true)(h1:x="lower"\/x="upper"->Q .aR g)(h3:x≠"lower"->x≠"upper"->E #["BadSide"] g):a8 T (k+1) 40 [.str x] g Q E:=by
 show call_of CT rfl ?_;delta T1;exists T3 (UA ho ?_);left;by_cases e:x="lower"\/x="upper"
 .refine dB (by rw[gm,fR,bt,bt];show e) ?_;show h1 e
 .refine fA (by rw[kI,ji,aM,aM];show not_or.mp e) ?_;left;show h3 (λz=>e (.inl z)) (λz=>e (.inr z))
end
def Bn:aT:=#[1,1,(cY (cI .Eq (dZ 4 aB (ba 14)) (ba 9)) (bO (bZ (.prim .lst (tX (bq "") (bq "Lower") (bq "both") (bq "upper "))) (dZ 4 aB (ba 4)))) (bO (bZ (bw .lst (bq "lower") (bq "upper")) (dZ 4 aB (ba 2)))))]
section
variable{T:Nat->Option aT}{d:Nat}
def ML(h4:T 4=!P2)(zY:T 29=!Bn)(D0:d0 g d)(h:∀x g',PyData.strOk x=true->d0 g' d->Gr d g g'->Q (.str x) g'):a8 T (k+2) 29 [.ref d] g Q E:=by
 show call_of zY rfl ?_;delta Bn;exists j9 h4 D0 ∅ ∅ λr g1 y y D1 G1=>?_;exists if2 (λc=>?_) (λc=>?_)
 .exists j9 h4 (D1.snoc _) ∅ ∅ λr g2 r0 r1 D2 G2=>?_;let e2:=G2.at (i:=-g1) (by have:=D1.lt;omega) (o:=.lst (([("":Str),("Lower":Str),("both":Str),("upper ":Str)]:@&Str).map D.str)) #[_];let#[v,hv,hm]:=AH (l:=([("":Str),("Lower":Str),("both":Str),("upper ":Str)]:@&Str).map D.str) r0 (_/r1);let#[x,hx,rfl]:=aN.mp hm;show A5 (a6 e2) hv ?_;exists h x g2 ?_ D2 (G1.trans ((Gr.snoc _ _ _).trans G2));simp only[List.mem_cons,List.mem_nil_iff,or_false] at hx;rcases hx with rfl|rfl|rfl|rfl<;>decide +kernel
 .exists j9 h4 (D1.snoc _) ∅ ∅ λr g2 r0 r1 D2 G2=>?_;let e2:=G2.at (i:=-g1) (by have:=D1.lt;omega) (o:=.lst (([("lower":Str),("upper":Str)]:@&Str).map D.str)) #[_];let#[v,hv,hm]:=AH (l:=([("lower":Str),("upper":Str)]:@&Str).map D.str) r0 (_/r1);let#[x,hx,rfl]:=aN.mp hm;show A5 (a6 e2) hv ?_;exists h x g2 ?_ D2 (G1.trans ((Gr.snoc _ _ _).trans G2));simp only[List.mem_cons,List.mem_nil_iff,or_false] at hx;rcases hx with rfl|rfl<;>decide +kernel
end
def Kz(ha:g[a]?=!.lst [.str "lower",.str "upper"])(hx:PyData.strOk x=true)(h:kb (decide (x="lower")||decide (x="upper"))):si g (.str x) (.ref a) kb:=by
 show#[_,.inr #[_,[.str "lower",.str "upper"],.str x,a6 ha,rfl,rfl,by simp only[PyData.canLayAll0,PyData.canLay0,Bool.and_true];decide +kernel,by simp only[PyData.canLay0];show hx,rfl],?_];let e:∀y:Str,PyData.eqv (.str y) (.str x)=decide (x=y):=λy=>by
  simp only[PyData.eqv];rw[cz,gg,bt];show eq_comm
 simp only[List.any_cons,List.any_nil,Bool.or_false,e];show h
def EU:aT:=#[2,2,(eO (.ifs (.cK (.dY (lR 1 aI (ba 1) (bG .len aB)))) (eO (.raise "NoDie" (dP (bq "no such die was cut")))) .pass))]
def Aj:aT:=#[1,1,(bO (.oB (.cons (bq "seats") (.cons (bw (.bin .Mult) (bG .lst (.lit .aR)) aB) (.cons (bq "lower") (.cons (.prim .lst .nil) (.cons (bq "upper") (GR (.prim .lst .nil) (bq "gone") (.prim .lst .nil) (bq "year") (ba 0) (bq "coins") (.prim .lst .nil)))))))))]
def Bi:aT:=#[2,2,(cY (cI .NotIn aI (bw .lst (bq "lower") (bq "upper"))) (bO (bw .tup (bq "BadSide") (.lit .aR))) (cY (cI .Gt (bG .len (bZ aB aI)) (ba 98)) (bO (bw .tup (bq "Full") (.lit .aR))) (kA (.dk .append (bZ aB aI) (dP (.prim .tup .nil))) (bO (bw .tup (bq "") (bG .len (bZ aB aI)))))))]
def P4:aT:=#[2,5,(cY (.hW (.cK (.dY (dZ 7 (.bp "anvils" [("Mint",60)] aB .nil) (bZ aI (bq "seats"))))) (.cK (.dY (dZ 7 (.bp "year" [("Mint",64)] aB .nil) (bZ aI (bq "year")))))) (bO (.lit (.bl false))) (oy (.one 2) (.iJ (bw .lst (bq "lower") (bq "upper"))) (cY (.cK (.dY (dZ 7 (.bp "dies" [("Mint",61)] aB (dP bj)) (bG .len (bZ aI bj))))) (bO (.lit (.bl false))) (eO (.ifs (.cK (.dY (bG .all (.comp [1,0,2] 5 (.one 4) (.gC (bG .len (bZ aI bj))) .no (dZ 7 (.bp "marks" [("Mint",62)] aI (rA bj (bw (.bin .Add) fI (ba 1)))) (bZ (bZ aB bj) fI)))))) (bO (.lit (.bl false))) .pass))) (oy (.one 3) (.iH (ba 1) (bw (.bin .Add) (bG .len (bZ aI (bq "lower"))) (ba 1))) (eF 4 (.ite (cI .In cR (bZ aI (bq "gone"))) (bq "gone") (.ite (cI .In cR (bZ aI (bq "seats"))) (bq "fixed") (bq "new"))) (eO (.ifs (.cK (.dY (dZ 7 (.bp "state" [("Mint",63)] aB (dP cR)) fI))) (bO (.lit (.bl false))) .pass))) (cY (.cK (.dY (dZ 7 (.bp "struck" [("Mint",65)] aB .nil) (bG .len (bZ aI (bq "coins")))))) (bO (.lit (.bl false))) (bO (dZ 7 (.bp "hoard" [("Mint",67)] aB (dP (bG .ke (bG .len (bZ aI (bq "coins")))))) (bZ aI (bq "coins"))))))))]
def EZ:aT:=#[2,2,(kA (jQ 42 aI) (gM (.dU "bench" ["Mint"] aB (bw (.bin .Mult) (bG .tup (.lit .aR)) aI)) (gM (.dU "laid_off" ["Mint"] aB (.prim .tup .nil)) (gM (.dU "lower_wear" ["Mint"] aB (.prim .tup .nil)) (gM (.dU "upper_wear" ["Mint"] aB (.prim .tup .nil)) (gM (.dU "present" ["Mint"] aB (ba 0)) (eO (.dU "output" ["Mint"] aB (.prim .tup .nil)))))))))]
def Y5:aT:=#[2,2,(kA (jQ 40 aI) (cY (cI .Eq aI (bq "lower")) (bO (bG (.fld "lower_wear") aB)) (bO (bG (.fld "upper_wear") aB))))]
def V0:aT:=#[3,3,(eO (.ifs (cI .Eq aI (bq "lower")) (eO (.dU "lower_wear" ["Mint"] aB bj)) (eO (.dU "upper_wear" ["Mint"] aB bj))))]
def EG:aT:=#[2,3,(eF 2 (.bp "wear_of" [("Mint",52)] aB (dP aI)) (cY (cI .Eq (bG .len bj) (ba 99)) (eO (.raise "Full" (dP (bq "no more dies of that side are cut")))) (kA (.bp "put_wear" [("Mint",53)] aB (rA aI (bw (.bin .Add) bj (bG .tup (.prim .tup .nil))))) (bO (bw (.bin .Add) (bG .len bj) (ba 1))))))]
def Y9:aT:=#[1,1,(bO (bG .list (bG (.fld "bench") aB)))]
def EY:aT:=#[2,2,(bO (bG .len (.bp "wear_of" [("Mint",52)] aB (dP aI))))]
def Fo:aT:=#[3,4,(eF 3 (.bp "wear_of" [("Mint",52)] aB (dP aI)) (kA (dZ 43 cR bj) (bO (bZ cR (bw (.bin .Sub) bj (ba 1))))))]
def Fp:aT:=#[2,2,(kA (dZ 43 (bG (.fld "lower_wear") aB) aI) (cY (cI .In aI (bG (.fld "bench") aB)) (bO (bq "fixed")) (cY (cI .In aI (bG (.fld "laid_off") aB)) (bO (bq "gone")) (bO (bq "new")))))]
def Fb:aT:=#[1,1,(bO (bG (.fld "present") aB))]
def Y6:aT:=#[1,1,(bO (bG .len (bG (.fld "output") aB)))]
def EX:aT:=#[2,2,(cY (.cK (.dY (lR 1 aI (ba 0) (bw (.bin .Sub) (bG .len (bG (.fld "output") aB)) (ba 1))))) (eO (.raise "NoCoin" (dP (bq "no coin has that number")))) (bO (bZ (bG (.fld "output") aB) aI)))]
def N3:aT:=#[2,2,(bO (.gX [0] 3 (.one 2) (.iJ aI) .no (.bp "coin" [("Mint",66)] aB (dP bj))))]
noncomputable abbrev GY(a:Nat):D:=.tup (List.replicate a (.tup []))
def FJ(be la:D)(a b:Nat):O:=.ins "Mint" [("bench",be),("laid_off",la),("lower_wear",GY a),("upper_wear",GY b),("present",.int 0),("output",.tup [])]
noncomputable abbrev FI(n a b:Nat):O:=FJ (.tup (List.replicate n .aR)) (.tup []) a b
def E6{f:Str}{v:D}{fs:@&(Str×D)}(h:-fs<n):(u7 f v fs).length<n+1:=by
 induction fs generalizing n with
 |nil=>simp[u7];omega
 |cons p r ih =>
  let#[y,z]:=p;simp only[u7];split
  .simp at h ⊢;omega
  .have:=ih (n:=n-1) (by simp at h;omega);simp at h ⊢;omega
structure TM(T:Nat->Option aT):Prop where
 nf:NF T
 CT:T 40=!T1
 Ry:T 42=!V3
 Rx:T 43=!EU
 Rw:T 51=!EZ
 Rv:T 52=!Y5
 Ru:T 53=!V0
 Rt:T 54=!EG
 Rk:T 60=!Y9
 Rj:T 61=!EY
 Ri:T 62=!Fo
 Rh:T 63=!Fp
 Ie:T 64=!Fb
 Rg:T 65=!Y6
 Rf:T 66=!EX
section
variable{T:Nat->Option aT}
def aY2(hT:TM T)(h1:1<=v/\v<=9->Q .aR g)(h2:¬(1<=v/\v<=9)->E #["BadAnvils"] g):a8 T (k+3) 42 [.int v] g Q E:=by
 show call_of hT.Ry rfl ?_;delta V3;exists C3 hT.nf ?_;left;by_cases hv:1<=v/\v<=9
 .rw[aC hv.1,aC hv.2];left;show h1 hv
 .have:(decide (1<=v)&&decide (v<=9))=false:=by
   rw[dR,aM,aM];show cq.mp hv
  rw[this];left;show h2 hv
def Mi(hT:TM T)(hm:g[m]?=!(.ins "Mint" []))(h1:∀n:Nat,v=n->1<=n->n<=9->Q .aR (g.set m (FI n 0 0)))(h2:¬(1<=v/\v<=9)->E #["BadAnvils"] g):a8 T (k+4) 51 [.ref m,.int v] g Q E:=by
 show call_of hT.Rw rfl ?_;delta EZ;exists aY2 hT (λhv=>?_) h2;exists X' #[_] hv.1 () (by simp;omega) ?_;exists t9 hm #[_] #[_] ?_;exists t9 (get_set hm) #[_] (by repeat (first|(simp;done)|show E6 ?_)) ?_;rw[bW];exists t9 (get_set hm) #[_] (by repeat (first|(simp;done)|show E6 ?_)) ?_;rw[bW];exists t9 (get_set hm) #[_] (by repeat (first|(simp;done)|show E6 ?_)) ?_;rw[bW];exists t9 (get_set hm) #[_] (by repeat (first|(simp;done)|show E6 ?_)) ?_;rw[bW];exists t9 (get_set hm) #[_] (by repeat (first|(simp;done)|show E6 ?_)) ?_;rw[bW];left;obtain⟨n,rfl⟩:∃n:Nat,v=n:=#[v.toNat,by omega]
 have:=h1 n rfl () ();let e:(List.replicate (Int.toNat (n:Int)) [D.aR]).flatten=List.replicate n .aR:=by
  rw[cj,kH]
 rw[e];show this
def LF(hT:TM T){l:@&D}(h1:1<=v/\v<=-l->Q .aR g)(h2:¬(1<=v/\v<=-l)->E #["NoDie"] g):a8 T (k+3) 43 [.tup l,.int v] g Q E:=by
 show call_of hT.Rx rfl ?_;delta EU;exists C3 hT.nf ?_;left;by_cases hv:1<=v/\v<=-l
 .rw[aC hv.1,aC hv.2];left;show h1 hv
 .have:(decide (1<=v)&&decide (v<=(-l:Int)))=false:=by
   rw[dR,aM,aM];show cq.mp hv
  rw[this];left;show h2 hv
end
def S7:aT:=#[3,3,(bO (bw (.bin .Add) (bw (.bin .Add) (bw (.mZ false true) aB aI) (bG .tup bj)) (bw (.mZ true false) aB (bw (.bin .Add) aI (ba 1)))))]
def EH:aT:=#[2,4,(eF 2 (.bp "state" [("Mint",63)] aB (dP aI)) (cY (cI .Eq bj (bq "fixed")) (eO (.raise "Fixed" (dP (bq "the die is on an anvil")))) (cY (cI .Eq bj (bq "gone")) (eO (.raise "Gone" (dP (bq "the die was laid off")))) (cY (cI .NotIn (.lit .aR) (bG (.fld "bench") aB)) (eO (.raise "NoAnvil" (dP (bq "no anvil is free")))) (eF 3 (.dk .index (bG (.fld "bench") aB) (dP (.lit .aR))) (gM (.dU "bench" ["Mint"] aB (lR 177 (bG (.fld "bench") aB) cR aI)) (bO cR)))))))]
def Y8:aT:=#[2,3,(cY (cI .NotEq (.bp "state" [("Mint",63)] aB (dP aI)) (bq "fixed")) (eO (.raise "NotFixed" (dP (bq "the die is on no anvil")))) (eF 2 (.dk .index (bG (.fld "bench") aB) (dP aI)) (gM (.dU "bench" ["Mint"] aB (lR 177 (bG (.fld "bench") aB) bj (.lit .aR))) (gM (.kq "laid_off" ["Mint"] aB (bG .tup aI)) (bO bj)))))]
def l0(x:D):Prop:=x=.aR\/∃i,x=.int i
def ic(y z:D):Bool:=lD (toV z) (toV y)
abbrev kZ:D->PyData
 |.int i=>.int i
 |_=>.none
def MJ{x:D}(h:l0 x):rd g n x=!kZ x:=by
 rcases h with rfl|⟨i,rfl⟩<;>cases n<;>rfl
def NA{x:D}(h:l0 x):(kZ x).canLay0=true:=by
 rcases h with rfl|⟨i,rfl⟩<;>simp[kZ,PyData.canLay0]
def VB{x:D}(hx:l0 x)(hy:l0 y):PyData.eqv (kZ x) (kZ y)=ic y x:=by
 rcases hx with rfl|⟨i,rfl⟩<;>rcases hy with rfl|⟨j,rfl⟩<;>simp[kZ,PyData.eqv,ic,lD,toV]
def VC{l:@&D}(h:∀x∈l,l0 x):qr g l=!l.map kZ:=by
 unfold qr
 induction l with
 |nil=>rfl
 |cons x r ih =>
  rw[oO,MJ (h x #[_]),ih λz hz=>h z (by simp[hz])]
  rfl
def a23{l:@&D}(h:∀x∈l,l0 x):PyData.canLayAll0 (l.map kZ)=true:=by
 induction l with
 |nil=>rfl
 |cons x r ih =>
  rw[bT];simp only[PyData.canLayAll0,NA (h x #[_]),ih λz hz=>h z (by simp[hz])]
  rfl
def u4{x:D}{l:@&D}(hi:C6 g x=!l)(hl:∀z∈l,l0 z)(hy:l0 y)(h:kb (l.any (ic y))):si g y x kb:=by
 show#[_,.inr #[l,l.map kZ,kZ y,hi,VC hl,MJ hy,a23 hl,NA hy,rfl],?_];let e:((l.map kZ).any λq=>PyData.eqv q (kZ y))=l.any (ic y):=by
  rw[List.any_map];clear h hi
  induction l with
  |nil=>rfl
  |cons z r ih =>
   rw[eR,eR,ih λw hw=>hl w (by simp[hw])];show(PyData.eqv (kZ z) (kZ y)||_)=_;rw[VB (hl z #[_]) hy]
 rw[e];show h
def T9{z:D}(hy:l0 y)(hz:l0 z):ic y z=true↔z=y:=by
 rcases hy with rfl|⟨i,rfl⟩<;>rcases hz with rfl|⟨j,rfl⟩<;>simp[ic,lD,toV]
def KQ{x:D}(h:l0 x):uU x=true:=by rcases h with rfl|⟨i,rfl⟩<;>rfl
def Uu{l:@&D}(hl:∀z∈l,l0 z)(hy:l0 y)(h:l.any (ic y)=true):∃n,R0 l y n/\n< -l/\l[n]?=!y:=by
 let lZ:l.all uU=true:=cT.mpr λx hx=>KQ (hl x hx)
 suffices ∃n,n< -l/\l[n]?=!y/\∀(m:Nat) z,m<n->l[m]?=!z->lD (toV z) (toV y)=false by
  let#[n,h1,h2,h3]:=this;show#[n,#[lZ,KQ hy,#[y,h2,(T9 hy hy).mpr rfl],h3],h1,h2]
 clear lZ
 induction l with
 |nil=>simp at h
 |cons x r ih =>
  cases e:ic y x with
  |true =>
   have:=(T9 hy (hl x #[_])).mp e;subst this;show#[0,by simp,rfl,λm z hm=>absurd hm ()]
  |false =>
   rw[eR,e,rm] at h;let#[n,h1,h2,h3]:=ih (λz hz=>hl z (by simp[hz])) h;show#[n+1,by simpa using h1,by simpa using h2,λm z hm hz=>?_];cases m with
   |zero=>cases hz;show e
   |succ m=>show h3 m z () (_/hz)
def Wm{l:List α}:cut l (!(n:Int)) none=l.drop n:=by
 have:¬((n:Int)<0):=by omega
 unfold cut HT.dW;simp[this];by_cases h:n<=-l
 .rw[Nat.min_eq_left h,iC #[_]]
 .rw[Nat.min_eq_right (),vG (ak _),vG ()];simp
def Wl{l:List α}:cut l none (!(n:Int))=l.take n:=by
 have:¬((n:Int)<0):=by omega
 unfold cut HT.dW;simp[this]
section
variable{T:Nat->Option aT}
def R7(nH:T 177=!S7){l:@&D}{x:D}(hn:n< -l)(hz:-l<=1000)(h:Q (.tup (l.set n x)) g):a8 T (k+1) 177 [.tup l,.int n,x] g Q E:=by
 show call_of nH rfl ?_;delta S7;left;rw[Wl];show Fy (by simp;omega) ?_;left;rw[show((n:Int)+1)=((n+1:Nat):Int) by omega,Wm];show Fy (by simp;omega) ?_;let e:l.take n++[x]++l.drop (n+1)=l.set n x:=by
  rw[List.set_eq_take_append_cons_drop,aw hn];simp
 rw[e];show h
def F0{go:@&Int}:∀z∈go.map D.int,l0 z:=λz hz=>by
 let#[i,_,rfl]:=aN.mp hz;show .inr #[i,rfl]
end
def Bj:aT:=#[2,3,(cY (.cK (.dY (.chain .LtE .LtE (ba 1) aI (bG .len (bZ aB (bq "lower")))))) (bO (bw .tup (bq "NoDie") (.lit .aR))) (cY (cI .In aI (bZ aB (bq "seats"))) (bO (bw .tup (bq "Fixed") (.lit .aR))) (cY (cI .In aI (bZ aB (bq "gone"))) (bO (bw .tup (bq "Gone") (.lit .aR))) (cY (cI .NotIn (.lit .aR) (bZ aB (bq "seats"))) (bO (bw .tup (bq "NoAnvil") (.lit .aR))) (eF 2 (.dk .index (bZ aB (bq "seats")) (dP (.lit .aR))) (gM (.eP (bZ aB (bq "seats")) bj aI) (bO (bw .tup (bq "") bj))))))))]
def Bk:aT:=#[2,3,(cY (.cK (.dY (.chain .LtE .LtE (ba 1) aI (bG .len (bZ aB (bq "lower")))))) (bO (bw .tup (bq "NoDie") (.lit .aR))) (cY (cI .NotIn aI (bZ aB (bq "seats"))) (bO (bw .tup (bq "NotFixed") (.lit .aR))) (eF 2 (.dk .index (bZ aB (bq "seats")) (dP aI)) (gM (.eP (bZ aB (bq "seats")) bj (.lit .aR)) (kA (.dk .append (bZ aB (bq "gone")) (dP aI)) (bO (bw .tup (bq "") bj)))))))]
def aI5{l:@&D}{n':Nat}(h:R0 l y n)(h':R0 l y n'):n=n':=by
 let#[_,_,#[z,hz,ez],hn]:=h;let#[_,_,#[z',zD,Ik],wZ]:=h';rcases gO n n' with c|c|c
 .rw[wZ n z c hz] at ez;cases ez
 .exact c
 .rw[hn n' z' c zD] at Ik;cases Ik
def U6{l:@&D}{x:D}(h:∀z∈l,l0 z)(hx:l0 x):∀z∈l.set n x,l0 z:=λz hz=>by
 rcases gI hz with hz|rfl
 .exact h z hz
 .exact hx
def uQ(l:@&D):Prop:=∀(i j:Nat) (v:Int),l[i]?=!.int v->l[j]?=!.int v->i=j
def O8{l:@&D}(h:∀z∈l,l0 z):l.any (ic (.int v))=true↔∃i:Nat,l[i]?=!.int v:=by
 rw[iq];constructor
 .rintro⟨z,hz,e⟩;rw[(T9 (.inr #[v,rfl]) (h z hz))] at e;subst e;show Bz hz
 .rintro⟨i,hi⟩;show#[_,aP hi,(T9 (.inr #[v,rfl]) (.inr #[v,rfl])).mpr rfl]
def Us{l:@&D}(h:∀z∈l,l0 z)(hd:uQ l)(hn:l.any (ic (.int v))=false):uQ (l.set n (.int v)):=by
 let no:∀i:Nat,l[i]?≠!.int v:=λi hi=>by
  rw[(O8 h).mpr #[i,hi]] at hn;cases hn
 intro i j w hi hj;by_cases ei:n=i<;>by_cases ej:n=j
 .omega
 .subst ei;rw[aE ej] at hj;rw[kG] at hi;split at hi
  .split at hi
   .cases hi;show absurd hj (no j)
   .cases hi
  .contradiction
 .subst ej;rw[aE ei] at hi;rw[kG] at hj;split at hj
  .split at hj
   .cases hj;show absurd hi (no i)
   .cases hj
  .contradiction
 .rw[aE ei] at hi;rw[aE ej] at hj;show hd i j w hi hj
def N7{l:@&D}{x:D}(h:(l.set n x)[i]?=!y):(i=n/\y=x)\/l[i]?=!y:=by
 by_cases e:n=i
 .subst e;rw[kG] at h;split at h
  .split at h
   .cases h;show .inl #[rfl,rfl]
   .cases h
  .contradiction
 .rw[aE e] at h;show .inr h
def Ur{l:@&D}(hd:uQ l):uQ (l.set n .aR):=λi j v hi hj=>by
 rcases N7 hi with⟨_,z⟩|hi
 .cases z
 .rcases N7 hj with⟨_,z⟩|hj
  .cases z
  .exact hd i j v hi hj
def aN1{l:@&D}{w:Int}(h:∀z∈l,l0 z)(e:(l.set n .aR).any (ic (.int w))=true):l.any (ic (.int w))=true:=by
 let#[i,hi]:=(O8 (U6 h (.inl rfl))).mp e;rcases N7 hi with⟨_,z⟩|hi
 .cases z
 .exact(O8 h).mpr #[i,hi]
def aN2{l:@&D}{w:Int}(h:∀z∈l,l0 z)(e:(l.set n (.int v)).any (ic (.int w))=true):w=v\/l.any (ic (.int w))=true:=by
 let#[i,hi]:=(O8 (U6 h (.inr #[v,rfl]))).mp e;rcases N7 hi with⟨_,z⟩|hi
 .cases z;show .inl rfl
 .exact .inr ((O8 h).mpr #[i,hi])
def UT{l:@&D}(h:∀z∈l,l0 z)(hd:uQ l)(hn:l[n]?=!.int v):(l.set n .aR).any (ic (.int v))=false:=by
 cases e:(l.set n .aR).any (ic (.int v)) with
 |false=>rfl
 |true =>
  let#[i,hi]:=(O8 (U6 h (.inl rfl))).mp e;rcases N7 hi with⟨_,z⟩|kQ
  .cases z
  .have:i=n:=hd i n v kQ hn;subst this;rw[aX (ax.mp hn).1] at hi;cases hi
def Em(h:k<n):lh n (k:Int)=!k:=by
 unfold lh;rw[aw (),aw (),cj]
structure bY where
 bl:@&D
 go:@&Int
 lo:@&(@&Int)
 up:@&(@&Int)
 yr:Int
 co:@&D
noncomputable abbrev mk(l:@&Int):D:=.tup (l.map .int)
noncomputable abbrev fh(l:@&(@&Int)):@&D:=l.map mk
def c5(s:bY):O:=.ins "Mint" [("bench",.tup s.bl),("laid_off",.tup (s.go.map .int)),("lower_wear",.tup (fh s.lo)),("upper_wear",.tup (fh s.up)),("present",.int s.yr),("output",.tup s.co)]
abbrev bY.side(s:bY)(x:Str):@&(@&Int):=if x="lower" then s.lo else s.up
def bY.put(s:bY)(x:Str)(w:@&(@&Int)):bY:=if x="lower" then{ s with lo:=w } else{ s with up:=w }
def K4:s.side "lower"=s.lo:=by unfold bY.side;rw[aw rfl]
def K2:s.side "upper"=s.up:=by unfold bY.side;rw[az ∅]
noncomputable abbrev p6(x:Str):Prop:=x="lower"\/x="upper"
abbrev qf:@&Int:=[0,1,2,3,4,5,6,7]
abbrev markL(l:@&Int)(k:Int):@&Int:=qf.filter λi=>decide (i=k\/i∈l)
noncomputable abbrev Rs:=Str×D×bY
def y4(s:bY)(x:Str):Rs:=if p6 x then(if(s.side x).length<99 then("",.int ((s.side x).length+1),s.put x (s.side x++[[]])) else("Full",.aR,s)) else("BadSide",.aR,s)
noncomputable abbrev B1(s:bY)(v:Int):Bool:=s.bl.any (ic (.int v))
noncomputable abbrev J8(s:bY)(v:Int):Bool:=(s.go.map D.int).any (ic (.int v))
noncomputable abbrev iz(l:@&D)(y:D):Nat:=l.findIdx (ic y)
def o7(s:bY)(v:Int):Rs:=if 1<=v/\v<=-s.lo then(if B1 s v=true then("Fixed",.aR,s) else if J8 s v=true then("Gone",.aR,s) else if s.bl.any (ic .aR)=true then("",.int (iz s.bl .aR),{ s with bl:=s.bl.set (iz s.bl .aR) (.int v) }) else("NoAnvil",.aR,s)) else("NoDie",.aR,s)
def A3(s:bY)(v:Int):Rs:=if 1<=v/\v<=-s.lo then(if B1 s v=true then("",.int (iz s.bl (.int v)),{ s with bl:=s.bl.set (iz s.bl (.int v)) .aR,go:=s.go++[v] }) else("NotFixed",.aR,s)) else("NoDie",.aR,s)
noncomputable abbrev fK(l:@&(@&Int))(v:Int):@&Int:=l.getD (v-1).toNat []
def f7(s:bY)(x:Str)(v k:Int):Rs:=if p6 x then(if 1<=v/\v<=(s.side x).length then(if x="lower"/\J8 s v=true then("Gone",.aR,s) else if 0<=k/\k<=7 then(if k∈fK (s.side x) v then("Marked",.aR,s) else("",.aR,s.put x ((s.side x).set (v-1).toNat (markL (fK (s.side x) v) k)))) else("BadSpot",.aR,s)) else("NoDie",.aR,s)) else("BadSide",.aR,s)
def P7(s:bY)(a b:Int):D:=.tup [.int a,mk (fK s.lo a),.int b,mk (fK s.up b),.int s.yr]
def d9(s:bY)(a b:Int):Rs:=if(1<=a/\a<=-s.lo)/\(1<=b/\b<=-s.up) then(if B1 s a=true then(if (-s.co)<200 then("",.int (-s.co),{ s with co:=s.co++[P7 s a b] }) else("Full",.aR,s)) else("NotFixed",.aR,s)) else("NoDie",.aR,s)
def v7(s:bY)(n:Int):Rs:=if s.yr+1<=n/\n<=9999 then("",.aR,{ s with yr:=n }) else("BadYear",.aR,s)
def Mk(l:@&Int):Prop:=(∀k∈l,ST.Spot k)/\-l<=8
def Iq(c:D):Prop:=∃a l b m y,c=.tup [.int a,mk l,.int b,mk m,.int y]/\-l<=8/\-m<=8
structure WS(s:bY):Prop where
 se:∀z∈s.bl,l0 z
 di:uQ s.bl
 dj:∀v,B1 s v=true->J8 s v=false
 bn:-s.bl<=9
 gn:s.go.Nodup
 gb:∀v∈s.go,1<=v/\v<=-s.lo
 ln:-s.lo<=99
 un:-s.up<=99
 lm:∀l∈s.lo,Mk l
 um:∀l∈s.up,Mk l
 y0:0<=s.yr
 cn:-s.co<=200
 cs:∀c∈s.co,Iq c
def a31:qf.Pairwise (· < ·):=by unfold qf;decide
def Nm{k:Int}:k∈qf↔ST.Spot k:=by
 unfold qf ST.Spot;simp only[List.mem_cons,List.mem_nil_iff,or_false];omega
def a65{l:@&Int}{k i:Int}(hl:∀j∈l,ST.Spot j)(hk:ST.Spot k):i∈markL l k↔i=k\/i∈l:=by
 unfold markL;rw[cv,bt,Nm];constructor
 .exact λh=>h.2
 .rintro(rfl|h)
  .exact#[hk,.inl rfl]
  .exact#[hl i h,.inr h]
def Nl{l:@&Int}{k:Int}:Mk (markL l k):=by
 unfold markL;show#[λi hi=>Nm.mp (cv.mp hi).1,?_];show aH (fm _ _) ∅
def VH{l:@&Int}{k:Int}(hl:∀j∈l,ST.Spot j)(hk:ST.Spot k):K9 (l++[k])=markL l k:=by
 let h1:(markL l k).Pairwise (· < ·):=a31.sublist jB;show Ff ?_ (Lo _) (h1.imp λh=>Int.le_of_lt h);show(Ft _).trans ?_;show(cW (ST.W5 _ _ List.nodup_nil) (h1.imp λh=>Int.ne_of_lt h)).mpr λi=>?_;rw[ST.F9,a65 hl hk];simp[or_comm]
def NO(W:WS s):-s.go<=99:=by
 let hp:s.go.Perm (((List.range 99).map λn:Nat=>(n:Int)+1).filter (·∈s.go)):=by
  show(cW W.gn ?_).mpr λv=>?_
  .exact OT jB ∅
  .rw[cv];constructor
   .intro hv;show#[?_,by simpa using hv];have:=W.gb v hv;have:=W.ln;rw[aN];show#[(v-1).toNat,gh.mpr (),by omega]
   .rintro⟨_,hv⟩;simpa using hv
 rw[hp.length_eq];show aH (fm _ _) #[_]
def Q4{l:@&D}(hl:∀z∈l,l0 z)(hy:l0 y)(h:l.any (ic y)=true):R0 l y (iz l y)/\iz l y< -l/\l[iz l y]?=!y:=by
 let#[n,W,hn,e]:=Uu hl hy h;have:iz l y=n:=by
  let dO:iz l y< -l:=List.findIdx_lt_length_of_exists (by simpa[List.any_eq_true] using h);let h1:ic y l[iz l y]=true:=List.findIdx_getElem (w:=dO);show aI5 #[W.1,W.2.1,#[_,ao dO,h1],λm z hm hz=>?_] W;have:=List.not_of_lt_findIdx hm;let#[uq,rfl]:=ax.mp hz;simpa[ic] using this
 rw[this];show#[W,hn,e]
set_option tactic.hygienic true in
def XU(W:WS s):WS (y4 s x).2.2:=by
 unfold y4;split
 .rename_i hx;split
  .rename_i hl;rcases hx with rfl|rfl
   .rw[K4] at hl ⊢;unfold bY.put;rw[aw rfl];show#[W.se,W.di,W.dj,W.bn,W.gn,λv hv=>?_,?_,W.un,λl h=>?_,W.um,W.y0,W.cn,W.cs]
    .have:=W.gb v hv;rw[bg];simp;omega
    .rw[bg];simp;omega
    .rcases bS.mp h with h|h
     .exact W.lm l h
     .simp at h;subst h;show#[λk hk=>by simp at hk,by simp]
   .rw[K2] at hl ⊢;unfold bY.put;rw[az ∅];show#[W.se,W.di,W.dj,W.bn,W.gn,W.gb,W.ln,?_,W.lm,λl h=>?_,W.y0,W.cn,W.cs]
    .rw[bg];simp;omega
    .rcases bS.mp h with h|h
     .exact W.um l h
     .simp at h;subst h;show#[λk hk=>by simp at hk,by simp]
  .exact W
 .exact W
set_option tactic.hygienic true in
def XW(W:WS s):WS (o7 s v).2.2:=by
 unfold o7
 repeat' split
 all_goals first|show W|skip
 rename_i hv e1 e2 e3;let sR:B1 s v=false:=by simpa using e1
 let RQ:J8 s v=false:=by simpa using e2
 show#[U6 W.se (.inr #[v,rfl]),Us W.se W.di sR,λw hw=>?_,by rw[iM];show W.bn,W.gn,W.gb,W.ln,W.un,W.lm,W.um,W.y0,W.cn,W.cs];rcases aN2 W.se hw with rfl|hw
 .exact RQ
 .exact W.dj w hw
set_option tactic.hygienic true in
def XX(W:WS s):WS (A3 s v).2.2:=by
 unfold A3
 repeat' split
 all_goals first|show W|skip
 rename_i hv e1;let#[F,hn,e]:=Q4 W.se (.inr #[v,rfl]) e1;let hg:=W.dj v e1;let QH:v∉s.go:=λhv=>by
  have:J8 s v=true:=iq.mpr #[.int v,aN.mpr #[v,hv,rfl],(T9 (.inr #[v,rfl]) (.inr #[v,rfl])).mpr rfl];rw[hg] at this;cases this
 show#[U6 W.se (.inl rfl),Ur W.di,λw hw=>?_,by rw[iM];show W.bn,?_,?_,W.ln,W.un,W.lm,W.um,W.y0,W.cn,W.cs]
 .let hb:=W.dj w (aN1 W.se hw);show((s.go++[v]).map D.int).any (ic (.int w))=false;rw[aA,List.any_append];show(J8 s w||_)=false;rw[hb,rm];cases e5:(List.map D.int [v]).any (ic (.int w)) with
  |false=>rfl
  |true =>
   rw[bT,List.map_nil,eR,List.any_nil,Bool.or_false] at e5;have:=(T9 (.inr #[w,rfl]) (.inr #[v,rfl])).mp e5;cases this;let h1:B1 { s with bl:=s.bl.set (iz s.bl (.int v)) .aR,go:=s.go++[v] } v=false:=UT W.se W.di e;rw[h1] at hw;cases hw
 .show(s.go++[v]).Nodup;rw[dw];show#[W.gn,by simp,λa ha b hb=>by simp at hb;subst hb;show λz=>QH (z▸ha)]
 .intro w hw;rcases bS.mp hw with hw|hw
  .exact W.gb w hw
  .simp at hw;subst hw;show hv
set_option tactic.hygienic true in
def bC6{k:Int}(W:WS s):WS (f7 s x v k).2.2:=by
 unfold f7
 repeat' split
 all_goals first|show W|skip
 rename_i hx hv e1 hk e2;rcases hx with rfl|rfl
 .unfold bY.put;rw[aw rfl,K4];show#[W.se,W.di,W.dj,W.bn,W.gn,by simpa using W.gb,by simpa using W.ln,W.un,λl h=>?_,W.um,W.y0,W.cn,W.cs];rcases gI h with h|rfl
  .exact W.lm l h
  .exact Nl
 .unfold bY.put;rw[az ∅,K2];show#[W.se,W.di,W.dj,W.bn,W.gn,W.gb,W.ln,by simpa using W.un,W.lm,λl h=>?_,W.y0,W.cn,W.cs];rcases gI h with h|rfl
  .exact W.um l h
  .exact Nl
def Av{l:@&(@&Int)}(hv:1<=v/\v<=-l):l[(v-1).toNat]?=!fK l v/\fK l v∈l:=by
 let h:(v-1).toNat< -l:=by omega
 let e:l[(v-1).toNat]?=!fK l v:=by
  rw[ao h,fK,oQ,ao h]
  rfl
 show#[e,aP e]
set_option tactic.hygienic true in
def VW{a:Int}(W:WS s):WS (d9 s a b).2.2:=by
 unfold d9
 repeat' split
 all_goals first|show W|skip
 rename_i hv e1 hl;show#[W.se,W.di,W.dj,W.bn,W.gn,W.gb,W.ln,W.un,W.lm,W.um,W.y0,by simp;omega,λc hc=>?_];rcases bS.mp hc with hc|hc
 .exact W.cs c hc
 .simp at hc;subst hc;show#[_,_,_,_,_,rfl,(W.lm _ (Av hv.1).2).2,(W.um _ (Av hv.2).2).2]
set_option tactic.hygienic true in
def bC5{n:Int}(W:WS s):WS (v7 s n).2.2:=by
 unfold v7;split
 .rename_i h;show#[W.se,W.di,W.dj,W.bn,W.gn,W.gb,W.ln,W.un,W.lm,W.um,by have:=W.y0;change 0<=n;omega,W.cn,W.cs]
 .exact W
def FH:aT:=#[2,2,(bO (bG .tuple (bw .vS aB aI)))]
def Q6:aT:=#[4,5,(eF 4 (.bp "marks" [("Mint",62)] aB (rA aI bj)) (cY (.eI (cI .Eq aI (bq "lower")) (cI .In bj (bG (.fld "laid_off") aB))) (eO (.raise "Gone" (dP (bq "the die was laid off")))) (cY (.cK (.dY (lR 1 cR (ba 0) (ba 7)))) (eO (.raise "BadSpot" (dP (bq "a die has no such spot")))) (cY (cI .In cR fI) (eO (.raise "Marked" (dP (bq "the die has that mark")))) (eO (.expr (.bp "put_wear" [("Mint",53)] aB (rA aI (lR 177 (.bp "wear_of" [("Mint",52)] aB (dP aI)) (bw (.bin .Sub) bj (ba 1)) (dZ 16 fI (bG .tup cR)))))))))))]
def Y7:aT:=#[3,4,(eF 3 (.prim .tup (BB aI (.bp "marks" [("Mint",62)] aB (rA (bq "lower") aI)) bj (.bp "marks" [("Mint",62)] aB (rA (bq "upper") bj)) (bG (.fld "present") aB))) (cY (cI .NotIn aI (bG (.fld "bench") aB)) (eO (.raise "NotFixed" (dP (bq "the lower die is on no anvil")))) (cY (cI .Eq (bG .len (bG (.fld "output") aB)) (ba 200)) (eO (.raise "Full" (dP (bq "no more coins are struck")))) (gM (.kq "output" ["Mint"] aB (bG .tup cR)) (bO (bw (.bin .Sub) (bG .len (bG (.fld "output") aB)) (ba 1)))))))]
def O5:aT:=#[2,2,(cY (.cK (.dY (lR 1 aI (bw (.bin .Add) (bG (.fld "present") aB) (ba 1)) (ba 9999)))) (eO (.raise "BadYear" (dP (bq "no such year can begin")))) (eO (.dU "present" ["Mint"] aB aI)))]
structure TQ(T:Nat->Option aT):Prop where
 tm:TM T
 RA:T 16=!FH
 Rq:T 55=!EH
 Rp:T 56=!Y8
 Ro:T 57=!Q6
 Rn:T 58=!Y7
 Rm:T 59=!O5
 nH:T 177=!S7
section
variable{T:Nat->Option aT}
def bC1(hT:TQ T){l:@&Int}{i:Int}(hl:Mk l)(hi:ST.Spot i)(h:∀g',Ex g g'->Q (mk (markL l i)) g'):a8 T (k+1) 16 [mk l,.tup [.int i]] g Q E:=by
 show call_of hT.RA rfl ?_;delta FH;exists Xg (ns:=l) (ms:=[i]) hl.1 (λk hk=>by simp at hk;subst hk;show hi) (by have:=hl.2;simp;omega) ?_;rw[VH hl.1 hi];show FO (a6 b8) ?_;left;show h _ (Ex.snoc _ _)
def AR(hT:TQ T)(hm:g[m]?=!c5 s)(ho:PyData.strOk x=true)(h1:p6 x->Q (.tup (fh (s.side x))) g)(h3:¬p6 x->E #["BadSide"] g):a8 T (k+2) 52 [.ref m,.str x] g Q E:=by
 show call_of hT.tm.Rv rfl ?_;delta Y5;exists aA5 hT.tm.CT ho (λhx=>?_) (λz1 z2=>h3 (λz=>z.elim z1 z2));exists if2 (λc=>?_) (λc=>?_)
 .left;have:=h1 hx;rw[c,K4] at this;show i7 hm rfl this
 .left;have:=h1 hx;rw[hx.resolve_left c,K2] at this;show i7 hm rfl this
def MA(hT:TQ T)(hm:g[m]?=!c5 s){w:@&(@&Int)}(h:Q .aR (g.set m (c5 (s.put x w)))):a8 T (k+1) 53 [.ref m,.str x,.tup (fh w)] g Q E:=by
 show call_of hT.tm.Ru rfl ?_;delta V0;exists if2 (λc=>?_) (λc=>?_)
 .exists t9 hm #[_] #[_] ?_;left;unfold bY.put at h;rw[aw c] at h;show h
 .exists t9 hm #[_] #[_] ?_;left;unfold bY.put at h;rw[az c] at h;show h
def bB8(hT:TQ T)(hm:g[m]?=!c5 s)(W:WS s)(ho:PyData.strOk x=true)(h1:(y4 s x).1=""->Q (y4 s x).2.1 (g.set m (c5 (y4 s x).2.2)))(h2:(y4 s x).1≠""->E #[(y4 s x).1] g):a8 T (k+3) 54 [.ref m,.str x] g Q E:=by
 show call_of hT.tm.Rt rfl ?_;delta EG;exists c7 hm rfl rfl ?_;exists AR (k:=k) hT hm ho (λhx=>?_) (λhx=>?_)
 .let hl:(s.side x).length<=99:=by
   rcases hx with rfl|rfl
   .rw[K4];show W.ln
   .rw[K2];show W.un
  left;rw[aj];show if2 (λc=>?_) (λc=>?_)
  .let e:y4 s x=(("Full",.aR,s):Rs):=by unfold y4;rw[aw hx,az ()]
   rw[e] at h2;left;show h2 (by dsimp only;decide)
  .let e:y4 s x=(("",.int ((s.side x).length+1),s.put x (s.side x++[[]])):Rs):=by unfold y4;rw[aw hx,aw ()]
   rw[e] at h1;exists c7 hm rfl rfl ?_;exists Fy (by simp;omega) ?_;let e2:fh (s.side x)++[D.tup []]=fh (s.side x++[[]]):=by rw[fh,fh,aA];rfl
   rw[e2];exists MA hT hm ?_;left;rw[aj];show h1 rfl
 .let e:y4 s x=(("BadSide",.aR,s):Rs):=by unfold y4;rw[az hx]
  rw[e] at h2;show h2 (by dsimp only;decide)
def Uq(hT:TQ T)(hm:g[m]?=!c5 s)(ho:PyData.strOk x=true)(h1:p6 x->Q (.int (s.side x).length) g)(h3:¬p6 x->E #["BadSide"] g):a8 T (k+3) 61 [.ref m,.str x] g Q E:=by
 show call_of hT.tm.Rj rfl ?_;delta EY;exists c7 hm rfl rfl ?_;exists AR (k:=k) hT hm ho (λhx=>?_) h3;left;rw[aj];show h1 hx
def yC{l:@&(@&Int)}(hv:1<=v/\v<=-l):iQ (fh l) (v-1)=!mk (fK l v):=by
 let h:=(Av hv).1;have:=E4 (xs:=fh l) (j:=(v-1).toNat) (v:=mk (fK l v)) (by rw[aD,h];rfl)
 rwa [show(((v-1).toNat:Nat):Int)=v-1 by omega] at this
def X0(hT:TQ T)(hm:g[m]?=!c5 s)(ho:PyData.strOk x=true)(h1:p6 x->1<=v/\v<=(s.side x).length->Q (mk (fK (s.side x) v)) g)(h2:p6 x->¬(1<=v/\v<=(s.side x).length)->E #["NoDie"] g)(h3:¬p6 x->E #["BadSide"] g):a8 T (k+4) 62 [.ref m,.str x,.int v] g Q E:=by
 show call_of hT.tm.Ri rfl ?_;delta Fo;exists c7 hm rfl rfl ?_;exists AR (k:=k+1) hT hm ho (λhx=>?_) h3;exists LF hT.tm (λhv=>?_) (λhv=>?_)
 .rw[aj] at hv;exists Z6 (yC hv) ?_;left;show h1 hx hv
 .rw[aj] at hv;show h2 hx hv
def Q2(hT:TQ T)(hm:g[m]?=!c5 s)(W:WS s)(h0:¬(1<=v/\v<=-s.lo)->E #["NoDie"] g)(h1:1<=v/\v<=-s.lo->B1 s v=true->Q (.str "fixed") g)(h2:1<=v/\v<=-s.lo->B1 s v=false->J8 s v=true->Q (.str "gone") g)(h3:1<=v/\v<=-s.lo->B1 s v=false->J8 s v=false->Q (.str "new") g) :
  a8 T (k+4) 63 [.ref m,.int v] g Q E:=by
 show call_of hT.tm.Rh rfl ?_;delta Fp;exists i7 hm rfl ?_;exists LF hT.tm (λhv=>?_) (λz=>h0 (λy=>z #[y.1,by rw[aj];show y.2]));rw[aj] at hv;exists i7 hm rfl ?_;exists S2 (u4 (l:=s.bl) rfl W.se (.inr #[v,rfl]) ?_);left;cases e1:B1 s v with
 |true =>
  show fA e1 ?_;left;show h1 hv e1
 |false =>
  show dB e1 ?_;exists i7 hm rfl ?_;exists S2 (u4 (l:=s.go.map D.int) rfl F0 (.inr #[v,rfl]) ?_);left;cases e2:J8 s v with
  |true =>
   show fA e2 ?_;left;show h2 hv e1 e2
  |false =>
   show dB e2 ?_;left;show h3 hv e1 e2
def jR{b:Bool}(h:b=false):¬b=true:=by rw[h];decide
def bB2(hT:TQ T)(hm:g[m]?=!c5 s)(W:WS s)(h1:(o7 s v).1=""->Q (o7 s v).2.1 (g.set m (c5 (o7 s v).2.2)))(h2:(o7 s v).1≠""->E #[(o7 s v).1] g):a8 T (k+5) 55 [.ref m,.int v] g Q E:=by
 show call_of hT.Rq rfl ?_;delta EH;exists c7 hm rfl rfl ?_;exists Q2 (k:=k) hT hm W (λhv=>?_) (λhv e1=>?_) (λhv e1 e2=>?_) (λhv e1 e2=>?_)
 .let e:o7 s v=(("NoDie",.aR,s):Rs):=by unfold o7;rw[az hv]
  rw[e] at h2;show h2 (by dsimp only;decide)
 .let e:o7 s v=(("Fixed",.aR,s):Rs):=by unfold o7;rw[aw hv,aw e1]
  rw[e] at h2;exists fA #[] ?_;left;show h2 (by dsimp only;decide)
 .let e:o7 s v=(("Gone",.aR,s):Rs):=by unfold o7;rw[aw hv,az (jR e1),aw e2]
  rw[e] at h2;exists dB #[] ?_;exists fA #[] ?_;left;show h2 (by dsimp only;decide)
 .exists dB #[] ?_;exists dB #[] ?_;exists i7 hm rfl ?_;exists T3 (u4 (l:=s.bl) rfl W.se (.inl rfl) ?_);left;cases e3:s.bl.any (ic .aR) with
  |false =>
   let e:o7 s v=(("NoAnvil",.aR,s):Rs):=by unfold o7;rw[aw hv,az (jR e1),az (jR e2),az (jR e3)]
   rw[e] at h2;show fA rfl ?_;left;show h2 (by dsimp only;decide)
  |true =>
   let e:o7 s v=(("",.int (iz s.bl .aR),{ s with bl:=s.bl.set (iz s.bl .aR) (.int v) }):Rs):=by unfold o7;rw[aw hv,az (jR e1),az (jR e2),aw e3]
   rw[e] at h1;show dB rfl ?_;let#[F,hn,_]:=Q4 W.se (.inl rfl) e3;let bn:=W.bn;exists i7 hm rfl ?_;show#[NZ,?_];exists Jk F () ?_;exists i7 hm rfl ?_;exists R7 (k:=k+3) hT.nH hn () ?_;exists t9 hm #[_] #[_] ?_;left;show h1 rfl
def Sn(hT:TQ T)(hm:g[m]?=!c5 s)(W:WS s)(h1:(A3 s v).1=""->Q (A3 s v).2.1 (g.set m (c5 (A3 s v).2.2)))(h2:(A3 s v).1≠""->E #[(A3 s v).1] g):a8 T (k+5) 56 [.ref m,.int v] g Q E:=by
 show call_of hT.Rp rfl ?_;delta Y8;exists c7 hm rfl rfl ?_;left;let no:1<=v/\v<=-s.lo->B1 s v=false->E #["NotFixed"] g:=λhv e1=>by
  let e:A3 s v=(("NotFixed",.aR,s):Rs):=by unfold A3;rw[aw hv,az (jR e1)]
  rw[e] at h2;show h2 (by dsimp only;decide)
 show Q2 (k:=k) hT hm W (λhv=>?_) (λhv e1=>?_) (λhv e1 e2=>?_) (λhv e1 e2=>?_)
 .let e:A3 s v=(("NoDie",.aR,s):Rs):=by unfold A3;rw[az hv]
  rw[e] at h2;show h2 (by dsimp only;decide)
 .let e:A3 s v=(("",.int (iz s.bl (.int v)),{ s with bl:=s.bl.set (iz s.bl (.int v)) .aR,go:=s.go++[v] }):Rs):=by unfold A3;rw[aw hv,aw e1]
  rw[e] at h1;let#[F,hn,_]:=Q4 W.se (.inr #[v,rfl]) e1;let bn:=W.bn;let gl:=NO W;exists dB #[] ?_;exists i7 hm rfl ?_;show#[NZ,?_];exists Jk F () ?_;exists i7 hm rfl ?_;exists R7 (k:=k+3) hT.nH hn () ?_;exists t9 hm #[_] #[_] ?_;let e2:(O.ins "Mint" (u7 "bench" (.tup (s.bl.set (iz s.bl (.int v)) .aR)) [("bench",.tup s.bl),("laid_off",.tup (s.go.map .int)),("lower_wear",.tup (fh s.lo)),("upper_wear",.tup (fh s.up)),("present",.int s.yr),("output",.tup s.co)]))=c5 { s with bl:=s.bl.set (iz s.bl (.int v)) .aR }:=rfl;rw[e2];let pC:(g.set m (c5 { s with bl:=s.bl.set (iz s.bl (.int v)) .aR }))[m]?=!(c5 { s with bl:=s.bl.set (iz s.bl (.int v)) .aR }):=get_set hm;exists Ov ?_;exists#[m,_,_,_,rfl,pC,by simp,rfl,?_];exists NP (by simp;omega) ?_;show#[_,pC,by simp,?_];rw[bW];let e3:(O.ins "Mint" (u7 "laid_off" (.tup (s.go.map .int++[.int v])) [("bench",.tup (s.bl.set (iz s.bl (.int v)) .aR)),("laid_off",.tup (s.go.map .int)),("lower_wear",.tup (fh s.lo)),("upper_wear",.tup (fh s.up)),("present",.int s.yr),("output",.tup s.co)]))=c5 { s with bl:=s.bl.set (iz s.bl (.int v)) .aR,go:=s.go++[v] }:=by
   unfold c5;rw[aA]
   rfl
  rw[e3];left;show h1 rfl
 .exists fA #[] ?_;left;show no hv e1
 .exists fA #[] ?_;left;show no hv e1
def Ew(W:WS s)(hx:p6 x)(hv:1<=v/\v<=(s.side x).length):Mk (fK (s.side x) v):=by
 let h:=(Av hv).2;rcases hx with rfl|rfl
 .rw[K4] at h ⊢;show W.lm _ h
 .rw[K2] at h ⊢;show W.um _ h
def AQ(W:WS s):(s.side x).length<=99:=by
 unfold bY.side;split
 .exact W.ln
 .exact W.un
def Ax{l:@&Int}(hi:C6 g y=!l.map .int)(h:kb (decide (v∈l))):si g (.int v) y kb:=by
 show u4 hi F0 (.inr #[v,rfl]) ?_;let e:(l.map D.int).any (ic (.int v))=decide (v∈l):=by
  rw[cz,O8 F0,bt];constructor
  .rintro⟨i,hi⟩;rw[aD,ae] at hi;let#[a,h1,h2]:=hi;cases h2;show aP h1
  .intro hm;let#[i,hi]:=Bz hm;show#[i,by rw[aD,hi];rfl]
 rw[e];show h
def UK(hT:TQ T)(hm:g[m]?=!c5 s)(W:WS s)(ho:PyData.strOk x=true)(h1:(f7 s x v j).1=""->∀g',Ex g g'->Q .aR (g'.set m (c5 (f7 s x v j).2.2)))(h2:(f7 s x v j).1≠""->E #[(f7 s x v j).1] g):a8 T (k+5) 57 [.ref m,.str x,.int v,.int j] g Q E:=by
 show call_of hT.Ro rfl ?_;delta Q6;exists c7 hm rfl rfl ?_;exists X0 (k:=k) hT hm ho (λhx hv=>?_) (λhx hv=>?_) (λhx=>?_)
 .let zA:=Ew W hx hv;let sl:=AQ (x:=x) W;let fin:∀(N:Ends),¬(x="lower"/\J8 s v=true)->(∀(g':G) σ,(∀g1:G,Ex g g1->g'=g1.set m (c5 (f7 s x v j).2.2)->(f7 s x v j).1=""->N.nx σ g'))->wpS (a8 T (k+4)) (match Q6.body with|.seq _ (.seq _ b)=>b|x=>x) N [!.ref m,!.str x,!.int v,!.int j,!(mk (fK (s.side x) v))] g E:=by
   intro N sD hN;dsimp[Q6];exists C3 hT.tm.nf ?_;left;by_cases hj:0<=j/\j<=7
   .rw[aC hj.1,aC hj.2];show dB rfl ?_;exists S2 (Ax (l:=fK (s.side x) v) rfl ?_);left;by_cases hq:j∈fK (s.side x) v
    .let e:f7 s x v j=(("Marked",.aR,s):Rs):=by unfold f7;rw[aw hx,aw hv,az sD,aw hj,aw hq]
     rw[e] at h2;rw[aC hq];show pk ?_;left;show h2 (by dsimp only;decide)
    .let e:f7 s x v j=(("",.aR,s.put x ((s.side x).set (v-1).toNat (markL (fK (s.side x) v) j))):Rs):=by unfold f7;rw[aw hx,aw hv,az sD,aw hj,az hq]
     rw[e] at hN;rw[aO hq];show C9 ?_;exists c7 hm rfl rfl ?_;exists c7 hm rfl rfl ?_;exists AR (k:=k+2) hT hm ho (λy=>?_) (λz=>absurd hx z);exists bC1 (k:=k+3) hT zA #[hj.1,by omega] λg1 e1=>?_;left;let Qp:v-1=(((v-1).toNat:Nat):Int):=by omega
     rw[Qp];show R7 (k:=k+3) hT.nH (by rw[aj];omega) (by rw[aj];omega) ?_;let es:(fh (s.side x)).set (v-1).toNat (mk (markL (fK (s.side x) v) j))=fh ((s.side x).set (v-1).toNat (markL (fK (s.side x) v) j)):=by rw[fh,fh,List.map_set]
     rw[es];exists MA (k:=k+3) hT (e1.at hm) ?_;left;show hN _ _ g1 e1 rfl rfl
   .let e:f7 s x v j=(("BadSpot",.aR,s):Rs):=by unfold f7;rw[aw hx,aw hv,az sD,az hj]
    rw[e] at h2;have:(decide (0<=j)&&decide (j<=7))=false:=by
     rw[dR,aM,aM];show cq.mp hj
    rw[this];show fA rfl ?_;left;show h2 (by dsimp only;decide)
  exists if2 (λqy=>?_) (λqy=>?_)
  .exists i7 hm rfl ?_;exists S2 (u4 (l:=s.go.map D.int) rfl F0 (.inr #[v,rfl]) ?_);left;cases e2:J8 s v with
   |true =>
    let e:f7 s x v j=(("Gone",.aR,s):Rs):=by unfold f7;rw[aw hx,aw hv,aw #[qy,e2]]
    rw[e] at h2;show fA e2 ?_;left;show h2 (by dsimp only;decide)
   |false =>
    show dB e2 ?_;show j0 ?_;show fin _ (λz=>jR e2 z.2) (λg' σ g1 e1 eg er=>by subst eg;show h1 er g1 e1)
  .try show C9 ?_
   try with_reducible show j0 ?_
   show fin _ (λz=>qy z.1) (λg' σ g1 e1 eg er=>by subst eg;show h1 er g1 e1)
 .let e:f7 s x v j=(("NoDie",.aR,s):Rs):=by unfold f7;rw[aw hx,az hv]
  rw[e] at h2;show h2 (by dsimp only;decide)
 .let e:f7 s x v j=(("BadSide",.aR,s):Rs):=by unfold f7;rw[az hx]
  rw[e] at h2;show h2 (by dsimp only;decide)
def aU1(hT:TQ T)(hm:g[m]?=!c5 s)(W:WS s){a:Int}(h1:(d9 s a b).1=""->Q (d9 s a b).2.1 (g.set m (c5 (d9 s a b).2.2)))(h2:(d9 s a b).1≠""->E #[(d9 s a b).1] g):a8 T (k+5) 58 [.ref m,.int a,.int b] g Q E:=by
 show call_of hT.Rn rfl ?_;delta Y7;let no:¬((1<=a/\a<=-s.lo)/\(1<=b/\b<=-s.up))->E #["NoDie"] g:=λhv=>by
  let e:d9 s a b=(("NoDie",.aR,s):Rs):=by unfold d9;rw[az hv]
  rw[e] at h2;show h2 (by dsimp only;decide)
 exists c7 hm rfl rfl ?_;exists X0 (k:=k) hT hm #[] (λx ha=>?_) (λx ha=>no (λz=>ha (by rw[K4];show z.1))) (λz=>absurd (.inl rfl) z);rw[K4] at ha ⊢;exists c7 hm rfl rfl ?_;exists X0 (k:=k) hT hm #[] (λx hb=>?_) (λx hb=>no (λz=>hb (by rw[K2];show z.2))) (λz=>absurd (.inr rfl) z);rw[K2] at hb ⊢;exists i7 hm rfl ?_;exists i7 hm rfl ?_;exists T3 (u4 (l:=s.bl) rfl W.se (.inr #[a,rfl]) ?_);left;cases e1:B1 s a with
 |false =>
  let e:d9 s a b=(("NotFixed",.aR,s):Rs):=by unfold d9;rw[aw #[ha,hb],az (jR e1)]
  rw[e] at h2;show fA (show(~~~B1 s a)=true by rw[e1];rfl) ?_;left;show h2 (by dsimp only;decide)
 |true =>
  show dB (show(~~~B1 s a)=false by rw[e1];rfl) ?_;let cn:=W.cn;exists i7 hm rfl ?_;exists if2 (λhl=>?_) (λhl=>?_)
  .let e:d9 s a b=(("Full",.aR,s):Rs):=by unfold d9;rw[aw #[ha,hb],aw e1,az ()]
   rw[e] at h2;left;show h2 (by dsimp only;decide)
  .let e:d9 s a b=(("",.int (-s.co),{ s with co:=s.co++[P7 s a b] }):Rs):=by unfold d9;rw[aw #[ha,hb],aw e1,aw ()]
   rw[e] at h1;exists Ov ?_;exists#[m,_,_,_,rfl,hm,by simp,rfl,?_];exists NP (by simp;omega) ?_;show#[_,hm,by simp,?_];let e3:(O.ins "Mint" (u7 "output" (.tup (s.co++[.tup [.int a,mk (fK s.lo a),.int b,mk (fK s.up b),.int s.yr]])) [("bench",.tup s.bl),("laid_off",.tup (s.go.map .int)),("lower_wear",.tup (fh s.lo)),("upper_wear",.tup (fh s.up)),("present",.int s.yr),("output",.tup s.co)]))=c5 { s with co:=s.co++[P7 s a b] }:=rfl;rw[e3];let pC:(g.set m (c5 { s with co:=s.co++[P7 s a b] }))[m]?=!(c5 { s with co:=s.co++[P7 s a b] }):=get_set hm;exists i7 pC rfl ?_;left;have:=h1 rfl;rw[show((s.co++[P7 s a b]).length:Int)-1=-s.co by rw[bg];simp];show this
def VU(hT:TQ T)(hm:g[m]?=!c5 s){n:Int}(h1:(v7 s n).1=""->Q .aR (g.set m (c5 (v7 s n).2.2)))(h2:(v7 s n).1≠""->E #[(v7 s n).1] g):a8 T (k+3) 59 [.ref m,.int n] g Q E:=by
 show call_of hT.Rm rfl ?_;delta O5;exists i7 hm rfl ?_;exists C3 hT.tm.nf ?_;left;by_cases hv:s.yr+1<=n/\n<=9999
 .let e:v7 s n=(("",.aR,{ s with yr:=n }):Rs):=by unfold v7;rw[aw hv]
  rw[e] at h1;rw[aC hv.1,aC hv.2];show dB rfl ?_;exists t9 hm #[_] #[_] ?_;left;show h1 rfl
 .let e:v7 s n=(("BadYear",.aR,s):Rs):=by unfold v7;rw[az hv]
  rw[e] at h2;have:(decide (s.yr+1<=n)&&decide (n<=9999))=false:=by
   rw[dR,aM,aM];show cq.mp hv
  rw[this];show fA rfl ?_;left;show h2 (by dsimp only;decide)
def Fi(hT:TQ T)(hm:g[m]?=!c5 s)(h:Q (.ref (-g)) (g++[.lst s.bl])):a8 T (k+1) 60 [.ref m] g Q E:=by
 show call_of hT.tm.Rk rfl ?_;delta Y9;exists i7 hm rfl ?_;left;show h
def bC8(hT:TQ T)(hm:g[m]?=!c5 s)(h:Q (.int s.yr) g):a8 T (k+1) 64 [.ref m] g Q E:=by
 show call_of hT.tm.Ie rfl ?_;delta Fb;left;show i7 hm rfl h
def aU0(hT:TQ T)(hm:g[m]?=!c5 s)(h:Q (.int (-s.co)) g):a8 T (k+1) 65 [.ref m] g Q E:=by
 show call_of hT.tm.Rg rfl ?_;delta Y6;exists i7 hm rfl ?_;left;show h
def Uj(hT:TQ T)(hm:g[m]?=!c5 s){i:Int}(h1:∀c,0<=i->i< -s.co->s.co[i.toNat]?=!c->Q c g)(h2:¬(0<=i/\i< -s.co)->E #["NoCoin"] g):a8 T (k+3) 66 [.ref m,.int i] g Q E:=by
 show call_of hT.tm.Rf rfl ?_;delta EX;exists i7 hm rfl ?_;exists C3 hT.tm.nf ?_;left;by_cases hv:0<=i/\i< -s.co
 .rw[aC hv.1,aC (show i<=(-s.co:Int)-1 by omega)];show dB rfl ?_;exists i7 hm rfl ?_;left;let hi:i.toNat< -s.co:=by omega
  let e:=ao hi;let e2:=E4 (xs:=s.co) (j:=i.toNat) e;rw[show((i.toNat:Nat):Int)=i by omega] at e2;show Z6 e2 ?_;left;show h1 _ hv.1 hv.2 e
 .have:(decide (0<=i)&&decide (i<=(-s.co:Int)-1))=false:=by
   rw[dR,aM,aM];rcases cq.mp hv with z|z
   .exact .inl z
   .exact .inr ()
  rw[this];show fA rfl ?_;left;show h2 hv
def a85(hT:TQ T)(xC:T 67=!N3)(hm:g[m]?=!c5 s)(hc:g[c]?=!(.lst (l6 0 (-s.co))))(hz:-s.co<=1000)(h:Q (.ref (-g)) (g++[.lst s.co])):a8 T (k+4) 67 [.ref m,.ref c] g Q E:=by
 show call_of xC rfl ?_;delta N3;exists TN (b9 T _) (qw (b9 T _) ?_);exists#[c,_,rfl,a6 hc,l6 0 (-s.co),λi ys σ g'=>ys=s.co.take i/\g'=g/\∃z1 z2,σ=[!.ref m,z1,z2],by rw[E1];show hz,λi ys σ g' p=>?_,#[by simp,rfl,_,_,rfl],λi y ys σ g' hy p=>?_,λys σ g' p=>?_]
 .let#[rfl,rfl,_]:=p;show#[Q8 (a6 hc),by rw[cF];omega]
 .let#[rfl,rfl,z1,z2,rfl]:=p;let#[hi,rfl]:=O4 hy;show s9 ?_
  try show dN _ _ _ _ _ _
  exists c7 hm rfl rfl ?_;exists Uj (k:=k) hT hm (λc' x x e=>?_) (λz=>absurd #[by omega,by omega] z);show#[?_,rfl,_,_,rfl];rw[show((0:Int)+(i:Int)).toNat=i by omega] at e;rw[List.take_add_one,e]
  rfl
 .let#[rfl,rfl,_]:=p;rw[E1,cS];show h
end
def vi:aT:=#[4,5,(cY (cI .NotIn aI (bw .lst (bq "lower") (bq "upper"))) (bO (bw .tup (bq "BadSide") (.lit .aR))) (cY (.cK (.dY (.chain .LtE .LtE (ba 1) bj (bG .len (bZ aB aI))))) (bO (bw .tup (bq "NoDie") (.lit .aR))) (cY (.eI (cI .Eq aI (bq "lower")) (cI .In bj (bZ aB (bq "gone")))) (bO (bw .tup (bq "Gone") (.lit .aR))) (cY (.cK (.dY (.chain .LtE .LtE (ba 0) cR (ba 7)))) (bO (bw .tup (bq "BadSpot") (.lit .aR))) (eF 4 (bZ (bZ aB aI) (bw (.bin .Sub) bj (ba 1))) (cY (cI .In cR fI) (bO (bw .tup (bq "Marked") (.lit .aR))) (gM (.eP (bZ aB aI) (bw (.bin .Sub) bj (ba 1)) (bG .tuple (.comp [4,3] 4 (.one 3) (.gC (ba 8)) (.hW (cI .Eq cR aI) (cI .In cR aB)) cR))) (bO (bw .tup (bq "") (.lit .aR))))))))))]
def AK:aT:=#[3,3,(cY (.hW (.cK (.dY (.chain .LtE .LtE (ba 1) aI (bG .len (bZ aB (bq "lower")))))) (.cK (.dY (.chain .LtE .LtE (ba 1) bj (bG .len (bZ aB (bq "upper"))))))) (bO (bw .tup (bq "NoDie") (.lit .aR))) (cY (cI .NotIn aI (bZ aB (bq "seats"))) (bO (bw .tup (bq "NotFixed") (.lit .aR))) (cY (cI .Gt (bG .len (bZ aB (bq "coins"))) (ba 199)) (bO (bw .tup (bq "Full") (.lit .aR))) (kA (.dk .append (bZ aB (bq "coins")) (dP (.prim .tup (BB aI (bZ (bZ aB (bq "lower")) (bw (.bin .Sub) aI (ba 1))) bj (bZ (bZ aB (bq "upper")) (bw (.bin .Sub) bj (ba 1))) (bZ aB (bq "year")))))) (bO (bw .tup (bq "") (bw (.bin .Sub) (bG .len (bZ aB (bq "coins"))) (ba 1))))))))]
abbrev iY(q:Nat)(y:Int):@&(Key×D):=[(.inr "seats",.ref (q+2)),(.inr "lower",.ref (q+3)),(.inr "upper",.ref (q+4)),(.inr "gone",.ref (q+5)),(.inr "year",.int y),(.inr "coins",.ref (q+6))]
structure MD(g:G)(q:Nat)(t:bY):Prop where
 bX:g[q]?=!.bX (iY q t.yr)
 dh:g[q+2]?=!.lst t.bl
 lower:g[q+3]?=!.lst (fh t.lo)
 upper:g[q+4]?=!.lst (fh t.up)
 gone:g[q+5]?=!.lst (t.go.map .int)
 cU:g[q+6]?=!.lst t.co
structure Kq(q:Nat)(g g':G):Prop where
 len:-g<=-g'
 old:∀i,(i<q\/q+7<=i)->i< -g->g'[i]?=g[i]?
def Kq.at(h:Kq q g g')(hi:i<q\/q+7<=i)(e:g[i]?=!o):g'[i]?=!o:=(h.old i hi (d5 e)).trans e
def Kq.refl{q:Nat}{g:G}:Kq q g g:=#[ak _,λx x x=>rfl]
def Kq.trans{q:Nat}{g g1 g2:G}(a:Kq q g g1)(b:Kq q g1 g2):Kq q g g2:=#[aH a.len b.len,λi h hi=>(b.old i h (av hi a.len)).trans (a.old i h hi)]
def Kq.ex(h:Ex g g'):Kq q g g':=#[h.len,λi x hi=>h.old i hi]
def Kq.set{q i:Nat}{g:G}{o:O}(h:q<=i/\i<q+7):Kq q g (g.set i o):=#[by simp,λj hj x=>by rw[aE ()]]
def Kq.draw{d:Nat}(h:Kq q g g')(hd:d<q)(D0:d0 g d):d0 g' d:=by
 let#[s,p,b,r,xs,h1,h2,h3,h4]:=D0.ex;show#[s,p,b,r,xs,h.at () h1,h.at () h2,h3,h4]
def MD.ex(h:MD g q t)(x:Ex g g'):MD g' q t:=#[x.at h.bX,x.at h.dh,x.at h.lower,x.at h.upper,x.at h.gone,x.at h.cU]
def MD.gr{d:Nat}(h:MD g q t)(x:Gr d g g')(hd:d<q):MD g' q t:=#[x.at () h.bX,x.at () h.dh,x.at () h.lower,x.at () h.upper,x.at () h.gone,x.at () h.cU]
def MD.Kg(h:MD g q t)(w:@&D):MD (g.set (q+2) (.lst w)) q { t with bl:=w }:=#[a7 h.bX (),get_set h.dh,a7 h.lower (),a7 h.upper (),a7 h.gone (),a7 h.cU ()]
def MD.b21(h:MD g q t)(w:@&(@&Int)):MD (g.set (q+3) (.lst (fh w))) q { t with lo:=w }:=#[a7 h.bX (),a7 h.dh (),get_set h.lower,a7 h.upper (),a7 h.gone (),a7 h.cU ()]
def MD.b19(h:MD g q t)(w:@&(@&Int)):MD (g.set (q+4) (.lst (fh w))) q { t with up:=w }:=#[a7 h.bX (),a7 h.dh (),a7 h.lower (),get_set h.upper,a7 h.gone (),a7 h.cU ()]
def MD.setG(h:MD g q t)(w:@&Int):MD (g.set (q+5) (.lst (w.map .int))) q { t with go:=w }:=#[a7 h.bX (),a7 h.dh (),a7 h.lower (),a7 h.upper (),get_set h.gone,a7 h.cU ()]
def MD.setC(h:MD g q t)(w:@&D):MD (g.set (q+6) (.lst w)) q { t with co:=w }:=#[a7 h.bX (),a7 h.dh (),a7 h.lower (),a7 h.upper (),a7 h.gone (),get_set h.cU]
def MD.b18(h:MD g q t)(n:Int):MD (g.set q (.bX (iY q n))) q { t with yr:=n }:=#[get_set h.bX,a7 h.dh (),a7 h.lower (),a7 h.upper (),a7 h.gone (),a7 h.cU ()]
def mG{y:Int}:J7 (iY q y) (.inr "seats")=!.ref (q+2):=rfl
def qv{y:Int}:J7 (iY q y) (.inr "lower")=!.ref (q+3):=rfl
def wF{y:Int}:J7 (iY q y) (.inr "upper")=!.ref (q+4):=rfl
def wG{y:Int}:J7 (iY q y) (.inr "gone")=!.ref (q+5):=rfl
def zC{y:Int}:J7 (iY q y) (.inr "year")=!.int y:=rfl
def sf{y:Int}:J7 (iY q y) (.inr "coins")=!.ref (q+6):=rfl
def MD.side{g:G}{q:Nat}{t:bY}{x:Str}(h:MD g q t)(hx:p6 x):∃r,(r=q+3\/r=q+4)/\J7 (iY q t.yr) (.inr x)=!.ref r/\g[r]?=!(.lst (fh (t.side x)))/\∀w,MD (g.set r (.lst (fh w))) q (t.put x w):=by
 rcases hx with rfl|rfl
 .refine#[q+3,.inl rfl,qv,by rw[K4];show h.lower,λw=>?_];unfold bY.put;rw[aw rfl];show h.b21 w
 .refine#[q+4,.inr rfl,wF,by rw[K2];show h.upper,λw=>?_];unfold bY.put;rw[az ∅];show h.b19 w
section
variable{T:Nat->Option aT}
noncomputable abbrev uI(q:Nat)(g:G)(r:Rs)(Q:KD):Prop:=∀g',Kq q g g'->MD g' q r.2.2->Q (.tup [.str r.1,r.2.1]) g'
def UL(CQ:T 46=!Bi)(M0:MD g q s)(W:WS s)(ho:PyData.strOk x=true)(h:uI q g (y4 s x) Q):a8 T (k+1) 46 [.ref q,.str x] g Q E:=by
 show call_of CQ rfl ?_;delta Bi;left;let e1:Ex g (g++[O.lst [.str "lower",.str "upper"]]):=Ex.snoc _ _;show T3 (Kz b8 ho ?_);let M1:=M0.ex e1;let k1:=Kq.ex (q:=q) e1;let sl:=AQ (x:=x) W;generalize g++[O.lst [.str "lower",.str "upper"]]=g1 at *;left;by_cases hx:p6 x
 .refine dB (by rw[gm,fR,bt,bt];show hx) ?_;let#[r,hr,mI,sx,wQ]:=M1.side hx;exists i6 M1.bX rfl mI ?_;show j5 (a6 sx) ?_;left;rw[aj];show if2 (λc=>?_) (λc=>?_)
  .let e:y4 s x=(("Full",.aR,s):Rs):=by unfold y4;rw[aw hx,az ()]
   rw[e] at h;left;show h _ k1 M1
  .let e:y4 s x=(("",.int ((s.side x).length+1),s.put x (s.side x++[[]])):Rs):=by unfold y4;rw[aw hx,aw ()]
   rw[e] at h;exists i6 M1.bX rfl mI ?_;show#[C4 sx,?_];exists M9 sx (by simp;omega) ?_;let e2:fh (s.side x)++[D.tup []]=fh (s.side x++[[]]):=by rw[fh,fh,aA];rfl
   rw[e2];let M2:=wQ (s.side x++[[]]);let wU:(g1.set r (.lst (fh (s.side x++[[]]))))[r]?=!(.lst (fh (s.side x++[[]]))):=get_set sx;let hd2:(g1.set r (.lst (fh (s.side x++[[]]))))[q]?=!.bX (iY q s.yr):=a7 M1.bX ();exists i6 hd2 rfl mI ?_;show j5 (a6 wU) ?_;left;rw[aj,bg];have:=h _ (k1.trans (Kq.set (i:=r) ())) M2;show this
 .refine fA (by rw[kI,ji,aM,aM];show not_or.mp hx) ?_;let e:y4 s x=(("BadSide",.aR,s):Rs):=by unfold y4;rw[az hx]
  rw[e] at h;left;show h _ k1 M1
def UM(hi:T 178=!Bj)(M0:MD g q s)(W:WS s)(h:uI q g (o7 s v) Q):a8 T (k+1) 178 [.ref q,.int v] g Q E:=by
 show call_of hi rfl ?_;delta Bj;left;let no:¬(1<=v/\v<=-s.lo)->Q (.tup [.str "NoDie",.aR]) g:=λhv=>by
  let e:o7 s v=(("NoDie",.aR,s):Rs):=by unfold o7;rw[az hv]
  rw[e] at h;show h _ Kq.refl M0
 by_cases jo:1<=v
 .rw[aC jo];exists i6 M0.bX rfl qv ?_;show j5 (a6 M0.lower) ?_;left;rw[aj];by_cases jm:v<=(-s.lo:Int)
  .rw[aC jm];exists i6 M0.bX rfl mG ?_;show S2 (u4 (l:=s.bl) (a6 M0.dh) W.se (.inr #[v,rfl]) ?_);left;cases e1:B1 s v with
   |true =>
    let e:o7 s v=(("Fixed",.aR,s):Rs):=by unfold o7;rw[aw #[jo,jm],aw e1]
    rw[e] at h;show fA e1 ?_;left;show h _ Kq.refl M0
   |false =>
    show dB e1 ?_;exists i6 M0.bX rfl wG ?_;show S2 (u4 (l:=s.go.map D.int) (a6 M0.gone) F0 (.inr #[v,rfl]) ?_);left;cases e2:J8 s v with
    |true =>
     let e:o7 s v=(("Gone",.aR,s):Rs):=by unfold o7;rw[aw #[jo,jm],az (jR e1),aw e2]
     rw[e] at h;show fA e2 ?_;left;show h _ Kq.refl M0
    |false =>
     show dB e2 ?_;exists i6 M0.bX rfl mG ?_;show T3 (u4 (l:=s.bl) (a6 M0.dh) W.se (.inl rfl) ?_);left;cases e3:s.bl.any (ic .aR) with
     |false =>
      let e:o7 s v=(("NoAnvil",.aR,s):Rs):=by unfold o7;rw[aw #[jo,jm],az (jR e1),az (jR e2),az (jR e3)]
      rw[e] at h;show fA rfl ?_;left;show h _ Kq.refl M0
     |true =>
      let e:o7 s v=(("",.int (iz s.bl .aR),{ s with bl:=s.bl.set (iz s.bl .aR) (.int v) }):Rs):=by unfold o7;rw[aw #[jo,jm],az (jR e1),az (jR e2),aw e3]
      rw[e] at h;show dB rfl ?_;let#[F,hn,_]:=Q4 W.se (.inl rfl) e3;let bn:=W.bn;exists i6 M0.bX rfl mG ?_;show#[NY (a6 M0.dh),?_];exists Jj (a6 M0.dh) F () ?_;exists i6 M0.bX rfl mG ?_;exists S5 M0.dh (Em hn) ?_;left;show h _ (Kq.set (i:=q+2) ()) (M0.Kg _)
  .rw[aO jm];left;show no λz=>jm z.2
 .rw[aO jo];left;show no λz=>jo z.1
def UN(hi:T 179=!Bk)(M0:MD g q s)(W:WS s)(h:uI q g (A3 s v) Q):a8 T (k+1) 179 [.ref q,.int v] g Q E:=by
 show call_of hi rfl ?_;delta Bk;left;let no:¬(1<=v/\v<=-s.lo)->Q (.tup [.str "NoDie",.aR]) g:=λhv=>by
  let e:A3 s v=(("NoDie",.aR,s):Rs):=by unfold A3;rw[az hv]
  rw[e] at h;show h _ Kq.refl M0
 by_cases jo:1<=v
 .rw[aC jo];exists i6 M0.bX rfl qv ?_;show j5 (a6 M0.lower) ?_;left;rw[aj];by_cases jm:v<=(-s.lo:Int)
  .rw[aC jm];exists i6 M0.bX rfl mG ?_;show T3 (u4 (l:=s.bl) (a6 M0.dh) W.se (.inr #[v,rfl]) ?_);left;cases e1:B1 s v with
   |false =>
    let e:A3 s v=(("NotFixed",.aR,s):Rs):=by unfold A3;rw[aw #[jo,jm],az (jR e1)]
    rw[e] at h;show fA (show(~~~B1 s v)=true by rw[e1];rfl) ?_;left;show h _ Kq.refl M0
   |true =>
    let e:A3 s v=(("",.int (iz s.bl (.int v)),{ s with bl:=s.bl.set (iz s.bl (.int v)) .aR,go:=s.go++[v] }):Rs):=by unfold A3;rw[aw #[jo,jm],aw e1]
    rw[e] at h;show dB (show(~~~B1 s v)=false by rw[e1];rfl) ?_;let#[F,hn,_]:=Q4 W.se (.inr #[v,rfl]) e1;let bn:=W.bn;let gl:=NO W;exists i6 M0.bX rfl mG ?_;show#[NY (a6 M0.dh),?_];exists Jj (a6 M0.dh) F () ?_;exists i6 M0.bX rfl mG ?_;exists S5 M0.dh (Em hn) ?_;let M1:=M0.Kg (s.bl.set (iz s.bl (.int v)) .aR);exists i6 M1.bX rfl wG ?_;show#[C4 M1.gone,?_];exists M9 M1.gone (by simp;omega) ?_;let M2:=M1.setG (s.go++[v]);rw[aA] at M2;left;show h _ ((Kq.set (i:=q+2) ()).trans (Kq.set (i:=q+5) ())) M2
  .rw[aO jm];left;show no λz=>jm z.2
 .rw[aO jo];left;show no λz=>jo z.1
def Ti{l:@&(@&Int)}{w:@&Int}:(fh l).set (v-1).toNat (mk w)=fh (l.set (v-1).toNat w):=by rw[fh,fh,List.map_set]
def WH(hv:1<=v/\v<=n):lh n (v-1)=!(v-1).toNat:=by
 have:=Em (n:=n) (k:=(v-1).toNat) ()
 rwa [show(((v-1).toNat:Nat):Int)=v-1 by omega] at this
def a61(hi:T 181=!vi)(M0:MD g q s)(W:WS s)(ho:PyData.strOk x=true)(h:uI q g (f7 s x v j) Q):a8 T (k+1) 181 [.ref q,.str x,.int v,.int j] g Q E:=by
 show call_of hi rfl ?_;delta vi;left;let e1:Ex g (g++[O.lst [.str "lower",.str "upper"]]):=Ex.snoc _ _;show T3 (Kz b8 ho ?_);let M1:=M0.ex e1;let k1:=Kq.ex (q:=q) e1;let sl:=AQ (x:=x) W;generalize g++[O.lst [.str "lower",.str "upper"]]=g1 at *;left;by_cases hx:p6 x
 .refine dB (by rw[gm,fR,bt,bt];show hx) ?_;let#[r,hr,mI,sx,wQ]:=M1.side hx;let no:¬(1<=v/\v<=(s.side x).length)->Q (.tup [.str "NoDie",.aR]) g1:=λhv=>by
   let e:f7 s x v j=(("NoDie",.aR,s):Rs):=by unfold f7;rw[aw hx,az hv]
   rw[e] at h;show h _ k1 M1
  left;by_cases jo:1<=v
  .rw[aC jo];exists i6 M1.bX rfl mI ?_;show j5 (a6 sx) ?_;left;rw[aj];by_cases jm:v<=((s.side x).length:Int)
   .rw[aC jm];let hv:1<=v/\v<=(s.side x).length:=#[jo,jm]
    let zA:=Ew W hx hv;let fin:∀(N:Ends),N.rt=Q->¬(x="lower"/\J8 s v=true)->wpS (a8 T k) (match vi.body with|.seq _ (.seq _ (.seq _ b))=>b|x=>x) N [!.ref q,!.str x,!.int v,!.int j,none] g1 E:=by
     intro N hN sD;dsimp[vi];let bad:¬(0<=j/\j<=7)->N.rt (.tup [.str "BadSpot",.aR]) g1:=λhj=>by
      let e:f7 s x v j=(("BadSpot",.aR,s):Rs):=by unfold f7;rw[aw hx,aw hv,az sD,az hj]
      rw[e] at h;rw[hN];show h _ k1 M1
     left;by_cases xg:0<=j
     .rw[aC xg];left;by_cases xf:j<=7
      .rw[aC xf];exists i6 M1.bX rfl mI ?_;exists A5 (a6 sx) (yC hv) ?_;exists S2 (Ax (l:=fK (s.side x) v) rfl ?_);left;by_cases hq:j∈fK (s.side x) v
       .let e:f7 s x v j=(("Marked",.aR,s):Rs):=by unfold f7;rw[aw hx,aw hv,az sD,aw #[xg,xf],aw hq]
        rw[e] at h;rw[aC hq];show pk ?_;left;rw[hN];show h _ k1 M1
       .let e:f7 s x v j=(("",.aR,s.put x ((s.side x).set (v-1).toNat (markL (fK (s.side x) v) j))):Rs):=by unfold f7;rw[aw hx,aw hv,az sD,aw #[xg,xf],az hq]
        rw[e] at h;rw[aO hq];show C9 ?_;exists Lp (b9 T _) ?_;exists#[8,rfl,by omega,λi ys σ g2=>∃z2 z3,ys=((qf.take i).filter λi=>decide (i=j\/i∈fK (s.side x) v)).map .int/\σ=[!(mk (fK (s.side x) v)),!.int j,z2,z3]/\g2=g1,#[none,none,rfl,rfl,rfl],λi ys σ g2 p=>?_,λi ys σ g2 hi p=>?_,λys σ g2 p=>?_]
        .let#[_,_,rfl,_]:=p;rw[aj];show aH (fm _ _) (by rw[cF];omega)
        .let#[z2,z3,rfl,rfl,rfl]:=p;show s9 ?_
         try show dN _ _ _ _ _ _
         let tk:qf.take (i+1)=qf.take i++[(i:Int)]:=by
          have:i=0\/i=1\/i=2\/i=3\/i=4\/i=5\/i=6\/i=7:=by omega
          rcases this with rfl|rfl|rfl|rfl|rfl|rfl|rfl|rfl<;>rfl
         left;by_cases js:(i:Int)=j
         .rw[aC js];exists#[_,_,?_,rfl,rfl];rw[tk,jX,aA,show List.filter (λi=>decide (i=j\/i∈fK (s.side x) v)) [(i:Int)]=[(i:Int)] by rw[dI,aw (aC (Or.inl js))];rfl]
          rfl
         .rw[aO js];exists S2 (Ax (l:=fK (s.side x) v) rfl ?_);left;by_cases zM:(i:Int)∈fK (s.side x) v
          .rw[aC zM];exists#[_,_,?_,rfl,rfl];rw[tk,jX,aA,show List.filter (λi=>decide (i=j\/i∈fK (s.side x) v)) [(i:Int)]=[(i:Int)] by rw[dI,aw (aC (Or.inr zM))];rfl]
           rfl
          .rw[aO zM];exists#[_,_,?_,rfl,rfl];rw[tk,jX,aA,show List.filter (λi=>decide (i=j\/i∈fK (s.side x) v)) [(i:Int)]=[] by rw[dI,az (by rw[bt];show not_or.mpr #[js,zM])];rfl];simp
        .let#[z2,z3,rfl,rfl,rfl]:=p;let e2:(qf.take 8).filter (λi=>decide (i=j\/i∈fK (s.side x) v))=markL (fK (s.side x) v) j:=rfl;rw[e2];let e3:Ex g2 (g2++[O.lst ((markL (fK (s.side x) v) j).map .int)]):=Ex.snoc _ _;show FO (a6 b8) ?_;let M3:=M1.ex e3;let#[r',wV,Cq,Ce,wO]:=M3.side hx;generalize g2++[O.lst ((markL (fK (s.side x) v) j).map .int)]=g3 at *;exists i6 M3.bX rfl Cq ?_;exists S5 Ce (by rw[aj];show WH hv) ?_;let es:=Ti (l:=s.side x) (v:=v) (w:=markL (fK (s.side x) v) j);rw[show D.tup ((markL (fK (s.side x) v) j).map .int)=mk (markL (fK (s.side x) v) j) from rfl,es];left;rw[hN];show h _ (k1.trans ((Kq.ex e3).trans (Kq.set (i:=r') ()))) (wO _)
      .rw[aO xf];left;show bad λz=>xf z.2
     .rw[aO xg];left;show bad λz=>xg z.1
    exists if2 (λqy=>?_) (λqy=>?_)
    .exists i6 M1.bX rfl wG ?_;show S2 (u4 (l:=s.go.map D.int) (a6 M1.gone) F0 (.inr #[v,rfl]) ?_);left;cases e2:J8 s v with
     |true =>
      let e:f7 s x v j=(("Gone",.aR,s):Rs):=by unfold f7;rw[aw hx,aw hv,aw #[qy,e2]]
      rw[e] at h;show fA e2 ?_;left;show h _ k1 M1
     |false =>
      show dB e2 ?_;show j0 ?_;show fin _ rfl (λz=>jR e2 z.2)
    .try show C9 ?_
     try with_reducible show j0 ?_
     show fin _ rfl (λz=>qy z.1)
   .rw[aO jm];left;show no λz=>jm z.2
  .rw[aO jo];left;show no λz=>jo z.1
 .refine fA (by rw[kI,ji,aM,aM];show not_or.mp hx) ?_;let e:f7 s x v j=(("BadSide",.aR,s):Rs):=by unfold f7;rw[az hx]
  rw[e] at h;left;show h _ k1 M1
def aL8(hi:T 182=!AK)(M0:MD g q s)(W:WS s){a:Int}(h:uI q g (d9 s a b) Q):a8 T (k+1) 182 [.ref q,.int a,.int b] g Q E:=by
 show call_of hi rfl ?_;delta AK;let no:¬((1<=a/\a<=-s.lo)/\(1<=b/\b<=-s.up))->Q (.tup [.str "NoDie",.aR]) g:=λhv=>by
  let e:d9 s a b=(("NoDie",.aR,s):Rs):=by unfold d9;rw[az hv]
  rw[e] at h;show h _ Kq.refl M0
 left;by_cases qG:1<=a
 .rw[aC qG];exists i6 M0.bX rfl qv ?_;show j5 (a6 M0.lower) ?_;left;rw[aj];by_cases zS:a<=(-s.lo:Int)
  .rw[aC zS];left;by_cases zP:1<=b
   .rw[aC zP];exists i6 M0.bX rfl wF ?_;show j5 (a6 M0.upper) ?_;left;rw[aj];by_cases pF:b<=(-s.up:Int)
    .rw[aC pF];let ha:1<=a/\a<=-s.lo:=#[qG,zS]
     let hb:1<=b/\b<=-s.up:=#[zP,pF]
     exists i6 M0.bX rfl mG ?_;show T3 (u4 (l:=s.bl) (a6 M0.dh) W.se (.inr #[a,rfl]) ?_);left;cases e1:B1 s a with
     |false =>
      let e:d9 s a b=(("NotFixed",.aR,s):Rs):=by unfold d9;rw[aw #[ha,hb],az (jR e1)]
      rw[e] at h;show fA (show(~~~B1 s a)=true by rw[e1];rfl) ?_;left;show h _ Kq.refl M0
     |true =>
      show dB (show(~~~B1 s a)=false by rw[e1];rfl) ?_;let cn:=W.cn;exists i6 M0.bX rfl sf ?_;show j5 (a6 M0.cU) ?_;exists if2 (λhl=>?_) (λhl=>?_)
      .let e:d9 s a b=(("Full",.aR,s):Rs):=by unfold d9;rw[aw #[ha,hb],aw e1,az ()]
       rw[e] at h;left;show h _ Kq.refl M0
      .let e:d9 s a b=(("",.int (-s.co),{ s with co:=s.co++[P7 s a b] }):Rs):=by unfold d9;rw[aw #[ha,hb],aw e1,aw ()]
       rw[e] at h;exists i6 M0.bX rfl sf ?_;show#[C4 M0.cU,?_];exists i6 M0.bX rfl qv ?_;exists A5 (a6 M0.lower) (yC ha) ?_;exists i6 M0.bX rfl wF ?_;exists A5 (a6 M0.upper) (yC hb) ?_;exists i6 M0.bX rfl zC ?_;exists M9 M0.cU () ?_;let M1:=M0.setC (s.co++[P7 s a b]);let e3:s.co++[D.tup [.int a,mk (fK s.lo a),.int b,mk (fK s.up b),.int s.yr]]=s.co++[P7 s a b]:=rfl;rw[e3];exists i6 M1.bX rfl sf ?_;show j5 (a6 M1.cU) ?_;left;have:=h _ (Kq.set (i:=q+6) ()) M1;dsimp only;rw[show((s.co++[P7 s a b]).length:Int)-1=-s.co by rw[bg];simp];show this
    .rw[aO pF];left;show no λz=>pF z.2.2
   .rw[aO zP];left;show no λz=>zP z.2.1
  .rw[aO zS];left;show no λz=>zS z.1.2
 .rw[aO qG];left;show no λz=>qG z.1.1
end
def DZ:aT:=#[2,3,(eF 2 (bZ aI (ba 0)) (cY (cI .Eq bj (bq "cut")) (bO (dZ 46 aB (bZ aI (ba 1)))) (cY (cI .Eq bj (bq "fix")) (bO (dZ 178 aB (bZ aI (ba 1)))) (cY (cI .Eq bj (bq "off")) (bO (dZ 179 aB (bZ aI (ba 1)))) (cY (cI .Eq bj (bq "mark")) (bO (ub 181 aB (bZ aI (ba 1)) (bZ aI (ba 2)) (bZ aI (ba 3)))) (cY (cI .Eq bj (bq "strike")) (bO (lR 182 aB (bZ aI (ba 1)) (bZ aI (ba 2)))) (cY (.hW (.cK (.dY (.chain .LtE .LtE (ba 1) (bZ aI (ba 1)) (ba 9999)))) (cI .LtE (bZ aI (ba 1)) (bZ aB (bq "year")))) (bO (bw .tup (bq "BadYear") (.lit .aR))) (gM (.eP aB (bq "year") (bZ aI (ba 1))) (bO (bw .tup (bq "") (.lit .aR)))))))))))]
def AD:aT:=#[2,3,(eF 2 (bZ aI (ba 0)) (cY (cI .Eq bj (bq "cut")) (bO (.bp "cut" [("Mint",54)] aB (dP (bZ aI (ba 1))))) (cY (cI .Eq bj (bq "fix")) (bO (.bp "fix" [("Mint",55)] aB (dP (bZ aI (ba 1))))) (cY (cI .Eq bj (bq "off")) (bO (.bp "lay_off" [("Mint",56)] aB (dP (bZ aI (ba 1))))) (cY (cI .Eq bj (bq "mark")) (bO (.bp "mark" [("Mint",57)] aB (vL (bZ aI (ba 1)) (bZ aI (ba 2)) (bZ aI (ba 3))))) (cY (cI .Eq bj (bq "strike")) (bO (.bp "strike" [("Mint",58)] aB (rA (bZ aI (ba 1)) (bZ aI (ba 2))))) (bO (.bp "begin_year" [("Mint",59)] aB (dP (bZ aI (ba 1)))))))))))]
inductive Dd where
 |cut (x:Str)|fix (v:Int)|off (v:Int)|mark (x:Str) (v j:Int)|eL (a b:Int)|year (n:Int)
abbrev Dd.d:Dd->D
 |.cut x=>.tup [.str "cut",.str x]
 |.fix v=>.tup [.str "fix",.int v]
 |.off v=>.tup [.str "off",.int v]
 |.mark x v j=>.tup [.str "mark",.str x,.int v,.int j]
 |.eL a b=>.tup [.str "strike",.int a,.int b]
 |.year n=>.tup [.str "year",.int n]
abbrev Dd.ok:Dd->Prop
 |.cut x=>PyData.strOk x=true
 |.mark x _ _=>PyData.strOk x=true
 |_=>True
abbrev dX(s:bY):Dd->Rs
 |.cut x=>y4 s x
 |.fix v=>o7 s v
 |.off v=>A3 s v
 |.mark x v j=>f7 s x v j
 |.eL a b=>d9 s a b
 |.year n=>v7 s n
def Fv(W:WS s):WS (dX s dd).2.2:=by
 cases dd
 .exact XU W
 .exact XW W
 .exact XX W
 .exact bC6 W
 .exact VW W
 .exact bC5 W
def UJ:(f7 s x v j).2.1=.aR:=by unfold f7;(repeat' split)<;>rfl
def VT{n:Int}:(v7 s n).2.1=.aR:=by unfold v7;(repeat' split)<;>rfl
abbrev JN:@&Str:=["NotFixed","BadSpot","Marked","BadYear","Full","BadSide","NoDie","Fixed","Gone","NoAnvil"]
def bB5:(dX s dd).1=""\/((dX s dd).1∈JN/\(dX s dd).2=(D.aR,s)):=by
 cases dd<;>(simp only[dX];first|unfold y4|unfold o7|unfold A3|unfold f7|unfold d9|unfold v7)<;>(repeat' split)<;>first|show .inl rfl|show .inr #[by simp[JN],rfl]
def Md:l0 (dX s dd).2.1:=by
 cases dd<;>(simp only[dX];first|unfold y4|unfold o7|unfold A3|unfold f7|unfold d9|unfold v7)<;>(repeat' split)<;>first|show .inl rfl|show .inr #[_,rfl]
structure TR(T:Nat->Option aT):Prop where
 tq:TQ T
 CQ:T 46=!Bi
 Dt:T 178=!Bj
 Ds:T 179=!Bk
 Dr:T 181=!vi
 Dq:T 182=!AK
 Dp:T 183=!DZ
section
variable{T:Nat->Option aT}{d:Nat}
def aV7{f:Nat}(hT:TQ T)(Dn:T f=!AD)(hm:g[m]?=!c5 s)(W:WS s)(ho:dd.ok)(h1:(dX s dd).1=""->∀g',Ex g g'->Q (dX s dd).2.1 (g'.set m (c5 (dX s dd).2.2)))(h2:(dX s dd).1≠""->E #[(dX s dd).1] g):a8 T (k+6) f [.ref m,dd.d] g Q E:=by
 show call_of Dn rfl ?_;cases dd<;>dsimp[AD,b0,List.replicate,Dd.d,dX] at h1 h2 ⊢
 .exists fA #[] ?_;exists c7 hm rfl rfl ?_;left;show bB8 (k:=k+2) hT hm W ho (λe=>h1 e g (Ex.refl _)) h2
 .exists dB #[] ?_;exists fA #[] ?_;exists c7 hm rfl rfl ?_;left;show bB2 (k:=k) hT hm W (λe=>h1 e g (Ex.refl _)) h2
 .exists dB #[] ?_;exists dB #[] ?_;exists fA #[] ?_;exists c7 hm rfl rfl ?_;left;show Sn (k:=k) hT hm W (λe=>h1 e g (Ex.refl _)) h2
 .exists dB #[] ?_;exists dB #[] ?_;exists dB #[] ?_;exists fA #[] ?_;exists c7 hm rfl rfl ?_;left;rw[UJ] at h1;show UK (k:=k) hT hm W ho h1 h2
 .exists dB #[] ?_;exists dB #[] ?_;exists dB #[] ?_;exists dB #[] ?_;exists fA #[] ?_;exists c7 hm rfl rfl ?_;left;show aU1 (k:=k) hT hm W (λe=>h1 e g (Ex.refl _)) h2
 .exists dB #[] ?_;exists dB #[] ?_;exists dB #[] ?_;exists dB #[] ?_;exists dB #[] ?_;exists c7 hm rfl rfl ?_;left;rw[VT] at h1;show VU (k:=k+2) hT hm (λe=>h1 e g (Ex.refl _)) h2
set_option tactic.hygienic true in
def Sf(hT:TR T)(M0:MD g q s)(W:WS s)(ho:dd.ok)(h:uI q g (dX s dd) Q):a8 T (k+2) 183 [.ref q,dd.d] g Q E:=by
 show call_of hT.Dp rfl ?_;cases dd<;>dsimp[DZ,b0,List.replicate,Dd.d,dX] at h ⊢
 .exists fA #[] ?_;left;show UL (k:=k) hT.CQ M0 W ho h
 .exists dB #[] ?_;exists fA #[] ?_;left;show UM (k:=k) hT.Dt M0 W h
 .exists dB #[] ?_;exists dB #[] ?_;exists fA #[] ?_;left;show UN (k:=k) hT.Ds M0 W h
 .exists dB #[] ?_;exists dB #[] ?_;exists dB #[] ?_;exists fA #[] ?_;left;show a61 (k:=k) hT.Dr M0 W ho h
 .exists dB #[] ?_;exists dB #[] ?_;exists dB #[] ?_;exists dB #[] ?_;exists fA #[] ?_;left;show aL8 (k:=k) hT.Dq M0 W h
 .rename_i n;let no:¬(s.yr+1<=n/\n<=9999)->Q (.tup [.str "BadYear",.aR]) g:=λhv=>by
   let e:v7 s n=(("BadYear",.aR,s):Rs):=by unfold v7;rw[az hv]
   rw[e] at h;show h _ Kq.refl M0
  let y0:=W.y0;exists dB #[] ?_;exists dB #[] ?_;exists dB #[] ?_;exists dB #[] ?_;exists dB #[] ?_;left;by_cases h1:1<=n
  .rw[aC h1];left;by_cases h2:n<=9999
   .rw[aC h2];exists i6 M0.bX rfl zC ?_;exists if2 (λc=>?_) (λc=>?_)
    .left;show no ()
    .let e:v7 s n=(("",.aR,{ s with yr:=n }):Rs):=by unfold v7;rw[aw ()]
     rw[e] at h;exists Jt M0.bX rfl (by simp[iY]) ?_;let e2:(O.bX (putD (iY q s.yr) (.inr "year") (.int n)))=.bX (iY q n):=rfl;rw[e2];left;show h _ (Kq.set (i:=q) ()) (M0.b18 n)
   .rw[aO h2];left;show no ()
  .rw[aO h1];left;show no ()
def En{b:Nat}{l:@&D}(ha:g[a]?=!.lst l)(hb:g[b]?=!.lst l)(h:∀x∈l,w6 g n x x)(hz:-l<=1000):w6 g (n+1) (.ref a) (.ref b):=by
 show .lst ha hb rfl (λi x y hx hy=>?_) hz;rw[hx] at hy;cases hy;show h x (aP hx)
def Lj(h:l0 y):w6 g n y y:=by
 rcases h with rfl|⟨i,rfl⟩
 .exact .aR
 .exact .int _
def Eo{l:@&Int}(h:-l<=1000):w6 g (n+1) (mk l) (mk l):=by
 show .tup rfl (λi x y hx hy=>?_) (by rw[aj];show h);rw[hx] at hy;cases hy;let#[j,_,rfl]:=aN.mp (aP hx);show .int _
def a70{c:D}(h:Iq c):w6 g 2 c c:=by
 let#[a,l,b,m,y,rfl,h1,h2]:=h;show .tup rfl (λi x y hx hy=>?_) #[_];rw[hx] at hy;cases hy;have:=aP hx;simp only[List.mem_cons,List.mem_nil_iff,or_false] at this;rcases this with rfl|rfl|rfl|rfl|rfl
 .exact .int _
 .exact Eo ()
 .exact .int _
 .exact Eo ()
 .exact .int _
def b63:J6 (List.replicate c (D.bl true))=!true:=by
 induction c with
 |zero=>rfl
 |succ c ih=>rw[dD,J6,ih];rfl
def aU2(hT:TQ T)(h6:T 6=!tB)(h7:T 7=!B9)(CP:T 47=!P4)(xC:T 67=!N3)(hm:g[m]?=!c5 s)(M0:MD g q s)(W:WS s)(h:∀g',Ex g g'->Q (.bl true) g'):a8 T (k+6) 47 [.ref m,.ref q] g Q E:=by
 let ln:=W.ln;let un:=W.un;let bn:=W.bn;let cn:=W.cn;show call_of CP rfl ?_;delta P4;exists c7 hm rfl rfl ?_;exists Fi (k:=k+4) hT hm ?_;let e1:Ex g (g++[O.lst s.bl]):=Ex.snoc _ _;let hl:(g++[O.lst s.bl])[(-g)]?=!.lst s.bl:=b8;let M1:=M0.ex e1;let m1:=e1.at hm;generalize g++[O.lst s.bl]=g1 at *;exists i6 M1.bX rfl mG ?_;exists j6 h6 h7 1 (k:=k+2) (En hl M1.dh (λy hy=>Lj (W.se y hy)) ()) λg2 e2=>?_;let M2:=M1.ex e2;let m2:=e2.at m1;exists c7 m2 rfl rfl ?_;exists bC8 (k:=k+4) hT m2 ?_;exists i6 M2.bX rfl zC ?_;exists j6 h6 h7 0 (k:=k+3) (.int _) λg3 e3=>?_;let M3:=M2.ex e3;let m3:=e3.at m2;let x3:=e1.trans (e2.trans e3);left;let e4:Ex g3 (g3++[O.lst [.str "lower",.str "upper"]]):=Ex.snoc _ _;let Hy:(g3++[O.lst [.str "lower",.str "upper"]])[(-g3)]?=!.lst [.str "lower",.str "upper"]:=b8;show P0 (b9 T _) (qw (b9 T _) ?_);left;let M4:=M3.ex e4;let m4:=e4.at m3;generalize g3++[O.lst [.str "lower",.str "upper"]]=g4 at *;let x4:=x3.trans e4;show#[(-g3),_,rfl,a6 Hy,[.str "lower",.str "upper"],λi σ g'=>Ex g4 g'/\∃z2 z3 z4,σ=[!.ref m,!.ref q,z2,z3,z4],λi σ g' p=>Q8 (a6 (p.1.at Hy)),#[Ex.refl _,none,none,none,rfl],λi y σ g' hy p=>?_,λσ g' p=>?_]
 .let#[e5,z2,z3,z4,rfl]:=p;let M5:=M4.ex e5;let m5:=e5.at m4;obtain⟨x,rfl,ho,hx⟩:∃x:Str,y=.str x/\PyData.strOk x=true/\p6 x:=by
   match i,hy with
   |0,hy=>cases hy;show#["lower",rfl,by decide +kernel,.inl rfl]
   |1,hy=>cases hy;show#["upper",rfl,by decide +kernel,.inr rfl]
   |i+2,hy=>simp at hy
  let#[r,_,mI,hr,_]:=M5.side hx;let sl:=AQ (x:=x) W;show s9 ?_
  try show wpS _ _ _ _ _ _
  exists c7 m5 rfl rfl ?_;exists Uq (k:=k+2) hT m5 ho (λw=>?_) (λz=>absurd hx z);exists i6 M5.bX rfl mI ?_;show j5 (a6 hr) ?_;left;rw[aj];show j6 h6 h7 0 (k:=k+3) (.int _) λg6 e6=>?_;let M6:=M5.ex e6;let m6:=e6.at m5;let r6:=e6.at hr;exists Lp (b9 T _) ?_;exists i6 M6.bX rfl mI ?_;show j5 (a6 r6) ?_;show#[(s.side x).length,by rw[aj],by omega,λi ys σ g7=>∃z3 z4,ys=List.replicate i (.bl true)/\σ=[!.ref q,!.ref m,!.str x,z3,z4]/\Ex g6 g7,#[none,none,rfl,rfl,Ex.refl _],λi ys σ g7 p=>?_,λi ys σ g7 hi p=>?_,λys σ g7 p=>?_]
  .let#[_,_,rfl,_]:=p;simp
  .let#[z3,z4,rfl,rfl,e7]:=p;let M7:=M6.ex e7;let m7:=e7.at m6;let hv:1<=(i:Int)+1/\(i:Int)+1<=(s.side x).length:=#[by omega,by omega]
   let zA:=Ew W hx hv;show s9 ?_
   try show dN _ _ _ _ _ _
   exists c7 m7 rfl rfl ?_;exists X0 (k:=k+1) hT m7 ho (λw w=>?_) (λw z=>absurd hv z) (λz=>absurd hx z);exists i6 M7.bX rfl mI ?_;left;let ea:=yC hv;rw[show(i:Int)+1-1=i by omega] at ea;show A5 (a6 (e7.at r6)) ea ?_;exists j6 h6 h7 1 (k:=k+2) (Eo (by have:=zA.2;omega)) λg8 e8=>?_;show#[_,_,by rw[jg],rfl,e7.trans e8]
  .let#[z3,z4,rfl,rfl,e7]:=p;show Fx (a6 b8) b63 ?_;left;show#[e5.trans (e6.trans (e7.trans (Ex.snoc _ _))),_,_,_,rfl]
 .let#[e5,z2,z3,z4,rfl]:=p;let M5:=M4.ex e5;let m5:=e5.at m4;let x5:=x4.trans e5
  try show wpS _ _ _ _ _ _
  exists P0 (b9 T _) (DY (b9 T _) ?_);exists i6 M5.bX rfl qv ?_;show j5 (a6 M5.lower) ?_;left;rw[aj];show#[1,(-s.lo:Int)+1,rfl,rfl,by omega,l6 1 (-s.lo),λi σ g6=>Ex g' g6/\∃z2 z3 z4,σ=[!.ref m,!.ref q,z2,z3,z4],λi σ g6 p=>?_,#[Ex.refl _,_,_,_,rfl],λi y σ g6 hy p=>?_,λσ g6 p=>?_]
  .rw[show((-s.lo:Int)+1-1).toNat=-s.lo by omega];show J0
  .let#[e6,z2,z3,z4,rfl]:=p;let M6:=M5.ex e6;let m6:=e6.at m5;let#[hi,rfl]:=O4 hy;let hv:1<=1+(i:Int)/\1+(i:Int)<=-s.lo:=#[by omega,by omega]
   show s9 ?_
   try show wpS _ _ _ _ _ _
   exists i6 M6.bX rfl wG ?_;show S2 (u4 (l:=s.go.map D.int) (a6 M6.gone) F0 (.inr #[_,rfl]) ?_);left;cases e2:J8 s (1+(i:Int)) with
   |true =>
    show fA e2 ?_;exists c7 m6 rfl rfl ?_;exists Q2 (k:=k+1) hT m6 W (λz=>absurd hv z) (λw e1=>by rw[W.dj _ e1] at e2;cases e2) (λw w w=>?_) (λw w e=>by rw[e2] at e;cases e);exists j6 h6 h7 0 (k:=k+3) (.str _) λg7 e7=>?_;left;show#[e6.trans e7,_,_,_,rfl]
   |false =>
    show dB e2 ?_;exists i6 M6.bX rfl mG ?_;show S2 (u4 (l:=s.bl) (a6 M6.dh) W.se (.inr #[_,rfl]) ?_);left;cases e1:B1 s (1+(i:Int)) with
    |true =>
     show fA e1 ?_;exists c7 m6 rfl rfl ?_;exists Q2 (k:=k+1) hT m6 W (λz=>absurd hv z) (λw w=>?_) (λw e w=>by rw[e1] at e;cases e) (λw e w=>by rw[e1] at e;cases e);exists j6 h6 h7 0 (k:=k+3) (.str _) λg7 e7=>?_;left;show#[e6.trans e7,_,_,_,rfl]
    |false =>
     show dB e1 ?_;exists c7 m6 rfl rfl ?_;exists Q2 (k:=k+1) hT m6 W (λz=>absurd hv z) (λw e=>by rw[e1] at e;cases e) (λw w e=>by rw[e2] at e;cases e) (λw w w=>?_);exists j6 h6 h7 0 (k:=k+3) (.str _) λg7 e7=>?_;left;show#[e6.trans e7,_,_,_,rfl]
  .let#[e6,z2,z3,z4,rfl]:=p;let M6:=M5.ex e6;let m6:=e6.at m5
   try show wpS _ _ _ _ _ _
   exists c7 m6 rfl rfl ?_;exists aU0 (k:=k+4) hT m6 ?_;exists i6 M6.bX rfl sf ?_;show j5 (a6 M6.cU) ?_;exists j6 h6 h7 0 (k:=k+3) (.int _) λg7 e7=>?_;let M7:=M6.ex e7;let m7:=e7.at m6;exists c7 m7 rfl rfl ?_;exists i6 M7.bX rfl sf ?_;show j5 (a6 M7.cU) ?_;show PV () () ?_;left;rw[show Int.toNat ((-s.co:Nat):Int)=-s.co by omega];let e8:Ex g7 (g7++[O.lst (l6 0 (-s.co))]):=Ex.snoc _ _;let hz:(g7++[O.lst (l6 0 (-s.co))])[(-g7)]?=!(.lst (l6 0 (-s.co))):=b8;let M8:=M7.ex e8;let m8:=e8.at m7;show a85 (k:=k+1) hT xC m8 hz () ?_;generalize g7++[O.lst (l6 0 (-s.co))]=g8 at *;let e9:Ex g8 (g8++[O.lst s.co]):=Ex.snoc _ _;exists i6 (M8.ex e9).bX rfl sf ?_;exists j6 h6 h7 3 (k:=k) (En b8 (M8.ex e9).cU (λy hy=>a70 (W.cs y hy)) ()) λg10 RS=>?_;show h _ (x5.trans (e6.trans (e7.trans (e8.trans (e9.trans RS)))))
end
def Fc:aT:=#[2,2,(cY (.hW (cI .Eq (bG .len aI) (ba 0)) (cI .Eq (dZ 4 aB (ba 10)) (ba 4))) (bO (dZ 36 aB (bw (.bin .Add) (ba 3) (bG .len aI)))) (bO (bZ aI (dZ 4 aB (bG .len aI)))))]
def P6:aT:=#[2,9,(eF 2 (dZ 4 aB (ba 20)) (eF 3 (.comp [] 2 (.one 1) (.iJ (bZ aI (bq "seats"))) (cI .IsNot aI (.lit .aR)) aI) (eF 4 (.comp [3] 3 (.one 2) (.iH (ba 1) (bw (.bin .Add) (bG .len (bZ aI (bq "lower"))) (ba 1))) (cI .NotIn bj aB) bj) (eF 5 (bw .kd (ba 1) (bw (.bin .Add) (bG .len (bZ aI (bq "upper"))) (ba 1))) (cY (.hW (cI .Lt bj (ba 2)) (.eI (cI .Eq (bG .len gy) (ba 0)) (cI .Lt bj (ba 6)))) (bO (bw .tup (bq "cut") (.ite (cI .Eq (bG .len gy) (ba 0)) (bq "upper") (jQ 29 aB)))) (cY (.hW (cI .Lt bj (ba 5)) (cI .Eq (bG .len cR) (ba 0))) (cY (.hW (cI .Eq (bG .len fI) (ba 0)) (cI .Eq (dZ 4 aB (ba 4)) (ba 0))) (bO (bw .tup (bq "cut") (bq "lower"))) (bO (bw .tup (bq "fix") (dZ 37 aB (bw (.bin .Add) fI (bw (.bin .Mult) cR (bG .int (bw (.cmp .Eq) (dZ 4 aB (ba 5)) (ba 0))))))))) (cY (cI .Lt bj (ba 6)) (bO (bw .tup (bq "off") (dZ 37 aB cR))) (cY (cI .Lt bj (ba 10)) (eF 6 (jQ 29 aB) (bO (.prim .tup (tX (bq "mark") kK (dZ 37 aB (.ite (cI .Eq kK (bq "lower")) cR gy)) (bw (.bin .Sub) (dZ 4 aB (ba 10)) (ba 1)))))) (cY (cI .Lt bj (ba 18)) (bO (.prim .tup (vL (bq "strike") (dZ 37 aB cR) (dZ 37 aB gy)))) (eF 7 (bZ aI (bq "year")) (eF 8 (.prim .lst (.cons (bw (.bin .Add) jj (ba 1)) (.cons (bw (.bin .Add) jj (ba 7)) (.cons (bw (.bin .Add) jj (ba 1)) (GR jj (bw (.bin .Sub) jj (ba 3)) (ba 1350) (ba 1412) (ba 9999) (ba 10000) (jQ 5 aB)))))) (bO (bw .tup (bq "year") (bZ pe (dZ 4 aB (ba 10))))))))))))))))]
def Vn{a:Int}:∃ns:@&Int,l6 a n=ns.map .int/\-ns=n:=#[(List.range n).map λk:Nat=>a+k,by unfold l6;rw[kE];rfl,by simp]
structure TV(T:Nat->Option aT):Prop where
 h4:T 4=!P2
 h5:T 5=!tw
 zY:T 29=!Bn
 zW:T 36=!Bl
 Rz:T 37=!Fc
 Dm:T 188=!P6
section
variable{T:Nat->Option aT}{d:Nat}
def Np(h4:T 4=!P2)(h5:T 5=!tw)(zW:T 36=!Bl)(hj:0<=j/\j<=1000)(D0:d0 g d)(h:∀(v:Int) g',d0 g' d->Gr d g g'->Q (.int v) g'):a8 T (k+3) 36 [.ref d,.int j] g Q E:=by
 show call_of zW rfl ?_;delta Bl;exists j9 h4 D0 ∅ ∅ λr g1 x x D1 G1=>?_;exists if2 (λx=>?_) (λx=>?_)
 .left;show NL h4 h5 D1 λf g2 D2 G2=>h _ _ D2 (G1.trans G2)
 .exists j9 h4 D1 () () λr g2 x x D2 G2=>?_;left;show h _ _ D2 (G1.trans G2)
def L6(hT:TV T){ns:@&Int}(hi:g[i]?=!.lst (ns.map .int))(hd:d<i)(hz:-ns<=900)(D0:d0 g d)(h:∀(v:Int) g',d0 g' d->Gr d g g'->Q (.int v) g'):a8 T (k+4) 37 [.ref d,.ref i] g Q E:=by
 show call_of hT.Rz rfl ?_;delta Fc;left;rw[aj];show if2 (λc=>?_) (λc=>?_)
 .exists Np (k:=k) hT.h4 hT.h5 hT.zW (by rw[aj];omega) D0 λv g2 D2 G2=>?_;show h v g2 D2 G2
 .exists j9 hT.h4 D0 ∅ ∅ λr g1 x x D1 G1=>?_;let QE:=G1.at () hi;exists if2 (λx=>?_) (λx=>?_)
  .exists Np (k:=k) hT.h4 hT.h5 hT.zW (by rw[aj];omega) D1 λv g2 D2 G2=>?_;show h v g2 D2 (G1.trans G2)
  .left;rw[aj];show j9 hT.h4 D1 () () λr2 g2 r0 r1 D2 G2=>?_;let#[y,hy,hm]:=AH (l:=ns.map D.int) r0 (by rw[aj];show r1);let#[v,_,rfl]:=aN.mp hm;show A5 (a6 (G2.at () QE)) hy ?_;left;show h v g2 D2 (G1.trans G2)
noncomputable abbrev NV:MS:=match P6.body with|.seq _ (.seq _ (.seq _ (.seq _ (.seq (.ifs _ a _) _))))=>a|x=>x
noncomputable abbrev V2:MS:=match P6.body with|.seq _ (.seq _ (.seq _ (.seq _ (.seq _ b))))=>b|x=>x
noncomputable abbrev NW:MS:=match V2 with|.seq _ c=>c|x=>x
noncomputable abbrev Ai:MS:=match V2 with|.seq (.ifs _ i _) _=>i|x=>x
noncomputable abbrev NX:MS:=match Ai with|.seq _ j=>j|x=>x
structure DC(g:G)(d q o p u:Nat)(s:bY)(on gS ups:@&Int):Prop where
 dr:d0 g d
 md:MD g q s
 ho:g[o]?=!.lst (on.map .int)
 hp:g[p]?=!.lst (gS.map .int)
 hu:g[u]?=!.lst (ups.map .int)
 dq:d<q
 lo:d<o
 lp:d<p
 lu:d<u
 n1:-on<=9
 n2:-gS<=99
 n3:-ups<=99
def DC.gr{g':G}{o p u:Nat}{on gS ups:@&Int}(h:DC g d q o p u s on gS ups)(x:Gr d g g')(D:d0 g' d):DC g' d q o p u s on gS ups:=by
 let h1:=h.lo;let h2:=h.lp;let h3:=h.lu;show#[D,h.md.gr x h.dq,x.at () h.ho,x.at () h.hp,x.at () h.hu,h.dq,h1,h2,h3,h.n1,h.n2,h.n3]
def IW(hT:TV T){o:Nat}(C:DC g d q o p u s on gS ups)(hN:N.rt=Q)(h:∀(dd:Dd) g',dd.ok->d0 g' d->Gr d g g'->Q dd.d g') :
  wpS (a8 T (k+4)) NV N [!.ref d,!.ref q,!.int r,!.ref o,!.ref p,!.ref u,none,none,none] g E:=by
 dsimp[NV,P6];exists j5 (a6 C.hu) ?_;exists if2 (λc=>?_) (λc=>?_)
 .left;rw[hN];show h (.cut "upper") _ (by change PyData.strOk _=true;decide +kernel) C.dr (Gr.refl _ _)
 .exists ML (k:=k+2) hT.h4 hT.zY C.dr λx g1 ho D1 G1=>?_;left;rw[hN];show h (.cut x) _ ho D1 G1
def Wo(hT:TV T){o:Nat}(C:DC g d q o p u s on gS ups)(hN:N.rt=Q)(h:∀(dd:Dd) g',dd.ok->d0 g' d->Gr d g g'->Q dd.d g') :
  wpS (a8 T (k+4)) NX N [!.ref d,!.ref q,!.int r,!.ref o,!.ref p,!.ref u,none,none,none] g E:=by
 let n1:=C.n1;let n2:=C.n2;dsimp[NX,Ai,V2,P6];exists j9 hT.h4 C.dr ∅ ∅ λr1 g1 x x D1 G1=>?_;let C1:=C.gr G1 D1;left;obtain⟨w,hw,Hu⟩:∃w:Int,(if decide (r1=0)=true then(1:Int) else 0)=w/\(w=0\/w=1):=by
  show#[_,rfl,?_];split
  .exact .inr rfl
  .exact .inl rfl
 rw[hw];obtain⟨ns,en,hnl⟩:∃ns:@&Int,(List.replicate w.toNat (on.map D.int)).flatten=ns.map .int/\-ns<=9:=by
  rcases Hu with rfl|rfl
  .exact#[[],rfl,by simp]
  .exact#[on,by show(List.replicate 1 _).flatten=_;simp,n1]
 show IC C1.ho () () (by rw[aj];rcases Hu with rfl|rfl<;>(simp;try omega)) ?_;rw[en];let e2:Ex g1 (g1++[O.lst (ns.map .int)]):=Ex.snoc _ _;let D2:=D1.snoc (O.lst (ns.map .int));let C2:=C1.gr (e2.gr d) D2;show IB C2.hp b8 (by simp;omega) ?_;let l2:d<(g1++[O.lst (ns.map .int)]).length:=D2.lt;let x2:=G1.trans (e2.gr d);generalize g1++[O.lst (ns.map .int)]=g2 at *;let D3:=D2.snoc (O.lst (gS.map .int++ns.map .int));let e3:Ex g2 (g2++[O.lst (gS.map .int++ns.map .int)]):=Ex.snoc _ _;let h3:(g2++[O.lst (gS.map .int++ns.map .int)])[(-g2)]?=!(.lst ((gS++ns).map .int)):=by rw[aA];show b8
 generalize g2++[O.lst (gS.map .int++ns.map .int)]=g3 at *;exists L6 (k:=k) hT h3 l2 (by simp;omega) D3 λv g4 D4 G4=>?_;left;rw[hN];show h (.fix v) _ trivial D4 (x2.trans ((e3.gr d).trans G4))
def IY(hT:TV T){o:Nat}(C:DC g d q o p u s on gS ups)(hN:N.rt=Q)(h:∀(dd:Dd) g',dd.ok->d0 g' d->Gr d g g'->Q dd.d g') :
  wpS (a8 T (k+4)) Ai N [!.ref d,!.ref q,!.int r,!.ref o,!.ref p,!.ref u,none,none,none] g E:=by
 let lw:∀g',d0 g' d->Gr d g g'->Q (.tup [.str "cut",.str "lower"]) g':=λg' D G=>h (.cut "lower") g' (by change PyData.strOk _=true;decide +kernel) D G;dsimp[Ai,V2,P6];exists j5 (a6 C.hp) ?_;exists if2 (λc=>?_) (λc=>?_)
 .left;rw[hN];show lw _ C.dr (Gr.refl _ _)
 .exists j9 hT.h4 C.dr ∅ ∅ λr1 g1 x x D1 G1=>?_;exists if2 (λc=>?_) (λc=>?_)
  .left;rw[hN];show lw _ D1 G1
  .try with_reducible show j0 ?_
   show Wo hT (C.gr G1 D1) hN λdd g' ok D G=>h dd g' ok D (G1.trans G)
def Wn(hT:TV T){o:Nat}(C:DC g d q o p u s on gS ups)(hN:N.rt=Q)(h:∀(dd:Dd) g',dd.ok->d0 g' d->Gr d g g'->Q dd.d g') :
  wpS (a8 T (k+4)) NW N [!.ref d,!.ref q,!.int r,!.ref o,!.ref p,!.ref u,none,none,none] g E:=by
 let n1:=C.n1;let n3:=C.n3;dsimp[NW,V2,P6];exists if2 (λc=>?_) (λc=>?_)
 .exists L6 (k:=k) hT C.ho C.lo () C.dr λv g1 D1 G1=>?_;left;rw[hN];show h (.off v) _ trivial D1 G1
 .exists if2 (λc=>?_) (λc=>?_)
  .exists ML (k:=k+2) hT.h4 hT.zY C.dr λx g1 ho D1 G1=>?_;let C1:=C.gr G1 D1;let fin:∀(i:Nat) (ns:@&Int) (Q':KD) (E':KX),g1[i]?=!.lst (ns.map .int)->d<i->-ns<=99->(∀v g2,d0 g2 d->Gr d g g2->Q' (.int v) g2)->a8 T (k+4) 37 [.ref d,.ref i] g1 Q' E':=λi ns Q' E' hi hd hz q=>L6 (k:=k) hT hi hd () D1 λv g2 D2 G2=>q v g2 D2 (G1.trans G2);exists if2 (λc=>?_) (λc=>?_)
   .exists fin _ _ _ _ C1.ho C1.lo () λv g2 D2 G2=>?_;exists j9 hT.h4 D2 ∅ ∅ λr3 g3 z z D3 G3=>?_;left;rw[hN];show h (.mark x v (r3-1)) _ ho D3 (G2.trans G3)
   .exists fin _ _ _ _ C1.hu C1.lu () λv g2 D2 G2=>?_;exists j9 hT.h4 D2 ∅ ∅ λr3 g3 z z D3 G3=>?_;left;rw[hN];show h (.mark x v (r3-1)) _ ho D3 (G2.trans G3)
  .exists if2 (λc=>?_) (λc=>?_)
   .exists L6 (k:=k) hT C.ho C.lo () C.dr λv g1 D1 G1=>?_;let C1:=C.gr G1 D1;exists L6 (k:=k) hT C1.hu C1.lu () D1 λw g2 D2 G2=>?_;left;rw[hN];show h (.eL v w) _ trivial D2 (G1.trans G2)
   .exists i6 C.md.bX rfl zC ?_;exists NL hT.h4 hT.h5 C.dr λf g1 D1 G1=>?_;left;let e2:∀l:@&Int,Ex g1 (g1++[O.lst (l.map .int)]):=λl=>Ex.snoc _ _;obtain⟨l,el,hl⟩:∃l:@&Int,[D.int (s.yr+1),.int (s.yr+7),.int (s.yr+1),.int s.yr,.int (s.yr-3),.int 1350,.int 1412,.int 9999,.int 10000,.int f]=l.map .int/\-l=10:=#[[s.yr+1,s.yr+7,s.yr+1,s.yr,s.yr-3,1350,1412,9999,10000,f],rfl,rfl]
    rw[el];show j9 hT.h4 (D1.snoc _) ∅ ∅ λr3 g3 Pt Pq D3 G3=>?_;let h3:=G3.at (i:=-g1) (by have:=D1.lt;omega) (o:=.lst (l.map .int)) b8;let#[y,hy,hm]:=AH (l:=l.map D.int) Pt (by rw[aj,hl];show Pq);let#[n,_,rfl]:=aN.mp hm;show A5 (a6 h3) hy ?_;left;rw[hN];show h (.year n) _ trivial D3 ((G1.trans (Gr.snoc _ _ _)).trans G3)
def IX(hT:TV T){o:Nat}(C:DC g d q o p u s on gS ups)(hN:N.rt=Q)(h:∀(dd:Dd) g',dd.ok->d0 g' d->Gr d g g'->Q dd.d g') :
  wpS (a8 T (k+4)) V2 N [!.ref d,!.ref q,!.int r,!.ref o,!.ref p,!.ref u,none,none,none] g E:=by
 dsimp[V2,P6];exists if2 (λc=>?_) (λc=>?_)
 .try show pk ?_
  show IY hT C hN h
 .exists j5 (a6 C.ho) ?_;exists if2 (λc=>?_) (λc=>?_)
  .exact IY hT C hN h
  .try with_reducible show j0 ?_
   show Wn hT C hN h
def bB6(hT:TV T)(M0:MD g q s)(W:WS s)(D0:d0 g d)(HQ:d<q)(h:∀(dd:Dd) g',dd.ok->d0 g' d->Gr d g g'->Q dd.d g'):a8 T (k+5) 188 [.ref d,.ref q] g Q E:=by
 let ln:=W.ln;let un:=W.un;let bn:=W.bn;show call_of hT.Dm rfl ?_;delta P6;exists j9 hT.h4 D0 ∅ ∅ λr g1 r0 r1 D1 G1=>?_;let M1:=M0.gr G1 HQ;exists P9 (b9 T _) (qw (b9 T _) ?_);exists i6 M1.bX rfl mG ?_;show#[q+2,_,rfl,a6 M1.dh,s.bl,λi ys σ g'=>∃ns:@&Int,ys=ns.map .int/\-ns<=i/\g'=g1/\∃z0 z1,σ=[z0,z1],by omega,λi ys σ g' p=>?_,#[[],rfl,by simp,rfl,none,none,rfl],λi y ys σ g' hy p=>?_,λys σ g' p=>?_]
 .let#[ns,rfl,h1,rfl,_]:=p;show#[Q8 (a6 M1.dh),by rw[aj];show h1]
 .let#[ns,rfl,h1,rfl,z0,z1,rfl]:=p;show s9 ?_
  try show dN _ _ _ _ _ _
  rcases W.se y (aP hy) with rfl|⟨v,rfl⟩
  .left;show#[ns,rfl,by omega,rfl,_,_,rfl]
  .left;show#[ns++[v],by rw[aA];rfl,by rw[bg];simp;omega,rfl,_,_,rfl]
 let#[on,rfl,uo,rfl,_]:=p;let G2:=G1.trans (Gr.snoc d g' (O.lst (on.map .int)));let D2:=D1.snoc (O.lst (on.map .int));let M2:=M1.ex (Ex.snoc _ (O.lst (on.map .int)));let a2:(g'++[O.lst (on.map .int)])[(-g')]?=!.lst (on.map .int):=b8;let l2:d< -g':=D1.lt;generalize (-g')=o at *;generalize g'++[O.lst (on.map .int)]=g2 at *;clear M1 D1 G1;exists P9 (b9 T _) (DY (b9 T _) ?_);exists i6 M2.bX rfl qv ?_;show j5 (a6 M2.lower) ?_;left;rw[aj];show#[1,(-s.lo:Int)+1,rfl,rfl,by omega,l6 1 (-s.lo),λi ys σ g3=>∃ns:@&Int,ys=ns.map .int/\-ns<=i/\g3=g2/\∃z1 z2,σ=[!.ref o,z1,z2],by rw[E1];omega,λi ys σ g3 p=>?_,#[[],rfl,by simp,rfl,none,none,rfl],λi y ys σ g3 hy p=>?_,λys σ g3 p=>?_]
 .let#[ns,rfl,h1,rfl,_]:=p;rw[show((-s.lo:Int)+1-1).toNat=-s.lo by omega];show#[J0,by rw[aj];show h1]
 .let#[ns,rfl,h1,rfl,z1,z2,rfl]:=p;let#[hi,rfl]:=O4 hy;show s9 ?_
  try show dN _ _ _ _ _ _
  exists T3 (Ax (l:=on) (a6 a2) ?_);left;by_cases hm:(1+(i:Int))∈on
  .rw[aC hm];show C9 ?_;show#[ns,rfl,by omega,rfl,_,_,rfl]
  .rw[aO hm];show pk ?_;left;show#[ns++[1+(i:Int)],by rw[aA];rfl,by rw[bg];simp;omega,rfl,_,_,rfl]
 let#[gS,rfl,Cu,rfl,_]:=p;rw[E1] at Cu;let G3:=G2.trans (Gr.snoc d g3 (O.lst (gS.map .int)));let D3:=D2.snoc (O.lst (gS.map .int));let M3:=M2.ex (Ex.snoc _ (O.lst (gS.map .int)));let a3:(g3++[O.lst (gS.map .int)])[o]?=!.lst (on.map .int):=(Ex.snoc _ _).at a2;let b3:(g3++[O.lst (gS.map .int)])[(-g3)]?=!.lst (gS.map .int):=b8;let l3:d< -g3:=D2.lt;generalize (-g3)=p at *;generalize g3++[O.lst (gS.map .int)]=g4 at *;clear M2 D2 G2 a2;exists i6 M3.bX rfl wF ?_;show j5 (a6 M3.upper) ?_;left;rw[aj];show PU () ?_;rw[show((-s.up:Int)+1-1).toNat=-s.up by omega];let#[ups,eu,zF]:=Vn (a:=1) (n:=-s.up);rw[eu];let G4:=G3.trans (Gr.snoc d g4 (O.lst (ups.map .int)));let D4:=D3.snoc (O.lst (ups.map .int));let M4:=M3.ex (Ex.snoc _ (O.lst (ups.map .int)));let a4:(g4++[O.lst (ups.map .int)])[o]?=!.lst (on.map .int):=(Ex.snoc _ _).at a3;let b4:(g4++[O.lst (ups.map .int)])[p]?=!.lst (gS.map .int):=(Ex.snoc _ _).at b3;let c4:(g4++[O.lst (ups.map .int)])[(-g4)]?=!.lst (ups.map .int):=b8;let l4:d< -g4:=D3.lt;generalize (-g4)=u at *;generalize g4++[O.lst (ups.map .int)]=g5 at *;clear M3 D3 G3 a3 b3;let C:DC g5 d q o p u s on gS ups:=#[D4,M4,a4,b4,c4,HQ,l2,l3,l4,by omega,by omega,by omega]
 let h':∀(dd:Dd) g',dd.ok->d0 g' d->Gr d g5 g'->Q dd.d g':=λdd g' ok D G=>h dd g' ok D (G4.trans G);exists if2 (λc=>?_) (λc=>?_)
 .try show pk ?_
  show IW hT C rfl h'
 .exists if2 (λc=>?_) (λc=>?_)
  .exists if2 (λc=>?_) (λc=>?_)
   .exact IW hT C rfl h'
   .try with_reducible show j0 ?_
    show IX hT C rfl h'
  .try show C9 ?_
   try with_reducible show j0 ?_
   show IX hT C rfl h'
end
def s0(n:Nat):bY:=#[List.replicate n .aR,[],[],[],0,[]]
def DP(h:n<=9):WS (s0 n):=by
 show#[λz hz=>.inl (rf hz),λi j v hi=>?_,λv x=>rfl,by unfold s0;simpa using h,by unfold s0;simp,λv hv=>?_,by unfold s0;simp,by unfold s0;simp,λl hl=>?_,λl hl=>?_,Int.le_refl 0,by unfold s0;simp,λc hc=>?_]
 .have:=rf (aP hi);cases this
 .unfold s0 at hv;simp at hv
 .unfold s0 at hl;simp at hl
 .unfold s0 at hl;simp at hl
 .unfold s0 at hc;simp at hc
section
variable{T:Nat->Option aT}
def qc{g l:@&O}:(g++l)[(-g)+i]?=l[i]?:=by rw[cX ()];congr 1;omega
def a60(CS:T 45=!Aj)(hn:n<=9)(h:∀g',Ex g g'->MD g' (-g) (s0 n)->Q (.ref (-g)) g'):a8 T (k+1) 45 [.int n] g Q E:=by
 show call_of CS rfl ?_;delta Aj;exists XS ?_;exists IC b8 () () (by simp;omega) ?_;left;rw[show(List.replicate (Int.toNat (n:Int)) [D.aR]).flatten=List.replicate n .aR by rw[cj,kH]];simp only[List.append_assoc,List.cons_append,List.nil_append,List.length_append,List.length_cons,List.length_nil,Nat.zero_add,Nat.add_assoc,Nat.reduceAdd];let eg:∀(o:O) (r:@&O),List.set (g++(O.bX []::r)) (-g) o=g++(o::r):=λo r=>by
  rw[List.set_append_right _ _ (ak _),Nat.sub_self]
  rfl
 show#[iY (-g) 0,rfl,by simp,by simp,?_];rw[eg];show h _ #[by simp,λi hi=>ay hi] #[by simp[s0],qc,qc,qc,qc,qc]
def Sg(hT:TM T)(hn:1<=n/\n<=9)(h:Q .aR (g++[c5 (s0 n)])):a8 T (k+4) 51 [.ref (-g),.int n] (g++[.ins "Mint" []]) Q E:=by
 show Mi (k:=k) hT b8 (λn' e1 n1 n9=>?_) (λhv=>absurd #[by omega,by omega] hv);obtain rfl:n=n':=by omega
 let es:(g++[O.ins "Mint" []]).set (-g) (FI n 0 0)=g++[c5 (s0 n)]:=by simp[s0,c5,FJ]
 rw[es];show h
end
def vh:aT:=#[1,3,(eF 1 (bG .ko aB) (oy (.one 2) (.iJ (.prim .lst (BB (bq "seats") (bq "lower") (bq "upper") (bq "gone") (bq "coins")))) (eO (.eP aI bj (bG .list (bZ aB bj)))) (bO aI)))]
def AL:aT:=#[2,2,(bO (.eI (bw (.cmp .Eq) (bw (.cmp .Eq) (bZ aB (ba 0)) (bq "")) (bw (.cmp .Eq) (bZ aI (ba 0)) (bq ""))) (dZ 7 (bZ aB (ba 1)) (bZ aI (ba 1)))))]
def X3:aT:=#[1,2,(eF 1 (.make "Mint" 51 (dP (bG .len (bG (.fld "bench") aB)))) (gM (.dU "bench" ["Mint"] aI (bG (.fld "bench") aB)) (gM (.dU "laid_off" ["Mint"] aI (bG (.fld "laid_off") aB)) (gM (.dU "lower_wear" ["Mint"] aI (bG (.fld "lower_wear") aB)) (gM (.dU "upper_wear" ["Mint"] aI (bG (.fld "upper_wear") aB)) (gM (.dU "present" ["Mint"] aI (bG (.fld "present") aB)) (gM (.dU "output" ["Mint"] aI (bG (.fld "output") aB)) (bO aI))))))))]
section
variable{T:Nat->Option aT}
def IZ:(dX s dd).2.2.bl.length=-s.bl:=by
 cases dd<;>(simp only[dX];first|unfold y4|unfold o7|unfold A3|unfold f7|unfold d9|unfold v7)<;>(repeat' split)<;>first|rfl|(simp;done)|(unfold bY.put;split<;>rfl)
def TK(hT:TQ T)(CO:T 68=!X3)(hm:g[m]?=!c5 s)(hb:1<=-s.bl/\-s.bl<=9)(h:Q (.ref (-g)) (g++[c5 s])):a8 T (k+5) 68 [.ref m] g Q E:=by
 show call_of CO rfl ?_;delta X3;exists i7 hm rfl ?_;exists Sg (k:=k) hT.tm hb ?_;show#[rfl,?_];let e1:Ex g (g++[c5 (s0 (-s.bl))]):=Ex.snoc _ _;let m1:=e1.at hm;let n1:(g++[c5 (s0 (-s.bl))])[(-g)]?=!(c5 (s0 (-s.bl))):=b8;let ne:m≠-g:=aF (d5 hm);let fin:(g++[c5 (s0 (-s.bl))]).set (-g) (c5 s)=g++[c5 s]:=by simp
 generalize g++[c5 (s0 (-s.bl))]=g1 at *;let m2:∀o:O,(g1.set (-g) o)[m]?=!c5 s:=λo=>a7 m1 (aU ne);exists i7 m1 rfl ?_;exists t9 n1 #[_] #[_] ?_;exists i7 (m2 _) rfl ?_;exists t9 (get_set n1) #[_] (by repeat (first|(simp;done)|show E6 ?_)) ?_;rw[bW];exists i7 (m2 _) rfl ?_;exists t9 (get_set n1) #[_] (by repeat (first|(simp;done)|show E6 ?_)) ?_;rw[bW];exists i7 (m2 _) rfl ?_;exists t9 (get_set n1) #[_] (by repeat (first|(simp;done)|show E6 ?_)) ?_;rw[bW];exists i7 (m2 _) rfl ?_;exists t9 (get_set n1) #[_] (by repeat (first|(simp;done)|show E6 ?_)) ?_;rw[bW];exists i7 (m2 _) rfl ?_;exists t9 (get_set n1) #[_] (by repeat (first|(simp;done)|show E6 ?_)) ?_;rw[bW];left;let e2:(O.ins "Mint" [("bench",.tup s.bl),("laid_off",.tup (s.go.map .int)),("lower_wear",.tup (fh s.lo)),("upper_wear",.tup (fh s.up)),("present",.int s.yr),("output",.tup s.co)])=c5 s:=rfl;have:=h;rw[<- fin] at this;show this
def LZ(pJ:T 192=!vh)(M0:MD g q s)(h:∀g',Ex g g'->MD g' (-g) s->Q (.ref (-g)) g'):a8 T (k+1) 192 [.ref q] g Q E:=by
 show call_of pJ rfl ?_;delta vh;exists Sw M0.bX ?_;exists P0 (b9 T _) (qw (b9 T _) ?_);left;let e0:Ex g (g++[O.bX (iY q s.yr)]++[O.lst [.str "seats",.str "lower",.str "upper",.str "gone",.str "coins"]]):=(Ex.snoc _ _).trans (Ex.snoc _ _);let hw:(g++[O.bX (iY q s.yr)]++[O.lst [.str "seats",.str "lower",.str "upper",.str "gone",.str "coins"]])[(-g)+1]?=!.lst [.str "seats",.str "lower",.str "upper",.str "gone",.str "coins"]:=by simp
 let hd:(g++[O.bX (iY q s.yr)]++[O.lst [.str "seats",.str "lower",.str "upper",.str "gone",.str "coins"]])[(-g)]?=!.bX (iY q s.yr):=by simp
 let hl:(g++[O.bX (iY q s.yr)]).length=-g+1:=by simp
 let kP:(g++[O.bX (iY q s.yr)]++[O.lst [.str "seats",.str "lower",.str "upper",.str "gone",.str "coins"]]).length=-g+2:=by simp
 rw[hl];generalize g++[O.bX (iY q s.yr)]++[O.lst [.str "seats",.str "lower",.str "upper",.str "gone",.str "coins"]]=g1 at *;let ql:q+6< -g:=d5 M0.cU;show #[(-g) + 1,_,rfl,a6 hw,[.str "seats",.str "lower",.str "upper",.str "gone",.str "coins"],λi σ g'=>∃ z2,σ=[!.ref q,!.ref (-g),z2]/\-g'=-g + 2 + i/\(∀ j,j < -g->g'[j]?=g[j]?)/\g'[(-g) + 1]?=!.lst [.str "seats",.str "lower",.str "upper",.str "gone",.str "coins"] /\
   g'[(-g)]?=!.bX [(.inr "seats",.ref (if 0<i then (-g)+2 else q+2)),(.inr "lower",.ref (if 1<i then (-g)+3 else q+3)),(.inr "upper",.ref (if 2<i then (-g)+4 else q+4)),(.inr "gone",.ref (if 3<i then (-g)+5 else q+5)),(.inr "year",.int s.yr),(.inr "coins",.ref (if 4<i then (-g)+6 else q+6))] /\
   (0<i->g'[(-g)+2]?=!.lst s.bl)/\(1<i->g'[(-g)+3]?=!.lst (fh s.lo))/\(2<i->g'[(-g)+4]?=!.lst (fh s.up))/\(3<i->g'[(-g)+5]?=!.lst (s.go.map .int))/\(4<i->g'[(-g)+6]?=!.lst s.co),
  λi σ g' p=>Q8 (a6 p.choose_spec.2.2.2.1),#[none,rfl,by omega,λj hj=>e0.old j hj,hw,hd,λz=>absurd z ∅,λz=>absurd z ∅,λz=>absurd z ∅,λz=>absurd z ∅,λz=>absurd z ∅],λi y σ g' hy p=>?_,λσ g' p=>?_]
 .let#[z2,rfl,gl,old,gw,gd,c0,c1,c2,c3,c4]:=p;let hq:g'[q]?=!.bX (iY q s.yr):=by rw[old q ()];show M0.bX
  let step:∀ (w:Str) (r:Nat) (l:@&D),y=.str w->J7 (iY q s.yr) (.inr w)=!.ref r->r < -g->g[r]?=!.lst l->(∀ N:Ends,(∀ g2,g2=(g' ++ [O.lst l]).set (-g) (.bX (putD [(.inr "seats",.ref (if 0 < i then (-g) + 2 else q + 2)),(.inr "lower",.ref (if 1 < i then (-g) + 3 else q + 3)),(.inr "upper",.ref (if 2 < i then (-g) + 4 else q + 4)),(.inr "gone",.ref (if 3 < i then (-g) + 5 else q + 5)),(.inr "year",.int s.yr),(.inr "coins",.ref (if 4 < i then (-g) + 6 else q + 6))] (.inr w) (.ref (-g + 2 + i))))->N.nx [!.ref q,!.ref (-g),!.str w] g2) ->
    wpS (a8 T k) (match vh.body with | .seq _ (.seq (.jK _ _ b) _)=>b | x=>x) N [!.ref q,!.ref (-g),!.str w] g' E):=by
   intro w r l ey mI hr hl N hN;dsimp[vh];exists i6 hq rfl mI ?_;exists uZ (a6 (by rw[old r hr];show hl)) ?_;exists Jt (ay () |>.trans gd) rfl #[_] ?_;rw[gl];left;show hN _ rfl
  let gp:∀(o:O) (l:@&D) (j:Nat),j≠-g->j< -g'->((g'++[O.lst l]).set (-g) o)[j]?=g'[j]?:=λo l j h1 h2=>by
   rw[aE (aU h1),ay h2]
  let gn:∀(o:O) (l:@&D),((g'++[O.lst l]).set (-g) o)[(-g)+2+i]?=!.lst l:=λo l=>by
   rw[aE (),<- gl];show b8
  let gs:∀(o:O) (l:@&D),((g'++[O.lst l]).set (-g) o)[(-g)]?=!o:=λo l=>by
   rw[aX (by simp;omega)]
  let go:∀(o:O) (l:@&D) (j:Nat),j< -g->((g'++[O.lst l]).set (-g) o)[j]?=g[j]?:=λo l j hj=>(gp o l j (aF hj) ()).trans (old j hj);let gq:∀(o:O) (l:@&D),((g'++[O.lst l]).set (-g) o)[(-g)+1]?=_:=λo l=>(gp o l _ () ()).trans gw;let gc:∀(o:O) (l:@&D) (j:Nat),j<i->((g'++[O.lst l]).set (-g) o)[(-g)+2+j]?=g'[(-g)+2+j]?:=λo l j hj=>gp o l _ () ();let gz:∀(o:O) (l:@&D),((g'++[O.lst l]).set (-g) o).length=-g+2+(i+1):=λo l=>by simp;omega
  let qj:∀j,j<=6->q+j< -g:=λj hj=>by omega
  show s9 ?_;let hi:i<5:=(ax.mp hy).1;have:i=0\/i=1\/i=2\/i=3\/i=4:=by clear hy;omega
  clear hi gp;rcases this with rfl|rfl|rfl|rfl|rfl
  .cases hy;show step "seats" (q+2) s.bl rfl mG (qj 2 ∅) M0.dh _ λg2 e=>?_;subst e;show#[_,rfl,gz _ _,go _ _,gq _ _,gs _ _,λv=>gn _ _,λz=>absurd z ∅,λz=>absurd z ∅,λz=>absurd z ∅,λz=>absurd z ∅]
  .cases hy;show step "lower" (q+3) (fh s.lo) rfl qv (qj 3 ∅) M0.lower _ λg2 e=>?_;subst e;show#[_,rfl,gz _ _,go _ _,gq _ _,gs _ _,λv=>(gc _ _ 0 ∅).trans (c0 ∅),λv=>gn _ _,λz=>absurd z ∅,λz=>absurd z ∅,λz=>absurd z ∅]
  .cases hy;show step "upper" (q+4) (fh s.up) rfl wF (qj 4 ∅) M0.upper _ λg2 e=>?_;subst e;show#[_,rfl,gz _ _,go _ _,gq _ _,gs _ _,λv=>(gc _ _ 0 ∅).trans (c0 ∅),λv=>(gc _ _ 1 ∅).trans (c1 ∅),λv=>gn _ _,λz=>absurd z ∅,λz=>absurd z ∅]
  .cases hy;show step "gone" (q+5) (s.go.map .int) rfl wG (qj 5 ∅) M0.gone _ λg2 e=>?_;subst e;show#[_,rfl,gz _ _,go _ _,gq _ _,gs _ _,λv=>(gc _ _ 0 ∅).trans (c0 ∅),λv=>(gc _ _ 1 ∅).trans (c1 ∅),λv=>(gc _ _ 2 ∅).trans (c2 ∅),λv=>gn _ _,λz=>absurd z ∅]
  .cases hy;show step "coins" (q+6) s.co rfl sf (qj 6 ∅) M0.cU _ λg2 e=>?_;subst e;show#[_,rfl,gz _ _,go _ _,gq _ _,gs _ _,λv=>(gc _ _ 0 ∅).trans (c0 ∅),λv=>(gc _ _ 1 ∅).trans (c1 ∅),λv=>(gc _ _ 2 ∅).trans (c2 ∅),λv=>(gc _ _ 3 ∅).trans (c3 ∅),λv=>gn _ _]
 .let#[z2,rfl,gl,old,gw,gd,c0,c1,c2,c3,c4]:=p
  try show wpS _ _ _ _ _ _
  exists h g' #[by omega,old] #[gd,c0 ∅,c1 ∅,c2 ∅,c3 ∅,c4 ∅]
def rT(r:Rs):Str:=if r.1="" then "" else "refused"
set_option tactic.hygienic true in
def MH(h6:T 6=!tB)(h7:T 7=!B9)(pK:T 191=!AL){r:Rs}{j:Nat}(hj:g[j]?=!.lst [.str (rT r),r.2.1])(hs:l0 r.2.1)(h:∀g',Ex g g'->Q (.bl true) g'):a8 T (k+3) 191 [.ref j,.tup [.str r.1,r.2.1]] g Q E:=by
 show call_of pK rfl ?_;delta AL;left;let ew:decide (rT r="")=decide (r.1=""):=by
  unfold rT;split
  .rename_i e;rw[aC rfl,aC e]
  .rename_i e;rw[aO e];decide +kernel
 show fA (by rw[ew];simp) ?_;left;show j6 h6 h7 0 (k:=k) (Lj hs) h
end
def Fn:aT:=#[1,1,(eO (.ifs (.hW (cI .Eq (bG .len aB) (ba 0)) (.hW (.dY (bw .nK (.lit (.tup [(.tup [(.str "cut"),(.tup [(.str "side")])]),(.tup [(.str "fix"),(.tup [(.str "number")])]),(.tup [(.str "off"),(.tup [(.str "number")])]),(.tup [(.str "mark"),(.tup [(.str "side"),(.str "number"),(.str "number")])]),(.tup [(.str "strike"),(.tup [(.str "number"),(.str "number")])]),(.tup [(.str "year"),(.tup [(.str "number")])])])) (bZ aB (ba 0)))) (cI .NotEq (bw (.bin .Sub) (bG .len aB) (ba 1)) (bG .len (bw .kS (.lit (.tup [(.tup [(.str "cut"),(.tup [(.str "side")])]),(.tup [(.str "fix"),(.tup [(.str "number")])]),(.tup [(.str "off"),(.tup [(.str "number")])]),(.tup [(.str "mark"),(.tup [(.str "side"),(.str "number"),(.str "number")])]),(.tup [(.str "strike"),(.tup [(.str "number"),(.str "number")])]),(.tup [(.str "year"),(.tup [(.str "number")])])])) (bZ aB (ba 0))))))) (eO (.raise "BadDeed" (dP (bq "it is no deed")))) .pass))]
def Z2:aT:=#[2,2,(gM (.dU "mints" ["Ledger"] aB (bG .lst (.make "Mint" 51 (dP aI)))) (gM (.dU "done" ["Ledger"] aB (.prim .lst .nil)) (eO (.dU "undone" ["Ledger"] aB (.prim .lst .nil)))))]
def Z3:aT:=#[2,4,(eF 2 (.bp "mint" [("Ledger",249)] aB .nil) (eF 3 (dZ 239 bj aI) (kA (.dk .append (bG (.fld "mints") aB) (dP bj)) (kA (.dk .append (bG (.fld "done") aB) (dP aI)) (bO cR)))))]
def EW:aT:=#[2,3,(kA (jQ 238 aI) (eF 2 (.bp "go_on" [("Ledger",244)] aB (dP (bG .tuple aI))) (gM (.dU "undone" ["Ledger"] aB (.prim .lst .nil)) (bO bj))))]
def E2:aT:=#[1,2,(cY (.cK (.dY (bG (.fld "done") aB))) (eO (.raise "Nothing" (dP (bq "no deed is left to take back")))) (eF 1 (.dk .jF (bG (.fld "done") aB) .nil) (kA (.dk .jF (bG (.fld "mints") aB) .nil) (kA (.dk .append (bG (.fld "undone") aB) (dP aI)) (bO aI)))))]
def C5:aT:=#[1,2,(cY (.cK (.dY (bG (.fld "undone") aB))) (eO (.raise "Nothing" (dP (bq "no deed is left to do again")))) (eF 1 (.dk .jF (bG (.fld "undone") aB) .nil) (kA (.bp "go_on" [("Ledger",244)] aB (dP aI)) (bO aI))))]
def V1:aT:=#[1,1,(bO (bG .list (bG (.fld "done") aB)))]
def Z1:aT:=#[1,1,(bO (.bp "twin" [("Mint",68),("Ledger",251)] (bZ (bG (.fld "mints") aB) (bG (.un .USub) (ba 1))) .nil))]
def P5:aT:=#[1,3,(eF 1 (bG .lst (bw .mj (bq "mint ") (bG .fv (bG .len (.bp "anvils" [("Mint",60)] (.bp "mint" [("Ledger",249)] aB .nil) .nil))))) (oy (.one 2) (.iJ (bG (.fld "done") aB)) (eO (.expr (.dk .append aI (dP (.dk .join (bq " ") (dP (.comp [] 2 (.one 1) (.iJ bj) .no (bG .str aI)))))))) (bO (.dk .join (bq "\n") (dP aI)))))]
def Z0:aT:=#[1,2,(eF 1 (.make "Ledger" 243 (dP (bG .len (.bp "anvils" [("Mint",60)] (.bp "mint" [("Ledger",249)] aB .nil) .nil)))) (gM (.dU "mints" ["Ledger"] aI (bG .list (bG (.fld "mints") aB))) (gM (.dU "done" ["Ledger"] aI (bG .list (bG (.fld "done") aB))) (gM (.dU "undone" ["Ledger"] aI (bG .list (bG (.fld "undone") aB))) (bO aI)))))]
def S9:aT:=#[2,2,(eO (.R9 (bO (bw .lst (bq "") (.bp "do" [("Ledger",245)] aB (dP aI)))) [("MintError",(.prim .lst (.cons (.lit (.str "refused")) (.cons (.lit .aR) .nil))))]))]
noncomputable abbrev Se:aT:=AD
noncomputable abbrev A4(p q u:Nat):O:=.ins "Ledger" [("mints",.ref p),("done",.ref q),("undone",.ref u)]
structure Led(g:G)(r p q u:Nat)(ms:@&(Nat×bY))(ds us:@&Dd):Prop where
 ob:g[r]?=!A4 p q u
 mi:g[p]?=!.lst (ms.map λt=>.ref t.1)
 dn:g[q]?=!.lst (ds.map Dd.d)
 ud:g[u]?=!.lst (us.map Dd.d)
 st:∀t∈ms,g[t.1]?=!c5 t.2/\WS t.2/\1<=t.2.bl.length
 pq:p≠q
 pu:p≠u
 qu:q≠u
def yq(r p q u:Nat)(ms:@&(Nat×bY))(x:Nat):Prop:=x=r\/x=p\/x=q\/x=u\/∃t∈ms,x=t.1
structure TL(T:Nat->Option aT):Prop where
 Dk:T 238=!Fn
 Dj:T 239=!AD
 Di:T 243=!Z2
 Dh:T 244=!Z3
 Dg:T 245=!EW
 Df:T 248=!V1
 De:T 249=!Z1
 CO:T 68=!X3
structure Fr(S:Nat->Prop)(g g':G):Prop where
 len:-g<=-g'
 old:∀i,¬S i->i< -g->g'[i]?=g[i]?
section
variable{T:Nat->Option aT}{d:Nat}{g1:G}{r:Nat}{ms:@&(Nat×bY)}{us:@&Dd}{S:Nat->Prop}
def Fr.at(h:Fr S g g')(hi:¬S i)(e:g[i]?=!o):g'[i]?=!o:=(h.old i hi (d5 e)).trans e
def Fr.ex(h:Ex g g'):Fr S g g':=#[h.len,λi x hl=>h.old i hl]
def Fr.trans(a:Fr S g g1)(b:Fr S g1 g'):Fr S g g':=#[aH a.len b.len,λi h hl=>(b.old i h (av hl a.len)).trans (a.old i h hl)]
def my(hi:S i):Fr S g (g.set i o):=#[by simp,λj hj x=>aE λz=>hj (by rw[<- z];show hi)]
def Fr.Bf(e:Ex g g1)(hi:-g<=i):Ex g (g1.set i o):=#[by simp[e.len],λj hj=>by rw[aE ()];show e.old j hj]
def Led.keep(h:Led g r p q u ms ds us)(k:∀x o,yq r p q u ms x->g[x]?=!o->g'[x]?=!o):Led g' r p q u ms ds us :=
 #[k _ _ (.inl rfl) h.ob,k _ _ (.inr (.inl rfl)) h.mi,k _ _ (.inr (.inr (.inl rfl))) h.dn,k _ _ (.inr (.inr (.inr (.inl rfl)))) h.ud,λt ht=>#[k _ _ (.inr (.inr (.inr (.inr #[t,ht,rfl])))) (h.st t ht).1,(h.st t ht).2],h.pq,h.pu,h.qu]
def Led.ex(h:Led g r p q u ms ds us)(e:Ex g g'):Led g' r p q u ms ds us:=h.keep λx o y e1=>e.at e1
def Led.lt(h:Led g r p q u ms ds us){x:Nat}(hx:yq r p q u ms x):x< -g:=by
 rcases hx with rfl|rfl|rfl|rfl|⟨t,ht,rfl⟩
 .exact d5 h.ob
 .exact d5 h.mi
 .exact d5 h.dn
 .exact d5 h.ud
 .exact d5 (h.st t ht).1
def ED(hL:TL T)(hT:TM T)(h1:∀n:Nat,v=n->1<=n->n<=9->Q .aR (g++[A4 (-g+2) (-g+3) (-g+4),c5 (s0 n),.lst [.ref (-g+1)],.lst [],.lst []]))(h2:¬(1<=v/\v<=9)->∀g',Ex g g'->E #["BadAnvils"] g'):a8 T (k+5) 243 [.ref (-g),.int v] (g++[.ins "Ledger" []]) Q E:=by
 show call_of hL.Di rfl ?_;delta Z2;exists Mi (k:=k) hT b8 (λn e1 n1 n9=>?_) (λhv=>h2 hv _ ((Ex.snoc _ _).trans (Ex.snoc _ _)));show#[rfl,?_];let es:(g++[O.ins "Ledger" []]++[O.ins "Mint" []]).set (g++[O.ins "Ledger" []]).length (FI n 0 0)=g++[O.ins "Ledger" [],c5 (s0 n)]:=by simp[s0,c5,FJ]
 rw[es];left;let e0:∀(o:O) (l:@&O),(g++(o::l))[(-g)]?=!o:=λo l=>by simp
 let sR:∀(o o':O) (l:@&O),(g++(o::l)).set (-g) o'=g++(o'::l):=λo o' l=>by simp
 simp only[List.append_assoc,List.cons_append,List.nil_append,List.length_append,List.length_cons,List.length_nil,Nat.zero_add,Nat.add_assoc,Nat.reduceAdd];show t9 (e0 _ _) #[_] #[_] ?_;rw[sR];left;simp only[List.append_assoc,List.cons_append,List.nil_append,List.length_append,List.length_cons,List.length_nil,Nat.zero_add,Nat.add_assoc,Nat.reduceAdd];show t9 (e0 _ _) #[_] (by simp[u7]) ?_;rw[sR];left;simp only[List.append_assoc,List.cons_append,List.nil_append,List.length_append,List.length_cons,List.length_nil,Nat.zero_add,Nat.add_assoc,Nat.reduceAdd];show t9 (e0 _ _) #[_] (by repeat (first|(simp;done)|show E6 ?_)) ?_;rw[sR];left;show h1 n e1 n1 n9
def Mn(hn:1<=n/\n<=9):Led (g++[A4 (-g+2) (-g+3) (-g+4),c5 (s0 n),.lst [.ref (-g+1)],.lst [],.lst []]) (-g) (-g+2) (-g+3) (-g+4) [(-g+1,s0 n)] [] []:=by
 show#[by simp,qc,qc,qc,λt ht=>?_,by omega,by omega,by omega];cases eX.mp ht;show#[qc,DP hn.2,by unfold s0;simpa using hn.1]
def yK{l:List α}{x:α}:iQ (l++[x]) (-1)=!x:=by
 simp[iQ,lh,seqIndex?];rw[aw ()];show(l++[x])[(-1+((-l:Int)+1)).toNat]?=!x;rw[show(-1+((-l:Int)+1)).toNat=-l by omega];simp
def AJ(hL:TL T)(hT:TQ T)(h0:Led g r p q u (ms++[(m,s)]) ds us)(h:Q (.ref (-g)) (g++[c5 s])):a8 T (k+6) 249 [.ref r] g Q E:=by
 let#[h1,h2,h3]:=h0.st (m,s) #[_];show call_of hL.De rfl ?_;delta Z1;exists i7 h0.ob rfl ?_;exists A5 (a6 h0.mi) (d:=.ref m) (by rw[aA];show yK) ?_;exists c7 h1 rfl rfl ?_;left;show TK (k:=k) hT hL.CO h1 #[h3,h2.bn] h
def a73(hL:TL T)(h0:Led g r p q u ms ds us)(h:Q (.ref (-g)) (g++[.lst (ds.map Dd.d)])):a8 T (k+1) 248 [.ref r] g Q E:=by
 show call_of hL.Df rfl ?_;delta V1;exists i7 h0.ob rfl ?_;exists uZ (a6 h0.dn) ?_;left;show h
def NU(hL:TL T)(hT:TQ T)(h0:Led g r p q u (ms++[(m,s)]) ds us)(hz:-ms<5000/\-ds<5000)(ok:dd.ok)(h1:(dX s dd).1=""->∀g',Fr (λx=>x=p\/x=q) g g'->Led g' r p q u (ms++[(m,s)]++[(-g,(dX s dd).2.2)]) (ds++[dd]) us->Q (dX s dd).2.1 g')(h2:(dX s dd).1≠""->∀g',Ex g g'->E #[(dX s dd).1] g'):a8 T (k+7) 244 [.ref r,dd.d] g Q E:=by
 let#[l1,l2,l3]:=h0.st (m,s) #[_];show call_of hL.Dh rfl ?_;delta Z3;exists c7 h0.ob rfl rfl ?_;exists AJ (k:=k) hL hT h0 ?_;exists aV7 (k:=k) hT hL.Dj b8 l2 ok (λe g2 e2=>?_) (λe=>h2 e _ (Ex.snoc _ _));let x2:Ex g (g2.set (-g) (c5 (dX s dd).2.2)):=Fr.Bf ((Ex.snoc _ _).trans e2) (ak _);let n2:(g2.set (-g) (c5 (dX s dd).2.2))[(-g)]?=!c5 (dX s dd).2.2:=get_set (e2.at b8);generalize g2.set (-g) (c5 (dX s dd).2.2)=g3 at *;let L3:=h0.ex x2;let ne:p≠r:=λz=>by have:=L3.ob;rw[<- z,L3.mi] at this;cases this
 let ne2:q≠r:=λz=>by have:=L3.ob;rw[<- z,L3.dn] at this;cases this
 let pl:=d5 h0.mi;let ql:=d5 h0.dn;exists i7 L3.ob rfl ?_;exists#[C4 L3.mi,?_];exists M9 L3.mi (by simp;omega) ?_;exists i7 (a7 L3.ob ne) rfl ?_;exists#[C4 (a7 L3.dn L3.pq),?_];exists M9 (a7 L3.dn L3.pq) (by simp;omega) ?_;exists h1 e _ ((Fr.ex x2).trans ((my (.inl rfl)).trans (my (.inr rfl)))) #[a7 (a7 L3.ob ne) ne2,a7 (by rw[aA (l₁:=ms++[(m,s)])];show get_set L3.mi) (aU L3.pq),by rw[aA (l₁:=ds)];show get_set (a7 L3.dn L3.pq),a7 (a7 L3.ud L3.pu) L3.qu,λt ht=>?_,L3.pq,L3.pu,L3.qu];let np:∀{x:Nat} {s:bY},g3[x]?=!c5 s->p≠x/\q≠x:=λe=>#[λz=>(by rw[<- z,L3.mi] at e;cases e),λz=>(by rw[<- z,L3.dn] at e;cases e)]
 rcases bS.mp ht with ht|ht
 .have:=L3.st t ht;show#[a7 (a7 this.1 (np this.1).1) (np this.1).2,this.2]
 .cases eX.mp ht;show#[a7 (a7 n2 (np n2).1) (np n2).2,Fv l2,by rw[IZ];show l3]
def Ug(hL:TL T)(h:Q .aR g):a8 T (k+1) 238 [dd.d] g Q E:=by
 show call_of hL.Dk rfl ?_;cases dd <;> dsimp [Fn,b0,List.replicate,Dd.d] <;> left <;> (show dB rfl ?_;exists dB #[] ?_;left;first
  |show uW (v:=.tup [.str "side"]) rfl ?_
  |show uW (v:=.tup [.str "number"]) rfl ?_
  |show uW (v:=.tup [.str "number",.str "number"]) rfl ?_
  | show uW (v:=.tup [.str "side",.str "number",.str "number"]) rfl ?_) <;> (exists dB rfl ?_;left;show h)
def NT(hL:TL T)(hT:TQ T)(h0:Led g r p q u (ms++[(m,s)]) ds us)(hz:-ms<5000/\-ds<5000)(ok:dd.ok)(h1:(dX s dd).1=""->∀g' u',Fr (λx=>x=p\/x=q\/x=r) g g'->-g<u'->Led g' r p q u' (ms++[(m,s)]++[(-g,(dX s dd).2.2)]) (ds++[dd]) []->Q (dX s dd).2.1 g')(h2:(dX s dd).1≠""->∀g',Ex g g'->E #[(dX s dd).1] g'):a8 T (k+8) 245 [.ref r,dd.d] g Q E:=by
 show call_of hL.Dg rfl ?_;delta EW;exists Ug (k:=k+6) hL ?_;exists c7 h0.ob rfl rfl ?_;left;let et:∀{Q:KD},Q dd.d g->cA .tuple [dd.d] g Q:=λh=>by cases dd<;>show FP h
 show et ?_;exists NU (k:=k) hL hT h0 hz ok (λe g2 F2 L2=>?_) h2;let gl:-g< -g2:=d5 (L2.st (-g,(dX s dd).2.2) #[_]).1;left;let x3:Ex g2 (g2++[O.lst []]):=Ex.snoc _ _;let n3:(g2++[O.lst []])[(-g2)]?=!.lst []:=b8;let L3:=L2.ex x3;let c3:∀x,yq r p q u (ms++[(m,s)]++[(-g,(dX s dd).2.2)]) x->x< -g2:=λx hx=>L2.lt hx;generalize g2++[O.lst []]=g3 at *;show t9 L3.ob #[_] #[_] ?_;left;let nr:∀{x:Nat} {o:O},g3[x]?=!o->(∀p q u,o≠A4 p q u)->r≠x:=λe h z=>by rw[<- z,L3.ob] at e;show h _ _ _ (aJ e).symm
 let hp:=c3 p (.inr (.inl rfl));let hq:=c3 q (.inr (.inr (.inl rfl)));show h1 e _ (-g2) (#[by have:=F2.len;have:=x3.len;simp;omega,λi hi hl=>?_]) gl #[get_set L3.ob,a7 L3.mi (nr L3.mi (by intro _ _ _ z;cases z)),a7 L3.dn (nr L3.dn (by intro _ _ _ z;cases z)),a7 n3 (nr n3 (by intro _ _ _ z;cases z)),λt ht=>?_,L3.pq,by omega,by omega]
 .rw[aE (λz=>hi (.inr (.inr z.symm))),x3.old i (by have:=F2.len;omega)];show F2.old i (λz=>hi (by rcases z with z|z;show .inl z;show .inr (.inl z))) hl
 .have:=L3.st t ht;show#[a7 this.1 (nr this.1 (by intro _ _ _ z;cases z)),this.2]
def Yu(hL:TL T)(hT:TQ T)(sL:T 240=!S9)(h0:Led g r p q u (ms++[(m,s)]) ds us)(hz:-ms<5000/\-ds<5000)(ok:dd.ok)(h1:(dX s dd).1=""->∀g' u' j,Fr (λx=>x=p\/x=q\/x=r) g g'->-g<u'->Led g' r p q u' (ms++[(m,s)]++[(-g,(dX s dd).2.2)]) (ds++[dd]) []->g'[j]?=!.lst [.str (rT (dX s dd)),(dX s dd).2.1]->-g<=j->Q (.ref j) g')(h2:(dX s dd).1≠""->∀g' j,Ex g g'->g'[j]?=!.lst [.str (rT (dX s dd)),(dX s dd).2.1]->-g<=j->Q (.ref j) g'):a8 T (k+9) 240 [.ref r,dd.d] g Q E:=by
 show call_of sL rfl ?_;delta S9;exists c7 h0.ob rfl rfl ?_;exists NT (k:=k) hL hT h0 hz ok (λe g2 u2 F2 hu L2=>?_) (λe g2 e2=>?_)
 .left;show h1 e _ u2 _ (F2.trans (Fr.ex (Ex.snoc _ _))) hu (L2.ex (Ex.snoc _ _)) (by unfold rT;rw[aw e];show b8) (aH F2.len (ak _))
 .let#[_,h3]:=(bB5 (s:=s) (dd:=dd)).resolve_left e;show Wz ?_;left;show h2 e _ _ (e2.trans (Ex.snoc _ _)) (by unfold rT;rw[az e,h3];show b8) e2.len
def a69{l:@&D}(h:∀x∈l,(∃i,x=.int i)\/∃y,x=.str y)(hz:-l<=1000):w6 g 1 (.tup l) (.tup l):=by
 show .tup rfl (λi x y hx hy=>?_) hz;rw[hx] at hy;cases hy;rcases h x (aP hx) with⟨_,rfl⟩|⟨_,rfl⟩
 .exact .int _
 .exact .str _
def AA:w6 g 1 dd.d dd.d:=by
 cases dd<;>show a69 #[_] #[_]
end
noncomputable abbrev nT(i:Int):Str:=Str.ofString (toString i)
def uY{i:Int}(h:0<=i/\i<=9999):i.natAbs.log2<14:=by
 by_cases z:i.natAbs=0
 .rw[z];decide
 .exact(Nat.log2_lt z).mpr (show i.natAbs<2 ^ 14 by omega)
def Al{i:Int}(h:0<=i/\i<=9999):(nT i).length<=15:=by rw[ze];show PySem.int_text_length_le (k:=14) ∅ (uY h)
abbrev Dd.l:Dd->@&D
 |.cut x=>[.str "cut",.str x]
 |.fix v=>[.str "fix",.int v]
 |.off v=>[.str "off",.int v]
 |.mark x v j=>[.str "mark",.str x,.int v,.int j]
 |.eL a b=>[.str "strike",.int a,.int b]
 |.year n=>[.str "year",.int n]
def Dd.DF(dd:Dd):dd.d=.tup dd.l:=by cases dd<;>rfl
def Dd.FG(dd:Dd):-dd.l<=4:=by cases dd<;>simp[Dd.l]
abbrev txt:D->Str
 |.str x=>x
 |.int i=>nT i
 |_=>""
def sX(x:D):Prop:=(∃y,x=.str y/\-y<=10)\/∃i,x=.int i/\0<=i/\i<=9999
def Dd.fit(dd:Dd):Prop:=∀x∈dd.l,sX x
def sX.len{x:D}(h:sX x):(txt x).length<=15:=by
 rcases h with⟨y,rfl,h⟩|⟨i,rfl,h⟩
 .exact aH h ∅
 .exact Al h
def NB(h:p6 x):sX (.str x):=by
 rcases h with rfl|rfl
 .exact .inl #[_,rfl,by decide +kernel]
 .exact .inl #[_,rfl,by decide +kernel]
set_option tactic.hygienic true in
def NM(W:WS s)(e:(dX s dd).1=""):dd.fit:=by
 let hl:=W.ln;let hu:=W.un;let hy:=W.y0;intro x hx;cases dd with
 |cut y =>
  simp only[dX] at e;unfold y4 at e;split at e
  .rename_i hs;simp only[Dd.l,List.mem_cons,List.mem_nil_iff,or_false] at hx;rcases hx with rfl|rfl
   .exact .inl #[_,rfl,by decide +kernel]
   .exact NB hs
  .exact absurd e (by dsimp only;decide +kernel)
 |fix v =>
  simp only[dX] at e;unfold o7 at e;split at e
  .rename_i hv;simp only[Dd.l,List.mem_cons,List.mem_nil_iff,or_false] at hx;rcases hx with rfl|rfl
   .exact .inl #[_,rfl,by decide +kernel]
   .exact .inr #[_,rfl,by omega,by omega]
  .exact absurd e (by dsimp only;decide +kernel)
 |off v =>
  simp only[dX] at e;unfold A3 at e;split at e
  .rename_i hv;simp only[Dd.l,List.mem_cons,List.mem_nil_iff,or_false] at hx;rcases hx with rfl|rfl
   .exact .inl #[_,rfl,by decide +kernel]
   .exact .inr #[_,rfl,by omega,by omega]
  .exact absurd e (by dsimp only;decide +kernel)
 |mark y v j =>
  simp only[dX] at e;unfold f7 at e;split at e
  .rename_i hs;let hz:(s.side y).length<=99:=by unfold bY.side;split<;>assumption
   split at e
   .rename_i hv;split at e
    .exact absurd e (by dsimp only;decide +kernel)
    .split at e
     .rename_i hj;simp only[Dd.l,List.mem_cons,List.mem_nil_iff,or_false] at hx;rcases hx with rfl|rfl|rfl|rfl
      .exact .inl #[_,rfl,by decide +kernel]
      .exact NB hs
      .exact .inr #[_,rfl,by omega,by omega]
      .exact .inr #[_,rfl,by omega,by omega]
     .exact absurd e (by dsimp only;decide +kernel)
   .exact absurd e (by dsimp only;decide +kernel)
  .exact absurd e (by dsimp only;decide +kernel)
 |eL a b =>
  simp only[dX] at e;unfold d9 at e;split at e
  .rename_i hv;simp only[Dd.l,List.mem_cons,List.mem_nil_iff,or_false] at hx;rcases hx with rfl|rfl|rfl
   .exact .inl #[_,rfl,by decide +kernel]
   .exact .inr #[_,rfl,by omega,by omega]
   .exact .inr #[_,rfl,by omega,by omega]
  .exact absurd e (by dsimp only;decide +kernel)
 |year n =>
  simp only[dX] at e;unfold v7 at e;split at e
  .rename_i hv;simp only[Dd.l,List.mem_cons,List.mem_nil_iff,or_false] at hx;rcases hx with rfl|rfl
   .exact .inl #[_,rfl,by decide +kernel]
   .exact .inr #[_,rfl,by omega,by omega]
  .exact absurd e (by dsimp only;decide +kernel)
def Lg{sep:Str}{B:Nat}{ys:@&Str}(h:∀y∈ys,(-y)<=B):E3 sep ys<=(B+-sep)*-ys:=by
 have:∀(ys:@&Str) (n:Nat),(∀y∈ys,(-y)<=B)->ys.foldl (λn y=>n+-y+-sep) n<=n+(B+-sep)*-ys:=by
  intro ys
  induction ys with
  |nil=>intro n _;simp
  |cons y r ih =>
   intro n h;rw[fQ];let h1:=ih (n+-y+-sep) λz hz=>h z (by simp[hz]);let h2:=h y #[_];rw[dG,Nat.mul_add,Nat.mul_one];omega
 have:=this ys 0 h;unfold E3;omega
def u6(dd:Dd):Str:=Builtin.Str.glued " " (dd.l.map txt)
def tL(n:Nat)(ds:@&Dd):Str:=Builtin.Str.glued "\n" ((("mint ":Str)++nT n)::ds.map u6)
def Es(h:dd.fit):E3 " " (dd.l.map txt)<=64/\(u6 dd).length<=64:=by
 let h1:E3 " " (dd.l.map txt)<=(15+(" ":Str).length)*(dd.l.map txt).length:=Lg λy hy=>by
  let#[x,hx,rfl]:=aN.mp hy;show(h x hx).len
 let h2:(" ":Str).length=1:=by decide +kernel
 let h3:=dd.FG;rw[h2,aj] at h1;let h4:=ES " " (dd.l.map txt);unfold u6;omega
def text_len(hn:n<=9)(h:∀dd∈ds,dd.fit)(hz:-ds<=1000):E3 "\n" ((("mint ":Str)++nT n)::ds.map u6)<=100000:=by
 let h1:E3 "\n" ((("mint ":Str)++nT n)::ds.map u6)<=(64+("\n":Str).length)*((("mint ":Str)++nT n)::ds.map u6).length:=Lg λy hy=>by
  rcases aG.mp hy with rfl|hy
  .have:=Al (i:=(n:Int)) ();let h5:("mint ":Str).length=5:=by decide +kernel
   rw[mr,h5];omega
  .let#[dd,hd,rfl]:=aN.mp hy;show(Es (h dd hd)).2
 let h2:("\n":Str).length=1:=by decide +kernel
 rw[h2,dG,aj] at h1;omega
section
variable{T:Nat->Option aT}{d:Nat}{g1:G}{r:Nat}{ms:@&(Nat×bY)}{us:@&Dd}
def XB{x:D}(h:sX x)(hq:Q (.str (txt x)) g):cA .str [x] g Q:=by
 rcases h with⟨y,rfl,h⟩|⟨i,rfl,h⟩
 .exact YT hq
 .exact Bp (av (uY h) ∅) hq
def Wx{i:Int}(hi:0<=i/\i<=9999)(h:Q (.str (nT i)) g):cA .fv [.int i] g Q:=#[_,_,#[rfl,.inl #[i,rfl,av (uY hi) ∅,rfl]],h]
def Og{f:ME}(hf:dd.fit){σ:S}{z:ME}(hz:∀{Q:KD},Q dd.d g->aY (a8 T k) z σ g Q E)(he:∀{x:D} {w:Option D} {Q:KD},sX x->Q (.str (txt x)) g->aY (a8 T k) f [w,!x] g Q ku)(h:Q (.str (u6 dd)) (g++[.lst ((dd.l.map txt).map .str)])):aY (a8 T k) (.dk .join (.lit (.str " ")) (.cons (.comp [] 2 (.one 1) (.iJ z) .no f) .nil)) σ g Q E:=by
 exists#[Gp,?_];exists aS9 (b9 T _) (hz ?_);have:=dd.FG;show#[dd.l,dd.DF,by omega,λi ys σ g'=>∃z w,ys=(((dd.l.take i).map txt).map D.str)/\σ=[z,w]/\g'=g,#[none,none,rfl,rfl,rfl],λi ys σ g' p=>?_,λi y ys σ g' hy p=>?_,λys σ g' p=>?_]
 .let#[z,w,rfl,rfl,rfl]:=p;simp;omega
 .let#[z,w,rfl,rfl,rfl]:=p;show s9 ?_
  try show dN _ _ _ _ _ _
  exists he (hf y (aP hy)) ?_;show#[_,_,?_,rfl,rfl];rw[cV,hy];simp
 .let#[z,w,rfl,rfl,rfl]:=p;rw[cS];exists Gj (ys:=dd.l.map txt) (a6 b8) (aH (Es hf).1 ∅) ?_;show h
def EE(hL:TL T)(hT:TQ T)(nG:T 250=!P5)(h0:Led g r p q u (ms++[(m,s)]) ds us)(hf:∀dd∈ds,dd.fit)(hz:-ds<=1000)(h:∀g',Ex g g'->Q (.str (tL (-s.bl) ds)) g'):a8 T (k+7) 250 [.ref r] g Q E:=by
 let#[_,h2,h3]:=h0.st (m,s) #[_];let bn:-s.bl<=9:=h2.bn;show call_of nG rfl ?_;delta P5;exists c7 h0.ob rfl rfl ?_;exists AJ (k:=k) hL hT h0 ?_;exists c7 b8 rfl rfl ?_;exists Fi (k:=k+5) hT b8 ?_;let x1:Ex g (g++[c5 s]++[.lst s.bl]):=(Ex.snoc _ _).trans (Ex.snoc _ _);let b1:(g++[c5 s]++[.lst s.bl])[(g++[c5 s]).length]?=!.lst s.bl:=b8;generalize g++[c5 s]++[.lst s.bl]=g1 at *;exists Wx () ?_;exists YS (x:="mint "++nT (-s.bl)) (by change some ("mint "++(nT (-s.bl)++Str.empty))=!_;rw[Tr]) ?_;left;let x2:Ex g (g1++[.lst [.str ("mint "++nT (-s.bl))]]):=x1.trans (Ex.snoc _ _);let b2:(g1++[.lst [.str ("mint "++nT (-s.bl))]])[(-g1)]?=!.lst [.str ("mint "++nT (-s.bl))]:=b8;let gl:=x1.len;generalize g1++[.lst [.str ("mint "++nT (-s.bl))]]=g2 at *;generalize (-g1)=b at *;show P0 (b9 T _) (qw (b9 T _) ?_);exists i7 (h0.ex x2).ob rfl ?_;show#[q,_,rfl,a6 (h0.ex x2).dn,ds.map Dd.d,λi σ g'=>∃z,σ=[!.ref r,!.ref b,z]/\Ex g g'/\g'[b]?=!(.lst (.str ("mint "++nT (-s.bl))::((ds.take i).map u6).map .str)),λi σ g' p=>Q8 (a6 (h0.ex p.choose_spec.2.1).dn),#[none,rfl,x2,b2],λi y σ g' hy p=>?_,λσ g' p=>?_]
 .let#[z,rfl,x3,b3]:=p;rw[aD,ae] at hy;let#[dd,hd,rfl]:=hy;show s9 ?_
  try show wpS _ _ _ _ _ _
  left
  try show#[C4 b3,?_]
  try show Z8 ?_
  show Og (k:=k+6) (hf dd (aP hd)) (λh=>w_var rfl h) (λhx hq=>?_) ?_
  .left;show XB hx hq
  .exists M9 (A8 b3) (by simp;omega) ?_;exists#[_,rfl,Fr.Bf (x3.trans (Ex.snoc _ _)) gl,?_];rw[get_set (A8 b3),cV,hd];simp
 .let#[z,rfl,x3,b3]:=p;rw[aj,cS] at b3
  try show wpS _ _ _ _ _ _
  exists#[Gp,?_];exists Gj (ys:=("mint "++nT (-s.bl))::ds.map u6) (a6 b3) (text_len bn hf hz) ?_;left;show h _ x3
def UE(mh:T 246=!E2){t:Nat×bY}(h0:Led g r p q u (ms++[t]) (ds++[dd]) us)(hz:-us<=5000)(h:∀g',Fr (λx=>x=p\/x=q\/x=u) g g'->Led g' r p q u ms ds (us++[dd])->Q dd.d g'):a8 T (k+1) 246 [.ref r] g Q E:=by
 let nr:∀{x:Nat} {l:@&D},g[x]?=!.lst l->x≠r:=λe z=>by rw[z,h0.ob] at e;cases e
 let nm:∀{x y:Nat} {l:@&D} {s:bY},g[x]?=!.lst l->g[y]?=!c5 s->x≠y:=λe1 e2 z=>by rw[z,e2] at e1;cases e1
 let dn:=h0.dn;let mi:=h0.mi;rw[aA] at dn mi;show call_of mh rfl ?_;delta E2;exists i7 h0.ob rfl ?_;exists Br (a6 dn) ?_;show dB #[_] ?_;exists i7 h0.ob rfl ?_;exists#[yP dn,?_];exists yG dn ?_;exists i7 (a7 h0.ob (nr dn)) rfl ?_;exists#[yP (a7 mi (aU h0.pq)),?_];exists yG (a7 mi (aU h0.pq)) ?_;exists i7 (a7 (a7 h0.ob (nr dn)) (nr mi)) rfl ?_;left;let ud:=a7 (a7 h0.ud h0.qu (o':=.lst (ds.map Dd.d))) h0.pu (o':=.lst (ms.map λt=>.ref t.1));show#[C4 ud,?_];exists M9 ud (by simp;omega) ?_;exists h _ (((my (.inr (.inl rfl))).trans (my (.inl rfl))).trans (my (.inr (.inr rfl)))) #[a7 (a7 (a7 h0.ob (nr dn)) (nr mi)) (nr h0.ud),a7 (get_set (a7 mi (aU h0.pq))) (aU h0.pu),a7 (a7 (get_set dn) h0.pq) (aU h0.qu),by rw[aA (l₁:=us)];show get_set ud,λt ht=>?_,h0.pq,h0.pu,h0.qu];have:=h0.st t (by simp[ht]);show#[a7 (a7 (a7 this.1 (nm dn this.1)) (nm mi this.1)) (nm h0.ud this.1),this.2]
def a74(mh:T 246=!E2)(h0:Led g r p q u ms [] us)(h:E #["Nothing"] g):a8 T (k+1) 246 [.ref r] g Q E:=by
 show call_of mh rfl ?_;delta E2;exists i7 h0.ob rfl ?_;exists Br (a6 h0.dn) ?_;show fA #[_] ?_;left;show h
def a75(hL:TL T)(hT:TQ T)(mf:T 247=!C5)(h0:Led g r p q u (ms++[(m,s)]) ds (us++[dd]))(hz:-ms<5000/\-ds<5000)(ok:dd.ok)(e:(dX s dd).1="")(h:∀g',Fr (λx=>x=p\/x=q\/x=u) g g'->Led g' r p q u (ms++[(m,s)]++[(-g,(dX s dd).2.2)]) (ds++[dd]) us->Q dd.d g'):a8 T (k+8) 247 [.ref r] g Q E:=by
 let nr:∀{x:Nat} {l:@&D},g[x]?=!.lst l->x≠r:=λe z=>by rw[z,h0.ob] at e;cases e
 let nm:∀{x y:Nat} {l:@&D} {s:bY},g[x]?=!.lst l->g[y]?=!c5 s->x≠y:=λe1 e2 z=>by rw[z,e2] at e1;cases e1
 let ud:=h0.ud;rw[aA] at ud;show call_of mf rfl ?_;delta C5;exists i7 h0.ob rfl ?_;exists Br (a6 ud) ?_;show dB #[_] ?_;exists i7 h0.ob rfl ?_;exists#[yP ud,?_];exists yG ud ?_;let L1:Led (g.set u (.lst (us.map Dd.d))) r p q u (ms++[(m,s)]) ds us:=#[a7 h0.ob (nr ud),a7 h0.mi (aU h0.pu),a7 h0.dn (aU h0.qu),get_set ud,λt ht=>#[a7 (h0.st t ht).1 (nm ud (h0.st t ht).1),(h0.st t ht).2],h0.pq,h0.pu,h0.qu]
 let F1:Fr (λx=>x=p\/x=q\/x=u) g (g.set u (.lst (us.map Dd.d))):=my (.inr (.inr rfl));let l1:(g.set u (.lst (us.map Dd.d))).length=-g:=by simp
 generalize g.set u (.lst (us.map Dd.d))=g1 at *;exists c7 L1.ob rfl rfl ?_;exists NU (k:=k) hL hT L1 hz ok (λw g2 F2 L2=>?_) (λz=>absurd e z);left;rw[l1] at L2;show h _ (F1.trans #[F2.len,λi hi hl=>F2.old i (λz=>hi (by rcases z with z|z;show .inl z;show .inr (.inl z))) hl]) L2
def aW5(mf:T 247=!C5)(h0:Led g r p q u ms ds [])(h:E #["Nothing"] g):a8 T (k+1) 247 [.ref r] g Q E:=by
 show call_of mf rfl ?_;delta C5;exists i7 h0.ob rfl ?_;exists Br (a6 h0.ud) ?_;show fA #[_] ?_;left;show h
end
end M
namespace M
open PySem L2
variable{c a b r k d m n p q u m0 j:Nat}{i cw:Int}{g g' g1 g3 g4 g5:G}{Q:KD}{E:KX}{s s':bY}{dd:Dd}{ms:@&(Nat×bY)}{ds us:@&Dd}{x:Str}{ts:@&D}{H U:@&Ent}{N:Ends}{z9 z10 z13 z12 z11:Option D}
abbrev jn(c:Nat):@&(@&Nat)->@&Nat
 |[]=>[]
 |[a]=>a
 |a::r=>a++c::jn c r
def T8{a b:@&Nat}{r:@&(@&Nat)}:jn c (a::b::r)=a++c::jn c (b::r):=rfl
def LR{c:Nat}:∀{a b:@&Nat} {x y:@&Nat},c∉a->c∉b->a++c::x=b++c::y->a=b/\x=y
 |[],[],x,y,_,_,h=>by simpa using h
 |[],d::b,x,y,_,hb,h=>by
  have:=(rg (show c::x=d::(b++c::y) from h)).1;show absurd (by simp[this]) hb
 |d::a,[],x,y,ha,_,h=>by
  have:=(rg (show d::(a++c::x)=c::y from h)).1;show absurd (by simp[this]) ha
 |d::a,e::b,x,y,ha,hb,h=>by
  let#[h1,h2]:=rg (show d::(a++c::x)=e::(b++c::y) from h);let#[h3,h4]:=LR (λz=>ha (by simp[z])) (λz=>hb (by simp[z])) h2;show#[by rw[h1,h3],h4]
def NR{c:Nat}:∀{l m:@&(@&Nat)},l≠[]->m≠[]->(∀a∈l,c∉a)->(∀a∈m,c∉a)->jn c l=jn c m->l=m
 |[],_,h,_,_,_,_=>absurd rfl h
 |_::_,[],_,h,_,_,_=>absurd rfl h
 |[a],[b],_,_,_,_,h=>by rw[show a=b from h]
 |[a],b::d::r,_,_,h1,_,h=>absurd (by rw[show a=_ from h,T8];simp) (h1 a #[_])
 |b::d::r,[a],_,_,_,h2,h=>absurd (by rw[<- show _=a from h,T8];simp) (h2 a #[_])
 |a::b::r,d::e::s,_,_,h1,h2,h=>by
  rw[T8,T8] at h;let#[h3,h4]:=LR (h1 a #[_]) (h2 d #[_]) h;rw[h3,NR #[_] #[_] (λx hx=>h1 x (by simp[hx])) (λx hx=>h2 x (by simp[hx])) h4]
def Az{c:Nat}:∀ys:@&Str,(PySem.Str.join #[(List.toArray [c])] ys).cps.toList=jn c (ys.map λy=>y.cps.toList)
 |[]=>rfl
 |[y]=>rfl
 |y::z::r=>by
  let ih:=Az (c:=c) (z::r);show(y++(#[(List.toArray [c])]:Str)++PySem.Str.join #[(List.toArray [c])] (z::r)).cps.toList=_;rw[Bx,Bx,jC,jC,ih,bT,bT,bT,T8,gQ]
  rfl
def Y0{ys:@&Str}(fN:ys≠[])(hf:∀y∈ys,c∉y.cps.toList):Txt.split (Builtin.Str.glued #[(List.toArray [c])] ys) #[(List.toArray [c])]=ys:=by
 let h1:=StrLaws.join_split (Builtin.Str.glued #[(List.toArray [c])] ys) #[(List.toArray [c])];let h2:=StrLaws.split_free (Builtin.Str.glued #[(List.toArray [c])] ys) c;let h3:Txt.split (Builtin.Str.glued #[(List.toArray [c])] ys) #[(List.toArray [c])]≠[]:=λz=>by
  have:=PyProof.Rows.split_pos (Builtin.Str.glued #[(List.toArray [c])] ys) #[(List.toArray [c])];rw[z] at this;show absurd this ∅
 generalize Txt.split (Builtin.Str.glued #[(List.toArray [c])] ys) #[(List.toArray [c])]=zs at *;rw[StrLaws.glued_eq_join] at h1;let e:jn c (zs.map λy=>y.cps.toList)=jn c (ys.map λy=>y.cps.toList):=by rw[<- Az,<- Az,h1]
 have:=NR (_/h3) (_/fN) (λa ha=>by let#[y,hy,rfl]:=aN.mp ha;show h2 y hy) (λa ha=>by let#[y,hy,rfl]:=aN.mp ha;show hf y hy) e;show List.map_inj_right (λx y h=>by cases x;cases y;simpa using h) |>.mp this
def KN(m:Nat):(Str.ofString (toString ((m:Nat):Int))).cps.toList=(Nat.toDigits 10 m).map Char.toNat:=PySem.W.KIN.signs_num m
def Mt(h:0<=i):∀c∈(Str.ofString (toString i)).cps.toList,48<=c/\c<=57:=by
 let#[m,rfl]:=tT h;intro c hc;rw[KN] at hc;let#[d,hd,rfl]:=aN.mp hc;have:=Nat.isDigit_of_mem_toDigits (b:=10) ∅ ∅ hd;simp only[Char.isDigit,Bool.and_eq_true,decide_eq_true_eq] at this;show#[this.1,this.2]
def Sl(h:0<=i/\i<=9999):1<=(Str.ofString (toString i)).length/\(Str.ofString (toString i)).length<=4:=by
 let#[m,rfl]:=tT h.1;let e:(Str.ofString (toString ((m:Nat):Int))).length=(Nat.toDigits 10 m).length:=by
  show(Str.ofString (toString ((m:Nat):Int))).cps.size=_;rw[<- bD,KN,aj]
 rw[e];show#[Nat.length_toDigits_pos,(Nat.length_toDigits_le_iff ∅ ∅).mpr ()]
def Ye(h:48<=c/\c<=57):(Builtin.Str.occurrences "0123456789" #[(List.toArray [c])] 0 ("0123456789":Str).length 1).isEmpty=false:=by
 obtain rfl|rfl|rfl|rfl|rfl|rfl|rfl|rfl|rfl|rfl:c=48\/c=49\/c=50\/c=51\/c=52\/c=53\/c=54\/c=55\/c=56\/c=57:=by omega
 all_goals decide +kernel
def US(h:0<=i/\i<=9999):PySem.intText? (Str.ofString (toString i))=!i:=PySem.W.KIN.num_reads h.1 ()
open Lean Parser.Tactic in
local macro_rules|`(tactic|walk_at"w1")=>do
 let q<-`(?_)
 let N:=fun k (l:List Syntax)=>Syntax.node .none k l.toArray
 let a:Array (TSyntax ``tacticSeq):=([`Gz,`FV,`FW,`JE,`Ow,`vN,`MQ,`OA,`FT,`j0,`rB,`w_lit,`tE,`yV,`Kl,`Oz,`MN,`w_and,`w_or,`w_not,`w_ite,`Gy,`Ox,`MO,`FU,`Z8,`OB,`JF,`OC,`FX,`FY,`Ir,`Iu,`JC,`JT,`JS,`JR,`JQ,`IE,`Fz,`ID,`IS,`IF,`II,`IL,`IJ,`IP,`IQ,`IM,`qS,`IG,`IH,`yn,`yo,`Bb,`tD,`LW,`NQ,`pk,`C9,`JY,`JZ,`Jh,`rH,`Ol,`Oj,`wc,`Ji,`FP].map fun n=>⟨N ``tacticSeq [N ``tacticSeq1Indented [mkNullNode [N ``refine [mkAtom "refine",Syntax.mkApp (mkIdent n) [q].toArray]].toArray]]⟩).toArray
 `(tactic|with_reducible first|(refine w_var (d:=?_) ?_ ?_;rotate_left;·with_unfolding_all rfl)$[|$a]*)
local macro_rules|`(tactic|walk_at"w2")=>`(tactic|repeat(with_reducible first|walk_at "w1"|refine vb (by simp) ?_|refine va (by simp) ?_|refine A5 (a6 (by assumption)) (by with_unfolding_all rfl) ?_|refine j5 (a6 (by assumption)) ?_|refine tH (by unfold S3;decide) ?_))
local macro_rules|`(tactic|walk_at"w3")=>`(tactic|repeat(with_reducible first|walk_at "w1"|refine vb (by simp) ?_|refine va (by simp) ?_|refine A5 (a6 (by assumption)) (by with_unfolding_all rfl) ?_|refine j5 (a6 (by assumption)) ?_|refine tH (by unfold S3;decide) ?_|refine And.intro (show List.length _ <= 1000 from by simp) ?_|refine O3 (by with_unfolding_all rfl) ?_|refine s9 ?_|refine Z6 (by with_unfolding_all rfl) ?_))
open Lean Parser.Tactic in
local macro_rules|`(tactic|walk_at"")=>do
 let q<-`(?_)
 let N:=fun k (l:List Syntax)=>Syntax.node .none k l.toArray
 let a:Array (TSyntax ``tacticSeq):=([`MP,`JG,`Oy,`IT,`vR,`vQ,`max2,`min2,`Jf,`mm,`Dx,`Jd,`s9,`Qj].map fun n=>⟨N ``tacticSeq [N ``tacticSeq1Indented [mkNullNode [N ``refine [mkAtom "refine",Syntax.mkApp (mkIdent n) [q].toArray]].toArray]]⟩).toArray
 `(tactic|repeat(with_reducible first|walk_at "w1"|refine vb (by simp) ?_|refine va (by simp) ?_|refine A5 (a6 (by assumption)) (by with_unfolding_all rfl) ?_|refine j5 (a6 (by assumption)) ?_|refine tH (by unfold S3;decide) ?_|refine And.intro (show List.length _ <= 1000 from by simp) ?_|refine O3 (by with_unfolding_all rfl) ?_|refine Z6 (by with_unfolding_all rfl) ?_|refine And.intro (C4 (by assumption)) ?_|refine And.intro (rW (by assumption)) ?_|refine And.intro (BQ (by assumption)) ?_|refine T6 (by decide) ?_|refine Ga (by decide) (by decide) ?_$[|$a]*))
set_option hygiene true
def N1:aT:=#[1,2,(cY (.hW (.cK (.dY (.chain .Lt .LtE (ba 0) (bG .len aB) (ba 4)))) (.cK (.dY (bG .all (.comp [] 2 (.one 1) (.iJ aB) .no (bw (.cmp .In) aI (bq "0123456789"))))))) (bO (.lit .aR)) (eF 1 (bG .int aB) (cY (cI .NotEq (bG .str aI) aB) (bO (.lit .aR)) (bO aI))))]
def S8:aT:=#[2,2,(cY (cI .Eq aB (bq "side")) (bO aI) (bO (jQ 166 aI)))]
def Fd:aT:=#[1,4,(gM (.lN 1 2 (.dk .split aB (dP (bq " ")))) (cY (.hW (.dY (bw .nK (.lit (.tup [(.tup [(.str "cut"),(.tup [(.str "side")])]),(.tup [(.str "fix"),(.tup [(.str "number")])]),(.tup [(.str "off"),(.tup [(.str "number")])]),(.tup [(.str "mark"),(.tup [(.str "side"),(.str "number"),(.str "number")])]),(.tup [(.str "strike"),(.tup [(.str "number"),(.str "number")])]),(.tup [(.str "year"),(.tup [(.str "number")])])])) aI)) (cI .NotEq (bG .len bj) (bG .len (bw .kS (.lit (.tup [(.tup [(.str "cut"),(.tup [(.str "side")])]),(.tup [(.str "fix"),(.tup [(.str "number")])]),(.tup [(.str "off"),(.tup [(.str "number")])]),(.tup [(.str "mark"),(.tup [(.str "side"),(.str "number"),(.str "number")])]),(.tup [(.str "strike"),(.tup [(.str "number"),(.str "number")])]),(.tup [(.str "year"),(.tup [(.str "number")])])])) aI)))) (bO (.lit .aR)) (eF 3 (.comp [] 3 (.many [1,2]) (.oh (bw .kS (.lit (.tup [(.tup [(.str "cut"),(.tup [(.str "side")])]),(.tup [(.str "fix"),(.tup [(.str "number")])]),(.tup [(.str "off"),(.tup [(.str "number")])]),(.tup [(.str "mark"),(.tup [(.str "side"),(.str "number"),(.str "number")])]),(.tup [(.str "strike"),(.tup [(.str "number"),(.str "number")])]),(.tup [(.str "year"),(.tup [(.str "number")])])])) aI) bj) .no (dZ 252 aI bj)) (cY (cI .In (.lit .aR) cR) (bO (.lit .aR)) (bO (bG .tuple (bw (.bin .Add) (bG .lst aI) cR)))))))]
def S1:aT:=#[1,2,(eF 1 (.dk .split aB (dP (bq " "))) (cY (.hW (cI .NotEq (bG .len aI) (ba 2)) (cI .NotEq (bZ aI (ba 0)) (bq "mint"))) (eO (.expr .no)) (eO (.R9 (bO (.make "Ledger" 243 (dP (jQ 166 (bZ aI (ba 1)))))) [("BadAnvils",.no)]))))]
def Y3:aT:=#[1,5,(eF 1 (.dk .split aB (dP (bq "\n"))) (eF 2 (jQ 254 (bZ aI (ba 0))) (oy (.one 3) (.iH (ba 1) (bG .len aI)) (eF 4 (jQ 253 (bZ aI cR)) (cY (cI .Is fI (.lit .aR)) (eO (.expr .no)) (eO (.R9 (eO (.expr (.bp "do" [("Ledger",245)] bj (dP fI)))) [("MintError",.no)])))) (bO bj))))]
structure TX(T:Nat->Option aT):Prop where
 pL:T 166=!N1
 xE:T 252=!S8
 CZ:T 253=!Fd
 CY:T 254=!S1
 CW:T 255=!Y3
section
variable{T:Nat->Option aT}
def WR(hz:-x<=100000)(h:Q (.int (-x)) g):cA .len [.str x] g Q:=#[_,_,#[rfl,.inr (.inr #[x,rfl,hz,rfl])],h]
def asc(h:∀c∈x.cps.toList,48<=c/\c<=57):x.cps.all (·<128)=true:=by
 rw[<- Array.all_toList,cT];intro c hc;have:=h c hc;show aC ()
def LO:∀n:Nat,J6 (List.replicate n (.bl true))=!true
 |0=>rfl
 |n+1=>by
  rw[dD];show(J6 (List.replicate n (.bl true))).map _=_;rw[LO n]
  rfl
def Nw(pL:T 166=!N1)(hi:0<=i/\i<=9999)(h:∀g',Ex g g'->Q (.int i) g'):a8 T (k+1) 166 [.str (nT i)] g Q E:=by
 let hl:=Sl hi;let hd:=Mt hi.1;show call_of pL rfl ?_;delta N1;exists WR (by show(Str.ofString (toString i)).length<=100000;omega) ?_;left;rw[aC (show(0:Int)<((nT i).length:Int) by show(0:Int)<((Str.ofString (toString i)).length:Int);omega)];left;rw[aC (show((nT i).length:Int)<=4 by show((Str.ofString (toString i)).length:Int)<=4;omega)];exists P9 (b9 T _) (Qi (b9 T _) ?_);exists#[_,rfl,asc hd,sgn (nT i),λj ys σ g'=>(∃z,σ=[none,z])/\g'=g/\ys=List.replicate j (.bl true),?_,λj ys σ g' p=>#[J0,?_],#[#[none,rfl],rfl,rfl],λj x ys σ g' hx p=>?_,λys σ g' p=>?_]
 .have:(sgn (nT i)).length=(Str.ofString (toString i)).length:=by
   unfold sgn;rw[aj,bD]
   rfl
  omega
 .let#[_,_,rfl]:=p;simp
 .let#[#[z,rfl],rfl,rfl]:=p;unfold sgn at hx;rw[aD,ae] at hx;let#[c,hc,rfl]:=hx;show s9 ?_
  try show dN _ _ _ _ _ _
  exists Wk ?_;change _/\_/\_++[D.bl (~~~(Builtin.Str.occurrences "0123456789" #[(List.toArray [c])] 0 ("0123456789":Str).length 1).isEmpty)]=_;rw[Ye (hd c (aP hc))];show#[#[_,rfl],rfl,jg.symm]
 .let#[#[z,rfl],rfl,rfl]:=p;let e1:Ex g' (g'++[.lst (List.replicate (sgn (nT i)).length (.bl true))]):=Ex.snoc _ _;let b1:(g'++[.lst (List.replicate (sgn (nT i)).length (.bl true))])[(-g')]?=!(.lst (List.replicate (sgn (nT i)).length (.bl true))):=b8;generalize g'++[.lst (List.replicate (sgn (nT i)).length (.bl true))]=g1 at *;show Fx (a6 b1) (LO _) ?_;exists WD (by show(Str.ofString (toString i)).length<=640;omega) (US hi) ?_;exists Bp (av (uY hi) ∅) ?_;left;rw[aC rfl];left;show h _ e1
noncomputable abbrev N4(v:Int):Prop:=0<=v/\v<=9999
abbrev Dd.good:Dd->Prop
 |.cut x=>p6 x
 |.fix v=>N4 v
 |.off v=>N4 v
 |.mark x v j=>p6 x/\N4 v/\N4 j
 |.eL a b=>N4 a/\N4 b
 |.year n=>N4 n
def GF(f:D)(w:Str)(t:D):Prop:=(f=.str "side"/\p6 w/\t=.str w)\/(f=.str "number"/\∃i,N4 i/\w=nT i/\t=.int i)
def VL(hX:TX T){f t:D}{w:Str}(h0:GF f w t)(h:∀g',Ex g g'->Q t g'):a8 T (k+2) 252 [f,.str w] g Q E:=by
 rcases h0 with⟨rfl,_,rfl⟩|⟨rfl,i,hi,rfl,rfl⟩
 .refine call_of hX.xE rfl ?_;delta S8;exists fA #[] ?_;left;show h _ (Ex.refl _)
 .refine call_of hX.xE rfl ?_;delta S8;exists dB #[] ?_;exists Nw hX.pL hi λg' e=>?_;left;show h _ e
inductive mJ:@&D->@&Str->@&D->Prop
 |nil:mJ [] [] []
 |cons {f:D} {w:Str} {t:D} {fs:@&D} {ws:@&Str} {ts:@&D} (h:GF f w t) (r:mJ fs ws ts):mJ (f::fs) (w::ws) (t::ts)
def mJ.len{fs:@&D}{ws:@&Str}(R:mJ fs ws ts):-fs=-ws/\-ts=-fs:=by
 induction R with
 |nil=>show#[rfl,rfl]
 |cons _ _ ih=>show#[by simp[ih.1],by simp[ih.2]]
def mJ.get{fs:@&D}{ws:@&Str}(R:mJ fs ws ts):∀{i:Nat} {x:D},(R6 fs (ws.map .str))[i]?=!x->∃f w t,x=.tup [f,.str w]/\GF f w t/\ts[i]?=!t:=by
 induction R with
 |nil=>intro i x h;simp[R6] at h
 |@cons f w t fs ws ts h r ih =>
  intro i x hx;cases i with
  |zero =>
   have:x=.tup [f,.str w]:=by simpa[R6,eq_comm] using hx
   show#[f,w,t,this,h,rfl]
  |succ i =>
   have:(R6 fs (ws.map .str))[i]?=!x:=by simpa[R6] using hx
   let#[f',w',t',e,h',e']:=ih this;show#[f',w',t',e,h',by simpa using e']
def mJ.ok{fs:@&D}{ws:@&Str}(R:mJ fs ws ts):∀t∈ts,(∃i,t=.int i)\/∃y,t=.str y/\PyData.strOk y=true:=by
 induction R with
 |nil=>intro t h;cases h
 |cons h r ih =>
  intro t ht;rcases aG.mp ht with rfl|ht
  .rcases h with⟨_,hs,rfl⟩|⟨_,i,_,_,rfl⟩
   .refine .inr #[_,rfl,?_];rcases hs with rfl|rfl<;>decide +kernel
   .exact .inl #[i,rfl]
  .exact ih t ht
def Oa{g:G}:∀{l:@&D},(∀t∈l,(∃i,t=.int i)\/∃y,t=.str y/\PyData.strOk y=true)->∃ps,qr g l=!ps/\PyData.canLayAll0 ps=true/\(ps.any λq=>PyData.eqv q .none)=false
 |[],_=>#[[],rfl,rfl,rfl]
 |t::l,h=>by
  let#[ps,e,c,a]:=Oa (l:=l) λx hx=>h x (by simp[hx]);let go:∀p,rd g 6 t=!p->p.canLay0=true->PyData.eqv p .none=false->∃ps,qr g (t::l)=!ps/\PyData.canLayAll0 ps=true/\(ps.any λq=>PyData.eqv q .none)=false:=λp e1 c1 a1=>by
   show#[p::ps,?_,?_,?_]
   .show(t::l).mapM (rd g 6)=_;rw[oO,e1,show l.mapM (rd g 6)=some ps from e]
    rfl
   .show(p.canLay0&&PyData.canLayAll0 ps)=true;rw[c1,c]
    rfl
   .rw[eR,a1,a]
    rfl
  rcases h t #[_] with⟨i,rfl⟩|⟨y,rfl,hy⟩
  .exact go (.int i) rfl rfl rfl
  .exact go (.str y) rfl hy rfl
def YC{l:@&D}{kb:Bool->Prop}(ha:g[a]?=!.lst l)(hl:∀t∈l,(∃i,t=.int i)\/∃y,t=.str y/\PyData.strOk y=true)(h:kb false):si g .aR (.ref a) kb:=by
 let#[ps,e,c,b]:=Oa (g:=g) hl;show#[_,.inr #[l,ps,.none,a6 ha,e,rfl,c,rfl,b.symm],h]
abbrev Dd.wd:Dd->Str
 |.cut _=>"cut"
 |.fix _=>"fix"
 |.off _=>"off"
 |.mark _ _ _=>"mark"
 |.eL _ _=>"strike"
 |.year _=>"year"
abbrev Dd.fs:Dd->@&D
 |.cut _=>[.str "side"]
 |.fix _=>[.str "number"]
 |.off _=>[.str "number"]
 |.mark _ _ _=>[.str "side",.str "number",.str "number"]
 |.eL _ _=>[.str "number",.str "number"]
 |.year _=>[.str "number"]
def Dd.b47:dd.l=.str dd.wd::dd.l.tail:=by cases dd<;>rfl
def Dd.Ea:dd.l.map txt=dd.wd::dd.l.tail.map txt:=by cases dd<;>rfl
def Dd.qr(h:dd.good):mJ dd.fs (dd.l.tail.map txt) dd.l.tail:=by
 cases dd with
 |cut x=>show .cons (.inl #[rfl,h,rfl]) .nil
 |fix v=>show .cons (.inr #[rfl,v,h,rfl,rfl]) .nil
 |off v=>show .cons (.inr #[rfl,v,h,rfl,rfl]) .nil
 |mark x v j=>show .cons (.inl #[rfl,h.1,rfl]) (.cons (.inr #[rfl,v,h.2.1,rfl,rfl]) (.cons (.inr #[rfl,j,h.2.2,rfl,rfl]) .nil))
 |eL a b=>show .cons (.inr #[rfl,a,h.1,rfl,rfl]) (.cons (.inr #[rfl,b,h.2,rfl,rfl]) .nil)
 |year n=>show .cons (.inr #[rfl,n,h,rfl,rfl]) .nil
def Aw(h:N4 i)(hc:c<48):c∉(nT i).cps.toList:=λz=>by
 have:=Mt h.1 c z;omega
def Yi:32∉dd.wd.cps.toList/\10∉dd.wd.cps.toList:=by
 cases dd
 .exact(by decide +kernel:32∉("cut":Str).cps.toList/\10∉("cut":Str).cps.toList)
 .exact(by decide +kernel:32∉("fix":Str).cps.toList/\10∉("fix":Str).cps.toList)
 .exact(by decide +kernel:32∉("off":Str).cps.toList/\10∉("off":Str).cps.toList)
 .exact(by decide +kernel:32∉("mark":Str).cps.toList/\10∉("mark":Str).cps.toList)
 .exact(by decide +kernel:32∉("strike":Str).cps.toList/\10∉("strike":Str).cps.toList)
 .exact(by decide +kernel:32∉("year":Str).cps.toList/\10∉("year":Str).cps.toList)
def Uv(h:p6 x):32∉x.cps.toList/\10∉x.cps.toList:=by rcases h with rfl|rfl<;>decide +kernel
def mJ.free{fs:@&D}{ws:@&Str}(R:mJ fs ws ts):∀w∈ws,32∉w.cps.toList/\10∉w.cps.toList:=by
 induction R with
 |nil=>intro t h;cases h
 |cons h r ih =>
  intro t ht;rcases aG.mp ht with rfl|ht
  .rcases h with⟨_,hs,_⟩|⟨_,i,hi,rfl,_⟩
   .exact Uv hs
   .exact#[Aw hi ∅,Aw hi ∅]
  .exact ih t ht
def Dd.free(h:dd.good):∀w∈dd.l.map txt,32∉w.cps.toList/\10∉w.cps.toList:=by
 intro w hw;rw[Dd.Ea] at hw;rcases aG.mp hw with rfl|hw
 .exact Yi
 .exact(Dd.qr h).free w hw
def Ec:(" ":Str)=#[(List.toArray [32])]:=by decide +kernel
def b16:("\n":Str)=#[(List.toArray [10])]:=by decide +kernel
def a29(h:dd.good):Txt.split (u6 dd) " "=dd.wd::dd.l.tail.map txt:=by
 unfold u6;rw[Ec,Y0 (by rw[Dd.Ea];simp) λy hy=>(Dd.free h y hy).1,Dd.Ea]
noncomputable abbrev Yh:@&D:=[(.tup [(.str "cut"),(.tup [(.str "side")])]),(.tup [(.str "fix"),(.tup [(.str "number")])]),(.tup [(.str "off"),(.tup [(.str "number")])]),(.tup [(.str "mark"),(.tup [(.str "side"),(.str "number"),(.str "number")])]),(.tup [(.str "strike"),(.tup [(.str "number"),(.str "number")])]),(.tup [(.str "year"),(.tup [(.str "number")])])]
def Ep:X4 Yh dd.wd=!.tup dd.fs:=by cases dd<;>rfl
def a97(hX:TX T)(hf:dd.fit)(hg:dd.good)(h:∀g',Ex g g'->Q dd.d g'):a8 T (k+3) 253 [.str (u6 dd)] g Q E:=by
 let R:=Dd.qr hg;let hl:=R.len;let h4:=dd.FG;let ht:-dd.l.tail<=3:=by rw[List.length_tail];omega
 show call_of hX.CZ rfl ?_;delta Fd;exists bD1 ?_;exists#[Gn,?_];exists m_split #[] (aH (Es hf).2 ∅) (a29 hg) (by simp;omega) ?_;let e1:Ex g (g++[.lst ((dd.wd::dd.l.tail.map txt).map .str)]):=Ex.snoc _ _;let b1:(g++[.lst ((dd.wd::dd.l.tail.map txt).map .str)])[(-g)]?=!(.lst ((dd.wd::dd.l.tail.map txt).map .str)):=b8;generalize g++[.lst ((dd.wd::dd.l.tail.map txt).map .str)]=g1 at *;show#[_,_,_,rfl,a6 b1,?_];let e2:Ex g (g1++[.lst ((dd.l.tail.map txt).map .str)]):=e1.trans (Ex.snoc _ _);let b2:(g1++[.lst ((dd.l.tail.map txt).map .str)])[(-g1)]?=!(.lst ((dd.l.tail.map txt).map .str)):=b8;generalize (-g1)=j at *;generalize g1++[.lst ((dd.l.tail.map txt).map .str)]=g2 at *;exists dB (by rw[Ep];rfl) ?_;exists uW Ep ?_;exists dB (by rw[gm,decide_eq_true_eq,aj,hl.1]) ?_;exists P9 (b9 T _) (Qh ?_);exists uW Ep ?_;exists#[_,_,_,rfl,rfl,a6 b2,R6 dd.fs ((dd.l.tail.map txt).map .str),λi ys σ g'=>(∃z1 z2,σ=[none,z1,z2])/\Ex g2 g'/\ys=dd.l.tail.take i,?_,λi ys σ g' p=>#[Ym (a6 (p.2.1.at b2)) (by rw[aj,hl.1]),?_],#[#[none,none,rfl],Ex.refl _,rfl],λi x ys σ g' hx p=>?_,λys σ g' p=>?_]
 .have:(R6 dd.fs ((dd.l.tail.map txt).map .str)).length<=-dd.fs:=by unfold R6;rw[aj,mS];omega
  omega
 .let#[_,_,rfl]:=p;rw[cF];omega
 .let#[#[z1,z2,rfl],e3,rfl]:=p;let#[f,w,t,rfl,hr,mH]:=R.get hx;show O3 rfl ?_
  try show dN _ _ _ _ _ _
  exists VL hX hr λg3 e4=>?_;show#[#[_,_,rfl],e3.trans e4,?_];rw[cV,mH]
  rfl
 .let#[#[z1,z2,rfl],e3,rfl]:=p;let e5:dd.l.tail.take (R6 dd.fs ((dd.l.tail.map txt).map .str)).length=dd.l.tail:=by
   show iC ?_;unfold R6;rw[aj,mS,aj,aj];rw[aj] at hl;omega
  rw[e5];let e4:Ex g (g'++[.lst dd.l.tail]):=(e2.trans e3).trans (Ex.snoc _ _);let b4:(g'++[.lst dd.l.tail])[(-g')]?=!.lst dd.l.tail:=b8;generalize (-g')=v at *;generalize g'++[.lst dd.l.tail]=g3 at *;exists S2 (YC b4 R.ok ?_);left;let e6:Ex g (g3++[.lst [.str dd.wd]]):=e4.trans (Ex.snoc _ _);let b6:(g3++[.lst [.str dd.wd]])[(-g3)]?=!.lst [.str dd.wd]:=b8;let b5:(g3++[.lst [.str dd.wd]])[v]?=!.lst dd.l.tail:=A8 b4;show IB b6 b5 (by rw[dG,List.length_nil];omega) ?_;show FO (a6 b8) ?_;let e7:([.str dd.wd]++dd.l.tail:@&D)=dd.l:=Dd.b47.symm;rw[e7,<- Dd.DF];show h _ (e6.trans (Ex.snoc _ _))
end
structure Ent where
 dd:Dd
 mi:Nat
 mo:Nat
 st:bY
def j2(t:Ent):D:=.tup [t.dd.d,.ref t.mo]
abbrev Ent.key(t:Ent):Dd×bY:=(t.dd,t.st)
abbrev w5:bY->@&(Dd×bY)->bY
 |s,[]=>s
 |_,t::r=>w5 t.2 r
abbrev ie:bY->@&(Dd×bY)->Prop
 |_,[]=>True
 |s,t::r=>((dX s t.1).1=""/\(dX s t.1).2.2=t.2/\t.1.ok)/\ie t.2 r
def T2:∀{s:bY} {l:@&(Dd×bY)} {t:Dd×bY},w5 s (l++[t])=t.2
 |_,[],_=>rfl
 |_,x::r,t=>T2 (s:=x.2) (l:=r) (t:=t)
def ie.app:∀{s:bY} {l m:@&(Dd×bY)},ie s (l++m)↔ie s l/\ie (w5 s l) m
 |_,[],_=>#[λh=>#[trivial,h],λh=>h.2]
 |_,t::r,m=>#[λh=>#[#[h.1,(ie.app.mp h.2).1],(ie.app.mp h.2).2],λh=>#[h.1.1,ie.app.mpr #[h.1.2,h.2]]]
def ie.fit:∀{s:bY} {l:@&(Dd×bY)},WS s->ie s l->∀t∈l,t.1.fit
 |_,[],_,_=>λt h=>by simp at h
 |s,x::r,W,h=>λt ht=>by
  rcases aG.mp ht with rfl|ht
  .exact NM W h.1.1
  .exact ie.fit (by rw[<- h.1.2.1];show Fv W) h.2 t ht
def ie.bl:∀{s:bY} {l:@&(Dd×bY)},ie s l->(w5 s l).bl.length=-s.bl
 |_,[],_=>rfl
 |s,x::r,h=>by
  let h1:=ie.bl h.2;rw[<- h.1.2.1,IZ] at h1;rw[<- h1];show(w5 x.2 r).bl.length=_;rw[h.1.2.1]
def Vs(r p q u a b x:Nat):Prop:=x=r\/x=p\/x=q\/x=u\/x=a\/x=b
section
variable{S:Nat->Prop}
def MD.nR(M:MD g q s)(F:Fr S g g')(h:∀x,q<=x->x<q+7->¬S x):MD g' q s :=
 #[F.at (h _ () ()) M.bX,F.at (h _ () ()) M.dh,F.at (h _ () ()) M.lower,F.at (h _ () ()) M.upper,F.at (h _ () ()) M.gone,F.at (h _ () ()) M.cU]
def d0.nR(D:d0 g d)(F:Fr S g g')(h:∀x,x<=d->¬S x):d0 g' d:=by
 let#[u,v,w,x,xs,e1,e2,e3,e4]:=D.ex;show#[u,v,w,x,xs,F.at (h _ (ak _)) e1,F.at (h _ ()) e2,e3,e4]
def Wv(G1:Gr d g g'):Fr (λx=>x=d) g g':=#[G1.len,λi hi hl=>G1.old i hi hl]
end
section
variable{T:Nat->Option aT}
def O7{x:Int}(h:sX (.int x)):N4 x:=by
 rcases h with⟨y,h,_⟩|⟨i,h,h1,h2⟩
 .cases h
 .cases h;show#[h1,h2]
set_option tactic.hygienic true in
def bB0(W:WS s)(e:(dX s dd).1=""):dd.good:=by
 let f:=NM W e;cases dd with
 |cut y =>
  simp only[dX] at e;unfold y4 at e;split at e
  .rename_i hs;show hs
  .exact absurd e (by dsimp only;decide +kernel)
 |fix v=>show O7 (f _ (by simp[Dd.l]))
 |off v=>show O7 (f _ (by simp[Dd.l]))
 |mark y v j =>
  show#[?_,O7 (f _ (by simp[Dd.l])),O7 (f _ (by simp[Dd.l]))];simp only[dX] at e;unfold f7 at e;split at e
  .rename_i hs;show hs
  .exact absurd e (by dsimp only;decide +kernel)
 |eL a b=>show#[O7 (f _ (by simp[Dd.l])),O7 (f _ (by simp[Dd.l]))]
 |year n=>show O7 (f _ (by simp[Dd.l]))
def NS{c d:Nat}(hd:d≠c):∀{l:@&(@&Nat)},(∀a∈l,d∉a)->d∉jn c l
 |[],_=>by simp[jn]
 |[a],h=>h a #[_]
 |a::b::r,h=>by
  rw[T8];intro z;rcases bS.mp z with z|z
  .exact h a #[_] z
  .rcases aG.mp z with z|z
   .exact hd z
   .exact NS hd (l:=b::r) (λx hx=>h x (by simp[hx])) z
def Vo(h:dd.good):10∉(u6 dd).cps.toList:=by
 unfold u6;rw[Ec,StrLaws.glued_eq_join,Az];show NS ∅ λa ha=>?_;let#[y,hy,rfl]:=aN.mp ha;show(Dd.free h y hy).2
def Ut:("mint ":Str)++nT n=Builtin.Str.glued " " ["mint",nT n]:=by
 let e:("mint ":Str)=("mint":Str)++(" ":Str):=by decide +kernel
 rw[e]
 rfl
def N4.of(hn:1<=n/\n<=9):N4 (n:Int):=#[by omega,by omega]
def KI:32∉("mint":Str).cps.toList/\10∉("mint ":Str).cps.toList:=by decide +kernel
def aM3(hn:1<=n/\n<=9):Txt.split (("mint ":Str)++nT n) " "=[("mint":Str),nT n]:=by
 rw[Ut,Ec,Y0 #[_] λy hy=>?_];rcases aG.mp hy with rfl|hy
 .exact KI.1
 .cases eX.mp hy;show Aw (N4.of hn) ∅
def aT8(hn:1<=n/\n<=9)(hd:∀dd∈ds,dd.good):Txt.split (tL n ds) "\n"=(("mint ":Str)++nT n)::ds.map u6:=by
 unfold tL;rw[b16,Y0 #[_] λy hy=>?_];rcases aG.mp hy with rfl|hy
 .rw[Bx,jC];intro z;rcases bS.mp z with z|z
  .exact KI.2 z
  .exact Aw (N4.of hn) ∅ z
 .let#[dd,h,rfl]:=aN.mp hy;show Vo (hd dd h)
def aX5(hX:TX T)(hL:TL T)(hT:TM T)(hn:1<=n/\n<=9)(h:∀g1,Ex g g1->Q (.ref (-g1)) (g1++[A4 (-g1+2) (-g1+3) (-g1+4),c5 (s0 n),.lst [.ref (-g1+1)],.lst [],.lst []])):a8 T (k+6) 254 [.str (("mint ":Str)++nT n)] g Q E:=by
 show call_of hX.CY rfl ?_;delta S1;exists#[Gn,?_];left;let h5:("mint ":Str).length=5:=by decide +kernel
 show m_split #[] (by rw[mr,h5];have:=Al (N4.of hn);omega) (aM3 hn) #[_] ?_;let e1:Ex g (g++[.lst ([("mint":Str),nT n].map D.str)]):=Ex.snoc _ _;let b1:(g++[.lst ([("mint":Str),nT n].map D.str)])[(-g)]?=!.lst [.str "mint",.str (nT n)]:=b8;generalize (-g)=j at *;generalize g++[.lst ([("mint":Str),nT n].map D.str)]=g1 at *;exists dB rfl ?_;exists dB #[] ?_;exists Nw hX.pL (N4.of hn) λg2 e2=>?_;exists ED hL hT (λn' e h1 h9=>?_) λz=>absurd #[by omega,by omega] z;obtain rfl:n=n':=by omega
 show#[rfl,h _ (e1.trans e2)]
def ie.good:∀{s:bY} {l:@&(Dd×bY)},WS s->ie s l->∀t∈l,t.1.good
 |_,[],_,_=>λt h=>by simp at h
 |s,x::r,W,h=>λt ht=>by
  rcases aG.mp ht with rfl|ht
  .exact bB0 W h.1.1
  .exact ie.good (by rw[<- h.1.2.1];show Fv W) h.2 t ht
def SV(hX:TX T)(hL:TL T)(hT:TQ T)(hn:1<=n/\n<=9){l:@&(Dd×bY)}(hc:ie (s0 n) l)(W0:WS (s0 n))(hz:-l<=900)(h:∀g' r p q u ms m,Ex g g'->-g<=r->Led g' r p q u (ms++[(m,w5 (s0 n) l)]) (l.map (·.1)) []->Q (.ref r) g'):a8 T (k+9) 255 [.str (tL n (l.map (·.1)))] g Q E:=by
 let hg:=ie.good W0 hc;let hf:=ie.fit W0 hc;let ts:=aT8 (n:=n) (ds:=l.map (·.1)) hn λdd hd=>by
  let#[t,ht,rfl]:=aN.mp hd;show hg t ht
 let tl:=text_len (n:=n) (ds:=l.map (·.1)) hn.2 (λdd hd=>by
  let#[t,ht,rfl]:=aN.mp hd;show hf t ht) (by rw [aj];omega)
 let Pa:=ES "\n" ((("mint ":Str)++nT n)::(l.map (·.1)).map u6);show call_of hX.CW rfl ?_;delta Y3;exists#[Gn,?_];exists m_split #[] (aH Pa tl) ts (by simp;omega) ?_;generalize tL n (l.map (·.1))=tx at *;let e1:Ex g (g++[.lst (((("mint ":Str)++nT n)::(l.map (·.1)).map u6).map .str)]):=Ex.snoc _ _;let b1:(g++[.lst (((("mint ":Str)++nT n)::(l.map (·.1)).map u6).map .str)])[(-g)]?=!(.lst (.str (("mint ":Str)++nT n)::((l.map (·.1)).map u6).map .str)):=b8;let jl:-g<(g++[O.lst (((("mint ":Str)++nT n)::(l.map (·.1)).map u6).map .str)]).length:=by simp
 generalize hj:-g=j at *;generalize g++[.lst (((("mint ":Str)++nT n)::(l.map (·.1)).map u6).map .str)]=g1 at *;exists A5 (a6 b1) (E4 (j:=0) rfl) ?_;exists aX5 (k:=k+2) hX hL hT.tm hn λg2 e2=>?_;let n2:=Mn (g:=g2) hn;let b2:∀o,(g2++o:G)[j]?=!(.lst (.str (("mint ":Str)++nT n)::((l.map (·.1)).map u6).map .str)):=λo=>by rw[ay (d5 (e2.at b1))];show e2.at b1
 let b2:=b2 [A4 (-g2+2) (-g2+3) (-g2+4),c5 (s0 n),.lst [.ref (-g2+1)],.lst [],.lst []];let l2:-g1<=-g2:=e2.len;let e3:Ex g (g2++[A4 (-g2+2) (-g2+3) (-g2+4),c5 (s0 n),.lst [.ref (-g2+1)],.lst [],.lst []]):=(e1.trans e2).trans #[by simp,λi hi=>ay hi];let rl:-g<=-g2:=(e1.trans e2).len;let pl:-g2< -g2+2:=by omega
 let ql:-g2< -g2+3:=by omega
 generalize g2++[A4 (-g2+2) (-g2+3) (-g2+4),c5 (s0 n),.lst [.ref (-g2+1)],.lst [],.lst []]=g3 at *;generalize (-g2)+2=p at *;generalize (-g2)+3=q at *;generalize (-g2)+4=u at *;generalize (-g2)+1=m0 at *;generalize (-g2)=r at *;exists P0 (b9 T _) (DY (b9 T _) ?_);left;left;let ll:((D.str (("mint ":Str)++nT n)::((l.map (·.1)).map u6).map D.str).length:Int)=-l+1:=by simp
 rw[ll];show#[1,_,rfl,rfl,#[by omega,by omega,by omega,by omega],l6 1 ((-l:Int)+1-1).toNat,λi σ g'=>(∃x3 x4,σ=[!.str tx,!.ref j,!.ref r,x3,x4])/\Ex g g'/\g'[j]?=!(.lst (.str (("mint ":Str)++nT n)::((l.map (·.1)).map u6).map .str))/\∃ms m u,Led g' r p q u (ms++[(m,w5 (s0 n) (l.take i))]) ((l.take i).map (·.1)) []/\-ms=i,λi σ g' p=>J0,#[#[none,none,rfl],e3,b2,[],m0,u,n2,rfl],λi y σ g' hy p=>?_,λσ g' p=>?_]
 .let#[#[x3,x4,rfl],e4,b4,ms,m,u',L,hm]:=p;let#[hi,rfl]:=O4 hy;let hi:i< -l:=by omega
  obtain⟨t,ht⟩:∃t,l[i]?=!t:=#[_,ao hi]
  show s9 ?_
  try show wpS _ _ _ _ _ _
  left;let e5:(1:Int)+(i:Int)=((i+1:Nat):Int):=by omega
  let ha:iQ (D.str (("mint ":Str)++nT n)::((l.map (·.1)).map u6).map D.str) (1+(i:Int))=!.str (u6 t.1):=by
   rw[e5];show E4 (by rw[List.getElem?_cons_succ,aD,aD,aD,ht];rfl)
  show A5 (a6 b4) ha ?_;left;let lW:=aP ht;show a97 (k:=k+5) hX (hf t lW) (hg t lW) λg4 e6=>?_;exists dB (by rw[Dd.DF];rfl) ?_;left;let L4:=L.ex e6;show c7 L4.ob rfl rfl ?_;left;let sp:l.take i++t::l.drop (i+1)=l:=by
   let h1:=iU i l;rw[gJ hi,(ax.mp ht).2] at h1;show h1
  let ch:ie (s0 n) (l.take i++t::l.drop (i+1)):=by rw[sp];show hc
  let#[c1,c2]:=ie.app.mp ch;let lt:l.take (i+1)=l.take i++[t]:=by rw[cV,ht];rfl
  show NT (k:=k) hL hT L4 #[by omega,by rw[aj,cF];omega] c2.1.2.2 (λe g5 u5 F w L5=>?_) λe=>absurd c2.1.1 e;left;let jr:j<r:=by omega
  let no:∀x:Nat,x<r->¬(x=p\/x=q\/x=r):=λx hx z=>by omega
  let e7:=e4.trans e6;show#[#[_,_,rfl],#[aH e7.len F.len,λx hx=>(F.old x (no x ()) (av hx e7.len)).trans (e7.old x hx)],F.at (no j jr) (e6.at b4),ms++[(m,w5 (s0 n) (l.take i))],(-g4),u5,?_,by rw[bg,hm];rfl];rw[lt,T2,aA];rw[c2.1.2.1] at L5;show L5
 .let#[#[x3,x4,rfl],e4,b4,ms,m,u',L,hm]:=p;let el:l.take (l6 1 ((-l:Int)+1-1).toNat).length=l:=by
   rw[E1];show iC ()
  rw[el] at L;left;show h _ _ _ _ _ _ _ e4 () L
end
structure Hv(g:G)(d n r p q u a b m0 c0:Nat)(H U:@&Ent):Prop where
 L:Led g r p q u ((m0,s0 n)::H.map λt=>(t.mi,t.st)) (H.map Ent.dd) (U.map Ent.dd)
 la:g[a]?=!.lst (H.map j2)
 lb:g[b]?=!.lst (U.map j2)
 mo:∀t∈H++U,MD g t.mo t.st
 mz:MD g c0 (s0 n)
 ch:ie (s0 n) ((H++U.reverse).map Ent.key)
 ab:a≠b
 al:a≠p/\a≠q/\a≠u
 bl:b≠p/\b≠q/\b≠u
 sm:∀t∈H++U,∀x,t.mo<=x->x<t.mo+7->¬Vs r p q u a b x
 sz:∀x,c0<=x->x<c0+7->¬Vs r p q u a b x
 lo:∀x,Vs r p q u a b x\/x=m0\/(∃t∈H,x=t.mi)\/(c0<=x/\x<c0+7)\/(∃t∈H++U,t.mo<=x/\x<t.mo+7)->d<x
section
variable{c0:Nat}{S:Nat->Prop}
def Hv.fr(h:Hv g d n r p q u a b m0 c0 H U)(F:Fr S g g')(hS:∀x,S x->x<=d\/-g<=x):Hv g' d n r p q u a b m0 c0 H U:=by
 let no:∀x,x< -g->(Vs r p q u a b x\/x=m0\/(∃t∈H,x=t.mi)\/(c0<=x/\x<c0+7)\/(∃t∈H++U,t.mo<=x/\x<t.mo+7))->¬S x:=λx hx hc hs=>by
  let h1:=h.lo x hc;let h2:=hS x hs;omega
 show#[h.L.keep λx o hx e=>F.at (no x (d5 e) ?_) e,F.at (no a (d5 h.la) (.inl (.inr (.inr (.inr (.inr (.inl rfl))))))) h.la,F.at (no b (d5 h.lb) (.inl (.inr (.inr (.inr (.inr (.inr rfl))))))) h.lb,λt ht=>(h.mo t ht).nR F λx h1 h2=>?_,h.mz.nR F λx h1 h2=>?_,h.ch,h.ab,h.al,h.bl,h.sm,h.sz,h.lo]
 .rcases hx with z|z|z|z|⟨t,ht,rfl⟩
  .exact .inl (.inl z)
  .exact .inl (.inr (.inl z))
  .exact .inl (.inr (.inr (.inl z)))
  .exact .inl (.inr (.inr (.inr (.inl z))))
  .rcases aG.mp ht with rfl|ht
   .exact .inr (.inl rfl)
   .let#[y,hy,rfl]:=aN.mp ht;show .inr (.inr (.inl #[y,hy,rfl]))
 .have:=d5 (h.mo t ht).cU;show no x () (.inr (.inr (.inr (.inr #[t,ht,h1,h2]))))
 .have:=d5 h.mz.cU;show no x () (.inr (.inr (.inr (.inl #[h1,h2]))))
def Hv.ex(h:Hv g d n r p q u a b m0 c0 H U)(e:Ex g g'):Hv g' d n r p q u a b m0 c0 H U:=h.fr (S:=λy=>False) (.ex e) λx z=>z.elim
def Hv.gr(h:Hv g d n r p q u a b m0 c0 H U)(e:Gr d g g'):Hv g' d n r p q u a b m0 c0 H U:=h.fr (Wv e) λx z=>.inl ()
def Hv.top(h:Hv g d n r p q u a b m0 c0 H U):∃ms m,(m0,s0 n)::(H.map λt=>(t.mi,t.st))=ms++[(m,w5 (s0 n) (H.map Ent.key))]/\-ms=-H:=by
 rcases fq H with rfl|⟨H',t,rfl⟩
 .exact#[[],m0,rfl,rfl]
 .refine#[(m0,s0 n)::H'.map λt=>(t.mi,t.st),t.mi,?_,by simp];rw[ft,aA,aA,eY,eY,T2]
  rfl
def Hv.tf(h:Hv g d n r p q u a b m0 c0 H U):∃ms m,Led g r p q u (ms++[(m,w5 (s0 n) (H.map Ent.key))]) (H.map Ent.dd) (U.map Ent.dd)/\-ms=-H/\(m0,s0 n)::(H.map λt=>(t.mi,t.st))=ms++[(m,w5 (s0 n) (H.map Ent.key))]:=by
 let#[ms,m,e,hl]:=h.top;show#[ms,m,e▸h.L,hl,e]
def Hv.cH(h:Hv g d n r p q u a b m0 c0 H U):ie (s0 n) (H.map Ent.key):=by
 have:=h.ch;rw[aA] at this;show(ie.app.mp this).1
def Hv.ws(h:Hv g d n r p q u a b m0 c0 H U):WS (w5 (s0 n) (H.map Ent.key))/\1<=n/\n<=9:=by
 let#[ms,m,L,_]:=h.tf;let h1:=L.st (m,w5 (s0 n) (H.map Ent.key)) #[_];let h2:=h.L.st (m0,s0 n) #[_];let e:(s0 n).bl.length=n:=by unfold s0;simp
 let h3:=h2.2.1.bn;let h4:=h2.2.2;rw[e] at h3;dsimp only at h4;rw[e] at h4;show#[h1.2.1,h4,h3]
def Hv.fits(h:Hv g d n r p q u a b m0 c0 H U):∀dd∈H.map Ent.dd,dd.fit:=λdd hd=>by
 let#[t,ht,rfl]:=aN.mp hd;show ie.fit (DP h.ws.2.2) h.cH t.key (aN.mpr #[t,ht,rfl])
def Hv.last(h:Hv g d n r p q u a b m0 c0 H U):∃c,MD g c (w5 (s0 n) (H.map Ent.key))/\d<c/\((-H=0/\c=c0)\/(-H≠0/\∃l x,H.map j2=l++[.tup [x,.ref c]])):=by
 rcases fq H with rfl|⟨H',t,rfl⟩
 .exact#[c0,h.mz,h.lo c0 (.inr (.inr (.inr (.inl #[ak _,by omega])))),.inl #[rfl,rfl]]
 .refine#[t.mo,?_,h.lo _ (.inr (.inr (.inr (.inr #[t,by simp,ak _,by omega])))),.inr #[by simp,H'.map j2,t.dd.d,by simp[j2]]];rw[ft,aA,eY,T2];show h.mo t #[_]
def Hv.back{t:Ent}(h:Hv g d n r p q u a b m0 c0 (H++[t]) U)(F:Fr (λx=>x=p\/x=q\/x=u) g g')(L:Led g' r p q u ((m0,s0 n)::H.map λt=>(t.mi,t.st)) (H.map Ent.dd) ((U++[t]).map Ent.dd)) :
  Hv ((g'.set a (.lst (H.map j2))).set b (.lst (U.map j2++[j2 t]))) d n r p q u a b m0 c0 H (U++[t]):=by
 let sd:=F.at (by have:=h.al;omega) h.la;let rY:=F.at (by have:=h.bl;omega) h.lb;let F2:Fr (Vs r p q u a b) g ((g'.set a (.lst (H.map j2))).set b (.lst (U.map j2++[j2 t]))):=by
  show Fr.trans ?_ ((my (.inr (.inr (.inr (.inr (.inl rfl)))))).trans (my (.inr (.inr (.inr (.inr (.inr rfl)))))));show#[F.len,λi hi hl=>F.old i (λz=>hi (by rcases z with z|z|z;show .inr (.inl z);show .inr (.inr (.inl z));show .inr (.inr (.inr (.inl z))))) hl]
 let na:∀{x:Nat} {ms:@&(Nat×bY)} {ds us:@&Dd} {o:O},Led g' r p q u ms ds us->yq r p q u ms x->g'[x]?=!o->x≠a/\x≠b:=λ{x ms ds us o} L hx e=>by
  rcases hx with rfl|rfl|rfl|rfl|⟨t,ht,rfl⟩
  .exact#[λz=>(by have:=L.ob;rw[z,sd] at this;cases this),λz=>(by have:=L.ob;rw[z,rY] at this;cases this)]
  .exact#[aU h.al.1,aU h.bl.1]
  .exact#[aU h.al.2.1,aU h.bl.2.1]
  .exact#[aU h.al.2.2,aU h.bl.2.2]
  .let e1:=(L.st t ht).1;show#[λz=>(by rw[z,sd] at e1;cases e1),λz=>(by rw[z,rY] at e1;cases e1)]
 show#[L.keep λx o hx e=>a7 (a7 e (aU (na L hx e).1)) (aU (na L hx e).2),a7 (get_set sd) (aU h.ab),?_,λy hy=>(h.mo y (by simp at hy ⊢;rcases hy with z|z|z<;>simp[z])).nR F2 (h.sm y (by simp at hy ⊢;rcases hy with z|z|z<;>simp[z])),h.mz.nR F2 h.sz,?_,h.ab,h.al,h.bl,λy hy=>h.sm y (by simp at hy ⊢;rcases hy with z|z|z<;>simp[z]),h.sz,λx hx=>h.lo x ?_]
 .rw[aA];show get_set (a7 rY h.ab)
 .have:=h.ch;simpa using this
 .rcases hx with z|z|⟨y,hy,z⟩|z|⟨y,hy,z⟩
  .exact .inl z
  .exact .inr (.inl z)
  .exact .inr (.inr (.inl #[y,by simp[hy],z]))
  .exact .inr (.inr (.inr (.inl z)))
  .exact .inr (.inr (.inr (.inr #[y,by simp at hy ⊢;rcases hy with w|w|w<;>simp[w],z])))
def Hv.again{t:Ent}(h:Hv g d n r p q u a b m0 c0 H (U++[t]))(F:Fr (λx=>x=p\/x=q\/x=u) g g')(L:Led g' r p q u ((m0,s0 n)::(H++[{ t with mi:=-g }]).map λ(t:Ent)=>(t.mi,t.st)) ((H++[t]).map Ent.dd) (U.map Ent.dd)) :
  Hv ((g'.set b (.lst (U.map j2))).set a (.lst (H.map j2++[j2 t]))) d n r p q u a b m0 c0 (H++[{ t with mi:=-g }]) U:=by
 let sd:=F.at (by have:=h.al;omega) h.la;let rY:=F.at (by have:=h.bl;omega) h.lb;let F2:Fr (Vs r p q u a b) g ((g'.set b (.lst (U.map j2))).set a (.lst (H.map j2++[j2 t]))):=by
  show Fr.trans ?_ ((my (.inr (.inr (.inr (.inr (.inr rfl)))))).trans (my (.inr (.inr (.inr (.inr (.inl rfl)))))));show#[F.len,λi hi hl=>F.old i (λz=>hi (by rcases z with z|z|z;show .inr (.inl z);show .inr (.inr (.inl z));show .inr (.inr (.inr (.inl z))))) hl]
 let na:∀{x:Nat} {ms:@&(Nat×bY)} {ds us:@&Dd} {o:O},Led g' r p q u ms ds us->yq r p q u ms x->g'[x]?=!o->x≠a/\x≠b:=λ{x ms ds us o} L hx e=>by
  rcases hx with rfl|rfl|rfl|rfl|⟨t,ht,rfl⟩
  .exact#[λz=>(by have:=L.ob;rw[z,sd] at this;cases this),λz=>(by have:=L.ob;rw[z,rY] at this;cases this)]
  .exact#[aU h.al.1,aU h.bl.1]
  .exact#[aU h.al.2.1,aU h.bl.2.1]
  .exact#[aU h.al.2.2,aU h.bl.2.2]
  .let e1:=(L.st t ht).1;show#[λz=>(by rw[z,sd] at e1;cases e1),λz=>(by rw[z,rY] at e1;cases e1)]
 let L':Led g' r p q u ((m0,s0 n)::(H++[{ t with mi:=-g }]).map λ(t:Ent)=>(t.mi,t.st)) ((H++[{ t with mi:=-g }]).map Ent.dd) (U.map Ent.dd):=by
  rw[aA (f:=Ent.dd)] at L ⊢;show L
 let cs:∀y∈H++[{ t with mi:=-g }]++U,∃z∈H++(U++[t]),z.mo=y.mo/\z.st=y.st/\(y∈H->z=y):=λy hy=>by
  simp at hy;rcases hy with w|rfl|w
  .exact#[y,by simp[w],rfl,rfl,λv=>rfl]
  .by_cases c:({ t with mi:=-g }:Ent)∈H
   .exact#[_,by simp[c],rfl,rfl,λv=>rfl]
   .exact#[t,by simp,rfl,rfl,λz=>absurd z c]
  .exact#[y,by simp[w],rfl,rfl,λv=>rfl]
 show#[L'.keep λx o hx e=>a7 (a7 e (aU (na L' hx e).2)) (aU (na L' hx e).1),?_,a7 (get_set rY) h.ab,λy hy=>?_,h.mz.nR F2 h.sz,?_,h.ab,h.al,h.bl,λy hy=>?_,h.sz,λx hx=>?_]
 .have:=get_set (o':=O.lst (H.map j2++[j2 t])) (a7 (o':=O.lst (U.map j2)) sd (aU h.ab));rw[this];simp[j2]
 .let#[z,hz,e1,e2,_]:=cs y hy;rw[<- e1,<- e2];show(h.mo z hz).nR F2 (h.sm z hz)
 .have:=h.ch;simpa[Ent.key] using this
 .let#[z,hz,e1,e2,_]:=cs y hy;rw[<- e1];show h.sm z hz
 .let dl:d< -g:=by
   have:=h.lo a (.inl (.inr (.inr (.inr (.inr (.inl rfl))))));have:=d5 h.la;omega
  rcases hx with z|z|⟨y,hy,z⟩|z|⟨y,hy,z⟩
  .exact h.lo x (.inl z)
  .exact h.lo x (.inr (.inl z))
  .rcases bS.mp hy with hy|hy
   .exact h.lo x (.inr (.inr (.inl #[y,hy,z])))
   .cases eX.mp hy;dsimp only at z;omega
  .exact h.lo x (.inr (.inr (.inr (.inl z))))
  .let#[y',sj,e1,e2,_]:=cs y hy;rw[<- e1] at z;show h.lo x (.inr (.inr (.inr (.inr #[y',sj,z]))))
end
def K6:aT:=#[2,2,(eO (.R9 (bO (.ite (.dY aI) (.bp "again" [("Ledger",247)] aB .nil) (.bp "back" [("Ledger",246)] aB .nil))) [("Nothing",(.lit .aR))]))]
def Ak:aT:=#[4,5,(eF 4 (dZ 256 aB aI) (cY (cI .Eq (bG .len bj) (ba 0)) (bO (bw (.cmp .Is) fI (.lit .aR))) (kA (.dk .append cR (dP (.dk .jF bj .nil))) (bO (dZ 7 fI (bZ (bZ cR (bG (.un .USub) (ba 1))) (ba 0)))))))]
structure tN(T:Nat->Option aT):Prop where
 tr:TR T
 tl:TL T
 h6:T 6=!tB
 h7:T 7=!B9
 mh:T 246=!E2
 mf:T 247=!C5
 pI:T 256=!K6
 xD:T 259=!Ak
section
variable{T:Nat->Option aT}{c0:Nat}
def MI(hT:tN T){t:Nat×bY}(h0:Led g r p q u (ms++[t]) (ds++[dd]) us)(hz:-us<=5000)(h:∀g',Fr (λx=>x=p\/x=q\/x=u) g g'->Led g' r p q u ms ds (us++[dd])->Q dd.d g'):a8 T (k+2) 256 [.ref r,.bl false] g Q E:=by
 show call_of hT.pI rfl ?_;delta K6;exists c7 h0.ob rfl rfl ?_;left;show UE (k:=k) hT.mh h0 hz h
def Nz(hT:tN T)(h0:Led g r p q u ms [] us)(h:Q .aR g):a8 T (k+2) 256 [.ref r,.bl false] g Q E:=by
 show call_of hT.pI rfl ?_;delta K6;exists c7 h0.ob rfl rfl ?_;exists a74 (k:=k) hT.mh h0 ?_;show Je rfl ?_;left;show h
def Vp(hT:tN T)(h0:Led g r p q u (ms++[(m,s)]) ds (us++[dd]))(hz:-ms<5000/\-ds<5000)(ok:dd.ok)(e:(dX s dd).1="")(h:∀g',Fr (λx=>x=p\/x=q\/x=u) g g'->Led g' r p q u (ms++[(m,s)]++[(-g,(dX s dd).2.2)]) (ds++[dd]) us->Q dd.d g'):a8 T (k+9) 256 [.ref r,.bl true] g Q E:=by
 show call_of hT.pI rfl ?_;delta K6;exists c7 h0.ob rfl rfl ?_;left;show a75 (k:=k) hT.tl hT.tr.tq hT.mf h0 hz ok e h
def a28(hT:tN T)(h0:Led g r p q u ms ds [])(h:Q .aR g):a8 T (k+2) 256 [.ref r,.bl true] g Q E:=by
 show call_of hT.pI rfl ?_;delta K6;exists c7 h0.ob rfl rfl ?_;exists aW5 (k:=k) hT.mf h0 ?_;show Je rfl ?_;left;show h
def Lh(hT:tN T)(W1:Hv g d n r p q u a b m0 c0 H U)(D1:d0 g d)(pD:-H<=700)(kP:-U<=700)(h0:H=[]->∀g',Ex g g'->Q (.bl true) g')(h1:∀H' t g',H=H'++[t]->d0 g' d->Hv g' d n r p q u a b m0 c0 H' (U++[t])->Q (.bl true) g'):a8 T (k+10) 259 [.ref r,.bl false,.ref a,.ref b] g Q E:=by
 show call_of hT.xD rfl ?_;delta Ak;left;rcases fq H with rfl|⟨H',t,rfl⟩
 .refine Nz (k:=k+7) hT W1.L ?_;left
  try show j5 (a6 W1.la) ?_
  exists fA #[_] ?_;left;show h0 rfl _ (Ex.refl _)
 .rw[ft] at W1 pD h1;let e1:(m0,s0 n)::((H'++[t]).map λt=>(t.mi,t.st))=((m0,s0 n)::H'.map λt=>(t.mi,t.st))++[(t.mi,t.st)]:=by simp
  let L1:=W1.L;rw[e1,aA (f:=Ent.dd)] at L1;show MI (k:=k+7) hT (t:=(t.mi,t.st)) L1 (by simp;omega) λg2 F2 L2=>?_;let rZ:=F2.at (by have:=W1.al;omega) W1.la;let rX:=F2.at (by have:=W1.bl;omega) W1.lb;rw[aA (f:=j2)] at rZ;let PZ:=a7 rX W1.ab (o':=O.lst (H'.map j2));let X2:=W1.back F2 (by rw[aA (f:=Ent.dd)];show L2);let DE:d0 g2 d:=D1.nR F2 (by let h1:=W1.lo p (.inl (.inr (.inl rfl)));let h2:=W1.lo q (.inl (.inr (.inr (.inl rfl))));let h3:=W1.lo u (.inl (.inr (.inr (.inr (.inl rfl)))));omega);let da:=W1.lo a (.inl (.inr (.inr (.inr (.inr (.inl rfl))))));let db:=W1.lo b (.inl (.inr (.inr (.inr (.inr (.inr rfl))))));let Hn:=X2.lb;rw[aA] at Hn;left
  try show j5 (a6 rZ) ?_
  exists dB (by simp;omega) ?_;left
  try show#[C4 rX,?_]
  left
  try show#[yP rZ,?_]
  exists yG rZ ?_;exists M9 PZ (by simp;omega) ?_;exists A5 (a6 Hn) yK ?_;show Z6 (l:=[t.dd.d,.ref t.mo]) rfl ?_;left;show j6 hT.h6 hT.h7 1 (k:=k+6) AA λg' e'=>h1 _ _ _ rfl (e'.draw ((DE.yU ()).yU ())) (X2.ex e')
def Lw(hT:tN T)(W1:Hv g d n r p q u a b m0 c0 H U)(D1:d0 g d)(pD:-H<=700)(kP:-U<=700)(h0:U=[]->∀g',Ex g g'->Q (.bl true) g')(h1:∀U' t g' i,U=U'++[t]->d0 g' d->Hv g' d n r p q u a b m0 c0 (H++[{ t with mi:=i }]) U'->Q (.bl true) g'):a8 T (k+10) 259 [.ref r,.bl true,.ref b,.ref a] g Q E:=by
 show call_of hT.xD rfl ?_;delta Ak;left;rcases fq U with rfl|⟨U',t,rfl⟩
 .refine a28 (k:=k+7) hT W1.L ?_;left
  try show j5 (a6 W1.lb) ?_
  exists fA #[_] ?_;left;show h0 rfl _ (Ex.refl _)
 .rw[ft] at W1 kP h1;let#[ms,m,L1,hl,es]:=W1.tf;rw[aA (f:=Ent.dd)] at L1;let lX:=W1.ch;rw[List.reverse_append,List.reverse_singleton,List.singleton_append,aA,ie.app] at lX;let#[#[k1,k2,k3],_]:=lX.2;show Vp (k:=k) hT L1 (by simp;omega) k3 k1 λg2 F2 L2=>?_;rw[<- es] at L2;let rZ:=F2.at (by have:=W1.al;omega) W1.la;let rX:=F2.at (by have:=W1.bl;omega) W1.lb;rw[aA (f:=j2)] at rX;let Qa:=a7 rZ (aU W1.ab) (o':=O.lst (U'.map j2));let X2:=W1.again F2 (by
   rw[aA,aA,eY,eY,<- List.cons_append];rw[show(dX (w5 (s0 n) (H.map Ent.key)) t.dd).2.2=t.st from k2] at L2;show L2)
  let DE:d0 g2 d:=D1.nR F2 (by let h1:=W1.lo p (.inl (.inr (.inl rfl)));let h2:=W1.lo q (.inl (.inr (.inr (.inl rfl))));let h3:=W1.lo u (.inl (.inr (.inr (.inr (.inl rfl)))));omega);let da:=W1.lo a (.inl (.inr (.inr (.inr (.inr (.inl rfl))))));let db:=W1.lo b (.inl (.inr (.inr (.inr (.inr (.inr rfl))))));let Ho:=X2.la;rw[aA] at Ho;left
  try show j5 (a6 rX) ?_
  exists dB (by simp;omega) ?_;left
  try show#[C4 rZ,?_]
  left
  try show#[yP rX,?_]
  exists yG rX ?_;exists M9 Qa (by simp;omega) ?_;exists A5 (a6 Ho) yK ?_;show Z6 (l:=[t.dd.d,.ref t.mo]) rfl ?_;left;show j6 hT.h6 hT.h7 1 (k:=k+6) AA λg' e'=>h1 _ _ _ _ rfl (e'.draw ((DE.yU ()).yU ())) (X2.ex e')
end
def Bo:aT:=#[2,4,(eF 2 (bG .lst (bw (.bin .Add) (bq "mint ") (bG .str aB))) (oy (.one 3) (.iJ aI) (eO (.expr (.dk .append bj (dP (.dk .join (bq " ") (dP (.comp [] 2 (.one 1) (.iJ cR) .no (.ite (.dY (bw .isin aI (.lit (.ty "str")))) aI (bG .str aI))))))))) (bO (.dk .join (bq "\n") (dP bj)))))]
def yN:aT:=#[3,4,(eF 3 (.ite (cI .Gt (bG .len bj) (ba 0)) (bZ (bZ bj (bG (.un .USub) (ba 1))) (ba 1)) aI) (bO (.eI (dZ 47 (.bp "mint" [("Ledger",249)] aB .nil) cR) (dZ 7 (.bp "deeds" [("Ledger",248)] aB .nil) (.comp [] 3 (.many [1,2]) (.iJ bj) .no aI)))))]
def EF:aT:=#[4,6,(eF 4 (bG .len bj) (oy (.one 5) (.gC (bw (.bin .Add) fI (ba 1))) (eO (.ifs (.cK (.dY (ub 259 aB (.lit (.bl false)) bj cR))) (bO (.lit (.bl false))) .pass)) (cY (.cK (.dY (lR 258 aB aI bj))) (bO (.lit (.bl false))) (oy (.one 5) (.gC (bw (.bin .Add) (bG .len cR) (ba 1))) (eO (.ifs (.cK (.dY (ub 259 aB (.lit (.bl true)) cR bj))) (bO (.lit (.bl false))) .pass)) (bO (lR 258 aB aI bj))))))]
structure yX(T:Nat->Option aT):Prop where
 ts:tN T
 CP:T 47=!P4
 xC:T 67=!N3
 nG:T 250=!P5
 Dc:T 251=!Z0
 sJ:T 257=!Bo
 CV:T 258=!yN
 CU:T 260=!EF
section
variable{T:Nat->Option aT}{c0:Nat}
def UH(sJ:T 257=!Bo){e:Nat}(he:g[e]?=!.lst (ds.map Dd.d))(hn:n<=9)(hf:∀dd∈ds,dd.fit)(hz:-ds<=1000)(h:∀g',Ex g g'->Q (.str (tL n ds)) g'):a8 T (k+1) 257 [.int n,.ref e] g Q E:=by
 show call_of sJ rfl ?_;delta Bo;exists Bp (av (uY ()) ∅) ?_;let h6:(Str.ofString (toString (n:Int))).length<=15:=Al ();let h5:("mint ":Str).length=5:=by decide +kernel
 show Wj (by rw[h5];omega) ?_;left;let x2:Ex g (g++[.lst [.str ("mint "++nT n)]]):=Ex.snoc _ _;let b2:(g++[.lst [.str ("mint "++nT n)]])[(-g)]?=!.lst [.str ("mint "++nT n)]:=b8;generalize g++[.lst [.str ("mint "++nT n)]]=g2 at *;show P0 (b9 T _) (qw (b9 T _) ?_);exists#[e,_,rfl,a6 (x2.at he),ds.map Dd.d,λi σ g'=>∃z,σ=[!.int n,!.ref e,!.ref (-g),z]/\Ex g g'/\g'[(-g)]?=!(.lst (.str ("mint "++nT n)::((ds.take i).map u6).map .str)),λi σ g' p=>Q8 (a6 (p.choose_spec.2.1.at he)),#[none,rfl,x2,b2],λi y σ g' hy p=>?_,λσ g' p=>?_]
 .let#[z,rfl,x3,b3]:=p;rw[aD,ae] at hy;let#[dd,hd,rfl]:=hy;show s9 ?_
  try show wpS _ _ _ _ _ _
  left
  try show#[C4 b3,?_]
  try show Z8 ?_
  show Og (k:=k) (hf dd (aP hd)) (λh=>w_var rfl h) (λ{x w Q} hx hq=>?_) ?_
  .left;rcases hx with⟨y,rfl,_⟩|⟨j,rfl,hj⟩
   .refine gf (b:=true) #[_] rfl ?_;left;show hq
   .refine gf (b:=false) #[_] rfl ?_;left;show Bp (av (uY hj) ∅) hq
  .exists M9 (A8 b3) (by simp;omega) ?_;exists#[_,rfl,Fr.Bf (x3.trans (Ex.snoc _ _)) (ak _),?_];rw[get_set (A8 b3),cV,hd];simp
 .let#[z,rfl,x3,b3]:=p;rw[aj,cS] at b3
  try show wpS _ _ _ _ _ _
  exists#[Gp,?_];exists Gj (ys:=("mint "++nT n)::ds.map u6) (a6 b3) (text_len hn hf hz) ?_;left;show h _ x3
def UG(hT:yX T)(h0:Led g r p q u (ms++[(m,s)]) ds us)(h:∀g' r' p' q' u',Ex g g'->-g<=r'->-g<=p'->-g<=q'->-g<=u'->Led g' r' p' q' u' (ms++[(m,s)]) ds us->Q (.ref r') g'):a8 T (k+7) 251 [.ref r] g Q E:=by
 let#[_,h2,h3]:=h0.st (m,s) #[_];let bn:-s.bl<=9:=h2.bn;let b1:1<=-s.bl:=h3;show call_of hT.Dc rfl ?_;delta Z0;exists c7 h0.ob rfl rfl ?_;exists AJ (k:=k) hT.ts.tl hT.ts.tr.tq h0 ?_;exists c7 b8 rfl rfl ?_;exists Fi (k:=k+5) hT.ts.tr.tq b8 ?_;let x1:Ex g (g++[c5 s]++[.lst s.bl]):=(Ex.snoc _ _).trans (Ex.snoc _ _);let c1:(g++[c5 s]++[.lst s.bl])[(g++[c5 s]).length]?=!.lst s.bl:=b8;generalize g++[c5 s]++[.lst s.bl]=g1 at *;exists ED (k:=k+1) hT.ts.tl hT.ts.tr.tq.tm (λn e1 n1 n9=>?_) (λhv=>absurd #[by omega,by omega] hv);show#[rfl,?_];let x2:Ex g1 (g1++[A4 (-g1+2) (-g1+3) (-g1+4),c5 (s0 n),.lst [.ref (-g1+1)],.lst [],.lst []]):=#[by simp,λi hi=>ay hi]
 let o2:(g1++[A4 (-g1+2) (-g1+3) (-g1+4),c5 (s0 n),.lst [.ref (-g1+1)],.lst [],.lst []])[(-g1)]?=!A4 (-g1+2) (-g1+3) (-g1+4):=by simp
 let HL:=x1.len;generalize g1++[A4 (-g1+2) (-g1+3) (-g1+4),c5 (s0 n),.lst [.ref (-g1+1)],.lst [],.lst []]=g2 at *;let L2:=h0.ex (x1.trans x2);let y2:=x1.trans x2;generalize (-g1)+2=p2 at *;generalize (-g1)+3=q2 at *;generalize (-g1)+4=u2 at *;generalize (-g1)=r2 at *;let rl:=d5 o2;let step:∀(g2:G) (pp qq uu:Nat) (l:@&D),Ex g g2->g2[r2]?=!A4 pp qq uu->∀o:O,Ex g ((g2++[O.lst l]).set r2 o)/\((g2++[O.lst l]).set r2 o)[r2]?=!o/\((g2++[O.lst l]).set r2 o)[(-g2)]?=!.lst l/\(∀x y,x< -g2->x≠r2->g2[x]?=!y->((g2++[O.lst l]).set r2 o)[x]?=!y)/\((g2++[O.lst l]).set r2 o).length=-g2+1:=λg2 pp qq uu l x o2 o=>by
  let rl:=d5 o2;show#[Fr.Bf (x.trans (Ex.snoc _ _)) HL,get_set (A8 o2),a7 b8 (),λx y hx hn e=>a7 (A8 e) (aU hn),by simp]
 exists i7 L2.ob rfl ?_;exists uZ (a6 L2.mi) ?_;exists t9 (A8 o2) #[_] #[_] ?_;rw[show(O.ins "Ledger" (u7 "mints" (.ref (List.length g2)) [("mints",.ref p2),("done",.ref q2),("undone",.ref u2)]))=A4 (-g2) q2 u2 from rfl];let#[x3,o3,p3,k3,l3]:=step g2 _ _ _ ((ms++[(m,s)]).map λt=>D.ref t.1) y2 o2 (A4 (-g2) q2 u2);generalize (g2++[O.lst ((ms++[(m,s)]).map λt=>D.ref t.1)]).set r2 (A4 (-g2) q2 u2)=g3 at *;let L3:=h0.ex x3;exists i7 L3.ob rfl ?_;exists uZ (a6 L3.dn) ?_;exists t9 (A8 o3) #[_] #[_] ?_;rw[show(O.ins "Ledger" (u7 "done" (.ref (List.length g3)) [("mints",.ref (-g2)),("done",.ref q2),("undone",.ref u2)]))=A4 (-g2) (-g3) u2 from rfl];let#[x4,o4,q4,k4,l4]:=step g3 _ _ _ (ds.map Dd.d) x3 o3 (A4 (-g2) (-g3) u2);generalize (g3++[O.lst (ds.map Dd.d)]).set r2 (A4 (-g2) (-g3) u2)=g4 at *;let L4:=h0.ex x4;exists i7 L4.ob rfl ?_;exists uZ (a6 L4.ud) ?_;exists t9 (A8 o4) #[_] #[_] ?_;rw[show(O.ins "Ledger" (u7 "undone" (.ref (List.length g4)) [("mints",.ref (-g2)),("done",.ref (-g3)),("undone",.ref u2)]))=A4 (-g2) (-g3) (-g4) from rfl];let#[x5,o5,u5,k5,l5]:=step g4 _ _ _ (us.map Dd.d) x4 o4 (A4 (-g2) (-g3) (-g4));generalize (g4++[O.lst (us.map Dd.d)]).set r2 (A4 (-g2) (-g3) (-g4))=g5 at *;left;let z2:=y2.len;show h _ _ _ _ _ x5 HL () () () #[o5,k5 _ _ () () (k4 _ _ () () p3),k5 _ _ () () q4,u5,λt ht=>#[x5.at (h0.st t ht).1,(h0.st t ht).2],by omega,by omega,by omega]
def Nf{σ:S}{z:ME}(W:Hv g d n r p q u a b m0 c0 H U)(hl:-H<=900)(hz:∀{g:G} {Q:KD},Q (.ref a) g->aY (a8 T k) z σ g Q E)(h:∀g' i,Ex g g'->g'[i]?=!(.lst ((H.map Ent.dd).map Dd.d))->Q (.ref i) g'):aY (a8 T k) (.comp [] 3 (.many [1,2]) (.iJ z) .no (.var 1)) σ g Q E:=by
 show P9 (b9 T _) (qw (b9 T _) ?_);show hz ?_;show#[a,_,rfl,a6 W.la,H.map j2,λi ys σ g'=>ys=(H.take i).map (λt=>t.dd.d)/\g'=g/\∃z0 z1 z2,σ=[z0,z1,z2],by simp;omega,λi ys σ g' p=>?_,#[rfl,rfl,none,none,none,rfl],λi y ys σ g' hy p=>?_,λys σ g' p=>?_]
 .let#[rfl,rfl,_]:=p;show#[Q8 (a6 W.la),by simp;omega]
 .let#[rfl,rfl,z0,z1,z2,rfl]:=p;rw[aD,ae] at hy;let#[t,ht,rfl]:=hy;show O3 rfl ?_
  try show dN _ _ _ _ _ _
  exists#[?_,rfl,_,_,_,rfl];rw[cV,ht];simp
 .let#[rfl,rfl,z0,z1,z2,rfl]:=p;show h _ _ (Ex.snoc _ _) ?_;rw[aj,cS,kE];show b8
def EJ(hT:yX T)(W:Hv g d n r p q u a b m0 c0 H U)(hl:-H<=900)(h:∀g',Ex g g'->Q (.bl true) g'):a8 T (k+8) 258 [.ref r,.ref c0,.ref a] g Q E:=by
 let ws:=W.ws;show call_of hT.CV rfl ?_;delta yN;exists j5 (a6 W.la) ?_;left;let#[c,M,dc,hc]:=W.last;let fin:∀N:Ends,N.rt=Q->wpS (a8 T (k+7)) (match yN.body with|.seq _ b=>b|b=>b) N [!.ref r,!.ref c0,!.ref a,!.ref c] g E:=λN hN=>by
  dsimp[yN];let#[ms,m,L,_,_]:=W.tf;exists c7 L.ob rfl rfl ?_;exists AJ (k:=k+1) hT.ts.tl hT.ts.tr.tq L ?_;exists aU2 (k:=k+1) hT.ts.tr.tq hT.ts.h6 hT.ts.h7 hT.CP hT.xC b8 (M.ex (Ex.snoc _ _)) ws.1 λg1 e1=>?_;let W1:=W.ex ((Ex.snoc _ _).trans e1);exists c7 W1.L.ob rfl rfl ?_;exists a73 (k:=k+6) hT.ts.tl W1.L ?_;let W2:=W1.ex (Ex.snoc g1 (.lst ((H.map Ent.dd).map Dd.d)));exists Nf (k:=k+7) W2 hl (λh=>w_var rfl h) λg2 i e2 h2=>?_;exists j6 hT.ts.h6 hT.ts.h7 2 (k:=k+3) (En (e2.at b8) h2 (λx hx=>?_) (by simp;omega)) λg3 e3=>?_
  .let#[dd,_,rfl]:=aN.mp hx;show AA
  try left
  rw[hN];show h _ ((Ex.snoc _ _).trans (e1.trans ((Ex.snoc _ _).trans (e2.trans e3))))
 rcases hc with⟨h0,rfl⟩|⟨h0,l,x,el⟩
 .refine if2 (λz=>absurd z (by rw[aj,h0];decide)) (λy=>?_);show w_var rfl ?_;show fin _ rfl
 .refine if2 (λy=>?_) (λz=>absurd (by rw[aj];omega) z);let la:=W.la;rw[el] at la;exists A5 (a6 la) yK ?_;show w_lit ?_;show Z6 (l:=[x,.ref c]) rfl ?_;show fin _ rfl
def MV(hT:yX T)(W:Hv g d n r p q u a b m0 c0 H U)(D0:d0 g d)(pD:-H<=350)(kP:-U<=350)(h:∀g',Q (.bl true) g'):a8 T (k+11) 260 [.ref r,.ref c0,.ref a,.ref b] g Q E:=by
 show call_of hT.CU rfl ?_;delta EF;exists j5 (a6 W.la) ?_;rw[aj];exists P0 (b9 T _) (AW (b9 T _) ?_);exists#[by omega,by omega,l6 0 ((-H:Int)+1).toNat,λi σ g'=>(∃z,σ=[!.ref r,!.ref c0,!.ref a,!.ref b,!.int (-H),z])/\d0 g' d/\∃H' U',Hv g' d n r p q u a b m0 c0 H' U'/\-H'=-H-i/\-H'+-U'=-H+-U,λi σ g' p=>J0,#[#[none,rfl],D0,H,U,W,by omega,rfl],λi y σ g' hy p=>?_,λσ g' p=>?_]
 .let#[#[z,rfl],D1,H',U',W1,e1,e2]:=p;show s9 ?_
  try show wpS _ _ _ _ _ _
  exists Lh (k:=k) hT.ts W1 D1 () () (λh0 g2 x2=>?_) (λH2 t g2 h0 D2 W2=>?_)
  .left;show#[#[_,rfl],x2.draw D1,H',U',W1.ex x2,by rw[h0] at e1 ⊢;simp at e1 ⊢;omega,e2]
  .exists#[#[_,rfl],D2,H2,U'++[t],W2,?_,?_]<;>(rw[h0] at e1 e2;simp at e1 e2 ⊢;omega)
 .let#[#[z,rfl],D1,H',U',W1,e1,e2]:=p;rw[E1] at e1;let hz:-H'=0:=by omega
  try show wpS _ _ _ _ _ _
  exists EJ (k:=k+2) hT W1 () λg2 x2=>?_;let W2:=W1.ex x2;let D2:=x2.draw D1;exists P0 (b9 T _) (AW (b9 T _) ?_);exists j5 (a6 W2.lb) ?_;rw[aj];exists#[by omega,by omega,l6 0 ((-U':Int)+1).toNat,λi σ g'=>(∃z,σ=[!.ref r,!.ref c0,!.ref a,!.ref b,!.int (-H),z])/\d0 g' d/\∃H2 U2,Hv g' d n r p q u a b m0 c0 H2 U2/\-H2+-U2=-H+-U,λi σ g' p=>J0,#[#[_,rfl],D2,H',U',W2,e2],λi y σ g' hy p=>?_,λσ g' p=>?_]
  .let#[#[z,rfl],D3,H2,U2,W3,e3]:=p;show s9 ?_
   try show wpS _ _ _ _ _ _
   exists Lw (k:=k) hT.ts W3 D3 () () (λh0 g4 x4=>?_) (λU3 t g4 i h0 D4 W4=>?_)
   .left;show#[#[_,rfl],x4.draw D3,H2,U2,W3.ex x4,e3]
   .exists#[#[_,rfl],D4,_,U3,W4,?_];rw[h0] at e3;simp at e3 ⊢;omega
  .let#[#[z,rfl],D3,H2,U2,W3,e3]:=p
   try show wpS _ _ _ _ _ _
   left;show EJ (k:=k+2) hT W3 () λg2 x2=>h _
end
def p7:aT:=#[1,1,(cY (cI .Lt aB (ba 3)) (bO (bZ (.prim .lst (vL (bw .tup (bq "cut") (bq "lower")) (bw .tup (bq "cut") (bq "upper")) (bw .tup (bq "fix") (ba 1)))) aB)) (cY (.dY (.chain .LtE .Lt (ba 100) aB (ba 112))) (bO (bw .tup (bq "cut") (bq "lower"))) (cY (.dY (.chain .LtE .Lt (ba 112) aB (ba 116))) (bO (bZ (.prim .lst (tX (.prim .tup (tX (bq "mark") (bq "lower") (ba 12) (ba 5))) (bw .tup (bq "off") (ba 1)) (bw .tup (bq "fix") (ba 12)) (.prim .tup (vL (bq "strike") (ba 12) (ba 1))))) (bw (.bin .Sub) aB (ba 112)))) (cY (cI .Eq (bw (.bin .Mod) aB (ba 9)) (ba 5)) (bO (.prim .tup (tX (bq "mark") (bZ (bw .lst (bq "lower") (bq "upper")) (bw (.bin .Mod) aB (ba 2))) (ba 1) (bw (.bin .Mod) (bw (.bin .FloorDiv) aB (ba 9)) (ba 8))))) (bO (.ite (cI .Eq (bw (.bin .Mod) aB (ba 8)) (ba 4)) (bw .tup (bq "year") (bw (.bin .Add) (ba 1000) aB)) (.prim .tup (vL (bq "strike") (bw (.bin .Add) (ba 1) (bw (.bin .Mult) (ba 11) (bG .int (bw (.cmp .Gt) aB (ba 114))))) (ba 1)))))))))]
def S6:aT:=#[3,7,(eF 5 (dZ 257 aI (.comp [] 3 (.many [1,2]) (.iJ bj) .no aI)) (cY (.hW (.cK (.dY (dZ 7 (.bp "text" [("Ledger",250)] aB .nil) gy))) (.cK (.dY (dZ 7 (.bp "text" [("Ledger",250)] (jQ 255 gy) .nil) gy)))) (bO (.lit (.bl false))) (eF 6 (.bp "twin" [("Mint",68),("Ledger",251)] aB .nil) (oy (.many [3,4]) (.iJ (bG .rev bj)) (eO (.ifs (.cK (.dY (dZ 7 (dZ 256 kK (.lit (.bl false))) cR))) (bO (.lit (.bl false))) .pass)) (bO (.eI (bw (.cmp .Is) (dZ 256 kK (.lit (.bl false))) (.lit .aR)) (dZ 7 (.bp "text" [("Ledger",250)] aB .nil) gy)))))))]
noncomputable abbrev oZ:MS:=match p7.body with|.seq _ r=>r|x=>x
noncomputable abbrev rS:MS:=match oZ with|.seq _ r=>r|x=>x
noncomputable abbrev we:MS:=match rS with|.seq _ r=>r|x=>x
noncomputable abbrev Hd:MS:=match we with|.seq _ r=>r|x=>x
section
variable{T:Nat->Option aT}{c0:Nat}
def yQ(h:p6 x):PyData.strOk x=true:=by rcases h with rfl|rfl<;>decide +kernel
def YX(h:∀(dd:Dd) g',dd.ok->Ex g g'->N.rt dd.d g'):wpS (a8 T k) Hd N [!.int j] g E:=by
 dsimp[Hd,we,rS,oZ,p7];exists if2 (λx=>?_) (λx=>?_)
 .left;show h (.year _) _ trivial (Ex.refl _)
 .left;let cm:qQ 11 (if decide ((114:Int)<(j:Int))=true then 1 else 0):=Gf ∅ ∅;show X9 cm ?_;left;show h (.eL _ _) _ trivial (Ex.refl _)
def YW(h:∀(dd:Dd) g',dd.ok->Ex g g'->N.rt dd.d g'):wpS (a8 T k) we N [!.int j] g E:=by
 dsimp[we,rS,oZ,p7];exists if2 (λy=>?_) (λy=>?_)
 .left;let hs:∃x,p6 x/\iQ [D.str "lower",D.str "upper"] ((j:Int) % 2)=!.str x:=by
   let e:(j:Int) % 2=((j % 2:Nat):Int):=by omega
   rw[e];rcases Nat.mod_two_eq_zero_or_one j with z|z<;>rw[z]
   .exact#[_,.inl rfl,E4 rfl]
   .exact#[_,.inr rfl,E4 rfl]
  let#[x,hx,hi]:=hs;show A5 (a6 b8) hi ?_;left
  try show Ga (j:=9) ∅ ∅ ?_
  left;show h (.mark _ _ _) _ (yQ hx) (Ex.snoc _ _)
 .refine j0 ?_;show YX (N:=N) h
def YV(hj:j<300)(h:∀(dd:Dd) g',dd.ok->Ex g g'->N.rt dd.d g'):wpS (a8 T k) rS N [!.int j] g E:=by
 let rest:=YW (T:=T) (k:=k) (E:=E) (j:=j) (N:=N) h;dsimp[rS,oZ,p7];dsimp[we,rS,oZ,p7] at rest;exists if2 (λc1=>?_) (λc1=>?_)
 .exists if2 (λc2=>?_) (λc2=>?_)
  .left;let hs:∃dd:Dd,dd.ok/\iQ [(Dd.mark "lower" 12 5).d,(Dd.off 1).d,(Dd.fix 12).d,(Dd.eL 12 1).d] ((j:Int)-112)=!dd.d:=by
    obtain rfl|rfl|rfl|rfl:j=112\/j=113\/j=114\/j=115:=by omega
    .exact#[.mark "lower" 12 5,yQ (.inl rfl),rfl]
    .exact#[.off 1,trivial,rfl]
    .exact#[.fix 12,trivial,rfl]
    .exact#[.eL 12 1,trivial,rfl]
   let#[dd,ok,hi]:=hs;show A5 (a6 b8) hi ?_
   try left
   show h dd _ ok (Ex.snoc _ _)
  ·(first|show rest|(show j0 ?_;show rest)|(show tD ?_;show C9 ?_;first|show rest|(show j0 ?_;show rest))|(show C9 ?_;first|show rest|(show j0 ?_;show rest)))
 ·(first|show rest|(show j0 ?_;show rest)|(show tD ?_;show C9 ?_;first|show rest|(show j0 ?_;show rest))|(show C9 ?_;first|show rest|(show j0 ?_;show rest)))
def YU(hj:j<300)(h:∀(dd:Dd) g',dd.ok->Ex g g'->N.rt dd.d g'):wpS (a8 T k) oZ N [!.int j] g E:=by
 let rest:=YV (T:=T) (k:=k) (E:=E) (j:=j) (N:=N) hj h;dsimp[oZ,p7];dsimp[rS,oZ,p7] at rest;exists if2 (λc1=>?_) (λc1=>?_)
 .exists if2 (λc2=>?_) (λc2=>?_)
  .left;show h (.cut "lower") _ (yQ (.inl rfl)) (Ex.refl _)
  ·(first|show rest|(show j0 ?_;show rest)|(show tD ?_;show C9 ?_;first|show rest|(show j0 ?_;show rest))|(show C9 ?_;first|show rest|(show j0 ?_;show rest)))
 ·(first|show rest|(show j0 ?_;show rest)|(show tD ?_;show C9 ?_;first|show rest|(show j0 ?_;show rest))|(show C9 ?_;first|show rest|(show j0 ?_;show rest)))
def aU7(sI:T 261=!p7)(hj:j<300)(h:∀(dd:Dd) g',dd.ok->Ex g g'->Q dd.d g'):a8 T (k+1) 261 [.int j] g Q E:=by
 show call_of sI rfl ?_;delta p7;let rest:=YU (T:=T) (k:=k) (E:=E) (j:=j) (N:=#[λx g'=>Q .aR g',Q,λx x=>False,λx x=>False]) hj h;dsimp[oZ,p7] at rest;exists if2 (λc1=>?_) (λc1=>?_)
 .left;let hs:∃dd:Dd,dd.ok/\iQ [(Dd.cut "lower").d,(Dd.cut "upper").d,(Dd.fix 1).d] (j:Int)=!dd.d:=by
   obtain rfl|rfl|rfl:j=0\/j=1\/j=2:=by omega
   .exact#[.cut "lower",yQ (.inl rfl),rfl]
   .exact#[.cut "upper",yQ (.inr rfl),rfl]
   .exact#[.fix 1,trivial,rfl]
  let#[dd,ok,hi]:=hs;show A5 (a6 b8) hi ?_
  try left
  show h dd _ ok (Ex.snoc _ _)
 ·(first|show rest|(show j0 ?_;show rest)|(show tD ?_;show C9 ?_;first|show rest|(show j0 ?_;show rest))|(show C9 ?_;first|show rest|(show j0 ?_;show rest)))
def aS2(hU:yX T)(hX:TX T)(sH:T 262=!S6)(W:Hv g d n r p q u a b m0 c0 H U)(hl:-H<=600)(kP:-U<=600)(h:∀g',Ex g g'->Q (.bl true) g'):a8 T (k+11) 262 [.ref r,.int n,.ref a] g Q E:=by
 let ws:=W.ws;let bl:(w5 (s0 n) (H.map Ent.key)).bl.length=n:=by
  rw[W.cH.bl];unfold s0;simp
 let hk:(H.map Ent.key).map (·.1)=H.map Ent.dd:=by rw[kE];rfl
 show call_of sH rfl ?_;delta S6;exists Nf (k:=k+10) W () (λh=>w_var rfl h) λg1 i1 e1 b1=>?_;exists UH (k:=k+9) hU.sJ b1 ws.2.2 W.fits (by simp;omega) λg2 e2=>?_;let W2:=W.ex (e1.trans e2);left;let#[ms,m,L2,_,_]:=W2.tf;show c7 L2.ob rfl rfl ?_;exists EE (k:=k+3) hU.ts.tl hU.ts.tr.tq hU.nG L2 W.fits (by simp;omega) λg3 e3=>?_;rw[bl];exists j6 hU.ts.h6 hU.ts.h7 0 (k:=k+8) (.str _) λg4 e4=>?_;left;rw[<- hk];show SV (k:=k+1) hX hU.ts.tl hU.ts.tr.tq ws.2 W.cH (DP ws.2.2) (by simp;omega) λg5 r5 p5 q5 u5 ms5 m5 e5 l5 L5=>?_;rw[hk] at L5;exists c7 L5.ob rfl rfl ?_;exists EE (k:=k+3) hU.ts.tl hU.ts.tr.tq hU.nG L5 W.fits (by simp;omega) λg6 e6=>?_;rw[bl,hk];exists j6 hU.ts.h6 hU.ts.h7 0 (k:=k+8) (.str _) λg7 e7=>?_;let x7:Ex g g7:=e1.trans (e2.trans (e3.trans (e4.trans (e5.trans (e6.trans e7)))));let W7:=W.ex x7;let#[ms7,m7,L7,HD,RO]:=W7.tf;exists c7 L7.ob rfl rfl ?_;exists UG (k:=k+3) hU L7 λg8 r8 p8 q8 u8 e8 lr lp lq lu L8=>?_;rw[<- RO] at L8;let W8:=W7.ex e8;exists P0 (b9 T _) (qw (b9 T _) ?_);exists Xv (a6 W8.la) ?_;let n8:=d5 L8.ud;let n9:=d5 L8.mi;let n10:=d5 L8.dn;let y8:Ex g7 (g8++[.lst (H.map j2).reverse]):=e8.trans (Ex.snoc _ _);let v8:(g8++[.lst (H.map j2).reverse])[(-g8)]?=!.lst (H.map j2).reverse:=b8;let L9:=L8.ex (Ex.snoc g8 (.lst (H.map j2).reverse));generalize g8++[O.lst (H.map j2).reverse]=g9 at *;generalize (-g8)=v at *;generalize Qq:tL n (H.map Ent.dd)=tx at *;show#[v,_,rfl,a6 v8,(H.map j2).reverse,λi σ g'=>(∃z3 z4,σ=[!.ref r,!.int n,!.ref a,z3,z4,!.str tx,!.ref r8])/\Ex g7 g'/\g'[v]?=!.lst (H.map j2).reverse/\∃us,Led g' r8 p8 q8 u8 ((m0,s0 n)::(H.take (-H-i)).map λt=>(t.mi,t.st)) ((H.take (-H-i)).map Ent.dd) us/\-us<=600+i,λi σ g' p=>Q8 (a6 p.2.2.1),#[#[none,none,rfl],y8,v8,_,by rw[Nat.sub_zero,cS];show L9,by simp;omega],λi y σ g' hy p=>?_,λσ g' p=>?_]
 .let#[#[z3,z4,rfl],y9,v9,us,LL,hu]:=p;let hi:i< -H:=by
   have:=(ax.mp hy).1;simpa using this
  rw[List.getElem?_reverse (_/hi),aj,aD,ae] at hy;let#[t,ht,rfl]:=hy;let et:H.take (-H-i)=H.take (-H-(i+1))++[t]:=by
   let e:-H-i=(-H-1-i)+1:=by omega
   rw[e,cV,ht,show (-H)-1-i=-H-(i+1) by omega]
   rfl
  rw[et,aA,aA] at LL;show O3 rfl ?_
  try show wpS _ _ _ _ _ _
  exists MI (k:=k+8) hU.ts (t:=(t.mi,t.st)) (ms:=(m0,s0 n)::(H.take (-H-(i+1))).map λt=>(t.mi,t.st)) LL () λgA F L10=>?_;let yA:Ex g7 gA:=#[aH y9.len F.len,λx hx=>(F.old x () (av hx y9.len)).trans (y9.old x hx)]
  let vA:=F.at (i:=v) () v9;exists j6 hU.ts.h6 hU.ts.h7 1 (k:=k+7) AA λgB eB=>?_;left;show#[#[_,_,rfl],yA.trans eB,eB.at vA,_,L10.ex eB,by simp;omega]
 .let#[#[z3,z4,rfl],y9,v9,us,LL,hu]:=p;rw[show (-H)-(H.map j2).reverse.length=0 by simp,List.take_zero] at LL
  try show wpS _ _ _ _ _ _
  exists Nz (k:=k+8) hU.ts LL ?_;let W9:=W7.ex y9;let#[msA,mA,LA,_,_]:=W9.tf;exists c7 LA.ob rfl rfl ?_;exists EE (k:=k+3) hU.ts.tl hU.ts.tr.tq hU.nG LA W.fits (by simp;omega) λgA eA=>?_;rw[bl];left;rw[Qq];show j6 hU.ts.h6 hU.ts.h7 0 (k:=k+8) (.str _) λgB eB=>h _ (x7.trans (y9.trans (eA.trans eB)))
end
def N5:aT:=#[1,14,(eF 1 (jQ 3 aB) (eF 2 (bw (.bin .Add) (ba 1) (dZ 4 aI (ba 3))) (eF 3 (.make "Ledger" 243 (dP bj)) (eF 4 (jQ 45 bj) (eF 5 (.prim .lst .nil) (eF 6 (.prim .lst .nil) (eF 7 (dZ 4 aI (ba 8)) (oy (.one 8) (.gC (bw (.bin .Add) (bw (.bin .Add) (ba 15) (dZ 4 aI (ba 36))) (bw (.bin .Mult) (ba 300) (bG .int (bw (.cmp .Eq) jj (ba 0)))))) (eF 9 (.ite (.eI (cI .Eq jj (ba 0)) (cI .Lt pe (ba 300))) (ba 8) (dZ 4 aI (ba 9))) (gM (.ifs (cI .Lt wB (ba 2)) (eO (.set 10 (ub 259 cR (.lit (.bl false)) gy kK))) (eO (.ifs (cI .Lt wB (ba 4)) (eO (.set 10 (ub 259 cR (.lit (.bl true)) kK gy))) (eF 11 (jQ 192 (.ite (cI .Gt (bG .len gy) (ba 0)) (bZ (bZ gy (bG (.un .USub) (ba 1))) (ba 1)) fI)) (eF 12 (.ite (.hW (cI .Gt jj (ba 0)) (cI .Gt pe (ba 299))) (dZ 188 aI nu) (jQ 261 pe)) (eF 13 (dZ 183 nu nt) (eF 10 (dZ 191 (dZ 240 cR nt) qt) (eO (.ifs (cI .Eq (bZ qt (ba 0)) (bq "")) (kA (.dk .append gy (dP (bw .tup nt nu))) (eO (.set 6 (.prim .lst .nil)))) .pass))))))))) (eO (.ifs (.hW (.cK (.dY wC)) (.eI (cI .Eq (dZ 4 aI (bZ (bw .tup (ba 40) (ba 4)) (bG .int (bw (.cmp .Gt) jj (ba 0))))) (ba 0)) (.cK (.dY (lR 258 cR fI gy))))) (bO (.lit (.bl false))) .pass)))) (cY (.eI (cI .Eq jj (ba 0)) (.cK (.dY (lR 262 cR bj gy)))) (bO (.lit (.bl false))) (bO (ub 260 cR fI gy kK)))))))))))]
structure vm(T:Nat->Option aT):Prop where
 tu:yX T
 tv:TV T
 tx:TX T
 h3:T 3=!Bm
 RB:T 11=!N5
 CS:T 45=!Aj
 pK:T 191=!AL
 pJ:T 192=!vh
 sL:T 240=!S9
 sI:T 261=!p7
 sH:T 262=!S6
section
variable{T:Nat->Option aT}{c0:Nat}
def Hv.RT(h:Hv g d n r p q u a b m0 c0 H U){u':Nat}(F3:Fr (λx=>x=d) g g3)(hc:-g<=c)(M3:MD g3 c s')(F4:Fr (λx=>x=p\/x=q\/x=r) g3 g4)(hu:-g3<u')(L4:Led g4 r p q u' ((m0,s0 n)::(H.map λt=>(t.mi,t.st))++[(-g3,s')]) (H.map Ent.dd++[dd]) [])(e5:Ex g4 g5)(ok:dd.ok)(e1:(dX (w5 (s0 n) (H.map Ent.key)) dd).1="")(e2:(dX (w5 (s0 n) (H.map Ent.key)) dd).2.2=s') :
  Hv (g5.set a (.lst (H.map j2++[.tup [dd.d,.ref c]]))++[.lst []]) d n r p q u' a (-g5) m0 c0 (H++[#[dd,(-g3),c,s']]) []:=by
 let cl:=d5 M3.cU;let al:=d5 h.la;let f3:=F3.len;let f4:=F4.len;let f5:=e5.len;let ud:=d5 L4.ud;let vr:=d5 h.L.ob;let vp:=d5 h.L.mi;let vq:=d5 h.L.dn;let da:d<a:=h.lo a (.inl (.inr (.inr (.inr (.inr (.inl rfl))))));let a4:g4[a]?=!.lst (H.map j2):=F4.at (by
  let h1:=h.al;let h2:a≠r:=λz=>by have:=h.L.ob;rw[<- z,h.la] at this;cases this
  omega) (F3.at () h.la)
 let a5:=e5.at a4;let nr:r≠a:=λz=>by have:=h.L.ob;rw[z,h.la] at this;cases this
 let old:∀x o,¬Vs r p q u a b x->d<x->g[x]?=!o->(g5.set a (.lst (H.map j2++[.tup [dd.d,.ref c]]))++[.lst []])[x]?=!o:=λx o hv hd e=>by
  unfold Vs at hv;show A8 (a7 (e5.at (F4.at () (F3.at () e))) ())
 let wm:∀{y:Nat} {st:bY},MD g y st->(∀x,y<=x->x<y+7->¬Vs r p q u a b x)->d<y->MD (g5.set a (.lst (H.map j2++[.tup [dd.d,.ref c]]))++[.lst []]) y st:=λM hv hd =>
  #[old _ _ (hv _ () ()) () M.bX,old _ _ (hv _ () ()) () M.dh,old _ _ (hv _ () ()) () M.lower,old _ _ (hv _ () ()) () M.upper,old _ _ (hv _ () ()) () M.gone,old _ _ (hv _ () ()) () M.cU]
 let nv:∀x,x< -g->¬Vs r p q u a b x->¬Vs r p q u' a (-g5) x:=λx hx hv z=>by
  unfold Vs at hv z;omega
 let zQ:=h.al;show#[?_,?_,by rw[show (-g5)=(g5.set a (.lst (H.map j2++[.tup [dd.d,.ref c]]))).length by simp];show b8,λt ht=>?_,wm h.mz h.sz (h.lo c0 (.inr (.inr (.inr (.inl #[ak _,by omega]))))),?_,by omega,#[zQ.1,zQ.2.1,by omega],#[by omega,by omega,by omega],λt ht x h1 h2=>?_,λx h1 h2=>nv x (by have:=d5 h.mz.cU;omega) (h.sz x h1 h2),λx hx=>?_]
 .let L5:Led g4 r p q u' ((m0,s0 n)::(H++([#[dd,(-g3),c,s']]:@&Ent)).map λ(t:Ent)=>(t.mi,t.st)) ((H++([#[dd,(-g3),c,s']]:@&Ent)).map Ent.dd) (([]:@&Ent).map Ent.dd):=by
   rw[aA,aA];show L4
  show L5.keep λx o hx e=>A8 (a7 (e5.at e) λz=>?_);subst z;rcases hx with z|z|z|z|⟨t,ht,z⟩
  .exact nr z.symm
  .exact zQ.1 z
  .exact zQ.2.1 z
  .omega
  .have:=(L5.st t ht).1;rw[<- z,a4] at this;cases this
 .rw[aA];show A8 (get_set a5)
 .simp at ht;rcases ht with ht|rfl
  .exact wm (h.mo t (by simp[ht])) (h.sm t (by simp[ht])) (h.lo _ (.inr (.inr (.inr (.inr #[t,by simp[ht],ak _,by omega])))))
  .let F6:Fr (λx=>x=p \/ x=q \/ x=r \/ x=a) g3 (g5.set a (.lst (H.map j2 ++ [.tup [dd.d,.ref c]])) ++ [.lst []]):=#[by simp;omega,λi hi hl=>by
    rw[ay (by simp;omega),aE (),e5.old i ()];show F4.old i () hl]
   show M3.nR F6 (by intro x h1 h2;omega)
 .rw[List.reverse_nil,eV,aA,ie.app];show#[h.cH,#[e1,e2,ok],trivial]
 .simp at ht;rcases ht with ht|rfl
  .have:=d5 (h.mo t (by simp[ht])).cU;show nv x () (h.sm t (by simp[ht]) x h1 h2)
  .unfold Vs;dsimp only at h1 h2;omega
 .let hr:=h.lo r (.inl (.inl rfl));let hp:=h.lo p (.inl (.inr (.inl rfl)));let hq:=h.lo q (.inl (.inr (.inr (.inl rfl))));rcases hx with z|z|⟨y,hy,z⟩|z|⟨y,hy,z⟩
  .unfold Vs at z;omega
  .exact h.lo x (.inr (.inl z))
  .rcases bS.mp hy with hy|hy
   .exact h.lo x (.inr (.inr (.inl #[y,hy,z])))
   .cases eX.mp hy;dsimp only at z;omega
  .exact h.lo x (.inr (.inr (.inr (.inl z))))
  .simp at hy;rcases hy with hy|rfl
   .exact h.lo x (.inr (.inr (.inr (.inr #[y,by simp[hy],z]))))
   .dsimp only at z;omega
noncomputable abbrev mn:MS:=match N5.body with|.seq _ (.seq _ (.seq _ (.seq _ (.seq _ (.seq _ (.seq _ (.seq (.jK _ _ b) _)))))))=>b|x=>x
noncomputable abbrev oi:MS:=match mn with|.seq _ (.seq i _)=>i|x=>x
noncomputable abbrev sQ:MS:=match mn with|.seq _ (.seq _ e)=>e|x=>x
noncomputable abbrev pX:MS:=match oi with|.ifs _ _ (.seq (.ifs _ _ e) _)=>e|x=>x
noncomputable abbrev A6(d n r c0 a b:Nat)(cw:Int)(z8 z9 z10 z11 z12 z13:Option D):S:=[!.ref 0,!.ref d,!.int n,!.ref r,!.ref c0,!.ref a,!.ref b,!.int cw,z8,z9,z10,z11,z12,z13]
noncomputable abbrev uL:MS:=match pX with|.seq _ t=>t|x=>x
noncomputable abbrev DV:MS:=match uL with|.seq _ t=>t|x=>x
def TH(hT:vm T)(W:Hv g d n r p q u a b m0 c0 H U)(D0:d0 g d)(hz:-H<=800){g2:G}(e1:Ex g g1)(M1:MD g1 (-g) (w5 (s0 n) (H.map Ent.key)))(ok:dd.ok)(D2:d0 g2 d)(G2:Gr d g1 g2)(hN:∀g' u' b' H' U' z11 z12 z13,d0 g' d->Hv g' d n r p q u' a b' m0 c0 H' U'->-H'<=-H+1->-U'<=-U->N.nx (A6 d n r c0 a b' cw (!.int j) z9 (!.bl true) z11 z12 z13) g') :
  wpS (a8 T (k+11)) DV N (A6 d n r c0 a b cw (!.int j) z9 z10 (!.ref (-g)) (!dd.d) z13) g2 E:=by
 let dl:=D0.lt;let l1:=e1.len;let q1:=d5 M1.cU;let l2:=G2.len;dsimp[DV,uL,pX,oi,mn,N5,A6];exists Sf (k:=k+9) hT.tu.ts.tr (M1.gr G2 ()) W.ws.1 ok λg3 K3 M3=>?_;let l3:=K3.len;let F3:Fr (λx=>x=d) g g3:=#[by omega,λi hi hl=>(K3.old i (.inl ()) ()).trans ((G2.old i hi ()).trans (e1.old i hl))]
 let D3:d0 g3 d:=K3.draw () D2;let W3:=W.fr F3 (λx z=>.inl ());let#[ms,m,L3,hl,es]:=W3.tf;let da:d<a:=W.lo a (.inl (.inr (.inr (.inr (.inr (.inl rfl))))));let dr:d<r:=W.lo r (.inl (.inl rfl));let dp:d<p:=W.lo p (.inl (.inr (.inl rfl)));let dq:d<q:=W.lo q (.inl (.inr (.inr (.inl rfl))));exists Yu (k:=k+2) hT.tu.ts.tl hT.tu.ts.tr.tq hT.sL L3 (by simp;omega) ok (λe g4 u' i F4 hu L4 f4 hi=>?_) (λe g4 i e4 f4 hi=>?_)
 .exists MH (k:=k+8) hT.tu.ts.h6 hT.tu.ts.h7 hT.pK f4 Md λg5 e5=>?_;let na:¬(a=p\/a=q\/a=r):=by
   let h1:=W.al;let h2:a≠r:=λz=>by have:=W.L.ob;rw[<- z,W.la] at this;cases this
   omega
  let a5:=e5.at (F4.at na W3.la);rw[<- es] at L4;let W7:=W.RT F3 (ak _) M3 F4 hu L4 e5 ok e rfl;let D5:=e5.draw (D3.nR F4 ());exists fA (by rw[e];rfl) ?_;left
  try show#[C4 a5,?_]
  exists M9 a5 (by simp;omega) ?_;left;rw[iM];show hN _ _ _ _ _ _ _ _ ((D5.yU ()).snoc _) W7 #[_] #[_]
 .exists MH (k:=k+8) hT.tu.ts.h6 hT.tu.ts.h7 hT.pK f4 Md λg5 e5=>?_;exists dB (aO e) ?_;left;show hN _ _ _ _ _ _ _ _ ((e4.trans e5).draw D3) (W3.ex (e4.trans e5)) () ()
def TJ(hT:vm T)(W:Hv g d n r p q u a b m0 c0 H U)(D0:d0 g d)(hz:-H<=800)(hj:¬(0<cw)->¬((299:Int)<j)->j<300)(e1:Ex g g1)(M1:MD g1 (-g) (w5 (s0 n) (H.map Ent.key)))(hN:∀g' u' b' H' U' z11 z12 z13,d0 g' d->Hv g' d n r p q u' a b' m0 c0 H' U'->-H'<=-H+1->-U'<=-U->N.nx (A6 d n r c0 a b' cw (!.int j) z9 (!.bl true) z11 z12 z13) g') :
  wpS (a8 T (k+11)) uL N (A6 d n r c0 a b cw (!.int j) z9 z10 (!.ref (-g)) z12 z13) g1 E:=by
 let dl:=D0.lt;let rest:=λ(dd:Dd) (g2:G) (ok:dd.ok) (D2:d0 g2 d) (G2:Gr d g1 g2)=>TH (k:=k) (E:=E) (z9:=z9) (z10:=z10) (z13:=z13) hT W D0 hz e1 M1 ok D2 G2 hN;dsimp[DV,uL,pX,oi,mn,N5,A6] at rest;dsimp[uL,pX,oi,mn,N5,A6];let q1:=d5 M1.cU;let nw:∀{Q:KD} {E:KX},(∀(dd:Dd) g2,dd.ok->d0 g2 d->Gr d g1 g2->Q dd.d g2)->a8 T (k+11) 188 [.ref d,.ref (-g)] g1 Q E:=λh=>bB6 (k:=k+6) hT.tv M1 W.ws.1 (e1.draw D0) () h;exists if2 (λc1=>?_) (λc1=>?_)
 .left;show nw λdd g2 ok D2 G2=>rest dd g2 ok D2 G2
 .exists if2 (λc2=>?_) (λc2=>?_)
  .left;show nw λdd g2 ok D2 G2=>rest dd g2 ok D2 G2
  .left;show aU7 (k:=k+10) hT.sI (hj c1 c2) λdd g2 ok e2=>rest dd g2 ok (e2.draw (e1.draw D0)) #[e2.len,λi x hl=>e2.old i hl]
def TC(hT:vm T)(W:Hv g d n r p q u a b m0 c0 H U)(D0:d0 g d)(hz:-H<=800)(hj:¬(0<cw)->¬((299:Int)<j)->j<300)(hN:∀g' u' b' H' U' z11 z12 z13,d0 g' d->Hv g' d n r p q u' a b' m0 c0 H' U'->-H'<=-H+1->-U'<=-U->N.nx (A6 d n r c0 a b' cw (!.int j) z9 (!.bl true) z11 z12 z13) g') :
  wpS (a8 T (k+11)) pX N (A6 d n r c0 a b cw (!.int j) z9 z10 z11 z12 z13) g E:=by
 let#[c,M0,dc,hc]:=W.last;let la:=W.la;let rest:=λ(g1:G) (e1:Ex g g1) (M1:MD g1 (-g) (w5 (s0 n) (H.map Ent.key)))=>TJ (k:=k) (E:=E) (z9:=z9) (z10:=z10) (z12:=z12) (z13:=z13) hT W D0 hz hj e1 M1 hN;dsimp[uL,pX,oi,mn,N5,A6] at rest;dsimp[pX,oi,mn,N5,A6];left;rcases hc with⟨h0,rfl⟩|⟨h0,l,x,el⟩
 .refine if2 (λz=>absurd z (by rw[aj,h0];decide)) (λy=>?_);left;show LZ (k:=k+10) hT.pJ M0 λg1 e1 M1=>rest g1 e1 M1
 .refine if2 (λy=>?_) (λz=>absurd (by rw[aj];omega) z);rw[el] at la;exists A5 (a6 la) yK ?_;left;show LZ (k:=k+10) hT.pJ M0 λg1 e1 M1=>rest g1 e1 M1
def TF(hT:vm T)(W:Hv g d n r p q u a b m0 c0 H U)(D0:d0 g d)(hz:-H<=800){z8:Option D}(hN:∀g',d0 g' d->Hv g' d n r p q u a b m0 c0 H U->N.nx (A6 d n r c0 a b cw z8 z9 (!.bl true) z11 z12 z13) g') :
  wpS (a8 T (k+11)) sQ N (A6 d n r c0 a b cw z8 z9 (!.bl true) z11 z12 z13) g E:=by
 dsimp[sQ,mn,N5,A6];left;let hi:∃v:Int,(v=40\/v=4)/\iQ [D.int 40,D.int 4] (if decide ((0:Int)<cw)=true then 1 else 0)=!.int v:=by
  split
  .exact#[4,.inr rfl,rfl]
  .exact#[40,.inl rfl,rfl]
 let#[v,hv,hi]:=hi;show Z6 hi ?_;exists j9 hT.tv.h4 D0 () () λr1 g1 x x D1 G1=>?_;let W1:=W.gr G1;exists if2 (λc1=>?_) (λc1=>?_)
 .exists EJ (k:=k+3) hT.tu W1 () λg2 e2=>?_;left;show hN _ (e2.draw D1) (W1.ex e2)
 .left;show hN _ D1 W1
def bD4(hT:vm T)(W:Hv g d n r p q u a b m0 c0 H U)(D0:d0 g d)(pD:-H<=400)(kP:-U<=400)(hc:0<=cw)(hN:∀g' u' b' H' U' z9 z11 z12 z13,d0 g' d->Hv g' d n r p q u' a b' m0 c0 H' U'->-H'<=-H+1->-U'<=-U+1->N.nx (A6 d n r c0 a b' cw (!.int j) z9 (!.bl true) z11 z12 z13) g') :
  wpS (a8 T (k+11)) mn N (A6 d n r c0 a b cw (!.int j) z9 z10 z11 z12 z13) g E:=by
 let fin:=λ(g':G) (u' b':Nat) (H' U':@&Ent) (z9 z11 z12 z13:Option D) (D':d0 g' d) (W':Hv g' d n r p q u' a b' m0 c0 H' U') (h1:-H'<=-H+1) (h2:-U'<=-U+1)=>TF (k:=k) (E:=E) (N:=N) (z8:=!.int j) (z9:=z9) (z11:=z11) (z12:=z12) (z13:=z13) (cw:=cw) hT W' D' () λRJ D'' W''=>hN RJ u' b' H' U' z9 z11 z12 z13 D'' W'' h1 h2;let Ih:∀(N':Ends) (z9:Option D) (g1:G),d0 g1 d->Hv g1 d n r p q u a b m0 c0 H U->(¬(0<cw)->¬((299:Int)<j)->j<300)->(∀σ g,wpS (a8 T (k+11)) sQ N σ g E->N'.nx σ g)->wpS (a8 T (k+11)) pX N' (A6 d n r c0 a b cw (!.int j) z9 z10 z11 z12 z13) g1 E:=λN' z9 g1 D1 W1 hj Rb=>TC (k:=k) hT W1 D1 () hj λg' u' b' H' U' z11 z12 z13 D' W' h1 h2=>Rb _ _ (fin _ _ _ _ _ _ _ _ _ D' W' h1 ());let zr:∀(v:Int) (g1:G),d0 g1 d->Hv g1 d n r p q u a b m0 c0 H U->(4<=v->¬(0<cw)->¬((299:Int)<j)->j<300)->wpS (a8 T (k+11)) (.seq oi sQ) N (A6 d n r c0 a b cw (!.int j) (!.int v) z10 z11 z12 z13) g1 E:=λv g1 D1 W1 hj=>by
  dsimp[sQ,pX,oi,mn,N5,A6] at fin Ih;dsimp[oi,sQ,mn,N5,A6];exists if2 (λc1=>?_) (λc1=>?_)
  .exists Lh (k:=k+1) hT.tu.ts W1 D1 () () (λh0 g2 x2=>?_) (λH2 t g2 h0 D2 W2=>?_)
   .exact fin _ _ _ _ _ _ _ _ _ (x2.draw D1) (W1.ex x2) () ()
   .exact fin _ _ _ _ _ _ _ _ _ D2 W2 (by rw[h0];simp;omega) #[_]
  .exists if2 (λc2=>?_) (λc2=>?_)
   .exists Lw (k:=k+1) hT.tu.ts W1 D1 () () (λh0 g2 x2=>?_) (λU2 t g2 i h0 D2 W2=>?_)
    .exact fin _ _ _ _ _ _ _ _ _ (x2.draw D1) (W1.ex x2) () ()
    .exact fin _ _ _ _ _ _ _ _ _ D2 W2 #[_] (by rw[h0];simp;omega)
   .exact Ih _ _ _ D1 W1 (hj ()) λσ g h=>h
 dsimp[sQ,oi,mn,N5,A6] at zr;dsimp[mn,N5,A6];let two:∀{Q':KD},(∀v g1,d0 g1 d->Hv g1 d n r p q u a b m0 c0 H U->Q' (.int v) g1)->a8 T (k+11) 4 [.ref d,.int 9] g Q' E:=λh=>j9 hT.tv.h4 D0 ∅ ∅ λr1 g1 x x D1 G1=>h _ _ D1 (W.gr G1);exists if2 (λc1=>?_) (λc1=>?_)
 .exists if2 (λc2=>?_) (λc2=>?_)
  .refine w_lit ?_;show zr 8 g D0 W (λx x x=>by omega)
  .left;show two λv g1 D1 W1=>zr v g1 D1 W1 (λx x h=>absurd () h)
 .left;show two λv g1 D1 W1=>zr v g1 D1 W1 (λx h=>absurd () h)
def UC(hT:vm T){ns:@&Int}:a8 T (k+12) 11 [.ref 0] [.pV (ns.map .int)] (λd w=>d=.bl true) ku:=by
 show call_of hT.RB rfl ?_;delta N5;exists Sv hT.h3 (a:=0) (ns:=ns) rfl λd g D0 w w=>?_;exists j9 hT.tv.h4 D0 ∅ ∅ λr2 g2 r20 r21 D2 G2=>?_;left;obtain⟨n,hn⟩:∃n:Nat,1+r2=n:=#[(1+r2).toNat,by omega]
 rw[hn];let HC:1<=n/\n<=9:=by omega
 show ED (k:=k+6) hT.tu.ts.tl hT.tu.ts.tr.tq.tm (λn' e1 w w=>?_) (λhv=>absurd #[by omega,by omega] hv);obtain rfl:n=n':=by omega
 show#[rfl,?_];let dl:=D2.lt;let L3:=Mn (g:=g2) HC;let x3:Ex g2 (g2++[A4 (-g2+2) (-g2+3) (-g2+4),c5 (s0 n),.lst [.ref (-g2+1)],.lst [],.lst []]):=#[by simp,λi hi=>ay hi]
 let D3:=x3.draw D2;let l3:(g2++[A4 (-g2+2) (-g2+3) (-g2+4),c5 (s0 n),.lst [.ref (-g2+1)],.lst [],.lst []]).length=-g2+5:=by simp
 generalize g2++[A4 (-g2+2) (-g2+3) (-g2+4),c5 (s0 n),.lst [.ref (-g2+1)],.lst [],.lst []]=g3 at *;exists a60 (k:=k+10) hT.CS HC.2 λg4 x4 M4=>?_;let q4:=d5 M4.cU;left;let x5:Ex g4 (g4++[O.lst []]):=Ex.snoc _ _;let a5:(g4++[O.lst []])[(-g4)]?=!(.lst (([]:@&Ent).map j2)):=b8;let l5:(g4++[O.lst []]).length=-g4+1:=by simp
 generalize g4++[O.lst []]=g5 at *;let x6:Ex g5 (g5++[O.lst []]):=Ex.snoc _ _;let b6:(g5++[O.lst []])[(-g5)]?=!(.lst (([]:@&Ent).map j2)):=b8;generalize g5++[O.lst []]=g6 at *;let W6:Hv g6 d n (-g2) (-g2+2) (-g2+3) (-g2+4) (-g4) (-g5) (-g2+1) (-g3) [] []:=by
  show#[L3.ex (x4.trans (x5.trans x6)),x6.at a5,b6,λt ht=>by simp at ht,M4.ex (x5.trans x6),trivial,by omega,by omega,by omega,λt ht=>by simp at ht,λx h1 h2=>by unfold Vs;omega,λx hx=>?_];rcases hx with z|z|⟨y,hy,z⟩|z|⟨y,hy,z⟩
  .unfold Vs at z;omega
  .omega
  .simp at hy
  .omega
  .simp at hy
 let D6:d0 g6 d:=(x4.trans (x5.trans x6)).draw D3;generalize (-g2)+2=p at *;generalize (-g2)+3=q at *;generalize (-g2)+4=u at *;generalize (-g2)+1=m0 at *;generalize (-g2)=r at *;generalize (-g4)=a at *;generalize (-g5)=b at *;generalize (-g3)=c0 at *;clear L3 x3 D3 x4 M4 x5 a5 x6 b6;show j9 hT.tv.h4 D6 ∅ ∅ λcw g7 Sd c01 D7 G7=>?_;let W7:=W6.gr G7;exists P0 (b9 T _) (AW (b9 T _) ?_);exists j9 hT.tv.h4 D7 ∅ ∅ λr9 g9 r90 r91 D9 G9=>?_;let W9:=W7.gr G9;exists X9 (Gf ∅ ∅) ?_;left;let tz:∃m:Nat,15+r9+300*(if decide (cw=0)=true then 1 else 0)=(m:Int)/\m<=350:=by
  split
  .exact#[(15+r9+300).toNat,by omega,by omega]
  .exact#[(15+r9).toNat,by omega,by omega]
 let#[m,em,hm]:=tz;rw[em];show#[by omega,by omega,l6 0 (m:Int).toNat,λi σ g=>d0 g d/\∃u b H U,Hv g d n r p q u a b m0 c0 H U/\-H<=i/\-U<=i/\∃z8 z9 z10 z11 z12 z13,σ=A6 d n r c0 a b cw z8 z9 z10 z11 z12 z13,λi σ g p=>J0,#[D9,_,_,[],[],W9,cJ _,cJ _,none,none,none,none,none,none,rfl],λi y σ g hy p=>?_,λσ g p=>?_]
 .let#[D0,u,b,H,U,W,pD,kP,z8,z9,z10,z11,z12,z13,rfl]:=p;let#[hi,rfl]:=O4 hy;rw[vH];show s9 ?_;show bD4 (k:=k) hT W D0 () () Sd λg' u' b' H' U' z9 z11 z12 z13 D' W' h1 h2=>#[D',_,_,_,_,W',by omega,by omega,_,_,_,_,_,_,rfl]
 .let#[D0,u,b,H,U,W,pD,kP,z8,z9,z10,z11,z12,z13,rfl]:=p;rw[E1] at pD kP
  try show wpS _ _ _ _ _ _
  dsimp[A6];exists if2 (λc1=>?_) (λc1=>?_)
  .exists aS2 (k:=k) hT.tu hT.tx hT.sH W () () λg1 e1=>?_;left;show MV (k:=k) hT.tu (W.ex e1) (e1.draw D0) () () λg'=>rfl
  .left;show MV (k:=k) hT.tu W D0 () () λg'=>rfl
end
end M
namespace Lk
open PySem L2 M
abbrev top(i:Nat):Stmt:=PySem.Challenge.pw_trussel_k49_whole_back_and_again.main.body.getD i (.Pass #[0,0,0,0])
abbrev bB9:Stmt->@&Stmt
 |.ClassDef (body:=b) ..=>b
 |_=>[]
abbrev Kb(i j:Nat):Stmt:=(bB9 (top i)).getD j (.Pass #[0,0,0,0])
abbrev F:@&RF:=[#[38,"is_number",["thing"],1,19,EV],#[1,"number_from",["number","least","most"],3,20,Y4],#[16,"both",["one","other"],2,21,FH],#[40,"check_side",["side"],1,26,T1],#[177,"with_thing",["things","at","thing"],3,27,S7],#[42,"check_anvils",["anvils"],1,30,V3],#[43,"check_cut",["wear","die"],2,33,EU],#[166,"plain_number",["text","number"],1,38,N1],#[238,"check_deed",["deed"],1,41,Fn],#[239,"done_at",["mint","deed","word"],2,42,Se],#[252,"read_thing",["form","word"],2,44,S8],#[253,"read_deed",["row","first","words","things"],1,45,Fd],#[254,"read_first_row",["row","words"],1,46,S1],#[255,"read_ledger",["text","rows","ledger","at","deed"],1,47,Y3],#[3,"_law_open",["_law_script"],1,49,Bm],#[4,"_law_pull",["_law_draw","_law_total_of","_law_cell","_law_got","_law_seed"],2,50,P2],#[5,"_law_far",["_law_draw","_law_number"],1,51,tw],#[36,"_law_near",["_law_draw","_law_total_of"],2,52,Bl],#[6,"_law_num",["_law_found"],1,53,tB],#[7,"_law_like",["_law_found","_law_due"],2,54,B9],#[45,"_law_model",["_law_anvils"],1,55,Aj],#[192,"_law_m_copy",["_law_m","_law_other","_law_word"],1,56,vh],#[46,"_law_m_cut",["_law_m","_law_side_here"],2,57,Bi],#[178,"_law_m_fix",["_law_m","_law_die","_law_seat"],2,58,Bj],#[179,"_law_m_off",["_law_m","_law_die","_law_seat"],2,59,Bk],#[181,"_law_m_mark",["_law_m","_law_side_here","_law_die","_law_spot","_law_marks"],4,60,vi],#[182,"_law_m_strike",["_law_m","_law_lower","_law_upper"],3,61,AK],#[183,"_law_m_do",["_law_m","_law_deed_here","_law_word"],2,62,DZ],#[37,"_law_number_of",["_law_draw","_law_numbers"],2,63,Fc],#[29,"_law_side",["_law_draw"],1,64,Bn],#[188,"_law_deed",["_law_draw","_law_m","_law_turn","_law_on","_law_idle","_law_uppers","_law_side_here","_law_year","_law_years"],2,65,P6],#[191,"_law_same_end",["_law_found","_law_due"],2,66,AL],#[47,"_law_mint_stands",["_law_mint","_law_m","_law_side_here","_law_die","_law_word"],2,67,P4],#[240,"_law_ledger_do",["_law_ledger","_law_deed_here"],2,68,S9],#[256,"_law_step_back",["_law_ledger","_law_again"],2,69,K6],#[257,"_law_text",["_law_anvils","_law_deeds","_law_rows","_law_deed_here"],2,70,Bo],#[258,"_law_stands",["_law_ledger","_law_first","_law_done","_law_m"],3,71,yN],#[259,"_law_moved",["_law_ledger","_law_again","_law_ahead","_law_behind","_law_found"],4,72,Ak],#[260,"_law_all_back",["_law_ledger","_law_first","_law_done","_law_undone","_law_size","_law_step"],4,73,EF],#[261,"_law_plain_deed",["_law_turn"],1,74,p7],#[262,"_law_written_so",["_law_ledger","_law_anvils","_law_done","_law_deed_here","_law_there","_law_text_here","_law_other"],3,75,S6],#[11,"law",["_law_script","_law_draw","_law_anvils","_law_ledger","_law_first","_law_done","_law_undone","_law_crowd","_law_turn","_law_way","_law_good","_law_m","_law_deed_here","_law_due"],1,76,N5]]
abbrev Ms:@&RM:=[#[51,"Mint","__init__","Mint.__init__",["self","anvils"],2,34,0,EZ],#[52,"Mint","wear_of","Mint.wear_of",["self","side"],2,34,1,Y5],#[53,"Mint","put_wear","Mint.put_wear",["self","side","wear"],3,34,2,V0],#[54,"Mint","cut","Mint.cut",["self","side","wear"],2,34,3,EG],#[55,"Mint","fix","Mint.fix",["self","die","state","anvil"],2,34,4,EH],#[56,"Mint","lay_off","Mint.lay_off",["self","die","anvil"],2,34,5,Y8],#[57,"Mint","mark","Mint.mark",["self","side","die","spot","marks"],4,34,6,Q6],#[58,"Mint","strike","Mint.strike",["self","lower","upper","coin"],3,34,7,Y7],#[59,"Mint","begin_year","Mint.begin_year",["self","number"],2,34,8,O5],#[60,"Mint","anvils","Mint.anvils",["self"],1,34,9,Y9],#[61,"Mint","dies","Mint.dies",["self","side"],2,34,10,EY],#[62,"Mint","marks","Mint.marks",["self","side","die","wear"],3,34,11,Fo],#[63,"Mint","state","Mint.state",["self","die"],2,34,12,Fp],#[64,"Mint","year","Mint.year",["self"],1,34,13,Fb],#[65,"Mint","struck","Mint.struck",["self"],1,34,14,Y6],#[66,"Mint","coin","Mint.coin",["self","number"],2,34,15,EX],#[67,"Mint","hoard","Mint.hoard",["self","numbers"],2,34,16,N3],#[68,"Mint","twin","Mint.twin",["self","other"],1,34,17,X3],#[243,"Ledger","__init__","Ledger.__init__",["self","anvils"],2,43,0,Z2],#[244,"Ledger","go_on","Ledger.go_on",["self","deed","mint","given"],2,43,1,Z3],#[245,"Ledger","do","Ledger.do",["self","deed","given"],2,43,2,EW],#[246,"Ledger","back","Ledger.back",["self","deed"],1,43,3,E2],#[247,"Ledger","again","Ledger.again",["self","deed"],1,43,4,C5],#[248,"Ledger","deeds","Ledger.deeds",["self"],1,43,5,V1],#[249,"Ledger","mint","Ledger.mint",["self"],1,43,6,Z1],#[250,"Ledger","text","Ledger.text",["self","rows","deed"],1,43,7,P5],#[251,"Ledger","twin","Ledger.twin",["self","other"],1,43,8,Z0]]
abbrev con:@&(Str×D):=[("LAST_SPOT",.int 7),("LAST_DIE",.int 99),("LAST_YEAR",.int 9999),("SIDES",.tup [(.str "lower"),(.str "upper")]),("MOST_ANVILS",.int 9),("MOST_STRUCK",.int 200),("FIGURES",.str "0123456789"),("MOST_FIGURES",.int 4)]
abbrev gd:@&(Str×@&D):=[("FORMS",[.tup [.str "cut",.tup [(.str "side")]],.tup [.str "fix",.tup [(.str "number")]],.tup [.str "off",.tup [(.str "number")]],.tup [.str "mark",.tup [(.str "side"),(.str "number"),(.str "number")]],.tup [.str "strike",.tup [(.str "number"),(.str "number")]],.tup [.str "year",.tup [(.str "number")]]])]
abbrev exc:@&Str:=["BadAnvils","BadDeed","BadSide","BadSpot","BadYear","Fixed","Full","Gone","Marked","MintError","NoAnvil","NoCoin","NoDie","NotFixed","Nothing"]
def c0:d7:=#[[],[],true,F.map λr=>(r.nm,r.id),con,["len","list","tuple","isinstance","all","range","int","bool","str","sorted","set","dict","zip"],exc,gd,[("Mint",51),("Ledger",243)],Ms.map λr=>(r.nm,r.cl,r.id),[("bench","Mint"),("laid_off","Mint"),("lower_wear","Mint"),("upper_wear","Mint"),("present","Mint"),("output","Mint"),("mints","Ledger"),("done","Ledger"),("undone","Ledger")],true,true,true]
noncomputable abbrev T:Nat->Option aT:=uP F Ms
def tx:lF c0 F Ms top Kb:=by
 show#[rfl,rfl,by decide +kernel,by decide +kernel,by decide +kernel,by decide +kernel,?_,?_,?_,?_]
 all_goals
  repeat first
   |show BF.nil
   |show BM.nil
   |show YF.nil
   |show YM.nil
   |show YF.cons (by kernel_rfl) ?_
   |show YM.cons (by kernel_rfl) ?_
   |show BF.cons (λx x x x x x=>(by(repeat show GX λx=>?_);show GW rfl)) ?_
   |show BM.cons (λx x x x x x=>(by(repeat show GX λx=>?_);show GW rfl)) ?_
inductive uH:@&DictEntry->@&(Str×V)->Prop
 |nil:uH [] []
 |cons {h:Int} {x:Str} {t:Tok} {u:Value} {v:V} {es:@&DictEntry} {vs:@&(Str×V)} (r:RelV v u) (q:uH es vs):uH (#[h,.str x t,u]::es) ((x,v)::vs)
set_option tactic.hygienic true in
def uH.find{es vs}(x:Str)(h:uH es vs):C7 (vs.lookup x) (findBy Value.isStrOf es.toArray x):=by
 induction h with
 |nil=>trivial
 |cons r q ih =>
  rename_i h y t u v es vs;unfold findBy at ih ⊢;rw[List.find?_toArray] at ih ⊢;rw[iN,dF];by_cases e:x=y
  .rw[show(x==y)=true from by simp[e],show Value.isStrOf x (.str y t)=true from by simp[Value.isStrOf,e]];show r
  .rw[show(x==y)=false from by simpa using e,show Value.isStrOf x (.str y t)=false from by simp[Value.isStrOf];show λz=>e (z.symm)];show ih
def all_mk{l:PySem.W.OpenLaw}{w:World}{K:PySem.W.Frag}{h:Heap}{mg:Str->Option Value}{fa:Addr}{DJ zZ km kl kj ki kh kf:Addr}{t0 t1 t2 yi yh t4 t5 t6 t7 qL qK qJ qI qH nJ pU pT pS pR pQ pP pO pN pM:Tok}{DG:Array (Option Value)}{DH:Nat}{RG:Nat}{nQ nP nO nN nM nL:Int}{xM:Array (Option Value)}{xT:Nat}{xK:Array (Option Value)}{xS:Nat}{xJ:Array (Option Value)}{xR:Nat}{xI:Array (Option Value)}{xQ:Nat}{xH:Array (Option Value)}{xP:Nat}{xG:Array (Option Value)}{xO:Nat}(X:K.In h)(G:h.Ns mainGlobals mg)(QI:mg "law"=!.ref fa)(I:lG K c0 F Ms top Kb)(e0:PySem.W.nsIn K mainGlobals "LAST_SPOT"=!!Value.int 7 t0)(e1:PySem.W.nsIn K mainGlobals "LAST_DIE"=!!Value.int 99 t1)(e2:PySem.W.nsIn K mainGlobals "LAST_YEAR"=!!Value.int 9999 t2)(e3:PySem.W.nsIn K mainGlobals "SIDES"=!!.ref DJ)(Sa:K.lookup DJ=!#[.type "tuple",none,.seq (List.toArray [Value.str "lower" yi,Value.str "upper" yh]) DH,DG])(e4:PySem.W.nsIn K mainGlobals "MOST_ANVILS"=!!Value.int 9 t4)(e5:PySem.W.nsIn K mainGlobals "MOST_STRUCK"=!!Value.int 200 t5)(e6:PySem.W.nsIn K mainGlobals "FIGURES"=!!(Value.str "0123456789" t6))(e7:PySem.W.nsIn K mainGlobals "MOST_FIGURES"=!!Value.int 4 t7)(g0:PySem.W.nsIn K mainGlobals "FORMS"=!!.ref zZ)(RH:K.lookup zZ=!#[.type "dict",none,.dict (List.toArray [#[nQ,Value.str "cut" qL,Value.ref km],#[nP,Value.str "fix" qK,Value.ref kl],#[nO,Value.str "off" qJ,Value.ref kj],#[nN,Value.str "mark" qI,Value.ref ki],#[nM,Value.str "strike" qH,Value.ref kh],#[nL,Value.str "year" nJ,Value.ref kf]]) RG,(List.toArray [])])(xZ:K.lookup km=!#[.type "tuple",none,.seq (List.toArray [Value.str "side" pU]) xT,xM])(xY:K.lookup kl=!#[.type "tuple",none,.seq (List.toArray [Value.str "number" pT]) xS,xK])(xX:K.lookup kj=!#[.type "tuple",none,.seq (List.toArray [Value.str "number" pS]) xR,xJ])(xW:K.lookup ki=!#[.type "tuple",none,.seq (List.toArray [Value.str "side" pR,Value.str "number" pQ,Value.str "number" pP]) xQ,xI])(xV:K.lookup kh=!#[.type "tuple",none,.seq (List.toArray [Value.str "number" pO,Value.str "number" pN]) xP,xH])(xU:K.lookup kf=!#[.type "tuple",none,.seq (List.toArray [Value.str "number" pM]) xO,xG])(rR:nQ=PyData.keyHash w.params "cut")(rQ:nP=PyData.keyHash w.params "fix")(rP:nO=PyData.keyHash w.params "off")(rO:nN=PyData.keyHash w.params "mark")(rL:nM=PyData.keyHash w.params "strike")(rK:nL=PyData.keyHash w.params "year")(RE:(zZ==sysModules)=false)
  : ∃fd:FuncData,(∀(s:Shared) (v:Value),BindsTo s fd #[[v],[]] [("_law_script",v)])/\∀base:Heap,K.In base->base.Ns mainGlobals mg->gN l.prog w K mg base (gT l.prog w) 80 fa fd ["_law_script"] (qp exc K 1 (a8 T 40 11)):=by
 let A:nX w K mg c0 T:=by
  show bE1 I tx X G (λx d hx=>?_) (λx kvs hx=>?_)
  .let hm:=aL hx;simp only[c0,con,List.mem_cons,List.mem_nil_iff,or_false] at hm;rcases hm with z|z|z|z|z|z|z|z
   .cases z;show#[(.int 7),_,bP X G e0,#[_,rfl],λy y=>.int _]
   .cases z;show#[(.int 99),_,bP X G e1,#[_,rfl],λy y=>.int _]
   .cases z;show#[(.int 9999),_,bP X G e2,#[_,rfl],λy y=>.int _]
   .cases z;show#[.ref DJ,_,bP X G e3,rfl,λy y=>.tup (vs:=[.str "lower",.str "upper"]) (.inr #[_,_,_,Sa,rfl,rfl,rfl,(by change 2<=sizeLine;decide),.cons #[_,rfl] (.cons #[_,rfl] (.nil))]) (.cons (.str _) (.cons (.str _) (.nil)))]
   .cases z;show#[(.int 9),_,bP X G e4,#[_,rfl],λy y=>.int _]
   .cases z;show#[(.int 200),_,bP X G e5,#[_,rfl],λy y=>.int _]
   .cases z;show#[(.str "0123456789"),_,bP X G e6,#[_,rfl],λy y=>.str _]
   .cases z;show#[(.int 4),_,bP X G e7,#[_,rfl],λy y=>.int _]
  .let hm:=aL hx;simp only[c0,gd,List.mem_cons,List.mem_nil_iff,or_false] at hm;let z:=hm
   .cases z;let er:uH [#[nQ,Value.str "cut" qL,Value.ref km],#[nP,Value.str "fix" qK,Value.ref kl],#[nO,Value.str "off" qJ,Value.ref kj],#[nN,Value.str "mark" qI,Value.ref ki],#[nM,Value.str "strike" qH,Value.ref kh],#[nL,Value.str "year" nJ,Value.ref kf]] [("cut",.ref km),("fix",.ref kl),("off",.ref kj),("mark",.ref ki),("strike",.ref kh),("year",.ref kf)]:=.cons (v:=.ref km) rfl (.cons (v:=.ref kl) rfl (.cons (v:=.ref kj) rfl (.cons (v:=.ref ki) rfl (.cons (v:=.ref kh) rfl (.cons (v:=.ref kf) rfl (.nil))))));show#[zZ,_,bP X G g0,#[_,_,RH,#[#[_,_,rfl,rR],#[#[_,_,rfl,rQ],#[#[_,_,rfl,rP],#[#[_,_,rfl,rO],#[#[_,_,rfl,rL],#[#[_,_,rfl,rK],True.intro]]]]]],RE,λx=>er.find x],.cons (λy y=>.tup (vs:=[.str "side"]) (.inr #[_,_,_,xZ,rfl,rfl,rfl,(by change 1<=sizeLine;decide),.cons #[_,rfl] (.nil)]) (.cons (.str _) (.nil))) (.cons (λy y=>.tup (vs:=[.str "number"]) (.inr #[_,_,_,xY,rfl,rfl,rfl,(by change 1<=sizeLine;decide),.cons #[_,rfl] (.nil)]) (.cons (.str _) (.nil))) (.cons (λy y=>.tup (vs:=[.str "number"]) (.inr #[_,_,_,xX,rfl,rfl,rfl,(by change 1<=sizeLine;decide),.cons #[_,rfl] (.nil)]) (.cons (.str _) (.nil))) (.cons (λy y=>.tup (vs:=[.str "side",.str "number",.str "number"]) (.inr #[_,_,_,xW,rfl,rfl,rfl,(by change 3<=sizeLine;decide),.cons #[_,rfl] (.cons #[_,rfl] (.cons #[_,rfl] (.nil)))]) (.cons (.str _) (.cons (.str _) (.cons (.str _) (.nil))))) (.cons (λy y=>.tup (vs:=[.str "number",.str "number"]) (.inr #[_,_,_,xV,rfl,rfl,rfl,(by change 2<=sizeLine;decide),.cons #[_,rfl] (.cons #[_,rfl] (.nil))]) (.cons (.str _) (.cons (.str _) (.nil)))) (.cons (λy y=>.tup (vs:=[.str "number"]) (.inr #[_,_,_,xU,rfl,rfl,rfl,(by change 1<=sizeLine;decide),.cons #[_,rfl] (.nil)]) (.cons (.str _) (.nil))) (.nil))))))]
 let#[f,fd,O,a,t]:=MF I tx _ (aP (i:=41) rfl);cases QI.symm.trans (bP X G a);let#[oc,od,kV,doc,pm,an,fJ,ct,mE,rfl,lk,lY]:=O.fn.ex;show#[_,λs v=>.of_eq rfl,λbase nz xN=>XY nz xN A 40 11 _ _ fa _ rfl O]
def walk{l:PySem.W.OpenLaw}{q:Program}{loose:@&Str}{XP:(Str->Option Value)->Heap->Prop}{YP:World->Heap->Prop}{d:DefRec}{K:Params->PySem.W.Frag}(hn:l.most=!63)(xo:d.params.defaults=[])(hY:∀(w:World) (h:Heap),YP w h->(K w.params).In h)(F:∀ (w:World) (mg:Str->Option Value) (fa:Addr) (h:Heap),(K w.params).In h->h.Ns mainGlobals mg->mg d.name=!.ref fa ->
   ∃ fd:FuncData,(∀ (s:Shared) (u:Value),BindsTo s fd #[[u],[]] [("_law_script",u)])/\∀ base:Heap,(K w.params).In base->base.Ns mainGlobals mg->gN l.prog w (K w.params) mg base (gT l.prog w) 80 fa fd ["_law_script"] (qp exc (K w.params) 1 (a8 T 40 11))) :
  PySem.W.WalkO q loose XP YP l.row.toRowW d [] (λf vs=>PySem.call f vs) :=
 L2.TY (n:=63) (k:=80) (x:="_law_script") (CX:=λw=>gT l.prog w) (sp:=λw=>qp exc (K w.params) 1 (a8 T 40 11)) hn ∅ xo #[rfl,by decide,by decide] hY F (λw H a ns hl hO hS=>Yt hO hS (UC (k:=28) #[#[#[#[#[#[#[rfl,rfl],rfl,rfl,rfl,rfl,rfl,rfl,rfl,rfl,rfl,rfl,rfl,rfl,rfl,rfl],rfl,rfl,rfl,rfl,rfl,rfl,rfl],rfl,rfl,rfl,rfl,rfl,rfl],#[rfl,rfl,rfl,rfl,rfl,rfl,rfl,rfl],rfl,rfl,rfl,rfl,rfl,rfl],rfl,rfl,rfl,rfl,rfl,rfl,rfl],#[rfl,rfl,rfl,rfl,rfl,rfl],#[rfl,rfl,rfl,rfl,rfl],rfl,rfl,rfl,rfl,rfl,rfl,rfl,rfl])) (by rintro _ _ _ _ _ ⟨_,_,_,_,_,_,_,z⟩;show z)
end Lk
end _X
open _X
open PySem PySem.W PyProof.Rows
set_option maxRecDepth 100000 in
set_option maxHeartbeats 0 in
theorem PySem.Challenge.cw_trussel_k49_whole_back_and_again_holds : PySem.Challenge.rw_trussel_k49_whole_back_and_again.Holds := by
 w_on;o_law;k_head;(case hw=>w_witness2)
 k_fill
 refine Lk.walk (l:=PySem.Challenge.rw_trussel_k49_whole_back_and_again) rfl rfl (fun w h Y=>PySem.W.kIn_of Y) ?F
 case F =>
  intro w mg fa h KX G hmg
  refine' Lk.all_mk KX G hmg ⟨?zz1,?zz2,?zz3,?zz4,?zz5,?zz6,?zz7⟩ ?_ ?_ ?_ ?_ ?_ ?_ ?_ ?_ ?_ ?_ ?_ ?_ ?_ ?_ ?_ ?_ ?_ ?_ ?_ ?_ ?_ ?_ ?_ ?_
  (case zz1=>repeat' first | (with_reducible show _=_;k_is) | exact M.PF.nil | apply M.PF.cons)
  (case zz2=>repeat' first | (with_reducible show _=_;k_is) | exact M.PM.nil | apply M.PM.cons)
  (case zz3=>repeat' first | (with_reducible show _=_;k_is) | exact M.PC.nil | apply M.PC.cons)
  (case zz4=>repeat' first | (with_reducible show _=_;k_is) | exact M.PA.nil | apply M.PA.cons)
  (case zz5=>repeat' first | (with_reducible show _=_;k_is) | exact M.PB.nil | apply M.PB.cons)
  (case zz6=>repeat' first | (with_reducible show _=_;first | (with_reducible show PySem.W.excIn _ _ _ _=true;k_exc) | k_is) | exact M.PX.nil | apply M.PX.cons)
  (case zz7=>kernel_rfl)
  all_goals try (with_reducible show _=_;k_is)
  all_goals try ((with_reducible show _=_);rfl)
#print axioms PySem.Challenge.cw_trussel_k49_whole_back_and_again_holds
