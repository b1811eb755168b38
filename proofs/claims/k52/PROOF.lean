import PyProof.Rows.All
import Wide.All
import OpenK.AllK
import Wide.FinOn
import Lean
import PyProof.EqAt
import PyProof.EqKinds
import PyProof.TupleCall
import PySem.Challenge.RW_trussel_k52_whole_texts_spoilt
set_option Elab.async false
set_option linter.all false
set_option maxRecDepth 100000
set_option maxHeartbeats 4000000
set_option genInjectivity false
set_option bootstrap.genMatcherCode false
set_option genSizeOf false
set_option compiler.extract_closed false
set_option compiler.reuse false
local macro_rules|`(def $i:declId $s:optDeclSig $v:declVal)=>`(noncomputable def $i:declId $s:optDeclSig $v:declVal)
open Lean in
local macro_rules|`(universe $i)=>do
 let t<-`(theorem x:True:=⟨⟩)
 let f:=fun (n:Name)=>t.raw.setArg 1 ((t.raw.getArg 1).setArg 1 ((t.raw[1][1]).setArg 0 (mkIdent (.mkStr `PySem.W.Fast s!"tw{Name.hash n}"))))
 return mkNullNode (((`PySem.Challenge.rw_trussel_k52_whole_texts_spoilt::`PySem.Challenge.pw_trussel_k52_whole_texts_spoilt::[("o",List.range 884),("env",[41]),("heap",[39,46,884]),("sts",[49,71,86,101,116,131,146,161,176,191,206,221,236,251,266,281,325,355,584,614,691,780,863]),("tree",[47,70,85,100,115,130,145,160,175,190,205,220,235,250,265,280,324,354,496,580,611,690,779,862,883]),("view",[39])].flatMap fun (x,l)=>l.map fun i=>.mkStr `PySem.Challenge.cw_trussel_k52_whole_texts_spoilt_holds s!"{x}_{i}").map f).toArray)
universe x
namespace _X
set_option tactic.hygienic false
local macro_rules|`(#[$xs,*])=>`(⟨$xs,*⟩)
local macro_rules|`(_/$x)=>`(by simpa using $x)
local macro_rules|`(tactic|show $t)=>`(tactic|refine $t)
open Lean in
@[reducible]def pw_:Nat->Term->MacroM (TSyntax `rcasesPat)
 |0,_=>Macro.throwUnsupported
 |n+1,t=>do match t with
  |`(#[$xs,*])=>do let ys<-xs.getElems.mapM (pw_ n);`(rcasesPat|⟨$[$ys:rcasesPat],*⟩)
  |`(⟨$xs,*⟩)=>do let ys<-xs.getElems.mapM (pw_ n);`(rcasesPat|⟨$[$ys:rcasesPat],*⟩)
  |`(_)=>`(rcasesPat|_)
  |`($i:ident)=>`(rcasesPat|$i:ident)
  |_=>Macro.throwUnsupported
open Lean in
@[reducible]def ex_(e:Term)(xs:Array (TSyntax `rcasesPat))(t:TSyntax `tactic):MacroM (TSyntax `tactic):=do
 let n:=xs.size
 let mut t:=t
 if n>1&&n<13 then
  let r<-xs.mapM fun p=>`(rintroPat|$p:rcasesPat)
  let c:TSyntax `tactic<-if e.raw.isIdent then`(tactic|try clear $(⟨e.raw⟩):ident)else`(tactic|skip)
  for i in[0:n]do
   let k:=n-1-i
   let f:=mkIdent (.mkSimple s!"E{k}_{n-k}")
   t<-`(tactic|first|(refine $f ($e :) ?_;$c;rintro $r*)|($t:tactic))
 return t
local macro_rules|`(tactic|let $p:term:=$e)=>do
 let q<-pw_ 9 p
 let x:Array Lean.Term:=match p with|`(#[$xs,*])=>xs.getElems|_=>.empty
 ex_ e (<-x.mapM (pw_ 9)) (<-`(tactic|obtain $q:rcasesPat:=$e))
open Lean in
local macro_rules|`(tactic|rintro $ps*)=>do
 let mut o:Array (TSyntax `tactic):=.empty
 let mut c:=false
 for p in ps do
  let mut d:TSyntax `tactic<-`(tactic|rintro $p)
  let mut q:=p.raw
  -- (p) is p
  for _ in [0:9] do
   if q.isOfKind ``Parser.Tactic.rintroPat.one then q:=q[0]
   if q.isOfKind ``Parser.Tactic.rcasesPat.paren&&q[1][1].isNone&&q[1][0][0].getNumArgs==1 then q:=q[1][0][0][0]
  if q.isOfKind ``Parser.Tactic.rcasesPat.tuple then
   let xs:Array Syntax:=q[1].getSepArgs
   if xs.size>1 then
    c:=true
    let ys<-xs.mapM fun x=>`(rcasesPat|($(⟨x⟩):rcasesPatLo))
    let z<-`(z)
    d<-`(tactic|(intro $z:term;$(<-ex_ z ys (<-`(tactic|obtain $(⟨q⟩):rcasesPat:=$z))):tactic))
  o:=o.push d
 if !c then Macro.throwUnsupported
 `(tactic|($[$o:tactic];*))
local macro_rules|`(#[])=>`(by decide +kernel)
local macro_rules|`(#[_])=>`(by simp)
local macro_rules|`(-$x:ident)=>`(($x).length)
local macro_rules|`(!$x)=>`(some $x)
local macro_rules|`(~~~$x)=>`(not $x)
open Lean in
local macro_rules|`(tactic|let $d:letDecl)=>if d.raw[0].isOfKind ``Parser.Term.letIdDecl then`(tactic|have $d:letDecl)else Macro.throwUnsupported
local macro_rules|`(@&$x)=>`(List $x)
local macro_rules|`($s⁻¹)=>`(($s).heap.objs.size)
local macro_rules|`(tactic|exists $t:term)=>`(tactic|(walk_at"";refine $t))
local macro_rules|`(abbrev $i:declId $s:optDeclSig $v:declVal)=>`(noncomputable def $i:declId $s:optDeclSig $v:declVal)
local macro_rules|`(def $i:declId $[$b:bracketedBinder]* :$t $v:declVal)=>if t.raw.isOfKind `Lean.Parser.Term.prop||[`TE,`TT,`TS,`TG,`pP,`It,`TI,`R2,`TA,`St,`TO,`Bool,`Cx,`Sp,`Nat,`Str,`DR,`S,`i4,`rm,`ba,`O,`cH,`Rs,`D].contains t.raw.getId then`(noncomputable def $i:declId $[$b:bracketedBinder]* :$t $v:declVal)else`(theorem $i:declId $[$b:bracketedBinder]* :$t $v:declVal)
section
variable{A0:Sort _}{p q r s t u:Prop}{G:Prop}
def E0_2(h:p/\q)(k:p->q->G):G:=k h.1 h.2
def E0_3(h:p/\q/\r)(k:p->q->r->G):G:=k h.1 h.2.1 h.2.2
def E0_4(h:p/\q/\r/\s)(k:p->q->r->s->G):G:=k h.1 h.2.1 h.2.2.1 h.2.2.2
def E0_5(h:p/\q/\r/\s/\t)(k:p->q->r->s->t->G):G:=k h.1 h.2.1 h.2.2.1 h.2.2.2.1 h.2.2.2.2
def E0_6(h:p/\q/\r/\s/\t/\u)(k:p->q->r->s->t->u->G):G:=k h.1 h.2.1 h.2.2.1 h.2.2.2.1 h.2.2.2.2.1 h.2.2.2.2.2
end
section
variable{A0:Sort _}{p q r s t:A0->Prop}{G:Prop}
def E1_1(h:∃x,p x)(k:∀x,p x->G):G:=h.elim λx h=>k x h
def E1_2(h:∃x,p x/\q x)(k:∀x,p x->q x->G):G:=h.elim λx h=>k x h.1 h.2
def E1_3(h:∃x,p x/\q x/\r x)(k:∀x,p x->q x->r x->G):G:=h.elim λx h=>k x h.1 h.2.1 h.2.2
def E1_4(h:∃x,p x/\q x/\r x/\s x)(k:∀x,p x->q x->r x->s x->G):G:=h.elim λx h=>k x h.1 h.2.1 h.2.2.1 h.2.2.2
def E1_5(h:∃x,p x/\q x/\r x/\s x/\t x)(k:∀x,p x->q x->r x->s x->t x->G):G:=h.elim λx h=>k x h.1 h.2.1 h.2.2.1 h.2.2.2.1 h.2.2.2.2
end
section
variable{A0 A1:Sort _}{p q r s t u:A0->A1->Prop}{G:Prop}
def E2_1(h:∃x y,p x y)(k:∀x y,p x y->G):G:=h.elim λx h=>h.elim λy h=>k x y h
def E2_2(h:∃x y,p x y/\q x y)(k:∀x y,p x y->q x y->G):G:=h.elim λx h=>h.elim λy h=>k x y h.1 h.2
def E2_3(h:∃x y,p x y/\q x y/\r x y)(k:∀x y,p x y->q x y->r x y->G):G:=h.elim λx h=>h.elim λy h=>k x y h.1 h.2.1 h.2.2
def E2_4(h:∃x y,p x y/\q x y/\r x y/\s x y)(k:∀x y,p x y->q x y->r x y->s x y->G):G:=h.elim λx h=>h.elim λy h=>k x y h.1 h.2.1 h.2.2.1 h.2.2.2
def E2_5(h:∃x y,p x y/\q x y/\r x y/\s x y/\t x y)(k:∀x y,p x y->q x y->r x y->s x y->t x y->G):G:=h.elim λx h=>h.elim λy h=>k x y h.1 h.2.1 h.2.2.1 h.2.2.2.1 h.2.2.2.2
def E2_6(h:∃x y,p x y/\q x y/\r x y/\s x y/\t x y/\u x y)(k:∀x y,p x y->q x y->r x y->s x y->t x y->u x y->G):G:=h.elim λx h=>h.elim λy h=>k x y h.1 h.2.1 h.2.2.1 h.2.2.2.1 h.2.2.2.2.1 h.2.2.2.2.2
end
section
variable{A0 A1 A2:Sort _}{p q r s t u v:A0->A1->A2->Prop}{G:Prop}
def E3_1(h:∃x y z,p x y z)(k:∀x y z,p x y z->G):G:=h.elim λx h=>h.elim λy h=>h.elim λz h=>k x y z h
def E3_2(h:∃x y z,p x y z/\q x y z)(k:∀x y z,p x y z->q x y z->G):G:=h.elim λx h=>h.elim λy h=>h.elim λz h=>k x y z h.1 h.2
def E3_3(h:∃x y z,p x y z/\q x y z/\r x y z)(k:∀x y z,p x y z->q x y z->r x y z->G):G:=h.elim λx h=>h.elim λy h=>h.elim λz h=>k x y z h.1 h.2.1 h.2.2
def E3_4(h:∃x y z,p x y z/\q x y z/\r x y z/\s x y z)(k:∀x y z,p x y z->q x y z->r x y z->s x y z->G):G:=h.elim λx h=>h.elim λy h=>h.elim λz h=>k x y z h.1 h.2.1 h.2.2.1 h.2.2.2
def E3_5(h:∃x y z,p x y z/\q x y z/\r x y z/\s x y z/\t x y z)(k:∀x y z,p x y z->q x y z->r x y z->s x y z->t x y z->G):G:=h.elim λx h=>h.elim λy h=>h.elim λz h=>k x y z h.1 h.2.1 h.2.2.1 h.2.2.2.1 h.2.2.2.2
def E3_6(h:∃x y z,p x y z/\q x y z/\r x y z/\s x y z/\t x y z/\u x y z)(k:∀x y z,p x y z->q x y z->r x y z->s x y z->t x y z->u x y z->G):G:=h.elim λx h=>h.elim λy h=>h.elim λz h=>k x y z h.1 h.2.1 h.2.2.1 h.2.2.2.1 h.2.2.2.2.1 h.2.2.2.2.2
def E3_7(h:∃x y z,p x y z/\q x y z/\r x y z/\s x y z/\t x y z/\u x y z/\v x y z)(k:∀x y z,p x y z->q x y z->r x y z->s x y z->t x y z->u x y z->v x y z->G):G:=h.elim λx h=>h.elim λy h=>h.elim λz h=>k x y z h.1 h.2.1 h.2.2.1 h.2.2.2.1 h.2.2.2.2.1 h.2.2.2.2.2.1 h.2.2.2.2.2.2
end
section
variable{A0 A1 A2 A3:Sort _}{p q r s t u v:A0->A1->A2->A3->Prop}{G:Prop}
def E4_2(h:∃x y z w,p x y z w/\q x y z w)(k:∀x y z w,p x y z w->q x y z w->G):G:=h.elim λx h=>h.elim λy h=>h.elim λz h=>h.elim λw h=>k x y z w h.1 h.2
def E4_3(h:∃x y z w,p x y z w/\q x y z w/\r x y z w)(k:∀x y z w,p x y z w->q x y z w->r x y z w->G):G:=h.elim λx h=>h.elim λy h=>h.elim λz h=>h.elim λw h=>k x y z w h.1 h.2.1 h.2.2
def E4_4(h:∃x y z w,p x y z w/\q x y z w/\r x y z w/\s x y z w)(k:∀x y z w,p x y z w->q x y z w->r x y z w->s x y z w->G):G:=h.elim λx h=>h.elim λy h=>h.elim λz h=>h.elim λw h=>k x y z w h.1 h.2.1 h.2.2.1 h.2.2.2
def E4_5(h:∃x y z w,p x y z w/\q x y z w/\r x y z w/\s x y z w/\t x y z w)(k:∀x y z w,p x y z w->q x y z w->r x y z w->s x y z w->t x y z w->G):G:=h.elim λx h=>h.elim λy h=>h.elim λz h=>h.elim λw h=>k x y z w h.1 h.2.1 h.2.2.1 h.2.2.2.1 h.2.2.2.2
def E4_6(h:∃x y z w,p x y z w/\q x y z w/\r x y z w/\s x y z w/\t x y z w/\u x y z w)(k:∀x y z w,p x y z w->q x y z w->r x y z w->s x y z w->t x y z w->u x y z w->G):G:=h.elim λx h=>h.elim λy h=>h.elim λz h=>h.elim λw h=>k x y z w h.1 h.2.1 h.2.2.1 h.2.2.2.1 h.2.2.2.2.1 h.2.2.2.2.2
def E4_7(h:∃x y z w,p x y z w/\q x y z w/\r x y z w/\s x y z w/\t x y z w/\u x y z w/\v x y z w)(k:∀x y z w,p x y z w->q x y z w->r x y z w->s x y z w->t x y z w->u x y z w->v x y z w->G):G:=h.elim λx h=>h.elim λy h=>h.elim λz h=>h.elim λw h=>k x y z w h.1 h.2.1 h.2.2.1 h.2.2.2.1 h.2.2.2.2.1 h.2.2.2.2.2.1 h.2.2.2.2.2.2
end
section
variable{A0 A1 A2 A3 A4:Sort _}{p q r s t u v:A0->A1->A2->A3->A4->Prop}{G:Prop}
def E5_2(h:∃x y z w i,p x y z w i/\q x y z w i)(k:∀x y z w i,p x y z w i->q x y z w i->G):G:=h.elim λx h=>h.elim λy h=>h.elim λz h=>h.elim λw h=>h.elim λi h=>k x y z w i h.1 h.2
def E5_3(h:∃x y z w i,p x y z w i/\q x y z w i/\r x y z w i)(k:∀x y z w i,p x y z w i->q x y z w i->r x y z w i->G):G:=h.elim λx h=>h.elim λy h=>h.elim λz h=>h.elim λw h=>h.elim λi h=>k x y z w i h.1 h.2.1 h.2.2
def E5_4(h:∃x y z w i,p x y z w i/\q x y z w i/\r x y z w i/\s x y z w i)(k:∀x y z w i,p x y z w i->q x y z w i->r x y z w i->s x y z w i->G):G:=h.elim λx h=>h.elim λy h=>h.elim λz h=>h.elim λw h=>h.elim λi h=>k x y z w i h.1 h.2.1 h.2.2.1 h.2.2.2
def E5_6(h:∃x y z w i,p x y z w i/\q x y z w i/\r x y z w i/\s x y z w i/\t x y z w i/\u x y z w i)(k:∀x y z w i,p x y z w i->q x y z w i->r x y z w i->s x y z w i->t x y z w i->u x y z w i->G):G:=h.elim λx h=>h.elim λy h=>h.elim λz h=>h.elim λw h=>h.elim λi h=>k x y z w i h.1 h.2.1 h.2.2.1 h.2.2.2.1 h.2.2.2.2.1 h.2.2.2.2.2
def E5_7(h:∃x y z w i,p x y z w i/\q x y z w i/\r x y z w i/\s x y z w i/\t x y z w i/\u x y z w i/\v x y z w i)(k:∀x y z w i,p x y z w i->q x y z w i->r x y z w i->s x y z w i->t x y z w i->u x y z w i->v x y z w i->G):G:=h.elim λx h=>h.elim λy h=>h.elim λz h=>h.elim λw h=>h.elim λi h=>k x y z w i h.1 h.2.1 h.2.2.1 h.2.2.2.1 h.2.2.2.2.1 h.2.2.2.2.2.1 h.2.2.2.2.2.2
end
local macro_rules|`(tactic|left)=>`(tactic|walk_at"")
local macro_rules|`(())=>`(by omega)
local macro_rules|`(∅)=>`(by decide)
local macro_rules|`(tactic|omega)=>`(tactic|lia)
open Lean in
local macro_rules|`(universe $n $a*)=>do
 let mut r:=Array.empty
 for k in[0:a.size/2]do r:=r.push (<-`(noncomputable def $(a[2*k]!):ident:=@$(mkIdent (n.getId++a[2*k+1]!.getId))))
 return mkNullNode r
universe PySem Ck wpAny_runValue Cm wpAny_newFunctionEnv_cells Cn intKind_is Co fitsIndex_both Cp entryFor_alias Cu Calls.Name_function_global Ih wpAny_binaryOp_repeat_ref Ii W.looks_mroIn Ij W.findObj_own QA strLen_append QB W.tail_of_in QC W.kitx_tuple QD W.codeRec_of QE W.Looks.here Qx wpAny_onRaise Qy wpAny_handled Qz wpAny_comprehension_free aS mem_of_lookup aT Heap.get?_update_self aU wpAny_mono aZ Heap.SameBut.update aa wpAny_bind ai Heap.get?_push_of_some aj wpAny_pure ao Heap.lt_size ay Heap.get?_push_size bG wpAny_field bK StrLaws.glued_eq_join bL W.mg_of bP wpAny_call_entry bU wpAny_newObj_type bW W.kia_one bZ wpAny_callSpecial?_slot bf wpAny_setState_of bj wpAny_holding bq Obj.data_mapFields cM wpAny_setField cN wpAny_loadPart_at cO call_meets cP Heap.get?_update_other cW StrLaws.join_split cZ Heap.size_push cw wpAny_truthy_bool cz Obj.isFreed_of_fields dH wpAny_standAt dM wpAny_seqItems dN wpAny_Call_Name_kw dO F.slot_tuple_iterator_next dZ wpAny_pyIter_list de W.cellsFrom_some eA wpAny_of_eq eE Calls.evalArgs_plain eP wpAny_isInstance eY wpAny_typeOf fB wpAny_storeSet_of fC fits_of_scanBound fH wpAny_rule fN codeAny_mono fe codeAny_builtin gA Calls.callWith_builtin gL W.hideAll_get gY W.of_hideAll gg wpAny_setField_rec gi sizeLine_eq gj F.slot_zip_next gy W.looks_findIn iC F.args_tuple_add_2 iM wpAny_call iN typeIs_str iO tupleKind_room_in1 iP Str.cps_append iQ W.any_some iR F.plainAttrs_list iS F.entry_tuple_add ig wpAny_passesOwn jN noFill_tuple_add jO W.hideAll_none je W.funFrames_hide jf F.slot_tuple_add jq Obj.cls_mapFields jy Heap.SameBut.refl jz wpAny_attempt kC F.slot_int_rmul kF wpAny_setFlight_noneW kG W.isNs_of_in kH W.callWith_K kI F.args_tuple_iterator_next_1 kd W.plainGet_of ke W.looks_clsIn kf W.callWith_K0 lF isSubtype_type lH codeAny_call_builtin lO Heap.get?_none_of_le lz F.entry_tuple_iterator_next mJ wpAny_isSubtype_exc mO Heap.get?_update_ne nE seq_tuple_add nF plainId_quiet nG Paired.length nR wpAny_pyIter_tuple nS typeIs_int nU Walks.list nY F.args_tuple_add_2 nZ F.args_str_split_2 og Code.quiet_builtin pR F.excBase_ValueError pW F.entry_tuple_add pX F.entry_str_split rn plainObj_wpAny_Assign_Attribute sC wpAny_askSetting sG F.slot_tuple_add sH F.slot_str_split uA wpAny_throw uB F.args_zip_next_1 wg wpAny_execs_nil wj codeAny_of_tree wm F.plainAttrs_str wo F.entry_zip_next zB ofString_length zC W.methodCall_KW
universe Nat Cq pow_le_pow_right aL le_trans aN ne_of_lt ak le_refl ax lt_of_lt_of_le bQ lt_irrefl bR ne_of_gt cU zero_le dP lt_trans fW lt_trichotomy ft le_of_lt jA eq_of_beq_eq_true jP le_succ js min_eq_left kJ lt_of_le_of_lt lJ mul_comm mK lt_succ_self pT not_lt uD toDigits_of_lt_base
universe List Cr getElem_toArray Cs getElem?_of_mem Ik toList_toArray Il getElem?_range QF set_cons_zero QG set_cons_succ QH pairwise_cons QI map_filterMap QJ getElem?_take QK Nodup.sublist aA getElem?_eq_some_iff aB mem_cons aG getElem?_append_left aH getElem?_set_ne aI mem_map aJ getElem?_map aK map_append aM length_append aP length_cons aQ map_cons aR size_toArray aV getElem?_set_self aX mem_append aY mem_of_getElem? ah length_map av getElem?_eq_getElem bA mem_append_right bN sum_cons bX length_set bg mem_cons_of_mem bt mem_or_eq_of_mem_set bu length_take bw all_eq_true cI mem_filter cR mem_singleton cV mem_of_mem_drop cX getElem?_replicate cu set_set dB getElem_mem dC take_succ dD perm_ext_iff_of_nodup dE getElem?_append_right dF exists_cons_of_ne_nil dI getElem?_eq_none_iff dQ mem_of_mem_take dR mem_iff_getElem dY filterMap_cons dh take_of_length_le dw take_length dz lookup_cons eK mem_filterMap eL map_map eT any_cons eU length_singleton eW nodup_append fJ mem_of_mem_eraseIdx fP mem_cons_self ff mem_append_left fu length_drop gG nodup_cons gH foldl_cons gM replicate_succ gN map_congr_left gR map_set gZ mem_range gm length_filter_le gz eq_nil_of_length_eq_zero hJ map_singleton hZ contains_cons iT eraseIdx_cons_succ iw append_assoc iy any_eq_false jB take_append_drop jC getElem?_eq_none jQ Perm.refl jh pairwise_lt_range ji length_eq_one_iff jt of_mem_zip ju find?_cons jw append_nil kA map_drop kB all_cons kK filter_append ki length_pos_iff kj filter_sublist kz map_take lA findIdx?_eq_some_iff_getElem lK length_range lL getElem?_set lM flatten_replicate_singleton lN any_map mL filter_cons mM any_eq_true mm eraseIdx_eq_take_drop_succ nH count_eq_zero_of_not_mem nV sum_append nW length_zip nX length_nil pU mapM_cons pV length_eraseIdx_of_lt rq drop_eq_getElem_cons sD eq_of_mem_replicate sE cons.inj uE length_eraseIdx_le uF length_eq_zero_iff uG getElem?_cons_succ wt range_succ_eq_map wu length_pos_of_mem wx drop_eq_nil_of_le zF length_replicate
universe Int Ct le_refl cG toNat_natCast eB eq_ofNat_of_zero_le ia emod_lt_of_pos jx emod_nonneg kl toNat_of_nonneg
universe Array QL find?_toList QM append_empty QN append_assoc bH length_toList dJ getElem?_eq_getElem fF toList_append fh getElem?_eq_some_iff gq getElem_eq_getD jI getElem?_setIfInBounds_self_of_lt lQ size_append mP all_toList mn getElem?_setIfInBounds_ne pA getD_eq_getD_getElem? wz getElem?_eq_none zG getElem?_toList
universe _root_ aC decide_eq_true aF decide_eq_false_iff_not aq if_neg au if_pos az decide_eq_false bD decide_eq_true_iff br of_decide_eq_true dX beq_eq_false_iff_ne fO beq_iff_eq gw congrArg lG decide_eq_true_eq
universe Option aD some.inj ae bind_eq_some_iff ag map_eq_some_iff dU isSome_iff_exists lI isSome_map pS ne_none_iff_exists'
universe Bool bC and_eq_true bE false_ne_true cj not_eq_true' cv eq_iff_iff eM not_eq_false' eQ or_eq_true gp and_eq_false_iff jR or_eq_false_iff lP or_true sI false_or wy not_not
universe PyProof bT Rows.slot_tuple_getitem dg Rows.callWith_type1 fV Rows.split_pos kh Rows.F.entry_set_update_loop uC Rows.boot_tuple wq Rows.boot_list zD Rows.boot_str zE Rows.boot_int
def cT:=@Ne.symm
def dS:=@Classical.not_and_iff_not_or_not
namespace L2
open PySem PySem.Spec PyProof.Rows
variable{xs vs:@&V}{us:@&Value}{H H':Hp}{a b f C dx:Addr}{o:HO}{u:Value}{P:Program}{w:World}{h h' base:Heap}{α:Type}{x m:Str}{e c tg:Expr}{X:Cx}{pi:@&(Addr×Obj)}{σ:St}{s:Shared}{t' i k:Nat}{ch fp:@&Addr}{N ps:@&Str}{M:Model}{A:Around}{E Q:Value->Shared->Prop}{v:V}{t:TA}{ta tb te:TE}{pos p:Pos}{K:PySem.W.Frag}{es:@&Expr}{op:CmpOp}{r:R2}{fd:FuncData}{CX:ly}{sp:Sp}
noncomputable abbrev Key:=Sum Int Str
abbrev vQ:Key->Value->Bool
 |.inl k,v=>Value.isInt k v
 |.inr x,v=>Value.isStrOf x v
abbrev Vh(w:World):Key->Int
 |.inl k=>hashInt k
 |.inr x=>hashStr w x
def u4:∀{k:Key} {v:Value},vQ k v=true->(∃i t,k=Sum.inl i/\v=Value.int i t)\/(∃x t,k=Sum.inr x/\v=Value.str x t)
 |.inl i,v,h=>by
  let#[t,e]:=Value.isInt_shape h;show .inl #[i,t,rfl,e]
 |.inr x,v,h=>by
  let#[t,e]:=Value.isStrOf_shape h;show .inr #[x,t,rfl,e]
def Zc(i:Int)(t:Tok):vQ (.inl i) (.int i t)=true:=by simp[vQ,Value.isInt]
def Ze(x:Str)(t:Tok):vQ (.inr x) (.str x t)=true:=by simp[vQ,Value.isStrOf]
def bT3(a b:Int):decide ((Sum.inl a:Key)=Sum.inl b)=(a==b):=by
 by_cases e:a=b
 .subst e;simp
 .let h:¬(Sum.inl a:Key)=Sum.inl b:=λq=>e (Sum.inl.inj q);rw[az h];show(dX.mpr e).symm
def bT0(a b:Str):decide ((Sum.inr a:Key)=Sum.inr b)=decide (a=b):=by
 simp
def bT2(a:Int)(b:Str):decide ((Sum.inl a:Key)=Sum.inr b)=false:=az (λq=>nomatch q)
def bT1(a:Str)(b:Int):decide ((Sum.inr a:Key)=Sum.inl b)=false:=az (λq=>nomatch q)
abbrev s9(prog:Program)(w:World):PySem.KeyKind prog w Key where
 is:=vQ
 hash:=Vh w
 inj:=λv a b ha hb=>by
  rcases u4 ha with⟨i,t,rfl,rfl⟩|⟨x,t,rfl,rfl⟩
  .rcases u4 hb with⟨j,u,rfl,e⟩|⟨y,u,rfl,e⟩
   .injection e with e1 _;rw[e1]
   .exact nomatch e
  .rcases u4 hb with⟨j,u,rfl,e⟩|⟨y,u,rfl,e⟩
   .exact nomatch e
   .injection e with e1 _;rw[e1]
 byValue:=λk v h=>by
  rcases u4 h with⟨i,t,rfl,rfl⟩|⟨x,t,rfl,rfl⟩<;>rfl
 pyHash:=λhv h=>by
  rcases u4 hv with⟨i,t,rfl,rfl⟩|⟨x,t,rfl,rfl⟩
  .exact wpAny_pyHash_int h
  .exact wpAny_pyHash_str h
 eqBool:=λhu hv h=>by
  rcases u4 hu with⟨i,t,rfl,rfl⟩|⟨x,t,rfl,rfl⟩
  .rcases u4 hv with⟨j,u,rfl,rfl⟩|⟨y,u,rfl,rfl⟩
   .rw[bT3] at h;show wpAny_eqBool_int h
   .rw[bT2] at h;show SeqAt.EqAt.int_str i t y u _ _ _ _ h
  .rcases u4 hv with⟨j,u,rfl,rfl⟩|⟨y,u,rfl,rfl⟩
   .rw[bT1] at h;show SeqAt.EqAt.str_int x t j u _ _ _ _ h
   .rw[bT0] at h;show wpAny_eqBool_str h
 «strs»:=λk x t v h=>by
  rcases u4 h with⟨i,u,rfl,e⟩|⟨y,u,rfl,e⟩
  .exact nomatch e
  .injection e with e1 _;subst e1;cases v<;>rfl
def aO2(prog:Program)(w:World)(i:Int)(t:Tok):(s9 prog w).is (.inl i) (.int i t)=true:=Zc i t
def aO1(prog:Program)(w:World)(x:Str)(t:Tok):(s9 prog w).is (.inr x) (.str x t)=true:=Ze x t
set_option genInjectivity true in
inductive V where
 |aW|bl (b:Bool)|int (i:Int)|str (x:Str)|mG (b:Array UInt8)|tW (b:UInt64)|ref (a:Addr)|ty (n:String)
 deriving DecidableEq
abbrev RelV:V->Value->Prop
 |.aW,u=>u=Value.none
 |.bl b,u=>u=Value.bool b
 |.int i,u=>∃t,u=Value.int i t
 |.str x,u=>∃t,u=Value.str x t
 |.mG b,u=>∃t,u=Value.bytes b t
 |.tW b,u=>∃t,u=Value.float b t
 |.ref a,u=>u=Value.ref a
 |.ty n,u=>u=Value.type n
noncomputable abbrev Vals:@&V->@&Value->Prop:=Paired RelV
def Vals.length{xs:@&V}{us:@&Value}(r:Vals xs us):-xs=-us:=nG r
def Vals.get:∀{xs:@&V} {us:@&Value} {i:Nat} {x:V},Vals xs us->xs[i]?=!x->∃u,us[i]?=!u/\RelV x u
 |_,_,_,_,.nil,e=>by simp at e
 |_,_,0,_,.cons r _,e=>by simp at e;subst e;show#[_,rfl,r]
 |_,_,i+1,x,.cons _ t,e=>by
  let#[u,h1,h2]:=Vals.get t (_/e);show#[u,by simpa using h1,h2]
def Vals.set{x:V}{u:Value}(r:RelV x u):∀{xs:@&V} {us:@&Value} (i:Nat),Vals xs us->Vals (xs.set i x) (us.set i u)
 |_,_,_,.nil=>.nil
 |_,_,0,.cons _ t=>.cons r t
 |_,_,i+1,.cons q t=>.cons q (Vals.set r i t)
def Vals.append{ys:@&V}{ws:@&Value}(h:Vals xs us)(s:Vals ys ws):Vals (xs++ys) (us++ws):=by
 induction h with
 |nil=>show s
 |cons r t ih=>show .cons r ih
def Vals.take:∀{xs:@&V} {us:@&Value} (n:Nat),Vals xs us->Vals (xs.take n) (us.take n)
 |_,_,0,_=>.nil
 |_,_,_+1,.nil=>.nil
 |_,_,n+1,.cons r t=>.cons r (Vals.take n t)
def Vals.drop:∀{xs:@&V} {us:@&Value} (n:Nat),Vals xs us->Vals (xs.drop n) (us.drop n)
 |_,_,0,r=>r
 |_,_,_+1,.nil=>.nil
 |_,_,n+1,.cons _ t=>Vals.drop n t
abbrev C4:Option V->Option Value->Prop
 |some v,!u=>RelV v u
 |none,none=>True
 |_,_=>False
abbrev KV{κ:Type}:@&(κ×V)->@&(κ×Value)->Prop:=Paired λ(p:κ×V) (q:κ×Value)=>p.1=q.1/\RelV p.2 q.2
abbrev kV:Key->V
 |.inl i=>.int i
 |.inr x=>.str x
inductive HO where
 |lst (xs:@&V)
 |tup (xs:@&V)
 |dK (kvs:@&(Key×V))|dT (kvs:@&(List Key×V))
 |set (S:Int->Bool) (n:Nat)
 |ins (C dx:Addr) (fs:@&(Str×V))
 |own (x:Addr)
 |xd (fs:@&(Str×V))
 |met (f x:Addr)
 |qd (lo hi:Int)
 |ky (o:Obj) (u:HO)
 |rA (ps:Array Value)
 |ext (φ:Heap->Prop)
noncomputable abbrev Hp:=Addr->Option HO
abbrev upd(H:Hp)(a:Addr)(o:HO):Hp:=λb=>if b=a then some o else H b
def f9:upd H a o a=!o:=by unfold upd;rw[au rfl]
def d7(h:b≠a):upd H a o b=H b:=by unfold upd;rw[aq h]
def b21{u:HO}(h:H a=!o)(h':H b=!u)(d:o≠u):a≠b:=by
 intro e;subst e;rw[h] at h';show d (aD h')
def j7(h:H a=!o)(h':H b=none):a≠b:=by
 intro e;simp_all
def K1(h:Heap)(a:Addr)(items:Array Value):Prop:=∃o,h.get? a=!o/\o.cls=.type "tuple"/\(∃n,o.data=.seq items n)/\o.dict=none
def K1.tup{h:Heap}{a:Addr}{items:Array Value}(x:K1 h a items):IsTup h a items:=let ⟨o,e,c,d,_⟩:=x;#[o,e,c,d]
def K1.new(h:Heap)(items:Array Value):K1 (h.push { cls:=.type "tuple",data:=.seq items }) h.objs.size items:=#[_,ay _ rfl,rfl,#[_,rfl],rfl]
section
variable(P:Program)(w:World)
abbrev l0(H:Hp)(h:Heap)(a:Addr):HO->Prop
 |.lst xs=>-xs<=sizeLine/\∃(bc:@&Value) (n:Nat),Vals xs bc/\h.get? a=some { cls:=.type "list",data:=.seq bc.toArray n }
 |.tup xs=>-xs<=sizeLine/\∃bc:@&Value,Vals xs bc/\K1 h a bc.toArray
 |.dK kvs=>-kvs<=sizeLine/\(a==sysModules)=false/\∃vs,KV kvs vs/\h.DictOf (s9 P w) a vs
 |.dT kvs=>-kvs<=sizeLine/\(a==sysModules)=false/\∃xs:@&(List Key×Addr×Value),
   Paired (λ(p:@&Key×V) (q:@&Key×Addr×Value)=>p.1=q.1/\H q.2.1=!.tup (p.1.map kV)/\RelV p.2 q.2.2) kvs xs /\
   ∃o es ep,h.get? a=!o/\o.ExactDict/\o.data=.dict es ep/\es.toList=xs.map (entryOfKey (tupleKind (s9 P w)))/\(xs.map (·.1)).Nodup
 |.set S n=>h.SetOf (intKind P w) a S n
 |.ins C dx fs=>H dx=!.own a/\-fs<=1000/\dx≠a/\h.get? a=!PySem.W.instObj C dx /\
   ∃mA,h.Ns1 dx mA/\(∀f,C4 (fs.lookup f) (mA f))/\PySem.Within mA (fs.map (·.1))
 |.own _=>∃o,h.get? a=!o
 |.xd fs=>∃mA,h.Ns1 a mA/\∀f,C4 (fs.lookup f) (mA f)
 |.qd lo hi=>∃t u v,h.get? a=some { cls:=.type "range",data:=.fields (List.toArray [.int lo t,.int hi u,.int 1 v]) }
 |.ky o u=>h.get? a=!o/\l0 H h a u
 |.rA ps=>h.get? a=some { cls:=.none,data:=.fields ps }
 |.met f x=>h.get? a=!PySem.W.methodObj (.ref f) (.ref x)
 |.ext φ=>φ h/\(∃o,h.get? a=!o)/\∀h1 h2:Heap,φ h1->(∀o,h1.get? a=!o->h2.get? a=!o)->φ h2
def gJ(H:Hp)(h:Heap):Prop:=∀a o,H a=!o->l0 P w H h a o
end
def l0.lt(x:l0 P w H h a o):a<h.objs.size:=by
 cases o with
 |lst xs=>let#[_,_,_,_,e]:=x;show ao e
 |tup xs=>let#[_,_,_,p]:=x;show p.tup.lt
 |dK kvs=>let#[_,_,_,_,o,_,_,e,_]:=x;show ao e
 |dT kvs=>let#[_,_,_,_,o,_,_,e,_]:=x;show ao e
 |set S n=>let#[o,_,_,_,e,_]:=x;show ao e
 |ins C dx fs=>let#[_,_,_,e,_]:=x;show ao e
 |own y=>let#[_,e]:=x;show ao e
 |xd fs=>let#[_,#[_,_,_,e,_],_]:=x;show ao e
 |qd lo hi=>let#[_,_,_,e]:=x;show ao e
 |ky ob u=>let#[e,_]:=x;show ao e
 |rA ps=>show ao (show h.get? a=some _ from x)
 |met f y=>show ao (show h.get? a=some _ from x)
 |ext φ=>let#[_,#[_,e],_]:=x;show ao e
def Paired.LH{β:Type}{F G:α->β->Prop}{l₁:List α}{xg:List β}(h:Paired F l₁ xg)(f:∀a b,F a b->G a b):Paired G l₁ xg:=by
 induction h with
 |nil=>show .nil
 |cons r t ih=>show .cons (f _ _ r) ih
def l0.B8(x:l0 P w H h a o)(k:∀b u,(b=a\/H b=!.own a)->h.get? b=!u->h'.get? b=!u)(ho:∀b,H b=!.own a->H' b=!.own a)(ht:∀b xs,H b=!.tup xs->H' b=!.tup xs):l0 P w H' h' a o:=by
 induction o with
 |lst xs=>let#[z,bc,n,r,e]:=x;show#[z,bc,n,r,k _ _ (.inl rfl) e]
 |tup xs=>let#[z,bc,r,ob,e,c]:=x;show#[z,bc,r,ob,k _ _ (.inl rfl) e,c]
 |dK kvs=>let#[z,y,vs,r,ob,es,ep,e,c]:=x;show#[z,y,vs,r,ob,es,ep,k _ _ (.inl rfl) e,c]
 |dT kvs =>
  let#[z,y,xs,r,ob,es,ep,e,c]:=x;show#[z,y,xs,Paired.LH r λp q z=>#[z.1,ht _ _ z.2.1,z.2.2],ob,es,ep,k _ _ (.inl rfl) e,c]
 |set S n=>let#[ob,es,ep,t,e,c]:=x;show#[ob,es,ep,t,k _ _ (.inl rfl) e,c]
 |ins C dx fs =>
  let#[d,z,ne,e,mA,#[od,es,ep,e2,c],r]:=x;show#[ho _ d,z,ne,k _ _ (.inl rfl) e,mA,#[od,es,ep,k _ _ (.inr d) e2,c],r]
 |own y=>let#[ob,e]:=x;show#[ob,k _ _ (.inl rfl) e]
 |xd fs=>let#[mA,#[od,es,ep,e,c],r]:=x;show#[mA,#[od,es,ep,k _ _ (.inl rfl) e,c],r]
 |qd lo hi=>let#[t,u,v,e]:=x;show#[t,u,v,k _ _ (.inl rfl) e]
 |ky ob u ih=>let#[e,q]:=x;show#[k _ _ (.inl rfl) e,ih q]
 |rA ps =>
  let e:=x;show k a _ (.inl rfl) e
 |met f y =>
  let e:=x;show k a _ (.inl rfl) e
 |ext φ=>let#[p,#[o,e],st]:=x;show#[st _ _ p λo q=>k _ _ (.inl rfl) q,#[o,k _ _ (.inl rfl) e],st]
def gJ.lt(x:gJ P w H h)(e:H a=!o):a<h.objs.size:=(x a o e).lt
def gJ.fresh(x:gJ P w H h)(e:h.objs.size<=a):H a=none:=by
 cases q:H a with
 |none=>rfl
 |some u=>show absurd (ax (x.lt q) e) (bQ _)
def gJ.kept(x:gJ P w H h)(k:∀b u,h.get? b=!u->h'.get? b=!u):gJ P w H h':=λa o e =>
 (x a o e).B8 (λb u y q=>k b u q) (λy q=>q) λy y q=>q
def gJ.laid(x:gJ P w H h)(k:∀b u,h.get? b=!u->h'.get? b=!u)(hp:h.objs.size<=a)(new:l0 P w (upd H a o) h' a o):gJ P w (upd H a o) h':=λb u e=>by
 let hn:=x.fresh hp;by_cases hb:b=a
 .subst hb;rw[f9] at e;simp_all
 .rw[d7 hb] at e;show(x b u e).B8 (λc v y q=>k c v q) (λc q=>by rw[d7 (j7 q hn)];show q) λc xs q=>by rw[d7 (j7 q hn)];show q
def Rd(H:Hp)(a:Addr)(u:HO):Prop:=H a=!u\/∃o,H a=!.ky o u
def Rd.ok{u:HO}(r:Rd H a u)(x:gJ P w H h):l0 P w H h a u:=by
 rcases r with r|⟨o,r⟩
 .exact x a u r
 .let#[_,q]:=x a _ r;show q
abbrev zy:Option HO->Prop
 |some (.lst _)=>True
 |some (.dK _)=>True
 |some (.dT _)=>True
 |some (.set _ _)=>True
 |some (.ins _ _ _)=>True
 |some (.ext _)=>True
 |_=>False
section
variable{x e:Addr}{o':HO}
def gJ.write(ok:gJ P w H h)(mu:zy (H x))(he:e=x\/H e=!.own x)(k:∀b u,b≠e->h.get? b=!u->h'.get? b=!u)(xI:∃u,h'.get? e=!u)(new:l0 P w (upd H x o') h' x o'):gJ P w (upd H x o') h':=λb u q=>by
 let wX:∀c y,H c=!.own y->c≠x:=λc y r z=>by subst z;rw[r] at mu;show mu
 let CM:∀c xs,H c=!.tup xs->c≠x:=λc xs r z=>by subst z;rw[r] at mu;show mu
 by_cases hb:b=x
 .subst hb;rw[f9] at q;cases q;show new
 .rw[d7 hb] at q;by_cases vi:b=e
  .let q':H b=!.own x:=by
    rcases he with z|z
    .exact absurd (vi.trans z) hb
    .rw[vi];show z
   rw[q] at q';cases q';let#[v,hv]:=xI;show#[v,by rw[vi];show hv]
  .refine(ok b u q).B8 (λc v hc r=>k c v ?_ r) (λc r=>by rw[d7 (wX c b r)];show r) λc xs r=>by rw[d7 (CM c xs r)];show r
   rcases hc with rfl|hc
   .exact vi
   .rintro rfl;rcases he with z|z
    .exact wX c b hc z
    .rw[hc] at z;cases z;show hb rfl
end
structure Un(fs ex:@&Addr)(H H':Hp)(h h':Heap):Prop where
 keep:∀b o,h.get? b=!o->H b=none->b∉fs->b∉ex->h'.get? b=!o
 slot:∀b o,h.get? b=!o->H b=none->b∈fs->b∉ex->∃sl,h'.get? b=some { o with slots:=sl }
 free:∀b o,h.get? b=!o->H b=none->b∉ex->H' b=none
 there:∀b o,h.get? b=!o->b∉ex->∃o',h'.get? b=!o'
 iD:∀b xs,H b=!.tup xs->H' b=!.tup xs
 iq:∀b o u,H b=!.ky o u->H' b=!.ky o u
 iE:∀b ps,H b=!.rA ps->∃more,H' b=!.rA (ps++more)
section
variable{fs ex:@&Addr}{H1:Hp}{h1:Heap}{x e:Addr}
def Un.any(u:Un fs ex H H1 h h1){ob:Obj}(q:h.get? b=!ob)(n:H b=none)(hx:b∉ex):∃sl,h1.get? b=some { ob with slots:=sl }:=by
 by_cases hb:b∈fs
 .exact u.slot b ob q n hb hx
 .exact#[ob.slots,u.keep b ob q n hb hx]
def Un.kept(k:∀b u,h.get? b=!u->h'.get? b=!u):Un fs ex H H h h' :=
 #[λb ob q x x x=>k b ob q,λb ob q x x x=>#[ob.slots,k b ob q],λx x x n x=>n,λb ob q x=>#[ob,k b ob q],λx x q=>q,λx x x q=>q,λx ps q=>#[(List.toArray []),by rw[q];simp]]
def Un.refl:Un fs ex H H h h:=Un.kept λx x q=>q
def Un.laid(k:∀b u,h.get? b=!u->h'.get? b=!u)(hp:h.objs.size<=a)(hn:H a=none):Un fs ex H (upd H a o) h h' where
 keep:=λb u q x x x=>k b u q
 slot:=λb u q x x x=>#[u.slots,k b u q]
 free:=λb u q n x=>by rw[d7 (aN (ax (ao q) hp))];show n
 there:=λb u q x=>#[u,k b u q]
 iD:=λb xs q=>by rw[d7 (j7 q hn)];show q
 iq:=λb u xs q=>by rw[d7 (j7 q hn)];show q
 iE:=λb ps q=>#[(List.toArray []),by rw[d7 (j7 q hn),q];simp]
def Un.write(mu:zy (H x))(he:e=x\/H e=!.own x)(k:∀b u,b≠e->h.get? b=!u->h'.get? b=!u)(xI:∃u,h'.get? e=!u):Un fs ex H (upd H x o) h h':=by
 let hx:∀b,H b=none->b≠x:=λb n z=>by subst z;rw[n] at mu;show mu
 let hb:∀b,H b=none->b≠e:=λb n z=>by
  simp_all
 let hm:∀b u,H b=!u->¬zy (!u)->b≠x:=λb u q nm z=>by simp_all
 show #[λb u q n y y=>k b u (hb b n) q,λb u q n y y=>#[u.slots,k b u (hb b n) q],λb u q n y=>by rw [d7 (hx b n)];show n,λb u q y=>?_,
  λb xs q=>by rw [d7 (hm b _ q λz=>z)];show q,λb u xs q=>by rw [d7 (hm b _ q λz=>z)];show q,λb ps q=>#[(List.toArray []),by rw [d7 (hm b _ q λz=>z),q];simp]]
 by_cases vi:b=e
 .simp_all
 .exact#[u,k b u vi q]
end
abbrev qb(h:Heap)(H:Hp):@&Addr:=(List.range h.objs.size).filter λa=>(H a).isSome
abbrev rf(h:Heap)(H:Hp):Heap:=PySem.W.hideAll h (qb h H)
def YV(h:Heap)(H:Hp):(rf h H).objs.size=h.objs.size:=PySem.W.hideAll_size _ _
def WO{o:Obj}(e:h.get? b=!o)(n:H b=none):(rf h H).get? b=!o :=
 gL _ e λhm=>by
  let q:=(cI.mp hm).2;rw[n] at q;simp at q
def bD0{o:Obj}(e:(rf h H).get? b=!o):h.get? b=!o/\H b=none:=by
 let e':=gY (qb h H) e;show#[e',?_];cases q:H b with
 |none=>rfl
 |some x =>
  let hm:b∈qb h H:=cI.mpr #[gZ.mpr (ao e'),by simp[q]];let z:(rf h H).get? b=none:=jO (qb h H) hm
  simp_all
structure Mod(K:PySem.W.Frag)(mg:Str->Option Value)(base:Heap):Prop where
 lU:K.In base
 glob:base.Ns mainGlobals mg
 blt:∃mb,base.Ns builtinsNs mb/\∀x:Str,x≠"__name__"->mb x=bootBuiltins x
 nolimit:base.NoLimit
structure Cx where
 prog:Program
 w:World
 K:PySem.W.Frag
 mg:Str->Option Value
 base:Heap
 A:Around
 N:@&Str
 cQ:Shared
 jo:Hp
 env:Env
 outer:@&Env
 stack:@&Env
 ex:@&Addr
 fn:Str->Bool
 calm:Bool
 pn:@&(Addr×Obj)
 xe:Value->Shared->Prop
 sg:Option (List (Option V)):=none
def Cx.Nd(X:Cx):Prop:=X.N.Nodup/\X.sg=none
abbrev fE(l:@&Env):@&Addr:=l.filterMap (·.frame)
noncomputable abbrev Cx.fs(X:Cx):@&Addr:=fE X.outer
def sy(sc:Scope)(x:Str):Prop:=sc.names.lookup x=!.local\/sc.names.lookup x=!.cell\/sc.names.lookup x=!.free
def Loc(sc:Scope)(x:Str):Prop:=sc.names.lookup x=!.local\/sc.names.lookup x=!.cell
abbrev Look(env:Env)(h:Heap)(m:Str->Option Value)(x:Str)(u:Value):Prop :=
 (env.kindOf x=!.local/\m x=!u)\/((env.kindOf x=!.cell\/env.kindOf x=!.free)/\∃c,env.cells.lookup x=!c/\h.IsCell c (!u))
structure Cx.Ok(X:Cx):Prop where
 mod:Mod X.K X.mg X.base
 kind:X.env.scope.kind=.function
 glob:X.env.globals=mainGlobals
 blt:X.env.builtins=builtinsNs
 above:X.cQ.heap.objs.size<=X.env.locals
 inj:∀x y c,X.env.cells.lookup x=!c->X.env.cells.lookup y=!c->x=y
 has:∀x,(X.env.kindOf x=!.cell\/X.env.kindOf x=!.free)->∃c,X.env.cells.lookup x=!c
 qS:∀x c,X.fn x=true->X.env.cells.lookup x=!c->X.cQ.heap.objs.size<=c
 hd:X.calm=true->X.A.handled=none
 frames:X.A.frames=!X.stack
 rC:X.stack=X.outer\/(X.stack=X.env::X.outer/\X.env.frame=!X.env.locals)
 vp:∀b∈X.ex,b≠X.env.locals/\∀x c,X.env.cells.lookup x=!c->c≠b
 bs:∀b o,X.base.get? b=!o->X.cQ.heap.get? b=!o/\X.jo b=none
 nD:X.base.objs.size<=X.cQ.heap.objs.size
 kq:∀b o,X.base.get? b=!o->b∉X.ex
 lj:∀b∈X.ex,b∉X.fs
 E8:X.cQ.heap.FunFrames X.base X.outer
 nM:∀b∈X.fs,X.jo b=none
structure Inv(X:Cx)(pi:@&(Addr×Obj))(σ:@&(Option V))(H:Hp)(s:Shared):Prop where
 ok:X.Ok
 os:s.os=X.cQ.os
 bare:AllBare s.gens
 base:Un X.fs X.ex X.jo H X.cQ.heap s.heap
 loc:∃m,s.heap.Ns X.env.locals m/\∀(i:Nat) (x:Str) (v:V),X.N[i]?=!x->σ[i]?=!!v->sy X.env.scope x->∃u,RelV v u/\Look X.env s.heap m x u
 cell:∀x c,X.env.cells.lookup x=!c->∃v,s.heap.IsCell c v
 free:H X.env.locals=none
 eI:∀x c,X.env.cells.lookup x=!c->H c=none
 pin:∀p∈X.pn++pi,s.heap.get? p.1=!p.2/\H p.1=none/\p.1≠X.env.locals/\p.1∉X.fs/\∀v,p.2.data≠.cell v
 bI:gJ X.prog X.w H s.heap
 len:σ.length=-X.N
 sg:∀da,X.sg=!da->σ=da
section
variable{σ:@&(Option V)}
def Cx.Ok.Vr(ok:X.Ok){o:Obj}(e:X.base.get? b=!o):b∉X.fs:=λhb=>by
 have:=(ok.E8.mem hb).1
 simp_all
def Inv.bs(I:Inv X pi σ H s):∀b o,X.base.get? b=!o->s.heap.get? b=!o/\H b=none:=λb o e =>
 #[I.base.keep b o (I.ok.bs b o e).1 (I.ok.bs b o e).2 (I.ok.Vr e) (I.ok.kq b o e),I.base.free b o (I.ok.bs b o e).1 (I.ok.bs b o e).2 (I.ok.kq b o e)]
def Inv.bk(I:Inv X pi σ H s):∀b o,X.base.get? b=!o->s.heap.get? b=!o:=λb o e=>(I.bs b o e).1
def Inv.mod(I:Inv X pi σ H s):Mod X.K X.mg X.base:=I.ok.mod
def Inv.gC(I:Inv X pi σ H s):X.K.In s.heap:=I.ok.mod.lU.keeps I.bk
def Inv.lt(I:Inv X pi σ H s):X.env.locals<s⁻¹:=let ⟨_,hn,_⟩:=I.loc;hn.lt
def Inv.sz(I:Inv X pi σ H s):X.cQ.heap.objs.size<=s⁻¹:=aL I.ok.above (ft I.lt)
def Inv.Fs(I:Inv X pi σ H s)(h:s⁻¹<=a):a∉X.fs:=λhb=>by
 let#[_,o,ho,_]:=I.ok.E8.mem hb;show absurd (ax (ao ho) (aL I.sz h)) (bQ _)
def Inv.sd(I:Inv X pi σ H s):∀x c,X.env.cells.lookup x=!c->c≠X.env.locals:=λx c e z=>by
 let#[v,o,ho,hd]:=I.cell x c e;let#[m,#[o',es,ep,lW,pI,_],_]:=I.loc
 simp_all
def Inv.E8(I:Inv X pi σ H s):s.heap.FunFrames X.base X.outer:=by
 let all:∀(l:@&Env),(∀b∈fE l,b∈X.fs)->X.cQ.heap.FunFrames X.base l->s.heap.FunFrames X.base l:=by
  intro l
  induction l with
  |nil=>intro _ _;trivial
  |cons env r ih =>
   intro hs hl;let#[hk,#[L,o,hf,hn,ho,hd],hr]:=hl;let hL:=hs L (by unfold fE;rw[dY,hf];show fP);let#[sl,e]:=I.base.slot L o ho (I.ok.nM L hL) hL λz=>I.ok.lj L z hL;show#[hk,#[L,_,hf,hn,e,hd],ih (λb hb=>hs b (by unfold fE;rw[dY,hf];show bg _ hb)) hr]
 show all X.outer (λx hb=>hb) I.ok.E8
def Inv.stack(I:Inv X pi σ H s):s.heap.FunFrames X.base X.stack:=by
 rcases I.ok.rC with e|⟨e,hf⟩
 .rw[e];show I.E8
 .rw[e];let#[m,hn,_]:=I.loc;show .cons (by rw[I.ok.kind];decide) hf hn ?_ I.E8;show lO (aL I.ok.nD I.ok.above)
def Inv.U7(I:Inv X pi σ H s):∀b∈fE X.stack,b∈X.env.locals::X.fs:=λb hb=>by
 rcases I.ok.rC with e|⟨e,hf⟩
 .rw[e] at hb;show bg _ hb
 .rw[e] at hb;unfold fE at hb;rw[dY,hf] at hb;show hb
def Inv.Bq(I:Inv X pi σ H s):∀b∈fE X.stack,H b=none:=λb hb=>by
 rcases aB.mp (I.U7 b hb) with e|hb
 .rw[e];show I.free
 .let#[_,o,ho,_]:=I.ok.E8.mem hb;show I.base.free b o ho (I.ok.nM b hb) λz=>I.ok.lj b z hb
def Inv.step{g':Array GenState}{t':Nat}{d':Drawn}{ch:@&Addr}(I:Inv X pi σ H s)(pJ:∀b∈ch,(b∈X.ex\/X.cQ.heap.objs.size<=b)/\b≠X.env.locals/\(∀x c,X.env.cells.lookup x=!c->c≠b)/\∀p∈X.pn++pi,p.1≠b)(keep:∀b o,b≠X.env.locals->b∉X.fs->b∉ch->s.heap.get? b=!o->H b=none->h'.get? b=!o)(slot:∀b o,b≠X.env.locals->b∈X.fs->b∉ch->s.heap.get? b=!o->H b=none->∃sl,h'.get? b=some { o with slots:=sl })(free:∀b o,b∉ch->s.heap.get? b=!o->H b=none->H' b=none)(there:∀b o,b∉ch->s.heap.get? b=!o->∃o',h'.get? b=!o')(iD:∀b xs,H b=!.tup xs->H' b=!.tup xs)(iq:∀b o u,H b=!.ky o u->H' b=!.ky o u)(iE:∀b ps,H b=!.rA ps->∃more,H' b=!.rA (ps++more))(ns:∀m,s.heap.Ns X.env.locals m->h'.Ns X.env.locals m)(bI:gJ X.prog X.w H' h')(hg:AllBare g') :
  Inv X pi σ H' { s with heap:=h',gens:=g',drawn:=d',toks:=t' }:=by
 let IM:∀b o,X.cQ.heap.get? b=!o->b≠X.env.locals:=λb o e=>aN (ax (ao e) I.ok.above);let uP:∀b o,X.cQ.heap.get? b=!o->b∉X.ex->b∉ch:=λb o e hx hb=>by
  rcases(pJ b hb).1 with z|z
  .exact hx z
  .exact absurd (ax (ao e) z) (bQ _)
 let cellK:∀x c,X.env.cells.lookup x=!c->∀v,s.heap.IsCell c v->h'.IsCell c v:=λx c e v bx=>by
  let#[o,ho,hd]:=bx;let xf:c∉ch:=λz=>(pJ c z).2.2.1 x c e rfl;by_cases hc:c∈X.fs
  .let#[sl,q]:=slot c o (I.sd x c e) hc xf ho (I.eI x c e);show#[_,q,hd]
  .exact#[o,keep c o (I.sd x c e) hc xf ho (I.eI x c e),hd]
 show#[I.ok,I.os,hg,#[λb o e n hb hx=>?_,λb o e n hb hx=>?_,λb o e n hx=>?_,λb o e hx=>?_,λb xs e=>iD b xs (I.base.iD b xs e),λb o xs e=>iq b o xs (I.base.iq b o xs e),λb ps e=>?_],?_,λx c e=>?_,?_,λx c e=>?_,λp hp=>?_,bI,I.len,I.sg]
 .exact keep b o (IM b o e) hb (uP b o e hx) (I.base.keep b o e n hb hx) (I.base.free b o e n hx)
 .let#[sl,e1]:=I.base.slot b o e n hb hx;let#[RC,e2]:=slot b _ (IM b o e) hb (uP b o e hx) e1 (I.base.free b o e n hx);show#[RC,e2]
 .let#[o',e1]:=I.base.there b o e hx;show free b o' (uP b o e hx) e1 (I.base.free b o e n hx)
 .let#[o',e1]:=I.base.there b o e hx;show there b o' (uP b o e hx) e1
 .let#[m1,e1]:=I.base.iE b ps e;let#[m2,e2]:=iE b _ e1;show#[m1++m2,by rw[e2,QN]]
 .let#[m,hn,hl]:=I.loc;show#[m,ns m hn,λi x v e1 e2 e3=>?_];let#[u,r,l]:=hl i x v e1 e2 e3;show#[u,r,?_];rcases l with l|⟨k,c,e,z⟩
  .exact .inl l
  .exact .inr #[k,c,e,cellK x c e _ z]
 .let#[v,z]:=I.cell x c e;show#[v,cellK x c e v z]
 .let#[m,#[o,_,_,ho,_],_]:=I.loc;show free _ o (λz=>(pJ _ z).2.1 rfl) ho I.free
 .let#[v,o,ho,hd]:=I.cell x c e;show free c o (λz=>(pJ c z).2.2.1 x c e rfl) ho (I.eI x c e)
 .let#[e,n,ne,nf,d]:=I.pin p hp;let xf:p.1∉ch:=λz=>(pJ p.1 z).2.2.2 p hp rfl;show#[keep p.1 p.2 ne nf xf e n,free p.1 p.2 xf e n,ne,nf,d]
def Inv.un{t':Nat}(I:Inv X pi σ H s)(u:Un X.fs [] H H' s.heap h')(bI:gJ X.prog X.w H' h'):Inv X pi σ H' { s with heap:=h',toks:=t' }:=by
 let#[m,#[o,es,ep,ho,r],_]:=id I.loc;let#[sl,hL]:=u.any ho I.free #[_];show I.step (g':=s.gens) (d':=s.drawn) (ch:=[]) (λx z=>nomatch z) (λb o x hb x e n=>u.keep b o e n hb #[_]) (λb o x hb x e n=>u.slot b o e n hb #[_]) (λb o x e n=>u.free b o e n #[_]) (λb o x e=>u.there b o e #[_]) u.iD u.iq u.iE (λm' hm=>by
  let#[o',nC,Ax,lW,r']:=hm;rw[ho] at lW;cases lW;show #[_,nC,Ax,hL,r']) bI I.bare
def Inv.call{g':Array GenState}{t':Nat}{d':Drawn}(I:Inv X pi σ H s)(u:Un (fE X.stack) ch H H' s.heap h')(bI:gJ X.prog X.w H' h')(hg:AllBare g')(pJ:∀b∈ch,(b∈X.ex\/X.cQ.heap.objs.size<=b)/\b≠X.env.locals/\(∀x c,X.env.cells.lookup x=!c->c≠b)/\∀p∈X.pn++pi,p.1≠b) :
  Inv X pi σ H' { s with heap:=h',gens:=g',drawn:=d',toks:=t' }:=by
 let#[m,#[o,es,ep,ho,r],_]:=id I.loc;let#[sl,hL]:=u.any ho I.free λz=>(pJ _ z).2.1 rfl;show I.step pJ (λb o hL hb hc e n=>u.keep b o e n (λz=>(aB.mp (I.U7 b z)).elim hL hb) hc) (λb o y y hc e n=>u.any e n hc) (λb o hc e n=>u.free b o e n hc) (λb o hc e=>u.there b o e hc) u.iD u.iq u.iE (λm' hm=>by
  let#[o',nC,Ax,lW,r']:=hm;rw[ho] at lW;cases lW;show #[_,nC,Ax,hL,r']) bI hg
def Inv.turned{t':Nat}{it:Addr}(I:Inv X pi σ H s)(k:∀b o,b≠it->s.heap.get? b=!o->h'.get? b=!o)(hn:H it=none)(hL:it≠X.env.locals)(h1:it∈X.ex\/X.cQ.heap.objs.size<=it)(h2:∀x c,X.env.cells.lookup x=!c->c≠it)(h3:∀p∈X.pn++pi,p.1≠it):Inv X pi σ H { s with heap:=h',toks:=t' }:=by
 let IL:∀b u,H b=!u->b≠it:=λb u e z=>by simp_all
 show I.step (g':=s.gens) (d':=s.drawn) (ch:=[it]) (λb hb=>?_) (λb o y y hc e y=>k b o (λz=>hc (by simp[z])) e) (λb o y y hc e y=>#[o.slots,k b o (λz=>hc (by simp[z])) e]) (λy y y y n=>n)
  (λb o hc e=>#[o,k b o (λz=>hc (by simp[z])) e]) (λy y e=>e) (λy y y e=>e) (λb ps e=>#[(List.toArray []),by rw[e];simp]) (λm hm=>?_) (λb u e=>?_) I.bare
 .let e:b=it:=by simpa using hb
  subst e;show#[h1,hL,h2,h3]
 .let#[o,es,ep,ho,r]:=hm;show#[o,es,ep,k _ o (cT hL) ho,r]
 .refine(I.bI b u e).B8 (λc v hc q=>k c v ?_ q) (λy q=>q) λy y q=>q;rcases hc with z|z
  .rw[z];show IL b u e
  .exact IL c _ z
def Inv.tok(I:Inv X pi σ H s)(t:Nat):Inv X pi σ H { s with toks:=t }:=I.un (h':=s.heap) (t':=t) Un.refl I.bI
def Inv.kept{t':Nat}(I:Inv X pi σ H s)(k:∀b u,s.heap.get? b=!u->h'.get? b=!u):Inv X pi σ H { s with heap:=h',toks:=t' }:=I.un (Un.kept k) (I.bI.kept k)
def Inv.laid{a:Addr}{o:HO}{t':Nat}(I:Inv X pi σ H s)(k:∀b u,s.heap.get? b=!u->h'.get? b=!u)(hp:s⁻¹<=a)(new:l0 X.prog X.w (upd H a o) h' a o) :
  Inv X pi σ (upd H a o) { s with heap:=h',toks:=t' }:=I.un (Un.laid k hp (I.bI.fresh hp)) (I.bI.laid k hp new)
def Inv.write{x e:Addr}{o:HO}{t':Nat}(I:Inv X pi σ H s)(mu:zy (H x))(he:e=x\/H e=!.own x)(k:∀b u,b≠e->s.heap.get? b=!u->h'.get? b=!u)(xI:∃u,h'.get? e=!u)(new:l0 X.prog X.w (upd H x o) h' x o):Inv X pi σ (upd H x o) { s with heap:=h',toks:=t' }:=I.un (Un.write mu he k xI) (I.bI.write mu he k xI new)
def Inv.weak{cJ:@&(Option V)}(hs:X.sg=none)(I:Inv X pi σ H s)(hl:-cJ=σ.length)(w:∀(i:Nat) v,cJ[i]?=!!v->σ[i]?=!!v):Inv X pi cJ H s :=
 #[I.ok,I.os,I.bare,I.base,let ⟨m,hn,SN⟩:=I.loc;#[m,hn,λi x v e1 e2 e3=>SN i x v e1 (w i v e2) e3],I.cell,I.free,I.eI,I.pin,I.bI,hl.trans I.len,λy z=>by simp_all]
def Inv.zi{gE:@&(Addr×Obj)}(I:Inv X pi σ H s)(h:∀p∈gE,s.heap.get? p.1=!p.2/\H p.1=none/\p.1≠X.env.locals/\p.1∉X.fs/\∀v,p.2.data≠.cell v):Inv X gE σ H s :=
 #[I.ok,I.os,I.bare,I.base,I.loc,I.cell,I.free,I.eI,λp hp=>(aX.mp hp).elim (λz=>I.pin p (ff _ z)) (h p),I.bI,I.len,I.sg]
def Pb(hN:N.Nodup){j:Nat}(a:N[i]?=!x)(b:N[j]?=!x):i=j:=by
 let#[h1,e1]:=aA.mp a;let#[h2,e2]:=aA.mp b;show(List.getElem_inj hN).mp (e1.trans e2.symm)
def MC{Q:Unit->Shared->Prop}(I:Inv X pi σ H s)(hN:X.Nd)(hi:X.N[i]?=!x)(hx:Loc X.env.scope x)(r:RelV v u)(h:∀s',Inv X pi (σ.set i (!v)) H s'->(∃a,Heap.SameBut a s.heap s'.heap/\(a=X.env.locals\/X.env.cells.lookup x=!a))->Q Unit.unit s')(hf:X.fn x=true\/X.env.scope.names.lookup x=!.local:=by first|show .inl rfl|show .inr rfl|assumption):wpAny M A (storeName X.env x u) Q E s:=by
 let#[m,hn,hl]:=id I.loc;let jW:(X.env.scope.kind==.class||(X.env.scope.kind==.module&&X.env.locals != X.env.globals))=false:=by rw[I.ok.kind];rfl
 let xD:i<σ.length:=by rw[I.len];show(aA.mp hi).1
 let sd:=I.sd;let tracked:∀{a:Addr} {h':Heap},(∃o,s.heap.get? a=!o/\H a=none)->Heap.SameBut a s.heap h'->gJ X.prog X.w H h':=λ{a h'} ha hs b ob e=>by
  let#[_,_,kR]:=ha;show(I.bI b ob e).B8 (λc w' hc q=>(hs.2 c ?_).trans q) (λt q=>q) λt t q=>q;rintro rfl;rcases hc with rfl|hc
  .rw[kR] at e;cases e
  .rw[kR] at hc;cases hc
 rcases hx with hk|hk
 .refine wpAny_storeName_local hk hn (λh' tK hs=>?_) jW;let#[oL,_,_,xt,_]:=id hn;show h _ #[I.ok,I.os,I.bare,#[λb o e n hb hx=>?_,λb o e n hb hx=>?_,I.base.free,λb o e hx=>?_,I.base.iD,I.base.iq,I.base.iE],#[_,tK,λj y v' e1 e2 e3=>?_],λy c e=>?_,I.free,I.eI,λp hp=>?_,tracked #[oL,xt,I.free] hs,by simpa using I.len,λt z=>by rw[hN.2] at z;cases z] #[_,hs,.inl rfl]
  .exact(hs.2 b (aN (ax (ao e) I.ok.above))).trans (I.base.keep b o e n hb hx)
  .let#[sl,e1]:=I.base.slot b o e n hb hx;show#[sl,(hs.2 b (aN (ax (ao e) I.ok.above))).trans e1]
  .let#[o',e1]:=I.base.there b o e hx;show#[o',(hs.2 b (aN (ax (ao e) I.ok.above))).trans e1]
  .by_cases hj:j=i
   .subst hj;rw[hi] at e1;cases e1;rw[aV xD] at e2;cases e2;show#[u,r,.inl #[hk,by simp]]
   .rw[aH (cT hj)] at e2;let#[u',r',q]:=hl j y v' e1 e2 e3;show#[u',r',?_];rcases q with⟨k,e⟩|⟨k,c,e,z⟩
    .refine .inl #[k,?_];have:y≠x:=λe=>hj (Pb hN.1 e1 (e▸hi));simp[this,e]
    .exact .inr #[k,c,e,z.sameBut hs (sd y c e)]
  .let#[w',z]:=I.cell y c e;show#[w',z.sameBut hs (sd y c e)]
  .let#[e,n,ne,nf,d]:=I.pin p hp;show#[(hs.2 p.1 ne).trans e,n,ne,nf,d]
 .let nL:X.fn x=true:=by
   simp_all
  let#[c,hc]:=I.ok.has x (.inl hk);let#[w',z]:=I.cell x c hc;show wpAny_storeName_cell I.ok.kind hk hc z (λh' xQ hs=>?_);let#[oc,Dz,Dy]:=id z;show h { s with heap:=h' } #[I.ok,I.os,I.bare,#[λb o e n hb hx=>?_,λb o e n hb hx=>?_,I.base.free,λb o e hx=>?_,I.base.iD,I.base.iq,I.base.iE],#[m,hn.sameBut hs (cT (sd x c hc)),λj y v' e1 e2 e3=>?_],λy c' e=>?_,I.free,I.eI,λp hp=>?_,tracked #[oc,Dz,I.eI x c hc] hs,by simpa using I.len,λt z=>by rw[hN.2] at z;cases z] #[c,hs,.inr hc]
  .exact(hs.2 b (aN (ax (ao e) (I.ok.qS x c nL hc)))).trans (I.base.keep b o e n hb hx)
  .let#[sl,e1]:=I.base.slot b o e n hb hx;show#[sl,(hs.2 b (aN (ax (ao e) (I.ok.qS x c nL hc)))).trans e1]
  .let#[o',e1]:=I.base.there b o e hx;show#[o',(hs.2 b (aN (ax (ao e) (I.ok.qS x c nL hc)))).trans e1]
  .by_cases hj:j=i
   .subst hj;rw[hi] at e1;cases e1;rw[aV xD] at e2;cases e2;show#[u,r,.inr #[.inl hk,c,hc,xQ]]
   .rw[aH (cT hj)] at e2;let#[u',r',q]:=hl j y v' e1 e2 e3;show#[u',r',?_];rcases q with q|⟨k,c',e,z'⟩
    .exact .inl q
    .refine .inr #[k,c',e,z'.sameBut hs ?_];rintro rfl;show hj (Pb hN.1 e1 (I.ok.inj _ _ _ e hc▸hi))
  .by_cases vh:c'=c
   .subst vh;show#[_,xQ]
   .let#[w2,z2]:=I.cell y c' e;show#[w2,z2.sameBut hs vh]
  .let#[e,n,ne,nf,d]:=I.pin p hp;show#[(hs.2 p.1 ?_).trans e,n,ne,nf,d];intro q;rw[q,Dz] at e;let q':=aD e;show d w' (by rw[<- q'];show Dy)
def Gg{Q:Unit->Shared->Prop}(I:Inv X pi σ H s)(hN:X.Nd)(hi:X.N[i]?=!x)(hx:Loc X.env.scope x)(r:RelV v u)(h:∀s',Inv X pi (σ.set i (!v)) H s'->Q Unit.unit s')(hf:X.fn x=true\/X.env.scope.names.lookup x=!.local:=by first|show .inl rfl|show .inr rfl|assumption):wpAny M A (storeName X.env x u) Q E s :=
 MC I hN hi hx r (λs' I' y=>h s' I') hf
def Inv.HP{s':Shared}(I:Inv X pi σ H s)(ho:s'.os=s.os)(u:Un (fE X.stack) ch H H' s.heap s'.heap)(bI:gJ X.prog X.w H' s'.heap)(hg:AllBare s'.gens)(pJ:∀b∈ch,(b∈X.ex\/X.cQ.heap.objs.size<=b)/\b≠X.env.locals/\(∀x c,X.env.cells.lookup x=!c->c≠b)/\∀p∈X.pn++pi,p.1≠b):Inv X pi σ H' s':=by
 let#[h',g',d',t',o']:=s';let e:o'=s.os:=ho;subst e;show I.call (g':=g') (t':=t') (d':=d') u bI hg pJ
end
noncomputable abbrev XK:=Value->Option Addr->Hp->Prop
noncomputable abbrev St:=@&(Option V)
noncomputable abbrev VK:=V->Hp->Prop
noncomputable abbrev TE:=St->Hp->VK->Prop
noncomputable abbrev TT:=St->Hp->(Bool->Hp->Prop)->Prop
noncomputable abbrev TA:=St->Hp->(List V->Hp->Prop)->Prop
structure Ends where
 nx:St->Hp->Prop
 rt:VK
 bk:St->Hp->Prop:=λ_ _=>False
 ct:St->Hp->Prop:=λ_ _=>False
noncomputable abbrev TS:=Ends->St->Hp->Prop
def EP(X:Cx)(pi:@&(Addr×Obj))(σ:St)(Q:VK)(u:Value)(s':Shared):Prop:=∃v H',Inv X pi σ H' s'/\RelV v u/\Q v H'
def TP(X:Cx)(pi:@&(Addr×Obj))(σ:St)(Q:Bool->Hp->Prop)(b:Bool)(s':Shared):Prop:=∃H',Inv X pi σ H' s'/\Q b H'
def AP(X:Cx)(pi:@&(Addr×Obj))(σ:St)(Q:@&V->Hp->Prop)(us:@&Value)(s':Shared):Prop:=∃vs H',Inv X pi σ H' s'/\Vals vs us/\Q vs H'
abbrev SP(X:Cx)(pi:@&(Addr×Obj))(D:Ends)(f:Flow)(s':Shared):Prop :=
 match f with
 |.next=>∃cJ H',Inv X pi cJ H' s'/\D.nx cJ H'
 |.brk=>∃cJ H',Inv X pi cJ H' s'/\D.bk cJ H'
 |.cont=>∃cJ H',Inv X pi cJ H' s'/\D.ct cJ H'
 |.ret u=>∃v cJ H',Inv X pi cJ H' s'/\RelV v u/\D.rt v H'
abbrev PE(X:Cx)(e:Expr)(t:TE):Prop :=
 ∀(pi:@&(Addr×Obj)) (s:Shared) (σ:St) (H:Hp) (Q:VK),Inv X pi σ H s->t σ H Q->wpAny (model X.prog X.w) X.A (eval e X.env) (EP X pi σ Q) X.xe s
abbrev PT(X:Cx)(e:Expr)(t:TT):Prop :=
 ∀(pi:@&(Addr×Obj)) (s:Shared) (σ:St) (H:Hp) (Q:Bool->Hp->Prop),Inv X pi σ H s->t σ H Q->wpAny (model X.prog X.w) X.A (isTrue e X.env (eval e X.env)) (TP X pi σ Q) X.xe s
abbrev PW(X:Cx)(e:Expr)(t:TT):Prop :=
 ∀(whole:Sem Value) (pi:@&(Addr×Obj)) (s:Shared) (σ:St) (H:Hp) (Q:Bool->Hp->Prop),Inv X pi σ H s->t σ H Q->wpAny (model X.prog X.w) X.A (isTrue e X.env whole) (TP X pi σ Q) X.xe s
def PW.pt{t:TT}(h:PW X e t):PT X e t:=h _
abbrev PA(X:Cx)(es:@&Expr)(t:TA):Prop :=
 ∀(pos:Pos) (pi:@&(Addr×Obj)) (s:Shared) (σ:St) (H:Hp) (Q:@&V->Hp->Prop),Inv X pi σ H s->t σ H Q->wpAny (model X.prog X.w) X.A (spliced (backTo pos (starEach es X.env))) (AP X pi σ Q) X.xe s
abbrev PS(X:Cx)(st:Stmt)(t:TS):Prop :=
 ∀(pi:@&(Addr×Obj)) (s:Shared) (σ:St) (H:Hp) (D:Ends),Inv X pi σ H s->t D σ H->wpAny (model X.prog X.w) X.A (exec st X.env) (SP X pi D) X.xe s
abbrev jM(X:Cx)(st:@&Stmt)(t:TS):Prop :=
 ∀(pi:@&(Addr×Obj)) (s:Shared) (σ:St) (H:Hp) (D:Ends),Inv X pi σ H s->t D σ H->wpAny (model X.prog X.w) X.A (execs st X.env) (SP X pi D) X.xe s
def cS{t:Sem α}{Q Q':α->Shared->Prop}(h:wpAny M A t Q E s)(hQ:∀a s,Q a s->Q' a s):wpAny M A t Q' E s:=aU h hQ λy y x=>x
section
def bin{a b:Expr}(ha:PE X a ta)(hb:PE X b tb){R:V->V->Hp->Prop}(I:Inv X pi σ H s)(h:ta σ H λx H1=>tb σ H1 λy H2=>R x y H2){Q:α->Shared->Prop}{f:Value->Value->Sem α}(hf:∀v u s2 x y H2,Inv X pi σ H2 s2->RelV x v->RelV y u->R x y H2->wpAny (model X.prog X.w) X.A (f v u) Q X.xe s2) :
  wpAny (model X.prog X.w) X.A (eval a X.env) (λv bJ=>wpAny (model X.prog X.w) X.A (eval b X.env) (λu fm=>wpAny (model X.prog X.w) X.A (f v u) Q X.xe fm) X.xe bJ) X.xe s:=by
 show cS (ha pi s σ H _ I h) λv s1 bx=>?_;let#[x,H1,I1,r1,q1]:=bx;show cS (hb pi s1 σ H1 _ I1 q1) λu s2 bx=>?_;let#[y,H2,I2,r2,q2]:=bx;show hf v u s2 x y H2 I2 r1 r2 q2
def Bx(i:Nat):TE:=λσ H Q=>∃v,σ[i]?=!!v/\Q v H
def tC(v:V):TE:=λx H Q=>Q v H
def V3(hN:X.N[i]?=!x)(hv:sy X.env.scope x)(hd:(x==("__debug__":Str))=false:=by decide)(jX:(x==("__classdict__":Str))=false:=by decide):PE X (.Name x pos) (Bx i):=by
 intro pi s σ H Q I h;let#[v,e,h]:=h;let#[m,hn,hl]:=I.loc;let#[u,r,l]:=hl i x v hN e hv;let fin:EP X pi σ Q u s:=#[v,H,I,r,h]
 rcases l with⟨hk,hm⟩|⟨hk,c,hc,rS⟩
 .exact wpAny_Name (wpAny_loadName_local I.ok.kind hk hn hm fin) hd
 .rcases hk with hk|hk
  .exact wpAny_Name (wpAny_loadName_cell I.ok.kind hk hc rS fin) hd
  .exact wpAny_Name (wpAny_loadName_free I.ok.kind hk hc rS fin jX) hd
def PU{i j pos}:PE X (.Constant (.int i) j pos) (tC (.int i)):=λx x x H x I h=>wpAny_Constant_int #[.int i,H,I.tok _,#[_,rfl],h]
def b09{b j pos}:PE X (.Constant (.bool b) j pos) (tC (.bl b)):=λx x x H x I h=>Constant_bool #[.bl b,H,I,rfl,h]
def bP2{j pos}:PE X (.Constant .none j pos) (tC .aW):=λx x x H x I h=>Constant_none #[.aW,H,I,rfl,h]
def PY{x j pos}:PE X (.Constant (.str x) j pos) (tC (.str x)):=λy y y H y I h=>Calls.Constant_str #[.str x,H,I.tok _,#[_,rfl],h]
def Gl(X:Cx)(x:Str):Prop:=X.env.kindOf x=!.globalImplicit
def E5(I:Inv X pi σ H s)(hg:Gl X x)(hm:X.mg x=!u)(h:Q u s)(hd:(x==("__debug__":Str))=false:=by decide):wpAny (model X.prog X.w) X.A (eval (.Name x pos) X.env) Q E s :=
 Cu I.ok.kind hg (Calls.loadGlobal_global (by rw[I.ok.glob];show I.mod.glob.keeps I.bk) hm h) hd
def V9(I:Inv X pi σ H s)(hg:Gl X x)(hm:X.mg x=none)(hv:bootBuiltins x=!u)(h:Q u s)(hn:x≠"__name__":=by decide)(hd:(x==("__debug__":Str))=false:=by decide):wpAny (model X.prog X.w) X.A (eval (.Name x pos) X.env) Q E s:=by
 let#[mb,h1,h2]:=I.mod.blt;show Cu I.ok.kind hg (Calls.loadGlobal_builtin (by rw[I.ok.glob];show I.mod.glob.keeps I.bk) hm (by rw[I.ok.blt];show h1.keeps I.bk) ((h2 x hn).trans hv) h) hd
def Bl(hg:Gl X x)(hm:X.mg x=!u)(r:RelV v u)(hd:(x==("__debug__":Str))=false:=by decide):PE X (.Name x pos) (tC v) :=
 λy y y H y I h=>E5 I hg hm #[v,H,I,r,h] hd
def bC1(hg:Gl X x)(hm:X.mg x=none)(hv:bootBuiltins x=!u)(r:RelV v u)(hn:x≠"__name__":=by decide)(hd:(x==("__debug__":Str))=false:=by decide):PE X (.Name x pos) (tC v) :=
 λy y y H y I h=>V9 I hg hm hv #[v,H,I,r,h] hn hd
variable{a b:Expr}
variable{tA zP:TT}{rest:@&Expr}
def b89(t u:TT):TT:=λσ H Q=>t σ H λc H1=>if c=true then u σ H1 Q else Q false H1
def Rz(t u:TT):TT:=λσ H Q=>t σ H λc H1=>if c=true then Q true H1 else u σ H1 Q
def b83(t:TT):TT:=λσ H Q=>t σ H λc H1=>Q (~~~c) H1
def bA7(ha:PT X a tA):PW X (.BoolOp .And [a] pos) tA:=by
 intro wh pi s σ H Q I h;show isTrue_and (cS (ha pi s σ H Q I h) λc s1 e=>?_);cases c with
 |true=>show isTrue_and_nil e
 |false=>show e
def bO2(ha:PT X a tA):PW X (.BoolOp .Or [a] pos) tA:=by
 intro wh pi s σ H Q I h;show isTrue_or (cS (ha pi s σ H Q I h) λc s1 e=>?_);cases c with
 |false=>show isTrue_or_nil e
 |true=>show e
def bO3(ha:PT X a tA)(hb:PW X (.BoolOp .And (b::rest) pos) zP):PW X (.BoolOp .And (a::b::rest) pos) (b89 tA zP):=by
 intro wh pi s σ H Q I h;show isTrue_and (cS (ha pi s σ H _ I h) ?_);rintro c s1 ⟨H1,I1,q1⟩;cases c with
 |true=>show hb wh pi s1 σ H1 Q I1 q1
 |false=>show#[H1,I1,q1]
def b03(ha:PT X a tA)(hb:PW X (.BoolOp .Or (b::rest) pos) zP):PW X (.BoolOp .Or (a::b::rest) pos) (Rz tA zP):=by
 intro wh pi s σ H Q I h;show isTrue_or (cS (ha pi s σ H _ I h) ?_);rintro c s1 ⟨H1,I1,q1⟩;cases c with
 |true=>show#[H1,I1,q1]
 |false=>show hb wh pi s1 σ H1 Q I1 q1
def bO4(ha:PT X a tA):PT X (.UnaryOp .Not a pos) (b83 tA):=by
 intro pi s σ H Q I h;show isTrue_not (ha pi s σ H (λc H1=>Q (~~~c) H1) I h)
def Zu(ta tb:TE):TE:=λσ H Q=>ta σ H λx H1=>∃c,x=.bl c/\if c=true then tb σ H1 Q else Q (.bl false) H1
def b82(ta tb:TE):TE:=λσ H Q=>ta σ H λx H1=>∃c,x=.bl c/\if c=true then Q (.bl true) H1 else tb σ H1 Q
def Zz(ta:TE):TE:=λσ H Q=>ta σ H λx H1=>∃c,x=.bl c/\Q (.bl (~~~c)) H1
def bP0{op}{t:TE}(h:PE X a t):PE X (.BoolOp op [a] pos) t:=λpi s σ H Q I hw=>BoolOp_one (h pi s σ H Q I hw)
def bP5(ha:PE X a ta)(hb:PE X (.BoolOp .And (b::rest) pos) tb):PE X (.BoolOp .And (a::b::rest) pos) (Zu ta tb):=by
 intro pi s σ H Q I h;show BoolOp_and (cS (ha pi s σ H _ I h) λv s1 bx=>?_);let#[x,H1,I1,r1,q1]:=bx;let#[c,rfl,q1]:=q1;cases r1;show cw ?_;cases c with
 |true=>show hb pi s1 σ H1 Q I1 q1
 |false=>show#[.bl false,H1,I1,rfl,q1]
def b06(ha:PE X a ta)(hb:PE X (.BoolOp .Or (b::rest) pos) tb):PE X (.BoolOp .Or (a::b::rest) pos) (b82 ta tb):=by
 intro pi s σ H Q I h;show BoolOp_or (cS (ha pi s σ H _ I h) λv s1 bx=>?_);let#[x,H1,I1,r1,q1]:=bx;let#[c,rfl,q1]:=q1;cases r1;show cw ?_;cases c with
 |false=>show hb pi s1 σ H1 Q I1 q1
 |true=>show#[.bl true,H1,I1,rfl,q1]
def bP1(ha:PE X a ta):PE X (.UnaryOp .Not a pos) (Zz ta):=by
 intro pi s σ H Q I h;show UnaryOp_ (cS (ha pi s σ H _ I h) λv s1 bx=>?_);let#[x,H1,I1,r1,q1]:=bx;let#[c,rfl,q1]:=q1;cases r1;show not_of (cw #[.bl (~~~c),H1,I1,rfl,q1])
def RA(t:TT)(ta tb:TE):TE:=λσ H Q=>t σ H λc H1=>if c=true then ta σ H1 Q else tb σ H1 Q
def Xy(hc:PT X c tA)(ha:PE X a ta)(hb:PE X b tb):PE X (.IfExp c a b pos) (RA tA ta tb):=by
 intro pi s σ H Q I h;show wpAny_IfExp (cS (hc pi s σ H _ I h) ?_);rintro d s1 ⟨H1,I1,q1⟩;cases d with
 |true=>show ha pi s1 σ H1 Q I1 q1
 |false=>show hb pi s1 σ H1 Q I1 q1
end
abbrev gU(K:PySem.W.Frag)(H:Hp)(a:Addr)(xs:@&V):Prop :=
 Rd H a (.lst xs) \/
  ∃(o:Obj) (bc:Array Value) (n:Nat),K.lookup a=!o/\o.cls=.type "list"/\o.dict=none/\o.data=.seq bc n/\bc.size<=sizeLine/\Vals xs bc.toList
abbrev iB(K:PySem.W.Frag)(H:Hp)(a:Addr)(xs:@&V):Prop :=
 Rd H a (.tup xs) \/
  ∃(o:Obj) (bc:Array Value) (n:Nat),K.lookup a=!o/\o.cls=.type "tuple"/\o.data=.seq bc n/\bc.size<=sizeLine/\Vals xs bc.toList
abbrev UL:Value->Option V
 |.none=>!.aW
 |.bool b=>!.bl b
 |.int i _=>!.int i
 |.str x _=>!.str x
 |.bytes b _=>!.mG b
 |.float b _=>!.tW b
 |.ref a=>!.ref a
 |.type n=>!.ty n
 |_=>none
def RelV.abs{x:V}(r:RelV x u):UL u=!x:=by
 cases x with
 |aW=>cases r;rfl
 |bl _=>cases r;rfl
 |int _=>let#[t,rfl]:=r;rfl
 |str _=>let#[t,rfl]:=r;rfl
 |mG _=>let#[t,rfl]:=r;rfl
 |tW _=>let#[t,rfl]:=r;rfl
 |ref _=>cases r;rfl
 |ty _=>cases r;rfl
def RelV.inj{x y:V}{u:Value}(r:RelV x u)(q:RelV y u):x=y:=aD (r.abs.symm.trans q.abs)
def Vals.inj{xs ys:@&V}{us:@&Value}(h:Vals xs us)(h':Vals ys us):xs=ys:=by
 induction h generalizing ys with
 |nil=>cases h';rfl
 |cons r t ih =>
  cases h' with
  |cons r' t'=>rw[r.inj r',ih t']
section
variable{ys:@&V}
def gU.of(h:H a=!.lst xs):gU K H a xs:=.inl (.inl h)
def Inv.list(I:Inv X pi σ H s)(h:gU X.K H a xs):∃bc:@&Value,Vals xs bc/\PlainL s.heap a bc.toArray/\-xs<=sizeLine:=by
 rcases h with h|⟨o,bc,n,hk,hc,hd,hs,hz,r⟩
 .let#[z,bc,n,r,e]:=h.ok I.bI;show#[bc,r,#[_,n,e,rfl,rfl,rfl],z]
 .refine#[bc.toList,r,#[o,n,I.gC a o hk,hc,hd,by simpa using hs],?_];let e:=-r
  grind
def Inv.tuple(I:Inv X pi σ H s)(h:iB X.K H a xs):∃bc:@&Value,Vals xs bc/\IsTup s.heap a bc.toArray/\-xs<=sizeLine:=by
 rcases h with h|⟨o,bc,n,hk,hc,hs,hz,r⟩
 .let#[z,bc,r,p]:=h.ok I.bI;show#[bc,r,p.tup,z]
 .refine#[bc.toList,r,#[o,I.gC a o hk,hc,n,by simpa using hs],?_];let e:=-r;simp only[Array.length_toList] at e;omega
def Inv.OS(I:Inv X pi σ H s)(h:gU X.K H a xs)(h':gU X.K H a ys):xs=ys:=by
 let#[bc,r,#[o,n,e,_,_,d],_]:=I.list h;let#[its',r',#[o',n',e',_,_,d'],_]:=I.list h';rw[e] at e';cases e';rw[d] at d';injection d' with d1 _;have:bc=its':=by simpa using gw Array.toList d1
 subst this;show r.inj r'
def Inv.MF(I:Inv X pi σ H s)(h:iB X.K H a xs)(h':iB X.K H a ys):xs=ys:=by
 let#[bc,r,#[o,e,_,n,d],_]:=I.tuple h;let#[its',r',#[o',e',_,n',d'],_]:=I.tuple h';rw[e] at e';cases e';rw[d] at d';injection d' with d1 _;have:bc=its':=by simpa using gw Array.toList d1
 subst this;show r.inj r'
end
noncomputable abbrev Cx.rj(X:Cx)(E:Value->Shared->Prop):Cx:={ X with xe:=E }
def Cx.Ok.rj{X:Cx}(ok:X.Ok)(E:Value->Shared->Prop):(X.rj E).Ok :=
 #[ok.mod,ok.kind,ok.glob,ok.blt,ok.above,ok.inj,ok.has,ok.qS,ok.hd,ok.frames,ok.rC,ok.vp,ok.bs,ok.nD,ok.kq,ok.lj,ok.E8,ok.nM]
def Cx.Ok.HF(ok:(X.rj E).Ok):X.Ok :=
 #[ok.mod,ok.kind,ok.glob,ok.blt,ok.above,ok.inj,ok.has,ok.qS,ok.hd,ok.frames,ok.rC,ok.vp,ok.bs,ok.nD,ok.kq,ok.lj,ok.E8,ok.nM]
def Inv.rj(I:Inv X pi σ H s)(E:Value->Shared->Prop):Inv (X.rj E) pi σ H s:=#[I.ok.rj E,I.os,I.bare,I.base,I.loc,I.cell,I.free,I.eI,I.pin,I.bI,I.len,I.sg]
def Inv.HF(I:Inv (X.rj E) pi σ H s):Inv X pi σ H s:=#[I.ok.HF,I.os,I.bare,I.base,I.loc,I.cell,I.free,I.eI,I.pin,I.bI,I.len,I.sg]
section
variable{st:Stmt}{rest:@&Stmt}{t u:TS}
def KH:TS:=λD σ H=>D.nx σ H
def b80(t u:TS):TS:=λD σ H=>t { D with nx:=u D } σ H
def FQ:jM X [] KH:=λ_ _ σ H _ I h=>wg #[σ,H,I,h]
def Ge(h1:PS X st t)(h2:jM X rest u):jM X (st::rest) (b80 t u):=by
 intro pi s σ H D I h;show wpAny_execs_cons (cS (h1 pi s σ H { D with nx:=u D } I h) λf s1 q=>?_);cases f with
 |next =>
  let#[cJ,H',I',q]:=q;show h2 pi s1 cJ H' D I' q
 |ret v=>show q
 |brk=>show q
 |cont=>show q
def bB2:PS X (.Pass pos) KH:=λ_ _ σ H _ I h=>wpAny_Pass #[σ,H,I,h]
def Inv.quiet(I:Inv X pi σ H s):interactive X.env=false:=by simp[interactive,I.ok.kind]
def Zx(te:TE):TS:=λD σ H=>te σ H λx H1=>D.nx σ H1
def bB3(he:PE X e te)(hs:swapsWith e none pos.line X.env=pure false:=by rfl):PS X (.Expr e pos) (Zx te):=by
 intro pi s σ H D I h;show wpAny_Expr_any (cS (he pi s σ H _ I h) (by rintro v s1 ⟨x,H1,I1,r1,q1⟩;show #[σ,H1,I1,q1])) I.quiet hs
def b81(te:TE):TS:=λD σ H=>te σ H D.rt
def P'(he:PE X e te):PS X (.Return (!e) pos) (b81 te):=by
 intro pi s σ H D I h;show wpAny_Return_some (cS (he pi s σ H _ I h) (by rintro v s1 ⟨x,H1,I1,r1,q1⟩;show #[x,σ,H1,I1,r1,q1]))
def ZC:TS:=λD x H=>D.rt .aW H
def bB1:PS X (.Return none pos) ZC:=λ_ _ σ H _ I h=>wpAny_Return_none #[.aW,σ,H,I,rfl,h]
def b85(c:TT)(t u:TS):TS:=λD σ H=>c σ H λb H1=>if b=true then t D σ H1 else u D σ H1
def b04{a b:@&Stmt}{tc:TT}(hc:PT X c tc)(ha:jM X a t)(hb:jM X b u):PS X (.If c a b pos) (b85 tc t u):=by
 intro pi s σ H D I h;show wpAny_If (cS (hc pi s σ H _ I h) ?_);rintro d s1 ⟨H1,I1,q1⟩;cases d with
 |true=>show ha pi s1 σ H1 D I1 q1
 |false=>show hb pi s1 σ H1 D I1 q1
end
noncomputable abbrev TG:=V->St->Hp->(St->Hp->Prop)->Prop
noncomputable abbrev pP:=@&V->St->Hp->(St->Hp->Prop)->Prop
abbrev PG(X:Cx)(target:Expr)(t:TG):Prop :=
 ∀(pi:@&(Addr×Obj)) (s:Shared) (σ:St) (H:Hp) (v:V) (u:Value) (Q:St->Hp->Prop),Inv X pi σ H s->RelV v u->t v σ H Q ->
  wpAny (model X.prog X.w) X.A (assign target X.env u) (λx s'=>∃cJ H',Inv X pi cJ H' s'/\Q cJ H') X.xe s
abbrev we(X:Cx)(ts:@&Expr)(t:pP):Prop :=
 ∀(pi:@&(Addr×Obj)) (s:Shared) (σ:St) (H:Hp) (vs:@&V) (us:@&Value) (Q:St->Hp->Prop),Inv X pi σ H s->Vals vs us->t vs σ H Q ->
  wpAny (model X.prog X.w) X.A (assignInOrder ((assignEach ts X.env).map (·.2)) us) (λx s'=>∃cJ H',Inv X pi cJ H' s'/\Q cJ H') X.xe s
noncomputable abbrev EZ:=V->V->V->Hp->(Hp->Prop)->Prop
abbrev EY(X:Cx)(t:EZ):Prop :=
 ∀(pi:@&(Addr×Obj)) (s:Shared) (σ:St) (H:Hp) (o i v:V) (ov iv u:Value) (Q:Hp->Prop),Inv X pi σ H s->RelV o ov->RelV i iv->RelV v u->t o i v H Q ->
  wpAny (model X.prog X.w) X.A (setItem ov iv u) (λx s'=>∃H',Inv X pi σ H' s'/\Q H') X.xe s
def vN(i:Nat):TG:=λv σ H Q=>Q (σ.set i (!v)) H
def Oe(hN:X.Nd)(hi:X.N[i]?=!x)(hx:Loc X.env.scope x)(hf:X.fn x=true\/X.env.scope.names.lookup x=!.local:=by first|show .inl rfl|show .inr rfl|assumption):PG X (.Name x pos) (vN i):=by
 intro pi s σ H v u Q I r h;show wpAny_assign_Name (Gg I hN hi hx r (λs' I'=>#[_,H,I',h]) hf)
def Ly:pP:=λvs σ H Q=>vs=[]/\Q σ H
def Kj(t:TG)(u:pP):pP:=λvs σ H Q=>∃v r,vs=v::r/\t v σ H λcJ H'=>u r cJ H' Q
def Of:we X [] Ly:=by
 intro pi s σ H vs us Q I r h;let#[e,h]:=h;show assignInOrder_nil #[σ,H,I,h]
def Gd{t:TG}{u:pP}(h1:PG X e t)(h2:we X es u)(hs:(assignEach (e::es) X.env).map (·.2)=assign e X.env::(assignEach es X.env).map (·.2):=by rfl):we X (e::es) (Kj t u):=by
 intro pi s σ H vs us Q I r h;let#[v,vr,e1,h]:=h;subst e1;cases r with
 |cons r rr =>
  rw[hs];show assignInOrder_cons (cS (h1 pi s σ H _ _ _ I r h) λx s1 bx=>?_);let#[lR,H1,I1,q1]:=bx;show h2 pi s1 lR H1 _ _ Q I1 rr q1
def Ve(K:PySem.W.Frag)(n:Nat)(t:pP):TG:=λv σ H Q=>∃a xs,v=.ref a/\iB K H a xs/\-xs=n/\t xs σ H Q
def PZ{t:pP}{n:Nat}(hc:X.calm=true)(h:we X es t)(hn:(assignEach es X.env).length=n:=by rfl)(eO:(assignEach es X.env).findIdx? (·.1)=none:=by rfl):PG X (.Tuple es k pos) (Ve X.K n t):=by
 intro pi s σ H v u Q I r hw;let#[a,xs,e1,hq,hl,hw]:=hw;subst e1;cases r;let#[bc,rv,ht,hz]:=I.tuple hq;show assign_Tuple_tuple (I.ok.hd hc) ht (by simp[hn,<- hl,(-rv)]) eO λh' hx=>?_;let I1:=I.kept (t':=s.toks) λb o e=>hx b o (aN (ao e)) e;show h pi _ σ H xs _ Q I1 (_/rv) hw
def Vd(to ti:TE)(t:EZ):TG:=λv σ H Q=>to σ H λo H1=>ti σ H1 λi H2=>t o i v H2 λH3=>Q σ H3
def Hu{o i:Expr}{to ti:TE}{t:EZ}(ho:PE X o to)(hi:PE X i ti)(hs:EY X t)(ha:∀ v,assign (.Subscript o i pos) X.env v=(do
   let ov <- holding [v] (eval o X.env)
   let iv <- holding [v,ov] (eval i X.env)
   standAt pos
   holding [v,ov,iv] (setItem ov iv v)
   release [v,ov,iv] []):=by intro _;rfl):PG X (.Subscript o i pos) (Vd to ti t):=by
 intro pi s σ H v u Q I r h;rw[ha];show aa (bj (cS (ho pi s σ H _ I h) λov s1 bx=>?_));let#[x,H1,I1,r1,q1]:=bx;show aa (bj (cS (hi pi s1 σ H1 _ I1 q1) λiv s2 bx=>?_));let#[y,H2,I2,r2,q2]:=bx;show aa (dH (aa (bj (cS (hs pi s2 σ H2 x y v ov iv u _ I2 r1 r2 r q2) ?_))));rintro _ s3 ⟨H3,I3,q3⟩;show wpAny_release #[σ,H3,I3,q3]
def vF(te:TE)(g:TG):TS:=λD σ H=>te σ H λx H1=>g x σ H1 D.nx
def AL{g:TG}(he:PE X e te)(hg:PG X tg g)(hs:swapsWithSole [tg] e pos.line X.env=pure false:=by rfl)(hw:swappedStores [tg] e X.env=pure none:=by rfl)(h1:(assignEach [tg] X.env).map (·.2)=[assign tg X.env]:=by rfl):PS X (.Assign [tg] e pos) (vF te g):=by
 intro pi s σ H D I h;show wpAny_Assign_stores (cS (he pi s σ H _ I h) λv s1 bx=>?_) hs hw;let#[x,H1,I1,r1,q1]:=bx;rw[h1];show cS (hg pi s1 σ H1 x v _ I1 r1 q1) λy s2 q=>q
def Qa{pos':Pos}(hN:X.Nd)(hi:X.N[i]?=!x)(hx:Loc X.env.scope x)(he:PE X e te)(hs:swapsWith e (!.Name x pos') pos.line X.env=pure false:=by rfl)(hf:X.fn x=true\/X.env.scope.names.lookup x=!.local:=by first|show .inl rfl|show .inr rfl|assumption) :
  PS X (.Assign [.Name x pos'] e pos) (vF te (vN i)):=by
 intro pi s σ H D I h;show wpAny_Assign_Name (cS (he pi s σ H _ I h) λv s1 bx=>?_) hs;let#[y,H1,I1,r1,q1]:=bx;show Gg I1 hN hi hx r1 (λs2 I2=>#[_,H1,I2,q1]) hf
structure It where
 go:Nat->Hp->Prop
 uJ:Nat->Hp->V->Hp->Prop
 stop:Nat->Hp->Prop
abbrev J6(X:Cx)(pi:@&(Addr×Obj))(H:Hp)(b:Addr):Prop :=
 H b=none/\b≠X.env.locals/\b∉X.fs/\(b∈X.ex\/X.cQ.heap.objs.size<=b)/\(∀x c,X.env.cells.lookup x=!c->c≠b)/\∀p∈X.pn++pi,p.1≠b
def Inv.sh(I:Inv X pi σ H s)(hb:s⁻¹<=b)(hn:H' b=none):J6 X pi H' b:=by
 show#[hn,bR (ax I.lt hb),I.Fs hb,.inr (aL I.sz hb),λx c e z=>?_,λp hp z=>?_]
 .let#[v,q]:=I.cell x c e;show absurd (ax q.lt (by simp_all)) (bQ _)
 .exact absurd (ax (ao (I.pin p hp).1) (by simp_all)) (bQ _)
structure Turn(P:Program)(w:World)(K:PySem.W.Frag)(tg:Expr)(J:It)(fp:@&Addr)(it:Addr)(tn:Nat->Heap->Prop):Prop where
 mem:it∈fp
 obj:∀i h,tn i h->∀b∈fp,∃o,h.get? b=!o/\∀v,o.data≠.cell v
 keep:∀i h h',tn i h->(∀b∈fp,∀o,h.get? b=!o->h'.get? b=!o)->tn i h'
 item:∀(X:Cx),X.prog=P->X.w=w->X.K=K->X.calm=true->∀(i:Nat) (pi:@&(Addr×Obj)) (s:Shared) (σ:St) (H:Hp) (E:Value->Shared->Prop),Inv X pi σ H s->(∀b∈fp,J6 X pi H b)->tn i s.heap->J.go i H ->
  wpAny (model P w) X.A (pyNext (.ref it)) (λr s1=>∃ u,r=!u /\
   wpAny (model P w) X.A (letOwnedTupleGo tg (.ref it) u) (λ_ s2=>∃ x H',Inv X pi σ H' s2/\RelV x u/\J.uJ i H x H'/\tn (i + 1) s2.heap/\∀ b ∈ fp,H' b=none) E s1) E s
 done:∀(X:Cx),X.prog=P->X.w=w->X.K=K->X.calm=true->∀(i:Nat) (pi:@&(Addr×Obj)) (s:Shared) (σ:St) (H:Hp) (E:Value->Shared->Prop),Inv X pi σ H s->(∀b∈fp,J6 X pi H b)->tn i s.heap->J.stop i H ->
  wpAny (model P w) X.A (pyNext (.ref it)) (λr s1=>r=none/\Inv X pi σ H s1) E s
 self:∀(A:Around) (i:Nat) (s:Shared) (Q:Value->Shared->Prop) (E:Value->Shared->Prop),tn i s.heap->Q (.ref it) s->wpAny (model P w) A (pyIter (.ref it)) Q E s
noncomputable abbrev TI:=St->Hp->(It->Hp->Prop)->Prop
abbrev Qr(X:Cx)(pi:@&(Addr×Obj))(σ:St)(tg:Expr)(R:It->Hp->Prop)(zV:Value)(s2:Shared):Prop :=
 ∃(it:Addr) (fp:@&Addr) (tn:Nat->Heap->Prop) (J:It) (H':Hp),zV=.ref it/\Inv X pi σ H' s2/\Turn X.prog X.w X.K tg J fp it tn/\tn 0 s2.heap/\(∀b∈fp,J6 X pi H' b)/\R J H'
abbrev PI(X:Cx)(tg iter:Expr)(wi:TI):Prop :=
 ∀(pi:@&(Addr×Obj)) (s:Shared) (σ:St) (H:Hp) (R:It->Hp->Prop),Inv X pi σ H s->wi σ H R ->
  wpAny (model X.prog X.w) X.A (eval iter X.env) (λv s1=>wpAny (model X.prog X.w) X.A (pyIter v) (Qr X pi σ tg R) X.xe s1) X.xe s
def BI{it:Addr}{o:Obj}{n:String}{vs:Array Value}{Q:Unit->Shared->Prop}(ho:s.heap.get? it=!o)(hc:o.cls=.type n)(hd:o.data=.fields vs)(hn:["enumerate","zip","dict_itemiterator","dict_reverseitemiterator","odict_iterator","itertools.zip_longest","itertools.pairwise"].contains n=false)(hQ:Q Unit.unit s):wpAny M A (letOwnedTupleGo tg (.ref it) u) Q E s:=by
  cases tg<;>first
    |show aj hQ
    | (cases u <;> first
        |show aj hQ
        | (show aa (wpAny_load ho ?_)
           rw[hc,hd];change wpAny M A (if(["enumerate","zip","dict_itemiterator","dict_reverseitemiterator","odict_iterator","itertools.zip_longest","itertools.pairwise"].contains n&&vs[0]?==!rawInt _)=true then _ else _) Q E s;rw[aq (by intro h;rw[hn,Bool.false_and] at h;cases h)];show aj hQ))
abbrev Ie(K:PySem.W.Frag)(a:Addr):It :=
 #[λi H=>∃xs x,gU K H a xs/\xs[i]?=!x,λi H x H'=>H'=H/\∀xs,gU K H a xs->xs[i]?=!x,λi H=>∃xs,gU K H a xs/\-xs<=i]
abbrev Ib(K:PySem.W.Frag)(a:Addr):It :=
 #[λi H=>∃xs x,iB K H a xs/\xs[i]?=!x,λi H x H'=>H'=H/\∀xs,iB K H a xs->xs[i]?=!x,λi H=>∃xs,iB K H a xs/\-xs<=i]
def zz(lo:Int)(n:Nat):It:=#[λi y=>i<n,λi H x H'=>H'=H/\x=.int (lo+i),λi y=>n<=i]
def a40(a it:Addr):Turn P w K tg (Ie K a) [it] it (λi h=>h.IsListIter it a i) where
 mem:=by simp
 obj:=λi h st b hb=>by
  let e:b=it:=by simpa using hb
  subst e;let#[o,e,c,d]:=st;show#[o,e,λv z=>by simp_all]
 keep:=λi h h' st k=>st.at λo e=>k it #[_] o e
 item:=by
  intro X hP hw hK hc i pi s σ H E I hf st hg;subst hP hw hK;let#[xs,x,hq,hx]:=hg;let#[bc,rv,p,hz]:=I.list hq;let#[u,hu,ru]:=rv.get hx;let#[f0,f1,f2,f3,f4,f5]:=hf it #[_];show wpAny_pyNext_list_item st p.isList (_/hu) λh' mW sb=>?_;let I1:=I.turned (t':=s.toks) (λb o hb e=>(sb.2 b hb).trans e) f0 f1 f3 f4 f5;let#[o,e,c,d]:=id mW;show#[u,rfl,BI e c d ∅ #[x,H,I1,ru,#[rfl,λys hy=>by rw[I.OS hy hq];show hx],mW,λb hb=>(hf b hb).1]]
 done:=by
  intro X hP hw hK hc i pi s σ H E I hf st hg;subst hP hw hK;let#[xs,hq,hx]:=hg;let#[bc,rv,p,hz]:=I.list hq;let#[f0,f1,f2,f3,f4,f5]:=hf it #[_];let hl:=-rv;show wpAny_pyNext_list_end (I.ok.hd hc) st p.isList (by simp;omega) λh' eb=>#[rfl,I.turned (t':=s.toks) (λb o hb e=>eb b o hb e) f0 f1 f3 f4 f5]
 self:=λy y y y y st h=>wpAny_pyIter_listiter st h
def aW1(a it:Addr):Turn P w K tg (Ib K a) [it] it (λi h=>h.IsTupleIter it a i) where
 mem:=by simp
 obj:=λi h st b hb=>by
  let e:b=it:=by simpa using hb
  subst e;let#[o,e,c,d]:=st;show#[o,e,λv z=>by simp_all]
 keep:=λi h h' st k=>st.at λo e=>k it #[_] o e
 item:=by
  intro X hP hw hK hc i pi s σ H E I hf st hg;subst hP hw hK;let#[xs,x,hq,hx]:=hg;let#[bc,rv,p,hz]:=I.tuple hq;let#[u,hu,ru]:=rv.get hx;let#[f0,f1,f2,f3,f4,f5]:=hf it #[_];show wpAny_pyNext_tuple_item st (show s.heap.IsTuple a bc.toArray from p) (_/hu) λh' mW sb=>?_;let I1:=I.turned (t':=s.toks) (λb o hb e=>(sb.2 b hb).trans e) f0 f1 f3 f4 f5;let#[o,e,c,d]:=id mW;show#[u,rfl,BI e c d ∅ #[x,H,I1,ru,#[rfl,λys hy=>by rw[I.MF hy hq];show hx],mW,λb hb=>(hf b hb).1]]
 done:=by
  intro X hP hw hK hc i pi s σ H E I hf st hg;subst hP hw hK;let#[xs,hq,hx]:=hg;let#[bc,rv,p,hz]:=I.tuple hq;let#[f0,f1,f2,f3,f4,f5]:=hf it #[_];let hl:=-rv;show wpAny_pyNext_tuple_end (I.ok.hd hc) st (show s.heap.IsTuple a bc.toArray from p) (by simp;omega) λh' eb=>#[rfl,I.turned (t':=s.toks) (λb o hb e=>eb b o hb e) f0 f1 f3 f4 f5]
 self:=λy y y y y st h=>wpAny_pyIter_tupleiter st h
def aW2(it:Addr)(lo:Int)(n:Nat):Turn P w K tg (zz lo n) [it] it (λi h=>IsRangeIter h it (lo+(i:Nat)*1) ((n:Int)-(i:Nat)) 1) where
 mem:=by simp
 obj:=λi h st b hb=>by
  let e:b=it:=by simpa using hb
  subst e;show #[_,st,λv z=>by
   let z':Data.fields _=Data.cell v:=z;cases z']
 keep:=λi h h' st k=>k it #[_] _ st
 item:=by
  intro X hP hw hK hc i pi s σ H E I hf st hg;subst hP hw hK;let#[f0,f1,f2,f3,f4,f5]:=hf it #[_];let W:=Walks.range (prog:=X.prog) (w:=X.w) (I.ok.hd hc) it lo 1 n;show W.item i s _ _ hg st λv h' tk hv mW kk=>?_;let#[t,rfl]:=hv;let I1:Inv X pi σ H { s with heap:=h',toks:=tk }:=I.turned (λb o hb e=>kk b o (_/hb) e) f0 f1 f3 f4 f5;show#[_,rfl,BI mW rfl rfl ∅ #[.int (lo+i),H,I1,#[t,?_],#[rfl,rfl],mW,λb hb=>(hf b hb).1]];rw[Int.mul_one]
 done:=by
  intro X hP hw hK hc i pi s σ H E I hf st hg;subst hP hw hK;let#[f0,f1,f2,f3,f4,f5]:=hf it #[_];show wpAny_pyNext_range_end (I.ok.hd hc) st (by have:n<=i:=hg;omega) λh' eb=>#[rfl,I.turned (t':=s.toks) (λb o hb e=>eb b o hb e) f0 f1 f3 f4 f5]
 self:=λx x x x x st h=>wpAny_pyIter_rangeiter st h
def Ph{R:It->Hp->Prop}{lo hi:Int}{t u v:Tok}{tk:Nat}(I:Inv X pi σ H s)(h1:-(2 ^ 62)<=lo)(h2:lo<2 ^ 62)(h3:-(2 ^ 62)<=hi)(h4:hi<2 ^ 62)(q:R (zz lo (hi-lo).toNat) H):wpAny (model X.prog X.w) X.A (pyIter (.ref s⁻¹)) (Qr X pi σ tg R) E { s with heap:=s.heap.push { cls:=.type "range",data:=.fields (List.toArray [.int lo t,.int hi u,.int 1 v]) },toks:=tk }:=by
 show wpAny_pyIter_range (IsRange.new ..) (small_one h1 h2 h3 h4) ?_;let I1:Inv X pi σ H { s with heap:=s.heap.push { cls:=.type "range",data:=.fields (List.toArray [.int lo t,.int hi u,.int 1 v]) },toks:=tk }:=I.kept λb o e=>ai _ e;show #[(s.heap.push { cls:=.type "range",data:=.fields (List.toArray [.int lo t,.int hi u,.int 1 v]) }).objs.size,[(s.heap.push { cls:=.type "range",data:=.fields (List.toArray [.int lo t,.int hi u,.int 1 v]) }).objs.size],_,_,H,rfl,
  I1.kept (t':=tk) λb o e=>ai _ e,aW2 _ lo (hi - lo).toNat,?_,λb hb=>?_,q]
 .let e1:lo+((0:Nat):Int)*1=lo:=by simp
  let e2:(((hi-lo).toNat:Nat):Int)-((0:Nat):Int)=Builtin.Range.rangeSize lo hi 1:=by rw[rangeSize_one];split<;>omega
  rw[e1,e2];show ay _ rfl
 .let e:b=(s.heap.push { cls:=.type "range",data:=.fields (List.toArray [.int lo t,.int hi u,.int 1 v]) }).objs.size:=by simpa using hb
  subst e;show I1.sh (ak _) (I1.bI.fresh (ak _))
def b42(ta:TA):TI:=λσ H R=>ta σ H λvs H1=>∃j:Int,vs=[.int j]/\-(2 ^ 62)<=j/\j<2 ^ 62/\R (zz 0 j.toNat) H1
def b41(ta:TA):TI:=λσ H R=>ta σ H λvs H1=>∃i j:Int,vs=[.int i,.int j]/\(-(2 ^ 62)<=i/\i<2 ^ 62/\-(2 ^ 62)<=j/\j<2 ^ 62)/\R (zz i (j-i).toNat) H1
def a74{a:Expr}{ta:TA}(hg:Gl X "range")(hm:X.mg "range"=none)(ha:PA X [a] ta)(hs:starEach [a] X.env=[(false,eval a X.env)]:=by rfl):PI X tg (.Call (.Name "range" p) [a] [] pos) (b42 ta):=by
 intro pi s σ H R I h;show Call_ (V9 I hg hm boot_range (dg (cS (ha pos pi s σ H _ I h) λus s1 bx=>?_) hs rfl));let#[vs,H1,I1,r1,q1]:=bx;let#[j,e,q1,q2,q]:=q1;subst e;cases r1 with
 |cons r rr =>
  cases rr;let#[t,rfl]:=r;show call_range_1 (Ph I1 () () q1 q2 (_/q))
def a73{a b:Expr}{ta:TA}(hg:Gl X "range")(hm:X.mg "range"=none)(ha:PA X [a,b] ta)(hs:starEach [a,b] X.env=[(false,eval a X.env),(false,eval b X.env)]:=by rfl)(jG:starEach [b] X.env=[(false,eval b X.env)]:=by rfl) :
  PI X tg (.Call (.Name "range" p) [a,b] [] pos) (b41 ta):=by
 intro pi s σ H R I h;show Call_ (V9 I hg hm boot_range (dg (cS (ha pos pi s σ H _ I h) λus s1 bx=>?_) (by rw[hs,jG]) (by rw[jG];rfl)));let#[vs,H1,I1,r1,q1]:=bx;let#[i,j,e,#[q1,q2,q3,q4],q]:=q1;subst e;cases r1 with
 |cons r rr =>
  cases rr with
  |cons r' rr =>
   cases rr;let#[t,rfl]:=r;let#[t',rfl]:=r';show call_range_2 (Ph I1 q1 q2 q3 q4 q)
def b86(wi:TI)(g:TG)(tb:TS):TS:=λD σ H=>wi σ H λJ H1=>∃W:Nat->Nat->St->Hp->Prop,(∃m,W 0 m σ H1)/\∀i m σ H,W i m σ H ->
 (J.stop i H/\D.nx σ H)\/(J.go i H/\∃N:St->Hp->Prop,(∀cJ H',N cJ H'->∃m',m'<m/\W (i+1) m' cJ H')/\∀x H',J.uJ i H x H'->g x σ H' λfj H2=>tb { D with nx:=N,ct:=N,bk:=D.nx } fj H2)
abbrev yY(fp:@&Addr)(h:Heap):@&(Addr×Obj):=fp.filterMap λb=>(h.get? b).map λo=>(b,o)
def GJ{o:Obj}(hb:b∈fp)(e:h.get? b=!o):(b,o)∈yY fp h:=eK.mpr #[b,hb,by rw[e];rfl]
def a89{p:Addr×Obj}(hp:p∈yY fp h):p.1∈fp/\h.get? p.1=!p.2:=by
 let#[b,hb,e]:=eK.mp hp;cases q:h.get? b with
 |none=>simp_all
 |some o =>
  rw[q] at e;let e':=aD e;subst e';show#[hb,q]
def Inv.pinned(I:Inv X pi σ H s)(hf:∀b∈fp,J6 X pi H b)(ho:∀b∈fp,∃o,s.heap.get? b=!o/\∀v,o.data≠.cell v):Inv X (pi++yY fp s.heap) σ H s :=
 I.zi λp hp=>(aX.mp hp).elim (λz=>I.pin p (bA _ z)) λz=>by
  let#[hb,e]:=a89 z;let#[f0,f1,f2,_]:=hf p.1 hb;let#[o,e',d]:=ho p.1 hb;rw[e] at e';cases e';show#[e,f0,f1,f2,d]
def Inv.Gh{pl:@&(Addr×Obj)}(I:Inv X (pi++pl) σ H s):Inv X pi σ H s:=I.zi λp hp=>I.pin p (bA _ (ff _ hp))
def bO5{iter:Expr}{body:@&Stmt}{wi:TI}{g:TG}{tb:TS}(hp:PassesOwn (model X.prog X.w) X.A X.env X.xe)(hc:X.calm=true)(hi:PI X tg iter wi)(hg:PG X tg g)(hb:jM X body tb)(hs:∀x,foldedSetIterable iter X.env x=pure x:=by intro _;rfl):PS X (.For tg iter body [] pos) (b86 wi g tb):=by
 intro pi s σ H D I h;show wpAny_For (cS (hi pi s σ H _ I h) λv s1 h1=>cS h1 λzV s2 h2=>?_) hs;let#[it,fp,tn,J,H2,e,I2,T,sR,f2,W,#[m0,w0],turn]:=h2;subst e;let sP:∀{H':Hp},(∀b∈fp,H' b=none)->∀b∈fp,J6 X pi H' b:=λhn b hb=>#[hn b hb,(f2 b hb).2]
 show codeAny_forLoop_any (λn s'=>∃i cJ H',Inv X pi cJ H' s'/\tn i s'.heap/\(∀b∈fp,H' b=none)/\W i n cJ H') ?_ m0 #[0,σ,H2,I2,sR,λb hb=>(f2 b hb).1,w0];rintro n s3 ⟨i,mQ,H3,I3,wH,yu,w3⟩;rcases turn i n mQ H3 w3 with⟨stop,qn⟩|⟨go,N,hN,step⟩
 .refine ig hp (cS (T.done X rfl rfl rfl hc i pi s3 mQ H3 X.xe I3 (sP yu) wH stop) ?_);rintro r s4 ⟨hr,I4⟩;subst hr;show wg #[mQ,H3,I4,qn]
 .refine ig hp (cS (T.item X rfl rfl rfl hc i pi s3 mQ H3 X.xe I3 (sP yu) wH go) ?_);rintro r s4 ⟨u,hr,h4⟩;subst hr;show ig hp (cS h4 λy s5 bx=>?_);let#[x,H5,I5,r5,y5,sQ,EH]:=bx;let Ig:=I5.pinned (sP EH) (T.obj _ _ sQ);show ig hp (cS (hg _ s5 mQ H5 x u _ Ig r5 (step x H5 y5)) λy s6 bx=>?_);let#[sL,H6,I6,q6]:=bx;show ig hp (cS (hb _ s6 sL H6 _ I6 q6) λf s7 q7=>?_);let again:∀{oi:St} {H7:Hp},Inv X (pi++yY fp s5.heap) oi H7 s7->N oi H7->∃m,m<n/\∃i cJ H',Inv X pi cJ H' s7/\tn i s7.heap/\(∀b∈fp,H' b=none)/\W i m cJ H':=λ{oi H7} I7 n7=>by
   let#[m',hm,w7]:=hN oi H7 n7;show#[m',hm,i+1,oi,H7,I7.Gh,T.keep _ _ _ sQ λb hb o e=>(I7.pin (b,o) (bA _ (bA _ (GJ hb e)))).1,λb hb=>?_,w7];let#[o,e,d]:=T.obj _ _ sQ b hb;show(I7.pin (b,o) (bA _ (bA _ (GJ hb e)))).2.1
  cases f with
  |next=>let#[oi,H7,I7,n7]:=q7;show again I7 n7
  |cont=>let#[oi,H7,I7,n7]:=q7;show again I7 n7
  |brk=>let#[oi,H7,I7,q7]:=q7;show#[oi,H7,I7.Gh,q7]
  |ret v=>let#[x7,oi,H7,I7,r7,q7]:=q7;show#[x7,oi,H7,I7.Gh,r7,q7]
noncomputable abbrev R2:=V->V->Hp->VK->Prop
abbrev gs(X:Cx)(f:Value->Value->Sem Value)(r:R2):Prop :=
 ∀(pi:@&(Addr×Obj)) (s:Shared) (σ:St) (H:Hp) (x y:V) (v u:Value) (Q:VK),Inv X pi σ H s->RelV x v->RelV y u->r x y H Q ->
  wpAny (model X.prog X.w) X.A (f v u) (EP X pi σ Q) X.xe s
abbrev Cj(X:Cx)(f:Value->Sem Value)(r:V->Hp->VK->Prop):Prop :=
 ∀(pi:@&(Addr×Obj)) (s:Shared) (σ:St) (H:Hp) (x:V) (v:Value) (Q:VK),Inv X pi σ H s->RelV x v->r x H Q ->
  wpAny (model X.prog X.w) X.A (f v) (EP X pi σ Q) X.xe s
abbrev m5(X:Cx)(f:Value)(r:@&V->Hp->VK->Prop):Prop :=
 ∀(pi:@&(Addr×Obj)) (s:Shared) (σ:St) (H:Hp) (xs:@&V) (us:@&Value) (Q:VK),Inv X pi σ H s->Vals xs us->r xs H Q ->
  wpAny (model X.prog X.w) X.A (call f us) (EP X pi σ Q) X.xe s
abbrev UJ(X:Cx)(r:V->Hp->(Bool->Hp->Prop)->Prop):Prop :=
 ∀(pi:@&(Addr×Obj)) (s:Shared) (σ:St) (H:Hp) (x:V) (v:Value) (Q:Bool->Hp->Prop),Inv X pi σ H s->RelV x v->r x H Q ->
  wpAny (model X.prog X.w) X.A (truthy v) (TP X pi σ Q) X.xe s
def uM(r:R2)(ta tb:TE):TE:=λσ H Q=>ta σ H λx H1=>tb σ H1 λy H2=>r x y H2 Q
def Rx(r:V->Hp->VK->Prop)(ta:TE):TE:=λσ H Q=>ta σ H λx H1=>r x H1 Q
def rI(C:Int->Int->Prop)(g:Int->Int->V):R2:=λx y H Q=>∃i j,x=.int i/\y=.int j/\C i j/\Q (g i j) H
def pD(g:Int->Int->V):R2:=λx y H Q=>∃i j,x=.int i/\y=.int j/\Q (g i j) H
abbrev rU(g:Int->V):V->Hp->VK->Prop:=λx H Q=>∃i,x=.int i/\Q (g i) H
section
variable{a b:Expr}
def Ff(ha:PE X a ta)(hb:PE X b tb){R:V->V->Hp->Prop}(I:Inv X pi σ H s)(h:ta σ H λx H1=>tb σ H1 λy H2=>R x y H2){f:Value->Value->Sem Value}(hf:∀v u s2 x y H2,Inv X pi σ H2 s2->RelV x v->RelV y u->R x y H2->wpAny (model X.prog X.w) X.A (f v u) Q X.xe s2) :
  wpAny (model X.prog X.w) X.A (eval a X.env) (λv bJ=>wpAny (model X.prog X.w) X.A (eval b X.env) (λu fm=>wpAny (model X.prog X.w) X.A (f v u) Q X.xe fm) X.xe bJ) X.xe s:=by
 show cS (ha pi s σ H _ I h) λv s1 bx=>?_;let#[x,H1,I1,r1,q1]:=bx;show cS (hb pi s1 σ H1 _ I1 q1) λu s2 bx=>?_;let#[y,H2,I2,r2,q2]:=bx;show hf v u s2 x y H2 I2 r1 r2 q2
def Ks{op:Operator}(ho:gs X (binaryOp op) r)(ha:PE X a ta)(hb:PE X b tb):PE X (.BinOp a op b pos) (uM r ta tb):=by
 intro pi s σ H Q I h;show wpAny_BinOp (Ff ha hb I h λv u s2 x y H2 I2 rx ry q=>ho pi s2 σ H2 x y v u Q I2 rx ry q)
def b05{op:UnaryOp}{r:V->Hp->VK->Prop}(ho:Cj X (unaryOp op) r)(ha:PE X a ta):PE X (.UnaryOp op a pos) (Rx r ta):=by
 intro pi s σ H Q I h;show UnaryOp_ (cS (ha pi s σ H _ I h) (by rintro v s1 ⟨x,H1,I1,r1,q1⟩;show ho pi s1 σ H1 x v Q I1 r1 q1))
def wV{f:Value->Value->Sem Value}{C:Int->Int->Prop}{g:Int->Int->Int}(rule:∀(i j:Int) (t u:Tok) (s:Shared) (Q:Value->Shared->Prop) (E:Value->Shared->Prop),C i j->Q (.int (g i j) s.toks) { s with toks:=s.toks+1 }->wpAny (model X.prog X.w) X.A (f (.int i t) (.int j u)) Q E s) :
  gs X f (rI C λi j=>.int (g i j)):=by
 intro pi s σ H x y v u Q I rx ry h;let#[i,j,rfl,rfl,hc,q]:=h;let#[t,rfl]:=rx;let#[t',rfl]:=ry;show rule i j t t' s _ _ hc #[.int (g i j),H,I.tok _,#[_,rfl],q]
def Bw{f:Value->Value->Sem Value}{g:Int->Int->Int}(rule:∀(i j:Int) (t u:Tok) (s:Shared) (Q:Value->Shared->Prop) (E:Value->Shared->Prop),Q (.int (g i j) s.toks) { s with toks:=s.toks+1 }->wpAny (model X.prog X.w) X.A (f (.int i t) (.int j u)) Q E s) :
  gs X f (pD λi j=>.int (g i j)):=by
 intro pi s σ H x y v u Q I rx ry h;let#[i,j,rfl,rfl,q]:=h;let#[t,rfl]:=rx;let#[t',rfl]:=ry;show rule i j t t' s _ _ #[.int (g i j),H,I.tok _,#[_,rfl],q]
def Bv{f:Value->Value->Sem Value}{g:Int->Int->Bool}(rule:∀(i j:Int) (t u:Tok) (s:Shared) (Q:Value->Shared->Prop) (E:Value->Shared->Prop),Q (.bool (g i j)) s->wpAny (model X.prog X.w) X.A (f (.int i t) (.int j u)) Q E s) :
  gs X f (pD λi j=>.bl (g i j)):=by
 intro pi s σ H x y v u Q I rx ry h;let#[i,j,rfl,rfl,q]:=h;let#[t,rfl]:=rx;let#[t',rfl]:=ry;show rule i j t t' s _ _ #[.bl (g i j),H,I,rfl,q]
def EW(i j:Int):Prop:=0<j/\j<1073741824
def qT(i j:Int):Prop:=0<=j/\j<=1000000/\i.natAbs<2 ^ 64
def ub(i j:Int):Prop:=(-(2 ^ 64)<i/\i<2 ^ 64)\/(-(2 ^ 64)<j/\j<2 ^ 64)
def ub.ok{i j:Int}(h:ub i j):IntMulOk i j:=by
 rcases h with⟨h1,h2⟩|⟨h1,h2⟩
 .exact .of_left (intBits_le_64 h1 h2)
 .exact .of_right (intBits_le_64 h1 h2)
def bQ9:gs X (binaryOp .Add) (pD λi j=>.int (i+j)):=Bw λx x x x x x x q=>add_int q
def bP9:gs X (binaryOp .Sub) (pD λi j=>.int (i-j)):=Bw λx x x x x x x q=>sub_int q
def bQ3:gs X (binaryOp .Mult) (rI ub λi j=>.int (i*j)):=wV λx x x x x x x hc q=>mul_int q hc.ok
def bC7:gs X (binaryOp .FloorDiv) (rI EW λi j=>.int (i / j)):=wV λi j x x x x x hc q=>by
 let h1:=hc.1;let h2:=hc.2;show floordiv_int () (by rw[Int.fdiv_eq_ediv_of_nonneg i ()];show q) (.inl (PyProof.noPylong_small ()))
def bQ4:gs X (binaryOp .Mod) (rI (λx j=>0<j) λi j=>.int (i % j)):=wV λi j x x x x x hc q=>by
 show mod_int' () (by rw[Int.fmod_eq_emod_of_nonneg i ()];show q)
def bQ2:gs X (binaryOp .Pow) (rI qT λi j=>.int (i ^ j.toNat)):=wV λx x x x x x x hc q=>pow_int_small hc.1 hc.2.1 hc.2.2 q
def bQ0:gs X (binaryOp .LShift) (rI qT λi j=>.int (i*2 ^ j.toNat)):=wV λx x x x x x x hc q=>lshift_int_small hc.1 hc.2.1 hc.2.2 q
def bQ8:gs X (binaryOp .BitAnd) (pD λi j=>.int (Builtin.bitAnd i j)):=Bw λx x x x x x x q=>and_int q
def b14:gs X (binaryOp .BitOr) (pD λi j=>.int (Builtin.bitOr i j)):=Bw λx x x x x x x q=>or_int q
def Rv{f:Value->Sem Value}{g:Int->Int}(rule:∀(i:Int) (t:Tok) (s:Shared) (Q:Value->Shared->Prop) (E:Value->Shared->Prop),Q (.int (g i) s.toks) { s with toks:=s.toks+1 }->wpAny (model X.prog X.w) X.A (f (.int i t)) Q E s) :
  Cj X f (rU λi=>.int (g i)):=by
 intro pi s σ H x v Q I rx h;let#[i,rfl,q]:=h;let#[t,rfl]:=rx;show rule i t s _ _ #[.int (g i),H,I.tok _,#[_,rfl],q]
def bI3:Cj X (unaryOp .USub) (rU λi=>.int (-(i))):=Rv λx x x x x q=>neg_int q
end
abbrev LM:V->V->Bool
 |.aW,.aW=>true|.aW,.int _=>true|.int _,.aW=>true|.aW,.bl _=>true|.bl _,.aW=>true|.aW,.str _=>true|.str _,.aW=>true
 |.int _,.int _=>true|.bl _,.bl _=>true|.str _,.str _=>true|.mG _,.mG _=>true
 |.int _,.str _=>true|.str _,.int _=>true|.bl _,.str _=>true|.str _,.bl _=>true
 |_,_=>false
def RK:R2:=λx y H Q=>LM x y=true/\Q (.bl (decide (x=y))) H
def RJ:R2:=λx y H Q=>LM x y=true/\Q (.bl (~~~decide (x=y))) H
def NC{i j:Int}:decide (V.int i=V.int j)=(i==j):=by
 rw[cv];simp
def AF{i j:Bool}:decide (V.bl i=V.bl j)=(i==j):=by
 rw[cv];simp
def ND{i j:Str}:decide (V.str i=V.str j)=(i==j):=by
 rw[cv];simp
def NB{i j:Array UInt8}:decide (V.mG i=V.mG j)=(i.toList==j.toList):=by
 rw[cv];simp
section
variable{a b:Expr}{tc:TE}
def i7{Q:VK}{k k':Bool}(I:Inv X pi σ H s)(q:Q (.bl k) H)(e:k=k'):EP X pi σ Q (.bool k') s:=by
 subst e;show#[.bl k,H,I,rfl,q]
def GS:gs X (compareOp .Eq) RK:=by
 intro pi s σ H x y v u Q I rx ry h;let#[hs,q]:=h;cases x with
 |aW =>
  cases rx;cases y with
  |aW=>cases ry;show PySem.EqNone.eq_none_none (i7 I q #[_])
  |bl j=>cases ry;show PySem.EqNone.eq_none_bool (i7 I q #[_])
  |int j=>let#[t',rfl]:=ry;show PySem.EqNone.eq_none_int (i7 I q #[_])
  |str j=>let#[t',rfl]:=ry;show PySem.EqNone.eq_none_str (i7 I q #[_])
  |_=>show absurd (show false=true from hs) Bool.false_ne_true
 |bl i =>
  cases rx;cases y with
  |aW=>cases ry;show PySem.EqNone.eq_bool_none (i7 I q #[_])
  |bl j=>cases ry;show eq_bool (i7 I q AF)
  |str j=>let#[t',rfl]:=ry;show PySem.EqMixed.eq_bool_str (i7 I q #[_])
  |_=>show absurd (show false=true from hs) Bool.false_ne_true
 |int i =>
  let#[t,rfl]:=rx;cases y with
  |aW=>cases ry;show PySem.EqNone.eq_int_none (i7 I q #[_])
  |int j=>let#[t',rfl]:=ry;show eq_int (i7 I q NC)
  |str j=>let#[t',rfl]:=ry;show PySem.EqMixed.eq_int_str (i7 I q #[_])
  |_=>show absurd (show false=true from hs) Bool.false_ne_true
 |str i =>
  let#[t,rfl]:=rx;cases y with
  |aW=>cases ry;show PySem.EqNone.eq_str_none (i7 I q #[_])
  |bl j=>cases ry;show PySem.EqMixed.eq_str_bool (i7 I q #[_])
  |int j=>let#[t',rfl]:=ry;show PySem.EqMixed.eq_str_int (i7 I q #[_])
  |str j=>let#[t',rfl]:=ry;show eq_str (i7 I q ND)
  |_=>show absurd (show false=true from hs) Bool.false_ne_true
 |mG i =>
  let#[t,rfl]:=rx;cases y with
  |mG j=>let#[t',rfl]:=ry;show PySem.W.eq_bytes (i7 I q NB)
  |_=>show absurd (show false=true from hs) Bool.false_ne_true
 |_=>cases y<;>show absurd (show false=true from hs) bE
def GU:gs X (compareOp .NotEq) RJ:=by
 intro pi s σ H x y v u Q I rx ry h;let#[hs,q]:=h;cases x with
 |aW =>
  cases rx;cases y with
  |aW=>cases ry;show PySem.EqNone.ne_none_none (i7 I q #[_])
  |bl j=>cases ry;show PySem.EqNone.ne_none_bool (i7 I q #[_])
  |int j=>let#[t',rfl]:=ry;show PySem.EqNone.ne_none_int (i7 I q #[_])
  |str j=>let#[t',rfl]:=ry;show PySem.EqNone.ne_none_str (i7 I q #[_])
  |_=>show absurd (show false=true from hs) Bool.false_ne_true
 |bl i =>
  cases rx;cases y with
  |aW=>cases ry;show PySem.EqNone.ne_bool_none (i7 I q #[_])
  |bl j=>cases ry;show ne_bool (i7 I q (congrArg not AF))
  |str j=>let#[t',rfl]:=ry;show PySem.EqMixed.ne_bool_str (i7 I q #[_])
  |_=>show absurd (show false=true from hs) Bool.false_ne_true
 |int i =>
  let#[t,rfl]:=rx;cases y with
  |aW=>cases ry;show PySem.EqNone.ne_int_none (i7 I q #[_])
  |int j=>let#[t',rfl]:=ry;show ne_int (i7 I q (congrArg not NC))
  |str j=>let#[t',rfl]:=ry;show PySem.EqMixed.ne_int_str (i7 I q #[_])
  |_=>show absurd (show false=true from hs) Bool.false_ne_true
 |str i =>
  let#[t,rfl]:=rx;cases y with
  |aW=>cases ry;show PySem.EqNone.ne_str_none (i7 I q #[_])
  |bl j=>cases ry;show PySem.EqMixed.ne_str_bool (i7 I q #[_])
  |int j=>let#[t',rfl]:=ry;show PySem.EqMixed.ne_str_int (i7 I q #[_])
  |str j=>let#[t',rfl]:=ry;show ne_str (i7 I q (congrArg not ND))
  |_=>show absurd (show false=true from hs) Bool.false_ne_true
 |mG i =>
  let#[t,rfl]:=rx;cases y with
  |mG j=>let#[t',rfl]:=ry;show PySem.W.ne_bytes (i7 I q (congrArg not NB))
  |_=>show absurd (show false=true from hs) Bool.false_ne_true
 |_=>cases y<;>show absurd (show false=true from hs) bE
def b15:gs X (compareOp .Lt) (pD λi j=>.bl (decide (i<j))):=Bv λx x x x x x x q=>lt_int q
def b16:gs X (compareOp .LtE) (pD λi j=>.bl (decide (i<=j))):=Bv λx x x x x x x q=>le_int q
def b17:gs X (compareOp .Gt) (pD λi j=>.bl (decide (j<i))):=Bv λx x x x x x x q=>gt_int q
def b18:gs X (compareOp .GtE) (pD λi j=>.bl (decide (j<=i))):=Bv λx x x x x x x q=>ge_int q
def a86:gs X (compareOp .In) (λx y H Q=>∃i j,x=.str i/\y=.str j/\Q (.bl (~~~(Builtin.Str.occurrences j i 0 (-j) 1).isEmpty)) H):=by
 intro pi s σ H x y v u Q I rx ry h;let#[i,j,rfl,rfl,q]:=h;let#[t,rfl]:=rx;let#[t',rfl]:=ry;show in_str (i7 I q rfl)
def bQ5:gs X (compareOp .Is) (λx y H Q=>y=.aW/\Q (.bl (decide (x=.aW))) H):=by
 intro pi s σ H x y v u Q I rx ry h;let#[rfl,q]:=h;cases ry;show is_none_gen (i7 I q ?_);cases x<;>first
  |(cases rx;rfl)
  |(let#[t,rfl]:=rx;rfl)
def bC6:gs X (compareOp .IsNot) (λx y H Q=>y=.aW/\Q (.bl (~~~decide (x=.aW))) H):=by
 intro pi s σ H x y v u Q I rx ry h;let#[rfl,q]:=h;cases ry;show isnot_none_gen (i7 I q ?_);cases x<;>first
  |(cases rx;rfl)
  |(let#[t,rfl]:=rx;rfl)
def aH5:gs X (compareOp .NotIn) (λx y H Q=>∃i j,x=.str i/\y=.str j/\Q (.bl (~~~(~~~(Builtin.Str.occurrences j i 0 (-j) 1).isEmpty))) H):=by
 intro pi s σ H x y v u Q I rx ry h;let#[i,j,rfl,rfl,q]:=h;let#[t,rfl]:=rx;let#[t',rfl]:=ry;show notIn_str (i7 I q rfl)
def Ob(ho:gs X (compareOp op) r)(ha:PE X a ta)(hb:PE X b tb)(hm:behindInMarks op b=false):PE X (.Compare a [op] [b] pos) (uM r ta tb):=by
 intro pi s σ H Q I h;show wpAny_Compare1 (Ff ha hb I h λv u s2 x y H2 I2 rx ry q=>ho pi s2 σ H2 x y v u Q I2 rx ry q) hm
def GY(t:TE):TT:=λσ H Q=>t σ H λx H'=>∃k,x=.bl k/\Q k H'
def Oi(ho:gs X (compareOp op) r)(ha:PE X a ta)(hb:PE X b tb)(hm:behindInMarks op b=false):PT X (.Compare a [op] [b] pos) (GY (uM r ta tb)):=by
 intro pi s σ H Q I h;show wpAny_isTrue_Compare1 (cS (ha pi s σ H _ I h) λv s1 ⟨x,H1,I1,r1,q1⟩=>cS (hb pi s1 σ H1 _ I1 q1) λu s2 ⟨y,H2,I2,r2,q2⟩ =>
  cS (ho pi s2 σ H2 x y v u _ I2 r1 r2 q2) λc s3 ⟨z,H3,I3,r3,k,e,q3⟩=>?_) hm
 subst e;cases r3;show cw #[H3,I3,q3]
def HB(r r':R2)(ta tb tc:TE):TE:=λσ H Q=>ta σ H λx H1=>tb σ H1 λy H2=>r x y H2 λz H3=>∃k,z=.bl k /\
 (if k=true then tc σ H3 λw' H4=>r' y w' H4 Q else Q (.bl false) H3)
def Xw{ja:CmpOp}{r':R2}(ho:gs X (compareOp op) r)(lW:gs X (compareOp ja) r')(ha:PE X a ta)(hb:PE X b tb)(hc:PE X c tc)(hm:lastMarks [op,ja] [b,c]=false:=by with_unfolding_all rfl):PE X (.Compare a [op,ja] [b,c] pos) (HB r r' ta tb tc):=by
 intro pi s σ H Q I h;show Compare_chain (cS (ha pi s σ H _ I h) λv s1 ⟨x,H1,I1,r1,q1⟩=>chain_link (cS (hb pi s1 σ H1 _ I1 q1) λu s2 ⟨y,H2,I2,r2,q2⟩ =>
  cS (ho pi s2 σ H2 x y v u _ I2 r1 r2 q2) λd s3 ⟨z,H3,I3,r3,k,e,q3⟩=>?_)) hm
 subst e;cases r3;show cw ?_;cases k with
 |false=>show ite_ff #[.bl false,H3,I3,rfl,q3]
 |true=>show ite_tt (chain_last (cS (hc pi s3 σ H3 _ I3 q3) (by rintro w' s4 ⟨z',H4,I4,r4,q4⟩;show lW pi s4 σ H4 y z' u w' Q I4 r2 r4 q4)))
def XH{ja:CmpOp}{r':R2}(ho:gs X (compareOp op) r)(lW:gs X (compareOp ja) r')(ha:PE X a ta)(hb:PE X b tb)(hc:PE X c tc)(hm:lastMarks [op,ja] [b,c]=false:=by with_unfolding_all rfl):PT X (.Compare a [op,ja] [b,c] pos) (GY (HB r r' ta tb tc)):=by
 intro pi s σ H Q I h;show isTrue_chain (cS (ha pi s σ H _ I h) λv s1 ⟨x,H1,I1,r1,q1⟩=>test_link (cS (hb pi s1 σ H1 _ I1 q1) λu s2 ⟨y,H2,I2,r2,q2⟩ =>
  cS (ho pi s2 σ H2 x y v u _ I2 r1 r2 q2) λd s3 ⟨z,H3,I3,r3,k,e,q3⟩=>?_)) hm
 subst e;cases r3;show cw ?_;cases k with
 |false =>
  let#[k',e',q']:=q3;cases e';show ite_ff #[H3,I3,q']
 |true =>
  show ite_tt (test_last (cS (hc pi s3 σ H3 _ I3 q3) ?_));rintro w' s4 ⟨z',H4,I4,r4,q4⟩;show cS (lW pi s4 σ H4 y z' u w' _ I4 r2 r4 q4) λd' s5 bx=>?_;let#[z2,H5,I5,r5,k2,e2,q5]:=bx;subst e2;cases r5;show cw #[H5,I5,q5]
abbrev Fb(K:PySem.W.Frag)(x:V)(H:Hp)(k:Bool):Prop :=
 match x with
 |.aW=>k=false
 |.bl b=>k=b
 |.int i=>k=(i != 0)
 |.str y=>-y<=sizeLine/\k=((-y:Int) != 0)
 |.mG y=>y.size<=sizeLine/\k=((y.size:Int) != 0)
 |.ref p=>(∃xs,gU K H p xs/\k= ~~~xs.isEmpty)\/(∃xs,iB K H p xs/\k= ~~~xs.isEmpty)\/∃kvs,H p=!.dK kvs/\k= ~~~kvs.isEmpty
 |_=>False
def aZ8{κ:Type}{kvs:@&(κ×V)}{vs:@&(κ×Value)}(r:KV kvs vs):(~~~vs.isEmpty)= ~~~kvs.isEmpty:=by
 cases r<;>rfl
def MR{bc:@&Value}(r:Vals xs bc):(~~~bc.toArray.isEmpty)= ~~~xs.isEmpty:=by
 cases r<;>simp
def vV:(sizeLine:Nat)<2 ^ 63:=by rw[gi];decide
def bI5:UJ X (λx H Q=>∃k,Fb X.K x H k/\Q k H):=by
 intro pi s σ H x v Q I rx h;let#[k,e,q]:=h;let hs:=gi;cases x with
 |aW =>
  cases rx;let e':=e;subst e';show truthy_none #[H,I,q]
 |bl b =>
  cases rx;let e':=e;subst e';show cw #[H,I,q]
 |int i =>
  let#[t,rfl]:=rx;let e':=e;subst e';show PySem.P.truthy_int #[H,I,q]
 |str y =>
  let#[t,rfl]:=rx;let#[hy,e']:=e;subst e';show PySem.P.truthy_str () #[H,I.tok _,q]
 |mG y =>
  let#[t,rfl]:=rx;let#[hy,e']:=e;subst e';show PySem.W.truthy_bytes () #[H,I.tok _,q]
 |ref p =>
  cases rx;let e':=e;rcases e' with⟨xs,hx,e'⟩|⟨xs,hx,e'⟩|⟨kvs,hx,e'⟩
  .subst e';let#[bc,r,pl,hz]:=I.list hx;let hlen:=-r;show wpAny_truthy_list pl.isList (by simp only[List.size_toArray];omega) #[H,I.tok _,by rw[MR r];show q]
  .subst e';let#[bc,r,pl,hz]:=I.tuple hx;let hlen:=-r;show truthy_tuple pl (by simp only[List.size_toArray];omega) #[H,I.tok _,by rw[MR r];show q]
  .subst e';let#[hz,hS,vs,r,m]:=I.bI p _ hx;let hlen:=nG r;show wpAny_truthy_dict hS m () #[H,I.tok _,by rw[aZ8 r];show q]
 |_=>show(show False from e).elim
def XI(ha:PE X a ta)(he:∀whole,isTrue a X.env whole=(do let v <- whole;standAt a.pos;holding [v] (truthy v))) :
  PT X a (λσ H Q=>ta σ H λx H'=>∃k,Fb X.K x H' k/\Q k H'):=by
 intro pi s σ H Q I h;show isTrue_plain (cS (ha pi s σ H _ I h) (by rintro v s1 ⟨x,H1,I1,r1,q1⟩;show bI5 pi s1 σ H1 x v Q I1 r1 q1)) (he _)
def aX8:gs X (binaryOp .Add) (λx y H Q=>∃i j,x=.str i/\y=.str j/\-i+-j<=sizeLine/\Q (.str (i++j)) H):=by
 intro pi s σ H x y v u Q I rx ry h;let#[i,j,rfl,rfl,hz,q]:=h;let#[t,rfl]:=rx;let#[t',rfl]:=ry;show add_str (λt' tk=>#[.str (i++j),H,I.tok _,#[_,rfl],q]) hz
def vals1{x:V}(r:Vals [x] us):∃u,us=[u]/\RelV x u:=by
 cases r with
 |cons r1 r2=>cases r2;show#[_,rfl,r1]
def vals2{x y:V}(r:Vals [x,y] us):∃u w',us=[u,w']/\RelV x u/\RelV y w':=by
 cases r with
 |cons r1 r2 =>
  cases r2 with
  |cons r3 r4=>cases r4;show#[_,_,rfl,r1,r3]
def YI(hc:X.calm=true):m5 X (.builtin "max") (λxs H Q=>∃i j,xs=[.int i,.int j]/\Q (.int (if j>i then j else i)) H):=by
 intro pi s σ H xs us Q I r h;let#[i,j,rfl,q]:=h;let#[u,w',rfl,#[t,rfl],#[t',rfl]]:=vals2 r;show max_two_ints (I.ok.hd hc) λh' tk k=>#[_,H,I.kept k,?_,q]
 by_cases hj:j>i
 .rw[au hj,au hj];show#[_,rfl]
 .rw[aq hj,aq hj];show#[_,rfl]
def Mb:m5 X (.type "int") (λxs H Q=>(∃i,xs=[.int i]/\Q (.int i) H)\/∃k,xs=[.bl k]/\Q (.int (if k then 1 else 0)) H):=by
 intro pi s σ H xs us Q I r h;rcases h with⟨i,rfl,q⟩|⟨k,rfl,q⟩
 .let#[u,rfl,t,rfl]:=vals1 r;show call_int_int #[.int i,H,I,#[_,rfl],q]
 .let#[u,rfl,r1]:=vals1 r;cases r1;show call_int_bool #[.int (if k then 1 else 0),H,I.tok _,#[_,rfl],q]
def aM0:m5 X (.type "str") (λxs H Q=>∃i,xs=[.int i]/\i.natAbs.log2<1920/\Q (.str (toString i)) H):=by
 intro pi s σ H xs us Q I r h;let#[i,rfl,hz,q]:=h;let#[u,rfl,t,rfl]:=vals1 r;show PySem.P.str_of_int hz #[.str _,H,I.tok _,#[_,rfl],q]
end
structure ue(h:Heap)(x dx C:Addr)(mA:Str->Option Value):Prop where
 obj:h.get? x=!PySem.W.instObj C dx
 ns:h.Ns1 dx mA
 ne:dx≠x
set_option tactic.hygienic true in
def Gq{mA:Str->Option Value}(n:h.Ns1 dx mA):∃od,h.get? dx=!od/\∀name,PySem.W.lookIn name od=!mA name:=by
 let#[o,es,ep,ho,hd,hk,_,hm]:=n;show#[o,ho,λname=>?_];let e:=hm name;unfold nsFind findBy at e;rw[<- QL] at e;unfold PySem.W.lookIn;rw[hd];dsimp only;split
 .rename_i y q;rw[q] at e;show gw some e
 .rename_i q;rw[q] at e;let a:es.toList.any (·.refKey)=false:=by
   rw[iy];intro y hy;let#[z,t,qt]:=hk y (Array.mem_toList_iff.mp hy);simp[DictEntry.refKey,qt]
  let a':¬es.toList.any (·.refKey)=true:=by rw[a];show bE
  rw[aq a'];show gw some e
def ue.look{x:Addr}{mA:Str->Option Value}(I:ue h x dx C mA):∃od,PySem.W.InstAt h x (PySem.W.instObj C dx) C (!od)/\∀name,PySem.W.lookIn name od=!mA name :=
 let ⟨od,ho,hl⟩:=Gq I.ns
 #[od,#[I.obj,rfl,rfl,ho],hl]
section
variable{prog:Program}{x:Addr}{mA:Str->Option Value}{name:Str}{v:Value}
def get_map{expr:Bool}(X:K.In s.heap)(I:ue s.heap x dx C mA)(hg:PySem.W.plainGet K C name=true)(hh:PySem.W.hasDictIn K C=true)(ha:PySem.W.findIn K (.ref C) name=!none)(hv:mA name=!v)(Dq:PySem.W.handedIn v=true)(h:Q v { s with toks:=s.toks+1 }) :
  wpAny (model prog w) A (getAttr (.ref x) name expr) Q E s:=by
 let#[od,J,hl]:=I.look;show PySem.W.get_value X J (kd hg).1 (Ij hh ha rfl (by rw[hl,hv])) Dq h
def WN{pl:Sem Bool}{Q:Value×@&Value->Shared->Prop}(X:K.In s.heap)(I:ue s.heap x dx C mA)(hg:PySem.W.plainGet K C name=true)(hf:PySem.W.findIn K (.ref C) name=!!.ref f)(ht:PySem.W.isFn K (.ref f)=true)(hv:mA name=none)(h:Q (.ref f,[.ref x]) s) :
  wpAny (model prog w) A (getMethod (.ref x) name pl) Q E s:=by
 let#[od,J,hl]:=I.look;show PySem.W.method_fn X J (kd hg).1 (kd hg).2 hf (fO.mp ht) (by show(PySem.W.lookIn name od).map (·.isSome)=!false;simp_all) h
def VN{ns:@&Str}{Q:Unit->Shared->Prop}(X:K.In s.heap)(I:ue s.heap x dx C mA)(hs:PySem.W.findIn K (.ref C) "__setattr__"=!!(.builtin "object.__setattr__"))(hp:PySem.W.plainOver K C=true)(ht:PySem.W.takerIn K C name=!none)(hh:PySem.W.hasDictIn K C=true)(hw:PySem.Within mA ns)(iK:-ns<=sizeLine)(h:∀h',ue h' x dx C (λy=>if y=name then some v else mA y)->Heap.SameBut dx s.heap h'->Q Unit.unit { s with heap:=h',toks:=s.toks+2 }) :
  wpAny (model prog w) A (setAttr (.ref x) name v) Q E s:=by
 let#[od,J,hl]:=I.look;show PySem.W.set_plain X J hs (PySem.W.osa_open X J hp ht λb=>?_);let#[cd,hc,pI]:=iQ hh;let hx:=I.obj;show aa (aj (aa (aa (wpAny_loadPart hx (aa (QE (ke X hc) ?_))))));rw[pI];show aj (aa (aj (aa ?_)));show wpAny_nsSet1 I.ns λh' oG jG=>?_;let#[oD,Uv,Uw,DA,DV,DZ]:=oG.count (PySem.Within.cons name v hw);show aa (wpAny_lookBehind DA (by rw[DV];show pastItsLine_dict (aL DZ (by grind))) ?_);show aj (h _ #[(jG.2 _ (cT I.ne)).trans I.obj,oG,I.ne] jG)
def Xf{R:Result->Shared->Prop}{vs:@&Value}{kw:@&(Str×Value)}(X:K.In s.heap)(hm:PySem.W.makesIn K C=true)(hi:PySem.W.findIn K (.ref C) "__init__"=!!.ref f)(hf:PySem.W.typeIn K (.ref f)=!(.type "function"))(h:codeAny (model prog w) (A.under (.builtin "type.__call__" #[.ref C :: vs,kw])) (.call (.ref f) #[.ref (s⁻¹ + 1) :: vs,kw]) (PySem.W.InitBack (s⁻¹ + 1) R)
   { s with heap:=(s.heap.push PySem.W.emptyDict).push (PySem.W.instObj C s⁻¹) }) :
  codeAny (model prog w) A (.call (.ref C) #[vs,kw]) R s:=by
 show PySem.W.make_core (PySem.W.makes_of X hm) (gy X hi) (λself=>PySem.W.bind_fn X self hf) (.inl rfl) h
end
abbrev p8(f:Str)(v:V):@&(Str×V)->@&(Str×V)
 |[]=>[(f,v)]
 |(g,x)::r=>if g=f then(g,v)::r else(g,x)::p8 f v r
def Nj(f g:Str)(v:V):∀fs:@&(Str×V),(p8 f v fs).lookup g=if g=f then some v else fs.lookup g
 |[]=>by
  change List.lookup g [(f,v)]=_;by_cases h:g=f
  .let hb:=fO.mpr h;simp only[List.lookup,hb,if_pos h]
  .let hb:=dX.mpr h;simp only[List.lookup,hb,if_neg h]
 |(k,x)::r=>by
  let ih:=Nj f g v r;rw[show p8 f v ((k,x)::r)=(if k=f then(k,v)::r else(k,x)::p8 f v r) from rfl];by_cases hk:k=f
  .rw[au hk];by_cases h:g=k
   .let hb:=fO.mpr h;simp only[List.lookup,hb,if_pos (h.trans hk)]
   .let hb:=dX.mpr h;simp only[List.lookup,hb,if_neg (λe:g=f=>h (e.trans hk.symm))]
  .rw[aq hk];by_cases h:g=k
   .let hb:=fO.mpr h;simp only[List.lookup,hb,if_neg (λe:g=f=>hk (h.symm.trans e))]
   .let hb:=dX.mpr h;simp only[List.lookup,hb];show ih
def Gp(f:Str)(v:V):∀fs:@&(Str×V),f∈(p8 f v fs).map (·.1)/\∀g,g∈fs.map (·.1)->g∈(p8 f v fs).map (·.1)
 |[]=>#[by simp[p8],λg h=>by simp at h]
 |(k,x)::r=>by
  let#[i1,i2]:=Gp f v r;rw[show p8 f v ((k,x)::r)=(if k=f then(k,v)::r else(k,x)::p8 f v r) from rfl];by_cases hk:k=f
  .rw[au hk]
   grind
  .rw[aq hk];show#[?_,λg h=>?_]
   .exact bg _ i1
   .rcases aB.mp h with e|e
    .exact aB.mpr (.inl e)
    .exact bg _ (i2 g e)
def Ni(f:Str)(v:V):∀fs:@&(Str×V),(p8 f v fs).length<=-fs+1
 |[]=>by simp[p8]
 |(k,x)::r=>by
  let ih:=Ni f v r;rw[show p8 f v ((k,x)::r)=(if k=f then(k,v)::r else(k,x)::p8 f v r) from rfl]
  grind
def C4.some_of{o:Option Value}(r:C4 (!v) o):∃u,o=!u/\RelV v u:=by
 cases o with
 |none=>show(show False from r).elim
 |some u=>show#[u,rfl,r]
def C4.none_of{o:Option Value}(r:C4 none o):o=none:=by
 cases o with
 |none=>rfl
 |some u=>show(show False from r).elim
def Mj(r:RelV v u):PySem.W.handedIn u=true:=by
 cases v with
 |aW=>cases (show u=Value.none from r);rfl
 |bl b=>cases (show u=Value.bool b from r);rfl
 |int i=>let#[t,e]:=(show ∃t,u=Value.int i t from r);cases e;rfl
 |str x=>let#[t,e]:=(show ∃t,u=Value.str x t from r);cases e;rfl
 |mG b=>let#[t,e]:=(show ∃t,u=Value.bytes b t from r);cases e;rfl
 |tW b=>let#[t,e]:=(show ∃t,u=Value.float b t from r);cases e;rfl
 |ref a=>cases (show u=Value.ref a from r);rfl
 |ty n=>cases (show u=Value.type n from r);rfl
section
variable{fs:@&(Str×V)}
def Ba(bI:gJ P w H h)(e:H a=!.ins C dx fs):∃mA,ue h a dx C mA/\(∀f,C4 (fs.lookup f) (mA f))/\PySem.Within mA (fs.map (·.1))/\-fs<=1000/\H dx=!.own a:=by
 let#[d,z,ne,ob,mA,n,r,q]:=(show l0 P w H h a (.ins C dx fs) from bI a _ e)
 show#[mA,#[ob,n,ne],r,q,z,d]
end
structure Cls(K:PySem.W.Frag)(C:Addr):Prop where
 pg:PySem.W.plainGet K C Str.empty=true
 hd:PySem.W.hasDictIn K C=true
 po:PySem.W.plainOver K C=true
 sa:PySem.W.findIn K (.ref C) "__setattr__"=!!(.builtin "object.__setattr__")
def Cls.get(c:Cls K C)(f:Str):PySem.W.plainGet K C f=true:=c.pg
def B2(K:PySem.W.Frag)(C:Addr)(f:Str):Prop:=PySem.W.findIn K (.ref C) f=!none
def B2.GZ{f:Str}(n:B2 K C f):PySem.W.takerIn K C f=!none:=by
 unfold PySem.W.takerIn;rw[show PySem.W.findIn K (.ref C) f=some none from n]
 rfl
structure Meth(K:PySem.W.Frag)(C:Addr)(m:Str)(f:Addr):Prop where
 at_:PySem.W.findIn K (.ref C) m=!!.ref f
 fn:PySem.W.isFn K (.ref f)=true
 kp:PySem.W.keepIn K (.ref f)=true
section
variable{fs:@&(Str×V)}{f:Str}
def MP{b:Bool}(I:Inv X pi σ H s)(e:H a=!.ins C dx fs)(c:Cls X.K C)(n:B2 X.K C f)(l:fs.lookup f=!v)(h:∀u s',Inv X pi σ H s'->RelV v u->Q u s'):wpAny (model X.prog X.w) A (getAttr (.ref a) f b) Q E s:=by
 let#[mA,O,r,_,_,_]:=Ba I.bI e;let#[u,hu,ru]:=C4.some_of (by rw[<- l];show r f);show get_map I.gC O (c.get f) c.hd n hu (Mj ru) (h u _ (I.tok _) ru)
def MQ{g:Addr}{pl:Sem Bool}{Q:Value×@&Value->Shared->Prop}(I:Inv X pi σ H s)(e:H a=!.ins C dx fs)(c:Cls X.K C)(k:Meth X.K C m g)(l:fs.lookup m=none)(h:Q (.ref g,[.ref a]) s):wpAny (model X.prog X.w) A (getMethod (.ref a) m pl) Q E s:=by
 let#[mA,O,r,_,_,_]:=Ba I.bI e;let hn:=C4.none_of (by rw[<- l];show r m);show WN I.gC O (c.get m) k.at_ k.fn hn h
def MZ{y:V}{Q:Unit->Shared->Prop}(I:Inv X pi σ H s)(e:H a=!.ins C dx fs)(c:Cls X.K C)(n:B2 X.K C f)(hl:-fs<1000)(ry:RelV y u)(h:∀s',Inv X pi σ (upd H a (.ins C dx (p8 f y fs))) s'->Q Unit.unit s'):wpAny (model X.prog X.w) A (setAttr (.ref a) f u) Q E s:=by
 let#[mA,O,r,wi,_,ho]:=Ba I.bI e;let hz:(fs.map (·.1)).length<=sizeLine:=by rw[ah,gi];omega
 show VN I.gC O c.sa c.po n.GZ c.hd wi hz λh' O' sb=>h _ ?_;let hd:∃o,h'.get? dx=!o:=let ⟨o,_,_,e',_⟩:=O'.ns;#[o,e']
 show I.write (by rw[e];show True.intro) (.inr ho) (λb q hb z=>(sb.2 b hb).trans z) hd ?_;show#[by rw[d7 O.ne];show ho,?_,O.ne,O'.obj,_,O'.ns,λg=>?_,λg hg=>?_]
 .have:=Ni f y fs;omega
 .change C4 ((p8 f y fs).lookup g) (if g=f then some u else mA g);rw[Nj];by_cases q:g=f
  .rw[au q,au q];show ry
  .rw[aq q,aq q];show r g
 .by_cases q:g=f
  .rw[q];show(Gp f y fs).1
  .refine(Gp f y fs).2 g (wi g λz=>hg ?_);show(if g=f then some u else mA g)=none;rw[aq q];show z
def Inv.made(I:Inv X pi σ H s):Inv X pi σ (upd (upd H s⁻¹ (.own (s⁻¹+1))) (s⁻¹+1) (.ins C s⁻¹ []))
  { s with heap:=(s.heap.push PySem.W.emptyDict).push (PySem.W.instObj C s⁻¹) }:=by
 let e1:(s.heap.push PySem.W.emptyDict).get? s⁻¹=!PySem.W.emptyDict:=ay s.heap rfl;let e2:((s.heap.push PySem.W.emptyDict).push (PySem.W.instObj C s⁻¹)).get? (s⁻¹+1)=!(PySem.W.instObj C s⁻¹):=by
  have:=ay (s.heap.push PySem.W.emptyDict) (o:=PySem.W.instObj C s⁻¹) rfl
  rwa [cZ] at this
 let e3:(s.heap.push PySem.W.emptyDict).Ns s⁻¹ (λx=>none):=#[PySem.W.emptyDict,(List.toArray []),_,e1,rfl,(λe he=>absurd he #[_]),λx=>rfl]
 let I1:=I.laid (o:=.own (s⁻¹+1)) (h':=s.heap.push PySem.W.emptyDict) (t':=s.toks) (λb u q=>ai _ q) (ak _) #[_,e1];show I1.laid (t':=s.toks) (λb u q=>ai _ q) (Nat.le_of_eq (cZ _ _)) ?_;let ne:s⁻¹≠s⁻¹+1:=aN (mK _);show#[by rw[d7 ne,f9],cU _,ne,e2,λx=>none,(Heap.Ns1.of_empty e3).at λo q=>ai _ q,λx=>True.intro,λy hy=>absurd rfl hy]
def Nz{prog:Program}{env:Env}(hb:attributeBase e f env (eval e env)=eval e env)(h:wpAny (model prog w) A (eval e env) (λo bJ=>wpAny (model prog w) A (getAttr o f true) Q E bJ) E s):wpAny (model prog w) A (eval (.Attribute e f pos) env) Q E s :=
 Attribute_any_ h (by rw[arm_eval_Attribute,hb])
end
def b87(K:PySem.W.Frag)(ta:TE)(f:Str):TE:=λσ H Q=>ta σ H λx H1=>∃a C dx fs v,x=.ref a/\H1 a=!.ins C dx fs/\Cls K C/\B2 K C f/\fs.lookup f=!v/\Q v H1
def b99(K:PySem.W.Frag)(ta tv:TE)(f:Str):TS:=λD σ H=>tv σ H λy H1=>ta σ H1 λx H2=>∃a C dx fs,x=.ref a/\H2 a=!.ins C dx fs/\Cls K C/\B2 K C f/\-fs<1000 /\
 D.nx σ (upd H2 a (.ins C dx (p8 f y fs)))
abbrev EX(X:Cx)(op:Operator)(rd:V->V->Hp->VK->Prop):Prop :=
 ∀(pi:@&(Addr×Obj)) (s:Shared) (σ:St) (H:Hp) (x y:V) (u v:Value) (Q:VK),Inv X pi σ H s->RelV x u->RelV y v->rd x y H Q->wpAny (model X.prog X.w) X.A (inplaceOp op u v) (EP X pi σ Q) X.xe s
def bA2(K:PySem.W.Frag)(ta tv:TE)(rd:V->V->Hp->VK->Prop)(f:Str):TS:=λD σ H=>ta σ H λx H1=>∃a C dx fs v,x=.ref a/\H1 a=!.ins C dx fs/\Cls K C/\B2 K C f/\fs.lookup f=!v /\
 tv σ H1 λy H2=>rd v y H2 λz H3=>∃vw jK,H3 a=!.ins C vw jK/\-jK<1000/\D.nx σ (upd H3 a (.ins C vw (p8 f z jK)))
section
variable{o value:Expr}{f:Str}{pos' wC:Pos}{tv:TE}
def bP3(he:PE X e ta)(hb:attributeBase e f X.env (eval e X.env)=eval e X.env):PE X (.Attribute e f pos) (b87 X.K ta f):=by
 intro pi s σ H Q I h;show Nz hb (cS (he pi s σ H _ I h) λu s1 bx=>?_);let#[x,H1,I1,rx,a,C,dx,fs,v,ex,ea,c,n,l,q]:=bx;subst ex;obtain rfl:u=Value.ref a:=rx;show MP I1 ea c n l λu' s2 I2 ru=>#[v,H1,I2,ru,q]
def bO6(ha:PE X o ta)(hv:PE X value tv)(hs:swapsWith value (!.Attribute o f pos') pos.line X.env=pure false):PS X (.Assign [.Attribute o f pos'] value pos) (b99 X.K ta tv f):=by
 intro pi s σ H D I h;show rn (cS (hv pi s σ H _ I h) ?_) hs;rintro u s1 ⟨y,H1,I1,ry,q⟩;show cS (ha pi s1 σ H1 _ I1 q) λov s2 bx=>?_;let#[x,H2,I2,rx,a,C,dx,fs,ex,ea,c,n,l,q2]:=bx;subst ex;obtain rfl:ov=Value.ref a:=rx;show MZ I2 ea c n l ry λs3 I3=>#[σ,_,I3,q2]
def a69{op:Operator}{rd:V->V->Hp->VK->Prop}(ha:PE X o ta)(hv:PE X value tv)(tI:EX X op rd):PS X (.AugAssign (.Attribute o f wC) op value pos) (bA2 X.K ta tv rd f):=by
 intro pi s σ H D I h;show wpAny_AugAssign_AttributeAny (cS (ha pi s σ H _ I h) λov s1 bx=>?_);let#[x,H1,I1,rx,a,C,dx,fs,v,ex,ea,c,n,l,q]:=bx;subst ex;obtain rfl:ov=Value.ref a:=rx;show MP I1 ea c n l λu s2 I2 ru=>cS (hv pi s2 σ H1 _ I2 q) ?_;rintro w3 s3 ⟨y,H2,I3,ry,q3⟩;show cS (tI pi s3 σ H2 v y u w3 _ I3 ru ry q3) λw4 s4 bx=>?_;let#[z,H3,I4,rz,vw,jK,EM,l',q4]:=bx;show MZ I4 EM c n l' rz λs5 I5=>#[σ,_,I5,q4]
abbrev Vw:V->V->Hp->VK->Prop:=λx y H Q=>∃i j,x=.int i/\y=.int j/\Q (.int (i+j)) H
def bU5:EX X .Add Vw:=by
 rintro pi s σ H x y u v Q I rx ry ⟨i,j,rfl,rfl,q⟩;let#[t,rfl]:=(show ∃t,u=Value.int i t from rx)
 let#[t',rfl]:=(show ∃t',v=Value.int j t' from ry)
 show PyProof.Rows.iadd_int #[.int (i+j),H,I.tok _,#[_,rfl],q]
end
section
variable{c:Value}{b:Bool}
inductive iH(K:PySem.W.Frag)(H:Hp):V->Value->Prop where
 |aW:iH K H .aW (.type "NoneType")
 |bl (x:Bool):iH K H (.bl x) (.type "bool")
 |int (i:Int):iH K H (.int i) (.type "int")
 |str (x:Str):iH K H (.str x) (.type "str")
 |tW (x:UInt64):iH K H (.tW x) (.type "float")
 |lst {a:Addr} {xs:@&V} (e:H a=!.lst xs):iH K H (.ref a) (.type "list")
 |ky {a:Addr} {o:Obj} {xs:@&V} (e:H a=!.ky o (.lst xs)):iH K H (.ref a) (.type "list")
 |tup {a:Addr} {xs:@&V} (e:H a=!.tup xs):iH K H (.ref a) (.type "tuple")
 |dK {a:Addr} {kvs:@&(Key×V)} (e:H a=!.dK kvs):iH K H (.ref a) (.type "dict")
 |dT {a:Addr} {kvs:@&(List Key×V)} (e:H a=!.dT kvs):iH K H (.ref a) (.type "dict")
 |ins {a C dx:Addr} {fs:@&(Str×V)} (e:H a=!.ins C dx fs) (cl:Cls K C) (ha:PySem.W.findIn K (.ref C) "__class__"=!!(.builtin "object.__class__"))
   (hn:PySem.W.specialIn K (.builtin "object.__class__") "__get__"=!!(.builtin "getset_descriptor.__get__")) (Aa:PySem.W.takesIn K (.builtin "object.__class__")=!true)
   (hm:PySem.W.mroIn K C (.type "object")=!true):iH K H (.ref a) (.ref C)
def YX{x:V}{t:Value}(I:Inv X pi σ H s)(rx:RelV x u)(ty:iH X.K H x t)(e:PySem.W.kitOne X.K t c=!b)(h:∀tk,Q (.bool b) { s with toks:=tk }) :
  wpAny (model X.prog X.w) A (call (.builtin "isinstance") [u,c]) Q E s:=by
 cases ty with
 |aW=>cases (show u=Value.none from rx);show bW PySem.W.kitx_none I.gC True.intro e (λz=>nomatch z) h
 |bl y=>cases (show u=Value.bool y from rx);show bW PySem.W.kitx_bool I.gC True.intro e (λz=>nomatch z) h
 |int i=>let#[t,q]:=(show ∃t,u=Value.int i t from rx);cases q;show bW PySem.W.kitx_int I.gC True.intro e (λz=>nomatch z) h
 |str y=>let#[t,q]:=(show ∃t,u=Value.str y t from rx);cases q;show bW PySem.W.kitx_str I.gC True.intro e (λz=>nomatch z) h
 |tW y=>let#[t,q]:=(show ∃t,u=Value.float y t from rx);cases q;show bW PySem.W.kitx_float I.gC True.intro e (λz=>nomatch z) h
 |@lst a xs ea =>
  cases (show u=Value.ref a from rx);let#[_,_,n,_,h1]:=(show l0 X.prog X.w H s.heap a (.lst xs) from I.bI a _ ea)
  show bW PySem.W.kitx_list I.gC #[_,h1,rfl] e (λz=>nomatch z) h
 |@ky a ob xs ea =>
  cases (show u=Value.ref a from rx);let#[_,_,_,n,_,h1]:=(show l0 X.prog X.w H s.heap a (.ky ob (.lst xs)) from I.bI a _ ea)
  show bW PySem.W.kitx_list I.gC #[_,h1,rfl] e (λz=>nomatch z) h
 |@tup a xs ea =>
  cases (show u=Value.ref a from rx);let#[_,_,_,p]:=(show l0 X.prog X.w H s.heap a (.tup xs) from I.bI a _ ea)
  let#[o,h1,h2,_]:=p;show bW QC I.gC #[o,h1,h2] e (λz=>nomatch z) h
 |@dK a kvs ea =>
  cases (show u=Value.ref a from rx);let#[_,_,vs,_,p]:=(show l0 X.prog X.w H s.heap a (.dK kvs) from I.bI a _ ea)
  let#[o,es,ep,h1,h2,_]:=p;show bW PySem.W.kitx_dict I.gC #[o,h1,h2.1] e (λz=>nomatch z) h
 |@dT a kvs ea =>
  cases (show u=Value.ref a from rx);let#[_,_,xs,_,o,es,ep,h1,h2,_]:=(show l0 X.prog X.w H s.heap a (.dT kvs) from I.bI a _ ea)
  show bW PySem.W.kitx_dict I.gC #[o,h1,h2.1] e (λz=>nomatch z) h
 |@ins a C dx fs ea cl ha hn Aa hm =>
  cases (show u=Value.ref a from rx);let#[mA,O,_]:=Ba I.bI ea;let#[od,J,_]:=O.look;show bW (PySem.W.kitx_own (cl.get _) cl.hd ha hn Aa hm) I.gC J e (λz=>nomatch z) h
end
structure m4(k:Nat)(A:Around):Prop where
 hd:A.handled=none
 dp:A.depth+3*k+5<recursionLimit
 un:A.units+16*k+200<cLine
def m4.mono{j:Nat}(r:m4 k A)(h:j<=k):m4 j A:=#[r.hd,by have:=r.dp;omega,by have:=r.un;omega]
def m4.deeper{k:Nat}{A:Around}(r:m4 (k+1) A)(env:Env):m4 k (A.deeper env) :=
 #[r.hd,by have:=r.dp;change A.depth+1+3*k+5<_;omega,by have:=r.un;change A.units+3+16*k+200<_;omega]
def MV{kw:@&(Str×Value)}:(A.under (.builtin "type.__call__" #[.ref C::us,kw])).depth=A.depth+1:=by
 rfl
def MW{kw:@&(Str×Value)}:(A.under (.builtin "type.__call__" #[.ref C::us,kw])).units=A.units+1:=by
 rfl
def m4.make(r:m4 (k+1) A)(C:Addr)(us:@&Value)(kw:@&(Str×Value)):m4 k (A.under (.builtin "type.__call__" #[.ref C::us,kw])) :=
 #[r.hd,by have:=r.dp;rw[MV];omega,by have:=r.un;rw[MW];omega]
def m4.depth{k:Nat}{A:Around}(r:m4 k A):A.depth<recursionLimit:=by have:=r.dp;omega
def Fv:TA:=λx H Q=>Q [] H
def Zv(ta:TE)(tr:TA):TA:=λσ H Q=>ta σ H λx H1=>tr σ H1 λxs H2=>Q (x::xs) H2
def V4:PA X [] Fv:=λx x x x H Q I h=>Calls.spliced_nil #[[],H,I,.nil,h]
def P2(ha:PE X e te)(hr:PA X es t)(hs:starEach (e::es) X.env=(false,eval e X.env)::starEach es X.env:=by rfl):PA X (e::es) (Zv te t):=by
 intro pos pi s σ H Q I h;rw[hs];change wpAny _ _ (spliced ((false,eval e X.env)::backTo pos (starEach es X.env))) _ _ s;show Calls.spliced_cons (cS (ha pi s σ H _ I h) λu s1 bx=>?_);let#[x,H1,I1,r1,q1]:=bx;show cS (hr pos pi s1 σ H1 _ I1 q1) (by rintro us s2 ⟨xs,H2,I2,r2,q2⟩;show #[x::xs,H2,I2,.cons r1 r2,q2])
def b79(t:TA):TE:=λσ H Q=>t σ H λxs H1=>-xs<=sizeLine/\∀p,H1 p=none->Q (.ref p) (upd H1 p (.tup xs))
def b84(t:TA):TE:=λσ H Q=>t σ H λxs H1=>-xs<=sizeLine/\∀p,H1 p=none->Q (.ref p) (upd H1 p (.lst xs))
def bO9{x1}(h:PA X es t):PE X (.Tuple es x1 pos) (b79 t):=by
 intro pi s σ H Q I hq;show wpAny_Tuple_spliced (cS (h pos pi s σ H _ I hq) ?_);rintro us s1 ⟨xs,H1,I1,r,z,q⟩;show #[by rw[<- -r];show z,?_];let hf:=I1.bI.fresh (ak _);show#[.ref s1⁻¹,upd H1 s1⁻¹ (.tup xs),I1.laid (t':=s1.toks) (λb u e=>ai _ e) (ak _) ?_,rfl,q _ hf];show#[z,us,r,#[_,ay _ rfl,rfl,#[_,rfl],rfl]]
def PV(h:PA X es t):PE X (.List es pos) (b84 t):=by
 intro pi s σ H Q I hq;show wpAny_List_spliced (cS (h pos pi s σ H _ I hq) ?_);rintro us s1 ⟨xs,H1,I1,r,z,q⟩;show #[by rw[<- -r];show z,?_];let hf:=I1.bI.fresh (ak _);show#[.ref s1⁻¹,upd H1 s1⁻¹ (.lst xs),I1.laid (t':=s1.toks) (λb u e=>ai _ e) (ak _) ?_,rfl,q _ hf];show#[z,us,0,r,ay _ rfl]
noncomputable abbrev Sp:=@&V->Hp->VK->XK->Prop
noncomputable abbrev ly:=@&Env->Hp->Shared->XK->Value->Shared->Prop
structure qU(P:Program)(w:World)(K:PySem.W.Frag)(mg:Str->Option Value)(base:Heap)(A:Around)(outer:@&Env)(s:Shared)(H:Hp):Prop where
 frames:A.frames=!outer
 mod:Mod K mg base
 bs:∀b o,base.get? b=!o->s.heap.get? b=!o/\H b=none
 nD:base.objs.size<=s⁻¹
 E8:s.heap.FunFrames base outer
 nM:∀b∈fE outer,H b=none
 bI:gJ P w H s.heap
 bare:AllBare s.gens
abbrev CE(outer:@&Env)(P:Program)(w:World)(H:Hp)(s:Shared)(Q:VK)(u:Value)(s':Shared):Prop :=
 ∃v H',s'.os=s.os/\AllBare s'.gens/\Un (fE outer) [] H H' s.heap s'.heap/\gJ P w H' s'.heap/\RelV v u/\Q v H'
abbrev CR(CX:ly)(outer:@&Env)(P:Program)(w:World)(H:Hp)(s:Shared)(Q:VK)(E:XK)(r:Result)(s':Shared):Prop :=
 match r with
 |.ok (.ret u)=>CE outer P w H s Q u s'
 |.ok _=>False
 |.error e=>CX outer H s E e s'
structure gK(P:Program)(w:World)(K:PySem.W.Frag)(mg:Str->Option Value)(base:Heap)(CX:ly)(k:Nat)(f:Addr)(fd:FuncData)(ps:@&Str)(sp:Sp):Prop where
 len:∀vs H Q E,sp vs H Q E->-vs=-ps
 run:∀(A:Around) (outer:@&Env) (s:Shared) (H:Hp) (args:Args) (us:@&Value) (vs:@&V) (Q:VK) (E:XK),m4 k A->qU P w K mg base A outer s H->BindsTo s fd args (ps.zip us)->Vals vs us->sp vs H Q E ->
  codeAny (model P w) A (.call (.ref f) args) (CR CX outer P w H s Q E) s
def qU.make{mg:Str->Option Value}{outer:@&Env}(e:qU P w K mg base A outer s H)(C:Addr)(us:@&Value)(kw:@&(Str×Value)) :
  qU P w K mg base (A.under (.builtin "type.__call__" #[.ref C::us,kw])) outer s H:=#[by first|show e.frames|(simpa[Around.under,Code.envs,Code.isFrame,pushEnvs] using e.frames),e.mod,e.bs,e.nD,e.E8,e.nM,e.bI,e.bare]
section
variable{s':Shared}
def Inv.Cg(I:Inv X pi σ H s):qU X.prog X.w X.K X.mg X.base X.A X.stack s H :=
 #[I.ok.frames,I.ok.mod,I.bs,aL I.ok.nD I.sz,I.stack,I.Bq,I.bI,I.bare]
def Inv.after{Q:VK}(I:Inv X pi σ H s)(h:CE X.stack X.prog X.w H s Q u s'):EP X pi σ Q u s':=by
 let#[v,H',os,bare,un,bI,r,q]:=h;let#[hh,g,d,t,wU]:=s';obtain rfl:wU=s.os:=os;show#[v,H',I.call (h':=hh) (g':=g) (d':=d) (t':=t) un bI bare (λb z=>absurd z #[_]),r,q]
end
def KC(sp:Sp)(kE:@&V)(E:XK)(t:TA):TE:=λσ H Q=>t σ H λvs H1=>sp (vs++kE) H1 Q E
def KG(C:Addr)(sp:Sp)(kE:@&V)(E:XK)(t:TA):TE:=λσ H Q=>t σ H λvs H1=>∀x dx,H1 x=none->H1 dx=none->dx≠x ->
 sp (.ref x::(vs++kE)) (upd (upd H1 dx (.own x)) x (.ins C dx [])) (λv H2=>v=.aW/\Q (.ref x) H2) E
abbrev Binds(K:PySem.W.Frag)(fd:FuncData)(ps:@&Str)(ds:@&Value):Prop :=
 ∀(s:Shared) (us:@&Value),K.In s.heap->(us++ds).length=-ps->BindsTo s fd #[us,[]] (ps.zip (us++ds))
def Binds.all(h:∀us:@&Value,(-us)=-ps->bindArgs fd #[us,[]]=pure (ps.zip us)):Binds K fd ps []:=λs us x hl=>by
 rw[jw] at hl ⊢;show .of_eq (h us hl)
def Passes(CX:ly)(X:Cx)(E:XK):Prop:=∀(pi:@&(Addr×Obj)) (σ:St) (H:Hp) (s:Shared) (e:Value) (s':Shared),Inv X pi σ H s->CX X.stack H s E e s'->X.xe e s'
section
variable{kE:@&V}{ds:@&Value}{E:XK}
def AM{Q:VK}(F:gK X.prog X.w X.K X.mg X.base CX k f fd ps sp)(hr:m4 k X.A)(hb:Binds X.K fd ps ds)(hd:Vals kE ds)(hx:Passes CX X E)(I:Inv X pi σ H s)(r:Vals vs us)(h:sp (vs++kE) H Q E):wpAny (model X.prog X.w) X.A (call (.ref f) us) (EP X pi σ Q) X.xe s:=by
 let r2:=r.append hd;let hl:(us++ds).length=-ps:=by rw[<- -r2];show F.len _ _ _ _ h
 show iM (fN (F.run X.A X.stack s H #[us,[]] (us++ds) (vs++kE) Q E hr I.Cg (hb s us I.gC hl) r2 h) λr s' hq=>?_);cases r with
 |error e=>show hx pi σ H s e s' I hq
 |ok fl =>
  cases fl with
  |ret u=>show I.after hq
  |next=>show False.elim hq
  |brk=>show False.elim hq
  |cont=>show False.elim hq
def bC0(F:gK X.prog X.w X.K X.mg X.base CX k f fd ps sp)(hr:m4 k X.A)(hg:Gl X x)(hm:X.mg x=!.ref f)(hk:PySem.W.keepIn X.K (.ref f)=true)(hb:Binds X.K fd ps ds)(hd:Vals kE ds)(hx:Passes CX X E)(ha:PA X (e::es) t)(gX:(x==("__debug__":Str))=false:=by decide)(he:starEach (e::es) X.env=(false,eval e X.env)::starEach es X.env:=by rfl)(gI:(backTo pos (starEach es X.env)).any (·.1)=false:=by rfl) :
  PE X (.Call (.Name x p) (e::es) [] pos) (KC sp kE E t):=by
 intro pi s σ H Q I h;show dN (E5 I hg hm ?_ gX);show kH I.ok.mod.lU hk (cS (ha pos pi s σ H _ I h) ?_) he gI;rintro us s1 ⟨vs,H1,I1,r,q⟩;show #[I1.gC,?_];show AM F hr hb hd hx I1 r q
def Xv(F:gK X.prog X.w X.K X.mg X.base CX k f fd ps sp)(hr:m4 k X.A)(hg:Gl X x)(hm:X.mg x=!.ref f)(hk:PySem.W.keepIn X.K (.ref f)=true)(hb:Binds X.K fd ps ds)(hd:Vals kE ds)(hx:Passes CX X E)(gX:(x==("__debug__":Str))=false:=by decide):PE X (.Call (.Name x p) [] [] pos) (KC sp kE E Fv):=by
 intro pi s σ H Q I h;show dN (E5 I hg hm ?_ gX);show kf I.gC hk (AM (us:=[]) F hr hb hd hx I .nil h)
structure Mk(K:PySem.W.Frag)(C f:Addr):Prop where
 makes:PySem.W.makesIn K C=true
 init:PySem.W.findIn K (.ref C) "__init__"=!!.ref f
 fn:PySem.W.isFn K (.ref f)=true
 kp:PySem.W.keepIn K (.ref C)=true
def Pj{Q:VK}(M:Mk X.K C f)(F:gK X.prog X.w X.K X.mg X.base CX k f fd ps sp)(hr:m4 (k+1) X.A)(hb:Binds X.K fd ps ds)(hd:Vals kE ds)(hx:Passes CX X E)(I:Inv X pi σ H s)(r:Vals vs us)(h:∀x dx,H x=none->H dx=none->dx≠x->sp (.ref x::(vs++kE)) (upd (upd H dx (.own x)) x (.ins C dx [])) (λv H2=>v=.aW/\Q (.ref x) H2) E) :
  wpAny (model X.prog X.w) X.A (call (.ref C) us) (EP X pi σ Q) X.xe s:=by
 let hq:=h (s⁻¹+1) s⁻¹ (I.bI.fresh (jP _)) (I.bI.fresh (ak _)) (aN (mK _));let I2:=Inv.made (C:=C) I;let r2:Vals (V.ref (s⁻¹+1)::(vs++kE)) (Value.ref (s⁻¹+1)::(us++ds)):=.cons rfl (r.append hd);let hl:(Value.ref (s⁻¹+1)::us++ds).length=-ps:=by
  let e:=-r2;rw[F.len _ _ _ _ hq] at e;show e.symm
 show iM (Xf I.gC M.makes M.init (fO.mp M.fn) (fN (F.run _ X.stack _ _ #[Value.ref (s⁻¹ + 1) :: us,[]] (Value.ref (s⁻¹ + 1) :: (us ++ ds)) _ _ E (hr.make C us [])
  (I2.Cg.make C us []) (hb _ (Value.ref (s⁻¹ + 1) :: us) I2.gC hl) r2 hq) λr s' kQ=>?_))
 cases r with
 |error e=>show hx pi σ _ _ e s' I2 kQ
 |ok fl =>
  cases fl with
  |ret u =>
   let#[v,H',I3,rv,ev,q3]:=I2.after kQ;subst ev;show#[rv,#[V.ref (s⁻¹+1),H',I3,rfl,q3]]
  |next=>show False.elim kQ
  |brk=>show False.elim kQ
  |cont=>show False.elim kQ
def bB6(M:Mk X.K C f)(F:gK X.prog X.w X.K X.mg X.base CX k f fd ps sp)(hr:m4 (k+1) X.A)(hg:Gl X x)(hm:X.mg x=!.ref C)(hb:Binds X.K fd ps ds)(hd:Vals kE ds)(hx:Passes CX X E)(ha:PA X (e::es) t)(gX:(x==("__debug__":Str))=false:=by decide)(he:starEach (e::es) X.env=(false,eval e X.env)::starEach es X.env:=by rfl)(gI:(backTo pos (starEach es X.env)).any (·.1)=false:=by rfl) :
  PE X (.Call (.Name x p) (e::es) [] pos) (KG C sp kE E t):=by
 intro pi s σ H Q I h;show dN (E5 I hg hm ?_ gX);show kH I.ok.mod.lU M.kp (cS (ha pos pi s σ H _ I h) ?_) he gI;rintro us s1 ⟨vs,H1,I1,r,q⟩;show #[I1.gC,?_];show Pj M F hr hb hd hx I1 r q
def XA(M:Mk X.K C f)(F:gK X.prog X.w X.K X.mg X.base CX k f fd ps sp)(hr:m4 (k+1) X.A)(hg:Gl X x)(hm:X.mg x=!.ref C)(hb:Binds X.K fd ps ds)(hd:Vals kE ds)(hx:Passes CX X E)(gX:(x==("__debug__":Str))=false:=by decide):PE X (.Call (.Name x p) [] [] pos) (KG C sp kE E Fv):=by
 intro pi s σ H Q I h;show dN (E5 I hg hm ?_ gX);show kf I.gC M.kp (Pj (us:=[]) M F hr hb hd hx I .nil h)
end
structure gf(N P:@&Str)(sc:Scope):Prop where
 kind:sc.kind=.function
 co:sc.isCoroutine=false
 gen:sc.isGenerator=false
 nd:N.Nodup
 pre:N.take (-P)=P
 par:∀x∈P,sc.names.lookup x=!.local\/sc.names.lookup x=!.cell
 ot:∀y∈sc.names,y.2≠.free
def Ma{kindOf:Str->Option NameKind}{x:Str}:∀{binds:@&(Str×Value)} {m:Str->Option Value},(∀v,(x,v)∉binds)->bindL kindOf binds m x=m x
 |[],_,_=>rfl
 |(n,v)::r,m,h=>by
  unfold bindL;rw[Ma λw hw=>h w (bg _ hw)];split
  .have:x≠n:=by rintro rfl;show h v fP
   simp[this]
  .rfl
def PD{kindOf:Str->Option NameKind}{x:Str}:∀{binds:@&(Str×Value)} {m:Str->Option Value},(∀v,(x,v)∉binds)->bindC kindOf binds m x=m x
 |[],_,_=>rfl
 |(n,v)::r,m,h=>by
  unfold bindC;rw[PD λw hw=>h w (bg _ hw)];split
  .rfl
  .have:x≠n:=by rintro rfl;show h v fP
   simp[this]
def PH{kindOf:Str->Option NameKind}{x:Str}{v:Value}:∀{P:@&Str} {vs:@&Value} {i:Nat} {m:Str->Option Value},P.Nodup->P[i]?=!x->vs[i]?=!v->kindOf x=!.local ->
  bindL kindOf (P.zip vs) m x=!v
 |[],_,_,_,_,h,_,_=>by simp at h
 |_::_,[],_,_,_,_,h,_=>by simp at h
 |p::P,w::vs,0,m,nd,h1,h2,hk=>by
  simp at h1 h2;subst h1;subst h2;change bindL kindOf ((p,w)::P.zip vs) m p=_;unfold bindL;rw[Ma λv hv=>(gG.mp nd).1 (jt hv).1,au hk];simp
 |p::P,w::vs,i+1,m,nd,h1,h2,hk=>by
  unfold bindL;show PH (gG.mp nd).2 (_/h1) (_/h2) hk
def Pz{kindOf:Str->Option NameKind}{x:Str}{v:Value}:∀{P:@&Str} {vs:@&Value} {i:Nat} {m:Str->Option Value},P.Nodup->P[i]?=!x->vs[i]?=!v->kindOf x≠!.local ->
  bindC kindOf (P.zip vs) m x=!v
 |[],_,_,_,_,h,_,_=>by simp at h
 |_::_,[],_,_,_,_,h,_=>by simp at h
 |p::P,w::vs,0,m,nd,h1,h2,hk=>by
  simp at h1 h2;subst h1;subst h2;change bindC kindOf ((p,w)::P.zip vs) m p=_;unfold bindC;rw[PD λv hv=>(gG.mp nd).1 (jt hv).1,aq hk];simp
 |p::P,w::vs,i+1,m,nd,h1,h2,hk=>by
  unfold bindC;show Pz (gG.mp nd).2 (_/h1) (_/h2) hk
def start(N:@&Str)(vs:@&V):St:=vs.map some++List.replicate (-N- -vs) none
abbrev P8(CX:ly)(P:Program)(w:World)(K:PySem.W.Frag)(mg:Str->Option Value)(base:Heap)(N:@&Str)(qual:Str)(scope:Scope)(f:Addr)(cd:Value)(A:Around)(outer:@&Env)(s:Shared)(H:Hp)(E:XK):Cx where
 prog:=P
 w:=w
 K:=K
 mg:=mg
 base:=base
 A:=A.deeper (envOfC qual scope s⁻¹ f cd)
 N:=N
 cQ:=s
 jo:=H
 env:=envOfC qual scope s⁻¹ f cd
 outer:=outer
 stack:=envOfC qual scope s⁻¹ f cd::outer
 ex:=[]
 calm:=true
 fn:=λx=>true
 pn:=[]
 xe:=λe s'=>wpAny (model P w) (A.deeper (envOfC qual scope s⁻¹ f cd)) (leaving (envOfC qual scope s⁻¹ f cd) e) (λx mX=>CX outer H s E e mX) (λe' mX=>CX outer H s E e' mX) s'
def FW{sc:Scope}{n:Nat}(h:sc.names.lookup x=!.cell):∃c,(cellsFrom n sc.names []).lookup x=!c:=by
 let q:=de sc.names n [] (.inl h);show dU.mp q
def Mm{mg:Str->Option Value}{qual:Str}{scope:Scope}{cd:Value}{outer:@&Env}{s1:Shared}{E:XK}(S:gf N ps scope)(hd:A.handled=none)(e0:qU P w K mg base A outer s H)(hl:-vs=-ps)(r:Vals vs us)(x:InCallC s s⁻¹ (bindL (envOfC qual scope s⁻¹ f cd).kindOf (ps.zip us) λt=>none) (cellsFrom (s⁻¹+1) scope.names []) (bindC (envOfC qual scope s⁻¹ f cd).kindOf (ps.zip us) λt=>none) s1) :
  Inv (P8 CX P w K mg base N qual scope f cd A outer s H E) [] (start N vs) H s1:=by
 let gI:-ps<=-N:=by have:=gw List.length S.pre;grind
 let#[h1,tk,rfl,hk]:=x.done;let wZ:∀b:Addr,b∉(P8 CX P w K mg base N qual scope f cd A outer s H E).ex:=λb z=>absurd (show b∈([]:@&Addr) from z) #[_];show #[#[e0.mod,S.kind,rfl,rfl,ak _,λy z c h1 h2=>?_,λy hy=>?_,λy c t h=>?_,λt=>hd,Around.frames_deeper e0.frames,.inr #[rfl,rfl],λb z=>absurd z (wZ b),e0.bs,e0.nD,λb t t=>wZ b,λb z=>absurd z (wZ b),e0.E8,e0.nM],
  rfl,e0.bare,Un.kept hk,#[_,x.toInCall.ns,λi y v h1 h2 h3=>?_],λy c h=>#[_,x.cell y c h],e0.bI.fresh (ak _),λy c h=>?_,λp hp=>absurd (show p ∈ ([]:@&(Addr × Obj)) from hp) #[_],e0.bI.kept hk,?_,λda z=>absurd (show (none:Option (List (Option V)))=some da from z) #[_]]
 .exact name_of_addr x.apart (aS h1) (aS h2)
 .rcases hy with hy|hy
  .exact FW hy
  .exact absurd rfl (S.ot _ (aS hy))
 .exact ft (x.above y c (aS h))
 .let hi:i< -vs:=by
   unfold start at h2;by_cases hi:i< -vs
   .exact hi
   .rw[dE (_/hi)] at h2;rw[cX] at h2
    simp_all
  let ha:vs[i]?=!v:=by
   unfold start at h2;rw[aG (_/hi),aJ] at h2;cases e:vs[i]? with
   |none=>rw[e] at h2;cases h2
   |some a=>rw[e] at h2;cases h2;rfl
  let#[u,hu,rv]:=r.get ha;let hp:ps[i]?=!y:=by
   rw[<- S.pre,List.getElem?_take_of_lt ()];show h1
  let IP:ps.Nodup:=by rw[<- S.pre];show S.nd.sublist (List.take_sublist _ _)
  show#[u,rv,?_];rcases S.par y (aY hp) with k|k
  .exact .inl #[k,PH IP hp hu k]
  .let#[c,e]:=FW k;show .inr #[.inl k,c,e,?_];let q:=x.cell y c e;rw[Pz IP hp hu (by change scope.names.lookup y≠_;rw[k];decide)] at q;show q
 .exact e0.bI.fresh (ft (x.above y c (aS h)))
 .unfold start;change _=-N
  simp_all
def b48{mg:Str->Option Value}{name qual:Str}{params:Arguments}{body:@&Stmt}{scope:Scope}{dV kV doc pm fc ct oc:Value}{an od:Option Addr}{jE:Array (Option Value)}(lk:K.lookup f=!#[oc,od,.func (PySem.W.fnOf name qual params body scope dV kV doc pm an fc ct),jE])(jX:PySem.W.codeIn K fc qual=true)(S:gf N ps scope)(len:∀vs H Q E,sp vs H Q E->-vs=-ps)(oN:∀ (A:Around) (outer:@&Env) (s:Shared) (H:Hp) (vs:@&V) (Q:VK) (E:XK),m4 k (A.deeper (envOfC qual scope s⁻¹ f fc))->sp vs H Q E ->
   ∃ t,jM (P8 CX P w K mg base N qual scope f fc A outer s H E) body t/\t { nx:=λz H'=>Q .aW H',rt:=Q } (start N vs) H) :
  gK P w K mg base CX (k+1) f (PySem.W.fnOf name qual params body scope dV kV doc pm an fc ct) ps sp:=by
 show#[len,λA outer s H args us vs Q E hr e0 hb r qk=>?_];let hl:=len _ _ _ _ qk;let KX:=e0.mod.lU.keeps λb o e=>(e0.bs b o e).1;let lim:=e0.mod.nolimit.keeps λb o e=>(e0.bs b o e).1;let oJ:∀y∈ps.zip us,scope.names.lookup y.1=!.local\/(scope.names.lookup y.1=!.cell/\((cellsFrom (s⁻¹+1) scope.names []).lookup y.1).isSome=true):=λ⟨n,v⟩ hy=>by
  rcases S.par n (jt hy).1 with q|q
  .exact .inl q
  .exact .inr #[q,de _ _ _ (.inl q)]
 show codeAny_call_function hr.depth (KX _ _ lk) rfl S.co S.gen rfl (QD KX jX) (hb _ _ _ _ ?_);show Cm S.kind oJ λenv he s1 x=>?_;subst he;show#[lim.keeps x.toInCall.keep,codeAny_func ?_];let#[t,ht,hq]:=oN A outer s H vs Q E (hr.deeper _) qk;let I:Inv (P8 CX P w K mg base N qual scope f fc A outer s H E) [] (start N vs) H s1:=Mm S hr.hd e0 hl r x;show aU (ht [] s1 (start N vs) H _ I hq) (λfl s' hs=>?_) λe s' hs=>hs;let fin:∀{cJ:St} {H':Hp} {v:V} {u:Value},Inv (P8 CX P w K mg base N qual scope f fc A outer s H E) [] cJ H' s'->RelV v u->Q v H'->CE outer P w H s Q u s' :=
  λ{cJ H' v u} J rv q=>#[v,H',J.os,J.bare,J.base,J.bI,rv,q]
 cases fl with
 |ret u =>
  let#[v,cJ,H',J,rv,q]:=hs;show fin J rv q
 |next =>
  let#[cJ,H',J,q]:=hs;show fin (v:=V.aW) J rfl q
 |brk =>
  let#[_,_,_,q]:=hs
  simp_all
 |cont =>
  let#[_,_,_,q]:=hs
  simp_all
section
variable{id T:String}{r:@&V->Hp->VK->Prop}
def CI(r:@&V->Hp->VK->Prop)(t:TA):TE:=λσ H Q=>t σ H λvs H1=>r vs H1 Q
def Pd(hc:m5 X (.builtin id) r)(hg:Gl X x)(hm:X.mg x=none)(hv:bootBuiltins x=!.builtin id)(ha:PA X (e::es) t)(hn:x≠"__name__":=by decide)(gX:(x==("__debug__":Str))=false:=by decide)(he:starEach (e::es) X.env=(false,eval e X.env)::starEach es X.env:=by rfl)(gI:(backTo pos (starEach es X.env)).any (·.1)=false:=by rfl):PE X (.Call (.Name x p) (e::es) [] pos) (CI r t):=by
 intro pi s σ H Q I h;show dN (V9 I hg hm hv ?_ hn gX);show PyProof.Rows.callWith_builtin1 (cS (ha pos pi s σ H _ I h) (by rintro us s1 ⟨vs,H1,I1,r1,q1⟩;show hc pi s1 σ H1 vs us Q I1 r1 q1)) he gI
def W8(hc:m5 X (.type T) r)(hg:Gl X x)(hm:X.mg x=none)(hv:bootBuiltins x=!.type T)(ha:PA X (e::es) t)(hn:x≠"__name__":=by decide)(gX:(x==("__debug__":Str))=false:=by decide)(he:starEach (e::es) X.env=(false,eval e X.env)::starEach es X.env:=by rfl)(gI:(backTo pos (starEach es X.env)).any (·.1)=false:=by rfl):PE X (.Call (.Name x p) (e::es) [] pos) (CI r t):=by
 intro pi s σ H Q I h;show dN (V9 I hg hm hv ?_ hn gX);show dg (cS (ha pos pi s σ H _ I h) (by rintro us s1 ⟨vs,H1,I1,r1,q1⟩;show hc pi s1 σ H1 vs us Q I1 r1 q1)) he gI
end
end L2
namespace HT
open PySem PyProof.Rows
section
variable{prog:Program}{w:World}{A:Around}{E:Value->Shared->Prop}{s:Shared}
def bG1{t b:Addr}{vs ws:@&Value}{Q:Value->Shared->Prop}(ht:IsTup s.heap t vs.toArray)(hb:IsTup s.heap b ws.toArray)(hv:vs≠[])(h1:ws=[]->Q (.ref t) s)(h2:ws≠[]->Q (.ref s⁻¹) { s with heap:=s.heap.push { cls:=.type "tuple",data:=.seq (vs++ws).toArray } })(iK:-vs+-ws<=sizeLine):wpAny (model prog w) A (binaryOp .Add (.ref t) (.ref b)) Q E s:=by
 let#[#[cls,dd,data,sl],ho,hc,n,hd]:=id ht;let#[#[yC,qQ,data2,mq],jY,pK,n2,hd2]:=id hb;subst hc hd pK hd2;let e:vs.toArray++ws.toArray=(vs++ws).toArray:=by simp
 by_cases hw:ws=[]
 .exact concat_meets #[_,ho,rfl] #[_,jY,rfl] jN nE jf iS (iC _ _)
   (tuple_addW1 t b vs.toArray ws.toArray n n2 dd qQ sl mq (_/hv) (by simp[hw])) #[ho,jY,h1 hw]
 .refine concat_meets #[_,ho,rfl] #[_,jY,rfl] jN nE jf iS (iC _ _)
   (tuple_addW2 t b vs.toArray ws.toArray n n2 dd qQ sl mq (_/hv) (_/hw) ()) #[ho,jY,?_]
  rw[e];show h2 hw
abbrev dW(n d:Nat):Option Int->Nat
 |none=>d
 |some v=>if v<0 then(v+(n:Int)).toNat else min v.toNat n
def NA(v:Int)(n d:Nat):(if v<0 then max (v+(n:Int)) 0 else min v (n:Int))=((dW n d (!v):Nat):Int):=by
 show(if v<0 then max (v+(n:Int)) 0 else min v (n:Int))=(((if v<0 then(v+(n:Int)).toNat else min v.toNat n):Nat):Int)
 grind
def a25(lo hi:Option Int)(n:Nat):Builtin.Slice.sliceAdjust lo hi 1 (n:Int)=(((dW n 0 lo:Nat):Int),((dW n n hi:Nat):Int)):=by
 show Prod.ext ?_ ?_
 .cases lo with
  |none=>rfl
  |some v=>show NA v n 0
 .cases hi with
  |none=>rfl
  |some v=>show NA v n n
def aX3(i j:Nat):Builtin.Slice.slicePlaces (i:Int) (j:Int) 1=j-i:=by
 unfold Builtin.Slice.slicePlaces;let h1:(1:Int)>0:=by omega
 simp only[h1,if_true,Int.ediv_one];split<;>omega
def M'{v:Value}{o:Option Int}{Q:Option Int->Shared->Prop}(p:IsPart v o)(h:Q o s):wpAny (model prog w) A (Builtin.Slice.slicePartIndex v) Q E s:=by
 cases p with
 |none=>show slicePart_none h
 |int i t=>show slicePart_int h
def U8{sl:Addr}{vl vu:Value}{lo hi:Option Int}{n:Nat}{Q:Int×Int×Nat->Shared->Prop}(hs:s.heap.IsSliceOf sl vl vu .none)(pl:IsPart vl lo)(pu:IsPart vu hi)(h:Q (((dW n 0 lo:Nat):Int),1,dW n n hi-dW n 0 lo) s):wpAny (model prog w) A (Builtin.Slice.sliceApplied (.ref sl) (pure (n:Int))) Q E s:=by
 let#[os,tH,rR,xK]:=id hs;show aa (aa (bG tH xK (x:=vl) rfl (aa (bG tH xK (x:=vu) rfl (aa (bG tH xK (x:=.none) rfl (aj ?_)))))));show aa (slicePart_none ?_);show aa (M' pl (aa (M' pu (aa (aj ?_)))));change wpAny _ _ (match Builtin.Slice.sliceAdjust lo hi 1 (n:Int) with|(lo,hi)=>pure (lo,(1:Int),Builtin.Slice.slicePlaces lo hi 1)) _ _ s;rw[a25 lo hi n];change wpAny _ _ (pure (((dW n 0 lo:Nat):Int),(1:Int),Builtin.Slice.slicePlaces ((dW n 0 lo:Nat):Int) ((dW n n hi:Nat):Int) 1)) _ _ s;rw[aX3];show aj h
def XC(xs:Array Value)(i k:Nat):((List.range k).filterMap λ(m:Nat)=>xs[((i:Int)+(m:Int)*1).toNat]?).toArray=((xs.toList.drop i).take k).toArray:=by
 let e:(λ(m:Nat)=>xs[((i:Int)+(m:Int)*1).toNat]?)=λm=>xs[i+m]?:=by
  funext m
  have:((i:Int)+(m:Int)*1).toNat=i+m:=by omega
  rw[this]
 rw[e];have:=pick_run xs i k;rw[List.filterMap_map] at this;let e2:((λx=>xs[x]?) ∘ λx=>i+x)=λm=>xs[i+m]?:=rfl;rw[e2] at this;rw[this]
def al3{t sl:Addr}{items:Array Value}{vl vu:Value}{lo hi:Option Int}{Q:Value->Shared->Prop}(ht:IsTup s.heap t items)(hs:s.heap.IsSliceOf sl vl vu .none)(pl:IsPart vl lo)(pu:IsPart vu hi)(hw:¬(dW items.size 0 lo=0/\dW items.size items.size hi=items.size))(h:Q (.ref s⁻¹) { s with heap:=s.heap.push { cls:=.type "tuple",data:=.seq ((items.toList.drop (dW items.size 0 lo)).take (dW items.size items.size hi-dW items.size 0 lo)).toArray } })(iK:items.size<=sizeLine):wpAny (model prog w) A (getItem (.ref t) (.ref sl)) Q E s:=by
 let mz:sizeOk (.seq ((items.toList.drop (dW items.size 0 lo)).take (dW items.size items.size hi-dW items.size 0 lo)).toArray):=by
  show((items.toList.drop (dW items.size 0 lo)).take (dW items.size items.size hi-dW items.size 0 lo)).toArray.size<=sizeLine;rw[aR,bu,fu,bH];omega
 let#[os,tH,rR,xK]:=id hs;let Ee:s.TypeIs (.ref sl) "slice":=#[os,tH,rR]
 unfold getItem
 try with_reducible show bj ?_
 show aa (wpAny_sequenceKey ht.typeIs ∅ ?_);show aa (bZ ht.typeIs bT
  (bP bT ht.typeIs entry_tuple_getitem ?_ (args_tuple_getitem _ _)))
 change wpAny _ _ (Builtin.Tuple.tupleItemsOf (.ref t) >>= _) _ _ s;show aa (tupleItemsOf_ ht ?_);show aa (eY Ee ?_);show aa (U8 hs pl pu ?_);let nj:¬((((dW items.size 0 lo:Nat):Int)==0&&(1:Int)==1&&(dW items.size items.size hi-dW items.size 0 lo)==items.size)=true):=by
  grind
 change wpAny _ _ (if(((dW items.size 0 lo:Nat):Int)==0&&(1:Int)==1&&(dW items.size items.size hi-dW items.size 0 lo)==items.size)=true then _ else _) _ _ s;rw[aq nj,XC]
 first
  |show wpAny_bind (wpAny_newObj_type (wpAny_pure #[_,rfl,wpAny_pure h]) mz)
  |show wpAny_bind (wpAny_newObj_type (wpAny_bind (wpAny_pure (wpAny_pure #[_,rfl,wpAny_pure h]))) mz)
  |show wpAny_bind (wpAny_bind (wpAny_newObj_type (wpAny_pure (wpAny_pure #[_,rfl,wpAny_pure h])) mz))
  |show wpAny_bind (wpAny_bind (wpAny_newObj_type (wpAny_pure #[_,rfl,wpAny_pure h]) mz))
end
end HT
namespace L2
open PySem PySem.Spec PyProof.Rows
variable{X:Cx}{e:Expr}{pos:Pos}{n t':Nat}{α:Type}{a:Addr}{pi:@&(Addr×Obj)}{σ:St}{H H':Hp}{s:Shared}{bc:@&Value}{A:Around}{y x:V}{u:Value}{o:Option V}{w:World}{E:Value->Shared->Prop}{kvs:@&(List Key×V)}{P:Program}
noncomputable abbrev TO:=St->Hp->(Option Int->Hp->Prop)->Prop
abbrev PO(X:Cx)(e:Option Expr)(t:TO):Prop :=
 ∀(pi:@&(Addr×Obj)) (s:Shared) (σ:St) (H:Hp) (Q:Option Int->Hp->Prop),Inv X pi σ H s->t σ H Q ->
  wpAny (model X.prog X.w) X.A (evalPart e X.env) (λu s'=>∃o H',Inv X pi σ H' s'/\IsPart u o/\Q o H') X.xe s
def Wf:TO:=λx H Q=>Q none H
def ZA(t:TE):TO:=λσ H Q=>t σ H λx H1=>∃i,x=.int i/\Q (!i) H1
section
variable{te:TE}{lo hi:Option Expr}{tl th:TO}{p2:Pos}
def Og:PO X none Wf:=by
 intro pi s σ H Q I h;show aj #[none,H,I,.none,h]
def Oh(h:PE X e te):PO X (!e) (ZA te):=by
 intro pi s σ H Q I hw;show cS (h pi s σ H _ I hw) λu s1 bx=>?_;let#[x,H1,I1,r1,q1]:=bx;let#[i,rfl,q]:=q1;let#[t,rfl]:=r1;show#[!i,H1,I1,.int i t,q]
abbrev vZ(X:Cx)(r:V->Option Int->Option Int->Hp->VK->Prop):Prop :=
 ∀(pi:@&(Addr×Obj)) (s:Shared) (σ:St) (H:Hp) (x:V) (v vl vu:Value) (lo hi:Option Int) (sl:Addr) (Q:VK),Inv X pi σ H s->RelV x v->s.heap.IsSliceOf sl vl vu .none->IsPart vl lo->IsPart vu hi->r x lo hi H Q ->
  ∃T id,typeLookup (.type T) "__getitem__"=pure (!.builtin id)/\s.TypeIs v T/\wpAny (model X.prog X.w) X.A (getItem v (.ref sl)) (EP X pi σ Q) X.xe s
def Ry(r:V->Option Int->Option Int->Hp->VK->Prop)(te:TE)(tl th:TO):TE:=λσ H Q=>te σ H λx H1=>tl σ H1 λl H2=>th σ H2 λu H3=>r x l u H3 Q
def Pe{r:V->Option Int->Option Int->Hp->VK->Prop}(hr:vZ X r)(he:PE X e te)(hl:PO X lo tl)(hu:PO X hi th):PE X (.Subscript e (.Slice lo hi none p2) pos) (Ry r te tl th):=by
 intro pi s σ H Q I h;show Subscript_ (cS (he pi s σ H _ I h) λv s1 bx=>?_);let#[x,H1,I1,r1,q1]:=bx;show wpAny_Slice (cS (hl pi s1 σ H1 _ I1 q1) ?_);rintro vl s2 ⟨l,H2,I2,pl,q2⟩;show cS (hu pi s2 σ H2 _ I2 q2) λvu s3 bx=>?_;let#[u,H3,I3,pu,q3]:=bx;show aj ?_;let I4:Inv X pi σ H3 { s3 with heap:=s3.heap.push { cls:=.type "slice",data:=.fields (List.toArray [vl,vu,.none]) } }:=I3.kept (t':=s3.toks) λb ob q=>ai _ q;let#[T,id,hT,ht,hg]:=hr pi { s3 with heap:=s3.heap.push { cls:=.type "slice",data:=.fields (List.toArray [vl,vu,.none]) } } σ H3 x v vl vu l u s3⁻¹ Q I4 r1 (Heap.IsSliceOf.new ..) pl pu q3;show tail_any ht hT hg (by rfl)
abbrev qY(xs:@&V)(lo hi:Option Int):@&V:=(xs.drop (HT.dW (-xs) 0 lo)).take (HT.dW (-xs) (-xs) hi-HT.dW (-xs) 0 lo)
def Nf(xs:@&V)(lo hi:Option Int):(qY xs lo hi).length<=-xs:=by
 unfold qY;rw[bu,fu];omega
abbrev VF(K:PySem.W.Frag):V->Option Int->Option Int->Hp->VK->Prop:=λx lo hi H Q=>∃a xs,x=.ref a/\iB K H a xs /\
 ¬(HT.dW (-xs) 0 lo=0/\HT.dW (-xs) (-xs) hi=-xs)/\∀p,H p=none->Q (.ref p) (upd H p (.tup (qY xs lo hi)))
def bK9:vZ X (VF X.K):=by
 intro pi s σ H x v vl vu lo hi sl Q I rx hs pl pu h;let#[a,xs,rfl,hx,hw,q]:=h;cases rx;let#[bc,r,ht,hz]:=I.tuple hx;let hlen:bc.toArray.size=-xs:=by show r.length.symm
 show#["tuple",_,bT.lookup,ht.typeIs,?_];show HT.al3 ht hs pl pu (by rw[hlen];show hw) ?_ (by rw[hlen];show hz);rw[hlen];show#[.ref s⁻¹,_,I.laid (t':=s.toks) (λb ob q=>ai _ q) (ak _) ?_,rfl,q _ (I.bI.fresh (ak _))];show#[aL (Nf xs lo hi) hz,_,(r.drop (HT.dW (-xs) 0 lo)).take (HT.dW (-xs) (-xs) hi-HT.dW (-xs) 0 lo),K1.new _ _]
def b02(K:PySem.W.Frag):R2:=λx y H Q=>∃a b xs ys,x=.ref a/\y=.ref b/\iB K H a xs/\iB K H b ys/\xs≠[]/\-xs+-ys<=sizeLine /\
 (ys=[]->Q (.ref a) H)/\(ys≠[]->∀p,H p=none->Q (.ref p) (upd H p (.tup (xs++ys))))
def Vals.U4{xs:@&V}{us:@&Value}(r:Vals xs us):us=[]↔xs=[]:=by
 cases r with
 |nil=>simp
 |cons _ _=>simp
def bC8:gs X (binaryOp .Add) (b02 X.K):=by
 intro pi s σ H x y v u Q I rx ry h;let#[a,b,xs,ys,rfl,rfl,ha,hb,hx,hz,q1,q2]:=h;cases rx;cases ry;let#[bc,r1,p1,_]:=I.tuple ha;let#[oy,r2,p2,_]:=I.tuple hb;show HT.bG1 p1 p2 (λz=>hx (r1.U4.mp z)) (λz=>#[.ref a,H,I,rfl,q1 (r2.U4.mp z)]) (λz=>?_) (by rw[<- -r1,<- -r2];show hz);show#[.ref s⁻¹,_,I.laid (t':=s.toks) (λb ob q=>ai _ q) (ak _) ?_,rfl,q2 (λw=>z (r2.U4.mpr w)) _ (I.bI.fresh (ak _))];show#[by rw[aM];show hz,_,r1.append r2,K1.new _ _]
end
abbrev kr(n:Nat)(i:Int):Option Nat:=if 0<=i then(if i<n then some i.toNat else none) else if -(n:Int)<=i then some (i+n).toNat else none
abbrev jd{α:Type}(xs:List α)(i:Int):Option α:=(kr (-xs) i).bind λj=>xs[j]?
def NQ{i:Int}{j:Nat}(h:kr n i=!j):seqIndex? i n=!j/\j<n/\-(n:Int)<=i/\i<n:=by
 unfold kr at h;by_cases h0:0<=i
 .rw[au h0] at h;by_cases h1:i<n
  .rw[au h1] at h;let e:=aD h;show#[by rw[seqIndex_of h0 h1,e],by omega,by omega,h1]
  simp_all
 .rw[aq h0] at h;by_cases h1:-(n:Int)<=i
  .rw[au h1] at h;let e:=aD h;show#[by rw[seqIndex_neg () h1,e],by omega,h1,by omega]
  simp_all
def FA{xs:List α}{i:Int}{v:α}(h:jd xs i=!v):∃j,seqIndex? i (-xs)=!j/\xs[j]?=!v/\j< -xs/\-(-xs:Int)<=i/\i< -xs:=by
 unfold jd at h;cases e:kr (-xs) i with
 |none=>simp_all
 |some j =>
  rw[e] at h;let#[h1,h2,h3,h4]:=NQ e;show#[j,h1,h,h2,h3,h4]
def A2{xs:List α}{j:Nat}{v:α}(h:xs[j]?=!v):jd xs (j:Int)=!v:=by
 let hj:=(aA.mp h).1;let e:kr (-xs) (j:Int)=!j:=by
  unfold kr
  simp_all
 unfold jd;rw[e];show h
def Fy(b:Expr):Prop:=∀o i,subscripted b false o i=operate [o,i] (getItem o i)
abbrev uz(X:Cx)(r:R2):Prop :=
 ∀(value slice:Expr) (pi:@&(Addr×Obj)) (s:Shared) (σ:St) (H:Hp) (x y:V) (v u:Value) (Q:VK),Inv X pi σ H s->RelV x v->RelV y u->r x y H Q ->
  subscripted slice false v u=operate [v,u] (getItem v u)->wpAny (model X.prog X.w) X.A (subscriptTail value slice v u) (EP X pi σ Q) X.xe s
abbrev mj(X:Cx)(id:String)(r:V->@&V->Hp->VK->Prop):Prop :=
 ∀(pi:@&(Addr×Obj)) (s:Shared) (σ:St) (H:Hp) (x:V) (xs:@&V) (v:Value) (us:@&Value) (Q:VK),Inv X pi σ H s->RelV x v->Vals xs us->r x xs H Q ->
  wpAny (model X.prog X.w) X.A (call (.builtin id) (v::us)) (EP X pi σ Q) X.xe s
section
variable{a b:Expr}{ta tb:TE}
def Kr{r:R2}(hr:uz X r)(ha:PE X a ta)(hb:PE X b tb)(hs:Fy b):PE X (.Subscript a b pos) (uM r ta tb):=by
 intro pi s σ H Q I h;show Subscript_ (Ff ha hb I h λv u s2 x y H2 I2 rx ry q=>hr a b pi s2 σ H2 x y v u Q I2 rx ry q (hs _ _))
def Vz(K:PySem.W.Frag):R2:=λx y H Q=>∃p xs i v,x=.ref p/\y=.int i/\gU K H p xs/\jd xs i=!v/\Q v H
def VB(K:PySem.W.Frag):R2:=λx y H Q=>∃p xs i v,x=.ref p/\y=.int i/\iB K H p xs/\jd xs i=!v/\Q v H
def VA:R2:=λx y H Q=>∃z i c,x=.str z/\y=.int i/\-z<=sizeLine/\jd z.cps.toList i=!c/\Q (.str #[(List.toArray [c])]) H
def bE3:uz X (Vz X.K):=by
 intro value slice pi s σ H x y v u Q I rx ry h hs;let#[p,xs,i,z,rfl,rfl,hq,he,q]:=h;cases rx;let#[t,rfl]:=ry;let#[bc,r,pl,hz]:=I.list hq;let#[j,h1,h2,h3,h4,h5]:=FA he;let#[w,ew,fY]:=r.get h2;let hl:=-r;let hn:=vV;let fin:EP X pi σ Q w s:=#[z,H,I,fY,q]
 by_cases h0:0<=i
 .let hj:i.toNat=j:=by
   rw[seqIndex_of h0 h5] at h1;show aD h1
  show item_listR pl.isList h0 () (by rw[hj];simpa using ew) fin hs
 .let hj:(i+(bc.toArray.size:Int)).toNat=j:=by
   rw[seqIndex_neg () h4] at h1;rw[aR,<- hl];show aD h1
  show subscriptTail_builtinR pl.isList.typeIs slot_list_getitem.lookup
   (wpAny_getItem_list_neg pl.isList () (by rw[aR]<;>omega) () (by rw[hj];simpa using ew) #[rfl,fin]) hs
def bT7:uz X (VB X.K):=by
 intro value slice pi s σ H x y v u Q I rx ry h hs;let#[p,xs,i,z,rfl,rfl,hq,he,q]:=h;cases rx;let#[t,rfl]:=ry;let#[bc,r,pl,hz]:=I.tuple hq;let#[j,h1,h2,h3,h4,h5]:=FA he;let#[w,ew,fY]:=r.get h2;let hl:=-r;let hn:=vV;let fin:EP X pi σ Q w s:=#[z,H,I,fY,q]
 show subscriptTail_builtinR pl.typeIs slot_tuple_getitem.lookup
  (getItem_tuple pl () () (by rw[aR,<- hl];show h1) (_/ew) #[rfl,fin]) hs
def bT8:uz X VA:=by
 intro value slice pi s σ H x y v u Q I rx ry h hs;let#[z,i,c,rfl,rfl,hz,he,q]:=h;let#[t,rfl]:=rx;let#[t',rfl]:=ry;let#[j,h1,h2,h3,h4,h5]:=FA he;let hl:-z.cps.toList=-z:=by rfl
 rw[hl] at h1 h4 h5;let hn:=vV;show tail_any (iN s z t) slot_str_getitem.lookup (getItem_str (by
  grind) (by rw [h1];simpa using h2) #[.str #[(List.toArray [c])],H,I.tok _,#[_,rfl],q]) hs
def aY8(bc:@&Value)(n j:Nat)(u:Value):Obj.mapSeq (·.setIfInBounds j u) { cls:=.type "list",data:=.seq bc.toArray n }={ cls:=.type "list",data:=.seq (bc.set j u).toArray n }:=by
 simp[Obj.mapSeq]
def Inv.lst{pi:@&(Addr×Obj)}{σ:St}{H:Hp}{s:Shared}{p:Addr}{xs:@&V}(I:Inv X pi σ H s)(h:H p=!.lst xs) :
  ∃(bc:@&Value) (n:Nat),Vals xs bc/\s.heap.get? p=some { cls:=.type "list",data:=.seq bc.toArray n }/\-xs<=sizeLine:=by
 let#[z,bc,n,r,e]:=I.bI p _ h;show#[bc,n,r,e,z]
def Inv.bS2{p:Addr}{xs ys:@&V}{its':@&Value}{n':Nat}{f:Obj->Obj}(I:Inv X pi σ H s)(h:H p=!.lst xs)(ho:s.heap.get? p=some { cls:=.type "list",data:=.seq bc.toArray n })(hf:f { cls:=.type "list",data:=.seq bc.toArray n }={ cls:=.type "list",data:=.seq its'.toArray n' })(r:Vals ys its')(hz:-ys<=sizeLine)(t:Nat) :
  Inv X pi σ (upd H p (.lst ys)) { s with heap:=s.heap.update p f,toks:=t }:=by
 let e:(s.heap.update p f).get? p=some { cls:=.type "list",data:=.seq its'.toArray n' }:=by
  rw[aT f ho (by rw[hf]<;>rfl),hf]
 show I.write (by rw[h];trivial) (.inl rfl) (λb u hb q=>(cP _ _ (cT hb)).trans q) #[_,e] ?_;show#[hz,its',n',r,e]
abbrev Zi:V->V->V->Hp->(Hp->Prop)->Prop:=λo i v H Q=>∃p xs k j,o=.ref p/\i=.int k/\H p=!.lst xs/\kr (-xs) k=!j/\Q (upd H p (.lst (xs.set j v)))
def set_list:EY X Zi:=by
 intro pi s σ H o i v ov iv u Q I ro ri rv h;let#[p,xs,k,j,rfl,rfl,hp,hj,q]:=h;cases ro;let#[t,rfl]:=ri;let#[bc,n,r,ho,hz]:=I.lst hp;let#[h1,h2,h3,h4]:=NQ hj;let hl:=-r;let hn:=vV;let I':Inv X pi σ (upd H p (.lst (xs.set j v))) { s with heap:=s.heap.update p (Obj.mapSeq (·.setIfInBounds j u)) } :=
  I.bS2 hp ho (aY8 bc n j u) (r.set rv j) (by rw[bX];show hz) s.toks
 by_cases h0:0<=k
 .let hk:k.toNat=j:=by
   rw[seqIndex_of h0 h4] at h1;show aD h1
  show PySem.W.ki_setAt ho h0 () (by rw[aR,<- hl];show h4) (by rw[hk];show#[_,I',q])
 .let hk:(k+(bc.toArray.size:Int)).toNat=j:=by
   rw[seqIndex_neg () h3] at h1;rw[aR,<- hl];show aD h1
  show PySem.W.ki_setBack ho () (by rw[aR,<- hl];show h3) () (by rw[hk];show#[_,I',q])
def Nt(lo hi:Option Int)(n:Nat):(sliceBounds lo hi none n).1=((HT.dW n 0 lo:Nat):Int)/\(sliceBounds lo hi none n).2.1=((HT.dW n n hi:Nat):Int)/\(sliceBounds lo hi none n).2.2=1:=by
 show#[?_,?_,rfl]
 .cases lo with
  |none=>rfl
  |some i =>
   simp only[sliceBounds,HT.dW,Option.getD_none,show(1:Int)>0 by decide,if_true]
   grind
 .cases hi with
  |none=>rfl
  |some i =>
   simp only[sliceBounds,HT.dW,Option.getD_none,show(1:Int)>0 by decide,if_true]
   grind
def aA7(bc:@&Value)(lo hi:Option Int):slicePick bc.toArray lo hi none=((bc.drop (HT.dW (-bc) 0 lo)).take (HT.dW (-bc) (-bc) hi-HT.dW (-bc) 0 lo)).toArray:=by
 let#[h1,h2,h3]:=Nt lo hi bc.toArray.size;unfold slicePick;rw[h1,h2,h3];simp only[sliceRange_one,pick_run,List.size_toArray]<;>rfl
abbrev VE(K:PySem.W.Frag):V->Option Int->Option Int->Hp->VK->Prop:=λx lo hi H Q=>∃a xs,x=.ref a/\gU K H a xs/\∀p,H p=none->Q (.ref p) (upd H p (.lst (qY xs lo hi)))
def VW:vZ X (VE X.K):=by
 intro pi s σ H x v vl vu lo hi sl Q I rx hs pl pu h;let#[a,xs,rfl,hx,q]:=h;cases rx;let#[bc,r,ht,hz]:=I.list hx;let hlen:=-r;show#["list",_,slot_list_getitem.lookup,ht.isList.typeIs,?_];show wpAny_getItem_list_slice ht.isList hs pl pu .none #[_] ?_ (by grind);rw[aA7,<- hlen];show#[.ref s⁻¹,_,I.laid (t':=s.toks) (λb ob q=>ai _ q) (ak _) ?_,rfl,q _ (I.bI.fresh (ak _))];show#[aL (Nf xs lo hi) hz,_,0,(r.drop (HT.dW (-xs) 0 lo)).take (HT.dW (-xs) (-xs) hi-HT.dW (-xs) 0 lo),ay _ rfl]
abbrev O0:V->Bool
 |.aW=>true
 |.bl _=>true
 |.int _=>true
 |.str _=>true
 |_=>false
abbrev mF:V->V->Bool
 |.aW,.aW=>true
 |.bl a,.bl b=>a==b
 |.bl a,.int b=>(if a then 1 else 0)==b
 |.int a,.bl b=>a==(if b then 1 else 0)
 |.int a,.int b=>a==b
 |.str a,.str b=>a==b
 |_,_=>false
def ZW{v:Value}(ry:RelV y u)(rx:RelV x v)(fy:O0 y=true)(fx:O0 x=true):SeqAt.EqAt A s u v (mF y x):=by
 cases y with
 |aW =>
  cases ry;cases x with
  |aW=>cases rx;show SeqAt.EqAt.same _
  |bl b=>cases rx;show SeqAt.EqAt.none_bool b
  |int b=>let#[t,rfl]:=rx;show SeqAt.EqAt.none_int b t
  |str b=>let#[t,rfl]:=rx;show SeqAt.EqAt.none_str b t
  |_=>show absurd (show false=true from fx) Bool.false_ne_true
 |bl a =>
  cases ry;cases x with
  |aW=>cases rx;show SeqAt.EqAt.bool_none a
  |bl b=>cases rx;show SeqAt.EqAt.bool_bool a b
  |int b=>let#[t,rfl]:=rx;show SeqAt.EqAt.bool_int a b t
  |str b=>let#[t,rfl]:=rx;show SeqAt.EqAt.bool_str a b t
  |_=>show absurd (show false=true from fx) Bool.false_ne_true
 |int a =>
  let#[t',rfl]:=ry;cases x with
  |aW=>cases rx;show SeqAt.EqAt.int_none a t'
  |bl b=>cases rx;show SeqAt.EqAt.int_bool a t' b
  |int b=>let#[t,rfl]:=rx;show SeqAt.EqAt.int_int a t' b t
  |str b=>let#[t,rfl]:=rx;show SeqAt.EqAt.int_str a t' b t
  |_=>show absurd (show false=true from fx) Bool.false_ne_true
 |str a =>
  let#[t',rfl]:=ry;cases x with
  |aW=>cases rx;show SeqAt.EqAt.str_none a t'
  |bl b=>cases rx;show SeqAt.EqAt.str_bool a t' b
  |int b=>let#[t,rfl]:=rx;show SeqAt.EqAt.str_int a t' b t
  |str b=>let#[t,rfl]:=rx;show SeqAt.EqAt.str_str a t' b t
  |_=>show absurd (show false=true from fx) Bool.false_ne_true
 |_=>show absurd (show false=true from fy) bE
def vq(x:V)(u:Value):Bool:=match u with
 |.none=>mF .aW x
 |.bool b=>mF (.bl b) x
 |.int i _=>mF (.int i) x
 |.str z _=>mF (.str z) x
 |_=>false
def Hh(r:RelV y u)(f:O0 y=true):vq x u=mF y x:=by
 cases y with
 |aW=>cases r;rfl
 |bl b=>cases r;rfl
 |int i=>let#[t,rfl]:=r;rfl
 |str z=>let#[t,rfl]:=r;rfl
 |_=>show absurd (show false=true from f) bE
def Ga{A:Around}{s:Shared}{x:V}{v:Value}(rx:RelV x v)(fx:O0 x=true):∀{xs:@&V} {us:@&Value},Vals xs us->xs.all O0=true->∀u∈us,SeqAt.EqAt A s u v (vq x u)
 |_,_,.nil,_=>λu hu=>by cases hu
 |y::xs,u::us,.cons r t,f=>λu' hu=>by
  rw[kB,bC] at f;rcases aB.mp hu with rfl|hu
  .rw[Hh r f.1];show ZW r rx f.1 fx
  .exact Ga rx fx t f.2 u' hu
def aM3:m5 X (.builtin "len") (λxs H Q=>∃p ys,xs=[.ref p]/\(gU X.K H p ys\/iB X.K H p ys)/\Q (.int (-ys)) H):=by
 intro pi s σ H xs us Q I r h;let#[p,ys,rfl,hq,q]:=h;let#[u,rfl,rx]:=vals1 r;cases rx;let hn:=vV;rcases hq with hq|hq
 .let#[bc,r',pl,hz]:=I.list hq;let hlen:=-r';show Calls.call_len_list pl.isList (by simp only[List.size_toArray]<;>omega) #[.int (-ys),H,I.tok _,#[s.toks+1,by rw[aR,hlen]],q]
 .let#[bc,r',pl,hz]:=I.tuple hq;let hlen:=-r';show len_tuple pl (by simp only[List.size_toArray]<;>omega) #[.int (-ys),H,I.tok _,#[s.toks+1,by rw[aR,hlen]],q]
def aM2:m5 X (.builtin "len") (λxs H Q=>∃z,xs=[.str z]/\-z<=sizeLine/\Q (.int (-z)) H):=by
 intro pi s σ H xs us Q I r h;let#[z,rfl,hz,q]:=h;let#[u,rfl,t,rfl]:=vals1 r;let hn:=vV;show len_str () #[.int (-z),H,I.tok _,#[_,rfl],q]
def aM1:m5 X (.type "list") (λxs H Q=>∃p ys,xs=[.ref p]/\(gU X.K H p ys\/iB X.K H p ys)/\∀l,H l=none->Q (.ref l) (upd H l (.lst ys))):=by
 intro pi s σ H xs us Q I r h;let#[p,ys,rfl,hq,q]:=h;let#[u,rfl,rx]:=vals1 r;cases rx;let fin:∀(bc:@&Value),Vals ys bc->-ys<=sizeLine->∀(h':Heap) (c':Nat),(∀b o',s.heap.get? b=!o'->h'.get? b=!o') ->
   h'.get? s⁻¹=some { cls:=.type "list",dict:=none,data:=.seq bc.toArray c',slots:=(List.toArray []) }->EP X pi σ Q (.ref s⁻¹) { s with heap:=h' }:=λbc r' hz h' c' kp e =>
  #[.ref s⁻¹,_,I.laid (t':=s.toks) kp (ak _) (show l0 X.prog X.w _ h' _ (.lst ys) from#[hz,bc,c',r',e]),rfl,q _ (I.bI.fresh (ak _))]
 rcases hq with hq|hq
 .let#[bc,r',pl,hz]:=I.list hq;let hlen:=-r';let#[o,ho,hc,n,hd]:=pl.isList;show call_list_seq p (.inl rfl) ho hc hd (λh' c' kp e=>fin bc r' hz h' c' kp e) (by simp_all)
 .let#[bc,r',pl,hz]:=I.tuple hq;let hlen:=-r';let#[o,ho,hc,n,hd]:=pl;show call_list_seq p (.inr rfl) ho hc hd (λh' c' kp e=>fin bc r' hz h' c' kp e) (by simp_all)
def aB2:m5 X (.type "tuple") (λxs H Q=>∃p ys,xs=[.ref p]/\((gU X.K H p ys/\∀l,H l=none->Q (.ref l) (upd H l (.tup ys)))\/(iB X.K H p ys/\Q (.ref p) H))):=by
 intro pi s σ H xs us Q I r h;let#[p,ys,rfl,h]:=h;let#[u,rfl,rx]:=vals1 r;cases rx;rcases h with⟨hq,q⟩|⟨hq,q⟩
 .let#[bc,r',pl,hz]:=I.list hq;let hlen:=-r';show call_tuple_list pl.isList (λh' kp=>?_) (by simp_all);let I1:=I.kept (t':=s.toks) kp;let I2:Inv X pi σ (upd H h'.objs.size (.tup ys)) { s with heap:=h'.push { cls:=.type "tuple",data:=.seq bc.toArray } } :=
   I1.laid (t':=s.toks) (λb o e=>ai _ e) (ak _) (show l0 X.prog X.w _ _ _ (.tup ys) from#[hz,bc,r',K1.new _ _])
  show#[.ref h'.objs.size,_,I2,rfl,q _ (I1.bI.fresh (ak _))]
 .let#[bc,r',pl,hz]:=I.tuple hq;show call_tuple_same pl #[.ref p,H,I,rfl,q]
def qa(K:PySem.W.Frag)(T:String)(x:V)(H:Hp):Prop:=match x with
 |.str _=>T="str"
 |.int _=>T="int"
 |.ref p=>(T="list"/\∃xs,gU K H p xs)\/(T="tuple"/\∃o,K.lookup p=!o/\o.cls=.type "tuple"/\o.dict=none) \/
   (T="dict"/\((∃kvs,H p=!.dK kvs)\/∃kvs,H p=!.dT kvs))\/(T="set"/\∃S n,H p=!.set S n)
 |_=>False
def Qj{T:String}{v:Value}(I:Inv X pi σ H s)(r:RelV x v)(ty:qa X.K T x H) :
  s.TypeIs v T/\∀a,v=.ref a->∃ob,s.heap.get? a=!ob/\ob.dict=none:=by
 cases x with
 |str z =>
  let#[t,rfl]:=r;cases (show T="str" from ty);show#[iN s z t,λy e=>nomatch e]
 |int i =>
  let#[t,rfl]:=r;cases (show T="int" from ty);show#[nS s i t,λy e=>nomatch e]
 |ref p =>
  cases r;rcases ty with⟨rfl,xs,hq⟩|⟨rfl,o,hk,hc,hd⟩|⟨rfl,hk⟩|⟨rfl,S,n,hk⟩
  .let#[bc,_,pl,_]:=I.list hq;show#[pl.isList.typeIs,λa e=>?_];cases e;let#[o,n,e,c,hd,_]:=pl;show#[o,e,hd]
  .refine#[#[o,I.gC p o hk,hc],λa e=>?_];cases e;show#[o,I.gC _ o hk,hd]
  .let z:∃o,s.heap.get? p=!o/\o.ExactDict:=by
    rcases hk with⟨kvs,hk⟩|⟨kvs,hk⟩
    .let#[_,_,_,_,o,_,_,e,ex,_]:=I.bI p _ hk;show#[o,e,ex]
    .let#[_,_,_,_,o,_,_,e,ex,_]:=I.bI p _ hk;show#[o,e,ex]
   let#[o,e,ex]:=z;show#[#[o,e,ex.1],λa e2=>?_];cases e2;show#[o,e,ex.2.1]
  .let#[o,_,_,_,e,ex,_]:=I.bI p _ hk;show#[#[o,e,ex.1],λa e2=>?_];cases e2;show#[o,e,ex.2.1]
 |_=>show False.elim ty
def b88(K:PySem.W.Frag)(T:String)(r:V->@&V->Hp->VK->Prop)(to:TE):TE:=λσ H Q=>to σ H λx H1=>qa K T x H1/\r x [] H1 Q
def RB(K:PySem.W.Frag)(T:String)(r:V->@&V->Hp->VK->Prop)(to:TE)(t:TA):TE:=λσ H Q=>to σ H λx H1=>qa K T x H1/\t σ H1 λxs H2=>r x xs H2 Q
variable{o:Expr}{es:@&Expr}{to:TE}{t:TA}{name:Str}{apos cB:Pos}{T id:String}{r:V->@&V->Hp->VK->Prop}
def bP4(pa:PlainAttrs T)(slot:Slot T name id)(tD:typeOf (.builtin id)=pure (.type "method_descriptor"))(hm:mj X id r)(ho:PE X o to)(gT:attributeBase o name X.env (eval o X.env)=eval o X.env:=by rfl)(gS:(apos.endLine==cB.line)=true:=by rfl):PE X (.Call (.Attribute o name apos) [] [] cB) (b88 X.K T r to):=by
 intro pi s σ H Q I h;show wpAny_Call_method0_late gT gS (cS (ho pi s σ H _ I h) λv s1 bx=>?_);let#[x,H1,I1,r1,ty,q1]:=bx;let#[h1,h2]:=Qj I1 r1 ty;show#[T,id,pa,slot,tD,h1,h2,gA rfl (PySem.evalArgs_none (hm pi s1 σ H1 x [] v [] Q I1 r1 .nil q1))]
def b08(pa:PlainAttrs T)(slot:Slot T name id)(tD:typeOf (.builtin id)=pure (.type "method_descriptor"))(hm:mj X id r)(ho:PE X o to)(ha:PA X (e::es) t)(gT:attributeBase o name X.env (eval o X.env)=eval o X.env:=by rfl)(lY:((backTo cB (starEach (e :: es) X.env)).all (λx=>~~~x.1) && (backToKw cB (keywordEach [] X.env)).all (λx=>x.1.isSome)
   && decide ((e :: es).length + ([]:@&Keyword).length + (if ([]:@&Keyword).isEmpty then 0 else 1) < 30))=true:=by rfl)(gS:(apos.endLine==cB.line)=true:=by rfl)(hs:starEach (e::es) X.env=(false,eval e X.env)::starEach es X.env:=by rfl)(fM:(backTo cB (starEach es X.env)).any (·.1)=false:=by rfl) :
  PE X (.Call (.Attribute o name apos) (e::es) [] cB) (RB X.K T r to t):=by
 intro pi s σ H Q I h;show wpAny_Call_method_late gT lY gS rfl (cS (ho pi s σ H _ I h) λv s1 bx=>?_);let#[x,H1,I1,r1,ty,q1]:=bx;let#[h1,h2]:=Qj I1 r1 ty;show#[T,id,pa,slot,tD,h1,h2,?_];let hA:=ha cB pi s1 σ H1 _ I1 q1;rw[hs] at hA ⊢;show gA (by show(false||(backTo cB (starEach es X.env)).any (·.1))=false;rw[fM]<;>rfl) (eE ?_);show cS hA (by rintro us s2 ⟨vs,H2,I2,r2,q2⟩;show hm pi s2 σ H2 x vs v us Q I2 r1 r2 q2)
end
abbrev HZ(X:Cx)(id:String)(r:V->@&V->Hp->VK->Prop):Prop :=
 ∀(pi:@&(Addr×Obj)) (s:Shared) (σ:St) (H:Hp) (x:V) (xs:@&V) (v:Value) (us:@&Value) (Q:VK),Inv X pi σ H s->RelV x v->Vals xs us->r x xs H Q ->
  wpAny (model X.prog X.w) X.A (call (.builtin id) (v::us)) (EP X pi σ Q) X.xe s
def Vals.one{us:@&Value}(h:Vals [x] us):∃u,us=[u]/\RelV x u:=by
 cases h with
 |cons r h =>
  cases h;show#[_,rfl,r]
def Vals.eraseIdx:∀{xs:@&V} {us:@&Value} (i:Nat),Vals xs us->Vals (xs.eraseIdx i) (us.eraseIdx i)
 |_,_,_,.nil=>.nil
 |_,_,0,.cons _ t=>t
 |_,_,i+1,.cons r t=>.cons r (Vals.eraseIdx i t)
def Vals.rep{xs:@&V}{us:@&Value}(h:Vals xs us):∀k:Nat,Vals (List.replicate k xs).flatten (List.replicate k us).flatten
 |0=>.nil
 |k+1=>by
  show Vals.append h (Vals.rep h k)
def Mp{α:Type}:∀(l:List α) (i:Nat),(l.eraseIdx i).length<=-l
 |[],_=>ak _
 |_::_,0=>jP _
 |_::r,i+1=>Nat.succ_le_succ (Mp r i)
def foldl_rep(bc:@&Value):∀(k:Nat) (acc:@&Value),
  List.foldl (λx1 x2=>x1++x2) acc.toArray (List.replicate k bc.toArray)=(acc++(List.replicate k bc).flatten).toArray
 |0,acc=>by simp
 |k+1,acc=>by
  let e:acc.toArray++bc.toArray=(acc++bc).toArray:=by simp
  let e2:(acc++bc)++(List.replicate k bc).flatten=acc++(List.replicate (k+1) bc).flatten:=by
   rw[gM,List.flatten_cons,iw]
  rw[<- e2,<- foldl_rep bc k (acc++bc),<- e,gM,gH]
section
variable{l:Addr}{xs ys:@&V}
def Inv.Fo{its':@&Value}{f:Array Value->Array Value}{t':Nat}(I:Inv X pi σ H s)(hH:H l=!.lst xs)(e:s.heap.get? l=some { cls:=.type "list",data:=.seq bc.toArray n })(hf:f bc.toArray=its'.toArray)(hv:Vals ys its')(hz:-ys<=sizeLine) :
  Inv X pi σ (upd H l (.lst ys)) { s with heap:=s.heap.update l (Obj.mapSeq f),toks:=t' }:=by
 let q:=PySem.IsL.update e f;rw[hf] at q;show I.write (by rw[hH];show trivial) (.inl rfl) (λb' u hb hu=>(cP s.heap (Obj.mapSeq f) (cT hb)).trans hu) #[_,q] ?_;show#[hz,its',_,hv,q]
def Inv.LF{t':Nat}(I:Inv X pi σ H s)(hv:Vals ys bc)(hz:-ys<=sizeLine) :
  Inv X pi σ (upd H s⁻¹ (.lst ys)) { s with heap:=s.heap.push { cls:=.type "list",data:=.seq bc.toArray },toks:=t' } :=
 I.laid (λx x q=>ai _ q) (ak _) #[hz,bc,0,hv,ay _ rfl]
def Inv.fresh(I:Inv X pi σ H s):H s⁻¹=none:=I.bI.fresh (ak _)
def Inv.vE(I:Inv X pi σ H s)(hH:H l=!.lst xs):-xs<=sizeLine/\∃(bc:@&Value) (n:Nat),Vals xs bc/\-xs=-bc/\s.heap.get? l=some { cls:=.type "list",data:=.seq bc.toArray n }:=by
 let#[z,bc,n,r,e]:=I.bI l _ hH;show#[z,bc,n,r,(-r),e]
def Xq(h:n<=sizeLine):Builtin.List.listTooLong n=false:=by
 unfold Builtin.List.listTooLong
 simp_all
end
abbrev bA5:V->@&V->Hp->VK->Prop:=λx vs H Q=>∃l xs y,x=.ref l/\vs=[y]/\H l=!.lst xs/\-xs<sizeLine/\Q .aW (upd H l (.lst (xs++[y])))
def a95:HZ X "list.append" bA5:=by
 intro pi s σ H x vs v us Q I rx rv h;let#[l,xs,y,rfl,rfl,hH,hz,q]:=h;cases rx;let#[u,rfl,ru]:=rv.one;let#[z,bc,n,r,hl,e]:=I.vE hH;show cO F.slot_list_append #[_,e,rfl] F.entry_list_append (F.args_list_append_2 _ _) (PySem.list_append l bc.toArray n u (by grind)) #[e,?_];show#[.aW,_,I.Fo (its':=bc++[u]) hH e #[_] (r.append (.cons ru .nil)) ?_,rfl,q]
 grind
abbrev bN9:V->@&V->Hp->VK->Prop:=λx vs H Q=>∃l xs i k y,x=.ref l/\vs=[.int i]/\H l=!.lst xs/\-(2 ^ 63)<=i/\i<2 ^ 63/\seqIndex? i (-xs)=!k/\xs[k]?=!y/\Q y (upd H l (.lst (xs.eraseIdx k)))
def Xl:HZ X "list.pop" bN9:=by
 intro pi s σ H x vs v us Q I rx rv h;let#[l,xs,i,k,y,rfl,rfl,hH,h1,h2,hk,hy,q]:=h;cases rx;let#[u,rfl,ru]:=rv.one;let#[t,rfl]:=ru;let#[z,bc,n,r,hl,e]:=I.vE hH;let#[w,hw,fY]:=r.get hy;show cO F.slot_list_pop #[_,e,rfl] F.entry_list_pop (F.args_list_pop_2 _ _)
  (MeetsSeq.list_pop_at l bc.toArray n i t k w (Co h1 h2) (by rw[aR,<- hl];show hk) (by simp_all) (by rw[aR];omega)) #[e,?_]
 show#[y,_,I.Fo (its':=bc.eraseIdx k) hH e ?_ (r.eraseIdx k) ?_,fY,q]
 .simp
 .have:=Mp xs k;omega
def Vy:R2:=λx y H Q=>∃l b xs zs,x=.ref l/\y=.ref b/\H l=!.lst xs/\H b=!.lst zs/\-xs+-zs<=sizeLine/\∀p,H p=none->Q (.ref p) (upd H p (.lst (xs++zs)))
def bQ6:gs X (binaryOp .Add) Vy:=by
 intro pi s σ H x y v u Q I rx ry h;let#[l,b,xs,zs,rfl,rfl,hH,hB,hz,q]:=h;cases rx;cases ry;let#[z,bc,n,r,hl,e]:=I.vE hH;let#[z2,oy,n2,r2,hl2,e2]:=I.vE hB;show PySem.P.add_list e e2 ?_ (by rw[aR,aR];omega);let ea:bc.toArray++oy.toArray=(bc++oy).toArray:=by simp
 rw[ea];show#[.ref _,_,I.LF (t':=s.toks) (r.append r2) (by rw[aM];omega),rfl,q _ I.fresh]
def VC:R2:=λx y H Q=>∃l k xs,x=.ref l/\y=.int k/\H l=!.lst xs/\-(2 ^ 63)<=k/\k<2 ^ 63/\-xs*k.toNat<=sizeLine /\
 ∀p,H p=none->Q (.ref p) (upd H p (.lst (List.replicate k.toNat xs).flatten))
def len_rep(xs:List α)(k:Nat):(List.replicate k xs).flatten.length=k*-xs:=by
 simp
def bQ1:gs X (binaryOp .Mult) VC:=by
 intro pi s σ H x y v u Q I rx ry h;let#[l,k,xs,rfl,rfl,hH,h1,h2,hz,q]:=h;cases rx;let#[t,rfl]:=ry;let#[z,bc,n,r,hl,e]:=I.vE hH;let hlen:bc.toArray.size*k.toNat<=sizeLine:=by rw[aR,<- hl];show hz
 let DY:¬bc.toArray.size*k.toNat>(2 ^ 63-1) / 8:=by
  have:(sizeLine:Nat)<=(2 ^ 63-1) / 8:=by decide
  omega
 let DS:¬(~~~Builtin.List.listFitsIndex k)=true:=by
  rw[Co h1 h2];show bE
 let xy:¬Builtin.List.listTooLong (bc.toArray.size*k.toNat)=true:=by
  rw[Xq hlen];show bE
 let DD:List.foldl (λx1 x2=>x1++x2) (List.toArray []) (List.replicate (if bc.toArray.isEmpty=true then 0 else k.toNat) bc.toArray)=(List.replicate k.toNat bc).flatten.toArray:=by
  let f0:∀m:Nat,List.foldl (λx1 x2=>x1++x2) (List.toArray []) (List.replicate m bc.toArray)=(List.replicate m bc).flatten.toArray:=λm=>by
   have:=foldl_rep bc m []
   simp_all
  rw[f0];cases bc with
  |nil=>simp
  |cons a r'=>rfl
 show Ih ∅ #[_,e,rfl] (λs'=>nS s' k t) noFill_list_mul F.fills_int_mul kC repeat_list F.slot_int_index.lookup
  (cO kC (nS s k t) F.entry_int_rmul (F.args_int_rmul_2 _ _) (int___rmul___int_list k t l bc.toArray n)
   #[e,rfl,#[_,e,rfl],cO F.slot_list_mul #[_,e,rfl] F.entry_list_mul (F.args_list_mul_2 _ _) (AutoListH.list___mul___list_int_3 l bc.toArray n k t DS DY xy) #[e,?_]])
 rw[DD];show#[.ref _,_,I.LF (t':=s.toks) (r.rep k.toNat) (by rw[len_rep,lJ];show hz),rfl,q _ I.fresh]
section
variable{κ:Type}[DecidableEq κ]
abbrev O8(kvs:@&(κ×V))(k:κ):Option V:=(kvs.find? λkv=>decide (kv.1=k)).map (·.2)
abbrev putK(kvs:@&(κ×V))(k:κ)(v:V):@&(κ×V) :=
 if(kvs.any λkv=>decide (kv.1=k))=true then kvs.map (λkv=>if kv.1=k then(kv.1,v) else kv) else kvs++[(k,v)]
def Gj{p:κ×V}{r:@&(κ×V)}{k:κ}(e:p.1=k):O8 (p::r) k=!p.2:=by simp[O8,List.find?_cons,e]
def Gi{p:κ×V}{r:@&(κ×V)}{k:κ}(e:¬p.1=k):O8 (p::r) k=O8 r k:=by simp[O8,List.find?_cons,e]
def Pu(k:κ):∀kvs:@&(κ×V),(kvs.any λkv=>decide (kv.1=k))=(O8 kvs k).isSome
 |[]=>rfl
 |p::r=>by
  rw[eT];by_cases e:p.1=k
  .simp only[Gj e,decide_eq_true e,Bool.true_or,Option.isSome_some]
  .rw[Gi e,az e,sI];show Pu k r
def Z4(kvs:@&(κ×V))(k:κ)(v:V):(putK kvs k v).length<=-kvs+1:=by
 unfold putK;split
 .simp
 simp
def C4.S5{u:Option Value}(r:C4 o u):o.isSome=u.isSome:=by
 cases o with
 |none=>cases u with
  |none=>rfl
  |some _=>show(show False from r).elim
 |some _=>cases u with
  |none=>show(show False from r).elim
  |some _=>rfl
def KV.val{kvs:@&(κ×V)}{vs:@&(κ×Value)}(r:KV kvs vs)(k:κ):C4 (O8 kvs k) (valueAt vs k):=by
 induction r with
 |nil=>show True.intro
 |@cons p q ps qs h t ih =>
  let#[h1,h2]:=h;by_cases e:p.1=k
  .let e':=h1.symm.trans e;let b:valueAt (q::qs) k=!q.2:=by simp[valueAt,List.find?_cons,e']
   rw[Gj e,b];show h2
  .let e':¬q.1=k:=λz=>e (h1.trans z);let b:valueAt (q::qs) k=valueAt qs k:=by simp[valueAt,List.find?_cons,e']
   rw[Gi e,b];show ih
def KV.any{kvs:@&(κ×V)}{vs:@&(κ×Value)}(r:KV kvs vs)(k:κ):(kvs.any λkv=>decide (kv.1=k))=vs.any λkv=>decide (kv.1=k):=by
 induction r with
 |nil=>rfl
 |cons h t ih=>simp_all
def KV.Ft{kvs:@&(κ×V)}{vs:@&(κ×Value)}(r:KV kvs vs)(k:κ)(ry:RelV y u) :
  KV (kvs.map λkv=>if kv.1=k then(kv.1,y) else kv) (vs.map λkv=>if kv.1=k then(kv.1,u) else kv):=by
 induction r with
 |nil=>show .nil
 |@cons p q ps qs h t ih =>
  rw[aQ,aQ];show .cons ?_ ih;let#[h1,h2]:=h;by_cases e:p.1=k
  .rw[au e,au (h1.symm.trans e)];show#[h1,ry]
  .rw[aq e,aq (λz=>e (h1.trans z))];show#[h1,h2]
def KV.put{kvs:@&(κ×V)}{vs:@&(κ×Value)}(r:KV kvs vs)(k:κ)(ry:RelV y u):KV (putK kvs k y) (stored vs k u):=by
 unfold putK stored;rw[r.any k];by_cases e:(vs.any λkv=>decide (kv.1=k))=true
 .rw[au e,au e];show r.Ft k ry
 .rw[aq e,aq e];show Paired.snoc r #[rfl,ry]
def KV.length{kvs:@&(κ×V)}{vs:@&(κ×Value)}(r:KV kvs vs):-kvs=-vs:=nG r
end
def vP{k:Key}(r:RelV (kV k) u):(s9 P w).is k u=true:=by
 cases k with
 |inl i=>let#[t,e]:=(show ∃t,u=Value.int i t from r);subst e;show aO2 P w i t
 |inr x=>let#[t,e]:=(show ∃t,u=Value.str x t from r);subst e;show aO1 P w x t
def Mn{P:Program}{w:World}:∀{ks:@&Key} {us:@&Value},Vals (ks.map kV) us->ItemsAre (s9 P w) ks us
 |[],_,r=>by cases r;show .nil
 |k::ks,_,r=>by
  cases r with
  |cons h t=>show .cons (vP h) (Mn t)
noncomputable abbrev KT(H:Hp):@&(List Key×V)->@&(List Key×Addr×Value)->Prop:=Paired λp q=>p.1=q.1/\H q.2.1=!.tup (p.1.map kV)/\RelV p.2 q.2.2
def KT.val{xs:@&(List Key×Addr×Value)}(r:KT H kvs xs)(k:@&Key):C4 (O8 kvs k) ((atKey xs k).map (·.2)):=by
 induction r with
 |nil=>show True.intro
 |@cons p q ps qs h t ih =>
  let#[h1,_,h2]:=h;by_cases e:p.1=k
  .let e':=h1.symm.trans e;let b:atKey (q::qs) k=!q.2:=by simp[atKey,List.find?_cons,e']
   rw[Gj e,b];show h2
  .let e':¬q.1=k:=λz=>e (h1.trans z);let b:atKey (q::qs) k=atKey qs k:=by simp[atKey,List.find?_cons,e']
   rw[Gi e,b];show ih
def KT.Ft{xs:@&(List Key×Addr×Value)}(r:KT H kvs xs)(k:@&Key)(ry:RelV y u) :
  KT H (kvs.map λkv=>if kv.1=k then(kv.1,y) else kv) (xs.map (putAt k u)):=by
 induction r with
 |nil=>show .nil
 |@cons p q ps qs h t ih =>
  rw[aQ,aQ];show .cons ?_ ih;let#[h1,h2,h3]:=h;unfold putAt;by_cases e:p.1=k
  .rw[au e,au (h1.symm.trans e)];show#[h1,h2,ry]
  .rw[aq e,aq (λz=>e (h1.trans z))];show#[h1,h2,h3]
def KT.put{xs:@&(List Key×Addr×Value)}(r:KT H kvs xs)(k:@&Key){b:Addr}(hb:H b=!.tup (k.map kV))(ry:RelV y u) :
  KT H (putK kvs k y) (storedH xs k b u):=by
 let e:(kvs.any λkv=>decide (kv.1=k))=(atKey xs k).isSome:=by
  rw[Pu,(r.val k).S5,lI]
 unfold putK storedH;rw[e];by_cases q:(atKey xs k).isSome=true
 .rw[au q,au q];show r.Ft k ry
 .rw[aq q,aq q];show Paired.snoc r #[rfl,hb,ry]
def KT.keeps{xs:@&(List Key×Addr×Value)}(r:KT H kvs xs)(ht:∀b ys,H b=!.tup ys->H' b=!.tup ys):KT H' kvs xs :=
 Paired.LH r λx x z=>#[z.1,ht _ _ z.2.1,z.2.2]
section
variable{h:Heap}
def Kv{u:HO}(ok:gJ P w H h)(e:Rd H a u):l0 P w H h a u:=e.ok ok
def yJ{kvs:@&(Key×V)}(ok:gJ P w H h)(e:Rd H a (.dK kvs)):-kvs<=sizeLine/\(a==sysModules)=false/\∃vs,KV kvs vs/\h.DictOf (s9 P w) a vs :=
 show l0 P w H h a (.dK kvs) from Kv ok e
def Kg{kvs:@&(Key×V)}(ok:gJ P w H h)(e:H a=!.dK kvs):-kvs<=sizeLine/\(a==sysModules)=false/\∃vs,KV kvs vs/\h.DictOf (s9 P w) a vs:=yJ ok (.inl e)
def yU{ks:@&Key}(ok:gJ P w H h)(e:H a=!.tup (ks.map kV)):(tupleKind (s9 P w)).is h ks a:=by
 let#[_,bc,r,o,h1,h2,#[n,h3],_]:=(show l0 P w H h a (.tup (ks.map kV)) from ok a _ e)
 show#[o,bc.toArray,n,h1,h2,h3,by simpa using Mn r]
def yK(ok:gJ P w H h)(e:Rd H a (.dT kvs)):-kvs<=sizeLine/\(a==sysModules)=false /\
  ∃xs,KT H kvs xs/\h.DictOfH (tupleKind (s9 P w)) a xs:=by
 let#[z,y,xs,r,o,es,ep,h1,h2,h3,h4,h5]:=(show l0 P w H h a (.dT kvs) from Kv ok e)
 show#[z,y,xs,r,o,es,ep,h1,h2,h3,h4,λx hx=>?_,h5];let all:∀{l:@&(List Key×V)} {m:@&(List Key×Addr×Value)},KT H l m->∀x∈m,(tupleKind (s9 P w)).is h x.1 x.2.1:=by
  intro l m q
  induction q with
  |nil=>simp
  |@cons p q ps qs hq t ih =>
   intro x hx;rcases aB.mp hx with e|hx
   .exact yU ok (by simp_all)
   .exact ih x hx
 show all r x hx
def b49(ok:gJ P w H h)(e:H a=!.dT kvs):-kvs<=sizeLine/\(a==sysModules)=false /\
  ∃xs,KT H kvs xs/\h.DictOfH (tupleKind (s9 P w)) a xs:=yK ok (.inl e)
end
abbrev Z8(H:Hp)(a:Addr)(y:V)(r:Option V):Prop :=
 (∃kvs k,Rd H a (.dK kvs)/\y=kV k/\r=O8 kvs k)\/∃kvs k b,Rd H a (.dT kvs)/\y=.ref b/\H b=!.tup (k.map kV)/\r=O8 kvs k
abbrev Ce(H:Hp)(a:Addr)(y v:V)(H':Hp):Prop :=
 (∃kvs k,H a=!.dK kvs/\y=kV k/\-kvs<sizeLine/\H'=upd H a (.dK (putK kvs k v))) \/
 ∃kvs k b,H a=!.dT kvs/\y=.ref b/\H b=!.tup (k.map kV)/\-kvs<sizeLine/\H'=upd H a (.dT (putK kvs k v))
def Z8.k{H:Hp}{a:Addr}{kvs:@&(Key×V)}{k:Key}(e:H a=!.dK kvs):Z8 H a (kV k) (O8 kvs k):=.inl #[kvs,k,.inl e,rfl,rfl]
def Ce.k{H:Hp}{a:Addr}{kvs:@&(Key×V)}{k:Key}{v:V}(e:H a=!.dK kvs)(hl:-kvs<sizeLine):Ce H a (kV k) v (upd H a (.dK (putK kvs k v))):=.inl #[kvs,k,e,rfl,hl,rfl]
section
variable{v:V}{r:Value}
def Inv.big(I:Inv X pi σ H s):sysModules<s⁻¹:=by
 let h:=(I.mod.glob.keeps I.bk).lt;show dP ∅ h
def YK{Q:Value->Shared->Prop}(hu:A.units+1<cLine)(I:Inv X pi σ H s)(g:Z8 H a y (!v))(ry:RelV y u)(h:∀w' s',Inv X pi σ H s'->RelV v w'->Q w' s') :
  wpAny (model X.prog X.w) A (getItem (.ref a) u) Q E s:=by
 rcases g with⟨kvs,k,e,ey,l⟩|⟨kvs,k,b,e,ey,eb,l⟩
 .subst ey;let#[z,hd,vs,rel,dd]:=yJ I.bI e;let#[w',hw,fY]:=C4.some_of (by rw[l];show rel.val k);show wpAny_getItem_of (vP ry) dd.mapOf hw (h w' _ (I.tok _) fY)
 .subst ey;cases (show u=Value.ref b from ry);let#[z,hd,xs,rel,dd]:=yK I.bI e;let#[w',hw,fY]:=C4.some_of (by rw[l];show rel.val k);let#[p,hp,qp]:=ag.mp hw;show wpAny_getItem_heap (iO hu) (yU I.bI eb) dd hp ?_;rw[qp];show h w' _ (I.tok _) fY
def UU{Q:Value->Shared->Prop}(hu:A.units+1<cLine)(I:Inv X pi σ H s)(g:Z8 H a y o)(ry:RelV y u)(h:∀s',Inv X pi σ H s'->Q (.bool o.isSome) s') :
  wpAny (model X.prog X.w) A (compareOp .In u (.ref a)) Q E s:=by
 rcases g with⟨kvs,k,e,ey,l⟩|⟨kvs,k,b,e,ey,eb,l⟩
 .subst ey;let#[z,hd,vs,rel,dd]:=yJ I.bI e;show wpAny_in_of (vP ry) hd dd.mapOf ?_;rw[<- (rel.val k).S5,<- l];show h _ (I.tok _)
 .subst ey;cases (show u=Value.ref b from ry);let#[z,hd,xs,rel,dd]:=yK I.bI e;show wpAny_in_heap (iO hu) (yU I.bI eb) hd dd ?_;let q:=(rel.val k).S5;rw[lI] at q;rw[<- q,<- l];show h _ (I.tok _)
def bF8{Q:Value->Shared->Prop}(hu:A.units+1<cLine)(I:Inv X pi σ H s)(g:Z8 H a y o)(ry:RelV y u)(h:∀s',Inv X pi σ H s'->Q (.bool (~~~o.isSome)) s') :
  wpAny (model X.prog X.w) A (compareOp .NotIn u (.ref a)) Q E s:=by
 rcases g with⟨kvs,k,e,ey,l⟩|⟨kvs,k,b,e,ey,eb,l⟩
 .subst ey;let#[z,hd,vs,rel,dd]:=yJ I.bI e;show wpAny_notIn_of (vP ry) hd dd.mapOf ?_;rw[<- (rel.val k).S5,<- l];show h _ (I.tok _)
 .subst ey;cases (show u=Value.ref b from ry);let#[z,hd,xs,rel,dd]:=yK I.bI e;show wpAny_notIn_heap (iO hu) (yU I.bI eb) hd dd ?_;let q:=(rel.val k).S5;rw[lI] at q;rw[<- q,<- l];show h _ (I.tok _)
def FE{h':Heap}{t':Nat}{ob:HO}(I:Inv X pi σ H s)(mu:zy (H a))(hs:Heap.SameBut a s.heap h')(he:∃q,h'.get? a=!q)(new:l0 X.prog X.w (upd H a ob) h' a ob) :
  Inv X pi σ (upd H a ob) { s with heap:=h',toks:=t' } :=
 I.write mu (.inl rfl) (λb q hb z=>(hs.2 b hb).trans z) he new
def Le{h':Heap}{kvs:@&(Key×V)}{vs:@&(Key×Value)}(z:-kvs<=sizeLine)(hd:(a==sysModules)=false)(rel:KV kvs vs)(dd:h'.DictOf (s9 P w) a vs) :
  l0 P w H' h' a (.dK kvs):=#[z,hd,vs,rel,dd]
def YL{Q:Unit->Shared->Prop}(hu:A.units+1<cLine)(I:Inv X pi σ H s)(g:Ce H a y v H')(ry:RelV y u)(rv:RelV v r)(h:∀s',Inv X pi σ H' s'->Q Unit.unit s') :
  wpAny (model X.prog X.w) A (setItem (.ref a) u r) Q E s:=by
 rcases g with⟨kvs,k,e,ey,l,eH⟩|⟨kvs,k,b,e,ey,eb,l,eH⟩
 .subst ey eH;let#[z,hd,vs,rel,dd]:=Kg I.bI e;let hz:-vs<=sizeLine:=by rw[<- -rel];show z
  let hl:(putK kvs k v).length<=sizeLine:=by have:=Z4 kvs k v;omega
  show wpAny_setItem_pairs (vP ry) dd λh' mh hs=>h _ ?_;let he:∃q,h'.get? a=!q:=let ⟨q,_,_,hq,_⟩:=mh;#[q,hq]
  show FE I (by rw[e];show True.intro) hs he (Le hl hd (rel.put k rv) mh)
 .subst ey eH;cases (show u=Value.ref b from ry);let#[z,hd,xs,rel,dd]:=b49 I.bI e;let hz:-xs<=sizeLine:=by rw[<- nG rel];show z
  let hl:(putK kvs k v).length<=sizeLine:=by have:=Z4 kvs k v;omega
  show wpAny_setItem_heap (iO hu) (yU I.bI eb) dd λh' mh hs=>h _ ?_;let#[q,es,ep,hq,h2,h3,h4,_,h5]:=mh;show FE I (by rw[e];show True.intro) hs #[q,hq] #[hl,hd,_,(rel.put k eb rv).keeps λc ys ec=>?_,q,es,ep,hq,h2,h3,h4,h5];rw[d7 (b21 ec e (λz=>nomatch z))];show ec
end
def aP0(I:Inv X pi σ H s)(g:Z8 H a y o):s.TypeIs (.ref a) "dict":=by
 rcases g with⟨kvs,k,e,_,_⟩|⟨kvs,k,b,e,_,_,_⟩
 .let#[_,_,vs,_,dd]:=yJ I.bI e;show dd.typeIs
 .let#[_,_,xs,_,dd]:=yK I.bI e;show dd.typeIs
def OL(h:Heap)(hb:sysModules<h.objs.size):l0 P w H (h.push { cls:=.type "dict",data:=.dict (List.toArray []) }) h.objs.size (.dK []) :=
 #[cU _,dX.mpr (cT (aN hb)),[],.nil,Heap.DictOf.new h]
def bJ4:TE:=λx H Q=>∀p,H p=none->Q (.ref p) (upd H p (.dK []))
def Xx:PE X (.Dict [] [] pos) bJ4:=λpi s σ H Q I h =>
 wpAny_Dict_empty #[.ref s⁻¹,_,I.laid (t':=s.toks) (λx x q=>ai _ q) (ak _) (OL s.heap I.big),rfl,h _ (I.bI.fresh (ak _))]
abbrev AQ:@&(TE×TE)->St->Hp->(List (V×V)->Hp->Prop)->Prop
 |[],_,H,Q=>Q [] H
 |(tk,tv)::r,σ,H,Q=>tk σ H λx H1=>tv σ H1 λy H2=>AQ r σ H2 λps H3=>Q ((x,y)::ps) H3
noncomputable abbrev VV:@&(V×V)->@&(Value×Value)->Prop:=Paired λp q=>RelV p.1 q.1/\RelV p.2 q.2
abbrev zx(X:Cx)(pos:Pos)(keys:@&(Option Expr))(values:@&Expr)(iY:@&(TE×TE)):Prop :=
 ∀(pi:@&(Addr×Obj)) (s:Shared) (σ:St) (H:Hp) (Q:@&(V×V)->Hp->Prop),Inv X pi σ H s->AQ iY σ H Q ->
  wpAny (model X.prog X.w) X.A (evalPairs (pairTrees keys values X.env pos)) (λvs s'=>∃ps H',Inv X pi σ H' s'/\VV ps vs/\Q ps H') X.xe s
def bB4:zx X pos [] [] []:=λpi s σ H Q I h=>pairTrees_nil_walk #[[],H,I,.nil,h]
def XF{k v:Expr}{ks:@&(Option Expr)}{vs:@&Expr}{tk tv:TE}{iY:@&(TE×TE)}(hk:PE X k tk)(hv:PE X v tv)(hr:zx X pos ks vs iY) :
  zx X pos (some k::ks) (v::vs) ((tk,tv)::iY):=λpi s σ H Q I h =>
 pairTrees_cons_walk (cS (hk pi s σ H _ I h) λu s1 ⟨x,H1,I1,rx,q1⟩=>cS (hv pi s1 σ H1 _ I1 q1) λw2 s2 ⟨y,H2,I2,ry,q2⟩ =>
  cS (hr pi s2 σ H2 _ I2 q2) (by rintro ws s3 ⟨ps,H3,I3,rel,q3⟩;show #[(x,y) :: ps,H3,I3,.cons #[rx,ry] rel,q3]))
abbrev V5(kvs more:@&(Key×V)):@&(Key×V):=more.foldl (λacc kv=>putK acc kv.1 kv.2) kvs
def KV.merge:∀{more:@&(Key×V)} {rs:@&(Key×Value)} {kvs:@&(Key×V)} {vs:@&(Key×Value)},KV more rs->KV kvs vs->KV (V5 kvs more) (merged vs rs):=by
 intro more rs kvs vs r
 induction r generalizing kvs vs with
 |nil=>intro q;show q
 |@cons p q ps qs h t ih =>
  intro r0;let e:KV (putK kvs p.1 p.2) (stored vs q.1 q.2):=by
   have:=r0.put p.1 h.2;rw[<- h.1];show this
  show ih e
def Nv:∀(more kvs:@&(Key×V)),(V5 kvs more).length<=-kvs+-more
 |[],kvs=>by change (-kvs)<=-kvs+0;omega
 |p::r,kvs=>by
  let h1:=Nv r (putK kvs p.1 p.2);let h2:=Z4 kvs p.1 p.2;show(V5 (putK kvs p.1 p.2) r).length<=_
  grind
def ML{P:Program}{w:World}:∀{kvs:@&(Key×V)} {ws:@&(Value×Value)},VV (kvs.map λkv=>(kV kv.1,kv.2)) ws->∃rs,Carries (s9 P w) ws rs/\KV kvs rs
 |[],_,r=>by cases r;show#[[],True.intro,.nil]
 |p::kvs,_,r=>by
  cases r with
  |@cons a b as bs h t =>
   let#[rs,c,q]:=ML (P:=P) (w:=w) t;let#[b1,b2]:=b;show#[(p.1,b2)::rs,#[vP h.1,rfl,c],.cons #[rfl,h.2] q]
def Zw(iY:@&(TE×TE)):TE:=λσ H Q=>∀p,H p=none->AQ iY σ (upd H p (.dK [])) λps H2=>H2 p=!.dK []/\∃kvs:@&(Key×V),ps=kvs.map (λkv=>(kV kv.1,kv.2))/\-kvs<=15/\Q (.ref p) (upd H2 p (.dK (V5 [] kvs)))
def bB9{keys:@&(Option Expr)}{values:@&Expr}{iY:@&(TE×TE)}(h:zx X pos keys values iY)(nk:keys.all (·.isSome)=true)(hl:-keys=-values)(h0:keys≠[])(xW:-keys<=15):PE X (.Dict keys values pos) (Zw iY):=by
 intro pi s σ H Q I q;let hn:=I.bI.fresh (ak s⁻¹);let I1:=I.laid (h':=s.heap.push { cls:=.type "dict",data:=.dict (List.toArray []) }) (t':=s.toks) (λx x q=>ai _ q) (ak _) (OL s.heap I.big);show wpAny_Dict_walk (knd:=s9 X.prog X.w) nk hl h0 xW (cS (h pi _ σ _ _ I1 (q _ hn)) λws s2 bx=>?_);let#[ps,H2,I2,rel,e,kvs,ep,lk,q2]:=bx;subst ep;let#[rs,c,rk]:=ML rel;let#[z,hd,vs0,r0,dd]:=Kg I2.bI e;cases r0;show#[rs,c,dd,λh' mh hs=>#[.ref s⁻¹,_,?_,rfl,q2]];let hz:(V5 [] kvs).length<=sizeLine:=by
  let h1:=Nv kvs [];rw[nX] at h1;rw[gi];omega
 let he:∃q,h'.get? s⁻¹=!q:=let ⟨q,_,_,hq,_⟩:=mh;#[q,hq]
 show FE I2 (by rw[e];show True.intro) hs he (Le hz hd (rk.merge .nil) mh)
end L2
namespace Qw
open PySem PySem.W PySem.Calls PyProof.Rows
def ar3{P:Params}{h:Heap}:∀(ns:@&Int) (vs:@&Value),WellAll P h vs (ns.map WData.int)->IntsAre vs ns:=by
 intro ns
 induction ns with
 |nil =>
  intro vs w;cases w;show .nil
 |cons n ns ih =>
  intro vs w;cases w with
  |cons a b =>
   cases a;show .cons _ _ (ih _ b)
def a57{l:OpenLaw}{n:Nat}(hn:l.most=!n){P:Params}{h:Heap}{args:@&WData}{vals:@&Value}(qo:l.row.toRowW.claim.pre args=true)(Dp:WellAll P h vals args) :
  ∃a vs ns,vals=[Value.ref a]/\args=[WData.list (ns.map WData.int)]/\h.get? a=some { cls:=.type "list",data:=.seq vs.toArray }/\IntsAre vs ns/\-ns<=n:=by
 let Sx:WShape.hasAll [] args [.list .int]=true:=(pre_splitW qo).1;let hc:l.pre.holds [] { args:=args }=true:=(pre_splitW qo).2;let#[d,r,rfl,h1,h2]:=hasAllW_cons Sx;obtain rfl:=hasAllW_nil h2;let#[xs,rfl,h3]:=hasW_list h1;let#[ns,rfl]:=items_int h3;let hlen:-ns<=n:=by
  let h4:(WTm.not (.lt (.lit (.int (n:Int))) (.len (.arg 0)))).holds [] { args:=[.list (ns.map .int)] }=true:=by
   let h4:=(holds_andW hc).1;rw[hn] at h4;show h4
  let h5:=condW_of h4 (w_not (w_lt w_lit (w_len_list (w_arg rfl))))
  simp_all
 cases Dp with
 |cons w1 w2 =>
  cases w2;cases w1 with
  |list ho nk=>show#[_,_,ns,rfl,rfl,ho,ar3 ns _ nk,hlen]
def a70(l:OpenLaw)(args:@&WData):l.row.toRowW.claim.post args (.bool true) args=true :=
 postW_of
  (show WShape.has [] (.bool true) .bool=true by rfl)
  (show(WTm.eq .res (.lit (.bool true))).value [] { args:=args,res:=!.bool true,after:=args }=some (.bool (true==true)) from w_eq_bool (w_res rfl) w_lit) rfl
def aP5{l:OpenLaw}{n:Nat}{q:Program}{loose:@&Str}{XP:(Str->Option Value)->Heap->Prop}{YP:World->Heap->Prop}{d:DefRec}(hn:l.most=!n)(xM:d.params.defaults=[])(call:∀ (w:World) (cQ bJ:Shared) (mg mb:Str->Option Value) (fa:Addr) (o:Obj) (pm cd doc:Value) (a:Addr) (vs:@&Value) (ns:@&Int),
   Ground q loose [] XP w cQ mg mb bJ.heap->YP w bJ.heap ->
   bJ.heap.get? fa=!o->o.data=.func (docDef d.name d.params d.body d.scope pm cd doc)->bJ.heap.CodeRec cd d.name->mg d.name=!.ref fa ->
   bJ.heap.get? a=some { cls:=.type "list",data:=.seq vs.toArray }->IntsAre vs ns->-ns<=n->bJ.gens=(List.toArray []) ->
   codeAny (model l.prog w) callerA (.call (.ref fa) #[[.ref a],[]]) (λr s'=>r=.ok (.ret (.bool true))/\OldK bJ.heap s'.heap/\s'.os=bJ.os/\AllBare s'.gens) bJ) :
  WalkO q loose XP YP l.row.toRowW d [] (λf vs=>PySem.call f vs):=by
 intro w cQ bJ mg mb G Y fa o pm cd doc dV kV ho hd jX hD hmg hg args vals as qo SK hrd Dp rP;obtain rfl:dV=.none:=Dflts.none hD xM;obtain rfl:kV=.none:=Dflts.noKw hD;let#[a,vs,ns,rfl,rfl,lV,hints,hlen]:=a57 hn qo Dp;show enter_call (fN (call w cQ bJ mg mb fa o pm cd doc a vs ns G Y ho (fd_plain hd) jX hmg lV hints hlen hg) λr s' hq=>?_);let#[rfl,h2,h3,h4]:=hq;show#[.inl #[.bool true,.bool true,[],rfl,λx=>rfl,.bool true,a70 l _,λx=>#[List.Pairwise.nil,λx hm=>(nomatch hm)]],h2,h3,h4]
end Qw
namespace L2
open PySem PySem.Spec PyProof.Rows
variable{w:World}{x qual:Str}{X:Cx}{A:Around}{s:Shared}{elt iter tg:Expr}{ifs:@&Expr}{scope:Scope}{pos:Pos}{cl:@&(Str×Addr)}{C:Addr}{N':@&Str}{i3:@&Nat}{fp:@&Addr}{g:TG}{tc:TT}{te:TE}
def MG:∀{vs:@&Value} {ns:@&Int},IntsAre vs ns->Vals (ns.map V.int) vs
 |_,_,.nil=>.nil
 |_,_,.cons n t h=>.cons #[t,rfl] (MG h)
def Cf(H:Hp):Prop:=∀b,H b=none\/∃o xs,H b=!.ky o (.lst xs)
def WZ{P:Program}{K:PySem.W.Frag}{mg mb:Str->Option Value}{CX:ly}{k:Nat}{fa a:Addr}{fd:FuncData}{sp:Sp}{bJ:Shared}{vs:@&Value}{ns:@&Int}(KX:K.In bJ.heap)(rO:bJ.heap.Ns mainGlobals mg)(hb:bJ.heap.Ns builtinsNs mb)(Ea:∀x:Str,x≠"__name__"->mb x=bootBuiltins x)(DH:bJ.heap.NoLimit)(hg:bJ.gens=(List.toArray []))(ha:bJ.heap.get? a=some { cls:=.type "list",data:=.seq vs.toArray })(hi:IntsAre vs ns)(hl:-ns<=sizeLine)(hr:m4 k callerA)(F:∀base:Heap,K.In base->base.Ns mainGlobals mg->gK P w K mg base CX k fa fd [x] sp)(xR:∀(s:Shared) (u:Value),BindsTo s fd #[[u],[]] [(x,u)])(qk:∀H:Hp,Cf H->gU K H a (ns.map V.int)->sp [.ref a] H (λv y=>v=.bl true) λy y y=>False)(El:∀H e s',CX [] H bJ (λy y y=>False) e s'->False) :
  codeAny (model P w) callerA (.call (.ref fa) #[[.ref a],[]]) (λr s'=>r=.ok (.ret (.bool true))/\OldK bJ.heap s'.heap/\s'.os=bJ.os/\AllBare s'.gens) bJ:=by
 let rv:=MG hi;let Sf:=-hi;let core:∀H:Hp,Cf H->gU K H a (ns.map V.int)->gJ P w H bJ.heap->(∀b,H b≠none->b=a)->(H a≠none->K.lookup a=none) ->
   codeAny (model P w) callerA (.call (.ref fa) #[[.ref a],[]]) (λr s'=>r=.ok (.ret (.bool true))/\OldK bJ.heap s'.heap/\s'.os=bJ.os/\AllBare s'.gens) bJ:=by
  intro H hO hS bI hA hK;let L8:∀{b:Addr} {o:Obj},bJ.heap.get? b=!o->H b=none->(rf bJ.heap H).get? b=!o:=λe n=>WO e n;let wZ:∀{b:Addr} {o:Obj} {es:Array DictEntry} {ep:Nat},bJ.heap.get? b=!o->o.data=.dict es ep->H b=none:=λ{b o es ep} e d=>by
   grind
  let zR:∀{b:Addr} {m:Str->Option Value},bJ.heap.Ns b m->(rf bJ.heap H).Ns b m:=λ{b m} ⟨o,es,ep,e,d,r⟩=>#[o,es,ep,L8 e (wZ e d),d,r]
  let JA:K.In (rf bJ.heap H):=λb o e=>L8 (KX b o e) (by
   grind)
  let hM:Mod K mg (rf bJ.heap H):=#[JA,zR rO,#[mb,zR hb,Ea],let ⟨mc,h1,h2⟩:=DH;#[mc,zR h1,h2]]
  let e0:qU P w K mg (rf bJ.heap H) callerA [] bJ H:=#[rfl,hM,λb o e=>bD0 e,Nat.le_of_eq (YV _ _),trivial,λb hb=>absurd (show b∈([]:@&Addr) from hb) #[_],bI,.of_eq hg]
  show fN ((F _ JA (zR rO)).run callerA [] bJ H #[[.ref a],[]] [.ref a] [.ref a] _ _ hr e0 (xR bJ (.ref a)) (.cons rfl .nil) (qk H hO hS)) λr s' h=>?_;cases r with
  |error e=>show(El H e s' h).elim
  |ok fl =>
   cases fl with
   |next=>show False.elim h
   |brk=>show False.elim h
   |cont=>show False.elim h
   |ret u =>
    let#[v,H',os,bare,un,Dv,r',q]:=h;let q':=q;subst q';obtain rfl:u=Value.bool true:=r';show#[rfl,OldK.of_keep λb o e=>?_,os,bare];cases q:H b with
    |none=>show un.keep b o e q (by intro z;show absurd (show b∈([]:@&Addr) from z) #[_]) #[_]
    |some u =>
     rcases hO b with z|⟨ob,xs,z⟩
     .simp_all
     .let z2:=un.iq b ob _ z;let#[e1,_]:=bI b _ z;let#[e2,_]:=Dv b _ z2
      simp_all
 cases hk:K.lookup a with
 |some o =>
  let e:=KX a o hk;rw[ha] at e;cases e;show core (λy=>none) (λy=>.inl rfl) (.inr #[_,vs.toArray,_,hk,rfl,rfl,rfl,by simp_all,by simpa using rv]) (λb u z=>by simp_all) (λb z=>absurd rfl z) λz=>absurd rfl z
 |none =>
  show core (λb=>if b=a then some (.ky { cls:=.type "list",data:=.seq vs.toArray } (.lst (ns.map V.int))) else none) (λb=>?_) (.inl (.inr #[{ cls:=.type "list",data:=.seq vs.toArray },au rfl])) (λb u z=>?_) (λb z=>?_) λy=>hk
  .by_cases hb:b=a
   .exact .inr #[_,_,au hb]
   .exact .inl (aq hb)
  .by_cases hb:b=a
   .let z':=(au hb).symm.trans z;cases z';subst hb;show#[ha,by rw[ah];show hl,vs,_,rv,ha]
   simp_all
  .by_cases hb:b=a
   .exact hb
   .exact absurd (aq hb) z
def Ws{l:PySem.W.OpenLaw}{n k:Nat}{q:Program}{loose:@&Str}{XP:(Str->Option Value)->Heap->Prop}{YP:World->Heap->Prop}{d:DefRec}{K:Params->PySem.W.Frag}{CX:World->ly}{sp:World->Sp}(hn:l.most=!n)(oG:n<=sizeLine)(xM:d.params.defaults=[])(hr:m4 k callerA)(hY:∀(w:World) (h:Heap),YP w h->(K w.params).In h)(F:∀ (w:World) (mg:Str->Option Value) (fa:Addr) (h:Heap),(K w.params).In h->h.Ns mainGlobals mg->mg d.name=!.ref fa ->
   ∃fd:FuncData,(∀(s:Shared) (u:Value),BindsTo s fd #[[u],[]] [(x,u)]) /\
    ∀ base:Heap,(K w.params).In base->base.Ns mainGlobals mg->gK l.prog w (K w.params) mg base (CX w) k fa fd [x] (sp w))(qk:∀(w:World) (H:Hp) (a:Addr) (ns:@&Int),(-ns)<=n->Cf H->gU (K w.params) H a (ns.map V.int)->sp w [.ref a] H (λv y=>v=.bl true) λy y y=>False)(El:∀(w:World) (H:Hp) (s:Shared) (e:Value) (s':Shared),CX w [] H s (λy y y=>False) e s'->False) :
  PySem.W.WalkO q loose XP YP l.row.toRowW d [] (λf vs=>PySem.call f vs):=by
 show Qw.aP5 hn xM λw cQ bJ mg mb fa o pm cd doc a vs ns G Y ho hd jX hmg lV hints hlen hg=>?_;let KX:=hY w _ Y;let#[fd,hb,hF]:=F w mg fa _ KX G.T.g hmg;show WZ KX G.T.g G.T.b G.T.builtins G.T.nolimit hg lV hints (aL hlen oG) hr hF hb (λH hO hS=>qk w H a ns hlen hO hS) λH e s'=>El w H bJ e s'
abbrev t9(s:Stmt):Arguments:=match s with
 |.FunctionDef _ a _ _ _ _ _ _ _ _=>a
 |_=>{ posonlyargs:=[],args:=[],vararg:=none,kwonlyargs:=[],kw_defaults:=[],kwarg:=none,defaults:=[] }
abbrev j8(s:Stmt):@&Stmt:=match s with
 |.FunctionDef _ _ b _ _ _ _ _ _ _=>b
 |_=>[]
abbrev i0(s:Stmt):Scope:=match s with
 |.FunctionDef _ _ _ _ _ _ sc _ _ _=>sc
 |_=>{ kind:=.function,names:=[],isGenerator:=false,isCoroutine:=false }
structure pz(K:PySem.W.Frag)(x qual:Str)(st:Stmt)(f:Addr)(fd:FuncData):Prop where
 ex:∃(oc:Value) (od:Option Addr) (kV doc pm:Value) (an:Option Addr) (fc ct:Value) (jE:Array (Option Value)),
  fd=PySem.W.fnOf x qual (t9 st) (j8 st) (i0 st) .none kV doc pm an fc ct/\K.lookup f=!#[oc,od,.func fd,jE]/\PySem.W.codeIn K fc qual=true
 kp:PySem.W.keepIn K (.ref f)=true
section
variable{K:PySem.W.Frag}
def pz.binds{st:Stmt}{f:Addr}{fd:FuncData}{ps:@&Str}(F:pz K x qual st f fd)(h:∀(kV doc pm:Value) (an:Option Addr) (fc ct:Value) (us:@&Value),(-us)=-ps->bindArgs (PySem.W.fnOf x qual (t9 st) (j8 st) (i0 st) .none kV doc pm an fc ct) #[us,[]]=pure (ps.zip us)):Binds K fd ps []:=by
 let#[oc,od,kV,doc,pm,an,fc,ct,jE,rfl,lk,jX]:=F.ex;show .all (h kV doc pm an fc ct)
def Hk{st:Stmt}{f:Addr}{oc:Value}{od an:Option Addr}{jE:Array (Option Value)}{kV doc pm fc ct:Value}(l:K.lookup f=!#[oc,od,.func (PySem.W.fnOf x qual (t9 st) (j8 st) (i0 st) .none kV doc pm an fc ct),jE])(c:PySem.W.codeIn K fc qual=true)(k:PySem.W.keepIn K (.ref f)=true):pz K x qual st f (PySem.W.fnOf x qual (t9 st) (j8 st) (i0 st) .none kV doc pm an fc ct):=#[#[oc,od,kV,doc,pm,an,fc,ct,jE,rfl,l,c],k]
end
section
variable{prog:Program}{R:Result->Shared->Prop}
def aL8{target:Expr}{it acc:Value}{env:Env}(I:Nat->Shared->Prop)(turn:∀ n s,I n s->wpAny (model prog w) A (pyNext it) (λr bJ=>match r with
   |none=>R (.ok .next) bJ
   | some v=>wpAny (model prog w) A (letOwnedTupleGo target it v) (λy bJ=>wpAny (model prog w) A (assign target env v) (λ_ fm =>
     wpAny (model prog w) A (forIn ifs true λc r=>if r=true then do let ok <- isTrue c env (eval c env);pure (ForInStep.yield ok) else pure (ForInStep.yield r)) (λok ic =>
      if ok=true then wpAny (model prog w) A (eval elt env) (λx kM =>
       wpAny (model prog w) A (call (.builtin "list.append") [acc,x]) (λy mV=>∃ m,m < n/\I m mV) (λy y=>False) kM) (notedBy (model prog w) A env λe s'=>R (.error e) s') ic
      else ∃ m,m < n/\I m ic) (λy y=>False) fm) (λy y=>False) bJ) (λy y=>False) bJ) (λy y=>False) s)(n:Nat)(h:I n s) :
  codeAny (model prog w) A (.compLoop (.ListComp elt [#[target,iter,ifs,0]] scope pos) 0 it acc env) R s:=by
 show codeAny_loop rfl I (λn s hI=>?_) n h;change wpAny _ A ((compTurn (.ListComp elt [#[target,iter,ifs,0]] scope pos) 0 it acc env).onRaise (λx=>do noteFrame x env;theTreesLotGoes x)) _ _ s;show wpAny_noted ?_;rw[compTurn_list];show aa (dH (aa (aU (turn n s hI) (λr bJ fL=>?_) λy y h'=>h'.elim)));cases r with
 |none=>show aj fL
 |some v =>
  show aa (aU fL (λy bJ fL=>?_) λy y h'=>h'.elim);show aa (aU fL (λy fm ik=>aa (aU ik (λok ic nh=>?_) λy y h'=>h'.elim)) λy y h'=>h'.elim);cases ok with
  |false=>show wpAny_pure #[rfl,nh]
  |true =>
   show aa (aa (aU nh (λx kM Df=>aa (aU Df (λy mV De=>aj (aj #[rfl,De])) λy y h'=>h'.elim)) λy y h'=>h'))
end
abbrev nN(X:Cx)(es:@&Expr)(t:TT):Prop :=
 ∀(pi:@&(Addr×Obj)) (s:Shared) (σ:St) (H:Hp) (Q:Bool->Hp->Prop),Inv X pi σ H s->t σ H Q ->
  wpAny (model X.prog X.w) X.A (forIn es true λc r=>if r=true then do let ok <- isTrue c X.env (eval c X.env);pure (ForInStep.yield ok) else pure (ForInStep.yield r)) (TP X pi σ Q) X.xe s
def b78:TT:=λx H Q=>Q true H
def bA9:nN X [] b78:=λpi s σ H Q I h=>aj #[H,I,h]
def bA8{c:Expr}{t:TT}(h:PT X c t):nN X [c] t:=by
 intro pi s σ H Q I q;show aa (aa (aU (h pi s σ H Q I q) (λb s' hb=>aj (aj hb)) λy y x=>x))
abbrev K6(scope:Scope)(cl:@&(Str×Addr))(C:Addr):@&(Str×Addr):=cellsFrom (C+1) scope.names []++cl
def E3:∀(names:@&(Str×NameKind)) (n:Nat) (acc:@&(Str×Addr)),cellsFrom n names acc=cellsFrom n names []++acc
 |[],_,_=>rfl
 |(y,k)::r,n,acc=>by
  unfold cellsFrom;split
  .rw[E3 r (n+1) ((y,n)::acc),E3 r (n+1) [(y,n)],iw]
   rfl
  .exact E3 r n acc
def W2{x:Str}{c:Addr}:∀{names:@&(Str×NameKind)} {n:Nat},(x,c)∈cellsFrom n names []->(x,NameKind.cell)∈names
 |[],_,h=>by simp[cellsFrom] at h
 |(y,k)::r,n,h=>by
  unfold cellsFrom at h;split at h
  .rw[E3] at h;rcases aX.mp h with z|z
   .exact bg _ (W2 z)
   grind
  .exact bg _ (W2 h)
def N5{α:Type}:∀{a b:@&(Str×α)},(a++b).lookup x=(a.lookup x).or (b.lookup x)
 |[],_=>rfl
 |(y,v)::r,b=>by
  grind
def Mc(h:scope.names.lookup x=!.cell\/∃c,cl.lookup x=!c):∃c,(K6 scope cl C).lookup x=!c:=by
 unfold K6;rw[N5];cases e:(cellsFrom (C+1) scope.names []).lookup x with
 |some c=>show#[c,rfl]
 |none =>
  rcases h with h|h
  .let q:=de scope.names (C+1) [] (.inl h);rw[e] at q;cases q
  .exact h
def O4{env:Env}:∀{names:@&(Str×NameKind)} {x:Str},names.lookup x=!.cell ->
  (names.map λ(n,k)=>if(k==NameKind.free&&env.scope.kind==.function&&env.kindOf n==!.cell) then(n,NameKind.cell) else(n,k)).lookup x=!.cell
 |[],_,h=>by simp at h
 |(n,k)::r,x,h=>by
  let ih:=@O4 env r x;change List.lookup x ((if(k==NameKind.free&&env.scope.kind==.function&&env.kindOf n==!.cell)=true then(n,NameKind.cell) else(n,k))::_)=_;cases hx:x==n with
  |true =>
   simp only[List.lookup_cons,hx] at h
   simp_all
  |false =>
   simp only[List.lookup_cons,hx] at h;by_cases hc:(k==NameKind.free&&env.scope.kind==.function&&env.kindOf n==!.cell)=true
   .rw[au hc];simp only[List.lookup_cons,hx];show ih h
   .rw[aq hc];simp only[List.lookup_cons,hx];show ih h
def OK{h:Heap}(ck:CellsOk h (C+1) (cellsFrom (C+1) scope.names [])){c:Addr}(e:(K6 scope cl C).lookup x=!c):C<c\/cl.lookup x=!c:=by
 unfold K6 at e;rw[N5] at e;cases e2:(cellsFrom (C+1) scope.names []).lookup x with
 |some c' =>
  rw[e2] at e;cases e;show .inl (ck.empty x c (aS e2)).2
 |none =>
  rw[e2] at e;show .inr e
def aA5{M:Model}{E:Value->Shared->Prop}{globals:Addr}{outer:Env}{Q:Env->Shared->Prop}(hQ:∀ fL:Heap,fL.Ns s⁻¹ (λx=>none)->(∀ b o,s.heap.get? b=!o->fL.get? b=!o)->CellsOk fL (s⁻¹ + 1) (cellsFrom (s⁻¹ + 1) scope.names []) ->
   Q (newEnv scope s⁻¹ globals (K6 scope cl s⁻¹) qual none .none (!outer) builtinsNs) { s with heap:=fL }) :
  wpAny M A (newFunctionEnv scope globals cl [] qual none .none (!outer)) Q E s:=by
 simp only[newFunctionEnv,Option.isSome_some,if_true];show aa (wpAny_alloc ?_);show aa (wpAny_layCells _ (λname kind cells=>by rfl) _ _ _ _ ?_);let ok:=cellsFrom_ok scope.names (s.heap.push { cls:=.type "dict",data:=.dict (List.toArray []) }) (s⁻¹+1) [] #[λx x hm=>(nomatch hm),List.Pairwise.nil] #[_];rw[cZ] at ok;rw[show({ s with heap:=s.heap.push { cls:=.type "dict",data:=.dict (List.toArray []) } }:Shared).heap.objs.size=s⁻¹+1 from cZ ..];show aa (aj (aj ?_));rw[E3];show hQ _ ((Heap.Ns.new s.heap (.type "dict")).keeps (pushCells_keeps _ _)) (λb o e=>pushCells_keeps _ _ b o (ai _ e)) ok
abbrev i5(X:Cx)(pi:@&(Addr×Obj))(scope:Scope)(N':@&Str)(cl:@&(Str×Addr))(C:Addr)(s:Shared)(H:Hp)(fp:@&Addr):Cx where
 prog:=X.prog
 w:=X.w
 K:=X.K
 mg:=X.mg
 base:=X.base
 A:=X.A
 N:=N'
 cQ:=s
 jo:=H
 env:=compEnvC scope (K6 scope cl C) C X.env
 outer:=X.stack
 stack:=X.stack
 ex:=fp
 calm:=true
 fn:=λx=>decide (scope.names.lookup x=!.cell)
 pn:=X.pn++pi
 xe:=λy y=>False
structure fA(X:Cx)(scope:Scope)(N':@&Str)(i3:@&Nat)(cl:@&(Str×Addr)):Prop where
 kind:scope.kind=.function
 cells:∀y∈scope.names,y.2=.cell->scope.names.lookup y.1=!.cell
 names:∀y∈scope.names,y.2=.local->scope.names.lookup y.1=!.local
 yD:closureFor scope X.env=pure cl
 cin:∀x c,cl.lookup x=!c->X.env.cells.lookup x=!c
 yE:∀x,scope.names.lookup x=!.free->∃c,cl.lookup x=!c
 nd:N'.Nodup
 Vx:∀(i j:Nat),i3[i]?=!j->∃x,N'[i]?=!x/\X.N[j]?=!x/\scope.names.lookup x=!.free/\(X.env.kindOf x=!.cell\/X.env.kindOf x=!.free)
 EU:-i3<=-N'
def E7{env:Env}:∀{names:@&(Str×NameKind)} {x:Str},names.lookup x=!.free ->
  (names.map λ(n,k)=>if(k==NameKind.free&&env.scope.kind==.function&&env.kindOf n==!.cell) then(n,NameKind.cell) else(n,k)).lookup x=!.cell \/
  (names.map λ(n,k)=>if(k==NameKind.free&&env.scope.kind==.function&&env.kindOf n==!.cell) then(n,NameKind.cell) else(n,k)).lookup x=!.free
 |[],_,h=>by simp at h
 |(n,k)::r,x,h=>by
  let ih:=@E7 env r x;change List.lookup x ((if(k==NameKind.free&&env.scope.kind==.function&&env.kindOf n==!.cell)=true then(n,NameKind.cell) else(n,k))::_)=_\/List.lookup x ((if(k==NameKind.free&&env.scope.kind==.function&&env.kindOf n==!.cell)=true then(n,NameKind.cell) else(n,k))::_)=_;cases hx:x==n with
  |true =>
   simp only[List.lookup_cons,hx] at h;cases h;by_cases hc:(NameKind.free==NameKind.free&&env.scope.kind==.function&&env.kindOf n==!.cell)=true
   .rw[au hc];simp[List.lookup_cons,hx]
   .rw[aq hc];simp[List.lookup_cons,hx]
  |false =>
   simp only[List.lookup_cons,hx] at h;by_cases hc:(k==NameKind.free&&env.scope.kind==.function&&env.kindOf n==!.cell)=true
   .rw[au hc];simp only[List.lookup_cons,hx];show ih h
   .rw[aq hc];simp only[List.lookup_cons,hx];show ih h
def O5{env:Env}:∀{names:@&(Str×NameKind)} {x:Str},((names.map λ(n,k)=>if(k==NameKind.free&&env.scope.kind==.function&&env.kindOf n==!.cell) then(n,NameKind.cell) else(n,k)).lookup x=!.cell \/
  (names.map λ(n,k)=>if (k == NameKind.free && env.scope.kind == .function && env.kindOf n == !.cell) then (n,NameKind.cell) else (n,k)).lookup x=!.free)->names.lookup x=!.free \/ names.lookup x=!.cell
 |[],_,h=>by simp at h
 |(n,k)::r,x,h=>by
  let ih:=@O5 env r x;rw[aQ] at h;cases hx:x==n with
  |true =>
   simp only[List.lookup_cons,hx];by_cases hc:(k==NameKind.free&&env.scope.kind==.function&&env.kindOf n==!.cell)=true
   .refine .inl ?_;simp only[Bool.and_eq_true,beq_iff_eq] at hc;rw[hc.1.1]
   .simp only[if_neg hc,List.lookup_cons,hx] at h;rcases h with h|h
    .exact .inr h
    .exact .inl h
  |false =>
   simp only[List.lookup_cons,hx];by_cases hc:(k==NameKind.free&&env.scope.kind==.function&&env.kindOf n==!.cell)=true
   .simp only[if_pos hc,List.lookup_cons,hx] at h;show ih h
   .simp only[if_neg hc,List.lookup_cons,hx] at h;show ih h
def F4(σ:St)(i3:@&Nat)(n:Nat):St:=i3.map (λj=>(σ[j]?).join)++List.replicate (n- -i3) none
section
variable{pi:@&(Addr×Obj)}{σ:St}{H:Hp}
def Inv.a07{h1:Heap}{tk:Nat}(I:Inv X pi σ H s)(S:fA X scope N' i3 cl)(hc:X.calm=true)(hf:∀b∈fp,J6 X pi H b)(ho:∀b∈fp,∃o,s.heap.get? b=!o)(hC:s⁻¹<=C)(hn:∃m,h1.Ns C m)(k:∀b o,s.heap.get? b=!o->h1.get? b=!o)(ck:CellsOk h1 (C+1) (cellsFrom (C+1) scope.names [])) :
  Inv (i5 X pi scope N' cl C s H fp) [] (F4 σ i3 (-N')) H { s with heap:=h1,toks:=tk }:=by
 let#[m,hm]:=hn;let SQ:=S.kind;let IJ:∀b o,s.heap.get? b=!o->b≠C:=λb o e z=>absurd (ao e) (by simp_all);let two:∀{x:Str} {c:Addr},(K6 scope cl C).lookup x=!c->(C<c/\h1.IsCell c none/\(x,c)∈cellsFrom (C+1) scope.names [])\/(cl.lookup x=!c/\(cellsFrom (C+1) scope.names []).lookup x=none):=λ{x c} h=>by
  unfold K6 at h;rw[N5] at h;cases e:(cellsFrom (C+1) scope.names []).lookup x with
  |some c' =>
   rw[e] at h;cases h;let hm:=aS e;show .inl #[(ck.empty x c hm).2,(ck.empty x c hm).1,hm]
  |none =>
   rw[e] at h;show .inr #[h,rfl]
 let wW:∀{x:Str} {c:Addr},cl.lookup x=!c->c<s⁻¹:=λ{x c} h=>by
  let#[v,o,e,_]:=I.cell x c (S.cin x c h);show ao e
 let frees:∀{x:Str},scope.names.lookup x=!.free->(K6 scope cl C).lookup x=cl.lookup x:=λ{x} h=>by
  unfold K6;rw[N5];cases e:(cellsFrom (C+1) scope.names []).lookup x with
  |some c' =>
   have:=S.cells _ (W2 (aS e)) rfl
   simp_all
  |none=>rfl
 show#[#[I.mod,SQ,I.ok.glob,I.ok.blt,hC,?_,?_,?_,λw=>I.ok.hd hc,I.ok.frames,.inl rfl,?_,I.bs,?_,?_,?_,I.stack,I.Bq],rfl,I.bare,Un.kept k,#[m,hm,?_],?_,?_,?_,?_,I.bI.kept k,?_,λda z=>absurd (show(none:Option (List (Option V)))=some da from z) #[_]]
 .intro x y c h1 h2;rcases two h1 with⟨l1,_,q1⟩|⟨q1,_⟩<;>rcases two h2 with⟨l2,_,q2⟩|⟨q2,_⟩
  .exact PySem.name_of_addr ck.apart q1 q2
  .exact absurd (dP l1 (ax (wW q2) hC)) (bQ _)
  .exact absurd (dP l2 (ax (wW q1) hC)) (bQ _)
  .exact I.ok.inj x y c (S.cin x c q1) (S.cin y c q2)
 .intro x hx;rcases O5 hx with z|z
  .let#[c,hc]:=S.yE x z;show#[c,(frees z).trans hc]
  .let q:=de scope.names (C+1) [] (.inl z);let#[c,hc]:=dU.mp q;show#[c,?_];show(K6 scope cl C).lookup x=!c;unfold K6;rw[N5,hc]
   rfl
 .intro x c hf h;let z:=br hf;let q:=de scope.names (C+1) [] (.inl z);rcases two h with⟨l,_⟩|⟨_,e⟩
  .exact ft (kJ hC l)
  simp_all
 .intro b hb;let#[f0,f1,f2,f3,f4,f5]:=hf b hb;let#[o,e]:=ho b hb;show#[IJ b o e,λx c h=>?_];rcases two h with⟨l,_⟩|⟨q,_⟩
  .intro z;subst z;show absurd (dP l (ax (ao e) hC)) (bQ _)
  .exact f4 x c (S.cin x c q)
 .exact aL I.ok.nD I.sz
 .intro b o e hb;let#[f0,f1,f2,f3,f4,f5]:=hf b hb;rcases f3 with f3|f3
  .exact I.ok.kq b o e f3
  .exact absurd (ao (I.ok.bs b o e).1) (pT.mpr f3)
 .intro b hb z;let#[f0,f1,f2,f3,f4,f5]:=hf b hb;rcases aB.mp (I.U7 b z) with z|z
  .exact f1 z
  .exact f2 z
 .intro i x v Ui h2 h3;let hi:i< -i3:=by
   unfold F4 at h2;by_cases hi:i< -i3
   .exact hi
   .rw[dE (_/hi),cX] at h2
    simp_all
  obtain⟨j,hj⟩:∃j,i3[i]?=!j:=#[_,av hi]
  let hs:σ[j]?=!!v:=by
   unfold F4 at h2;rw[aG (_/hi),aJ,hj] at h2;simp only[Option.map_some] at h2;cases e:σ[j]? with
   |none=>rw[e] at h2;cases h2
   |some a=>rw[e] at h2;show gw some (aD h2)
  let#[y,Sr,Sq,Dk,So]:=S.Vx i j hj;let ey:y=x:=by
   let xX:N'[i]?=!x:=Ui;rw[Sr] at xX;show aD xX
  subst ey;let#[m0,Ji,hl]:=I.loc;let ⟨u,ru,hu⟩:=hl j y v Sq hs (by
   rcases So with z|z
   .exact .inr (.inl z)
   .exact .inr (.inr z))
  show#[u,ru,.inr #[E7 Dk,?_]];rcases hu with⟨z,_⟩|⟨_,c,Th,pK⟩
  .simp_all
  .let#[c',xQ]:=S.yE y Dk;let e:=S.cin y c' xQ;rw[Th] at e;cases e;let#[o,e1,e2]:=pK;show#[c,(frees Dk).trans xQ,o,k _ _ e1,e2]
 .intro x c h;rcases two h with⟨_,q,_⟩|⟨q,_⟩
  .exact#[none,q]
  .let#[v,o,e1,e2]:=I.cell x c (S.cin x c q);show#[v,o,k _ _ e1,e2]
 .exact I.bI.fresh hC
 .intro x c h;rcases two h with⟨l,_⟩|⟨q,_⟩
  .exact I.bI.fresh (ft (kJ hC l))
  .exact I.eI x c (S.cin x c q)
 .intro p hp;let mB:p∈X.pn++pi:=by simpa[i5] using hp
  let#[p1,p2,p3,p4,p5]:=I.pin p mB;show#[k _ _ p1,p2,IJ _ _ p1,λz=>?_,p5];rcases aB.mp (I.U7 _ z) with z|z
  .exact p3 z
  .exact p4 z
 .unfold F4;change _=-N';rw[aM,ah,zF];have:=S.EU;omega
def Inv.WE{gE:@&(Addr×Obj)}{cJ:St}{H':Hp}{s':Shared}(I:Inv X pi σ H s)(hf:∀b∈fp,J6 X pi H b)(J:Inv (i5 X pi scope N' cl C s H fp) gE cJ H' s'):Inv X pi σ H' s' :=
 I.HP (ch:=fp) J.os J.base J.bI J.bare λb hb=>by
  let#[f0,f1,f2,f3,f4,f5]:=hf b hb;show#[f3,f1,f4,f5]
def Inv.ZF{D:Addr}{ys:@&V}{bc:@&Value}{n:Nat}(I:Inv X pi σ H s)(f:J6 X pi H D)(hs:X.cQ.heap.objs.size<=D)(hv:Vals ys bc)(hz:-ys<=sizeLine)(ho:s.heap.get? D=some { cls:=.type "list",data:=.seq bc.toArray n }):Inv X pi σ (upd H D (.lst ys)) s:=by
 let#[f0,f1,f2,f3,f4,f5]:=f;let eX:∀b o,X.cQ.heap.get? b=!o->b≠D:=λb o e z=>absurd (ao e) (by rw[z];show pT.mpr hs);let tup:∀b u,H b=!u->upd H D (.lst ys) b=!u:=λb u e=>by rw[d7 (j7 e f0)];show e
 show#[I.ok,I.os,I.bare,#[?_,?_,?_,I.base.there,?_,?_,?_],I.loc,I.cell,?_,?_,?_,?_,I.len,I.sg]
 .exact λb o e n1 n2 n3=>I.base.keep b o e n1 n2 n3
 .exact λb o e n1 n2 n3=>I.base.slot b o e n1 n2 n3
 .exact λb o e n1 n2=>by rw[d7 (eX b o e)];show I.base.free b o e n1 n2
 .exact λb xs e=>tup _ _ (I.base.iD b xs e)
 .exact λb o u e=>tup _ _ (I.base.iq b o u e)
 .exact λb ps e=>by
   let#[more,q]:=I.base.iE b ps e;show#[more,tup _ _ q]
 .rw[d7 f1.symm];show I.free
 .exact λx c e=>by rw[d7 (f4 x c e)];show I.eI x c e
 .intro p hp;let#[p1,p2,p3]:=I.pin p hp;show#[p1,by rw[d7 (f5 p hp)];show p2,p3]
 .intro a o e;by_cases ha:a=D
  .subst ha;rw[f9] at e;cases e;show#[hz,bc,n,hv,ho]
  .rw[d7 ha] at e;let q:=I.bI a o e;show q.B8 (λb u y h=>h) (λb hb=>tup _ _ hb) (λb xs hb=>tup _ _ hb)
end
def GX(wi:TI)(i3:@&Nat)(n:Nat)(g:TG)(tc:TT)(te:TE):TE:=λσ H Q=>wi σ H λJ H1=>∃W:Nat->Nat->@&V->St->Hp->Prop,(∃m,W 0 m [] (F4 σ i3 n) H1)/\∀i m ys σ H,W i m ys σ H ->
 (J.stop i H/\∀p,H p=none->Q (.ref p) (upd H p (.lst ys))) \/
 (J.go i H/\-ys < sizeLine/\∀ x H',J.uJ i H x H'->g x σ H' λfj H2=>tc fj H2 λb H3 =>
  if b=true then te fj H3 λy H4=>∃ m',m' < m/\W (i + 1) m' (ys ++ [y]) fj H4 else ∃ m',m' < m/\W (i + 1) m' ys fj H3)
noncomputable abbrev Vs(bc:@&Value)(n:Nat):Obj:={ cls:=.type "list",data:=.seq bc.toArray n }
section
variable{pi:@&(Addr×Obj)}{σ:St}{H:Hp}
structure Qt(X:Cx)(n0:Nat){α:Type}(K:Addr->α->Heap->Obj->Prop)(fin:Addr->α->HO):Prop where
 nc:∀{a y h o},K a y h o->∀v,o.data≠.cell v
 get:∀{a y h o},K a y h o->h.get? a=!o
 B8:∀{a y h h' o},K a y h o->h'.get? a=!o->K a y h' o
 done:∀{pi σ H s a y o},n0<=a->Inv X pi σ H s->J6 X pi H a->X.cQ.heap.objs.size<=a->K a y s.heap o->Inv X pi σ (upd H a (fin a y)) s
def Yy{α:Type}{K:Addr->α->Heap->Obj->Prop}{fin:Addr->α->HO}{y0:α}{o0:Obj}{Bd:α->Prop}{tb:α->St->Hp->(α->Hp->Prop)->Prop}{body:(Shared->Prop)->Shared->Prop}{LP:Shared->Prop}{it:Addr}{tn:Nat->Heap->Prop}{J:It}{R:Result->Shared->Prop}{W:Nat->Nat->α->St->Hp->Prop}{m0:Nat}{Q:VK}{fL:Heap}{env:Env}(G:Qt X s⁻¹ K fin)(S:fA X scope N' i3 cl)(hc:X.calm=true)(hg:PG (i5 X pi scope N' cl C s H fp) tg g)(ht:nN (i5 X pi scope N' cl C s H fp) ifs tc)(I:Inv X pi σ H s)(T:Turn X.prog X.w X.K tg J fp it tn)(st:tn 0 s.heap)(hf:∀b∈fp,J6 X pi H b)(w0:W 0 m0 y0 (F4 σ i3 (-N')) H)(turn:∀ i m y σ H,W i m y σ H->(J.stop i H/\∀ p,H p=none->Q (.ref p) (upd H p (fin p y))) \/
   (J.go i H/\Bd y/\∀ x H',J.uJ i H x H'->g x σ H' λfj H2=>tc fj H2 λb H3 =>
    if b=true then tb y fj H3 λy' H4=>∃ m',m' < m/\W (i + 1) m' y' fj H4 else ∃ m',m' < m/\W (i + 1) m' y fj H3))(Ei:∀s' H' m,Inv X pi σ H' s'->Q (.ref s⁻¹) H'->s'.heap.Ns C m->H' C=none->s⁻¹<=C->R (.ok .next) s')(rO:∃m,fL.Ns C m)(Jb:∀b o,(s.heap.push o0).get? b=!o->fL.get? b=!o)(xP:CellsOk fL (C+1) (cellsFrom (C+1) scope.names []))(eC:s⁻¹+1=C)(k0:K s⁻¹ y0 fL o0)(ev:(i5 X pi scope N' cl C s H fp).env=env)(Ec:∀ y o gE cJ H' s' (P:α->Hp->Prop) (R':Shared->Prop),Bd y->K s⁻¹ y s'.heap o->(∀ {zH H8 s8},Inv (i5 X pi scope N' cl C s H fp) gE zH H8 s8->s8.heap.get? s⁻¹=!o)->Inv (i5 X pi scope N' cl C s H fp) gE cJ H' s'->tb y cJ H' P ->
   (∀ s8 H8 y' h' t' o',Inv (i5 X pi scope N' cl C s H fp) gE cJ H8 s8->P y' H8->(∀ b u,b ≠ s⁻¹->s8.heap.get? b=!u->h'.get? b=!u)->K s⁻¹ y' h' o'->R' { s8 with heap:=h',toks:=t' })->body R' s')(lp:∀ (I:Nat->Shared->Prop),(∀ n s,I n s->wpAny (model X.prog X.w) X.A (pyNext (.ref it)) (λr bJ=>match r with
   |none=>R (.ok .next) bJ
   | some v=>wpAny (model X.prog X.w) X.A (letOwnedTupleGo tg (.ref it) v) (λt bJ=>wpAny (model X.prog X.w) X.A (assign tg env v) (λ_ fm =>
     wpAny (model X.prog X.w) X.A (forIn ifs true λc r=>if r=true then do let ok <- isTrue c env (eval c env);pure (ForInStep.yield ok) else pure (ForInStep.yield r)) (λok ic =>
      if ok=true then body (λmV=>∃ m,m < n/\I m mV) ic else ∃ m,m < n/\I m ic) (λt t=>False) fm) (λt t=>False) bJ) (λt t=>False) bJ) (λt t=>False) s)->∀ n,I n { s with heap:=fL }->LP { s with heap:=fL }) :
  tn 0 fL/\LP { s with heap:=fL }:=by
 subst ev;generalize Ek:s.heap.push o0=H2 at Jb;generalize eD:s⁻¹=D at *;let JC:D≠C:=by omega
 let lt:∀b o,s.heap.get? b=!o->b<D:=λb o e=>by rw[<- eD];show ao e
 let zS:D<=C:=by omega
 let uP:∀b o,s.heap.get? b=!o->b≠C:=λb o e=>aN (ax (lt b o e) zS);let xc:∀b o,s.heap.get? b=!o->b≠D:=λb o e=>aN (lt b o e);let old:∀b o,s.heap.get? b=!o->fL.get? b=!o:=λb o e=>Jb b o (Ek▸ai _ e);let lV:∀b∈fp,∃o,s.heap.get? b=!o:=λb hb=>by
  let#[o,e,_]:=T.obj _ _ st b hb;show#[o,e]
 let JB:D∉fp:=λhm=>by
  let#[o,e]:=lV D hm;show xc D o e rfl
 let X1:Inv (i5 X pi scope N' cl C s H fp) [] (F4 σ i3 (-N')) H { s with heap:=fL } :=
  I.a07 S hc hf lV (by rw[eD];omega) rO old xP
 let rD:=T.keep _ _ _ st λb t o e=>old b o e;let Ut:∀{H':Hp},(∀b∈fp,H' b=none)->∀b∈fp,J6 (i5 X pi scope N' cl C s H fp) [] H' b:=λhn b hb=>by
  let#[f0,f1,f2,f3,f4,f5]:=hf b hb;let#[o,e]:=lV b hb;show#[hn b hb,?_,?_,.inl hb,λx c q=>(OK xP q).elim (λl z=>absurd (dP (z▸l) (ax (lt b o e) zS)) (bQ _)) λq=>f4 x c (S.cin x c q),λp hp=>?_]
  .exact uP b o e
  .exact λz=>by
    rcases aB.mp (I.U7 b z) with z|z
    .exact f1 z
    .exact f2 z
  .let mB:p∈X.pn++pi:=by simpa[i5] using hp
   show f5 p mB
 let fD:∀{H':Hp},H' D=none->J6 (i5 X pi scope N' cl C s H fp) [] H' D:=λhn=>by
  show#[hn,JC,λz=>?_,.inr (by change s⁻¹<=D;omega),λx c q=>?_,λp hp=>?_]
  .exact absurd (I.Fs (a:=D) ()) λnj=>by
    rcases aB.mp (I.U7 D z) with z|z
    .exact absurd I.lt (by rw[<- z,eD];show bQ _)
    .exact nj z
  .rcases OK xP q with l|q
   .exact λz=>absurd (ax (z▸l) zS) (bQ _)
   .let#[v,o,e,_]:=I.cell x c (S.cin x c q);show xc c o e
  .let mB:p∈X.pn++pi:=by simpa[i5] using hp
   show xc _ _ (I.pin p mB).1
 show#[rD,lp (λn s'=>∃(i:Nat) (y:α) (cJ:St) (H':Hp) (o:Obj),Inv (i5 X pi scope N' cl C s H fp) [] cJ H' s'/\tn i s'.heap/\(∀b∈fp,H' b=none)/\H' D=none/\K D y s'.heap o/\W i n y cJ H') ?_ m0 #[0,y0,_,H,o0,X1,rD,λb hb=>(hf b hb).1,I.bI.fresh (),k0,w0]];rintro n s3 ⟨i,y,mQ,H3,o,I3,wH,yu,d3,k3,w3⟩;let Qs:Inv (i5 X pi scope N' cl C s H fp) [(D,o)] mQ H3 s3:=I3.zi λp hp=>by
  let z:p=(D,o):=by simpa using hp
  subst z;let#[f0,f1,f2,_]:=fD d3;show#[G.get k3,f0,f1,f2,G.nc k3]
 let EI:∀{H':Hp},(∀b∈fp,H' b=none)->∀b∈fp,J6 (i5 X pi scope N' cl C s H fp) [(D,o)] H' b:=λ{H'} hn b hb=>by
  let#[f0,f1,f2,f3,f4,f5]:=Ut hn b hb;show#[f0,f1,f2,f3,f4,λp hp=>?_];let mB:p∈(i5 X pi scope N' cl C s H fp).pn\/p=(D,o):=by simpa using hp
  rcases mB with z|z
  .exact f5 p (ff _ z)
  .subst z;show λz=>JB (by rw[show D=b from z];show hb)
 rcases turn i n y mQ H3 w3 with⟨stop,q⟩|⟨go,hz,step⟩
 .refine cS (T.done (i5 X pi scope N' cl C s H fp) rfl rfl rfl rfl i _ s3 _ H3 _ Qs (EI yu) wH stop) ?_;rintro r s4 ⟨hr,I4⟩;subst hr;let J4:=I.WE hf I4;let Uu:J6 X pi H3 D:=by
   show#[d3,bR (by rw[<- eD];show I.lt),I.Fs (),.inr (by have:=I.sz;omega),λx c q=>?_,λp hp=>?_]
   .let#[v,o,e,_]:=I.cell x c q;show xc c o e
   .exact xc _ _ (I.pin p hp).1
  let#[mC,SH,_]:=I4.loc;show Ei s4 _ mC (G.done (ak _) J4 Uu (by have:=I.sz;omega) (G.B8 k3 (I4.pin (D,o) #[_]).1)) (q D d3) SH (by rw[d7 JC.symm];show I4.free) zS
 .refine cS (T.item (i5 X pi scope N' cl C s H fp) rfl rfl rfl rfl i _ s3 _ H3 _ Qs (EI yu) wH go) ?_;rintro r s4 ⟨u,hr,h4⟩;subst hr;show cS h4 λt s5 bx=>?_;let#[x,H5,I5,r5,y5,sQ,EH]:=bx;let Ig:=I5.pinned (EI EH) (T.obj _ _ sQ);show cS (hg _ s5 _ H5 x u _ Ig r5 (step x H5 y5)) λt s6 bx=>?_;let#[sL,H6,I6,q6]:=bx;show cS (ht _ s6 sL H6 _ I6 q6) ?_;rintro ok s7 ⟨H7,I7,q7⟩;let back:∀{zH:St} {H8:Hp} {s8:Shared},Inv (i5 X pi scope N' cl C s H fp) ([(D,o)]++yY fp s5.heap) zH H8 s8->(∀b∈fp,H8 b=none)/\tn (i+1) s8.heap/\H8 D=none/\s8.heap.get? D=!o :=
   λ{zH H8 s8} I8=>by
    let pf:∀b∈fp,∀o,s5.heap.get? b=!o->s8.heap.get? b=!o/\H8 b=none:=λb hb o e=>by
     have:=I8.pin (b,o) (bA _ (bA _ (GJ hb e)));show#[this.1,this.2.1]
    let pd:=I8.pin (D,o) #[_];show#[λb hb=>?_,T.keep _ _ _ sQ λb hb o e=>(pf b hb o e).1,pd.2.1,pd.1];let#[o,e,_]:=T.obj _ _ sQ b hb;show(pf b hb o e).2
  cases ok with
  |false =>
   let#[m',hm,w7]:=q7;let#[b1,b2,b3,b4]:=back I7;show#[m',hm,i+1,y,sL,H7,o,I7.zi λp hp=>absurd hp #[_],b2,b1,b3,G.B8 k3 b4,w7]
  |true =>
   show Ec y o _ sL H7 s7 _ _ hz (G.B8 k3 (back I7).2.2.2) (λI8=>(back I8).2.2.2) I7 q7 ?_;rintro s8 H8 y' h' t' o' I8 ⟨m',hm,w8⟩ kp k8;let#[b1,b2,b3,b4]:=back I8;let I8':Inv (i5 X pi scope N' cl C s H fp) [] sL H8 s8:=I8.zi λp hp=>absurd hp #[_];let#[f0,f1,f2,f3,f4,f5]:=fD (H':=H8) b3;show#[m',hm,i+1,y',sL,H8,o',I8'.turned (t':=t') (λb o hb e=>kp b o hb e) f0 f1 f3 f4 f5,T.keep _ _ _ b2 λb hb o e=>kp b o (λz=>JB (by rw[<- z];show hb)) e,b1,b3,k8,w8]
def KL(a:Addr)(ys:@&V)(h:Heap)(o:Obj):Prop:=∃bc n,Vals ys bc/\-ys<=sizeLine/\o=Vs bc n/\h.get? a=!o
def WM{n0:Nat}:Qt X n0 KL λx ys=>.lst ys where
 nc:=λ⟨_,_,_,_,e,_⟩ v z=>by subst e;cases z
 get:=λ⟨_,_,_,_,_,e⟩=>e
 B8:=λ⟨bc,n,h1,h2,h3,_⟩ e=>#[bc,n,h1,h2,h3,e]
 done:=λ_ I f hs ⟨bc,n,h1,h2,h3,e⟩=>I.ZF f hs h1 h2 (h3▸e)
def MM{it:Addr}{tn:Nat->Heap->Prop}{J:It}{xx:Addr->Shared->Hp->Value->Shared->Prop}{RR:Value->Addr->Result->Shared->Prop}{E:Value->Shared->Prop}{W:Nat->Nat->@&V->St->Hp->Prop}{m0:Nat}{Q:VK}(S:fA X scope N' i3 cl)(hc:X.calm=true)(hg:∀C s H,PG (i5 X pi scope N' cl C s H fp) tg g)(ht:∀C s H,nN (i5 X pi scope N' cl C s H fp) ifs tc)(he:∀C s H,PE ((i5 X pi scope N' cl C s H fp).rj (xx C s H)) elt te)(I:Inv X pi σ H s)(T:Turn X.prog X.w X.K tg J fp it tn)(st:tn 0 s.heap)(hf:∀b∈fp,J6 X pi H b)(w0:W 0 m0 [] (F4 σ i3 (-N')) H)(turn:∀ i m ys σ H,W i m ys σ H->(J.stop i H/\∀ p,H p=none->Q (.ref p) (upd H p (.lst ys))) \/
   (J.go i H/\-ys < sizeLine/\∀ x H',J.uJ i H x H'->g x σ H' λfj H2=>tc fj H2 λb H3 =>
    if b=true then te fj H3 λy H4=>∃ m',m' < m/\W (i + 1) m' (ys ++ [y]) fj H4 else ∃ m',m' < m/\W (i + 1) m' ys fj H3))(Ei:∀D C s' H' m,Inv X pi σ H' s'->Q (.ref D) H'->s'.heap.Ns C m->H' C=none->s⁻¹<=C->RR (.ref D) C (.ok .next) s')(Tu:∀D C e s',s⁻¹<=C->xx C s H e s'->notedBy (model X.prog X.w) X.A (compEnvC scope (K6 scope cl C) C X.env) (λe s'=>RR (.ref D) C (.error e) s') e s') :
  wpAny (model X.prog X.w) X.A (newList []) (λacc ic=>wpAny (model X.prog X.w) X.A (newFunctionEnv scope X.env.globals cl [] X.env.qual none .none (!X.env)) (λtZ kM =>
   tZ.frame=X.env.frame/\codeAny (model X.prog X.w) X.A (.compStart (.ListComp elt [#[tg,iter,ifs,0]] scope pos) 0 (.ref it) acc { tZ with scope:=relabel scope X.env }) (RR acc tZ.locals) kM) E ic) E s:=by
 show bU (aA5 λfL tJ oA xP=>?_);let eC:(s.heap.push { cls:=.type "list",dict:=none,data:=.seq ([]:@&Value).toArray }).objs.size=s⁻¹+1:=cZ ..
 replace eC:=eC.symm
 generalize (s.heap.push { cls:=.type "list",dict:=none,data:=.seq ([]:@&Value).toArray }).objs.size=C at *;show (λL=>#[rfl,codeAny_compStart_list L.2 (T.self _ 0 _ _ _ L.1 L.2)]) (Yy (tb:=λys σ H P=>te σ H λy H'=>P (ys ++ [y]) H')
  (body:=λP ic=>wpAny (model X.prog X.w) X.A (eval elt (compEnvC scope (K6 scope cl C) C X.env)) (λx kM=>wpAny (model X.prog X.w) X.A (call (.builtin "list.append") [.ref s⁻¹,x]) (λz mV=>P mV) (λz z=>False) kM) (notedBy (model X.prog X.w) X.A (compEnvC scope (K6 scope cl C) C X.env) λe s'=>RR (.ref s⁻¹) C (.error e) s') ic)
  WM S hc (hg C s H) (ht C s H) I T st hf w0 turn (λs' H' m=>Ei _ C s' H' m) #[_,tJ] oA xP eC #[[],0,.nil,cU _,rfl,oA _ _ (ay _ rfl)] rfl (λys o gE cJ H' s' P R' hz k hb I' q hR=>?_) (λI turn n h=>aL8 I turn n h))
 .refine aU (he C s H _ s' cJ H' _ (I'.rj _) q) (λxv s8 bx=>?_) λe s' hx=>Tu _ C e s' () hx;let#[y,H8,I8,r8,q8]:=bx;let I8:=I8.HF;let#[bc,nn,v3,z3,rfl,_]:=k;let b4:=hb I8;show cO F.slot_list_append #[_,b4,rfl] F.entry_list_append (F.args_list_append_2 _ _) (PySem.list_append _ bc.toArray nn xv (by rw[aR];have:=-v3;omega)) #[b4,?_];let q0:=PySem.IsL.update b4 (·.push xv);rw[show bc.toArray.push xv=(bc++[xv]).toArray by simp] at q0;show hR s8 H8 _ _ s8.toks _ I8 q8 (λb' u hb hu=>(cP s8.heap (Obj.mapSeq (·.push xv)) (cT hb)).trans hu) #[_,_,v3.append (.cons r8 .nil),by rw[aM,eU];omega,rfl,q0]
def Inv.b29{h':Heap}{s2:Shared}{H2:Hp}(I:Inv X pi σ H s)(hC:s2⁻¹<=C)(I2:Inv X pi σ H2 s2)(hn:H C=none)(sb:Heap.SameBut C s.heap h'):Inv X pi σ H { s with heap:=h' }:=by
 let f:=I2.sh (H':=H) hC hn;let#[f0,f1,f2,f3,f4,f5]:=f;show I.turned (t':=s.toks) (λb o hb e=>sb.extBut b o hb e) f0 f1 f3 f4 f5
def MN{M:Model}{E:Value->Shared->Prop}{a:Sem Value}{b:Sem Env}{P:Env->Prop}{Q:Value->Env->Shared->Prop}(h:wpAny M A a (λx s1=>wpAny M A b (λy s2=>P y/\Q x y s2) E s1) E s):wpAny M A a (λx s1=>wpAny M A b (λy s2=>Q x y s2) E s1) E s :=
 aU h (λw w h=>aU h (λw w h=>h.2) λw w z=>z) λw w z=>z
def Od{wi:TI}(S:fA X scope N' i3 cl)(hc:X.calm=true)(hi:PI X tg iter wi)(hg:∀pi C s H fp,PG (i5 X pi scope N' cl C s H fp) tg g)(ht:∀pi C s H fp,nN (i5 X pi scope N' cl C s H fp) ifs tc)(he:∀pi C s H fp,PE (i5 X pi scope N' cl C s H fp) elt te)(hs:∀x,foldedSetIterable iter X.env x=pure x):PE X (.ListComp elt [#[tg,iter,ifs,0]] scope pos) (GX wi i3 (-N') g tc te):=by
 intro pi s σ H Q I h;show Qz rfl hs S.yD S.kind S.names (cS (hi pi s σ H _ I h) λxv bJ fL=>cS fL λzV fm ik=>?_);let#[it,fp,tn,J,H2,e,I2,T,sR,f2,W,#[m0,w0],turn]:=ik;subst e;show MN (MM S hc (λC s H=>hg pi C s H fp) (λC s H=>ht pi C s H fp) (λC s H=>he pi C s H fp) I2 T sR f2 w0 turn ?_ λy y y y y z=>z.elim);intro D C s' H' m I' q hn hC iK;show#[m,hn,λh' sb=>#[.ref D,H',I'.b29 iK I2 hC sb,rfl,q]]
def aN8{wI px:Pos}{wi:TI}{i:Nat}(S:fA X scope N' i3 cl)(hc:X.calm=true)(hi:PI X tg iter wi)(hg:∀pi C s H fp,PG (i5 X pi scope N' cl C s H fp) tg g)(ht:∀pi C s H fp,nN (i5 X pi scope N' cl C s H fp) ifs tc)(he:∀pi C s H fp,PE (i5 X pi scope N' cl C s H fp) elt te)(hs:∀x,foldedSetIterable iter X.env x=pure x)(hN:X.Nd)(xE:X.N[i]?=!x)(hx:Loc X.env.scope x)(hf:X.fn x=true\/X.env.scope.names.lookup x=!.local) :
  PS X (.Assign [.Name x px] (.ListComp elt [#[tg,iter,ifs,0]] scope pos) wI) (vF (GX wi i3 (-N') g tc te) (vN i)):=by
 intro pi s σ H D I h;let Ab:∃b,swapsWith (.ListComp elt [#[tg,iter,ifs,0]] scope pos) (!.Name x px) wI.line X.env=pure b:=#[_,rfl]
 let#[b,Ab]:=Ab;cases b with
 |false=>show Qa hN xE hx (Od S hc hi hg ht he hs) Ab hf pi s σ H D I h
 |true =>
  rw[exec_Assign_Name_used _ _ _ _ Ab];show aa (dH (aa ?_));show aa (aU (Qz rfl hs S.yD S.kind S.names
   (cS (hi pi s σ H _ I h) λxv bJ fL=>cS fL λzV fm ik=>?_)) (λy s' hq=>aj (aj hq)) λy y e=>e)
  let#[it,fp,tn,J,H2,e,I2,T,sR,f2,W,#[m0,w0],turn]:=ik;subst e;show MN (MM (Q:=λv H1=>vN i v σ H1 D.nx) S hc (λC s H=>hg pi C s H fp) (λC s H=>ht pi C s H fp) (λC s H=>he pi C s H fp) I2 T sR f2 w0 turn ?_ λy y y y y z=>z.elim);intro Dl C s' H' m I' q hn hC iK;show wpAny_assign_Name (MC I' hN xE hx (v:=.ref Dl) rfl (?_) hf);rintro s3 I3 ⟨a,sb,ha⟩;let Tz:C≠a:=by
   let#[f0,f1,f2,f3,f4,f5]:=I2.sh (H':=H') iK hC;rcases ha with z|z
   .rw[z];show f1
   .exact λz'=>f4 _ _ z z'.symm
  let#[f0,f1,f2,f3,f4,f5]:=I2.sh (H':=H') iK hC;show#[m,hn.sameBut sb Tz,λh3 RD=>#[_,H',I3.turned (t':=s3.toks) (λb o hb e=>RD.extBut b o hb e) f0 f1 f3 f4 f5,q]]
end
end L2
namespace HT
open PySem PyProof.Rows
section
variable{prog:Program}{w:World}{A:Around}{E:Value->Shared->Prop}{s:Shared}
def Wy{t b:Addr}{ws:@&Value}{Q:Value->Shared->Prop}(ht:IsTup s.heap t (List.toArray []))(hb:IsTup s.heap b ws.toArray)(h1:Q (.ref b) s):wpAny (model prog w) A (binaryOp .Add (.ref t) (.ref b)) Q E s:=by
 let#[#[cls,dd,data,sl],ho,hc,n,hd]:=id ht;let#[#[yC,qQ,data2,mq],jY,pK,n2,hd2]:=id hb;simp only at hc hd pK hd2;subst hc hd pK hd2;show concat_meets #[_,ho,rfl] #[_,jY,rfl] jN nE jf iS (iC _ _)
   (tuple_addW0 t b (List.toArray []) ws.toArray n n2 dd qQ sl mq rfl) #[ho,jY,h1]
def ae3{t sl:Addr}{items:Array Value}{vl vu:Value}{lo hi:Option Int}{Q:Value->Shared->Prop}(ht:IsTup s.heap t items)(hs:s.heap.IsSliceOf sl vl vu .none)(pl:IsPart vl lo)(pu:IsPart vu hi)(hw:dW items.size 0 lo=0/\dW items.size items.size hi=items.size)(h:Q (.ref t) s):wpAny (model prog w) A (getItem (.ref t) (.ref sl)) Q E s:=by
 let#[os,tH,rR,xK]:=id hs;let Ee:s.TypeIs (.ref sl) "slice":=#[os,tH,rR]
 unfold getItem
 try with_reducible show bj ?_
 show aa (wpAny_sequenceKey ht.typeIs ∅ ?_);show aa (bZ ht.typeIs bT
  (bP bT ht.typeIs entry_tuple_getitem ?_ (args_tuple_getitem _ _)))
 change wpAny _ _ (Builtin.Tuple.tupleItemsOf (.ref t) >>= _) _ _ s;show aa (tupleItemsOf_ ht ?_);show aa (eY Ee ?_);show aa (U8 hs pl pu ?_);let Dj:((((dW items.size 0 lo:Nat):Int)==0&&(1:Int)==1&&(dW items.size items.size hi-dW items.size 0 lo)==items.size)=true):=by
  simp_all
 change wpAny _ _ (if(((dW items.size 0 lo:Nat):Int)==0&&(1:Int)==1&&(dW items.size items.size hi-dW items.size 0 lo)==items.size)=true then _ else _) _ _ s;rw[au Dj];show aa (aa (eY ht.typeIs (aj ?_)))
 first
  |show wpAny_bind (wpAny_rule (wpAny_bind (wpAny_pure #[_,rfl,wpAny_pure h])))
  |show wpAny_bind (wpAny_rule (wpAny_pure #[_,rfl,wpAny_pure h]))
  |show wpAny_bind (wpAny_rule (wpAny_bind (wpAny_pure (wpAny_pure #[_,rfl,wpAny_pure h]))))
end
end HT
namespace L2
open PySem PySem.Spec PyProof.Rows
section
variable{X:Cx}
def bO0(K:PySem.W.Frag):R2:=λx y H Q=>∃a b xs ys,x=.ref a/\y=.ref b/\iB K H a xs/\iB K H b ys/\-xs+-ys<=sizeLine /\
 (xs=[]->Q (.ref b) H)/\(ys=[]->Q (.ref a) H)/\(∀p,H p=none->Q (.ref p) (upd H p (.tup (xs++ys))))
def Xt:gs X (binaryOp .Add) (bO0 X.K):=by
 intro pi s σ H x y v u Q I rx ry h;let#[a,b,xs,ys,rfl,rfl,ha,hb,hz,q0,q1,q2]:=h;by_cases hx:xs=[]
 .subst hx;cases rx;cases ry;let#[bc,r1,p1,_]:=I.tuple ha;let#[oy,r2,p2,_]:=I.tuple hb;cases r1;show HT.Wy p1 p2 #[.ref b,H,I,rfl,q0 rfl]
 .exact bC8 pi s σ H _ _ v u Q I rx ry #[a,b,xs,ys,rfl,rfl,ha,hb,hx,hz,q1,λz=>q2]
abbrev Zj(K:PySem.W.Frag):V->Option Int->Option Int->Hp->VK->Prop:=λx lo hi H Q=>∃a xs,x=.ref a/\iB K H a xs /\
 (qY xs lo hi=xs->Q (.ref a) H)/\∀p,H p=none->Q (.ref p) (upd H p (.tup (qY xs lo hi)))
def VX:vZ X (Zj X.K):=by
 intro pi s σ H x v vl vu lo hi sl Q I rx hs pl pu h;let#[a,xs,rfl,hx,q0,q]:=h;by_cases hw:HT.dW (-xs) 0 lo=0/\HT.dW (-xs) (-xs) hi=-xs
 .cases rx;let#[bc,r,ht,hz]:=I.tuple hx;let hlen:bc.toArray.size=-xs:=by show r.length.symm
  show#["tuple",_,bT.lookup,ht.typeIs,?_];show HT.ae3 ht hs pl pu (by rw[hlen];show hw) #[.ref a,H,I,rfl,q0 (by unfold qY;simp_all)]
 .exact bK9 pi s σ H _ v vl vu lo hi sl Q I rx hs pl pu #[a,xs,rfl,hx,hw,q]
def aP4:m5 X (.builtin "isinstance") (λxs H Q=>∃x t c b,xs=[x,.ty c]/\iH X.K H x t/\PySem.W.kitOne X.K t (.type c)=!b/\Q (.bl b) H):=by
 intro pi s σ H xs us Q I r h;let#[x,t,c,b,rfl,hT,hk,q]:=h;let#[u,w',rfl,ru,fY]:=vals2 r;cases (show w'=Value.type c from fY);show YX I ru hT hk λtk=>#[.bl b,H,I.tok tk,rfl,q]
def YE(hc:X.calm=true):m5 X (.builtin "all") (λxs H Q=>∃(a:Addr) (bs:@&Bool),xs=[.ref a]/\gU X.K H a (bs.map V.bl)/\Q (.bl (bs.all id)) H):=by
 intro pi s σ H xs us Q I r h;let#[a,bs,rfl,ha,q]:=h;let#[u,rfl,ru]:=vals1 r;cases ru;let#[bc,rv,p,hz]:=I.list ha;show call_all_walk ?_;show dZ p.isList ?_;let eX:a≠s⁻¹:=by
  let#[o,e,_]:=id p.isList;show aN (ao e)
 let hl:=-rv;rw[ah] at hl;show#[s⁻¹,_,_,_,_,_,λi=>bs.getD i true,rfl,nU (A:=X.A.in1) (I.ok.hd hc) _ a eX bc.toArray,#[#[_,ay _ rfl,rfl,rfl],?_],?_,λh' tk k=>?_]
 .let#[o,e,q1]:=id p.isList;show#[o,ai _ e,q1]
 .intro i v s' Q' E' hP hQ;let hv:bc[i]?=!v:=by simpa using hP
  let hi:i< -bs:=by rw[hl];show(aA.mp hv).1
  let#[u',rK,wQ]:=rv.get (by rw[aJ,av hi];rfl);rw[hv] at rK;cases rK;cases (show v=Value.bool bs[i] from wQ);show cw ?_;have:bs.getD i true=bs[i]:=by simp[List.getD,hi]
  dsimp only at hQ;rw[this] at hQ;show hQ
 .let e1:(List.range bc.toArray.size).all (λi=>bs.getD i true)=bs.all id:=by
   rw[aR,<- hl];rw[cv];simp only[List.all_eq_true,List.mem_range,id];constructor
   .intro hh x hx;let#[i,hi,rfl]:=dR.mp hx;have:=hh i hi;simpa[List.getD,hi] using this
   .intro hh i hi;have:=hh bs[i] (dB hi);simpa[List.getD,hi] using this
  rw[e1];show #[.bl (bs.all id),H,I.kept (t':=tk) λb o e=>k b o (by
   intro hb;have:b=s⁻¹:=by simpa using hb
   show absurd (ao e) (by rw [this];show bQ _)) (ai _ e),rfl,q]
end
end L2
namespace HT
open PySem PyProof.Rows
end HT
namespace L2
open PySem PySem.Spec PyProof.Rows
variable{X:Cx}{e:Expr}{pos:Pos}{α:Type}{M:Model}{h0 h B h' base:Heap}{A:Around}{E:Value->Shared->Prop}{s s':Shared}{a C t ea fI L:Addr}{f:Str}{prog P:Program}{w:World}{K:PySem.W.Frag}{od:Option Addr}{Q:Unit->Shared->Prop}{o:Obj}{H H':Hp}{φ:Obj->Prop}{pi:@&(Addr×Obj)}{σ:St}{bm ir:@&Value}{newId cF:String}{rest:@&Expr}{env:Env}{a0:Value}{l:@&Env}{Ξ:XK}{k:Nat}{fd:FuncData}{ps:@&Str}{CX:ly}{su:@&Stmt}
abbrev Q8(o:Obj):Option Value:=match o.data with
 |.fields vs=>vs[2]?
 |_=>none
def DK(h h':Heap):Prop:=∀b o,h.get? b=!o->∃o',h'.get? b=!o'/\o'.dict=o.dict/\Q8 o'=Q8 o
def DK.refl(h:Heap):DK h h:=λx o e=>#[o,e,rfl,rfl]
def DK.trans{h h1 h2:Heap}(a:DK h h1)(b:DK h1 h2):DK h h2:=λx o e=>by
 let#[o1,e1,d1,c1]:=a x o e;let#[o2,e2,d2,c2]:=b x o1 e1;show#[o2,e2,d2.trans d1,c2.trans c1]
inductive KD{α:Type}:Sem α->Prop
 |pure (a:α):KD (.pure a)
 |raise (e:Value):KD (.raise e)
 |wB (w:String):KD (.unsupported w)
 |rule {t:String} {k:Unit->Sem α} (h:∀u,KD (k u)):KD (.rule t k)
 |at_ {p:Pos} {k:Unit->Sem α} (h:∀u,KD (k u)):KD (.at p k)
 |load {a:Addr} {p:Option Value} {k:Obj->Sem α} (h:∀o,KD (k o)):KD (.load a p k)
 |update {a:Addr} {p:Option Value} {f:Obj->Obj} {k:Unit->Sem α} (hf:∀o,((f o).dict=o.dict/\Q8 (f o)=Q8 o)/\(o.isFreed=false->(f o).isFreed=false)) (h:∀u,KD (k u)):KD (.update a p f k)
 |alloc {o:Obj} {k:Addr->Sem α} (h:∀u,KD (k u)):KD (.alloc o k)
 |point {l:@&Value} {k:Unit->Sem α} (h:∀u,KD (k u)):KD (.point l k)
 |ask {k:Setting->Sem α} (h:∀u,KD (k u)):KD (.ask k)
 |stack {k:@&(Code×Pos)->Sem α} (h:∀u,KD (k u)):KD (.stack k)
def KD.bind{α β:Type}{m:Sem α}(hm:KD m){f:α->Sem β}(hf:∀a,KD (f a)):KD (m >>= f):=by
 change KD (Sem.bind m f)
 induction hm with
 |pure a=>show hf a
 |raise e=>show .raise e
 |wB w=>show .wB w
 |rule h ih=>show .rule ih
 |at_ h ih=>show .at_ ih
 |load h ih=>show .load ih
 |update xH h ih=>show .update xH ih
 |alloc h ih=>show .alloc ih
 |point h ih=>show .point ih
 |ask h ih=>show .ask ih
 |stack h ih=>show .stack ih
def Yu{Γ:PySem.Ctx}{t:Sem α}(k:KD t):∀{Q:α->Pos->Shared->Prop} {E:Value->Pos->Shared->Prop} {p:Pos} {s:Shared},DK h0 s.heap->Sem.wp M Γ t Q E p s ->
  Sem.wp M Γ t (λa p' s'=>Q a p' s'/\DK h0 s'.heap) (λe p' s'=>E e p' s'/\DK h0 s'.heap) p s:=by
 induction k with
 |pure a=>intro Q E p s d h;show#[h,d]
 |raise e=>intro Q E p s d h;show#[h,d]
 |wB w=>intro Q E p s d h;show h.elim
 |rule h ih=>intro Q E p s d h;show ih _ d h
 |at_ h ih=>intro Q E p s d h;show ih _ d h
 |load h ih =>
  intro Q E p s d h;let#[o,e,h]:=h;show#[o,e,ih _ d h]
 |@update a p f k hf h ih =>
  intro Q E p s d h;let#[e,h]:=h;show#[e,ih _ (d.trans λb o eb=>?_) h];change ∃o',(s.heap.update a f).get? b=!o'/\_;by_cases hb:b=a
  .subst hb;let nf:o.isFreed=false:=(Heap.get?_some_iff.mp eb).2;show#[_,aT f eb ((hf o).2 nf),(hf o).1]
  .exact#[o,(mO _ _ _ _ hb).trans eb,rfl,rfl]
 |alloc h ih=>intro Q E p s d h;show ih _ (d.trans λb o eb=>#[o,ai _ eb,rfl,rfl]) h
 |point h ih=>intro Q E p s d h;show ih _ d h
 |ask h ih=>intro Q E p s d h;show ih _ d h
 |stack h ih=>intro Q E p s d h;show ih _ d h
def m6{t:Sem α}{Q:α->Shared->Prop}(k:KD t)(h:wpAny M A t Q E s) :
  wpAny M A t (λa s'=>Q a s'/\DK s.heap s'.heap) (λe s'=>E e s'/\DK s.heap s'.heap) s:=λΓ p i=>Yu k (DK.refl _) (h Γ p i)
def zg(a:α):KD (pure a:Sem α):=.pure a
def bT5(w:String):KD (unsupported w:Sem α):=.wB w
def bE0(a:Addr):KD (load a):=.load λo=>.pure o
def WX:KD stack:=.stack λo=>.pure o
def Y'{i:Nat}(v:Value)(hi:i≠2)(o:Obj):((Obj.mapFields (·.setIfInBounds i v) o).dict=o.dict/\Q8 (Obj.mapFields (·.setIfInBounds i v) o)=Q8 o)/\(o.isFreed=false->(Obj.mapFields (·.setIfInBounds i v) o).isFreed=false):=by
 let#[c,d,dt,sl]:=o;cases dt<;>first|show#[#[rfl,rfl],λh=>h]|show#[#[rfl,mn hi],λh=>h]
def Ln{p:Option Value}{f:Obj->Obj}(hf:∀o,((f o).dict=o.dict/\Q8 (f o)=Q8 o)/\(o.isFreed=false->(f o).isFreed=false)):KD (Sem.update a p f λu=>.pure u):=.update hf λu=>.pure u
local macro_rules | `(tactic| walk_at "k1") => `(tactic| first
 |show zg _
 |show .raise _
 |show bT5 _
 |show .wB _
 |show bE0 _
 |show zU _ _
 |show WX
 |assumption
 |(show KD.bind ?_ λ_=>?_)
 | split)
def FY(v:Value)(i:Nat):KD (field v i):=by
 unfold field fieldsOf
 repeat' walk_at "k1"
def Nh(v:Value)(i:Nat)(x:Value)(hi:i≠2:=by decide):KD (setField v i x):=by
 unfold setField updateField
 repeat' (first|show Ln (Y' _ hi)|walk_at "k1")
def C0(v:Value)(fr:Option Addr):KD (setFlight v fr):=by
 unfold setFlight
 repeat' (first|show FY _ _|show Nh _ _ _|walk_at "k1")
def YZ:KD underTheClaimsCaller:=by
 unfold underTheClaimsCaller
 repeat' walk_at "k1"
def bE1(env:Env)(b:Bool)(l:@&Env):KD (keptBack env b l):=by
 unfold keptBack
 repeat' (first|show YZ|walk_at "k1")
def Zb(env:Env)(l:@&Env):KD (behindIsImport env l):=by
 unfold behindIsImport
 repeat' (first|show FY _ _|walk_at "k1")
def OQ:∀l:@&Env,KD (readyFrames l)
 |[]=>zg _
 |env::outer=>by
  unfold readyFrames
  repeat' (first | show Zb _ _ | show bE1 _ _ _ | show OQ _ | show Ln (λo=>#[#[rfl,by
   let#[c,d,dt,sl]:=o;cases dt <;> rfl],λh=>by
   let#[c,d,dt,sl]:=o;cases dt <;> first | rfl | show h]) | walk_at "k1")
def Za:KD frameEnvs:=by
 unfold frameEnvs
 repeat' walk_at "k1"
def aZ6(env:Env):KD (PySem.frameOf env):=by
 unfold PySem.frameOf;show KD.bind Za λl=>?_;show KD.bind ?_ λx=>?_
 .cases hl:l.dropWhile (·.frame != env.frame) with
  |nil=>show zg _
  |cons e r =>
   unfold frameObject;show KD.bind (OQ _) λy=>zg _
 .repeat' walk_at "k1"
def WW(f:Addr)(b:Bool):KD (entryPlaceOf f b):=by
 unfold entryPlaceOf
 repeat' walk_at "k1"
def WV(a b c d e:Value)(l:@&Value):KD (EntryCells.newEntry a b c d e l):=by
 unfold EntryCells.newEntry newFields newObj
 repeat' (first|walk_at "k1"|show .alloc λx=>zg _|unfold newObjAsIs)
def FL(e:Value)(env:Env):KD (noteFrame e env):=by
 unfold noteFrame
 repeat' (first|show FY _ _|show Nh _ _ _|show aZ6 _|show WW _ _|show WV _ _ _ _ _ _|walk_at "k1")
def N7(env:Env)(e:Value):KD (leaving env e):=by
 unfold leaving;show KD.bind (FL _ _) λx=>C0 _ _
noncomputable abbrev m7(C t:Addr)(od:Option Addr):Obj:={ cls:=.ref C,dict:=od,data:=.fields (List.toArray [.ref t,.none,.none,.none,.bool false,.none]) }
abbrev E1:@&Value->Bool
 |[.type a,.type b,.type c,.type d]=>a=="ValueError"&&b=="Exception"&&c=="BaseException"&&d=="object"
 |.ref _::r=>E1 r
 |_=>false
def My(self:Value):∀{l:@&Value},E1 l=true->refuseLoop self "__setattr__" l=pure Unit.unit
 |[.type a,.type b,.type c,.type d],e=>by
  simp only[E1,Bool.and_eq_true,beq_iff_eq] at e;let#[#[#[rfl,rfl],rfl],rfl]:=e;show PySem.F.store_ValueError.passes self
 |.ref c::r,e=>by rw[refuseLoop_ref];show My self (by unfold E1 at e;show e)
def Qk:∀{l:@&Value},E1 l=true->l.contains (.type "object")=true
 |[.type a,.type b,.type c,.type d],e=>by
  simp only[E1,Bool.and_eq_true,beq_iff_eq] at e;let#[_,rfl]:=e;simp
 |.ref c::r,e=>by rw[hZ,Qk (l:=r) (by unfold E1 at e;show e),lP]
def OD:∀{l:@&Value},E1 l=true->l.contains (.type "BaseException")=true
 |[.type a,.type b,.type c,.type d],e=>by
  simp only[E1,Bool.and_eq_true,beq_iff_eq] at e;let#[#[#[rfl,rfl],rfl],rfl]:=e;simp
 |.ref c::r,e=>by rw[hZ,OD (l:=r) (by unfold E1 at e;show e),lP]
def yP(K:PySem.W.Frag)(C:Addr):Bool:=(PySem.W.clsIn K C).any λcd=>E1 cd.mro
section
variable{x:Addr}{v:Value}
def bP8{ox:Obj}{od:Option Obj}{tk:Tok}{R:Result->Shared->Prop}(X:K.In s.heap)(J:PySem.W.InstAt s.heap x ox C od)(hp:yP K C=true)(ht:PySem.W.takerIn K C f=!none)(h:∀b,wpAny (model prog w) A.in1 (Builtin.ObjectAttr.storeInOwnDict (.ref x) (.ref C) (.str f tk) f v b) (λfin s'=>match fin with|Fin.done f=>R (.ok f) s'|Fin.again c'=>c'.quiet=true/\codeAny (model prog w) A c' R s') (λe s'=>R (.error e) s') s) :
  codeAny (model prog w) A (.call (.builtin "object.__setattr__") #[[.ref x,.str f tk,v],[]]) R s:=by
 let SF:=PySem.F.store_object;let#[cd,hc,ho]:=iQ hp;let ne:cd.mro.isEmpty=false:=by cases q:cd.mro with|nil=>rw[q] at ho;cases ho|cons _ _=>rfl
 let L1:PySem.W.Looks (model prog w) s.heap (isInstance (.ref x) (.type "object")) true:=J.type.andThen (Ii X (by unfold PySem.W.mroIn;rw[hc,Option.bind_some,aq (by rw[ne];decide),Qk ho]));show lH SF.slot.plain SF.entry (@PySem.W.check_slot (model prog w) _ _ s "object.__setattr__" "object" "__setattr__" (.ref x) [.str f tk,v] [] _ SF.kind SF.split L1 (SF.args (.ref x) (.str f tk) v) ?_);let#[attr,ha,hr]:=ae.mp ht;let L2:PySem.W.Looks (model prog w) s.heap (mroOf (.ref C)) cd.mro:=(ke X hc).andThen .now;let L3:PySem.W.Looks (model prog w) s.heap (Builtin.ObjectAttr.storeTaker? attr) none:=by
  cases attr with
  |none=>show .now
  |some a =>
   let#[b,hb,e]:=ag.mp hr;show(PySem.W.looks_takesIn X hb).andThen ?_;cases b
   .exact .now
   .cases e
 rw[PySem.W.osa_eq,refuse_eq];show aa (aa (J.type.here (aa (L2.here ?_))));rw[My _ ho];show aj (aa (J.type.here (aa ((gy X ha).here (aa (L3.here ?_))))));show h _
def VM(X:K.In s.heap)(he:s.heap.get? x=!m7 C t none)(hs:PySem.W.findIn K (.ref C) "__setattr__"=!!(.builtin "object.__setattr__"))(hp:yP K C=true)(ht:PySem.W.takerIn K C f=!none)(hh:PySem.W.hasDictIn K C=true)(h:∀h' tk,h'.get? x=!m7 C t (some s⁻¹)->h'.Ns1 s⁻¹ (λy=>if y=f then some v else none)->(∀b o,b≠x->s.heap.get? b=!o->h'.get? b=!o)->Q Unit.unit { s with heap:=h',toks:=tk }) :
  wpAny (model prog w) A (setAttr (.ref x) f v) Q E s:=by
 let J:PySem.W.InstAt s.heap x (m7 C t none) C none:=#[he,rfl,rfl,trivial]
 show PySem.W.set_plain X J hs ?_;show bP8 X J hp ht λb=>?_;let#[cd,hc,hd]:=iQ hh;let IY:x≠s⁻¹:=aN (ao he);let Js:=ai { cls:=.type "dict",data:=.dict (List.toArray []) } he;let e1:(s.heap.push { cls:=.type "dict",data:=.dict (List.toArray []) }).get? s⁻¹=some { cls:=.type "dict",data:=.dict (List.toArray []) }:=ay _ rfl;show aa (aj (aa (aa (wpAny_loadPart he (aa (QE (s:={ s with toks:=s.toks+1 }) (ke X hc) ?_))))));rw[hd];show aa (wpAny_alloc ?_);show aa (wpAny_update (o:=m7 C t none) Js (aj (aa (aj (aa ?_)))));generalize hg:(s.heap.push { cls:=.type "dict",data:=.dict (List.toArray []) }).update x (λo=>{ o with dict:=some s⁻¹ })=g1;let g0:g1.get? s⁻¹=some { cls:=.type "dict",data:=.dict (List.toArray []) }:=by rw[<- hg];show(mO _ _ _ _ IY.symm).trans e1
 let gx:g1.get? x=!m7 C t (some s⁻¹):=by rw[<- hg];show aT _ Js rfl
 let gk:∀b o,b≠x->s.heap.get? b=!o->g1.get? b=!o:=λb o hb e=>by rw[<- hg];show(mO _ _ _ _ hb).trans (ai _ e)
 let n0:g1.Ns s⁻¹ (λz=>none):=#[_,(List.toArray []),_,g0,rfl,λe he=>absurd he #[_],λz=>rfl]
 show wpAny_nsSet1 (s:={ s with heap:=g1,toks:=s.toks+1 }) (Heap.Ns1.of_empty n0) λh' n1 sb=>?_;let#[oD,Uv,Uw,DA,DV,DZ]:=n1.count (PySem.Within.cons f v PySem.Within.nil);show aa (wpAny_lookBehind DA (by rw[DV];show pastItsLine_dict (aL DZ (by rw[aP,nX,gi];omega))) ?_);show aj (h _ _ ((sb.2 _ IY).trans gx) n1 λb o hb e=>(sb.2 b (aN (ao e))).trans (gk b o hb e))
def aP2{cd:ClassData}{rF:Value}(X:K.In s.heap)(hx:s.heap.get? x=!o)(hc:o.cls=.ref C)(jX:PySem.W.clsIn K C=!cd)(hm:E1 cd.mro=true)(hq:Q Unit.unit s) :
  wpAny M A (checkBuiltinCall "BaseException.__getattribute__" #[[.ref x,rF],[]]) Q E s:=by
 let hk:builtinKind "BaseException.__getattribute__"=!.slot:=by decide +kernel
 let tE:splitId "BaseException.__getattribute__"=!("BaseException","__getattribute__"):=by decide +kernel
 let ha:=F.args_bexc_ga (.ref x) rF;let ne:cd.mro.isEmpty=false:=by cases q:cd.mro with|nil=>rw[q] at hm;cases hm|cons _ _=>rfl
 let hB:cd.mro.contains (.type "BaseException")=true:=OD hm;let T:PySem.W.Looks M s.heap (typeOf (.ref x)) (.ref C):=hc▸(PySem.W.Looks.ld hx).andThen .now;let L1:PySem.W.Looks M s.heap (isInstance (.ref x) (.type "BaseException")) true:=T.andThen (Ii X (by unfold PySem.W.mroIn;rw[jX,Option.bind_some,aq (by rw[ne];decide),hB]));simp only[checkBuiltinCall,hk,tE];show aa (L1.here ?_)
 wp_walk
 show hq
def bF2{ox od:Obj}{b:Bool}{Q:Value->Shared->Prop}(X:K.In s.heap)(J:PySem.W.InstAt s.heap x ox C (!od))(DQ:PySem.W.findIn K (.ref C) "__getattribute__"=!!(.builtin "BaseException.__getattribute__"))(SU:PySem.W.findIn K (.ref C) "__getattr__"=!none)(hp:yP K C=true)(hf:PySem.W.findObj K C (!od) f=!.value v)(hh:PySem.W.handedIn v=true)(h:Q v { s with toks:=s.toks+1 }) :
  wpAny (model prog w) A (getAttr (.ref x) f b) Q E s:=by
 let#[mB,g,d,t,os]:=s;let#[cd,jX,hm]:=iQ hp;let L0:=J.type (M:=model prog w);let L1:=gy (M:=model prog w) X DQ;let L2:=gy (M:=model prog w) X SU;let L3:=PySem.W.looks_find (M:=model prog w) X J hf;let f3:=F.excAttr_ValueError.ga.bind (.ref x);let Su:(b&&onTheHeap (Value.builtin "BaseException.__getattribute__"))=false:=by cases b<;>rfl
 let tw:(Value.builtin "BaseException.__getattribute__"==Value.builtin "object.__getattribute__")=false:=by decide +kernel
 let Ss:(onTheHeap (Value.ref C)&&Value.builtin "BaseException.__getattribute__"==Value.builtin "object.__getattribute__")=false:=by rw[tw];rfl
 unfold getAttr getAttrBy;show aa (wpAny_mkText (bj (aa (L0.at (aa (L1.at ?_))))));dsimp only;rw[Ss];change wpAny _ _ (getAttrByItsOwn _ _ _ _ _ _) _ _ _;unfold getAttrByItsOwn hookBefore;show aa (L2.at (aa (jz (bj ?_))));unfold callGetattribute;rw[Su];change wpAny _ _ (boundAndCalled _ _ _) _ _ _;unfold boundAndCalled;rw[f3];show aa (aj (iM (lH F.excAttr_ValueError.ga.plain F.entry_bexc_ga (aP2 X J.at_ J.cls jX hm ?_))));unfold Builtin.«object.__getattribute__» slotArgs
 repeat (first|with_reducible show L0.at ?_|with_reducible show L3.at ?_|wp_step)
 change wpAny _ _ (handedOut v) _ _ _;rw[PySem.W.handedOut_of hh];show aj h
end
def E4{b:Addr}{o:HO}(h:H a=!o)(n:H b=none):b≠a:=λz=>by rw[z,h] at n;cases n
noncomputable abbrev XE(ea:Addr)(φ:Obj->Prop):HO:=.ext λh=>∃o,h.get? ea=!o/\φ o
def XE.get(ok:gJ P w H h)(e:H ea=!XE ea φ):∃o,h.get? ea=!o/\φ o:=(ok _ _ e).1
def Hd(e:h.get? ea=!o)(p:φ o):l0 P w H h ea (XE ea φ) :=
 #[#[o,e,p],#[o,e],(by rintro _ _ ⟨o,e,p⟩ k;show #[o,k _ e,p])]
section
variable{dA:Addr}{fs:@&(Str×V)}{v:V}
def Inv.HD(I:Inv X pi σ H s)(hn:H ea=none)(he:s.heap.get? ea=!o)(p:φ o)(h0:X.cQ.heap.get? ea=none)(hl:ea≠X.env.locals)(hc:∀x c,X.env.cells.lookup x=!c->c≠ea)(hp:∀p∈X.pn++pi,p.1≠ea) :
  Inv X pi σ (upd H ea (XE ea φ)) s:=by
 let tup:∀b u,H b=!u->upd H ea (XE ea φ) b=!u:=λb u e=>by rw[d7 (j7 e hn)];show e
 show#[I.ok,I.os,I.bare,#[I.base.keep,I.base.slot,λb o e n1 n2=>?_,I.base.there,λb xs e=>tup _ _ (I.base.iD b xs e),λb o u e=>tup _ _ (I.base.iq b o u e),λb ps e=>?_],I.loc,I.cell,?_,λx c e=>?_,λq hq=>?_,λa u e=>?_,I.len,I.sg]
 .have:b≠ea:=λz=>by rw[z,h0] at e;cases e
  rw[d7 this];show I.base.free b o e n1 n2
 .let#[more,q]:=I.base.iE b ps e;show#[more,tup _ _ q]
 .rw[d7 hl.symm];show I.free
 .rw[d7 (hc x c e)];show I.eI x c e
 .let#[p1,p2,p3]:=I.pin q hq;show#[p1,by rw[d7 (hp q hq)];show p2,p3]
 .by_cases ha:a=ea
  .subst ha;rw[f9] at e;cases e;show Hd he p
  .rw[d7 ha] at e;show(I.bI a u e).B8 (λb u y h=>h) (λb hb=>tup _ _ hb) (λb xs hb=>tup _ _ hb)
set_option tactic.hygienic true in
def Inv.FU(I:Inv X pi σ H' s)(he:H' ea=!XE ea φ):Inv X pi σ (λb=>if b=ea then none else H' b) s:=by
 let nn:∀b,H' b=none->(λb=>if b=ea then none else H' b) b=none:=λb h=>by
  dsimp only;split
  .rfl
  .exact h
 let ss:∀b u,H' b=!u->u≠XE ea φ->(λb=>if b=ea then none else H' b) b=!u:=λb u h n=>by
  dsimp only;split
  .rename_i z;rw[z,he] at h;show absurd (aD h).symm n
  .exact h
 show#[I.ok,I.os,I.bare,#[I.base.keep,I.base.slot,λb o e n1 n2=>nn _ (I.base.free b o e n1 n2),I.base.there,λb xs e=>ss _ _ (I.base.iD b xs e) #[_],λb o u e=>ss _ _ (I.base.iq b o u e) #[_],λb ps e=>?_],I.loc,I.cell,nn _ I.free,λx c e=>nn _ (I.eI x c e),λq hq=>?_,λa u e=>?_,I.len,I.sg]
 .let#[more,q]:=I.base.iE b ps e;show#[more,ss _ _ q #[_]]
 .let#[p1,p2,p3]:=I.pin q hq;show#[p1,nn _ p2,p3]
 .split at e
  .cases e
  .exact(I.bI a u e).B8 (λb u y h=>h) (λb hb=>ss _ _ hb #[_]) (λb xs hb=>ss _ _ hb #[_])
structure O3(K:PySem.W.Frag)(C:Addr)(f:Str):Prop where
 ve:yP K C=true
 ga:PySem.W.findIn K (.ref C) "__getattribute__"=!!(.builtin "BaseException.__getattribute__")
 gx:PySem.W.findIn K (.ref C) "__getattr__"=!none
 sa:PySem.W.findIn K (.ref C) "__setattr__"=!!(.builtin "object.__setattr__")
 hd:PySem.W.hasDictIn K C=true
 no:PySem.W.findIn K (.ref C) f=!none
def O3.GZ(c:O3 K C f):PySem.W.takerIn K C f=!none:=by unfold PySem.W.takerIn;rw[c.no];rfl
def bF1{b:Bool}{Q:Value->Shared->Prop}(I:Inv X pi σ H s)(e:H ea=!XE ea φ)(Dg:∀o,φ o->o.cls=.ref C/\o.dict=!dA/\PySem.W.notCls o=true)(c:O3 X.K C f)(ed:H dA=!.xd fs)(l:fs.lookup f=!v)(h:∀u s',Inv X pi σ H s'->RelV v u->Q u s'):wpAny (model X.prog X.w) X.A (getAttr (.ref ea) f b) Q X.xe s:=by
 let#[o,ho,p]:=XE.get I.bI e;let#[h1,h2,h3]:=Dg o p;let#[mA,n,r]:=I.bI dA _ ed;let#[u,hu,ru]:=C4.some_of (v:=v) (o:=mA f) (by rw[<- l];show r f);let#[od,eo,lk]:=Gq n;let J:PySem.W.InstAt s.heap ea o C (!od):=#[ho,h1,h3,by rw[h2];show eo]
 show bF2 I.gC J c.ga c.gx c.ve (Ij c.hd c.no rfl (by rw[lk,hu])) (Mj ru) (h u _ (I.tok _) ru)
def VQ{u:Value}(I:Inv X pi σ H s)(e:H ea=!XE ea (·=m7 C t none))(c:O3 X.K C f)(rv:RelV v u)(h:∀dA s',H dA=none->Inv X pi σ (upd (upd H dA (.xd [(f,v)])) ea (XE ea (·=m7 C t (!dA)))) s'->Q Unit.unit s'):wpAny (model X.prog X.w) X.A (setAttr (.ref ea) f u) Q X.xe s:=by
 let#[o,ho,rfl]:=XE.get I.bI e;show VM I.gC ho c.sa c.ve c.GZ c.hd λh' tk vg ns kp=>h s⁻¹ _ (I.bI.fresh (ak _)) ?_;let hn:H s⁻¹=none:=I.bI.fresh (ak _);let eX:s⁻¹≠ea:=bR (ao ho);let nd:∀b u,H b=!u->b≠s⁻¹:=λb u q=>j7 q hn;let up:∀b u,H b=!u->b≠ea->upd (upd H s⁻¹ (.xd [(f,v)])) ea (XE ea (·=m7 C t (some s⁻¹))) b=!u:=λb u q n=>by rw[d7 n,d7 (nd b u q)];show q
 let own:∀b y,H b=!.own y->b≠ea:=λb y q z=>by rw[z,e] at q;cases q
 let tup:∀b xs,H b=!.tup xs->b≠ea:=λb xs q z=>by rw[z,e] at q;cases q
 show I.un #[λb o q n x x=>kp b o (E4 e n) q,λb o q n x x=>#[o.slots,kp b o (E4 e n) q],λb o q n x=>?_,λb o q x=>?_,λb xs q=>up b _ q (tup b xs q),λb o u q=>up b _ q λz=>(by rw[z,e] at q;cases q),λb ps q=>#[(List.toArray []),by rw[QM];show up b _ q λz=>by rw[z,e] at q;cases q]] λa o q=>?_
 .rw[d7 (E4 e n),d7 (aN (ao q))];show n
 .by_cases z:b=ea
  .subst z;show#[_,vg]
  .exact#[o,kp b o z q]
 .by_cases z:a=ea
  .subst z;rw[f9] at q;cases q;show Hd vg rfl
  .rw[d7 z] at q;by_cases z2:a=s⁻¹
   .subst z2;rw[f9] at q;cases q;show#[_,ns,λg=>?_];change C4 (List.lookup g [(f,v)]) _;rw[dz];by_cases hg:g=f
    .subst hg;simp only[beq_self_eq_true,if_true];show rv
    .rw[aq hg,dX.mpr hg];show True.intro
   .rw[d7 z2] at q;show(I.bI a o q).B8 (λb u hb r=>kp b u ?_ r) (λb hb=>up b _ hb (own b a hb)) λb xs hb=>up b _ hb (tup b xs hb);rcases hb with rfl|hb
    .exact z
    .exact own b a hb
end
section
variable{nm q:Str}{N:Addr}{bs:@&Value}{hdct:Bool}{sn:@&Str}{sub:@&Value}{ab:Bool}{col:Option Bool}{dd:Option Addr}{k0 k1 k2 k3 k5:Option Value}{B:String}{mN:Str->Option Value}{rest:@&Value}{oI:Obj}
variable{g:Array GenState}{d:Drawn}{t:Nat}{os:OsState}
def ao7{Q:Fin->Shared->Prop}(F:ExcBaseFacts B newId cF ir)(T:OwnTail h ir bm)(hC:h.get? C=!excClassObj nm q C N bs bm hdct sn sub ab col dd k0 k1 k2 k3 k5 newId)(hn:h.Ns N mN)(hi:mN "__init__"=!.ref fI)(hf:h.get? fI=!oI)(hc:oI.cls=.type "function")(hq:∀h' e,Heap.MadeExcOf h h' e (.ref C) rest->wpAny (model prog w) A (call (.ref fI) (.ref e::rest)) (λr s'=>r=.none/\Q (.done (.ret (.ref e))) s') E #[h',g,d,t,os])(hr:-rest<=sizeLine) :
  wpAny (model prog w) A (Builtin.«type.__call__» #[.ref C::rest,[]]) Q E #[h,g,d,t,os]:=by
 repeat (first|with_reducible show cN hC ?_|with_reducible show wpAny_madeBy_exc hC ?_|wp_step)
 show codeAny_call_builtin_code (og _ F.quiet) (wpAny_check_new_subT F T hC (codeAny_exc_new_subT F T hC ?_ hr));change wpAny _ _ _ _ _ _;generalize hg:((h.push { cls:=.type "tuple",data:=.seq rest.toArray }).push (m7 C h.objs.size none))=hh;let kp:∀b o,h.get? b=!o->hh.get? b=!o:=λb o z=>by rw[<- hg];show ai _ (ai _ z)
 let he:hh.get? (h.objs.size+1)=!m7 C h.objs.size none:=by rw[<- hg];show Heap.get?_push_at (by rw[cZ]) rfl
 let ht:hh.get? h.objs.size=some { cls:=.type "tuple",data:=.seq rest.toArray }:=by rw[<- hg];show ai _ (Heap.get?_push_at rfl rfl)
 let JD:=kp _ _ hC;let Tb:=kp _ _ hf;let Tg:(Value.ref C::bm).contains (.ref C)=true:=by simp
 unfold isInstance
 repeat (first|with_reducible show cN he ?_|(with_reducible show mJ JD ?_;rw[Tg])|wp_step)
 change wpAny _ _ (typeLookup (.ref C) _) _ _ _;show wpAny_typeLookup_tail JD (hn.keeps kp) (T.keeps kp) F.mroIs F.init.lookup ?_;rw[hi];show bj (aa ?_);unfold bindSpecial;show aa (eY (T:="function") #[_,Tb,hc] ?_);rw[au ∅];show aj (aa (aU (hq _ (h.objs.size+1) #[kp,lO (jP _),h.objs.size,he,lO (ak _),ht]) (λr s' z=>?_) λx x z=>z));let#[rfl,z]:=z
 wp_walk
 show z
def MK{Q:Value->Shared->Prop}(F:ExcBaseFacts B newId cF ir)(T:OwnTail h ir bm)(hC:h.get? C=!excClassObj nm q C N bs bm hdct sn sub ab col dd k0 k1 k2 k3 k5 newId)(hn:h.Ns N mN)(hi:mN "__init__"=!.ref fI)(hf:h.get? fI=!oI)(hc:oI.cls=.type "function")(hq:∀h' e,Heap.MadeExcOf h h' e (.ref C) rest->wpAny (model prog w) (A.under (.builtin "type.__call__" #[.ref C::rest,[]])) (call (.ref fI) (.ref e::rest)) (λr s'=>r=.none/\Q (.ref e) s') E #[h',g,d,t,os])(hr:-rest<=sizeLine) :
  wpAny (model prog w) A (call (.ref C) rest) Q E #[h,g,d,t,os]:=by
 let f1:=tc_lookup;let f2:=tc_bind (.ref C);let hT:(#[h,g,d,t,os]:Shared).TypeIs (.ref C) "type":=#[_,hC,rfl]
 show iM (wj (show wpAny _ _ (callAny (.ref C) _) _ _ _ from ?_))
 repeat (any_goals (first|assumption|with_reducible show cN hC ?_|wp_step))
 show#[rfl,codeAny_call_builtin_at (og _ #[]) entry_typeCall (wpAny_check_type_call_sub hC (ao7 F T hC hn hi hf hc (λh' e hm=>hq h' e hm) hr))]
def a62{x:Sem Value}{Q:Flow->Shared->Prop}(hb:bm.contains (.type "BaseException")=true)(hh:A.handled=none)(h:wpAny (model prog w) A x (λv bJ=>∃e t od,v=.ref e/\bJ.heap.get? C=!excClassObj nm q C N bs bm hdct sn sub ab col dd k0 k1 k2 k3 k5 newId/\bJ.heap.get? e=!m7 C t od/\E (.ref e) bJ) E s) :
  wpAny (model prog w) A (raiseStmt env (!x) none) Q E s:=by
 let D':(Value.ref C::bm).contains (.type "BaseException")=true:=by rw[hZ,hb,lP]
 unfold raiseStmt;show aa (aU h (λv bJ z=>?_) λy y x=>x);let#[e,t,od,rfl,hC,he,hE]:=z;let#[hp,g,d,tk,os]:=bJ
 repeat (first|with_reducible show cN he ?_|with_reducible show cN hC ?_|(with_reducible show mJ hC ?_;rw[D'])|wp_step)
 show wpAny_raiseNew_none hh hE
end
def l0.get:∀{o:HO},l0 P w H h a o->∃ob,h.get? a=!ob
 |.lst _,x=>by let#[_,_,_,_,e]:=x;show#[_,e]
 |.tup _,x=>by let#[_,_,_,o,e,_]:=x;show#[o,e]
 |.dK _,x=>by let#[_,_,_,_,o,es,ep,e,_]:=x;show#[o,e]
 |.dT _,x=>by let#[_,_,_,_,o,es,ep,e,_]:=x;show#[o,e]
 |.set _ _,x=>by let#[o,es,ep,t,e,_]:=x;show#[o,e]
 |.ins _ _ _,x=>by let#[_,_,_,e,_]:=x;show#[_,e]
 |.own _,x=>x
 |.xd _,x=>by let#[mA,n,_]:=x;let#[od,e,_]:=Gq n;show#[od,e]
 |.qd _ _,x=>by let#[_,_,_,e]:=x;show#[_,e]
 |.ky _ _,x=>#[_,x.1]
 |.rA _,x=>#[_,x]
 |.met _ _,x=>#[_,x]
 |.ext _,x=>x.2.1
abbrev HJ(H':Hp)(h0:Heap)(l:@&Env)(e:Value)(C:Addr)(h:Heap):Prop :=
 ∃(ea:Addr) (a0:Value) (B:Heap),e=.ref ea/\Heap.FlyingW B l ea (.ref C) a0 h/\∀b o,h.get? b=!o->b∉fE l->(H' b≠none\/∃o0,h0.get? b=!o0)->B.get? b=!o
def ml(e:Value)(od:Option Addr)(h:Heap):Prop:=∃ea ob,e=.ref ea/\h.get? ea=!ob/\ob.dict=od/\(od=none->Q8 ob=!.none)
def ml.keep{e:Value}(d:ml e od h)(k:DK h h'):ml e od h':=by
 let#[ea,ob,r,h1,h2,h3]:=d;let#[o',e1,e2,e3]:=k ea ob h1;show#[ea,o',r,e1,e2.trans h2,λz=>e3.trans (h3 z)]
abbrev gF(P:Program)(w:World):ly:=λouter H s E e s'=>∃(C:Addr) (od:Option Addr) (H':Hp),s'.os=s.os/\AllBare s'.gens/\Un (fE outer) [] H H' s.heap s'.heap/\gJ P w H' s'.heap/\HJ H' s.heap outer e C s'.heap/\ml e od s'.heap/\E (.ref C) od H'
section
variable{E:XK}{e:Value}
def Inv.flew(I:Inv X pi σ H s)(h:gF X.prog X.w X.stack H s E e s'):∃C od H',Inv X pi σ H' s'/\HJ H' s.heap X.stack e C s'.heap/\ml e od s'.heap/\E (.ref C) od H':=by
 let#[C,od,H',ho,hb,hu,bI,fl,hE]:=h;show#[C,od,H',I.HP (ch:=[]) ho hu bI hb #[_],fl,hE]
def C7(I:Inv X pi σ H s){b:Addr}(hb:b∈fE X.stack):∃o,s.heap.get? b=!o/\∀vs,o.data≠.fields vs:=(I.stack.mem hb).2
def yI{fG:Heap}(I:Inv X pi σ H s)(eO:X.stack=X.env::X.outer)(hex:X.ex=[])(hf:X.env.frame=!X.env.locals)(my:∀b o,s.heap.get? b=!o->b∉fE X.stack->(H b≠none\/∃o0,X.cQ.heap.get? b=!o0)->B.get? b=!o)(sl:∀b∈fE X.stack,∀o,s.heap.get? b=!o->∃sl,fG.get? b=some { o with slots:=sl })(fw:Heap.FlyingW B X.outer ea (.ref C) a0 fG)(dc:ml (.ref ea) od fG)(hE:E (.ref C) od H):gF X.prog X.w X.outer X.jo X.cQ E (.ref ea) { s with heap:=fG }:=by
 let ni:∀b,b∈fE X.outer->b∈fE X.stack:=λb hb=>by rw[eO];unfold fE at hb ⊢;rw[dY,hf];show bg _ hb
 let wY:∀b o,X.cQ.heap.get? b=!o->b∉fE X.outer->b∉fE X.stack:=λb o e hb z=>by
  rcases aB.mp (I.U7 b z) with z|z
  .exact absurd (ao e) (by rw[z];show pT.mpr I.ok.above)
  .exact hb z
 let qb:∀b u,H b=!u->b∉fE X.stack:=λb u e z=>by rw[I.Bq b z] at e;cases e
 let kept:∀b o,s.heap.get? b=!o->b∉fE X.stack->(H b≠none\/∃o0,X.cQ.heap.get? b=!o0)->fG.get? b=!o:=λb o e n q=>fw.1 b o (my b o e n q);let xb:∀b,b∉X.ex:=λb=>by rw[hex];simp
 show#[C,od,H,I.os,I.bare,#[?_,?_,?_,?_,I.base.iD,I.base.iq,I.base.iE],?_,#[ea,a0,B,rfl,fw,?_],dc,hE]
 .exact λb o e n1 n2 x=>kept b o (I.base.keep b o e n1 n2 (xb b)) (wY b o e n2) (.inr #[o,e])
 .intro b o e n1 n2 _;let#[zQ,e1]:=I.base.slot b o e n1 n2 (xb b);let#[mq,e2]:=sl b (ni b n2) _ e1;show#[mq,e2]
 .exact λb o e n1 x=>I.base.free b o e n1 (xb b)
 .intro b o e _;let#[o1,e1]:=I.base.there b o e (xb b);by_cases hb:b∈fE X.stack
  .let#[mq,e2]:=sl b hb _ e1;show#[_,e2]
  .exact#[o1,kept b o1 e1 hb (.inr #[o,e])]
 .intro a o e;show (I.bI a o e).B8 (λb u hb q=>by
   let kx:∃v,H b=!v:=by
    rcases hb with rfl|hb
    .exact#[o,e]
    .exact#[_,hb]
   let#[v,hv]:=kx;show kept b u q (qb b v hv) (.inl (by rw [hv];simp))) (λb hb=>hb) (λb xs hb=>hb)
 .intro b o e n q;rcases q with q|⟨o0,q⟩
  .let#[v,hv]:=pS.mp q;let#[o1,e1]:=(I.bI b v hv).get;let z:=my b o1 e1 (qb b v hv) (.inl (by rw[hv];simp));let z':=fw.1 b o1 z;have:o=o1:=by
    let e':fG.get? b=!o:=e;rw[z'] at e';show(aD e').symm
   subst this;show z
  .let#[o1,e1]:=I.base.there b o0 q (xb b);let z:=my b o1 e1 (wY b o0 q n) (.inr #[o0,q]);let z':=fw.1 b o1 z;have:o=o1:=by
    let e':fG.get? b=!o:=e;rw[z'] at e';show(aD e').symm
   subst this;show z
def aJ7{Ex:Value->Shared->Prop}(I:Inv X pi σ H s)(fl:HJ H h0 X.stack e C s.heap)(Uk:∀b o,X.cQ.heap.get? b=!o->∃o',h0.get? b=!o')(eO:X.stack=X.env::X.outer)(hex:X.ex=[])(hf:X.env.frame=!X.env.locals)(dc:ml e od s.heap)(hE:E (.ref C) od H):wpAny (model X.prog X.w) X.A (leaving X.env e) (λx mX=>gF X.prog X.w X.outer X.jo X.cQ E e mX) Ex s:=by
 let#[ea,a0,B,rfl,fw,hB]:=fl;let fw0:=fw;rw[eO] at fw;show aU (m6 (N7 _ _) (wpAny_leaves_onW (E:=λx x=>False) (Q:=λx s2=>∃fG,s2={ s with heap:=fG }/\Heap.FlyingW B X.outer ea (.ref C) a0 fG/\s.heap.UpToSlots fG) (by rw[I.ok.frames,eO]) hf fw λfG vn us=>#[fG,rfl,vn,us])) (λx s2 h2=>?_) (λx x z=>z.1.elim);let#[#[fG,rfl,vn,us],dk]:=h2;show yI I eO hex hf (λb o e n q=>hB b o e n (q.imp id (by rintro ⟨o0,q⟩;show Uk b o0 q))) (λb hb o e=>?_) vn (dc.keep dk) hE;let#[o1,e1,nf]:=C7 I hb;rw[e] at e1;cases e1;show us b o e nf
def aZ2{vs:@&Value}{Ex:Value->Shared->Prop}(I:Inv X pi σ H s)(hx:Heap.MadeExcOf s.heap h' ea (.ref C) vs)(eO:X.stack=X.env::X.outer)(hex:X.ex=[])(hf:X.env.frame=!X.env.locals)(hE:E (.ref C) none H):wpAny (model X.prog X.w) X.A (leaving X.env (.ref ea)) (λx mX=>gF X.prog X.w X.outer X.jo X.cQ E (.ref ea) mX) Ex { s with heap:=h' }:=by
 let nL:=I.stack;rw[eO] at nL;let xF:∀env∈(X.env::X.outer),∀b,env.frame=!b->b∈fE X.stack:=λenv he b hb=>by rw[eO];show eK.mpr #[env,he,hb]
 show aU (m6 (N7 _ _) (wpAny_leaves_madeW (E:=λx x=>False) (Q:=λx s2=>∃fG a0,s2={ s with heap:=fG }/\Heap.FlyingW (PySem.W.hideAll s.heap (fE X.stack)) X.outer ea (.ref C) a0 fG/\h'.UpToSlots fG) (s:={ s with heap:=h' }) (base:=PySem.W.hideAll s.heap (fE X.stack)) (h:=s.heap) (by rw[I.ok.frames,eO]) hf (λb o q=>gY _ q) (je nL xF) hx λfG t fw x x us=>#[fG,_,rfl,fw,us])) (λx s2 h2=>?_) (λx x z=>z.1.elim);let#[#[fG,a0,rfl,fw,us],dk]:=h2;let#[t,ht,_]:=hx.there;show(show gF X.prog X.w X.outer X.jo X.cQ E (.ref ea) { s with heap:=fG } from yI I eO hex hf (λb o e n x=>gL _ e n) (λb hb o e=>?_) fw (ml.keep #[ea,_,rfl,ht,rfl,λx=>rfl] dk) hE);let#[o1,e1,nf]:=C7 I hb;rw[e] at e1;cases e1;show us b o (hx.keeps b o e) nf
def aZ3{a2 a3 a4:Value}{Ex:Value->Shared->Prop}(I:Inv X pi σ H s)(rL:od=none->a2=.none)(he:s.heap.get? ea=some { cls:=.ref C,dict:=od,data:=.fields (List.toArray [.ref t,.none,a2,a3,a4,.none]) })(hn:H ea=none)(h0:X.cQ.heap.get? ea=none)(eO:X.stack=X.env::X.outer)(hex:X.ex=[])(hf:X.env.frame=!X.env.locals)(hE:E (.ref C) od H):wpAny (model X.prog X.w) X.A (leaving X.env (.ref ea)) (λx mX=>gF X.prog X.w X.outer X.jo X.cQ E (.ref ea) mX) Ex s:=by
 let nL:=I.stack;rw[eO] at nL;let xF:∀env∈(X.env::X.outer),∀b,env.frame=!b->b∈ea::fE X.stack:=λenv he b hb=>by rw[eO];show bg _ (eK.mpr #[env,he,hb])
 let tO:(PySem.W.hideAll s.heap (ea::fE X.stack)).get? ea=none:=jO _ #[_];show aU (m6 (N7 _ _) (wpAny_leaving_firstW (E:=λx x=>False) (Q:=λx s2=>∃fG,s2={ s with heap:=fG }/\Heap.LeftW (PySem.W.hideAll s.heap (ea::fE X.stack)) (X.env::X.outer) ea (.ref C) (.ref t) s.heap fG) (base:=PySem.W.hideAll s.heap (ea::fE X.stack)) (by rw[I.ok.frames,eO]) (je nL xF) hf he (λb o q=>gY _ q) tO rfl rfl rfl λfG k=>#[fG,rfl,k])) (λx s2 h2=>?_) (λx x z=>z.1.elim);let#[#[fG,rfl,k1,#[_,_,k2],k3,k4],dk]:=h2;show yI I eO hex hf (λb o e n q=>gL _ e ?_) (λb hb o e=>?_) #[k1,tO,k2,k3] (ml.keep #[ea,_,rfl,he,rfl,λz=>by rw[rL z];rfl] dk) hE
 .intro z;rcases aB.mp z with rfl|z
  .rcases q with q|⟨o0,q⟩
   .exact q hn
   .rw[h0] at q;cases q
  .exact n z
 .let#[o1,e1,nf]:=C7 I hb;rw[e] at e1;cases e1;show k4 b o e nf
def Yr{h1:Heap}{Pg:Program}(u:Un (fE l) [] H H' h0 h)(ok:gJ Pg w H' h)(hB:∀b o,h.get? b=!o->b∉fE l->(H' b≠none\/∃o0,h0.get? b=!o0)->B.get? b=!o)(st:B.StaysIn h1)(us:h.UpToSlots h1)(Ai:∀b∈fE l,H' b=none/\∃o,h.get? b=!o/\∀vs,o.data≠.fields vs):Un (fE l) [] H H' h0 h1/\gJ Pg w H' h1/\∀b o,h1.get? b=!o->b∉fE l->(H' b≠none\/∃o0,h0.get? b=!o0)->B.get? b=!o:=by
 let qb:∀b u,H' b=!u->b∉fE l:=λb u e z=>by rw[(Ai b z).1] at e;cases e
 let kept:∀b o,h.get? b=!o->b∉fE l->(H' b≠none\/∃o0,h0.get? b=!o0)->h1.get? b=!o:=λb o e n q=>st b o (hB b o e n q);let JL:∀b∈fE l,∀o,h.get? b=!o->∃sl,h1.get? b=some { o with slots:=sl }:=λb hb o e=>by
  let#[_,o1,e1,nf]:=Ai b hb;rw[e] at e1;cases e1;show us b o e nf
 show#[#[?_,?_,u.free,?_,u.iD,u.iq,u.iE],?_,?_]
 .exact λb o e n1 n2 n3=>kept b o (u.keep b o e n1 n2 n3) n2 (.inr #[o,e])
 .intro b o e n1 n2 n3;let#[zQ,e1]:=u.slot b o e n1 n2 n3;let#[mq,e2]:=JL b n2 _ e1;show#[mq,e2]
 .intro b o e n;let#[o1,e1]:=u.there b o e n;by_cases hb:b∈fE l
  .let#[mq,e2]:=JL b hb _ e1;show#[_,e2]
  .exact#[o1,kept b o1 e1 hb (.inr #[o,e])]
 .intro a o e;show (ok a o e).B8 (λb u hb q=>by
   let kx:∃v,H' b=!v:=by
    rcases hb with rfl|hb
    .exact#[o,e]
    .exact#[_,hb]
   let#[v,hv]:=kx;show kept b u q (qb b v hv) (.inl (by rw [hv];simp))) (λb hb=>hb) (λb xs hb=>hb)
 .intro b o e n q;have:∃o1,h.get? b=!o1:=by
   rcases q with q|⟨o0,q⟩
   .let#[v,hv]:=pS.mp q;show(ok b v hv).get
   .exact u.there b o0 q #[_]
  let#[o1,e1]:=this;let z:=hB b o1 e1 n q;rw[st b o1 z] at e;cases e;show z
structure Lies(X:Cx)(H H':Hp)(s:Shared)(B:Heap)(ea C:Addr)(a0:Value)(s':Shared):Prop where
 os:s'.os=s.os
 bare:AllBare s'.gens
 un:Un (fE X.stack) [] H H' s.heap s'.heap
 bI:gJ X.prog X.w H' s'.heap
 my:∀b o,s'.heap.get? b=!o->b∉fE X.stack->(H' b≠none\/∃o0,s.heap.get? b=!o0)->B.get? b=!o
def Lies.inv(I:Inv X pi σ H s)(l:Lies X H H' s B ea C a0 s'):Inv X pi σ H' s':=I.HP l.os l.un l.bI l.bare #[_]
def leave_held{Ex:Value->Shared->Prop}(I:Inv X pi σ H s)(l:Lies X H H' s B ea C a0 s')(hh:Heap.HeldW B X.stack ea (.ref C) a0 X.env.locals s'.heap)(eO:X.stack=X.env::X.outer)(hex:X.ex=[])(hf:X.env.frame=!X.env.locals)(dc:ml (.ref ea) od s'.heap)(hE:E (.ref C) od H'):wpAny (model X.prog X.w) X.A (leaving X.env (.ref ea)) (λx mX=>gF X.prog X.w X.outer X.jo X.cQ E (.ref ea) mX) Ex s':=by
 let J:=l.inv I;let tL:=hh;rw[eO] at tL;let hl:wpAny (model X.prog X.w) X.A (leaving X.env (.ref ea)) (λx s2=>∃fG,s2={ s' with heap:=fG }/\Heap.FlyingW B (X.env::X.outer) ea (.ref C) a0 fG/\s'.heap.UpToSlots fG) (λx x=>False) s':=by
  unfold leaving;show aa (wpAny_noteFrame_againW hf tL.2.2.2 ?_);show wpAny_landsW tL λfG fl us=>#[fG,rfl,fl,us]
 show aU (m6 (N7 _ _) hl) (λx s2 h2=>?_) (λx x z=>z.1.elim);let#[#[fG,rfl,fl,us],dk]:=h2;let#[k1,k2,#[_,_,k3],k4]:=fl;show yI J eO hex hf (λb o e n q=>l.my b o e n (q.imp id (by rintro ⟨o0,q⟩;show I.base.there b o0 q (by rw[hex];simp)))) (λb hb o e=>?_) #[k1,k2,k3,k4] (dc.keep dk) hE;let#[o1,e1,nf]:=C7 J hb;rw[e] at e1;cases e1;show us b o e nf
def AU(X:Cx)(Ξ:XK):Prop:=∀(pi:@&(Addr×Obj)) (σ:St) (H:Hp) (s:Shared) (ea C t:Addr) (od:Option Addr) (a2 a3 a4:Value),Inv X pi σ H s->(od=none->a2=.none)->s.heap.get? ea=some { cls:=.ref C,dict:=od,data:=.fields (List.toArray [.ref t,.none,a2,a3,a4,.none]) }->H ea=none->X.cQ.heap.get? ea=none->Ξ (.ref C) od H->X.xe (.ref ea) s
def AV(X:Cx)(Ξ:XK):Prop:=∀(pi:@&(Addr×Obj)) (σ:St) (H:Hp) (s:Shared) (h':Heap) (ea C:Addr) (vs:@&Value),Inv X pi σ H s->Heap.MadeExcOf s.heap h' ea (.ref C) vs->Ξ (.ref C) none H->X.xe (.ref ea) { s with heap:=h' }
def W6(X:Cx)(Ξ:XK):Prop:=∀(pi:@&(Addr×Obj)) (σ:St) (H H':Hp) (s s':Shared) (B:Heap) (ea C:Addr) (od:Option Addr) (a0:Value),Inv X pi σ H s->Lies X H H' s B ea C a0 s'->Heap.HeldW B X.stack ea (.ref C) a0 X.env.locals s'.heap->ml (.ref ea) od s'.heap->Ξ (.ref C) od H'->X.xe (.ref ea) s'
def bJ1(C:Addr)(Ξ:XK)(t:TA):TS:=λ_ σ H=>t σ H λvs H1=>-vs<=sizeLine/\Ξ (.ref C) none H1
def XG{x:Str}{B:String}{np cB:Pos}{dG:Expr}{t:TA}(hc:X.calm=true)(O:OwnCls x C bm newId X.mg X.base)(FB:ExcBaseFacts B newId cF bm)(hg:Gl X x)(ha:PA X (dG::rest) t)(hr:AV X Ξ)(he:starEach (dG::rest) X.env=(false,eval dG X.env)::starEach rest X.env)(fM:(backTo cB (starEach rest X.env)).any (·.1)=false)(hd:(x==("__debug__":Str))=false) :
  PS X (.Raise (!.Call (.Name x np) (dG::rest) [] cB) none pos) (bJ1 C Ξ t):=by
 intro pi s σ H D I h;let#[tl,N,nm,q,bs,hdct,sn,sub,ab,col,dd,k0,k1,k2,k3,k5,mN,hC,hN,oE,T]:=O.obj;show wpAny_Raise_call_subT (nm:=nm) (q:=q) (N:=N) (bs:=bs) (hdct:=hdct) (sn:=sn) (sub:=sub) (ab:=ab) (col:=col) (dd:=dd) (k0:=k0) (k1:=k1) (k2:=k2) (k3:=k3) (k5:=k5)
  FB (T.hasType FB.hasBase) (I.ok.hd hc) (by rw[he];show(false||(backTo cB (starEach rest X.env)).any (·.1))=false;rw[fM];rfl) oE (E5 I hg O.bound #[rfl,?_] hd)
 let h':=ha cB pi s σ H _ I h;rw[he] at h' ⊢;show eE (aU h' (λvs fm ik=>?_) λz z y=>y);let#[ws,H1,I1,rv,hz,hE]:=ik;show#[rfl,by rw[<- -rv];show hz,I1.bk _ _ hC,hN.keeps I1.bk,T.keeps I1.bk,λh2 ea hm=>hr pi σ H1 fm h2 ea C vs I1 hm hE]
def A5(X:Cx)(pi:@&(Addr×Obj))(xe:Value->Shared->Prop)(o:Option St:=none):Cx:={ X with pn:=X.pn++pi,xe:=xe,sg:=o }
def o9(X:Cx)(ea:Addr):Cx:={ X with A:=X.A.mark (!.ref ea),calm:=false,xe:=λx x=>False,sg:=none }
def Inv.ZE{xe:Value->Shared->Prop}{o:Option St}(ho:∀τ,o=!τ->σ=τ)(I:Inv X pi σ H s):Inv (A5 X pi xe o) [] σ H s :=
 #[#[I.ok.mod,I.ok.kind,I.ok.glob,I.ok.blt,I.ok.above,I.ok.inj,I.ok.has,I.ok.qS,I.ok.hd,I.ok.frames,I.ok.rC,I.ok.vp,I.ok.bs,I.ok.nD,I.ok.kq,I.ok.lj,I.ok.E8,I.ok.nM],I.os,I.bare,I.base,I.loc,I.cell,I.free,I.eI,
  λp hp=>I.pin p (by simpa [A5] using hp),I.bI,I.len,ho]
def Inv.uw{xe:Value->Shared->Prop}{o:Option St}{gE:@&(Addr×Obj)}(hs:X.sg=none)(I:Inv (A5 X pi xe o) gE σ H s):Inv X pi σ H s :=
 #[#[I.ok.mod,I.ok.kind,I.ok.glob,I.ok.blt,I.ok.above,I.ok.inj,I.ok.has,I.ok.qS,I.ok.hd,I.ok.frames,I.ok.rC,I.ok.vp,I.ok.bs,I.ok.nD,I.ok.kq,I.ok.lj,I.ok.E8,I.ok.nM],I.os,I.bare,I.base,I.loc,I.cell,I.free,I.eI,
  λp hp=>I.pin p (ff _ hp),I.bI,I.len,λx z=>by simp_all]
def Inv.AR(I:Inv X pi σ H s):Inv (o9 X ea) pi σ H s :=
 #[#[I.ok.mod,I.ok.kind,I.ok.glob,I.ok.blt,I.ok.above,I.ok.inj,I.ok.has,I.ok.qS,λz=>(by cases z),I.ok.frames,I.ok.rC,I.ok.vp,I.ok.bs,I.ok.nD,I.ok.kq,I.ok.lj,I.ok.E8,I.ok.nM],I.os,I.bare,I.base,I.loc,I.cell,I.free,I.eI,I.pin,I.bI,I.len,λda z=>absurd (show(none:Option St)=some da from z) #[_]]
def Inv.R9(hs:X.sg=none)(J:X.Ok)(I:Inv (o9 X ea) pi σ H s):Inv X pi σ H s :=
 #[J,I.os,I.bare,I.base,I.loc,I.cell,I.free,I.eI,I.pin,I.bI,I.len,λx z=>by simp_all]
def SP.uw{xe:Value->Shared->Prop}{o:Option St}{D:Ends}{f:Flow}(hs:X.sg=none)(h:SP (A5 X pi xe o) [] D f s):SP X pi D f s:=by
 cases f with
 |next=>let#[a,b,I,q]:=h;show#[a,b,I.uw hs,q]
 |brk=>let#[a,b,I,q]:=h;show#[a,b,I.uw hs,q]
 |cont=>let#[a,b,I,q]:=h;show#[a,b,I.uw hs,q]
 |ret u=>let#[v,a,b,I,r,q]:=h;show#[v,a,b,I.uw hs,r,q]
def SP.R9{ea:Addr}{D:Ends}{f:Flow}(hs:X.sg=none)(J:X.Ok)(h:SP (o9 X ea) pi D f s):SP X pi D f s:=by
 cases f with
 |next=>let#[a,b,I,q]:=h;show#[a,b,I.R9 hs J,q]
 |brk=>let#[a,b,I,q]:=h;show#[a,b,I.R9 hs J,q]
 |cont=>let#[a,b,I,q]:=h;show#[a,b,I.R9 hs J,q]
 |ret u=>let#[v,a,b,I,r,q]:=h;show#[v,a,b,I.R9 hs J,r,q]
end
structure iu(x:Str)(C fI:Addr)(ir:@&Value)(newId:String)(mg:Str->Option Value)(h:Heap):Prop where
 bound:mg x=!.ref C
 obj:∃bm N nm q bs hdct sn sub ab col dd k0 k1 k2 k3 k5 mN,h.get? C=!excClassObj nm q C N bs bm hdct sn sub ab col dd k0 k1 k2 k3 k5 newId/\h.Ns N mN/\mN "__init__"=!.ref fI/\OwnTail h ir bm
 fn:∃oI,h.get? fI=!oI/\oI.cls=.type "function"
def W7(C:Addr)(f:Str):Sp:=λvs H Q x=>∃ea t v,vs=[.ref ea,v]/\H ea=!XE ea (·=m7 C t none)/\∀dA,H dA=none->Q .aW (upd (upd H dA (.xd [(f,v)])) ea (XE ea (·=m7 C t (!dA))))
def Wg(C:Addr)(f:Str)(Ξ:XK)(t:TA):TS:=λ_ σ H=>t σ H λvs H1=>∃v,vs=[v]/\∀dA,H1 dA=none->Ξ (.ref C) (!dA) (upd H1 dA (.xd [(f,v)]))
def a68{x:Str}{B:String}{np cB:Pos}{dG:Expr}{t:TA}(hc:X.calm=true)(O:iu x C fI ir newId X.mg X.base)(FB:ExcBaseFacts B newId cF ir)(hg:Gl X x)(F:gK X.prog X.w X.K X.mg X.base (gF X.prog X.w) k fI fd ps (W7 C f))(hr:m4 (k+1) X.A)(hb:Binds X.K fd ps [])(ha:PA X (dG::rest) t)(hx:AU X Ξ)(hex:X.ex=[])(he:starEach (dG::rest) X.env=(false,eval dG X.env)::starEach rest X.env)(gI:(backTo cB (starEach rest X.env)).any (·.1)=false)(hd:(x==("__debug__":Str))=false) :
  PS X (.Raise (!.Call (.Name x np) (dG::rest) [] cB) none pos) (Wg C f Ξ t):=by
 intro pi s σ H D I h;let#[bm,N,nm,q,bs,hdct,sn,sub,ab,col,dd,k0,k1,k2,k3,k5,mN,hC,hN,oE,T]:=O.obj;let#[oI,hf,DT]:=O.fn;rw[arm_exec_Raise];show aa (dH (a62 (C:=C) (nm:=nm) (q:=q) (N:=N) (bs:=bs) (bm:=bm) (hdct:=hdct) (sn:=sn) (sub:=sub) (ab:=ab) (col:=col) (dd:=dd) (k0:=k0) (k1:=k1) (k2:=k2) (k3:=k3) (k5:=k5) (newId:=newId) (T.hasType FB.hasBase) (I.ok.hd hc)
  (aa (aU (wpAny_Call_ofName (E5 I hg O.bound ?_ hd)) (λv ic nh=>aa (dH (aj nh))) λl l x=>x))))
 let h':=ha cB pi s σ H _ I h;rw[he] at h' ⊢;unfold callWith;show aa (bj (aU (eE (Q:=λa fm=>a.kw=[]/\∃vs H1,Inv X pi σ H1 fm/\Vals vs a.pos/\∃v,vs=[v]/\∀dA,H1 dA=none->Ξ (.ref C) (!dA) (upd H1 dA (.xd [(f,v)]))) (aU h' (λvs fm ik=>?_) λl l y=>y)) (λa fm ik=>aa (dH ?_)) λl l x=>x))
 .let#[ws,H1,I1,rv,z]:=ik;show#[rfl,ws,H1,I1,rv,z]
 let#[apos,Gm]:=a;let#[DI,vs,H1,I1,rv,v,rfl,Di]:=ik;obtain rfl:Gm=[]:=DI;let#[u,rfl,ru]:=vals1 rv;let bk:=I1.bk;let#[hp,g,d,tk,os]:=fm;let tG:((backTo cB ((false,eval dG X.env)::starEach rest X.env)).any λx=>x.1)=false:=by show(false||(backTo cB (starEach rest X.env)).any (·.1))=false;rw[gI];rfl
 simp only[tG];show aa (wpAny_keeperOf_exc (bk _ _ hC) ?_);show aa (MK (rest:=[u]) FB (T.keeps bk) (bk _ _ hC) (hN.keeps bk) oE (bk _ _ hf) DT (λh2 e hm=>?_) (by rw[eU,gi];omega));let en:H1 e=none:=by
  cases z:H1 e with
  |none=>rfl
  |some o =>
   let#[ob,z2]:=(I1.bI e o z).get;show absurd (show hp.get? e=some ob from z2) (by rw[hm.new];simp)
 let ne:∀b o,hp.get? b=!o->b≠e:=λb o z1 z2=>by rw[z2,hm.new] at z1;cases z1
 let#[t0,ht,_,_]:=hm.there;let h0:X.cQ.heap.get? e=none:=by
  cases z:X.cQ.heap.get? e with
  |none=>rfl
  |some o=>let#[o',z2]:=I1.base.there e o z (by rw[hex];simp);show absurd rfl (ne _ _ z2)
 let I2:=(I1.kept (h':=h2) (t':=tk) hm.keeps).HD (φ:=(·=m7 C t0 none)) en ht rfl h0
  (λz=>by let#[m,#[o,_,_,q,_],_]:=I1.loc;show ne _ _ q z.symm)
  (λy c z=>by let#[_,o,q,_]:=I1.cell y c z;show ne _ _ q) λp hp=>ne _ _ (I1.pin p hp).1
 let sp:W7 C f [.ref e,v] (upd H1 e (XE e (·=m7 C t0 none))) (λr H3=>r=.aW/\∃dA,dA≠e/\H1 dA=none/\H3=upd (upd (upd H1 e (XE e (·=m7 C t0 none))) dA (.xd [(f,v)])) e (XE e (·=m7 C t0 (!dA)))) (λl l l=>False) :=
  #[e,t0,v,rfl,f9,λdA hd=>by
   let n:dA≠e:=λz=>by rw[z,f9] at hd;cases hd
   show #[rfl,dA,n,by rw [d7 n] at hd;show hd,rfl]]
 let r2:Vals [V.ref e,v] [Value.ref e,u]:=.cons rfl rv;let hl:([Value.ref e,u]++[]).length=-ps:=F.len _ _ _ _ sp;show iM (fN (F.run _ X.stack _ _ #[[.ref e,u],[]] [.ref e,u] _ _ _ (hr.make C [u] []) (I2.Cg.make C [u] []) (hb _ [.ref e,u] I2.gC hl) r2 sp) λr s' kQ=>?_);cases r with
 |error x=>let#[_,_,_,_,_,_,_,_,_,z]:=kQ;show z.elim
 |ok fl =>
  cases fl with
  |ret u' =>
   let#[v',H3,I3,wO,ev,dA,n,hn,e3]:=I2.after kQ;subst ev;subst e3;let h3:upd (upd (upd H1 e (XE e (·=m7 C t0 none))) dA (.xd [(f,v)])) e (XE e (·=m7 C t0 (!dA))) e=!(XE e (·=m7 C t0 (!dA))):=f9;let#[o3,g3,p3]:=XE.get I3.bI h3;let I4:=I3.FU h3;let eH:(λb=>if b=e then none else upd (upd (upd H1 e (XE e (·=m7 C t0 none))) dA (.xd [(f,v)])) e (XE e (·=m7 C t0 (!dA))) b)=upd H1 dA (.xd [(f,v)]):=by
    funext b
    by_cases z:b=e
    .rw[au z,z,d7 n.symm,en]
    .rw[aq z,d7 z];unfold upd;split
     .rfl
     .rfl
   rw[eH] at I4;show#[wO,aa (bj (wpAny_point (aj ?_)))];show#[e,t0,!dA,rfl,I4.bk _ _ hC,by rw[g3,p3],hx pi σ _ s' e C t0 (!dA) _ _ _ I4 (λz=>by cases z) (by rw[g3,p3]) (by rw[d7 n.symm,en]) h0 (Di dA hn)]
  |next=>show False.elim kQ
  |brk=>show False.elim kQ
  |cont=>show False.elim kQ
def Zl(K:PySem.W.Frag)(ta tv:TE)(f:Str):TS:=λD σ H=>tv σ H λy H1=>ta σ H1 λx H2=>∃ea C t,x=.ref ea/\H2 ea=!XE ea (·=m7 C t none)/\O3 K C f/\∀dA,H2 dA=none->D.nx σ (upd (upd H2 dA (.xd [(f,y)])) ea (XE ea (·=m7 C t (!dA))))
def bB0{o value:Expr}{pos':Pos}{ta tv:TE}(ha:PE X o ta)(hv:PE X value tv)(hs:swapsWith value (!.Attribute o f pos') pos.line X.env=pure false):PS X (.Assign [.Attribute o f pos'] value pos) (Zl X.K ta tv f):=by
 intro pi s σ H D I h;show rn (cS (hv pi s σ H _ I h) ?_) hs;rintro u s1 ⟨y,H1,I1,ry,q⟩;show cS (ha pi s1 σ H1 _ I1 q) λov s2 bx=>?_;let#[x,H2,I2,rx,a,C,t,ex,ea,c,q2]:=bx;subst ex;obtain rfl:ov=Value.ref a:=rx;show VQ I2 ea c ry λdA s3 hd I3=>#[σ,_,I3,q2 dA hd]
def Zy(K:PySem.W.Frag)(ta:TE)(f:Str):TE:=λσ H Q=>ta σ H λx H1=>∃ea C dA φ fs v,x=.ref ea/\H1 ea=!XE ea φ/\(∀o,φ o->o.cls=.ref C/\o.dict=!dA/\PySem.W.notCls o=true)/\O3 K C f/\H1 dA=!.xd fs/\fs.lookup f=!v/\Q v H1
def bB8{ta:TE}(he:PE X e ta)(hb:attributeBase e f X.env (eval e X.env)=eval e X.env):PE X (.Attribute e f pos) (Zy X.K ta f):=by
 intro pi s σ H Q I h;show Nz hb (cS (he pi s σ H _ I h) λu s1 bx=>?_);let#[x,H1,I1,rx,a,C,dA,φ,fs,v,ex,ea,Dg,c,ed,l,q]:=bx;subst ex;obtain rfl:u=Value.ref a:=rx;show bF1 I1 ea Dg c ed l λu' s2 I2 ru=>#[v,H1,I2,ru,q]
abbrev zm:@&Stmt->Option (Str×Str×Str)
 |[.Assign [.Attribute (.Name a _) f _] (.Name b _) _]=>!(a,f,b)
 |_=>none
def WT{l:@&Stmt}{a g b:Str}(h:zm l=!(a,g,b)):∃p1 p2 p3 p4,l=[.Assign [.Attribute (.Name a p1) g p2] (.Name b p3) p4]:=by
 unfold zm at h;split at h
 .cases h;show#[_,_,_,_,rfl]
 .cases h
def aB0:entryFor table "proto.unchain"=some Builtin.«proto.unchain»:=entryFor_of_tree (by kernel_rfl)
section
variable{nm q:Str}{N:Addr}{bs:@&Value}{hdct:Bool}{sn:@&Str}{sub:@&Value}{ab:Bool}{col:Option Bool}{dd:Option Addr}{k0 k1 k2 k3 k5:Option Value}
variable{g:Array GenState}{d:Drawn}{t:Nat}{os:OsState}
def aA9{e ha:Addr}{oh:Obj}{vs:Array Value}{Q:α->Shared->Prop}(hh:A.handled=!.ref ha)(hn:e≠ha)(hg:s.heap.get? ha=!oh)(hd:oh.data=.fields vs)(h2:vs[2]?=!.none){oe:Obj}{ve:Array Value}(he:s.heap.get? e=!oe)(Tc:oe.data=.fields ve)(hz:2<ve.size)(h:E (.ref e) { s with heap:=s.heap.update e (Obj.mapFields (·.setIfInBounds 2 (.ref ha))) }):wpAny (model prog w) A (raiseNew (.ref e):Sem α) Q E s:=by
 unfold raiseNew;show aa (Qy ?_);rw[hh];dsimp only;rw[au (by simpa using λz=>hn z.symm)];show aa (bj (Ck (fe aB0 ?_)));unfold Builtin.«proto.unchain»;dsimp only;show aa (bG hg hd h2 ?_);rw[au #[_]];show aa (aj (aj ?_));change wpAny _ _ _ _ _ _;unfold updateField;show aa (aa (wpAny_load he ?_));rw[Tc];change wpAny _ _ (if 2<ve.size then _ else _) _ _ _;rw[au hz];show wpAny_update he (uA h)
def a63{ha:Addr}{x:Sem Value}{kc:Nat}{p1 p2:Pos}{Q:Flow->Shared->Prop}(hb:bm.contains (.type "BaseException")=true)(hh:A.handled=!.ref ha)(h:wpAny (model prog w) A x (λv bJ=>∃ e t od,v=.ref e/\e ≠ ha/\bJ.heap.get? C=!excClassObj nm q C N bs bm hdct sn sub ab col dd k0 k1 k2 k3 k5 newId/\bJ.heap.get? e=!m7 C t od/\(∃ oh vs,bJ.heap.get? ha=!oh/\oh.data=.fields vs/\vs[2]?=!.none) /\
   ∀ h',h'.get? e=some { cls:=.ref C,dict:=od,data:=.fields (List.toArray [.ref t,.none,.ref ha,.none,.bool true,.none]) }->Heap.SameBut e bJ.heap h'->E (.ref e) { bJ with heap:=h' }) E s) :
  wpAny (model prog w) A (raiseStmt env (!x) (!(do let v <- eval (.Constant .none kc p1) env;standAt p2;pure v))) Q E s:=by
 let D':(Value.ref C::bm).contains (.type "BaseException")=true:=by rw[hZ,hb,lP]
 unfold raiseStmt;show aa (aU h (λv bJ z=>?_) λy y x=>x);let#[e,t,od,rfl,ne,hC,he,#[oh,vs,hg,hd,h2],hE]:=z;let#[hp,g,d,tk,os]:=bJ
 repeat (first|with_reducible show cN he ?_|with_reducible show cN hC ?_|(with_reducible show mJ hC ?_;rw[D'])|wp_step)
 let eX:C≠e:=λz=>by rw[z] at hC;rw[hC] at he;cases he
 generalize Jo:(hp.update e (Obj.mapFields λx=>x.setIfInBounds 3 Value.none)).update e (Obj.mapFields λx=>x.setIfInBounds 4 (Value.bool true))=hq;let DU:hq.get? e=some { cls:=.ref C,dict:=od,data:=.fields (List.toArray [.ref t,.none,.none,.none,.bool true,.none]) }:=by
  rw[<- Jo];show aT _ (aT _ he rfl) rfl
 let sb:Heap.SameBut e hp hq:=by rw[<- Jo];show(aZ _ _ _).trans (aZ _ _ _)
 let Ar:hq.get? C=!excClassObj nm q C N bs bm hdct sn sub ab col dd k0 k1 k2 k3 k5 newId:=(sb.2 C eX).trans hC;clear hC;let nt:(excClassObj nm q C N bs bm hdct sn sub ab col dd k0 k1 k2 k3 k5 newId).cls=.type "type":=rfl
 repeat (first|with_reducible show cN DU ?_|with_reducible show cN Ar ?_|wp_step)
 show aA9 hh ne ((sb.2 ha ne.symm).trans hg) hd h2 DU rfl (show 2<6 by decide) (hE _ ?_ ?_)
 .exact aT _ DU rfl
 .exact sb.trans (aZ _ _ _)
end
structure uo(k:Nat)(A:Around):Prop where
 dp:A.depth+3*k+5<recursionLimit
 un:A.units+16*k+200<cLine
def m4.n(r:m4 k A):uo k A:=#[r.dp,r.un]
def uo.make(r:uo (k+1) A)(C:Addr)(us:@&Value)(kw:@&(Str×Value)):uo k (A.under (.builtin "type.__call__" #[.ref C::us,kw])) :=
 #[by have:=r.dp;rw[MV];omega,by have:=r.un;rw[MW];omega]
structure uj(P:Program)(w:World)(K:PySem.W.Frag)(mg:Str->Option Value)(base:Heap)(CX:ly)(k:Nat)(f:Addr)(fd:FuncData)(ps:@&Str)(sp:Sp):Prop where
 len:∀vs H Q E,sp vs H Q E->-vs=-ps
 run:∀(A:Around) (outer:@&Env) (s:Shared) (H:Hp) (args:Args) (us:@&Value) (vs:@&V) (Q:VK) (E:XK),uo k A->qU P w K mg base A outer s H->BindsTo s fd args (ps.zip us)->Vals vs us->sp vs H Q E ->
  codeAny (model P w) A (.call (.ref f) args) (CR CX outer P w H s Q E) s
def uj.ok{mg:Str->Option Value}{f:Addr}{sp:Sp}(F:uj P w K mg base CX k f fd ps sp):gK P w K mg base CX k f fd ps sp :=
 #[F.len,λA outer s H args us vs Q E hr=>F.run A outer s H args us vs Q E hr.n]
abbrev vL(CX:ly)(P:Program)(w:World)(K:PySem.W.Frag)(mg:Str->Option Value)(base:Heap)(N:@&Str)(qual:Str)(scope:Scope)(f:Addr)(cd:Value)(A:Around)(outer:@&Env)(s:Shared)(H:Hp)(E:XK):Cx :=
 { P8 CX P w K mg base N qual scope f cd A outer s H E with calm:=false }
def aZ9{mg:Str->Option Value}{N:@&Str}{qual:Str}{scope:Scope}{f:Addr}{cd:Value}{outer:@&Env}{s1:Shared}{E:XK}{us:@&Value}{vs:@&V}(S:gf N ps scope)(e0:qU P w K mg base A outer s H)(hl:-vs=-ps)(r:Vals vs us)(x:InCallC s s⁻¹ (bindL (envOfC qual scope s⁻¹ f cd).kindOf (ps.zip us) λy=>none) (cellsFrom (s⁻¹+1) scope.names []) (bindC (envOfC qual scope s⁻¹ f cd).kindOf (ps.zip us) λy=>none) s1) :
  Inv (vL CX P w K mg base N qual scope f cd A outer s H E) [] (start N vs) H s1:=by
 let I:Inv (P8 CX P w K mg base N qual scope f cd { A with handled:=none } outer s H E) [] (start N vs) H s1:=Mm (A:={ A with handled:=none }) S rfl #[e0.frames,e0.mod,e0.bs,e0.nD,e0.E8,e0.nM,e0.bI,e0.bare] hl r x;show#[#[I.ok.mod,I.ok.kind,I.ok.glob,I.ok.blt,I.ok.above,I.ok.inj,I.ok.has,I.ok.qS,λz=>(by cases z),Around.frames_deeper e0.frames,I.ok.rC,I.ok.vp,I.ok.bs,I.ok.nD,I.ok.kq,I.ok.lj,I.ok.E8,I.ok.nM],I.os,I.bare,I.base,I.loc,I.cell,I.free,I.eI,I.pin,I.bI,I.len,I.sg]
def Z'{mg:Str->Option Value}{f:Addr}{name qual:Str}{params:Arguments}{body:@&Stmt}{scope:Scope}{dV kV doc pm fc ct oc:Value}{an:Option Addr}{jE:Array (Option Value)}{N:@&Str}{sp:Sp}(lk:K.lookup f=!#[oc,od,.func (PySem.W.fnOf name qual params body scope dV kV doc pm an fc ct),jE])(jX:PySem.W.codeIn K fc qual=true)(S:gf N ps scope)(len:∀vs H Q E,sp vs H Q E->-vs=-ps)(oN:∀ (A:Around) (outer:@&Env) (s:Shared) (H:Hp) (vs:@&V) (Q:VK) (E:XK),sp vs H Q E ->
   ∃ t,jM (vL CX P w K mg base N qual scope f fc A outer s H E) body t/\t { nx:=λz H'=>Q .aW H',rt:=Q } (start N vs) H) :
  uj P w K mg base CX (k+1) f (PySem.W.fnOf name qual params body scope dV kV doc pm an fc ct) ps sp:=by
 show#[len,λA outer s H args us vs Q E hr e0 hb r qk=>?_];let hl:=len _ _ _ _ qk;let KX:K.In s.heap:=e0.mod.lU.keeps λb o e=>(e0.bs b o e).1;let lim:s.heap.NoLimit:=e0.mod.nolimit.keeps λb o e=>(e0.bs b o e).1;let oJ:∀y∈ps.zip us,scope.names.lookup y.1=!.local\/(scope.names.lookup y.1=!.cell/\((cellsFrom (s⁻¹+1) scope.names []).lookup y.1).isSome=true):=λ⟨n,v⟩ hy=>by
  rcases S.par n (jt hy).1 with q|q
  .exact .inl q
  .exact .inr #[q,de _ _ _ (.inl q)]
 show codeAny_call_function (by have:=hr.dp;omega) (KX _ _ lk) rfl S.co S.gen rfl (QD KX jX) (hb _ _ _ _ ?_);show Cm S.kind oJ λenv he s1 x=>?_;subst he;show#[lim.keeps x.toInCall.keep,codeAny_func ?_];let#[t,ht,hq]:=oN A outer s H vs Q E qk;let I:Inv (vL CX P w K mg base N qual scope f fc A outer s H E) [] (start N vs) H s1:=aZ9 S e0 hl r x;show aU (ht [] s1 (start N vs) H _ I hq) (λfl s' hs=>?_) λe s' hs=>hs;let fin:∀{cJ:St} {H':Hp} {v:V} {u:Value},Inv (vL CX P w K mg base N qual scope f fc A outer s H E) [] cJ H' s'->RelV v u->Q v H'->CE outer P w H s Q u s' :=
  λ{cJ H' v u} J rv q=>#[v,H',J.os,J.bare,J.base,J.bI,rv,q]
 cases fl with
 |ret u =>
  let#[v,cJ,H',J,rv,q]:=hs;show fin J rv q
 |next =>
  let#[cJ,H',J,q]:=hs;show fin (v:=V.aW) (u:=Value.none) J rfl q
 |brk =>
  let#[_,_,_,q]:=hs;show False.elim q
 |cont =>
  let#[_,_,_,q]:=hs;show False.elim q
def bE6{mg:Str->Option Value}{qn a b:Str}{st:Stmt}(F:pz K "__init__" qn st fI fd)(S:gf [a,b] [a,b] (i0 st))(hB:zm (j8 st)=!(a,f,b))(hl:(i0 st).names.lookup a=!.local/\(i0 st).names.lookup b=!.local)(hd:a≠"__debug__"/\b≠"__debug__"/\a≠"__classdict__"/\b≠"__classdict__")(c:O3 K C f):uj P w K mg base CX (k+1) fI fd [a,b] (W7 C f):=by
 let#[oc,od,kV,doc,pm,an,fc,ct,jE,rfl,lk,jX]:=F.ex;let#[p1,p2,p3,p4,eb]:=WT hB;show Z' lk jX S (by rintro vs H Q E ⟨_,_,_,z,_⟩;rw[z];rfl) λA outer s H vs Q E h=>?_;let#[ea,t,v,rfl,he,q]:=h;let va:PE (vL CX P w K mg base [a,b] qn (i0 st) fI fc A outer s H E) (.Name a p1) (Bx 0):=V3 rfl (.inl hl.1) (_/hd.1) (_/hd.2.2.1);let vb:PE (vL CX P w K mg base [a,b] qn (i0 st) fI fc A outer s H E) (.Name b p3) (Bx 1):=V3 rfl (.inl hl.2) (_/hd.2.1) (_/hd.2.2.2);rw[eb];show#[_,Ge (bB0 va vb rfl) FQ,#[v,rfl,.ref ea,rfl,ea,C,t,rfl,he,c,λdA hn=>q dA hn]]
def Inv.VG{ψ:Obj->Prop}(I:Inv X pi σ H s)(e:H ea=!XE ea φ)(he:h'.get? ea=!o)(p:ψ o)(sb:Heap.SameBut ea s.heap h'):Inv X pi σ (upd H ea (XE ea ψ)) { s with heap:=h' }:=by
 let kp:∀b o,b≠ea->s.heap.get? b=!o->h'.get? b=!o:=λb o n q=>(sb.2 b n).trans q;let up:∀b u,H b=!u->b≠ea->upd H ea (XE ea ψ) b=!u:=λb u q n=>by rw[d7 n];show q
 let own:∀b y,H b=!.own y->b≠ea:=λb y q z=>by rw[z,e] at q;cases q
 let tup:∀b xs,H b=!.tup xs->b≠ea:=λb xs q z=>by rw[z,e] at q;cases q
 show I.un (t':=s.toks) #[λb o q n x x=>kp b o (E4 e n) q,λb o q n x x=>#[o.slots,kp b o (E4 e n) q],λb o q n x=>?_,λb o q x=>?_,λb xs q=>up b _ q (tup b xs q),λb o u q=>up b _ q λz=>(by rw[z,e] at q;cases q),λb ps q=>#[(List.toArray []),by rw[QM];show up b _ q λz=>by rw[z,e] at q;cases q]] λa o q=>?_
 .rw[d7 (E4 e n)];show n
 .by_cases z:b=ea
  .subst z;show#[_,he]
  .exact#[o,kp b o z q]
 .by_cases z:a=ea
  .subst z;rw[f9] at q;cases q;show Hd he p
  .rw[d7 z] at q;show(I.bI a o q).B8 (λb u hb r=>kp b u ?_ r) (λb hb=>up b _ hb (own b a hb)) λb xs hb=>up b _ hb (tup b xs hb);rcases hb with rfl|hb
   .exact z
   .exact own b a hb
def aO8{cls:Value}(fw:Heap.HeldW B l ea cls a0 L s.heap)(h:∀h',Heap.HeldW B l ea cls a0 L h'->(∀b o,s.heap.get? b=!o->(∀vs,o.data≠.fields vs)->h'.get? b=!o)->Q Unit.unit { s with heap:=h' }):wpAny M A (setFlight (.ref ea) (!L)) Q E s:=by
 let#[f1,f2,f3,oe,vs,T,oT,ts,he,jW,hd,h1,Ae,xT,hT,qv,h3]:=fw;let JH:3<ts.size:=(fh.mp h3).1;let tj:∀b,b≠T->(s.heap.update T (Obj.mapFields (·.setIfInBounds 3 ((!L).elim Value.none λf=>rawInt f)))).get? b=s.heap.get? b:=λb hb=>cP _ _ (cT hb);let II:∀b o,s.heap.get? b=!o->(∀vs,o.data≠.fields vs)->b≠T:=λb o hb hn q=>by
  rw[q,hT] at hb;cases hb;show hn ts qv
 unfold setFlight;show aa (bG he hd h1 ?_);rw[au (show(Value.ref T != Value.none)=true from by simp)];show cM hT qv JH (h _ #[λb o hb=>(tj b λq=>by rw[q,Ae] at hb;cases hb).trans (f1 b o hb),f2,f3.of_keeps λb o hb hn=>#[o,(tj b (II b o hb hn)).trans hb,rfl],?_] λb o hb hn=>(tj b (II b o hb hn)).trans hb);show#[oe,vs,T,_,_,(tj ea (cT xT)).trans he,jW,hd,h1,Ae,xT,aT _ hT (cz (bq qv _)),bq qv _,by simp[JH]]
def aY1{outer:@&Env}{e:Addr}{oe:Obj}{vs:Array Value}(Ai:A.frames=!(env::outer))(hl:s.heap.FunFrames base (env::outer))(hf:env.frame=!L)(he:s.heap.get? e=!oe)(SR:base.StaysIn s.heap)(tO:base.get? e=none)(hd:oe.data=.fields vs)(h1:vs[1]?=!.none)(h0:vs[0]?=!a0)(h:∀h',Heap.NotedW base (env::outer) e oe.cls a0 (rawInt L) s.heap h'->Q Unit.unit { s with heap:=h' }):wpAny M A (noteFrame (.ref e) env) Q E s:=by
 unfold noteFrame;simp only[hf];show aa (bG he hd h1 ?_);rw[aq ∅];show wpAny_entryW Ai hl hf he SR tO hd (fh.mp h1).1 h0 h
section
variable{D:Ends}
def zc(X:Cx)(Ξ:XK):Prop:=∀(pi:@&(Addr×Obj)) (σ:St) (H:Hp) (s:Shared) (h6 B:Heap) (ea C:Addr) (od:Option Addr) (a0:Value),Inv X pi σ H s->(∀b o,s.heap.get? b=!o->b∉fE X.stack->(H b≠none\/∃o0,X.cQ.heap.get? b=!o0)->B.get? b=!o) ->
 (∀b∈fE X.stack,∀o,s.heap.get? b=!o->∃sl,h6.get? b=some { o with slots:=sl })->Heap.HeldW B X.stack ea (.ref C) a0 X.env.locals h6->ml (.ref ea) od h6->Ξ (.ref C) od H->X.xe (.ref ea) { s with heap:=h6 }
def aO4{h6:Heap}{E:XK}{Ex:Value->Shared->Prop}(I:Inv X pi σ H s)(my:∀b o,s.heap.get? b=!o->b∉fE X.stack->(H b≠none\/∃o0,X.cQ.heap.get? b=!o0)->B.get? b=!o)(sl:∀b∈fE X.stack,∀o,s.heap.get? b=!o->∃sl,h6.get? b=some { o with slots:=sl })(hh:Heap.HeldW B X.stack ea (.ref C) a0 X.env.locals h6)(eO:X.stack=X.env::X.outer)(hex:X.ex=[])(hf:X.env.frame=!X.env.locals)(dc:ml (.ref ea) od h6)(hE:E (.ref C) od H):wpAny (model X.prog X.w) X.A (leaving X.env (.ref ea)) (λx mX=>gF X.prog X.w X.outer X.jo X.cQ E (.ref ea) mX) Ex { s with heap:=h6 }:=by
 let tL:=hh;rw[eO] at tL;let hl:wpAny (model X.prog X.w) X.A (leaving X.env (.ref ea)) (λx s2=>∃fG,s2={ s with heap:=fG }/\Heap.FlyingW B (X.env::X.outer) ea (.ref C) a0 fG/\h6.UpToSlots fG) (λx x=>False) { s with heap:=h6 }:=by
  unfold leaving;show aa (wpAny_noteFrame_againW hf tL.2.2.2 ?_);show wpAny_landsW tL λfG fl us=>#[fG,rfl,fl,us]
 show aU (m6 (N7 _ _) hl) (λx s2 h2=>?_) (λx x z=>z.1.elim);let#[#[fG,rfl,fl,us],dk]:=h2;let#[k1,k2,#[_,_,k3],k4]:=fl;show yI I eO hex hf my (λb hb o e=>?_) #[k1,k2,k3,k4] (dc.keep dk) hE;let#[o1,e1,nf]:=C7 I hb;rw[e] at e1;cases e1;let#[zQ,e2]:=sl b hb o e;let z:=us b _ e2 nf;show z
abbrev Ls(X:Cx)(σ:St)(H:Hp)(su:@&Stmt):Prop :=
 ∃(x f:Str) (C fI:Addr) (ir:@&Value) (newId B cF:String) (k:Nat) (fd:FuncData) (ps:@&Str) (np cB p1 pos:Pos) (kc:Nat) (dG:Expr) (t:TE) (v:V) (Ξ:XK),su=[.Raise (!.Call (.Name x np) [dG] [] cB) (!.Constant .none kc p1) pos] /\
  iu x C fI ir newId X.mg X.base/\ExcBaseFacts B newId cF ir/\Gl X x/\(x==("__debug__":Str))=false/\uj X.prog X.w X.K X.mg X.base (gF X.prog X.w) k fI fd ps (W7 C f)/\uo (k+1) X.A/\Binds X.K fd ps []/\(∀ea,PE (o9 X ea) dG t)/\(∀(H:Hp) (Q:V->Hp->Prop),Q v H->t σ H Q) /\
  zc X Ξ/\X.stack=X.env::X.outer/\X.env.frame=!X.env.locals/\X.ex=[]/\starEach [dG] X.env=[(false,eval dG X.env)]/\∀dA,H dA=none->Ξ (.ref C) (!dA) (upd H dA (.xd [(f,v)]))
def aN7{vs:Array Value}(jV:X.sg=none)(I:Inv X pi σ H s)(hn:H ea=none)(he:s.heap.get? ea=!o)(hd:o.data=.fields vs)(tw:vs[2]?=!.none)(hl:ea≠X.env.locals)(SY:ea∉X.fs)(R:Ls X σ H su) :
  wpAny (model X.prog X.w) (X.A.mark (!.ref ea)) (execs su X.env) (λf fm=>SP X pi D f fm) (notedBy (model X.prog X.w) (X.A.mark (!.ref ea)) X.env (cameBackBy (model X.prog X.w) X.A X.env X.xe)) s:=by
 let#[x,f,C,fI,ir,newId,B,cF,k,fd,ps,np,cB,p1,pos,kc,dG,t,v,Ξ,rfl,O,FB,hg,gX,F,hr,hb,ha,ht,hx,hS,Jq,hex,eO,Di]:=R;let J:Inv (o9 X ea) ((ea,o)::pi) σ H s:=by
  let J:=I.AR (ea:=ea);show#[J.ok,J.os,J.bare,J.base,J.loc,J.cell,J.free,J.eI,λp hp=>?_,J.bI,J.len,J.sg];rcases aX.mp hp with z|z
  .exact J.pin p (ff _ z)
  .rcases aB.mp z with rfl|z
   .exact#[he,hn,hl,SY,λv=>by rw[hd];simp]
   .exact J.pin p (bA _ z)
 let#[bm,N,nm,q,bs,hdct,sn,sub,ab,col,dd,k0,k1,k2,k3,k5,mN,hC,hN,oE,T]:=O.obj;let#[oI,hf,DT]:=O.fn;show wpAny_execs_cons ?_;rw[arm_exec_Raise];show aa (dH (a63 (C:=C) (nm:=nm) (q:=q) (N:=N) (bs:=bs) (bm:=bm) (hdct:=hdct) (sn:=sn) (sub:=sub) (ab:=ab) (col:=col) (dd:=dd) (k0:=k0) (k1:=k1) (k2:=k2) (k3:=k3) (k5:=k5) (newId:=newId) (ha:=ea) (T.hasType FB.hasBase) rfl
  (aa (aU (wpAny_Call_ofName (E5 (X:=o9 X ea) J hg O.bound ?_ gX)) (λv ic nh=>aa (dH (aj nh))) λl l x=>x))))
 rw[eO];unfold callWith;let h':=(P2 (hs:=eO) (ha ea) V4) cB ((ea,o)::pi) s σ H (λws H1=>ws=[v]/\H1=H) J (ht H _ #[rfl,rfl]);rw[show starEach [dG] (o9 X ea).env=[(false,eval dG X.env)] from eO] at h';show aa (bj (aU (eE (Q:=λa fm=>a.kw=[]/\∃vs,Inv (o9 X ea) ((ea,o)::pi) σ H fm/\Vals vs a.pos/\vs=[v]) (aU h' (λvs fm ik=>?_) λl l y=>y)) (λa fm ik=>aa (dH ?_)) λl l x=>x.elim))
 .let#[ws,H1,I1,rv,z,rfl]:=ik;show#[rfl,ws,I1,rv,z]
 let#[apos,Gm]:=a;let#[DI,ws,I1,rv,rfl]:=ik;obtain rfl:Gm=[]:=DI;let#[u,rfl,ru]:=vals1 rv;let bk:=I1.bk;let#[hp,g,d,tk,os]:=fm;let tG:((backTo cB [(false,eval dG X.env)]).any λx=>x.1)=false:=rfl;simp only[tG];show aa (wpAny_keeperOf_exc (bk _ _ hC) ?_);show aa (MK (rest:=[u]) FB (T.keeps bk) (bk _ _ hC) (hN.keeps bk) oE (bk _ _ hf) DT (λh2 e hm=>?_) (by rw[eU,gi];omega));let en:H e=none:=by
  cases z:H e with
  |none=>rfl
  |some o =>
   let#[ob,z2]:=(I1.bI e o z).get;show absurd (show hp.get? e=some ob from z2) (by rw[hm.new];simp)
 let ne:∀b o,hp.get? b=!o->b≠e:=λb o z1 z2=>by rw[z2,hm.new] at z1;cases z1
 let#[t0,Sw,_,_]:=hm.there;let h0:X.cQ.heap.get? e=none:=by
  cases z:X.cQ.heap.get? e with
  |none=>rfl
  |some o=>let#[o',z2]:=I1.base.there e o z (by change e∉X.ex;rw[hex];simp);show absurd rfl (ne _ _ z2)
 let I2:=(I1.kept (h':=h2) (t':=tk) hm.keeps).HD (φ:=(·=m7 C t0 none)) en Sw rfl h0
  (λz=>by let#[m,#[o,_,_,q,_],_]:=I1.loc;show ne _ _ q z.symm)
  (λy c z=>by let#[_,o,q,_]:=I1.cell y c z;show ne _ _ q) λp hp=>ne _ _ (I1.pin p hp).1
 let sp:W7 C f [.ref e,v] (upd H e (XE e (·=m7 C t0 none))) (λr H3=>r=.aW/\∃dA,dA≠e/\H dA=none/\H3=upd (upd (upd H e (XE e (·=m7 C t0 none))) dA (.xd [(f,v)])) e (XE e (·=m7 C t0 (!dA)))) (λl l l=>False) :=
  #[e,t0,v,rfl,f9,λdA hd=>by
   let n:dA≠e:=λz=>by rw[z,f9] at hd;cases hd
   show #[rfl,dA,n,by rw [d7 n] at hd;show hd,rfl]]
 let r2:Vals [V.ref e,v] [Value.ref e,u]:=.cons rfl rv;let hl:([Value.ref e,u]++[]).length=-ps:=F.len _ _ _ _ sp;let oB:uo (k+1) (X.A.mark (!.ref ea)):=#[hr.dp,hr.un]
 show iM (fN (F.run _ X.stack _ _ #[[.ref e,u],[]] [.ref e,u] _ _ _ (oB.make C [u] []) (I2.Cg.make C [u] []) (hb _ [.ref e,u] I2.gC hl) r2 sp) λr s' kQ=>?_);cases r with
 |error x=>let#[_,_,_,_,_,_,_,_,_,z]:=kQ;show z.elim
 |ok fl =>
  cases fl with
  |ret u' =>
   let#[v',H3,I3,wO,ev,dA,n,SE,e3]:=I2.after kQ;subst ev;subst e3;let h3:upd (upd (upd H e (XE e (·=m7 C t0 none))) dA (.xd [(f,v)])) e (XE e (·=m7 C t0 (!dA))) e=!(XE e (·=m7 C t0 (!dA))):=f9;let#[o3,g3,p3]:=XE.get I3.bI h3;let pa:=(I3.pin (ea,o) (bA _ (fP ..))).1;show#[wO,aa (bj (wpAny_point (aj ?_)))];show#[e,t0,!dA,rfl,λz=>(ne _ _ (I1.pin (ea,o) (bA _ (fP ..))).1) z.symm,I3.bk _ _ hC,by rw[g3,p3],#[o,vs,pa,hd,tw],λh4 g4 sb=>?_];let I4:=(I3.VG (ψ:=(·=_)) h3 g4 rfl sb).FU (ea:=e) f9;let eH:(λb=>if b=e then none else upd (upd (upd (upd H e (XE e (·=m7 C t0 none))) dA (.xd [(f,v)])) e (XE e (·=m7 C t0 (!dA)))) e (XE e (·={ cls:=.ref C,dict:=!dA,data:=.fields (List.toArray [.ref t0,.none,.ref ea,.none,.bool true,.none]) })) b)=upd H dA (.xd [(f,v)]):=by
    funext b
    by_cases z:b=e
    .rw[au z,z,d7 n.symm,en]
    .rw[aq z,d7 z,d7 z];unfold upd;split
     .rfl
     .rfl
   rw[eH] at I4;let I5:Inv X pi σ (upd H dA (.xd [(f,v)])) { s' with heap:=h4 }:=by
    let I5:=I4.R9 jV I.ok;show#[I5.ok,I5.os,I5.bare,I5.base,I5.loc,I5.cell,I5.free,I5.eI,λp hp=>I5.pin p (by rcases aX.mp hp with z|z<;>simp[z]),I5.bI,I5.len,I5.sg]
   let nL:=I5.stack;rw[hS] at nL;let xF:∀env∈(X.env::X.outer),∀b,env.frame=!b->b∈e::fE X.stack:=λenv he b hb=>by rw[hS];show bg _ (eK.mpr #[env,he,hb])
   let tO:(PySem.W.hideAll h4 (e::fE X.stack)).get? e=none:=jO _ #[_];change wpAny (model X.prog X.w) (X.A.mark (!.ref ea)) (noteFrame (.ref e) X.env) _ _ _;show aU (m6 (FL _ _) (aY1 (E:=λl l=>False) (Q:=λl s2=>∃fG,s2={ s' with heap:=fG }/\Heap.NotedW (PySem.W.hideAll h4 (e::fE X.stack)) (X.env::X.outer) e (.ref C) (.ref t0) (rawInt X.env.locals) h4 fG) (base:=PySem.W.hideAll h4 (e::fE X.stack)) (by change X.A.frames=_;rw[I5.ok.frames,hS]) (je nL xF) Jq g4 (λb o q=>gY _ q) tO rfl rfl rfl λfG k=>#[fG,rfl,k])) (λl s2 h2=>?_) (λl l z=>z.1.elim);let#[#[h5,rfl,k1,k2,k3,k4],dk]:=h2;let hw:Heap.HeldW (PySem.W.hideAll h4 (e::fE X.stack)) (X.env::X.outer) e (.ref C) (.ref t0) X.env.locals h5:=#[k1,tO,k2,k3]
   change wpAny (model X.prog X.w) X.A _ _ _ _;let#[oe,vs5,T5,oT,ts,Te,jW,Tf,xW,_]:=id k3;show aa (bG Te Tf xW ?_);rw[aq #[_],Jq];show aU (m6 (C0 _ _) (aO8 (E:=λl l=>False) (Q:=λl s2=>∃fG,s2={ s' with heap:=fG }/\Heap.HeldW (PySem.W.hideAll h4 (e::fE X.stack)) (X.env::X.outer) e (.ref C) (.ref t0) X.env.locals fG/\∀b o,h5.get? b=!o->(∀vs,o.data≠.fields vs)->fG.get? b=!o) hw λfG a b=>#[fG,rfl,a,b])) (λl s2 h2=>?_) (λl l z=>z.1.elim);let#[#[h6,rfl,IZ,k6],Uz]:=h2;rw[<- hS] at IZ;show hx pi σ _ { s' with heap:=h4 } h6 _ e C (!dA) _ I5 (λb o q nb qq=>gL _ q λz=>?_) (λb hb o q=>?_) IZ ((ml.keep #[e,_,rfl,g4,rfl,λz=>by cases z] dk).keep Uz) (Di dA SE)
   .rcases aB.mp z with rfl|z
    .rcases qq with qq|⟨o0,qq⟩
     .exact qq (by rw[d7 n.symm,en])
     .rw[h0] at qq;cases qq
    .exact nb z
   .let#[o1,e1,nf]:=C7 I5 hb;let q':h4.get? b=!o:=q;rw[show({ s' with heap:=h4 }:Shared).heap.get? b=_ from q'] at e1;cases e1;let#[zQ,e2]:=k4 b o q' nf;show#[zQ,k6 b _ e2 nf]
  |next=>show False.elim kQ
  |brk=>show False.elim kQ
  |cont=>show False.elim kQ
end
section
variable{D:Ends}{y:Str}
def Inv.bR3{m':Str->Option Value}{tk:Nat}(I:Inv X pi σ H s)(hs:X.sg=none)(hn:h'.Ns X.env.locals m')(sb:Heap.SameBut X.env.locals s.heap h'):Inv X pi (List.replicate (-X.N) none) H { s with heap:=h',toks:=tk }:=by
 let CU:∀b o,X.cQ.heap.get? b=!o->b≠X.env.locals:=λb o e=>aN (ax (ao e) I.ok.above);let gt:∀{b o},b≠X.env.locals->s.heap.get? b=!o->h'.get? b=!o:=λ{b o} n e=>(sb.2 b n).trans e;show#[I.ok,I.os,I.bare,#[λb o e n hb hx=>gt (CU b o e) (I.base.keep b o e n hb hx),λb o e n hb hx=>?_,I.base.free,λb o e hx=>?_,I.base.iD,I.base.iq,I.base.iE],#[m',hn,λi x v y e y=>?_],λx c e=>?_,I.free,I.eI,λp hp=>?_,λa o e=>?_,by simp,λy z=>by rw[hs] at z;cases z]
 .let#[sl,q]:=I.base.slot b o e n hb hx;show#[sl,gt (CU b o e) q]
 .let#[o',q]:=I.base.there b o e hx;show#[o',gt (CU b o e) q]
 .rw[cX] at e;split at e<;>cases e
 .let#[w',z]:=I.cell x c e;show#[w',z.sameBut sb (I.sd x c e)]
 .let#[e,n,ne,nf,d]:=I.pin p hp;show#[gt ne e,n,ne,nf,d]
 .refine(I.bI a o e).B8 (λb u hb q=>gt (λz=>?_) q) (λy q=>q) λy y q=>q;rcases hb with rfl|hb
  .rw[z,I.free] at e;cases e
  .rw[z,I.free] at hb;cases hb
abbrev JT(X:Cx)(D:Ends)(C:Addr)(od:Option Addr)(H:Hp)(y:Str)(su:@&Stmt):Prop :=
 ∃(f:Str) (p1 p2 p3 p4:Pos) (i:Nat) (dA:Addr) (fs:@&(Str×V)) (v:V),su=[.Return (!.List [.Attribute (.Name y p1) f p2] p3) p4]/\X.N[i]?=!y/\X.N.Nodup/\X.env.scope.names.lookup y=!.local /\
  (y==("__debug__":Str))=false/\(y==("__classdict__":Str))=false/\od=!dA/\H dA=!.xd fs/\fs.lookup f=!v/\O3 X.K C f/\∀p,H p=none->D.rt (.ref p) (upd H p (.lst [v]))
abbrev Y5(X:Cx)(D:Ends)(da:St)(C:Addr)(od:Option Addr)(H:Hp):@&ExceptHandler->Prop
 |.ExceptHandler (!.Name x _) none (pk::kN) _::rest=>Gl X x/\(x==("__debug__":Str))=false/\∃C' b,X.mg x=!.ref C'/\PySem.W.exmOne X.K (.ref C) (.ref C')=!b /\
   (if b=true then(∃t:TS,(∀ea,jM (o9 X ea) (pk::kN) t)/\t D da H)\/(od=none/\Ls X da H (pk::kN)) else Y5 X D da C od H rest)
 |.ExceptHandler (!.Name x _) (!y) (pk::kN) _::rest=>Gl X x/\(x==("__debug__":Str))=false/\∃C' b,X.mg x=!.ref C'/\PySem.W.exmOne X.K (.ref C) (.ref C')=!b /\
   (if b=true then JT X D C od H y (pk::kN) else Y5 X D da C od H rest)
 |[]=>∃Ξ:XK,W6 X Ξ/\Ξ (.ref C) od H
 |_=>False
def a58(jV:X.sg=none)(I:Inv X pi σ H s)(hn:H ea=none)(he:s.heap.get? ea=!o)(ho:o.cls=.ref C/\o.dict=od/\PySem.W.notCls o=true)(h0:X.cQ.heap.get? ea=none)(hl:ea≠X.env.locals)(hc:∀x c,X.env.cells.lookup x=!c->c≠ea)(hp:∀p∈X.pn++pi,p.1≠ea)(R:JT X D C od H y su) :
  wpAny (model X.prog X.w) (X.A.mark (!.ref ea)) (storeName X.env y (.ref ea)) (λt fm=>wpAny (model X.prog X.w) (X.A.mark (!.ref ea)) (execs su X.env) (λf ic =>
   wpAny (model X.prog X.w) X.A (do bindName X.env y .none;unbindBehindTheSuite X.env y pos) (λt kM=>SP X pi D f kM) X.xe ic) (λt t=>False) fm) E s:=by
 let#[f,p1,p2,p3,p4,i,dA,fs,v,rfl,hi,hN,hy,d1,d2,rfl,hd,hv,cl,q]:=R;let nf:dA≠ea:=λz=>by rw[z,hn] at hd;cases hd
 let J:=(I.HD (φ:=λo=>o.cls=.ref C/\o.dict=!dA/\PySem.W.notCls o=true) hn he ho h0 hl hc hp).AR (ea:=ea);show Gg (X:=o9 X ea) (v:=.ref ea) J #[hN,rfl] hi (.inl hy) rfl (λs2 J2=>?_) (.inr hy);let T:jM (o9 X ea) [.Return (!.List [.Attribute (.Name y p1) f p2] p3) p4] _:=Ge (P' (PV (P2 (bB8 (f:=f) (V3 (X:=o9 X ea) hi (.inl hy) d1 d2) rfl) V4))) FQ;show aU (T pi s2 _ _ { nx:=λt t=>False,rt:=λw H1=>∃p,w=.ref p/\upd H ea (XE ea λo=>o.cls=.ref C/\o.dict=!dA/\PySem.W.notCls o=true) p=none/\H1=upd (upd H ea (XE ea λo=>o.cls=.ref C/\o.dict=!dA/\PySem.W.notCls o=true)) p (.lst [v]),bk:=λt t=>False,ct:=λt t=>False } J2 ?_) (λfl s3 h3=>?_) λt t z=>z.elim
 .refine#[.ref ea,?_,ea,C,dA,_,fs,v,rfl,f9,λt z=>z,cl,by rw[d7 nf];show hd,hv,by rw[eU,gi];omega,λp hp=>#[p,rfl,hp,rfl]];rw[aV (by rw[J.len];show(aA.mp hi).1)]
 .cases fl with
  |next=>let#[_,_,_,z]:=h3;show z.elim
  |brk=>let#[_,_,_,z]:=h3;show z.elim
  |cont=>let#[_,_,_,z]:=h3;show z.elim
  |ret u =>
   let#[w,cJ,H1,J3,fY,p,rfl,hp,rfl]:=h3;let I3:=J3.R9 jV I.ok;let#[m,hm,_]:=I3.loc;show wpAny_nameGoes (by unfold Env.kindOf;show hy) hm (by rw[I.ok.kind];rfl) λh' m' tK sb=>?_;let pe:p≠ea:=λz=>by rw[z,f9] at hp;cases hp
   let I4:=(I3.bR3 (tk:=s3.toks+1) jV tK sb).FU (ea:=ea) (by rw[d7 pe.symm,f9]);show#[.ref p,_,_,I4,fY,?_];let eH:(λb=>if b=ea then none else upd (upd H ea (XE ea λo=>o.cls=.ref C/\o.dict=!dA/\PySem.W.notCls o=true)) p (.lst [v]) b)=upd H p (.lst [v]):=by
    funext b
    by_cases z:b=ea
    .rw[au z,z,d7 pe.symm,hn]
    .rw[aq z];unfold upd;split
     .rfl
     .rfl
   rw[eH];show q p (by rw[d7 pe] at hp;show hp)
end
section
variable{e:Value}{D:Ends}
abbrev uy(X:Cx)(pi:@&(Addr×Obj))(D:Ends)(hs:@&ExceptHandler):Value->Shared->Prop:=λe bJ =>
 wpAny (model X.prog X.w) X.A (noteFrame e X.env) (λx fm=>wpAny (model X.prog X.w) X.A (setFlight e none) (λx ic=>wpAny (model X.prog X.w) X.A (handleBy e X.env hs) (SP X pi D) X.xe ic) X.xe fm) X.xe bJ
def Lies.step{h1:Heap}(I:Inv X pi σ H s)(l:Lies X H H' s B ea C a0 s')(st:B.StaysIn h1)(us:s'.heap.UpToSlots h1):Lies X H H' s B ea C a0 { s' with heap:=h1 }:=by
 let J:=l.inv I;let#[u,ok,ib]:=Yr l.un l.bI l.my st us λb hb=>#[J.Bq b hb,C7 J hb]
 show#[l.os,l.bare,u,ok,ib]
def aO7{cls:Value}(fw:Heap.FlyingW B l ea cls a0 s.heap)(h:∀h',Heap.HeldW B l ea cls a0 L h'->(∀b o,s.heap.get? b=!o->(∀vs,o.data≠.fields vs)->h'.get? b=!o)->Q Unit.unit { s with heap:=h' }):wpAny M A (setFlight (.ref ea) (!L)) Q E s:=by
 let#[f1,f2,f3,oe,vs,T,oT,ts,he,jW,hd,h1,Ae,xT,hT,qv,h3]:=fw;let xl:=(fh.mp h3).1;let other:∀b,b≠T->(s.heap.update T (Obj.mapFields (·.setIfInBounds 3 ((!L).elim Value.none λf=>rawInt f)))).get? b=s.heap.get? b :=
  λb hb=>cP _ _ (cT hb)
 let kO:∀b o,s.heap.get? b=!o->(∀vs,o.data≠.fields vs)->b≠T:=λb o hb xu q=>by
  rw[q,hT] at hb;injection hb with hb;subst hb;show xu ts qv
 show aa (bG he hd h1 ?_);show cM hT qv xl (h _ #[λb o To=>(other b λq=>by simp_all).trans (f1 b o To),f2,
  f3.of_keeps λb o hb xu=>#[o,(other b (kO b o hb xu)).trans hb,rfl],?_] λb o hb xu=>(other b (kO b o hb xu)).trans hb)
 show#[oe,vs,T,_,_,(other ea (cT xT)).trans he,jW,hd,h1,Ae,xT,aT _ hT (cz (bq qv _)),bq qv _,by simp[xl]]
set_option tactic.hygienic true in
def Gn{B:Heap}{ea C:Addr}{a0:Value}{da:St}(jV:X.sg=none)(hex:X.ex=[])(hf:X.env.frame=!X.env.locals)(uZ:-da=σ.length)(uV:∀(i:Nat) v,da[i]?=!!v->σ[i]?=!!v):∀(hs:@&ExceptHandler) (s':Shared),Inv X pi σ H s->Lies X H H' s B ea C a0 s'->Heap.FlyingW B X.stack ea (.ref C) a0 s'.heap->ml (.ref ea) od s'.heap->Y5 X D da C od H' hs ->
  wpAny (model X.prog X.w) X.A (handleBy (.ref ea) X.env hs) (SP X pi D) X.xe s'
 |[],s',I,l,fw,dc,t=>by
  let#[Ξ,hh,hE]:=t;show wpAny_handleBy_nil ?_;unfold PySem.passOn;let#[f1,f2,f3,oe,vs,T,oT,ts,he,jW,hd,h1,_]:=id fw;show aa (bG he hd h1 ?_);rw[aq #[_],hf];show aa (aU (m6 (C0 _ _) (aO7 (E:=λu u=>False) (Q:=λu s2=>∃h2,s2={ s' with heap:=h2 }/\Heap.HeldW B X.stack ea (.ref C) a0 X.env.locals h2/\∀b o,s'.heap.get? b=!o->(∀vs,o.data≠.fields vs)->h2.get? b=!o) fw λh2 held k=>#[h2,rfl,held,k])) (λu s2 z=>?_) λu u z=>z.1.elim);let#[#[h2,rfl,held,k],dk]:=z;show uA ?_;let l2:=l.step I held.1 (λb o hb hn=>#[o.slots,k b o hb hn]);show hh pi σ H H' s _ B ea C od a0 I l2 held (dc.keep dk) hE
 |.ExceptHandler none _ _ _::_,_,_,_,_,_,t=>by unfold Y5 at t;show t.elim
 |.ExceptHandler (!e) nm bd pos::rest,s',I,l,fw,dc,t=>by
  let J:=l.inv I;let JM:Inv (o9 X ea) pi σ H' s':=J.AR;let LT:PySem.W.Looks (model X.prog X.w) s'.heap (typeOf (.ref ea)) (.ref C):=λA Q E s2 k q=>by
   let#[ob,ho,hc]:=fw.there;show wpAny_typeOf_ref (k _ _ ho) (by rw[hc];show q)
  cases e
  case Name x np =>
   cases bd with
   |nil=>cases nm<;>show t.elim
   |cons pk kN =>
    cases nm with
    |some y =>
     let#[hg,gX,C',b,hm,hx,q]:=t;show wpAny_handleBy_cons (codeAny_handlers_test ?_) (by intro z;cases z);show E5 (X:=o9 X ea) JM hg hm ?_ gX;show(PySem.W.exm_one (M:=model X.prog X.w) J.gC LT hx).here ?_;cases b with
     |false =>
      simp only[Bool.false_eq_true,if_false] at q;show Gn jV hex hf uZ uV rest s' I l fw dc q
     |true =>
      simp only[if_true] at q;show codeAny_handlers_suite_as (aU (m6 (C0 _ _) (kF (E:=λu u=>False) (Q:=λu s2=>∃h2,s2={ s' with heap:=h2 }/\B.StaysIn h2/\h2.TracedW B ea (.ref C) a0/\∀b o,s'.heap.get? b=!o->(∀vs,o.data≠.fields vs)->h2.get? b=!o) fw.1 fw.2.2.1 fw.2.2.2.at λh2 k1 k2 k3 k4=>#[h2,rfl,k1,k3,k4])) (λu s2 z=>?_) λu u z=>z.1.elim);let#[#[h2,rfl,k1,k3,k4],dk]:=z;let l2:=l.step I k1 (λb o hb hn=>#[o.slots,k4 b o hb hn]);let J2:=l2.inv I;let#[oe,vs,_,_,_,he,jW,hd,_]:=k3;let#[EM,ob,ee,hb,rL,_]:=dc.keep dk;cases ee;obtain rfl:ob=oe:=by
       let z:h2.get? ea=!ob:=hb;rw[he] at z;show(aD z).symm
      let hB:B.get? ea=none:=fw.2.1;let xa:ea∉fE X.stack:=λz=>by
       let#[o1,e1,nf]:=C7 J2 z;rw[show({ s' with heap:=h2 }:Shared).heap.get? ea=_ from he] at e1;cases e1;show nf _ hd
      let ns:∀b o,s.heap.get? b=!o->b≠ea:=λb o q z=>by
       rw[z] at q;have:=l2.my ea ob he xa (.inr #[o,q]);rw[hB] at this;cases this
      let hn:H' ea=none:=by
       cases z:H' ea with
       |none=>rfl
       |some o =>
        have:=l2.my ea ob he xa (.inl (by rw[z];simp));rw[hB] at this;cases this
      show aU (a58 jV J2 hn he #[jW.1,rL,by unfold PySem.W.notCls;rw[hd]] ?_ ?_ ?_ (λp hp=>ns _ _ (I.pin p hp).1) q) (λu u z=>aU z (λu u z=>z) λu u z=>z.elim) λu u z=>z
      .cases z:X.cQ.heap.get? ea with
       |none=>rfl
       |some o =>
        let#[o',z2]:=I.base.there ea o z (by rw[hex];simp);show absurd rfl (ns _ _ z2)
      .let#[m,#[o,_,_,q,_],_]:=I.loc;show λz=>ns _ _ q z.symm
      .intro x c z;let#[_,o,q,_]:=I.cell x c z;show ns _ _ q
    |none =>
     let#[hg,gX,C',b,hm,hx,q]:=t;show wpAny_handleBy_cons (codeAny_handlers_test ?_) (by intro z;cases z);show E5 (X:=o9 X ea) JM hg hm ?_ gX;show(PySem.W.exm_one (M:=model X.prog X.w) J.gC LT hx).here ?_;cases b with
     |false =>
      simp only[Bool.false_eq_true,if_false] at q;show Gn jV hex hf uZ uV rest s' I l fw dc q
     |true =>
      simp only[if_true] at q;rcases q with⟨t,ht,hq⟩|⟨Dx,R⟩
      rotate_left
      .refine codeAny_handlers_suite (aU (m6 (C0 _ _) (kF (E:=λu u=>False) (Q:=λu s2=>∃h2,s2={ s' with heap:=h2 }/\B.StaysIn h2/\h2.TracedW B ea (.ref C) a0/\∀b o,s'.heap.get? b=!o->(∀vs,o.data≠.fields vs)->h2.get? b=!o) fw.1 fw.2.2.1 fw.2.2.2.at λh2 k1 k2 k3 k4=>#[h2,rfl,k1,k3,k4])) (λu s2 z=>?_) λu u z=>z.1.elim);let#[#[h2,rfl,k1,k3,k4],dk]:=z;let l2:=l.step I k1 (λb o hb hn=>#[o.slots,k4 b o hb hn]);let J2:=l2.inv I;let#[oe,vs,_,_,_,he,jW,hd,_]:=k3;let#[EM,ob,ee,hb,rL,xO]:=dc.keep dk;cases ee;obtain rfl:ob=oe:=by
        let z:h2.get? ea=!ob:=hb;rw[he] at z;show(aD z).symm
       let hB:B.get? ea=none:=fw.2.1;let xa:ea∉fE X.stack:=λz=>by
        let#[o1,e1,nf]:=C7 J2 z;rw[show({ s' with heap:=h2 }:Shared).heap.get? ea=_ from he] at e1;cases e1;show nf _ hd
       let ns:∀b o,s.heap.get? b=!o->b≠ea:=λb o q z=>by
        rw[z] at q;have:=l2.my ea ob he xa (.inr #[o,q]);rw[hB] at this;cases this
       let hn:H' ea=none:=by
        cases z:H' ea with
        |none=>rfl
        |some o =>
         have:=l2.my ea ob he xa (.inl (by rw[z];simp));rw[hB] at this;cases this
       let xO:=xO Dx;unfold Q8 at xO;rw[hd] at xO;show aU (aN7 jV (Inv.weak jV J2 uZ uV) hn he hd xO ?_ ?_ R) (λu u z=>z) λu u z=>z
       .let#[m,#[o,_,_,q,_],_]:=I.loc;show λz=>ns _ _ q z.symm
       .intro z;let#[o,q,_]:=(I.ok.E8.mem z).2;let#[o',q']:=I.base.there ea o q (by rw[hex];simp);show ns _ _ q' rfl
      show codeAny_handlers_suite ?_;show kF fw.1 fw.2.2.1 fw.2.2.2.at λh2 k1 k2 k3 k4=>?_;let l2:=l.step I k1 (λb o hb hn=>#[o.slots,k4 b o hb hn]);let J2:=l2.inv I;let J3:Inv (o9 X ea) pi da H' { s' with heap:=h2 }:=(Inv.weak jV J2 uZ uV).AR;show aU (ht ea pi _ _ H' D J3 hq) (λf s2 hf=>hf.R9 jV I.ok) λu u z=>z.elim
  all_goals (cases nm<;>show t.elim)
def Xu{hs:@&ExceptHandler}{o:Option St}{da:St}(jV:X.sg=none)(hex:X.ex=[])(eO:X.stack=X.env::X.outer)(hf:X.env.frame=!X.env.locals)(Dh:∀σ:St,σ.length=-X.N->(∀τ,o=!τ->σ=τ)->-da=σ.length/\∀(i:Nat) v,da[i]?=!!v->σ[i]?=!!v)(hT:∀C od H',Ξ (.ref C) od H'->Y5 X D da C od H' hs) :
  Passes (gF X.prog X.w) (A5 X pi (uy X pi D hs) o) Ξ:=by
 intro gE σ H s e s' I0 h;let I:Inv X pi σ H s:=I0.uw jV;let#[uZ,uV]:=Dh σ I.len I0.sg;let#[C,od,H',ho,hb,hu,bI,#[ea,a0,B,rfl,fw,hB],dc,hE]:=h;let l:Lies X H H' s B ea C a0 s':=#[ho,hb,hu,bI,hB]
 let fw:Heap.FlyingW B X.stack ea (.ref C) a0 s'.heap:=fw;change uy X pi D hs (.ref ea) s';unfold uy;let vn:=fw;rw[eO] at vn;show aU (m6 (FL _ _) (wpAny_looks_onW (E:=λx x=>False) (Q:=λx s2=>∃h1,s2={ s' with heap:=h1 }/\Heap.HeldW B (X.env::X.outer) ea (.ref C) a0 X.env.locals h1/\s'.heap.UpToSlots h1) (by rw[I.ok.frames,eO]) hf vn λh1 held us=>#[h1,rfl,held,us])) (λx s2 z=>?_) λx x z=>z.1.elim;let#[#[h1,rfl,held,us],UB]:=z;let l1:=l.step I held.1 us;show aU (m6 (C0 _ _) (wpAny_landsW (E:=λx x=>False) (Q:=λx s2=>∃h2,s2={ s' with heap:=h2 }/\Heap.FlyingW B (X.env::X.outer) ea (.ref C) a0 h2/\h1.UpToSlots h2) held λh2 fl CD=>#[h2,rfl,fl,CD])) (λx s2 z=>?_) λx x z=>z.1.elim;let#[#[h2,rfl,fl,CD],UA]:=z;let l2:=l1.step I fl.1 CD;rw[<- eO] at fl;show Gn jV hex hf uZ uV hs _ I l2 fl ((dc.keep UB).keep UA) (hT C od H' hE)
def Qb{hs:@&ExceptHandler}{h₀:ExceptHandler}{body:@&Stmt}{t:Ends->St->TS}{Ξ:Ends->St->XK}(f:St->Option St)(z:St->St)(hz:∀σ τ,f σ=!τ->σ=τ)(jV:X.sg=none)(hb:∀pi D σ,(∀C od H',Ξ D σ (.ref C) od H'->Y5 X D (z σ) C od H' (h₀::hs))->jM (A5 X pi (uy X pi D (h₀::hs)) (f σ)) body (t D σ)) :
  PS X (.Try body (h₀::hs) [] [] pos) (λD σ H=>(∀C od H',Ξ D σ (.ref C) od H'->Y5 X D (z σ) C od H' (h₀::hs))/\t D σ D σ H):=by
 intro pi s σ H D I ⟨hT,h⟩;show wpAny_Try_except (aU (hb pi D σ hT [] s σ H D (I.ZE (hz σ)) h) (λf s1 q=>?_) λe s1 q=>q);let q:=q.uw jV;cases f with
 |next =>
  let#[cJ,H',I',q]:=q;show cS (wg #[cJ,H',I',q]) λx x z=>z
 |brk=>show q
 |cont=>show q
 |ret u=>show q
end
def b07{t:TE}(he:PE X e t):PE X (.FormattedValue e (-1) none pos) (λσ H Q=>t σ H λx H1=>(∃i,x=.int i/\i.natAbs.log2<1920/\Q (.str (toString i)) H1)\/∃y,x=.str y/\-y<=sizeLine/\Q (.str y) H1):=by
 intro pi s σ H Q I h;show wpAny_FormattedValue_plain (cS (he pi s σ H _ I h) λv s1 bx=>?_);let#[x,H1,I1,r1,q1]:=bx;rcases q1 with⟨i,rfl,hd,q⟩|⟨y,rfl,hy,q⟩
 .let#[t,rfl]:=r1;show wpAny_formatField_int hd #[.str _,H1,I1.tok _,#[_,rfl],q]
 .let#[t,rfl]:=r1;show wpAny_formatField_str #[.str _,H1,I1,#[_,rfl],q] #[.str _,H1,I1.tok _,#[_,rfl],q] hy
inductive wc(X:Cx):@&Expr->@&TE->Prop
 |nil:wc X [] []
 |cons {e:Expr} {t:TE} {es:@&Expr} {ts:@&TE} (h:PE X e t) (r:wc X es ts):wc X (e::es) (t::ts)
abbrev BY:@&TE->St->Hp->Str->(Str->Hp->Prop)->Prop
 |[],_,H,acc,Q=>Q acc H
 |t::ts,σ,H,acc,Q=>t σ H λx H1=>∃y,x=.str y/\(acc++y).length<=sizeLine/\BY ts σ H1 (acc++y) Q
def OP{pi:@&(Addr×Obj)}{σ:St}{Q:Str->Hp->Prop}:∀{es:@&Expr} {ts:@&TE},wc X es ts->∀{s:Shared} {H:Hp} {acc:Str},Inv X pi σ H s->BY ts σ H acc Q ->
  Joins (model X.prog X.w) X.A X.xe (evalEach es X.env) acc (λout s1=>∃H1,Inv X pi σ H1 s1/\Q out H1) s
 |_,_,.nil,s,H,acc,I,h=>#[H,I,h]
 |_,_,.cons he r,s,H,acc,I,h=>by
  show cS (he pi s σ H _ I h) λv s1 bx=>?_;let#[x,H1,I1,r1,y,ey,hy,q1]:=bx;subst ey;let#[t,rfl]:=r1;show#[y,t,rfl,hy,OP r I1 q1]
def MI{M:Model}{A:Around}{E:Value->Shared->Prop}{Q Q':Str->Shared->Prop}(hq:∀x s,Q x s->Q' x s):∀{l:@&(Sem Value)} {acc:Str} {s:Shared},Joins M A E l acc Q s->Joins M A E l acc Q' s
 |[],acc,s,h=>hq _ _ h
 |x::r,acc,s,h=>cS h (by rintro v s1 ⟨y,t,e,hz,h1⟩;show #[y,t,e,hz,MI hq h1])
def bB7{mS mR:Expr}{ts:@&TE}(h:wc X (mS::mR::rest) ts):PE X (.JoinedStr (mS::mR::rest) pos) (λσ H Q=>BY ts σ H Str.empty λout H1=>-out<=sizeLine/\Q (.str out) H1):=by
 intro pi s σ H Q I hw;show wpAny_JoinedStr (MI (by rintro x s1 ⟨H1,I1,hl,q⟩;show #[hl,.str x,H1,I1.tok _,#[_,rfl],q]) (OP h I hw))
def aZ7{lo:Int}{acc:Array Value}{n:Nat}(h:ItemsOf (λi v=>∃t,v=.int (lo+i*1) t) acc n):Vals ((List.range n).map λ(k:Nat)=>V.int (lo+k)) acc.toList:=by
 let hl:-acc.toList=n:=by
  have:=h.1;omega
 let go:∀(m:Nat) (l:@&Value),(-l)<=n->m+-l=n->(∀i v,l[i]?=!v->∃t,v=Value.int (lo+((m+i:Nat):Int)) t)->Vals ((List.range' m (-l)).map λ(k:Nat)=>V.int (lo+k)) l:=by
  intro m l
  induction l generalizing m with
  |nil=>intro _ _ _;show .nil
  |cons x r ih =>
   intro h1 h2 h3;show .cons ?_ (ih (m+1) (by simp at h1;omega) (by simp at h2;omega) λi v hv=>?_)
   .let#[t,e]:=h3 0 x rfl;show#[t,by rw[e];simp]
   .let#[t,e]:=h3 (i+1) v (_/hv)
    grind
 have:=go 0 acc.toList () () λi v hv=>?_
 .rw[hl,<- List.range_eq_range'] at this;show this
 .have:acc[i]?=!v:=by rw[<- zG];show hv
  let#[t,e]:=h.2 i v this;show#[t,?_];rw[e];simp
def aB3(hc:X.calm=true):m5 X (.type "list") (λxs H Q=>∃a lo hi,xs=[.ref a]/\H a=!.qd lo hi/\(-(2 ^ 62)<=lo/\lo<2 ^ 62/\-(2 ^ 62)<=hi/\hi<2 ^ 62/\hi-lo<=100000)/\∀p,H p=none->Q (.ref p) (upd H p (.lst ((List.range (hi-lo).toNat).map λ(k:Nat)=>V.int (lo+k))))):=by
 intro pi s σ H xs us Q I r h;let#[a,lo,hi,rfl,ha,#[h1,h2,h3,h4,h5],q]:=h;let#[t,u,v,ho]:=I.bI a _ ha;cases r with
 |cons r rr =>
 cases rr;cases r;let hn:Builtin.Range.rangeSize lo hi 1=((hi-lo).toNat:Nat):=by rw[rangeSize_one];split<;>omega
 show call_list_range (I.ok.hd hc) ho (small_one h1 h2 h3 h4) hn () λh' oq acc c hk hS lX=>?_;let hp:=I.bI.fresh (ak _);show#[.ref _,_,I.laid (o:=.lst ((List.range (hi-lo).toNat).map λ(k:Nat)=>V.int (lo+k))) (t':=oq) hk (ak _) #[?_,acc.toList,c,aZ7 lX,by simpa using hS],rfl,q _ hp];rw[ah,lK];have:(hi-lo).toNat<=100000:=by omega
 show aL this ∅
def a78{a b:Expr}{ta:TA}{p:Pos}(hg:Gl X "range")(hm:X.mg "range"=none)(ha:PA X [a,b] ta)(hs:starEach [a,b] X.env=[(false,eval a X.env),(false,eval b X.env)])(jG:starEach [b] X.env=[(false,eval b X.env)]):PE X (.Call (.Name "range" p) [a,b] [] pos) (λσ H Q=>ta σ H λvs H1=>∃i j:Int,vs=[.int i,.int j]/\∀q,H1 q=none->Q (.ref q) (upd H1 q (.qd i j))):=by
 intro pi s σ H Q I h;show dN (V9 I hg hm boot_range (dg (cS (ha pos pi s σ H _ I h) λus s1 bx=>?_) (by rw[hs,jG]) (by rw[jG];rfl)));let#[vs,H1,I1,r1,q1]:=bx;let#[i,j,e,q]:=q1;subst e;cases r1 with
 |cons r rr =>
  cases rr with
  |cons r' rr =>
   cases rr;let#[t,rfl]:=r;let#[t',rfl]:=r';show call_range_2 #[.ref s1⁻¹,_,I1.laid (o:=.qd i j) (λb o e=>ai _ e) (ak _) #[_,_,_,ay _ rfl],rfl,q _ (I1.bI.fresh (ak _))]
abbrev yF(K:PySem.W.Frag)(P:Params)(a:Addr)(kvs:@&(Str×V)):Prop :=
 ∃es n,K.lookup a=!#[.type "dict",none,.dict es n,(List.toArray [])]/\PySem.W.KeysLit P es.toList/\(a==sysModules)=false/\∀x,C4 (kvs.lookup x) (findBy Value.isStrOf es x)
def PQ{kvs:@&(Str×V)}(neg:Bool):gs X (compareOp (if neg then .NotIn else .In)) (λx y H Q=>∃a z,y=.ref a/\yF X.K X.w.params a kvs/\x=.str z/\Q (.bl (xor neg (kvs.lookup z).isSome)) H):=by
 intro pi s σ H x y v u Q I rx ry h;let#[a,z,rfl,#[es,n,hl,hk,lo,hf],rfl,q]:=h;let#[t,rfl]:=rx;cases ry;let hm:=PySem.W.mapOf_K (prog:=X.prog) I.gC hl hk;let e:=hf z;let ee:(findBy Value.isStrOf es z).isSome=(kvs.lookup z).isSome:=by
  cases h1:kvs.lookup z<;>cases h2:findBy Value.isStrOf es z<;>rw[h1,h2] at e<;>first|rfl|show e.elim
 cases neg
 .exact wpAny_in_of (strKind_is X.prog X.w z t) lo hm #[.bl _,H,I.tok _,by rw[ee];rfl,by simpa using q]
 .exact wpAny_notIn_of (strKind_is X.prog X.w z t) lo hm #[.bl _,H,I.tok _,by rw[ee];rfl,by simpa using q]
def b36{kvs:@&(Str×V)}:uz X (λx y H Q=>∃a z v,x=.ref a/\yF X.K X.w.params a kvs/\y=.str z/\kvs.lookup z=!v/\Q v H):=by
 intro value slice pi s σ H x y v u Q I rx ry h hs;let#[a,z,d,rfl,#[es,n,hl,hk,lo,hf],rfl,hz,q]:=h;cases rx;let#[t,rfl]:=ry;let hm:=PySem.W.mapOf_K (prog:=X.prog) I.gC hl hk;let e:=hf z;rw[hz] at e;cases h2:findBy Value.isStrOf es z with
 |none=>rw[h2] at e;show e.elim
 |some r =>
  rw[h2] at e;show tail_any hm.typeIs slot_dict_getitem.lookup (wpAny_getItem_of (strKind_is X.prog X.w z t) hm h2 #[d,H,I.tok _,e,q]) hs
def bE4(hu:X.A.units+1<cLine):uz X (λx y H Q=>∃a v,x=.ref a/\Z8 H a y (!v)/\Q v H):=by
 intro value slice pi s σ H x y v u Q I rx ry h hs;let#[a,d,rfl,g,q]:=h;cases rx;show tail_any (aP0 I g) slot_dict_getitem.lookup (YK hu I g ry λw' s3 I3 fY=>#[d,H,I3,fY,q]) hs
end L2
namespace ST
open PySem PyProof.Rows
variable{xs:Array Nat}{i k j n ep:Nat}{t:SetTable}{h h':Heap}{L:Bool}{es:Array (Int×Value)}{x f:Value}{prog:Program}{w:World}{a I b l:Addr}{ks ns:@&Int}{A:Around}{E Q:Value->Shared->Prop}{s:Shared}{pl:@&Nat}{α:Type}{r:Rd}{items:Array Value}
noncomputable abbrev lE(xs:Array Nat):Prop:=xs.toList.Pairwise (· < ·)
def lE.lt(h:lE xs)(xG:i<k)(hk:k<xs.size):xs.getD i 0<xs.getD k 0:=by
 have:=List.pairwise_iff_getElem.mp h i k (_/dP xG hk) (_/hk) xG;rw[<- gq (h:=dP xG hk),<- gq (h:=hk)];show this
def lE.le(h:lE xs)(xG:i<=k)(hk:k<xs.size):xs.getD i 0<=xs.getD k 0:=by
 rcases Nat.eq_or_lt_of_le xG with e|e
 .rw[e];show ak _
 .exact ft (h.lt e hk)
def FI{xs:Array Nat}{j:Nat}(h:lE xs):∀(fuel lo hi:Nat),hi-lo<=fuel->lo<=hi->hi<=xs.size->(∀i,i<lo->xs.getD i 0<j)->(∀i,hi<=i->i<xs.size->j<=xs.getD i 0) ->
  SetTable.below.go xs j fuel lo hi<=xs.size/\(∀i,i<SetTable.below.go xs j fuel lo hi->xs.getD i 0<j)/\∀i,SetTable.below.go xs j fuel lo hi<=i->i<xs.size->j<=xs.getD i 0
 |0,lo,hi,h1,h2,h3,h4,h5=>by
  have:lo=hi:=by omega
  subst this;show#[h3,h4,h5]
 |fuel+1,lo,hi,h1,h2,h3,h4,h5=>by
  unfold SetTable.below.go;split
  .let hm:(lo+hi) / 2<xs.size:=by omega
   let em:xs.getD ((lo+hi) / 2) j=xs.getD ((lo+hi) / 2) 0:=by simp[Array.getD,hm]
   dsimp only;rw[em];by_cases hc:xs.getD ((lo+hi) / 2) 0<j
   .rw[au hc];show FI h fuel _ hi () () h3 (λi lX=>kJ (h.le () hm) hc) h5
   .rw[aq hc];show FI h fuel lo _ () () () h4 λi lX hs=>aL (Nat.le_of_not_lt hc) (h.le lX hs)
  .have:lo=hi:=by omega
   subst this;show#[h3,h4,h5]
def U0(j:Nat)(h:lE xs):SetTable.below xs j<=xs.size/\(∀i,i<SetTable.below xs j->xs.getD i 0<j)/\∀i,SetTable.below xs j<=i->i<xs.size->j<=xs.getD i 0 :=
 FI h _ 0 _ () () (ak _) (λi hi=>absurd hi (Nat.not_lt_zero _)) λi h1 h2=>absurd h2 ()
def below_at(h:lE xs)(hi:i<xs.size):SetTable.below xs (xs.getD i 0)=i:=by
 let#[h1,h2,h3]:=U0 (xs.getD i 0) h;rcases fW (SetTable.below xs (xs.getD i 0)) i with z|z|z
 .exact absurd (h3 _ (ak _) ()) (Nat.not_le_of_lt (h.lt z hi))
 .exact z
 .exact absurd (h2 i z) (bQ _)
def a17(h:lE xs)(hi:i<xs.size):SetTable.below xs (xs.getD i 0+1)=i+1:=by
 let#[h1,h2,h3]:=U0 (xs.getD i 0+1) h;rcases fW (SetTable.below xs (xs.getD i 0+1)) (i+1) with z|z|z
 .have:=h3 i () hi;omega
 .exact z
 .have:=h2 (i+1) z;have:=h.lt (mK i) (k:=i+1) ();omega
def a16(h:lE xs):SetTable.below xs 0=0:=by
 let#[_,h2,_]:=U0 0 h;rcases Nat.eq_zero_or_pos (SetTable.below xs 0) with z|z
 .exact z
 .exact absurd (h2 0 z) (Nat.not_lt_zero _)
def getD_mem(hi:i<xs.size):xs[i]?=!xs.getD i 0:=by simp[Array.getD,hi]
def aX0(h:lE t.place)(hs:t.slot j=.empty):j∉t.place.toList:=by
 intro hm;let#[i,hi,e]:=dR.mp hm;let lX:i<t.place.size:=by simpa using hi
 let ej:t.place.getD i 0=j:=by rw[<- gq];simpa using e
 let hb:=below_at h lX;rw[ej] at hb;unfold SetTable.slot at hs;dsimp only at hs;rw[hb,getD_mem lX,ej] at hs;simp at hs
def aX2(h:lE xs)(hj:j∉xs.toList):lE (SetTable.insertAt xs (SetTable.below xs j) j):=by
 let#[h1,h2,h3]:=U0 j h;show(SetTable.insertAt xs (SetTable.below xs j) j).toList.Pairwise (· < ·);rw[SetTable.toList_insertAt,List.pairwise_append];let tk:∀a∈xs.toList.take (SetTable.below xs j),a<j:=λa ha=>by
  let#[i,hi,e]:=dR.mp ha;rw[bu] at hi;let hs:i<xs.size:=by omega
  have:=h2 i ()
  simp_all
 let dp:∀b∈xs.toList.drop (SetTable.below xs j),j<b:=λb hb=>by
  let#[i,hi,e]:=dR.mp hb;let hs:SetTable.below xs j+i<xs.size:=by grind
  have:=h3 (SetTable.below xs j+i) () hs;rw[<- gq (h:=hs)] at this;let eX:b≠j:=λz=>hj (by rw[<- z];show cV hb);simp at e;omega
 show#[h.take,QH.mpr #[dp,h.drop],λa ha b hb=>?_];let pL:=tk a ha
 grind
def a61(n:Nat):lE (Array.range n):=by
 show(Array.range n).toList.Pairwise (· < ·);rw[Array.toList_range];show jh
structure Well(L:Bool)(t:SetTable):Prop where
 uO:lE t.place
 tY:t.dummies=(List.toArray [])
 led:t.led=L
set_option tactic.hygienic true in
def Xp(hd:t.dummies=(List.toArray []))(j:Nat):t.slot j≠.dummy:=by
 unfold SetTable.slot;dsimp only;split
 .simp
 .rw[hd];split
  .rename_i z;simp[SetTable.has] at z
  simp
set_option tactic.hygienic true in
def Nl{t:SetTable}(hd:t.dummies=(List.toArray [])){hashAt:Nat->Int}{h:Int}:∀(fuel:Nat) (p:SetTable.Probe) {j:Nat} {dm:Option Nat},p.dummy=none->SetTable.probe.go t hashAt h fuel p=!.empty j dm->t.slot j=.empty/\dm=none
 |0,p,j,dm,_,e=>by simp[SetTable.probe.go] at e
 |fuel+1,p,j,dm,hp,e=>by
  unfold SetTable.probe.go at e;let ad:∀q:SetTable.Probe,q.dummy=none->(t.advance q).dummy=none:=λq hq=>by
   unfold SetTable.advance;split
   .exact hq
   .exact hq
  split at e
  .simp_all
  .rename_i hs;show absurd hs (Xp hd _)
  .split at e
   .cases e
   .exact Nl hd fuel _ (ad p hp) e
set_option tactic.hygienic true in
def YR(hd:t.dummies=(List.toArray [])){h:Int}{wd:Bool}(e:t.freeSlot h=!(j,wd)):t.slot j=.empty/\wd=false:=by
 unfold SetTable.freeSlot at e;split at e
 .rename_i j' dm hp;let#[h1,h2]:=Nl hd _ _ rfl hp;subst h2;cases e;show#[h1,rfl]
 .cases e
def L9(h:Well L t)(n:Nat):Well L (t.standIn n):=#[a61 n,rfl,h.led]
set_option tactic.hygienic true in
def aO5{h:Int}(hw:Well L t):Well L (layNew t es h x).2.1/\(layNew t es h x).2.2.1=false:=by
 unfold layNew;split
 .rename_i slot wd e;let#[h1,h2]:=YR hw.tY e;show#[?_,h2];let hd:SetTable.has t.dummies slot=false:=by rw[hw.tY];rfl
  let w2:Well L (t.put slot).1:=#[aX2 hw.uO (aX0 hw.uO h1),by simp only[SetTable.put,hd];show hw.tY,hw.led]
  dsimp only;unfold SetTable.orStandIn;split
  .exact w2
  .exact L9 w2 _
 .exact#[L9 hw _,rfl]
def Mo{mask finger moves:Nat}{led plain:Bool}{hashes:Array Int}{o:Array Nat}(hl:led=L)(e:SetTable.laid mask finger moves led plain hashes=!(t,o)):Well L t:=by
 unfold SetTable.laid at e;cases ho:SetTable.layClean mask hashes with
 |none=>rw[ho] at e;cases e
 |some owner =>
  rw[ho] at e;simp only[Option.bind_eq_bind,Option.bind_some,Option.pure_def,Option.some.injEq,Prod.mk.injEq] at e;let#[rfl,_]:=e;show#[?_,rfl,hl];show(List.map _ _).toArray.toList.Pairwise (· < ·);rw[Ik];let sub:((List.range (mask+1)).filterMap λj=>(owner.getD j none).map (j,·)).map (·.1) |>.Sublist (List.range (mask+1)):=by
   generalize List.range (mask+1)=l
   induction l with
   |nil=>simp
   |cons a r ih =>
    rw[dY];cases owner.getD a none with
    |none=>show ih.cons a
    |some k=>show ih.cons_cons a
  show List.Pairwise.sublist sub jh
set_option tactic.hygienic true in
def aA8(hw:Well L t):Well L (relayAll t es n).2.1:=by
 unfold relayAll;split
 .rename_i t' order e;dsimp only;split
  .exact Mo hw.led e
  .exact L9 hw _
 .exact L9 hw _
abbrev toI:Value->Int
 |.int k _=>k
 |_=>0
def Led(w:World):Bool:= ~~~(w.params.followText "set-order")
abbrev l9(prog:Program)(w:World)(h:Heap)(a:Addr)(ks:@&Int):Prop :=
 ∃o es ep t,h.get? a=!o/\o.ExactSet/\o.data=.set es ep t/\ElemsOf (intKind prog w) es.toList/\(es.toList.map λe=>toI e.2).Perm ks/\ks.Nodup/\es.size<scanBound/\t.fits es.size=true/\Well (Led w) t
def l9.at(x:l9 prog w h a ks)(k:∀o,h.get? a=!o->h'.get? a=!o):l9 prog w h' a ks:=by
 let#[o,es,ep,t,e,r]:=x;show#[o,es,ep,t,k o e,r]
def ze{e:Int×Value}{es:@&(Int×Value)}(h:ElemsOf (intKind prog w) es)(he:e∈es):∃tk,e.2=.int (toI e.2) tk/\e.1=(intKind prog w).hash (toI e.2):=by
 let#[#[k,h1,h2],_]:=h e he;let#[t,ht]:=Value.isInt_shape h1;show#[t,by rw[ht];rfl,?_];rw[h2,ht]
 rfl
def Lf{e:Int×Value}{es:@&(Int×Value)}(h:ElemsOf (intKind prog w) es)(he:e∈es)(k:Int):(intKind prog w).is k e.2=decide (toI e.2=k):=by
 let#[t,ht,_]:=ze h he;rw[ht]
 rfl
def l9.mem{a:Addr}{es:@&(Int×Value)}(h:ElemsOf (intKind prog w) es)(hp:(es.map λe=>toI e.2).Perm ks)(k:Int):(es.findIdx? λe=>(intKind prog w).is k e.2).isSome=decide (k∈ks):=by
 rw[cv,bD,<- hp.mem_iff,aI,dU];constructor
 .rintro⟨i,hi⟩;let#[h1,h2,_]:=lA.mp hi;let hm:=dB h1;rw[Lf h hm] at h2;show#[_,hm,br h2]
 .rintro⟨e,he,rfl⟩;cases hf:es.findIdx? λe'=>(intKind prog w).is (toI e.2) e'.2 with
  |some i=>show#[i,rfl]
  |none =>
   have:=List.findIdx?_eq_none_iff.mp hf e he;rw[Lf h he] at this;simp at this
abbrev F5(ks:@&Int)(k:Int):@&Int:=if k∈ks then ks else ks++[k]
def OE(ks:@&Int)(k:Int):(F5 ks k).length<=-ks+1:=by unfold F5;split<;>simp
def JV{k:Int}{tk:Tok}{Q:Bool->Shared->Prop}(hS:l9 prog w s.heap a ks)(hr:-ks+1<scanBound)(h:∀h' b,Heap.SameBut a s.heap h'->l9 prog w h' a (F5 ks k)->Q b { s with heap:=h' }):wpAny (model prog w) A (setAddHashed a (.int k tk) ((intKind prog w).hash k)) Q E s:=by
 let#[o,es,ep,t,ho,hx,hd,jm,hp,hn,hb,hf,hw]:=hS;let hlen:es.size=-ks:=by rw[<- hp.length_eq];simp
 let qt:(intKind prog w).is k (.int k tk)=true:=Cn _ _ _ _;let gv:∀(b:Bool) (s1:Shared) (Q':Unit->Shared->Prop),Q' Unit.unit s1->wpAny (model prog w) A (match b with|true=>rule "set.scan.the-table-gave-way"|false=>pure Unit.unit) Q' E s1:=λb s1 Q' q=>by
  cases b
  .exact aj q
  .exact fH q
 show bj (aa (bf ho hd hf ?_));dsimp only;rw[byScan_of rfl hb jm,au rfl];show aa (aa (fH (aa (wpAny_setScan_of qt ho hd hf jm ?_))));let hm:=l9.mem (a:=a) jm hp k;cases oB:es.toList.findIdx? (λe=>(intKind prog w).is k e.2) with
 |some j =>
  let hk:k∈ks:=by simp_all
  show aj (aj ?_);show h s.heap _ (jy a s.heap) ?_;unfold F5;rw[au hk];show#[o,es,ep,t,ho,hx,hd,jm,hp,hn,hb,hf,hw]
 |none =>
  rw[oB] at hm;let hk:k∉ks:=by simpa using hm.symm
  let p1:=layNew_perm t es ((intKind prog w).hash k) (.int k tk);let f1:=layNew_fits t es ((intKind prog w).hash k) (.int k tk);let#[w1,Ir]:=aO5 hw;generalize layNew t es ((intKind prog w).hash k) (.int k tk)=R1 at p1 f1 w1 Ir ⊢;let#[iW,t1,wd,Up]:=R1;subst Ir;rw[Array.toList_push] at p1;let JO:=(jm.push qt rfl).perm p1;let sz1:iW.size=es.size+1:=by rw[<- bH,p1.length_eq];simp
  let k1:(iW.toList.map λe=>toI e.2).Perm (F5 ks k):=by
   unfold F5;rw[aq hk];show(p1.map _).trans ?_;rw[aK];show hp.append_right _
  let n1:(F5 ks k).Nodup:=by
   unfold F5;rw[aq hk,eW];show#[hn,by simp,λx hx y hy=>by grind]
  show aa (gv _ _ _ ?_);let fin:∀ (t2:SetTable),t2.fits iW.size=true->Well (Led w) t2->wpAny (model prog w) A (do
    storeSet a iW t2
    if(~~~false&&t2.tooFull)=true then do
      (match(relayAll t2 iW (SetTable.grown iW.size)).2.2 with|true=>rule "set.scan.the-table-gave-way"|false=>pure Unit.unit)
      storeSet a (relayAll t2 iW (SetTable.grown iW.size)).1 (relayAll t2 iW (SetTable.grown iW.size)).2.1
      pure (!true)
     else pure (!true)) (λr s'=>wpAny (model prog w) A (match r with | some added=>pure added | none=>setAddHashedIn a (.int k tk) ((intKind prog w).hash k) 99999) Q E s') E s:=λt2 f2 w2=>by
   let g1:(s.heap.update a (Obj.putSet iW t2)).get? a=some { o with data:=.set iW (ep+1) t2 }:=by
    have:=aT (Obj.putSet iW t2) ho (by rw[putSet_of iW t2 hd];rfl);rw[putSet_of iW t2 hd] at this;show this
   show aa (fB ho hd ?_ (fC ()));let wM:=aZ s.heap a (Obj.putSet iW t2);split
   .let p2:=relayAll_perm t2 iW (SetTable.grown iW.size);let f3:=relayAll_fits t2 iW (SetTable.grown iW.size);let w3:=aA8 (es:=iW) (n:=SetTable.grown iW.size) w2;generalize relayAll t2 iW (SetTable.grown iW.size)=R2 at p2 f3 w3 ⊢;let#[yx,t3,gv2]:=R2;dsimp only at p2 f3 w3 ⊢;let sz2:yx.size=iW.size:=by rw[<- bH,p2.length_eq,bH]
    show aa (gv _ _ _ ?_);show aa (fB g1 rfl ?_ (fC ()));show aj (aj (h _ _ (wM.trans (aZ _ a _)) ?_));let g2:((s.heap.update a (Obj.putSet iW t2)).update a (Obj.putSet yx t3)).get? a=some { o with data:=.set yx (ep+1+1) t3 }:=by
     have:=aT (Obj.putSet yx t3) g1 (by rfl);show this
    show#[_,yx,_,t3,g2,hx,rfl,JO.perm p2,(p2.map _).trans k1,n1,by omega,f3,w3]
   .exact aj (aj (h _ _ wM #[_,iW,_,t2,g1,hx,rfl,JO,k1,n1,by omega,f1 |> λz=>f2,w2]))
  split
  .refine aa (eA (hashByValue_scannable 8 rfl) ?_);show fin _ f1 w1
  .refine aa (aj ?_);show fin _ f1 w1
def aL4:entryFor table "set.__iter__"=some Builtin.«frozenset.__iter__» :=
 Cp (id':="frozenset.__iter__") (by kernel_rfl) rfl #[] (by kernel_rfl)
def B9:Slot "set_iterator" "__next__" "set_iterator.__next__" :=
 .of (owner:="set_iterator") (n:="__next__") (by rw[typeLookup_type,builtinLookup_eq_fast];kernel_rfl) #[] #[] #[]
  (by first|show .inl #[]|show .inr #[]) (by rw[lF];kernel_rfl)
def Ng:entryFor table "set_iterator.__next__"=some Builtin.«set_iterator.__next__»:=entryFor_of_tree (by kernel_rfl)
def Nn(a:Value):argsOk "set_iterator.__next__" #[[a],[]]:=by
 unfold argsOk
 kernel_rfl
def Nu:Slot "set_iterator" "__iter__" "set_iterator.__iter__" :=
 .of (owner:="set_iterator") (n:="__iter__") (by rw[typeLookup_type,builtinLookup_eq_fast];kernel_rfl) #[] #[] #[]
  (by first|show .inl #[]|show .inr #[]) (by rw[lF];kernel_rfl)
def aO9:entryFor table "set_iterator.__iter__"=some Builtin.«dict_keyiterator.__iter__» :=
 Cp (id':="dict_keyiterator.__iter__") (by kernel_rfl) rfl #[] (by kernel_rfl)
def aN0(a:Value):argsOk "set_iterator.__iter__" #[[a],[]]:=by
 unfold argsOk
 kernel_rfl
inductive Rd|text|plain|drawn
structure Lies(h:Heap)(a:Addr)(es:Array (Int×Value))(ep:Nat)(t:SetTable):Prop where
 at_:∃o,h.get? a=!o/\o.cls=.type "set"/\o.data=.set es ep t
 fit:t.fits es.size=true
def Lies.at(x:Lies h a es ep t)(k:∀o,h.get? a=!o->h'.get? a=!o):Lies h' a es ep t :=
 #[let ⟨o,e,r⟩:=x.at_;#[o,k o e,r],x.fit]
def E0(h:Heap)(I a:Addr)(f:Value)(i n ep:Nat):Prop:=∃o,h.get? I=!o/\o.cls=.type "set_iterator"/\o.data=.fields (List.toArray [f,rawInt i,.ref a,rawInt n,rawInt ep])
def E0.at(x:E0 h I a f i n ep)(k:∀o,h.get? I=!o->h'.get? I=!o):E0 h' I a f i n ep:=let ⟨o,e,r⟩:=x;#[o,k o e,r]
def E0.ty(x:E0 s.heap I a f i n ep):s.TypeIs (.ref I) "set_iterator":=let ⟨o,e,c,_⟩:=x;#[o,e,c]
abbrev yM(w:World)(a:Addr)(es:Array (Int×Value))(ep:Nat)(pl:@&Nat):Rd->@&Value
 |.text=>(pickOrder (w.params.setOrder a ep) es).toList.map (·.2)
 |.plain=>es.toList.map (·.2)
 |.drawn=>pl.map λj=>(es.getD j (0,.none)).2
abbrev slotAt(t:SetTable):Nat->Nat
 |0=>0
 |i+1=>t.place.getD i 0+1
abbrev Q2(h:Heap)(t:SetTable)(b:Addr)(pl:@&Nat)(i:Nat)(f:Value):Rd->Prop
 |.text=>∃k:Nat,f=rawInt k
 |.plain=>f=rawInt (slotAt t i)
 |.drawn=>f=.ref b/\∃o e,h.get? b=!o/\o.cls=.type "tuple"/\o.data=.seq (pl.map λj=>rawInt (j:Nat)).toArray e
abbrev vB(w:World)(es:Array (Int×Value))(t:SetTable)(pl:@&Nat):Rd->Prop
 |.text=>w.params.followText "set-order"=true
 |.plain=>w.params.followText "set-order"=false/\(t.plain=true\/es.size<=1)/\Well true t
 |.drawn=>w.params.followText "set-order"=false/\pl.Perm (List.range es.size)
def W5{Q:Bool->Shared->Prop}(h:Q (w.params.followText "set-order") s):wpAny (model prog w) A setsByText Q E s:=by
 show aa (sC (aj h))
def Mw(hL:Lies s.heap a es ep t)(ht:w.params.followText "set-order"=true){sl g:Nat}{Q:Option (Value×Nat)->Shared->Prop}(h:Q (((pickOrder (w.params.setOrder a ep) es)[g]?).map λe=>(e.2,sl)) s) :
  wpAny (model prog w) A (setNext a sl g ep) Q E s:=by
 let#[o,ho,_,hd]:=hL.at_;show aa (bf ho hd hL.fit ?_);show aa (W5 ?_);rw[ht,au rfl,aq #[_]];show aa (aa (bf ho hd hL.fit ?_));show aa (W5 ?_);rw[ht,au rfl];show aa (sC (aj (aj h)))
def MX(hL:Lies s.heap a es ep t)(ht:w.params.followText "set-order"=false)(hp:t.plain=true\/es.size<=1)(hl:t.led=true){sl g:Nat}{Q:Option (Value×Nat)->Shared->Prop}(h:Q (match es[SetTable.below t.place sl]?,t.place[SetTable.below t.place sl]? with|some (_,x),!j=>!(x,j+1)|_,_=>none) s):wpAny (model prog w) A (setNext a sl g ep) Q E s:=by
 let#[o,ho,_,hd]:=hL.at_;show aa (bf ho hd hL.fit ?_);show aa (W5 ?_);rw[ht,aq ∅];change wpAny _ _ (if(~~~t.plain&&decide (es.size>1))=true then _ else _) _ _ _;rw[aq (by rcases hp with e|e<;>simp[e])];show aa (eA (a:=Unit.unit) ?_ (aj h));show((if(~~~t.led&&~~~es.isEmpty)=true then unsupported "set:maker-not-led" else pure Unit.unit):Sem Unit)=pure Unit.unit;rw[hl]
 rfl
def aY2(hL:Lies s.heap a es ep t)(hj:j<es.size)(h:Q (es.getD j (0,.none)).2 s):wpAny (model prog w) A (setNextDrawn a j ep) Q E s:=by
 let#[o,ho,_,hd]:=hL.at_;show aa (bf ho hd hL.fit ?_);dsimp only;rw[aq #[_]];let e:es[j]?=!es.getD j (0,.none):=by simp_all
 rw[e];show aj h
def Pq(hL:Lies s.heap a es ep t):t.place.size=es.size:=by
 have:=hL.fit;unfold SetTable.fits at this;simp at this;show this.1
def MJ(hw:lE t.place)(hi:i<=t.place.size):SetTable.below t.place (slotAt t i)=i:=by
 cases i with
 |zero=>show a16 hw
 |succ i=>show a17 hw ()
def entries{Q:Array (Int×Value)->Shared->Prop}(hL:Lies s.heap a es ep t)(h:Q es s):wpAny (model prog w) A (setEntries a) Q E s:=by
 let#[o,ho,_,hd]:=hL.at_;show aa (bf ho hd hL.fit (aj h))
def UX{f':Value}(hi:E0 h I a f i n ep)(hx:x=rawInt ((i:Int)+1)):E0 ((h.update I (Obj.mapFields (·.setIfInBounds 0 f'))).update I (Obj.mapFields (·.setIfInBounds 1 x))) I a f' (i+1) n ep:=by
 let#[o,ho,hc,hd]:=hi;let h1:=aT (Obj.mapFields (·.setIfInBounds 0 f')) ho (cz (bq hd _));let d1:(Obj.mapFields (·.setIfInBounds 0 f') o).data=.fields (List.toArray [f',rawInt i,.ref a,rawInt n,rawInt ep]):=by rw[bq hd];simp
 let h2:=aT (Obj.mapFields (·.setIfInBounds 1 x)) h1 (cz (bq d1 _));show#[_,h2,(jq ..).trans ((jq ..).trans hc),?_];rw[bq d1]
 simp_all
def UW(hi:E0 h I a f i n ep)(hx:x=rawInt ((i:Int)+1)):E0 (h.update I (Obj.mapFields (·.setIfInBounds 1 x))) I a f (i+1) n ep:=by
 let#[o,ho,hc,hd]:=hi;let h2:=aT (Obj.mapFields (·.setIfInBounds 1 x)) ho (cz (bq hd _));show#[_,h2,(jq ..).trans hc,?_];rw[bq hd];subst hx;simp[rawInt]
def LO{f':Value}{m:Sem α}{Q':α->Shared->Prop}(hi:E0 s.heap I a f i n ep)(hx:x=rawInt ((i:Int)+1))(h:∀h',E0 h' I a f' (i+1) n ep->Heap.SameBut I s.heap h'->wpAny (model prog w) A m Q' E { s with heap:=h' }) :
  wpAny (model prog w) A (do setField (.ref I) 0 f';setField (.ref I) 1 x;m) Q' E s:=by
 let#[o,ho,hc,hd]:=id hi;show aa (cM ho hd #[_] ?_);let h1:=aT (Obj.mapFields (·.setIfInBounds 0 f')) ho (cz (bq hd _));let d1:(Obj.mapFields (·.setIfInBounds 0 f') o).data=.fields (List.toArray [f',rawInt i,.ref a,rawInt n,rawInt ep]):=by rw[bq hd];simp
 show aa (cM h1 d1 #[_] ?_);show h _ (UX hi hx) ((aZ ..).trans (aZ ..))
def b98{m:Sem α}{Q':α->Shared->Prop}(hi:E0 s.heap I a f i n ep)(hx:x=rawInt ((i:Int)+1))(h:∀h',E0 h' I a f (i+1) n ep->Heap.SameBut I s.heap h'->wpAny (model prog w) A m Q' E { s with heap:=h' }) :
  wpAny (model prog w) A (do setField (.ref I) 1 x;m) Q' E s:=by
 let#[o,ho,hc,hd]:=id hi;show aa (cM ho hd #[_] ?_);show h _ (UW hi hx) (aZ ..)
def Bt(next:Nat->Nat)(xs:Array α):(pickOrder next xs).toList.Perm xs.toList:=by
 let go:∀(fuel k:Nat) (left:List α) (out:Array α),fuel=-left->(pickOrder.go next fuel k left out).toList.Perm (out.toList++left):=by
  intro fuel
  induction fuel with
  |zero =>
   intro k left out e;have:=gz e.symm;subst this;simp[pickOrder.go]
  |succ n ih =>
   intro k left out e;let fz:next k % (-left)< -left:=Nat.mod_lt _ ()
   unfold pickOrder.go;rw[av fz];show(ih _ _ _ (by rw[pV fz];omega)).trans ?_;rw[Array.toList_push,iw];show List.Perm.append_left _ ?_;have:left.Perm (left[next k % (-left)]::left.eraseIdx (next k % (-left))):=by
    rw[mm]
    conv=>lhs;rw[<- jB (next k % (-left)) left,rq fz]
    show List.perm_middle
   show this.symm
 have:=go xs.size 0 xs.toList (List.toArray []) #[_];simpa[pickOrder] using this
def next_item{Q:Option Value->Shared->Prop}(hL:Lies s.heap a es ep t)(hr:vB w es t pl r)(hi:E0 s.heap I a f i es.size ep)(hf:Q2 s.heap t b pl i f r)(eX:b≠I)(fz:i<es.size)(h:∀v h' f',(yM w a es ep pl r)[i]?=!v->E0 h' I a f' (i+1) es.size ep->Q2 h' t b pl (i+1) f' r->Heap.SameBut I s.heap h'->Q (!v) { s with heap:=h' }):wpAny (model prog w) A (pyNext (.ref I)) Q E s:=by
 let#[o,ho,hc,hd]:=id hi;show aa (jz (bZ hi.ty B9 (bP B9 hi.ty Ng ?_ (Nn _))));show aa (aj ?_);show aa (wpAny_fieldsOf ho hd ?_);show aa (entries hL ?_);rw[aq #[_]];rw[cG,cG];cases r with
 |text =>
  let#[k,rfl]:=hf;show aa (Mw hL hr ?_);let hl:i<(pickOrder (w.params.setOrder a ep) es).size:=by
   have:=(Bt (w.params.setOrder a ep) es).length_eq
   simp_all
  rw[dJ hl];show LO hi rfl λh' h1 h2=>aj #[_,rfl,aj (h _ _ _ ?_ h1 #[_,rfl] h2)];show((pickOrder (w.params.setOrder a ep) es).toList.map (·.2))[i]?=_;simp[hl]
 |plain =>
  let#[r1,r2,r3]:=hr;let hs:=Pq hL;obtain rfl:=hf;dsimp only[rawInt];rw[cG];show aa (MX hL r1 r2 r3.led ?_);rw[MJ r3.uO (),dJ fz,getD_mem ()];show LO hi rfl λh' h1 h2=>aj #[_,rfl,aj (h _ _ _ ?_ h1 rfl h2)];show(es.toList.map (·.2))[i]?=_;simp[fz]
 |drawn =>
  let#[r1,r2]:=hr;let#[rfl,ob,e,hb,Jx,Aj]:=hf;let gI:i< -pl:=by rw[r2.length_eq];simpa using fz
  show aa (dM hb Aj ?_);let hj:pl[i]<es.size:=by
   have:=r2.mem_iff.mp (dB gI)
   simp_all
  let e1:(pl.map λj=>rawInt (j:Nat)).toArray[i]?=!rawInt (pl[i]:Nat):=by simp[gI]
  dsimp only;rw[e1];show aa (aY2 hL hj ?_);show b98 hi rfl λh' h1 h2=>aj #[_,rfl,aj (h _ _ _ ?_ h1 #[rfl,ob,e,by rw[h2.2 b eX];show hb,Jx,Aj] h2)];show(pl.map λj=>(es.getD j (0,.none)).2)[i]?=_;simp[gI]
def Gf{Q:Option Value->Shared->Prop}{h0:Heap}(hh:A.handled=none)(Uj:Heap.ExtBut I h0 s.heap)(h:∀h',Heap.ExtBut I h0 h'->Q none { s with heap:=h' }) :
  wpAny (model prog w) A.in1 (newExc (.type "StopIteration") [] >>= λe=>(raiseNew e:Sem Fin)) (λfin s'=>∃v,fin=Fin.done (Flow.ret v)/\wpAny (model prog w) A (pure (!v)) Q E s')
   (λe s'=>wpAny (model prog w) A (do
     let x <- isInstance e (Value.type "StopIteration")
     if x=true then pure none else throw e) Q E s') s:=by
 show aa ?_;show aa (bU ?_ (by size_fits));show aa (eA (a:=Value.none) (by rfl) ?_);show bU ?_ (by size_fits);show aa (Qy ?_);rw[show A.in1.handled=none from hh];show aa (aj (uA ?_));show aa (eP #[_,ay _ rfl,rfl] isSubtype_stop ?_);show aj (h _ ((Uj.push _).push _))
def next_end{Q:Option Value->Shared->Prop}(hh:A.handled=none)(hL:Lies s.heap a es ep t)(hr:vB w es t pl r)(hi:E0 s.heap I a f es.size es.size ep)(hf:Q2 s.heap t b pl es.size f r)(eX:b≠I)(h:∀h',Heap.ExtBut I s.heap h'->Q none { s with heap:=h' }):wpAny (model prog w) A (pyNext (.ref I)) Q E s:=by
 let#[o,ho,hc,hd]:=id hi;show aa (jz (bZ hi.ty B9 (bP B9 hi.ty Ng ?_ (Nn _))));show aa (aj ?_);show aa (wpAny_fieldsOf ho hd ?_);show aa (entries hL ?_);rw[aq #[_]];rw[cG,cG];cases r with
 |text =>
  let#[k,rfl]:=hf;show aa (Mw hL hr ?_);let hl:(pickOrder (w.params.setOrder a ep) es).size<=es.size:=by
   have:=(Bt (w.params.setOrder a ep) es).length_eq
   grind
  rw[wz hl];show aa (cM ho hd #[_] ?_);show Gf hh (aZ ..).extBut h
 |plain =>
  let#[r1,r2,r3]:=hr;let hs:=Pq hL;obtain rfl:=hf;dsimp only[rawInt];rw[cG];show aa (MX hL r1 r2 r3.led ?_);rw[MJ r3.uO (),wz (ak _)];show aa (cM ho hd #[_] ?_);show Gf hh (aZ ..).extBut h
 |drawn =>
  let#[r1,r2]:=hr;let#[rfl,ob,e,hb,Jx,Aj]:=hf;let gI:-pl=es.size:=by rw[r2.length_eq];simp
  show aa (dM hb Aj ?_);let e1:(pl.map λj=>rawInt (j:Nat)).toArray[es.size]?=none:=by simp[gI]
  dsimp only;rw[e1];show aa (cM ho hd #[_] ?_);let h1:=aT (Obj.mapFields (·.setIfInBounds 0 (Value.int 0 0))) ho (cz (bq hd _));show aa (cM h1 (bq hd _) #[_] ?_);show Gf hh ((aZ ..).trans (aZ ..)).extBut h
def a76{l:List α}(fz:k< -l):(l[k]::l.eraseIdx k).Perm l:=by
 rw[mm]
 conv=>rhs;rw[<- jB k l,rq fz]
 show List.perm_middle.symm
def GC{α:Type}:∀(n:Nat) (xs:List α) (s:Shared) (Q:List α->Shared->Prop),n=-xs->(∀ys d,ys.Perm xs->Q ys { s with drawn:=d })->wpAny (model prog w) A (drawOrder n xs) Q E s
 |0,xs,s,Q,e,h=>by
  have:=gz e.symm;subst this;show aj (h [] s.drawn (jQ _))
 |n+1,[],s,Q,e,h=>by simp at e
 |n+1,x::xs,s,Q,e,h=>by
  show aa ?_;intro Γ p hΓ;show#[by simp,?_];generalize (model prog w).w.draws .order (s.drawn.get .order)=k;let fz:k % (x::xs).length<(x::xs).length:=Nat.mod_lt _ #[_];let go:wpAny (model prog w) A (match (x :: xs)[k % (x :: xs).length]? with
   |some y=>do
    let ys <- drawOrder n ((x::xs).eraseIdx (k % (x::xs).length))
    pure (y::ys)
   | none=>unsupported "internal:drawOrder") Q E { s with drawn:=s.drawn.bump .order }:=by
   rw[av fz];show aa (GC n _ _ _ (by rw[pV fz];omega) λys d hp=>aj ?_);show h _ d ((List.Perm.cons _ hp).trans (a76 fz))
  show go
def Pc(hr:vB w es t pl r):(yM w a es ep pl r).Perm (es.toList.map (·.2)):=by
 cases r with
 |text=>show(Bt _ es).map _
 |plain=>rfl
 |drawn =>
  show(hr.2.map _).trans ?_;have:(List.range es.size).map (λj=>(es.getD j (0,.none)).2)=es.toList.map (·.2):=by
   apply List.ext_getElem
   .simp
   simp_all
  rw[this]
def Lies.ty(hL:Lies s.heap a es ep t):s.TypeIs (.ref a) "set":=let ⟨o,e,c,_⟩:=hL.at_;#[o,e,c]
def Ye(hL:Lies s.heap a es ep t)(hw:Well (Led w) t)(hz:es.size<=10000)(h:∀r pl b f I h' d',vB w es t pl r->E0 h' I a f 0 es.size ep->Q2 h' t b pl 0 f r->b≠I->(b=a\/s⁻¹<=b)->(∀c o,s.heap.get? c=!o->h'.get? c=!o)->s⁻¹<=I->s⁻¹<=h'.objs.size->Q (.ref I) { s with heap:=h',drawn:=d' }) :
  wpAny (model prog w) A (pyIter (.ref a)) Q E s:=by
 let#[o,ho,Dz,hd]:=hL.at_;show wpAny_pyIter_slot hL.ty F.slot_set_iter (bP F.slot_set_iter hL.ty aL4 ?_ (F.args_set_iter_1 _));show aa (aj ?_);show aa (aa (entries hL (aj ?_)));show aa (aa (bf ho hd hL.fit ?_));show aa (W5 (aj ?_));let fz:=ao ho;let fin:∀(r:Rd) (f:Value) (b:Addr) (pl:@&Nat) (h1:Heap) (d1:Drawn),vB w es t pl r->(∀h',(∀c o,h1.get? c=!o->h'.get? c=!o)->Q2 h' t b pl 0 f r)->b<h1.objs.size->(b=a\/s⁻¹<=b)->(∀c o,s.heap.get? c=!o->h1.get? c=!o)->s⁻¹<=h1.objs.size ->
   wpAny (model prog w) A.in1 (do
    let e <- setEpoch a
    ret (<- newFields "set_iterator" [f,rawInt 0,.ref a,rawInt es.size,rawInt e])) (λfin s'=>∃ v,fin=Fin.done (Flow.ret v)/\∃ T' r,s'.TypeIs v T'/\typeLookup (.type T') "__next__"=pure (!r)/\Q v s') E { s with heap:=h1,drawn:=d1 }:=λr f b pl h1 d1 hr hf hb Tp he iK=>by
  let vj:=hL.at λo e=>he a o e;let#[o1,DB,_,DW]:=vj.at_;show aa (aa (bf DB DW vj.fit (aj ?_)));show aa (bU (aj #[_,rfl,"set_iterator",_,#[_,ay _ rfl,rfl],B9.lookup,?_]));show h r pl b f h1.objs.size _ d1 hr #[_,ay _ rfl,rfl,rfl] (hf _ λc o e=>ai _ e) (aN hb) Tp (λc o e=>ai _ (he c o e)) iK (by rw[size_push'];show Nat.le_succ_of_le iK)
 cases hT:w.params.followText "set-order" with
 |true =>
  show aa (aj ?_);show fin .text (rawInt 0) a [] s.heap s.drawn hT (λh' x=>#[0,rfl]) fz (.inl rfl) (λc o e=>e) (ak _)
 |false =>
  change wpAny _ _ (if(~~~false&&(~~~t.plain&&decide (es.size>1)))=true then _ else _ ) _ _ _;by_cases hp:t.plain=true\/es.size<=1
  .rw[aq (by rcases hp with e|e<;>simp[e])];show aa (aj ?_);show fin .plain (rawInt 0) a [] s.heap s.drawn #[hT,hp,?_] (λh' x=>rfl) fz (.inl rfl) (λc o e=>e) (ak _);have:Led w=true:=by unfold Led;rw[hT];rfl
   simp_all
  .rw[au (by grind)];show aa (GC _ _ _ _ (lK).symm λys d hy=>?_);let hl:-ys=es.size:=by rw[hy.length_eq];simp
   show aa (bU ?_ (by show(List.map _ ys).toArray.size<=sizeLine;rw[aR,ah,hl];show aL hz ∅));show fin .drawn (.ref s⁻¹) s⁻¹ ys _ d #[hT,hy] (λh' hk=>#[rfl,_,_,hk _ _ (ay _ rfl),rfl,rfl]) #[_] (.inr (ak _)) (λc o e=>ai _ e) #[_]
def a54(hh:A.handled=none)(hr:vB w es t pl r)(eX:b≠I)(SD:a≠I) :
  Walks prog w A I [I,a,b] [I] es.size (λi v=>(yM w a es ep pl r)[i]?=!v) (λi h=>Lies h a es ep t/\∃f,E0 h I a f i es.size ep/\Q2 h t b pl i f r) where
 sub:=λc hc=>by simp_all
 frame:=λi h h' st hk=>by
  let#[hL,f,hi,hf]:=st;show#[hL.at λo e=>hk a #[_] o e,f,hi.at λo e=>hk I #[_] o e,?_];cases r with
  |text=>show hf
  |plain=>show hf
  |drawn =>
   let#[e1,o,e,h1,h2]:=hf;show#[e1,o,e,hk b #[_] o h1,h2]
 item:=λi s Q E hi st hQ=>by
  let#[hL,f,hI,hf]:=st;show next_item hL hr hI hf eX hi λv h' f' hv h1 h2 h3=>hQ v h' s.toks hv #[hL.at λo e=>by rw[h3.2 a SD];show e,f',h1,h2] λc o hc e=>h3.extBut c o (λz=>hc (by simp[z])) e
 done:=λs Q E st hQ=>by
  let#[hL,f,hI,hf]:=st;show next_end hh hL hr hI hf eX λh' he=>hQ h' s.toks λc o hc e=>he c o (λz=>hc (by simp[z])) e
 self:=λi s Q E st hQ=>by
  let#[hL,f,hI,hf]:=st;show wpAny_pyIter_slot hI.ty Nu (bP Nu hI.ty aO9 ?_ (aN0 _));show aa (aj (aj #[_,rfl,"set_iterator",_,hI.ty,B9.lookup,hQ]))
def aJ3:typeLookup (.type "set") "__len__"=pure (!(.builtin "set.__len__")):=by rfl
def aN6(hh:A.handled=none)(hL:Lies s.heap a es ep t)(hw:Well (Led w) t)(hz:es.size<=10000){Q:@&Value->Shared->Prop}(h:∀(vs:@&Value) h' d' oq,vs.Perm (es.toList.map (·.2))->(∀c o,s.heap.get? c=!o->h'.get? c=!o)->s⁻¹<=h'.objs.size->s.toks<=oq->Q vs { s with heap:=h',drawn:=d',toks:=oq }) :
  wpAny (model prog w) A (collect (.ref a)) Q E s:=by
 let fz:=let ⟨o,ho,_⟩:=hL.at_;ao ho
 show aa (Ck (fe F.entry_proto_collect ?_));show aa (bU ?_);show aj #[nF F.plain_list_iadd _,fe F.entry_list_iadd ?_];let vj:Lies (s.heap.push { cls:=.type "list",data:=.seq ([]:@&Value).toArray }) a es ep t:=hL.at λo e=>ai _ e;let Ap:(s.heap.push { cls:=.type "list",data:=.seq ([]:@&Value).toArray }).get? s⁻¹=some { cls:=.type "list",data:=.seq ([]:@&Value).toArray }:=ay _ rfl;let eX:=bR fz;let h1:Builtin.List.listSameRef (.ref s⁻¹) (.ref a)=false:=by simp[Builtin.List.listSameRef,eX]
 change wpAny _ A.in1 (Builtin.List.listExtendWith (.ref s⁻¹) (.ref a) (.ref s⁻¹)) _ _ _;show aa (eY (Lies.ty vj) ?_);rw[aq (by rw[h1];decide)];show aa (Ye vj hw hz λr pl b f I h2 d2 hr hI hf hb Ti he Ej h2z=>?_);let Aq:=vj.at λo e=>he a o e;let tS:=he _ _ Ap;show aa (bj ?_);show aa (wpAny_specialOf (Lies.ty Aq) aJ3 ?_);generalize Jm:("set.__len__":String)=Sl;dsimp only;rw[show splitId Sl=some ("set","__len__") from by subst Jm;decide +kernel];show aa (eP (b:=true) (Lies.ty Aq) (by rfl) ?_);rw[aq ∅];subst Jm;rw[au #[]];show aa (eY (Lies.ty Aq) ?_);show aj ?_;rw[au #[]];show aa (fH ?_);show aa ?_;show aa (wpAny_updateSeq tS rfl ?_);let Ao:=aT (Obj.mapSeq (·.push Value.none)) tS rfl;show wpAny_updateSeq (s:={ s with heap:=_,drawn:=d2 }) Ao rfl ?_;let Ts:=aT (Obj.mapSeq (·.pop)) Ao rfl;let tj:∀c o,c≠s⁻¹->h2.get? c=!o->((h2.update s⁻¹ (Obj.mapSeq (·.push Value.none))).update s⁻¹ (Obj.mapSeq (·.pop))).get? c=!o :=
  λc o hc e=>(cP _ _ (cT hc)).trans ((cP _ _ (cT hc)).trans e)
 let uU:s⁻¹<(s.heap.push { cls:=.type "list",data:=.seq ([]:@&Value).toArray }).objs.size:=by simp
 let hSI:=bR (ax uU Ej);let hSb:b≠s⁻¹:=by
  rcases Ti with z|z
  .rw[z];show cT eX
  .exact bR (ax uU z)
 let W:=(a54 (prog:=prog) (A:=A.in1) (ep:=ep) hh hr hb (aN (ax (dP fz uU) Ej))).toS;let st:Lies h2 a es ep t/\∃f,E0 h2 I a f 0 es.size ep/\Q2 h2 t b pl 0 f r:=#[Aq,f,hI,hf]
 let sR:=W.frame 0 ({ s with heap:=h2,drawn:=d2 }:Shared) _ s.toks st (ak _) λc hc o e=>tj c o (λz=>by simp at hc;rcases hc with y|y|y<;>simp_all) e;show aj #[nF F.plain_extend_loop _,codeAny_extend_loopS W (aL hz ∅) _ (λz=>by simp at z;rcases z with y|y|y<;>simp_all) _ es.size 0 _ _ _ rfl (cU _) sR Ts (ItemsOf.nil _) λs' zb c' hm pM xS=>?_];show aa (wpAny_load pM ?_);show aj ?_;let eS:s'={ s with heap:=s'.heap,drawn:=d2,toks:=s'.toks }:=by
  let#[mB,g',d',oq,wU]:=s';let m1:g'=s.gens:=hm.gens;let m2:d'=d2:=hm.drawn;let m3:wU=s.os:=hm.os
  grind
 let eo:zb.toList=yM w a es ep pl r:=by
  let l1:(yM w a es ep pl r).length=es.size:=by rw[(Pc hr).length_eq];simp
  apply List.ext_getElem
  .rw[l1];simpa using xS.1
  .intro i h1 h2;have:=xS.2 i zb.toList[i] (by simp at h1 ⊢);dsimp only at this;rw[av h2] at this;show(aD this).symm
 rw[eo,eS];show h _ _ d2 s'.toks (Pc hr) (λc o e=>?_) (ft (ao pM)) hm.toks;let hc:=ao e;let n1:=aN hc;let n2:=aN (ax (dP hc uU) Ej);show hm.heap c o (by simp[n1,n2]) (tj c o n1 (he c o (ai _ e)))
def aW9(hh:A.handled=none)(hS:l9 prog w s.heap a ks)(TC:-ks<64)(h:∀(S:Addr) (vs:@&Value) (ns:@&Int) e h' d' oq,IntsAre vs ns->ns.Perm ks->ns.Pairwise (·<=·)->h'.get? S=!(seqObj "list" vs.toArray e)->s⁻¹<=S->(∀c o,s.heap.get? c=!o->h'.get? c=!o)->s.toks<=oq->Q (.ref S) { s with heap:=h',drawn:=d',toks:=oq }) :
  wpAny (model prog w) A (call (.builtin "sorted") [.ref a]) Q E s:=by
 let#[o,es,ep,t,ho,hx,hd,jm,hp,hn,hb,hf,hw]:=hS;let hL:Lies s.heap a es ep t:=#[#[o,ho,hx.1,hd],hf]
 let hz:es.size=-ks:=by rw[<- hp.length_eq];simp
 show Calls.call_function_entry kind_sorted plain_sorted entry_sorted (args_sorted1 _) ?_;unfold Builtin.«sorted»;show aa (m:=checkCount "sorted" 1 1 _) (aj ?_);show aa (aN6 (A:=A.in1) hh hL hw () λvs h1 d1 CG hv he uU Aa=>?_);let hI:IntsAre vs (vs.map toI):=by
  let all:∀v∈vs,∃tk,v=.int (toI v) tk:=λv Dq=>by
   let#[e,vg,rfl]:=aI.mp (hv.mem_iff.mp Dq);let#[tk,h1,_]:=ze jm vg;show#[tk,h1]
  clear hv
  induction vs with
  |nil=>show .nil
  |cons v r ih =>
   let#[tk,e]:=all v #[_];have:=IntsAre.cons (toI v) tk (ih λu hu=>all u (by simp[hu]));rw[<- e] at this;show this
 let hk:(vs.map toI).Perm ks:=by
  show(hv.map toI).trans ?_;rw[eL];show hp
 let hl:-vs<64:=by rw[hv.length_eq];simp;omega
 show aa (wpAny_newList (s:={ s with heap:=h1,drawn:=d1,toks:=CG }) ?_);let xt:(h1.push (seqObj "list" vs.toArray 0)).get? h1.objs.size=!(seqObj "list" vs.toArray 0):=ay _ rfl;show aa (bj (bP (s:={ s with heap:=h1.push (seqObj "list" vs.toArray 0),drawn:=d1,toks:=CG }) slot_list_sort #[_,xt,rfl] entry_list_sort (list_sort_tree xt hI hl λout CN a1 a2 a3=>#[_,rfl,?_]) (args_list_sort _)));let#[e,vg]:=sortedHeap_at (vs:=vs) (out:=out) xt;show aj #[_,rfl,h h1.objs.size out.toList CN e _ d1 CG a1 (a2.trans hk) a3 vg uU (λc o' e'=>?_) Aa];let hc:=ao (he c o' e');rw[sortedHeap_old (aN hc) (by rw[size_push'];show Nat.lt_succ_of_lt hc)];show ai _ (he c o' e')
abbrev l5(ks xs:@&Int):@&Int:=xs.foldl F5 ks
def I9:∀(xs ks:@&Int),(l5 ks xs).length<=-ks+-xs
 |[],ks=>by simp[l5]
 |x::xs,ks=>by
  have:=I9 xs (F5 ks x);let h2:=OE ks x;show(l5 (F5 ks x) xs).length<=_
  grind
set_option tactic.hygienic true in
def F7:∀(xs ks:@&Int) (k:Int),k∈l5 ks xs↔k∈ks\/k∈xs
 |[],ks,k=>by simp[l5]
 |x::xs,ks,k=>by
  change k∈l5 (F5 ks x) xs↔_;rw[F7 xs];unfold F5;split
  .rename_i h;constructor
   .rintro(a|a)
    .exact .inl a
    .exact .inr (by simp[a])
   .rintro(a|a)
    .exact .inl a
    .rcases aB.mp a with rfl|b
     .exact .inl h
     .exact .inr b
  .simp[or_assoc]
set_option tactic.hygienic true in
def X3:∀(xs ks:@&Int),ks.Nodup->(l5 ks xs).Nodup
 |[],ks,h=>h
 |x::xs,ks,h=>by
  show X3 xs _ ?_;unfold F5;split
  .exact h
  .rename_i hk;rw[eW];show#[h,by simp,λa ha b hb=>by simp at hb;subst hb;show λz=>hk (z▸ha)]
def MO:Well (Led w) (SetTable.fresh 0 0 (Led w)):=#[by simp[lE,SetTable.fresh],rfl,rfl]
def Mg(e:h.get? a=some { cls:=.type "set",dict:=none,data:=.set (List.toArray []) 0 (.fresh 0 0 (Led w)) }):l9 prog w h a [] :=
 #[_,(List.toArray []),0,_,e,#[rfl,rfl,rfl],rfl,(by intro e he;simp at he),by simp,by simp,by decide,by rfl,MO]
def Ys{R:Result->Shared->Prop}{fp wr:@&Addr}{G:Array GenState->Array GenState->Prop}{P:Nat->Value->Prop}{St:Nat->Shared->Prop}(W:WalksS prog w A.in1 I fp wr G n P St)(Jz:a∉fp)(hn:n=-ns)(hv:∀i v,P i v->∃tk,v=.int (ns.getD i 0) tk)(hb:n+1<scanBound):∀(k i:Nat) (s:Shared),i+k=n->St i s->l9 prog w s.heap a (l5 [] (ns.take i)) ->
   (∀s',Moved (a::wr) G s s'->l9 prog w s'.heap a (l5 [] ns)->R (.ok (.ret .none)) s')->codeAny (model prog w) A (.builtin "set.update.loop" #[[.ref a,.ref I],[]]) R s:=by
 let hw:a∉wr:=λh=>Jz (W.sub _ h);let wG:∀b∈wr,b∈a::wr:=λb hb=>by simp[hb]
 intro k
 induction k with
 |zero =>
  intro i s e st hS hR;obtain rfl:i=n:=by omega
  show fe kh ?_;show aa (W.done s _ _ st λs' m=>aj (hR s' (m.mono wG) (l9.at ?_ λo e=>m.heap a o hw e)))
  simp_all
 |succ k ih =>
  intro i s e st hS hR;let fz:i< -ns:=by omega
  show fe kh ?_;show aa (W.item i s _ _ () st λv s' hP mW m=>?_);let#[tk,rfl]:=hv i v hP;let pM:=l9.at hS λo e=>m.heap a o hw e;let hl:=I9 (ns.take i) [];rw[bu] at hl;simp only[List.length_nil] at hl;show aa (bj ?_);show bj (aa ((intKind prog w).pyHash (k:=ns.getD i 0) (Cn _ _ _ _) ?_));show JV (s:={ s' with toks:=s'.toks+1 }) pM () λh' bb sb tS=>?_;let e2:F5 (l5 [] (ns.take i)) (ns.getD i 0)=l5 [] (ns.take (i+1)):=by
   unfold l5;rw[dC,List.foldl_append,av fz];simp[List.getD,fz]
  rw[e2] at tS;show aj #[nF PyProof.Rows.F.plain_set_update_loop _,ih (i+1) _ () (W.frame _ s' _ _ mW (jP _) λb hb o e=>by rw[sb.2 b λz=>Jz (z▸hb)];show e) tS λs2 m2 h2=>?_];show hR s2 (Moved.trans W.gtrans ((m.mono wG).then_heap (jP _) λb o hb e=>by rw[sb.2 b λz=>hb (by rw[z];simp)];show e) m2) h2
noncomputable abbrev A4(w:World):Obj:={ cls:=.type "set",dict:=none,data:=.set (List.toArray []) 0 (.fresh 0 0 (Led w)) }
def NZ(h:Q (.ref s⁻¹) { s with heap:=s.heap.push (A4 w) }):wpAny (model prog w) A (newSet (.type "set")) Q E s:=by
 show aa (W5 ?_);show bU h (cU _)
def WC(x:Value)(h:Q (.ref s⁻¹) { s with heap:=s.heap.push (A4 w) }):codeAny (model prog w) A (.call (.builtin "set.__new__") #[[.type "set",x],[]]) (wants Q E) s:=by
 show wj (?_:wpAny _ A.in1 (do
  checkBuiltinCall "set.__new__" #[[.type "set",x],[]]
  again (.builtin "set.__new__" #[[.type "set",x],[]])) _ _ s)
 show aa (eA (F.newCall_set_1 x) (aj #[nF F.plain_set_new _,?_]));show fe F.entry_set_new ?_;let sub:=sub_set_self;show aa ?_;show aa (eA (by rfl) ?_);show aa (eA sub ?_);show aj ?_;show aa (NZ (aj h))
def OO{vs:@&Value}(h:IntsAre vs ns):-vs=-ns:=by
 induction h with
 |nil=>rfl
 |cons n t r ih=>simp[ih]
def zj(h:Heap)(l:Addr)(items:Array Value):Prop:=h.IsList l items\/h.IsTuple l items
def zj.lt(x:zj h l items):l<h.objs.size:=by
 rcases x with⟨_,e,_⟩|⟨_,e,_⟩<;>show ao e
def WU{Q:Fin->Shared->Prop}(hh:A.handled=none)(hS:s.heap.get? a=!A4 w)(hl:zj s.heap l items)(hi:IntsAre items.toList ns)(hb:items.size+1<scanBound)(eX:a≠l)(h:∀h' tk,l9 prog w h' a (l5 [] ns)->(∀b o,b≠a->s.heap.get? b=!o->h'.get? b=!o)->s.toks<=tk->wpAny (model prog w) A (ret .none) Q E { s with heap:=h',toks:=tk }) :
  wpAny (model prog w) A (Builtin.«set.__init__» #[[.ref a,.ref l],[]]) Q E s:=by
 let hT:s.TypeIs (.ref a) "set":=#[_,hS,rfl]
 let fz:=hl.lt;let Jg:=aN fz;show aa (eA rfl ?_);let nm:∀{Q':String->Shared->Prop},(∀x,Q' x s)->wpAny (model prog w) A (typeNameOfCut 200 (.ref a)) Q' E s:=λ{Q'} q=>by
  show aa (aa (eY hT ?_));show aj (eA (a:="set") ?_ (q _))
  rfl
 show aa (nm λx=>?_);show aa (aj ?_);show aa (aj ?_);show aa (aa (bf hS rfl rfl (aj ?_)));rw[aq (by unfold SetTable.fill;simp[SetTable.fresh])];unfold Builtin.Frozenset.updateFrom Builtin.Frozenset.isAnySet;obtain⟨c,vh,Ef,it,hit,Jj,St,W,eO⟩:∃c:String,(c="list"\/c="tuple")/\s.TypeIs (.ref l) c/\∃it:Obj,(∀Q':Value->Shared->Prop,Q' (.ref s⁻¹) { s with heap:=s.heap.push it }->wpAny (model prog w) A (pyIter (.ref l)) Q' E s) /\
   (∀b o,s.heap.get? b=!o->(s.heap.push it).get? b=!o)/\∃St:Nat->Shared->Prop,WalksS prog w A.in1 s⁻¹ [s⁻¹,l] [s⁻¹] (λa b=>b=a) items.size (λi v=>items[i]?=!v) St/\St 0 { s with heap:=s.heap.push it }:=by
  rcases hl with hl|hl
  .let#[o,ho,hc,_]:=id hl;show#["list",.inl rfl,#[o,ho,hc],_,λQ' q=>dZ hl q,λb o e=>ai _ e,_,(nU (A:=A.in1) hh _ l Jg items).toS,#[#[_,ay _ rfl,rfl,rfl],hl.push _]]
  .let#[o,ho,hc,_]:=id hl;show#["tuple",.inr rfl,#[o,ho,hc],_,λQ' q=>nR hl q,λb o e=>ai _ e,_,(Walks.tuple (A:=A.in1) hh _ l Jg items).toS,#[#[_,ay _ rfl,rfl,rfl],hl.push _]]
 show aa (aa (aa (eP (b:=false) Ef (by rcases vh with rfl|rfl<;>(rw[lF];kernel_rfl)) ?_)));show eP (b:=false) Ef (by rcases vh with rfl|rfl<;>(rw[lF];kernel_rfl)) ?_;rw[aq ∅];show aa (eY Ef ?_);rw[aq (by rcases vh with rfl|rfl<;>decide)];show aa (hit _ ?_);show aa (Ck ?_);let Tq:=ao hS;let iK:items.size=-ns:=by show OO hi
 show Ys W (by simp only[List.mem_cons,List.not_mem_nil,or_false,not_or];show#[aN Tq,eX]) iK (λi v hv=>IntsAre.int_at hi i v (by rw[zG];show hv)) hb items.size 0 _ ()
  eO (Mg (Jj _ _ hS)) λs' m pM=>?_
 let eS:s'={ s with heap:=s'.heap,toks:=s'.toks }:=by
  let#[mB,g',d',oq,wU]:=s';let m1:g'=s.gens:=m.gens;let m2:d'=s.drawn:=m.drawn;let m3:wU=s.os:=m.os
  simp_all
 rw[eS];show aj (h _ _ pM (λb o hb e=>?_) m.toks);show m.heap b o (by simp only[List.mem_cons,List.not_mem_nil,or_false,not_or];show#[hb,aN (ao e)]) (Jj _ _ e)
def Wx(hh:A.handled=none)(hl:zj s.heap l items)(hi:IntsAre items.toList ns)(hb:items.size+1<scanBound)(h:∀h' tk,l9 prog w h' s⁻¹ (l5 [] ns)->(∀b o,s.heap.get? b=!o->h'.get? b=!o)->s.toks<=tk->Q (.ref s⁻¹) { s with heap:=h',toks:=tk }) :
  wpAny (model prog w) A (call (.type "set") [.ref l]) Q E s:=by
 let cs:=F.called_set;let#[_,_,y1]:=cs.mro;let y2:=cs.made;let y3:=cs.sub;let y6:=F.typeCall_set_1 (.ref l);show iM (wj (?_:wpAny _ _ (callAny (.type "set") _) _ _ _));show aj #[og _ #[],fe F.entry_type_call ?_];rw[Around.under_plain (weight_type_call_type "set" [.ref l] []) rfl]
 repeat (any_goals (first|assumption|wp_step))
 show fN (WC (.ref l) (E:=E) (Q:=λv s1=>v=.ref s⁻¹/\s1={ s with heap:=s.heap.push (A4 w) }) #[rfl,rfl]) ?_;rintro(e|fl) s1 hr
 .exact hr
 cases fl with
 |next=>show hr
 |brk=>show hr
 |cont=>show hr
 |ret v =>
 let#[rfl,rfl]:=hr;let hS:(s.heap.push (A4 w)).get? s⁻¹=!A4 w:=ay _ rfl;let hT:Shared.TypeIs { s with heap:=s.heap.push (A4 w) } (.ref s⁻¹) "set":=#[_,hS,rfl]
 let y7:=cs.init.lookup;let y8:=cs.init.bind (.ref s⁻¹)
 repeat (any_goals (first|assumption|wp_step))
 show fN (lH (R:=wants (λv s2=>v=.none/\∃h' tk,s2={ s with heap:=h',toks:=tk }/\l9 prog w h' s⁻¹ (l5 [] ns)/\(∀b o,s.heap.get? b=!o->h'.get? b=!o)/\s.toks<=tk) E) cs.init.plain F.entry_set_init (check_set_init_1 hT ?_)) ?_
 .let SM:zj (s.heap.push (A4 w)) l items:=hl.imp (·.push _) (·.push _);let SJ:=hl.lt;show WU (by simp[hh]) hS SM hi hb (bR SJ) λh' tk h1 h2 h3=>aj #[rfl,h',tk,rfl,h1,λb o e=>h2 b o (aN (ao e)) (ai _ e),h3]
 .rintro(e|fl) s2 hr
  .exact hr
  cases fl with
  |next=>show hr
  |brk=>show hr
  |cont=>show hr
  |ret v =>
  let#[rfl,h',tk,rfl,h1,h2,h3]:=hr
  repeat (any_goals (first|assumption|wp_step))
  show h _ _ h1 h2 h3
end ST
namespace L2
open PySem PySem.Spec PyProof.Rows
abbrev sk(X:Cx)(a:Addr)(ks:@&Int):HO:=.ext λh=>ST.l9 X.prog X.w h a ks
abbrev T3(ns:@&Int):@&Int:=(ST.l5 [] ns).mergeSort (λa b=>decide (a<=b))
def Gz:∀{a b:@&Int},a.Perm b->a.Pairwise (·<=·)->b.Pairwise (·<=·)->a=b
 |[],b,h,_,_=>by simp_all
 |x::a,[],h,_,_=>absurd h.length_eq #[_]
 |x::a,y::b,h,h1,h2=>by
  rw[QH] at h1 h2;let e:x=y:=by
   let m1:=h.mem_iff (a:=y);let m2:=h.mem_iff (a:=x);simp only[List.mem_cons,true_or,true_iff,iff_true] at m1 m2;rcases m1 with z|z
   .exact z.symm
   .grind
  subst e;rw[Gz (h.cons_inv) h1.2 h2.2]
def Na(ns:@&Int):(T3 ns).Pairwise (·<=·):=by
 have:=List.pairwise_mergeSort (le:=λa b:Int=>decide (a<=b)) (λa b c h1 h2=>by simp at *;omega) (λa b=>by simp;omega) (ST.l5 [] ns);show this.imp λh=>by simpa using h
def GL(ns:@&Int):(T3 ns).Perm (ST.l5 [] ns):=List.mergeSort_perm _ _
def a50(ns:@&Int):(T3 ns).length<=-ns:=by
 rw[(GL ns).length_eq];have:=ST.I9 ns []
 simp_all
section
variable{X:Cx}{pi:@&(Addr×Obj)}{σ:St}{H:Hp}{s:Shared}
def Inv.draw(I:Inv X pi σ H s)(d:Drawn):Inv X pi σ H { s with drawn:=d } :=
 I.step (g':=s.gens) (t':=s.toks) (d':=d) (ch:=[]) #[_] (λb o x x x e x=>e) (λb o x x x e x=>#[o.slots,e]) (λb o x x e=>e) (λb o x e=>#[o,e]) (λx x e=>e) (λx x x e=>e) (λb ps e=>#[(List.toArray []),by simp[e]]) (λm hm=>hm) I.bI I.bare
def Ov{h:Heap}{a:Addr}{ks:@&Int}(x:ST.l9 X.prog X.w h a ks):l0 X.prog X.w H h a (sk X a ks) :=
 #[x,by let#[o,_,_,_,e,_]:=x;show#[o,e],λh1 h2 y k=>y.at k]
def aV8{ns:@&Int}{vs:@&Value}(h:IntsAre vs ns):Vals (ns.map V.int) vs:=by
 induction h with
 |nil=>show .nil
 |cons n t r ih=>show .cons #[t,rfl] ih
def GD:∀{ns:@&Int} {vs:@&Value},Vals (ns.map V.int) vs->IntsAre vs ns
 |[],_,h=>by cases h;show .nil
 |n::ns,_,h=>by
  cases h with
  |cons r rr =>
   let#[t,rfl]:=r;show .cons n t (GD rr)
def Np(hc:X.calm=true):m5 X (.type "set") (λxs H Q=>∃a ns,xs=[.ref a]/\iB X.K H a (ns.map V.int)/\-ns<60/\∀p,H p=none->Q (.ref p) (upd H p (sk X p (ST.l5 [] ns)))):=by
 intro pi s σ H xs us Q I r h;let#[a,ns,rfl,hq,hl,q]:=h;cases r with
 |cons r rr =>
 cases rr;cases r;let#[bc,rv,p,hz]:=I.tuple hq;let hI:=GD rv;let hlen:=ST.OO hI;show ST.Wx (ns:=ns) (I.ok.hd hc) (.inr (show s.heap.IsTuple a bc.toArray from p)) (_/hI) (by rw[aR,hlen];show ax (Nat.succ_lt_succ hl) ∅) λh' tk hS hk x=>?_;show#[.ref _,_,I.laid (a:=s⁻¹) (t':=tk) hk (ak _) (Ov hS),rfl,q _ (I.bI.fresh (ak _))]
def as7(hc:X.calm=true):m5 X (.builtin "sorted") (λxs H Q=>∃a ns,xs=[.ref a]/\H a=!sk X a (ST.l5 [] ns)/\-ns<60/\∀p,H p=none->Q (.ref p) (upd H p (.lst ((T3 ns).map V.int)))):=by
 intro pi s σ H xs us Q I r h;let#[a,ns,rfl,ha,hl,q]:=h;cases r with
 |cons r rr =>
 cases rr;cases r;let hS:ST.l9 X.prog X.w s.heap a (ST.l5 [] ns):=(I.bI a _ ha).1;let hn:=ST.I9 ns [];simp only[List.length_nil] at hn;show ST.aW9 (I.ok.hd hc) hS () λS vs CN e h' d' oq h1 h2 h3 h4 h5 h6 x=>?_;let e1:CN=T3 ns:=Gz (h2.trans (GL ns).symm) h3 (Na ns);subst e1;let hz:=a50 ns;show#[.ref S,_,(I.laid (a:=S) (o:=.lst ((T3 ns).map V.int)) (t':=oq) h6 h5 #[by rw[ah];show aL hz (aL (ft hl) ∅),vs,e,aV8 h1,h4]).draw d',rfl,q S (I.bI.fresh h5)]
end
end L2
namespace ST
open PySem PyProof.Rows
end ST
namespace L2
open PySem PySem.Spec PyProof.Rows
end L2
namespace HT
open PySem PyProof.Rows Builtin
def an2:fillsNumberSlot (.type "tuple") "mul"=pure false :=
 PySem.fillsNumberSlot_seq F.slot_tuple_mul.lookup #[] F.slot_tuple_rmul.lookup #[]
def aG7:seqRepeat? (.type "tuple")=pure (!(.builtin "tuple.__mul__")):=by
 rfl
def av2(a:Int)(t:Tok)(l:Addr)(items:Array Value)(n:Nat)(dd:Option Addr)(sl:Array (Option Value)) :
  Meets (Builtin.«int.__rmul__» #[[.int a t,.ref l],[]]) (λx R s=>s.heap.get? l=some { cls:=.type "tuple",dict:=dd,data:=.seq items n,slots:=sl }/\R (.ok (.ret Value.notImplemented)) s) :=
 .of_wp λprog w A R s h=>by let#[hl,h]:=h;wp_walk;show#[_,rfl,h]
section
variable{prog:Program}{w:World}{A:Around}{E:Value->Shared->Prop}{s:Shared}
def a01(bc:@&Value):∀(m:Nat) (acc:Array Value),List.foldl (λx1 x2=>x1++x2) acc (List.replicate m bc.toArray)=acc++(List.replicate m bc).flatten.toArray:=by
 intro m
 induction m with
 |zero=>intro acc;simp
 |succ m ih=>intro acc;rw[gM,gH,ih,gM,List.flatten_cons];simp
def a42{a:Addr}{bc:@&Value}{n:Int}{t:Tok}{Q:Value->Shared->Prop}(ht:IsTup s.heap a bc.toArray)(eX:bc≠[])(h1:1<=n)(h2:n<2 ^ 62)(hz:-bc*n.toNat<=sizeLine)(q1:n=1->Q (.ref a) s)(q2:Q (.ref s⁻¹) { s with heap:=s.heap.push { cls:=.type "tuple",data:=.seq (List.replicate n.toNat bc).flatten.toArray } }):wpAny (model prog w) A (binaryOp .Mult (.ref a) (.int n t)) Q E s:=by
 let#[o,ho,hc,k,hd]:=id ht;let#[cls,dict,data,slots]:=o;subst hc hd;let he:bc.toArray.isEmpty=false:=by grind
 show Ih ∅ ht.typeIs (λs'=>nS s' n t) an2 F.fills_int_mul kC aG7 F.slot_int_index.lookup
  (cO kC (nS s n t) F.entry_int_rmul (F.args_int_rmul_2 _ _) (av2 n t a bc.toArray k dict slots) #[ho,rfl,ht.typeIs,?_])
 show bP F.slot_tuple_mul ht.typeIs F.entry_tuple_mul ?_ (F.args_tuple_mul_2 _ _);show aa (eA (show asIndex (.int n t)=pure n from rfl) ?_);rw[aq (by simp only[Bool.or_eq_true,decide_eq_true_eq];omega)];show aa (tupleItemsOf_ ht ?_);let big:¬((bc.toArray.size:Int)*n>(2 ^ 63-1) / 8):=by
  rw[aR];have:((-bc*n.toNat:Nat):Int)=(-bc:Int)*n:=by grind
  let hs:sizeLine<2 ^ 59:=by decide
  omega
 let many:¬(Builtin.Tuple.tupleTooMany ((bc.toArray.size:Int)*n)=true):=by
  unfold Builtin.Tuple.tupleTooMany
  grind
 let iK:sizeOk (.seq (List.replicate n.toNat bc).flatten.toArray):=by
  show(List.replicate n.toNat bc).flatten.toArray.size<=sizeLine;simp only[List.size_toArray,List.length_flatten,List.map_replicate,List.sum_replicate_nat];rw[lJ];show hz
 by_cases e1:n=1
 .subst e1;rw[au (by rw[he];rfl)];show aa (aa (eY ht.typeIs (aj ?_)))
  first
   |show aa (fH (aa (aj #[_,rfl,aj (q1 rfl)])))
   |show aa (fH (aj #[_,rfl,(q1 rfl)]))
   |show aa (fH (aj #[_,rfl,aj (q1 rfl)]))
 .rw[aq (by rw[he];simpa using e1)];rw[aq (by grind),aq big,aq many];rw[show List.foldl (λx1 x2=>x1++x2) (List.toArray []) (List.replicate n.toNat bc.toArray)=(List.replicate n.toNat bc).flatten.toArray by rw[a01];simp]
  first
   |show aa (bU (aj #[_,rfl,q2]) iK)
   |show aa (bU (aj #[_,rfl,aj q2]) iK)
end
end HT
namespace L2
open PySem PySem.Spec PyProof.Rows
section
variable{X:Cx}
def b00(K:PySem.W.Frag):R2:=λx y H Q=>∃(a:Addr) (n:Int) (xs:@&V),x=.ref a/\y=.int n/\iB K H a xs/\xs≠[]/\1<=n/\n<2 ^ 62/\-xs*n.toNat<=sizeLine /\
 (n=1->Q (.ref a) H)/\(∀p,H p=none->Q (.ref p) (upd H p (.tup (List.replicate n.toNat xs).flatten)))
def bC5:gs X (binaryOp .Mult) (b00 X.K):=by
 intro pi s σ H x y v u Q I rx ry h;let#[a,n,xs,rfl,rfl,ha,eX,h1,h2,hz,q1,q2]:=h;cases rx;let#[tk,rfl]:=ry;let#[bc,r,p,_]:=I.tuple ha;show HT.a42 p (λz=>eX (r.U4.mp z)) h1 h2 (by rw[<- -r];show hz) (λe=>#[.ref a,H,I,rfl,q1 e]) ?_;show#[.ref s⁻¹,_,I.laid (t':=s.toks) (λb ob q=>ai _ q) (ak _) ?_,rfl,q2 _ (I.bI.fresh (ak _))];show#[by rw[len_rep,lJ];show hz,_,r.rep _,K1.new _ _]
def u9(sep:Str)(ys:@&Str):Nat:=ys.foldl (λn y=>n+-y+-sep) 0
def a48:∀{ys:@&Str} {vs:@&Value},Vals (ys.map V.str) vs->∃l:@&(Str×Tok),vs=strValues l/\l.map (·.1)=ys:=by
 intro ys
 induction ys with
 |nil=>intro vs h;cases h;show#[[],rfl,rfl]
 |cons y ys ih =>
  intro vs h;cases h with
  |cons r rr =>
   let#[t,rfl]:=r;let#[l,rfl,e]:=ih rr;show#[(y,t)::l,rfl,by simp_all]
def YT(sep:Str):∀(ps:@&Str) (acc:Array Nat) (n:Nat),acc.size<=n->(ps.foldl (λacc p=>acc++sep.cps++p.cps) acc).size<=ps.foldl (λn y=>n+-y+-sep) n:=by
 intro ps
 induction ps with
 |nil=>intro acc n h;show h
 |cons p ps ih =>
  intro acc n h;rw[gH,gH];show ih _ _ ?_;rw[lQ,lQ];have:-p=p.cps.size:=rfl;have:-sep=sep.cps.size:=rfl;omega
def Mi(sep:Str)(ys:@&Str):(Builtin.Str.glued sep ys).length<=u9 sep ys:=by
 cases ys with
 |nil=>show ak _
 |cons y ys =>
  show((ys.foldl (λacc p=>acc++sep.cps++p.cps) y.cps)).size<=ys.foldl (λn y=>n+-y+-sep) (0+-y+-sep);show YT sep ys _ _ ?_;have:-y=y.cps.size:=rfl;omega
def bD4:mj X "str.join" (λx xs H Q=>∃sep a ys,x=.str sep/\xs=[.ref a]/\gU X.K H a (ys.map V.str)/\u9 sep ys<=sizeLine/\Q (.str (Builtin.Str.glued sep ys)) H):=by
 intro pi s σ H x xs v us Q I rx r h;let#[sep,a,ys,rfl,rfl,hq,hz,q]:=h;let#[t,rfl]:=rx;cases r with
 |cons r rr =>
 cases rr;cases r;let#[bc,rv,pl,_]:=I.list hq;let#[l,rfl,el]:=a48 rv;let hl:Builtin.Str.tooLong ((l.map (·.1)).toArray.foldl (·+·.length+-sep) 0)=false:=by
  unfold Builtin.Str.tooLong;rw[aF,List.foldl_toArray,el];show pT.mpr hz
 show cO F.slot_str_join (iN s sep t) F.entry_str_join (F.args_str_join_2 _ _) (meets_str_join_list sep t a l hl) #[pl.isList,?_];let fin:wants (EP X pi σ Q) X.xe (Except.ok (Flow.ret (.str (Builtin.Str.glued sep ys) s.toks))) { s with toks:=s.toks+1 }:=#[.str _,H,I.tok _,#[_,rfl],q]
 let gen:(Made.str (Builtin.Str.glued sep (l.map (·.1)))).post (λv s'=>wants (EP X pi σ Q) X.xe (Except.ok (Flow.ret v)) s') s:=by
  rw[el];show#[aL (Mi sep ys) hz,fin]
 rcases l with _|⟨p,_|⟨p2,l⟩⟩
 .exact gen
 .subst el;show#[.str p.1,H,I,#[_,rfl],q]
 .exact gen
end
end L2
namespace HT
open PySem PyProof.Rows Builtin PySem.SeqAt
def aA6(l:Addr)(items:Array Value)(n:Nat)(dd:Option Addr)(sl:Array (Option Value))(x:Value)(e:Value->Bool)(j:Nat)(hj:j<items.size)(hit:e items[j]=true)(nj:∀m (hm:m<items.size),m<j->e items[m]=false) :
    Meets (Builtin.«tuple.index» #[[.ref l,x],[]])
      (λA R s=>s.heap.get? l=some { cls:=.type "tuple",dict:=dd,data:=.seq items n,slots:=sl }/\(∀y,y∈items->EqAt A.in1 s y x (e y))/\R (.ok (.ret (.int j s.toks))) { s with toks:=s.toks+1 }) :=
  .of_wp λprog w A R s h=>by
    let#[hp,g,d,tk,os]:=s;let#[hl,he,h]:=h
    wp_walk using wpAny_loadPart' hl
    change wpAny (model prog w) A.in1 (forIn ([:Min.min items.size items.size]:Std.Legacy.Range) ((none,Unit.unit):Option PySem.Fin × Unit) (λ(i:Nat) __s =>
            match items[i]? with
            |some y=>do
              let __do_lift <- eqBool y x
              if __do_lift=true then do
                  let __do_lift <- retInt (i:Nat)
                  pure (ForInStep.done (!__do_lift,Unit.unit))
                else pure (ForInStep.yield (none,Unit.unit))
            | x=>pure (ForInStep.yield (none,Unit.unit)))) _ _ _
    rw[Std.Legacy.Range.forIn_eq_forIn_range'];show wpAny_forIn_list _ (λrest b s'=>b=(none,Unit.unit)/\s'=#[hp,g,d,tk,os]/\∃i,rest=List.range' i (items.size-i)/\i<=j) _ ?_ ?_ _ _ #[rfl,rfl,0,by simp,cU _]
    . rintro y rest b s' ⟨rfl,rfl,i,hr,hi⟩;let fz:i<items.size:=by omega
      rw[show items.size-i=(items.size-(i+1))+1 by omega,List.range'_succ] at hr;cases hr;rw[show items[y]?=some items[y] from dJ fz];show aa (he _ (Array.getElem_mem fz) prog w _ _ ?_);by_cases jH:y=j
      . subst jH
        wp_walk
        show#[_,rfl,h]
      . rw[nj y fz ()]
        wp_walk
        grind
    . rintro b s' ⟨rfl,rfl,i,hr,hi⟩;exfalso;have:=gw List.length hr
      grind
section
variable{prog:Program}{w:World}{A:Around}{E:Value->Shared->Prop}{s:Shared}
def a91:typeLookup (.type "tuple") (dunderI "add")=pure none:=by
 kernel_rfl
def WQ{t b:Addr}{vs ws:@&Value}{Q:Value->Shared->Prop}(ht:IsTup s.heap t vs.toArray)(hb:IsTup s.heap b ws.toArray)(h0:vs=[]->Q (.ref b) s)(h1:ws=[]->Q (.ref t) s)(h2:Q (.ref s⁻¹) { s with heap:=s.heap.push { cls:=.type "tuple",data:=.seq (vs++ws).toArray } })(iK:-vs+-ws<=sizeLine):wpAny (model prog w) A (inplaceOp .Add (.ref t) (.ref b)) Q E s:=by
 let#[#[cls,dd,data,sl],ho,hc,n,hd]:=id ht;let#[#[yC,qQ,data2,mq],jY,pK,n2,hd2]:=id hb;subst hc hd pK hd2;let e:vs.toArray++ws.toArray=(vs++ws).toArray:=by simp
 show wpAny_inplaceOp_concat #[_,ho,rfl] #[_,jY,rfl] a91 jN nE ?_;by_cases hv:vs=[]
 .subst hv;show cO sG #[_,ho,rfl] pW (nY _ _) (tuple_addW0 t b (List.toArray []) ws.toArray n n2 dd qQ sl mq rfl) #[ho,jY,h0 rfl]
 by_cases hw:ws=[]
 .exact cO sG #[_,ho,rfl] pW (nY _ _) (tuple_addW1 t b vs.toArray ws.toArray n n2 dd qQ sl mq (_/hv) (by simp[hw])) #[ho,jY,h1 hw]
 .refine cO sG #[_,ho,rfl] pW (nY _ _) (tuple_addW2 t b vs.toArray ws.toArray n n2 dd qQ sl mq (_/hv) (_/hw) ()) #[ho,jY,?_];rw[e];show h2
end
end HT
namespace L2
open PySem PySem.Spec PyProof.Rows
variable{xs:@&V}
section
variable{X:Cx}
def AS(ys:@&V)(y:V)(n:Nat):Prop:=ys.all O0=true/\O0 y=true/\(∃z,ys[n]?=!z/\mF z y=true)/\∀(m:Nat) z,m<n->ys[m]?=!z->mF z y=false
def FV:∀{xs:@&V} {us:@&Value} {i:Nat} (hi:i< -us),Vals xs us->∃x,xs[i]?=!x/\RelV x us[i]
 |_,_,0,hi,.cons r _=>#[_,rfl,r]
 |_,_,i+1,hi,.cons _ t=>by
  let#[x,h1,h2]:=FV (_/hi) t;show#[x,by simpa using h1,by simpa using h2]
def KW(h:xs.all O0=true){i:Nat}{x:V}(e:xs[i]?=!x):O0 x=true:=bw.mp h x (aY e)
def Me{ys:@&V}{y:V}{n:Nat}{bc:@&Value}(F:AS ys y n)(r:Vals ys bc):∃hn:n<bc.toArray.size,vq y bc.toArray[n]=true/\∀m (hm:m<bc.toArray.size),m<n->vq y bc.toArray[m]=false:=by
 let#[fs,fy,#[z,hz,he],nj]:=F;let hl:=-r;let hn:n< -bc:=by
  grind
 show#[by simpa using hn,?_,λm hm DE=>?_]
 .let#[x,hx,rx]:=FV hn r;rw[hz] at hx;cases hx;rw[Cr,Hh rx (KW fs hz)];show he
 .let pH:m< -bc:=by simpa using hm
  let#[x,hx,rx]:=FV pH r;rw[Cr,Hh rx (KW fs hx)];show nj m x DE hx
abbrev Om(K:PySem.W.Frag):V->@&V->Hp->VK->Prop:=λx xs H Q=>∃a ys y n,x=.ref a/\xs=[y]/\iB K H a ys/\AS ys y n/\Q (.int n) H
abbrev Ol(K:PySem.W.Frag):V->@&V->Hp->VK->Prop:=λx xs H Q=>∃a ys y n,x=.ref a/\xs=[y]/\gU K H a ys/\AS ys y n/\n<2 ^ 62/\Q (.int n) H
def a93:mj X "tuple.index" (Om X.K):=by
 intro pi s σ H x xs v us Q I rx r h;let#[a,ys,y,n,rfl,rfl,hq,W,q]:=h;cases rx;cases r with
 |cons ry rr =>
 cases rr;let#[bc,rv,p,hz]:=I.tuple hq;let#[hn,hit,nj]:=Me W rv;let#[#[cls,dd,data,sl],ho,hc,k,hd]:=id p;simp only at hc hd;subst hc hd;show cO F.slot_tuple_index p.typeIs F.entry_tuple_index (F.args_tuple_index_2 _ _) (HT.aA6 a bc.toArray k dd sl _ (vq y) n hn hit nj) #[ho,λw hw=>Ga ry W.2.1 rv W.1 w (_/hw),#[.int n,H,I.tok _,#[_,rfl],q]]
def a94(hu:X.A.units+100<cLine):mj X "list.index" (Ol X.K):=by
 intro pi s σ H x xs v us Q I rx r h;let#[a,ys,y,n,rfl,rfl,hq,W,oG,q]:=h;cases rx;cases r with
 |cons ry rr =>
 cases rr;let#[bc,rv,p,hz]:=I.list hq;let pt:=p.isList.typeIs;let#[#[cls,dd,data,sl],k,ho,hc,Jv,hd]:=id p;simp only at hc Jv hd;subst hc Jv hd;let#[hn,hit,nj]:=Me W rv;show cO F.slot_list_index pt F.entry_list_index (F.args_list_index_2 _ _) (SeqAt.list_indexAt a bc.toArray k none sl _ (vq y) n hn () hit nj) #[ho,λw hw=>Ga ry W.2.1 rv W.1 w (_/hw),#[.int n,H,I.tok _,#[_,rfl],q]]
abbrev zk(K:PySem.W.Frag)(H:Hp)(a:Addr)(xs:@&V):Prop :=
 H a=!.tup xs\/∃(o:Obj) (bc:Array Value) (n:Nat),K.lookup a=!o/\o.cls=.type "tuple"/\o.dict=none/\o.data=.seq bc n/\bc.size<=sizeLine/\Vals xs bc.toList
def zk.sq{K:PySem.W.Frag}{H:Hp}{a:Addr}(h:zk K H a xs):iB K H a xs:=by
 rcases h with h|⟨o,bc,n,h1,h2,_,h3,h4,h5⟩
 .exact .inl (.inl h)
 .exact .inr #[o,bc,n,h1,h2,h3,h4,h5]
def Inv.b76{pi:@&(Addr×Obj)}{σ:St}{H:Hp}{s:Shared}{a:Addr}(I:Inv X pi σ H s)(h:zk X.K H a xs):s.TypeIs (.ref a) "tuple"/\∀b,Value.ref a=.ref b->∃ob,s.heap.get? b=!ob/\ob.dict=none:=by
 rcases h with h|⟨o,bc,n,h1,h2,h3,_⟩
 .let#[_,bc,_,o,e,c,_,d]:=(show l0 X.prog X.w H s.heap a (.tup xs) from I.bI a _ h)
  show#[#[o,e,c],λb q=>by cases q;show#[o,e,d]]
 .exact#[#[o,I.gC a o h1,h2],λb q=>by cases q;show#[o,I.gC a o h1,h3]]
def bJ3(K:PySem.W.Frag)(to:TE)(t:TA):TE:=λσ H Q=>to σ H λx H1=>(∃a xs,x=.ref a/\gU K H1 a xs/\t σ H1 λys H2=>Ol K x ys H2 Q)\/(∃a xs,x=.ref a/\zk K H1 a xs/\t σ H1 λys H2=>Om K x ys H2 Q)
def Xz{o e:Expr}{es:@&Expr}{to:TE}{t:TA}{apos cB:Pos}(hu:X.A.units+100<cLine)(ho:PE X o to)(ha:PA X (e::es) t)(gT:attributeBase o "index" X.env (eval o X.env)=eval o X.env)(lY:((backTo cB (starEach (e :: es) X.env)).all (λx=>~~~x.1) && (backToKw cB (keywordEach [] X.env)).all (λx=>x.1.isSome)
   && decide ((e :: es).length + ([]:@&Keyword).length + (if ([]:@&Keyword).isEmpty then 0 else 1) < 30))=true)(gS:(apos.endLine==cB.line)=true)(hs:starEach (e::es) X.env=(false,eval e X.env)::starEach es X.env)(fM:(backTo cB (starEach es X.env)).any (·.1)=false) :
  PE X (.Call (.Attribute o "index" apos) (e::es) [] cB) (bJ3 X.K to t):=by
 intro pi s σ H Q I h;show wpAny_Call_method_late gT lY gS rfl (cS (ho pi s σ H _ I h) λv s1 bx=>?_);let#[x,H1,I1,r1,q1]:=bx;rcases q1 with⟨a,xs,rfl,hq,q1⟩|⟨a,xs,rfl,hq,q1⟩
 .cases r1;let#[bc,rv,pl,hz]:=I1.list hq;let pt:=pl.isList.typeIs;let#[ob,k,e1,_,e2,_]:=id pl;show#["list","list.index",F.plainAttrs_list,F.slot_list_index,F.type_list_index,pt,λb q=>by cases q;show#[ob,e1,e2],?_];let hA:=ha cB pi s1 σ H1 _ I1 q1;rw[hs] at hA ⊢;show gA (by show(false||(backTo cB (starEach es X.env)).any (·.1))=false;rw[fM]<;>rfl) (eE ?_);show cS hA (by rintro us s2 ⟨vs,H2,I2,r2,q2⟩;show a94 hu pi s2 σ H2 (.ref a) vs (.ref a) us Q I2 rfl r2 q2)
 .cases r1;let#[pt,hd]:=I1.b76 hq;show#["tuple","tuple.index",F.plainAttrs_tuple,F.slot_tuple_index,F.type_tuple_index,pt,hd,?_];let hA:=ha cB pi s1 σ H1 _ I1 q1;rw[hs] at hA ⊢;show gA (by show(false||(backTo cB (starEach es X.env)).any (·.1))=false;rw[fM]<;>rfl) (eE ?_);show cS hA (by rintro us s2 ⟨vs,H2,I2,r2,q2⟩;show a93 pi s2 σ H2 (.ref a) vs (.ref a) us Q I2 rfl r2 q2)
abbrev b01(K:PySem.W.Frag):V->V->Hp->VK->Prop:=λx y H Q=>(∃i j,x=.int i/\y=.int j/\Q (.int (i+j)) H) \/
 ∃a b xs ys,x=.ref a/\y=.ref b/\iB K H a xs/\iB K H b ys/\-xs+-ys<=sizeLine/\(xs=[]->Q (.ref b) H)/\(ys=[]->Q (.ref a) H)/\(∀p,H p=none->Q (.ref p) (upd H p (.tup (xs++ys))))
def bE7:EX X .Add (b01 X.K):=by
 rintro pi s σ H x y u v Q I rx ry h;rcases h with h|⟨a,b,xs,ys,rfl,rfl,ha,hb,hz,q0,q1,q2⟩
 .exact bU5 pi s σ H x y u v Q I rx ry h
 .cases rx;cases ry;let#[bc,r1,p1,_]:=I.tuple ha;let#[oy,r2,p2,_]:=I.tuple hb;show HT.WQ p1 p2 (λz=>#[.ref b,H,I,rfl,q0 (r1.U4.mp z)]) (λz=>#[.ref a,H,I,rfl,q1 (r2.U4.mp z)]) ?_ (by rw[<- -r1,<- -r2];show hz);show#[.ref s⁻¹,_,I.laid (t':=s.toks) (λb ob q=>ai _ q) (ak _) ?_,rfl,q2 _ (I.bI.fresh (ak _))];show#[by rw[aM];show hz,_,r1.append r2,K1.new _ _]
end
end L2
namespace ST
open PySem PyProof.Rows
variable{mask ep n:Nat}{h:Heap}{ks ms:@&Int}{es:Array (Int×Value)}{t:SetTable}{o:Obj}
def bF3{i p fuel:Nat}{owner:Array (Option Nat)}(h:owner.getD i (!0)=none):SetTable.layClean.free mask owner (fuel+1) i p=!i:=by
 unfold SetTable.layClean.free;let e:SetTable.runEnd mask i+1-i=(SetTable.runEnd mask i-i)+1:=by
  unfold SetTable.runEnd;split<;>omega
 rw[e,wt,ju];rw[Nat.add_zero,h]
 rfl
def Spot(k:Int):Prop:=0<=k/\k<8
structure Own(mask:Nat)(owner:Array (Option Nat))(pre:@&Int):Prop where
 sz:owner.size=mask+1
 fwd:∀(i:Nat) (k:Int),pre[i]?=!k->owner[k.toNat]?=!!i
 bwd:∀(j i:Nat),owner[j]?=!!i->pre[i]?=!(j:Int)
def NS{mask:Nat}(hm:7<=mask):∀(hs pre:@&Int) (owner:Array (Option Nat)),(pre++hs).Nodup->(∀k∈pre++hs,Spot k)->Own mask owner pre ->
  ∃ ko,Own mask ko (pre ++ hs)/\hs.foldl (λacc h=>do
   let (owner,k) <- acc
   let j <- SetTable.layClean.free mask owner (SetTable.turns mask) (SetTable.bits h % (mask+1)) (SetTable.bits h)
   pure (owner.setIfInBounds j (!k),k + 1)) (!(owner,(-pre)))=!(ko,(pre ++ hs).length)
 |[],pre,owner,_,_,o=>#[owner,by simpa using o,by simp]
 |h::hs,pre,owner,hn,hp,o=>by
  let#[h0,h8]:=hp h #[_];let eb:SetTable.bits h % (mask+1)=h.toNat:=by
   unfold SetTable.bits;rw[Int.emod_eq_of_lt h0 ()];show Nat.mod_eq_of_lt ()
  let fz:h.toNat<owner.size:=by rw[o.sz];omega
  let kR:owner[h.toNat]?=!none:=by
   rw[dJ fz];cases e:owner[h.toNat] with
   |none=>rfl
   |some i =>
    have:=o.bwd h.toNat i (by rw[dJ fz,e]);rw[kl h0] at this;let hm:=aY this;rw[eW] at hn;show absurd rfl (hn.2.2 h hm h #[_])
  let ef:SetTable.layClean.free mask owner (SetTable.turns mask) (SetTable.bits h % (mask+1)) (SetTable.bits h)=!h.toNat:=by
   rw[eb];show bF3 (by rw[pA,kR];rfl)
  let o':Own mask (owner.setIfInBounds h.toNat (!(-pre))) (pre++[h]):=by
   show#[by rw[Array.size_setIfInBounds];show o.sz,λi k hi=>?_,λj i hj=>?_]
   .rw[List.getElem?_append] at hi;split at hi
    .let hk:=o.fwd i k hi
     grind
    .have:i- -pre=0:=by
      cases e:i- -pre with
      |zero=>rfl
      |succ n=>rw[e] at hi;simp at hi
     rw[this] at hi;cases hi;have:i=-pre:=by omega
     subst this;rw[jI fz]
   .by_cases e:h.toNat=j
    .subst e;rw[jI fz] at hj;cases hj;rw[kl h0];simp
    .rw[mn e] at hj;have:=o.bwd j i hj;rw[aG (aA.mp this).1];show this
  let#[ko,o2,e2]:=NS hm hs (pre++[h]) _ (_/hn) (_/hp) o';show#[ko,by simpa using o2,?_]
  simp_all
def aZ5{finger moves:Nat}{led plain:Bool}{hashes:Array Int}(hm:7<=mask)(hn:hashes.toList.Nodup)(hs:∀k∈hashes.toList,Spot k) :
  ∃t o,SetTable.laid mask finger moves led plain hashes=!(t,o)/\o.toList.Perm (List.range hashes.size)/\t.mask=mask/\t.place.size=hashes.size:=by
 let o0:Own mask (Array.replicate (mask + 1) none) []:=#[by simp,λi k h=>by simp at h,λj i h=>by
  rw[Array.getElem?_replicate] at h
  simp_all]
 let#[owner,o,e]:=NS hm hashes.toList [] _ (_/hn) (_/hs) o0;let el:SetTable.layClean mask hashes=!owner:=by
  unfold SetTable.layClean;rw[<- Array.foldl_toList];have:=e;simp only[List.length_nil] at this;rw[this]
  rfl
 let hP:((List.range (mask+1)).filterMap λj=>owner.getD j none).Perm (List.range hashes.size):=by
  let gd:∀j i,owner.getD j none=some i↔owner[j]?=!!i:=λj i=>by
   rw[pA];cases owner[j]? with
   |none=>simp
   |some x=>simp
  show(dD ?_ List.nodup_range).mpr λi=>?_
  .unfold List.Nodup;rw[List.pairwise_filterMap];show List.Pairwise.imp ?_ jh;intro a b Al x hx y hy z;subst z;let h1:=o.bwd a x ((gd _ _).mp hx);let h2:=o.bwd b x ((gd _ _).mp hy);rw[h1] at h2
   grind
  .rw[eK,gZ];constructor
   .rintro⟨j,_,hj⟩;have:=(aA.mp (o.bwd j i ((gd _ _).mp hj))).1;simpa using this
   .intro hi;let lX:i< -hashes.toList:=by simpa using hi
    let hg:=av lX;let hk:=hs _ (dB lX);show#[(hashes.toList[i]).toNat,gZ.mpr ?_,(gd _ _).mpr (o.fwd i _ hg)];have:=hk.2;omega
 show#[{ mask,place:=((List.filterMap (λj=>(owner.getD j none).map (j,·)) (List.range (mask+1))).map (·.1)).toArray,dummies:=(List.toArray []),finger,led,moves,plain },((List.filterMap (λj=>(owner.getD j none).map (j,·)) (List.range (mask+1))).map (·.2)).toArray,?_,?_,rfl,?_]
 .unfold SetTable.laid;rw[el]
  rfl
 .rw[Ik,QI];have:(λj=>Option.map (λx:Nat×Nat=>x.2) (Option.map (λx=>(j,x)) (owner.getD j none)))=λj=>owner.getD j none:=by
   funext j
   cases owner.getD j none<;>rfl
  rw[this];show hP
 .rw[aR,ah];have:=hP.length_eq;rw[lK] at this;rw[<- this];let e3:(List.range (mask+1)).filterMap (λj=>owner.getD j none)=(List.filterMap (λj=>(owner.getD j none).map (j,·)) (List.range (mask+1))).map (·.2):=by
   rw[QI]
   congr 1
   funext j
   cases owner.getD j none<;>rfl
  rw[e3,ah]
section
variable{prog:Program}{w:World}{A:Around}{E:Value->Shared->Prop}{s:Shared}{a:Addr}
abbrev qW(prog:Program)(w:World)(h:Heap)(a:Addr)(ks:@&Int):Prop :=
 ∃o es ep t,h.get? a=!o/\o.ExactSet/\o.data=.set es ep t/\ElemsOf (intKind prog w) es.toList/\(es.toList.map λe=>toI e.2).Perm ks/\ks.Nodup/\es.size<scanBound/\t.fits es.size=true/\Well (Led w) t/\(ks=[]->7<=t.mask)
def qW.toW(x:qW prog w h a ks):l9 prog w h a ks:=by
 let#[o,es,ep,t,h1,h2,h3,h4,h5,h6,h7,h8,h9,_]:=x;show#[o,es,ep,t,h1,h2,h3,h4,h5,h6,h7,h8,h9]
def l9.toV(x:l9 prog w h a ks)(hn:ks≠[]):qW prog w h a ks:=by
 let#[o,es,ep,t,h1,h2,h3,h4,h5,h6,h7,h8,h9]:=x;show#[o,es,ep,t,h1,h2,h3,h4,h5,h6,h7,h8,h9,λz=>absurd z hn]
def l9.same{us:@&Int}(x:l9 prog w h a ks)(hp:ks.Perm us):l9 prog w h a us:=by
 let#[o,es,ep,t,h1,h2,h3,h4,h5,h6,h7]:=x;show#[o,es,ep,t,h1,h2,h3,h4,h5.trans hp,hp.nodup_iff.mp h6,h7]
def YU{k:Int}(h:Spot k):(intKind prog w).hash k=k:=by
 let#[h0,h8]:=h;change hashInt k=k;have:k=0\/k=1\/k=2\/k=3\/k=4\/k=5\/k=6\/k=7:=by omega
 rcases this with rfl|rfl|rfl|rfl|rfl|rfl|rfl|rfl<;>decide +kernel
def aK5(jm:ElemsOf (intKind prog w) es.toList)(hp:(es.toList.map λe=>toI e.2).Perm ks)(hs:∀k∈ks,Spot k):(es.map (·.1)).toList=es.toList.map λe=>toI e.2:=by
 rw[Array.toList_map];show gN λe he=>?_;let#[tk,h1,h2]:=ze jm he;rw[h2];show YU (hs _ (hp.mem_iff.mp (aI.mpr #[e,he,rfl])))
def NR{finger moves:Nat}{led plain:Bool}(hm:7<=mask)(iK:es.size<=mask)(hl:led=Led w)(jm:ElemsOf (intKind prog w) es.toList)(hp:(es.toList.map λe=>toI e.2).Perm ks)(hn:ks.Nodup)(hs:∀k∈ks,Spot k) :
  ∃t o,SetTable.laid mask finger moves led plain (es.map (·.1))=!(t,o)/\(o.filterMap (es[·]?)).toList.Perm es.toList/\(o.filterMap (es[·]?)).size=es.size/\t.mask=mask/\t.fits es.size=true/\Well (Led w) t:=by
 let eh:=aK5 jm hp hs;let#[t,o,e,hP,h1,h2]:=aZ5 hm (by rw[eh];show hp.nodup_iff.mpr hn) (by rw[eh];show λk hk=>hs k (hp.mem_iff.mp hk));rw[Array.size_map] at hP h2;let e2:(o.filterMap (es[·]?)).toList.Perm es.toList:=by
  rw[Array.toList_filterMap];show(hP.filterMap _).trans ?_;have:(List.range es.size).filterMap (es[·]?)=es.toList:=by
   let gen:∀(l:@&(Int×Value)),(List.range (-l)).filterMap (λi=>l[i]?)=l:=λl=>by
    induction l with
    |nil=>rfl
    |cons x r ih =>
     rw[aP,wt,dY];simp only[List.getElem?_cons_zero,List.filterMap_map]
     congr 1
   have:=gen es.toList
   simp_all
  rw[this]
 let hw:=Mo hl e;show#[t,o,e,e2,by rw[<- bH,e2.length_eq,bH],h1,?_,hw];unfold SetTable.fits SetTable.fill;rw[hw.tY,h2,h1];simp;show iK
def Kw{o:Array Nat}(iK:(o.filterMap (es[·]?)).size=es.size){Q:Array (Int×Value)×SetTable->Shared->Prop}(h:Q (o.filterMap (es[·]?),t) s):wpAny (model prog w) A (do
  let some (t,order):=(some (t,o):Option (SetTable×Array Nat))|unsupported "internal:set-table-without-room"
  let nC:=order.filterMap (es[·]?)
  if nC.size != es.size then unsupported "internal:set-table-lost-an-element"
  pure (nC,t)) Q E s:=by
 dsimp only;rw[aq (by rw[iK];simp)];show aj h
def Bm{nC:Array (Int×Value)}{t':SetTable}(ho:h.get? a=!o)(hd:o.data=.set es ep t):(h.update a (Obj.putSet nC t')).get? a=some { o with data:=.set nC (ep+1) t' }:=by
 have:=aT (Obj.putSet nC t') ho (by rw[putSet_of nC t' hd];rfl);rw[putSet_of nC t' hd] at this;show this
def above:∀n,n<300->7<SetTable.sizeAbove n/\n<SetTable.sizeAbove n/\SetTable.sizeAbove n<=sizeLine:=by decide +kernel
def bA3{Q:Unit->Shared->Prop}(hS:l9 prog w s.heap a ks)(hs:∀k∈ks,Spot k)(hn:n<300)(hkn:-ks<=n)(h:∀h',Heap.SameBut a s.heap h'->(∃o es ep t,h'.get? a=!o/\o.ExactSet/\o.data=.set es ep t/\ElemsOf (intKind prog w) es.toList/\(es.toList.map λe=>toI e.2).Perm ks/\ks.Nodup/\es.size<scanBound/\t.fits es.size=true/\Well (Led w) t/\t.mask=SetTable.sizeAbove n-1)->Q Unit.unit { s with heap:=h' }):wpAny (model prog w) A (setRelay a n) Q E s:=by
 let#[o,es,ep,t,ho,hx,hd,jm,hp,pG,hb,hf,hw]:=hS;let#[a1,a2,a3]:=above n hn;let iK:es.size=-ks:=by rw[<- hp.length_eq];simp
 show aa (bf ho hd hf ?_);dsimp only;rw[aq ()];let#[t2,od,e1,e2,e3,e4,e5,e6]:=NR (mask:=SetTable.sizeAbove n-1) () () hw.led jm hp pG hs;unfold SetTable.relaid;rw[e1];show aa (Kw e3 ?_);dsimp only;show fB ho hd (h _ (aZ s.heap a _) #[_,_,_,_,Bm ho hd,hx,rfl,jm.perm e2,(e2.map _).trans hp,pG,by omega,by rw[e3];show e5,e6,e4]) (fC ())
def bN7{Q:Unit->Shared->Prop}(hS:qW prog w s.heap a ks)(hs:∀k∈ks,Spot k)(hn:-ks+n<100)(h:∀h',Heap.SameBut a s.heap h'->(∃o es ep t,h'.get? a=!o/\o.ExactSet/\o.data=.set es ep t/\ElemsOf (intKind prog w) es.toList/\(es.toList.map λe=>toI e.2).Perm ks/\ks.Nodup/\es.size<scanBound/\t.fits es.size=true/\Well (Led w) t/\(ks=[]->7<=t.mask)/\(ks=[]->n<=t.mask))->Q Unit.unit { s with heap:=h' }):wpAny (model prog w) A (setRoomFor a n) Q E s:=by
 let#[o,es,ep,t,ho,hx,hd,jm,hp,pG,hb,hf,hw,hm]:=id hS;let iK:es.size=-ks:=by rw[<- hp.length_eq];simp
 let gI:t.place.size=es.size:=by
  simp only[SetTable.fits,Bool.and_eq_true,beq_iff_eq] at hf;show hf.1
 show aa (bf ho hd hf ?_);by_cases c:(t.fill+n)*5>=t.mask*3
 .let e:t.roomFor n=!((t.place.size+n)*2):=by unfold SetTable.roomFor;rw[au c]
  rw[e];show bA3 hS.toW hs () () λh' hk pM=>h h' hk ?_;let#[o,es,ep,t',ho,hx,hd,jm,hp,pG,hb,hf,hw,hm]:=pM;let#[a1,a2,a3]:=above ((t.place.size+n)*2) ();show#[o,es,ep,t',ho,hx,hd,jm,hp,pG,hb,hf,hw,λx=>by omega,λx=>by omega]
 .let e:t.roomFor n=none:=by unfold SetTable.roomFor;rw[aq c]
  rw[e];show aj (h s.heap (jy a s.heap) #[o,es,ep,t,ho,hx,hd,jm,hp,pG,hb,hf,hw,hm,λx=>by omega])
def bH4{Q:Array (Int×Value)->Shared->Prop}(ho:s.heap.get? a=!o)(hd:o.data=.set es ep t)(hf:t.fits es.size=true)(hw:Well (Led w) t)(h:∀l d',l.toList.Perm es.toList->Q l { s with drawn:=d' }):wpAny (model prog w) A (setWalk a) Q E s:=by
 show aa (bf ho hd hf ?_);show aa (W5 ?_);cases hb:w.params.followText "set-order" with
 |true =>
  show aa (sC (aj (h _ s.drawn (Bt _ es))))
 |false =>
  rw[aq ∅];let hl:t.led=true:=by rw[hw.led];unfold Led;rw[hb];rfl
  split
  .refine aa (GC _ _ _ _ #[_] λys d hp=>aj (h _ d (_/hp)))
  .refine aa (m:=(do if(~~~t.led&&decide (es.size>1))=true then unsupported "set:maker-not-led")) ?_;rw[hl];show aj (aj (h es s.drawn (jQ _)))
def bA6{l:@&Addr}{Q:Bool->Shared->Prop}(hl:∀a∈l,∃o es ep t,s.heap.get? a=!o/\o.data=.set es ep t/\t.fits es.size=true/\ElemsOf (intKind prog w) es.toList)(h:Q true s):wpAny (model prog w) A (setsQuiet l) Q E s:=by
 show aa (wpAny_forIn_list _ (λrest b s'=>b=(none,PUnit.unit)/\s'=s/\∀a∈rest,a∈l) _ (λx rest b s' p=>?_) (λb s' p=>?_) _ _ #[rfl,rfl,λv z=>z])
 .let#[rfl,rfl,hm]:=p;let#[o,es,ep,t,ho,hd,hf,jm]:=hl x (hm x #[_]);show aa (aa (bf ho hd hf (aj ?_)));show aa (wpAny_forIn_array' _ (λrest b s2=>b=(none,PUnit.unit)/\s2=s'/\∀e∈rest,e∈es.toList) _ (λy IF b s2 p=>?_) (λb s2 p=>?_) _ _ #[rfl,rfl,λv z=>z])
  .let#[rfl,rfl,qr]:=p;let#[tk,e1,_]:=ze jm (qr y #[_]);dsimp only;rw[e1];show aj #[rfl,rfl,λe z=>qr e (by simp[z])]
  .let#[rfl,rfl,_]:=p;show aj #[rfl,rfl,λe z=>hm e (by simp[z])]
 .let#[rfl,rfl,_]:=p;show aj h
def Wr{r:Addr}{ms:@&Int}{Q:Array (Int×Value)->Shared->Prop}(ho:s.heap.get? a=!o)(hd:o.data=.set es ep t)(hf:t.fits es.size=true)(hw:Well (Led w) t)(jm:ElemsOf (intKind prog w) es.toList)(hR:l9 prog w s.heap r ks)(h:∀l h' d',l.toList.Perm es.toList->Heap.SameBut r s.heap h'->l9 prog w h' r ks->Q l { s with heap:=h',drawn:=d' }):wpAny (model prog w) A (setWalkUnseen a [r] (!r)) Q E s:=by
 let#[o',nC,Ax,t',lW,Dn,pI,xJ,mB,tK,kx,xH,xj]:=id hR;let wk:wpAny (model prog w) A (setWalk a) Q E s:=bH4 ho hd hf hw λl d' hp=>h l s.heap d' hp (jy r s.heap) hR;show aa (bf ho hd hf ?_);show aa (W5 ?_);split
 .exact wk
 .refine aa (bA6 (λb hb=>?_) ?_)
  .simp only[List.mem_cons,List.mem_nil_iff,or_false] at hb;rcases hb with rfl|rfl
   .exact#[_,_,_,_,ho,hd,hf,jm]
   .exact#[_,_,_,_,lW,pI,xH,xJ]
  .refine aa (fH ?_);show aa (bf lW pI xH ?_);dsimp only;split
   .refine aa (fB lW pI ?_ (fC kx));show aj (h es _ s.drawn (jQ _) (aZ s.heap r _) #[_,_,_,_,Bm lW pI,Dn,rfl,xJ,mB,tK,kx,xH,#[xj.uO,xj.tY,?_]]);show(t'.led&&t.led)=_;rw[xj.led,hw.led,Bool.and_self]
   .exact aj (h es s.heap s.drawn (jQ _) (jy r s.heap) hR)
def Po(hp:(es.toList.map λe=>toI e.2).Perm ks):es.size=-ks:=by rw[<- hp.length_eq];simp
def a03(hf:t.fits n=true):t.place.size=n:=by
 simp only[SetTable.fits,Bool.and_eq_true,beq_iff_eq] at hf;show hf.1
def NW{r o:Addr}{each:Sem Unit}{Q:Unit->Shared->Prop}(hR:qW prog w s.heap r ks)(hO:l9 prog w s.heap o ms)(eX:r≠o)(vd:∀k∈ks,Spot k)(mD:∀k∈ms,Spot k)(hl:-ks+-ms<100)(Td:∀(s':Shared) (Q':Unit->Shared->Prop),s'.heap.get? o=s.heap.get? o->Q' Unit.unit s'->wpAny (model prog w) A each Q' E s')(h:∀h' d' us,(∀b o',b≠r->s.heap.get? b=!o'->h'.get? b=!o')->qW prog w h' r us->us.Nodup->(∀k,k∈us↔k∈ks\/k∈ms)->Q Unit.unit { s with heap:=h',drawn:=d' }):wpAny (model prog w) A (setMerge r o each) Q E s:=by
 let#[oo,eo,epo,to,Ac,hox,rL,oC,tI,uX,Je,Ad,how]:=id hO;let iK:=Po tI;let pG:=let ⟨_,_,_,_,_,_,_,_,_,z,_⟩:=hR;z
 unfold setMerge;rw[aq (_/eX)];show aa (bf Ac rL Ad ?_);dsimp only;by_cases he:eo.size=0
 .rw[au (by simpa[Array.isEmpty] using he)];let Ji:ms=[]:=gz ();show aj (h s.heap s.drawn ks (λb o' y e=>e) hR pG λk=>by rw[Ji];simp)
 rw[aq (by simpa[Array.isEmpty] using he)];let xw:ms≠[]:=λz=>he (by rw[iK,z];rfl);show aa (bN7 hR vd () λh1 vf Tw=>?_);let#[or',es,ep,ts,uW,hx,hd,jm,hp,_,hb,hf,hw,SI,DE]:=id Tw;let SO:h1.get? o=!oo:=by rw[<- Ac];show vf.2 o (cT eX)
 let DL:∀b o',b≠r->s.heap.get? b=!o'->h1.get? b=!o':=λb o' hb e=>by rw[<- e];show vf.2 b hb
 show aa (bf uW hd hf ?_);let Jp:ts.fill=-ks:=by
  unfold SetTable.fill;rw[hw.tY,a03 hf,Po hp]
  rfl
 let xA:(ts.led&&to.led)=Led w:=by rw[hw.led,how.led,Bool.and_self]
 by_cases Jl:ks=[]
 .subst Jl;let xp:ts.road to=.slotForSlot\/ts.road to=.clean:=by
   unfold SetTable.road;rw[aq (by simp_all)];split
   .exact .inl rfl
   .exact .inr rfl
  rcases xp with hr|hr
  .rw[hr];show fB uW hd (h _ s.drawn ms (λb o' hb e=>?_) #[_,_,_,_,Bm uW hd,hx,rfl,oC,tI,uX,Je,Ad,#[how.uO,how.tY,xA],λz=>absurd z xw] uX λk=>by simp) (fC Je);rw[<- DL b o' hb e];show(aZ h1 r _).2 b hb
  .rw[hr];let#[t2,od,e1,e2,e3,e4,e5,e6]:=NR (SI rfl) (DE rfl) xA oC tI uX mD;rw[e1];show aa (Kw e3 ?_);dsimp only;show fB uW hd (h _ s.drawn ms (λb o' hb e=>?_) #[_,_,_,_,Bm uW hd,hx,rfl,oC.perm e2,(e2.map _).trans tI,uX,by omega,by rw[e3];show e5,e6,λz=>absurd z xw] uX λk=>by simp) (fC ());rw[<- DL b o' hb e];show(aZ h1 r _).2 b hb
 .let hr:ts.road to=.oneByOne:=by
   unfold SetTable.road
   simp_all
  rw[hr];let Tt:l9 prog w h1 r ks:=#[or',es,ep,ts,uW,hx,hd,jm,hp,pG,hb,hf,hw]
  show aa (Wr (ms:=ms) SO rL Ad how oC Tt λl h2 d2 DG DM Tv=>?_);show aa (wpAny_forIn_array' _ (λrest b s'=>∃us h',s'={ s with heap:=h',drawn:=d2 }/\us.Nodup/\us≠[]/\-us+-rest<1000/\l9 prog w h' r us/\(∀b o',b≠r->s.heap.get? b=!o'->h'.get? b=!o')/\(∀k,(k∈us\/k∈rest.map λe=>toI e.2)↔(k∈ks\/k∈ms))/\∀e∈rest,e∈eo.toList) _ (λx rest b s' p=>?_) (λb s' p=>?_) _ _ #[ks,h2,rfl,pG,Jl,?_,Tv,λb o' hb e=>?_,λk=>?_,λe he=>DG.mem_iff.mp he])
  .let#[us,h',rfl,Dr,tB,zZ,Ed,mE,oH,ni]:=p;let#[x1,x2]:=x;let#[tk,e1,e2]:=ze oC (ni (x1,x2) #[_]);generalize toI x2=k at e1 e2;subst e1;subst e2;show aa (bj (JV Ed (by simp at zZ;show dP () (show 1000<scanBound by decide)) λh3 b3 Jk Ao=>?_));let Jf:h3.get? o=!oo:=by
    rw[Jk.2 o (cT eX)];show mE o oo (cT eX) Ac
   show aa (Td _ _ (by rw[Ac];show Jf) ?_);show aa (bf Jf rL Ad ?_);rw[aq #[_]];show aj #[F5 us k,h3,rfl,?_,?_,?_,Ao,λb o' hb e=>?_,λj=>?_,λe he=>ni e (by simp[he])]
   .exact X3 [k] us Dr
   .unfold F5;split
    .exact tB
    .simp
   .have:=OE us k
    grind
   .rw[Jk.2 b hb];show mE b o' hb e
   .rw[<- oH j];have:=F7 [k] us j;simp only[l5,List.foldl_cons,List.foldl_nil] at this;rw[this];simp[toI,or_assoc]
  .let#[us,h',rfl,Dr,tB,zZ,Ed,mE,oH,ni]:=p;show aj (h h' d2 us mE (Ed.toV tB) Dr λk=>by rw[<- oH k];simp)
  .let e1:=DG.length_eq
   grind
  .rw[DM.2 b hb];show DL b o' hb e
  .rw[(DG.map _).mem_iff,tI.mem_iff]
def Ww(hT:s.TypeIs (.ref a) "set"){Q:Value->Shared->Prop}(h:Q (.type "set") s):wpAny (model prog w) A (Builtin.Frozenset.baseOf a) Q E s:=by
 show aa (eP (b:=true) hT (by rfl) ?_);show aj h
def Fz(hT:s.TypeIs (.ref a) "set"){Q:Bool->Shared->Prop}(h:Q true s):wpAny (model prog w) A (Builtin.Frozenset.isAnySet (.ref a)) Q E s:=by
 show aa (eP (b:=true) hT (by rfl) ?_);show aj h
def Hz(x:l9 prog w h a ks):∃o,h.get? a=!o/\o.cls=.type "set":=by
 let#[o,_,_,_,e,hx,_]:=x;show#[o,e,hx.1]
def a06:entryFor table "set.__or__"=some Builtin.«frozenset.__or__»:=Cp (id':="frozenset.__or__") (by kernel_rfl) rfl #[] (by kernel_rfl)
def ZT{Q:Value->Shared->Prop}(hA:l9 prog w s.heap a ks)(vd:∀k∈ks,Spot k)(hl:-ks<100)(h:∀h' d' us,(∀c o',s.heap.get? c=!o'->h'.get? c=!o')->qW prog w h' s⁻¹ us->us.Nodup->(∀k,k∈us↔k∈ks)->Q (.ref s⁻¹) { s with heap:=h',drawn:=d' }):wpAny (model prog w) A (Builtin.Frozenset.copyOf a) Q E s:=by
 let#[oa,ea,ca]:=Hz hA;let la:=ao ea;unfold Builtin.Frozenset.copyOf;show aa (Ww #[oa,ea,ca] ?_);show aa (NZ ?_);show aa (aj ?_);let hE:(s.heap.push (A4 w)).get? s⁻¹=!A4 w:=ay _ rfl;let#[o,es,ep,t,h1,h2,h3,h4,h5,h6,h7,h8,h9]:=Mg (prog:=prog) hE;let hV:qW prog w (s.heap.push (A4 w)) s⁻¹ []:=#[_,(List.toArray []),0,.fresh 0 0 (Led w),hE,#[rfl,rfl,rfl],rfl,by simp[ElemsOf],by simp,by simp,by decide,rfl,MO,λx=>ak 7]
 show aa (NW hV (hA.at λo e=>ai _ e) (bR la) (λk hk=>by simp at hk) vd (_/hl) (λs' Q' x q=>aj q) λh' d' us hk hS hn hm=>?_);show aj (h h' d' us (λc o' e=>hk c o' (aN (ao e)) (ai _ e)) hS hn λk=>by rw[hm k];simp)
def Vu{b:Addr}{Q:Value->Shared->Prop}(hA:l9 prog w s.heap a ks)(hB:l9 prog w s.heap b ms)(Al:a≠b)(vd:∀k∈ks,Spot k)(mD:∀k∈ms,Spot k)(hl:-ks+-ms<90)(h:∀h' d' us,(∀c o',s.heap.get? c=!o'->h'.get? c=!o')->l9 prog w h' s⁻¹ us->us.Nodup->(∀k,k∈us↔k∈ks\/k∈ms)->Q (.ref s⁻¹) { s with heap:=h',drawn:=d' }):wpAny (model prog w) A (binaryOp .BitOr (.ref a) (.ref b)) Q E s:=by
 let#[oa,ea,ca]:=Hz hA;let#[ob,eb,cb]:=Hz hB;let Eh:s.TypeIs (.ref a) "set":=#[oa,ea,ca]
 let Jy:s.TypeIs (.ref b) "set":=#[ob,eb,cb]
 let lb:=ao eb;show wpAny_binaryOp_same Eh Jy F.fills_set_or F.slot_set_or (bP F.slot_set_or Eh a06 ?_ (F.args_set_or_2 _ _));show aa (eA rfl ?_);show aa (aa (Fz Eh ?_));show Fz Jy ?_;show aa (aj ?_);let hU:∀(us:@&Int) (h':Heap),qW prog w h' s⁻¹ us->(∀k∈us,Spot k)->us.Nodup->-us<=8:=λus h' x hs hn=>by
  have:us.Sublist us:=List.Sublist.refl _;let hp:us.Perm ((List.range 8).map (λ(n:Nat)=>(n:Int)) |>.filter (·∈us)):=by
   show(dD hn ?_).mpr λk=>?_
   .exact QK kj ∅
   .rw[cI];constructor
    .intro hk;show#[?_,by simpa using hk];let#[h0,h8]:=hs k hk;rw[aI];show#[k.toNat,gZ.mpr (),by omega]
    .rintro⟨_,hk⟩;simpa using hk
  rw[hp.length_eq];show aL (gm _ _) ∅
 show aa (aa (ZT hA vd () λh1 d1 us vf Ap SG Jh=>?_));let Ja:∀k∈us,Spot k:=λk hk=>vd k ((Jh k).mp hk);let zZ:=hU us h1 Ap Ja SG;dsimp only;rw[au (by simp[Ne.symm Al])];let Eg:Shared.TypeIs { s with heap:=h1,drawn:=d1 } (.ref b) "set":=#[ob,vf b ob eb,cb]
 show aa (aj ?_);show aa (bj ?_);unfold Builtin.Frozenset.updateFrom;show aa (Fz Eg ?_);rw[au rfl];show aa (aj ?_);unfold Builtin.Frozenset.merge;let JE:=hB.at (vf b);let#[o,es,ep,t,ho,hx,hd,jm,hp,hn,hb,hf,hw]:=id JE;let Jr:∀(s':Shared) (Q':Nat->Shared->Prop),s'.heap.get? b=!o->Q' ep s'->wpAny (model prog w) A.in1 (setEpoch b) Q' E s':=λs' Q' e q=>by
  unfold setEpoch;show aa (bf e hd hf (aj q))
 show aa (Jr _ _ ho ?_);show NW Ap JE (bR lb) Ja mD () (λs' Q' e q=>?_) λh2 d2 vs DM tS oG qr=>?_
 .unfold Builtin.Frozenset.unchanged;show aa (Jr _ _ (e.trans ho) ?_);rw[aq #[_]];show aj q
 .refine aj (aj #[_,rfl,by simp,?_]);show h h2 d2 vs (λc o' e=>DM c o' (aN (ao e)) (vf c o' e)) tS.toW oG λk=>by rw[qr k,Jh k]
end
end ST
namespace L2
open PySem PySem.Spec PyProof.Rows
variable{X:Cx}
def a84:gs X (binaryOp .BitOr) (λx y H Q=>∃a b ns ms,x=.ref a/\y=.ref b/\a≠b/\H a=!sk X a (ST.l5 [] ns)/\H b=!sk X b (ST.l5 [] ms)/\(∀k∈ns,ST.Spot k)/\(∀k∈ms,ST.Spot k)/\-ns+-ms<50 /\
  ∀ p,H p=none->Q (.ref p) (upd H p (sk X p (ST.l5 [] (ns ++ ms))))):=by
 intro pi s σ H x y v u Q I rx ry h;let#[a,b,ns,ms,rfl,rfl,Al,ha,hb,rO,mD,hl,q]:=h;cases rx;cases ry;let hA:=(I.bI a _ ha).1;let hB:=(I.bI b _ hb).1;let l1:=ST.I9 ns [];let l2:=ST.I9 ms [];let m1:=ST.F7 ns [];let m2:=ST.F7 ms [];show ST.Vu hA hB Al (λk hk=>rO k (by simpa using(m1 k).mp hk)) (λk hk=>mD k (by simpa using(m2 k).mp hk)) (by simp at l1 l2;omega) λh' d' us hk hS hn hm=>?_;let pM:ST.l9 X.prog X.w h' s⁻¹ (ST.l5 [] (ns ++ ms)):=hS.same ((dD hn (ST.X3 _ _ #[_])).mpr λk=>by
  rw[hm k,m1 k,m2 k,ST.F7];simp)
 show#[.ref _,_,(I.laid (t':=s.toks) hk (ak _) (Ov pM)).draw d',rfl,q _ (I.bI.fresh (ak _))]
end L2
namespace ST
open PySem PyProof.Rows
end ST
namespace L2
open PySem PySem.Spec PyProof.Rows
variable{X:Cx}
def YH(hc:X.calm=true):m5 X (.builtin "any") (λxs H Q=>∃(a:Addr) (bs:@&Bool),xs=[.ref a]/\gU X.K H a (bs.map V.bl)/\Q (.bl (bs.any id)) H):=by
 intro pi s σ H xs us Q I r h;let#[a,bs,rfl,ha,q]:=h;let#[u,rfl,ru]:=vals1 r;cases ru;let#[bc,rv,p,hz]:=I.list ha;show call_any_walk ?_;show dZ p.isList ?_;let eX:a≠s⁻¹:=by
  let#[o,e,_]:=id p.isList;show aN (ao e)
 let hl:=-rv;rw[ah] at hl;show#[s⁻¹,_,_,_,_,_,λi=>bs.getD i false,rfl,nU (A:=X.A.in1) (I.ok.hd hc) _ a eX bc.toArray,#[#[_,ay _ rfl,rfl,rfl],?_],?_,λh' tk k=>?_]
 .let#[o,e,q1]:=id p.isList;show#[o,ai _ e,q1]
 .intro i v s' Q' E' hP hQ;let hv:bc[i]?=!v:=by simpa using hP
  let hi:i< -bs:=by rw[hl];show(aA.mp hv).1
  let#[u',rK,wQ]:=rv.get (by rw[aJ,av hi];rfl);rw[hv] at rK;cases rK;cases (show v=Value.bool bs[i] from wQ);show cw ?_;have:bs.getD i false=bs[i]:=by simp[List.getD,hi]
  dsimp only at hQ;rw[this] at hQ;show hQ
 .let e1:(List.range bc.toArray.size).any (λi=>bs.getD i false)=bs.any id:=by
   rw[aR,<- hl];rw[cv];simp only[List.any_eq_true,List.mem_range,id];constructor
   .rintro⟨i,hi,hh⟩;show#[bs[i],dB hi,by simpa[List.getD,hi] using hh]
   .rintro⟨x,hx,hh⟩;let#[i,hi,rfl]:=dR.mp hx;show#[i,hi,by simpa[List.getD,hi] using hh]
  rw[e1];show #[.bl (bs.any id),H,I.kept (t':=tk) λb o e=>k b o (by
   intro hb;have:b=s⁻¹:=by simpa using hb
   show absurd (ao e) (by rw [this];show bQ _)) (ai _ e),rfl,q]
def aO6{bc:@&Value}{ns:@&Int}(hi:IntsAre bc ns):∃xs,bc.toArray=intItems xs/\ns=xs.toList.map (·.1):=by
 let#[xs,e]:=hi.allInts.items;show#[xs,e,by rw[<- hi.numsOf,<- nums_intItems,<- e]]
def YJ(hc:X.calm=true):m5 X (.builtin "max") (λxs H Q=>∃a,∃(ns:@&Int) (M:Int),xs=[.ref a]/\gU X.K H a (ns.map V.int)/\M∈ns/\(∀x∈ns,x<=M)/\Q (.int M) H):=by
 intro pi s σ H xs us Q I r h;let#[a,ns,M,rfl,ha,hm,hM,q]:=h;let#[u,rfl,ru]:=vals1 r;cases ru;let#[bc,rv,p,hz]:=I.list ha;let#[xs,e,en]:=aO6 (GD rv);let iK:0<xs.size:=by
  have:=wu hm
  simp_all
 show max_intList (xs:=xs) (I.ok.hd hc) (by rw[<- e];show p.isList) iK λv h' tk hv k=>?_;let#[t,rfl]:=intItems_at hv;let#[h1,h2]:=argBest_gt (numAt xs) (xs.size-1);generalize argBest (λi j=>decide (numAt xs i>numAt xs j)) (xs.size-1)=j0 at *;let m1:numAt xs j0∈ns:=by rw[en,numAt_eq];show getD_mem (by rw[ah,bH];omega)
 let m2:M<=numAt xs j0:=by
  rw[en] at hm;let#[j,hj,rfl]:=mem_getD hm;rw[ah,bH] at hj;rw[<- numAt_eq];show h2 j ()
 let e2:numAt xs j0=M:=Int.le_antisymm (hM _ m1) m2;show#[.int M,H,I.kept k,#[t,by rw[e2]],q]
def YG(hc:X.calm=true):m5 X (.builtin "all") (λxs H Q=>∃(a:Addr) (ns:@&Int),xs=[.ref a]/\gU X.K H a (ns.map V.int)/\Q (.bl (ns.all λn=>n != 0)) H):=by
 intro pi s σ H xs us Q I r h;let#[a,ns,rfl,ha,q]:=h;let#[u,rfl,ru]:=vals1 r;cases ru;let#[bc,rv,p,hz]:=I.list ha;show call_all_walk ?_;show dZ p.isList ?_;let eX:a≠s⁻¹:=by
  let#[o,e,_]:=id p.isList;show aN (ao e)
 let hl:=-rv;rw[ah] at hl;show#[s⁻¹,_,_,_,_,_,λi=>ns.getD i 1 != 0,rfl,nU (A:=X.A.in1) (I.ok.hd hc) _ a eX bc.toArray,#[#[_,ay _ rfl,rfl,rfl],?_],?_,λh' tk k=>?_]
 .let#[o,e,q1]:=id p.isList;show#[o,ai _ e,q1]
 .intro i v s' Q' E' hP hQ;let hv:bc[i]?=!v:=by simpa using hP
  let hi:i< -ns:=by rw[hl];show(aA.mp hv).1
  let#[u',rK,wQ]:=rv.get (i:=i) (x:=V.int ns[i]) (by rw[aJ,av hi];rfl);rw[hv] at rK;cases rK;let#[t,rfl]:=wQ;show truthy_int ?_;have:ns.getD i 1=ns[i]:=by simp[List.getD,hi]
  dsimp only at hQ;rw[this] at hQ;show hQ
 .let e1:(List.range bc.toArray.size).all (λi=>ns.getD i 1 != 0)=ns.all λn=>n != 0:=by
   rw[aR,<- hl];rw[cv];simp only[List.all_eq_true,List.mem_range];constructor
   .intro hh x hx;let#[i,hi,rfl]:=dR.mp hx;have:=hh i hi;simpa[List.getD,hi] using this
   .intro hh i hi;have:=hh ns[i] (dB hi);simpa[List.getD,hi] using this
  rw[e1];show #[.bl _,H,I.kept (t':=tk) λb o e=>k b o (by
   intro hb;have:b=s⁻¹:=by simpa using hb
   show absurd (ao e) (by rw [this];show bQ _)) (ai _ e),rfl,q]
def a87:gs X (compareOp .In) (λx y H Q=>∃i a S n,x=.int i/\y=.ref a/\H a=!.set S n/\Q (.bl (S i)) H):=by
 intro pi s σ H x y v u Q I rx ry h;let#[i,a,S,n,rfl,rfl,ha,q]:=h;let#[t,rfl]:=rx;cases ry;show wpAny_inSet_of (Cn _ _ _ _) rfl (I.bI a _ ha) #[.bl (S i),H,I.tok _,rfl,q]
def aH6:gs X (compareOp .NotIn) (λx y H Q=>∃i a S n,x=.int i/\y=.ref a/\H a=!.set S n/\Q (.bl (~~~S i)) H):=by
 intro pi s σ H x y v u Q I rx ry h;let#[i,a,S,n,rfl,rfl,ha,q]:=h;let#[t,rfl]:=rx;cases ry;show wpAny_notInSet_of (Cn _ _ _ _) rfl (I.bI a _ ha) #[.bl (~~~S i),H,I.tok _,rfl,q]
end L2
namespace ST
open PySem PyProof.Rows
end ST
namespace L2
open PySem PyProof.Rows
end L2
namespace ST
open PySem PyProof.Rows
end ST
namespace L2
open PySem PyProof.Rows
end L2
namespace L2
open PySem PySem.Spec PyProof.Rows
variable{prog:Program}{w:World}{A:Around}{s:Shared}{X:Cx}{l t z i1 i2:Addr}{i:Nat}
def MH:∀l:@&(Str×Tok),Vals ((l.map (·.1)).map V.str) (strValues l)
 |[]=>.nil
 |p::l=>.cons #[_,rfl] (MH l)
def OT{pi:@&(Addr×Obj)}{σ:St}{H:Hp}{Q:VK}{l:@&(Str×Tok)}{ys:@&Str}{t':Nat}(I:Inv X pi σ H s)(hl:l.map (·.1)=ys)(hz:-ys<=sizeLine)(q:∀p,H p=none->Q (.ref p) (upd H p (.lst (ys.map V.str)))) :
  EP X pi σ Q (.ref s⁻¹) { s with heap:=s.heap.push { cls:=.type "list",data:=.seq (strValues l).toArray },toks:=t' }:=by
 subst hl;show#[.ref s⁻¹,_,I.laid (a:=s⁻¹) (o:=.lst ((l.map (·.1)).map V.str)) (t':=t') (λx x e=>ai _ e) (ak _) #[by rw[ah];show hz,strValues l,_,MH l,ay _ rfl],rfl,q _ (I.bI.fresh (ak _))]
def Xm:mj X "str.split" (λx xs H Q=>∃a b:Str,x=.str a/\xs=[.str b]/\(-b==0)=false/\-a<=sizeLine/\(Txt.split a b).length<=sizeLine/\∀p,H p=none->Q (.ref p) (upd H p (.lst ((Txt.split a b).map V.str)))):=by
 intro pi s σ H x xs v us Q I rx r h;let#[a,b,rfl,rfl,hb,ha,hz,q]:=h;let#[t,rfl]:=rx;cases r with
 |cons r rr =>
 cases rr;let#[u,rfl]:=r;let one:Txt.split a b=[a]->EP X pi σ Q (.ref s⁻¹) { s with heap:=s.heap.push { cls:=.type "list",data:=.seq [Value.str a t].toArray } }:=λe=>by
  have:=OT (l:=[(a,t)]) (ys:=Txt.split a b) (t':=s.toks) I (by rw[e];rfl) hz q;show this
 cases h1:(decide (-a< -b)||decide (Builtin.Str.strKind a<Builtin.Str.strKind b))
 .cases hf:(Builtin.Str.occurrences a b 0 (-a) (-a+1)).isEmpty
  .let es:Txt.split a b=Builtin.Str.partsBetween a (Builtin.Str.occurrences a b 0 (-a) (-a+1)) (-b):=by unfold Txt.split;rw[aq (by rw[h1];decide),aq (by rw[hf];decide)]
   show cO sH (iN _ _ _) pX (nZ _ _) (meets_str_split_sep a b t u h1 hb hf ha (by rw[<- es];show hz)) ?_;rw[strsFrom_eq];show OT (l:=numbered s.toks _) (ys:=Txt.split a b) I ((numbered_texts _ _).trans es.symm) hz q
  .exact cO sH (iN _ _ _) pX (nZ _ _) (meets_str_split_not_found a b t u h1 hb hf) (one (by unfold Txt.split;rw[aq (by rw[h1];decide),au hf]))
 .exact cO sH (iN _ _ _) pX (nZ _ _) (meets_str_split_cannot_occur a b t u h1) (one (by unfold Txt.split;rw[au h1]))
def bN2(n:Nat)(v:Option Int):HT.dW n n v<=n/\(HT.dW n n v=n->True):=#[by
 cases v with
 |none=>show ak _
 |some v =>
  show(if v<0 then(v+(n:Int)).toNat else min v.toNat n)<=n;split <;> omega,λx=>trivial]
def S9(x:Str)(lo hi:Option Int):Str:=#[((x.cps.toList.drop (HT.dW (-x) 0 lo)).take (HT.dW (-x) (-x) hi-HT.dW (-x) 0 lo)).toArray]
def part_of{v:Value}{lo:Option Int}(h:IsPart v lo):∃l:Option (Int×Tok),v=partValue l/\l.map (·.1)=lo:=by
 cases h with
 |none=>show#[none,rfl,rfl]
 |int i t=>show#[!(i,t),rfl,rfl]
def Pm(lo hi:Option Int)(n:Nat):Builtin.Str.strSliceIndices lo hi 1 n=(List.range (HT.dW n n hi-HT.dW n 0 lo)).map (HT.dW n 0 lo+·):=by
 let#[h1,h2,h3]:=Nt lo hi n;change sliceRange (sliceBounds lo hi none n).1 (sliceBounds lo hi none n).2.1 1=_;rw[h1,h2,sliceRange_one]
set_option tactic.hygienic true in
def bL0:vZ X (λx lo hi H Q=>∃a:Str,x=.str a/\-a<=sizeLine/\Q (.str (S9 a lo hi)) H):=by
 intro pi s σ H x v vl vu lo hi sl Q I rx hs pl pu h;let#[a,rfl,hz,q]:=h;let#[t,rfl]:=rx;let#[l,rfl,rfl]:=part_of pl;let#[u,rfl,rfl]:=part_of pu;show#["str",_,F.slot_str_getitem.lookup,iN _ _ _,?_];show wpAny_getItem_str_slice (l:=l) (u:=u) (st:=none) hs rfl ?_;let e:(slicePicked a l u none).filterMap (a.cps[·]?)=(S9 a (l.map (·.1)) (u.map (·.1))).cps.toList:=by
  show(Builtin.Str.strSliceIndices (l.map (·.1)) (u.map (·.1)) 1 (-a)).filterMap (a.cps[·]?)=_;rw[Pm,pick_run]
  rfl
 unfold sliceMade;split
 .rename_i hc;rw[bC,fO] at hc;let hl:(slicePicked a l u none).length=HT.dW (-a) (-a) (u.map (·.1))-HT.dW (-a) 0 (l.map (·.1)):=by
   show(Builtin.Str.strSliceIndices (l.map (·.1)) (u.map (·.1)) 1 (-a)).length=_;rw[Pm];simp
  let h2:=(bN2 (-a) (u.map (·.1))).1;let pK:=hc.2;rw[fO,hl] at pK;have:S9 a (l.map (·.1)) (u.map (·.1))=a:=by
   unfold S9;let e1:HT.dW (-a) (-a) (u.map (·.1))=-a:=by omega
   let e2:-a=0\/HT.dW (-a) 0 (l.map (·.1))=0:=by omega
   rw[e1];rcases e2 with e2|e2
   .let#[c]:=a;have:c.size=0:=e2;let hc:c=(List.toArray []):=Array.eq_empty_of_size_eq_zero this;subst hc;simp
   rw[e2];let#[c]:=a;show(#[((c.toList.drop 0).take c.size).toArray]:Str)=#[c];rw[List.drop_zero,dh #[_],Array.toArray_toList]
  rw[this] at q;show#[.str a,H,I,#[_,rfl],q]
 .rw[e];show#[aL ?_ hz,.str _,H,I.tok _,#[_,rfl],by simpa using q];show(S9 a (l.map (·.1)) (u.map (·.1))).cps.toList.toArray.size<=a.cps.size;unfold S9;simp;omega
def aM4:m5 X (.type "int") (λxs H Q=>∃a:Str,∃n,xs=[.str a]/\-a<=640/\PySem.intText? a=!n/\Q (.int n) H):=by
 intro pi s σ H xs us Q I r h;let#[a,n,rfl,hl,hn,q]:=h;let#[u,rfl,t,rfl]:=vals1 r;show PySem.W.KIN.call_text hn hl #[.int n,H,I.tok _,#[_,rfl],q]
def a92:HZ X "list.insert" (λx vs H Q=>∃l i xs y,x=.ref l/\vs=[.int i,y]/\H l=!.lst xs/\0<=i/\i<=100000/\-xs<sizeLine/\Q .aW (upd H l (.lst (xs.take i.toNat++y::xs.drop i.toNat)))):=by
 intro pi s σ H x vs v us Q I rx rv h;let#[l,i,xs,y,rfl,rfl,hH,h0,h1,hz,q]:=h;cases rx;let#[v,u,rfl,#[t,rfl],ru]:=vals2 rv;let#[z,bc,n,r,hl,e]:=I.vE hH;show cO F.slot_list_insert #[_,e,rfl] F.entry_list_insert (F.args_list_insert_3 _ _ _) (PySem.AutoSeq1.list_insert_list_int_val_1 l bc.toArray n i t u (by rw[Co () ()];decide) (by rw[aR];omega)) #[e,?_];show#[.aW,_,I.Fo (its':=bc.take i.toNat++u::bc.drop i.toNat) hH e ?_ ((r.take _).append (.cons ru (r.drop _))) ?_,rfl,q]
 .let e1:(if i<0 then(i+(bc.toArray.size:Int)).toNat else min i.toNat bc.toArray.size)=min i.toNat (-bc):=by rw[aq (),aR]
  show(bc.toArray.extract 0 (if i<0 then(i+(bc.toArray.size:Int)).toNat else min i.toNat bc.toArray.size)).push u++bc.toArray.extract (if i<0 then(i+(bc.toArray.size:Int)).toNat else min i.toNat bc.toArray.size)=_;rw[e1];apply Array.ext';by_cases hi:i.toNat<=-bc
  .rw[js hi];simp[List.take_of_length_le]
  .rw[Nat.min_eq_right ()];simp[List.take_of_length_le,List.drop_eq_nil_of_le,show (-bc)<=i.toNat by omega]
 .simp;omega
def Ic(x:Str):It:=#[λi y=>i< -x,λi H v H'=>H'=H/\∃c,x.cps[i]?=!c/\v=.str #[(List.toArray [c])],λi y=>-x<=i]
def Yo{P:Program}{K:PySem.W.Frag}{tg:Expr}(x:Str)(t:Tok)(it:Addr):Turn P w K tg (Ic x) [it] it (λi h=>h.IsStrIter it "str_ascii_iterator" x t i) where
 mem:=by simp
 obj:=λi h st b hb=>by
  let e:b=it:=by simpa using hb
  subst e;let#[o,e,c,d]:=st;show#[o,e,λv z=>by rw[d] at z;cases z]
 keep:=λi h h' st k=>let ⟨o,ho,r⟩:=st;#[o,k it #[_] o ho,r]
 item:=by
  intro X hP hw hK hc i pi s σ H E I hf st hg;subst hP hw hK;let#[f0,f1,f2,f3,f4,f5]:=hf it #[_];let hg:i<x.cps.size:=hg;show wpAny_pyNext_ascii_item st (c:=x.cps[i]) (by simp[hg]) λh' mW sb=>?_;let I1:Inv X pi σ H { s with heap:=h',toks:=s.toks+1 }:=I.turned (λb o hb e=>(sb.2 b hb).trans e) f0 f1 f3 f4 f5;let#[o,e,c,d]:=id mW;show#[_,rfl,BI (s:={ s with heap:=h',toks:=s.toks+1 }) e c d ∅ #[.str #[(List.toArray [x.cps[i]])],H,I1,#[_,rfl],#[rfl,_,by simp[hg],rfl],mW,λb hb=>(hf b hb).1]]
 done:=by
  intro X hP hw hK hc i pi s σ H E I hf st hg;subst hP hw hK;let#[f0,f1,f2,f3,f4,f5]:=hf it #[_];let hg:x.cps.size<=i:=hg;show wpAny_pyNext_ascii_end (I.ok.hd hc) st (by simp[hg]) λh' eb=>#[rfl,I.turned (t':=s.toks) (λb o hb e=>eb b o hb e) f0 f1 f3 f4 f5]
 self:=λy y y y y st h=>wpAny_pyIter_striter_ascii st h
section
def Yi{E:Value->Shared->Prop}{y:Value}{ys:@&Value}{Q:@&Value->Shared->Prop}(hh:A.handled=none)(hl:s.heap.IsList l (y::ys).toArray)(hz:-ys<sizeLine)(hQ:∀(h':Heap) (tk:Nat),(∀b o,s.heap.get? b=!o->h'.get? b=!o)->Q [y,.ref h'.objs.size] { s with heap:=h'.push { cls:=.type "list",data:=.seq ys.toArray },toks:=tk }):wpAny (model prog w) A (unpackItems (.ref l) 2 (!1)) Q E s:=by
 let ll:l<s⁻¹:=by let#[o,ho,_]:=hl;show ao ho
 let ne:l≠s⁻¹:=aN ll;unfold unpackItems notIterableAtAll;show aa (aa (wpAny_specialOf hl.typeIs PySem.F.slot_list_iter.lookup (aj ?_)));simp only[Bool.false_eq_true,if_false];show aa (bj (dZ hl ?_));show aa (bj (PySem.W.kun_draw ne 1 0 _ _ #[_,ay _ rfl,rfl,rfl] (hl.push _) #[_] λh1 IU wM=>?_));let l1:h1.IsList l (y::ys).toArray:=(hl.push _).extBut wM.extBut ne;let Sk:=IU;let#[o1,e1,_]:=Sk;let l2:=l1;let#[o2,e2,_]:=l2;change wpAny _ _ (if(1:Nat)<1 then _ else _) _ _ _;rw[aq ()];show aa (bj (PySem.W.kun_collect (s:={ s with heap:=h1 }) (T:="list_iterator") (.inr (.inr (.inl rfl))) (nU (A:=A.in1) hh s⁻¹ l ne (y::ys).toArray) (λj u st=>st.1.typeIs) (k:=1) #[_] #[IU,l1] (ao e1) (ao e2) (λh2 tk hk=>?_) (by rw[aR,aP];omega)));change wpAny _ _ (if (-ys)<0 then _ else _) _ _ _;rw[aq ()];change wpAny _ _ (newList (ys.take (-ys-0)) >>= λd=>pure ([y]++[d]++ys.drop (-ys-0))) _ _ _;rw[Nat.sub_zero,dw,List.drop_length];show aa (wpAny_newList (s:={ s with heap:=h2,toks:=tk }) (aj (hQ h2 tk λb o e=>hk b o (aN (ao e)) (wM.extBut b o (aN (ao e)) (ai _ e)))) ())
variable{pos:Pos}
def Kk(K:PySem.W.Frag)(t:pP):TG:=λv σ H Q=>∃l x xs,v=.ref l/\gU K H l (x::xs)/\∀p,H p=none->t [x,.ref p] σ (upd H p (.lst xs)) Q
def bB5{a b:Expr}{pb:Pos}{k:Nat}{t:pP}(hc:X.calm=true)(h:we X [a,b] t)(ha:∀e p,a≠.Starred e p:=by intro _ _ h;cases h)(hb:∀e p,b≠.Starred e p:=by intro _ _ h;cases h):PG X (.Tuple [a,.Starred b pb] k pos) (Kk X.K t):=by
 intro pi s σ H v u Q I r hw;let#[l,x,xs,rfl,hq,hw]:=hw;cases r;let#[bc,rv,p,hz]:=I.list hq;cases rv with
 |@cons _ y _ ys r rr =>
 let e1:assignEach [a,.Starred b pb] X.env=[(false,assign a X.env),(true,assign b X.env)]:=by
  cases a<;>first|rfl|show(ha _ _ rfl).elim
 let e2:assignEach [a,b] X.env=[(false,assign a X.env),(false,assign b X.env)]:=by
  cases a<;>first|show(ha _ _ rfl).elim|(cases b<;>first|rfl|show(hb _ _ rfl).elim)
 rw[assign_Tuple];show aa (dH ?_);unfold unpack;rw[e1];show aa (bj (Yi (I.ok.hd hc) p.isList (by have:=-rr;rw[aP] at hz;omega) λh' tk hk=>?_));let I2:Inv X pi σ H { s with heap:=h',toks:=tk }:=I.kept hk;have:=h pi { s with heap:=h'.push { cls:=.type "list",data:=.seq ys.toArray },toks:=tk } σ (upd H h'.objs.size (.lst xs)) [x,.ref h'.objs.size] [y,.ref h'.objs.size] Q
  (I2.laid (t':=tk) (λc o e=>ai _ e) (ak _) #[by rw[aP] at hz;omega,ys,_,rr,ay _ rfl]) (.cons r (.cons rfl .nil)) (hw _ (I2.bI.fresh (ak _)))
 rw[e2] at this;show this
end
section
variable{E:Value->Shared->Prop}
def b19{it:Addr}{items:Array Value}{x:Value}{Q:Value->Shared->Prop}(hit:s.heap.IsTupleIter it t i)(ht:s.heap.IsTuple t items)(hx:items[i]?=!x)(hQ:∀h',h'.IsTupleIter it t (i+1)->Heap.SameBut it s.heap h'->Q x { s with heap:=h' }):wpAny (model prog w) A (Builtin.SmallTypes.nextOf (.ref it)) Q E s:=by
 let#[o,e1,e2,e3]:=id hit;let#[p,e4,_,m,e5]:=ht;unfold Builtin.SmallTypes.nextOf;show aa (bZ (name:=Str.ofString "__next__") hit.typeIs dO (bP dO hit.typeIs lz ?_ (kI _)));change wpAny _ _ (field (.ref it) 0 >>= _) _ _ s;show aa (bG e1 e3 (x:=.ref t) rfl ?_);change wpAny _ _ (if(Value.ref t==Value.none)=true then _ else _) _ _ s;rw[aq (show ¬((Value.ref t==Value.none)=true) from bE)];change wpAny _ _ (field (.ref it) 1 >>= _) _ _ s;show aa (bG e1 e3 (x:=.int i 0) rfl ?_);change wpAny _ _ (seqItems? (.ref t) >>= _) _ _ s;show aa (dM e4 e5 ?_);simp only[Int.toNat_natCast,hx];show aa (cM e1 e3 #[_] (aj #[x,rfl,aj (hQ _ ?_ (aZ ..))]));show#[_,aT _ e1 (cz (bq e3 _)),(jq ..).trans e2,by rw[bq e3];simp[rawInt]]
def bR1{it:Addr}{items:Array Value}{Q:Value->Shared->Prop}(hh:A.handled=none)(hit:s.heap.IsTupleIter it t i)(ht:s.heap.IsTuple t items)(hx:items[i]?=none)(hE:∀h' e,Heap.ExtBut it s.heap h'->(∃o,h'.get? e=!o/\o.cls=.type "StopIteration")->E (.ref e) { s with heap:=h' }):wpAny (model prog w) A (Builtin.SmallTypes.nextOf (.ref it)) Q E s:=by
 let#[o,e1,e2,e3]:=id hit;let#[p,e4,_,m,e5]:=ht;unfold Builtin.SmallTypes.nextOf;show aa (bZ (name:=Str.ofString "__next__") hit.typeIs dO (bP dO hit.typeIs lz ?_ (kI _)));change wpAny _ _ (field (.ref it) 0 >>= _) _ _ s;show aa (bG e1 e3 (x:=.ref t) rfl ?_);change wpAny _ _ (if(Value.ref t==Value.none)=true then _ else _) _ _ s;rw[aq (show ¬((Value.ref t==Value.none)=true) from bE)];change wpAny _ _ (field (.ref it) 1 >>= _) _ _ s;show aa (bG e1 e3 (x:=.int i 0) rfl ?_);change wpAny _ _ (seqItems? (.ref t) >>= _) _ _ s;show aa (dM e4 e5 ?_);simp only[Int.toNat_natCast,hx];show aa (fH (aa (cM e1 e3 #[_] ?_)));change wpAny _ _ (newExc (.type "StopIteration") [] >>= _) _ _ _;show aa ?_;simp only[newExc,newTuple];show aa (bU ?_ (by size_fits));show aa (m:=firstArgMember _ _) (eA (a:=Value.none) (by first|rfl|(simp only[firstArgMember];rfl)) ?_);show bU ?_ (by size_fits);simp only[raiseNew];show aa (Qy ?_)
 first|rw[show A.in1.handled=none from hh]|rw[hh]
 show aa (aj (uA ?_));show hE _ _ (((aZ ..).extBut.push _).push _) #[_,ay _ rfl,rfl]
structure Zd(z TI TO i1 i2:Addr):Prop where
 TIz:TI≠z
 TOz:TO≠z
 i1z:i1≠z
 i2z:i2≠z
 TITO:TI≠TO
 TIi1:TI≠i1
 TIi2:TI≠i2
 TOi1:TO≠i1
 TOi2:TO≠i2
 i12:i1≠i2
structure Zp(h:Heap)(z TI TO i1 i2 t l:Addr)(i:Nat)(f:Value):Prop where
 z:IsZip h z TI TO f
 p:IsPair h TI (.ref i1) (.ref i2)
 o:∃a b,IsPair h TO a b
 a:h.IsTupleIter i1 t i
 b:h.IsListIter i2 l i
def ZJ{TI TO:Addr}{xs ys:Array Value}{x y:Value}{Q:Option Value->Shared->Prop}(D:Zd z TI TO i1 i2)(Z:Zp s.heap z TI TO i1 i2 t l i .none)(ht:s.heap.IsTuple t xs)(hl:s.heap.IsList l ys)(hx:xs[i]?=!x)(hy:ys[i]?=!y)(hQ:∀h',Zp h' z TI TO i1 i2 t l (i+1) (rawInt s⁻¹)->IsPair h' s⁻¹ x y->(∀c o,c≠z->c≠TO->c≠i1->c≠i2->s.heap.get? c=!o->h'.get? c=!o)->Q (!(.ref s⁻¹)) { s with heap:=h' }):wpAny (model prog w) A (pyNext (.ref z)) Q E s:=by
 let l1z:t≠z:=by
  rintro rfl;let#[o,e,c,_]:=ht;rw[Z.z] at e;cases e;simp at c
 let l2z:l≠z:=by
  rintro rfl;let#[o,e,c,_]:=hl;rw[Z.z] at e;cases e;simp at c
 let l2i1:l≠i1:=by
  rintro rfl;let#[o,e,c,_]:=hl;let#[o',e',c',_]:=Z.a;rw[e'] at e;cases e;rw[c'] at c;simp at c
 let l2TO:l≠TO:=by
  rintro rfl;let#[o,e,c,_]:=hl;let#[a,b,h]:=Z.o;rw[h] at e;cases e;simp at c
 let hT:s.TypeIs (.ref z) "zip":=#[_,Z.z,rfl]
 let#[a,b,ho]:=Z.o;unfold pyNext;show aa (jz (bZ (name:=Str.ofString "__next__") hT gj (bP gj hT wo ?_ (uB _))));change wpAny _ _ (field (.ref z) 2 >>= _) _ _ _;show aa (bG Z.z rfl (x:=.bool false) rfl ?_);change wpAny _ _ (field (.ref z) 3 >>= _) _ _ _;show aa (bG Z.z rfl (x:=.ref TI) rfl (aa (dM Z.p rfl ?_)));change wpAny _ _ (Builtin.SmallTypes.ownedTupleIsFree (.ref z) >>= _) _ _ _;unfold Builtin.SmallTypes.ownedTupleIsFree;show aa (aa (bG Z.z rfl (x:=.none) rfl (aj ?_)));simp only[if_true];show aa (fH (aa (bG Z.z rfl (x:=.ref TO) rfl (aa (gg Z.z #[_] λh1 z1 s1=>?_)))))
 replace z1:IsZip h1 z TI TO .ellipsis:=z1
 show aa ?_;simp only[List.zipIdx_cons,List.zipIdx_nil,List.forIn_cons,List.forIn_nil];show aa (aa (Qx ?_));change wpAny _ _ (Builtin.SmallTypes.nextOf (.ref i1) >>= _) _ _ _;show aa (b19 (Z.a.extBut s1.extBut D.i1z) (ht.extBut s1.extBut l1z) hx λh2 a2 s2=>aj ?_);let o2:IsPair h2 TO a b:=s2.extBut _ _ D.TOi1 (s1.extBut _ _ D.TOz ho);show aa (dM o2 rfl (aa (wpAny_updateSeq_pair o2 λh3 o3 s3=>?_)))
 replace o3:IsPair h3 TO x b:=o3
 show aa (wpAny_letGo (aj ?_));show aa (aa (Qx ?_));change wpAny _ _ (Builtin.SmallTypes.nextOf (.ref i2) >>= _) _ _ _;show aa (wpAny_nextOf_list_item (((Z.b.extBut s1.extBut D.i2z).extBut s2.extBut D.i12.symm).extBut s3.extBut D.TOi2.symm) (((hl.extBut s1.extBut l2z).extBut s2.extBut l2i1).extBut s3.extBut l2TO) hy λh4 b4 s4=>aj ?_);let o4:IsPair h4 TO x b:=s4.extBut _ _ D.TOi2 o3;show aa (dM o4 rfl (aa (wpAny_updateSeq_pair o4 λh5 o5 s5=>?_)))
 replace o5:IsPair h5 TO x y:=o5
 show aa (wpAny_letGo (aj (aj (aa (dM o5 rfl (aa (wpAny_newTuple ?_)))))));let sz:h5.objs.size=s⁻¹:=by rw[s5.1,s4.1,s3.1,s2.1,s1.1]
 let z5:IsZip h5 z TI TO .ellipsis:=s5.extBut _ _ D.TOz.symm (s4.extBut _ _ D.i2z.symm (s3.extBut _ _ D.TOz.symm (s2.extBut _ _ D.i1z.symm z1)));let k5:∀c o,c≠z->c≠TO->c≠i1->c≠i2->s.heap.get? c=!o->h5.get? c=!o:=λc o c1 c2 c3 c4 e=>s5.extBut _ _ c2 (s4.extBut _ _ c4 (s3.extBut _ _ c2 (s2.extBut _ _ c3 (s1.extBut _ _ c1 e))));let a5:=((a2.extBut s3.extBut D.TOi1.symm).extBut s4.extBut D.i12).extBut s5.extBut D.TOi1.symm;let b5:=b4.extBut s5.extBut D.TOi2.symm;let zl:z<h5.objs.size:=ao z5;change wpAny _ _ (Builtin.SmallTypes.ownedTupleHandOut (.ref z) (.ref h5.objs.size) >>= _) _ _ _;unfold Builtin.SmallTypes.ownedTupleHandOut;let z6:IsZip (h5.push { cls:=.type "tuple",data:=.seq (List.toArray [x,y]) }) z TI TO .ellipsis:=ai _ z5;show aa (aa (gg z6 #[_] λh7 z7 s7=>?_))
 replace z7:IsZip h7 z TI TO (rawInt h5.objs.size):=z7
 show gg z7 #[_] λh8 z8 s8=>?_
 replace z8:IsZip h8 z TI TO (rawInt h5.objs.size):=z8
 let up:∀c o,c≠z->h5.get? c=!o->h8.get? c=!o:=λc o c1 e=>s8.extBut _ _ c1 (s7.extBut _ _ c1 (ai _ e));let t8:IsPair h8 h5.objs.size x y:=s8.extBut _ _ (bR zl) (s7.extBut _ _ (bR zl) (ay _ rfl));rw[sz] at z8 t8;show aj #[_,rfl,aj ?_];change Q (!.ref h5.objs.size) _;rw[sz];show hQ h8 #[z8,up _ _ D.TIz (k5 _ _ D.TIz D.TITO D.TIi1 D.TIi2 Z.p),#[x,y,up _ _ D.TOz o5],a5.at λo e=>up _ o D.i1z e,b5.at λo e=>up _ o D.i2z e] t8 λc o c1 c2 c3 c4 e=>up c o c1 (k5 c o c1 c2 c3 c4 e)
def bH2{TI TO:Addr}{xs:Array Value}{f:Value}{Q:Option Value->Shared->Prop}(hh:A.handled=none)(D:Zd z TI TO i1 i2)(Z:Zp s.heap z TI TO i1 i2 t l i .none)(ht:s.heap.IsTuple t xs)(hx:xs[i]?=none)(hQ:∀h',(∀c o,c≠z->c≠TO->c≠i1->c≠i2->s.heap.get? c=!o->h'.get? c=!o)->Q none { s with heap:=h' }):wpAny (model prog w) A (pyNext (.ref z)) Q E s:=by
 let l1z:t≠z:=by
  rintro rfl;let#[o,e,c,_]:=ht;rw[Z.z] at e;cases e;simp at c
 let hT:s.TypeIs (.ref z) "zip":=#[_,Z.z,rfl]
 let#[a,b,ho]:=Z.o;unfold pyNext;show aa (jz (bZ (name:=Str.ofString "__next__") hT gj (bP gj hT wo ?_ (uB _))));change wpAny _ _ (field (.ref z) 2 >>= _) _ _ _;show aa (bG Z.z rfl (x:=.bool false) rfl ?_);change wpAny _ _ (field (.ref z) 3 >>= _) _ _ _;show aa (bG Z.z rfl (x:=.ref TI) rfl (aa (dM Z.p rfl ?_)));change wpAny _ _ (Builtin.SmallTypes.ownedTupleIsFree (.ref z) >>= _) _ _ _;unfold Builtin.SmallTypes.ownedTupleIsFree;show aa (aa (bG Z.z rfl (x:=.none) rfl (aj ?_)));simp only[if_true];show aa (fH (aa (bG Z.z rfl (x:=.ref TO) rfl (aa (gg Z.z #[_] λh1 z1 s1=>?_)))))
 replace z1:IsZip h1 z TI TO .ellipsis:=z1
 show aa ?_;simp only[List.zipIdx_cons,List.zipIdx_nil,List.forIn_cons,List.forIn_nil];show aa (aa (Qx ?_));change wpAny _ _ (Builtin.SmallTypes.nextOf (.ref i1) >>= _) _ _ _;show aa (bR1 hh (Z.a.extBut s1.extBut D.i1z) (ht.extBut s1.extBut l1z) hx λh2 e s2 he=>?_);let#[oe,e1,e2]:=he;let z2:IsZip h2 z TI TO .ellipsis:=s2 _ _ D.i1z.symm z1;let ne:e≠z:=λx=>by subst x;rw[z2] at e1;cases e1;simp at e2
 show gg z2 #[_] λh3 y s3=>?_;show aa (eP (T:="StopIteration") (b:=true) #[oe,s3.extBut _ _ ne e1,e2] isSubtype_stop ?_);show aj (hQ _ λc o c1 y c3 y x=>s3.extBut _ _ c1 (s2 _ _ c3 (s1.extBut _ _ c1 x)))
noncomputable abbrev zL(h:Heap)(t:Addr):Heap:=h.push { cls:=.type "tuple_iterator",data:=.fields (List.toArray [.ref t,.int 0 0]) }
noncomputable abbrev zK(h:Heap)(t l:Addr):Heap:=(zL h t).push { cls:=.type "list_iterator",data:=.fields (List.toArray [.ref l,.int 0 0]) }
noncomputable abbrev zJ(h:Heap)(t l:Addr):Heap:=(zK h t l).push { cls:=.type "tuple",data:=.seq (List.toArray [.ref h.objs.size,.ref (zL h t).objs.size]) }
noncomputable abbrev wA(h:Heap)(t l:Addr):Heap:=(zJ h t l).push { cls:=.type "tuple",data:=.seq (List.toArray [.none,.none]) }
noncomputable abbrev uI(h:Heap)(t l:Addr):Heap:=(wA h t l).push { cls:=.type "zip",data:=.fields (List.toArray [.none,.bool false,.bool false,.ref (zK h t l).objs.size,.ref (zJ h t l).objs.size]) }
def aI6(t l:Addr)(xs ys:Array Value):Meets (Builtin.«zip.__new__» #[[.type "zip",.ref t,.ref l],[]]) (λx R s=>s.heap.IsTuple t xs/\s.heap.IsList l ys/\R (.ok (.ret (.ref (wA s.heap t l).objs.size))) { s with heap:=uI s.heap t l }) :=
 .of_wp λprog w A R s h=>by
  let#[hp,g,d,tk,os]:=s;let#[a,b,h]:=h;let ni:=sub_zip;let b1:Heap.IsTuple (Shared.heap #[hp,g,d,tk,os]) t xs:=a;let b2:Heap.IsList (Shared.heap #[hp.push { cls:=.type "tuple_iterator",data:=.fields (List.toArray [.ref t,.int 0 0]) },g,d,tk,os]) l ys:=Heap.IsList.push b _
  wp_walk using nR b1,dZ b2
  show#[_,rfl,h]
def aP3{xs ys:Array Value}{Q:Value->Shared->Prop}(ht:s.heap.IsTuple t xs)(hl:s.heap.IsList l ys)(h:∀h',Zp h' (s⁻¹+4) (s⁻¹+2) (s⁻¹+3) s⁻¹ (s⁻¹+1) t l 0 .none->(∀c o,s.heap.get? c=!o->h'.get? c=!o)->Q (.ref (s⁻¹+4)) { s with heap:=h' }):wpAny (model prog w) A (call (.type "zip") [.ref t,.ref l]) Q E s:=by
 show callType_new PySem.F.called_zip ∅ (PySem.F.typeCall_zip_2 _ _) (PySem.F.newCall_zip_2 _ _) (λobj=>PySem.F.args_object_init_3 obj _ _) PySem.F.entry_zip_new (aI6 t l xs ys) #[ht,hl,?_];let z1:(zL s.heap t).objs.size=s⁻¹+1:=cZ ..;let z2:(zK s.heap t l).objs.size=s⁻¹+2:=by rw[cZ,z1]
 let z3:(zJ s.heap t l).objs.size=s⁻¹+3:=by rw[cZ,z2]
 let z4:(wA s.heap t l).objs.size=s⁻¹+4:=by rw[cZ,z3]
 let g5:(uI s.heap t l).get? (wA s.heap t l).objs.size=!_:=ay _ rfl;let g4:(uI s.heap t l).get? (zJ s.heap t l).objs.size=!_:=ai _ (ay _ rfl);let g3:(uI s.heap t l).get? (zK s.heap t l).objs.size=!_:=ai _ (ai _ (ay _ rfl));let g2:(uI s.heap t l).get? (zL s.heap t).objs.size=!_:=ai _ (ai _ (ai _ (ay _ rfl)));let g1:(uI s.heap t l).get? s⁻¹=!_:=ai _ (ai _ (ai _ (ai _ (ay _ rfl))));change _/\Q (.ref (wA s.heap t l).objs.size) _;rw[z2,z3,z4] at g5;rw[z1,z2] at g3;rw[z3] at g4;rw[z1] at g2;rw[z4];show#[#[_,g5,rfl],?_];show h _ #[g5,g3,#[_,_,g4],#[_,g1,rfl,rfl],#[_,g2,rfl,rfl]] λc o e=>ai _ (ai _ (ai _ (ai _ (ai _ e))))
abbrev Ia(K:PySem.W.Frag)(t a:Addr):It :=
 #[λi H=>∃xs ys x y,iB K H t xs/\gU K H a ys/\xs[i]?=!x/\ys[i]?=!y,λi H v H'=>∃p x y,H p=none/\v=.ref p/\(∀xs,iB K H t xs->xs[i]?=!x)/\(∀ys,gU K H a ys->ys[i]?=!y)/\H'=upd H p (.tup [x,y]),λi H=>∃xs,iB K H t xs/\-xs<=i]
def Yp{P:Program}{K:PySem.W.Frag}{elts:@&Expr}{x1:Nat}{tp:Pos}{a TI TO:Addr}(D:Zd z TI TO i1 i2):Turn P w K (.Tuple elts x1 tp) (Ia K t a) [z,TI,TO,i1,i2] z (λi h=>Zp h z TI TO i1 i2 t a i .none) where
 mem:=by simp
 obj:=λi h st b hb=>by
  let#[a',b',ho]:=st.o;let#[o1,e1,_,d1]:=st.a;let#[o2,e2,_,d2]:=st.b;simp only[List.mem_cons,List.mem_nil_iff,or_false] at hb;rcases hb with rfl|rfl|rfl|rfl|rfl
  .exact#[_,st.z,λv z=>by cases (show Data.fields _=Data.cell v from z)]
  .exact#[_,st.p,λv z=>by cases (show Data.seq _ _=Data.cell v from z)]
  .exact#[_,ho,λv z=>by cases (show Data.seq _ _=Data.cell v from z)]
  .exact#[_,e1,λv z=>by rw[d1] at z;cases z]
  .exact#[_,e2,λv z=>by rw[d2] at z;cases z]
 keep:=λi h h' st k=>by
  let#[a',b',ho]:=st.o;show#[k z #[_] _ st.z,k TI #[_] _ st.p,#[a',b',k TO #[_] _ ho],st.a.at λo e=>k i1 #[_] o e,st.b.at λo e=>k i2 #[_] o e]
 item:=by
  intro X hP hw hK hc i pi s σ H E I hf st hg;subst hP hw hK;let#[xs,ys,x,y,hq,hr,hx,hy]:=hg;let#[bc,rv,p,hz]:=I.tuple hq;let#[u,hu,ru]:=rv.get hx;let#[Si,fY,p',zX]:=I.list hr;let#[v,hv,wO]:=fY.get hy;show ZJ D st (show s.heap.IsTuple t bc.toArray from p) p'.isList (x:=u) (y:=v) (_/hu) (_/hv) λh' rD pr k1=>?_;show#[_,rfl,wpAny_letOwnedTupleGo_zip rD.z λh2 z2 s2=>?_];let s2:Heap.SameBut z h' h2:=s2;let kp:∀b o,b∉[z,TI,TO,i1,i2]->s.heap.get? b=!o->h2.get? b=!o:=λb o hb q=>by
   simp only[List.mem_cons,List.mem_nil_iff,or_false,not_or] at hb;show(s2.2 b hb.1).trans (k1 b o hb.1 hb.2.2.1 hb.2.2.2.1 hb.2.2.2.2 q)
  let zl:z<s⁻¹:=ao st.z;let hn:H s⁻¹=none:=I.bI.fresh (ak _);let t2:h2.get? s⁻¹=some { cls:=.type "tuple",data:=.seq (List.toArray [u,v]) }:=(s2.2 _ (bR zl)).trans pr;let ne:∀b u',H b=!u'->b∉[z,TI,TO,i1,i2]:=λb u' q hb=>by rw[(hf b hb).1] at q;cases q
  let bI:gJ X.prog X.w (upd H s⁻¹ (.tup [x,y])) h2:=λb o q=>by
   by_cases hb:b=s⁻¹
   .subst hb;rw[f9] at q;cases q;show#[by change 2<=sizeLine;decide,[u,v],.cons ru (.cons wO .nil),_,t2,rfl,#[_,rfl],rfl]
   .rw[d7 hb] at q;show(I.bI b o q).B8 (λc v hc q'=>?_) (λc q'=>by rw[d7 (j7 q' hn)];show q') λc ys q'=>by rw[d7 (j7 q' hn)];show q'
    rcases hc with z|z
    .subst z;show kp _ _ (ne _ _ q) q'
    .exact kp _ _ (ne _ _ z) q'
  let I2:Inv X pi σ (upd H s⁻¹ (.tup [x,y])) { s with heap:=h2 }:=by
   show I.step (g':=s.gens) (d':=s.drawn) (t':=s.toks) (ch:=[z,TI,TO,i1,i2]) (λb hb=>?_) (λb o l l hb q l=>kp b o hb q) (λb o l l hb q l=>#[o.slots,kp b o hb q])
    (λb o l q n=>by rw[d7 (aN (ao q))];show n) (λb o hb q=>#[o,kp b o hb q])
    (λb ys q=>by rw[d7 (j7 q hn)];show q) (λb o' ys q=>by rw[d7 (j7 q hn)];show q) (λb ps q=>#[(List.toArray []),by rw[d7 (j7 q hn),q];simp]) (λm hm=>?_) bI I.bare
   .let#[e0,e1,e2,e3,e4,e5]:=hf b hb;show#[e3,e1,e4,e5]
   .let#[o,es,ep,ho,r]:=hm;show#[o,es,ep,kp _ o (λhb=>(hf _ hb).2.1 rfl) ho,r]
  show#[.ref s⁻¹,_,I2,rfl,#[s⁻¹,x,y,hn,rfl,λzs Dm=>by rw[I.MF Dm hq];show hx,λzs Dm=>by rw[I.OS Dm hr];show hy,rfl],?_,λb hb=>?_]
  .let#[a',b',ho]:=rD.o;show#[z2,(s2.2 _ D.TIz).trans rD.p,#[a',b',(s2.2 _ D.TOz).trans ho],rD.a.at λo e=>(s2.2 _ D.i1z).trans e,rD.b.at λo e=>(s2.2 _ D.i2z).trans e]
  let kx:b<s⁻¹:=by
   let#[a',b',ho]:=st.o;let#[o1,e1,_]:=st.a;let#[o2,e2,_]:=st.b;let qx:=hb;simp only[List.mem_cons,List.mem_nil_iff,or_false] at qx;rcases qx with rfl|rfl|rfl|rfl|rfl
   .exact zl
   .exact ao st.p
   .exact ao ho
   .exact ao e1
   .exact ao e2
  rw[d7 (aN kx)];show(hf b hb).1
 done:=by
  intro X hP hw hK hc i pi s σ H E I hf st hg;subst hP hw hK;let#[xs,hq,hx]:=hg;let#[bc,rv,p,hz]:=I.tuple hq;let hl:=-rv;show bH2 (f:=.none) (I.ok.hd hc) D st (show s.heap.IsTuple t bc.toArray from p) (by simp;omega) λh' eb=>#[rfl,?_]
  let kp:∀b o,b∉[z,TI,TO,i1,i2]->s.heap.get? b=!o->h'.get? b=!o:=λb o hb q=>by
   simp only[List.mem_cons,List.mem_nil_iff,or_false,not_or] at hb;show eb b o hb.1 hb.2.2.1 hb.2.2.2.1 hb.2.2.2.2 q
  let ne:∀b u',H b=!u'->b∉[z,TI,TO,i1,i2]:=λb u' q hb=>by rw[(hf b hb).1] at q;cases q
  let bI:gJ X.prog X.w H h':=λb o q=>by
   show(I.bI b o q).B8 (λc v hc q'=>?_) (λc q'=>q') λc ys q'=>q';rcases hc with z|z
   .subst z;show kp _ _ (ne _ _ q) q'
   .exact kp _ _ (ne _ _ z) q'
  show I.step (g':=s.gens) (d':=s.drawn) (t':=s.toks) (ch:=[z,TI,TO,i1,i2]) (λb hb=>?_) (λb o l l hb q l=>kp b o hb q) (λb o l l hb q l=>#[o.slots,kp b o hb q])
   (λb o l q n=>n) (λb o hb q=>#[o,kp b o hb q]) (λb ys q=>q) (λb o' ys q=>q) (λb ps q=>#[(List.toArray []),by rw[q];simp]) (λm hm=>?_) bI I.bare
  .let#[e0,e1,e2,e3,e4,e5]:=hf b hb;show#[e3,e1,e4,e5]
  .let#[o,es,ep,ho,r]:=hm;show#[o,es,ep,kp _ o (λhb=>(hf _ hb).2.1 rfl) ho,r]
 self:=λl l l l l st h=>wpAny_pyIter_zip st.z h
def bO7{a b:Expr}{ta:TA}{p pos tp:Pos}{elts:@&Expr}{x1:Nat}(hg:Gl X "zip")(hm:X.mg "zip"=none)(ha:PA X [a,b] ta)(hs:starEach [a,b] X.env=[(false,eval a X.env),(false,eval b X.env)])(jG:starEach [b] X.env=[(false,eval b X.env)]) :
  PI X (.Tuple elts x1 tp) (.Call (.Name "zip" p) [a,b] [] pos) (λσ H R=>ta σ H λvs H1=>∃t a,vs=[.ref t,.ref a]/\(∃xs,iB X.K H1 t xs)/\(∃ys,gU X.K H1 a ys)/\R (Ia X.K t a) H1):=by
 intro pi s σ H R I h;show Call_ (V9 I hg hm PyProof.Rows.boot_zip (dg (cS (ha pos pi s σ H _ I h) λus s1 bx=>?_) (by rw[hs,jG]) (by rw[jG];rfl)));let#[vs,H1,I1,r1,q1]:=bx;let#[t,a,e,#[xs,hq],#[ys,hr],q]:=q1;subst e;cases r1 with
 |cons r rr =>
  cases rr with
  |cons r' rr =>
   cases rr;cases r;cases r';let#[bc,rv,p1,hz]:=I1.tuple hq;let#[Si,fY,p2,zW]:=I1.list hr;show aP3 (show s1.heap.IsTuple t bc.toArray from p1) p2.isList λh' Z hk=>wpAny_pyIter_zip Z.z ?_;let ne:∀n j k:Nat,j≠k->n+j≠n+k:=λn j k h=>by omega
   let le:∀n k:Nat,n<=n+k:=λn k=>by omega
   let dd:Zd (s1⁻¹+4) (s1⁻¹+2) (s1⁻¹+3) s1⁻¹ (s1⁻¹+1):=#[ne _ 2 4 ∅,ne _ 3 4 ∅,ne _ 0 4 ∅,ne _ 1 4 ∅,ne _ 2 3 ∅,ne _ 2 0 ∅,ne _ 2 1 ∅,ne _ 3 0 ∅,ne _ 3 1 ∅,ne _ 0 1 ∅]
   show#[_,[s1⁻¹+4,s1⁻¹+2,s1⁻¹+3,s1⁻¹,s1⁻¹+1],_,_,H1,rfl,I1.kept (t':=s1.toks) hk,Yp (t:=t) (a:=a) dd,Z,λb hb=>?_,q];let kx:s1⁻¹<=b:=by
    simp only[List.mem_cons,List.mem_nil_iff,or_false] at hb;rcases hb with rfl|rfl|rfl|rfl|rfl
    .exact le _ 4
    .exact le _ 2
    .exact le _ 3
    .exact le _ 0
    .exact le _ 1
   show I1.sh kx (I1.bI.fresh kx)
end
end L2
namespace M
open PySem L2
set_option genInjectivity true in
inductive D where
 |aW|bl (b:Bool)|int (i:Int)|str (x:Str)|ty (n:String)|ref (i:Nat)|tup (l:@&D)
set_option genInjectivity true in
inductive O where
 |lst (l:@&D)|qO (l:@&D)
 |du (kvs:@&(Key×D))
 |ins (c:Str) (fs:@&(Str×D))
 |set (S:Int->Bool) (n:Nat)
abbrev O.mut:O->Bool
 |.qO _=>false
 |_=>true
abbrev sj:D->Option Key
 |.int i=>!.inl i
 |.str x=>!.inr x
 |_=>none
abbrev J0(kvs:@&(Key×D))(k:Key):Option D:=(kvs.find? λkv=>decide (kv.1=k)).map (·.2)
abbrev putD(kvs:@&(Key×D))(k:Key)(v:D):@&(Key×D) :=
 if(kvs.any λkv=>decide (kv.1=k))=true then kvs.map (λkv=>if kv.1=k then(kv.1,v) else kv) else kvs++[(k,v)]
abbrev x8(f:Str)(v:D):@&(Str×D)->@&(Str×D)
 |[]=>[(f,v)]
 |(g,x)::r=>if g=f then(g,v)::r else(g,x)::x8 f v r
abbrev N6:@&D->Str->Option D
 |.tup [.str y,v]::r,x=>if x=y then some v else N6 r x
 |_::_,_=>none
 |[],_=>none
abbrev X8:@&D->Option Str
 |[]=>!Str.empty
 |.str x::r=>(X8 r).map λy=>x++y
 |_=>none
structure Xn where
 cls:Str
noncomputable abbrev J1(n:Nat):Xn:=#[#[(List.toArray [n])]]
noncomputable abbrev G:=@&O
noncomputable abbrev S:=@&(Option D)
noncomputable abbrev KD:=D->G->Prop
noncomputable abbrev KX:=Xn->G->Prop
noncomputable abbrev nO:KX:=λx x=>False
abbrev Hm:Option O->Option (@&D)
 |some (.lst l)=>!l
 |some (.qO l)=>!l
 |_=>none
noncomputable abbrev f6(g:G)(a:Nat):Option (@&D):=Hm g[a]?
abbrev rd(g:G):Nat->D->Option PyData
 |_,.aW=>!.none
 |_,.bl b=>!.bool b
 |_,.int i=>!.int i
 |_,.str x=>!.str x
 |_,.ty _=>none
 |0,.ref _=>none
 |0,.tup _=>none
 |n+1,.ref a=>match f6 g a with
  |some l=>(l.mapM (rd g n)).map .list
  |none=>none
 |n+1,.tup l=>(l.mapM (rd g n)).map .tuple
abbrev sT(g:G)(l:@&D):Option (@&PyData):=l.mapM (rd g 6)
abbrev E2(g:G):D->Option (@&D)
 |.tup l=>!l
 |.ref a=>f6 g a
 |_=>none
abbrev X9:D->Bool
 |.aW=>true
 |_=>false
abbrev cut{α:Type}(xs:List α)(lo hi:Option Int):List α:=(xs.drop (HT.dW (-xs) 0 lo)).take (HT.dW (-xs) (-xs) hi-HT.dW (-xs) 0 lo)
abbrev si(g:G)(x:D)(c:String):Option Bool:=match x with
 |.aW=>!(c=="NoneType")
 |.bl _=>!(c=="bool"||c=="int")
 |.int _=>!(c=="int")
 |.str _=>!(c=="str")
 |.tup _=>!(c=="tuple")
 |.ref a=>match g[a]? with
  |some (.lst _)=>!(c=="list")
  |some (.ins _ _)=>!false
  |_=>none
 |.ty _=>none
abbrev o7(lo:Int)(n:Nat):@&D:=(List.range n).map λ(k:Nat)=>.int (lo+k)
abbrev Y3:@&D->Option Bool
 |[]=>!true
 |.bl b::r=>(Y3 r).map λc=>b&&c
 |_=>none
inductive Pr where
 |bin (op:Operator)|un (op:UnaryOp)|cmp (op:CmpOp)
 |ix|kn (lo hi:Bool)|tup|lst|ph
 |len|list|tuple|isin|all|max|int|str|kP|wF
 |JK|oR|mf|fv|nA|fld (f:Str)
 |append|pop|index|join|iadd|any|split|gc
noncomputable abbrev DR:=@&D->G->D->G->Prop
abbrev arR:Operator->Int->Int->Int->Prop
 |.Add,i,j,r=>r=i+j
 |.Sub,i,j,r=>r=i-j
 |.Mult,i,j,r=>ub i j/\r=i*j
 |.FloorDiv,i,j,r=>EW i j/\r=i / j
 |.Mod,i,j,r=>0<j/\r=i % j
 |.Pow,i,j,r=>qT i j/\r=i ^ j.toNat
 |.LShift,i,j,r=>qT i j/\r=i*2 ^ j.toNat
 |.BitAnd,i,j,r=>r=Builtin.bitAnd i j
 |.BitOr,i,j,r=>r=Builtin.bitOr i j
 |_,_,_,_=>False
def UO(op:Operator):DR:=λxs g d g' =>
 (∃i j r,xs=[.int i,.int j]/\arR op i j r/\d=.int r/\g'=g) \/
 (op=.Add/\((∃ l m,xs=[.tup l,.tup m]/\-l + -m <= 100000/\d=.tup (l ++ m)/\g'=g) \/
  (∃a b l m,xs=[.ref a,.ref b]/\g[a]?=!.lst l/\g[b]?=!.lst m/\-l+-m<=100000/\d=.ref (-g)/\g'=g++[.lst (l++m)]) \/
  (∃ x y,xs=[.str x,.str y]/\-x + -y <= 100000/\d=.str (x ++ y)/\g'=g))) \/
 (op=.Mult/\∃x n,xs=[.str x,.int n]/\((n=0/\d=.str Str.empty)\/(n=1/\d=.str x))/\g'=g) \/
 (op=.Mult/\((∃ a l n,xs=[.ref a,.int n]/\g[a]?=!.lst l/\-(2 ^ 62) <= n/\n < 2 ^ 62/\-l * n.toNat <= 100000/\d=.ref (-g)/\g'=g ++ [.lst (List.replicate n.toNat l).flatten]) \/
  (∃ l n,xs=[.tup l,.int n]/\l ≠ []/\1 <= n/\n < 2 ^ 62/\-l * n.toNat <= 100000/\d=.tup (List.replicate n.toNat l).flatten/\g'=g)))
def Ru(op:UnaryOp):DR:=λxs g d g'=>op=.USub/\∃i,xs=[.int i]/\d=.int (-(i))/\g'=g
abbrev yy(g:G)(x y:D)(b:Bool):Prop :=
 (∃i j,x=.int i/\y=.int j/\b=decide (i=j))\/(∃i j,x=.bl i/\y=.bl j/\b=(i==j))\/(∃i j,x=.str i/\y=.str j/\b=decide (i=j)) \/
 ∃p q,rd g 6 x=!p/\rd g 6 y=!q/\p.canLay0=true/\q.canLay0=true/\b=PyData.eqv p q
abbrev inR(g:G)(x y:D)(b:Bool):Prop :=
 (∃a kvs c,y=.ref a/\g[a]?=!.du kvs/\sj x=!c/\b=(J0 kvs c).isSome) \/
 ∃l ps p,E2 g y=!l/\sT g l=!ps/\rd g 6 x=!p/\PyData.canLayAll0 ps=true/\p.canLay0=true/\b=(ps.any λq=>PyData.eqv q p)
def LR(g:G)(x y:D)(b:Bool):Prop:=∃a S n i,y=.ref a/\g[a]?=!.set S n/\x=.int i/\b=S i
def LW(x y:D)(b:Bool):Prop:=∃i j,x=.str i/\y=.str j/\b= ~~~(Builtin.Str.occurrences j i 0 (-j) 1).isEmpty
abbrev sgn(a:Str):@&D:=a.cps.toList.map λc=>.str #[(List.toArray [c])]
abbrev Lx(g:G)(x y:D)(b:Bool):CmpOp->Prop
 |.Eq=>yy g x y b
 |.NotEq=>yy g x y (~~~b)
 |.In=>inR g x y b\/LR g x y b\/LW x y b
 |.NotIn=>inR g x y (~~~b)\/LR g x y (~~~b)\/LW x y (~~~b)
 |.Lt=>∃i j,x=.int i/\y=.int j/\b=decide (i<j)
 |.LtE=>∃i j,x=.int i/\y=.int j/\b=decide (i<=j)
 |.Gt=>∃i j,x=.int i/\y=.int j/\b=decide (j<i)
 |.GtE=>∃i j,x=.int i/\y=.int j/\b=decide (j<=i)
 |.Is=>y=.aW/\b=X9 x
 |.IsNot=>y=.aW/\b= ~~~X9 x
def UT(op:CmpOp):DR:=λxs g d g'=>∃x y b,xs=[x,y]/\Lx g x y b op/\d=.bl b/\g'=g
abbrev LY(g:G)(x:D)(b:Bool):Prop :=
 (x=.aW/\b=false)\/x=.bl b\/(∃i,x=.int i/\b=(i != 0))\/(∃l,x=.tup l/\b= ~~~l.isEmpty)\/∃a l,x=.ref a/\f6 g a=!l/\b= ~~~l.isEmpty
def Sj:DR:=λxs g d g'=>g'=g/\((∃x l i,xs=[x,.int i]/\E2 g x=!l/\jd l i=!d)\/(∃a kvs y c,xs=[.ref a,y]/\g[a]?=!.du kvs/\sj y=!c/\J0 kvs c=!d) \/
 ∃ x i c,xs=[.str x,.int i]/\-x <= 100000/\jd x.cps.toList i=!c/\d=.str #[(List.toArray [c])])
def wJ(x:D)(lo hi:Option Int)(g:G)(d:D)(g':G):Prop:=(∃l,x=.tup l/\d=.tup (cut l lo hi)/\g'=g)\/(∃a l,x=.ref a/\f6 g a=!l/\d=.ref (-g)/\g'=g++[.lst (cut l lo hi)])\/∃a:Str,x=.str a/\-a<=100000/\d=.str (L2.S9 a lo hi)/\g'=g
abbrev b93:Bool->Bool->DR
 |false,false,xs,g,d,g'=>∃x,xs=[x]/\wJ x none none g d g'
 |true,false,xs,g,d,g'=>∃x i,xs=[x,.int i]/\wJ x (!i) none g d g'
 |false,true,xs,g,d,g'=>∃x j,xs=[x,.int j]/\wJ x none (!j) g d g'
 |true,true,xs,g,d,g'=>∃x i j,xs=[x,.int i,.int j]/\wJ x (!i) (!j) g d g'
def b75:DR:=λxs g d g'=>-xs<=1000/\d=.tup xs/\g'=g
def Vj:DR:=λxs g d g'=>-xs<=1000/\d=.ref (-g)/\g'=g++[.lst xs]
abbrev vD:@&D->@&(Key×D)->Option (List (Key×D))
 |[],kvs=>!kvs
 |k::v::r,kvs=>(sj k).bind λc=>vD r (putD kvs c v)
 |_,_=>none
def b50:DR:=λxs g d g'=>xs=[]/\d=.ref (-g)/\g'=g++[.du []]
def Vi:DR:=λxs g d g'=>g'=g/\((∃x l,xs=[x]/\E2 g x=!l/\d=.int (-l))\/False\/∃x,xs=[.str x]/\-x<=100000/\d=.int (-x))
def b28:DR:=λxs g d g'=>(∃x l,xs=[x]/\E2 g x=!l/\d=.ref (-g)/\g'=g++[.lst l])\/False
def bI4:DR:=λxs g d g'=>∃x l,xs=[x]/\E2 g x=!l/\d=.tup l/\g'=g
def b38:DR:=λxs g d g'=>∃x c b,xs=[x,.ty c]/\c∈["int","bool","str","tuple","list"]/\si g x c=!b/\d=.bl b/\g'=g
def allR:DR:=λxs g d g'=>∃a l b,xs=[.ref a]/\f6 g a=!l/\(Y3 l=!b\/∃ns:@&Int,l=ns.map .int/\b=ns.all λn=>n != 0)/\d=.bl b/\g'=g
abbrev Y2:@&D->Option Bool
 |[]=>!false
 |.bl b::r=>(Y2 r).map λc=>b||c
 |_=>none
def anyR:DR:=λxs g d g'=>∃a l b,xs=[.ref a]/\f6 g a=!l/\Y2 l=!b/\d=.bl b/\g'=g
def Vl:DR:=λxs g d g'=>g'=g/\((∃i j,xs=[.int i,.int j]/\d=.int (if j>i then j else i))\/∃a,∃(ns:@&Int) (M:Int),xs=[.ref a]/\f6 g a=!ns.map .int/\M∈ns/\(∀x∈ns,x<=M)/\d=.int M)
def Vg:DR:=λxs g d g'=>g'=g/\((∃i,xs=[.int i]/\d=.int i)\/(∃b,xs=[.bl b]/\d=.int (if b then 1 else 0))\/∃x n,xs=[.str x]/\-x<=640/\PySem.intText? x=!n/\d=.int n)
def bK7:DR:=λxs g d g'=>∃a b:Str,xs=[.str a,.str b]/\(-b==0)=false/\-a<=100000/\(Txt.split a b).length<=100000/\d=.ref (-g)/\g'=g++[.lst ((Txt.split a b).map .str)]
def Xc:DR:=λxs g d g'=>∃a i l y,xs=[.ref a,.int i,y]/\g[a]?=!.lst l/\0<=i/\i<=100000/\-l<100000/\d=.aW/\g'=g.set a (.lst (l.take i.toNat++y::l.drop i.toNat))
def b91:DR:=λxs g d g'=>(∃i,xs=[.int i]/\i.natAbs.log2<1920/\d=.str (toString i)/\g'=g)\/∃x,xs=[.str x]/\d=.str x/\g'=g
def bS3:DR:=λxs g d g'=>∃i j,xs=[.int i,.int j]/\(-(2 ^ 62)<=i/\i<2 ^ 62/\-(2 ^ 62)<=j/\j<2 ^ 62/\j-i<=100000)/\d=.ref (-g)/\g'=g++[.lst (o7 i (j-i).toNat)]
def b90:DR:=λxs g d g'=>∃ns ms:@&Int,xs=[.tup (ns.map .int),.tup (ms.map .int)]/\(∀k∈ns,ST.Spot k)/\(∀k∈ms,ST.Spot k)/\-ns+-ms<50/\d=.ref (-g)/\g'=g++[.lst ((T3 (ns++ms)).map .int)]
def Fj(neg:Bool):DR:=λxs g d g'=>∃kvs x,xs=[.tup kvs,.str x]/\d=.bl (xor neg (N6 kvs x).isSome)/\g'=g
def b44:DR:=λxs g d g'=>∃kvs x,xs=[.tup kvs,.str x]/\N6 kvs x=!d/\g'=g
def Us:DR:=λxs g d g'=>g'=g/\((∃i,xs=[.int i]/\i.natAbs.log2<1920/\d=.str (toString i))\/∃x,xs=[.str x]/\-x<=2000/\d=.str x)
def b47:DR:=λxs g d g'=>∃x,X8 xs=!x/\d=.str x/\g'=g
def UY(f:Str):DR:=λxs g d g'=>∃a c fs,xs=[.ref a]/\g[a]?=!.ins c fs/\fs.lookup f=!d/\g'=g
def appendR:DR:=λxs g d g'=>∃a y l,xs=[.ref a,y]/\g[a]?=!.lst l/\-l<100000/\d=.aW/\g'=g.set a (.lst (l++[y]))
def Vv:DR:=λxs g d g'=>∃a i l k,xs=[.ref a,.int i]/\g[a]?=!.lst l/\-(2 ^ 63)<=i/\i<2 ^ 63/\seqIndex? i (-l)=!k/\l[k]?=!d/\g'=g.set a (.lst (l.eraseIdx k))
abbrev vM:D->Bool
 |.aW=>true
 |.bl _=>true
 |.int _=>true
 |.str _=>true
 |_=>false
abbrev toV:D->V
 |.bl b=>.bl b
 |.int i=>.int i
 |.str x=>.str x
 |_=>.aW
def S7(l:@&D)(y:D)(n:Nat):Prop:=l.all vM=true/\vM y=true/\(∃z,l[n]?=!z/\mF (toV z) (toV y)=true)/\∀(m:Nat) z,m<n->l[m]?=!z->mF (toV z) (toV y)=false
def bU3:DR:=λxs g d g'=>∃x y l n,xs=[x,y]/\E2 g x=!l/\S7 l y n/\-l<=100000/\d=.int n/\g'=g
def joinR:DR:=λxs g d g'=>∃sep a ys,xs=[.str sep,.ref a]/\f6 g a=!ys.map .str/\u9 sep ys<=100000/\d=.str (Builtin.Str.glued sep ys)/\g'=g
def b40:DR:=λxs g d g'=>(∃i j,xs=[.int i,.int j]/\d=.int (i+j)/\g'=g)\/∃l m,xs=[.tup l,.tup m]/\-l+-m<=100000/\d=.tup (l++m)/\g'=g
abbrev PR:Pr->DR
 |.split=>bK7
 |.gc=>Xc
 |.any=>anyR
 |.bin op=>UO op
 |.un op=>Ru op
 |.cmp op=>UT op
 |.ix=>Sj
 |.kn a b=>b93 a b
 |.tup=>b75
 |.lst=>Vj
 |.ph=>b50
 |.len=>Vi
 |.list=>b28
 |.tuple=>bI4
 |.isin=>b38
 |.all=>allR
 |.max=>Vl
 |.int=>Vg
 |.str=>b91
 |.kP=>bS3
 |.wF=>b90
 |.JK=>Fj false
 |.oR=>Fj true
 |.mf=>b44
 |.fv=>Us
 |.nA=>b47
 |.fld f=>UY f
 |.append=>appendR
 |.pop=>Vv
 |.index=>bU3
 |.join=>joinR
 |.iadd=>b40
def cC(p:Pr)(xs:@&D)(g:G)(Q:KD):Prop:=∃d g',PR p xs g d g'/\Q d g'
def yz(g:G)(x y:D)(k:Bool->Prop):Prop:=∃b,yy g x y b/\k b
def uT(g:G)(x y:D)(k:Bool->Prop):Prop:=∃b,inR g x y b/\k b
def ui(g:G)(x:D)(k:Bool->Prop):Prop:=∃b,LY g x b/\k b
def b96(x y v:D)(g g':G):Prop:=(∃a i l j,x=.ref a/\y=.int i/\g[a]?=!.lst l/\kr (-l) i=!j/\g'=g.set a (.lst (l.set j v))) \/
 ∃a kvs c,x=.ref a/\g[a]?=!.du kvs/\sj y=!c/\-kvs<100000/\g'=g.set a (.du (putD kvs c v))
def U9(x y v:D)(g:G)(k:G->Prop):Prop:=∃g',b96 x y v g g'/\k g'
def Kx(f:Str)(cs:@&Str)(x v:D)(g g':G):Prop:=∃a c fs,x=.ref a/\g[a]?=!.ins c fs/\c∈cs/\-fs<100/\g'=g.set a (.ins c (x8 f v fs))
def yN(f:Str)(cs:@&Str)(x v:D)(g:G)(k:G->Prop):Prop:=∃g',Kx f cs x v g g'/\k g'
abbrev mY:Pr->D->G->Prop
 |.join,x,g=>∃y,x=.str y
 |.split,x,g=>∃y,x=.str y
 |.index,x,g=>(∃l,x=.tup l)\/∃a l,x=.ref a/\f6 g a=!l
 |_,x,g=>∃a l,x=.ref a/\f6 g a=!l
inductive IK where
 |fix (l:@&D)|lst (a:Nat)|Ux (a:Nat)|RE (a n:Nat)|uH (l:@&D) (a:Nat)
abbrev IK.at:IK->Nat->G->Option (Option D)
 |.fix l,i,_=>some l[i]?
 |.lst a,i,g=>match f6 g a with
  |some l=>some l[i]?
  |none=>none
 |.Ux a,i,g=>match f6 g a with
  |some l=>!(l[i]?.map λd=>.tup [.int i,d])
  |none=>none
 |.uH l a,i,g=>match f6 g a with
  |some m=>if (-l)=-m then some ((l.zip m)[i]?.map λp=>.tup [p.1,p.2]) else none
  |none=>none
 |.RE a n,i,g=>match f6 g a with
  |some l=>if (-l)=n then some (if i<n then l[n-1-i]? else none) else none
  |none=>none
inductive MT where
 |one (i:Nat)|many (is:@&Nat)
abbrev R0:@&Nat->@&D->S->Option S
 |[],[],σ=>!σ
 |i::is,d::ds,σ=>R0 is ds (σ.set i (!d))
 |_,_,_=>none
def mU(t:MT)(x:D)(σ:S)(k:S->Prop):Prop:=match t with
 |.one i=>k (σ.set i (!x))
 |.many is=>∃l cJ,x=.tup l/\R0 is l σ=!cJ/\k cJ
set_option genInjectivity false in
set_option genSizeOf false in
inductive ME where
 |var (i:Nat)|lit (d:D)
 |nil|cons (a b:ME)|prim (p:Pr) (es:ME)|cK (p:Pr) (o es:ME)|pj (es:ME)
 |chain (o1 o2:CmpOp) (a b c:ME)
 |fU (a b:ME)|gW (a b:ME)|eF (a:ME)|ite (c a b:ME)
 |call (f:Nat) (es:ME)|make (c:Str) (f:Nat) (es:ME)|cA (m:Str) (cs:@&(Str×Nat)) (o es:ME)
 |comp (i3:@&Nat) (n:Nat) (tg:MT) (it cond elt:ME)
 |jF (e:ME)|ij (a:ME)|jk (a b:ME)|pF (a b:ME)|fQ (e:ME)|no
noncomputable abbrev gu:=Nat->@&D->G->KD->KX->Prop
def ur(σ:S)(i3:@&Nat)(n:Nat):S:=i3.map (λj=>(σ[j]?).join)++List.replicate (n- -i3) none
abbrev turns(k:IK)(σ:S)(g:G)(fin:S->G->Prop)(turn:D->(S->G->Prop)->S->G->Prop):Prop :=
 ∃W:Nat->Nat->S->G->Prop,(∃m,W 0 m σ g)/\∀i m σ g,W i m σ g->(k.at i g=!none/\fin σ g)\/∃x,k.at i g=!!x/\∃N2:S->G->Prop,(∀cJ g',N2 cJ g'->∃m',m'<m/\W (i+1) m' cJ g')/\turn x N2 σ g
abbrev HE(k:IK)(σ:S)(g:G)(fin:@&D->G->Prop)(turn:D->(Option D->S->G->Prop)->S->G->Prop):Prop :=
 ∃W:Nat->Nat->@&D->S->G->Prop,(∃m,W 0 m [] σ g)/\∀i m ys σ g,W i m ys σ g->(k.at i g=!none/\fin ys g) \/
  ∃x,k.at i g=!!x/\-ys<100000/\turn x (λy cJ g'=>∃m',m'<m/\W (i+1) m' (ys++y.toList) cJ g') σ g
mutual
noncomputable def bh(P:gu):ME->S->G->KD->KX->Prop
 |.var i,σ,g,Q,_=>∃d,σ[i]?=!!d/\Q d g
 |.lit d,_,g,Q,_=>Q d g
 |.prim p es,σ,g,Q,E=>gh P es σ g (λxs g1=>cC p xs g1 Q) E
 |.cK p o es,σ,g,Q,E=>bh P o σ g (λx g1=>mY p x g1/\gh P es σ g1 (λxs g2=>cC p (x::xs) g2 Q) E) E
 |.pj es,σ,g,Q,E=>gh P es σ (g++[.du []]) (λxs g1=>∃kvs,vD xs []=!kvs/\-xs<=30/\g1[(-g)]?=!.du []/\Q (.ref (-g)) (g1.set (-g) (.du kvs))) E
 |.chain o1 o2 a b c,σ,g,Q,E=>bh P a σ g (λx g1=>bh P b σ g1 (λy g2=>cC (.cmp o1) [x,y] g2 λz g3=>∃t,z=.bl t/\if t=true then bh P c σ g3 (λw g4=>cC (.cmp o2) [y,w] g4 Q) E else Q (.bl false) g3) E) E
 |.fU a b,σ,g,Q,E=>bh P a σ g (λx g1=>∃t,x=.bl t/\if t=true then bh P b σ g1 Q E else Q (.bl false) g1) E
 |.gW a b,σ,g,Q,E=>bh P a σ g (λx g1=>∃t,x=.bl t/\if t=true then Q (.bl true) g1 else bh P b σ g1 Q E) E
 |.eF a,σ,g,Q,E=>bh P a σ g (λx g1=>∃t,x=.bl t/\Q (.bl (~~~t)) g1) E
 |.ite c a b,σ,g,Q,E=>fk P c σ g (λt g1=>if t=true then bh P a σ g1 Q E else bh P b σ g1 Q E) E
 |.call f es,σ,g,Q,E=>gh P es σ g (λxs g1=>P f xs g1 Q E) E
 |.make c f es,σ,g,Q,E=>gh P es σ g (λxs g1=>P f (.ref (-g1)::xs) (g1++[.ins c []]) (λd g2=>d=.aW/\Q (.ref (-g1)) g2) E) E
 |.cA m cs o es,σ,g,Q,E=>bh P o σ g (λx g1=>∃a c fs f,x=.ref a/\g1[a]?=!.ins c fs/\fs.lookup m=none/\cs.lookup c=!f/\gh P es σ g1 (λxs g2=>P f (x::xs) g2 Q E) E) E
 |.comp i3 n tg it cond elt,σ,g,Q,E=>km P it σ g (λk g1=>HE k (ur σ i3 n) g1 (λys g=>Q (.ref (-g)) (g++[.lst ys])) λx N σ g=>mU tg x σ λfj=>fk P cond fj g (λb g3=>if b=true then bh P elt fj g3 (λy g4=>N (!y) fj g4) nO else N none fj g3) nO) E
 |.nil,_,_,_,_=>False
 |.cons _ _,_,_,_,_=>False
 |.jF _,_,_,_,_=>False
 |.ij _,_,_,_,_=>False
 |.jk _ _,_,_,_,_=>False
 |.pF _ _,_,_,_,_=>False
 |.fQ _,_,_,_,_=>False
 |.no,_,_,_,_=>False
noncomputable def gh(P:gu):ME->S->G->(List D->G->Prop)->KX->Prop
 |.nil,_,g,Q,_=>Q [] g
 |.cons a b,σ,g,Q,E=>bh P a σ g (λx g1=>gh P b σ g1 (λxs g2=>Q (x::xs) g2) E) E
 |_,_,_,_,_=>False
noncomputable def fk(P:gu):ME->S->G->(Bool->G->Prop)->KX->Prop
 |.fU a b,σ,g,Q,E=>fk P a σ g (λt g1=>if t=true then fk P b σ g1 Q E else Q false g1) E
 |.gW a b,σ,g,Q,E=>fk P a σ g (λt g1=>if t=true then Q true g1 else fk P b σ g1 Q E) E
 |.eF a,σ,g,Q,E=>fk P a σ g (λt g1=>Q (~~~t) g1) E
 |.no,_,g,Q,_=>Q true g
 |.fQ e,σ,g,Q,E=>bh P e σ g (λx g1=>ui g1 x λb=>Q b g1) E
 |_,_,_,_,_=>False
noncomputable def km(P:gu):ME->S->G->(IK->G->Prop)->KX->Prop
 |.jF e,σ,g,R,E=>bh P e σ g (λx g1=>(∃l,x=.tup l/\R (.fix l) g1)\/(∃a l,x=.ref a/\f6 g1 a=!l/\R (.lst a) g1)\/∃a:Str,x=.str a/\a.cps.all (·<128)=true/\R (.fix (sgn a)) g1) E
 |.ij a,σ,g,R,E=>bh P a σ g (λx g1=>∃j:Int,x=.int j/\-(2 ^ 62)<=j/\j<2 ^ 62/\R (.fix (o7 0 j.toNat)) g1) E
 |.jk a b,σ,g,R,E=>bh P a σ g (λx g1=>bh P b σ g1 (λy g2=>∃i j:Int,x=.int i/\y=.int j/\(-(2 ^ 62)<=i/\i<2 ^ 62/\-(2 ^ 62)<=j/\j<2 ^ 62)/\R (.fix (o7 i (j-i).toNat)) g2) E) E
 |.pF a b,σ,g,R,E=>bh P a σ g (λx g1=>bh P b σ g1 (λy g2=>∃l i m,x=.tup l/\y=.ref i/\f6 g2 i=!m/\R (.uH l i) g2) E) E
 |_,_,_,_,_=>False
end
set_option genInjectivity false in
set_option genSizeOf false in
inductive MS where
 |pass|seq (a b:MS)|expr (e:ME)|set (i:Nat) (e:ME)|uL (t:MT) (e:ME)|fo (o i v:ME)|fb (f:Str) (cs:@&Str) (o v:ME)
 |lr (f:Str) (cs:@&Str) (o v:ME)|rB (o1 i1 o2 i2 e:ME)|mT (i j:Nat) (e:ME)
 |ifs (c:ME) (a b:MS)|lh (t:MT) (it:ME) (b:MS)|ret (e:ME)|sS|brk|cont
 |raise (x:Str) (es:ME)|raiser (es:ME)|om (e:ME)|lS (e:ME) (y:Str) (rt iv:Bool) (i:Nat)
structure Ends where
 nx:S->G->Prop
 rt:KD
 bk:S->G->Prop:=λ_ _=>False
 ct:S->G->Prop:=λ_ _=>False
abbrev wpS(P:gu):MS->Ends->S->G->KX->Prop
 |.pass,N,σ,g,_=>N.nx σ g
 |.seq a b,N,σ,g,E=>wpS P a { N with nx:=λlR g1=>wpS P b N lR g1 E } σ g E
 |.expr e,N,σ,g,E=>bh P e σ g (λs g1=>N.nx σ g1) E
 |.set i e,N,σ,g,E=>bh P e σ g (λx g1=>N.nx (σ.set i (!x)) g1) E
 |.uL t e,N,σ,g,E=>bh P e σ g (λx g1=>mU t x σ λlR=>N.nx lR g1) E
 |.mT i j e,N,σ,g,E=>bh P e σ g (λv g1=>∃a x l,v=.ref a/\f6 g1 a=!(x::l)/\N.nx ((σ.set i (!x)).set j (!.ref (-g1))) (g1++[.lst l])) E
 |.fo o i v,N,σ,g,E=>bh P v σ g (λx g1=>bh P o σ g1 (λy g2=>bh P i σ g2 (λz g3=>U9 y z x g3 λg4=>N.nx σ g4) E) E) E
 |.fb f cs o v,N,σ,g,E=>bh P v σ g (λx g1=>bh P o σ g1 (λy g2=>yN f cs y x g2 λg3=>N.nx σ g3) E) E
 |.lr f cs o v,N,σ,g,E=>bh P o σ g (λy g1=>∃a c fs x,y=.ref a/\g1[a]?=!.ins c fs/\c∈cs/\fs.lookup f=!x/\bh P v σ g1 (λz g3=>cC .iadd [x,z] g3 λw g4=>∃jK,g4[a]?=!.ins c jK/\-jK<100/\N.nx σ (g4.set a (.ins c (x8 f w jK)))) E) E
 |.rB o1 i1 o2 i2 e,N,σ,g,E=>bh P e σ g (λx g1=>∃u v,x=.tup [u,v]/\bh P o1 σ g1 (λy1 g2=>bh P i1 σ g2 (λz1 g3=>U9 y1 z1 u g3 λg4=>bh P o2 σ g4 (λy2 g5=>bh P i2 σ g5 (λz2 g6=>U9 y2 z2 v g6 λg7=>N.nx σ g7) E) E) E) E) E
 |.ifs c a b,N,σ,g,E=>fk P c σ g (λt g1=>if t=true then wpS P a N σ g1 E else wpS P b N σ g1 E) E
 |.lh t it b,N,σ,g,E=>km P it σ g (λk g1=>turns k σ g1 N.nx λx N2 σ g=>mU t x σ λfj=>wpS P b { N with nx:=N2,ct:=N2,bk:=N.nx } fj g E) E
 |.ret e,N,σ,g,E=>bh P e σ g N.rt E
 |.sS,N,_,g,_=>N.rt .aW g
 |.brk,N,σ,g,_=>N.bk σ g
 |.cont,N,σ,g,_=>N.ct σ g
 |.raise x es,_,σ,g,E=>gh P es σ g (λvs g1=>-vs<=1000/\E #[x] g1) E
 |.raiser es,_,σ,g,E=>gh P es σ g (λvs g1=>∃n:Nat,vs=[.int n]/\E (J1 n) g1) E
 |.lS e y rt iv i,N,σ,g,E=>bh P e σ g (λd g1=>if rt=true then N.rt d g1 else N.nx σ g1) λx g1=>x.cls.cps.size≠1/\if x.cls=y\/y="MintError" then ∃n:Nat,(if iv=true then σ[i]?=some (!.int n) else i=n)/\E (J1 n) g1 else E x g1
 |.om e,N,σ,g,E=>bh P e σ g N.rt λx g1=>(∃n:Nat,x=J1 n/\N.rt (.ref (-g1)) (g1++[.lst [.int n]]))\/(x.cls.cps.size≠1/\E x g1)
structure ba where
 ar:Nat
 n:Nat
 body:MS
def d5(m:ba)(ds:@&D):S:=ds.map some++List.replicate (m.n- -ds) none
abbrev c9(T:Nat->Option ba):Nat->gu
 |0,_,_,_,_,_=>False
 |k+1,f,ds,g,Q,E=>∃m,T f=!m/\-ds=m.ar/\wpS (c9 T k) m.body #[λx g'=>Q .aW g',Q,λx x=>False,λx x=>False] (d5 m ds) g E
end M
namespace M
open PySem L2
variable{g:G}{K:PySem.W.Frag}{H:Hp}{a p:Addr}{vs:@&V}{i:Nat}{o:O}{u:HO}{l:@&D}
def p9{p xs}{Q Q':KD}(h:∀d g,Q d g->Q' d g)(q:cC p xs g Q):cC p xs g Q':=by
 let#[d,g',a,b]:=q;show#[d,g',a,h _ _ b]
def a43{x}{k k':Bool->Prop}(h:∀b,k b->k' b)(q:ui g x k):ui g x k':=by
 let#[b,a,z]:=q;show#[b,a,h _ z]
def K7{x y v}{k k':G->Prop}(h:∀g,k g->k' g)(q:U9 x y v g k):U9 x y v g k':=by
 let#[b,a,z]:=q;show#[b,a,h _ z]
def aX1{f cs x v}{k k':G->Prop}(h:∀g,k g->k' g)(q:yN f cs x v g k):yN f cs x v g k':=by
 let#[b,a,z]:=q;show#[b,a,h _ z]
def O9{t x σ}{k k':S->Prop}(h:∀σ,k σ->k' σ)(q:mU t x σ k):mU t x σ k':=by
 cases t with
 |one i=>show h _ q
 |many is=>let#[l,cJ,a,b,c]:=q;show#[l,cJ,a,b,h _ c]
def aW0{k σ g}{fin oZ:S->G->Prop}{turn kL:D->(S->G->Prop)->S->G->Prop}(h:∀σ g,fin σ g->oZ σ g)(h2:∀x N σ g,turn x N σ g->kL x N σ g)(q:turns k σ g fin turn):turns k σ g oZ kL:=by
 let#[W,w0,q]:=q;show#[W,w0,λi m σ g w=>?_];rcases q i m σ g w with⟨a,b⟩|⟨x,a,N2,b,c⟩
 .exact .inl #[a,h _ _ b]
 .exact .inr #[x,a,N2,b,h2 _ _ _ _ c]
def aN4{k σ g}{fin oZ:@&D->G->Prop}{turn kL:D->(Option D->S->G->Prop)->S->G->Prop}(h:∀ys g,fin ys g->oZ ys g)(h2:∀x N σ g,turn x N σ g->kL x N σ g)(q:HE k σ g fin turn):HE k σ g oZ kL:=by
 let#[W,w0,q]:=q;show#[W,w0,λi m ys σ g w=>?_];rcases q i m ys σ g w with⟨a,b⟩|⟨x,a,b,c⟩
 .exact .inl #[a,h _ _ b]
 .exact .inr #[x,a,b,h2 _ _ _ _ c]
def K3{t:Bool}{A B A' B':Prop}(h1:A->A')(h2:B->B')(q:if t=true then A else B):if t=true then A' else B':=by
 cases t
 .exact h2 q
 .exact h1 q
def k9(P:gu):Prop:=∀f xs g Q Q' E E',(∀d g,Q d g->Q' d g)->(∀x g,E x g->E' x g)->P f xs g Q E->P f xs g Q' E'
mutual
def d0{P:gu}(hP:k9 P):∀(e:ME) (σ:S) (g:G) (Q Q':KD) (E E':KX),(∀d g,Q d g->Q' d g)->(∀x g,E x g->E' x g)->bh P e σ g Q E->bh P e σ g Q' E'
 |.var i,σ,g,Q,Q',E,E',h,hx,q=>by
  let#[d,a,b]:=q;show#[d,a,h _ _ b]
 |.lit d,σ,g,Q,Q',E,E',h,hx,q=>by show h _ _ q
 |.prim p es,σ,g,Q,Q',E,E',h,hx,q=>by
  show p7 hP es _ _ _ _ _ _ (λxs g1 q=>p9 h q) hx q
 |.cK p o es,σ,g,Q,Q',E,E',h,hx,q=>by
  show d0 hP o _ _ _ _ _ _ (λx g1 q=>#[q.1,p7 hP es _ _ _ _ _ _ (λxs g2 q=>p9 h q) hx q.2]) hx q
 |.pj es,σ,g,Q,Q',E,E',h,hx,q=>by
  show p7 hP es _ _ _ _ _ _ (by rintro xs g1 ⟨kvs,a,b,c,d⟩;show #[kvs,a,b,c,h _ _ d]) hx q
 |.chain o1 o2 a b c,σ,g,Q,Q',E,E',h,hx,q=>by
  show d0 hP a _ _ _ _ _ _ (λx g1 q=>d0 hP b _ _ _ _ _ _ (λy g2 q=>p9 (λz g3 q=>?_) q) hx q) hx q;let#[t,e,q]:=q;show#[t,e,K3 (λq=>d0 hP c _ _ _ _ _ _ (λw g4 q=>p9 h q) hx q) (h _ _) q]
 |.fU a b,σ,g,Q,Q',E,E',h,hx,q=>by
  show d0 hP a _ _ _ _ _ _ (λx g1 q=>?_) hx q;let#[t,e,q]:=q;show#[t,e,K3 (λq=>d0 hP b _ _ _ _ _ _ h hx q) (h _ _) q]
 |.gW a b,σ,g,Q,Q',E,E',h,hx,q=>by
  show d0 hP a _ _ _ _ _ _ (λx g1 q=>?_) hx q;let#[t,e,q]:=q;show#[t,e,K3 (h _ _) (λq=>d0 hP b _ _ _ _ _ _ h hx q) q]
 |.eF a,σ,g,Q,Q',E,E',h,hx,q=>by
  show d0 hP a _ _ _ _ _ _ (λx g1 q=>?_) hx q;let#[t,e,q]:=q;show#[t,e,h _ _ q]
 |.ite c a b,σ,g,Q,Q',E,E',h,hx,q=>by
  show B3 hP c _ _ _ _ _ _ (λt g1 q=>K3 (λq=>d0 hP a _ _ _ _ _ _ h hx q) (λq=>d0 hP b _ _ _ _ _ _ h hx q) q) hx q
 |.call f es,σ,g,Q,Q',E,E',h,hx,q=>by
  show p7 hP es _ _ _ _ _ _ (λxs g1 q=>hP _ _ _ _ _ _ _ h hx q) hx q
 |.make c f es,σ,g,Q,Q',E,E',h,hx,q=>by
  show p7 hP es _ _ _ _ _ _ (λxs g1 q=>hP _ _ _ _ _ _ _ (λd g2 q=>#[q.1,h _ _ q.2]) hx q) hx q
 |.cA m cs o es,σ,g,Q,Q',E,E',h,hx,q=>by
  show d0 hP o _ _ _ _ _ _ (λx g1 q=>?_) hx q;let#[a,c,fs,f,q1,q2,q3,q4,q]:=q;show#[a,c,fs,f,q1,q2,q3,q4,p7 hP es _ _ _ _ _ _ (λxs g2 q=>hP _ _ _ _ _ _ _ h hx q) hx q]
 |.comp i3 n tg it cond elt,σ,g,Q,Q',E,E',h,hx,q=>by
  show O7 hP it _ _ _ _ _ _ (λk g1 q=>aN4 (λys g q=>h _ _ q) (λv v v v q=>q) q) hx q
 |.nil,σ,g,Q,Q',E,E',h,hx,q=>(show False from q).elim
 |.cons _ _,σ,g,Q,Q',E,E',h,hx,q=>(show False from q).elim
 |.jF _,σ,g,Q,Q',E,E',h,hx,q=>(show False from q).elim
 |.ij _,σ,g,Q,Q',E,E',h,hx,q=>(show False from q).elim
 |.jk _ _,σ,g,Q,Q',E,E',h,hx,q=>(show False from q).elim
 |.pF _ _,σ,g,Q,Q',E,E',h,hx,q=>(show False from q).elim
 |.fQ _,σ,g,Q,Q',E,E',h,hx,q=>(show False from q).elim
 |.no,σ,g,Q,Q',E,E',h,hx,q=>(show False from q).elim
def p7{P:gu}(hP:k9 P):∀(e:ME) (σ:S) (g:G) (Q Q':@&D->G->Prop) (E E':KX),(∀d g,Q d g->Q' d g)->(∀x g,E x g->E' x g)->gh P e σ g Q E->gh P e σ g Q' E'
 |.nil,σ,g,Q,Q',E,E',h,hx,q=>by show h _ _ q
 |.cons a b,σ,g,Q,Q',E,E',h,hx,q=>by
  show d0 hP a _ _ _ _ _ _ (λx g1 q=>p7 hP b _ _ _ _ _ _ (λxs g2 q=>h _ _ q) hx q) hx q
 |.var _,σ,g,Q,Q',E,E',h,hx,q|.lit _,σ,g,Q,Q',E,E',h,hx,q|.prim _ _,σ,g,Q,Q',E,E',h,hx,q|.cK _ _ _,σ,g,Q,Q',E,E',h,hx,q|.pj _,σ,g,Q,Q',E,E',h,hx,q|.chain _ _ _ _ _,σ,g,Q,Q',E,E',h,hx,q|.fU _ _,σ,g,Q,Q',E,E',h,hx,q|.gW _ _,σ,g,Q,Q',E,E',h,hx,q|.eF _,σ,g,Q,Q',E,E',h,hx,q|.ite _ _ _,σ,g,Q,Q',E,E',h,hx,q|.call _ _,σ,g,Q,Q',E,E',h,hx,q
 |.make _ _ _,σ,g,Q,Q',E,E',h,hx,q|.cA _ _ _ _,σ,g,Q,Q',E,E',h,hx,q|.comp _ _ _ _ _ _,σ,g,Q,Q',E,E',h,hx,q|.jF _,σ,g,Q,Q',E,E',h,hx,q|.ij _,σ,g,Q,Q',E,E',h,hx,q|.jk _ _,σ,g,Q,Q',E,E',h,hx,q|.pF _ _,σ,g,Q,Q',E,E',h,hx,q|.fQ _,σ,g,Q,Q',E,E',h,hx,q|.no,σ,g,Q,Q',E,E',h,hx,q=>(show False from q).elim
def B3{P:gu}(hP:k9 P):∀(e:ME) (σ:S) (g:G) (Q Q':Bool->G->Prop) (E E':KX),(∀d g,Q d g->Q' d g)->(∀x g,E x g->E' x g)->fk P e σ g Q E->fk P e σ g Q' E'
 |.fU a b,σ,g,Q,Q',E,E',h,hx,q=>by
  show B3 hP a _ _ _ _ _ _ (λt g1 q=>K3 (λq=>B3 hP b _ _ _ _ _ _ h hx q) (h _ _) q) hx q
 |.gW a b,σ,g,Q,Q',E,E',h,hx,q=>by
  show B3 hP a _ _ _ _ _ _ (λt g1 q=>K3 (h _ _) (λq=>B3 hP b _ _ _ _ _ _ h hx q) q) hx q
 |.eF a,σ,g,Q,Q',E,E',h,hx,q=>by show B3 hP a _ _ _ _ _ _ (λt g1 q=>h _ _ q) hx q
 |.no,σ,g,Q,Q',E,E',h,hx,q=>by show h _ _ q
 |.fQ e,σ,g,Q,Q',E,E',h,hx,q=>by show d0 hP e _ _ _ _ _ _ (λx g1 q=>a43 (λb q=>h _ _ q) q) hx q
 |.var _,σ,g,Q,Q',E,E',h,hx,q|.lit _,σ,g,Q,Q',E,E',h,hx,q|.prim _ _,σ,g,Q,Q',E,E',h,hx,q|.cK _ _ _,σ,g,Q,Q',E,E',h,hx,q|.pj _,σ,g,Q,Q',E,E',h,hx,q|.chain _ _ _ _ _,σ,g,Q,Q',E,E',h,hx,q|.ite _ _ _,σ,g,Q,Q',E,E',h,hx,q|.call _ _,σ,g,Q,Q',E,E',h,hx,q|.nil,σ,g,Q,Q',E,E',h,hx,q|.cons _ _,σ,g,Q,Q',E,E',h,hx,q
 |.make _ _ _,σ,g,Q,Q',E,E',h,hx,q|.cA _ _ _ _,σ,g,Q,Q',E,E',h,hx,q|.comp _ _ _ _ _ _,σ,g,Q,Q',E,E',h,hx,q|.jF _,σ,g,Q,Q',E,E',h,hx,q|.ij _,σ,g,Q,Q',E,E',h,hx,q|.jk _ _,σ,g,Q,Q',E,E',h,hx,q|.pF _ _,σ,g,Q,Q',E,E',h,hx,q=>(show False from q).elim
def O7{P:gu}(hP:k9 P):∀(e:ME) (σ:S) (g:G) (Q Q':IK->G->Prop) (E E':KX),(∀d g,Q d g->Q' d g)->(∀x g,E x g->E' x g)->km P e σ g Q E->km P e σ g Q' E'
 |.jF e,σ,g,Q,Q',E,E',h,hx,q=>by
  show d0 hP e _ _ _ _ _ _ (λx g1 q=>q.imp (by rintro ⟨l,a,b⟩;show #[l,a,h _ _ b]) λq=>q.imp (by rintro ⟨i,l,a,b,c⟩;show #[i,l,a,b,h _ _ c]) (by rintro ⟨a,b,c,d⟩;show #[a,b,c,h _ _ d])) hx q
 |.ij a,σ,g,Q,Q',E,E',h,hx,q=>by
  show d0 hP a _ _ _ _ _ _ (by rintro x g1 ⟨j,a,b,c,d⟩;show #[j,a,b,c,h _ _ d]) hx q
 |.jk a b,σ,g,Q,Q',E,E',h,hx,q=>by
  show d0 hP a _ _ _ _ _ _ (λx g1 q=>d0 hP b _ _ _ _ _ _ (by rintro y g2 ⟨i,j,a,b,c,d⟩;show #[i,j,a,b,c,h _ _ d]) hx q) hx q
 |.pF a b,σ,g,Q,Q',E,E',h,hx,q=>by
  show d0 hP a _ _ _ _ _ _ (λx g1 q=>d0 hP b _ _ _ _ _ _ (by rintro y g2 ⟨l,i,m,e1,e2,e3,q⟩;show #[l,i,m,e1,e2,e3,h _ _ q]) hx q) hx q
 |.var _,σ,g,Q,Q',E,E',h,hx,q|.lit _,σ,g,Q,Q',E,E',h,hx,q|.prim _ _,σ,g,Q,Q',E,E',h,hx,q|.cK _ _ _,σ,g,Q,Q',E,E',h,hx,q|.pj _,σ,g,Q,Q',E,E',h,hx,q|.chain _ _ _ _ _,σ,g,Q,Q',E,E',h,hx,q|.ite _ _ _,σ,g,Q,Q',E,E',h,hx,q|.call _ _,σ,g,Q,Q',E,E',h,hx,q|.nil,σ,g,Q,Q',E,E',h,hx,q|.cons _ _,σ,g,Q,Q',E,E',h,hx,q
 |.fU _ _,σ,g,Q,Q',E,E',h,hx,q|.gW _ _,σ,g,Q,Q',E,E',h,hx,q|.eF _,σ,g,Q,Q',E,E',h,hx,q|.fQ _,σ,g,Q,Q',E,E',h,hx,q|.no,σ,g,Q,Q',E,E',h,hx,q
 |.make _ _ _,σ,g,Q,Q',E,E',h,hx,q|.cA _ _ _ _,σ,g,Q,Q',E,E',h,hx,q|.comp _ _ _ _ _ _,σ,g,Q,Q',E,E',h,hx,q=>(show False from q).elim
end
structure Ends.le(N N':Ends):Prop where
 nx:∀σ g,N.nx σ g->N'.nx σ g
 rt:∀d g,N.rt d g->N'.rt d g
 bk:∀σ g,N.bk σ g->N'.bk σ g
 ct:∀σ g,N.ct σ g->N'.ct σ g
def wpS_mono{P:gu}(hP:k9 P):∀(s:MS) (N N':Ends) (σ:S) (g:G) (E E':KX),N.le N'->(∀x g,E x g->E' x g)->wpS P s N σ g E->wpS P s N' σ g E'
 |.pass,N,N',σ,g,E,E',h,hx,q=>h.nx _ _ q
 |.seq a b,N,N',σ,g,E,E',h,hx,q=>wpS_mono hP a { N with nx:=λlR g1=>wpS P b N lR g1 E } { N' with nx:=λlR g1=>wpS P b N' lR g1 E' } _ _ _ _ #[λlR g1 q=>wpS_mono hP b _ _ _ _ _ _ h hx q,h.rt,h.bk,h.ct] hx q
 |.expr e,N,N',σ,g,E,E',h,hx,q=>d0 hP e _ _ _ _ _ _ (λx g1 q=>h.nx _ _ q) hx q
 |.set i e,N,N',σ,g,E,E',h,hx,q=>d0 hP e _ _ _ _ _ _ (λx g1 q=>h.nx _ _ q) hx q
 |.uL t e,N,N',σ,g,E,E',h,hx,q=>d0 hP e _ _ _ _ _ _ (λx g1 q=>O9 (λσ q=>h.nx _ _ q) q) hx q
 |.mT i j e,N,N',σ,g,E,E',h,hx,q=>d0 hP e _ _ _ _ _ _ (by rintro x g1 ⟨a,y,l,e1,e2,q⟩;show #[a,y,l,e1,e2,h.nx _ _ q]) hx q
 |.fo o i v,N,N',σ,g,E,E',h,hx,q=>d0 hP v _ _ _ _ _ _ (λx g1 q=>d0 hP o _ _ _ _ _ _ (λy g2 q=>d0 hP i _ _ _ _ _ _ (λz g3 q=>K7 (λg q=>h.nx _ _ q) q) hx q) hx q) hx q
 |.fb f cs o v,N,N',σ,g,E,E',h,hx,q=>d0 hP v _ _ _ _ _ _ (λx g1 q=>d0 hP o _ _ _ _ _ _ (λy g2 q=>aX1 (λg q=>h.nx _ _ q) q) hx q) hx q
 | .lr f cs o v,N,N',σ,g,E,E',h,hx,q=>d0 hP o _ _ _ _ _ _ (λy g1 q=>by
   let#[a,c,fs,x,q1,q2,q3,q4,q]:=q;show #[a,c,fs,x,q1,q2,q3,q4,d0 hP v _ _ _ _ _ _ (λz g3 q=>p9 (λw g4 q=>by
    let#[jK,k1,k2,k3]:=q;show #[jK,k1,k2,h.nx _ _ k3]) q) hx q]) hx q
 |.rB o1 i1 o2 i2 e,N,N',σ,g,E,E',h,hx,q=>d0 hP e _ _ _ _ _ _ (λx g1 q=>let ⟨u,v,q1,q⟩:=q;#[u,v,q1,d0 hP o1 _ _ _ _ _ _ (λy g2 q=>d0 hP i1 _ _ _ _ _ _ (λz g3 q=>K7 (λg4 q=>d0 hP o2 _ _ _ _ _ _ (λy g5 q=>d0 hP i2 _ _ _ _ _ _ (λz g6 q=>K7 (λg q=>h.nx _ _ q) q) hx q) hx q) q) hx q) hx q]) hx q
 |.ifs c a b,N,N',σ,g,E,E',h,hx,q=>B3 hP c _ _ _ _ _ _ (λt g1 q=>K3 (λq=>wpS_mono hP a _ _ _ _ _ _ h hx q) (λq=>wpS_mono hP b _ _ _ _ _ _ h hx q) q) hx q
 |.lh t it b,N,N',σ,g,E,E',h,hx,q=>O7 hP it _ _ _ _ _ _ (λk g1 q=>aW0 h.nx (λx N2 σ g q=>O9 (λfj q=>wpS_mono hP b { N with nx:=N2,ct:=N2,bk:=N.nx } { N' with nx:=N2,ct:=N2,bk:=N'.nx } _ _ _ _ #[λr r z=>z,h.rt,h.nx,λr r z=>z] hx q) q) q) hx q
 |.ret e,N,N',σ,g,E,E',h,hx,q=>d0 hP e _ _ _ _ _ _ h.rt hx q
 |.sS,N,N',σ,g,E,E',h,hx,q=>h.rt _ _ q
 |.brk,N,N',σ,g,E,E',h,hx,q=>h.bk _ _ q
 |.cont,N,N',σ,g,E,E',h,hx,q=>h.ct _ _ q
 |.raise x es,N,N',σ,g,E,E',h,hx,q=>p7 hP es _ _ _ _ _ _ (λvs g1 q=>#[q.1,hx _ _ q.2]) hx q
 |.raiser es,N,N',σ,g,E,E',h,hx,q=>p7 hP es _ _ _ _ _ _ (by rintro vs g1 ⟨n,a,b⟩;show #[n,a,hx _ _ b]) hx q
 | .lS e y rt iv i,N,N',σ,g,E,E',h,hx,q=>d0 hP e _ _ _ _ _ _ (λd g1 z=>by
  by_cases c:rt=true
  .rw[au c] at z ⊢;show h.rt _ _ z
  .rw [aq c] at z ⊢;show h.nx _ _ z) (λx g1 ⟨a,z⟩=>#[a,by
  by_cases c:x.cls=y\/y="MintError"
  .rw[au c] at z ⊢;let#[n,b,z]:=z;show#[n,b,hx _ _ z]
  .rw [aq c] at z ⊢;show hx _ _ z]) q
 |.om e,N,N',σ,g,E,E',h,hx,q=>d0 hP e _ _ _ _ _ _ h.rt (λx g1 z=>z.imp (by rintro ⟨n,a,b⟩;show #[n,a,h.rt _ _ b]) (by rintro ⟨a,b⟩;show #[a,hx _ _ b])) q
def d9(T:Nat->Option ba):∀k,k9 (c9 T k)
 |0=>λf xs g Q Q' E E' h hx q=>q.elim
 |k+1=>λf xs g Q Q' E E' h hx q=>by
  let#[m,a,b,q]:=q;show#[m,a,b,wpS_mono (d9 T k) m.body #[λx g'=>Q .aW g',Q,λx x=>False,λx x=>False] _ _ _ _ _ #[λx x z=>h _ _ z,h,λx x z=>z,λx x z=>z] hx q]
structure Cls(K:PySem.W.Frag)(C:Addr):Prop extends L2.Cls K C where
 ci:PySem.W.findIn K (.ref C) "__class__"=!!(.builtin "object.__class__")
 cn:PySem.W.specialIn K (.builtin "object.__class__") "__get__"=!!(.builtin "getset_descriptor.__get__")
 ct:PySem.W.takesIn K (.builtin "object.__class__")=!true
 cm:PySem.W.mroIn K C (.type "object")=!true
 ck:(["int","bool","str","tuple","list"].all λc=>decide (PySem.W.kitOne K (.ref C) (.type c)=!false))=true
def Cls.Sh{C:Addr}(h:Cls K C){c:String}(hc:c∈["int","bool","str","tuple","list"]):PySem.W.kitOne K (.ref C) (.type c)=!false:=br (bw.mp h.ck c hc)
instance{K:PySem.W.Frag}{C:Addr}:Coe (Cls K C) (L2.Cls K C):=#[λh=>h.toCls]
abbrev TupAt(K:PySem.W.Frag)(H:Hp)(a:Addr)(vs:@&V):Prop :=
 H a=!.tup vs\/∃(o:Obj) (bc:Array Value) (n:Nat),K.lookup a=!o/\o.cls=.type "tuple"/\o.dict=none/\o.data=.seq bc n/\bc.size<=sizeLine/\Vals vs bc.toList
def TupAt.d(h:TupAt K H a vs):zk K H a vs:=h
def TupAt.sq{K:PySem.W.Frag}{H:Hp}{a:Addr}{vs:@&V}(h:TupAt K H a vs):iB K H a vs:=h.d.sq
mutual
inductive d8(K:PySem.W.Frag)(ρ:@&Addr)(H:Hp):D->V->Prop
 |aW:d8 K ρ H .aW .aW
 |bl (b:Bool):d8 K ρ H (.bl b) (.bl b)
 |int (i:Int):d8 K ρ H (.int i) (.int i)
 |str (x:Str):d8 K ρ H (.str x) (.str x)
 |ty (n:String):d8 K ρ H (.ty n) (.ty n)
 |ref {i:Nat} {a:Addr} (h:ρ[i]?=!a):d8 K ρ H (.ref i) (.ref a)
 |tup {l:@&D} {a:Addr} {vs:@&V} (h:TupAt K H a vs) (r:b0 K ρ H l vs):d8 K ρ H (.tup l) (.ref a)
inductive b0(K:PySem.W.Frag)(ρ:@&Addr)(H:Hp):@&D->@&V->Prop
 |nil:b0 K ρ H [] []
 |cons {d:D} {v:V} {ds:@&D} {vs:@&V} (h:d8 K ρ H d v) (r:b0 K ρ H ds vs):b0 K ρ H (d::ds) (v::vs)
end
structure Ext(ρ:@&Addr)(H:Hp)(bY:@&Addr)(H':Hp):Prop where
 pre:∃more,bY=ρ++more
 tup:∀a xs,H a=!.tup xs->H' a=!.tup xs
def Ext.refl(ρ:@&Addr)(H:Hp):Ext ρ H ρ H:=#[#[[],by simp],λx x h=>h]
def Ext.trans{ρ H cg H1 fX H2}(a:Ext ρ H cg H1)(b:Ext cg H1 fX H2):Ext ρ H fX H2:=by
 let#[#[m,rfl],t]:=a;let#[#[m',rfl],t']:=b;show#[#[m++m',by simp],λx xs h=>t' _ _ (t _ _ h)]
def Ext.get{ρ H bY H'}(e:Ext ρ H bY H')(h:ρ[i]?=!a):bY[i]?=!a:=by
 let#[#[m,rfl],_]:=e;rw[aG (aA.mp h).1];show h
def TupAt.ext{K ρ H bY H'}(e:Ext ρ H bY H')(h:TupAt K H a vs):TupAt K H' a vs:=h.elim (λz=>.inl (e.tup _ _ z)) .inr
mutual
def d8.ext{K ρ H bY H'}(e:Ext ρ H bY H'):∀{d v},d8 K ρ H d v->d8 K bY H' d v
 |_,_,.aW=>.aW
 |_,_,.bl b=>.bl b
 |_,_,.int i=>.int i
 |_,_,.str x=>.str x
 |_,_,.ty n=>.ty n
 |_,_,.ref h=>.ref (e.get h)
 |_,_,.tup h r=>.tup (h.ext e) (b0.ext e r)
def b0.ext{K ρ H bY H'}(e:Ext ρ H bY H'):∀{ds vs},b0 K ρ H ds vs->b0 K bY H' ds vs
 |_,_,.nil=>.nil
 |_,_,.cons h r=>.cons (d8.ext e h) (b0.ext e r)
end
def b0.length{K ρ H}{ds:@&D}{vs:@&V}(h:b0 K ρ H ds vs):-ds=-vs:=by
 induction ds generalizing vs with
 |nil=>cases h;rfl
 |cons d ds ih =>
  cases h with
  |cons q r=>simp[ih r]
def b0.get{K ρ H}:∀{ds vs} {i:Nat} {d:D},b0 K ρ H ds vs->ds[i]?=!d->∃v,vs[i]?=!v/\d8 K ρ H d v
 |_,_,_,_,.nil,h=>by simp at h
 |_,_,0,_,.cons h _,e=>by simp at e;subst e;show#[_,rfl,h]
 |_,_,i+1,d,.cons _ r,e=>by
  let#[v,h1,h2]:=b0.get r (_/e);show#[v,by simpa using h1,h2]
def b0.set{K ρ H}{d:D}{v:V}(h:d8 K ρ H d v):∀{ds vs} (i:Nat),b0 K ρ H ds vs->b0 K ρ H (ds.set i d) (vs.set i v)
 |_,_,_,.nil=>.nil
 |_,_,0,.cons _ r=>.cons h r
 |_,_,i+1,.cons q r=>.cons q (b0.set h i r)
def b0.append{K ρ H}{ds es:@&D}{ws:@&V}(h:b0 K ρ H ds vs)(s:b0 K ρ H es ws):b0 K ρ H (ds++es) (vs++ws):=by
 induction ds generalizing vs with
 |nil=>cases h;show s
 |cons d ds ih =>
  cases h with
  |cons q r=>show .cons q (ih r)
def b0.rep{K ρ H}{ds:@&D}{vs:@&V}(r:b0 K ρ H ds vs):∀n,b0 K ρ H (List.replicate n ds).flatten (List.replicate n vs).flatten
 |0=>.nil
 |n+1=>by
  show b0.append r (b0.rep r n)
def b0.erase{K ρ H}:∀{ds:@&D} {vs:@&V} (i:Nat),b0 K ρ H ds vs->b0 K ρ H (ds.eraseIdx i) (vs.eraseIdx i)
 |_,_,_,.nil=>.nil
 |_,_,0,.cons _ r=>r
 |_,_,i+1,.cons q r=>.cons q (b0.erase i r)
def b0.take{K ρ H}:∀{ds:@&D} {vs:@&V} (n:Nat),b0 K ρ H ds vs->b0 K ρ H (ds.take n) (vs.take n)
 |_,_,0,_=>.nil
 |_,_,_+1,.nil=>.nil
 |_,_,n+1,.cons h r=>.cons h (b0.take n r)
def b0.drop{K ρ H}:∀{ds:@&D} {vs:@&V} (n:Nat),b0 K ρ H ds vs->b0 K ρ H (ds.drop n) (vs.drop n)
 |_,_,0,r=>r
 |_,_,_+1,.nil=>.nil
 |_,_,n+1,.cons _ r=>b0.drop n r
def b0.cut{K ρ H}{ds:@&D}{vs:@&V}(r:b0 K ρ H ds vs)(lo hi:Option Int):b0 K ρ H (M.cut ds lo hi) (qY vs lo hi):=by
 unfold M.cut qY;rw[(-r)];show(r.drop _).take _
def b0.ints{K ρ H}:∀{ns:@&Int} {vs:@&V},b0 K ρ H (ns.map D.int) vs->vs=ns.map V.int
 |[],_,.nil=>rfl
 |_::_,_,.cons h r=>by cases h;rw[b0.ints r];rfl
def b0.ofInts{K ρ H}:∀(ns:@&Int),b0 K ρ H (ns.map D.int) (ns.map V.int)
 |[]=>.nil
 |n::r=>.cons (.int n) (b0.ofInts r)
abbrev vJ(K:PySem.W.Frag)(H:Hp)(a:Addr)(vs:@&V):Prop :=
 (∃o,H a=!.ky o (.lst vs))\/∃(o:Obj) (bc:Array Value) (n:Nat),K.lookup a=!o/\o.cls=.type "list"/\o.dict=none/\o.data=.seq bc n/\bc.size<=sizeLine/\Vals vs bc.toList
def vJ.sq(h:vJ K H a vs):gU K H a vs:=h.elim (by rintro ⟨o,z⟩;show .inl (.inr #[o,z])) .inr
inductive i8{α:Type}(K:PySem.W.Frag)(ρ:@&Addr)(H:Hp):@&(α×D)->@&(α×V)->Prop
 |nil:i8 K ρ H [] []
 |cons {k:α} {d:D} {v:V} {ds:@&(α×D)} {vs:@&(α×V)} (h:d8 K ρ H d v) (r:i8 K ρ H ds vs):i8 K ρ H ((k,d)::ds) ((k,v)::vs)
def i8.ext{α:Type}{K ρ H bY H'}(e:Ext ρ H bY H'){ds:@&(α×D)}{vs:@&(α×V)}(h:i8 K ρ H ds vs):i8 K bY H' ds vs:=by
 induction h with
 |nil=>show .nil
 |cons h r ih=>show .cons (h.ext e) ih
def i8.length{α:Type}{K ρ H}{ds:@&(α×D)}{vs:@&(α×V)}(h:i8 K ρ H ds vs):-ds=-vs:=by
 induction h with
 |nil=>rfl
 |cons h r ih=>simp[ih]
abbrev uk(K:PySem.W.Frag)(ρ:@&Addr)(H:Hp):Option D->Option V->Prop
 |some d,!v=>d8 K ρ H d v
 |none,none=>True
 |_,_=>False
def i8.val{K ρ H}:∀{ds vs} (k:Key),i8 K ρ H ds vs->uk K ρ H (J0 ds k) (O8 vs k)
 |_,_,k,.nil=>trivial
 |_,_,k,.cons (k:=k') h r=>by
  unfold J0 O8;rw[ju,ju];by_cases e:k'=k
  .simp only[e,decide_true];show h
  .simp only[e,decide_false];show i8.val k r
def i8.JX{K ρ H}:∀{ds vs} (k:Key),i8 K ρ H ds vs->(ds.any λkv=>decide (kv.1=k))=(vs.any λkv=>decide (kv.1=k))
 |_,_,k,.nil=>rfl
 |_,_,k,.cons h r=>by simp only[List.any_cons,i8.JX k r]
def i8.snoc{K ρ H}{k:Key}{d:D}{v:V}(h:d8 K ρ H d v){ds vs}(t:i8 K ρ H ds vs):i8 K ρ H (ds++[(k,d)]) (vs++[(k,v)]):=by
 induction ds generalizing vs with
 |nil=>cases t;show .cons h .nil
 |cons d ds ih =>
  cases t with
  |cons q r=>show .cons q (ih r)
def i8.Ho{K ρ H}{k:Key}{d:D}{v:V}(h:d8 K ρ H d v):∀{ds vs},i8 K ρ H ds vs->i8 K ρ H (ds.map λkv=>if kv.1=k then(kv.1,d) else kv) (vs.map λkv=>if kv.1=k then(kv.1,v) else kv)
 |_,_,.nil=>.nil
 |_,_,.cons (k:=k') q r=>by
  simp only[List.map_cons];by_cases e:k'=k
  .rw[au e,au e];show .cons h (i8.Ho h r)
  .rw[aq e,aq e];show .cons q (i8.Ho h r)
def i8.put{K ρ H}{k:Key}{d:D}{v:V}(h:d8 K ρ H d v){ds vs}(r:i8 K ρ H ds vs):i8 K ρ H (putD ds k d) (putK vs k v):=by
 unfold putD putK;rw[r.JX k];split
 .exact r.Ho h
 .exact r.snoc h
noncomputable abbrev i9(K:PySem.W.Frag)(x:Str)(C:Addr):Prop:=PySem.W.nsIn K mainGlobals x=!!.ref C
set_option tactic.hygienic true in
def i8.look{K ρ H}{ds:@&(Str×D)}{vs:@&(Str×V)}(f:Str)(h:i8 K ρ H ds vs):uk K ρ H (ds.lookup f) (vs.lookup f):=by
 induction h with
 |nil=>trivial
 |cons h r ih =>
  rename_i k d v ds vs;rw[dz,dz];cases f==k
  .exact ih
  .exact h
def i8.p8{K ρ H}{f:Str}{d:D}{v:V}(h:d8 K ρ H d v){ds:@&(Str×D)}{vs:@&(Str×V)}(r:i8 K ρ H ds vs):i8 K ρ H (x8 f d ds) (L2.p8 f v vs):=by
 induction r with
 |nil=>show .cons h .nil
 |cons q r ih =>
  unfold x8 L2.p8;split
  .exact .cons h r
  .exact .cons q ih
def GK{f:Str}{d:D}{p:Str->Prop}(hf:p f):∀{ds:@&(Str×D)},(∀x∈ds,p x.1)->∀x∈x8 f d ds,p x.1
 |[],_,x,hx=>by
  have:x=(f,d):=by simpa[x8] using hx
  simp_all
 |(k,e)::r,h,x,hx=>by
  unfold x8 at hx;split at hx
  .rcases aB.mp hx with z|z
   .rw[z];show h (k,e) #[_]
   .exact h x (by simp[z])
  .rcases aB.mp hx with z|z
   .rw[z];show h (k,e) #[_]
   .exact GK hf (λy hy=>h y (by simp[hy])) x z
abbrev OH(K:PySem.W.Frag)(ρ:@&Addr)(H:Hp):O->HO->Prop
 |.lst l,.lst vs=>b0 K ρ H l vs
 |.du kvs,.dK vs=>i8 K ρ H kvs vs
 |.set S n,.set S' n'=>S=S'/\n=n'
 |.ins c fs,.ins C _ vs=>i9 K c C/\Cls K C/\i8 K ρ H fs vs/\∀x∈fs,B2 K C x.1
 |_,_=>False
def OH.ext{K ρ H bY H'}(e:Ext ρ H bY H'){o:O}{u:HO}(h:OH K ρ H o u):OH K bY H' o u:=by
 cases o<;>cases u<;>first|show h.elim|show b0.ext e h|show i8.ext e h|show#[h.1,h.2.1,h.2.2.1.ext e,h.2.2.2]|show h
def OH.uv{K ρ H}{xs:@&V}(h:OH K ρ H o (.tup xs)):False:=by cases o<;>show h
def OH.b20{K ρ H}{ob:Obj}(h:OH K ρ H o (.ky ob u)):False:=by cases o<;>show h
def J5(K:PySem.W.Frag)(ρ:@&Addr)(H:Hp)(o:O)(a:Addr):Prop:=match o with
 |.qO l=>∃vs,vJ K H a vs/\b0 K ρ H l vs
 |o=>∃u,H a=!u/\OH K ρ H o u
def J5.of{K ρ H}(hu:H a=!u)(h:OH K ρ H o u):J5 K ρ H o a:=by
 cases o<;>first|show#[u,hu,h]|(cases u<;>show h.elim)
def J5.inv{K ρ H}(m:o.mut=true)(h:J5 K ρ H o a):∃u,H a=!u/\OH K ρ H o u:=by
 cases o<;>first|show h|cases m
def J5.lst{K ρ H}{l:@&D}{a:Addr}(h:J5 K ρ H (.lst l) a):∃vs,H a=!.lst vs/\b0 K ρ H l vs:=by
 let#[u,h1,h2]:=h;cases u<;>first|show#[_,h1,h2]|show h2.elim
def J5.du{K ρ H}{l:@&(Key×D)}{a:Addr}(h:J5 K ρ H (.du l) a):∃vs,H a=!.dK vs/\i8 K ρ H l vs:=by
 let#[u,h1,h2]:=h;cases u<;>first|show#[_,h1,h2]|show h2.elim
def J5.set{K ρ H}{S:Int->Bool}{n:Nat}{a:Addr}(h:J5 K ρ H (.set S n) a):H a=!.set S n:=by
 let#[u,h1,h2]:=h;cases u<;>first|(let#[rfl,rfl]:=(show _/\_ from h2);show h1)|show h2.elim
def J5.ins{K ρ H}{c:Str}{fs:@&(Str×D)}{a:Addr}(h:J5 K ρ H (.ins c fs) a):∃C dx vs,H a=!.ins C dx vs/\i9 K c C/\Cls K C/\i8 K ρ H fs vs/\∀x∈fs,B2 K C x.1:=by
 let#[u,h1,h2]:=h;cases u<;>first|show#[_,_,_,h1,h2]|show h2.elim
structure Rl(K:PySem.W.Frag)(ρ:@&Addr)(g:G)(H:Hp):Prop where
 len:ρ.length=-g
 obj:∀(i:Nat) o a,g[i]?=!o->ρ[i]?=!a->J5 K ρ H o a
 nd:∀(i j:Nat) o o' a,g[i]?=!o->g[j]?=!o'->o.mut=true->o'.mut=true->ρ[i]?=!a->ρ[j]?=!a->i=j
section
variable{ρ:@&Addr}
def Rl.lst(R:Rl K ρ g H){i:Nat}{l:@&D}{a:Addr}(h:g[i]?=!.lst l)(ha:ρ[i]?=!a):∃vs,H a=!.lst vs/\b0 K ρ H l vs:=(R.obj _ _ _ h ha).lst
def Rl.du(R:Rl K ρ g H){i:Nat}{l:@&(Key×D)}{a:Addr}(h:g[i]?=!.du l)(ha:ρ[i]?=!a):∃vs,H a=!.dK vs/\i8 K ρ H l vs:=(R.obj _ _ _ h ha).du
def Rl.set(R:Rl K ρ g H){i:Nat}{S:Int->Bool}{n:Nat}{a:Addr}(h:g[i]?=!.set S n)(ha:ρ[i]?=!a):H a=!.set S n:=(R.obj _ _ _ h ha).set
def Rl.ins(R:Rl K ρ g H){i:Nat}{c:Str}{fs:@&(Str×D)}{a:Addr}(h:g[i]?=!.ins c fs)(ha:ρ[i]?=!a):∃C dx vs,H a=!.ins C dx vs/\i9 K c C/\Cls K C/\i8 K ρ H fs vs/\∀x∈fs,B2 K C x.1:=(R.obj _ _ _ h ha).ins
def Rl.items(R:Rl K ρ g H)(h:f6 g i=!l)(ha:ρ[i]?=!a):∃vs,gU K H a vs/\b0 K ρ H l vs:=by
 cases e:g[i]? with
 |none=>rw[f6,e] at h;cases h
 |some o =>
  rw[f6,e] at h;let q:=R.obj _ _ _ e ha;cases o with
  |lst m=>cases h;let#[vs,z,r]:=q.lst;show#[vs,gU.of z,r]
  |qO m=>cases h;let#[vs,z,r]:=q;show#[vs,z.sq,r]
  |_=>cases h
def o6{o:HO}(hp:H p=none):Ext ρ H ρ (upd H p o):=#[#[[],by simp],λa xs h=>by rw[d7 (j7 h hp)];show h]
def vJ.upd{p a:Addr}{o:HO}{vs:@&V}(h:vJ K H a vs)(hp:∀ob u,H p≠!.ky ob u):vJ K (upd H p o) a vs:=by
 rcases h with⟨ob,z⟩|z
 .refine .inl #[ob,?_];rw[d7 ?_]
  .exact z
  .intro e;subst e;show hp _ _ z
 .exact .inr z
def J5.upd{p a:Addr}{o:O}{u:HO}{bY:@&Addr}(h:J5 K ρ H o a)(eX:o.mut=true->a≠p)(hp:∀ob u,H p≠!.ky ob u)(e:Ext ρ H bY (L2.upd H p u)):J5 K bY (L2.upd H p u) o a:=by
 cases hm:o.mut with
 |true =>
  let#[u',h1,h2]:=h.inv hm;show .of (by rw[d7 (eX hm)];show h1) (h2.ext e)
 |false =>
  cases o<;>first|cases hm|skip
  let#[vs,z,r]:=h;show#[vs,z.upd hp,r.ext e]
def Rl.grow{o:HO}(R:Rl K ρ g H)(hp:H p=none):Rl K ρ g (upd H p o):=by
 let e:Ext ρ H ρ (upd H p o):=o6 hp;show#[R.len,λi ob a h1 h2=>?_,R.nd];let q:=R.obj _ _ _ h1 h2;show q.upd (λhm=>?_) (λob u z=>by simp_all) e;let#[u,h1,_]:=q.inv hm;show j7 h1 hp
def Rl.B4(R:Rl K ρ g H)(p:Addr):(ρ++[p])[(-g)]?=!p:=by rw[<- R.len];simp
def K4{o:HO}(hp:H p=none):Ext ρ H (ρ++[p]) (upd H p o):=#[#[[p],rfl],(o6 (ρ:=ρ) hp).tup]
def Rl.new(R:Rl K ρ g H)(hp:H p=none)(r:OH K ρ H o u):Rl K (ρ++[p]) (g++[o]) (upd H p u):=by
 let e:Ext ρ H (ρ++[p]) (upd H p u):=K4 hp;let old:∀{i:Nat} {ob:O} {a:Addr},g[i]?=!ob->(ρ++[p])[i]?=!a->ρ[i]?=!a:=λ{i ob a} h1 h2=>by
  rw[aG (by rw[R.len];show(aA.mp h1).1)] at h2;show h2
 let split:∀{i:Nat} {ob:O},(g++[o])[i]?=!ob->g[i]?=!ob\/(i=-g/\ob=o):=λ{i ob} h=>by
  rcases fW i (-g) with q|q|q
  .rw[aG q] at h;show .inl h
  .subst q;simp at h;show .inr #[rfl,h.symm]
  .rw[jC (by simp;omega)] at h;cases h
 show#[by simp[R.len],λi ob a h1 h2=>?_,λi j o1 o2 a h1 h2 m1 m2 h3 h4=>?_]
 .rcases split h1 with q|⟨rfl,rfl⟩
  .let z:=R.obj _ _ _ q (old q h2);show z.upd (λhm=>?_) (λob u z=>by simp_all) e;let#[u,h1,_]:=z.inv hm;show j7 h1 hp
  .rw[R.B4] at h2;cases h2;show .of f9 (r.ext e)
 .let nq:∀{i:Nat} {o:O} {a:Addr},g[i]?=!o->o.mut=true->ρ[i]?=!a->a≠p:=λ{i o a} h1 hm h2=>by
   let#[u,z,_]:=(R.obj _ _ _ h1 h2).inv hm;show j7 z hp
  rcases split h1 with q|⟨rfl,_⟩
  .rcases split h2 with q'|⟨rfl,_⟩
   .exact R.nd _ _ _ _ _ q q' m1 m2 (old q h3) (old q' h4)
   .rw[R.B4] at h4;cases h4;show absurd rfl (nq q m1 (old q h3))
  .rcases split h2 with q'|⟨rfl,_⟩
   .rw[R.B4] at h3;cases h3;show absurd rfl (nq q' m2 (old q' h4))
   .rfl
def Rl.alloc(R:Rl K ρ g H)(hp:H p=none)(r:b0 K ρ H l vs):Rl K (ρ++[p]) (g++[.lst l]) (upd H p (.lst vs)):=R.new hp r
def Rl.put{o':O}(R:Rl K ρ g H)(h:g[i]?=!o)(hm:o.mut=true)(ha:ρ[i]?=!a)(r:OH K ρ H o' u) :
  Rl K ρ (g.set i o') (upd H a u)/\Ext ρ H ρ (upd H a u):=by
 let#[u0,z0,IH]:=(R.obj _ _ _ h ha).inv hm;let e:Ext ρ H ρ (upd H a u):=#[#[[],by simp],λb xs q=>by rw[d7];show q;intro z;subst z;rw[z0] at q;cases q;show IH.uv]
 show#[#[by simp[R.len],λj ob b h1 h2=>?_,λj k o1 o2 b h1 h2 m1 m2 h3 h4=>?_],e]
 .by_cases jH:i=j
  .subst jH;rw[ha] at h2;cases h2;let hi:=(aA.mp h).1;rw[aV hi] at h1;cases h1;show .of f9 (r.ext e)
  .rw[aH jH] at h1;show(R.obj _ _ _ h1 h2).upd (λpH ez=>?_) (λob u z=>by rw[z0] at z;cases z;show IH.b20) e;subst ez;show jH (R.nd _ _ _ _ _ h h1 hm pH ha h2)
 .let back:∀{j:Nat} {m:O},(g.set i o')[j]?=!m->m.mut=true->∃m',g[j]?=!m'/\m'.mut=true:=λ{j m} q pH=>by
   by_cases jH:i=j
   .subst jH;show#[o,h,hm]
   .rw[aH jH] at q;show#[m,q,pH]
  let#[_,q1,n1]:=back h1 m1;let#[_,q2,n2]:=back h2 m2;show R.nd _ _ _ _ _ q1 q2 n1 n2 h3 h4
def Rl.write{l':@&D}(R:Rl K ρ g H)(h:g[i]?=!.lst l)(ha:ρ[i]?=!a)(r:b0 K ρ H l' vs) :
  Rl K ρ (g.set i (.lst l')) (upd H a (.lst vs))/\Ext ρ H ρ (upd H a (.lst vs)):=R.put h rfl ha r
end
structure n4(K:PySem.W.Frag)(ρ:@&Addr)(H:Hp)(σ:S)(bV:St):Prop where
 len:σ.length=-bV
 val:∀(i:Nat) d,σ[i]?=!!d->∃v,bV[i]?=!!v/\d8 K ρ H d v
section
variable{ρ bY:@&Addr}{H':Hp}
def n4.ext{σ bV}(e:Ext ρ H bY H')(r:n4 K ρ H σ bV):n4 K bY H' σ bV:=#[r.len,λi d h=>let ⟨v,a,b⟩:=r.val i d h;#[v,a,b.ext e]]
def n4.set{σ bV d v}(r:n4 K ρ H σ bV)(i:Nat)(h:d8 K ρ H d v):n4 K ρ H (σ.set i (!d)) (bV.set i (!v)):=by
 show#[by simp[r.len],λj e q=>?_];by_cases jH:i=j
 .subst jH;let hi:i<σ.length:=by
   have:=(aA.mp q).1
   simp_all
  rw[aV hi] at q;cases q;show#[v,by rw[aV (by rw[<- r.len];show hi)],h]
 .rw[aH jH] at q ⊢;show r.val j e q
def n4.start{ds vs}{n:Nat}(r:b0 K ρ H ds vs):n4 K ρ H (ds.map some++List.replicate (n- -ds) none) (vs.map some++List.replicate (n- -vs) none):=by
 show#[by simp[(-r)],λi d h=>?_];by_cases hi:i< -ds
 .rw[aG (_/hi),aJ] at h;cases e:ds[i]? with
  |none=>rw[e] at h;cases h
  |some x =>
   rw[e] at h;cases h;let#[v,h1,h2]:=r.get e;show#[v,?_,h2];rw[aG (by rw[ah,<- -r];show hi),aJ,h1]
   rfl
 .rw[dE (_/hi),cX] at h;split at h<;>cases h
def n4.i3{σ bV}(r:n4 K ρ H σ bV)(i3:@&Nat)(n:Nat):n4 K ρ H (ur σ i3 n) (F4 bV i3 n):=by
 show#[by simp[ur,F4],λi d h=>?_];unfold ur at h;unfold F4;by_cases hi:i< -i3
 .rw[aG (_/hi),aJ,av hi] at h;rw[aG (_/hi),aJ,av hi];simp only[Option.map_some] at h ⊢;cases e:σ[i3[i]]? with
  |none=>simp_all
  |some x =>
   rw[e] at h;let hx:=aD h;subst hx;let#[v,h1,h2]:=r.val _ _ e;show#[v,by rw[h1];rfl,h2]
 .rw[dE (_/hi),cX] at h;split at h<;>cases h
end
end M
namespace M
open PySem L2 PySem.Spec PyProof.Rows
variable{g:G}{l:@&D}{vs:@&V}{b:Bool}{d:D}{X:Cx}{ρ:@&Addr}{H:Hp}{σ:L2.St}{s:Shared}{v x:V}
abbrev LQ(K:PySem.W.Frag)(ρ:@&Addr)(H:Hp)(Q:VK):KD:=λd g'=>∀bY H' v,Ext ρ H bY H'->Rl K bY g' H'->d8 K bY H' d v->Q v H'
def LQ.ext{K ρ H cg H1 Q d g}(e:Ext ρ H cg H1)(h:LQ K ρ H Q d g):LQ K cg H1 Q d g:=λbY H' v e' R r=>h bY H' v (e.trans e') R r
def LQ.now{K ρ H Q d g v}(h:LQ K ρ H Q d g)(R:Rl K ρ g H)(r:d8 K ρ H d v):Q v H:=h ρ H v (.refl _ _) R r
def LQ.new{K ρ H Q}{p:Addr}(h:LQ K ρ H Q (.ref (-g)) (g++[.lst l]))(R:Rl K ρ g H)(hp:H p=none)(r:b0 K ρ H l vs):Q (.ref p) (upd H p (.lst vs)) :=
 h (ρ++[p]) _ _ (K4 hp) (R.alloc hp r) (.ref (R.B4 p))
def LQ.tup{K ρ H Q}{g:G}{l:@&D}{vs:@&V}{p:Addr}(h:LQ K ρ H Q (.tup l) g)(R:Rl K ρ g H)(hp:H p=none)(r:b0 K ρ H l vs):Q (.ref p) (upd H p (.tup vs)) :=
 h ρ _ _ (o6 hp) (R.grow hp) (.tup (.inl f9) (r.ext (o6 hp)))
def r2(K:PySem.W.Frag)(p:Pr):R2:=λx y H Q=>∃d e g ρ,Rl K ρ g H/\d8 K ρ H d x/\d8 K ρ H e y/\cC p [d,e] g (LQ K ρ H Q)
abbrev r1(K:PySem.W.Frag)(p:Pr):V->Hp->VK->Prop:=λx H Q=>∃d g ρ,Rl K ρ g H/\d8 K ρ H d x/\cC p [d] g (LQ K ρ H Q)
abbrev rN(K:PySem.W.Frag)(p:Pr):@&V->Hp->VK->Prop:=λxs H Q=>∃ds g ρ,Rl K ρ g H/\b0 K ρ H ds xs/\cC p ds g (LQ K ρ H Q)
def j5{n:Nat}(h:n<=100000):n<=sizeLine:=aL h ∅
def Bf{n:Nat}(h:n<100000):n<sizeLine:=ax h ∅
def d8.i6{K ρ H i v}(h:d8 K ρ H (.int i) v):v=.int i:=by cases h;rfl
def d8.l6{K ρ H i v}(h:d8 K ρ H (.str i) v):v=.str i:=by cases h;rfl
def d8.O1{K ρ H i v}(h:d8 K ρ H (.bl i) v):v=.bl i:=by cases h;rfl
def d8.AK{K ρ H v}(h:d8 K ρ H .aW v):v=.aW:=by cases h;rfl
def d8.ZG{K ρ H n v}(h:d8 K ρ H (.ty n) v):v=.ty n:=by cases h;rfl
def d8.j9{K ρ H i v}(h:d8 K ρ H (.ref i) v):∃a,v=.ref a/\ρ[i]?=!a:=by cases h;show#[_,rfl,by assumption]
def d8.A9{K ρ H l v}(h:d8 K ρ H (.tup l) v):∃a vs,v=.ref a/\TupAt K H a vs/\b0 K ρ H l vs:=by cases h;show#[_,_,rfl,by assumption,by assumption]
def b0.one{K ρ H d vs}(h:b0 K ρ H [d] vs):∃v,vs=[v]/\d8 K ρ H d v:=by
 cases h with
 |cons r rr=>cases rr;show#[_,rfl,r]
def b0.two{K ρ H d e vs}(h:b0 K ρ H [d,e] vs):∃v w,vs=[v,w]/\d8 K ρ H d v/\d8 K ρ H e w:=by
 cases h with
 |cons r rr=>let#[w,rfl,q]:=rr.one;show#[_,_,rfl,r,q]
def y4{a b c:D}(h:[a,b]=[c,d]):a=c/\b=d:=by cases h;show#[rfl,rfl]
section
def bC4:gs X (binaryOp .Mult) (λx y H Q=>∃i n,x=.str i/\y=.int n/\((n=0/\Q (.str Str.empty) H)\/(n=1/\Q (.str i) H))):=by
 intro pi s σ H x y v u Q I rx ry h;let#[i,n,rfl,rfl,h]:=h;let#[t,rfl]:=rx;let#[t',rfl]:=ry;rcases h with⟨rfl,q⟩|⟨rfl,q⟩
 .exact PySem.P.mul_str_none ∅ ∅ #[.str Str.empty,H,I.tok _,#[_,rfl],q]
 .refine PySem.P.mul_str ∅ (λw z=>by simp at z) (λw z=>by simp at z) ?_;rw[aq ∅,au #[_]];show#[.str i,H,I,#[_,rfl],q]
def bQ7(op:Operator):gs X (binaryOp op) (r2 X.K (.bin op)):=by
 intro pi s σ H x y v u Q I rx ry h;let#[d,e,g,ρ,R,rd,re,d',g',h,q]:=h;rcases h with⟨i,j,r,ex,ha,rfl,rfl⟩|⟨rfl,h⟩|⟨rfl,x',n,ex,h,rfl⟩|⟨rfl,h⟩
 .let#[rfl,rfl]:=y4 ex;obtain rfl:=rd.i6;obtain rfl:=re.i6;let fin:=q.now R (.int r);cases op<;>first|show(show False from ha).elim|skip
  .cases ha;show bQ9 pi s σ H _ _ v u Q I rx ry #[i,j,rfl,rfl,fin]
  .cases ha;show bP9 pi s σ H _ _ v u Q I rx ry #[i,j,rfl,rfl,fin]
  .let#[hc,rfl]:=ha;show bQ3 pi s σ H _ _ v u Q I rx ry #[i,j,rfl,rfl,hc,fin]
  .let#[hc,rfl]:=ha;show bQ4 pi s σ H _ _ v u Q I rx ry #[i,j,rfl,rfl,hc,fin]
  .let#[hc,rfl]:=ha;show bQ2 pi s σ H _ _ v u Q I rx ry #[i,j,rfl,rfl,hc,fin]
  .let#[hc,rfl]:=ha;show bQ0 pi s σ H _ _ v u Q I rx ry #[i,j,rfl,rfl,hc,fin]
  .cases ha;show b14 pi s σ H _ _ v u Q I rx ry #[i,j,rfl,rfl,fin]
  .cases ha;show bQ8 pi s σ H _ _ v u Q I rx ry #[i,j,rfl,rfl,fin]
  .let#[hc,rfl]:=ha;show bC7 pi s σ H _ _ v u Q I rx ry #[i,j,rfl,rfl,hc,fin]
 .rcases h with⟨l,m,ex,hz,rfl,rfl⟩|⟨a,b,l,m,ex,ha,hb,hz,rfl,rfl⟩|⟨x',y',ex,hz,rfl,rfl⟩
  .let#[rfl,rfl]:=y4 ex;let#[a,vs,rfl,ta,rs]:=rd.A9;let#[b,ws,rfl,tb,rt]:=re.A9;show Xt pi s σ H _ _ v u Q I rx ry #[a,b,vs,ws,rfl,rfl,ta.sq,tb.sq,?_,λz=>?_,λz=>?_,λp hp=>q.tup R hp (rs.append rt)]
   .rw[<- -rs,<- -rt];show j5 hz
   .subst z;cases rs;show q.now R (.tup tb rt)
   .subst z;cases rt;rw[jw] at q;show q.now R (.tup ta rs)
  .let#[rfl,rfl]:=y4 ex;let#[a',rfl,ra]:=rd.j9;let#[b',rfl,rb]:=re.j9;let#[vs,z1,rs]:=R.lst ha ra;let#[ws,z2,rt]:=R.lst hb rb;show bQ6 pi s σ H _ _ v u Q I rx ry #[_,_,vs,ws,rfl,rfl,z1,z2,by rw[<- -rs,<- -rt];show j5 hz,λp hp=>q.new R hp (rs.append rt)]
  .let#[rfl,rfl]:=y4 ex;obtain rfl:=rd.l6;obtain rfl:=re.l6;show aX8 pi s σ H _ _ v u Q I rx ry #[_,_,rfl,rfl,j5 hz,q.now R (.str _)]
 .let#[rfl,rfl]:=y4 ex;obtain rfl:=rd.l6;obtain rfl:=re.i6;show bC4 pi s σ H _ _ v u Q I rx ry #[_,_,rfl,rfl,?_];rcases h with⟨rfl,rfl⟩|⟨rfl,rfl⟩
  .exact .inl #[rfl,q.now R (.str _)]
  .exact .inr #[rfl,q.now R (.str _)]
 .rcases h with⟨a,l,n,ex,ha,h1,h2,hz,rfl,rfl⟩|⟨l,n,ex,eX,h1,h2,hz,rfl,rfl⟩
  rotate_left
  .let#[rfl,rfl]:=y4 ex;let#[a',vs,rfl,ta,rs]:=rd.A9;obtain rfl:=re.i6;show bC5 pi s σ H _ _ v u Q I rx ry #[_,_,vs,rfl,rfl,ta.sq,λz=>?_,h1,h2,by rw[<- -rs];show j5 hz,λz=>?_,λp hp=>q.tup R hp (rs.rep _)]
   .subst z;cases rs;show eX rfl
   .subst z;have:(List.replicate (Int.toNat 1) l).flatten=l:=by simp
    rw[this] at q;show q.now R (.tup ta rs)
  let#[rfl,rfl]:=y4 ex;let#[a',rfl,ra]:=rd.j9;obtain rfl:=re.i6;let#[vs,z1,rs]:=R.lst ha ra;show bQ1 pi s σ H _ _ v u Q I rx ry #[_,_,vs,rfl,rfl,z1,by omega,by omega,by rw[<- -rs];show j5 hz,λp hp=>q.new R hp (rs.rep _)]
def b13(op:UnaryOp):Cj X (unaryOp op) (r1 X.K (.un op)):=by
 intro pi s σ H x v Q I rx h;let#[d,g,ρ,R,rd,d',g',#[rfl,i,ex,rfl,rfl],q]:=h;cases ex;obtain rfl:=rd.i6;show bI3 pi s σ H _ v Q I rx #[_,rfl,q.now R (.int _)]
section
variable{pi:@&(Addr×Obj)}
def Nm(I:Inv X pi σ H s)(R:Rl X.K ρ g H)(n:Nat)(ih:∀{d:D} {v:V} {u:Value} {p:PyData},rd g n d=!p->d8 X.K ρ H d v->RelV v u->∃as,Reads s.heap u p as/\p.depth<=n):∀{vs:@&V} {us:@&Value} {ps:@&PyData},l.mapM (rd g n)=!ps->b0 X.K ρ H l vs->Vals vs us->∃as,ReadsAll s.heap us ps as/\PyData.depthAll ps<=n:=by
 induction l with
 |nil =>
  intro vs us ps h rs rv;cases rs;cases rv;simp at h;subst h;show#[_,.nil,cU _]
 |cons d l il =>
  intro vs us ps h rs rv;cases rs with
  |cons iF rs =>
   cases rv with
   |cons ru rv =>
    rw[pU] at h;cases e:rd g n d with
    |none=>simp_all
    |some p =>
     rw[e] at h;cases e2:l.mapM (rd g n) with
     |none=>rw[e2] at h;cases h
     |some qs =>
      rw[e2] at h;cases h;let#[as,q1,d1]:=ih e iF ru;let#[bs,q2,d2]:=il e2 rs rv;show#[_,.cons q1 q2,?_];simp only[PyData.depthAll];omega
set_option tactic.hygienic true in
def V2(I:Inv X pi σ H s)(R:Rl X.K ρ g H)(n:Nat):∀{d:D} {v:V} {u:Value} {p:PyData},rd g n d=!p->d8 X.K ρ H d v->RelV v u->∃as,Reads s.heap u p as/\p.depth<=n:=by
 induction n with
 |zero =>
  intro d v u p h r ru;cases r with
  |aW=>simp only[rd] at h;cases h;cases ru;show#[_,.none,Nat.zero_le _]
  |bl b=>simp only[rd] at h;cases h;cases ru;show#[_,.bool b,Nat.zero_le _]
  |int i=>simp only[rd] at h;cases h;let#[t,rfl]:=ru;show#[_,.int i t,Nat.zero_le _]
  |str x=>simp only[rd] at h;cases h;let#[t,rfl]:=ru;show#[_,.str x t,Nat.zero_le _]
  |_=>simp only[rd] at h;cases h
 |succ n ih =>
  intro d v u p h r ru;cases r with
  |aW=>simp only[rd] at h;cases h;cases ru;show#[_,.none,Nat.zero_le _]
  |bl b=>simp only[rd] at h;cases h;cases ru;show#[_,.bool b,Nat.zero_le _]
  |int i=>simp only[rd] at h;cases h;let#[t,rfl]:=ru;show#[_,.int i t,Nat.zero_le _]
  |str x=>simp only[rd] at h;cases h;let#[t,rfl]:=ru;show#[_,.str x t,Nat.zero_le _]
  |ty x=>simp only[rd] at h;cases h
  |ref ha =>
   rename_i i a;simp only[rd] at h;cases e:f6 g i with
   |none=>simp_all
   |some l =>
    rw[e] at h;dsimp only at h;cases e2:l.mapM (rd g n) with
    |none=>simp_all
    |some ps =>
     rw[e2] at h;cases h;cases ru;let#[vs,hq,rs]:=R.items e ha;let#[bc,rv,p,hz]:=I.list hq;let#[as,q,hd]:=Nm I R n ih e2 rs rv;let#[o,ho,hc,k,tP]:=p.isList;show#[_,.list ho hc tP (_/q),?_];simp only[PyData.depth];omega
  |tup ht rs =>
   rename_i l a vs;simp only[rd] at h;cases e2:l.mapM (rd g n) with
   |none=>simp_all
   |some ps =>
    rw[e2] at h;cases h;cases ru;let#[bc,rv,pt,hz]:=I.tuple ht.sq;let#[as,q,hd]:=Nm I R n ih e2 rs rv;let#[o,ho,hc,k,tP]:=id pt;show#[_,.tuple ho hc tP (_/q),?_];simp only[PyData.depth];omega
end
end
def Be{K ρ H}{c:Key}(h:sj d=!c)(r:d8 K ρ H d v):v=kV c:=by
 cases r<;>first|(cases h;rfl)|cases h
def uk.some{K ρ H}{o:Option V}{d:D}(h:uk K ρ H (!d) o):∃v,o=!v/\d8 K ρ H d v:=by
 cases o with
 |none=>show h.elim
 |some v=>show#[v,rfl,h]
def uk.isSome{K ρ H}{o:Option V}{d:Option D}(h:uk K ρ H d o):d.isSome=o.isSome:=by
 cases o<;>cases d<;>first|rfl|show h.elim
def Ki{pi:@&(Addr×Obj)}{e:D}{y:V}{v u:Value}{Q:VK}(hu:X.A.units+100<cLine)(I:Inv X pi σ H s)(rx:RelV x v)(ry:RelV y u)(R:Rl X.K ρ g H)(iF:d8 X.K ρ H d x)(re:d8 X.K ρ H e y)(h:yy g d e b)(neg:Bool)(q:Q (.bl (xor neg b)) H):wpAny (model X.prog X.w) X.A (compareOp (if neg then .NotEq else .Eq) v u) (EP X pi σ Q) X.xe s:=by
 rcases h with⟨i,j,rfl,rfl,rfl⟩|⟨i,j,rfl,rfl,rfl⟩|⟨i,j,rfl,rfl,rfl⟩|⟨p,p',h1,h2,c1,c2,rfl⟩
 .obtain rfl:=iF.i6;obtain rfl:=re.i6;cases neg
  .exact GS pi s σ H _ _ v u Q I rx ry #[rfl,by simp_all]
  .exact GU pi s σ H _ _ v u Q I rx ry #[rfl,by simp_all]
 .obtain rfl:=iF.O1;obtain rfl:=re.O1;cases neg
  .exact GS pi s σ H _ _ v u Q I rx ry #[rfl,by rw[AF];simpa using q]
  .exact GU pi s σ H _ _ v u Q I rx ry #[rfl,by rw[AF];simpa using q]
 .obtain rfl:=iF.l6;obtain rfl:=re.l6;cases neg
  .exact GS pi s σ H _ _ v u Q I rx ry #[rfl,by simp_all]
  .exact GU pi s σ H _ _ v u Q I rx ry #[rfl,by simp_all]
 .let#[as,q1,d1]:=V2 I R 6 h1 iF rx;let#[bs,q2,d2]:=V2 I R 6 h2 re ry;let hr:X.A.units+min p.depth p'.depth<cLine:=by omega
  cases neg
  .exact SeqAt.compareEq_reads q1 q2 c1 c2 hr #[.bl _,H,I,rfl,by simpa using q]
  .exact SeqAt.compareNe_reads q1 q2 c1 c2 hr #[.bl _,H,I,rfl,by simpa using q]
def in_of{pi:@&(Addr×Obj)}{e:D}{y:V}{v u:Value}{Q:VK}(hu:X.A.units+100<cLine)(I:Inv X pi σ H s)(rx:RelV x v)(ry:RelV y u)(R:Rl X.K ρ g H)(iF:d8 X.K ρ H d x)(re:d8 X.K ρ H e y)(h:inR g d e b)(neg:Bool)(q:Q (.bl (xor neg b)) H):wpAny (model X.prog X.w) X.A (compareOp (if neg then .NotIn else .In) v u) (EP X pi σ Q) X.xe s:=by
 rcases h with⟨a,kvs,c,rfl,ha,hc,rfl⟩|⟨l,ps,p,h0,h1,h2,c1,c2,rfl⟩
 .let#[a',rfl,ra]:=re.j9;let#[vs,z,rs]:=R.du ha ra;have:=Be hc iF;subst this;cases ry;rw[(rs.val c).isSome] at q;cases neg
  .exact UU () I (Z8.k z) rx λs' I'=>#[.bl _,H,I',rfl,by simpa using q]
  .exact bF8 () I (Z8.k z) rx λs' I'=>#[.bl _,H,I',rfl,by simpa using q]
 .let#[as,q1,d1]:=V2 I R 6 h2 iF rx;cases e with
  |tup m =>
   cases h0;let h3:rd g 7 (.tup l)=!.tuple ps:=by simp only[rd];rw[show l.mapM (rd g 6)=some ps from h1];rfl
   let#[bs,q2,d2]:=V2 I R 7 h3 re ry;let hr:X.A.units+1+min (PyData.depthAll ps) p.depth<cLine:=by omega
   cases neg
   .exact SeqAt.in_tuple_reads q2 q1 c1 c2 hr #[.bl _,H,I,rfl,by simpa using q]
   .exact SeqAt.notIn_tuple_reads q2 q1 c1 c2 hr #[.bl _,H,I,rfl,by simpa using q]
  |ref a =>
   let h3:rd g 7 (.ref a)=!.list ps:=by
    simp only[rd];rw[show f6 g a=some l from h0];dsimp only;rw[show l.mapM (rd g 6)=some ps from h1]
    rfl
   let#[bs,q2,d2]:=V2 I R 7 h3 re ry;let hr:X.A.units+1+min (PyData.depthAll ps) p.depth<cLine:=by omega
   cases neg
   .exact SeqAt.in_list_reads q2 q1 c1 c2 hr #[.bl _,H,I,rfl,by simpa using q]
   .exact SeqAt.notIn_list_reads q2 q1 c1 c2 hr #[.bl _,H,I,rfl,by simpa using q]
  |_=>cases h0
def vY(hu:X.A.units+100<cLine)(op:CmpOp):gs X (compareOp op) (r2 X.K (.cmp op)):=by
 intro pi s σ H x y v u Q I rx ry h;let#[d,e,g,ρ,R,iF,re,d',g',#[x',y',b,ex,h,rfl,rfl],q]:=h;let#[rfl,rfl]:=y4 ex;let fin:=q.now R (.bl b);let qi:∀{P:Int->Int->Bool},(∃i j,d=.int i/\e=.int j/\b=P i j)->∃i j,x=.int i/\y=.int j/\b=P i j:=λhh=>by
  let#[i,j,z1,z2,z3]:=hh;show#[i,j,(z1▸iF).i6,(z2▸re).i6,z3]
 cases op
 .exact Ki hu I rx ry R iF re h false (_/fin)
 .exact Ki hu I rx ry R iF re h true (_/fin)
 .let#[i,j,e1,e2,e3]:=qi (P:=λi j=>decide (i<j)) h;show b15 pi s σ H _ _ v u Q I rx ry #[i,j,e1,e2,by subst e3;show fin]
 .let#[i,j,e1,e2,e3]:=qi (P:=λi j=>decide (i<=j)) h;show b16 pi s σ H _ _ v u Q I rx ry #[i,j,e1,e2,by subst e3;show fin]
 .let#[i,j,e1,e2,e3]:=qi (P:=λi j=>decide (j<i)) h;show b17 pi s σ H _ _ v u Q I rx ry #[i,j,e1,e2,by subst e3;show fin]
 .let#[i,j,e1,e2,e3]:=qi (P:=λi j=>decide (j<=i)) h;show b18 pi s σ H _ _ v u Q I rx ry #[i,j,e1,e2,by subst e3;show fin]
 .let#[rfl,rfl]:=(show _/\_ from h)
  obtain rfl:=re.AK;show bQ5 pi s σ H _ _ v u Q I rx ry #[rfl,?_];let e:X9 d=decide (x=V.aW):=by cases iF<;>simp[X9]
  rw[<- e];show fin
 .let#[rfl,rfl]:=(show _/\_ from h)
  obtain rfl:=re.AK;show bC6 pi s σ H _ _ v u Q I rx ry #[rfl,?_];let e:X9 d=decide (x=V.aW):=by cases iF<;>simp[X9]
  rw[<- e];show fin
 .rcases h with h|⟨a,S,n,i,rfl,ha,rfl,rfl⟩|⟨i,j,rfl,rfl,rfl⟩
  .exact in_of hu I rx ry R iF re h false (_/fin)
  .let#[a',rfl,ra]:=re.j9;obtain rfl:=iF.i6;show a87 pi s σ H _ _ v u Q I rx ry #[i,a',S,n,rfl,rfl,R.set ha ra,fin]
  .obtain rfl:=re.l6;obtain rfl:=iF.l6;show a86 pi s σ H _ _ v u Q I rx ry #[i,j,rfl,rfl,fin]
 .rcases h with h|⟨a,S,n,i,rfl,ha,rfl,hb⟩|⟨i,j,rfl,rfl,hb⟩
  .exact in_of hu I rx ry R iF re h true (_/fin)
  .let#[a',rfl,ra]:=re.j9;obtain rfl:=iF.i6;show aH6 pi s σ H _ _ v u Q I rx ry #[i,a',S,n,rfl,rfl,R.set ha ra,by rw[<- hb,wy];show fin]
  .obtain rfl:=re.l6;obtain rfl:=iF.l6;show aH5 pi s σ H _ _ v u Q I rx ry #[i,j,rfl,rfl,by rw[<- hb,wy];show fin]
def empty_eq{K ρ H}(r:b0 K ρ H l vs):l.isEmpty=vs.isEmpty:=by cases r<;>rfl
def bI6{K:PySem.W.Frag}(R:Rl K ρ g H)(r:d8 K ρ H d x)(h:LY g d b):Fb K x H b:=by
 rcases h with⟨rfl,rfl⟩|rfl|⟨i,rfl,rfl⟩|⟨l,rfl,rfl⟩|⟨a,l,rfl,hl,rfl⟩
 .obtain rfl:=r.AK;rfl
 .obtain rfl:=r.O1;rfl
 .obtain rfl:=r.i6;rfl
 .let#[a,vs,rfl,ht,rs]:=r.A9;show .inr (.inl #[_,ht.sq,by rw[empty_eq rs]])
 .let#[a',rfl,ha]:=r.j9;let#[vs,hq,rs]:=R.items hl ha;show .inl #[_,hq,by rw[empty_eq rs]]
def bG8{K ρ H}{i:Int}(r:b0 K ρ H l vs)(h:jd l i=!d):∃v,jd vs i=!v/\d8 K ρ H d v:=by
 unfold jd at h ⊢;rw[<- -r];cases e:kr (-l) i with
 |none=>simp_all
 |some j =>
  rw[e] at h;show r.get h
def AN{K ρ H}{x:D}(R:Rl K ρ g H)(r:d8 K ρ H x v)(h:E2 g x=!l):∃a vs,v=.ref a/\b0 K ρ H l vs/\((∃i,x=.ref i/\ρ[i]?=!a)/\gU K H a vs\/x=.tup l/\TupAt K H a vs):=by
 cases r with
 |tup ht rs=>cases h;show#[_,_,rfl,rs,.inr #[rfl,ht]]
 |ref ha=>let#[vs,hq,rs]:=R.items h ha;show#[_,_,rfl,rs,.inl #[#[_,rfl,ha],hq]]
 |_=>cases h
def b35(hu:X.A.units+100<cLine):uz X (r2 X.K .ix):=by
 intro value slice pi s σ H x y v u Q I rx ry h hs;let#[d,e,g,ρ,R,iF,re,d',g',#[rfl,h],q]:=h;rcases h with⟨x',l,i,ex,hl,ha⟩|⟨a,kvs,y',c,ex,ha,hc,hv⟩|⟨x',i,c,ex,h0,h1,rfl⟩
 .let#[rfl,rfl]:=y4 ex;obtain rfl:=re.i6;let#[a,vs,rfl,rs,h]:=AN R iF hl;let#[w,hw,fY]:=bG8 rs ha;rcases h with⟨_,hq⟩|⟨_,ht⟩
  .exact bE3 value slice pi s σ H _ _ v u Q I rx ry #[_,_,i,w,rfl,rfl,hq,hw,q.now R fY] hs
  .exact bT7 value slice pi s σ H _ _ v u Q I rx ry #[_,_,i,w,rfl,rfl,ht.sq,hw,q.now R fY] hs
 .let#[rfl,rfl]:=y4 ex;let#[a',rfl,ra]:=iF.j9;let#[vs,z,rs]:=R.du ha ra;have:=Be hc re;let q2:=rs.val c;rw[hv] at q2;let#[w,hw,fY]:=q2.some;show bE4 () value slice pi s σ H _ _ v u Q I rx ry #[_,w,rfl,by have:=Z8.k (k:=c) z;simp_all,q.now R fY] hs
 .let#[rfl,rfl]:=y4 ex;obtain rfl:=iF.l6;obtain rfl:=re.i6;show bT8 value slice pi s σ H _ _ v u Q I rx ry #[x',i,c,rfl,rfl,j5 h0,h1,q.now R (.str _)] hs
abbrev RI(K:PySem.W.Frag):V->Option Int->Option Int->Hp->VK->Prop:=λx lo hi H Q=>∃d g ρ d' g',Rl K ρ g H/\d8 K ρ H d x/\wJ d lo hi g d' g'/\LQ K ρ H Q d' g'
def Ky:vZ X (RI X.K):=by
 intro pi s σ H x v vl vu lo hi sl Q I rx hs pl pu h;let#[d,g,ρ,d',g',R,iF,h,q]:=h;rcases h with⟨l,rfl,rfl,rfl⟩|⟨a,l,rfl,hl,rfl,rfl⟩|⟨a,rfl,hz,rfl,rfl⟩
 .let#[a,vs,rfl,ht,rs]:=iF.A9;show VX pi s σ H _ v vl vu lo hi sl Q I rx hs pl pu #[_,_,rfl,ht.sq,λz=>?_,λp hp=>q.tup R hp (rs.cut lo hi)];show q.now R (.tup ht ?_);have:=rs.cut lo hi;rw[z] at this;show this
 .let#[a',rfl,ha]:=iF.j9;let#[vs,hq,rs]:=R.items hl ha;show VW pi s σ H _ v vl vu lo hi sl Q I rx hs pl pu #[_,_,rfl,hq,λp hp=>q.new R hp (rs.cut lo hi)]
 .obtain rfl:=iF.l6;show bL0 pi s σ H _ v vl vu lo hi sl Q I rx hs pl pu #[a,rfl,j5 hz,q.now R (.str _)]
abbrev VD(K:PySem.W.Frag):V->V->V->Hp->(Hp->Prop)->Prop:=λo i v H Q=>∃EN di dv g ρ,Rl K ρ g H/\d8 K ρ H EN o/\d8 K ρ H di i/\d8 K ρ H dv v/\U9 EN di dv g (λg'=>∀bY H',Ext ρ H bY H'->Rl K bY g' H'->Q H')
def Hy(hu:X.A.units+100<cLine):EY X (VD X.K):=by
 intro pi s σ H o i v ov iv u Q I ro ri rv h;let#[EN,di,dv,g,ρ,R,r1,r2,r3,g',h,q]:=h;rcases h with⟨a,i',l,j,rfl,rfl,hl,hj,rfl⟩|⟨a,kvs,c,rfl,ha,hc,hz,rfl⟩
 .let#[a',rfl,ha]:=r1.j9;obtain rfl:=r2.i6;let#[vs,z,rs]:=R.lst hl ha;let#[R',e']:=R.write hl ha (rs.set r3 j);show set_list pi s σ H _ _ _ ov iv u Q I ro ri rv #[_,vs,_,j,rfl,rfl,z,by rw[<- -rs];show hj,q ρ _ e' R']
 .let#[a',rfl,ra]:=r1.j9;let#[vs,z,rs]:=R.du ha ra;have:=Be hc r2;subst this;let#[R',e']:=R.put (o':=.du (putD kvs c dv)) (u:=.dK (putK vs c v)) ha rfl ra (rs.put r3);cases ro;show YL () I (Ce.k z (by rw[<- -rs];show Bf hz)) ri rv λs' I'=>#[_,I',q ρ _ e' R']
def bS5:m5 X (.builtin "len") (rN X.K .len):=by
 intro pi s σ H xs us Q I r h;let#[ds,g,ρ,R,rs,d',g',#[rfl,h],q]:=h;rcases h with⟨x,l,rfl,hl,rfl⟩|z|⟨x,rfl,hz,rfl⟩
 .let#[v,rfl,rv]:=rs.one;let#[a,vs,rfl,rl,h]:=AN R rv hl;show aM3 pi s σ H _ us Q I r #[_,_,rfl,?_,by rw[<- -rl];show q.now R (.int _)];show h.imp (λz=>z.2) (λz=>z.2.sq)
 .exact z.elim
 .let#[v,rfl,rv]:=rs.one;obtain rfl:=rv.l6;show aM2 pi s σ H _ us Q I r #[_,rfl,j5 hz,q.now R (.int _)]
def bD7(hc:X.calm=true):m5 X (.type "list") (rN X.K .list):=by
 intro pi s σ H xs us Q I r h;obtain⟨ds,g,ρ,R,rs,d',g',⟨x,l,rfl,hl,rfl,rfl⟩|⟨⟨⟩⟩,q⟩:=h;let#[v,rfl,rv]:=rs.one;let#[a,vs,rfl,rl,h]:=AN R rv hl;show aM1 pi s σ H _ us Q I r #[_,_,rfl,h.imp (λz=>z.2) (λz=>z.2.sq),λp hp=>q.new R hp rl]
def Yn:m5 X (.type "tuple") (rN X.K .tuple):=by
 intro pi s σ H xs us Q I r h;let#[ds,g,ρ,R,rs,d',g',#[x,l,rfl,hl,rfl,rfl],q]:=h;let#[v,rfl,rv]:=rs.one;let#[a,vs,rfl,rl,h]:=AN R rv hl;show aB2 pi s σ H _ us Q I r #[a,vs,rfl,?_];show h.imp (λz=>#[z.2,λp hp=>q.tup R hp rl]) (λz=>#[z.2.sq,q.now R (.tup z.2 rl)])
def bE5:m5 X (.builtin "isinstance") (rN X.K .isin):=by
 intro pi s σ H xs us Q I r h;let#[ds,g,ρ,R,rs,d',g',#[x,c,b,rfl,hc,hb,rfl,rfl],q]:=h;let#[v,w,rfl,r1,r2]:=rs.two;obtain rfl:=r2.ZG;let fin:=q.now R (.bl b);let go:∀(t:Value) (v:V),iH X.K H v t->PySem.W.kitOne X.K t (.type c)=!b->Vals [v,V.ty c] us->wpAny (model X.prog X.w) X.A (call (.builtin "isinstance") us) (EP X pi σ Q) X.xe s :=
  λt v ht hk r=>aP4 pi s σ H _ us Q I r #[v,t,c,b,rfl,ht,hk,fin]
 simp only[List.mem_cons,List.mem_nil_iff,or_false] at hc;cases r1 with
 |aW=>show go _ _ .aW ?_ r;cases hb;rcases hc with rfl|rfl|rfl|rfl|rfl<;>rfl
 |bl y=>show go _ _ (.bl y) ?_ r;cases hb;rcases hc with rfl|rfl|rfl|rfl|rfl<;>rfl
 |int y=>show go _ _ (.int y) ?_ r;cases hb;rcases hc with rfl|rfl|rfl|rfl|rfl<;>rfl
 |str y=>show go _ _ (.str y) ?_ r;cases hb;rcases hc with rfl|rfl|rfl|rfl|rfl<;>rfl
 |ty _=>cases hb
 |tup ht rs =>
  cases hb;rcases ht with ht|ht
  .refine go _ _ (.tup ht) ?_ r;rcases hc with rfl|rfl|rfl|rfl|rfl<;>rfl
  .let#[o,bc,n,lk,jZ,_]:=ht;let#[u,w',rfl,ru,fY]:=vals2 r;cases (show w'=Value.type c from fY);cases ru;let hk:PySem.W.kitOne X.K (.type "tuple") (.type c)=!(c=="tuple"):=by rcases hc with rfl|rfl|rfl|rfl|rfl<;>rfl
   show bW QC I.gC #[o,I.gC _ _ lk,jZ] hk (λz=>nomatch z) λtk=>#[.bl _,H,I.tok tk,rfl,fin]
 |@ref i a ha =>
  let qx:(∃m,g'[i]?=!.lst m/\b=(c=="list"))\/∃y fs,g'[i]?=!.ins y fs/\b=false:=by
   simp only[si] at hb;split at hb
   .exact .inl #[_,by assumption,(aD hb).symm]
   .exact .inr #[_,_,by assumption,(aD hb).symm]
   .cases hb
  rcases qx with⟨m,e,rfl⟩|⟨y,fs,e,rfl⟩
  rotate_left
  .let#[C,dx,vs,hH,_,hC,_]:=R.ins e ha;show go _ _ (.ins hH hC.toCls hC.ci hC.cn hC.ct hC.cm) (hC.Sh (_/hc)) r
  let#[vs,z,_]:=R.lst e ha;show go _ _ (.lst z) ?_ r;rcases hc with rfl|rfl|rfl|rfl|rfl<;>rfl
set_option tactic.hygienic true in
def a24:∀{l:@&D} {b:Bool},Y3 l=!b->∃bs:@&Bool,l=bs.map D.bl/\b=bs.all id:=by
 intro l
 induction l with
 |nil=>intro b h;cases h;show#[[],rfl,rfl]
 |cons d r ih =>
  intro b h;cases d<;>first|(cases h;done)|skip
  rename_i c;simp only[Y3] at h;cases e:Y3 r with
  |none=>simp_all
  |some b' =>
   rw[e] at h;cases h;let#[bs,rfl,rfl]:=ih e;show#[c::bs,rfl,by simp]
def b0.KU{K ρ H}:∀{bs:@&Bool} {vs:@&V},b0 K ρ H (bs.map D.bl) vs->vs=bs.map V.bl:=by
 intro bs
 induction bs with
 |nil=>intro vs h;cases h;rfl
 |cons b r ih =>
  intro vs h;cases h with
  |cons h rr=>rw[ih rr,h.O1];rfl
def ZO(hc:X.calm=true):m5 X (.builtin "all") (rN X.K .all):=by
 intro pi s σ H xs us Q I r h;let#[ds,g,ρ,R,rs,d',g',#[a,l,b,rfl,hl,hb,rfl,rfl],q]:=h;let#[v,rfl,rv]:=rs.one;let#[a',rfl,ra]:=rv.j9;let#[vs,hq,rs]:=R.items hl ra;rcases hb with hb|⟨ns,rfl,rfl⟩
 rotate_left
 .have:=rs.ints;subst this;show YG hc pi s σ H _ us Q I r #[_,ns,rfl,hq,q.now R (.bl _)]
 let#[bs,rfl,rfl]:=a24 hb;have:=rs.KU;subst this;show YE hc pi s σ H _ us Q I r #[_,bs,rfl,hq,q.now R (.bl _)]
set_option tactic.hygienic true in
def a22:∀{l:@&D} {b:Bool},Y2 l=!b->∃bs:@&Bool,l=bs.map D.bl/\b=bs.any id:=by
 intro l
 induction l with
 |nil=>intro b h;cases h;show#[[],rfl,rfl]
 |cons d r ih =>
  intro b h;cases d<;>first|(cases h;done)|skip
  rename_i c;simp only[Y2] at h;cases e:Y2 r with
  |none=>simp_all
  |some c' =>
   rw[e] at h;cases h;let#[bs,rfl,rfl]:=ih e;show#[c::bs,rfl,rfl]
def ZP(hc:X.calm=true):m5 X (.builtin "any") (rN X.K .any):=by
 intro pi s σ H xs us Q I r h;let#[ds,g,ρ,R,rs,d',g',#[a,l,b,rfl,hl,hb,rfl,rfl],q]:=h;let#[bs,rfl,rfl]:=a22 hb;let#[v,rfl,rv]:=rs.one;let#[a',rfl,ra]:=rv.j9;let#[vs,hq,rs]:=R.items hl ra;have:=rs.KU;subst this;show YH hc pi s σ H _ us Q I r #[_,bs,rfl,hq,q.now R (.bl _)]
def bS0(hc:X.calm=true):m5 X (.builtin "max") (rN X.K .max):=by
 intro pi s σ H xs us Q I r h;obtain⟨ds,g,ρ,R,rs,d',g',⟨rfl,⟨i,j,rfl,rfl⟩|⟨a,ns,M,rfl,hl,h1,h2,rfl⟩⟩,q⟩:=h
 rotate_left
 .let#[v,rfl,rv]:=rs.one;let#[a',rfl,ra]:=rv.j9;let#[vs,hq,rs]:=R.items hl ra;have:=rs.ints;subst this;show YJ hc pi s σ H _ us Q I r #[_,ns,M,rfl,hq,h1,h2,q.now R (.int _)]
 let#[v,w,rfl,r1,r2]:=rs.two;obtain rfl:=r1.i6;obtain rfl:=r2.i6;show YI hc pi s σ H _ us Q I r #[i,j,rfl,q.now R (.int _)]
def bU1:m5 X (.type "int") (rN X.K .int):=by
 intro pi s σ H xs us Q I r h;let#[ds,g,ρ,R,rs,d',g',#[rfl,h],q]:=h;rcases h with⟨i,rfl,rfl⟩|⟨b,rfl,rfl⟩|⟨x,n,rfl,hl,hn,rfl⟩
 .let#[v,rfl,rv]:=rs.one;obtain rfl:=rv.i6;show Mb pi s σ H _ us Q I r (.inl #[i,rfl,q.now R (.int _)])
 .let#[v,rfl,rv]:=rs.one;obtain rfl:=rv.O1;show Mb pi s σ H _ us Q I r (.inr #[b,rfl,q.now R (.int _)])
 .let#[v,rfl,rv]:=rs.one;obtain rfl:=rv.l6;show aM4 pi s σ H _ us Q I r #[x,n,rfl,hl,hn,q.now R (.int _)]
def bK2:m5 X (.type "str") (rN X.K .str):=by
 intro pi s σ H xs us Q I r h;obtain⟨ds,g,ρ,R,rs,d',g',⟨i,rfl,hi,rfl,rfl⟩|⟨x,rfl,rfl,rfl⟩,q⟩:=h
 .let#[v,rfl,rv]:=rs.one;obtain rfl:=rv.i6;show aM0 pi s σ H _ us Q I r #[i,rfl,hi,q.now R (.str _)]
 .let#[v,rfl,rv]:=rs.one;obtain rfl:=rv.l6;let#[u,rfl,t,rfl]:=vals1 r;show PySem.P.str_of_str #[.str _,H,I,#[_,rfl],q.now R (.str _)]
abbrev rM(K:PySem.W.Frag)(p:Pr):V->@&V->Hp->VK->Prop:=λx xs H Q=>∃d ds g ρ,Rl K ρ g H/\d8 K ρ H d x/\b0 K ρ H ds xs/\cC p (d::ds) g (LQ K ρ H Q)
def W0{a b:D}{m:@&D}(h:a::l=b::m):a=b/\l=m:=by cases h;show#[rfl,rfl]
def Yz:mj X "list.append" (rM X.K .append):=by
 intro pi s σ H x xs v us Q I rx r h;let#[d,ds,g,ρ,R,rd,rs,d',g',#[a,y,l,ex,ha,hz,rfl,rfl],q]:=h;let#[rfl,rfl]:=W0 ex;let#[a',rfl,ra]:=rd.j9;let#[w,rfl,fY]:=rs.one;let#[vs,z1,rv]:=R.lst ha ra;let#[R2,e2]:=R.write ha ra (rv.append (.cons fY .nil));show a95 pi s σ H _ _ v us Q I rx r #[_,vs,_,rfl,rfl,z1,by rw[<- -rv];show Bf hz,q ρ _ _ e2 R2 .aW]
def XD:mj X "list.pop" (rM X.K .pop):=by
 intro pi s σ H x xs v us Q I rx r h;let#[d,ds,g,ρ,R,rd,rs,y,g',#[a,i,l,k,ex,ha,h1,h2,hk,hy,rfl],q]:=h;let#[rfl,rfl]:=W0 ex;let#[a',rfl,ra]:=rd.j9;let#[w,rfl,fY]:=rs.one;obtain rfl:=fY.i6;let#[vs,z1,rv]:=R.lst ha ra;let#[w,hw,fY]:=rv.get hy;let#[R2,e2]:=R.write ha ra (rv.erase k);show Xl pi s σ H _ _ v us Q I rx r #[_,vs,i,k,w,rfl,rfl,z1,h1,h2,by rw[<- -rv];show hk,hw,q ρ _ _ e2 R2 (fY.ext e2)]
def b0.strs{K ρ H}{ys:@&Str}(h:b0 K ρ H (ys.map D.str) vs):vs=ys.map V.str:=by
 induction ys generalizing vs with
 |nil=>cases h;rfl
 |cons y ys ih =>
  cases h with
  |cons q r=>cases q;rw[ih r];rfl
def bE2:mj X "str.join" (rM X.K .join):=by
 intro pi s σ H x xs v us Q I rx r h;let#[d,ds,g,ρ,R,rd,rs,d',g',#[sep,a,ys,ex,ha,hz,rfl,rfl],q]:=h;let#[rfl,rfl]:=W0 ex;obtain rfl:=rd.l6;let#[w,rfl,fY]:=rs.one;let#[a',rfl,ra]:=fY.j9;let#[vs,hq,rv]:=R.items ha ra;obtain rfl:=rv.strs;show bD4 pi s σ H _ _ v us Q I rx r #[sep,a',ys,rfl,rfl,hq,j5 hz,q.now R (.str _)]
def b0.ofStrs{K ρ H}:∀ys:@&Str,b0 K ρ H (ys.map D.str) (ys.map V.str)
 |[]=>.nil
 |y::ys=>.cons (.str _) (b0.ofStrs ys)
def Yg:mj X "str.split" (rM X.K .split):=by
 intro pi s σ H x xs v us Q I rx r h;let#[d,ds,g,ρ,R,rd,rs,d',g',#[a,b,ex,hb,ha,hz,rfl,rfl],q]:=h;let#[rfl,rfl]:=W0 ex;obtain rfl:=rd.l6;let#[w,rfl,fY]:=rs.one;obtain rfl:=fY.l6;show Xm pi s σ H _ _ v us Q I rx r #[a,b,rfl,rfl,hb,j5 ha,j5 hz,λp hp=>?_];show q (ρ++[p]) _ _ (K4 hp) (R.new hp (o:=.lst ((Txt.split a b).map .str)) (u:=.lst ((Txt.split a b).map V.str)) (b0.ofStrs _)) (.ref (R.B4 p))
def b0.putIn{K ρ H}{y:D}{w:V}(r:d8 K ρ H y w):∀{l:@&D} {vs:@&V} (k:Nat),b0 K ρ H l vs->b0 K ρ H (l.take k++y::l.drop k) (vs.take k++w::vs.drop k)
 |_,_,0,h=>.cons r h
 |_,_,k+1,.nil=>.cons r .nil
 |_,_,k+1,.cons a b=>.cons a (b0.putIn r k b)
def aZ1:mj X "list.insert" (rM X.K .gc):=by
 intro pi s σ H x xs v us Q I rx r h;let#[d,ds,g,ρ,R,rd,rs,d',g',#[a,i,l,y,ex,ha,h0,h1,hz,rfl,rfl],q]:=h;let#[rfl,rfl]:=W0 ex;let#[a',rfl,ra]:=rd.j9;let#[w1,w2,rfl,r1,r2]:=rs.two;obtain rfl:=r1.i6;let#[vs,z1,rv]:=R.lst ha ra;let#[R2,e2]:=R.write ha ra (b0.putIn r2 i.toNat rv);show a92 pi s σ H _ _ v us Q I rx r #[_,i,vs,w2,rfl,rfl,z1,h0,h1,by rw[<- -rv];show Bf hz,q ρ _ _ e2 R2 .aW]
def ty_str(R:Rl X.K ρ g H)(r:d8 X.K ρ H d v)(h:∃y,d=.str y):qa X.K "str" v H:=by
 let#[y,rfl]:=h;obtain rfl:=r.l6;show rfl
def ty_list(R:Rl X.K ρ g H)(r:d8 X.K ρ H d v)(h:∃a l,d=.ref a/\f6 g a=!l):qa X.K "list" v H:=by
 let#[a,l,rfl,hl]:=h;let#[a',rfl,ra]:=r.j9;let#[vs,hq,_]:=R.items hl ra;show .inl #[rfl,vs,hq]
noncomputable abbrev iX:=@&Str×XK
abbrev Lu(K:PySem.W.Frag)(ex:@&Str)(x:Xn)(C:Addr)(od:Option Addr)(H:Hp):Prop :=
 (x.cls∈ex/\x.cls.cps.size≠1/\i9 K x.cls C/\od=none)\/∃n dA,x=J1 n/\i9 K "BadText" C/\od=!dA/\H dA=!.xd [("row",.int n)]
abbrev LX(K:PySem.W.Frag)(ρ:@&Addr)(H:Hp)(Ξ:iX):KX:=λx g'=>∀bY H' C od,Ext ρ H bY H'->Rl K bY g' H'->Lu K Ξ.1 x C od H'->Ξ.2 (.ref C) od H'
def LX.ext{K:PySem.W.Frag}{cg:@&Addr}{H1:Hp}{Ξ:iX}(e:Ext ρ H cg H1){x:Xn}(h:LX K ρ H Ξ x g):LX K cg H1 Ξ x g:=λbY H' C od e' R hm=>h bY H' C od (e.trans e') R hm
noncomputable abbrev zt(ex:@&Str):iX:=(ex,λx x x=>False)
def LE(K:PySem.W.Frag)(Ξ:iX)(t:S->G->KD->KX->Prop):TE:=λbV H Q=>∃σ g ρ,n4 K ρ H σ bV/\Rl K ρ g H/\t σ g (LQ K ρ H Q) (LX K ρ H Ξ)
def LT(K:PySem.W.Frag)(Ξ:iX)(t:S->G->(Bool->G->Prop)->KX->Prop):TT:=λbV H Q=>∃σ g ρ,n4 K ρ H σ bV/\Rl K ρ g H/\t σ g (λb g'=>∀bY H',Ext ρ H bY H'->Rl K bY g' H'->Q b H') (LX K ρ H Ξ)
def LA(K:PySem.W.Frag)(Ξ:iX)(t:S->G->(List D->G->Prop)->KX->Prop):TA:=λbV H Q=>∃σ g ρ,n4 K ρ H σ bV/\Rl K ρ g H/\t σ g (λds g'=>∀bY H' vs,Ext ρ H bY H'->Rl K bY g' H'->b0 K bY H' ds vs->Q vs H') (LX K ρ H Ξ)
def qV(K:PySem.W.Frag)(gO:@&Addr)(H0:Hp)(k:IK)(J:It):Prop:=∀ρ g H,Ext gO H0 ρ H->Rl K ρ g H->∀i,(k.at i g=!none->J.stop i H) /\
 ∀d,k.at i g=!!d->J.go i H/\∀v H',J.uJ i H v H'->Ext ρ H ρ H'/\Rl K ρ g H'/\d8 K ρ H' d v
def LI(K:PySem.W.Frag)(Ξ:iX)(t:S->G->(IK->G->Prop)->KX->Prop):TI:=λbV H R=>∃σ g ρ,n4 K ρ H σ bV/\Rl K ρ g H/\t σ g (λk g'=>∀bY H' J,Ext ρ H bY H'->Rl K bY g' H'->qV K bY H' k J->R J H') (LX K ρ H Ξ)
def LG(K:PySem.W.Frag)(t:MT):TG:=λv bV H Q=>∃d σ g ρ,n4 K ρ H σ bV/\Rl K ρ g H/\d8 K ρ H d v/\mU t d σ (λcJ=>∀eV,n4 K ρ H cJ eV->Q eV H)
abbrev LN(K:PySem.W.Frag)(ρ:@&Addr)(H:Hp)(N:L2.Ends):Ends where
 nx:=λcJ g'=>∀bY H' eV,Ext ρ H bY H'->Rl K bY g' H'->n4 K bY H' cJ eV->N.nx eV H'
 rt:=LQ K ρ H N.rt
 bk:=λcJ g'=>∀bY H' eV,Ext ρ H bY H'->Rl K bY g' H'->n4 K bY H' cJ eV->N.bk eV H'
 ct:=λcJ g'=>∀bY H' eV,Ext ρ H bY H'->Rl K bY g' H'->n4 K bY H' cJ eV->N.ct eV H'
def LS(K:PySem.W.Frag)(Ξ:iX)(t:Ends->S->G->KX->Prop):TS:=λN bV H=>∃σ g ρ,n4 K ρ H σ bV/\Rl K ρ g H/\t (LN K ρ H N) σ g (LX K ρ H Ξ)
end M
namespace L2
open PySem PySem.Spec PyProof.Rows
variable{t t':TT}
section
variable{X:Cx}{e:Expr}
def PE.imp{t t':TE}(h:PE X e t)(i:∀σ H Q,t' σ H Q->t σ H Q):PE X e t':=λpi s σ H Q I q=>h pi s σ H Q I (i σ H Q q)
def PT.imp(h:PT X e t)(i:∀σ H Q,t' σ H Q->t σ H Q):PT X e t':=λpi s σ H Q I q=>h pi s σ H Q I (i σ H Q q)
def PW.imp(h:PW X e t)(i:∀σ H Q,t' σ H Q->t σ H Q):PW X e t':=λw pi s σ H Q I q=>h w pi s σ H Q I (i σ H Q q)
def PA.imp{es:@&Expr}{t t':TA}(h:PA X es t)(i:∀σ H Q,t' σ H Q->t σ H Q):PA X es t':=λp pi s σ H Q I q=>h p pi s σ H Q I (i σ H Q q)
def nN.imp{es:@&Expr}(h:nN X es t)(i:∀σ H Q,t' σ H Q->t σ H Q):nN X es t':=λpi s σ H Q I q=>h pi s σ H Q I (i σ H Q q)
def PI.imp{tg:Expr}{t t':TI}(h:PI X tg e t)(i:∀σ H Q,t' σ H Q->t σ H Q):PI X tg e t':=λpi s σ H Q I q=>h pi s σ H Q I (i σ H Q q)
def PG.imp{t t':TG}(h:PG X e t)(i:∀v σ H Q,t' v σ H Q->t v σ H Q):PG X e t':=λpi s σ H v u Q I r q=>h pi s σ H v u Q I r (i v σ H Q q)
def PS.imp{st:Stmt}{t t':TS}(h:PS X st t)(i:∀N σ H,t' N σ H->t N σ H):PS X st t':=λpi s σ H N I q=>h pi s σ H N I (i N σ H q)
def jM.imp{st:@&Stmt}{t t':TS}(h:jM X st t)(i:∀N σ H,t' N σ H->t N σ H):jM X st t':=λpi s σ H N I q=>h pi s σ H N I (i N σ H q)
end
end L2
namespace M
open PySem L2 PySem.Spec PyProof.Rows
variable{Ξ:iX}{P:gu}{op ja:CmpOp}{rest es:@&Expr}{ie mo:ME}{p2 apos:Pos}{x:Str}{o:Expr}
section
variable{K:PySem.W.Frag}(hP:k9 P){ρ gO:@&Addr}{H H0:Hp}{σ:S}{bV:L2.St}{g:G}{m:ME}
include hP
def fK{Q0:KD}{Q:VK}(s:n4 K ρ H σ bV)(R:Rl K ρ g H)(e0:Ext gO H0 ρ H)(h:bh P m σ g Q0 (LX K gO H0 Ξ))(k:∀x g1 cg H1 v1,Ext ρ H cg H1->Rl K cg g1 H1->d8 K cg H1 x v1->Q0 x g1->Q v1 H1):LE K Ξ (bh P m) bV H Q :=
 #[σ,g,ρ,s,R,d0 hP m _ _ _ _ _ _ (λx g1 h cg H1 v1 e1 R1 r1=>k x g1 cg H1 v1 e1 R1 r1 h) (λy y z=>LX.ext e0 z) h]
def lD{Q0:@&D->G->Prop}{Q:@&V->Hp->Prop}(s:n4 K ρ H σ bV)(R:Rl K ρ g H)(e0:Ext gO H0 ρ H)(h:gh P m σ g Q0 (LX K gO H0 Ξ))(k:∀x g1 cg H1 v1,Ext ρ H cg H1->Rl K cg g1 H1->b0 K cg H1 x v1->Q0 x g1->Q v1 H1):LA K Ξ (gh P m) bV H Q :=
 #[σ,g,ρ,s,R,p7 hP m _ _ _ _ _ _ (λx g1 h cg H1 v1 e1 R1 r1=>k x g1 cg H1 v1 e1 R1 r1 h) (λy y z=>LX.ext e0 z) h]
def sO{Q0:Bool->G->Prop}{Q:Bool->Hp->Prop}(s:n4 K ρ H σ bV)(R:Rl K ρ g H)(e0:Ext gO H0 ρ H)(h:fk P m σ g Q0 (LX K gO H0 Ξ))(k:∀t g1 cg H1,Ext ρ H cg H1->Rl K cg g1 H1->Q0 t g1->Q t H1):LT K Ξ (fk P m) bV H Q :=
 #[σ,g,ρ,s,R,B3 hP m _ _ _ _ _ _ (λt g1 h cg H1 e1 R1=>k t g1 cg H1 e1 R1 h) (λx x z=>LX.ext e0 z) h]
def wD{ms:MS}{N:L2.Ends}{N0:Ends}(s:n4 K ρ H σ bV)(R:Rl K ρ g H)(e0:Ext gO H0 ρ H)(h:wpS P ms N0 σ g (LX K gO H0 Ξ))(k:N0.le (LN K ρ H N)):LS K Ξ (wpS P ms) N bV H :=
 #[σ,g,ρ,s,R,wpS_mono hP ms _ _ _ _ _ _ k (λx x z=>LX.ext e0 z) h]
end
def b0.qd{K ρ H}(lo:Int)(n:Nat):b0 K ρ H (o7 lo n) ((List.range n).map λ(k:Nat)=>V.int (lo+k)):=by
 have:∀l:@&Nat,b0 K ρ H (l.map λ(k:Nat)=>D.int (lo+k)) (l.map λ(k:Nat)=>V.int (lo+k)):=by
  intro l
  induction l with
  |nil=>show .nil
  |cons x r ih=>show .cons (.int _) ih
 show this _
section
variable{X:Cx}(hP:k9 P){a b c e:Expr}{ma mb mc:ME}{pos:Pos}{p:Pr}
include hP
def Hx(h:PE X e (uM (r2 X.K p) (LE X.K Ξ (bh P ma)) (LE X.K Ξ (bh P mb)))):PE X e (LE X.K Ξ (bh P (.prim p (.cons ma (.cons mb .nil))))) :=
 h.imp λbV H Q bx=>by
  let#[σ,g,ρ,s,R,h]:=bx;show fK hP s R (.refl _ _) h λx g1 cg H1 v1 e1 R1 r1 h=>fK hP (s.ext e1) R1 e1 h λy g2 fX H2 v2 e2 R2 r2 h =>
   #[x,y,g2,fX,R2,r1.ext e2,r2,p9 (λd g' h=>h.ext (e1.trans e2)) h]
def bK4(h:PT X e (GY (uM (r2 X.K (.cmp op)) (LE X.K Ξ (bh P ma)) (LE X.K Ξ (bh P mb))))):PT X e (LT X.K Ξ (fk P (.fQ (.prim (.cmp op) (.cons ma (.cons mb .nil)))))) :=
 h.imp λbV H Q bx=>by
  let#[σ,g,ρ,s,R,h]:=bx;show fK hP s R (.refl _ _) h λx g1 cg H1 v1 e1 R1 r1 h=>fK hP (s.ext e1) R1 e1 h λy g2 fX H2 v2 e2 R2 r2 h=>?_;let#[d',g',h,q]:=h;let#[x',y',t,ex,hc,rfl,rfl]:=id h;show#[x,y,g',fX,R2,r1.ext e2,r2,_,_,h,λbY H' v e' R' r'=>?_];let#[t',ht,q]:=q;rcases ht with⟨z,_⟩|z|⟨i,z,_⟩|⟨l,z,_⟩|⟨a,l,z,_⟩<;>cases z
  show#[_,r'.O1,q bY H' (e1.trans (e2.trans e')) R']
def Zo{op:UnaryOp}(ha:PE X a (LE X.K Ξ (bh P ma))):PE X (.UnaryOp op a pos) (LE X.K Ξ (bh P (.prim (.un op) (.cons ma .nil)))) :=
 (b05 (b13 op) ha).imp λbV H Q bx=>by
  let#[σ,g,ρ,s,R,h]:=bx;show fK hP s R (.refl _ _) h λx g1 cg H1 v1 e1 R1 r1 h=>#[x,g1,cg,R1,r1,p9 (λd g' h=>h.ext e1) h]
def OI:∀bV H Q,LE X.K Ξ (bh P (.chain op ja ma mb mc)) bV H Q->HB (r2 X.K (.cmp op)) (r2 X.K (.cmp ja)) (LE X.K Ξ (bh P ma)) (LE X.K Ξ (bh P mb)) (LE X.K Ξ (bh P mc)) bV H Q:=λbV H Q bx=>by
 let#[σ,g,ρ,s,R,h]:=bx;show fK hP s R (.refl _ _) h λx g1 cg H1 v1 e1 R1 r1 h=>fK hP (s.ext e1) R1 e1 h λy g2 fX H2 v2 e2 R2 r2 h=>?_;show#[x,y,g2,fX,R2,r1.ext e2,r2,p9 (λd g3 h lB H3 v3 e3 R3 r3=>?_) h];let#[t,rfl,h]:=h;obtain rfl:=r3.O1;show#[t,rfl,?_];cases t
 .exact h lB H3 _ (e1.trans (e2.trans e3)) R3 (.bl _)
 .exact fK hP (s.ext (e1.trans (e2.trans e3))) R3 (e1.trans (e2.trans e3)) h λz g4 nJ H4 v4 e4 R4 r4 h =>
   #[y,z,g4,nJ,R4,r2.ext (e3.trans e4),r4,p9 (λd g' h=>h.ext (e1.trans (e2.trans (e3.trans e4)))) h]
def XU(hu:X.A.units+100<cLine)(ha:PE X a (LE X.K Ξ (bh P ma)))(hb:PE X b (LE X.K Ξ (bh P mb)))(hc:PE X c (LE X.K Ξ (bh P mc)))(hm:lastMarks [op,ja] [b,c]=false) :
  PE X (.Compare a [op,ja] [b,c] pos) (LE X.K Ξ (bh P (.chain op ja ma mb mc))):=(Xw (vY hu op) (vY hu ja) ha hb hc hm).imp (OI hP)
def Wz{σ:S}{g:G}{Q:Bool->G->Prop}{E:KX}(h:fk P (.fQ (.chain op ja ma mb mc)) σ g Q E):bh P (.chain op ja ma mb mc) σ g (λd g'=>∃t,d=.bl t/\Q t g') E:=by
 let one:∀{o:CmpOp} {xs:@&D} {g:G},cC (.cmp o) xs g (λd g1=>ui g1 d λb=>Q b g1)->cC (.cmp o) xs g λd g'=>∃t,d=.bl t/\Q t g':=by
  intro o xs g h;let#[d',g',h,t',ht,q]:=h;let#[x',y',t,ex,hc,rfl,rfl]:=id h;show#[_,_,h,t',?_,q];rcases ht with⟨z,_⟩|z|⟨i,z,_⟩|⟨l,z,_⟩|⟨a,l,z,_⟩<;>first|show z|cases z
 show d0 hP ma _ _ _ _ _ _ (λx g1 h=>d0 hP mb _ _ _ _ _ _ (λy g2 h=>p9 (λz g3 h=>?_) h) (λv v z=>z) h) (λv v z=>z) h;let#[t,rfl,h]:=h;show#[t,rfl,?_];cases t
 .let#[b,hb,q]:=(show ui g3 (.bl false) λb=>Q b g3 from h)
  rcases hb with⟨z,_⟩|z|⟨i,z,_⟩|⟨l,z,_⟩|⟨a,l,z,_⟩<;>first|(cases z;show#[_,rfl,q])|cases z
 .exact d0 hP mc _ _ _ _ _ _ (λw g4 h=>one h) (λv v z=>z) h
def Yh(hu:X.A.units+100<cLine)(ha:PE X a (LE X.K Ξ (bh P ma)))(hb:PE X b (LE X.K Ξ (bh P mb)))(hc:PE X c (LE X.K Ξ (bh P mc)))(hm:lastMarks [op,ja] [b,c]=false) :
  PT X (.Compare a [op,ja] [b,c] pos) (LT X.K Ξ (fk P (.fQ (.chain op ja ma mb mc)))) :=
 (XH (vY hu op) (vY hu ja) ha hb hc hm).imp λbV H Q ⟨σ,g,ρ,s,R,h⟩ =>
  OI hP bV H _ (fK hP s R (.refl _ _) (Wz hP h) λx g1 cg H1 v1 e1 R1 r1 h=>by
   let#[t,rfl,h]:=h;show #[t,r1.O1,h cg H1 e1 R1])
def bN0(ha:PE X a (LE X.K Ξ (bh P ma)))(hb:PE X (.BoolOp .And (b::rest) pos) (LE X.K Ξ (bh P mb))):PE X (.BoolOp .And (a::b::rest) pos) (LE X.K Ξ (bh P (.fU ma mb))) :=
 (bP5 ha hb).imp λbV H Q bx=>by
  let#[σ,g,ρ,s,R,h]:=bx;show fK hP s R (.refl _ _) h λx g1 cg H1 v1 e1 R1 r1 h=>?_;let#[t,rfl,h]:=h;show#[t,r1.O1,?_];cases t
  .exact h cg H1 _ e1 R1 (.bl _)
  .exact fK hP (s.ext e1) R1 e1 h λy g2 fX H2 v2 e2 R2 r2 h=>h fX H2 v2 (e1.trans e2) R2 r2
def Zn(ha:PE X a (LE X.K Ξ (bh P ma)))(hb:PE X (.BoolOp .Or (b::rest) pos) (LE X.K Ξ (bh P mb))):PE X (.BoolOp .Or (a::b::rest) pos) (LE X.K Ξ (bh P (.gW ma mb))) :=
 (b06 ha hb).imp λbV H Q bx=>by
  let#[σ,g,ρ,s,R,h]:=bx;show fK hP s R (.refl _ _) h λx g1 cg H1 v1 e1 R1 r1 h=>?_;let#[t,rfl,h]:=h;show#[t,r1.O1,?_];cases t
  .exact fK hP (s.ext e1) R1 e1 h λy g2 fX H2 v2 e2 R2 r2 h=>h fX H2 v2 (e1.trans e2) R2 r2
  .exact h cg H1 _ e1 R1 (.bl _)
def bM3(ha:PE X a (LE X.K Ξ (bh P ma))):PE X (.UnaryOp .Not a pos) (LE X.K Ξ (bh P (.eF ma))) :=
 (bP1 ha).imp λbV H Q bx=>by
  let#[σ,g,ρ,s,R,h]:=bx;show fK hP s R (.refl _ _) h λx g1 cg H1 v1 e1 R1 r1 h=>?_;let#[t,rfl,h]:=h;show#[t,r1.O1,h cg H1 _ e1 R1 (.bl _)]
def bM5(hc:PT X c (LT X.K Ξ (fk P mc)))(ha:PE X a (LE X.K Ξ (bh P ma)))(hb:PE X b (LE X.K Ξ (bh P mb))):PE X (.IfExp c a b pos) (LE X.K Ξ (bh P (.ite mc ma mb))) :=
 (Xy hc ha hb).imp λbV H Q bx=>by
  let#[σ,g,ρ,s,R,h]:=bx;show sO hP s R (.refl _ _) h λt g1 cg H1 e1 R1 h=>?_;cases t
  .exact fK hP (s.ext e1) R1 e1 h λy g2 fX H2 v2 e2 R2 r2 h=>h fX H2 v2 (e1.trans e2) R2 r2
  .exact fK hP (s.ext e1) R1 e1 h λy g2 fX H2 v2 e2 R2 r2 h=>h fX H2 v2 (e1.trans e2) R2 r2
def bM1{k:Nat}(h:PA X es (LA X.K Ξ (gh P ie))):PE X (.Tuple es k pos) (LE X.K Ξ (bh P (.prim .tup ie))) :=
 (bO9 h).imp λbV H Q bx=>by
  let#[σ,g,ρ,s,R,h]:=bx;show lD hP s R (.refl _ _) h λds g1 cg H1 vs e1 R1 r1 h=>?_;let#[d',g',#[hz,rfl,rfl],q]:=h;show#[by rw[<- -r1];show j5 (aL hz ∅),λp hp=>(q.ext e1).tup R1 hp r1]
def bM4(h:PA X es (LA X.K Ξ (gh P ie))):PE X (.List es pos) (LE X.K Ξ (bh P (.prim .lst ie))) :=
 (PV h).imp λbV H Q bx=>by
  let#[σ,g,ρ,s,R,h]:=bx;show lD hP s R (.refl _ _) h λds g1 cg H1 vs e1 R1 r1 h=>?_;let#[d',g',#[hz,rfl,rfl],q]:=h;show#[by rw[<- -r1];show j5 (aL hz ∅),λp hp=>(q.ext e1).new R1 hp r1]
def yZ:PA X [] (LA X.K Ξ (gh P .nil)) :=
 (V4).imp λbV H Q bx=>by
  let#[σ,g,ρ,s,R,h]:=bx;show h ρ H [] (.refl _ _) R .nil
def K9(ha:PE X a (LE X.K Ξ (bh P ma)))(h:PA X es (LA X.K Ξ (gh P ie)))(hs:starEach (a::es) X.env=(false,eval a X.env)::starEach es X.env):PA X (a::es) (LA X.K Ξ (gh P (.cons ma ie))) :=
 (P2 ha h hs).imp λbV H Q bx=>by
  let#[σ,g,ρ,s,R,h]:=bx;show fK hP s R (.refl _ _) h λx g1 cg H1 v1 e1 R1 r1 h=>lD hP (s.ext e1) R1 e1 h λxs g2 fX H2 vs e2 R2 r2 h=>h fX H2 _ (e1.trans e2) R2 (.cons (r1.ext e2) r2)
def Yb(ha:PE X a (LE X.K Ξ (bh P ma)))(hb:PE X b (LE X.K Ξ (bh P mb))):PE X (.Subscript a (.Slice (!b) none none p2) pos) (LE X.K Ξ (bh P (.prim (.kn true false) (.cons ma (.cons mb .nil))))) :=
 (Pe Ky ha (Oh hb) Og).imp λbV H Q bx=>by
  let#[σ,g,ρ,s,R,h]:=bx;show fK hP s R (.refl _ _) h λx g1 cg H1 v1 e1 R1 r1 h=>fK hP (s.ext e1) R1 e1 h λy g2 fX H2 v2 e2 R2 r2 h=>?_;let#[d',g',#[x',i,ex,h],q]:=h;cases ex;show#[i,r2.i6,x,g2,fX,d',g',R2,r1.ext e2,h,q.ext (e1.trans e2)]
def Ya(ha:PE X a (LE X.K Ξ (bh P ma)))(hb:PE X b (LE X.K Ξ (bh P mb))):PE X (.Subscript a (.Slice none (!b) none p2) pos) (LE X.K Ξ (bh P (.prim (.kn false true) (.cons ma (.cons mb .nil))))) :=
 (Pe Ky ha Og (Oh hb)).imp λbV H Q bx=>by
  let#[σ,g,ρ,s,R,h]:=bx;show fK hP s R (.refl _ _) h λx g1 cg H1 v1 e1 R1 r1 h=>fK hP (s.ext e1) R1 e1 h λy g2 fX H2 v2 e2 R2 r2 h=>?_;let#[d',g',#[x',i,ex,h],q]:=h;cases ex;show#[i,r2.i6,x,g2,fX,d',g',R2,r1.ext e2,h,q.ext (e1.trans e2)]
def bK3(ha:PE X a (LE X.K Ξ (bh P ma)))(he:∀whole,isTrue a X.env whole=(do let v <- whole;standAt a.pos;holding [v] (truthy v))):PT X a (LT X.K Ξ (fk P (.fQ ma))) :=
 (XI ha he).imp λbV H Q bx=>by
  let#[σ,g,ρ,s,R,h]:=bx;show fK hP s R (.refl _ _) h λx g1 cg H1 v1 e1 R1 r1 h=>?_;let#[b,h1,h2]:=h;show#[b,bI6 R1 r1 h1,h2 cg H1 e1 R1]
def bK5(ha:PT X a (LT X.K Ξ (fk P ma))):PT X (.UnaryOp .Not a pos) (LT X.K Ξ (fk P (.eF ma))) :=
 (bO4 ha).imp λbV H Q bx=>by
  let#[σ,g,ρ,s,R,h]:=bx;show sO hP s R (.refl _ _) h λt g1 cg H1 e1 R1 h=>h cg H1 e1 R1
def bJ9(ha:PT X a (LT X.K Ξ (fk P ma)))(hb:PW X (.BoolOp .And (b::rest) pos) (LT X.K Ξ (fk P mb))):PW X (.BoolOp .And (a::b::rest) pos) (LT X.K Ξ (fk P (.fU ma mb))) :=
 (bO3 ha hb).imp λbV H Q bx=>by
  let#[σ,g,ρ,s,R,h]:=bx;show sO hP s R (.refl _ _) h λt g1 cg H1 e1 R1 h=>?_;cases t
  .exact h cg H1 e1 R1
  .exact sO hP (s.ext e1) R1 e1 h λt g2 fX H2 e2 R2 h=>h fX H2 (e1.trans e2) R2
def Zs(ha:PT X a (LT X.K Ξ (fk P ma)))(hb:PW X (.BoolOp .Or (b::rest) pos) (LT X.K Ξ (fk P mb))):PW X (.BoolOp .Or (a::b::rest) pos) (LT X.K Ξ (fk P (.gW ma mb))) :=
 (b03 ha hb).imp λbV H Q bx=>by
  let#[σ,g,ρ,s,R,h]:=bx;show sO hP s R (.refl _ _) h λt g1 cg H1 e1 R1 h=>?_;cases t
  .exact sO hP (s.ext e1) R1 e1 h λt g2 fX H2 e2 R2 h=>h fX H2 (e1.trans e2) R2
  .exact h cg H1 e1 R1
def VZ:nN X [] (LT X.K Ξ (fk P .no)) :=
 (bA9).imp λbV H Q bx=>by
  let#[σ,g,ρ,s,R,h]:=bx;show h ρ H (.refl _ _) R
def bM9{v:Value}{q:Pos}(hv:(∃id,v=.builtin id)\/∃T,v=.type T)(hc:m5 X v (rN X.K p))(hg:Gl X x)(hm:X.mg x=none)(hb:bootBuiltins x=!v)(ha:PA X (e::es) (LA X.K Ξ (gh P ie)))(hn:x≠"__name__")(hd:(x==("__debug__":Str))=false)(eO:starEach (e::es) X.env=(false,eval e X.env)::starEach es X.env)(gI:(backTo pos (starEach es X.env)).any (·.1)=false):PE X (.Call (.Name x q) (e::es) [] pos) (LE X.K Ξ (bh P (.prim p ie))):=by
 let base:PE X (.Call (.Name x q) (e::es) [] pos) (CI (rN X.K p) (LA X.K Ξ (gh P ie))):=by
  rcases hv with⟨id,rfl⟩|⟨T,rfl⟩
  .exact Pd hc hg hm hb ha hn hd eO gI
  .exact W8 hc hg hm hb ha hn hd eO gI
 show base.imp λbV H Q bx=>?_;let#[σ,g,ρ,s,R,h]:=bx;show lD hP s R (.refl _ _) h λxs g1 cg H1 vs e1 R1 r1 h=>#[xs,g1,cg,R1,r1,p9 (λd g' h=>h.ext e1) h]
def VL{T:String}{name:Str}{id:String}(pa:PlainAttrs T)(slot:Slot T name id)(tD:typeOf (.builtin id)=pure (.type "method_descriptor"))(hm:mj X id (rM X.K p))(hk:∀{d:D} {v:V} {g:G} {ρ:@&Addr} {H:Hp},Rl X.K ρ g H->d8 X.K ρ H d v->mY p d g->qa X.K T v H)(ho:PE X o (LE X.K Ξ (bh P mo)))(ha:PA X (e::es) (LA X.K Ξ (gh P ie)))(gT:attributeBase o name X.env (eval o X.env)=eval o X.env)(lY:((backTo pos (starEach (e::es) X.env)).all (λx=>~~~x.1)&&(backToKw pos (keywordEach [] X.env)).all (λx=>x.1.isSome)&&decide ((e::es).length+([]:@&Keyword).length+(if([]:@&Keyword).isEmpty then 0 else 1)<30))=true)(gS:(apos.endLine==pos.line)=true)(hs:starEach (e::es) X.env=(false,eval e X.env)::starEach es X.env)(fM:(backTo pos (starEach es X.env)).any (·.1)=false) :
  PE X (.Call (.Attribute o name apos) (e::es) [] pos) (LE X.K Ξ (bh P (.cK p mo ie))) :=
 (b08 pa slot tD hm ho ha gT lY gS hs fM).imp λbV H Q bx=>by
  let#[σ,g,ρ,s,R,h]:=bx;show fK hP s R (.refl _ _) h λx g1 cg H1 v1 e1 R1 r1 h=>#[hk R1 r1 h.1,lD hP (s.ext e1) R1 e1 h.2 λxs g2 fX H2 ws e2 R2 r2 h =>
   #[x,xs,g2,fX,R2,r1.ext e2,r2,p9 (λd g' h=>h.ext (e1.trans e2)) h]]
def XZ{T:String}{name:Str}{id:String}(pa:PlainAttrs T)(slot:Slot T name id)(tD:typeOf (.builtin id)=pure (.type "method_descriptor"))(hm:mj X id (rM X.K p))(hk:∀{d:D} {v:V} {g:G} {ρ:@&Addr} {H:Hp},Rl X.K ρ g H->d8 X.K ρ H d v->mY p d g->qa X.K T v H)(ho:PE X o (LE X.K Ξ (bh P mo)))(gT:attributeBase o name X.env (eval o X.env)=eval o X.env)(gS:(apos.endLine==pos.line)=true) :
  PE X (.Call (.Attribute o name apos) [] [] pos) (LE X.K Ξ (bh P (.cK p mo .nil))) :=
 (bP4 pa slot tD hm ho gT gS).imp λbV H Q bx=>by
  let#[σ,g,ρ,s,R,h]:=bx;show fK hP s R (.refl _ _) h λx g1 cg H1 v1 e1 R1 r1 h=>#[hk R1 r1 h.1,x,[],g1,cg,R1,r1,.nil,p9 (λd g' h=>h.ext e1) h.2]
omit hP in
def OM{K ρ H}{d:D}{v:V}(r:d8 K ρ H d v)(h:vM d=true):v=toV d/\O0 v=true:=by
 cases r with
 |aW=>show#[rfl,rfl]
 |bl _=>show#[rfl,rfl]
 |int _=>show#[rfl,rfl]
 |str _=>show#[rfl,rfl]
 |ty _=>show absurd h bE
 |ref _=>show absurd h bE
 |tup _ _=>show absurd h bE
omit hP in
def YQ{K ρ H}{l:@&D}{vs:@&V}(r:b0 K ρ H l vs)(h:l.all vM=true):vs=l.map toV/\vs.all O0=true:=by
 induction l generalizing vs with
 |nil=>cases r;show#[rfl,rfl]
 |cons d l ih =>
  cases r with
  |cons rd rs =>
   rw[kB,bC] at h;let#[e1,f1]:=OM rd h.1;let#[e2,f2]:=ih rs h.2;subst e1 e2;show#[rfl,by rw[kB,f1,f2];rfl]
omit hP in
def Mf{K ρ H}{l:@&D}{vs:@&V}{y:D}{w:V}{n:Nat}(r:b0 K ρ H l vs)(ry:d8 K ρ H y w)(h:S7 l y n):AS vs w n:=by
 let#[h1,h2,#[z,h3,h4],h5]:=h;let#[e1,f1]:=YQ r h1;let#[e2,f2]:=OM ry h2;subst e1 e2;show#[f1,f2,#[toV z,by rw[aJ,h3];rfl,h4],λm z' hm hz=>?_];rw[aJ,ag] at hz;let#[QR,hz,rfl]:=hz;show h5 m QR hm hz
def XW(hu:X.A.units+100<cLine)(ho:PE X o (LE X.K Ξ (bh P mo)))(ha:PA X (e::es) (LA X.K Ξ (gh P ie)))(gT:attributeBase o "index" X.env (eval o X.env)=eval o X.env)(lY:((backTo pos (starEach (e::es) X.env)).all (λx=>~~~x.1)&&(backToKw pos (keywordEach [] X.env)).all (λx=>x.1.isSome)&&decide ((e::es).length+([]:@&Keyword).length+(if([]:@&Keyword).isEmpty then 0 else 1)<30))=true)(gS:(apos.endLine==pos.line)=true)(hs:starEach (e::es) X.env=(false,eval e X.env)::starEach es X.env)(fM:(backTo pos (starEach es X.env)).any (·.1)=false) :
  PE X (.Call (.Attribute o "index" apos) (e::es) [] pos) (LE X.K Ξ (bh P (.cK .index mo ie))) :=
 (Xz hu ho ha gT lY gS hs fM).imp λbV H Q bx=>by
  let#[σ,g,ρ,s,R,h]:=bx;show fK hP s R (.refl _ _) h λx g1 cg H1 v1 e1 R1 r1 h=>?_;let#[hk,h]:=h;rcases hk with⟨l,rfl⟩|⟨a,l,rfl,hl⟩
  .let#[a',vs,rfl,ta,rs]:=r1.A9;show .inr #[a',vs,rfl,ta.d,lD hP (s.ext e1) R1 e1 h λxs g2 fX H2 ws e2 R2 r2 h=>?_];let#[d',g',#[x,y,l',n,ex,hi,W,hz,rfl,rfl],q]:=h;cases ex;cases hi;let#[w,rfl,fY]:=r2.one;show#[a',vs,w,n,rfl,rfl,(ta.ext e2).sq,Mf (rs.ext e2) fY W,(q.ext (e1.trans e2)).now R2 (.int n)]
  .let#[a',rfl,ra]:=r1.j9;let#[vs,hq,_]:=R1.items hl ra;show .inl #[a',vs,rfl,hq,lD hP (s.ext e1) R1 e1 h λxs g2 fX H2 ws e2 R2 r2 h=>?_];let#[d',g',#[x,y,l',n,ex,hi,W,hz,rfl,rfl],q]:=h;cases ex;let#[w,rfl,fY]:=r2.one;let#[sN,SA,qc]:=R2.items (show f6 _ a=some l' from hi) (e2.get ra);let hn:n<2 ^ 62:=by
     let#[_,_,#[z,zX,_],_]:=W;have:=(aA.mp zX).1;omega
   show#[a',sN,w,n,rfl,rfl,SA,Mf qc fY W,hn,(q.ext (e1.trans e2)).now R2 (.int n)]
def XX{q tf:Pos}(hc:X.calm=true)(ha:PE X a (LE X.K Ξ (bh P ma)))(hb:PE X b (LE X.K Ξ (bh P mb)))(tN:Gl X "list")(DF:X.mg "list"=none)(hg:Gl X "range")(hm:X.mg "range"=none)(hs:starEach [a,b] X.env=[(false,eval a X.env),(false,eval b X.env)])(jG:starEach [b] X.env=[(false,eval b X.env)]) :
  PE X (.Call (.Name "list" p2) [.Call (.Name "range" q) [a,b] [] pos] [] tf) (LE X.K Ξ (bh P (.prim .kP (.cons ma (.cons mb .nil))))) :=
 (W8 (aB3 hc) tN DF (by rfl) (P2 (a78 hg hm (K9 hP ha (K9 hP hb (yZ hP) (by rw[jG];rfl)) (by rw[hs,jG])) hs jG) V4)).imp λbV H Q bx=>by
  let#[σ,g,ρ,s,R,h]:=bx;show lD hP s R (.refl _ _) h λxs g1 cg H1 vs e1 R1 r1 h=>?_;let#[d',g',#[i,j,rfl,hb,rfl,rfl],q]:=h;let#[v,w,rfl,rv,fY]:=r1.two;obtain rfl:=rv.i6;obtain rfl:=fY.i6;show#[i,j,rfl,λq' hq=>#[q',i,j,rfl,f9,hb,λp hp=>(q.ext (e1.trans (o6 hq))).new (R1.grow hq) hp (b0.qd i _)]]
def bM7{f:Str}(ha:PE X a (LE X.K Ξ (bh P ma)))(hb:attributeBase a f X.env (eval a X.env)=eval a X.env):PE X (.Attribute a f pos) (LE X.K Ξ (bh P (.prim (.fld f) (.cons ma .nil)))) :=
 (bP3 ha hb).imp λbV H Q bx=>by
  let#[σ,g,ρ,s,R,h]:=bx;show fK hP s R (.refl _ _) h λx g1 cg H1 v1 e1 R1 r1 h=>?_;let#[d',g',#[i,c,fs,ex,hi,hf,rfl],q]:=h;cases ex;let#[a',rfl,ra]:=r1.j9;let#[C,dx,vs,hH,_,hC,rk,na]:=R1.ins hi ra;let lk:=rk.look f;rw[hf] at lk;let#[v,hv,rv]:=lk.some;show#[a',C,dx,vs,v,rfl,hH,hC,na _ (aS hf),hv,q cg H1 v e1 R1 rv]
def bM2{i j:Nat}{y:Str}{q1 q2 p1 p3 p4 px py tf:Pos}(hc:X.calm=true)(hi:X.N[i]?=!x)(hj:X.N[j]?=!y)(vx:sy X.env.scope x)(vy:sy X.env.scope y)(dx:(x==("__debug__":Str))=false)(cx:(x==("__classdict__":Str))=false)(dy:(y==("__debug__":Str))=false)(cy:(y==("__classdict__":Str))=false)(tN:Gl X "sorted")(DF:X.mg "sorted"=none)(hg:Gl X "set")(hm:X.mg "set"=none) :
  PE X (.Call (.Name "sorted" p2) [.BinOp (.Call (.Name "set" q1) [.Name x px] [] p1) .BitOr (.Call (.Name "set" q2) [.Name y py] [] p3) p4] [] tf) (LE X.K Ξ (bh P (.prim .wF (.cons (.var i) (.cons (.var j) .nil))))) :=
 (Pd (as7 hc) tN DF (by rfl) (P2 (Ks a84 (W8 (Np hc) hg hm (by rfl) (P2 (V3 hi vx dx cx) V4)) (W8 (Np hc) hg hm (by rfl) (P2 (V3 hj vy dy cy) V4))) V4)).imp λbV H Q bx=>by
  let#[σ,g,ρ,s,R,h]:=bx;let#[d1,e1,d2,e2,d',g',#[ns,ms,ex,rO,mD,hl,rfl,rfl],q]:=h;cases ex;let#[v1,s1,r1]:=s.val _ _ e1;let#[v2,s2,r2]:=s.val _ _ e2;let#[a1,Iw,rfl,t1,uN]:=r1.A9;obtain rfl:=uN.ints;show#[.ref a1,s1,a1,ns,rfl,t1.sq,by omega,λp1 Du=>?_];let#[a2,sN,CK,t2,qc]:=(r2.ext (o6 Du)).A9;obtain rfl:=qc.ints;show#[.ref a2,by rw[<- CK];show s2,a2,ms,rfl,t2.sq,by omega,λp2 qp=>?_];let eX:=j7 (f9) qp;show#[p1,p2,ns,ms,rfl,rfl,eX,by rw[d7 eX];show f9,f9,rO,mD,hl,λp3 Jd=>#[p3,ns++ms,rfl,f9,by rw[aM];omega,λp hp=>?_]];show(q.ext (((o6 Du).trans (o6 qp)).trans (o6 Jd))).new (((R.grow Du).grow qp).grow Jd) hp (b0.ofInts _)
end
section
variable{X:Cx}{pos:Pos}
def bM0{i:Nat}(hN:X.N[i]?=!x)(hv:sy X.env.scope x)(hd:(x==("__debug__":Str))=false)(jX:(x==("__classdict__":Str))=false):PE X (.Name x pos) (LE X.K Ξ (bh P (.var i))) :=
 (V3 hN hv hd jX).imp λbV H Q bx=>by
  let#[σ,g,ρ,s,R,h]:=bx;let#[d,e,h]:=h;let#[v,h1,h2]:=s.val _ _ e;show#[v,h1,h.now R h2]
def V1{e:Expr}{d:D}{v:V}(h:PE X e (tC v))(r:∀ρ H,d8 X.K ρ H d v):PE X e (LE X.K Ξ (bh P (.lit d))) :=
 h.imp λbV H Q bx=>by
  let#[σ,g,ρ,s,R,h]:=bx;show LQ.now h R (r ρ H)
def bA0:PE X (.Dict [] [] pos) (LE X.K Ξ (bh P (.prim .ph .nil))) :=
 (Xx).imp λbV H Q ⟨σ,g,ρ,s,R,h⟩ p hp=>by
  let#[d',g',#[_,rfl,rfl],q]:=h;show q (ρ++[p]) _ _ (K4 hp) (R.new hp i8.nil) (.ref (R.B4 p))
end
end M
namespace L2
open PySem PySem.Spec PyProof.Rows
section
variable{X:Cx}{m:Str}{pos apos:Pos}{e o:Expr}{es:@&Expr}{ta:TE}{t:TA}
def bJ2(X:Cx)(m:Str)(E:XK)(ta:TE)(t:TA):TE:=λσ H Q=>ta σ H λx H1=>∃a C dx fs f fd ps k sp,x=.ref a/\H1 a=!.ins C dx fs/\fs.lookup m=none/\Cls X.K C/\Meth X.K C m f /\
 gK X.prog X.w X.K X.mg X.base (gF X.prog X.w) k f fd ps sp/\m4 k X.A/\Binds X.K fd ps []/\t σ H1 λvs H2=>sp (x::(vs++[])) H2 Q E
def XB{pl:Sem Bool}{E:XK}(he:PE X o ta)(hx:Passes (gF X.prog X.w) X E)(ha:PA X (e::es) t)(eO:starEach (e::es) X.env=(false,eval e X.env)::starEach es X.env)(gI:(backTo pos (starEach es X.env)).any (·.1)=false)(ht:eval (.Call (.Attribute o m apos) (e :: es) [] pos) X.env=(do
   let ov <- eval o X.env
   standAt apos.atName
   let (f,first) <- holding [ov] (getMethod ov m pl)
   callWith pos f first (backTo pos (starEach (e :: es) X.env)) (backToKw pos (keywordEach [] X.env)))) :
  PE X (.Call (.Attribute o m apos) (e::es) [] pos) (bJ2 X m E ta t):=by
 intro pi s σ H Q I h;show zC (cS (he pi s σ H _ I h) λu s1 bx=>?_) ht;let#[x,H1,I1,rx,a,C,dx,fs,f,fd,ps,k,sp,ex,ea,l,c,hm,F,hr,hb,q]:=bx;subst ex;obtain rfl:u=Value.ref a:=rx;show MQ I1 ea c hm l ?_;show kH I.ok.mod.lU hm.kp (cS (ha pos pi s1 σ H1 _ I1 q) ?_) eO gI;rintro us s2 ⟨vs,H2,I2,r,q2⟩;show #[I2.gC,?_];show AM (vs:=.ref a::vs) F hr hb .nil hx I2 (.cons rfl r) q2
def We(X:Cx)(m:Str)(E:XK)(ta:TE):TE:=λσ H Q=>ta σ H λx H1=>∃a C dx fs f fd ps k sp,x=.ref a/\H1 a=!.ins C dx fs/\fs.lookup m=none/\Cls X.K C/\Meth X.K C m f /\
 gK X.prog X.w X.K X.mg X.base (gF X.prog X.w) k f fd ps sp/\m4 k X.A/\Binds X.K fd ps []/\sp [x] H1 Q E
def a79{pl:Sem Bool}{E:XK}(he:PE X o ta)(hx:Passes (gF X.prog X.w) X E)(ht:eval (.Call (.Attribute o m apos) [] [] pos) X.env=(do
   let ov <- eval o X.env
   standAt apos.atName
   let (f,first) <- holding [ov] (getMethod ov m pl)
   callWith pos f first (backTo pos (starEach [] X.env)) (backToKw pos (keywordEach [] X.env)))) :
  PE X (.Call (.Attribute o m apos) [] [] pos) (We X m E ta):=by
 intro pi s σ H Q I h;show zC (cS (he pi s σ H _ I h) λu s1 bx=>?_) ht;let#[x,H1,I1,rx,a,C,dx,fs,f,fd,ps,k,sp,ex,ea,l,c,hm,F,hr,hb,q]:=bx;subst ex;obtain rfl:u=Value.ref a:=rx;show MQ I1 ea c hm l ?_;show kf I1.gC hm.kp (AM (us:=[.ref a]) (vs:=[.ref a]) F hr hb .nil hx I1 (.cons rfl .nil) q)
end
end L2
namespace M
open PySem L2 PySem.Spec PyProof.Rows
variable{K:PySem.W.Frag}{H H0:Hp}{neg:Bool}{a fa C:Addr}{x:Str}{p:Pos}{kvs xs:@&D}{k f:Nat}{fd:FuncData}{ps:@&Str}{gO:@&Addr}{vs:@&V}{es:@&Expr}{e:Expr}{ie:ME}
inductive sf(K:PySem.W.Frag):@&D->@&(Str×V)->Prop
 |nil:sf K [] []
 |cons {x:Str} {d:D} {v:V} {ds:@&D} {vs:@&(Str×V)} (h:∀ρ H,d8 K ρ H d v) (r:sf K ds vs):sf K (.tup [.str x,d]::ds) ((x,v)::vs)
set_option tactic.hygienic true in
def sf.look{ρ:@&Addr}{ds vs}(x:Str)(h:sf K ds vs):uk K ρ H (N6 ds x) (vs.lookup x):=by
 induction h with
 |nil=>trivial
 |cons h r ih =>
  rename_i y d v ds vs;unfold N6;rw[dz];by_cases e:x=y
  .rw[au e,show(x==y)=true from by simp[e]];show h ρ H
  .rw[aq e,show(x==y)=false from by simpa using e];show ih
def Bz(X:Cx)(x:Str)(kvs:@&D):Prop:=∃A vs,X.mg x=!.ref A/\yF X.K X.w.params A vs/\sf X.K kvs vs
abbrev BH(neg:Bool):Pr:=if neg then .oR else .JK
def NM:PR (BH neg)=Fj neg:=by cases neg<;>rfl
def a49(a b c:Str):a++b++c=a++(b++c):=by
 show gw Str.mk (QN ..)
def VY(x:Str):x++Str.empty=x:=by cases x;change Str.mk _=_;simp[Str.empty]
def bD1(x:Str):Str.empty++x=x:=by cases x;change Str.mk _=_;simp[Str.empty]
section
variable{X:Cx}{Ξ:iX}{P:gu}(hP:k9 P){a c:Expr}{ma:ME}{pos:Pos}
include hP
def bM6(hg:Gl X x)(hd:(x==("__debug__":Str))=false)(hG:Bz X x kvs)(ha:PE X a (LE X.K Ξ (bh P ma)))(hm:behindInMarks (if neg then .NotIn else .In) (.Name x p)=false) :
  PE X (.Compare a [if neg then .NotIn else .In] [.Name x p] pos) (LE X.K Ξ (bh P (.prim (BH neg) (.cons (.lit (.tup kvs)) (.cons ma .nil))))):=by
 let#[A,vs,hmg,hk,gr]:=hG;show(Ob (PQ (kvs:=vs) neg) ha (Bl (v:=.ref A) hg hmg rfl hd) hm).imp λbV H Q bx=>?_;let#[σ,g,ρ,s,R,h]:=bx;show fK hP s R (.refl _ _) h λd g1 cg H1 v1 e1 R1 r1 h=>?_;let#[d',g',h,q]:=h;rw[NM] at h;let#[xh,z,ex,rfl,rfl]:=h;cases ex;obtain rfl:=r1.l6;show#[A,z,rfl,hk,rfl,?_];rw[<- (gr.look (ρ:=cg) (H:=H1) z).isSome];show q cg H1 _ e1 R1 (.bl _)
def bK6(hg:Gl X x)(hd:(x==("__debug__":Str))=false)(hG:Bz X x kvs)(ha:PE X a (LE X.K Ξ (bh P ma)))(hm:behindInMarks (if neg then .NotIn else .In) (.Name x p)=false) :
  PT X (.Compare a [if neg then .NotIn else .In] [.Name x p] pos) (LT X.K Ξ (fk P (.fQ (.prim (BH neg) (.cons (.lit (.tup kvs)) (.cons ma .nil)))))):=by
 let#[A,vs,hmg,hk,gr]:=hG;show(Oi (PQ (kvs:=vs) neg) ha (Bl (v:=.ref A) hg hmg rfl hd) hm).imp λbV H Q bx=>?_;let#[σ,g,ρ,s,R,h]:=bx;show fK hP s R (.refl _ _) h λd g1 cg H1 v1 e1 R1 r1 h=>?_;let#[d',g',h,t,ht,q]:=h;rw[NM] at h;let#[xh,z,ex,rfl,rfl]:=h;cases ex;obtain rfl:=r1.l6;show#[A,z,rfl,hk,rfl,t,?_,q cg H1 e1 R1];rw[<- (gr.look (ρ:=cg) (H:=H1) z).isSome];rcases ht with⟨z,_⟩|z|⟨i,z,_⟩|⟨l,z,_⟩|⟨a,l,z,_⟩<;>cases z
 rfl
def VI(hg:Gl X x)(hd:(x==("__debug__":Str))=false)(hG:Bz X x kvs)(ha:PE X a (LE X.K Ξ (bh P ma)))(hs:Fy a):PE X (.Subscript (.Name x p) a pos) (LE X.K Ξ (bh P (.prim .mf (.cons (.lit (.tup kvs)) (.cons ma .nil))))):=by
 let#[A,vs,hmg,hk,gr]:=hG;show(Kr (b36 (kvs:=vs)) (Bl (v:=.ref A) hg hmg rfl hd) ha hs).imp λbV H Q bx=>?_;let#[σ,g,ρ,s,R,h]:=bx;show fK hP s R (.refl _ _) h λd g1 cg H1 v1 e1 R1 r1 h=>?_;let#[d',g',#[xh,z,ex,hz,rfl],q]:=h;cases ex;obtain rfl:=r1.l6;let lk:=gr.look (ρ:=cg) (H:=H1) z;rw[hz] at lk;let#[w,hw,lk]:=lk.some;show#[A,z,w,rfl,hk,rfl,hw,q cg H1 _ e1 R1 lk]
def Zm(ha:PE X a (LE X.K Ξ (bh P ma))):PE X (.FormattedValue a (-1) none pos) (LE X.K Ξ (bh P (.prim .fv (.cons ma .nil)))) :=
 (b07 ha).imp λbV H Q bx=>by
  let#[σ,g,ρ,s,R,h]:=bx;show fK hP s R (.refl _ _) h λd g1 cg H1 v1 e1 R1 r1 h=>?_;let#[d',g',#[rfl,h],q]:=h;rcases h with⟨i,ex,h1,rfl⟩|⟨z,ex,h1,rfl⟩
  .cases ex;show .inl #[i,r1.i6,h1,q cg H1 _ e1 R1 (.str _)]
  .cases ex;show .inr #[z,r1.l6,j5 (),q cg H1 _ e1 R1 (.str _)]
omit hP in
inductive nP(X:Cx)(Ξ:iX)(P:gu):@&Expr->ME->@&TE->Prop
 |nil:nP X Ξ P [] .nil []
 |lit {x:Str} {j:Nat} {p:Pos} {es:@&Expr} {ms:ME} {ts:@&TE} (hx:-x<=2000) (r:nP X Ξ P es ms ts):nP X Ξ P (.Constant (.str x) j p::es) (.cons (.lit (.str x)) ms) (LE X.K Ξ (bh P (.lit (.str x)))::ts)
 |val {e:Expr} {m:ME} {p:Pos} {es:@&Expr} {ms:ME} {ts:@&TE} (he:PE X e (LE X.K Ξ (bh P m))) (r:nP X Ξ P es ms ts):nP X Ξ P (.FormattedValue e (-1) none p::es) (.cons (.prim .fv (.cons m .nil)) ms) (LE X.K Ξ (bh P (.prim .fv (.cons m .nil)))::ts)
def nP.RQ{es ms ts}(h:nP X Ξ P es ms ts):wc X es ts:=by
 induction h with
 |nil=>show .nil
 |lit hx r ih=>show .cons (V1 PY λx x=>.str _) ih
 |val he r ih=>show .cons (Zm hP he) ih
set_option tactic.hygienic true in
def nP.join{bV:L2.St}{Q:Str->Hp->Prop}{es ms ts}(hf:nP X Ξ P es ms ts):∀{σ:S} {g:G} {ρ:@&Addr} {H:Hp} {acc:Str},(-acc)+2000*-es<=100000->n4 X.K ρ H σ bV->Rl X.K ρ g H ->
  gh P ms σ g (λds g1=>∃x,X8 ds=!x/\∀bY H',Ext ρ H bY H'->Rl X.K bY g1 H'->Q (acc++x) H') (LX X.K ρ H Ξ)->BY ts bV H acc (λout H1=>-out<=sizeLine/\Q out H1):=by
 let tl:∀{acc y:Str} {ρ:@&Addr} {H:Hp} {cg:@&Addr} {H1:Hp} {ds:@&D} {g1:G},Ext ρ H cg H1->(∃x,X8 (.str y::ds)=!x/\∀bY H',Ext ρ H bY H'->Rl X.K bY g1 H'->Q (acc++x) H')->∃x,X8 ds=!x/\∀bY H',Ext cg H1 bY H'->Rl X.K bY g1 H'->Q (acc++y++x) H':=by
  intro acc y ρ H cg H1 ds g1 e1 h;let#[x,hx,h]:=h;simp only[X8] at hx;cases hj:X8 ds with
  |none=>simp_all
  |some x' =>
   rw[hj] at hx;cases hx;show#[x',rfl,λbY H' e' R'=>?_];rw[a49];show h bY H' (e1.trans e') R'
 induction hf with
 |nil =>
  intro σ g ρ H acc ha s R h;let#[x,hx,h]:=h;cases hx;show#[j5 (_/ha),h ρ H (.refl _ _) R]
 |lit hx r ih =>
  rename_i y j p es ms ts;intro σ g ρ H acc ha s R h;show#[σ,g,ρ,s,R,?_];intro cg H1 v1 e1 R1 r1;obtain rfl:=r1.l6;let hl:(acc++y).length<=-acc+2000:=by rw[QA];omega
  simp only[List.length_cons] at ha;show#[y,rfl,j5 (),ih () (s.ext e1) R1 (p7 hP _ _ _ _ _ _ _ (λds g1 h=>tl e1 h) (λw w z=>LX.ext e1 z) h)]
 |val he r ih =>
  rename_i e m p es ms ts;intro σ g ρ H acc ha s R h;show#[σ,g,ρ,s,R,?_];simp only[List.length_cons] at ha;show d0 hP m _ _ _ _ _ _ (λd g1 h=>?_) (λw w z=>z) h;let#[d',g',#[rfl,h],q]:=h;let hy:∃y,d'=.str y/\-y<=2000:=by
   rcases h with⟨i,ex,h1,rfl⟩|⟨z,ex,h1,rfl⟩
   .exact#[_,rfl,by rw[zB];have:=int_text_length_le ∅ h1;omega]
   .exact#[z,rfl,h1]
  let#[y,rfl,hy]:=hy;show#[_,_,#[rfl,h],λcg H1 v1 e1 R1 r1=>?_];obtain rfl:=r1.l6;let hl:(acc++y).length<=-acc+2000:=by rw[QA];omega
  show#[y,rfl,j5 (),ih () (s.ext e1) R1 (p7 hP _ _ _ _ _ _ _ (λds g1 h=>tl e1 h) (λw w z=>LX.ext e1 z) q)]
def VH{mS mR:Expr}{rest:@&Expr}{ms:ME}{ts:@&TE}(h:nP X Ξ P (mS::mR::rest) ms ts)(hl:(mS::mR::rest).length<=40):PE X (.JoinedStr (mS::mR::rest) pos) (LE X.K Ξ (bh P (.prim .nA ms))) :=
 (bB7 (h.RQ hP)).imp λbV H Q bx=>by
  let#[σ,g,ρ,s,R,hw]:=bx;show nP.join hP h ?_ s R (p7 hP ms _ _ _ _ _ _ (λds g1 hw=>?_) (λy y z=>z) hw)
  .have:Str.empty.length=0:=rfl;omega
  .let#[d',g',#[x,hx,rfl,rfl],q]:=hw;show#[x,hx,λbY H' e' R'=>?_];rw[bD1];show q bY H' _ e' R' (.str _)
omit hP in
def rE(ex:@&Str)(K:PySem.W.Frag)(n:Nat)(t:@&D->G->KD->KX->Prop):Sp:=λvs H Q E=>-vs=n/\∃ds g ρ,b0 K ρ H ds vs/\Rl K ρ g H/\t ds g (LQ K ρ H Q) (LX K ρ H (ex,E))
omit hP in
abbrev pQ(X:Cx)(P:gu)(ex:@&Str)(k f:Nat)(fa:Addr)(fd:FuncData)(ps:@&Str):Prop :=
 gK X.prog X.w X.K X.mg X.base (gF X.prog X.w) k fa fd ps (rE ex X.K (-ps) (P f))/\Binds X.K fd ps []/\∀ds g Q E,P f ds g Q E->-ds=-ps
def yO{k:Nat}(F:pQ X P Ξ.1 k f fa fd ps){ρ:@&Addr}{g:G}{Q0:KD}{Q:VK}(e0:Ext gO H0 ρ H)(R:Rl X.K ρ g H)(r:b0 X.K ρ H xs vs)(h:P f xs g Q0 (LX X.K gO H0 Ξ))(k:∀d g',Q0 d g'->LQ X.K ρ H Q d g'):rE Ξ.1 X.K (-ps) (P f) (vs++[]) H Q Ξ.2:=by
 rw[jw];show#[by rw[<- -r];show F.2.2 _ _ _ _ h,xs,g,ρ,r,R,hP _ _ _ _ _ _ _ k (λx x z=>LX.ext e0 z) h]
def bA1(hx:Passes (gF X.prog X.w) X Ξ.2)(F:pQ X P Ξ.1 k f fa fd ps)(hr:m4 k X.A)(hg:Gl X x)(hm:X.mg x=!.ref fa)(hk:PySem.W.keepIn X.K (.ref fa)=true)(ha:PA X (e::es) (LA X.K Ξ (gh P ie)))(hd:(x==("__debug__":Str))=false)(eO:starEach (e::es) X.env=(false,eval e X.env)::starEach es X.env)(gI:(backTo pos (starEach es X.env)).any (·.1)=false):PE X (.Call (.Name x p) (e::es) [] pos) (LE X.K Ξ (bh P (.call f ie))) :=
 (bC0 F.1 hr hg hm hk F.2.1 .nil hx ha hd eO gI).imp λbV H Q bx=>by
  let#[σ,g,ρ,s,R,h]:=bx;show lD hP s R (.refl _ _) h λxs g1 cg H1 vs e1 R1 r1 h=>yO hP F e1 R1 r1 h λd g' h=>h.ext e1
def XT(hx:Passes (gF X.prog X.w) X Ξ.2)(F:pQ X P Ξ.1 k f fa fd ps)(hr:m4 k X.A)(hg:Gl X x)(hm:X.mg x=!.ref fa)(hk:PySem.W.keepIn X.K (.ref fa)=true)(hd:(x==("__debug__":Str))=false):PE X (.Call (.Name x p) [] [] pos) (LE X.K Ξ (bh P (.call f .nil))) :=
 (Xv F.1 hr hg hm hk F.2.1 .nil hx hd).imp λbV H Q bx=>by
  let#[σ,g,ρ,s,R,h]:=bx;show yO hP F (.refl _ _) R .nil h λd g' h=>h
def NV{c:Str}(F:pQ X P Ξ.1 k f fa fd ps)(hC:i9 X.K c C)(hc:Cls X.K C){ρ:@&Addr}{g1:G}{Q:VK}(e0:Ext gO H0 ρ H)(R:Rl X.K ρ g1 H)(r:b0 X.K ρ H xs vs)(h:P f (.ref (-g1)::xs) (g1++[.ins c []]) (λd g2=>d=.aW/\LQ X.K gO H0 Q (.ref (-g1)) g2) (LX X.K gO H0 Ξ)):∀x dx,H x=none->H dx=none->dx≠x->rE Ξ.1 X.K (-ps) (P f) (.ref x::(vs++[])) (upd (upd H dx (.own x)) x (.ins C dx [])) (λv H2=>v=.aW/\Q (.ref x) H2) Ξ.2:=by
 intro x dx hx Jt eX;let tw:upd H dx (.own x) x=none:=by rw[d7 (cT eX)];show hx
 let R2:=R.grow (o:=.own x) Jt;let e2:Ext ρ H ρ (upd H dx (.own x)):=o6 Jt;let R3:=R2.new (o:=.ins c []) (u:=.ins C dx []) tw #[hC,hc,.nil,λx hx=>absurd hx #[_]];let e3:Ext ρ (upd H dx (.own x)) (ρ++[x]) (upd (upd H dx (.own x)) x (.ins C dx [])):=K4 tw;have:=yO hP F (e0.trans (e2.trans e3)) R3 (.cons (.ref (R.B4 x)) (r.ext (e2.trans e3))) h (Q:=λv H2=>v=.aW/\Q (.ref x) H2) λd g' q bY H' v e' R' r'=>by
  let#[rfl,q]:=q;show#[r'.AK,q bY H' _ (e0.trans (e2.trans (e3.trans e'))) R' (.ref (e'.get (R.B4 x)))]
 show this
def VJ(hx:Passes (gF X.prog X.w) X Ξ.2)(F:pQ X P Ξ.1 k f fa fd ps)(M:Mk X.K C fa)(hC:i9 X.K x C)(hc:Cls X.K C)(hr:m4 (k+1) X.A)(hg:Gl X x)(hm:X.mg x=!.ref C)(ha:PA X (e::es) (LA X.K Ξ (gh P ie)))(hd:(x==("__debug__":Str))=false)(eO:starEach (e::es) X.env=(false,eval e X.env)::starEach es X.env)(gI:(backTo pos (starEach es X.env)).any (·.1)=false):PE X (.Call (.Name x p) (e::es) [] pos) (LE X.K Ξ (bh P (.make x f ie))) :=
 (bB6 M F.1 hr hg hm F.2.1 .nil hx ha hd eO gI).imp λbV H Q bx=>by
  let#[σ,g,ρ,s,R,h]:=bx;show lD hP s R (.refl _ _) h λxs g1 cg H1 vs e1 R1 r1 h=>NV hP F hC hc e1 R1 r1 h
def XY(hx:Passes (gF X.prog X.w) X Ξ.2)(F:pQ X P Ξ.1 k f fa fd ps)(M:Mk X.K C fa)(hC:i9 X.K x C)(hc:Cls X.K C)(hr:m4 (k+1) X.A)(hg:Gl X x)(hm:X.mg x=!.ref C)(hd:(x==("__debug__":Str))=false):PE X (.Call (.Name x p) [] [] pos) (LE X.K Ξ (bh P (.make x f .nil))) :=
 (XA M F.1 hr hg hm F.2.1 .nil hx hd).imp λbV H Q bx=>by
  let#[σ,g,ρ,s,R,h]:=bx;show NV hP F hC hc (.refl _ _) R .nil h
omit hP in
def Fx(X:Cx)(P:gu)(ex:@&Str)(m:Str)(cs:@&(Str×Nat)):Prop:=∀c f C,cs.lookup c=!f->i9 X.K c C->∃k fa fd ps,Meth X.K C m fa/\pQ X P ex k f fa fd ps/\m4 k X.A
def X'{m:Str}{cs:@&(Str×Nat)}{o:Expr}{mo:ME}{apos:Pos}{pl:Sem Bool}(hx:Passes (gF X.prog X.w) X Ξ.2)(hM:Fx X P Ξ.1 m cs)(ho:PE X o (LE X.K Ξ (bh P mo)))(ha:PA X (e::es) (LA X.K Ξ (gh P ie)))(eO:starEach (e::es) X.env=(false,eval e X.env)::starEach es X.env)(gI:(backTo pos (starEach es X.env)).any (·.1)=false)(ht:eval (.Call (.Attribute o m apos) (e :: es) [] pos) X.env=(do
   let ov <- eval o X.env
   standAt apos.atName
   let (f,first) <- holding [ov] (getMethod ov m pl)
   callWith pos f first (backTo pos (starEach (e :: es) X.env)) (backToKw pos (keywordEach [] X.env)))):PE X (.Call (.Attribute o m apos) (e :: es) [] pos) (LE X.K Ξ (bh P (.cA m cs mo ie))) :=
 (XB ho hx ha eO gI ht).imp λbV H Q bx=>by
  let#[σ,g,ρ,s,R,h]:=bx;show fK hP s R (.refl _ _) h λx g1 cg H1 v1 e1 R1 r1 h=>?_;let#[i,c,fs,f,rfl,hi,hf,rR,h]:=h;let#[a',rfl,ra]:=r1.j9;let#[C,dx,vs,hH,hC,jZ,rk,na]:=R1.ins hi ra;let#[k,fa,fd,ps,M,F,hr]:=hM c f C rR hC;let lk:=rk.look m;rw[hf] at lk;let hl:vs.lookup m=none:=by cases e:vs.lookup m with|none=>rfl|some w=>rw[e] at lk;show lk.elim
  show#[a',C,dx,vs,fa,fd,ps,k,_,rfl,hH,hl,jZ,M,F.1,hr,F.2.1,?_];show lD hP (s.ext e1) R1 e1 h λxs g2 fX H2 ws e2 R2 r2 h=>yO hP F (e1.trans e2) R2 (.cons (.ref (e2.get ra)) r2) h λd g' h=>h.ext (e1.trans e2)
def a56{m:Str}{cs:@&(Str×Nat)}{o:Expr}{mo:ME}{apos:Pos}{pl:Sem Bool}(hx:Passes (gF X.prog X.w) X Ξ.2)(hM:Fx X P Ξ.1 m cs)(ho:PE X o (LE X.K Ξ (bh P mo)))(ht:eval (.Call (.Attribute o m apos) [] [] pos) X.env=(do
   let ov <- eval o X.env
   standAt apos.atName
   let (f,first) <- holding [ov] (getMethod ov m pl)
   callWith pos f first (backTo pos (starEach [] X.env)) (backToKw pos (keywordEach [] X.env)))):PE X (.Call (.Attribute o m apos) [] [] pos) (LE X.K Ξ (bh P (.cA m cs mo .nil))) :=
 (a79 ho hx ht).imp λbV H Q bx=>by
  let#[σ,g,ρ,s,R,h]:=bx;show fK hP s R (.refl _ _) h λx g1 cg H1 v1 e1 R1 r1 h=>?_;let#[i,c,fs,f,rfl,hi,hf,rR,h]:=h;let#[a',rfl,ra]:=r1.j9;let#[C,dx,vs,hH,hC,jZ,rk,na]:=R1.ins hi ra;let#[k,fa,fd,ps,M,F,hr]:=hM c f C rR hC;let lk:=rk.look m;rw[hf] at lk;let hl:vs.lookup m=none:=by cases e:vs.lookup m with|none=>rfl|some w=>rw[e] at lk;show lk.elim
  show#[a',C,dx,vs,fa,fd,ps,k,_,rfl,hH,hl,jZ,M,F.1,hr,F.2.1,yO hP F e1 R1 (.cons (.ref ra) .nil) h λd g' h=>h.ext e1]
end
inductive lx(K:PySem.W.Frag)(ρ:@&Addr)(H:Hp):@&D->@&(V×V)->Prop
 |nil:lx K ρ H [] []
 |cons {k d:D} {x y:V} {ds:@&D} {ps:@&(V×V)} (h1:d8 K ρ H k x) (h2:d8 K ρ H d y) (r:lx K ρ H ds ps):lx K ρ H (k::d::ds) ((x,y)::ps)
set_option tactic.hygienic true in
def ZU{K ρ H}{ps:@&(V×V)}(r:lx K ρ H xs ps):∀{acc kvs:@&(Key×D)} {accV:@&(Key×V)},vD xs acc=!kvs->i8 K ρ H acc accV->∃more:@&(Key×V),ps=more.map (λkv=>(kV kv.1,kv.2))/\2*-more=-xs/\i8 K ρ H kvs (V5 accV more):=by
 induction r with
 |nil =>
  intro acc kvs accV h ra;cases h;show#[[],rfl,rfl,ra]
 |cons h1 h2 r ih =>
  rename_i k d x y ds ps;intro acc kvs accV h ra;simp only[vD] at h;cases hk:sj k with
  |none=>simp_all
  |some c =>
   rw[hk] at h;let#[more,e1,e2,r2]:=ih (show vD ds (putD acc c d)=some kvs from h) (ra.put h2);let ex:=Be hk h1;show#[(c,y)::more,by simp_all,by grind,r2]
section
variable{X:Cx}{Ξ:iX}{P:gu}(hP:k9 P){pos:Pos}
inductive nQ(X:Cx)(Ξ:iX)(P:gu):@&(Option Expr)->@&Expr->ME->@&(TE×TE)->Prop
 |nil:nQ X Ξ P [] [] .nil []
 |cons {k v:Expr} {ks:@&(Option Expr)} {vs:@&Expr} {mk mv ms:ME} {iY:@&(TE×TE)} (hk:PE X k (LE X.K Ξ (bh P mk))) (hv:PE X v (LE X.K Ξ (bh P mv))) (r:nQ X Ξ P ks vs ms iY) :
   nQ X Ξ P (some k::ks) (v::vs) (.cons mk (.cons mv ms)) ((LE X.K Ξ (bh P mk),LE X.K Ξ (bh P mv))::iY)
def nQ.RP{ks vs ms iY}(h:nQ X Ξ P ks vs ms iY):zx X pos ks vs iY:=by
 induction h with
 |nil=>show bB4
 |cons hk hv r ih=>show XF hk hv ih
def nQ.len{ks vs ms iY}(h:nQ X Ξ P ks vs ms iY):ks.all (·.isSome)=true/\-ks=-vs:=by
 induction h with
 |nil=>show#[rfl,rfl]
 |cons hk hv r ih=>show#[by simpa using ih.1,by simp[ih.2]]
include hP
def nQ.pairs{ks vs ms iY}(hd:nQ X Ξ P ks vs ms iY):∀{bV:L2.St} {σ:S} {g:G} {ρ gO:@&Addr} {H H0:Hp} {Qd:@&D->G->Prop} {Q:@&(V×V)->Hp->Prop},n4 X.K ρ H σ bV->Rl X.K ρ g H->Ext gO H0 ρ H->gh P ms σ g Qd (LX X.K gO H0 Ξ) ->
  (∀ds g' bY H' ps,Ext ρ H bY H'->Rl X.K bY g' H'->lx X.K bY H' ds ps->Qd ds g'->Q ps H')->AQ iY bV H Q:=by
 induction hd with
 |nil =>
  intro bV σ g ρ gO H H0 Qd Q s R e0 h k;show k [] g ρ H [] (.refl _ _) R .nil h
 |cons hk hv r ih =>
  intro bV σ g ρ gO H H0 Qd Q s R e0 h k;show fK hP s R e0 h λx g1 cg H1 v1 e1 R1 r1 h=>fK hP (s.ext e1) R1 (e0.trans e1) h λy g2 fX H2 v2 e2 R2 r2 h=>?_;show ih (s.ext (e1.trans e2)) R2 (e0.trans (e1.trans e2)) h λds g' bY H' ps e' R' rp hq=>?_;show k _ g' bY H' _ (e1.trans (e2.trans e')) R' (.cons (r1.ext (e2.trans e')) (r2.ext e') rp) hq
def bM8{ks:@&(Option Expr)}{vs:@&Expr}{ms:ME}{iY:@&(TE×TE)}(hd:nQ X Ξ P ks vs ms iY)(h0:ks≠[])(xW:-ks<=15):PE X (.Dict ks vs pos) (LE X.K Ξ (bh P (.pj ms))) :=
 (bB9 hd.RP hd.len.1 hd.len.2 h0 xW).imp λbV H Q ⟨σ,g,ρ,s,R,h⟩ p hp=>by
  let e1:Ext ρ H (ρ++[p]) (upd H p (.dK [])):=K4 hp;show nQ.pairs hP hd (s.ext e1) (R.new hp (o:=.du []) (u:=.dK []) i8.nil) e1 h λds g2 fX H2 ps e2 R2 rp hq=>?_;let#[kvs,hk,hz,hg,q]:=hq;let qp:fX[(-g)]?=!p:=e2.get (R.B4 p);let#[vs',hv,rv]:=R2.du hg qp;cases rv;let#[more,em,hl,rk]:=ZU rp hk (accV:=[]) .nil;show#[hv,more,em,by omega,?_];let#[R3,e3]:=R2.put (o':=.du kvs) (u:=.dK (V5 [] more)) hg rfl qp rk;show q fX _ _ (e1.trans (e2.trans e3)) R3 (.ref qp)
end
def b32{l:@&D}(ht:TupAt K H0 a vs)(rs:b0 K gO H0 l vs):qV K gO H0 (.fix l) (Ib K a):=by
 intro ρ g H e R i;let qj:=ht.ext e;let wR:=rs.ext e;show#[λh=>#[vs,qj.sq,?_],λd h=>?_]
 .have:=dI.mp (aD h);rw[<- -wR];show this
 .let#[v,hv,rv]:=wR.get (aD h);show#[#[vs,v,qj.sq,hv],λw H' y=>?_];let#[rfl,y]:=y;have:=y vs qj.sq;rw[hv] at this;cases this;show#[.refl _ _,R,rv]
def b34{j:Nat}(ha:gO[j]?=!a):qV K gO H0 (.lst j) (Ie K a):=by
 intro ρ g H e R i;let pL:=e.get ha;show#[λh=>?_,λd h=>?_]
 .simp only[IK.at] at h;cases el:f6 g j with
  |none=>simp_all
  |some l =>
   rw[el] at h;let#[vs,hq,rs]:=R.items el pL;show#[vs,hq,?_];have:=dI.mp (aD h);rw[<- -rs];show this
 .simp only[IK.at] at h;cases el:f6 g j with
  |none=>simp_all
  |some l =>
   rw[el] at h;let#[vs,hq,rs]:=R.items el pL;let#[v,hv,rv]:=rs.get (aD h);show#[#[vs,v,hq,hv],λw H' y=>?_];let#[rfl,y]:=y;have:=y vs hq;rw[hv] at this;cases this;show#[.refl _ _,R,rv]
def Kl{lo:Int}{n:Nat}:qV K gO H0 (.fix (o7 lo n)) (zz lo n):=by
 unfold o7;intro ρ g H e R i;show#[λh=>?_,λd h=>?_]
 .have:=dI.mp (aD h);change n<=i;simpa using this
 .let h:=aD h;let hi:i<n:=by
   have:=(aA.mp h).1
   simp_all
  rw[aJ,Il hi] at h;cases h;show#[hi,λw H' y=>?_];let#[rfl,rfl]:=y;show#[.refl _ _,R,.int _]
def b33{a:Str}:qV K gO H0 (.fix (sgn a)) (Ic a):=by
 intro ρ g H e R i;show#[λh=>?_,λd h=>?_]
 .simp only[IK.at] at h;have:=dI.mp (aD h);change a.cps.size<=i;simpa[sgn] using this
 .simp only[IK.at] at h;let h:=aD h;unfold sgn at h;rw[aJ,ag] at h;let#[c,hc,rfl]:=h;let hc:a.cps[i]?=!c:=by simpa using hc
  show#[(fh.mp hc).1,λw H' y=>?_];let#[rfl,c',h',rfl]:=y;rw[hc] at h';cases h';show#[.refl _ _,R,.str _]
def b31{t:Addr}{l:@&D}{j:Nat}(ht:TupAt K H0 t vs)(rs:b0 K gO H0 l vs)(ha:gO[j]?=!a):qV K gO H0 (.uH l j) (Ia K t a):=by
 intro ρ g H e R i;let qj:=ht.ext e;let wR:=rs.ext e;let pL:=e.get ha;show#[λh=>?_,λd h=>?_]
 .simp only[IK.at] at h;cases el:f6 g j with
  |none=>rw[el] at h;cases h
  |some m =>
   rw[el] at h;dsimp only at h;by_cases hl:-l=-m
   .rw[au hl] at h;let h:=aD h;rw[Option.map_eq_none_iff] at h;have:=dI.mp h;rw[nW] at this;show#[vs,qj.sq,?_];rw[<- -wR];omega
   .rw[aq hl] at h;cases h
 .simp only[IK.at] at h;cases el:f6 g j with
  |none=>rw[el] at h;cases h
  |some m =>
   rw[el] at h;dsimp only at h;by_cases hl:-l=-m
   .rw[au hl] at h;let h:=aD h;rw[ag] at h;let#[#[d1,d2],hd,rfl]:=h;let#[h1,h2]:=List.getElem?_zip_eq_some.mp hd;let#[v1,jU,RH]:=wR.get h1;let#[ws,hq,rws]:=R.items el pL;let#[v2,jJ,RG]:=rws.get h2;show#[#[vs,ws,v1,v2,qj.sq,hq,jU,jJ],λw H' y=>?_];let#[p,x,x',hp,rfl,y1,y2,rfl]:=y;let y1:=y1 vs qj.sq;rw[jU] at y1;cases y1;let y2:=y2 ws hq;rw[jJ] at y2;cases y2;show#[o6 hp,R.grow hp,.tup (.inl f9) (.cons (RH.ext (o6 hp)) (.cons (RG.ext (o6 hp)) .nil))]
   .rw[aq hl] at h;cases h
end M
namespace L2
open PySem PySem.Spec PyProof.Rows
def bO8{X:Cx}{tg l:Expr}{tl:TE}(hl:PE X l tl):PI X tg l (λσ H R=>tl σ H λx H1=>(∃a,x=.ref a/\(∃xs,gU X.K H1 a xs)/\R (Ie X.K a) H1)\/(∃a,x=.ref a/\(∃xs,iB X.K H1 a xs)/\R (Ib X.K a) H1)\/∃a:Str,x=.str a/\a.cps.all (·<128)=true/\R (Ic a) H1):=by
 intro pi s σ H R I h;show cS (hl pi s σ H _ I h) λv s1 bx=>?_;let#[x,H1,I1,r1,q1]:=bx;rcases q1 with⟨a,e,⟨xs,hq⟩,q⟩|⟨a,e,⟨xs,hq⟩,q⟩|⟨a,rfl,ha,q⟩
 .subst e;cases r1;let#[bc,rv,p,hz]:=I1.list hq;show dZ p.isList ?_;show#[s1⁻¹,[s1⁻¹],_,_,H1,rfl,I1.kept (t':=s1.toks) λb o e=>ai _ e,a40 a _,#[_,ay _ rfl,rfl,rfl],λb hb=>?_,q];let e:b=s1⁻¹:=by simpa using hb
  subst e;show I1.sh (ak _) (I1.bI.fresh (ak _))
 .subst e;cases r1;let#[bc,rv,p,hz]:=I1.tuple hq;show nR (show s1.heap.IsTuple a bc.toArray from p) ?_;show#[s1⁻¹,[s1⁻¹],_,_,H1,rfl,I1.kept (t':=s1.toks) λb o e=>ai _ e,aW1 a _,#[_,ay _ rfl,rfl,rfl],λb hb=>?_,q];let e:b=s1⁻¹:=by simpa using hb
  subst e;show I1.sh (ak _) (I1.bI.fresh (ak _))
 .let#[t,rfl]:=r1;show wpAny_pyIter_ascii ha ?_;show#[s1⁻¹,[s1⁻¹],_,_,H1,rfl,I1.kept (t':=s1.toks) λb o e=>ai _ e,Yo a t _,#[_,ay _ rfl,rfl,rfl],λb hb=>?_,q];let e:b=s1⁻¹:=by simpa using hb
  subst e;show I1.sh (ak _) (I1.bI.fresh (ak _))
end L2
namespace M
open PySem L2 PySem.Spec PyProof.Rows
variable{X:Cx}{pos p tp:Pos}{i:Nat}{t:MT}{o:Expr}{mo mi:ME}{f:Str}{cs:@&Str}
section
variable{Ξ:iX}{P:gu}(hP:k9 P){a b tg:Expr}{ma mb:ME}
include hP
def bL7(ha:PE X a (LE X.K Ξ (bh P ma))):PI X tg a (LI X.K Ξ (km P (.jF ma))) :=
 (bO8 ha).imp λbV H R bx=>by
  let#[σ,g,ρ,s,Rr,h]:=bx;show fK hP s Rr (.refl _ _) h λx g1 cg H1 v1 e1 R1 r1 h=>?_;rcases h with⟨l,rfl,h⟩|⟨i,l,rfl,hl,h⟩|⟨w,rfl,ha,h⟩
  .let#[a',vs,rfl,ht,rs]:=r1.A9;show .inr (.inl #[_,rfl,#[_,ht.sq],h cg H1 _ e1 R1 (b32 ht rs)])
  .let#[a',rfl,pL]:=r1.j9;let#[vs,hq,rs]:=R1.items hl pL;show .inl #[_,rfl,#[_,hq],h cg H1 _ e1 R1 (b34 pL)]
  .obtain rfl:=r1.l6;show .inr (.inr #[_,rfl,ha,h cg H1 _ e1 R1 b33])
def bL6{elts:@&Expr}{x1:Nat}(ha:PE X a (LE X.K Ξ (bh P ma)))(hb:PE X b (LE X.K Ξ (bh P mb)))(hg:Gl X "zip")(hm:X.mg "zip"=none)(hs:starEach [a,b] X.env=[(false,eval a X.env),(false,eval b X.env)])(jG:starEach [b] X.env=[(false,eval b X.env)]) :
  PI X (.Tuple elts x1 tp) (.Call (.Name "zip" p) [a,b] [] pos) (LI X.K Ξ (km P (.pF ma mb))) :=
 (bO7 hg hm (K9 hP ha (K9 hP hb (yZ hP) (by rw[jG];rfl)) (by rw[hs,jG])) hs jG).imp λbV H R bx=>by
  let#[σ,g,ρ,s,Rr,h]:=bx;show lD hP (m:=.cons ma (.cons mb .nil)) s Rr (.refl _ _) (Q0:=λxs g1=>∃l i m,xs=[.tup l,.ref i]/\f6 g1 i=!m/\∀bY H' J,Ext ρ H bY H'->Rl X.K bY g1 H'->qV X.K bY H' (.uH l i) J->R J H') ?_ λxs g1 cg H1 vs e1 R1 r1 h=>?_
  .skip
   show d0 hP ma _ _ _ _ _ _ (λx g1 h=>d0 hP mb _ _ _ _ _ _ (by rintro y g2 ⟨l,i,m,e,e',h1,h⟩;show #[l,i,m,by rw[e,e'],h1,h]) (λu u z=>z) h) (λu u z=>z) h
  .let#[l,i,m,rfl,hl,h]:=h;let#[v,w,rfl,rv,fY]:=r1.two;let#[t,vs,rfl,ht,rs]:=rv.A9;let#[a',rfl,ra]:=fY.j9;let#[ws,hq,_]:=R1.items hl ra;show#[_,_,rfl,#[_,ht.sq],#[_,hq],h cg H1 _ e1 R1 (b31 ht rs ra)]
def VR(ha:PE X a (LE X.K Ξ (bh P ma)))(hg:Gl X "range")(hm:X.mg "range"=none)(hs:starEach [a] X.env=[(false,eval a X.env)]):PI X tg (.Call (.Name "range" p) [a] [] pos) (LI X.K Ξ (km P (.ij ma))) :=
 (a74 hg hm (K9 hP ha (yZ hP) (by rw[hs];rfl)) hs).imp λbV H R bx=>by
  let#[σ,g,ρ,s,Rr,h]:=bx;show lD hP s Rr (.refl _ _) (Q0:=λxs g1=>∃j:Int,xs=[.int j]/\-(2 ^ 62)<=j/\j<2 ^ 62/\∀bY H' J,Ext ρ H bY H'->Rl X.K bY g1 H'->qV X.K bY H' (.fix (o7 0 j.toNat)) J->R J H') ?_ λxs g1 cg H1 vs e1 R1 r1 h=>?_
  .exact d0 hP ma _ _ _ _ _ _ (by rintro x g1 ⟨j,e,h1,h2,h⟩;show #[j,by rw[e],h1,h2,h]) (λy y z=>z) h
  .let#[j,rfl,h1,h2,h]:=h;let#[v,rfl,rv]:=r1.one;obtain rfl:=rv.i6;show#[_,rfl,h1,h2,h cg H1 _ e1 R1 Kl]
def VS(ha:PE X a (LE X.K Ξ (bh P ma)))(hb:PE X b (LE X.K Ξ (bh P mb)))(hg:Gl X "range")(hm:X.mg "range"=none)(hs:starEach [a,b] X.env=[(false,eval a X.env),(false,eval b X.env)])(jG:starEach [b] X.env=[(false,eval b X.env)]) :
  PI X tg (.Call (.Name "range" p) [a,b] [] pos) (LI X.K Ξ (km P (.jk ma mb))) :=
 (a73 hg hm (K9 hP ha (K9 hP hb (yZ hP) (by rw[jG];rfl)) (by rw[hs,jG])) hs jG).imp λbV H R bx=>by
  let#[σ,g,ρ,s,Rr,h]:=bx;show lD hP s Rr (.refl _ _) (Q0:=λxs g1=>∃i j:Int,xs=[.int i,.int j]/\(-(2 ^ 62)<=i/\i<2 ^ 62/\-(2 ^ 62)<=j/\j<2 ^ 62)/\∀bY H' J,Ext ρ H bY H'->Rl X.K bY g1 H'->qV X.K bY H' (.fix (o7 i (j-i).toNat)) J->R J H') ?_ λxs g1 cg H1 vs e1 R1 r1 h=>?_
  .exact d0 hP ma _ _ _ _ _ _ (λx g1 h=>d0 hP mb _ _ _ _ _ _ (by rintro y g2 ⟨i,j,e,e',h1,h⟩;show #[i,j,by rw[e,e'],h1,h]) (λu u z=>z) h) (λu u z=>z) h
  .let#[i,j,rfl,h1,h]:=h;let#[v,w,rfl,rv,fY]:=r1.two;obtain rfl:=rv.i6;obtain rfl:=fY.i6;show#[_,_,rfl,h1,h cg H1 _ e1 R1 Kl]
end
def bL8{x:Str}(hN:X.Nd)(hi:X.N[i]?=!x)(hx:Loc X.env.scope x)(hf:X.fn x=true\/X.env.scope.names.lookup x=!.local):PG X (.Name x pos) (LG X.K (.one i)) :=
 (Oe hN hi hx hf).imp λv bV H Q hq=>by
  let#[d,σ,g,ρ,s,R,r,h]:=hq;show h _ (s.set i r)
inductive gD(X:Cx):@&Expr->@&Nat->Prop
 |nil:gD X [] []
 |cons {x:Str} {p:Pos} {i:Nat} {es:@&Expr} {is:@&Nat} (hi:X.N[i]?=!x) (hx:Loc X.env.scope x) (hf:X.fn x=true\/X.env.scope.names.lookup x=!.local) (r:gD X es is):gD X (.Name x p::es) (i::is)
abbrev AG:@&Nat->pP
 |[]=>Ly
 |i::is=>Kj (vN i) (AG is)
def Mx(hN:X.Nd){es:@&Expr}{is:@&Nat}(h:gD X es is):we X es (AG is):=by
 induction h with
 |nil=>show Of
 |cons hi hx hf r ih=>show Gd (Oe hN hi hx hf) ih rfl
def GB:∀{es:@&Expr} {is:@&Nat},gD X es is->(assignEach es X.env).length=-is/\(assignEach es X.env).findIdx? (·.1)=none
 |_,_,.nil=>#[rfl,rfl]
 |_,_,.cons (x:=x) (p:=p) (es:=es) hi hx hf r=>by
  let#[h1,h2]:=GB r;let e:assignEach (.Name x p::es) X.env=(false,assign (.Name x p) X.env)::assignEach es X.env:=rfl;rw[e];show#[by simp[h1],?_];rw[List.findIdx?_cons,h2]
  rfl
def Mh{K:PySem.W.Frag}{ρ:@&Addr}{H:Hp}{k:S->Prop}{Q:L2.St->Hp->Prop}:∀{is:@&Nat} {l:@&D} {vs:@&V} {σ cJ:S} {bV:L2.St},R0 is l σ=!cJ->b0 K ρ H l vs->n4 K ρ H σ bV->(∀eV,n4 K ρ H cJ eV->Q eV H)->AG is vs bV H Q
 |[],_,_,_,_,_,h,.nil,s,q=>by
  cases h;show#[rfl,q _ s]
 |[],_,_,_,_,_,h,.cons _ _,s,q=>by cases h
 |i::is,_,_,_,_,_,h,.nil,s,q=>by cases h
 |i::is,_,_,_,_,_,h,.cons r rr,s,q=>by
  show#[_,_,rfl,Mh (k:=k) h rr (s.set i r) q]
def MY:∀{is:@&Nat} {l:@&D} {σ cJ:S},R0 is l σ=!cJ->-l=-is
 |[],[],_,_,_=>rfl
 |[],_::_,_,_,h=>by simp only[R0] at h;cases h
 |_::_,[],_,_,h=>by simp only[R0] at h;cases h
 |_::is,_::l,_,_,h=>by simp only[R0] at h;simp[MY h]
def Ow{es:@&Expr}{is:@&Nat}{k:Nat}(hc:X.calm=true)(hN:X.Nd)(hs:gD X es is):PG X (.Tuple es k pos) (LG X.K (.many is)) :=
 (PZ hc (Mx hN hs) (GB hs).1 (GB hs).2).imp λv bV H Q bx=>by
  let#[d,σ,g,ρ,s,R,r,h]:=bx;let#[l,cJ,rfl,e,h]:=h;let#[a',vs,rfl,ht,rs]:=r.A9;show#[_,_,rfl,ht.sq,by rw[<- -rs];show MY e,Mh (k:=λx=>True) e rs s h]
def LN.ext{K ρ H N cg H1}(e:Ext ρ H cg H1):(LN K ρ H N).le (LN K cg H1 N) :=
 #[λσ g h bY H' eV e' R s=>h bY H' eV (e.trans e') R s,λd g h=>h.ext e,λσ g h bY H' eV e' R s=>h bY H' eV (e.trans e') R s,λσ g h bY H' eV e' R s=>h bY H' eV (e.trans e') R s]
section
variable{Ξ:iX}{P:gu}(hP:k9 P){a b c tg:Expr}{ma mb mc:ME}{st:Stmt}{rest:@&Stmt}{CS ou:MS}
include hP
def AO:jM X [] (LS X.K Ξ (wpS P .pass)) :=
 (FQ).imp (by rintro N bV H ⟨σ,g,ρ,s,R,h⟩;show h ρ H bV (.refl _ _) R s)
def Bp(h1:PS X st (LS X.K Ξ (wpS P CS)))(h2:jM X rest (LS X.K Ξ (wpS P ou))):jM X (st::rest) (LS X.K Ξ (wpS P (.seq CS ou))) :=
 (Ge h1 h2).imp λN bV H ⟨σ,g,ρ,s,R,h⟩ =>
  wD hP s R (.refl _ _) (show wpS P CS { LN X.K ρ H N with nx:=λlR g1=>wpS P ou (LN X.K ρ H N) lR g1 (LX X.K ρ H Ξ) } σ g (LX X.K ρ H Ξ) from h) #[λlR g1 h cg H1 QO e1 R1 s1=>wD hP s1 R1 e1 h (LN.ext e1),λx x z=>z,λx x z=>z,λx x z=>z]
def OB(ha:PE X a (LE X.K Ξ (bh P ma)))(hs:swapsWith a none pos.line X.env=pure false):PS X (.Expr a pos) (LS X.K Ξ (wpS P (.expr ma))) :=
 (bB3 ha hs).imp (by rintro N bV H ⟨σ,g,ρ,s,R,h⟩;show fK hP s R (.refl _ _) h λx g1 cg H1 v1 e1 R1 r1 h=>h cg H1 bV e1 R1 (s.ext e1))
def Qg{x:Str}(h0:PS X (.Assign [.Name x p] a pos) (vF (LE X.K Ξ (bh P ma)) (vN i))):PS X (.Assign [.Name x p] a pos) (LS X.K Ξ (wpS P (.set i ma))) :=
 h0.imp (by rintro N bV H ⟨σ,g,ρ,s,R,h⟩;show fK hP s R (.refl _ _) h λx g1 cg H1 v1 e1 R1 r1 h=>h cg H1 _ e1 R1 ((s.ext e1).set i r1))
def bJ6(h0:PS X (.Assign [tg] a pos) (vF (LE X.K Ξ (bh P ma)) (LG X.K t))):PS X (.Assign [tg] a pos) (LS X.K Ξ (wpS P (.uL t ma))) :=
 h0.imp (by rintro N bV H ⟨σ,g,ρ,s,R,h⟩;show fK hP s R (.refl _ _) h λx g1 cg H1 v1 e1 R1 r1 h=>#[x,σ,g1,cg,s.ext e1,R1,r1,O9 (λcJ h eV s'=>h cg H1 eV e1 R1 s') h])
def Wd{j:Nat}(h0:PS X (.Assign [tg] a pos) (vF (LE X.K Ξ (bh P ma)) (Kk X.K (AG [i,j])))):PS X (.Assign [tg] a pos) (LS X.K Ξ (wpS P (.mT i j ma))) :=
 h0.imp λN bV H ⟨σ,g,ρ,s,R,h⟩=>fK hP s R (.refl _ _) h λv g1 cg H1 v1 e1 R1 r1 h=>by
  let#[b,x,l,rfl,hl,h]:=h;let#[a',rfl,ra]:=r1.j9;let#[vs,hq,rs]:=R1.items hl ra;cases rs with
  |@cons _ y _ ys rx rs =>
  show#[a',y,ys,rfl,hq,λp hp=>#[y,_,rfl,.ref p,[],rfl,rfl,?_]];let e2:=K4 (ρ:=cg) (o:=.lst ys) hp;show h (cg++[p]) _ _ (e1.trans e2) (R1.new hp (o:=.lst l) (u:=.lst ys) rs) (((s.ext (e1.trans e2)).set i (rx.ext e2)).set j (.ref (R1.B4 p)))
def Yl(hu:X.A.units+100<cLine){i:Expr}(ha:PE X a (LE X.K Ξ (bh P ma)))(ho:PE X o (LE X.K Ξ (bh P mo)))(hi:PE X i (LE X.K Ξ (bh P mi)))(hs:swapsWithSole [.Subscript o i tp] a pos.line X.env=pure false)(pL:∀ v,assign (.Subscript o i tp) X.env v=(do
   let ov <- holding [v] (eval o X.env)
   let iv <- holding [v,ov] (eval i X.env)
   standAt tp
   holding [v,ov,iv] (setItem ov iv v)
   release [v,ov,iv] [])):PS X (.Assign [.Subscript o i tp] a pos) (LS X.K Ξ (wpS P (.fo mo mi ma))) :=
 (AL ha (Hu ho hi (Hy hu) pL) hs).imp λN bV H ⟨σ,g,ρ,s,R,h⟩ =>
  fK hP s R (.refl _ _) h λx g1 cg H1 v1 e1 R1 r1 h=>fK hP (s.ext e1) R1 e1 h λy g2 fX H2 v2 e2 R2 r2 h=>fK hP (s.ext (e1.trans e2)) R2 (e1.trans e2) h λz g3 lB H3 v3 e3 R3 r3 h =>
   #[y,z,x,g3,lB,R3,r2.ext e3,r3,r1.ext (e2.trans e3),K7 (λg4 h nJ H4 e4 R4=>h nJ H4 bV (e1.trans (e2.trans (e3.trans e4))) R4 (s.ext (e1.trans (e2.trans (e3.trans e4))))) h]
omit hP in
def AA(K:PySem.W.Frag)(f:Str)(cs:@&Str):Prop:=∀c C,c∈cs->i9 K c C->B2 K C f
omit hP in
def VP(hF:AA X.K f cs){ρ:@&Addr}{H:Hp}{g g':G}{x v:D}{xv vv:V}(R:Rl X.K ρ g H)(rx:d8 X.K ρ H x xv)(rv:d8 X.K ρ H v vv)(h:Kx f cs x v g g') :
  ∃a C dx fs,xv=.ref a/\H a=!.ins C dx fs/\Cls X.K C/\B2 X.K C f/\-fs<1000/\Rl X.K ρ g' (upd H a (.ins C dx (p8 f vv fs)))/\Ext ρ H ρ (upd H a (.ins C dx (p8 f vv fs))):=by
 let#[i,c,fs,rfl,hi,hc,hz,rfl]:=h;let#[a',rfl,ra]:=rx.j9;let#[C,dx,vs,hH,hC,jZ,rk,na]:=R.ins hi ra;let#[R',e']:=R.put (o':=.ins c (x8 f v fs)) (u:=.ins C dx (p8 f vv vs)) hi rfl ra #[hC,jZ,rk.p8 rv,GK (hF c C hc hC) na];show#[a',C,dx,vs,rfl,hH,jZ,hF c C hc hC,by rw[<- -rk];omega,R',e']
def Wa(hF:AA X.K f cs)(ho:PE X o (LE X.K Ξ (bh P mo)))(ha:PE X a (LE X.K Ξ (bh P ma)))(hs:swapsWith a (!.Attribute o f tp) pos.line X.env=pure false):PS X (.Assign [.Attribute o f tp] a pos) (LS X.K Ξ (wpS P (.fb f cs mo ma))) :=
 (bO6 ho ha hs).imp λN bV H ⟨σ,g,ρ,s,R,h⟩=>fK hP s R (.refl _ _) h λx g1 cg H1 v1 e1 R1 r1 h=>fK hP (s.ext e1) R1 e1 h λy g2 fX H2 v2 e2 R2 r2 h=>by
  let#[g3,h,q]:=h;let#[a',C,dx,fs,hx,hH,jZ,na,hz,R3,e3]:=VP hF R2 r2 (r1.ext e2) h;show#[a',C,dx,fs,hx,hH,jZ,na,hz,q fX _ bV (e1.trans (e2.trans e3)) R3 (s.ext (e1.trans (e2.trans e3)))]
def bJ7(hc:X.calm=true)(hu:X.A.units+100<cLine){o1 i1 o2 i2:Expr}{m1 n1 m2 n2:ME}{p1 p2 pt:Pos}{kt:Nat}(DB:PE X o1 (LE X.K Ξ (bh P m1)))(DP:PE X i1 (LE X.K Ξ (bh P n1)))(jY:PE X o2 (LE X.K Ξ (bh P m2)))(DO:PE X i2 (LE X.K Ξ (bh P n2)))(ha:PE X a (LE X.K Ξ (bh P ma)))(a1:∀ v,assign (.Subscript o1 i1 p1) X.env v=(do
   let ov <- holding [v] (eval o1 X.env)
   let iv <- holding [v,ov] (eval i1 X.env)
   standAt p1
   holding [v,ov,iv] (setItem ov iv v)
   release [v,ov,iv] []))(a2:∀ v,assign (.Subscript o2 i2 p2) X.env v=(do
   let ov <- holding [v] (eval o2 X.env)
   let iv <- holding [v,ov] (eval i2 X.env)
   standAt p2
   holding [v,ov,iv] (setItem ov iv v)
   release [v,ov,iv] []))(hs:swapsWithSole [.Tuple [.Subscript o1 i1 p1,.Subscript o2 i2 p2] kt pt] a pos.line X.env=pure false)(hw:swappedStores [.Tuple [.Subscript o1 i1 p1,.Subscript o2 i2 p2] kt pt] a X.env=pure none) :
  PS X (.Assign [.Tuple [.Subscript o1 i1 p1,.Subscript o2 i2 p2] kt pt] a pos) (LS X.K Ξ (wpS P (.rB m1 n1 m2 n2 ma))):=by
 show(AL ha (PZ (n:=2) hc (Gd (Hu DB DP (Hy hu) a1) (Gd (Hu jY DO (Hy hu) a2) Of))) hs hw).imp λN bV H bx=>?_;let#[σ,g,ρ,s,R,h]:=bx;show fK hP s R (.refl _ _) h λx g1 cg H1 v1 e1 R1 r1 h=>?_;let#[u,v,rfl,h]:=h;let#[b,vs,rfl,ht,rs]:=r1.A9;let#[w1,w2,rfl,q1,q2]:=rs.two;show#[b,[w1,w2],rfl,ht.sq,rfl,w1,[w2],rfl,?_];show fK hP (s.ext e1) R1 e1 h λy1 g2 fX H2 v2 e2 R2 r2 h=>?_;show fK hP (s.ext (e1.trans e2)) R2 (e1.trans e2) h λz1 g3 lB H3 v3 e3 R3 r3 h=>?_;show#[y1,z1,u,g3,lB,R3,r2.ext e3,r3,q1.ext (e2.trans e3),?_];show K7 (λg4 h nJ H4 e4 R4=>?_) h;show#[w2,[],rfl,?_];let vt:=(e1.trans e2).trans (e3.trans e4);show fK hP (s.ext vt) R4 vt h λy2 g5 ρ5 H5 v5 e5 R5 r5 h=>?_;show fK hP (s.ext (vt.trans e5)) R5 (vt.trans e5) h λz2 g6 QQ H6 v6 e6 R6 r6 h=>?_;show#[y2,z2,v,g6,QQ,R6,r5.ext e6,r6,q2.ext ((e2.trans (e3.trans e4)).trans (e5.trans e6)),?_];show K7 (λg7 h QP H7 e7 R7=>?_) h;show#[rfl,h QP H7 bV (vt.trans (e5.trans (e6.trans e7))) R7 (s.ext (vt.trans (e5.trans (e6.trans e7))))]
def V'(hF:AA X.K f cs)(ho:PE X o (LE X.K Ξ (bh P mo)))(ha:PE X a (LE X.K Ξ (bh P ma))):PS X (.AugAssign (.Attribute o f tp) .Add a pos) (LS X.K Ξ (wpS P (.lr f cs mo ma))) :=
 (a69 ho ha bE7).imp λN bV H ⟨σ,g,ρ,s,R,h⟩=>fK hP s R (.refl _ _) h λy g1 cg H1 v1 e1 R1 r1 h=>by
  let#[i,c,fs,x,rfl,hi,hc,hf,h]:=h;let#[a',rfl,ra]:=r1.j9;let#[C,dx,vs,hH,hC,jZ,rk,na]:=R1.ins hi ra;let lk:=rk.look f;rw[hf] at lk;let#[v,hv,rv]:=lk.some;show#[a',C,dx,vs,v,rfl,hH,jZ,hF c C hc hC,hv,fK hP (s.ext e1) R1 e1 h λz g3 lB H3 v3 e3 R3 r3 h=>?_];let#[d',g',hR,jK,lX,hz,q]:=h;let fin:∀{nJ:@&Addr} {H4:Hp} {vv:V},Ext lB H3 nJ H4->Rl X.K nJ g' H4->d8 X.K nJ H4 d' vv->∃vw jK,H4 a'=!.ins C vw jK/\-jK<1000/\N.nx bV (upd H4 a' (.ins C vw (p8 f vv jK))):=by
   intro nJ H4 vv e4 R4 r4;let#[C2,JQ,sN,Ek,Ar,DX,ID,RS]:=R4.ins lX ((e3.trans e4).get ra);have:C2=C:=by grind
   subst this;let#[R5,e5]:=R4.put (o':=.ins c (x8 f d' jK)) (u:=.ins C2 JQ (p8 f vv sN)) lX rfl ((e3.trans e4).get ra) #[Ar,DX,ID.p8 r4,GK (hF c C2 hc Ar) RS];show#[JQ,sN,Ek,by rw[<- -ID];omega,q nJ _ bV (e1.trans (e3.trans (e4.trans e5))) R5 (s.ext (e1.trans (e3.trans (e4.trans e5))))]
  rcases hR with⟨j,l,ex,rfl,rfl⟩|⟨l,m,ex,zW,rfl,rfl⟩
  .let#[rfl,rfl]:=y4 ex;obtain rfl:=rv.i6;obtain rfl:=r3.i6;show .inl #[_,_,rfl,rfl,fin (.refl _ _) R3 (.int _)]
  .let#[rfl,rfl]:=y4 ex;let#[p1,Iw,rfl,t1,uN]:=(rv.ext e3).A9;let#[p2,sN,rfl,t2,qc]:=r3.A9;show .inr #[p1,p2,Iw,sN,rfl,rfl,t1.sq,t2.sq,by rw[<- -uN,<- -qc];show j5 zW,λz=>?_,λz=>?_,λp hp=>?_]
   .subst z;cases uN;show fin (.refl _ _) R3 (.tup t2 qc)
   .subst z;cases qc;rw[jw] at fin;show fin (.refl _ _) R3 (.tup t1 uN)
   .exact fin (o6 hp) (R3.grow hp) (.tup (.inl f9) ((uN.append qc).ext (o6 hp)))
def Zt{sa sb:@&Stmt}{IS msb:MS}(hc:PT X c (LT X.K Ξ (fk P mc)))(ha:jM X sa (LS X.K Ξ (wpS P IS)))(hb:jM X sb (LS X.K Ξ (wpS P msb))):PS X (.If c sa sb pos) (LS X.K Ξ (wpS P (.ifs mc IS msb))) :=
 (b04 hc ha hb).imp λN bV H ⟨σ,g,ρ,s,R,h⟩=>sO hP s R (.refl _ _) h λt g1 cg H1 e1 R1 h=>by
  cases t
  .exact wD hP (s.ext e1) R1 e1 h (LN.ext e1)
  .exact wD hP (s.ext e1) R1 e1 h (LN.ext e1)
def HA(ha:PE X a (LE X.K Ξ (bh P ma))):PS X (.Return (!a) pos) (LS X.K Ξ (wpS P (.ret ma))) :=
 (P' ha).imp (by rintro N bV H ⟨σ,g,ρ,s,R,h⟩;show #[σ,g,ρ,s,R,h])
def bJ8{iter:Expr}{body:@&Stmt}{mb:MS}(hp:PassesOwn (model X.prog X.w) X.A X.env X.xe)(hc:X.calm=true)(hi:PI X tg iter (LI X.K Ξ (km P mi)))(hg:PG X tg (LG X.K t))(hb:jM X body (LS X.K Ξ (wpS P mb)))(hs:∀x,foldedSetIterable iter X.env x=pure x):PS X (.For tg iter body [] pos) (LS X.K Ξ (wpS P (.lh t mi mb))) :=
 (bO5 hp hc hi hg hb hs).imp λN bV H bx=>by
  let#[σ,g,ρ,s,R,h]:=bx;show#[σ,g,ρ,s,R,O7 hP mi _ _ _ _ _ _ (λk g1 h cg H1 J e1 R1 j1=>?_) (λu u z=>z) h];let#[W,#[m0,w0],h]:=h;show#[λi m eV H'=>∃cJ g' bY,Ext cg H1 bY H'/\n4 X.K bY H' cJ eV/\Rl X.K bY g' H'/\W i m cJ g',#[m0,σ,g1,cg,.refl _ _,s.ext e1,R1,w0],?_];rintro i m eV H' ⟨cJ,g',bY,e',s',R',w'⟩;let#[Dc,CZ]:=j1 bY g' H' e' R' i;rcases h i m cJ g' w' with⟨ek,q⟩|⟨x,ek,N2,Tx,q⟩
  .exact .inl #[Dc ek,q bY H' eV (e1.trans e') R' s']
  .let#[go,yl]:=CZ x ek;show .inr #[go,λpY H2=>∃fj g2 fX,Ext cg H1 fX H2/\n4 X.K fX H2 fj pY/\Rl X.K fX g2 H2/\N2 fj g2,?_,?_]
   .rintro pY H2 ⟨fj,g2,fX,e2,s2,R2,n2⟩;let#[m',hm,w2]:=Tx fj g2 n2;show#[m',hm,fj,g2,fX,e2,s2,R2,w2]
   .intro v H2 y;let#[e2,R2,r2]:=yl v H2 y;show#[x,cJ,g',bY,s'.ext e2,R2,r2,O9 (λfj q pY s2=>?_) q];show wD hP s2 R2 (e1.trans (e'.trans e2)) q #[?_,?_,?_,?_]
    .exact λmQ g3 n3 lB H3 sJ e3 R3 s3=>#[mQ,g3,lB,(e'.trans e2).trans e3,s3,R3,n3]
    .exact λd g3 h=>h.ext (e1.trans (e'.trans e2))
    .exact λmQ g3 h lB H3 sJ e3 R3 s3=>h lB H3 sJ (e1.trans ((e'.trans e2).trans e3)) R3 s3
    .exact λmQ g3 n3 lB H3 sJ e3 R3 s3=>#[mQ,g3,lB,(e'.trans e2).trans e3,s3,R3,n3]
def OJ{i3:@&Nat}{n:Nat}{ow me:ME}:∀bV H Q,LE X.K Ξ (bh P (.comp i3 n t mi ow me)) bV H Q->GX (LI X.K Ξ (km P mi)) i3 n (LG X.K t) (LT X.K (zt Ξ.1) (fk P ow)) (LE X.K (zt Ξ.1) (bh P me)) bV H Q:=λbV H Q bx=>by
 let#[σ,g,ρ,s,R,h]:=bx;show#[σ,g,ρ,s,R,O7 hP mi _ _ _ _ _ _ (λk g1 h cg H1 J e1 R1 j1=>?_) (λw w z=>z) h];let#[W,#[m0,w0],h]:=h;show#[λi m Im eV H'=>∃ys cJ g' bY,Ext cg H1 bY H'/\n4 X.K bY H' cJ eV/\Rl X.K bY g' H'/\b0 X.K bY H' ys Im/\W i m ys cJ g',#[m0,[],_,g1,cg,.refl _ _,(s.ext e1).i3 i3 n,R1,.nil,w0],?_];rintro i m Im eV H' ⟨ys,cJ,g',bY,e',s',R',ry,w'⟩;let#[Dc,CZ]:=j1 bY g' H' e' R' i;rcases h i m ys cJ g' w' with⟨ek,q⟩|⟨x,ek,hz,q⟩
 .exact .inl #[Dc ek,λp hp=>(q.ext (e1.trans e')).new R' hp ry]
 .let#[go,yl]:=CZ x ek;show .inr #[go,by rw[<- -ry];show Bf hz,λv H2 y=>?_];let#[e2,R2,r2]:=yl v H2 y;show#[x,cJ,g',bY,s'.ext e2,R2,r2,O9 (λfj q pY s2=>?_) q];show#[fj,g',bY,s2,R2,B3 hP ow _ _ _ _ _ _ (λb g3 q lB H3 e3 R3=>?_) (λw w z=>z.elim) q];cases b
  .let#[m',hm,w3]:=q;show#[m',hm,ys,fj,g3,lB,(e'.trans e2).trans e3,s2.ext e3,R3,(ry.ext e2).ext e3,by simpa using w3]
  .refine#[fj,g3,lB,s2.ext e3,R3,d0 hP me _ _ _ _ _ _ (λz g4 q nJ H4 v4 e4 R4 r4=>?_) (λw w z=>z.elim) q];let#[m',hm,w4]:=q;show#[m',hm,ys++[z],fj,g4,nJ,(e'.trans e2).trans (e3.trans e4),(s2.ext e3).ext e4,R4,(((ry.ext e2).ext e3).ext e4).append (.cons r4 .nil),by simpa using w4]
end
end M
namespace M
open PySem L2
section
variable{P:gu}(hP:k9 P)
include hP
end
end M
namespace M
open PySem L2 PySem.Spec PyProof.Rows
variable{X:Cx}{Ξ:iX}{P:gu}{x z qual:Str}{B newId cF:String}{np cB pos p p1 p2:Pos}{dG e o b a:Expr}{C' f:Addr}{H:Hp}{k i n:Nat}{body:@&Stmt}{c:i4}{es args:@&Expr}{env:Env}{m:MS}{r:CF}{s:Shared}{cd:Value}{N:@&Str}{scope:Scope}{A:Around}{outer:@&Env}{E:XK}
section
variable(hP:k9 P)
include hP
def Yk{C:Addr}{bm:@&Value}{rest:@&Expr}{ie:ME}(hc:X.calm=true)(O:OwnCls x C bm newId X.mg X.base)(FB:ExcBaseFacts B newId cF bm)(hg:Gl X x)(ha:PA X (dG::rest) (LA X.K Ξ (gh P ie)))(hr:AV X Ξ.2)(hx:x∈Ξ.1)(iK:x.cps.size≠1)(hC:i9 X.K x C)(he:starEach (dG::rest) X.env=(false,eval dG X.env)::starEach rest X.env)(fM:(backTo cB (starEach rest X.env)).any (·.1)=false)(hd:(x==("__debug__":Str))=false):PS X (.Raise (!.Call (.Name x np) (dG::rest) [] cB) none pos) (LS X.K Ξ (wpS P (.raise x ie))) :=
 (XG hc O FB hg ha hr he fM hd).imp λN bV H bx=>by
  let#[σ,g,ρ,s,R,h]:=bx;show lD hP s R (.refl _ _) h λds g1 cg H1 vs e1 R1 r1 h=>?_;show#[by rw[<- -r1];show j5 (aL h.1 ∅),h.2 cg H1 C none e1 R1 (.inl #[hx,iK,hC,rfl])]
abbrev sx(X:Cx)(ex:@&Str)(D:L2.Ends)(da:L2.St)(hs:@&ExceptHandler):iX:=(ex,λv od H=>∃C,v=.ref C/\Y5 X D da C od H hs)
def ZX{y:Str}{x:Xn}{C:Addr}{od:Option Addr}(hx:∀x C,x∈Ξ.1->i9 X.K x C->PySem.W.exmOne X.K (.ref C) (.ref C')=!decide (x=y\/y="MintError"))(hy:y.cps.size≠1)(tQ:∀C,i9 X.K "BadText" C->PySem.W.exmOne X.K (.ref C) (.ref C')=!decide (y="MintError"))(h:Lu X.K Ξ.1 x C od H) :
  PySem.W.exmOne X.K (.ref C) (.ref C')=!decide (x.cls=y\/y="MintError"):=by
 rcases h with⟨h,_,hC,_⟩|⟨n,dA,rfl,hC,_⟩
 .exact hx _ _ h hC
 .rw[tQ _ hC];have:((J1 n).cls=y\/y="MintError")↔y="MintError":=#[λz=>z.elim (λz=>absurd (by rw[<- z];rfl) hy) id,.inr]
  simp only[this]
def a47{fI C:Addr}{fd:FuncData}{ps:@&Str}{ir:@&Value}{rest:@&Expr}{ie:ME}(hc:X.calm=true)(O:iu "BadText" C fI ir newId X.mg X.base)(FB:ExcBaseFacts B newId cF ir)(hg:Gl X "BadText")(F:gK X.prog X.w X.K X.mg X.base (gF X.prog X.w) k fI fd ps (W7 C "row"))(hr:m4 (k+1) X.A)(hb:Binds X.K fd ps [])(ha:PA X (dG::rest) (LA X.K Ξ (gh P ie)))(hx:AU X Ξ.2)(hex:X.ex=[])(hC:i9 X.K "BadText" C)(he:starEach (dG::rest) X.env=(false,eval dG X.env)::starEach rest X.env)(gI:(backTo cB (starEach rest X.env)).any (·.1)=false):PS X (.Raise (!.Call (.Name "BadText" np) (dG::rest) [] cB) none pos) (LS X.K Ξ (wpS P (.raiser ie))) :=
 (a68 hc O FB hg F hr hb ha hx hex he gI ∅).imp λN bV H bx=>by
  let#[σ,g,ρ,s,R,h]:=bx;show lD hP s R (.refl _ _) h ?_;rintro ds g1 cg H1 vs e1 R1 r1 ⟨n,e2,h⟩;subst e2;let#[v,rfl,rv]:=r1.one;obtain rfl:=rv.i6;show#[_,rfl,λdA hn=>h cg _ C _ (e1.trans (o6 hn)) (R1.grow hn) (.inr #[n,dA,rfl,hC,rfl,f9])]
def Wb{me:ME}{p0 p3 p4 p5:Pos}(jV:X.sg=none)(hg:Gl X "BadText")(hm:X.mg "BadText"=!.ref C')(hC:i9 X.K "BadText" C')(hx:∀x C,x∈Ξ.1->i9 X.K x C->PySem.W.exmOne X.K (.ref C) (.ref C')=!false)(tQ:PySem.W.exmOne X.K (.ref C') (.ref C')=!true)(jZ:O3 X.K C' "row")(hh:W6 X Ξ.2)(hi:X.N[i]?=!z)(hN:X.N.Nodup)(hz:X.env.scope.names.lookup z=!.local)(DW:(z==("__debug__":Str))=false)(hd2:(z==("__classdict__":Str))=false)(hb:∀pi D,PE (A5 X pi (uy X pi D [.ExceptHandler (!(.Name "BadText" p)) (!z) [.Return (!.List [.Attribute (.Name z p1) "row" p2] p3) p4] p5])) e (LE X.K (sx X Ξ.1 D (List.replicate (-X.N) none) [.ExceptHandler (!(.Name "BadText" p)) (!z) [.Return (!.List [.Attribute (.Name z p1) "row" p2] p3) p4] p5]) (bh P me))) :
  PS X (.Try [.Return (!e) p0] [.ExceptHandler (!(.Name "BadText" p)) (!z) [.Return (!.List [.Attribute (.Name z p1) "row" p2] p3) p4] p5] [] [] pos) (LS X.K Ξ (wpS P (.om me))):=by
 intro pi s bV H N I ⟨σ,g,ρ,sr,R,h⟩;show Qb (t:=λD y=>LS X.K (sx X Ξ.1 D (List.replicate (-X.N) none) [.ExceptHandler (!(.Name "BadText" p)) (!z) [.Return (!.List [.Attribute (.Name z p1) "row" p2] p3) p4] p5]) (wpS P (.seq (.ret me) .pass))) (Ξ:=λD y=>(sx X Ξ.1 D (List.replicate (-X.N) none) [.ExceptHandler (!(.Name "BadText" p)) (!z) [.Return (!.List [.Attribute (.Name z p1) "row" p2] p3) p4] p5]).2) (λy=>none) (λy=>List.replicate (-X.N) none) (λy y z=>by cases z) jV
  (λpi D y y=>Bp (X:=A5 X pi _) hP (HA (X:=A5 X pi _) hP (hb pi D)) (AO (X:=A5 X pi _) hP)) pi s bV H N I #[(by rintro C od H' ⟨C',e,z⟩;cases e;show z),?_]
 show#[σ,g,ρ,sr,R,d0 hP me _ _ _ _ _ _ (λy g1 z=>z) (λx g1 q bY H' C od e' R' Dn=>#[C,rfl,hg,by decide,C',?_]) h];rcases Dn with⟨h1,h2,h3,h4⟩|⟨n,dA,rfl,h3,h4,h5⟩
 .rcases q with⟨n,rfl,_⟩|⟨_,q⟩
  .exact absurd rfl h2
  .exact#[false,hm,hx _ _ h1 h3,by rw[aq ∅];show#[Ξ.2,hh,q bY H' C od e' R' (.inl #[h1,h2,h3,h4])]]
 .obtain rfl:C=C':=by
   let w:=(show PySem.W.nsIn X.K mainGlobals "BadText"=_ from h3).symm.trans hC;cases w
   rfl
  rcases q with⟨m,em,q⟩|⟨q,_⟩
  .have:m=n:=by
    have:=gw (λw:Xn=>w.cls.cps[0]?) em;simpa using this.symm
   subst this;show#[true,hm,tQ,by rw[au rfl];show#["row",p1,p2,p3,p4,i,dA,_,.int m,rfl,hi,hN,hz,DW,hd2,h4,h5,rfl,jZ,λp hp=>LQ.new (q.ext e') R' hp (.cons (.int _) .nil)]]
  .exact absurd rfl q
set_option tactic.hygienic true in
def Wc{y:Str}{C fI:Addr}{fd:FuncData}{ps:@&Str}{ir:@&Value}{me:ME}{rt iv:Bool}{rp:Pos}{kc:Nat}(jV:X.sg=none)(hg:Gl X y)(hd:(y==("__debug__":Str))=false)(hm:X.mg y=!.ref C')(hx:∀x C,x∈Ξ.1->i9 X.K x C->PySem.W.exmOne X.K (.ref C) (.ref C')=!decide (x=y\/y="MintError"))(hy:y.cps.size≠1)(tQ:∀C,i9 X.K "BadText" C->PySem.W.exmOne X.K (.ref C) (.ref C')=!decide (y="MintError"))(hh:W6 X Ξ.2)(hk:zc X Ξ.2)(eO:X.stack=X.env::X.outer)(hf:X.env.frame=!X.env.locals)(hex:X.ex=[])(O:iu "BadText" C fI ir newId X.mg X.base)(FB:ExcBaseFacts B newId cF ir)(Ah:Gl X "BadText")(hC:i9 X.K "BadText" C)(F:uj X.prog X.w X.K X.mg X.base (gF X.prog X.w) k fI fd ps (W7 C "row"))(hr:m4 (k+1) X.A)(Jw:Binds X.K fd ps [])(he:if iv=true then X.N[i]?=!z/\sy X.env.scope z/\(z==("__debug__":Str))=false/\(z==("__classdict__":Str))=false/\∃q,dG=.Name z q else ∃j q,dG=.Constant (.int i) j q)(hb:∀ pi D σ,jM (A5 X pi (uy X pi D [.ExceptHandler (!.Name y p) none [.Raise (!.Call (.Name "BadText" np) [dG] [] cB) (!.Constant .none kc p1) rp] p2]) (!σ)) body
   (LS X.K (sx X Ξ.1 D σ [.ExceptHandler (!.Name y p) none [.Raise (!.Call (.Name "BadText" np) [dG] [] cB) (!.Constant .none kc p1) rp] p2]) (wpS P (.seq (if rt=true then .ret me else .expr me) .pass)))) :
  PS X (.Try body [.ExceptHandler (!.Name y p) none [.Raise (!.Call (.Name "BadText" np) [dG] [] cB) (!.Constant .none kc p1) rp] p2] [] [] pos) (LS X.K Ξ (wpS P (.lS me y rt iv i))):=by
 intro pi s bV H N I ⟨σ,g,ρ,sr,R,h⟩;show Qb (t:=λD σ=>LS X.K (sx X Ξ.1 D σ [.ExceptHandler (!.Name y p) none [.Raise (!.Call (.Name "BadText" np) [dG] [] cB) (!.Constant .none kc p1) rp] p2]) (wpS P (.seq (if rt=true then .ret me else .expr me) .pass))) (Ξ:=λD σ=>(sx X Ξ.1 D σ [.ExceptHandler (!.Name y p) none [.Raise (!.Call (.Name "BadText" np) [dG] [] cB) (!.Constant .none kc p1) rp] p2]).2) some id (λu u z=>by cases z;rfl) jV
  (λpi D σ _=>hb pi D σ) pi s bV H N I #[(by rintro C od H' ⟨C',e,z⟩;cases e;show z),?_]
 show#[σ,g,ρ,sr,R,?_];let h:bh P me σ g (λd g1=>if rt=true then(LN X.K ρ H N).rt d g1 else(LN X.K ρ H N).nx σ g1) (λx g1=>x.cls.cps.size≠1/\if x.cls=y\/y="MintError" then ∃n:Nat,(if iv=true then σ[i]?=some (!.int n) else i=n)/\LX X.K ρ H Ξ (J1 n) g1 else LX X.K ρ H Ξ x g1):=h;let hE:∀x g1,(x.cls.cps.size≠1/\if x.cls=y\/y="MintError" then ∃n:Nat,(if iv=true then σ[i]?=some (!.int n) else i=n)/\LX X.K ρ H Ξ (J1 n) g1 else LX X.K ρ H Ξ x g1) ->
   LX X.K ρ H (sx X Ξ.1 N bV [.ExceptHandler (!.Name y p) none [.Raise (!.Call (.Name "BadText" np) [dG] [] cB) (!.Constant .none kc p1) rp] p2]) x g1:=λx g1 ⟨Sy,q⟩ bY H' Cx od e' R' pH=>by
  show#[Cx,rfl,hg,hd,_,_,hm,ZX hP hx hy tQ pH,?_];split at q
  .rename_i ex;rw[au (_/ex)];let#[n,hv,hE]:=q;rcases pH with⟨_,_,_,h4⟩|⟨m,dA,em,_⟩
   .refine .inr #[h4,?_];let last:∀dA,H' dA=none->Ξ.2 (.ref C) (!dA) (upd H' dA (.xd [("row",.int n)])):=λdA hn=>hE bY _ C _ (e'.trans (o6 hn)) (R'.grow hn) (.inr #[n,dA,rfl,hC,rfl,f9]);cases iv with
    |true =>
     simp only[if_true] at he hv;let#[hi,hz,d1,d2,q,rfl]:=he;let#[v,sv,rv]:=sr.val _ _ hv;obtain rfl:=rv.i6;show#["BadText","row",C,fI,ir,newId,B,cF,k,fd,ps,np,cB,p1,rp,kc,_,Bx i,.int n,Ξ.2,rfl,O,FB,Ah,by decide,F,hr.n,Jw,λea=>V3 (X:=o9 X ea) hi hz d1 d2,λH Q q=>#[_,sv,q],hk,eO,hf,hex,rfl,last]
    |false =>
     simp only[Bool.false_eq_true,if_false] at he hv;let#[j,q,rfl]:=he;subst hv;show#["BadText","row",C,fI,ir,newId,B,cF,k,fd,ps,np,cB,p1,rp,kc,_,tC (.int i),.int i,Ξ.2,rfl,O,FB,Ah,by decide,F,hr.n,Jw,λea=>PU (X:=o9 X ea),λH Q q=>q,hk,eO,hf,hex,rfl,last]
   .subst em;show absurd rfl Sy
  .rename_i ex;rw[aq (_/ex)];show#[Ξ.2,hh,q bY H' Cx od e' R' pH]
 cases rt with
 |true=>show d0 hP me _ _ _ _ _ _ (λu g1 z=>z) hE h
 |false=>show d0 hP me _ _ _ _ _ _ (λu g1 z=>z) hE h
end
structure i4 where
 N:@&Str
 nm:@&(Str×NameKind)
 qP:Bool
 fns:@&(Str×Nat)
 con:@&(Str×D)
 blt:@&Str
 exc:@&Str
 gd:@&(Str×@&D)
 cls:@&(Str×Nat)
 pE:@&(Str×Str×Nat)
 pN:@&(Str×Str)
 jD:Bool
 jS:Bool
 wr:Bool:=true
 row:Option (Nat×Nat):=none
abbrev iU:Expr->Bool
 |.Set ..=>false
 |.Starred ..=>false
 |.Slice ..=>false
 |_=>true
abbrev u6:Expr->Bool
 |.ListComp ..=>false
 |.SetComp ..=>false
 |.DictComp ..=>false
 |_=>true
abbrev uv:Expr->Bool
 |.Tuple ..=>false
 |_=>true
abbrev GA:Expr->Bool
 |.Name ..=>true
 |.Call ..=>true
 |.Subscript ..=>true
 |.Constant ..=>true
 |.Attribute ..=>true
 |.BinOp ..=>true
 |_=>false
abbrev yX:Expr->Bool
 |.Call (.Name ..) [] ..=>false
 |_=>true
abbrev i4.idx(c:i4)(x:Str):Option Nat:=c.N.findIdx? λy=>decide (y=x)
def i4.uK(c:i4)(x:Str):Bool:=match c.nm.lookup x with
 |some .local=>true
 |some .cell=>true
 |some .free=>true
 |_=>false
def i4.gl(c:i4)(x:Str):Bool:=decide (c.nm.lookup x=!.globalImplicit)
def i4.C6(c:i4)(x:Str):Bool:=decide (c.nm.lookup x=!.local)||decide (c.nm.lookup x=!.cell)
def P4(x:Str):Bool:=(x==("__debug__":Str))==false&&(x==("__classdict__":Str))==false&&decide (x≠"__name__")
abbrev G':@&(Str×String):=[("int","int"),("bool","bool"),("str","str"),("tuple","tuple"),("list","list")]
abbrev Hg:@&(Str×Pr):=[("len",.len),("list",.list),("tuple",.tuple),("isinstance",.isin),("all",.all),("max",.max),("int",.int),("str",.str),("any",.any)]
abbrev Bk:@&(Str×Pr):=[]
abbrev Hq:@&(Str×Pr):=[("append",.append),("pop",.pop),("join",.join),("split",.split),("insert",.gc)]
abbrev U6:Expr->Option (Str×@&Expr)
 |.Call (.Name x _) args [] _=>!(x,args)
 |_=>none
abbrev J':Expr->Bool
 |.Tuple ..=>true
 |_=>false
abbrev asName:Expr->Option Str
 |.Name x _=>!x
 |_=>none
abbrev frees(sc:Scope):@&Str:=(sc.names.filter λy=>decide (y.2=.free)).map (·.1)
abbrev locals(sc:Scope):@&Str:=(sc.names.filter λy=>decide (y.2=.local)||decide (y.2=.cell)).map (·.1)
def i4.inner(c:i4)(sc:Scope):i4:={ c with N:=frees sc++locals sc,nm:=sc.names,qP:=false,jD:=false,jS:=false,wr:=true }
abbrev i4.i3(c:i4)(sc:Scope):@&Nat:=(frees sc).map λx=>(c.idx x).getD 0
abbrev i4.FR(c:i4)(sc:Scope):Bool :=
 decide (sc.kind=.function)&&sc.names.all (λy=>~~~decide (y.2=.cell)||decide (sc.names.lookup y.1=!.cell))&&sc.names.all (λy=>~~~decide (y.2=.local)||decide (sc.names.lookup y.1=!.local)) &&
 decide (frees sc++locals sc).Nodup&&(frees sc).all (λx=>(c.idx x).isSome&&decide (sc.names.lookup x=!.free)&&(decide (c.nm.lookup x=!.cell)||decide (c.nm.lookup x=!.free)))
abbrev i4.slot(c:i4)(e:Expr):Option Nat:=(asName e).bind λx=>if c.C6 x then c.idx x else none
abbrev i4.slots(c:i4):@&Expr->Option (@&Nat)
 |[]=>![]
 |e::r=>(c.slot e).bind λi=>(c.slots r).map λis=>i::is
abbrev i4.tg(c:i4)(e:Expr):Option MT:=((c.slot e).map .one).orElse λx=>match e with
 |.Tuple es _ _=>(c.slots es).map .many
 |_=>none
abbrev HR:Const->Option D
 |.int i=>!.int i
 |.bool b=>!.bl b
 |.none=>!.aW
 |.str x=>!.str x
 |_=>none
structure CF where
 e:i4->Expr->Option ME
 t:i4->Expr->Option ME
 s:i4->Stmt->Option MS
section
variable(r:CF)(c:i4)
abbrev c1(p:Pr)(a:Expr):Option ME:=(r.e c a).map λm=>.prim p (.cons m .nil)
abbrev c2(p:Pr)(a b:Expr):Option ME:=(r.e c a).bind λma=>(r.e c b).map λmb=>.prim p (.cons ma (.cons mb .nil))
abbrev F1:@&Expr->Option ME
 |[]=>!.nil
 |e::es=>if iU e then(r.e c e).bind λm=>(F1 es).map λms=>.cons m ms else none
abbrev KY:Expr->Option Str
 |.Constant (.str x) _ _=>!x
 |_=>none
abbrev Lw:Expr->Option Expr
 |.FormattedValue e k none _=>if k=-1 then some e else none
 |_=>none
abbrev yG:@&Expr->Option ME
 |[]=>!.nil
 |e::es=>((KY e).bind λx=>if (-x)<=2000 then(yG es).map λms=>.cons (.lit (.str x)) ms else none).orElse λ_ =>
   (Lw e).bind λa=>(r.e c a).bind λm=>(yG es).map λms=>.cons (.prim .fv (.cons m .nil)) ms
abbrev BG:@&(Option Expr)->@&Expr->Option ME
 |[],[]=>!.nil
 |some k::ks,v::vs=>(r.e c k).bind λmk=>(r.e c v).bind λmv=>(BG ks vs).map λms=>.cons mk (.cons mv ms)
 |_,_=>none
abbrev HQ(op:BoolOp):@&Expr->Option ME
 |[]=>none
 |[a]=>r.e c a
 |a::b::rs=>(r.e c a).bind λma=>(HQ op (b::rs)).map λmb=>match op with
  |.And=>.fU ma mb
  |.Or=>.gW ma mb
abbrev HS(op:BoolOp):@&Expr->Option ME
 |[]=>none
 |[a]=>r.t c a
 |a::b::rs=>(r.t c a).bind λma=>(HS op (b::rs)).map λmb=>match op with
  |.And=>.fU ma mb
  |.Or=>.gW ma mb
abbrev Lc:@&Expr->Option ME
 |[]=>!.no
 |[e]=>r.t c e
 |_=>none
abbrev C3:@&Stmt->Option MS
 |[]=>!.pass
 |s::rs=>(r.s c s).bind λm=>(C3 rs).map λms=>.seq m ms
abbrev Hb(x:Str):Option ME :=
 if P4 x then(if c.uK x then(c.idx x).map .var else if c.gl x then((c.con.lookup x).map .lit).orElse λy=>if c.blt.contains x then(G'.lookup x).map λt=>.lit (.ty t) else none else none) else none
abbrev Cv(op:UnaryOp)(a:Expr):Option ME:=if op=.Not then(r.e c a).map .eF else c1 r c (.un op) a
abbrev i4.Fi(b:Expr):Option (@&D):=(asName b).bind λx=>if c.gl x&&P4 x then c.gd.lookup x else none
abbrev Vf:CmpOp->Option Bool
 |.In=>!false
 |.NotIn=>!true
 |_=>none
abbrev zq(a:Expr)(ops:@&CmpOp)(bs:@&Expr):Option ME:=match ops,bs with
 |[op],[b]=>if behindInMarks op b then none else((Vf op).bind λneg=>(c.Fi b).bind λkvs=>(r.e c a).map λma=>.prim (BH neg) (.cons (.lit (.tup kvs)) (.cons ma .nil))).orElse λx=>c2 r c (.cmp op) a b
 |[op,ja],[b,d]=>if lastMarks [op,ja] [b,d] then none else(r.e c a).bind λma=>(r.e c b).bind λmb=>(r.e c d).map λmd=>.chain op ja ma mb md
 |_,_=>none
abbrev UN:Expr->Option (Option Expr×Option Expr×Option Expr)
 |.Slice lo hi st _=>!(lo,hi,st)
 |_=>none
abbrev Iq(a:Expr):Option Expr->Option Expr->Option Expr->Option ME
 |some b,none,none=>c2 r c (.kn true false) a b
 |none,!b,none=>c2 r c (.kn false true) a b
 |_,_,_=>none
abbrev LZ(a b:Expr):Option ME:=((UN b).bind λq=>Iq r c a q.1 q.2.1 q.2.2).orElse λx=>if iU b then((c.Fi a).bind λkvs=>(r.e c b).map λmb=>.prim .mf (.cons (.lit (.tup kvs)) (.cons mb .nil))).orElse λx=>c2 r c .ix a b else none
abbrev Cw(x:Str)(e:Expr):Option ME:=(U6 e).bind λq =>
 if x="list" && q.1="range" && c.blt.contains "list" && c.blt.contains "range" && c.gl "range" then (match q.2 with
  |[a,b]=>if iU a&&iU b then c2 r c .kP a b else none
  | _=>none)
 else none
abbrev b73(x:Str)(e:Expr):@&Expr->Option ME
 |[]=>Cw r c x e
 |_=>none
abbrev HG(x:Str):Option ME:=if P4 x&&c.gl x then((c.fns.lookup x).map λf=>.call f .nil).orElse λy=>(c.cls.lookup x).map λf=>.make x f .nil else none
abbrev HH(x:Str)(e:Expr)(es:@&Expr):Option ME:=if P4 x&&c.gl x then(b73 r c x e es).orElse λy=>(F1 r c (e::es)).bind λms=>((c.fns.lookup x).map λf=>.call f ms).orElse λy=>((c.cls.lookup x).map λf=>.make x f ms).orElse λy=>if c.blt.contains x then(Hg.lookup x).map λp=>.prim p ms else none else none
abbrev Qq(x:Str):@&Expr->Option ME
 |[]=>HG c x
 |e::es=>HH r c x e es
abbrev i4.meths(m:Str):@&(Str×Nat):=(c.pE.filter λy=>decide (y.1=m)).map (·.2)
abbrev HI(o:Expr)(m:Str)(apos pos:Pos)(args:@&Expr):Option ME :=
 if yX o && (apos.endLine == pos.line) && decide (-args < 20) then (r.e c o).bind λmo=>(F1 r c args).bind λms=>if m="index" then (if args.isEmpty then none else !.cK .index mo ms) else if args.isEmpty && (Bk.lookup m).isSome then (Bk.lookup m).map λp=>.cK p mo ms else (match Hq.lookup m with
  |some p=>if args.isEmpty then none else !.cK p mo ms
  | none=>!.cA m (c.meths m) mo ms) else none
abbrev Ha(f:Expr)(args:@&Expr)(jT:@&Keyword)(pos:Pos):Option ME:=if jT.isEmpty then(match f with
 |.Name x _=>Qq r c x args
 |.Attribute o m apos=>HI r c o m apos pos args
 | _=>none) else none
abbrev yH(tg e:Expr):Option ME:=(((U6 e).bind λq =>
  if q.1="range" then (match q.2 with
   |[a]=>if c.gl "range"&&c.blt.contains "range"&&iU a then(r.e c a).map .ij else none
   |[a,b]=>if c.gl "range"&&c.blt.contains "range"&&iU a&&iU b then(r.e c a).bind λma=>(r.e c b).map λmb=>.jk ma mb else none
   | _=>none)
  else if q.1="zip" then (match q.2 with
   |[a,b]=>if c.gl "zip"&&c.blt.contains "zip"&&iU a&&iU b&&J' tg then(r.e c a).bind λma=>(r.e c b).map λmb=>.pF ma mb else none
   | _=>none)
  else none):Option ME).orElse λx=>if iU e then (r.e c e).map .jF else none
abbrev vT(elt:Expr)(gens:@&Comprehension)(sc:Scope):Option ME:=match gens with
 |[#[tg,it,ifs,IV]]=>if c.FR sc&&decide (IV=0)&&iU it then((c.inner sc).tg tg).bind λt=>(yH r c tg it).bind λmi=>(Lc r (c.inner sc) ifs).bind λmc=>(r.e (c.inner sc) elt).map λme=>.comp (c.i3 sc) (frees sc++locals sc).length t mi mc me else none
 |_=>none
abbrev UM:Expr->Option Str
 |.Name x _=>!x
 |_=>none
abbrev Cy(f:Expr)(args:@&Expr)(jT:@&Keyword):Option ME:=(λ(_:CF) (_:i4)=>none) r c
abbrev Lv:Expr->Option (Expr×Expr)
 |.BinOp a .BitOr b _=>!(a,b)
 |_=>none
abbrev Fc:@&Expr->Option Str
 |[.Name x _]=>!x
 |_=>none
abbrev zN(f:Expr)(args:@&Expr)(jT:@&Keyword):Option ME:=match args with
 |[a]=>if jT.isEmpty&&decide (UM f=some "sorted")&&c.gl "sorted"&&c.blt.contains "sorted"&&c.gl "set"&&c.blt.contains "set" then(Lv a).bind λq=>(U6 q.1).bind λu=>(U6 q.2).bind λv=>if decide (u.1="set")&&decide (v.1="set") then(Fc u.2).bind λx=>(Fc v.2).bind λy=>if P4 x&&P4 y&&c.uK x&&c.uK y then(c.idx x).bind λi=>(c.idx y).map λj=>.prim .wF (.cons (.var i) (.cons (.var j) .nil)) else none else none else none
 |_=>none
abbrev JY:Expr->Option (Expr×Str×Pos)
 |.Attribute o m p=>!(o,m,p)
 |_=>none
abbrev Kz:Expr->Option ME
 |.Name x _=>Hb c x
 |.Constant k _ _=>(HR k).map .lit
 |.BinOp a op b _=>c2 r c (.bin op) a b
 |.UnaryOp op a _=>Cv r c op a
 |.Compare a ops bs _=>zq r c a ops bs
 |.BoolOp op vs _=>HQ r c op vs
 |.IfExp t a b _=>(r.t c t).bind λmt=>(r.e c a).bind λma=>(r.e c b).map λmb=>.ite mt ma mb
 |.Tuple es _ _=>(F1 r c es).map (.prim .tup)
 |.List es _=>(F1 r c es).map (.prim .lst)
 |.Subscript a b _=>LZ r c a b
 |.Dict ks vs _=>if ks.isEmpty&&vs.isEmpty then some (.prim .ph .nil) else if decide (-ks<=15) then(BG r c ks vs).map .pj else none
 |.JoinedStr vs _=>if decide (2<=-vs)&&decide (-vs<=40) then(yG r c vs).map (.prim .nA) else none
 |.Attribute o f _=>if yX o then c1 r c (.fld f) o else none
 |.Call f args jT pos=>(Cy r c f args jT).orElse λy=>(zN c f args jT).orElse λy=>Ha r c f args jT pos
 |.ListComp elt gens sc _=>vT r c elt gens sc
 |_=>none
abbrev stepT:Expr->Option ME
 |.UnaryOp op a _=>if op=.Not then(r.t c a).map .eF else none
 |.BoolOp op vs _=>HS r c op vs
 |.Compare a ops bs _=>(zq r c a ops bs).map .fQ
 |e=>if GA e then(r.e c e).map .fQ else none
abbrev Ny(e f:Option Expr):Option (Str×Expr×@&Expr):=if f.isNone then e.bind λe=>(U6 e).bind λq=>q.2.head?.map λa=>(q.1,a,q.2.tail) else none
abbrev i4.Ci(f:Str):@&Str:=(c.pN.filter λy=>decide (y.1=f)).map (·.2)
abbrev AB:@&Expr->Option (Expr×Expr×Expr×Expr)
 |[.Subscript o1 i1 _,.Subscript o2 i2 _]=>!(o1,i1,o2,i2)
 |_=>none
abbrev S6{α:Type}:List α->Option α
 |[x]=>!x
 |_=>none
abbrev KZ:@&Expr->Option (Expr×Expr)
 |[a,.Starred b _]=>!(a,b)
 |_=>none
abbrev Cb(es:@&Expr)(e:Expr):Option MS:=(KZ es).bind λq=>if uv e&&u6 e then(c.slot q.1).bind λi=>(c.slot q.2).bind λj=>(r.e c e).map λm=>.mT i j m else none
abbrev LL(tg e:Expr):Option MS:=match tg with
 |.Name x _=>if c.C6 x then(c.idx x).bind λi=>(r.e c e).map λm=>.set i m else none
 |.Tuple es _ _=>(Cb r c es e).orElse λy=>(AB es).elim (if uv e&&u6 e then(c.slots es).bind λis=>(r.e c e).map λm=>.uL (.many is) m else none) λq=>if u6 e&&iU q.2.1&&iU q.2.2.2 then(r.e c q.1).bind λm1=>(r.e c q.2.1).bind λn1=>(r.e c q.2.2.1).bind λm2=>(r.e c q.2.2.2).bind λn2=>(r.e c e).map λm=>.rB m1 n1 m2 n2 m else none
 |.Subscript o i _=>if iU i&&u6 e then(r.e c o).bind λmo=>(r.e c i).bind λmi=>(r.e c e).map λm=>.fo mo mi m else none
 |.Attribute o f _=>(r.e c o).bind λmo=>(r.e c e).map λm=>.fb f (c.Ci f) mo m
 |_=>none
abbrev toR(e:Expr)(m:ME):ME:=(λ(_:i4)=>m) c
abbrev Nx:ExceptHandler->Option (Str×@&Stmt)
 |.ExceptHandler t n b _=>if n.isNone then t.bind λt=>(asName t).map λy=>(y,b) else none
abbrev Fd:Stmt->Option (Expr×Pos)
 |.Return (!e) p=>!(e,p)
 |_=>none
abbrev JZ:Expr->Option (List Expr×Pos)
 |.List es p=>!(es,p)
 |_=>none
abbrev He:ExceptHandler->Option Str
 |.ExceptHandler t n b _=>t.bind λt=>(asName t).bind λx=>n.bind λz=>(S6 b).bind λs=>(Fd s).bind λq=>(JZ q.1).bind λl=>(S6 l.1).bind λa=>(JY a).bind λo=>(asName o.1).bind λw=>if decide (x="BadText")&&decide (w=z)&&decide (o.2.1="row") then some z else none
abbrev Cc(body:@&Stmt)(hs:@&ExceptHandler):Option MS:=(S6 body).bind λs=>(Fd s).bind λe=>(S6 hs).bind λh=>(He h).bind λz=>if c.row.isSome&&c.gl "BadText"&&decide (c.nm.lookup z=!.local)&&P4 z then(c.idx z).bind λx=>(r.e { c with jD:=false,jS:=false,wr:=true } e.1).map .om else none
abbrev Fe:Stmt->Option Expr
 |.Raise (!.Call (.Name x _) [dG] [] _) (!.Constant .none _ _) _=>if x="BadText" then some dG else none
 |_=>none
abbrev HL:Stmt->Option (Bool×Expr×Pos)
 |.Expr e p=>!(false,e,p)
 |.Return (!e) p=>!(true,e,p)
 |_=>none
abbrev HU(e:Expr):Option (Bool×Nat):=match e with
 |.Name x _=>if c.uK x&&P4 x then(c.idx x).map λi=>(true,i) else none
 |.Constant (.int i) _ _=>if 0<=i then some (false,i.toNat) else none
 |_=>none
abbrev Cd(body:@&Stmt)(hs:@&ExceptHandler):Option MS:=(S6 body).bind λs=>(HL s).bind λe=>(S6 hs).bind λh=>(Nx h).bind λq=>(S6 q.2).bind λs2=>(Fe s2).bind λe2=>if c.row.isSome&&c.gl "BadText"&&u6 e.2.1&&c.exc.contains q.1&&c.gl q.1&&P4 q.1 then(r.e { c with jD:=false,jS:=false,wr:=false } e.2.1).bind λme=>(HU c e2).map λz=>.lS me q.1 e.1 z.1 z.2 else none
abbrev KA:Stmt->Option MS
 |.Expr e _=>if u6 e then(r.e c e).map .expr else none
 | .Assign CH e _=>(match CH with
  |[tg]=>LL r c tg e
  | _=>none)
 | .AugAssign tg op e _=>(match tg with
  |.Attribute o f _=>if decide (op=.Add) then(r.e c o).bind λmo=>(r.e c e).map λm=>.lr f (c.Ci f) mo m else none
  | _=>none)
 |.If t a b _=>(r.t c t).bind λmt=>(C3 r c a).bind λma=>(C3 r c b).map λmb=>.ifs mt ma mb
 |.For tg it body Ay _=>if c.qP&&(Ay.isEmpty&&iU it) then(c.tg tg).bind λt=>(yH r c tg it).bind λmi=>(C3 r c body).map λmb=>.lh t mi mb else none
 | .Return e _=>(match e with
  |some e=>(r.e c e).map λm=>.ret (toR c e m)
  | none=>!.sS)
 |.Pass _=>!.pass
 |.Raise e f _=>(Ny e f).bind λq=>if c.jD&&c.exc.contains q.1&&c.gl q.1&&P4 q.1 then(F1 r c (q.2.1::q.2.2)).map (.raise q.1) else if c.jD&&c.row.isSome&&decide (q.1="BadText")&&c.gl q.1 then(F1 r c (q.2.1::q.2.2)).map .raiser else none
 |.Try body hs el fi _=>if c.jS&&~~~hs.isEmpty&&el.isEmpty&&fi.isEmpty then(Cc r c body hs).orElse λx=>Cd r c body hs else none
 |_=>none
end
abbrev comp:Nat->CF
 |0=>#[λx x=>none,λx x=>none,λx x=>none]
 |n+1=>#[Kz (comp n),stepT (comp n),λc s=>(KA (comp n) c s).orElse λx=>!.expr .no]
def UI(X:Cx)(ex:@&Str):Prop:=∃k C fI fd ps B newId cF ir,X.mg "BadText"=!.ref C/\i9 X.K "BadText" C/\iu "BadText" C fI ir newId X.mg X.base/\ExcBaseFacts B newId cF ir/\O3 X.K C "row" /\
 uj X.prog X.w X.K X.mg X.base (gF X.prog X.w) k fI fd ps (W7 C "row")/\Binds X.K fd ps []/\m4 (k+1) X.A/\PySem.W.exmOne X.K (.ref C) (.ref C)=!true/\∀x C',x∈ex->i9 X.K x C'->PySem.W.exmOne X.K (.ref C') (.ref C)=!false
structure iJ(X:Cx)(c:i4)(P:gu)(Ξ:iX):Prop where
 N:X.N=c.N
 nd:c.N.Nodup
 loc:∀x,c.nm.lookup x=!.local->X.env.scope.names.lookup x=!.local
 Az:∀x,c.nm.lookup x=!.cell->X.env.scope.names.lookup x=!.cell
 EG:∀x,c.nm.lookup x=!.free->X.env.scope.names.lookup x=!.cell\/X.env.scope.names.lookup x=!.free
 JJ:∀x,c.nm.lookup x=!.globalImplicit->X.env.scope.names.lookup x=!.globalImplicit
 cells:∀x,(c.nm.lookup x=!.cell\/c.nm.lookup x=!.free)->∃a,X.env.cells.lookup x=!a
 qP:∀x,c.nm.lookup x=!.cell->X.fn x=true
 calm:X.calm=true
 units:X.A.units+100<cLine
 own:c.qP=true->PassesOwn (model X.prog X.w) X.A X.env X.xe
 mono:k9 P
 con:∀x d,c.con.lookup x=!d->∃v u,X.mg x=!u/\RelV v u/\∀ρ H,d8 X.K ρ H d v
 blt:∀x,c.blt.contains x=true->X.mg x=none
 fns:∀x f,c.fns.lookup x=!f->∃k fa fd ps,pQ X P Ξ.1 k f fa fd ps/\m4 k X.A/\X.mg x=!.ref fa/\PySem.W.keepIn X.K (.ref fa)=true
 cls:∀x f,c.cls.lookup x=!f->∃k C fa fd ps,pQ X P Ξ.1 k f fa fd ps/\m4 (k+1) X.A/\X.mg x=!.ref C/\i9 X.K x C/\Cls X.K C/\Mk X.K C fa
 pE:∀m y f C,(m,y,f)∈c.pE->i9 X.K y C->∃k fa fd ps,Meth X.K C m fa/\pQ X P Ξ.1 k f fa fd ps/\m4 k X.A
 pN:∀f y C,(f,y)∈c.pN->i9 X.K y C->B2 X.K C f
 yw:Ξ.1=c.exc
 pass:Passes (gF X.prog X.w) X Ξ.2
 jD:c.jD=true->AV X Ξ.2/\AU X Ξ.2/\X.ex=[]
 jS:c.jS=true->X.stack=X.env::X.outer/\X.env.frame=!X.env.locals/\W6 X Ξ.2/\X.ex=[]/\zc X Ξ.2
 exc:∀x,c.exc.contains x=true->∃C,X.mg x=!.ref C/\i9 X.K x C/\∃B newId cF bm,OwnCls x C bm newId X.mg X.base/\ExcBaseFacts B newId cF bm
 EK:∀x y C C',c.exc.contains x=true->c.exc.contains y=true->i9 X.K x C->i9 X.K y C'->PySem.W.exmOne X.K (.ref C) (.ref C')=!decide (x=y\/y="MintError")
 yk:∀x kvs,c.gd.lookup x=!kvs->Bz X x kvs
 code:c.qP=true->PySem.W.kdsCode X.K X.env.code=true
 sgn:c.wr=true->X.sg=none
 vo:∀x,c.exc.contains x=true->x.cps.size≠1
 yv:∀y C C',c.exc.contains y=true->i9 X.K "BadText" C->i9 X.K y C'->PySem.W.exmOne X.K (.ref C) (.ref C')=!decide (y="MintError")
 row:c.row.isSome=true->UI X c.exc
def bE8(h:c.idx x=!i):c.N[i]?=!x:=by
 unfold i4.idx at h;rw[lA] at h;let#[h1,h2,_]:=h;rw[av h1,br h2]
set_option tactic.hygienic true in
def iJ.Ca(C:iJ X c P Ξ)(h:c.uK x=true):sy X.env.scope x:=by
 unfold i4.uK at h;split at h
 .rename_i e;show .inl (C.loc x e)
 .rename_i e;show .inr (.inl (C.Az x e))
 .rename_i e;rcases C.EG x e with z|z
  .exact .inr (.inl z)
  .exact .inr (.inr z)
 .cases h
def iJ.A7(C:iJ X c P Ξ)(h:c.gl x=true):Gl X x:=C.JJ x (br h)
def iJ.C6(C:iJ X c P Ξ){x:Str}(h:c.C6 x=true):Loc X.env.scope x/\(X.fn x=true\/X.env.scope.names.lookup x=!.local):=by
 unfold i4.C6 at h;rw[eQ] at h;rcases h with h|h
 .have:=C.loc x (br h);show#[.inl this,.inr this]
 .exact#[.inr (C.Az x (br h)),.inl (C.qP x (br h))]
def iJ.Z6(C:iJ X c P Ξ)(h:c.idx x=!i):X.N[i]?=!x:=by rw[C.N];show bE8 h
def iJ.uQ(C:iJ X c P Ξ)(hw:c.wr=true):X.Nd:=#[by rw[C.N];show C.nd,C.sgn hw]
def O2(h:asName e=!x):∃p,e=.Name x p:=by
 cases e<;>first|(cases h;show#[_,rfl])|cases h
def Pn(h:c.slot e=!i):∃x p,e=.Name x p/\c.C6 x=true/\c.idx x=!i:=by
 let#[x,hx,h2]:=ae.mp h;let#[p,rfl]:=O2 hx;split at h2
 .exact#[x,p,rfl,by assumption,h2]
 .cases h2
def iJ.slots(C:iJ X c P Ξ):∀{es:@&Expr} {is:@&Nat},c.slots es=!is->gD X es is:=by
 intro es
 induction es with
 |nil=>intro is h;cases h;show .nil
 |cons e r ih =>
  intro is h;let#[i,hi,h]:=ae.mp h;let#[is',hs,rfl]:=ag.mp h;let#[x,p,rfl,hl,hx]:=Pn hi;show .cons (C.Z6 hx) (C.C6 hl).1 (C.C6 hl).2 (ih hs)
def orElse_some{α:Type}{a:Option α}{b:Unit->Option α}{m:α}(h:a.orElse b=!m):a=!m\/b Unit.unit=!m:=by
 cases a with
 |none=>show .inr h
 |some x=>show .inl h
def iJ.LV(C:iJ X c P Ξ)(hw:c.wr=true){tg:Expr}{t:MT}(h:c.tg tg=!t):PG X tg (LG X.K t):=by
 rcases orElse_some h with h|h
 .let#[i,hi,rfl]:=ag.mp h;let#[x,p,rfl,hl,hx]:=Pn hi;show bL8 (C.uQ hw) (C.Z6 hx) (C.C6 hl).1 (C.C6 hl).2
 .cases tg<;>first|(cases h;done)|skip
  let#[is,hs,rfl]:=ag.mp (show(c.slots _).map MT.many=some t from h);show Ow C.calm (C.uQ hw) (C.slots hs)
def l8(h:iU e=true):starEach (e::es) env=(false,eval e env)::starEach es env:=by
 cases e<;>first|rfl|cases h
def Gb(h:iU e=true):∀x,foldedSetIterable e env x=pure x:=by
 intro x;cases e<;>first|rfl|cases h
def PN(h:iU e=true):Fy e:=by
 intro o i;cases e<;>first|rfl|cases h
def FP{i:Expr}{tp:Pos}(h:iU i=true):∀v,assign (.Subscript o i tp) env v=(do
      let ov <- holding [v] (eval o env)
      let iv <- holding [v,ov] (eval i env)
      standAt tp
      holding [v,ov,iv] (setItem ov iv v)
      release [v,ov,iv] []):=by
  intro v;cases i<;>first|rfl|cases h
def X2{t:Option Expr}(h:u6 e=true):swapsWith e t n env=pure false:=by
 cases e<;>first|rfl|cases h
def Pa(h:uv e=true):swappedStores [.Tuple es k p] e env=pure none:=by
 cases e<;>first|rfl|cases h
def a71(h:GA e=true):∀whole,isTrue e env whole=(do let v <- whole;standAt e.pos;holding [v] (truthy v)):=by
 intro w;cases e<;>first|rfl|cases h
set_option tactic.hygienic true in
def K0{q:Str×@&Expr}(h:U6 e=!q):∃p pos,e=.Call (.Name q.1 p) q.2 [] pos:=by
 cases e<;>first|(cases h;done)|skip
 rename_i f as jT pos;cases f<;>first|(cases h;done)|skip
 cases jT<;>first|(cases h;done)|skip
 cases h;show#[_,_,rfl]
def OF{l:@&Expr}(h:Fc l=!x):∃p,l=[.Name x p]:=by
 rcases l with _|⟨e,_|⟨_,_⟩⟩
 .cases h
 .cases e<;>first|(cases h;show#[_,rfl])|cases h
 .cases e<;>cases h
set_option tactic.hygienic true in
def Wt{q:Expr×Expr}(h:Lv e=!q):∃p,e=.BinOp q.1 .BitOr q.2 p:=by
 cases e<;>first|(cases h;done)|skip
 rename_i a op b p;cases op<;>first|(cases h;show#[_,rfl])|cases h
def bG9{m:Str}(h:JY e=!(o,m,p)):e=.Attribute o m p:=by
 cases e<;>cases h
 rfl
def YC(h:J' e=true):∃es k p,e=.Tuple es k p:=by
 cases e<;>first|show#[_,_,_,rfl]|cases h
set_option tactic.hygienic true in
def ON{kvs:@&D}(h:c.Fi b=!kvs):∃x p,b=.Name x p/\c.gl x=true/\P4 x=true/\c.gd.lookup x=!kvs:=by
 let#[x,hx,h2]:=ae.mp h;let#[p,rfl]:=O2 hx;split at h2
 .rename_i hc;rw[bC] at hc;show#[x,p,rfl,hc.1,hc.2,h2]
 .cases h2
set_option tactic.hygienic true in
def L8{f:Str}(h:yX o=true):attributeBase o f env (eval o env)=eval o env:=by
 cases o<;>first|rfl|skip
 rename_i f as jT pos;cases f<;>first|rfl|skip
 cases as with
 |nil=>cases h
 |cons=>rfl
def FD{env:Env}:∀(names:@&(Str×NameKind)) (acc:@&(Str×Addr)),(∀y∈names,y.2=.free->∃a,env.cells.lookup y.1=!a)->(∀x a,acc.lookup x=!a->env.cells.lookup x=!a) ->
  ∃ cl,(forIn names acc λ(y:Str × NameKind) (cs:@&(Str × Addr))=>(match y with
   |(name,kind)=>if(kind==NameKind.free)=true then do
     let __do_lift <- cellOf env name
     pure (ForInStep.yield ((name,__do_lift)::cs))
    else pure (ForInStep.yield cs):Sem (ForInStep (List (Str × Addr)))))=pure cl/\(∀ x a,cl.lookup x=!a->env.cells.lookup x=!a)/\(∀ y ∈ names,y.2=.free->∃ a,cl.lookup y.1=!a)/\∀ x a,acc.lookup x=!a->∃ a',cl.lookup x=!a'
 |[],acc,_,h2=>#[acc,rfl,h2,λy hy=>absurd hy #[_],λx a h=>#[a,h]]
 |(n,k)::r,acc,h1,h2=>by
  rw[List.forIn_cons];by_cases hk:k=.free
  .subst hk;let#[a,ha]:=h1 (n,.free) #[_] rfl;let hc:cellOf env n=pure a:=by unfold cellOf;rw[ha]
   let ⟨cl,e,q1,q2,q3⟩:=FD r ((n,a) :: acc) (λy hy=>h1 y (by simp [hy])) (λx b hb=>by
    rw[dz] at hb;cases hx:x==n with
    |true=>simp_all
    | false=>rw [hx] at hb;show h2 x b hb)
   show#[cl,?_,q1,λy hy hf=>?_,λx b hb=>?_]
   .simp only[beq_self_eq_true,if_true,hc];show e
   .rcases aB.mp hy with z|z
    .subst z;show q3 n a #[_]
    .exact q2 y z hf
   .cases hx:x==n with
    |true=>show q3 x a (by rw[dz,hx])
    |false=>show q3 x b (by rw[dz,hx];show hb)
  .let hb:(k==NameKind.free)=false:=by simpa using hk
   let#[cl,e,q1,q2,q3]:=FD r acc (λy hy=>h1 y (by simp[hy])) h2;show#[cl,?_,q1,λy hy hf=>?_,q3]
   .simp only[hb,Bool.false_eq_true,if_false];show e
   .rcases aB.mp hy with z|z
    .simp_all
    .exact q2 y z hf
def a82{P:Program}{w:World}:Passes (gF P w) X (λx x x=>False):=λx x x x x x x h=>by
 let#[_,_,_,_,_,_,_,_,_,z]:=h;show z.elim
def T2{env:Env}:∀{names:@&(Str×NameKind)} {x:Str},names.lookup x=!.globalImplicit ->
  (names.map λ(n,k)=>if(k==NameKind.free&&env.scope.kind==.function&&env.kindOf n==!.cell) then(n,NameKind.cell) else(n,k)).lookup x=!.globalImplicit
 |[],_,h=>by simp at h
 |(n,k)::r,x,h=>by
  let ih:=@T2 env r x;change List.lookup x ((if(k==NameKind.free&&env.scope.kind==.function&&env.kindOf n==!.cell)=true then(n,NameKind.cell) else(n,k))::_)=_;cases hx:x==n with
  |true =>
   simp only[List.lookup_cons,hx] at h;cases h;simp[List.lookup_cons,hx]
  |false =>
   simp only[List.lookup_cons,hx] at h;by_cases hc:(k==NameKind.free&&env.scope.kind==.function&&env.kindOf n==!.cell)=true
   .rw[au hc];simp only[List.lookup_cons,hx];show ih h
   .rw[aq hc];simp only[List.lookup_cons,hx];show ih h
def iJ.comp(C:iJ X c P Ξ){sc:Scope}(h:c.FR sc=true):∃cl,fA X sc (frees sc++locals sc) (c.i3 sc) cl/\∀pi A s H fp,iJ (i5 X pi sc (frees sc++locals sc) cl A s H fp) (c.inner sc) P (zt Ξ.1):=by
 unfold i4.FR at h;simp only[Bool.and_eq_true,decide_eq_true_eq,List.all_eq_true] at h;let#[#[#[#[h1,h2],h3],h4],h5]:=h;let kR:∀x,sc.names.lookup x=!.free->x∈frees sc:=λx hx=>by
  unfold frees;show aI.mpr #[(x,.free),cI.mpr #[aS hx,by simp],rfl]
 let fr:∀x∈frees sc,(∃i,c.idx x=!i)/\sc.names.lookup x=!.free/\(c.nm.lookup x=!.cell\/c.nm.lookup x=!.free):=λx hx=>by
  have:=h5 x hx;rw[dU,eQ] at this;simp only[decide_eq_true_eq] at this;show#[this.1.1,this.1.2,this.2]
 let ua:∀y∈sc.names,y.2=.free->∃a,X.env.cells.lookup y.1=!a:=λy hy hf=>by
  let hm:y.1∈frees sc:=aI.mpr #[y,cI.mpr #[hy,by simp[hf]],rfl];show C.cells y.1 (fr y.1 hm).2.2
 let#[cl,e,q1,q2,_]:=FD sc.names [] ua (λx a h=>by simp at h);let h2:∀y∈sc.names,y.2=.cell->sc.names.lookup y.1=!.cell:=λy hy hl=>by
  have:=h2 y hy;rw[eQ] at this;simp only[Bool.not_eq_true',decide_eq_false_iff_not,decide_eq_true_eq] at this;show this.resolve_left λz=>z hl
 show#[cl,#[h1,h2,λy hy hl=>?_,?_,q1,λx hx=>q2 (x,.free) (aS hx) rfl,h4,λi j jH=>?_,?_],λpi A s H fp=>?_]
 .have:=h3 y hy;rw[eQ] at this;simp only[Bool.not_eq_true',decide_eq_false_iff_not,decide_eq_true_eq] at this;show this.resolve_left λz=>z hl
 .simp only[closureFor];rw[e]
  rfl
 .unfold i4.i3 at jH;rw[aJ] at jH;cases ex:(frees sc)[i]? with
  |none=>rw[ex] at jH;cases jH
  |some x =>
   rw[ex] at jH;let hx:x∈frees sc:=aY ex;let#[#[k,hk],hl,hc]:=fr x hx;let hj:k=j:=by
    have:=aD jH;dsimp only at this;rw[hk] at this;show this
   subst hj;show#[x,?_,C.Z6 hk,hl,?_]
   .rw[aG (aA.mp ex).1];show ex
   .rcases hc with z|z
    .exact .inl (C.Az x z)
    .exact C.EG x z
 .unfold i4.i3;rw[ah,aM];omega
 .refine#[rfl,h4,λx hx=>lookup_relabel_local hx,λx hx=>?_,λx hx=>E7 hx,λx hx=>T2 hx,λx hx=>?_,λx w=>?_,rfl,C.units,(λw=>PassesOwn.never),C.mono,C.con,C.blt,C.fns,C.cls,C.pE,C.pN,C.yw,a82,(λz=>by cases z),(λz=>by cases z),C.exc,C.EK,C.yk,(λz=>by cases z),λw=>rfl,C.vo,C.yv,C.row]
  .exact O4 hx
  .rcases hx with hx|hx
   .exact Mc (.inl hx)
   .exact Mc (.inr (q2 (x,.free) (aS hx) rfl))
  .exact aC ‹_›
def q9(h:P4 x=true):(x==("__debug__":Str))=false/\(x==("__classdict__":Str))=false/\x≠"__name__":=by
 unfold P4 at h;simp only[Bool.and_eq_true,decide_eq_true_eq,beq_iff_eq] at h;show#[h.1.1,h.1.2,h.2]
def Yq{t:String}(h:G'.lookup x=!t):bootBuiltins x=!.type t:=by
 let hm:=aS h;simp only[G',List.mem_cons,List.mem_nil_iff,or_false] at hm;rcases hm with z|z|z|z|z<;>(cases z;first|show zE|show PyProof.Rows.boot_bool|show zD|show uC|show wq|decide +kernel|rfl)
def YD{p:Pr}(hc:X.calm=true)(hu:X.A.units+100<cLine)(h:Hg.lookup x=!p):∃v,((∃id,v=.builtin id)\/∃T,v=.type T)/\bootBuiltins x=!v/\m5 X v (rN X.K p):=by
 let hm:=aS h;simp only[Hg,List.mem_cons,List.mem_nil_iff,or_false] at hm;rcases hm with z|z|z|z|z|z|z|z|z
 .cases z;show#[.builtin "len",.inl #[_,rfl],PySem.boot_len,bS5]
 .cases z;show#[.type "list",.inr #[_,rfl],by first|show wq|decide +kernel,bD7 hc]
 .cases z;show#[.type "tuple",.inr #[_,rfl],by first|show uC|decide +kernel,Yn]
 .cases z;show#[.builtin "isinstance",.inl #[_,rfl],by first|show PyProof.Rows.boot_isinstance|decide +kernel,bE5]
 .cases z;show#[.builtin "all",.inl #[_,rfl],by first|show PyProof.Rows.boot_all|decide +kernel,ZO hc]
 .cases z;show#[.builtin "max",.inl #[_,rfl],by first|show PyProof.Rows.boot_max|decide +kernel,bS0 hc]
 .cases z;show#[.type "int",.inr #[_,rfl],by first|show zE|decide +kernel,bU1]
 .cases z;show#[.type "str",.inr #[_,rfl],by first|show zD|decide +kernel,bK2]
 .cases z;show#[.builtin "any",.inl #[_,rfl],by first|show PyProof.Rows.boot_any|decide +kernel,ZP hc]
def aY7{p:Pr}(h:Bk.lookup x=!p):∃T id,PlainAttrs T/\Slot T x id/\typeOf (.builtin id)=pure (.type "method_descriptor")/\mj X id (rM X.K p) /\
  ∀{d:D} {v:V} {g:G} {ρ:@&Addr} {H:Hp},Rl X.K ρ g H->d8 X.K ρ H d v->mY p d g->qa X.K T v H:=by
 cases h
def Zh{p:Pr}(hu:X.A.units+100<cLine)(h:Hq.lookup x=!p):∃T id,PlainAttrs T/\Slot T x id/\typeOf (.builtin id)=pure (.type "method_descriptor")/\mj X id (rM X.K p) /\
  ∀{d:D} {v:V} {g:G} {ρ:@&Addr} {H:Hp},Rl X.K ρ g H->d8 X.K ρ H d v->mY p d g->qa X.K T v H:=by
 let hm:=aS h;simp only[Hq,List.mem_cons,List.mem_nil_iff,or_false] at hm;rcases hm with z|z|z|z|z
 .cases z;show#[_,_,iR,PySem.F.slot_list_append,PySem.F.type_list_append,Yz,λR r h=>ty_list R r h]
 .cases z;show#[_,_,iR,PySem.F.slot_list_pop,PySem.F.type_list_pop,XD,λR r h=>ty_list R r h]
 .cases z;show#[_,_,wm,PySem.F.slot_str_join,PySem.F.type_str_join,bE2,λR r h=>ty_str R r h]
 .cases z;show#[_,_,wm,PySem.F.slot_str_split,PySem.F.type_str_split,Yg,λR r h=>ty_str R r h]
 .cases z;show#[_,_,iR,PySem.F.slot_list_insert,PySem.F.type_list_insert,aZ1,λR r h=>ty_list R r h]
def Pp{pos:Pos}{env:Env}:∀{es:@&Expr},(∀e∈es,iU e=true)->(backTo pos (starEach es env)).all (λx=>~~~x.1)=true
 |[],_=>rfl
 |e::es,h=>by
  rw[l8 (h e #[_])];let ih:=Pp (pos:=pos) (env:=env) (es:=es) λx hx=>h x (by simp[hx]);unfold backTo at ih ⊢;rw[aQ,kB,ih]
  rfl
def P0{pos:Pos}{env:Env}:∀{es:@&Expr},(∀e∈es,iU e=true)->(backTo pos (starEach es env)).any (·.1)=false
 |[],_=>rfl
 |e::es,h=>by
  rw[l8 (h e #[_])];let ih:=P0 (pos:=pos) (env:=env) (es:=es) λx hx=>h x (by simp[hx]);unfold backTo at ih ⊢;rw[aQ,eT,ih]
  rfl
def Br:∀{es:@&Expr} {m:ME},F1 r c es=!m->∀e∈es,iU e=true:=by
 intro es
 induction es with
 |nil=>intro m _ e he;simp_all
 |cons a es ih =>
  intro m h e he;unfold F1 at h;split at h
  .let#[m1,h1,h]:=ae.mp h;let#[m2,h2,_]:=ag.mp h;rcases aB.mp he with z|z
   .rw[z];assumption
   .exact ih h2 e z
  .cases h
def a20(h:KY a=!x):∃j p,a=.Constant (.str x) j p:=by
 cases a with
 |Constant k j p=>cases k with
  |str y=>cases h;show#[_,_,rfl]
  |_=>cases h
 |_=>cases h
def Wu(h:Lw a=!e):∃p,a=.FormattedValue e (-1) none p:=by
 cases a with
 |FormattedValue v k f p=>cases f with
  |none =>
   let h2:(if k=-1 then some v else none)=!e:=h
   simp_all
  |some _=>cases h
 |_=>cases h
structure sA(P:gu)(r:CF):Prop where
 e:∀X c Ξ,iJ X c P Ξ->∀e m,r.e c e=!m->PE X e (LE X.K Ξ (bh P m))
 t:∀X c Ξ,iJ X c P Ξ->∀e m,r.t c e=!m->PT X e (LT X.K Ξ (fk P m))
 s:∀X c Ξ,iJ X c P Ξ->c.wr=true->∀st m,r.s c st=!m->PS X st (LS X.K Ξ (wpS P m))
section
variable(S:sA P r)(C:iJ X c P Ξ){m:ME}
include S C
def Lb{p:Pr}(h:c1 r c p a=!m):∃ma,PE X a (LE X.K Ξ (bh P ma))/\m=.prim p (.cons ma .nil):=by
 let#[ma,ha,rfl]:=ag.mp h;show#[ma,S.e X c Ξ C _ _ ha,rfl]
def vU{p:Pr}(h:c2 r c p a b=!m):∃ma mb,PE X a (LE X.K Ξ (bh P ma))/\PE X b (LE X.K Ξ (bh P mb))/\m=.prim p (.cons ma (.cons mb .nil)):=by
 let#[ma,ha,h]:=ae.mp h;let#[mb,hb,rfl]:=ag.mp h;show#[ma,mb,S.e X c Ξ C _ _ ha,S.e X c Ξ C _ _ hb,rfl]
set_option tactic.hygienic true in
def uR:∀{es:@&Expr} {m:ME},F1 r c es=!m->PA X es (LA X.K Ξ (gh P m)):=by
 intro es
 induction es with
 |nil=>intro m h;cases h;show yZ C.mono
 |cons a es ih =>
  intro m h;unfold F1 at h;split at h
  .rename_i bI;let#[m1,h1,h]:=ae.mp h;let#[m2,h2,rfl]:=ag.mp h;show K9 C.mono (S.e X c Ξ C _ _ h1) (ih h2) (l8 bI)
  .cases h
def RX:∀{es:@&Expr} {m:ME},yG r c es=!m->∃ts,nP X Ξ P es m ts:=by
 intro es
 induction es with
 |nil=>intro m h;cases h;show#[_,.nil]
 |cons a es ih =>
  intro m h;rcases orElse_some h with h1|h1
  .let#[x,hx,h2]:=ae.mp h1;let#[j,p,rfl]:=a20 hx;split at h2
   .let#[m2,h3,rfl]:=ag.mp h2;let#[ts,F]:=ih h3;show#[_,.lit (by assumption) F]
   .cases h2
  .let#[x,hx,h2]:=ae.mp h1;let#[m1,h3,h4]:=ae.mp h2;let#[m2,h5,rfl]:=ag.mp h4;let#[p,rfl]:=Wu hx;let#[ts,F]:=ih h5;show#[_,.val (S.e X c Ξ C _ _ h3) F]
def RZ:∀{ks:@&(Option Expr)} {vs:@&Expr} {m:ME},BG r c ks vs=!m->∃iY,nQ X Ξ P ks vs m iY:=by
 intro ks
 induction ks with
 |nil=>intro vs m h;cases vs<;>first|(cases h;show#[_,.nil])|cases h
 |cons k ks ih =>
  intro vs m h;cases k<;>first|(cases h;done)|skip
  cases vs<;>first|(cases h;done)|skip
  let#[m1,h1,h]:=ae.mp h;let#[m2,h2,h]:=ae.mp h;let#[m3,h3,rfl]:=ag.mp h;let#[iY,D]:=ih h3;show#[_,.cons (S.e X c Ξ C _ _ h1) (S.e X c Ξ C _ _ h2) D]
def Sa{op:BoolOp}:∀{vs:@&Expr} {m:ME},HQ r c op vs=!m->PE X (.BoolOp op vs pos) (LE X.K Ξ (bh P m)):=by
 intro vs
 induction vs with
 |nil=>intro m h;cases h
 |cons a vs ih =>
  intro m h;cases vs with
  |nil=>show bP0 (S.e X c Ξ C _ _ h)
  |cons b vs =>
   let#[m1,h1,h]:=ae.mp h;let#[m2,h2,rfl]:=ag.mp h;cases op
   .exact bN0 C.mono (S.e X c Ξ C _ _ h1) (ih h2)
   .exact Zn C.mono (S.e X c Ξ C _ _ h1) (ih h2)
def RT{op:BoolOp}:∀{vs:@&Expr} {m:ME},HS r c op vs=!m->PW X (.BoolOp op vs pos) (LT X.K Ξ (fk P m)):=by
 intro vs
 induction vs with
 |nil=>intro m h;cases h
 |cons a vs ih =>
  intro m h;cases vs with
  |nil =>
   cases op
   .exact bA7 (S.t X c Ξ C _ _ h)
   .exact bO2 (S.t X c Ξ C _ _ h)
  |cons b vs =>
   let#[m1,h1,h]:=ae.mp h;let#[m2,h2,rfl]:=ag.mp h;cases op
   .exact bJ9 C.mono (S.t X c Ξ C _ _ h1) (ih h2)
   .exact Zs C.mono (S.t X c Ξ C _ _ h1) (ih h2)
def Vp(h:Lc r c es=!m):nN X es (LT X.K Ξ (fk P m)):=by
 rcases es with _|⟨e,_|⟨_,_⟩⟩
 .cases h;show VZ C.mono
 .exact bA8 (S.t X c Ξ C _ _ h)
 .cases h
def Bu(hw:c.wr=true):∀{IC:@&Stmt} {m:MS},C3 r c IC=!m->jM X IC (LS X.K Ξ (wpS P m)):=by
 intro es
 induction es with
 |nil=>intro m h;cases h;show AO C.mono
 |cons a es ih =>
  intro m h;let#[m1,h1,h]:=ae.mp h;let#[m2,h2,rfl]:=ag.mp h;show Bp C.mono (S.s X c Ξ C hw _ _ h1) (ih h2)
end
def Q3{t:Expr}(h:u6 e=true):swapsWithSole [t] e n env=pure false:=by
 show X2 h
def iJ.Fw(C:iJ X c P Ξ)(hw:c.wr=true)(hex:X.ex=[])(eO:X.stack=X.env::X.outer)(hf:X.env.frame=!X.env.locals)(pi:@&(Addr×Obj))(D:L2.Ends)(hs:@&ExceptHandler){o:Option L2.St}{da:L2.St}{w:Bool}(Dh:∀σ:L2.St,σ.length=-X.N->(∀τ,o=!τ->σ=τ)->-da=σ.length/\∀(i:Nat) v,da[i]?=!!v->σ[i]?=!!v)(ho:w=true->o=none) :
  iJ (A5 X pi (uy X pi D hs) o) { c with jD:=false,jS:=false,wr:=w } P (sx X Ξ.1 D da hs) :=
 #[C.N,C.nd,C.loc,C.Az,C.EG,C.JJ,C.cells,C.qP,C.calm,C.units,(λx=>PassesOwn.looking),C.mono,C.con,C.blt,C.fns,C.cls,C.pE,C.pN,C.yw,Xu (C.sgn hw) hex eO hf Dh (by rintro C od H' ⟨C',e,z⟩;show (by cases e;show z)),(λz=>by cases z),(λz=>by cases z),C.exc,C.EK,C.yk,C.code,ho,C.vo,C.yv,C.row]
def Mu{m:Str}{apos:Pos}(hb:yX o=true)(hl:(apos.endLine==pos.line)=true)(hf:methodCallForm (-args) (backTo pos (starEach args env)) (backToKw pos (keywordEach [] env))=true) :
  eval (.Call (.Attribute o m apos) args [] pos) env=(do
   let ov <- eval o env
   standAt apos.atName
   let (f,first) <- holding [ov] (getMethod ov m (do return (<- importBound o env).getD true))
   callWith pos f first (backTo pos (starEach args env)) (backToKw pos (keywordEach [] env))):=by
 let h1:eval (.Call (.Attribute o m apos) args [] pos) env=(do
   let ov <- attributeBase o m env (eval o env)
   standAt apos.atName
   methodCall o m apos pos env ov (-args + 0) (backTo pos (starEach args env)) (backToKw pos (keywordEach [] env))):=rfl
 rw[h1,L8 hb];let h2:∀ ov,methodCall o m apos pos env ov (-args + 0) (backTo pos (starEach args env)) (backToKw pos (keywordEach [] env))=(do
   let (f,first) <- holding [ov] (getMethod ov m (do return (<- importBound o env).getD true))
   callWith pos f first (backTo pos (starEach args env)) (backToKw pos (keywordEach [] env))):=λov=>by
  unfold methodCall calleeOf methodCallPos
  simp_all
 simp only[h2]
section
variable(S:sA P r)(C:iJ X c P Ξ){d:Expr}{m:ME}
include C
set_option tactic.hygienic true in
def bR7(h:Hb c x=!m):PE X (.Name x pos) (LE X.K Ξ (bh P m)):=by
 unfold Hb at h;split at h
 .rename_i gX;let#[d1,d2,d3]:=q9 gX;split at h
  .rename_i hv;let#[i,hi,rfl]:=ag.mp h;show bM0 (C.Z6 hi) (C.Ca hv) d1 d2
  .split at h
   .rename_i hg;rcases orElse_some h with h|h
    .let#[d,hd,rfl]:=ag.mp h;let#[v,u,hm,r,rr]:=C.con x d hd;show V1 (Bl (C.A7 hg) hm r d1) rr
    .split at h
     .rename_i hb;let#[t,ht,rfl]:=ag.mp h;show V1 (v:=.ty t) (bC1 (C.A7 hg) (C.blt x hb) (Yq ht) rfl d3 d1) λy y=>.ty t
     .cases h
   .cases h
 .cases h
omit C in
def RW{k:Const}{j:Nat}{d:D}(h:HR k=!d):PE X (.Constant k j pos) (LE X.K Ξ (bh P (.lit d))):=by
 cases k<;>first|(cases h;done)|skip
 .cases h;show V1 bP2 λx x=>.aW
 .cases h;show V1 b09 λx x=>.bl _
 .cases h;show V1 PU λx x=>.int _
 .cases h;show V1 PY λx x=>.str _
include S
set_option tactic.hygienic true in
def Vq{op:UnaryOp}(h:Cv r c op a=!m):PE X (.UnaryOp op a pos) (LE X.K Ξ (bh P m)):=by
 unfold Cv at h;split at h
 .rename_i ho;subst ho;let#[ma,ha,rfl]:=ag.mp h;show bM3 C.mono (S.e X c Ξ C _ _ ha)
 .let#[ma,ha,rfl]:=Lb S C h;show Zo C.mono ha
set_option tactic.hygienic true in
def Kp{ops:@&CmpOp}{bs:@&Expr}(h:zq r c a ops bs=!m):PE X (.Compare a ops bs pos) (LE X.K Ξ (bh P m))/\PT X (.Compare a ops bs pos) (LT X.K Ξ (fk P (.fQ m))):=by
 unfold zq at h;split at h
 .rename_i op b;split at h
  .cases h
  .rename_i hm;let hm:behindInMarks op b=false:=by simpa using hm
   rcases orElse_some h with h|h
   .let#[neg,hn,h]:=ae.mp h;let#[kvs,hk,h]:=ae.mp h;let#[ma,ha,rfl]:=ag.mp h;let#[x,p,rfl,hg,hd,hk]:=ON hk;let ho:op=if neg then .NotIn else .In:=by cases op<;>cases hn<;>rfl
    subst ho;show#[bM6 C.mono (C.A7 hg) (q9 hd).1 (C.yk x kvs hk) (S.e X c Ξ C _ _ ha) hm,bK6 C.mono (C.A7 hg) (q9 hd).1 (C.yk x kvs hk) (S.e X c Ξ C _ _ ha) hm]
   .let#[ma,mb,ha,hb,rfl]:=vU S C h;show#[Hx C.mono (Ob (vY C.units op) ha hb hm),bK4 C.mono (Oi (vY C.units op) ha hb hm)]
 .split at h
  .cases h
  .rename_i hm;let#[ma,ha,h]:=ae.mp h;let#[mb,hb,h]:=ae.mp h;let#[md,hd,rfl]:=ag.mp h;show#[XU C.mono C.units (S.e X c Ξ C _ _ ha) (S.e X c Ξ C _ _ hb) (S.e X c Ξ C _ _ hd) (_/hm),Yh C.mono C.units (S.e X c Ξ C _ _ ha) (S.e X c Ξ C _ _ hb) (S.e X c Ξ C _ _ hd) (_/hm)]
 .cases h
def Vn{lo hi st:Option Expr}(h:Iq r c a lo hi st=!m):PE X (.Subscript a (.Slice lo hi st p2) pos) (LE X.K Ξ (bh P m)):=by
 cases lo<;>cases hi<;>cases st<;>first|(cases h;done)|skip
 .let#[ma,mb,ha,hb,rfl]:=vU S C h;show Ya C.mono ha hb
 .let#[ma,mb,ha,hb,rfl]:=vU S C h;show Yb C.mono ha hb
set_option tactic.hygienic true in
def b22(h:LZ r c a b=!m):PE X (.Subscript a b pos) (LE X.K Ξ (bh P m)):=by
 rcases orElse_some h with h|h
 .let#[q,hq,h]:=ae.mp h;let eb:∃p,b=.Slice q.1 q.2.1 q.2.2 p:=by cases b<;>first|(cases hq;show#[_,rfl])|cases hq
  let#[p,rfl]:=eb;show Vn S C h
 .split at h
  .rename_i hb;rcases orElse_some h with h|h
   .let#[kvs,hk,h]:=ae.mp h;let#[mb,kx,rfl]:=ag.mp h;let#[x,p,rfl,hg,hd,hk]:=ON hk;show VI C.mono (C.A7 hg) (q9 hd).1 (C.yk x kvs hk) (S.e X c Ξ C _ _ kx) (PN hb)
   .let#[ma,mb,ha,kx,rfl]:=vU S C h;show Hx C.mono (Kr (b35 C.units) ha kx (PN hb))
  .cases h
set_option tactic.hygienic true in
def Vo{px:Pos}(hg:c.gl x=true)(h:Cw r c x e=!m):PE X (.Call (.Name x px) [e] [] pos) (LE X.K Ξ (bh P m)):=by
 unfold Cw at h;let#[q,hq,h']:=ae.mp h;clear h;let h:=h';clear h';let#[p,pos',rfl]:=K0 hq;let#[y,as]:=q;dsimp only at h ⊢;split at h
 .rename_i hc;simp only[Bool.and_eq_true,decide_eq_true_eq] at hc;let#[#[#[#[rfl,rfl],hl],hr],SW]:=hc;rcases as with _|⟨a,_|⟨b,_|⟨_,_⟩⟩⟩
  .cases h
  .cases h
  .dsimp only at h;split at h
   .rename_i ho;rw[bC] at ho;let#[ma,mb,ha,hb,rfl]:=vU S C h;show XX C.mono C.calm ha hb (C.A7 hg) (C.blt _ hl) (C.A7 SW) (C.blt _ hr) (by rw[l8 ho.1,l8 ho.2];rfl) (l8 ho.2)
   .cases h
  .cases h
 .cases h
set_option tactic.hygienic true in
def bD2{px:Pos}(h:Qq r c x args=!m):PE X (.Call (.Name x px) args [] pos) (LE X.K Ξ (bh P m)):=by
 cases args with
 |nil =>
  let h2:HG c x=!m:=h;unfold HG at h2;split at h2
  .rename_i gX;rw[bC] at gX;rcases orElse_some h2 with h2|h2
   .let#[f,hf,rfl]:=ag.mp h2;let#[k,fa,fd,ps,F,hr,hm,hk]:=C.fns x f hf;show XT C.mono C.pass F hr (C.A7 gX.2) hm hk (q9 gX.1).1
   let#[f,hf,rfl]:=ag.mp h2;let#[k,C',fa,fd,ps,F,hr,hm,hC,jZ,M]:=C.cls x f hf;show XY C.mono C.pass F M hC jZ hr (C.A7 gX.2) hm (q9 gX.1).1
  .cases h2
 |cons e es =>
  let h0:HH r c x e es=!m:=h;clear h;let h:=h0;clear h0;unfold HH at h;split at h
  .rename_i gX;rw[bC] at gX;let#[d1,d2,d3]:=q9 gX.1;rcases orElse_some h with h|h
   .cases es with
    |nil=>show Vo S C gX.2 h
    |cons _ _=>cases h
   .let#[ms,mD,h]:=ae.mp h;let ok:=Br mD;let pa:=uR S C mD;let eO:=l8 (env:=X.env) (es:=es) (ok e #[_]);let gI:=P0 (pos:=pos) (env:=X.env) (es:=es) λz hz=>ok z (by simp[hz]);rcases orElse_some h with h|h
    .let#[f,hf,rfl]:=ag.mp h;let#[k,fa,fd,ps,F,hr,hm,hk]:=C.fns x f hf;show bA1 C.mono C.pass F hr (C.A7 gX.2) hm hk pa d1 eO gI
    .rcases orElse_some h with h|h
     .let#[f,hf,rfl]:=ag.mp h;let#[k,C',fa,fd,ps,F,hr,hm,hC,jZ,M]:=C.cls x f hf;show VJ C.mono C.pass F M hC jZ hr (C.A7 gX.2) hm pa d1 eO gI
     .split at h
      .rename_i hb;let#[p,hp,rfl]:=ag.mp h;let#[v,hv,Ea,hc]:=YD C.calm C.units hp;show bM9 C.mono hv hc (C.A7 gX.2) (C.blt x hb) Ea pa d3 d1 eO gI
      .cases h
  .cases h
omit S in
def OY{m:Str}:Fx X P Ξ.1 m (c.meths m):=λy f C' h hC=>by
 let hm:=aS h;unfold i4.meths at hm;let#[#[m',y',f'],h1,h2]:=aI.mp hm;let#[h3,h4]:=cI.mp h1;cases h2;have:m'=m:=by simpa using h4
 subst this;show C.pE m' y f C' h3 hC
set_option tactic.hygienic true in
def bD3{mt:Str}{apos:Pos}(h:HI r c o mt apos pos args=!m):PE X (.Call (.Attribute o mt apos) args [] pos) (LE X.K Ξ (bh P m)):=by
 unfold HI at h;split at h
 .rename_i hc;simp only[Bool.and_eq_true,decide_eq_true_eq] at hc;let#[#[hb,hl],hn]:=hc;let#[mo,ho,h]:=ae.mp h;let#[ms,mD,h]:=ae.mp h;let ok:=Br mD;let pa:=uR S C mD;let po:=S.e X c Ξ C _ _ ho;let hf:methodCallForm (-args) (backTo pos (starEach args X.env)) (backToKw pos (keywordEach [] X.env))=true:=by
   unfold methodCallForm;rw[Pp ok];have:-args+0<30:=by omega
   show(true&&true&&decide (-args+0<30))=true;rw[aC this]
   rfl
  by_cases xE:mt="index"
  .subst xE;rw[au rfl] at h;cases args with
   |nil=>cases h
   |cons e es =>
    cases h;show XW C.mono C.units po pa (L8 hb) hf hl (l8 (env:=X.env) (es:=es) (ok e #[_])) (P0 (pos:=pos) (env:=X.env) (es:=es) λz hz=>ok z (by simp[hz]))
  rw[aq xE] at h;cases args with
  |nil =>
   cases mD;by_cases h0:(Bk.lookup mt).isSome=true
   .rw[au (by rw[h0];rfl)] at h;let#[p,hp,rfl]:=ag.mp h;let#[T,id,CL,sl,ty,CQ,hk]:=aY7 (X:=X) hp;show XZ C.mono CL sl ty CQ hk po (L8 hb) hl
   rw[aq (by rw[bC];show λz=>h0 z.2)] at h;split at h
   .cases h
   .cases h;show a56 C.mono C.pass (OY C) po (Mu hb hl hf)
  |cons e es =>
   let eO:=l8 (env:=X.env) (es:=es) (ok e #[_]);let gI:=P0 (pos:=pos) (env:=X.env) (es:=es) λz hz=>ok z (by simp[hz]);rw[aq #[_]] at h;split at h
   .rename_i p hp;cases h;let#[T,id,CL,sl,ty,CQ,hk]:=Zh (X:=X) C.units hp;show VL C.mono CL sl ty CQ hk po pa (L8 hb) hf hl eO gI
   .cases h;show X' C.mono C.pass (OY C) po pa eO gI (Mu hb hl hf)
 .cases h
set_option tactic.hygienic true in
def IQ{tg:Expr}(h:yH r c tg e=!m):PI X tg e (LI X.K Ξ (km P m)):=by
 unfold yH at h;rcases orElse_some h with h|h
 .let#[q,hq,h']:=ae.mp h;rename_i h0;clear h h0;let h:=h';clear h';let#[p,pos',rfl]:=K0 hq;let#[y,as]:=q;dsimp only at h ⊢
  .split at h
   .rename_i hy;subst hy;rcases as with _|⟨a,_|⟨b,_|⟨_,_⟩⟩⟩
    .cases h
    .dsimp only at h;split at h
     .rename_i hc;simp only[Bool.and_eq_true] at hc;let#[#[hg,hb],ho]:=hc;let#[ma,ha,rfl]:=ag.mp h;show VR C.mono (S.e X c Ξ C _ _ ha) (C.A7 hg) (C.blt _ hb) (l8 ho)
     .cases h
    .dsimp only at h;split at h
     .rename_i hc;simp only[Bool.and_eq_true] at hc;let#[#[#[hg,hb],ho],jY]:=hc;let#[ma,ha,h]:=ae.mp h;let#[mb,kx,rfl]:=ag.mp h;show VS C.mono (S.e X c Ξ C _ _ ha) (S.e X c Ξ C _ _ kx) (C.A7 hg) (C.blt _ hb) (by rw[l8 ho,l8 jY];rfl) (l8 jY)
     .cases h
    .cases h
   .split at h
    .rename_i hy;subst hy;rcases as with _|⟨a,_|⟨b,_|⟨_,_⟩⟩⟩
     .cases h
     .cases h
     .dsimp only at h;split at h
      .rename_i hc;simp only[Bool.and_eq_true] at hc;let#[#[#[#[hg,hb],ho],jY],ht]:=hc;let#[ma,ha,h]:=ae.mp h;let#[mb,kx,rfl]:=ag.mp h;let#[es,k,tp,rfl]:=YC ht;show bL6 C.mono (S.e X c Ξ C _ _ ha) (S.e X c Ξ C _ _ kx) (C.A7 hg) (C.blt _ hb) (by rw[l8 ho,l8 jY];rfl) (l8 jY)
      .cases h
     .cases h
    .cases h
 .split at h
  .let#[ma,ha,rfl]:=ag.mp h;show bL7 C.mono (S.e X c Ξ C _ _ ha)
  .cases h
set_option tactic.hygienic true in
def NY{elt:Expr}{gens:@&Comprehension}{sc:Scope}(h:vT r c elt gens sc=!m):∃tg it ifs t mi mc me cl,gens=[#[tg,it,ifs,0]]/\m=.comp (c.i3 sc) (frees sc++locals sc).length t mi mc me/\iU it=true /\
  fA X sc (frees sc++locals sc) (c.i3 sc) cl/\PI X tg it (LI X.K Ξ (km P mi))/\(∀pi A s H fp,PG (i5 X pi sc (frees sc++locals sc) cl A s H fp) tg (LG X.K t)) /\
   (∀pi A s H fp,nN (i5 X pi sc (frees sc++locals sc) cl A s H fp) ifs (LT X.K (zt Ξ.1) (fk P mc)))/\(∀pi A s H fp,PE (i5 X pi sc (frees sc++locals sc) cl A s H fp) elt (LE X.K (zt Ξ.1) (bh P me))):=by
 unfold vT at h;rcases gens with _|⟨⟨tg,it,ifs,IV⟩,_|⟨_,_⟩⟩
 .cases h
 .dsimp only at h;split at h
  .rename_i hs;simp only[Bool.and_eq_true,decide_eq_true_eq] at hs;let#[#[hs,rfl],hit]:=hs;let#[t,h1,h]:=ae.mp h;let#[mi,h2,h]:=ae.mp h;let#[mc,h3,h]:=ae.mp h;let#[me,h4,rfl]:=ag.mp h;let#[cl,Sc,I]:=C.comp hs;show#[tg,it,ifs,t,mi,mc,me,cl,rfl,rfl,hit,Sc,IQ S C h2,λpi A s H fp=>(I pi A s H fp).LV rfl h1,λpi A s H fp=>Vp S (I pi A s H fp) h3,λpi A s H fp=>S.e _ _ _ (I pi A s H fp) elt me h4]
  .cases h
 .cases h
omit S in
set_option tactic.hygienic true in
def Vm{f:Expr}{jT:@&Keyword}(h:zN c f args jT=!m):PE X (.Call f args jT pos) (LE X.K Ξ (bh P m)):=by
 unfold zN at h;rcases args with _|⟨a,_|⟨_,_⟩⟩
 .cases h
 .dsimp only at h;split at h
  .rename_i hk;simp only[Bool.and_eq_true,decide_eq_true_eq] at hk;let#[#[#[#[#[hk,hf],tN],hb],SV],Tn]:=hk;cases jT<;>first|(cases hk;done)|skip
   let#[q,hq,h]:=ae.mp h;let#[u,hu,h]:=ae.mp h;let#[v,hv,h]:=ae.mp h;split at h
   .rename_i hs;simp only[Bool.and_eq_true,decide_eq_true_eq] at hs;let#[x,hx,h]:=ae.mp h;let#[y,hy,h]:=ae.mp h;split at h
    .rename_i hw;simp only[Bool.and_eq_true] at hw;let#[#[#[nx,ny],vx],vy]:=hw;let#[i,hi,h]:=ae.mp h;let#[j,hj,rfl]:=ag.mp h;let#[x1,x2,_]:=q9 nx;let#[y1,y2,_]:=q9 ny;cases f<;>first|(cases hf;done)|skip
     cases hf;let#[p,pp,e1]:=K0 hu;let#[p',pp',e2]:=K0 hv;let#[u1,u2]:=u;let#[v1,v2]:=v;dsimp only at hs e1 e2 hx hy;let#[rfl,rfl]:=hs;let#[p1,rfl]:=OF hx;let#[p2,rfl]:=OF hy;let#[p3,rfl]:=Wt hq;rw[e1,e2];show bM2 C.mono C.calm (C.Z6 hi) (C.Z6 hj) (C.Ca vx) (C.Ca vy) x1 x2 y1 y2 (C.A7 tN) (C.blt _ hb) (C.A7 SV) (C.blt _ Tn)
    .cases h
   .cases h
  .cases h
 .cases h
set_option tactic.hygienic true in
def RY:∀e m,Kz r c e=!m->PE X e (LE X.K Ξ (bh P m)):=by
 intro e m h;cases e with
 |Name x p=>show bR7 C h
 |Constant k j p =>
  let#[d,hd,rfl]:=ag.mp (show(HR k).map ME.lit=some m from h);show RW hd
 |BinOp a op b p =>
  let#[ma,mb,ha,hb,rfl]:=vU S C h;show Hx C.mono (Ks (bQ7 op) ha hb)
 |UnaryOp op a p=>show Vq S C h
 |Compare a ops bs p=>show(Kp S C h).1
 |BoolOp op vs p=>show Sa S C h
 |IfExp t a b p =>
  let#[mt,ht,h]:=ae.mp h;let#[ma,ha,h]:=ae.mp h;let#[mb,hb,rfl]:=ag.mp h;show bM5 C.mono (S.t X c Ξ C _ _ ht) (S.e X c Ξ C _ _ ha) (S.e X c Ξ C _ _ hb)
 |Tuple es k p =>
  let#[ma,ha,rfl]:=ag.mp h;show bM1 C.mono (uR S C ha)
 |List es p =>
  let#[ma,ha,rfl]:=ag.mp h;show bM4 C.mono (uR S C ha)
 |Subscript a b p=>show b22 S C h
 |Dict ks vs p =>
  let h2:(if ks.isEmpty&&vs.isEmpty then some (ME.prim .ph .nil) else if decide (-ks<=15) then(BG r c ks vs).map .pj else none)=!m:=h;split at h2
  .rename_i hc;cases ks<;>cases vs<;>first|(cases hc;done)|skip
   cases h2;show bA0
  .rename_i hc;split at h2
   .rename_i hl;let#[ms,hm,rfl]:=ag.mp h2;let#[iY,D]:=RZ S C hm;show bM8 C.mono D (λz=>hc ?_) (br hl);have:=D.len.2;subst z;cases vs<;>first|rfl|cases this
   .cases h2
 |JoinedStr vs p =>
  let h2:(if decide (2<=-vs)&&decide (-vs<=40) then(yG r c vs).map (ME.prim .nA) else none)=!m:=h;split at h2
  .rename_i hc;simp only[Bool.and_eq_true,decide_eq_true_eq] at hc;let#[ms,hm,rfl]:=ag.mp h2;let#[ts,F]:=RX S C hm;rcases vs with _|⟨v1,_|⟨v2,vs⟩⟩
   .simp at hc
   .simp at hc
   .exact VH C.mono F hc.2
  .cases h2
 |Attribute o f p =>
  let h2:(if yX o then c1 r c (.fld f) o else none)=!m:=h;split at h2
  .rename_i hb;let#[ma,ha,rfl]:=Lb S C h2;show bM7 C.mono ha (L8 hb)
  .cases h2
 |Call f args jT pos =>
  let h1:((Cy r c f args jT).orElse λy=>(zN c f args jT).orElse λy=>Ha r c f args jT pos)=!m:=h;rcases orElse_some h1 with h2|h2
  .unfold Cy at h2;cases h2
  clear h h1;rcases orElse_some h2 with h3|h3
  .exact Vm C h3
  clear h2;unfold Ha at h3;split at h3
  .rename_i hk;cases jT<;>first|(cases hk;done)|skip
   cases f with
   |Name x p=>show bD2 S C h3
   |Attribute o a p=>show bD3 S C h3
   |_=>cases h3
  .cases h3
 |ListComp elt gens sc p =>
  let#[tg,it,ifs,t,mi,mc,me,cl,rfl,rfl,hit,Sc,q1,q2,q3,q4]:=NY S C h;show(Od Sc C.calm q1 q2 q3 q4 (Gb hit)).imp λσ H Q h=>OJ C.mono σ H Q h
 |_=>cases h
set_option tactic.hygienic true in
def RU:∀e m,stepT r c e=!m->PT X e (LT X.K Ξ (fk P m)):=by
 intro e m h;let plain:∀{e:Expr} {m:ME},(if GA e then(r.e c e).map ME.fQ else none)=!m->PT X e (LT X.K Ξ (fk P m)):=λ{e m} h=>by
  split at h
  .rename_i hp;let#[ma,ha,rfl]:=ag.mp h;show bK3 C.mono (S.e X c Ξ C _ _ ha) (a71 hp)
  .cases h
 cases e with
 |UnaryOp op a p =>
  let h2:(if op=.Not then(r.t c a).map ME.eF else none)=!m:=h;split at h2
  .rename_i ho;subst ho;let#[ma,ha,rfl]:=ag.mp h2;show bK5 C.mono (S.t X c Ξ C _ _ ha)
  .cases h2
 |BoolOp op vs p=>show(RT S C h).pt
 |Compare a ops bs p =>
  let#[ma,ha,rfl]:=ag.mp (show(zq r c a ops bs).map ME.fQ=some m from h);show(Kp S C ha).2
 |_=>show plain h
end
def C8{α:Type}{l:List α}{x:α}(h:S6 l=!x):l=[x]:=by
 rcases l with _|⟨a,_|⟨_,_⟩⟩<;>cases h
 rfl
def YA{s:Stmt}{q:Bool×Expr×Pos}(h:HL s=!q):(q.1=false/\s=.Expr q.2.1 q.2.2)\/(q.1=true/\s=.Return (!q.2.1) q.2.2):=by
 unfold HL at h;split at h
 .cases h;show .inl #[rfl,rfl]
 .cases h;show .inr #[rfl,rfl]
 .cases h
set_option tactic.hygienic true in
def Wv{s:Stmt}(h:Fe s=!e):∃np cB kc p1 rp,s=.Raise (!.Call (.Name "BadText" np) [e] [] cB) (!.Constant .none kc p1) rp:=by
 unfold Fe at h;split at h
 .split at h
  .rename_i hx;subst hx;cases h;show#[_,_,_,_,_,rfl]
  .cases h
 .cases h
set_option tactic.hygienic true in
def OG{s:Stmt}{q:Expr×Pos}(h:Fd s=!q):s=.Return (!q.1) q.2:=by
 cases s<;>first|(cases h;done)|skip
 rename_i e p;cases e<;>cases h
 rfl
def YB{q:@&Expr×Pos}(h:JZ e=!q):e=.List q.1 q.2:=by
 cases e<;>cases h
 rfl
set_option tactic.hygienic true in
def a19{h:ExceptHandler}(e:He h=!z):∃p p1 p2 p3 p4 p5,h=.ExceptHandler (!(.Name "BadText" p)) (!z) [.Return (!.List [.Attribute (.Name z p1) "row" p2] p3) p4] p5:=by
 let#[t,n,b,p]:=h;unfold He at e;let#[t,rfl,e1]:=ae.mp e;let#[x,h1,e2]:=ae.mp e1;let#[z',rfl,e3]:=ae.mp e2;let#[s,h2,e4]:=ae.mp e3;let#[q,h3,e5]:=ae.mp e4;let#[l,h4,e6]:=ae.mp e5;let#[a,h5,e7]:=ae.mp e6;let#[o,h6,e8]:=ae.mp e7;let#[w,h7,e9]:=ae.mp e8;clear e e1 e2 e3 e4 e5 e6 e7 e8;split at e9
 case isFalse=>cases e9
 rename_i hc;simp only[Bool.and_eq_true,decide_eq_true_eq] at hc;let#[#[rfl,rfl],hr]:=hc;cases e9;let#[p1,rfl]:=O2 h1;have:=C8 h2;subst this;have:=OG h3;subst this;let#[q1,q2]:=q;have:=YB h4;obtain rfl:q1=_:=this;let#[l1,l2]:=l;have:=C8 h5;obtain rfl:l1=_:=this;let#[o1,o2,o3]:=o;have:=bG9 h6;subst this;let#[p2,e0]:=O2 h7;obtain rfl:o1=_:=e0;obtain rfl:o2="row":=hr;show#[_,_,_,_,_,_,rfl]
section
set_option tactic.hygienic true in
def WD(C:iJ X c P Ξ){z:Bool×Nat}(h:HU c e=!z):∃zn,if z.1=true then X.N[z.2]?=!zn/\sy X.env.scope zn/\(zn==("__debug__":Str))=false/\(zn==("__classdict__":Str))=false/\∃q,e=.Name zn q else ∃j q,e=.Constant (.int z.2) j q:=by
 unfold HU at h;split at h
 .rename_i x q;split at h
  .rename_i hc;rw[bC] at hc;let#[i,hi,rfl]:=ag.mp h;show#[x,by rw[au rfl];show#[C.Z6 hi,C.Ca hc.1,(q9 hc.2).1,(q9 hc.2).2.1,q,rfl]]
  .cases h
 .rename_i i j q;split at h
  .rename_i hc;cases h;show#["",by rw[aq (show ¬(false=true) by decide)];show#[j,q,by rw[kl hc]]]
  .cases h
 .cases h
def aP6{e f:Option Expr}{q:Str×Expr×@&Expr}(h:Ny e f=!q):f=none/\∃p p',e=!.Call (.Name q.1 p) (q.2.1::q.2.2) [] p':=by
 cases f with
 |some _=>cases h
 |none =>
  let#[t,rfl,h]:=ae.mp (show e.bind _=some q from h);let#[z,hz,h]:=ae.mp h;let#[p,p',rfl]:=K0 hz;let#[x,as]:=z;cases as with
  |nil=>cases h
  |cons a as=>cases h;show#[rfl,_,_,rfl]
def bK1{o1 i1 o2 i2:Expr}:swappedStores [.Tuple [.Subscript o1 i1 p1,.Subscript o2 i2 p2] k p] e env=pure none:=by
 cases e<;>first|rfl|skip
 show(if _ then _ else _)=_;split
 .rfl
 split
 .rfl
 rfl
def NK(C:iJ X c P Ξ){f:Str}:AA X.K f (c.Ci f):=λy C' h hC=>by
 let#[#[f',y'],h1,h2]:=aI.mp h;let#[h3,h4]:=cI.mp h1;cases h2;have:f'=f:=by simpa using h4
 subst this;show C.pN f' y' C' h3 hC
variable(S:sA P r)(C:iJ X c P Ξ)
include S C
set_option tactic.hygienic true in
def bR6{pt:Pos}(hw:c.wr=true)(h:Cb r c es e=!m):PS X (.Assign [.Tuple es k pt] e pos) (LS X.K Ξ (wpS P m)):=by
 unfold Cb at h;let#[q,hq,h1]:=ae.mp h;clear h;split at h1
 .rename_i hn;rw[bC] at hn;let#[i,hi,h2]:=ae.mp h1;let#[j,hj,h3]:=ae.mp h2;let#[me,he,rfl]:=ag.mp h3;unfold KZ at hq;split at hq
  .cases hq;dsimp only at hi hj;rename_i a b pb;let so:=C.slots (es:=[a,b]) (is:=[i,j]) (by simp[i4.slots,hi,hj]);show Wd C.mono (AL (S.e X c Ξ C _ _ he) (bB5 C.calm (Mx (C.uQ hw) so) (λx x z=>by subst z;cases hi) (λx x z=>by subst z;cases hj)) (Q3 hn.2) (Pa hn.1))
  .cases hq
 .cases h1
set_option tactic.hygienic true in
def b23{tg:Expr}(hw:c.wr=true)(hS:∀e m,r.e c e=!m->u6 e=false->∃elt gens sc p,e=.ListComp elt gens sc p/\∃r',sA P r'/\vT r' c elt gens sc=!m)(hT:∀a b k p m,r.e c (.Tuple [a,b] k p)=!m->∃r' ms,sA P r'/\F1 r' c [a,b]=!ms/\m=.prim .tup ms)(h:LL r c tg e=!m):PS X (.Assign [tg] e pos) (LS X.K Ξ (wpS P m)):=by
 cases tg with
 |Name x px =>
  let h2:(if c.C6 x then(c.idx x).bind λi=>(r.e c e).map λm=>MS.set i m else none)=!m:=h;split at h2
  .rename_i hl;let#[i,hi,h2]:=ae.mp h2;let#[me,he,rfl]:=ag.mp h2;cases hn:u6 e with
   |true=>show Qg C.mono (Qa (C.uQ hw) (C.Z6 hi) (C.C6 hl).1 (S.e X c Ξ C _ _ he) (X2 hn) (C.C6 hl).2)
   |false =>
    let#[elt,gens,sc,p,rfl,r',S',hx]:=hS e me he hn;let#[tg,it,ifs,t,mi,mc,me,cl,rfl,rfl,hit,Sc,q1,q2,q3,q4]:=NY S' C hx;show Qg C.mono ?_;show(aN8 Sc C.calm q1 q2 q3 q4 (Gb hit) (C.uQ hw) (C.Z6 hi) (C.C6 hl).1 (C.C6 hl).2).imp λN σ H h=>OJ C.mono σ H _ h
  .cases h2
 |Tuple es k pt =>
  rcases orElse_some (show((Cb r c es e).orElse λy=>_)=some m from h) with h|h
  .exact bR6 S C hw h
  let h0:((AB es).elim (if uv e&&u6 e then(c.slots es).bind λis=>(r.e c e).map λm=>MS.uL (.many is) m else none) λq=>if u6 e&&iU q.2.1&&iU q.2.2.2 then(r.e c q.1).bind λm1=>(r.e c q.2.1).bind λn1=>(r.e c q.2.2.1).bind λm2=>(r.e c q.2.2.2).bind λn2=>(r.e c e).map λm=>MS.rB m1 n1 m2 n2 m else none)=!m:=h;cases hq:AB es with
  |some q =>
   rw[hq] at h0;dsimp only[Option.elim] at h0;split at h0
   .rename_i hc;simp only[Bool.and_eq_true] at hc;let#[#[hn,k1],k2]:=hc;unfold AB at hq;split at hq
    .cases hq;let#[m1,h1,h0]:=ae.mp h0;let#[n1,h2,h0]:=ae.mp h0;let#[m2,h3,h0]:=ae.mp h0;let#[n2,h4,h0]:=ae.mp h0;let#[me,he,rfl]:=ag.mp h0;show bJ7 C.mono C.calm C.units (S.e X c Ξ C _ _ h1) (S.e X c Ξ C _ _ h2) (S.e X c Ξ C _ _ h3) (S.e X c Ξ C _ _ h4) (S.e X c Ξ C _ _ he) (FP k1) (FP k2) (Q3 hn) bK1
    .cases hq
   .cases h0
  |none =>
  rw[hq] at h0;let h2:(if uv e&&u6 e then(c.slots es).bind λis=>(r.e c e).map λm=>MS.uL (.many is) m else none)=!m:=h0;split at h2
  .rename_i hn;rw[bC] at hn;let#[is,hs,h2]:=ae.mp h2;let#[me,he,rfl]:=ag.mp h2;show bJ6 C.mono (AL (S.e X c Ξ C _ _ he) (Ow C.calm (C.uQ hw) (C.slots hs)) (Q3 hn.2) (Pa hn.1))
  .cases h2
 |Subscript o i pt =>
  let h2:(if iU i&&u6 e then(r.e c o).bind λmo=>(r.e c i).bind λmi=>(r.e c e).map λm=>MS.fo mo mi m else none)=!m:=h;split at h2
  .rename_i hn;rw[bC] at hn;let#[mo,ho,h2]:=ae.mp h2;let#[mi,hi,h2]:=ae.mp h2;let#[me,he,rfl]:=ag.mp h2;show Yl C.mono C.units (S.e X c Ξ C _ _ he) (S.e X c Ξ C _ _ ho) (S.e X c Ξ C _ _ hi) (Q3 hn.2) (FP hn.1)
  .cases h2
 |Attribute o f pt =>
  let#[mo,ho,h]:=ae.mp h;let#[me,he,rfl]:=ag.mp h;show Wa C.mono (NK C) (S.e X c Ξ C _ _ ho) (S.e X c Ξ C _ _ he) (by cases e<;>rfl)
 |_=>cases h
set_option tactic.hygienic true in
def bR5(hw:c.wr=true)(rJ:X.ex=[])(eO:X.stack=X.env::X.outer)(hf:X.env.frame=!X.env.locals)(hh:W6 X Ξ.2){hs:@&ExceptHandler}(h:Cc r c body hs=!m):PS X (.Try body hs [] [] p) (LS X.K Ξ (wpS P m)):=by
 unfold Cc at h;let#[s,h1,g1]:=ae.mp h;let#[e,h2,g2]:=ae.mp g1;let#[hd,h3,g3]:=ae.mp g2;let#[z,h4,g4]:=ae.mp g3;clear h g1 g2 g3;have:=C8 h1;subst this;have:=OG h2;subst this;have:=C8 h3;subst this;let#[p0,p1,p2,p3,p4,p5,rfl]:=a19 h4;split at g4
 case isFalse=>cases g4
 rename_i hc;simp only[Bool.and_eq_true,decide_eq_true_eq] at hc;let#[#[#[hr,hg],hl],hd]:=hc;let#[i,hi,g5]:=ae.mp g4;let#[me,Af,rfl]:=ag.mp g5;let#[k,C',fI,fd,ps,B,nI,iI,bm,hm,hC,O,FB,cl,F,bi,Jc,tQ,hx]:=C.row hr;show Wb C.mono (C.sgn hw) (C.A7 hg) hm hC (λx C1 h1 h2=>hx x C1 (by rw[C.yw] at h1;show h1) h2) tQ cl hh (C.Z6 hi) (by rw[C.N];show C.nd) (C.loc z hl) (q9 hd).1 (q9 hd).2.1 (λpi D=>S.e _ _ _ (C.Fw hw rJ eO hf pi D _ (λσ hl _=>#[by rw[zF,hl],λi v z=>?_]) λy=>rfl) _ _ Af);rw[cX] at z;split at z<;>cases z
set_option tactic.hygienic true in
def bR4(hw:c.wr=true)(rJ:X.ex=[])(eO:X.stack=X.env::X.outer)(hf:X.env.frame=!X.env.locals)(hh:W6 X Ξ.2)(hk:zc X Ξ.2){hs:@&ExceptHandler}(h:Cd r c body hs=!m):PS X (.Try body hs [] [] p) (LS X.K Ξ (wpS P m)):=by
 unfold Cd at h;let#[s,h1,g1]:=ae.mp h;let#[e,h2,g2]:=ae.mp g1;let#[hd,h3,g3]:=ae.mp g2;let#[q,h4,g4]:=ae.mp g3;let#[s2,h5,g5]:=ae.mp g4;let#[e2,h6,g6]:=ae.mp g5;clear h g1 g2 g3 g4 g5;have:=C8 h1;subst this;have:=C8 h3;subst this;let#[t,n,b,p0]:=hd;unfold Nx at h4;cases n with
 |some _=>cases h4
 |none =>
 let#[t,rfl,h4]:=ae.mp (show t.bind _=some q from h4);let#[y,hy,rfl]:=ag.mp h4;let#[py,rfl]:=O2 hy;have:=C8 h5;have:b=[s2]:=this;subst this;let#[np,cB,kc,p1,rp,rfl]:=Wv h6;split at g6
 case isFalse=>cases g6
 rename_i hc;simp only[Bool.and_eq_true] at hc;let#[#[#[#[#[hr,Ah],hn],hex],tN],gX]:=hc;let#[me,Af,g7]:=ae.mp g6;let#[z,hz,rfl]:=ag.mp g7;let#[C',hm,hi,_]:=C.exc y hex;let#[k,CB,fI,fd,ps,B,nI,iI,bm,hmB,TB,O,FB,cl,F,bi,Jc,Tj,tw]:=C.row hr;let#[zn,Sn]:=WD C hz;show Wc (z:=zn) C.mono (C.sgn hw) (C.A7 tN) (q9 gX).1 hm (λx C1 hx h1=>C.EK x y C1 C' (by rw[C.yw] at hx;simpa using hx) hex h1 hi) (C.vo y hex) (λC1 h1=>C.yv y C1 C' hex h1 hi) hh hk eO hf rJ O FB (C.A7 Ah) TB F Jc bi Sn (λpi D σ=>?_);rcases YA h2 with⟨e1,rfl⟩|⟨e1,rfl⟩
 .rw[e1,aq ∅];show Bp (X:=A5 X pi _ (!σ)) C.mono (OB (X:=A5 X pi _ (!σ)) C.mono (S.e _ _ _ (C.Fw hw rJ eO hf pi D _ (λcJ w z=>by cases z σ rfl;show#[rfl,λw w z=>z]) (λz=>by cases z)) _ _ Af) (X2 hn)) (AO (X:=A5 X pi _ (!σ)) C.mono)
 .rw[e1,au rfl];show Bp (X:=A5 X pi _ (!σ)) C.mono (HA (X:=A5 X pi _ (!σ)) C.mono (S.e _ _ _ (C.Fw hw rJ eO hf pi D _ (λcJ w z=>by cases z σ rfl;show#[rfl,λw w z=>z]) (λz=>by cases z)) _ _ Af)) (AO (X:=A5 X pi _ (!σ)) C.mono)
set_option tactic.hygienic true in
def RV(hw:c.wr=true)(hS:∀e m,r.e c e=!m->u6 e=false->∃elt gens sc p,e=.ListComp elt gens sc p/\∃r',sA P r'/\vT r' c elt gens sc=!m)(hT:∀a b k p m,r.e c (.Tuple [a,b] k p)=!m->∃r' ms,sA P r'/\F1 r' c [a,b]=!ms/\m=.prim .tup ms) :
  ∀st m,KA r c st=!m->PS X st (LS X.K Ξ (wpS P m)):=by
 intro st m h;let hP:=C.mono;cases st with
 |AugAssign tg op e p =>
  cases tg with
  |Attribute o f tp =>
   let h2:(if decide (op=Operator.Add) then(r.e c o).bind λmo=>(r.e c e).map λm=>MS.lr f (c.Ci f) mo m else none)=!m:=h;split at h2
   .rename_i ho;obtain rfl:=br ho;let#[mo,ho,h2]:=ae.mp h2;let#[me,he,rfl]:=ag.mp h2;show V' C.mono (NK C) (S.e X c Ξ C _ _ ho) (S.e X c Ξ C _ _ he)
   .cases h2
  |_=>cases h
 |Expr e p =>
  let h2:(if u6 e then(r.e c e).map MS.expr else none)=!m:=h;split at h2
  .rename_i hn;let#[me,he,rfl]:=ag.mp h2;show OB hP (S.e X c Ξ C _ _ he) (X2 hn)
  .cases h2
 |Assign CH e p =>
  rcases CH with _|⟨tg,_|⟨_,_⟩⟩
  .cases h
  .exact b23 S C hw hS hT h
  .cases h
 |If t a b p =>
  let#[mt,ht,h]:=ae.mp h;let#[ma,ha,h]:=ae.mp h;let#[mb,hb,rfl]:=ag.mp h;show Zt hP (S.t X c Ξ C _ _ ht) (Bu S C hw ha) (Bu S C hw hb)
 |For tg it body Ay p =>
  let h2:(if c.qP&&(Ay.isEmpty&&iU it) then(c.tg tg).bind λt=>(yH r c tg it).bind λmi=>(C3 r c body).map λmb=>MS.lh t mi mb else none)=!m:=h;split at h2
  .rename_i hc;rw[bC,bC] at hc;cases Ay<;>first|(cases hc.2.1;done)|skip
   let#[t,h1,h2]:=ae.mp h2;let#[mi,h3,h2]:=ae.mp h2;let#[mb,h4,rfl]:=ag.mp h2;show bJ8 hP (C.own hc.1) C.calm (IQ S C h3) (C.LV hw h1) (Bu S C hw h4) (Gb hc.2.2)
  .cases h2
 |Return e p =>
  cases e with
  |none=>cases h;show(bB1 (X:=X)).imp (by rintro N bV H ⟨σ,g,ρ,s,R,h⟩;show LQ.now h R .aW)
  |some e =>
   let#[me,he,rfl]:=ag.mp (show(r.e c e).map (λm=>MS.ret (toR c e m))=some m from h);show HA hP ?_;show S.e X c Ξ C _ _ he
 |Raise e f p =>
  let#[q,hq,h2]:=ae.mp h;clear h;let#[rfl,px,p2,rfl]:=aP6 hq;let#[x,e,es]:=q;dsimp only at h2 ⊢;split at h2
  .rename_i hc;simp only[Bool.and_eq_true] at hc;let#[ma,ha,rfl]:=ag.mp h2;let ok:=Br ha;let#[C',hm,hi,B,nI,iI,bm,O,FB]:=C.exc x hc.1.1.2;show Yk hP C.calm O FB (C.A7 hc.1.2) (uR S C ha) (C.jD hc.1.1.1).1 (by rw[C.yw];simpa using hc.1.1.2) (C.vo x hc.1.1.2) hi (l8 (ok e #[_])) (P0 λz hz=>ok z (by simp[hz])) (q9 hc.2).1
  .split at h2
   .rename_i hc;simp only[Bool.and_eq_true,decide_eq_true_eq] at hc;let#[ma,ha,rfl]:=ag.mp h2;let ok:=Br ha;let#[k,C',fI,fd,ps,B,nI,iI,bm,hm,hi,O,FB,cl,F,bi,hr,_]:=C.row hc.1.1.2;obtain rfl:x="BadText":=hc.1.2;let#[_,hx,hex]:=C.jD hc.1.1.1;show a47 hP C.calm O FB (C.A7 hc.2) F.ok hr bi (uR S C ha) hx hex hi (l8 (ok e #[_])) (P0 λz hz=>ok z (by simp[hz]))
   .cases h2
 |Try body hs el fi p =>
  let h2:(if c.jS&&~~~hs.isEmpty&&el.isEmpty&&fi.isEmpty then(Cc r c body hs).orElse λy=>Cd r c body hs else none)=!m:=h;split at h2
  .rename_i hc;simp only[Bool.and_eq_true] at hc;let#[#[#[ht,hh],he],hf]:=hc;cases el<;>first|(cases he;done)|skip
   cases fi<;>first|(cases hf;done)|skip
   cases hs<;>first|(cases hh;done)|skip
   let#[eO,hf,Jn,rJ,Sz]:=C.jS ht;rcases orElse_some h2 with h2|h2
   .exact bR5 S C hw rJ eO hf Jn h2
   .exact bR4 S C hw rJ eO hf Jn Sz h2
  .cases h2
 |Pass p=>cases h;show(bB2 (X:=X)).imp (by rintro N bV H ⟨σ,g,ρ,s,R,h⟩;show h ρ H bV (.refl _ _) R s)
 |_=>cases h
end
def aP1{m:ME}(h:(comp (n+1)).e c e=!m)(hn:u6 e=false):∃elt gens sc p,e=.ListComp elt gens sc p/\vT (comp n) c elt gens sc=!m:=by
 cases e<;>first|(cases hn;done)|(cases h;done)|show#[_,_,_,_,rfl,h]
def snd:∀n,(∀k,k<=n->sA P (comp k)):=by
 intro n
 induction n with
 |zero =>
  intro k hk;obtain rfl:=Nat.le_zero.mp hk;show#[λx x x x x x h=>(by cases h),λx x x x x x h=>(by cases h),λx x x x x x x h=>(by cases h)]
 |succ n ih =>
  intro k hk;rcases Nat.lt_or_ge k (n+1) with fz|hge
  .grind
  obtain rfl:k=n+1:=by omega
  let I:=ih n (ak n);show#[λX c Ξ C e m h=>RY I C e m h,λX c Ξ C e m h=>RU I C e m h,λX c Ξ C hw st m h=>?_];rcases orElse_some h with h|h
  rotate_left
  .cases h;show λpi s σ H D I q=>by let#[_,_,_,_,_,z]:=q;show(show False from z).elim
  show RV I C hw (λe m he hn=>?_) (λa b k p m he=>?_) st m h
  .cases n with
   |zero=>cases he
   |succ n =>
    let#[elt,gens,sc,p,rfl,hx]:=aP1 he hn;show#[_,_,_,_,rfl,comp n,ih n (),hx]
  .cases n with
   |zero=>cases he
   |succ n =>
    let#[ms,hm,rfl]:=ag.mp (show(F1 (comp n) c [a,b]).map (ME.prim .tup)=some m from he);show#[comp n,ms,ih n (),hm,rfl]
structure rm where
 nm:Str
 qn:Str
 N:@&Str
 ps:@&Str
 st:Stmt
def i4.at(c:i4)(d:rm):i4:={ c with N:=d.N,nm:=(i0 d.st).names,qP:=true,jD:=true,jS:=true,wr:=true }
structure ka(K:PySem.W.Frag)(c:i4)(d:rm)(m:ba)(f:Addr)(fd:FuncData):Prop where
 fn:pz K d.nm d.qn d.st f fd
 bi:Binds K fd d.ps []
 sc:gf d.N d.ps (i0 d.st)
 co:C3 (comp 60) (c.at d) (j8 d.st)=!m.body
 ar:m.ar=-d.ps
 nn:m.n=-d.N
structure pw(w:World)(K:PySem.W.Frag)(mg:Str->Option Value)(c:i4)(T:Nat->Option ba):Prop where
 fns:∀x i,c.fns.lookup x=!i->∃d m f fd,T i=!m/\ka K c d m f fd/\mg x=!.ref f
 cls:∀x i,c.cls.lookup x=!i->∃C d m f fd,T i=!m/\ka K c d m f fd/\mg x=!.ref C/\i9 K x C/\Cls K C/\Mk K C f
 pE:∀x y i C,(x,y,i)∈c.pE->i9 K y C->∃d m f fd,T i=!m/\ka K c d m f fd/\Meth K C x f
 pN:∀f y C,(f,y)∈c.pN->i9 K y C->B2 K C f
 con:∀x d,c.con.lookup x=!d->∃v u,mg x=!u/\RelV v u/\∀ρ H,d8 K ρ H d v
 blt:∀x,c.blt.contains x=true->mg x=none
 EL:∀x,c.exc.contains x=true->∃C,mg x=!.ref C/\i9 K x C/\∀base:Heap,K.In base->base.Ns mainGlobals mg->∃B newId cF bm,OwnCls x C bm newId mg base/\ExcBaseFacts B newId cF bm
 EJ:∀x y C C',c.exc.contains x=true->c.exc.contains y=true->i9 K x C->i9 K y C'->PySem.W.exmOne K (.ref C) (.ref C')=!decide (x=y\/y="MintError")
 vo:∀x,c.exc.contains x=true->x.cps.size≠1
 yv:∀y C C',c.exc.contains y=true->i9 K "BadText" C->i9 K y C'->PySem.W.exmOne K (.ref C) (.ref C')=!decide (y="MintError")
 row:c.row.isSome=true->∃(C fI:Addr) (fd:FuncData) (qn:Str) (st:Stmt),mg "BadText"=!.ref C/\i9 K "BadText" C/\(∀base:Heap,K.In base->base.Ns mainGlobals mg->∃B newId cF ir,iu "BadText" C fI ir newId mg base/\ExcBaseFacts B newId cF ir)/\O3 K C "row" /\
  pz K "__init__" qn st fI fd/\gf ["self","row"] ["self","row"] (i0 st)/\zm (j8 st)=!(("self":Str),("row":Str),("row":Str))/\((i0 st).names.lookup ("self":Str)=!.local/\(i0 st).names.lookup ("row":Str)=!.local)/\Binds K fd ["self","row"] [] /\
  PySem.W.exmOne K (.ref C) (.ref C)=!true/\∀x C',x∈c.exc->i9 K x C'->PySem.W.exmOne K (.ref C') (.ref C)=!false
 tV:∀x kvs,c.gd.lookup x=!kvs->∃A vs,mg x=!.ref A/\yF K w.params A vs/\sf K kvs vs
section
variable{Pg:Program}{w:World}{K:PySem.W.Frag}{mg:Str->Option Value}{base:Heap}{T:Nat->Option ba}
set_option tactic.hygienic true in
def bT4{q:Str}(h:PySem.W.codeIn K cd q=true):PySem.W.kdsCode K cd=true:=by
 unfold PySem.W.codeIn at h;unfold PySem.W.kdsCode;split at h
 .dsimp only;split at h
  .rename_i e;rw[e]
  .cases h
 .cases h
def bC2:Passes (gF Pg w) (P8 (gF Pg w) Pg w K mg base N qual scope f cd A outer s H E) E:=λpi σ H1 s1 e s' I h=>by
 let#[C,od,H',J,fl,dc,hE]:=I.flew h;show aJ7 J fl (λb o q=>I.base.there b o q (by intro z;cases z)) rfl rfl rfl dc hE
def XM:AV (P8 (gF Pg w) Pg w K mg base N qual scope f cd A outer s H E) E:=λpi σ H1 s1 h' ea C vs I hm hE =>
 aZ2 I hm rfl rfl rfl hE
def XJ:AU (P8 (gF Pg w) Pg w K mg base N qual scope f cd A outer s H E) E:=λpi σ H1 s1 ea C t od a2 a3 a4 I ho he hn h0 hE =>
 aZ3 I ho he hn h0 rfl rfl rfl hE
def bE9:W6 (P8 (gF Pg w) Pg w K mg base N qual scope f cd A outer s H E) E:=λpi σ H1 H2 s1 s2 B ea C od a0 I l hh dc hE =>
 leave_held I l hh rfl rfl rfl dc hE
def XN:zc (P8 (gF Pg w) Pg w K mg base N qual scope f cd A outer s H E) E:=λpi σ H1 s1 h6 B ea C od a0 I my sl hh dc hE =>
 aO4 I my sl hh rfl rfl rfl dc hE
def FC{m:ba}(hT:T i=!m){ds:@&D}{g:G}{Q:KD}{E:KX}(h:c9 T k i ds g Q E):-ds=m.ar:=by
 cases k with
 |zero=>show h.elim
 |succ k =>
  let#[m',e,h,_]:=h
  simp_all
def ZN(lU:K.In base)(rZ:base.Ns mainGlobals mg)(A:pw w K mg c T):∀(k i:Nat) d m f fd,T i=!m->ka K c d m f fd->gK Pg w K mg base (gF Pg w) (2*k+2) f fd d.ps (rE c.exc K (-d.ps) (c9 T k i)):=by
 intro k
 induction k with
 |zero =>
  intro i d m f fd hm O;show#[λvs H Q E h=>h.1,λA outer s H args us vs Q E v v v v h=>?_];let#[_,_,_,_,_,_,q]:=h;show q.elim
 |succ k ih =>
  intro i d m f fd hm O;let#[oc,od,kV,doc,pm,an,fc,ct,jE,rfl,lk,jX]:=O.fn.ex;show b48 (k:=2*k+3) lk jX O.sc (λvs H Q E h=>h.1) (λA0 outer s H vs Q E hr h=>?_);let#[hl,xs,g,ρ,rs,R,q]:=h;let C:iJ (P8 (gF Pg w) Pg w K mg base d.N d.qn (i0 d.st) f fc A0 outer s H E) (c.at d) (c9 T k) (c.exc,E):=by
   show#[rfl,O.sc.nd,λx h=>h,λx h=>h,λx h=>.inr h,λx h=>h,λx h=>?_,λv v=>rfl,rfl,?_,(λv=>PassesOwn.leaving),d9 T k,A.con,A.blt,λx j hj=>?_,λx j hj=>?_,λx y j C' hj hC=>?_,A.pN,rfl,bC2,λv=>#[XM,XJ,rfl],λv=>#[rfl,rfl,bE9,rfl,XN],λx hx=>?_,A.EJ,A.tV,λv=>bT4 jX,λv=>rfl,A.vo,A.yv,λhx=>?_]
   .rcases h with h|h
    .exact FW h
    .exact absurd rfl (O.sc.ot _ (aS h))
   .have:=hr.un;show(A0.deeper _).units+100<cLine;omega
   .let#[d',m',f',pO,hT,O',hmg]:=A.fns x j hj;show#[2*k+2,f',pO,d'.ps,#[ih j d' m' f' pO hT O',O'.bi,λlq g' Q' E' h'=>(FC hT h').trans O'.ar],hr.mono (),hmg,O'.fn.kp]
   .let#[C',d',m',f',pO,hT,O',hmg,hC,jZ,M]:=A.cls x j hj;show#[2*k+2,C',f',pO,d'.ps,#[ih j d' m' f' pO hT O',O'.bi,λlq g' Q' E' h'=>(FC hT h').trans O'.ar],hr,hmg,hC,jZ,M]
   .let#[d',m',f',pO,hT,O',M]:=A.pE x y j C' hj hC;show#[2*k+2,f',pO,d'.ps,M,#[ih j d' m' f' pO hT O',O'.bi,λlq g' Q' E' h'=>(FC hT h').trans O'.ar],hr.mono ()]
   .let#[C,h1,h2,h3]:=A.EL x hx;show#[C,h1,h2,h3 base lU rZ]
   .let#[C,fI,pO,qn,st,h1,h2,h3,h4,h5,h6,h7,h8,h9,JI,EF]:=A.row hx;let#[B,nI,iI,bm,O',FB]:=h3 base lU rZ;show#[1,C,fI,pO,_,B,nI,iI,bm,h1,h2,O',FB,h4,bE6 (k:=0) h5 h6 h7 h8 ∅ h4,h9,hr.mono (),JI,EF]
  show#[_,Bu (snd (P:=c9 T k) 60 60 (ak _)) C rfl O.co,?_];let#[m',e,q1,q]:=q;rw[hm] at e;cases e;show#[d5 m xs,g,ρ,?_,R,wpS_mono (d9 T k) m.body #[λv g'=>LQ K ρ H Q .aW g',LQ K ρ H Q,λv v=>False,λv v=>False] _ _ _ _ _ #[λσ g' h bY H' eV e R' s'=>h bY H' _ e R' .aW,λd g' h=>h,λv v h=>h.elim,λv v h=>h.elim] (λv v z=>z) q];have:=n4.start (n:=-d.N) rs;unfold d5 L2.start;rw[O.nn];show this
def bS9{L k0:Nat}{a:Addr}{ns:@&Int}(hO:Cf H)(hS:gU K H a (ns.map V.int))(h:c9 T k0 L [.ref 0] [.qO (ns.map .int)] (λd x=>d=.bl true) nO) :
  rE exc K 1 (c9 T k0 L) [.ref a] H (λv x=>v=.bl true) λx x x=>False:=by
 show#[rfl,[.ref 0],[.qO (ns.map .int)],[a],.cons (.ref rfl) .nil,#[rfl,λi o b h1 h2=>?_,λi j l m b h1 h2 m1=>?_],d9 T k0 _ _ _ _ _ _ _ (λd g' e bY H' v x x r=>?_) (λx x z=>z.elim) h]
 .cases i with
  |zero =>
   cases h1;cases h2;show#[_,?_,b0.ofInts ns];rcases hS with(z|⟨o,z⟩)|z
   .rcases hO a with q|⟨o,xs,q⟩
    .simp_all
    simp_all
   .exact .inl #[o,z]
   .exact .inr z
  |succ i=>simp at h1
 .cases i with
  |zero=>cases h1;cases m1
  |succ i=>simp at h1
 .subst e;cases r
  rfl
end
end M
namespace M
open PySem L2
variable{P:gu}{σ:S}{g:G}{Q:KD}{E:KX}{N:Ends}{a i j n:Nat}{b:Bool}{c x f:Str}{o cond elt:ME}{y d v:D}{cs:@&Str}{m l:@&D}{A B:Prop}{kg:G->Prop}{i3:@&Nat}{R:IK->G->Prop}
section
variable{a b c:ME}{x y:MS}{p:Pr}
def J7(h:N.nx σ g):wpS P .pass N σ g E:=h
def B6(h:wpS P x #[λlR g1=>wpS P y N lR g1 E,N.rt,N.bk,N.ct] σ g E):wpS P (.seq x y) N σ g E:=h
def Qn(h:wpS P x N σ g E):wpS P (.seq x .pass) N σ g E:=h
def bI2(h:bh P a σ g (λx g1=>N.nx σ g1) E):wpS P (.expr a) N σ g E:=h
def KP(h:bh P a σ g (λx g1=>N.nx (σ.set i (!x)) g1) E):wpS P (.set i a) N σ g E:=h
def bH5(h:bh P a σ g (λv g1=>∃a x l,v=.ref a/\f6 g1 a=!(x::l)/\N.nx ((σ.set i (!x)).set j (!.ref (-g1))) (g1++[.lst l])) E):wpS P (.mT i j a) N σ g E:=h
def Wq{i:ME}(h:bh P a σ g (λx g1=>bh P o σ g1 (λy g2=>bh P i σ g2 (λz g3=>U9 y z x g3 λg4=>N.nx σ g4) E) E) E):wpS P (.fo o i a) N σ g E:=h
def bH8(h:bh P a σ g (λx g1=>bh P o σ g1 (λy g2=>yN f cs y x g2 λg3=>N.nx σ g3) E) E):wpS P (.fb f cs o a) N σ g E:=h
def Ql(h:bh P o σ g (λy g1=>∃a' c fs x,y=.ref a'/\g1[a']?=!.ins c fs/\c∈cs/\fs.lookup f=!x/\bh P a σ g1 (λz g3=>cC .iadd [x,z] g3 λw g4=>∃jK,g4[a']?=!.ins c jK/\-jK<100/\N.nx σ (g4.set a' (.ins c (x8 f w jK)))) E) E):wpS P (.lr f cs o a) N σ g E:=h
def KN(h:fk P c σ g (λt g1=>if t=true then wpS P x N σ g1 E else wpS P y N σ g1 E) E):wpS P (.ifs c x y) N σ g E:=h
def K2(h:bh P a σ g N.rt E):wpS P (.ret a) N σ g E:=h
def Wo{x:Str}(h:gh P a σ g (λvs g1=>-vs<=1000/\E #[x] g1) E):wpS P (.raise x a) N σ g E:=h
def Qo{y:Str}{rt iv:Bool}(h:bh P a σ g (λd g1=>if rt=true then N.rt d g1 else N.nx σ g1) λx g1=>x.cls.cps.size≠1/\if x.cls=y\/y="MintError" then ∃n:Nat,(if iv=true then σ[i]?=some (!.int n) else i=n)/\E (J1 n) g1 else E x g1):wpS P (.lS a y rt iv i) N σ g E:=h
def w_var(e:σ[i]?=!!d)(h:Q d g):bh P (.var i) σ g Q E:=by show#[d,e,h]
def w_lit(h:Q d g):bh P (.lit d) σ g Q E:=h
def bH9(h:gh P a σ g (λxs g1=>cC p xs g1 Q) E):bh P (.prim p a) σ g Q E:=h
def b74(h:cC p [] g Q):bh P (.prim p .nil) σ g Q E:=by show h
def By(h:bh P a σ g (λx g1=>cC p [x] g1 Q) E):bh P (.prim p (.cons a .nil)) σ g Q E:=by show h
def vH(h:bh P a σ g (λx g1=>bh P b σ g1 (λy g2=>cC p [x,y] g2 Q) E) E):bh P (.prim p (.cons a (.cons b .nil))) σ g Q E:=by show h
def Wm{o1 o2:CmpOp}(h:bh P a σ g (λx g1=>bh P b σ g1 (λy g2=>cC (.cmp o1) [x,y] g2 λz g3=>∃t,z=.bl t/\if t=true then bh P c σ g3 (λw g4=>cC (.cmp o2) [y,w] g4 Q) E else Q (.bl false) g3) E) E):bh P (.chain o1 o2 a b c) σ g Q E:=h
def w_and(h:bh P a σ g (λx g1=>∃t,x=.bl t/\if t=true then bh P b σ g1 Q E else Q (.bl false) g1) E):bh P (.fU a b) σ g Q E:=h
def w_not(h:bh P a σ g (λx g1=>∃t,x=.bl t/\Q (.bl (~~~t)) g1) E):bh P (.eF a) σ g Q E:=h
def w_ite(h:fk P c σ g (λt g1=>if t=true then bh P a σ g1 Q E else bh P b σ g1 Q E) E):bh P (.ite c a b) σ g Q E:=h
def Qm{f:Nat}(h:gh P a σ g (λxs g1=>P f xs g1 Q E) E):bh P (.call f a) σ g Q E:=h
def bI1{f:Nat}{c:Str}(h:gh P a σ g (λxs g1=>P f (.ref (-g1)::xs) (g1++[.ins c []]) (λd g2=>d=.aW/\Q (.ref (-g1)) g2) E) E):bh P (.make c f a) σ g Q E:=h
def Wn{m:Str}{cs:@&(Str×Nat)}(h:bh P o σ g (λx g1=>∃a' c fs f,x=.ref a'/\g1[a']?=!.ins c fs/\fs.lookup m=none/\cs.lookup c=!f/\gh P a σ g1 (λxs g2=>P f (x::xs) g2 Q E) E) E):bh P (.cA m cs o a) σ g Q E:=h
def bI0(h:bh P o σ g (λx g1=>mY p x g1/\gh P a σ g1 (λxs g2=>cC p (x::xs) g2 Q) E) E):bh P (.cK p o a) σ g Q E:=h
def KJ(h:gh P a σ (g++[.du []]) (λxs g1=>∃kvs,vD xs []=!kvs/\-xs<=30/\g1[(-g)]?=!.du []/\Q (.ref (-g)) (g1.set (-g) (.du kvs))) E):bh P (.pj a) σ g Q E:=h
def KO{Q:@&D->G->Prop}(h:Q [] g):gh P .nil σ g Q E:=h
def za{Q:@&D->G->Prop}(h:bh P a σ g (λx g1=>gh P b σ g1 (λxs g2=>Q (x::xs) g2) E) E):gh P (.cons a b) σ g Q E:=h
def bH7{Q:Bool->G->Prop}(h:fk P a σ g (λt g1=>if t=true then fk P b σ g1 Q E else Q false g1) E):fk P (.fU a b) σ g Q E:=h
def ZI{Q:Bool->G->Prop}(h:fk P a σ g (λt g1=>if t=true then Q true g1 else fk P b σ g1 Q E) E):fk P (.gW a b) σ g Q E:=h
def bH6{Q:Bool->G->Prop}(h:fk P a σ g (λt g1=>Q (~~~t) g1) E):fk P (.eF a) σ g Q E:=h
def KR{Q:Bool->G->Prop}(h:Q true g):fk P .no σ g Q E:=h
def KS{Q:Bool->G->Prop}(h:bh P a σ g (λx g1=>ui g1 x λb=>Q b g1) E):fk P (.fQ a) σ g Q E:=h
end
section
variable{i j:Int}{kb:Bool->Prop}{t s:Bool}
def b71(h:Q (.int (i+j)) g):cC (.bin .Add) [.int i,.int j] g Q:=#[_,_,.inl #[i,j,_,rfl,rfl,rfl,rfl],h]
def b70(h:Q (.int (i-j)) g):cC (.bin .Sub) [.int i,.int j] g Q:=#[_,_,.inl #[i,j,_,rfl,rfl,rfl,rfl],h]
def vK(c:ub i j)(h:Q (.int (i*j)) g):cC (.bin .Mult) [.int i,.int j] g Q:=#[_,_,.inl #[i,j,_,rfl,#[c,rfl],rfl,rfl],h]
def Y4(c:0<j)(h:Q (.int (i % j)) g):cC (.bin .Mod) [.int i,.int j] g Q:=#[_,_,.inl #[i,j,_,rfl,#[c,rfl],rfl,rfl],h]
def JU(c:EW i j)(h:Q (.int (i / j)) g):cC (.bin .FloorDiv) [.int i,.int j] g Q:=#[_,_,.inl #[i,j,_,rfl,#[c,rfl],rfl,rfl],h]
def BC(c:qT i j)(h:Q (.int (i ^ j.toNat)) g):cC (.bin .Pow) [.int i,.int j] g Q:=#[_,_,.inl #[i,j,_,rfl,#[c,rfl],rfl,rfl],h]
def BE(hl:-l+-m<=100000)(h:Q (.tup (l++m)) g):cC (.bin .Add) [.tup l,.tup m] g Q:=#[_,_,.inr (.inl #[rfl,.inl #[l,m,rfl,hl,rfl,rfl]]),h]
def uq{y:Str}(hl:-x+-y<=100000)(h:Q (.str (x++y)) g):cC (.bin .Add) [.str x,.str y] g Q:=#[_,_,.inr (.inl #[rfl,.inr (.inr #[x,y,rfl,hl,rfl,rfl])]),h]
def BD{i j:Nat}(hi:g[i]?=!.lst l)(hj:g[j]?=!.lst m)(hl:-l+-m<=100000)(h:Q (.ref (-g)) (g++[.lst (l++m)])):cC (.bin .Add) [.ref i,.ref j] g Q:=#[_,_,.inr (.inl #[rfl,.inr (.inl #[i,j,l,m,rfl,hi,hj,hl,rfl,rfl])]),h]
def Ka{i:Nat}{n:Int}(hi:g[i]?=!.lst l)(h1:-(2 ^ 62)<=n)(h2:n<2 ^ 62)(hl:-l*n.toNat<=100000)(h:Q (.ref (-g)) (g++[.lst (List.replicate n.toNat l).flatten])):cC (.bin .Mult) [.ref i,.int n] g Q:=#[_,_,.inr (.inr (.inr #[rfl,.inl #[i,l,n,rfl,hi,h1,h2,hl,rfl,rfl]])),h]
def ZQ{n:Int}(eX:l≠[])(h1:1<=n)(h2:n<2 ^ 62)(hl:-l*n.toNat<=100000)(h:Q (.tup (List.replicate n.toNat l).flatten) g):cC (.bin .Mult) [.tup l,.int n] g Q:=#[_,_,.inr (.inr (.inr #[rfl,.inr #[l,n,rfl,eX,h1,h2,hl,rfl,rfl]])),h]
def bG6(h:Q (.str Str.empty) g):cC (.bin .Mult) [.str x,.int 0] g Q:=#[_,_,.inr (.inr (.inl #[rfl,x,0,rfl,.inl #[rfl,rfl],rfl])),h]
def bG5(h:Q (.str x) g):cC (.bin .Mult) [.str x,.int 1] g Q:=#[_,_,.inr (.inr (.inl #[rfl,x,1,rfl,.inr #[rfl,rfl],rfl])),h]
def ZH(h:Q (.int (-(i))) g):cC (.un .USub) [.int i] g Q:=#[_,_,#[rfl,i,rfl,rfl,rfl],h]
def T1{op:CmpOp}{x:D}(hb:Lx g x y b op)(h:Q (.bl b) g):cC (.cmp op) [x,y] g Q:=#[_,_,#[x,y,b,rfl,hb,rfl,rfl],h]
def US(h:Q (.bl (decide (i<j))) g):cC (.cmp .Lt) [.int i,.int j] g Q:=T1 #[i,j,rfl,rfl,rfl] h
def UR(h:Q (.bl (decide (i<=j))) g):cC (.cmp .LtE) [.int i,.int j] g Q:=T1 #[i,j,rfl,rfl,rfl] h
def UQ(h:Q (.bl (decide (j<i))) g):cC (.cmp .Gt) [.int i,.int j] g Q:=T1 #[i,j,rfl,rfl,rfl] h
def UP(h:Q (.bl (decide (j<=i))) g):cC (.cmp .GtE) [.int i,.int j] g Q:=T1 #[i,j,rfl,rfl,rfl] h
def Fg{x:D}(h:yz g x y λb=>Q (.bl b) g):cC (.cmp .Eq) [x,y] g Q:=let ⟨_,hb,h⟩:=h;T1 hb h
def Fh{x:D}(h:yz g x y λb=>Q (.bl (~~~b)) g):cC (.cmp .NotEq) [x,y] g Q:=let ⟨b,hb,h⟩:=h;T1 (show yy g x y (~~~(~~~b)) from by simp_all) h
def Z7{x:D}(h:uT g x y λb=>Q (.bl b) g):cC (.cmp .In) [x,y] g Q:=let ⟨_,hb,h⟩:=h;T1 (.inl hb) h
def b55{i j:Str}(h:Q (.bl (~~~(Builtin.Str.occurrences j i 0 (-j) 1).isEmpty)) g):cC (.cmp .In) [.str i,.str j] g Q:=T1 (.inr (.inr #[i,j,rfl,rfl,rfl])) h
def ZR{i j:Str}(h:Q (.bl (Builtin.Str.occurrences j i 0 (-j) 1).isEmpty) g):cC (.cmp .NotIn) [.str i,.str j] g Q:=T1 (.inr (.inr #[i,j,rfl,rfl,rfl])) h
def Q9{x:D}(h:uT g x y λb=>Q (.bl (~~~b)) g):cC (.cmp .NotIn) [x,y] g Q:=let ⟨b,hb,h⟩:=h;T1 (.inl (show inR g x y (~~~(~~~b)) from by simp_all)) h
def Kt(h:kb (decide (i=j))):yz g (.int i) (.int j) kb:=#[_,.inl #[i,j,rfl,rfl,rfl],h]
def LK(h:kb (t==s)):yz g (.bl t) (.bl s) kb:=#[_,.inr (.inl #[t,s,rfl,rfl,rfl]),h]
def Ku{y:Str}(h:kb (decide (x=y))):yz g (.str x) (.str y) kb:=#[_,.inr (.inr (.inl #[x,y,rfl,rfl,rfl])),h]
def b67(h:Q (.bl (decide (i=j))) g):cC (.cmp .Eq) [.int i,.int j] g Q:=Fg (Kt h)
def Kb(h:Q (.bl (~~~decide (i=j))) g):cC (.cmp .NotEq) [.int i,.int j] g Q:=Fh (Kt h)
def b68(h:Q (.bl (t==s)) g):cC (.cmp .Eq) [.bl t,.bl s] g Q:=Fg (LK h)
def b57(h:Q (.bl (~~~(t==s))) g):cC (.cmp .NotEq) [.bl t,.bl s] g Q:=Fh (LK h)
def b66{p q:Str}(h:Q (.bl (decide (p=q))) g):cC (.cmp .Eq) [.str p,.str q] g Q:=Fg (Ku h)
def b56{p q:Str}(h:Q (.bl (~~~decide (p=q))) g):cC (.cmp .NotEq) [.str p,.str q] g Q:=Fh (Ku h)
def uf(h:Q (.bl (X9 d)) g):cC (.cmp .Is) [d,.aW] g Q:=T1 #[rfl,rfl] h
def HN(h:Q (.bl (~~~X9 d)) g):cC (.cmp .IsNot) [d,.aW] g Q:=T1 #[rfl,rfl] h
def b63(h:Q (.bl true) g):cC (.cmp .Is) [.aW,.aW] g Q:=uf h
def b61(h:Q (.bl false) g):cC (.cmp .Is) [.int i,.aW] g Q:=uf h
def b62(h:Q (.bl false) g):cC (.cmp .Is) [.bl t,.aW] g Q:=uf h
def b59(h:Q (.bl false) g):cC (.cmp .Is) [.str x,.aW] g Q:=uf h
def b58(h:Q (.bl false) g):cC (.cmp .Is) [.tup l,.aW] g Q:=uf h
def b60(h:Q (.bl false) g):cC (.cmp .Is) [.ref n,.aW] g Q:=uf h
def b65(h:Q (.bl false) g):cC (.cmp .IsNot) [.aW,.aW] g Q:=HN h
def b64(h:Q (.bl true) g):cC (.cmp .IsNot) [.int i,.aW] g Q:=HN h
def b77(h:kb t):ui g (.bl t) kb:=#[t,.inr (.inl rfl),h]
def bG3{p:Bool->Prop}(h:p t):∃s,D.bl t=D.bl s/\p s:=#[t,rfl,h]
def bU2{p:Int->Prop}(h:p i):∃s,D.int i=D.int s/\p s:=#[i,rfl,h]
def if2{c:Prop}[Decidable c](h1:c->A)(h2:¬c->B):if decide c=true then A else B:=by
 simp_all
def oz(h:A):if true=true then A else B:=by rw[au rfl];show h
def Z5(h:B):if false=true then A else B:=by rw[aq ∅];show h
def LB(h:A):if(~~~false)=true then A else B:=by show h
def LC(h:B):if(~~~true)=true then A else B:=by rw[aq ∅];show h
def Fm{c:Prop}[Decidable c](h1:c->B)(h2:¬c->A):if(~~~decide c)=true then A else B:=by
 by_cases h:c
 .rw[aC h];show LC (h1 h)
 .rw[az h];show LB (h2 h)
def cc(hb:b=false)(h:B):if b=true then A else B:=by rw[hb];show Z5 h
def eR(hb:b=true)(h:A):if b=true then A else B:=by rw[hb];show oz h
def v7(hl:f6 g a=!l)(h2:jd l i=!d)(h:Q d g):cC .ix [.ref a,.int i] g Q:=#[_,_,#[rfl,.inl #[_,l,i,rfl,hl,h2]],h]
def Fn(h2:jd l i=!d)(h:Q d g):cC .ix [.tup l,.int i] g Q:=#[_,_,#[rfl,.inl #[_,l,i,rfl,rfl,h2]],h]
def m9{i:Nat}{kvs:@&(Key×D)}{k:Key}(hg:g[i]?=!.du kvs)(hk:sj y=!k)(hv:J0 kvs k=!v)(h:Q v g):cC .ix [.ref i,y] g Q:=#[_,_,#[rfl,.inr (.inl #[i,kvs,y,k,rfl,hg,hk,hv])],h]
def LD{c:Nat}(hl:-x<=100000)(hc:jd x.cps.toList i=!c)(h:Q (.str #[(List.toArray [c])]) g):cC .ix [.str x,.int i] g Q:=#[_,_,#[rfl,.inr (.inr #[x,i,c,rfl,hl,hc,rfl])],h]
def C5(hl:g[a]?=!.lst l)(hn:kr (-l) i=!n)(h:kg (g.set a (.lst (l.set n v)))):U9 (.ref a) (.int i) v g kg:=#[_,.inl #[a,i,l,n,rfl,rfl,hl,hn,rfl],h]
def Zq{i:Nat}{kvs:@&(Key×D)}{k:Key}(hg:g[i]?=!.du kvs)(hk:sj y=!k)(hl:-kvs<100000)(h:kg (g.set i (.du (putD kvs k v)))):U9 (.ref i) y v g kg:=#[_,.inr #[i,kvs,k,rfl,hg,hk,hl,rfl],h]
def u3{fs:@&(Str×D)}(hg:g[a]?=!.ins c fs)(hc:c∈cs)(hl:-fs<100)(h:kg (g.set a (.ins c (x8 f v fs)))):yN f cs (.ref a) v g kg:=#[_,#[a,c,fs,rfl,hg,hc,hl,rfl],h]
def o8{fs:@&(Str×D)}(hg:g[a]?=!.ins c fs)(hf:fs.lookup f=!d)(h:Q d g):cC (.fld f) [.ref a] g Q:=#[_,_,#[a,c,fs,rfl,hg,hf,rfl],h]
def a9(h:g[a]?=!.lst l):f6 g a=!l:=by simp only[f6,h,Hm]
def YY(h:g[a]?=!.qO l):f6 g a=!l:=by simp only[f6,h,Hm]
def B1(hl:f6 g a=!l)(h:Q (.int (-l)) g):cC .len [.ref a] g Q:=#[_,_,#[rfl,.inl #[_,l,rfl,hl,rfl]],h]
def b30(h:Q (.int (-l)) g):cC .len [.tup l] g Q:=#[_,_,#[rfl,.inl #[_,l,rfl,rfl,rfl]],h]
def bL1(h:Q (.tup (cut l (!i) none)) g):cC (.kn true false) [.tup l,.int i] g Q:=#[_,_,#[_,i,rfl,.inl #[l,rfl,rfl,rfl]],h]
def bL3(h:Q (.tup (cut l none (!i))) g):cC (.kn false true) [.tup l,.int i] g Q:=#[_,_,#[_,i,rfl,.inl #[l,rfl,rfl,rfl]],h]
def bL2(hl:f6 g a=!l)(h:Q (.ref (-g)) (g++[.lst (cut l (!i) none)])):cC (.kn true false) [.ref a,.int i] g Q:=#[_,_,#[_,i,rfl,.inr (.inl #[a,l,rfl,hl,rfl,rfl])],h]
def bL4(hl:f6 g a=!l)(h:Q (.ref (-g)) (g++[.lst (cut l none (!i))])):cC (.kn false true) [.ref a,.int i] g Q:=#[_,_,#[_,i,rfl,.inr (.inl #[a,l,rfl,hl,rfl,rfl])],h]
def GW(hl:-l<=1000)(h:Q (.tup l) g):cC .tup l g Q:=#[_,_,#[hl,rfl,rfl],h]
def GV(hl:-l<=1000)(h:Q (.ref (-g)) (g++[.lst l])):cC .lst l g Q:=#[_,_,#[hl,rfl,rfl],h]
def b26(hl:f6 g a=!l)(h:Q (.ref (-g)) (g++[.lst l])):cC .list [.ref a] g Q:=#[_,_,.inl #[_,l,rfl,hl,rfl,rfl],h]
def b25(h:Q (.ref (-g)) (g++[.lst l])):cC .list [.tup l] g Q:=#[_,_,.inl #[_,l,rfl,rfl,rfl,rfl],h]
def BZ(hl:f6 g a=!l)(h:Q (.tup l) g):cC .tuple [.ref a] g Q:=#[_,_,#[_,l,rfl,hl,rfl,rfl],h]
def KI(h:Q (.tup l) g):cC .tuple [.tup l] g Q:=#[_,_,#[_,l,rfl,rfl,rfl,rfl],h]
def gP{c:String}(hc:c∈["int","bool","str","tuple","list"])(hb:si g d c=!b)(h:Q (.bl b) g):cC .isin [d,.ty c] g Q:=#[_,_,#[d,c,b,rfl,hc,hb,rfl,rfl],h]
def T4{i:Nat}(hg:g[i]?=!.lst l)(hl:-l<100000)(h:Q .aW (g.set i (.lst (l++[y])))):cC .append [.ref i,y] g Q:=#[_,_,#[i,y,l,rfl,hg,hl,rfl,rfl],h]
def GP{i j:Nat}{n:Int}(hg:g[i]?=!.lst l)(hn:n=j)(hj:l[j]?=!y)(hl:-l<100000)(h:Q y (g.set i (.lst (l.eraseIdx j)))):cC .pop [.ref i,.int n] g Q:=by
 let fz:=(aA.mp hj).1;show#[_,_,#[i,n,l,j,rfl,hg,by omega,by omega,?_,hj,rfl],h];rw[hn];show PySem.StrLaws.seqIndex_nonneg () () |>.trans #[_]
def yW:mY .join (.str x) g:=#[x,rfl]
def Hr(hl:f6 g a=!l):mY .gc (.ref a) g:=#[a,l,rfl,hl]
def BV(hl:g[a]?=!.lst l)(h0:0<=i)(h1:i<=100000)(hz:-l<100000)(h:Q .aW (g.set a (.lst (l.take i.toNat++y::l.drop i.toNat)))):cC .gc [.ref a,.int i,y] g Q:=#[_,_,#[a,i,l,y,rfl,hl,h0,h1,hz,rfl,rfl],h]
def Qe{a:Str}(hz:-a<=100000)(h:Q (.str (L2.S9 a none (!i))) g):cC (.kn false true) [.str a,.int i] g Q:=#[_,_,#[_,i,rfl,.inr (.inr #[a,rfl,hz,rfl,rfl])],h]
def Qf{a:Str}(hz:-a<=100000)(h:Q (.str (L2.S9 a (!i) none)) g):cC (.kn true false) [.str a,.int i] g Q:=#[_,_,#[_,i,rfl,.inr (.inr #[a,rfl,hz,rfl,rfl])],h]
def M9:mY .split (.str x) g:=#[x,rfl]
def m_split{a b:Str}{l:@&Str}(hb:(-b==0)=false)(ha:-a<=100000)(e:Txt.split a b=l)(hz:-l<=100000)(h:Q (.ref (-g)) (g++[.lst (l.map .str)])):cC .split [.str a,.str b] g Q:=#[_,_,#[a,b,rfl,hb,ha,by rw[e];show hz,rfl,by rw[e]],h]
def yV{sep:Str}{i:Nat}{ys:@&Str}(hl:f6 g i=!ys.map .str)(hz:u9 sep ys<=100000)(h:Q (.str (Builtin.Str.glued sep ys)) g):cC .join [.str sep,.ref i] g Q:=#[_,_,#[sep,i,ys,rfl,hl,hz,rfl,rfl],h]
def PK:mY .index (.tup l) g:=.inl #[l,rfl]
def PJ(hl:f6 g a=!l):mY .index (.ref a) g:=.inr #[a,l,rfl,hl]
def Ko(W:S7 l y n)(hz:-l<=100000)(h:Q (.int n) g):cC .index [.tup l,y] g Q:=#[_,_,#[_,y,l,n,rfl,rfl,W,hz,rfl,rfl],h]
def Kn(hl:f6 g a=!l)(W:S7 l y n)(hz:-l<=100000)(h:Q (.int n) g):cC .index [.ref a,y] g Q:=#[_,_,#[_,y,l,n,rfl,hl,W,hz,rfl,rfl],h]
def Lj(hl:-l+-m<=100000)(h:Q (.tup (l++m)) g):cC .iadd [.tup l,.tup m] g Q:=#[_,_,.inr #[l,m,rfl,hl,rfl,rfl],h]
def b69{i:Nat}{v:Bool}(hl:f6 g i=!l)(hv:Y2 l=!v)(h:Q (.bl v) g):cC .any [.ref i] g Q:=#[_,_,#[i,l,v,rfl,hl,hv,rfl,rfl],h]
def S1{i:Nat}(hg:g[i]?=!.lst l):mY .append (.ref i) g:=#[i,l,rfl,a9 hg]
def bR9{i:Nat}(hg:g[i]?=!.lst l):mY .pop (.ref i) g:=#[i,l,rfl,a9 hg]
def Se(h1:-(2 ^ 62)<=i/\i<2 ^ 62/\-(2 ^ 62)<=j/\j<2 ^ 62/\j-i<=100000)(h:Q (.ref (-g)) (g++[.lst (o7 i (j-i).toNat)])):cC .kP [.int i,.int j] g Q:=#[_,_,#[i,j,rfl,h1,rfl,rfl],h]
def b12{ns ms:@&Int}(h1:∀k∈ns,ST.Spot k)(h2:∀k∈ms,ST.Spot k)(hl:-ns+-ms<50)(h:Q (.ref (-g)) (g++[.lst ((T3 (ns++ms)).map .int)])):cC .wF [.tup (ns.map .int),.tup (ms.map .int)] g Q:=#[_,_,#[ns,ms,rfl,h1,h2,hl,rfl,rfl],h]
def b24{ns:@&Int}{M:Int}(hl:f6 g a=!ns.map .int)(h1:M∈ns)(h2:∀x∈ns,x<=M)(h:Q (.int M) g):cC .max [.ref a] g Q:=#[_,_,#[rfl,.inr #[a,ns,M,rfl,hl,h1,h2,rfl]],h]
def KQ{o1 i1 o2 i2 e:ME}(h:bh P e σ g (λx g1=>∃u v,x=.tup [u,v]/\bh P o1 σ g1 (λy1 g2=>bh P i1 σ g2 (λz1 g3=>U9 y1 z1 u g3 λg4=>bh P o2 σ g4 (λy2 g5=>bh P i2 σ g5 (λz2 g6=>U9 y2 z2 v g6 λg7=>N.nx σ g7) E) E) E) E) E):wpS P (.rB o1 i1 o2 i2 e) N σ g E:=h
def b39{v:Bool}(h:Q (.int (if v then 1 else 0)) g):cC .int [.bl v] g Q:=#[_,_,#[rfl,.inr (.inl #[v,rfl,rfl])],h]
def HW{n:Int}(hl:-x<=640)(hn:PySem.intText? x=!n)(h:Q (.int n) g):cC .int [.str x] g Q:=#[_,_,#[rfl,.inr (.inr #[x,n,rfl,hl,hn,rfl])],h]
def BW(hi:i.natAbs.log2<1920)(h:Q (.str (toString i)) g):cC .str [.int i] g Q:=#[_,_,.inl #[i,rfl,hi,rfl,rfl],h]
def bP6(h:Q (.str x) g):cC .str [.str x] g Q:=#[_,_,.inr #[x,rfl,rfl,rfl],h]
def b45{kvs:@&D}(h:Q (.bl (~~~(N6 kvs x).isSome)) g):cC .oR [.tup kvs,.str x] g Q:=#[_,_,#[kvs,x,rfl,rfl,rfl],by rw[Bool.true_xor];show h]
def vO{kvs:@&D}(hv:N6 kvs x=!v)(h:Q v g):cC .mf [.tup kvs,.str x] g Q:=#[_,_,#[kvs,x,rfl,hv,rfl],h]
def bP7(hx:X8 l=!x)(h:Q (.str x) g):cC .nA l g Q:=#[_,_,#[x,hx,rfl,rfl],h]
def JW{i:Nat}{v:Bool}(hl:f6 g i=!l)(hv:Y3 l=!v)(h:Q (.bl v) g):cC .all [.ref i] g Q:=#[_,_,#[i,l,v,rfl,hl,.inl hv,rfl,rfl],h]
def A3{i:Nat}{x:D}{k:S->Prop}(h:k (σ.set i (!x))):mU (.one i) x σ k:=h
def FT{is:@&Nat}{cJ:S}{k:S->Prop}(e:R0 is l σ=!cJ)(h:k cJ):mU (.many is) (.tup l) σ k:=#[l,cJ,rfl,e,h]
end
def Px:∀(bs:@&Bool),Y3 (bs.map D.bl)=!bs.all id:=by
 intro bs
 induction bs with
 |nil=>rfl
 |cons b r ih=>simp[Y3,ih]
def call_of{T:Nat->Option ba}{k f:Nat}{m:ba}{ds:@&D}(hT:T f=!m)(hl:-ds=m.ar)(h:wpS (c9 T k) m.body #[λx g'=>Q .aW g',Q,λx x=>False,λx x=>False] (d5 m ds) g E):c9 T (k+1) f ds g Q E:=#[m,hT,hl,h]
def k7{a:ME}{f:Nat}{m:Str}{fs:@&(Str×D)}{cs:@&(Str×Nat)}(hg:g[i]?=!.ins c fs)(hf:fs.lookup m=none)(hc:cs.lookup c=!f)(h:gh P a σ g (λxs g2=>P f (.ref i::xs) g2 Q E) E) :
  ∃a' c fs f,D.ref i=.ref a'/\g[a']?=!.ins c fs/\fs.lookup m=none/\cs.lookup c=!f/\gh P a σ g (λxs g2=>P f (.ref i::xs) g2 Q E) E:=#[i,c,fs,f,rfl,hg,hf,hc,h]
def IK.Is(k:IK)(l:@&D)(g:G):Prop:=∀i,k.at i g=some l[i]?
def J9:(IK.fix l).Is l g:=λx=>rfl
def yS(h:f6 g a=!l):(IK.lst a).Is l g:=λi=>by simp only[IK.at,h]
abbrev O6(l m:@&D):@&D:=(l.zip m).map λp=>.tup [p.1,p.2]
def bU0(h:f6 g a=!m)(e:-l=-m):(IK.uH l a).Is (O6 l m) g:=λi=>by
 simp only[IK.at,h,if_pos e,O6,List.getElem?_map]
def P1{lo:Int}{x:D}(h:(o7 lo n)[i]?=!x):i<n/\x=.int (lo+i):=by
 unfold o7 at h;let hi:i<n:=by
  have:=(aA.mp h).1;simpa using this
 rw[aJ,Il hi] at h;cases h;show#[hi,rfl]
def L6(lo:Int)(n:Nat):(o7 lo n).length=n:=by simp[o7]
section
variable{it a b c:ME}{s:MS}{t:MT}
def Pt{k:IK}{fin:S->G->Prop}{turn:D->(S->G->Prop)->S->G->Prop}(I:Nat->S->G->Prop)(hk:∀i σ g,I i σ g->k.Is l g)(h0:I 0 σ g)(hs:∀i x σ g,l[i]?=!x->I i σ g->turn x (I (i+1)) σ g)(hd:∀σ g,I (-l) σ g->fin σ g):turns k σ g fin turn:=by
 show#[λi m σ g=>m=-l-i/\i<=-l/\I i σ g,#[(-l),by simp,cU _,h0],?_];rintro i m σ g ⟨rfl,hi,p⟩;rw[hk i σ g p i];by_cases fz:i< -l
 .rw[av fz];show .inr #[_,rfl,I (i+1),λcJ g' p'=>#[(-l)-(i+1),by omega,rfl,fz,p'],hs i l[i] σ g (av fz) p]
 .let e:i=-l:=by omega
  subst e;rw[jC (ak _)];show .inl #[rfl,hd σ g p]
inductive zA(P:gu)(t:MT)(s:MS)(N:Ends)(E:KX)(σ:S)(k:IK)(g1:G):Prop
 |mk (l:@&D) (I:Nat->S->G->Prop) (hk:∀i σ g,I i σ g->k.Is l g) (h0:I 0 σ g1)
   (hs:∀i x σ g,l[i]?=!x->I i σ g->mU t x σ λfj=>wpS P s #[I (i+1),N.rt,N.nx,I (i+1)] fj g E) (hd:∀σ g,I (-l) σ g->N.nx σ g):zA P t s N E σ k g1
def yQ(hP:k9 P)(h:km P it σ g (zA P t s N E σ) E):wpS P (.lh t it s) N σ g E :=
 O7 hP it _ _ _ _ _ _ (λk g1 hq=>by let#[l,I,hk,h0,hs,hd]:=hq;show Pt I hk h0 hs hd) (λx x z=>z) h
def a35(hn:(n:Int)<2 ^ 62)(I:Nat->S->G->Prop)(h0:I 0 σ g)(hs:∀(i:Nat) σ g,i<n->I i σ g->mU t (.int i) σ λfj=>wpS P s #[I (i+1),N.rt,N.nx,I (i+1)] fj g E)(hd:∀σ g,I n σ g->N.nx σ g):wpS P (.lh t (.ij (.lit (.int n))) s) N σ g E:=by
 show#[n,rfl,by omega,hn,Pt (l:=o7 0 n) I (λy y y y=>J9) h0 (λi x σ g hx p=>?_) (λσ g p=>hd σ g (by rw[L6] at p;show p))];let#[hi,rfl]:=P1 hx;have:=hs i σ g hi p;rw[show(0:Int)+(i:Int)=i by omega];show this
inductive CompI(P:gu)(t:MT)(cond elt:ME)(E:KX)(Q:KD)(σ:S)(k:IK)(g1:G):Prop
 |mk (l:@&D) (I:Nat->@&D->S->G->Prop) (hl:-l<=1000) (hk:∀i ys σ g,I i ys σ g->k.Is l g/\-ys<=i) (h0:I 0 [] σ g1)
   (hs:∀i x ys σ g,l[i]?=!x->I i ys σ g->mU t x σ λfj=>fk P cond fj g (λc g3=>if c=true then bh P elt fj g3 (λy g4=>I (i+1) (ys++[y]) fj g4) E else I (i+1) ys fj g3) nO)
   (hd:∀ys σ g,I (-l) ys σ g->Q (.ref (-g)) (g++[.lst ys])):CompI P t cond elt E Q σ k g1
def J8(hP:k9 P)(h:km P it σ g (CompI P t cond elt nO Q (ur σ i3 n)) E):bh P (.comp i3 n t it cond elt) σ g Q E:=by
 show O7 hP it _ _ _ _ _ _ (λk g1 h=>?_) (λx x z=>z) h;let#[l,I,hl,hk,h0,hs,hd]:=h;show#[λi m ys σ g=>m=-l-i/\i<=-l/\I i ys σ g,#[(-l),by simp,cU _,h0],?_];rintro i m ys σ g ⟨rfl,hi,p⟩;let#[SS,hy]:=hk i ys σ g p;rw[SS i];by_cases fz:i< -l
 .rw[av fz];show .inr #[_,rfl,by omega,O9 (λfj q=>B3 hP cond _ _ _ _ _ _ (λc g3 q=>?_) (λx x z=>z) q) (hs i l[i] ys σ g (av fz) p)];cases c
  .exact#[(-l)-(i+1),by omega,rfl,fz,by simpa using(show I (i+1) ys fj g3 from q)]
  .exact d0 hP elt _ _ _ _ _ _ (λy g4 q=>#[(-l)-(i+1),by omega,rfl,fz,by simpa using q]) (λx x z=>z) q
 .let e:i=-l:=by omega
  subst e;rw[jC (ak _)];show .inl #[rfl,hd ys σ g p]
def aV7(hP:k9 P)(h:bh P a σ g (λx g1=>∃j:Nat,x=.int j/\j<=1000/\∃I:Nat->@&D->S->G->Prop,I 0 [] (ur σ i3 n) g1/\(∀i ys σ g,I i ys σ g->-ys<=i) /\
      (∀(i:Nat) ys σ g,i<j->I i ys σ g->mU t (.int i) σ λfj=>fk P cond fj g (λc g3=>if c=true then bh P elt fj g3 (λy g4=>I (i+1) (ys++[y]) fj g4) nO else I (i+1) ys fj g3) nO) /\
      ∀ ys σ g,I j ys σ g->Q (.ref (-g)) (g ++ [.lst ys])) E):bh P (.comp i3 n t (.ij a) cond elt) σ g Q E:=by
  show J8 hP ?_;show d0 hP a _ _ _ _ _ _ (λx g1 h=>?_) (λw w z=>z) h;let#[j,rfl,hj,I,h0,hz,hs,hd]:=h;show#[j,rfl,by omega,by omega,_,I,by rw[L6];simpa using hj,λi ys σ g p=>#[J9,hz i ys σ g p],h0,λi x ys σ g hx p=>?_,λys σ g p=>hd ys σ g (by rw[L6] at p;simpa using p)];let#[hi,rfl]:=P1 hx;rw[show(0:Int)+(i:Int)=i by omega];show hs i ys σ g (_/hi) p
def aV6(hP:k9 P)(h:bh P a σ g (λx g1=>∃l,x=.tup l/\-l<=1000/\∃I:Nat->@&D->S->G->Prop,I 0 [] (ur σ i3 n) g1/\(∀i ys σ g,I i ys σ g->-ys<=i) /\
      (∀(i:Nat) x ys σ g,l[i]?=!x->I i ys σ g->mU t x σ λfj=>fk P cond fj g (λc g3=>if c=true then bh P elt fj g3 (λy g4=>I (i+1) (ys++[y]) fj g4) nO else I (i+1) ys fj g3) nO) /\
      ∀ ys σ g,I (-l) ys σ g->Q (.ref (-g)) (g ++ [.lst ys])) E):bh P (.comp i3 n t (.jF a) cond elt) σ g Q E:=by
  show J8 hP ?_;show d0 hP a _ _ _ _ _ _ (λx g1 h=>?_) (λw w z=>z) h;let#[l,rfl,hj,I,h0,hz,hs,hd]:=h;show .inl #[l,rfl,_,I,hj,λi ys σ g p=>#[J9,hz i ys σ g p],h0,hs,hd]
def Lz(hP:k9 P)(h:bh P a σ g (λx g1=>∃j:Int,x=.int j/\-(2 ^ 62)<=j/\j<2 ^ 62/\R (.fix (o7 0 j.toNat)) g1) E):km P (.ij a) σ g R E:=h
def Fl(hP:k9 P)(h:bh P a σ g (λx g1=>bh P b σ g1 (λy g2=>∃i j:Int,x=.int i/\y=.int j/\(-(2 ^ 62)<=i/\i<2 ^ 62/\-(2 ^ 62)<=j/\j<2 ^ 62)/\R (.fix (o7 i (j-i).toNat)) g2) E) E):km P (.jk a b) σ g R E:=h
def xi(hP:k9 P)(h:bh P a σ g (λx g1=>∃i l,x=.ref i/\f6 g1 i=!l/\R (.lst i) g1) E):km P (.jF a) σ g R E:=by
 show d0 hP a _ _ _ _ _ _ (λx g1 h=>.inr (.inl h)) (λy y z=>z) h
def IX(hP:k9 P)(h:bh P a σ g (λx g1=>∃w:Str,x=.str w/\w.cps.all (·<128)=true/\R (.fix (sgn w)) g1) E):km P (.jF a) σ g R E:=by
 show d0 hP a _ _ _ _ _ _ (λx g1 h=>.inr (.inr h)) (λy y z=>z) h
def Sm(h:bh P a σ g (λx g1=>bh P b σ g1 (λy g2=>∃l i m,x=.tup l/\y=.ref i/\f6 g2 i=!m/\R (.uH l i) g2) E) E):km P (.pF a b) σ g R E:=h
end
end M
namespace M
open PySem L2 PySem.Spec PyProof.Rows
variable{K:PySem.W.Frag}{x:Str}{f C:Addr}{oc:Value}{h₀:Heap}
structure RF where
 id:Nat
 nm:Str
 N:@&Str
 k:Nat
 i:Nat
 m:ba
structure RM where
 id:Nat
 cl:Str
 nm:Str
 qn:Str
 N:@&Str
 k:Nat
 i:Nat
 j:Nat
 m:ba
def RF.d(tp:Nat->Stmt)(r:RF):rm:=#[r.nm,r.nm,r.N,r.N.take r.k,tp r.i]
def RM.d(mt:Nat->Nat->Stmt)(r:RM):rm:=#[r.nm,r.qn,r.N,r.N.take r.k,mt r.i r.j]
abbrev vG(F:@&RF)(M:@&RM)(i:Nat):Option ba:=match F.find? λr=>Nat.beq r.id i with
 |some r=>!r.m
 |none=>(M.find? λr=>Nat.beq r.id i).map (·.m)
section
variable(tp:Nat->Stmt)(mt:Nat->Nat->Stmt)(K:PySem.W.Frag)
abbrev PF:@&RF->Prop
 |[]=>True
 |r::l=>(∃f fd,PySem.W.nsIn K mainGlobals r.nm=!!.ref f/\pz K r.nm r.nm (tp r.i) f fd)/\PF l
abbrev PM:@&RM->Prop
 |[]=>True
 |r::l=>(∃C f fd,PySem.W.nsIn K mainGlobals r.cl=!!.ref C/\Meth K C r.nm f/\pz K r.nm r.qn (mt r.i r.j) f fd)/\PM l
abbrev PC:@&(Str×Nat)->Prop
 |[]=>True
 |r::l=>(∃C,PySem.W.nsIn K mainGlobals r.1=!!.ref C/\Cls K C/\PySem.W.makesIn K C=true/\PySem.W.keepIn K (.ref C)=true)/\PC l
abbrev PA:@&(Str×Str)->Prop
 |[]=>True
 |r::l=>(∃C,PySem.W.nsIn K mainGlobals r.2=!!.ref C/\PySem.W.findIn K (.ref C) r.1=!none)/\PA l
abbrev PB:@&Str->Prop
 |[]=>True
 |r::l=>PySem.W.nsIn K mainGlobals r=!none/\PB l
abbrev PX:@&Str->Prop
 |[]=>True
 |r::l=>(∃C,PySem.W.nsIn K mainGlobals r=!!.ref C/\PySem.W.excIn K C [.type "ValueError",.type "Exception",.type "BaseException",.type "object"] "ValueError.__new__"=true)/\PX l
abbrev BF:@&RF->Prop
 |[]=>True
 |r::l=>(∀(kV doc pm:Value) (an:Option Addr) (fc ct:Value) (us:@&Value),(-us)=(r.N.take r.k).length->bindArgs (PySem.W.fnOf r.nm r.nm (t9 (tp r.i)) (j8 (tp r.i)) (i0 (tp r.i)) .none kV doc pm an fc ct) #[us,[]]=pure ((r.N.take r.k).zip us))/\BF l
abbrev BM:@&RM->Prop
 |[]=>True
 |r::l=>(∀(kV doc pm:Value) (an:Option Addr) (fc ct:Value) (us:@&Value),(-us)=(r.N.take r.k).length->bindArgs (PySem.W.fnOf r.nm r.qn (t9 (mt r.i r.j)) (j8 (mt r.i r.j)) (i0 (mt r.i r.j)) .none kV doc pm an fc ct) #[us,[]]=pure ((r.N.take r.k).zip us))/\BM l
abbrev YF(c:i4):@&RF->Prop
 |[]=>True
 |r::l=>C3 (comp 60) (c.at (r.d tp)) (j8 (tp r.i))=!r.m.body/\YF c l
abbrev YM(c:i4):@&RM->Prop
 |[]=>True
 |r::l=>C3 (comp 60) (c.at (r.d mt)) (j8 (mt r.i r.j))=!r.m.body/\YM c l
end
section
variable{tp:Nat->Stmt}{mt:Nat->Nat->Stmt}{c:i4}{id k i j:Nat}{cl nm qn:Str}{N:@&Str}{m:ba}{kV doc pm fc ct:Value}{od an:Option Addr}{jE:Array (Option Value)}
def PF.nil:PF tp K []:=trivial
def PF.cons{l:@&RF}(a:PySem.W.nsIn K mainGlobals nm=!!.ref f)(lk:K.lookup f=!#[oc,od,.func (PySem.W.fnOf nm nm (t9 (tp i)) (j8 (tp i)) (i0 (tp i)) .none kV doc pm an fc ct),jE])(cd:PySem.W.codeIn K fc nm=true)(kp:PySem.W.keepIn K (.ref f)=true)(h:PF tp K l):PF tp K (#[id,nm,N,k,i,m]::l):=#[#[f,_,a,Hk lk cd kp],h]
def PM.nil:PM mt K []:=trivial
def PM.cons{l:@&RM}(c0:PySem.W.nsIn K mainGlobals cl=!!.ref C)(a:PySem.W.findIn K (.ref C) nm=!!.ref f)(af:PySem.W.isFn K (.ref f)=true)(lk:K.lookup f=!#[oc,od,.func (PySem.W.fnOf nm qn (t9 (mt i j)) (j8 (mt i j)) (i0 (mt i j)) .none kV doc pm an fc ct),jE])(cd:PySem.W.codeIn K fc qn=true)(kp:PySem.W.keepIn K (.ref f)=true)(h:PM mt K l):PM mt K (#[id,cl,nm,qn,N,k,i,j,m]::l):=#[#[C,f,_,c0,#[a,af,kp],Hk lk cd kp],h]
def PC.nil:PC K []:=trivial
def PC.cons{l:@&(Str×Nat)}(cn:PySem.W.nsIn K mainGlobals x=!!.ref C)(cp:PySem.W.plainGet K C Str.empty=true)(UH:PySem.W.hasDictIn K C=true)(UD:PySem.W.plainOver K C=true)(UC:PySem.W.findIn K (.ref C) "__setattr__"=!!(.builtin "object.__setattr__"))(Vc:PySem.W.findIn K (.ref C) "__class__"=!!(.builtin "object.__class__"))(U':PySem.W.specialIn K (.builtin "object.__class__") "__get__"=!!(.builtin "getset_descriptor.__get__"))(UZ:PySem.W.takesIn K (.builtin "object.__class__")=!true)(Va:PySem.W.mroIn K C (.type "object")=!true)(Vb:(["int","bool","str","tuple","list"].all λc=>decide (PySem.W.kitOne K (.ref C) (.type c)=!false))=true)(UE:PySem.W.makesIn K C=true)(UG:PySem.W.keepIn K (.ref C)=true)(h:PC K l):PC K ((x,i)::l):=#[#[C,cn,#[#[cp,UH,UD,UC],Vc,U',UZ,Va,Vb],UE,UG],h]
def PA.nil:PA K []:=trivial
def PA.cons{l:@&(Str×Str)}(cn:PySem.W.nsIn K mainGlobals x=!!.ref C)(fl:PySem.W.findIn K (.ref C) nm=!none)(h:PA K l):PA K ((nm,x)::l):=#[#[C,cn,fl],h]
def PB.nil:PB K []:=trivial
def PB.cons{l:@&Str}(cn:PySem.W.nsIn K mainGlobals x=!none)(h:PB K l):PB K (x::l):=#[cn,h]
def PX.nil:PX K []:=trivial
def PX.cons{l:@&Str}(cn:PySem.W.nsIn K mainGlobals x=!!.ref C)(q:PySem.W.excIn K C [.type "ValueError",.type "Exception",.type "BaseException",.type "object"] "ValueError.__new__"=true)(h:PX K l):PX K (x::l):=#[#[C,cn,q],h]
def CC{P:@&Value->Prop}{n:Nat}(h:∀a vs,(-vs)=n->P (a::vs))(us:@&Value)(hl:-us=n+1):P us:=by
 cases us with
 |nil=>cases hl
 |cons a vs=>show h a vs (Nat.succ.inj hl)
def CA{P:@&Value->Prop}(h:P [])(us:@&Value)(hl:-us=0):P us:=by
 simp_all
def BF.nil:BF tp []:=trivial
def BF.cons{l:@&RF}(h:∀(kV doc pm:Value) (an:Option Addr) (fc ct:Value) (us:@&Value),(-us)=(N.take k).length->bindArgs (PySem.W.fnOf nm nm (t9 (tp i)) (j8 (tp i)) (i0 (tp i)) .none kV doc pm an fc ct) #[us,[]]=pure ((N.take k).zip us))(h2:BF tp l):BF tp (#[id,nm,N,k,i,m]::l):=#[h,h2]
def BM.nil:BM mt []:=trivial
def BM.cons{l:@&RM}(h:∀(kV doc pm:Value) (an:Option Addr) (fc ct:Value) (us:@&Value),(-us)=(N.take k).length->bindArgs (PySem.W.fnOf nm qn (t9 (mt i j)) (j8 (mt i j)) (i0 (mt i j)) .none kV doc pm an fc ct) #[us,[]]=pure ((N.take k).zip us))(h2:BM mt l):BM mt (#[id,cl,nm,qn,N,k,i,j,m]::l):=#[h,h2]
def YF.nil:YF tp c []:=trivial
def YF.cons{l:@&RF}(h:C3 (comp 60) (c.at #[nm,nm,N,N.take k,tp i]) (j8 (tp i))=!m.body)(h2:YF tp c l):YF tp c (#[id,nm,N,k,i,m]::l):=#[h,h2]
def YM.nil:YM mt c []:=trivial
def YM.cons{l:@&RM}(h:C3 (comp 60) (c.at #[nm,qn,N,N.take k,mt i j]) (j8 (mt i j))=!m.body)(h2:YM mt c l):YM mt c (#[id,cl,nm,qn,N,k,i,j,m]::l):=#[h,h2]
def YF.get:∀{l:@&RF},YF tp c l->∀r∈l,C3 (comp 60) (c.at (r.d tp)) (j8 (tp r.i))=!r.m.body
 |_::_,h,r,hr=>(aB.mp hr).elim (λz=>z▸h.1) (YF.get h.2 r)
def YM.get:∀{l:@&RM},YM mt c l->∀r∈l,C3 (comp 60) (c.at (r.d mt)) (j8 (mt r.i r.j))=!r.m.body
 |_::_,h,r,hr=>(aB.mp hr).elim (λz=>z▸h.1) (YM.get h.2 r)
def PF.get:∀{l:@&RF},PF tp K l->∀r∈l,∃f fd,PySem.W.nsIn K mainGlobals r.nm=!!.ref f/\pz K r.nm r.nm (tp r.i) f fd
 |_::_,h,r,hr=>(aB.mp hr).elim (λz=>z▸h.1) (PF.get h.2 r)
def PM.get:∀{l:@&RM},PM mt K l->∀r∈l,∃C f fd,PySem.W.nsIn K mainGlobals r.cl=!!.ref C/\Meth K C r.nm f/\pz K r.nm r.qn (mt r.i r.j) f fd
 |_::_,h,r,hr=>(aB.mp hr).elim (λz=>z▸h.1) (PM.get h.2 r)
def PC.get:∀{l:@&(Str×Nat)},PC K l->∀r∈l,∃C,PySem.W.nsIn K mainGlobals r.1=!!.ref C/\Cls K C/\PySem.W.makesIn K C=true/\PySem.W.keepIn K (.ref C)=true
 |_::_,h,r,hr=>(aB.mp hr).elim (λz=>z▸h.1) (PC.get h.2 r)
def PA.get:∀{l:@&(Str×Str)},PA K l->∀r∈l,∃C,PySem.W.nsIn K mainGlobals r.2=!!.ref C/\PySem.W.findIn K (.ref C) r.1=!none
 |_::_,h,r,hr=>(aB.mp hr).elim (λz=>z▸h.1) (PA.get h.2 r)
def PB.get:∀{l:@&Str},PB K l->∀r∈l,PySem.W.nsIn K mainGlobals r=!none
 |_::_,h,r,hr=>(aB.mp hr).elim (λz=>z▸h.1) (PB.get h.2 r)
def PX.get:∀{l:@&Str},PX K l->∀r∈l,∃C,PySem.W.nsIn K mainGlobals r=!!.ref C/\PySem.W.excIn K C [.type "ValueError",.type "Exception",.type "BaseException",.type "object"] "ValueError.__new__"=true
 |_::_,h,r,hr=>(aB.mp hr).elim (λz=>z▸h.1) (PX.get h.2 r)
def BF.get:∀{l:@&RF},BF tp l->∀r∈l,∀(kV doc pm:Value) (an:Option Addr) (fc ct:Value) (us:@&Value),(-us)=(r.N.take r.k).length->bindArgs (PySem.W.fnOf r.nm r.nm (t9 (tp r.i)) (j8 (tp r.i)) (i0 (tp r.i)) .none kV doc pm an fc ct) #[us,[]]=pure ((r.N.take r.k).zip us)
 |_::_,h,r,hr=>(aB.mp hr).elim (λz=>z▸h.1) (BF.get h.2 r)
def BM.get:∀{l:@&RM},BM mt l->∀r∈l,∀(kV doc pm:Value) (an:Option Addr) (fc ct:Value) (us:@&Value),(-us)=(r.N.take r.k).length->bindArgs (PySem.W.fnOf r.nm r.qn (t9 (mt r.i r.j)) (j8 (mt r.i r.j)) (i0 (mt r.i r.j)) .none kV doc pm an fc ct) #[us,[]]=pure ((r.N.take r.k).zip us)
 |_::_,h,r,hr=>(aB.mp hr).elim (λz=>z▸h.1) (BM.get h.2 r)
end
def wL(N P:@&Str)(sc:Scope):Bool:=decide (sc.kind=.function)&&~~~sc.isCoroutine&&~~~sc.isGenerator&&decide N.Nodup&&decide (N.take (-P)=P)&&P.all (λx=>decide (sc.names.lookup x=!.local)||decide (sc.names.lookup x=!.cell))&&sc.names.all λy=>decide (y.2≠.free)
def Hw{N P:@&Str}{sc:Scope}(h:wL N P sc=true):gf N P sc:=by
 unfold wL at h;simp only[Bool.and_eq_true,decide_eq_true_eq,Bool.not_eq_true',List.all_eq_true,Bool.or_eq_true] at h;let#[#[#[#[#[#[h1,h2],h3],h4],h5],h6],h7]:=h;show#[h1,h2,h3,h4,h5,h6,h7]
set_option tactic.hygienic true in
def a83{mg:Str->Option Value}{ir:@&Value}{newId:String}(X:K.In h₀)(G:h₀.Ns mainGlobals mg)(e:PySem.W.nsIn K mainGlobals x=!!.ref C)(q:PySem.W.excIn K C ir newId=true):PyProof.Rows.OwnCls x C ir newId mg h₀:=by
 show#[bL X G e,?_];unfold PySem.W.excIn at q;split at q
 .rename_i dd cd sl ho;split at q
  .rename_i C' bm k0 k1 k2 k3 n k5 hm hs;simp only[Bool.and_eq_true,beq_iff_eq,Bool.not_eq_true'] at q;let#[#[#[#[#[z1,z2],oK],ht],bI],oE]:=q;subst z1;subst z2;let#[nm,bs,mro,ns,qn,hd,sn,sub,ab,col,del]:=cd;dsimp only at hm oK bI oE;subst hm oK;let Ds:sl=(List.toArray [k0,k1,k2,k3,!.builtin n,k5]):=by
    let#[l]:=sl;simp only at hs;rw[hs]
   subst Ds;show#[bm,ns,nm,qn,bs,hd,sn,sub,ab,col,dd,k0,k1,k2,k3,k5,_,X _ _ ho,.of_isNs (kG X bI),PySem.W.nsMap_none_of_in X bI oE,QB X ht]
  .cases q
 .cases q
abbrev A8(K:PySem.W.Frag)(x:Str):Addr:=match PySem.W.nsIn K mainGlobals x with
 |some (!.ref C)=>C
 |_=>0
def NH(K:PySem.W.Frag)(exc:@&Str):Bool:=exc.all λx=>exc.all λy=>decide (PySem.W.exmOne K (.ref (A8 K x)) (.ref (A8 K y))=!decide (x=y\/y="MintError"))
def ZY{exc:@&Str}(h:NH K exc=true){y:Str}{C':Addr}(hx:exc.contains x=true)(hy:exc.contains y=true)(hC:i9 K x C)(vk:i9 K y C'):PySem.W.exmOne K (.ref C) (.ref C')=!decide (x=y\/y="MintError"):=by
 let h1:=bw.mp h x (_/hx);let h2:=br (bw.mp h1 y (_/hy));let e1:A8 K x=C:=by unfold A8;simp_all
 let e2:A8 K y=C':=by unfold A8;simp_all
 rw[e1,e2] at h2;show h2
def FF{α:Type}{f:α->Nat}:∀{l:List α},(l.map f).Nodup->∀r∈l,l.find? (λx=>Nat.beq (f x) (f r))=!r
 |y::l,nd,r,hr=>by
  rw[aQ,gG] at nd;rcases aB.mp hr with rfl|hr
  .rw[List.find?_cons_of_pos];show Nat.beq_refl _
  .rw[List.find?_cons_of_neg]
   .exact FF nd.2 r hr
   .intro z;show nd.1 (aI.mpr #[r,hr,(jA z).symm])
def bF5{α β:Type}{f:α->Nat}{g:β->Nat}{l:List α}{r:β}(h:g r∉l.map f):l.find? (λx=>Nat.beq (f x) (g r))=none:=by
 rw[List.find?_eq_none];intro x hx z;show h (aI.mpr #[x,hx,jA z])
section
variable{w:World}{mg:Str->Option Value}{c:i4}{F:@&RF}{M:@&RM}{tp:Nat->Stmt}{mt:Nat->Nat->Stmt}
def BJ(K:PySem.W.Frag)(C f:Addr):Bool:=match K.lookup C with
 | some ⟨.type "type",_,.cls cd,sl⟩=>(match cd.mro,sl.toList with
  |.ref C2::bm,[_,_,_,_,!.builtin n,_]=>C2==C&&n=="ValueError.__new__"&&~~~cd.hasDel&&PySem.W.tailIn K [.type "ValueError",.type "Exception",.type "BaseException",.type "object"] bm&&PySem.W.nsOkIn K cd.ns&&PySem.W.nsIn K cd.ns "__init__"==!!.ref f
  | _,_=>false)
 |_=>false
set_option tactic.hygienic true in
def bR2{h:Heap}{N:Addr}{n:Str}{v:Value}(X:K.In h)(G:h.Ns N mg)(e:PySem.W.nsIn K N n=!!v):mg n=!v:=by
 let#[o,es,ep,ho,hd,_,hf]:=G;unfold PySem.W.nsIn at e;split at e<;>try cases e
 let z:=X _ _ ‹_›;rw[ho] at z;cases z;cases hd;split at e
 .rename_i y hy;cases e;rw[<- hf];unfold nsFind findBy;rw[<- QL,hy]
  rfl
 .split at e<;>cases e
set_option tactic.hygienic true in
def YW{od:Option Addr}{fd:FuncData}{jE:Array (Option Value)}(X:K.In h₀)(G:h₀.Ns mainGlobals mg)(e:PySem.W.nsIn K mainGlobals "BadText"=!!.ref C)(q:BJ K C f=true)(lk:K.lookup f=!#[oc,od,.func fd,jE])(ho:oc=.type "function") :
  iu "BadText" C f [.type "ValueError",.type "Exception",.type "BaseException",.type "object"] "ValueError.__new__" mg h₀:=by
 show#[bL X G e,?_,_,X _ _ lk,ho];unfold BJ at q;split at q
 .rename_i dd cd sl hC;split at q
  .rename_i C2 bm k0 k1 k2 k3 n k5 hm hs;simp only[Bool.and_eq_true,beq_iff_eq,Bool.not_eq_true'] at q;let#[#[#[#[#[z1,z2],oK],ht],bI],oE]:=q;subst z1;subst z2;let#[nm,bs,mro,ns,qn,hd,sn,sub,ab,col,del]:=cd;dsimp only at hm oK bI oE;subst hm oK;let Ds:sl=(List.toArray [k0,k1,k2,k3,!(.builtin "ValueError.__new__"),k5]):=by
    let#[l]:=sl;simp only at hs;rw[hs]
   subst Ds;show#[bm,ns,nm,qn,bs,hd,sn,sub,ab,col,dd,k0,k1,k2,k3,k5,_,X _ _ hC,.of_isNs (kG X bI),bR2 X (.of_isNs (kG X bI)) oE,QB X ht]
  .cases q
 .cases q
def La(K:PySem.W.Frag)(C:Addr)(exc:@&Str):Bool:=exc.all λx=>decide (PySem.W.exmOne K (.ref (A8 K x)) (.ref C)=!false)
def NI(K:PySem.W.Frag)(exc:@&Str):Bool:=match PySem.W.nsIn K mainGlobals "BadText" with
 |some (!.ref C)=>exc.all λy=>decide (PySem.W.exmOne K (.ref C) (.ref (A8 K y))=!decide (y="MintError"))
 |_=>true
def Hc(K:PySem.W.Frag)(C:Addr):Bool:=yP K C&&decide (PySem.W.findIn K (.ref C) "__getattribute__"=!!(.builtin "BaseException.__getattribute__"))&&decide (PySem.W.findIn K (.ref C) "__getattr__"=!none)&&decide (PySem.W.findIn K (.ref C) "__setattr__"=!!(.builtin "object.__setattr__")) &&
 PySem.W.hasDictIn K C&&decide (PySem.W.findIn K (.ref C) "row"=!none)&&decide (PySem.W.exmOne K (.ref C) (.ref C)=!true)
structure BA(K:PySem.W.Frag)(exc:@&Str)(st:Stmt):Prop where
 ex:∃(C f:Addr) (oc kV doc pm fc ct:Value) (od an:Option Addr) (jE:Array (Option Value)),PySem.W.nsIn K mainGlobals "BadText"=!!.ref C/\K.lookup f=!#[oc,od,.func (PySem.W.fnOf "__init__" "BadText.__init__" (t9 st) (j8 st) (i0 st) .none kV doc pm an fc ct),jE] /\
  PySem.W.codeIn K fc "BadText.__init__"=true/\PySem.W.keepIn K (.ref f)=true/\oc=.type "function"/\BJ K C f=true/\Hc K C=true/\La K C exc=true
def BA.of{exc:@&Str}{st:Stmt}{kV doc pm fc ct:Value}{od an:Option Addr}{jE:Array (Option Value)}(h1:PySem.W.nsIn K mainGlobals "BadText"=!!.ref C)(_:PySem.W.findIn K (.ref C) "__init__"=!!.ref f)(h2:K.lookup f=!#[oc,od,.func (PySem.W.fnOf "__init__" "BadText.__init__" (t9 st) (j8 st) (i0 st) .none kV doc pm an fc ct),jE])(h3:PySem.W.codeIn K fc "BadText.__init__"=true)(h4:PySem.W.keepIn K (.ref f)=true)(h5:oc=.type "function")(h6:BJ K C f=true)(h7:Hc K C=true)(h8:La K C exc=true):BA K exc st :=
 #[C,f,oc,kV,doc,pm,fc,ct,od,an,jE,h1,h2,h3,h4,h5,h6,h7,h8]
structure zv(st:Stmt):Prop where
 sc:wL ["self","row"] ["self","row"] (i0 st)=true
 bo:zm (j8 st)=!(("self":Str),("row":Str),("row":Str))
 lo:(i0 st).names.lookup ("self":Str)=!.local/\(i0 st).names.lookup ("row":Str)=!.local
 bi:∀(kV doc pm:Value) (an:Option Addr) (fc ct:Value) (us:@&Value),(-us)=2->bindArgs (PySem.W.fnOf "__init__" "BadText.__init__" (t9 st) (j8 st) (i0 st) .none kV doc pm an fc ct) #[us,[]]=pure ((["self","row"]:@&Str).zip us)
structure mI(K:PySem.W.Frag)(c:i4)(F:@&RF)(M:@&RM)(tp:Nat->Stmt)(mt:Nat->Nat->Stmt):Prop where
 qF:PF tp K F
 qM:PM mt K M
 qC:PC K c.cls
 qA:PA K c.pN
 qB:PB K c.blt
 qX:PX K c.exc
 xm:NH K c.exc=true
 xr:NI K c.exc=true
 qR:∀p,c.row=!p->BA K c.exc (mt p.1 p.2)
structure mH(c:i4)(F:@&RF)(M:@&RM)(tp:Nat->Stmt)(mt:Nat->Nat->Stmt):Prop where
 cf:c.fns=F.map λr=>(r.nm,r.id)
 cm:c.pE=M.map λr=>(r.nm,r.cl,r.id)
 ci:c.cls.all (λy=>M.any λr=>decide (r.cl=y.1)&&decide (r.nm="__init__")&&Nat.beq r.id y.2)=true
 nd:(F.map (·.id)++M.map (·.id)).Nodup
 sF:F.all (λr=>wL r.N (r.N.take r.k) (i0 (tp r.i))&&decide (r.m.ar=(r.N.take r.k).length)&&decide (r.m.n=-r.N))=true
 sM:M.all (λr=>wL r.N (r.N.take r.k) (i0 (mt r.i r.j))&&decide (r.m.ar=(r.N.take r.k).length)&&decide (r.m.n=-r.N))=true
 oF:YF tp c F
 oM:YM mt c M
 bF:BF tp F
 bM:BM mt M
 xz:c.exc.all (λx=>decide (x.cps.size≠1))=true
 tR:∀p,c.row=!p->zv (mt p.1 p.2)
def Oo(I:mI K c F M tp mt)(X:mH c F M tp mt)(r:RF)(hr:r∈F):∃f fd,ka K c (r.d tp) r.m f fd/\PySem.W.nsIn K mainGlobals r.nm=!!.ref f/\vG F M r.id=!r.m:=by
 let#[f,fd,a,q]:=I.qF.get r hr;let s:=bw.mp X.sF r hr;simp only[Bool.and_eq_true,decide_eq_true_eq] at s;let o:=X.oF.get r hr;show#[f,fd,#[q,q.binds (X.bF.get r hr),Hw s.1.1,o,s.1.2,s.2],a,?_];unfold vG;rw[FF (eW.mp X.nd).1 r hr]
def Oq(I:mI K c F M tp mt)(X:mH c F M tp mt)(r:RM)(hr:r∈M):∃C f fd,ka K c (r.d mt) r.m f fd/\PySem.W.nsIn K mainGlobals r.cl=!!.ref C/\Meth K C r.nm f/\vG F M r.id=!r.m:=by
 let#[C,f,fd,a,q1,q]:=I.qM.get r hr;let s:=bw.mp X.sM r hr;simp only[Bool.and_eq_true,decide_eq_true_eq] at s;let o:=X.oM.get r hr;show#[C,f,fd,#[q,q.binds (X.bM.get r hr),Hw s.1.1,o,s.1.2,s.2],a,q1,?_];let nd:=eW.mp X.nd;unfold vG;rw[bF5 (λz=>nd.2.2 _ z _ (aI.mpr #[r,hr,rfl]) rfl),FF nd.2.1 r hr]
 rfl
def bJ0(I:mI K c F M tp mt)(Y:mH c F M tp mt)(X:K.In h₀)(G:h₀.Ns mainGlobals mg)(con:∀x d,c.con.lookup x=!d->∃v u,mg x=!u/\RelV v u/\∀ρ H,d8 K ρ H d v)(tV:∀x kvs,c.gd.lookup x=!kvs->∃A vs,mg x=!.ref A/\yF K w.params A vs/\sf K kvs vs):pw w K mg c (vG F M):=by
 show#[λx i hx=>?_,λx i hx=>?_,λx y i C hx hC=>?_,λf y C hx hC=>?_,con,λx hx=>?_,λx hx=>?_,λx y C C' hx hy hC vk=>ZY I.xm hx hy hC vk,λx hx=>?_,λy C C' hy hC vk=>?_,λhr=>?_,tV]
 .let hm:=aS hx;rw[Y.cf] at hm;let#[r,hr,e]:=aI.mp hm;cases e;let#[f,fd,O,a,t]:=Oo I Y r hr;show#[_,_,f,fd,t,O,bL X G a]
 .let hm:=aS hx;let h1:=bw.mp Y.ci _ hm;let#[r,hr,e]:=mM.mp h1;simp only[Bool.and_eq_true,decide_eq_true_eq] at e;let#[#[e1,e2],e3]:=e;let e3:=jA e3;let#[C,f,fd,O,a,q,t]:=Oq I Y r hr;let#[C',a',hc,mk,kp]:=I.qC.get _ hm;rw[e1] at a;cases a.symm.trans a';rw[e2] at q;rw[e3] at t;show#[C,_,_,f,fd,t,O,bL X G a,a,hc,#[mk,q.at_,q.fn,kp]]
 .rw[Y.cm] at hx;let#[r,hr,e]:=aI.mp hx;cases e;let#[C',f,fd,O,a,q,t]:=Oq I Y r hr;cases a.symm.trans hC;show#[_,_,f,fd,t,O,q]
 .let#[C',a,q]:=I.qA.get _ hx;cases a.symm.trans hC;show q
 .exact PySem.W.mg_none_of X G (I.qB.get x (_/hx))
 .let#[C,a,q]:=I.qX.get x (_/hx);show#[_,bL X G a,a,λbase lU rZ=>#[_,_,_,_,a83 lU rZ a q,pR]]
 .exact br (bw.mp Y.xz x (_/hx))
 .let h1:=I.xr;unfold NI at h1;rw[show PySem.W.nsIn K mainGlobals "BadText"=_ from hC] at h1;let h2:=br (bw.mp h1 y (_/hy));let e2:A8 K y=C':=by unfold A8;rw[show PySem.W.nsIn K mainGlobals y=_ from vk]
  rw[e2] at h2;show h2
 .let#[p,hp]:=dU.mp hr;let#[C,f,oc,kV,doc,pm,fc,ct,od,an,jE,h1,h2,h3,h4,h5,h6,h7,h8]:=(I.qR p hp).ex;let tr:=Y.tR p hp;unfold Hc at h7;simp only[Bool.and_eq_true,decide_eq_true_eq] at h7;let#[#[#[#[#[#[a1,a2],a3],a4],a5],a6],a7]:=h7;let Fu:pz K "__init__" "BadText.__init__" (mt p.1 p.2) f _:=Hk h2 h3 h4;show#[C,f,_,_,_,bL X G h1,h1,λbase lU rZ=>#[_,_,_,_,YW lU rZ h1 h6 h2 h5,pR],#[a1,a2,a3,a4,a5,a6],Fu,Hw tr.sc,tr.bo,tr.lo,Fu.binds tr.bi,a7,λx C' hx vk=>?_];let h9:=br (bw.mp h8 x hx);let e2:A8 K x=C':=by unfold A8;rw[show PySem.W.nsIn K mainGlobals x=_ from vk]
  rw[e2] at h9;show h9
end
end M
namespace M
open PySem L2
variable{g g' g1:G}{i j r v:Int}{o o':O}{n k m a b q p u c B m0:Nat}{Q:KD}{E:KX}{N:Ends}{ns go on iz ups:@&Int}{α:Type}{x f w t row fr:Str}{y:D}{kb:Bool->Prop}{s s1 s':cH}{dd:Dd}{ms:@&(Nat×cH)}{ds us:@&Dd}{H U:@&Ent}{rs rest:@&Str}
set_option hygiene false
local macro_rules|`(tactic|delta $x:ident)=>`(tactic|dsimp[$x:ident,d5,List.replicate])
open Lean Parser.Tactic in
local macro_rules|`(tactic|walk_at"w1")=>do
 let q<-`(?_)
 let N:=fun k (l:List Syntax)=>Syntax.node .none k l.toArray
 let a:Array (TSyntax ``tacticSeq):=([`Qn,`B6,`KP,`K2,`bI2,`Iu,`Wq,`bH8,`KN,`J7,`Cz,`w_lit,`vH,`By,`b74,`bH9,`Wm,`w_and,`w_or,`w_not,`w_ite,`Qm,`bI1,`Wn,`KO,`za,`bH7,`ZI,`bH6,`KR,`KS,`b71,`b70,`ZH,`US,`UR,`UQ,`UP,`b67,`Kb,`b68,`b57,`b66,`b63,`b61,`b62,`b59,`b58,`b60,`uf,`b65,`b64,`JR,`JS,`HN,`b77,`bG3,`bU2,`oz,`Z5,`LB,`LC,`b30,`CJ,`bL1,`bL3,`IE,`b25,`KI].map fun n=>⟨N ``tacticSeq [N ``tacticSeq1Indented [mkNullNode [N ``refine [mkAtom "refine",Syntax.mkApp (mkIdent n) [q].toArray]].toArray]]⟩).toArray
 `(tactic|with_reducible first|(refine w_var (d:=?_) ?_ ?_;rotate_left;·with_unfolding_all rfl)$[|$a]*)
local macro_rules|`(tactic|walk_at"w2")=>`(tactic|repeat(with_reducible first|walk_at "w1"|refine GW (by simp) ?_|refine GV (by simp) ?_|refine v7 (a9 (by assumption)) (by with_unfolding_all rfl) ?_|refine B1 (a9 (by assumption)) ?_|refine BC (by unfold qT;decide) ?_))
open Lean Parser.Tactic in
local macro_rules|`(tactic|walk_at"")=>do
 let q<-`(?_)
 let N:=fun k (l:List Syntax)=>Syntax.node .none k l.toArray
 let a:Array (TSyntax ``tacticSeq):=([`Wo,`Iv,`bI0,`b56,`IB,`IA,`max2,`min2,`b39,`ph,`Uq,`b45,`A3,`i_n].map fun n=>⟨N ``tacticSeq [N ``tacticSeq1Indented [mkNullNode [N ``refine [mkAtom "refine",Syntax.mkApp (mkIdent n) [q].toArray]].toArray]]⟩).toArray
 `(tactic|repeat(with_reducible first|walk_at "w1"|refine GW (by simp) ?_|refine GV (by simp) ?_|refine v7 (a9 (by assumption)) (by with_unfolding_all rfl) ?_|refine B1 (a9 (by assumption)) ?_|refine BC (by unfold qT;decide) ?_|refine And.intro (show List.length _ <= 1000 from by simp) ?_|refine FT (by with_unfolding_all rfl) ?_|refine Fn (by with_unfolding_all rfl) ?_|refine And.intro (S1 (by assumption)) ?_|refine And.intro (bR9 (by assumption)) ?_|refine And.intro (Sd (by assumption)) ?_|refine Y4 (by decide) ?_|refine GN (by decide) (by decide) ?_$[|$a]*))
set_option hygiene true
@[inline]abbrev eN(a:ME):ME:=.cons a .nil
@[inline]abbrev pZ(a b:ME):ME:=.cons a (.cons b .nil)
@[inline]abbrev Io(a b c:ME):ME:=.cons a (.cons b (.cons c .nil))
@[inline]abbrev zM(a b c d:ME):ME:=.cons a (.cons b (.cons c (.cons d .nil)))
@[inline]abbrev Ip(a b c d e:ME):ME:=.cons a (.cons b (.cons c (.cons d (.cons e .nil))))
@[inline]abbrev zI(a b c d e f g:ME):ME:=.cons a (.cons b (.cons c (.cons d (.cons e (.cons f (.cons g .nil))))))
@[inline]abbrev jb(f:Nat)(a:ME):ME:=.call f (.cons a .nil)
@[inline]abbrev fR(f:Nat)(a b:ME):ME:=.call f (.cons a (.cons b .nil))
@[inline]abbrev qf(f:Nat)(a b c:ME):ME:=.call f (.cons a (.cons b (.cons c .nil)))
@[inline]abbrev RO(f:Nat)(a b c d:ME):ME:=.call f (.cons a (.cons b (.cons c (.cons d .nil))))
@[inline]abbrev cD(o:PySem.CmpOp)(a b:ME):ME:=.fQ (.prim (.cmp o) (.cons a (.cons b .nil)))
@[inline]abbrev cY(a:ME)(b c:MS):MS:=.seq (.ifs a b .pass) c
@[inline]abbrev vm(t:MT)(a:ME)(b c:MS):MS:=.seq (.lh t a b) c
@[inline]abbrev cE(a b:ME):ME:=.prim .ix (.cons a (.cons b .nil))
@[inline]abbrev bp(a:Int):ME:=.lit (.int a)
@[inline]abbrev bB(a:PySem.Str):ME:=.lit (.str a)
@[inline]abbrev bS(p:Pr)(a:ME):ME:=.prim p (.cons a .nil)
@[inline]abbrev bO(p:Pr)(a b:ME):ME:=.prim p (.cons a (.cons b .nil))
@[inline]abbrev cq(a:ME):MS:=.seq (.ret a) .pass
@[inline]abbrev fq(a:MS):MS:=.seq a .pass
@[inline]abbrev iA(a b:MS):MS:=.seq a b
@[inline]abbrev eJ(n:Nat)(a:ME)(b:MS):MS:=.seq (.set n a) b
@[inline]abbrev aE:ME:=.var 0
@[inline]abbrev aO:ME:=.var 1
@[inline]abbrev rH:ME:=.var 10
@[inline]abbrev bz:ME:=.var 2
@[inline]abbrev cL:ME:=.var 3
@[inline]abbrev fS:ME:=.var 4
@[inline]abbrev iV:ME:=.var 5
@[inline]abbrev jj:ME:=.var 6
@[inline]abbrev lT:ME:=.var 7
@[inline]abbrev mZ:ME:=.var 8
@[inline]abbrev tu:ME:=.var 9
@[inline]abbrev oj(a:ME)(b:MS):MS:=.seq (.expr a) b
def F9:ba:=#[2,5,(cY (.fU (cD .Lt (cE aE (bp 2)) aO) (cD .Lt (cE aE (bp 1)) (bS .len (cE aE (bp 0))))) (eJ 2 (cE (cE aE (bp 0)) (cE aE (bp 1))) (iA (.fo aE (bp 1) (bO (.bin .Add) (cE aE (bp 1)) (bp 1))) (iA (.fo aE (bp 2) (bp 0)) (fq (.ifs (cD .GtE bz (bO (.bin .Pow) (bp 10) (bp 18))) (fq (.fo aE (bp 2) bz)) (fq (.fo aE (bp 3) (bO (.bin .Mod) (bO (.bin .Add) (bO (.bin .Add) (bO (.bin .Mult) (cE aE (bp 3)) (bp 48271)) (bO (.bin .Mult) (bO (.bin .Mod) bz (bp 2147483629)) (bp 69621))) (bp 12345)) (bp 2147483647))))))))) (cY (cD .GtE (cE aE (bp 2)) aO) (eJ 3 (bO (.bin .Mod) (cE aE (bp 2)) aO) (iA (.fo aE (bp 2) (bO (.bin .FloorDiv) (cE aE (bp 2)) aO)) (cq cL))) (eJ 4 (cE aE (bp 3)) (iA (.fo aE (bp 3) (bO (.bin .Mod) (bO (.bin .Add) (bO (.bin .Add) (bO (.bin .Mult) (bO (.bin .Mod) (bO (.bin .Mult) fS fS) (bp 2147483629)) (bp 5)) (bO (.bin .Mult) fS (bp 16811))) (bp 2531011)) (bp 2147483647))) (cq (bO (.bin .Mod) (bO (.bin .Add) (bO (.bin .FloorDiv) (cE aE (bp 3)) (bp 59)) (bO (.bin .Mult) (bO (.bin .Mod) (cE aE (bp 3)) (bp 8191)) (bp 31))) aO))))))]
def uh:ba:=#[1,2,(eJ 1 (fR 4 aE (bO (.bin .Pow) (bp 10) (bp 9))) (cY (cD .Eq (fR 4 aE (bp 2)) (bp 0)) (fq (.set 1 (bO (.bin .Add) aO (bO (.bin .Pow) (bp 10) (bp 25))))) (cY (cD .Eq (fR 4 aE (bp 2)) (bp 0)) (cq (bO (.bin .Sub) (bS (.un .USub) (bp 1)) aO)) (cq aO))))]
structure j2(g:G)(d:Nat):Prop where
 ex:∃(s:Nat) (p b r:Int) (xs:@&Int),g[d]?=!.lst [.ref s,.int p,.int b,.int r]/\g[s]?=!.lst (xs.map .int)/\s<d/\0<=p/\0<=b/\0<=r/\r<2147483647
structure Gr(d:Nat)(g g':G):Prop where
 len:-g<=-g'
 old:∀i,i≠d->i< -g->g'[i]?=g[i]?
def Gr.refl(d:Nat)(g:G):Gr d g g:=#[ak _,λx x x=>rfl]
def Gr.trans{d:Nat}{g g1 g2:G}(a:Gr d g g1)(b:Gr d g1 g2):Gr d g g2:=#[aL a.len b.len,λi h1 h2=>(b.old i h1 (ax h2 a.len)).trans (a.old i h1 h2)]
def Gr.set(d:Nat)(g:G)(o:O):Gr d g (g.set d o):=#[by simp,λi h1 h2=>aH (cT h1)]
def Gr.snoc(d:Nat)(g:G)(o:O):Gr d g (g++[o]):=#[by simp,λi h1 h2=>aG h2]
def Gr.at{d:Nat}(h:Gr d g g'){i:Nat}(hi:i≠d)(e:g[i]?=!o):g'[i]?=!o:=(h.old i hi (aA.mp e).1).trans e
def l7{i:Nat}(h:g[i]?=!o):i< -g:=(aA.mp h).1
def j2.lt{d:Nat}(h:j2 g d):d< -g:=by
 let#[_,_,_,_,_,e,_]:=h.ex;show l7 e
def j2.snoc{g:G}{d:Nat}(h:j2 g d)(o:O):j2 (g++[o]) d:=by
 let#[s,p,b,r,xs,e1,e2,q]:=h.ex;show#[s,p,b,r,xs,by rw[aG (l7 e1)];show e1,by rw[aG (l7 e2)];show e2,q]
abbrev vS:MS->MS
 |.seq _ b=>b
 |x=>x
def ZS(h1:-(2 ^ 64)<i)(h2:i<2 ^ 64):ub i j:=.inl #[h1,h2]
def yR(h1:-(2 ^ 64)<j)(h2:j<2 ^ 64):ub i j:=.inr #[h1,h2]
def a64{P:gu}{d:Nat}{n:Int}{c2:Option D}(hN:N.rt=Q)(D0:j2 g d)(hn:0<n)(oG:n<1073741824)(h:∀r g',0<=r->r<n->j2 g' d->Gr d g g'->Q (.int r) g'):wpS P (vS F9.body) N [!.ref d,!.int n,c2,none,none] g E:=by
 let#[s,p,b,r,xs,e1,e2,qm,hp,hb,hr,xq]:=D0.ex;let fz:=l7 e1;subst hN;dsimp[F9,vS];walk_at "w2";show if2 (λc=>?_) (λc=>?_)
 .walk_at "w2";show Y4 hn ?_;walk_at "w2";show JU #[hn,oG] ?_;walk_at "w2";show C5 e1 (by rfl) ?_;walk_at "w2";show h _ _ (jx _ ()) (ia _ hn) #[s,p,b / n,r,xs,?_,?_,qm,hp,Int.ediv_nonneg hb (),hr,xq] (Gr.set d g _)
  .rw[aV fz];rfl
  .rw[aH (bR qm)];show e2
 .walk_at "w2";let IG:-(2 ^ 64)<r/\r<2 ^ 64:=#[by omega,by omega]
  show vK (ZS IG.1 IG.2) ?_;show Y4 ∅ ?_;show vK (yR ∅ ∅) ?_;walk_at "w2";show vK (yR ∅ ∅) ?_;walk_at "w2";show Y4 ∅ ?_;walk_at "w2";show C5 e1 (by rfl) ?_;generalize oB:(r*r % 2147483629*5+r*16811+2531011) % 2147483647=r';let q0:0<=r':=by rw[<- oB];show jx _ ∅
  let q1:r'<2147483647:=by rw[<- oB];show ia _ ∅
  let tX:(g.set d (.lst [.ref s,.int p,.int b,.int r']))[d]?=!.lst [.ref s,.int p,.int b,.int r']:=aV fz;change wpS P _ _ _ (g.set d (.lst [.ref s,.int p,.int b,.int r'])) E;walk_at "w2";show JU #[by decide,by decide] ?_;walk_at "w2";show Y4 ∅ ?_;show vK (yR ∅ ∅) ?_;walk_at "w2";show Y4 hn ?_;show h _ _ (jx _ ()) (ia _ hn) #[s,p,b,r',xs,tX,?_,qm,hp,hb,q0,q1] (Gr.set d g _);rw[aH (bR qm)];show e2
def j6{T:Nat->Option ba}(hT:T 4=!F9){d:Nat}{n:Int}(D0:j2 g d)(hn:0<n)(oG:n<1073741824)(h:∀r g',0<=r->r<n->j2 g' d->Gr d g g'->Q (.int r) g'):c9 T (k+1) 4 [.ref d,.int n] g Q E:=by
 let#[s,p,b,r,xs,e1,e2,qm,hp,hb,hr,xq]:=D0.ex;let fz:=l7 e1;show call_of hT rfl ?_;let tail:∀(g':G) (c2:Option D),j2 g' d->Gr d g g'->wpS (c9 T k) (vS F9.body) #[λx g'=>Q .aW g',Q,λx x=>False,λx x=>False] [!.ref d,!.int n,c2,none,none] g' E :=
  λg' c2 D1 gr=>a64 rfl D1 hn oG λr g2 a b c e=>h r g2 a b c (gr.trans e)
 delta F9;walk_at "w2";show if2 (λc=>?_) (λc=>?_)
 .walk_at "w2";show if2 (λc'=>?_) (λc'=>?_)
  .walk_at "w2";let mB:p.toNat< -xs:=by
    rw[ah] at c';omega
   let ea:jd (xs.map D.int) p=!.int xs[p.toNat]:=by
    have:=A2 (xs:=xs.map D.int) (by rw[aJ,av mB];rfl)
    rwa [show((p.toNat:Nat):Int)=p by omega] at this
   show v7 (a9 e2) ea ?_;generalize xs[p.toNat]=cell;walk_at "w2";show C5 e1 (by rfl) ?_;let f1:(g.set d (.lst [.ref s,.int (p+1),.int b,.int r]))[d]?=!.lst [.ref s,.int (p+1),.int b,.int r]:=aV fz;walk_at "w2";show C5 f1 (by rfl) ?_;rw[cu];let f2:(g.set d (.lst [.ref s,.int (p+1),.int 0,.int r]))[d]?=!.lst [.ref s,.int (p+1),.int 0,.int r]:=aV fz;change wpS (c9 T k) _ _ _ (g.set d (.lst [.ref s,.int (p+1),.int 0,.int r])) E;walk_at "w2";show if2 (λc2=>?_) (λc2=>?_)
   .walk_at "w2";show C5 f2 (by rfl) ?_;rw[cu];show tail _ _ #[s,p+1,cell,r,xs,aV fz,by rw[aH (bR qm)];show e2,qm,by omega,?_,hr,xq] (Gr.set d g _);let JI:(0:Int)<=10 ^ (18:Int).toNat:=by decide
    omega
   .walk_at "w2";show vK (yR ∅ ∅) ?_;walk_at "w2";show Y4 ∅ ?_;show vK (yR ∅ ∅) ?_;walk_at "w2";show Y4 ∅ ?_;walk_at "w2";show C5 f2 (by rfl) ?_;rw[cu];show tail _ _ #[s,p+1,0,_,xs,aV fz,by rw[aH (bR qm)];show e2,qm,by omega,by decide,jx _ ∅,ia _ ∅] (Gr.set d g _)
  .exact tail _ _ D0 (Gr.refl _ _)
 .exact tail _ _ D0 (Gr.refl _ _)
def Lg{T:Nat->Option ba}(hT:T 4=!F9)(Tr:T 5=!uh){d:Nat}(D0:j2 g d)(h:∀r g',j2 g' d->Gr d g g'->Q (.int r) g'):c9 T (k+2) 5 [.ref d] g Q E:=by
 show call_of Tr rfl ?_;delta uh;walk_at "w2";show j6 hT D0 ∅ ∅ λr1 g1 y y D1 G1=>?_;walk_at "w2";show j6 hT D1 ∅ ∅ λr2 g2 y y D2 G2=>?_;walk_at "w2";let Qv:=G1.trans G2;let last:∀(x:Int),wpS (c9 T (k+1)) (vS (vS uh.body)) #[λy g'=>Q .aW g',Q,λy y=>False,λy y=>False] [!.ref d,!.int x] g2 E:=λx=>by
  dsimp[uh,vS];walk_at "w2";show j6 hT D2 ∅ ∅ λr3 g3 y y D3 G3=>?_;walk_at "w2";show if2 (λc=>?_) (λc=>?_)
  .walk_at "w2";show h _ _ D3 (Qv.trans G3)
  .walk_at "w2";show h _ _ D3 (Qv.trans G3)
 show if2 (λc=>?_) (λc=>?_)
 .refine Qn ?_;show KP ?_;show vH ?_;walk_at "w1";show vH ?_;walk_at "w1";walk_at "w1";show BC (by unfold qT;decide) ?_;walk_at "w1";show last _
 .exact last _
def X7:ba:=#[1,1,(cq (.fU (bO .isin aE (.lit (.ty "int"))) (.eF (bO .isin aE (.lit (.ty "bool"))))))]
def Q4:ba:=#[3,3,(cq (.fU (jb 38 aE) (.chain .LtE .LtE aO aE bz)))]
structure NF(T:Nat->Option ba):Prop where
 nf:T 1=!Q4
 is:T 38=!X7
def BQ:ba:=#[1,1,(cq (.prim .lst (zM (bS .list (bO (.kn false true) aE (bp 63))) (bp 0) (bp 0) (bp 29))))]
def zp:ba:=#[1,1,(cq (.fU (bO .isin aE (.lit (.ty "int"))) (.eF (bO .isin aE (.lit (.ty "bool"))))))]
def F0:ba:=#[2,2,(cY (cD .Is aO (.lit .aW)) (cq (bO (.cmp .Is) aE (.lit .aW))) (cY (.fQ (bO .isin aO (.lit (.ty "bool")))) (cq (.fU (bO .isin aE (.lit (.ty "bool"))) (bO (.cmp .Eq) aE aO))) (cY (.fQ (bO .isin aO (.lit (.ty "int")))) (cq (.fU (jb 6 aE) (bO (.cmp .Eq) aE aO))) (cY (.fQ (bO .isin aO (.lit (.ty "str")))) (cq (.fU (bO .isin aE (.lit (.ty "str"))) (bO (.cmp .Eq) aE aO))) (cY (.gW (cD .NotEq (bO .isin aO (.lit (.ty "tuple"))) (bO .isin aE (.lit (.ty "tuple")))) (cD .NotEq (bO .isin aO (.lit (.ty "list"))) (bO .isin aE (.lit (.ty "list"))))) (cq (.lit (.bl false))) (cY (cD .NotEq (bS .len aE) (bS .len aO)) (cq (.lit (.bl false))) (cq (bS .all (.comp [1,0] 4 (.one 3) (.ij (bS .len aO)) .no (fR 7 (cE aO cL) (cE aE cL)))))))))))]
section
variable{T:Nat->Option ba}{d:Nat}
def aK2(h1:NF T)(h:Q (.bl true) g):c9 T (k+1) 38 [.int i] g Q E:=by
 show call_of h1.is rfl ?_;delta X7;walk_at "w2";show gP (b:=true) ∅ rfl ?_;walk_at "w2";show gP ∅ rfl ?_;walk_at "w2";show h
def F6(h1:NF T){l m:Int}(h:Q (.bl (decide (l<=i)&&decide (i<=m))) g):c9 T (k+2) 1 [.int i,.int l,.int m] g Q E:=by
 show call_of h1.nf rfl ?_;delta Q4;walk_at "w2";show aK2 h1 ?_;walk_at "w2";show if2 (λc=>?_) (λc=>?_)
 .rw[aC c] at h;walk_at "w2";show h
 .rw[az c] at h;show h
def bC3(h3:T 3=!BQ)(hg:g[a]?=!.qO (ns.map .int))(h:∀d g',j2 g' d->-g<=d->(∀i,i< -g->g'[i]?=g[i]?)->Q (.ref d) g'):c9 T (k+1) 3 [.ref a] g Q E:=by
 show call_of h3 rfl ?_;delta BQ;walk_at "w2";show bL4 (YY hg) ?_;show b26 (l:=cut (ns.map D.int) none (!63)) (a9 #[_]) ?_;walk_at "w2";let ec:cut (ns.map D.int) none (!63)=(cut ns none (!63)).map D.int:=by
  unfold cut;simp[List.map_take,List.map_drop]
 show h _ _ #[(-g)+1,0,0,29,cut ns none (!63),?_,?_,?_,by decide,by decide,by decide,by decide] #[_] (λi hi=>?_)
 .simp
 .rw[<- ec];simp
 .simp
 .simp[List.getElem?_append,hi,Nat.lt_of_lt_of_le hi (by omega:-g<=-g+1),Nat.lt_of_lt_of_le hi (by omega:-g<=-g+1+1)]
end
def P9{l:List α}(h0:0<=r)(h1:r< -l):∃v,jd l r=!v/\v∈l:=by
 let hi:r.toNat< -l:=by omega
 show#[l[r.toNat],?_,dB hi];have:=A2 (av hi)
 rwa [show((r.toNat:Nat):Int)=r by omega] at this
section
variable{T:Nat->Option ba}
def NT(h7:T 7=!F0){a b:Bool}(h:Q (.bl (a==b)) g):c9 T (k+1) 7 [.bl a,.bl b] g Q E:=by
 show call_of h7 rfl ?_;delta F0;walk_at "w2";walk_at "w2";show gP (c:="bool") (b:=true) ∅ rfl ?_;walk_at "w2";show gP (c:="bool") (b:=true) ∅ rfl ?_;walk_at "w2";show h
end
def d6:(g++[o])[(-g)]?=!o:=by simp
def P6{i:Nat}(h:g[i]?=!o):(g++[o'])[i]?=!o:=by rw[aG (l7 h)];show h
def get_set{i:Nat}(h:g[i]?=!o):(g.set i o')[i]?=!o':=aV (l7 h)
def d4{i j:Nat}(h:g[i]?=!o)(hn:j≠i):(g.set j o')[i]?=!o:=by rw[aH hn];show h
def N3:ba:=#[1,1,(fq (.ifs (.eF (.fQ (qf 1 aE (bp 1) (bp 9)))) (fq (.raise "BadAnvils" (eN (bB "there are from one to nine anvils")))) .pass))]
def BP:ba:=#[2,2,(cY (cD .Eq (fR 4 aE (bp 12)) (bp 7)) (cq (jb 5 aE)) (cq (bO (.bin .Sub) (fR 4 aE (bO (.bin .Add) aO (bp 4))) (bp 2))))]
def T8:ba:=#[1,1,(fq (.ifs (cD .NotIn aE (.lit (.tup [(.str "lower"),(.str "upper")]))) (fq (.raise "BadSide" (eN (bB "a side is lower or upper")))) .pass))]
structure Ex(g g':G):Prop where
 len:-g<=-g'
 old:∀i,i< -g->g'[i]?=g[i]?
def Ex.refl(g:G):Ex g g:=#[ak _,λx x=>rfl]
def Ex.trans{g g1 g2:G}(a:Ex g g1)(b:Ex g1 g2):Ex g g2:=#[aL a.len b.len,λi h=>(b.old i (ax h a.len)).trans (a.old i h)]
def Ex.snoc(g:G)(o:O):Ex g (g++[o]):=#[by simp,λi h=>aG h]
def Ex.at(h:Ex g g'){i:Nat}(e:g[i]?=!o):g'[i]?=!o:=(h.old i (l7 e)).trans e
def Ex.gr(h:Ex g g')(d:Nat):Gr d g g':=#[h.len,λi x h2=>h.old i h2]
def Ex.draw{d:Nat}(h:Ex g g')(D0:j2 g d):j2 g' d:=by
 let#[s,p,b,r,xs,e1,e2,q]:=D0.ex;show#[s,p,b,r,xs,h.at e1,h.at e2,q]
inductive C9(g:G):Nat->D->D->Prop
 |aW {n:Nat}:C9 g n .aW .aW
 |bl {n:Nat} (b:Bool):C9 g n (.bl b) (.bl b)
 |int {n:Nat} (i:Int):C9 g n (.int i) (.int i)
 |str {n:Nat} (x:Str):C9 g n (.str x) (.str x)
 |tup {n:Nat} {l m:@&D} (hl:-l=-m) (h:∀(i:Nat) x y,l[i]?=!x->m[i]?=!y->C9 g n x y) (hz:-m<=1000):C9 g (n+1) (.tup l) (.tup m)
 |lst {n a b:Nat} {l m:@&D} (ha:g[a]?=!.lst l) (hb:g[b]?=!.lst m) (hl:-l=-m) (h:∀(i:Nat) x y,l[i]?=!x->m[i]?=!y->C9 g n x y) (hz:-m<=1000):C9 g (n+1) (.ref a) (.ref b)
def C9.ex(e:Ex g g'){x:D}(h:C9 g n x y):C9 g' n x y:=by
 induction h with
 |aW=>show .aW
 |bl b=>show .bl b
 |int i=>show .int i
 |str x=>show .str x
 |tup hl h hz ih=>show .tup hl ih hz
 |lst ha hb hl h hz ih=>show .lst (e.at ha) (e.at hb) hl ih hz
section
variable{T:Nat->Option ba}
def PL(h6:T 6=!zp)(h:Q (.bl true) g):c9 T (k+1) 6 [.int i] g Q E:=by
 show call_of h6 rfl ?_;delta zp;exists gP (b:=true) ∅ rfl ?_;exists gP ∅ rfl ?_;left;show h
abbrev bD8:MS:=match F0.body with
 |.seq _ (.seq _ (.seq _ (.seq _ (.seq _ b))))=>b
 |x=>x
def Zf(h6:T 6=!zp)(h7:T 7=!F0):∀(n:Nat) {k:Nat} {g:G} {x y:D} {Q:KD} {E:KX},C9 g n x y->(∀g',Ex g g'->Q (.bl true) g')->c9 T (k+n+2) 7 [x,y] g Q E:=by
 let wK:∀(n:Nat),(∀{k:Nat} {g:G} {x y:D} {Q:KD} {E:KX},C9 g n x y->(∀g',Ex g g'->Q (.bl true) g')->c9 T (k+n+2) 7 [x,y] g Q E) ->
   ∀{k:Nat} {g:G} {x y:D} {l m:@&D} {Q:KD} {E:KX},(∀g',Ex g g'->E2 g' x=!l)->(∀g',Ex g g'->E2 g' y=!m)->-l=-m->-m<=1000->(∀(i:Nat) x y,l[i]?=!x->m[i]?=!y->C9 g n x y)->(∀g',Ex g g'->Q (.bl true) g') ->
   wpS (c9 T (k+n+2)) bD8 #[λv g'=>Q .aW g',Q,λv v=>False,λv v=>False] [!x,!y] g E:=by
  intro n ih k g x y l m Q E hx hy hl hz hs hQ;let len:∀(z:D) (l:@&D) (g':G) (Q':KD),E2 g' z=!l->Q' (.int (-l)) g'->cC .len [z] g' Q':=λz l g' Q' e q=>#[_,_,#[rfl,.inl #[z,l,rfl,e,rfl]],q]
  show B6 (KN (KS (vH (By (w_var rfl (len _ _ _ _ (hx g (Ex.refl g)) ?_))))));show By (w_var rfl (len _ _ _ _ (hy g (Ex.refl g)) ?_));show Kb ?_;rw[hl,aC rfl];exists J8 (d9 T _) (Lz (d9 T _) ?_);show By (w_var rfl (len _ _ _ _ (hy g (Ex.refl g)) ?_));show#[_,rfl,by omega,by omega,o7 0 (-m),λi ys σ g'=>∃z w,ys=List.replicate i (.bl true)/\σ=[!y,!x,z,w]/\Ex g g',by rw[L6];show hz,λi ys σ g' p=>#[J9,?_],#[none,none,rfl,rfl,Ex.refl g],λi z ys σ g' hz p=>?_,λys σ g' p=>?_]
  .let#[z,w,rfl,_]:=p;simp
  .let#[z,w,rfl,rfl,e]:=p;let#[hi,rfl]:=P1 hz;let h1:l[i]?=some l[i]:=av ();let h2:=av hi;let a1:jd l (0+(i:Int))=some l[i]:=by rw[Int.zero_add];show A2 h1
   let a2:jd m (0+(i:Int))=some m[i]:=by rw[Int.zero_add];show A2 h2
   change fk _ _ _ _ _ _;show KR (oz (Qm (za (vH (w_var rfl (w_var rfl #[_,_,#[rfl,.inl #[_,l,_,rfl,hx g' e,a1]],?_]))))));show za (vH (w_var rfl (w_var rfl #[_,_,#[rfl,.inl #[_,m,_,rfl,hy g' e,a2]],?_])));show KO (ih ((hs i _ _ h1 h2).ex e) λg2 e2=>?_);show#[_,_,by rw[List.replicate_succ'],rfl,e.trans e2]
  .let#[z,w,rfl,rfl,e]:=p;show JW (a9 d6) ?_ (hQ _ (e.trans (Ex.snoc _ _)));have:List.replicate (o7 0 (-m)).length (D.bl true)=(List.replicate (o7 0 (-m)).length true).map D.bl:=by simp
   rw[this,Px];simp
 intro n
 induction n with
 |zero =>
  intro k g x y Q E h hQ;let h0:=hQ g (Ex.refl g);cases h with
  |aW =>
   show call_of h7 rfl ?_;delta F0;left;show h0
  |bl b=>show NT h7 (_/h0)
  |int i =>
   show call_of h7 rfl ?_;delta F0;exists gP (c:="bool") (b:=false) ∅ rfl ?_;exists gP (c:="int") (b:=true) ∅ rfl ?_;exists PL h6 ?_;left;simpa using h0
  |str x =>
   show call_of h7 rfl ?_;delta F0;exists gP (c:="bool") (b:=false) ∅ rfl ?_;exists gP (c:="int") (b:=false) ∅ rfl ?_;exists gP (c:="str") (b:=true) ∅ rfl ?_;exists gP (c:="str") (b:=true) ∅ rfl ?_;left;simpa using h0
 |succ n ih =>
  intro k g x y Q E h hQ;let h0:=hQ g (Ex.refl g);cases h with
  |aW =>
   show call_of h7 rfl ?_;delta F0;left;show h0
  |bl b=>show NT h7 (_/h0)
  |int i =>
   show call_of h7 rfl ?_;delta F0;exists gP (c:="bool") (b:=false) ∅ rfl ?_;exists gP (c:="int") (b:=true) ∅ rfl ?_;exists PL h6 ?_;left;simpa using h0
  |str x =>
   show call_of h7 rfl ?_;delta F0;exists gP (c:="bool") (b:=false) ∅ rfl ?_;exists gP (c:="int") (b:=false) ∅ rfl ?_;exists gP (c:="str") (b:=true) ∅ rfl ?_;exists gP (c:="str") (b:=true) ∅ rfl ?_;left;simpa using h0
  |@tup _ l m hl hs hz =>
   show call_of h7 rfl ?_;let body:=wK n ih (k:=k) (x:=.tup l) (y:=.tup m) (E:=E) (λv v=>rfl) (λv v=>rfl) hl hz hs hQ;delta F0;exists gP (c:="bool") (b:=false) ∅ rfl ?_;exists gP (c:="int") (b:=false) ∅ rfl ?_;exists gP (c:="str") (b:=false) ∅ rfl ?_;exists gP (c:="tuple") (b:=true) ∅ rfl ?_;exists gP (c:="tuple") (b:=true) ∅ rfl ?_;exists cc rfl ?_;exists gP (c:="list") (b:=false) ∅ rfl ?_;exists gP (c:="list") (b:=false) ∅ rfl ?_;exists cc rfl (J7 ?_);show body
  |@lst _ a b l m ha hb hl hs hz =>
   show call_of h7 rfl ?_;let body:=wK n ih (k:=k) (x:=.ref a) (y:=.ref b) (E:=E) (λg' e=>a9 (e.at ha)) (λg' e=>a9 (e.at hb)) hl hz hs hQ;let ta:∀c,si g (.ref a) c=!(c=="list"):=λc=>by simp only[si,ha]
   let tb:∀c,si g (.ref b) c=!(c=="list"):=λc=>by simp only[si,hb]
   delta F0;exists gP (c:="bool") (b:=false) ∅ (tb _) ?_;exists gP (c:="int") (b:=false) ∅ (tb _) ?_;exists gP (c:="str") (b:=false) ∅ (tb _) ?_;exists gP (c:="tuple") (b:=false) ∅ (tb _) ?_;exists gP (c:="tuple") (b:=false) ∅ (ta _) ?_;exists cc rfl ?_;exists gP (c:="list") (b:=true) ∅ (tb _) ?_;exists gP (c:="list") (b:=true) ∅ (ta _) ?_;exists cc rfl (J7 ?_);show body
end
section
variable{T:Nat->Option ba}
def WR(hx:PyData.strOk x=true)(h:kb (decide (x="lower")||decide (x="upper"))):uT g (.str x) (.tup [.str "lower",.str "upper"]) kb:=by
 show#[_,.inr #[_,[.str "lower",.str "upper"],.str x,rfl,rfl,rfl,by decide +kernel,by show hx,rfl],?_];let e:∀y:Str,PyData.eqv (.str y) (.str x)=decide (x=y):=λy=>by
  simp only[PyData.eqv];rw[cv,fO,bD];show eq_comm
 simp only[List.any_cons,List.any_nil,Bool.or_false,e];show h
def aB1(Eo:T 40=!T8)(ho:PyData.strOk x=true)(h1:x="lower"\/x="upper"->Q .aW g)(h3:x≠"lower"->x≠"upper"->E #["BadSide"] g):c9 T (k+1) 40 [.str x] g Q E:=by
 show call_of Eo rfl ?_;delta T8;exists Q9 (WR ho ?_);left;by_cases e:x="lower"\/x="upper"
 .refine cc (by rw[eM,eQ,bD,bD];show e) ?_;show h1 e
 .refine eR (by rw[cj,jR,aF,aF];show not_or.mp e) ?_;left;show h3 (λz=>e (.inl z)) (λz=>e (.inr z))
end
def BR:ba:=#[1,1,(cY (cD .Eq (fR 4 aE (bp 14)) (bp 9)) (cq (cE (.prim .lst (zM (bB "") (bB "Lower") (bB "both") (bB "upper "))) (fR 4 aE (bp 4)))) (cq (cE (bO .lst (bB "lower") (bB "upper")) (fR 4 aE (bp 2)))))]
section
variable{T:Nat->Option ba}{d:Nat}
def Oy(h4:T 4=!F9)(Av:T 29=!BR)(D0:j2 g d)(h:∀x g',PyData.strOk x=true->j2 g' d->Gr d g g'->Q (.str x) g'):c9 T (k+2) 29 [.ref d] g Q E:=by
 show call_of Av rfl ?_;delta BR;exists j6 h4 D0 ∅ ∅ λr g1 y y D1 G1=>?_;exists if2 (λc=>?_) (λc=>?_)
 .exists j6 h4 (D1.snoc _) ∅ ∅ λr g2 r0 r1 D2 G2=>?_;let e2:=G2.at (i:=-g1) (by have:=D1.lt;omega) (o:=.lst (([("":Str),("Lower":Str),("both":Str),("upper ":Str)]:@&Str).map D.str)) #[_];let#[v,hv,hm]:=P9 (l:=([("":Str),("Lower":Str),("both":Str),("upper ":Str)]:@&Str).map D.str) r0 (_/r1);let#[x,hx,rfl]:=aI.mp hm;show v7 (a9 e2) hv ?_;exists h x g2 ?_ D2 (G1.trans ((Gr.snoc _ _ _).trans G2));simp only[List.mem_cons,List.mem_nil_iff,or_false] at hx;rcases hx with rfl|rfl|rfl|rfl<;>decide +kernel
 .exists j6 h4 (D1.snoc _) ∅ ∅ λr g2 r0 r1 D2 G2=>?_;let e2:=G2.at (i:=-g1) (by have:=D1.lt;omega) (o:=.lst (([("lower":Str),("upper":Str)]:@&Str).map D.str)) #[_];let#[v,hv,hm]:=P9 (l:=([("lower":Str),("upper":Str)]:@&Str).map D.str) r0 (_/r1);let#[x,hx,rfl]:=aI.mp hm;show v7 (a9 e2) hv ?_;exists h x g2 ?_ D2 (G1.trans ((Gr.snoc _ _ _).trans G2));simp only[List.mem_cons,List.mem_nil_iff,or_false] at hx;rcases hx with rfl|rfl<;>decide +kernel
end
def Ml(ha:g[a]?=!.lst [.str "lower",.str "upper"])(hx:PyData.strOk x=true)(h:kb (decide (x="lower")||decide (x="upper"))):uT g (.str x) (.ref a) kb:=by
 show#[_,.inr #[_,[.str "lower",.str "upper"],.str x,a9 ha,rfl,rfl,by simp only[PyData.canLayAll0,PyData.canLay0,Bool.and_true];decide +kernel,by simp only[PyData.canLay0];show hx,rfl],?_];let e:∀y:Str,PyData.eqv (.str y) (.str x)=decide (x=y):=λy=>by
  simp only[PyData.eqv];rw[cv,fO,bD];show eq_comm
 simp only[List.any_cons,List.any_nil,Bool.or_false,e];show h
def Gs:ba:=#[2,2,(fq (.ifs (.eF (.fQ (qf 1 aO (bp 1) (bS .len aE)))) (fq (.raise "NoDie" (eN (bB "no such die was cut")))) .pass))]
def vX:ba:=#[1,1,(cq (.pj (.cons (bB "seats") (.cons (bO (.bin .Mult) (bS .lst (.lit .aW)) aE) (.cons (bB "lower") (.cons (.prim .lst .nil) (.cons (bB "upper") (zI (.prim .lst .nil) (bB "gone") (.prim .lst .nil) (bB "year") (bp 0) (bB "coins") (.prim .lst .nil)))))))))]
def BL:ba:=#[2,2,(cY (cD .NotIn aO (bO .lst (bB "lower") (bB "upper"))) (cq (bO .tup (bB "BadSide") (.lit .aW))) (cY (cD .Gt (bS .len (cE aE aO)) (bp 98)) (cq (bO .tup (bB "Full") (.lit .aW))) (oj (.cK .append (cE aE aO) (eN (.prim .tup .nil))) (cq (bO .tup (bB "") (bS .len (cE aE aO)))))))]
def X6:ba:=#[2,2,(oj (jb 42 aO) (iA (.fb "bench" ["Mint"] aE (bO (.bin .Mult) (bS .tup (.lit .aW)) aO)) (iA (.fb "laid_off" ["Mint"] aE (.prim .tup .nil)) (iA (.fb "lower_wear" ["Mint"] aE (.prim .tup .nil)) (iA (.fb "upper_wear" ["Mint"] aE (.prim .tup .nil)) (iA (.fb "present" ["Mint"] aE (bp 0)) (fq (.fb "output" ["Mint"] aE (.prim .tup .nil)))))))))]
def Y8:ba:=#[2,2,(oj (jb 40 aO) (cY (cD .Eq aO (bB "lower")) (cq (bS (.fld "lower_wear") aE)) (cq (bS (.fld "upper_wear") aE))))]
def V7:ba:=#[3,3,(fq (.ifs (cD .Eq aO (bB "lower")) (fq (.fb "lower_wear" ["Mint"] aE bz)) (fq (.fb "upper_wear" ["Mint"] aE bz))))]
def FZ:ba:=#[2,3,(eJ 2 (.cA "wear_of" [("Mint",52)] aE (eN aO)) (cY (cD .Eq (bS .len bz) (bp 99)) (fq (.raise "Full" (eN (bB "no more dies of that side are cut")))) (oj (.cA "put_wear" [("Mint",53)] aE (pZ aO (bO (.bin .Add) bz (bS .tup (.prim .tup .nil))))) (cq (bO (.bin .Add) (bS .len bz) (bp 1))))))]
def Z1:ba:=#[1,1,(cq (bS .list (bS (.fld "bench") aE)))]
def Mr:ba:=#[2,2,(cq (bS .len (.cA "wear_of" [("Mint",52)] aE (eN aO))))]
def GH:ba:=#[3,4,(eJ 3 (.cA "wear_of" [("Mint",52)] aE (eN aO)) (oj (fR 43 cL bz) (cq (cE cL (bO (.bin .Sub) bz (bp 1))))))]
def GI:ba:=#[2,2,(oj (fR 43 (bS (.fld "lower_wear") aE) aO) (cY (cD .In aO (bS (.fld "bench") aE)) (cq (bB "fixed")) (cY (cD .In aO (bS (.fld "laid_off") aE)) (cq (bB "gone")) (cq (bB "new")))))]
def Mt:ba:=#[1,1,(cq (bS (.fld "present") aE))]
def Nk:ba:=#[1,1,(cq (bS .len (bS (.fld "output") aE)))]
def Mq:ba:=#[2,2,(cY (.eF (.fQ (qf 1 aO (bp 0) (bO (.bin .Sub) (bS .len (bS (.fld "output") aE)) (bp 1))))) (fq (.raise "NoCoin" (eN (bB "no coin has that number")))) (cq (cE (bS (.fld "output") aE) aO)))]
noncomputable abbrev Iy(a:Nat):D:=.tup (List.replicate a (.tup []))
def GR(be la:D)(a b:Nat):O:=.ins "Mint" [("bench",be),("laid_off",la),("lower_wear",Iy a),("upper_wear",Iy b),("present",.int 0),("output",.tup [])]
noncomputable abbrev GQ(n a b:Nat):O:=GR (.tup (List.replicate n .aW)) (.tup []) a b
def F3{v:D}{fs:@&(Str×D)}(h:-fs<n):(x8 f v fs).length<n+1:=by
 induction fs generalizing n with
 |nil=>simp[x8];omega
 |cons p r ih =>
  let#[y,z]:=p;simp only[x8];split
  .simp at h ⊢;omega
  .have:=ih (n:=n-1) (by simp at h;omega);simp at h ⊢;omega
structure TM(T:Nat->Option ba):Prop where
 nf:NF T
 Eo:T 40=!T8
 JG:T 42=!N3
 Ud:T 43=!Gs
 JF:T 51=!X6
 Ub:T 52=!Y8
 Ua:T 53=!V7
 TZ:T 54=!FZ
 TJ:T 60=!Z1
 h61:T 61=!Mr
 TH:T 62=!GH
 TF:T 63=!GI
 TC:T 64=!Mt
 h65:T 65=!Nk
 h66:T 66=!Mq
section
variable{T:Nat->Option ba}
def a13(hT:TM T)(h1:1<=v/\v<=9->Q .aW g)(h2:¬(1<=v/\v<=9)->E #["BadAnvils"] g):c9 T (k+3) 42 [.int v] g Q E:=by
 show call_of hT.JG rfl ?_;delta N3;exists F6 hT.nf ?_;left;by_cases hv:1<=v/\v<=9
 .rw[aC hv.1,aC hv.2];left;show h1 hv
 .have:(decide (1<=v)&&decide (v<=9))=false:=by
   rw[gp,aF,aF];show dS.mp hv
  rw[this];left;show h2 hv
def NO(hT:TM T)(hm:g[m]?=!(.ins "Mint" []))(h1:∀n:Nat,v=n->1<=n->n<=9->Q .aW (g.set m (GQ n 0 0)))(h2:¬(1<=v/\v<=9)->E #["BadAnvils"] g):c9 T (k+4) 51 [.ref m,.int v] g Q E:=by
 show call_of hT.JF rfl ?_;delta X6;exists a13 hT (λhv=>?_) h2;exists ZQ #[_] hv.1 () (by simp;omega) ?_;exists u3 hm #[_] #[_] ?_;exists u3 (get_set hm) #[_] (by repeat (first|(simp;done)|show F3 ?_)) ?_;rw[cu];exists u3 (get_set hm) #[_] (by repeat (first|(simp;done)|show F3 ?_)) ?_;rw[cu];exists u3 (get_set hm) #[_] (by repeat (first|(simp;done)|show F3 ?_)) ?_;rw[cu];exists u3 (get_set hm) #[_] (by repeat (first|(simp;done)|show F3 ?_)) ?_;rw[cu];exists u3 (get_set hm) #[_] (by repeat (first|(simp;done)|show F3 ?_)) ?_;rw[cu];left;obtain⟨n,rfl⟩:∃n:Nat,v=n:=#[v.toNat,by omega]
 have:=h1 n rfl () ();let e:(List.replicate (Int.toNat (n:Int)) [D.aW]).flatten=List.replicate n .aW:=by
  rw[cG,lM]
 rw[e];show this
def Nq(hT:TM T){l:@&D}(h1:1<=v/\v<=-l->Q .aW g)(h2:¬(1<=v/\v<=-l)->E #["NoDie"] g):c9 T (k+3) 43 [.tup l,.int v] g Q E:=by
 show call_of hT.Ud rfl ?_;delta Gs;exists F6 hT.nf ?_;left;by_cases hv:1<=v/\v<=-l
 .rw[aC hv.1,aC hv.2];left;show h1 hv
 .have:(decide (1<=v)&&decide (v<=(-l:Int)))=false:=by
   rw[gp,aF,aF];show dS.mp hv
  rw[this];left;show h2 hv
end
def T6:ba:=#[3,3,(cq (bO (.bin .Add) (bO (.bin .Add) (bO (.kn false true) aE aO) (bS .tup bz)) (bO (.kn true false) aE (bO (.bin .Add) aO (bp 1)))))]
def F':ba:=#[2,4,(eJ 2 (.cA "state" [("Mint",63)] aE (eN aO)) (cY (cD .Eq bz (bB "fixed")) (fq (.raise "Fixed" (eN (bB "the die is on an anvil")))) (cY (cD .Eq bz (bB "gone")) (fq (.raise "Gone" (eN (bB "the die was laid off")))) (cY (cD .NotIn (.lit .aW) (bS (.fld "bench") aE)) (fq (.raise "NoAnvil" (eN (bB "no anvil is free")))) (eJ 3 (.cK .index (bS (.fld "bench") aE) (eN (.lit .aW))) (iA (.fb "bench" ["Mint"] aE (qf 177 (bS (.fld "bench") aE) cL aO)) (cq cL)))))))]
def Z0:ba:=#[2,3,(cY (cD .NotEq (.cA "state" [("Mint",63)] aE (eN aO)) (bB "fixed")) (fq (.raise "NotFixed" (eN (bB "the die is on no anvil")))) (eJ 2 (.cK .index (bS (.fld "bench") aE) (eN aO)) (iA (.fb "bench" ["Mint"] aE (qf 177 (bS (.fld "bench") aE) bz (.lit .aW))) (iA (.lr "laid_off" ["Mint"] aE (bS .tup aO)) (cq bz)))))]
def n8(x:D):Prop:=x=.aW\/∃i,x=.int i
def iL(y z:D):Bool:=mF (toV z) (toV y)
abbrev mr:D->PyData
 |.int i=>.int i
 |_=>.none
def Ou{x:D}(h:n8 x):rd g n x=!mr x:=by
 rcases h with rfl|⟨i,rfl⟩<;>cases n<;>rfl
def Pk{x:D}(h:n8 x):(mr x).canLay0=true:=by
 rcases h with rfl|⟨i,rfl⟩<;>simp[mr,PyData.canLay0]
def Yc{x:D}(hx:n8 x)(hy:n8 y):PyData.eqv (mr x) (mr y)=iL y x:=by
 rcases hx with rfl|⟨i,rfl⟩<;>rcases hy with rfl|⟨j,rfl⟩<;>simp[mr,PyData.eqv,iL,mF,toV]
def Yd{l:@&D}(h:∀x∈l,n8 x):sT g l=!l.map mr:=by
 unfold sT
 induction l with
 |nil=>rfl
 |cons x r ih =>
  rw[pU,Ou (h x #[_]),ih λz hz=>h z (by simp[hz])]
  rfl
def a55{l:@&D}(h:∀x∈l,n8 x):PyData.canLayAll0 (l.map mr)=true:=by
 induction l with
 |nil=>rfl
 |cons x r ih =>
  rw[aQ];simp only[PyData.canLayAll0,Pk (h x #[_]),ih λz hz=>h z (by simp[hz])]
  rfl
def v8{x:D}{l:@&D}(hi:E2 g x=!l)(hl:∀z∈l,n8 z)(hy:n8 y)(h:kb (l.any (iL y))):uT g y x kb:=by
 show#[_,.inr #[l,l.map mr,mr y,hi,Yd hl,Ou hy,a55 hl,Pk hy,rfl],?_];let e:((l.map mr).any λq=>PyData.eqv q (mr y))=l.any (iL y):=by
  rw[lN];clear h hi
  induction l with
  |nil=>rfl
  |cons z r ih =>
   rw[eT,eT,ih λw hw=>hl w (by simp[hw])];show(PyData.eqv (mr z) (mr y)||_)=_;rw[Yc (hl z #[_]) hy]
 rw[e];show h
def U5{z:D}(hy:n8 y)(hz:n8 z):iL y z=true↔z=y:=by
 rcases hy with rfl|⟨i,rfl⟩<;>rcases hz with rfl|⟨j,rfl⟩<;>simp[iL,mF,toV]
def Mz{x:D}(h:n8 x):vM x=true:=by rcases h with rfl|⟨i,rfl⟩<;>rfl
def WK{l:@&D}(hl:∀z∈l,n8 z)(hy:n8 y)(h:l.any (iL y)=true):∃n,S7 l y n/\n< -l/\l[n]?=!y:=by
 let nk:l.all vM=true:=bw.mpr λx hx=>Mz (hl x hx)
 suffices ∃n,n< -l/\l[n]?=!y/\∀(m:Nat) z,m<n->l[m]?=!z->mF (toV z) (toV y)=false by
  let#[n,h1,h2,h3]:=this;show#[n,#[nk,Mz hy,#[y,h2,(U5 hy hy).mpr rfl],h3],h1,h2]
 clear nk
 induction l with
 |nil=>simp at h
 |cons x r ih =>
  cases e:iL y x with
  |true =>
   have:=(U5 hy (hl x #[_])).mp e;subst this;show#[0,by simp,rfl,λm z hm=>absurd hm ()]
  |false =>
   rw[eT,e,sI] at h;let#[n,h1,h2,h3]:=ih (λz hz=>hl z (by simp[hz])) h;show#[n+1,by simpa using h1,by simpa using h2,λm z hm hz=>?_];cases m with
   |zero=>cases hz;show e
   |succ m=>show h3 m z () (_/hz)
def b53{l:List α}:cut l (!(n:Int)) none=l.drop n:=by
 have:¬((n:Int)<0):=by omega
 unfold cut HT.dW;simp[this];by_cases h:n<=-l
 .rw[js h,dh #[_]]
 .rw[Nat.min_eq_right (),wx (ak _),wx ()];simp
def b54{l:List α}:cut l none (!(n:Int))=l.take n:=by
 have:¬((n:Int)<0):=by omega
 unfold cut HT.dW;simp[this]
section
variable{T:Nat->Option ba}
def S8(oP:T 177=!T6){l:@&D}{x:D}(hn:n< -l)(hz:-l<=1000)(h:Q (.tup (l.set n x)) g):c9 T (k+1) 177 [.tup l,.int n,x] g Q E:=by
 show call_of oP rfl ?_;delta T6;left;rw[b54];show BE (by simp;omega) ?_;left;rw[show((n:Int)+1)=((n+1:Nat):Int) by omega,b53];show BE (by simp;omega) ?_;let e:l.take n++[x]++l.drop (n+1)=l.set n x:=by
  rw[List.set_eq_take_append_cons_drop,au hn];simp
 rw[e];show h
def L7{go:@&Int}:∀z∈go.map D.int,n8 z:=λz hz=>by
 let#[i,_,rfl]:=aI.mp hz;show .inr #[i,rfl]
end
def BN:ba:=#[2,3,(cY (.eF (.fQ (.chain .LtE .LtE (bp 1) aO (bS .len (cE aE (bB "lower")))))) (cq (bO .tup (bB "NoDie") (.lit .aW))) (cY (cD .In aO (cE aE (bB "seats"))) (cq (bO .tup (bB "Fixed") (.lit .aW))) (cY (cD .In aO (cE aE (bB "gone"))) (cq (bO .tup (bB "Gone") (.lit .aW))) (cY (cD .NotIn (.lit .aW) (cE aE (bB "seats"))) (cq (bO .tup (bB "NoAnvil") (.lit .aW))) (eJ 2 (.cK .index (cE aE (bB "seats")) (eN (.lit .aW))) (iA (.fo (cE aE (bB "seats")) bz aO) (cq (bO .tup (bB "") bz))))))))]
def BO:ba:=#[2,3,(cY (.eF (.fQ (.chain .LtE .LtE (bp 1) aO (bS .len (cE aE (bB "lower")))))) (cq (bO .tup (bB "NoDie") (.lit .aW))) (cY (cD .NotIn aO (cE aE (bB "seats"))) (cq (bO .tup (bB "NotFixed") (.lit .aW))) (eJ 2 (.cK .index (cE aE (bB "seats")) (eN aO)) (iA (.fo (cE aE (bB "seats")) bz (.lit .aW)) (oj (.cK .append (cE aE (bB "gone")) (eN aO)) (cq (bO .tup (bB "") bz)))))))]
def aL2{l:@&D}{n':Nat}(h:S7 l y n)(h':S7 l y n'):n=n':=by
 let#[_,_,#[z,hz,ez],hn]:=h;let#[_,_,#[z',zX,JN],tK]:=h';rcases fW n n' with c|c|c
 .rw[tK n z c hz] at ez;cases ez
 .exact c
 .rw[hn n' z' c zX] at JN;cases JN
def V0{l:@&D}{x:D}(h:∀z∈l,n8 z)(hx:n8 x):∀z∈l.set n x,n8 z:=λz hz=>by
 rcases bt hz with hz|rfl
 .exact h z hz
 .exact hx
def vI(l:@&D):Prop:=∀(i j:Nat) (v:Int),l[i]?=!.int v->l[j]?=!.int v->i=j
def Q1{l:@&D}(h:∀z∈l,n8 z):l.any (iL (.int v))=true↔∃i:Nat,l[i]?=!.int v:=by
 rw[mM];constructor
 .rintro⟨z,hz,e⟩;rw[(U5 (.inr #[v,rfl]) (h z hz))] at e;subst e;show Cs hz
 .rintro⟨i,hi⟩;show#[_,aY hi,(U5 (.inr #[v,rfl]) (.inr #[v,rfl])).mpr rfl]
def WI{l:@&D}(h:∀z∈l,n8 z)(hd:vI l)(hn:l.any (iL (.int v))=false):vI (l.set n (.int v)):=by
 let no:∀i:Nat,l[i]?≠!.int v:=λi hi=>by
  rw[(Q1 h).mpr #[i,hi]] at hn;cases hn
 intro i j w hi hj;by_cases ei:n=i<;>by_cases ej:n=j
 .omega
 .subst ei;rw[aH ej] at hj;rw[lL] at hi;split at hi
  .split at hi
   .cases hi;show absurd hj (no j)
   .cases hi
  .contradiction
 .subst ej;rw[aH ei] at hi;rw[lL] at hj;split at hj
  .split at hj
   .cases hj;show absurd hi (no i)
   .cases hj
  .contradiction
 .rw[aH ei] at hi;rw[aH ej] at hj;show hd i j w hi hj
def N9{l:@&D}{i:Nat}{x:D}(h:(l.set n x)[i]?=!y):(i=n/\y=x)\/l[i]?=!y:=by
 by_cases e:n=i
 .subst e;rw[lL] at h;split at h
  .split at h
   .cases h;show .inl #[rfl,rfl]
   .cases h
  .contradiction
 .rw[aH e] at h;show .inr h
def WH{l:@&D}(hd:vI l):vI (l.set n .aW):=λi j v hi hj=>by
 rcases N9 hi with⟨_,z⟩|hi
 .cases z
 .rcases N9 hj with⟨_,z⟩|hj
  .cases z
  .exact hd i j v hi hj
def aP7{l:@&D}{w:Int}(h:∀z∈l,n8 z)(e:(l.set n .aW).any (iL (.int w))=true):l.any (iL (.int w))=true:=by
 let#[i,hi]:=(Q1 (V0 h (.inl rfl))).mp e;rcases N9 hi with⟨_,z⟩|hi
 .cases z
 .exact(Q1 h).mpr #[i,hi]
def aP8{l:@&D}{w:Int}(h:∀z∈l,n8 z)(e:(l.set n (.int v)).any (iL (.int w))=true):w=v\/l.any (iL (.int w))=true:=by
 let#[i,hi]:=(Q1 (V0 h (.inr #[v,rfl]))).mp e;rcases N9 hi with⟨_,z⟩|hi
 .cases z;show .inl rfl
 .exact .inr ((Q1 h).mpr #[i,hi])
def Xs{l:@&D}(h:∀z∈l,n8 z)(hd:vI l)(hn:l[n]?=!.int v):(l.set n .aW).any (iL (.int v))=false:=by
 cases e:(l.set n .aW).any (iL (.int v)) with
 |false=>rfl
 |true =>
  let#[i,hi]:=(Q1 (V0 h (.inl rfl))).mp e;rcases N9 hi with⟨_,z⟩|lX
  .cases z
  .have:i=n:=hd i n v lX hn;subst this;rw[aV (aA.mp hn).1] at hi;cases hi
def FK(h:k<n):kr n (k:Int)=!k:=by
 unfold kr;rw[au (),au (),cG]
structure cH where
 bl:@&D
 go:@&Int
 lo:@&(@&Int)
 up:@&(@&Int)
 yr:Int
 co:@&D
noncomputable abbrev mk(l:@&Int):D:=.tup (l.map .int)
noncomputable abbrev gB(l:@&(@&Int)):@&D:=l.map mk
def f7(s:cH):O:=.ins "Mint" [("bench",.tup s.bl),("laid_off",.tup (s.go.map .int)),("lower_wear",.tup (gB s.lo)),("upper_wear",.tup (gB s.up)),("present",.int s.yr),("output",.tup s.co)]
abbrev cH.side(s:cH)(x:Str):@&(@&Int):=if x="lower" then s.lo else s.up
def cH.put(s:cH)(x:Str)(w:@&(@&Int)):cH:=if x="lower" then{ s with lo:=w } else{ s with up:=w }
def U2:s.side "lower"=s.lo:=by unfold cH.side;rw[au rfl]
def U1:s.side "upper"=s.up:=by unfold cH.side;rw[aq ∅]
noncomputable abbrev p6(x:Str):Prop:=x="lower"\/x="upper"
abbrev rh:@&Int:=[0,1,2,3,4,5,6,7]
abbrev markL(l:@&Int)(k:Int):@&Int:=rh.filter λi=>decide (i=k\/i∈l)
noncomputable abbrev Rs:=Str×D×cH
def v9(s:cH)(x:Str):Rs:=if p6 x then(if(s.side x).length<99 then("",.int ((s.side x).length+1),s.put x (s.side x++[[]])) else("Full",.aW,s)) else("BadSide",.aW,s)
noncomputable abbrev B5(s:cH)(v:Int):Bool:=s.bl.any (iL (.int v))
noncomputable abbrev N8(s:cH)(v:Int):Bool:=(s.go.map D.int).any (iL (.int v))
noncomputable abbrev iZ(l:@&D)(y:D):Nat:=l.findIdx (iL y)
def n6(s:cH)(v:Int):Rs:=if 1<=v/\v<=-s.lo then(if B5 s v=true then("Fixed",.aW,s) else if N8 s v=true then("Gone",.aW,s) else if s.bl.any (iL .aW)=true then("",.int (iZ s.bl .aW),{ s with bl:=s.bl.set (iZ s.bl .aW) (.int v) }) else("NoAnvil",.aW,s)) else("NoDie",.aW,s)
def x9(s:cH)(v:Int):Rs:=if 1<=v/\v<=-s.lo then(if B5 s v=true then("",.int (iZ s.bl (.int v)),{ s with bl:=s.bl.set (iZ s.bl (.int v)) .aW,go:=s.go++[v] }) else("NotFixed",.aW,s)) else("NoDie",.aW,s)
noncomputable abbrev gQ(l:@&(@&Int))(v:Int):@&Int:=l.getD (v-1).toNat []
def j3(s:cH)(x:Str)(v k:Int):Rs:=if p6 x then(if 1<=v/\v<=(s.side x).length then(if x="lower"/\N8 s v=true then("Gone",.aW,s) else if 0<=k/\k<=7 then(if k∈gQ (s.side x) v then("Marked",.aW,s) else("",.aW,s.put x ((s.side x).set (v-1).toNat (markL (gQ (s.side x) v) k)))) else("BadSpot",.aW,s)) else("NoDie",.aW,s)) else("BadSide",.aW,s)
def T9(s:cH)(a b:Int):D:=.tup [.int a,mk (gQ s.lo a),.int b,mk (gQ s.up b),.int s.yr]
def j4(s:cH)(a b:Int):Rs:=if(1<=a/\a<=-s.lo)/\(1<=b/\b<=-s.up) then(if B5 s a=true then(if (-s.co)<200 then("",.int (-s.co),{ s with co:=s.co++[T9 s a b] }) else("Full",.aW,s)) else("NotFixed",.aW,s)) else("NoDie",.aW,s)
def u7(s:cH)(n:Int):Rs:=if s.yr+1<=n/\n<=9999 then("",.aW,{ s with yr:=n }) else("BadYear",.aW,s)
def Mk(l:@&Int):Prop:=(∀k∈l,ST.Spot k)/\-l<=8
def b72(c:D):Prop:=∃a l b m y,c=.tup [.int a,mk l,.int b,mk m,.int y]/\-l<=8/\-m<=8
structure WS(s:cH):Prop where
 se:∀z∈s.bl,n8 z
 di:vI s.bl
 dj:∀v,B5 s v=true->N8 s v=false
 bn:-s.bl<=9
 gn:s.go.Nodup
 gb:∀v∈s.go,1<=v/\v<=-s.lo
 ln:-s.lo<=99
 un:-s.up<=99
 lm:∀l∈s.lo,Mk l
 um:∀l∈s.up,Mk l
 y0:0<=s.yr
 cn:-s.co<=200
 cs:∀c∈s.co,b72 c
def a60:rh.Pairwise (· < ·):=by unfold rh;decide
def OX{k:Int}:k∈rh↔ST.Spot k:=by
 unfold rh ST.Spot;simp only[List.mem_cons,List.mem_nil_iff,or_false];omega
def Zg{l:@&Int}{k i:Int}(hl:∀j∈l,ST.Spot j)(hk:ST.Spot k):i∈markL l k↔i=k\/i∈l:=by
 unfold markL;rw[cI,bD,OX];constructor
 .exact λh=>h.2
 .rintro(rfl|h)
  .exact#[hk,.inl rfl]
  .exact#[hl i h,.inr h]
def OW{l:@&Int}{k:Int}:Mk (markL l k):=by
 unfold markL;show#[λi hi=>OX.mp (cI.mp hi).1,?_];show aL (gm _ _) ∅
def Yj{l:@&Int}{k:Int}(hl:∀j∈l,ST.Spot j)(hk:ST.Spot k):T3 (l++[k])=markL l k:=by
 let h1:(markL l k).Pairwise (· < ·):=a60.sublist kj;show Gz ?_ (Na _) (h1.imp λh=>Int.le_of_lt h);show(GL _).trans ?_;show(dD (ST.X3 _ _ List.nodup_nil) (h1.imp λh=>Int.ne_of_lt h)).mpr λi=>?_;rw[ST.F7,Zg hl hk];simp[or_comm]
def Li(W:WS s):-s.go<=99:=by
 let hp:s.go.Perm (((List.range 99).map λn:Nat=>(n:Int)+1).filter (·∈s.go)):=by
  show(dD W.gn ?_).mpr λv=>?_
  .exact QK kj ∅
  .rw[cI];constructor
   .intro hv;show#[?_,by simpa using hv];have:=W.gb v hv;have:=W.ln;rw[aI];show#[(v-1).toNat,gZ.mpr (),by omega]
   .rintro⟨_,hv⟩;simpa using hv
 rw[hp.length_eq];show aL (gm _ _) #[_]
def R8{l:@&D}(hl:∀z∈l,n8 z)(hy:n8 y)(h:l.any (iL y)=true):S7 l y (iZ l y)/\iZ l y< -l/\l[iZ l y]?=!y:=by
 let#[n,W,hn,e]:=WK hl hy h;have:iZ l y=n:=by
  let fz:iZ l y< -l:=List.findIdx_lt_length_of_exists (by simpa[List.any_eq_true] using h);let h1:iL y l[iZ l y]=true:=List.findIdx_getElem (w:=fz);show aL2 #[W.1,W.2.1,#[_,av fz,h1],λm z hm hz=>?_] W;have:=List.not_of_lt_findIdx hm;let#[pH,rfl]:=aA.mp hz;simpa[iL] using this
 rw[this];show#[W,hn,e]
set_option tactic.hygienic true in
def ZK(W:WS s):WS (v9 s x).2.2:=by
 unfold v9;split
 .rename_i hx;split
  .rename_i hl;rcases hx with rfl|rfl
   .rw[U2] at hl ⊢;unfold cH.put;rw[au rfl];show#[W.se,W.di,W.dj,W.bn,W.gn,λv hv=>?_,?_,W.un,λl h=>?_,W.um,W.y0,W.cn,W.cs]
    .have:=W.gb v hv;rw[aM];simp;omega
    .rw[aM];simp;omega
    .rcases aX.mp h with h|h
     .exact W.lm l h
     .simp at h;subst h;show#[λk hk=>by simp at hk,by simp]
   .rw[U1] at hl ⊢;unfold cH.put;rw[aq ∅];show#[W.se,W.di,W.dj,W.bn,W.gn,W.gb,W.ln,?_,W.lm,λl h=>?_,W.y0,W.cn,W.cs]
    .rw[aM];simp;omega
    .rcases aX.mp h with h|h
     .exact W.um l h
     .simp at h;subst h;show#[λk hk=>by simp at hk,by simp]
  .exact W
 .exact W
set_option tactic.hygienic true in
def ZL(W:WS s):WS (n6 s v).2.2:=by
 unfold n6
 repeat' split
 all_goals first|show W|skip
 rename_i hv e1 e2 e3;let tX:B5 s v=false:=by simpa using e1
 let Uy:N8 s v=false:=by simpa using e2
 show#[V0 W.se (.inr #[v,rfl]),WI W.se W.di tX,λw hw=>?_,by rw[bX];show W.bn,W.gn,W.gb,W.ln,W.un,W.lm,W.um,W.y0,W.cn,W.cs];rcases aP8 W.se hw with rfl|hw
 .exact Uy
 .exact W.dj w hw
set_option tactic.hygienic true in
def ZM(W:WS s):WS (x9 s v).2.2:=by
 unfold x9
 repeat' split
 all_goals first|show W|skip
 rename_i hv e1;let#[F,hn,e]:=R8 W.se (.inr #[v,rfl]) e1;let hg:=W.dj v e1;let SX:v∉s.go:=λhv=>by
  have:N8 s v=true:=mM.mpr #[.int v,aI.mpr #[v,hv,rfl],(U5 (.inr #[v,rfl]) (.inr #[v,rfl])).mpr rfl];rw[hg] at this;cases this
 show#[V0 W.se (.inl rfl),WH W.di,λw hw=>?_,by rw[bX];show W.bn,?_,?_,W.ln,W.un,W.lm,W.um,W.y0,W.cn,W.cs]
 .let hb:=W.dj w (aP7 W.se hw);show((s.go++[v]).map D.int).any (iL (.int w))=false;rw[aK,List.any_append];show(N8 s w||_)=false;rw[hb,sI];cases e5:(List.map D.int [v]).any (iL (.int w)) with
  |false=>rfl
  |true =>
   rw[aQ,List.map_nil,eT,List.any_nil,Bool.or_false] at e5;have:=(U5 (.inr #[w,rfl]) (.inr #[v,rfl])).mp e5;cases this;let h1:B5 { s with bl:=s.bl.set (iZ s.bl (.int v)) .aW,go:=s.go++[v] } v=false:=Xs W.se W.di e;rw[h1] at hw;cases hw
 .show(s.go++[v]).Nodup;rw[eW];show#[W.gn,by simp,λa ha b hb=>by simp at hb;subst hb;show λz=>SX (z▸ha)]
 .intro w hw;rcases aX.mp hw with hw|hw
  .exact W.gb w hw
  .simp at hw;subst hw;show hv
set_option tactic.hygienic true in
def bH1{k:Int}(W:WS s):WS (j3 s x v k).2.2:=by
 unfold j3
 repeat' split
 all_goals first|show W|skip
 rename_i hx hv e1 hk e2;rcases hx with rfl|rfl
 .unfold cH.put;rw[au rfl,U2];show#[W.se,W.di,W.dj,W.bn,W.gn,by simpa using W.gb,by simpa using W.ln,W.un,λl h=>?_,W.um,W.y0,W.cn,W.cs];rcases bt h with h|rfl
  .exact W.lm l h
  .exact OW
 .unfold cH.put;rw[aq ∅,U1];show#[W.se,W.di,W.dj,W.bn,W.gn,W.gb,W.ln,by simpa using W.un,W.lm,λl h=>?_,W.y0,W.cn,W.cs];rcases bt h with h|rfl
  .exact W.um l h
  .exact OW
def AW{l:@&(@&Int)}(hv:1<=v/\v<=-l):l[(v-1).toNat]?=!gQ l v/\gQ l v∈l:=by
 let h:(v-1).toNat< -l:=by omega
 let e:l[(v-1).toNat]?=!gQ l v:=by
  rw[av h,gQ,List.getD_eq_getElem?_getD,av h]
  rfl
 show#[e,aY e]
set_option tactic.hygienic true in
def Yx{a b:Int}(W:WS s):WS (j4 s a b).2.2:=by
 unfold j4
 repeat' split
 all_goals first|show W|skip
 rename_i hv e1 hl;show#[W.se,W.di,W.dj,W.bn,W.gn,W.gb,W.ln,W.un,W.lm,W.um,W.y0,by simp;omega,λc hc=>?_];rcases aX.mp hc with hc|hc
 .exact W.cs c hc
 .simp at hc;subst hc;show#[_,_,_,_,_,rfl,(W.lm _ (AW hv.1).2).2,(W.um _ (AW hv.2).2).2]
set_option tactic.hygienic true in
def bH0{n:Int}(W:WS s):WS (u7 s n).2.2:=by
 unfold u7;split
 .rename_i h;show#[W.se,W.di,W.dj,W.bn,W.gn,W.gb,W.ln,W.un,W.lm,W.um,by have:=W.y0;change 0<=n;omega,W.cn,W.cs]
 .exact W
def GO:ba:=#[2,2,(cq (bS .tuple (bO .wF aE aO)))]
def S3:ba:=#[4,5,(eJ 4 (.cA "marks" [("Mint",62)] aE (pZ aO bz)) (cY (.fU (cD .Eq aO (bB "lower")) (cD .In bz (bS (.fld "laid_off") aE))) (fq (.raise "Gone" (eN (bB "the die was laid off")))) (cY (.eF (.fQ (qf 1 cL (bp 0) (bp 7)))) (fq (.raise "BadSpot" (eN (bB "a die has no such spot")))) (cY (cD .In cL fS) (fq (.raise "Marked" (eN (bB "the die has that mark")))) (fq (.expr (.cA "put_wear" [("Mint",53)] aE (pZ aO (qf 177 (.cA "wear_of" [("Mint",52)] aE (eN aO)) (bO (.bin .Sub) bz (bp 1)) (fR 16 fS (bS .tup cL)))))))))))]
def Y9:ba:=#[3,4,(eJ 3 (.prim .tup (Ip aO (.cA "marks" [("Mint",62)] aE (pZ (bB "lower") aO)) bz (.cA "marks" [("Mint",62)] aE (pZ (bB "upper") bz)) (bS (.fld "present") aE))) (cY (cD .NotIn aO (bS (.fld "bench") aE)) (fq (.raise "NotFixed" (eN (bB "the lower die is on no anvil")))) (cY (cD .Eq (bS .len (bS (.fld "output") aE)) (bp 200)) (fq (.raise "Full" (eN (bB "no more coins are struck")))) (iA (.lr "output" ["Mint"] aE (bS .tup cL)) (cq (bO (.bin .Sub) (bS .len (bS (.fld "output") aE)) (bp 1)))))))]
def P5:ba:=#[2,2,(cY (.eF (.fQ (qf 1 aO (bO (.bin .Add) (bS (.fld "present") aE) (bp 1)) (bp 9999)))) (fq (.raise "BadYear" (eN (bB "no such year can begin")))) (fq (.fb "present" ["Mint"] aE aO)))]
structure TQ(T:Nat->Option ba):Prop where
 tm:TM T
 Uh:T 16=!GO
 TY:T 55=!F'
 TX:T 56=!Z0
 TU:T 57=!S3
 TN:T 58=!Y9
 TK:T 59=!P5
 oP:T 177=!T6
section
variable{T:Nat->Option ba}
def bG2(hT:TQ T){l:@&Int}(hl:Mk l)(hi:ST.Spot i)(h:∀g',Ex g g'->Q (mk (markL l i)) g'):c9 T (k+1) 16 [mk l,.tup [.int i]] g Q E:=by
 show call_of hT.Uh rfl ?_;delta GO;exists b12 (ns:=l) (ms:=[i]) hl.1 (λk hk=>by simp at hk;subst hk;show hi) (by have:=hl.2;simp;omega) ?_;rw[Yj hl.1 hi];show BZ (a9 d6) ?_;show h _ (Ex.snoc _ _)
def Gk(hT:TQ T)(hm:g[m]?=!f7 s)(ho:PyData.strOk x=true)(h1:p6 x->Q (.tup (gB (s.side x))) g)(h3:¬p6 x->E #["BadSide"] g):c9 T (k+2) 52 [.ref m,.str x] g Q E:=by
 show call_of hT.tm.Ub rfl ?_;delta Y8;exists aB1 hT.tm.Eo ho (λhx=>?_) (λz1 z2=>h3 (λz=>z.elim z1 z2));exists if2 (λc=>?_) (λc=>?_)
 .left;have:=h1 hx;rw[c,U2] at this;show o8 hm rfl this
 .left;have:=h1 hx;rw[hx.resolve_left c,U1] at this;show o8 hm rfl this
def Oj(hT:TQ T)(hm:g[m]?=!f7 s){w:@&(@&Int)}(h:Q .aW (g.set m (f7 (s.put x w)))):c9 T (k+1) 53 [.ref m,.str x,.tup (gB w)] g Q E:=by
 show call_of hT.tm.Ua rfl ?_;delta V7;exists if2 (λc=>?_) (λc=>?_)
 .exists u3 hm #[_] #[_] ?_;unfold cH.put at h;rw[au c] at h;show h
 .exists u3 hm #[_] #[_] ?_;unfold cH.put at h;rw[aq c] at h;show h
def bF9(hT:TQ T)(hm:g[m]?=!f7 s)(W:WS s)(ho:PyData.strOk x=true)(h1:(v9 s x).1=""->Q (v9 s x).2.1 (g.set m (f7 (v9 s x).2.2)))(h2:(v9 s x).1≠""->E #[(v9 s x).1] g):c9 T (k+3) 54 [.ref m,.str x] g Q E:=by
 show call_of hT.tm.TZ rfl ?_;delta FZ;exists k7 hm rfl rfl ?_;exists Gk (k:=k) hT hm ho (λhx=>?_) (λhx=>?_)
 .let hl:(s.side x).length<=99:=by
   rcases hx with rfl|rfl
   .exact W.ln
   .exact W.un
  left;rw[ah];show if2 (λc=>?_) (λc=>?_)
  .let e:v9 s x=(("Full",.aW,s):Rs):=by unfold v9;rw[au hx,aq ()]
   rw[e] at h2;left;show h2 (by dsimp only;decide)
  .let e:v9 s x=(("",.int ((s.side x).length+1),s.put x (s.side x++[[]])):Rs):=by unfold v9;rw[au hx,au ()]
   rw[e] at h1;exists k7 hm rfl rfl ?_;exists BE (by simp;omega) ?_;let e2:gB (s.side x)++[D.tup []]=gB (s.side x++[[]]):=by rw[gB,gB,aK];rfl
   rw[e2];exists Oj hT hm ?_;left;rw[ah];show h1 rfl
 .let e:v9 s x=(("BadSide",.aW,s):Rs):=by unfold v9;rw[aq hx]
  rw[e] at h2;show h2 (by dsimp only;decide)
def AE{l:@&(@&Int)}(hv:1<=v/\v<=-l):jd (gB l) (v-1)=!mk (gQ l v):=by
 let h:=(AW hv).1;have:=A2 (xs:=gB l) (j:=(v-1).toNat) (v:=mk (gQ l v)) (by rw[aJ,h];rfl)
 rwa [show(((v-1).toNat:Nat):Int)=v-1 by omega] at this
def Gx(hT:TQ T)(hm:g[m]?=!f7 s)(ho:PyData.strOk x=true)(h1:p6 x->1<=v/\v<=(s.side x).length->Q (mk (gQ (s.side x) v)) g)(h2:p6 x->¬(1<=v/\v<=(s.side x).length)->E #["NoDie"] g)(h3:¬p6 x->E #["BadSide"] g):c9 T (k+4) 62 [.ref m,.str x,.int v] g Q E:=by
 show call_of hT.tm.TH rfl ?_;delta GH;exists k7 hm rfl rfl ?_;exists Gk (k:=k+1) hT hm ho (λhx=>?_) h3;exists Nq hT.tm (λhv=>?_) (λhv=>?_)
 .rw[ah] at hv;exists Fn (AE hv) ?_;show h1 hx hv
 .rw[ah] at hv;show h2 hx hv
def MB(hT:TQ T)(hm:g[m]?=!f7 s)(W:WS s)(h0:¬(1<=v/\v<=-s.lo)->E #["NoDie"] g)(h1:1<=v/\v<=-s.lo->B5 s v=true->Q (.str "fixed") g)(h2:1<=v/\v<=-s.lo->B5 s v=false->N8 s v=true->Q (.str "gone") g)(h3:1<=v/\v<=-s.lo->B5 s v=false->N8 s v=false->Q (.str "new") g) :
  c9 T (k+4) 63 [.ref m,.int v] g Q E:=by
 show call_of hT.tm.TF rfl ?_;delta GI;exists o8 hm rfl ?_;exists Nq hT.tm (λhv=>?_) (λz=>h0 (λy=>z #[y.1,by rw[ah];show y.2]));rw[ah] at hv;exists o8 hm rfl ?_;show Z7 (v8 (l:=s.bl) rfl W.se (.inr #[v,rfl]) ?_);left;cases e1:B5 s v with
 |true =>
  show eR e1 ?_;show h1 hv e1
 |false =>
  show cc e1 ?_;exists o8 hm rfl ?_;show Z7 (v8 (l:=s.go.map D.int) rfl L7 (.inr #[v,rfl]) ?_);left;cases e2:N8 s v with
  |true =>
   show eR e2 ?_;show h2 hv e1 e2
  |false =>
   show cc e2 ?_;show h3 hv e1 e2
def kD{b:Bool}(h:b=false):¬b=true:=by rw[h];decide
def bF4(hT:TQ T)(hm:g[m]?=!f7 s)(W:WS s)(h1:(n6 s v).1=""->Q (n6 s v).2.1 (g.set m (f7 (n6 s v).2.2)))(h2:(n6 s v).1≠""->E #[(n6 s v).1] g):c9 T (k+5) 55 [.ref m,.int v] g Q E:=by
 show call_of hT.TY rfl ?_;delta F';exists k7 hm rfl rfl ?_;exists MB (k:=k) hT hm W (λhv=>?_) (λhv e1=>?_) (λhv e1 e2=>?_) (λhv e1 e2=>?_)
 .let e:n6 s v=(("NoDie",.aW,s):Rs):=by unfold n6;rw[aq hv]
  rw[e] at h2;show h2 (by dsimp only;decide)
 .let e:n6 s v=(("Fixed",.aW,s):Rs):=by unfold n6;rw[au hv,au e1]
  rw[e] at h2;exists eR #[] ?_;left;show h2 (by dsimp only;decide)
 .let e:n6 s v=(("Gone",.aW,s):Rs):=by unfold n6;rw[au hv,aq (kD e1),au e2]
  rw[e] at h2;exists cc #[] ?_;exists eR #[] ?_;left;show h2 (by dsimp only;decide)
 .exists cc #[] ?_;exists cc #[] ?_;exists o8 hm rfl ?_;exists Q9 (v8 (l:=s.bl) rfl W.se (.inl rfl) ?_);left;cases e3:s.bl.any (iL .aW) with
  |false =>
   let e:n6 s v=(("NoAnvil",.aW,s):Rs):=by unfold n6;rw[au hv,aq (kD e1),aq (kD e2),aq (kD e3)]
   rw[e] at h2;show eR rfl ?_;left;show h2 (by dsimp only;decide)
  |true =>
   let e:n6 s v=(("",.int (iZ s.bl .aW),{ s with bl:=s.bl.set (iZ s.bl .aW) (.int v) }):Rs):=by unfold n6;rw[au hv,aq (kD e1),aq (kD e2),au e3]
   rw[e] at h1;show cc rfl ?_;let#[F,hn,_]:=R8 W.se (.inl rfl) e3;let bn:=W.bn;exists o8 hm rfl ?_;show#[PK,?_];exists Ko F () ?_;exists o8 hm rfl ?_;exists S8 (k:=k+3) hT.oP hn () ?_;exists u3 hm #[_] #[_] ?_;left;show h1 rfl
def bC9(hT:TQ T)(hm:g[m]?=!f7 s)(W:WS s)(h1:(x9 s v).1=""->Q (x9 s v).2.1 (g.set m (f7 (x9 s v).2.2)))(h2:(x9 s v).1≠""->E #[(x9 s v).1] g):c9 T (k+5) 56 [.ref m,.int v] g Q E:=by
 show call_of hT.TX rfl ?_;delta Z0;exists k7 hm rfl rfl ?_;left;let no:1<=v/\v<=-s.lo->B5 s v=false->E #["NotFixed"] g:=λhv e1=>by
  let e:x9 s v=(("NotFixed",.aW,s):Rs):=by unfold x9;rw[au hv,aq (kD e1)]
  rw[e] at h2;show h2 (by dsimp only;decide)
 show MB (k:=k) hT hm W (λhv=>?_) (λhv e1=>?_) (λhv e1 e2=>?_) (λhv e1 e2=>?_)
 .let e:x9 s v=(("NoDie",.aW,s):Rs):=by unfold x9;rw[aq hv]
  rw[e] at h2;show h2 (by dsimp only;decide)
 .let e:x9 s v=(("",.int (iZ s.bl (.int v)),{ s with bl:=s.bl.set (iZ s.bl (.int v)) .aW,go:=s.go++[v] }):Rs):=by unfold x9;rw[au hv,au e1]
  rw[e] at h1;let#[F,hn,_]:=R8 W.se (.inr #[v,rfl]) e1;let bn:=W.bn;let gl:=Li W;exists cc #[] ?_;exists o8 hm rfl ?_;show#[PK,?_];exists Ko F () ?_;exists o8 hm rfl ?_;exists S8 (k:=k+3) hT.oP hn () ?_;exists u3 hm #[_] #[_] ?_;let e2:(O.ins "Mint" (x8 "bench" (.tup (s.bl.set (iZ s.bl (.int v)) .aW)) [("bench",.tup s.bl),("laid_off",.tup (s.go.map .int)),("lower_wear",.tup (gB s.lo)),("upper_wear",.tup (gB s.up)),("present",.int s.yr),("output",.tup s.co)]))=f7 { s with bl:=s.bl.set (iZ s.bl (.int v)) .aW }:=rfl;rw[e2];let qr:(g.set m (f7 { s with bl:=s.bl.set (iZ s.bl (.int v)) .aW }))[m]?=!(f7 { s with bl:=s.bl.set (iZ s.bl (.int v)) .aW }):=get_set hm;exists Ql ?_;exists#[m,_,_,_,rfl,qr,by simp,rfl,?_];exists Lj (by simp;omega) ?_;show#[_,qr,by simp,?_];rw[cu];let e3:(O.ins "Mint" (x8 "laid_off" (.tup (s.go.map .int++[.int v])) [("bench",.tup (s.bl.set (iZ s.bl (.int v)) .aW)),("laid_off",.tup (s.go.map .int)),("lower_wear",.tup (gB s.lo)),("upper_wear",.tup (gB s.up)),("present",.int s.yr),("output",.tup s.co)]))=f7 { s with bl:=s.bl.set (iZ s.bl (.int v)) .aW,go:=s.go++[v] }:=by
   unfold f7;rw[aK]
   rfl
  rw[e3];left;show h1 rfl
 .exists eR #[] ?_;left;show no hv e1
 .exists eR #[] ?_;left;show no hv e1
def VT(W:WS s)(hx:p6 x)(hv:1<=v/\v<=(s.side x).length):Mk (gQ (s.side x) v):=by
 let h:=(AW hv).2;rcases hx with rfl|rfl
 .rw[U2] at h ⊢;show W.lm _ h
 .rw[U1] at h ⊢;show W.um _ h
def Yf(W:WS s):(s.side x).length<=99:=by
 unfold cH.side;split
 .exact W.ln
 .exact W.un
def AZ{l:@&Int}(hi:E2 g y=!l.map .int)(h:kb (decide (v∈l))):uT g (.int v) y kb:=by
 show v8 hi L7 (.inr #[v,rfl]) ?_;let e:(l.map D.int).any (iL (.int v))=decide (v∈l):=by
  rw[cv,Q1 L7,bD];constructor
  .rintro⟨i,hi⟩;rw[aJ,ag] at hi;let#[a,h1,h2]:=hi;cases h2;show aY h1
  .intro hm;let#[i,hi]:=Cs hm;show#[i,by rw[aJ,hi];rfl]
 rw[e];show h
def Xh(hT:TQ T)(hm:g[m]?=!f7 s)(W:WS s)(ho:PyData.strOk x=true)(h1:(j3 s x v j).1=""->∀g',Ex g g'->Q .aW (g'.set m (f7 (j3 s x v j).2.2)))(h2:(j3 s x v j).1≠""->E #[(j3 s x v j).1] g):c9 T (k+5) 57 [.ref m,.str x,.int v,.int j] g Q E:=by
 show call_of hT.TU rfl ?_;delta S3;exists k7 hm rfl rfl ?_;exists Gx (k:=k) hT hm ho (λhx hv=>?_) (λhx hv=>?_) (λhx=>?_)
 .let Sb:=VT W hx hv;let sl:=Yf (x:=x) W;let fin:∀(N:Ends),¬(x="lower"/\N8 s v=true)->(∀(g':G) σ,(∀g1:G,Ex g g1->g'=g1.set m (f7 (j3 s x v j).2.2)->(j3 s x v j).1=""->N.nx σ g'))->wpS (c9 T (k+4)) (match S3.body with|.seq _ (.seq _ b)=>b|x=>x) N [!.ref m,!.str x,!.int v,!.int j,!(mk (gQ (s.side x) v))] g E:=by
   intro N tM hN;dsimp[S3];exists F6 hT.tm.nf ?_;left;by_cases hj:0<=j/\j<=7
   .rw[aC hj.1,aC hj.2];show cc rfl ?_;exists Z7 (AZ (l:=gQ (s.side x) v) rfl ?_);left;by_cases hq:j∈gQ (s.side x) v
    .let e:j3 s x v j=(("Marked",.aW,s):Rs):=by unfold j3;rw[au hx,au hv,aq tM,au hj,au hq]
     rw[e] at h2;rw[aC hq];show oz ?_;left;show h2 (by dsimp only;decide)
    .let e:j3 s x v j=(("",.aW,s.put x ((s.side x).set (v-1).toNat (markL (gQ (s.side x) v) j))):Rs):=by unfold j3;rw[au hx,au hv,aq tM,au hj,aq hq]
     rw[e] at hN;rw[az hq];show Z5 ?_;exists k7 hm rfl rfl ?_;exists k7 hm rfl rfl ?_;exists Gk (k:=k+2) hT hm ho (λy=>?_) (λz=>absurd hx z);exists bG2 (k:=k+3) hT Sb #[hj.1,by omega] λg1 e1=>?_;left;let Sv:v-1=(((v-1).toNat:Nat):Int):=by omega
     rw[Sv];show S8 (k:=k+3) hT.oP (by rw[ah];omega) (by rw[ah];omega) ?_;let es:(gB (s.side x)).set (v-1).toNat (mk (markL (gQ (s.side x) v) j))=gB ((s.side x).set (v-1).toNat (markL (gQ (s.side x) v) j)):=by rw[gB,gB,gR]
     rw[es];exists Oj (k:=k+3) hT (e1.at hm) ?_;left;show hN _ _ g1 e1 rfl rfl
   .let e:j3 s x v j=(("BadSpot",.aW,s):Rs):=by unfold j3;rw[au hx,au hv,aq tM,aq hj]
    rw[e] at h2;have:(decide (0<=j)&&decide (j<=7))=false:=by
     rw[gp,aF,aF];show dS.mp hj
    rw[this];show eR rfl ?_;left;show h2 (by dsimp only;decide)
  exists if2 (λrP=>?_) (λrP=>?_)
  .exists o8 hm rfl ?_;exists Z7 (v8 (l:=s.go.map D.int) rfl L7 (.inr #[v,rfl]) ?_);left;cases e2:N8 s v with
   |true =>
    let e:j3 s x v j=(("Gone",.aW,s):Rs):=by unfold j3;rw[au hx,au hv,au #[rP,e2]]
    rw[e] at h2;show eR e2 ?_;left;show h2 (by dsimp only;decide)
   |false =>
    show cc e2 ?_;show J7 ?_;show fin _ (λz=>kD e2 z.2) (λg' σ g1 e1 eg er=>by subst eg;show h1 er g1 e1)
  .try show Z5 ?_
   try with_reducible show J7 ?_
   show fin _ (λz=>rP z.1) (λg' σ g1 e1 eg er=>by subst eg;show h1 er g1 e1)
 .let e:j3 s x v j=(("NoDie",.aW,s):Rs):=by unfold j3;rw[au hx,aq hv]
  rw[e] at h2;show h2 (by dsimp only;decide)
 .let e:j3 s x v j=(("BadSide",.aW,s):Rs):=by unfold j3;rw[aq hx]
  rw[e] at h2;show h2 (by dsimp only;decide)
def aW8(hT:TQ T)(hm:g[m]?=!f7 s)(W:WS s){a b:Int}(h1:(j4 s a b).1=""->Q (j4 s a b).2.1 (g.set m (f7 (j4 s a b).2.2)))(h2:(j4 s a b).1≠""->E #[(j4 s a b).1] g):c9 T (k+5) 58 [.ref m,.int a,.int b] g Q E:=by
 show call_of hT.TN rfl ?_;delta Y9;let no:¬((1<=a/\a<=-s.lo)/\(1<=b/\b<=-s.up))->E #["NoDie"] g:=λhv=>by
  let e:j4 s a b=(("NoDie",.aW,s):Rs):=by unfold j4;rw[aq hv]
  rw[e] at h2;show h2 (by dsimp only;decide)
 exists k7 hm rfl rfl ?_;exists Gx (k:=k) hT hm #[] (λx ha=>?_) (λx ha=>no (λz=>ha (by rw[U2];show z.1))) (λz=>absurd (.inl rfl) z);rw[U2] at ha ⊢;exists k7 hm rfl rfl ?_;exists Gx (k:=k) hT hm #[] (λx hb=>?_) (λx hb=>no (λz=>hb (by rw[U1];show z.2))) (λz=>absurd (.inr rfl) z);rw[U1] at hb ⊢;exists o8 hm rfl ?_;exists o8 hm rfl ?_;exists Q9 (v8 (l:=s.bl) rfl W.se (.inr #[a,rfl]) ?_);left;cases e1:B5 s a with
 |false =>
  let e:j4 s a b=(("NotFixed",.aW,s):Rs):=by unfold j4;rw[au #[ha,hb],aq (kD e1)]
  rw[e] at h2;show eR (show(~~~B5 s a)=true by rw[e1];rfl) ?_;left;show h2 (by dsimp only;decide)
 |true =>
  show cc (show(~~~B5 s a)=false by rw[e1];rfl) ?_;let cn:=W.cn;exists o8 hm rfl ?_;exists if2 (λhl=>?_) (λhl=>?_)
  .let e:j4 s a b=(("Full",.aW,s):Rs):=by unfold j4;rw[au #[ha,hb],au e1,aq ()]
   rw[e] at h2;left;show h2 (by dsimp only;decide)
  .let e:j4 s a b=(("",.int (-s.co),{ s with co:=s.co++[T9 s a b] }):Rs):=by unfold j4;rw[au #[ha,hb],au e1,au ()]
   rw[e] at h1;exists Ql ?_;exists#[m,_,_,_,rfl,hm,by simp,rfl,?_];exists Lj (by simp;omega) ?_;show#[_,hm,by simp,?_];let e3:(O.ins "Mint" (x8 "output" (.tup (s.co++[.tup [.int a,mk (gQ s.lo a),.int b,mk (gQ s.up b),.int s.yr]])) [("bench",.tup s.bl),("laid_off",.tup (s.go.map .int)),("lower_wear",.tup (gB s.lo)),("upper_wear",.tup (gB s.up)),("present",.int s.yr),("output",.tup s.co)]))=f7 { s with co:=s.co++[T9 s a b] }:=rfl;rw[e3];let qr:(g.set m (f7 { s with co:=s.co++[T9 s a b] }))[m]?=!(f7 { s with co:=s.co++[T9 s a b] }):=get_set hm;exists o8 qr rfl ?_;left;have:=h1 rfl;rw[show((s.co++[T9 s a b]).length:Int)-1=-s.co by rw[aM];simp];show this
def Yw(hT:TQ T)(hm:g[m]?=!f7 s){n:Int}(h1:(u7 s n).1=""->Q .aW (g.set m (f7 (u7 s n).2.2)))(h2:(u7 s n).1≠""->E #[(u7 s n).1] g):c9 T (k+3) 59 [.ref m,.int n] g Q E:=by
 show call_of hT.TK rfl ?_;delta P5;exists o8 hm rfl ?_;exists F6 hT.tm.nf ?_;left;by_cases hv:s.yr+1<=n/\n<=9999
 .let e:u7 s n=(("",.aW,{ s with yr:=n }):Rs):=by unfold u7;rw[au hv]
  rw[e] at h1;rw[aC hv.1,aC hv.2];show cc rfl ?_;exists u3 hm #[_] #[_] ?_;left;show h1 rfl
 .let e:u7 s n=(("BadYear",.aW,s):Rs):=by unfold u7;rw[aq hv]
  rw[e] at h2;have:(decide (s.yr+1<=n)&&decide (n<=9999))=false:=by
   rw[gp,aF,aF];show dS.mp hv
  rw[this];show eR rfl ?_;left;show h2 (by dsimp only;decide)
def a23(hT:TQ T)(hm:g[m]?=!f7 s)(h:Q (.ref (-g)) (g++[.lst s.bl])):c9 T (k+1) 60 [.ref m] g Q E:=by
 show call_of hT.tm.TJ rfl ?_;delta Z1;exists o8 hm rfl ?_;left;show h
end
def vW:ba:=#[4,5,(cY (cD .NotIn aO (bO .lst (bB "lower") (bB "upper"))) (cq (bO .tup (bB "BadSide") (.lit .aW))) (cY (.eF (.fQ (.chain .LtE .LtE (bp 1) bz (bS .len (cE aE aO))))) (cq (bO .tup (bB "NoDie") (.lit .aW))) (cY (.fU (cD .Eq aO (bB "lower")) (cD .In bz (cE aE (bB "gone")))) (cq (bO .tup (bB "Gone") (.lit .aW))) (cY (.eF (.fQ (.chain .LtE .LtE (bp 0) cL (bp 7)))) (cq (bO .tup (bB "BadSpot") (.lit .aW))) (eJ 4 (cE (cE aE aO) (bO (.bin .Sub) bz (bp 1))) (cY (cD .In cL fS) (cq (bO .tup (bB "Marked") (.lit .aW))) (iA (.fo (cE aE aO) (bO (.bin .Sub) bz (bp 1)) (bS .tuple (.comp [4,3] 4 (.one 3) (.ij (bp 8)) (.gW (cD .Eq cL aO) (cD .In cL aE)) cL))) (cq (bO .tup (bB "") (.lit .aW))))))))))]
def Bs:ba:=#[3,3,(cY (.gW (.eF (.fQ (.chain .LtE .LtE (bp 1) aO (bS .len (cE aE (bB "lower")))))) (.eF (.fQ (.chain .LtE .LtE (bp 1) bz (bS .len (cE aE (bB "upper"))))))) (cq (bO .tup (bB "NoDie") (.lit .aW))) (cY (cD .NotIn aO (cE aE (bB "seats"))) (cq (bO .tup (bB "NotFixed") (.lit .aW))) (cY (cD .Gt (bS .len (cE aE (bB "coins"))) (bp 199)) (cq (bO .tup (bB "Full") (.lit .aW))) (oj (.cK .append (cE aE (bB "coins")) (eN (.prim .tup (Ip aO (cE (cE aE (bB "lower")) (bO (.bin .Sub) aO (bp 1))) bz (cE (cE aE (bB "upper")) (bO (.bin .Sub) bz (bp 1))) (cE aE (bB "year")))))) (cq (bO .tup (bB "") (bO (.bin .Sub) (bS .len (cE aE (bB "coins"))) (bp 1))))))))]
abbrev mx(q:Nat)(y:Int):@&(Key×D):=[(.inr "seats",.ref (q+2)),(.inr "lower",.ref (q+3)),(.inr "upper",.ref (q+4)),(.inr "gone",.ref (q+5)),(.inr "year",.int y),(.inr "coins",.ref (q+6))]
structure MD(g:G)(q:Nat)(t:cH):Prop where
 du:g[q]?=!.du (mx q t.yr)
 eG:g[q+2]?=!.lst t.bl
 lower:g[q+3]?=!.lst (gB t.lo)
 upper:g[q+4]?=!.lst (gB t.up)
 gone:g[q+5]?=!.lst (t.go.map .int)
 fT:g[q+6]?=!.lst t.co
structure Kq(q:Nat)(g g':G):Prop where
 len:-g<=-g'
 old:∀i,(i<q\/q+7<=i)->i< -g->g'[i]?=g[i]?
def Kq.at(h:Kq q g g'){i:Nat}(hi:i<q\/q+7<=i)(e:g[i]?=!o):g'[i]?=!o:=(h.old i hi (l7 e)).trans e
def Kq.refl{q:Nat}{g:G}:Kq q g g:=#[ak _,λx x x=>rfl]
def Kq.trans{q:Nat}{g g1 g2:G}(a:Kq q g g1)(b:Kq q g1 g2):Kq q g g2:=#[aL a.len b.len,λi h hi=>(b.old i h (ax hi a.len)).trans (a.old i h hi)]
def Kq.ex(h:Ex g g'):Kq q g g':=#[h.len,λi x hi=>h.old i hi]
def Kq.set{q i:Nat}{g:G}{o:O}(h:q<=i/\i<q+7):Kq q g (g.set i o):=#[by simp,λj hj x=>by rw[aH ()]]
def Kq.draw{d:Nat}(h:Kq q g g')(hd:d<q)(D0:j2 g d):j2 g' d:=by
 let#[s,p,b,r,xs,h1,h2,h3,h4]:=D0.ex;show#[s,p,b,r,xs,h.at () h1,h.at () h2,h3,h4]
def MD.ex{t:cH}(h:MD g q t)(x:Ex g g'):MD g' q t:=#[x.at h.du,x.at h.eG,x.at h.lower,x.at h.upper,x.at h.gone,x.at h.fT]
def MD.gr{d:Nat}{t:cH}(h:MD g q t)(x:Gr d g g')(hd:d<q):MD g' q t:=#[x.at () h.du,x.at () h.eG,x.at () h.lower,x.at () h.upper,x.at () h.gone,x.at () h.fT]
def MD.E6{t:cH}(h:MD g q t)(w:@&D):MD (g.set (q+2) (.lst w)) q { t with bl:=w }:=#[d4 h.du (),get_set h.eG,d4 h.lower (),d4 h.upper (),d4 h.gone (),d4 h.fT ()]
def MD.b97{t:cH}(h:MD g q t)(w:@&(@&Int)):MD (g.set (q+3) (.lst (gB w))) q { t with lo:=w }:=#[d4 h.du (),d4 h.eG (),get_set h.lower,d4 h.upper (),d4 h.gone (),d4 h.fT ()]
def MD.b95{t:cH}(h:MD g q t)(w:@&(@&Int)):MD (g.set (q+4) (.lst (gB w))) q { t with up:=w }:=#[d4 h.du (),d4 h.eG (),d4 h.lower (),get_set h.upper,d4 h.gone (),d4 h.fT ()]
def MD.setG{t:cH}(h:MD g q t)(w:@&Int):MD (g.set (q+5) (.lst (w.map .int))) q { t with go:=w }:=#[d4 h.du (),d4 h.eG (),d4 h.lower (),d4 h.upper (),get_set h.gone,d4 h.fT ()]
def MD.setC{t:cH}(h:MD g q t)(w:@&D):MD (g.set (q+6) (.lst w)) q { t with co:=w }:=#[d4 h.du (),d4 h.eG (),d4 h.lower (),d4 h.upper (),d4 h.gone (),get_set h.fT]
def MD.b94{t:cH}(h:MD g q t)(n:Int):MD (g.set q (.du (mx q n))) q { t with yr:=n }:=#[get_set h.du,d4 h.eG (),d4 h.lower (),d4 h.upper (),d4 h.gone (),d4 h.fT ()]
def qh{y:Int}:J0 (mx q y) (.inr "seats")=!.ref (q+2):=rfl
def uS{y:Int}:J0 (mx q y) (.inr "lower")=!.ref (q+3):=rfl
def zT{y:Int}:J0 (mx q y) (.inr "upper")=!.ref (q+4):=rfl
def CW{y:Int}:J0 (mx q y) (.inr "gone")=!.ref (q+5):=rfl
def CV{y:Int}:J0 (mx q y) (.inr "year")=!.int y:=rfl
def CY{y:Int}:J0 (mx q y) (.inr "coins")=!.ref (q+6):=rfl
def MD.side{g:G}{q:Nat}{t:cH}{x:Str}(h:MD g q t)(hx:p6 x):∃r,(r=q+3\/r=q+4)/\J0 (mx q t.yr) (.inr x)=!.ref r/\g[r]?=!(.lst (gB (t.side x)))/\∀w,MD (g.set r (.lst (gB w))) q (t.put x w):=by
 rcases hx with rfl|rfl
 .refine#[q+3,.inl rfl,uS,by show h.lower,λw=>?_];show h.b97 w
 .refine#[q+4,.inr rfl,zT,by show h.upper,λw=>?_];show h.b95 w
section
variable{T:Nat->Option ba}
noncomputable abbrev vA(q:Nat)(g:G)(r:Rs)(Q:KD):Prop:=∀g',Kq q g g'->MD g' q r.2.2->Q (.tup [.str r.1,r.2.1]) g'
def Xi(En:T 46=!BL)(M0:MD g q s)(W:WS s)(ho:PyData.strOk x=true)(h:vA q g (v9 s x) Q):c9 T (k+1) 46 [.ref q,.str x] g Q E:=by
 show call_of En rfl ?_;delta BL;left;let e1:Ex g (g++[O.lst [.str "lower",.str "upper"]]):=Ex.snoc _ _;show Q9 (Ml d6 ho ?_);let M1:=M0.ex e1;let k1:=Kq.ex (q:=q) e1;generalize g++[O.lst [.str "lower",.str "upper"]]=g1 at *;left;by_cases hx:p6 x
 .refine cc (by rw[eM,eQ,bD,bD];show hx) ?_;let#[r,hr,vc,tF,xo]:=M1.side hx;exists m9 M1.du rfl vc ?_;show B1 (a9 tF) ?_;left;rw[ah];show if2 (λc=>?_) (λc=>?_)
  .let e:v9 s x=(("Full",.aW,s):Rs):=by unfold v9;rw[au hx,aq ()]
   rw[e] at h;left;show h _ k1 M1
  .let e:v9 s x=(("",.int ((s.side x).length+1),s.put x (s.side x++[[]])):Rs):=by unfold v9;rw[au hx,au ()]
   rw[e] at h;exists m9 M1.du rfl vc ?_;show#[S1 tF,?_];exists T4 tF (by simp;omega) ?_;let e2:gB (s.side x)++[D.tup []]=gB (s.side x++[[]]):=by rw[gB,gB,aK];rfl
   rw[e2];let M2:=xo (s.side x++[[]]);let xq:(g1.set r (.lst (gB (s.side x++[[]]))))[r]?=!(.lst (gB (s.side x++[[]]))):=get_set tF;let hd2:(g1.set r (.lst (gB (s.side x++[[]]))))[q]?=!.du (mx q s.yr):=d4 M1.du ();exists m9 hd2 rfl vc ?_;show B1 (a9 xq) ?_;left;rw[ah,aM];have:=h _ (k1.trans (Kq.set (i:=r) ())) M2;show this
 .refine eR (by rw[cj,jR,aF,aF];show not_or.mp hx) ?_;let e:v9 s x=(("BadSide",.aW,s):Rs):=by unfold v9;rw[aq hx]
  rw[e] at h;left;show h _ k1 M1
def Xj(hi:T 178=!BN)(M0:MD g q s)(W:WS s)(h:vA q g (n6 s v) Q):c9 T (k+1) 178 [.ref q,.int v] g Q E:=by
 show call_of hi rfl ?_;delta BN;left;let no:¬(1<=v/\v<=-s.lo)->Q (.tup [.str "NoDie",.aW]) g:=λhv=>by
  let e:n6 s v=(("NoDie",.aW,s):Rs):=by unfold n6;rw[aq hv]
  rw[e] at h;show h _ Kq.refl M0
 by_cases jU:1<=v
 .rw[aC jU];exists m9 M0.du rfl uS ?_;show B1 (a9 M0.lower) ?_;left;rw[ah];by_cases jJ:v<=(-s.lo:Int)
  .rw[aC jJ];exists m9 M0.du rfl qh ?_;show Z7 (v8 (l:=s.bl) (a9 M0.eG) W.se (.inr #[v,rfl]) ?_);left;cases e1:B5 s v with
   |true =>
    let e:n6 s v=(("Fixed",.aW,s):Rs):=by unfold n6;rw[au #[jU,jJ],au e1]
    rw[e] at h;show eR e1 ?_;left;show h _ Kq.refl M0
   |false =>
    show cc e1 ?_;exists m9 M0.du rfl CW ?_;show Z7 (v8 (l:=s.go.map D.int) (a9 M0.gone) L7 (.inr #[v,rfl]) ?_);left;cases e2:N8 s v with
    |true =>
     let e:n6 s v=(("Gone",.aW,s):Rs):=by unfold n6;rw[au #[jU,jJ],aq (kD e1),au e2]
     rw[e] at h;show eR e2 ?_;left;show h _ Kq.refl M0
    |false =>
     show cc e2 ?_;exists m9 M0.du rfl qh ?_;show Q9 (v8 (l:=s.bl) (a9 M0.eG) W.se (.inl rfl) ?_);left;cases e3:s.bl.any (iL .aW) with
     |false =>
      let e:n6 s v=(("NoAnvil",.aW,s):Rs):=by unfold n6;rw[au #[jU,jJ],aq (kD e1),aq (kD e2),aq (kD e3)]
      rw[e] at h;show eR rfl ?_;left;show h _ Kq.refl M0
     |true =>
      let e:n6 s v=(("",.int (iZ s.bl .aW),{ s with bl:=s.bl.set (iZ s.bl .aW) (.int v) }):Rs):=by unfold n6;rw[au #[jU,jJ],aq (kD e1),aq (kD e2),au e3]
      rw[e] at h;show cc rfl ?_;let#[F,hn,_]:=R8 W.se (.inl rfl) e3;let bn:=W.bn;exists m9 M0.du rfl qh ?_;show#[PJ (a9 M0.eG),?_];show Kn (a9 M0.eG) F () ?_;exists m9 M0.du rfl qh ?_;exists C5 M0.eG (FK hn) ?_;left;show h _ (Kq.set (i:=q+2) ()) (M0.E6 _)
  .rw[az jJ];left;show no λz=>jJ z.2
 .rw[az jU];left;show no λz=>jU z.1
def Xk(hi:T 179=!BO)(M0:MD g q s)(W:WS s)(h:vA q g (x9 s v) Q):c9 T (k+1) 179 [.ref q,.int v] g Q E:=by
 show call_of hi rfl ?_;delta BO;left;let no:¬(1<=v/\v<=-s.lo)->Q (.tup [.str "NoDie",.aW]) g:=λhv=>by
  let e:x9 s v=(("NoDie",.aW,s):Rs):=by unfold x9;rw[aq hv]
  rw[e] at h;show h _ Kq.refl M0
 by_cases jU:1<=v
 .rw[aC jU];exists m9 M0.du rfl uS ?_;show B1 (a9 M0.lower) ?_;left;rw[ah];by_cases jJ:v<=(-s.lo:Int)
  .rw[aC jJ];exists m9 M0.du rfl qh ?_;show Q9 (v8 (l:=s.bl) (a9 M0.eG) W.se (.inr #[v,rfl]) ?_);left;cases e1:B5 s v with
   |false =>
    let e:x9 s v=(("NotFixed",.aW,s):Rs):=by unfold x9;rw[au #[jU,jJ],aq (kD e1)]
    rw[e] at h;show eR (show(~~~B5 s v)=true by rw[e1];rfl) ?_;left;show h _ Kq.refl M0
   |true =>
    let e:x9 s v=(("",.int (iZ s.bl (.int v)),{ s with bl:=s.bl.set (iZ s.bl (.int v)) .aW,go:=s.go++[v] }):Rs):=by unfold x9;rw[au #[jU,jJ],au e1]
    rw[e] at h;show cc (show(~~~B5 s v)=false by rw[e1];rfl) ?_;let#[F,hn,_]:=R8 W.se (.inr #[v,rfl]) e1;let bn:=W.bn;let gl:=Li W;exists m9 M0.du rfl qh ?_;show#[PJ (a9 M0.eG),?_];exists Kn (a9 M0.eG) F () ?_;exists m9 M0.du rfl qh ?_;exists C5 M0.eG (FK hn) ?_;let M1:=M0.E6 (s.bl.set (iZ s.bl (.int v)) .aW);exists m9 M1.du rfl CW ?_;show#[S1 M1.gone,?_];exists T4 M1.gone (by simp;omega) ?_;let M2:=M1.setG (s.go++[v]);rw[aK] at M2;left;show h _ ((Kq.set (i:=q+2) ()).trans (Kq.set (i:=q+5) ())) M2
  .rw[az jJ];left;show no λz=>jJ z.2
 .rw[az jU];left;show no λz=>jU z.1
def VO{l:@&(@&Int)}{w:@&Int}:(gB l).set (v-1).toNat (mk w)=gB (l.set (v-1).toNat w):=by rw[gB,gB,gR]
def b37(hv:1<=v/\v<=n):kr n (v-1)=!(v-1).toNat:=by
 have:=FK (n:=n) (k:=(v-1).toNat) ()
 rwa [show(((v-1).toNat:Nat):Int)=v-1 by omega] at this
def a96(hi:T 181=!vW)(M0:MD g q s)(W:WS s)(ho:PyData.strOk x=true)(h:vA q g (j3 s x v j) Q):c9 T (k+1) 181 [.ref q,.str x,.int v,.int j] g Q E:=by
 show call_of hi rfl ?_;delta vW;left;let e1:Ex g (g++[O.lst [.str "lower",.str "upper"]]):=Ex.snoc _ _;show Q9 (Ml d6 ho ?_);let M1:=M0.ex e1;let k1:=Kq.ex (q:=q) e1;generalize g++[O.lst [.str "lower",.str "upper"]]=g1 at *;left;by_cases hx:p6 x
 .refine cc (by rw[eM,eQ,bD,bD];show hx) ?_;let#[r,hr,vc,tF,xo]:=M1.side hx;let no:¬(1<=v/\v<=(s.side x).length)->Q (.tup [.str "NoDie",.aW]) g1:=λhv=>by
   let e:j3 s x v j=(("NoDie",.aW,s):Rs):=by unfold j3;rw[au hx,aq hv]
   rw[e] at h;show h _ k1 M1
  left;by_cases jU:1<=v
  .rw[aC jU];exists m9 M1.du rfl vc ?_;show B1 (a9 tF) ?_;left;rw[ah];by_cases jJ:v<=((s.side x).length:Int)
   .rw[aC jJ];let hv:1<=v/\v<=(s.side x).length:=#[jU,jJ]
    let fin:∀(N:Ends),N.rt=Q->¬(x="lower"/\N8 s v=true)->wpS (c9 T k) (match vW.body with|.seq _ (.seq _ (.seq _ b))=>b|x=>x) N [!.ref q,!.str x,!.int v,!.int j,none] g1 E:=by
     intro N hN tM;dsimp[vW];let bad:¬(0<=j/\j<=7)->N.rt (.tup [.str "BadSpot",.aW]) g1:=λhj=>by
      let e:j3 s x v j=(("BadSpot",.aW,s):Rs):=by unfold j3;rw[au hx,au hv,aq tM,aq hj]
      rw[e] at h;rw[hN];show h _ k1 M1
     left;by_cases xC:0<=j
     .rw[aC xC];left;by_cases xB:j<=7
      .rw[aC xB];exists m9 M1.du rfl vc ?_;exists v7 (a9 tF) (AE hv) ?_;exists Z7 (AZ (l:=gQ (s.side x) v) rfl ?_);left;by_cases hq:j∈gQ (s.side x) v
       .let e:j3 s x v j=(("Marked",.aW,s):Rs):=by unfold j3;rw[au hx,au hv,aq tM,au #[xC,xB],au hq]
        rw[e] at h;rw[aC hq];show oz ?_;left;rw[hN];show h _ k1 M1
       .let e:j3 s x v j=(("",.aW,s.put x ((s.side x).set (v-1).toNat (markL (gQ (s.side x) v) j))):Rs):=by unfold j3;rw[au hx,au hv,aq tM,au #[xC,xB],aq hq]
        rw[e] at h;rw[az hq];show Z5 ?_;exists aV7 (d9 T _) ?_;show#[8,rfl,by omega,λi ys σ g2=>∃z2 z3,ys=((rh.take i).filter λi=>decide (i=j\/i∈gQ (s.side x) v)).map .int/\σ=[!(mk (gQ (s.side x) v)),!.int j,z2,z3]/\g2=g1,#[none,none,rfl,rfl,rfl],λi ys σ g2 p=>?_,λi ys σ g2 hi p=>?_,λys σ g2 p=>?_]
        .let#[_,_,rfl,_]:=p;rw[ah];show aL (gm _ _) (by rw[bu];omega)
        .let#[z2,z3,rfl,rfl,rfl]:=p;show A3 ?_;let tk:rh.take (i+1)=rh.take i++[(i:Int)]:=by
          have:i=0\/i=1\/i=2\/i=3\/i=4\/i=5\/i=6\/i=7:=by omega
          rcases this with rfl|rfl|rfl|rfl|rfl|rfl|rfl|rfl<;>rfl
         left;by_cases jH:(i:Int)=j
         .rw[aC jH];exists#[_,_,?_,rfl,rfl];rw[tk,kK,aK,show List.filter (λi=>decide (i=j\/i∈gQ (s.side x) v)) [(i:Int)]=[(i:Int)] by rw[mL,au (aC (Or.inl jH))];rfl]
          rfl
         .rw[az jH];exists Z7 (AZ (l:=gQ (s.side x) v) rfl ?_);left;by_cases Ag:(i:Int)∈gQ (s.side x) v
          .rw[aC Ag];exists#[_,_,?_,rfl,rfl];rw[tk,kK,aK,show List.filter (λi=>decide (i=j\/i∈gQ (s.side x) v)) [(i:Int)]=[(i:Int)] by rw[mL,au (aC (Or.inr Ag))];rfl]
           rfl
          .rw[az Ag];show#[_,_,?_,rfl,rfl];rw[tk,kK,aK,show List.filter (λi=>decide (i=j\/i∈gQ (s.side x) v)) [(i:Int)]=[] by rw[mL,aq (by rw[bD];show not_or.mpr #[jH,Ag])];rfl];simp
        .let#[z2,z3,rfl,rfl,rfl]:=p;let e2:(rh.take 8).filter (λi=>decide (i=j\/i∈gQ (s.side x) v))=markL (gQ (s.side x) v) j:=rfl;rw[e2];let e3:Ex g2 (g2++[O.lst ((markL (gQ (s.side x) v) j).map .int)]):=Ex.snoc _ _;show BZ (a9 d6) ?_;let M3:=M1.ex e3;let#[r',oB,DJ,Dt,xn]:=M3.side hx;exists m9 M3.du rfl DJ ?_;exists C5 Dt (by rw[ah];show b37 hv) ?_;let es:=VO (l:=s.side x) (v:=v) (w:=markL (gQ (s.side x) v) j);rw[show D.tup ((markL (gQ (s.side x) v) j).map .int)=mk (markL (gQ (s.side x) v) j) from rfl,es];left;rw[hN];show h _ (k1.trans ((Kq.ex e3).trans (Kq.set (i:=r') ()))) (xn _)
      .rw[az xB];left;show bad λz=>xB z.2
     .rw[az xC];left;show bad λz=>xC z.1
    exists if2 (λrP=>?_) (λrP=>?_)
    .exists m9 M1.du rfl CW ?_;show Z7 (v8 (l:=s.go.map D.int) (a9 M1.gone) L7 (.inr #[v,rfl]) ?_);left;cases e2:N8 s v with
     |true =>
      let e:j3 s x v j=(("Gone",.aW,s):Rs):=by unfold j3;rw[au hx,au hv,au #[rP,e2]]
      rw[e] at h;show eR e2 ?_;left;show h _ k1 M1
     |false =>
      show cc e2 ?_;show J7 ?_;show fin _ rfl (λz=>kD e2 z.2)
    .exact fin _ rfl (λz=>rP z.1)
   .rw[az jJ];left;show no λz=>jJ z.2
  .rw[az jU];left;show no λz=>jU z.1
 .refine eR (by rw[cj,jR,aF,aF];show not_or.mp hx) ?_;let e:j3 s x v j=(("BadSide",.aW,s):Rs):=by unfold j3;rw[aq hx]
  rw[e] at h;left;show h _ k1 M1
def aO0(hi:T 182=!Bs)(M0:MD g q s)(W:WS s){a b:Int}(h:vA q g (j4 s a b) Q):c9 T (k+1) 182 [.ref q,.int a,.int b] g Q E:=by
 show call_of hi rfl ?_;delta Bs;let no:¬((1<=a/\a<=-s.lo)/\(1<=b/\b<=-s.up))->Q (.tup [.str "NoDie",.aW]) g:=λhv=>by
  let e:j4 s a b=(("NoDie",.aW,s):Rs):=by unfold j4;rw[aq hv]
  rw[e] at h;show h _ Kq.refl M0
 left;by_cases An:1<=a
 .rw[aC An];exists m9 M0.du rfl uS ?_;show B1 (a9 M0.lower) ?_;left;rw[ah];by_cases Am:a<=(-s.lo:Int)
  .rw[aC Am];left;by_cases Ak:1<=b
   .rw[aC Ak];exists m9 M0.du rfl zT ?_;show B1 (a9 M0.upper) ?_;left;rw[ah];by_cases qx:b<=(-s.up:Int)
    .rw[aC qx];let ha:1<=a/\a<=-s.lo:=#[An,Am]
     let hb:1<=b/\b<=-s.up:=#[Ak,qx]
     exists m9 M0.du rfl qh ?_;show Q9 (v8 (l:=s.bl) (a9 M0.eG) W.se (.inr #[a,rfl]) ?_);left;cases e1:B5 s a with
     |false =>
      let e:j4 s a b=(("NotFixed",.aW,s):Rs):=by unfold j4;rw[au #[ha,hb],aq (kD e1)]
      rw[e] at h;show eR (show(~~~B5 s a)=true by rw[e1];rfl) ?_;left;show h _ Kq.refl M0
     |true =>
      show cc (show(~~~B5 s a)=false by rw[e1];rfl) ?_;exists m9 M0.du rfl CY ?_;show B1 (a9 M0.fT) ?_;exists if2 (λhl=>?_) (λhl=>?_)
      .let e:j4 s a b=(("Full",.aW,s):Rs):=by unfold j4;rw[au #[ha,hb],au e1,aq ()]
       rw[e] at h;left;show h _ Kq.refl M0
      .let e:j4 s a b=(("",.int (-s.co),{ s with co:=s.co++[T9 s a b] }):Rs):=by unfold j4;rw[au #[ha,hb],au e1,au ()]
       rw[e] at h;exists m9 M0.du rfl CY ?_;show#[S1 M0.fT,?_];exists m9 M0.du rfl uS ?_;exists v7 (a9 M0.lower) (AE ha) ?_;exists m9 M0.du rfl zT ?_;exists v7 (a9 M0.upper) (AE hb) ?_;exists m9 M0.du rfl CV ?_;exists T4 M0.fT () ?_;let M1:=M0.setC (s.co++[T9 s a b]);exists m9 M1.du rfl CY ?_;show B1 (a9 M1.fT) ?_;left;have:=h _ (Kq.set (i:=q+6) ()) M1;rw[show((s.co++[T9 s a b]).length:Int)-1=-s.co by simp];show this
    .rw[az qx];left;show no λz=>qx z.2.2
   .rw[az Ak];left;show no λz=>Ak z.2.1
  .rw[az Am];left;show no λz=>Am z.1.2
 .rw[az An];left;show no λz=>An z.1.1
end
def Fq:ba:=#[2,3,(eJ 2 (cE aO (bp 0)) (cY (cD .Eq bz (bB "cut")) (cq (fR 46 aE (cE aO (bp 1)))) (cY (cD .Eq bz (bB "fix")) (cq (fR 178 aE (cE aO (bp 1)))) (cY (cD .Eq bz (bB "off")) (cq (fR 179 aE (cE aO (bp 1)))) (cY (cD .Eq bz (bB "mark")) (cq (RO 181 aE (cE aO (bp 1)) (cE aO (bp 2)) (cE aO (bp 3)))) (cY (cD .Eq bz (bB "strike")) (cq (qf 182 aE (cE aO (bp 1)) (cE aO (bp 2)))) (cY (.gW (.eF (.fQ (.chain .LtE .LtE (bp 1) (cE aO (bp 1)) (bp 9999)))) (cD .LtE (cE aO (bp 1)) (cE aE (bB "year")))) (cq (bO .tup (bB "BadYear") (.lit .aW))) (iA (.fo aE (bB "year") (cE aO (bp 1))) (cq (bO .tup (bB "") (.lit .aW)))))))))))]
def Bg:ba:=#[2,3,(eJ 2 (cE aO (bp 0)) (cY (cD .Eq bz (bB "cut")) (cq (.cA "cut" [("Mint",54)] aE (eN (cE aO (bp 1))))) (cY (cD .Eq bz (bB "fix")) (cq (.cA "fix" [("Mint",55)] aE (eN (cE aO (bp 1))))) (cY (cD .Eq bz (bB "off")) (cq (.cA "lay_off" [("Mint",56)] aE (eN (cE aO (bp 1))))) (cY (cD .Eq bz (bB "mark")) (cq (.cA "mark" [("Mint",57)] aE (Io (cE aO (bp 1)) (cE aO (bp 2)) (cE aO (bp 3))))) (cY (cD .Eq bz (bB "strike")) (cq (.cA "strike" [("Mint",58)] aE (pZ (cE aO (bp 1)) (cE aO (bp 2))))) (cq (.cA "begin_year" [("Mint",59)] aE (eN (cE aO (bp 1)))))))))))]
inductive Dd where
 |cut (x:Str)|fix (v:Int)|off (v:Int)|mark (x:Str) (v j:Int)|eZ (a b:Int)|year (n:Int)
abbrev Dd.d:Dd->D
 |.cut x=>.tup [.str "cut",.str x]
 |.fix v=>.tup [.str "fix",.int v]
 |.off v=>.tup [.str "off",.int v]
 |.mark x v j=>.tup [.str "mark",.str x,.int v,.int j]
 |.eZ a b=>.tup [.str "strike",.int a,.int b]
 |.year n=>.tup [.str "year",.int n]
abbrev Dd.ok:Dd->Prop
 |.cut x=>PyData.strOk x=true
 |.mark x _ _=>PyData.strOk x=true
 |_=>True
abbrev fZ(s:cH):Dd->Rs
 |.cut x=>v9 s x
 |.fix v=>n6 s v
 |.off v=>x9 s v
 |.mark x v j=>j3 s x v j
 |.eZ a b=>j4 s a b
 |.year n=>u7 s n
def BB(W:WS s):WS (fZ s dd).2.2:=by
 cases dd
 .exact ZK W
 .exact ZL W
 .exact ZM W
 .exact bH1 W
 .exact Yx W
 .exact bH0 W
def Xg:(j3 s x v j).2.1=.aW:=by unfold j3;(repeat' split)<;>rfl
def Yv{n:Int}:(u7 s n).2.1=.aW:=by unfold u7;(repeat' split)<;>rfl
structure TR(T:Nat->Option ba):Prop where
 tq:TQ T
 En:T 46=!BL
 EE:T 178=!BN
 ED:T 179=!BO
 EC:T 181=!vW
 EB:T 182=!Bs
 EA:T 183=!Fq
section
variable{T:Nat->Option ba}{d:Nat}
def aY4{f:Nat}(hT:TQ T)(Ez:T f=!Bg)(hm:g[m]?=!f7 s)(W:WS s)(ho:dd.ok)(h1:(fZ s dd).1=""->∀g',Ex g g'->Q (fZ s dd).2.1 (g'.set m (f7 (fZ s dd).2.2)))(h2:(fZ s dd).1≠""->E #[(fZ s dd).1] g):c9 T (k+6) f [.ref m,dd.d] g Q E:=by
 show call_of Ez rfl ?_;cases dd<;>dsimp[Bg,d5,List.replicate,Dd.d,fZ] at h1 h2 ⊢
 .exists eR #[] ?_;exists k7 hm rfl rfl ?_;left;show bF9 (k:=k+2) hT hm W ho (λe=>h1 e g (Ex.refl _)) h2
 .exists cc #[] ?_;exists eR #[] ?_;exists k7 hm rfl rfl ?_;left;show bF4 (k:=k) hT hm W (λe=>h1 e g (Ex.refl _)) h2
 .exists cc #[] ?_;exists cc #[] ?_;exists eR #[] ?_;exists k7 hm rfl rfl ?_;left;show bC9 (k:=k) hT hm W (λe=>h1 e g (Ex.refl _)) h2
 .exists cc #[] ?_;exists cc #[] ?_;exists cc #[] ?_;exists eR #[] ?_;exists k7 hm rfl rfl ?_;left;rw[Xg] at h1;show Xh (k:=k) hT hm W ho h1 h2
 .exists cc #[] ?_;exists cc #[] ?_;exists cc #[] ?_;exists cc #[] ?_;exists eR #[] ?_;exists k7 hm rfl rfl ?_;left;show aW8 (k:=k) hT hm W (λe=>h1 e g (Ex.refl _)) h2
 .exists cc #[] ?_;exists cc #[] ?_;exists cc #[] ?_;exists cc #[] ?_;exists cc #[] ?_;exists k7 hm rfl rfl ?_;left;rw[Yv] at h1;show Yw (k:=k+2) hT hm (λe=>h1 e g (Ex.refl _)) h2
set_option tactic.hygienic true in
def NU(hT:TR T)(M0:MD g q s)(W:WS s)(ho:dd.ok)(h:vA q g (fZ s dd) Q):c9 T (k+2) 183 [.ref q,dd.d] g Q E:=by
 show call_of hT.EA rfl ?_;cases dd<;>dsimp[Fq,d5,List.replicate,Dd.d,fZ] at h ⊢
 .exists eR #[] ?_;left;show Xi (k:=k) hT.En M0 W ho h
 .exists cc #[] ?_;exists eR #[] ?_;left;show Xj (k:=k) hT.EE M0 W h
 .exists cc #[] ?_;exists cc #[] ?_;exists eR #[] ?_;left;show Xk (k:=k) hT.ED M0 W h
 .exists cc #[] ?_;exists cc #[] ?_;exists cc #[] ?_;exists eR #[] ?_;left;show a96 (k:=k) hT.EC M0 W ho h
 .exists cc #[] ?_;exists cc #[] ?_;exists cc #[] ?_;exists cc #[] ?_;exists eR #[] ?_;left;show aO0 (k:=k) hT.EB M0 W h
 .rename_i n;let no:¬(s.yr+1<=n/\n<=9999)->Q (.tup [.str "BadYear",.aW]) g:=λhv=>by
   let e:u7 s n=(("BadYear",.aW,s):Rs):=by unfold u7;rw[aq hv]
   rw[e] at h;show h _ Kq.refl M0
  let y0:=W.y0;exists cc #[] ?_;exists cc #[] ?_;exists cc #[] ?_;exists cc #[] ?_;exists cc #[] ?_;left;by_cases h1:1<=n
  .rw[aC h1];left;by_cases h2:n<=9999
   .rw[aC h2];exists m9 M0.du rfl CV ?_;exists if2 (λc=>?_) (λc=>?_)
    .left;show no ()
    .let e:u7 s n=(("",.aW,{ s with yr:=n }):Rs):=by unfold u7;rw[au ()]
     rw[e] at h;exists Zq M0.du rfl (by simp[mx]) ?_;let e2:(O.du (putD (mx q s.yr) (.inr "year") (.int n)))=.du (mx q n):=rfl;rw[e2];left;show h _ (Kq.set (i:=q) ()) (M0.b94 n)
   .rw[az h2];left;show no ()
  .rw[az h1];left;show no ()
end
def Gv:ba:=#[2,2,(cY (.gW (cD .Eq (bS .len aO) (bp 0)) (cD .Eq (fR 4 aE (bp 10)) (bp 4))) (cq (fR 36 aE (bO (.bin .Add) (bp 3) (bS .len aO)))) (cq (cE aO (fR 4 aE (bS .len aO)))))]
def Q7:ba:=#[2,9,(eJ 2 (fR 4 aE (bp 20)) (eJ 3 (.comp [] 2 (.one 1) (.jF (cE aO (bB "seats"))) (cD .IsNot aO (.lit .aW)) aO) (eJ 4 (.comp [3] 3 (.one 2) (.jk (bp 1) (bO (.bin .Add) (bS .len (cE aO (bB "lower"))) (bp 1))) (cD .NotIn bz aE) bz) (eJ 5 (bO .kP (bp 1) (bO (.bin .Add) (bS .len (cE aO (bB "upper"))) (bp 1))) (cY (.gW (cD .Lt bz (bp 2)) (.fU (cD .Eq (bS .len iV) (bp 0)) (cD .Lt bz (bp 6)))) (cq (bO .tup (bB "cut") (.ite (cD .Eq (bS .len iV) (bp 0)) (bB "upper") (jb 29 aE)))) (cY (.gW (cD .Lt bz (bp 5)) (cD .Eq (bS .len cL) (bp 0))) (cY (.gW (cD .Eq (bS .len fS) (bp 0)) (cD .Eq (fR 4 aE (bp 4)) (bp 0))) (cq (bO .tup (bB "cut") (bB "lower"))) (cq (bO .tup (bB "fix") (fR 37 aE (bO (.bin .Add) fS (bO (.bin .Mult) cL (bS .int (bO (.cmp .Eq) (fR 4 aE (bp 5)) (bp 0))))))))) (cY (cD .Lt bz (bp 6)) (cq (bO .tup (bB "off") (fR 37 aE cL))) (cY (cD .Lt bz (bp 10)) (eJ 6 (jb 29 aE) (cq (.prim .tup (zM (bB "mark") jj (fR 37 aE (.ite (cD .Eq jj (bB "lower")) cL iV)) (bO (.bin .Sub) (fR 4 aE (bp 10)) (bp 1)))))) (cY (cD .Lt bz (bp 18)) (cq (.prim .tup (Io (bB "strike") (fR 37 aE cL) (fR 37 aE iV)))) (eJ 7 (cE aO (bB "year")) (eJ 8 (.prim .lst (.cons (bO (.bin .Add) lT (bp 1)) (.cons (bO (.bin .Add) lT (bp 7)) (.cons (bO (.bin .Add) lT (bp 1)) (zI lT (bO (.bin .Sub) lT (bp 3)) (bp 1350) (bp 1412) (bp 9999) (bp 10000) (jb 5 aE)))))) (cq (bO .tup (bB "year") (cE mZ (fR 4 aE (bp 10))))))))))))))))]
def XQ{a:Int}:∃ns:@&Int,o7 a n=ns.map .int/\-ns=n:=#[(List.range n).map λk:Nat=>a+k,by unfold o7;rw[eL];rfl,by simp]
structure TV(T:Nat->Option ba):Prop where
 h4:T 4=!F9
 h5:T 5=!uh
 Av:T 29=!BR
 Au:T 36=!BP
 Ue:T 37=!Gv
 Ey:T 188=!Q7
section
variable{T:Nat->Option ba}{d:Nat}
def OZ(h4:T 4=!F9)(h5:T 5=!uh)(Au:T 36=!BP)(hj:0<=j/\j<=1000)(D0:j2 g d)(h:∀(v:Int) g',j2 g' d->Gr d g g'->Q (.int v) g'):c9 T (k+3) 36 [.ref d,.int j] g Q E:=by
 show call_of Au rfl ?_;delta BP;exists j6 h4 D0 ∅ ∅ λr g1 x x D1 G1=>?_;exists if2 (λx=>?_) (λx=>?_)
 .left;show Lg h4 h5 D1 λf g2 D2 G2=>h _ _ D2 (G1.trans G2)
 .exists j6 h4 D1 () () λr g2 x x D2 G2=>?_;left;show h _ _ D2 (G1.trans G2)
def M6(hT:TV T){i:Nat}(hi:g[i]?=!.lst (ns.map .int))(hd:d<i)(hz:-ns<=900)(D0:j2 g d)(h:∀(v:Int) g',j2 g' d->Gr d g g'->Q (.int v) g'):c9 T (k+4) 37 [.ref d,.ref i] g Q E:=by
 show call_of hT.Ue rfl ?_;delta Gv;left;rw[ah];show if2 (λc=>?_) (λc=>?_)
 .exists OZ (k:=k) hT.h4 hT.h5 hT.Au (by rw[ah];omega) D0 λv g2 D2 G2=>?_;show h v g2 D2 G2
 .exists j6 hT.h4 D0 ∅ ∅ λr g1 x x D1 G1=>?_;let DP:=G1.at () hi;exists if2 (λx=>?_) (λx=>?_)
  .exists OZ (k:=k) hT.h4 hT.h5 hT.Au (by rw[ah];omega) D1 λv g2 D2 G2=>?_;show h v g2 D2 (G1.trans G2)
  .left;rw[ah];show j6 hT.h4 D1 () () λr2 g2 r0 r1 D2 G2=>?_;let#[y,hy,hm]:=P9 (l:=ns.map D.int) r0 (by rw[ah];show r1);let#[v,_,rfl]:=aI.mp hm;show v7 (a9 (G2.at () DP)) hy ?_;left;show h v g2 D2 (G1.trans G2)
noncomputable abbrev Lo:MS:=match Q7.body with|.seq _ (.seq _ (.seq _ (.seq _ (.seq (.ifs _ a _) _))))=>a|x=>x
noncomputable abbrev V8:MS:=match Q7.body with|.seq _ (.seq _ (.seq _ (.seq _ (.seq _ b))))=>b|x=>x
noncomputable abbrev Lp:MS:=match V8 with|.seq _ c=>c|x=>x
noncomputable abbrev AI:MS:=match V8 with|.seq (.ifs _ i _) _=>i|x=>x
noncomputable abbrev Lq:MS:=match AI with|.seq _ j=>j|x=>x
structure DC(g:G)(d q o p u:Nat)(s:cH)(on iz ups:@&Int):Prop where
 dr:j2 g d
 md:MD g q s
 ho:g[o]?=!.lst (on.map .int)
 hp:g[p]?=!.lst (iz.map .int)
 hu:g[u]?=!.lst (ups.map .int)
 dq:d<q
 lo:d<o
 lp:d<p
 lu:d<u
 n1:-on<=9
 n2:-iz<=99
 n3:-ups<=99
def DC.gr{g':G}{o p u:Nat}{on iz ups:@&Int}(h:DC g d q o p u s on iz ups)(x:Gr d g g')(D:j2 g' d):DC g' d q o p u s on iz ups:=by
 let h1:=h.lo;let h2:=h.lp;let h3:=h.lu;show#[D,h.md.gr x h.dq,x.at () h.ho,x.at () h.hp,x.at () h.hu,h.dq,h1,h2,h3,h.n1,h.n2,h.n3]
def Kd(hT:TV T){o:Nat}(C:DC g d q o p u s on iz ups)(hN:N.rt=Q)(h:∀(dd:Dd) g',dd.ok->j2 g' d->Gr d g g'->Q dd.d g') :
  wpS (c9 T (k+4)) Lo N [!.ref d,!.ref q,!.int r,!.ref o,!.ref p,!.ref u,none,none,none] g E:=by
 dsimp[Lo,Q7];exists B1 (a9 C.hu) ?_;exists if2 (λc=>?_) (λc=>?_)
 .left;rw[hN];show h (.cut "upper") _ (by change PyData.strOk _=true;decide +kernel) C.dr (Gr.refl _ _)
 .exists Oy (k:=k+2) hT.h4 hT.Av C.dr λx g1 ho D1 G1=>?_;left;rw[hN];show h (.cut x) _ ho D1 G1
def b51(hT:TV T){o:Nat}(C:DC g d q o p u s on iz ups)(hN:N.rt=Q)(h:∀(dd:Dd) g',dd.ok->j2 g' d->Gr d g g'->Q dd.d g') :
  wpS (c9 T (k+4)) Lq N [!.ref d,!.ref q,!.int r,!.ref o,!.ref p,!.ref u,none,none,none] g E:=by
 let n1:=C.n1;let n2:=C.n2;dsimp[Lq,AI,V8,Q7];exists j6 hT.h4 C.dr ∅ ∅ λr1 g1 x x D1 G1=>?_;let C1:=C.gr G1 D1;left;obtain⟨w,hw,zY⟩:∃w:Int,(if decide (r1=0)=true then(1:Int) else 0)=w/\(w=0\/w=1):=by
  show#[_,rfl,?_];split
  .exact .inr rfl
  .exact .inl rfl
 rw[hw];obtain⟨ns,en,hnl⟩:∃ns:@&Int,(List.replicate w.toNat (on.map D.int)).flatten=ns.map .int/\-ns<=9:=by
  rcases zY with rfl|rfl
  .exact#[[],rfl,by simp]
  .exact#[on,by show(List.replicate 1 _).flatten=_;simp,n1]
 show Ka C1.ho () () (by rw[ah];rcases zY with rfl|rfl<;>(simp;try omega)) ?_;rw[en];let e2:Ex g1 (g1++[O.lst (ns.map .int)]):=Ex.snoc _ _;let D2:=D1.snoc (O.lst (ns.map .int));let C2:=C1.gr (e2.gr d) D2;show BD C2.hp d6 (by simp;omega) ?_;let l2:d<(g1++[O.lst (ns.map .int)]).length:=D2.lt;let x2:=G1.trans (e2.gr d);generalize g1++[O.lst (ns.map .int)]=g2 at *;let D3:=D2.snoc (O.lst (iz.map .int++ns.map .int));let e3:Ex g2 (g2++[O.lst (iz.map .int++ns.map .int)]):=Ex.snoc _ _;let h3:(g2++[O.lst (iz.map .int++ns.map .int)])[(-g2)]?=!(.lst ((iz++ns).map .int)):=by rw[aK];show d6
 generalize g2++[O.lst (iz.map .int++ns.map .int)]=g3 at *;exists M6 (k:=k) hT h3 l2 (by simp;omega) D3 λv g4 D4 G4=>?_;left;rw[hN];show h (.fix v) _ trivial D4 (x2.trans ((e3.gr d).trans G4))
def Kf(hT:TV T){o:Nat}(C:DC g d q o p u s on iz ups)(hN:N.rt=Q)(h:∀(dd:Dd) g',dd.ok->j2 g' d->Gr d g g'->Q dd.d g') :
  wpS (c9 T (k+4)) AI N [!.ref d,!.ref q,!.int r,!.ref o,!.ref p,!.ref u,none,none,none] g E:=by
 let lw:∀g',j2 g' d->Gr d g g'->Q (.tup [.str "cut",.str "lower"]) g':=λg' D G=>h (.cut "lower") g' (by change PyData.strOk _=true;decide +kernel) D G;dsimp[AI,V8,Q7];exists B1 (a9 C.hp) ?_;exists if2 (λc=>?_) (λc=>?_)
 .left;rw[hN];show lw _ C.dr (Gr.refl _ _)
 .exists j6 hT.h4 C.dr ∅ ∅ λr1 g1 x x D1 G1=>?_;exists if2 (λc=>?_) (λc=>?_)
  .left;rw[hN];show lw _ D1 G1
  .try with_reducible show J7 ?_
   show b51 hT (C.gr G1 D1) hN λdd g' ok D G=>h dd g' ok D (G1.trans G)
def b52(hT:TV T){o:Nat}(C:DC g d q o p u s on iz ups)(hN:N.rt=Q)(h:∀(dd:Dd) g',dd.ok->j2 g' d->Gr d g g'->Q dd.d g') :
  wpS (c9 T (k+4)) Lp N [!.ref d,!.ref q,!.int r,!.ref o,!.ref p,!.ref u,none,none,none] g E:=by
 let n1:=C.n1;let n3:=C.n3;dsimp[Lp,V8,Q7];exists if2 (λc=>?_) (λc=>?_)
 .exists M6 (k:=k) hT C.ho C.lo () C.dr λv g1 D1 G1=>?_;left;rw[hN];show h (.off v) _ trivial D1 G1
 .exists if2 (λc=>?_) (λc=>?_)
  .exists Oy (k:=k+2) hT.h4 hT.Av C.dr λx g1 ho D1 G1=>?_;let C1:=C.gr G1 D1;let fin:∀(i:Nat) (ns:@&Int) (Q':KD) (E':KX),g1[i]?=!.lst (ns.map .int)->d<i->-ns<=99->(∀v g2,j2 g2 d->Gr d g g2->Q' (.int v) g2)->c9 T (k+4) 37 [.ref d,.ref i] g1 Q' E':=λi ns Q' E' hi hd hz q=>M6 (k:=k) hT hi hd () D1 λv g2 D2 G2=>q v g2 D2 (G1.trans G2);exists if2 (λc=>?_) (λc=>?_)
   .exists fin _ _ _ _ C1.ho C1.lo () λv g2 D2 G2=>?_;exists j6 hT.h4 D2 ∅ ∅ λr3 g3 z z D3 G3=>?_;left;rw[hN];show h (.mark x v (r3-1)) _ ho D3 (G2.trans G3)
   .exists fin _ _ _ _ C1.hu C1.lu () λv g2 D2 G2=>?_;exists j6 hT.h4 D2 ∅ ∅ λr3 g3 z z D3 G3=>?_;left;rw[hN];show h (.mark x v (r3-1)) _ ho D3 (G2.trans G3)
  .exists if2 (λc=>?_) (λc=>?_)
   .exists M6 (k:=k) hT C.ho C.lo () C.dr λv g1 D1 G1=>?_;let C1:=C.gr G1 D1;exists M6 (k:=k) hT C1.hu C1.lu () D1 λw g2 D2 G2=>?_;left;rw[hN];show h (.eZ v w) _ trivial D2 (G1.trans G2)
   .exists m9 C.md.du rfl CV ?_;exists Lg hT.h4 hT.h5 C.dr λf g1 D1 G1=>?_;left;let e2:∀l:@&Int,Ex g1 (g1++[O.lst (l.map .int)]):=λl=>Ex.snoc _ _;obtain⟨l,el,hl⟩:∃l:@&Int,[D.int (s.yr+1),.int (s.yr+7),.int (s.yr+1),.int s.yr,.int (s.yr-3),.int 1350,.int 1412,.int 9999,.int 10000,.int f]=l.map .int/\-l=10:=#[[s.yr+1,s.yr+7,s.yr+1,s.yr,s.yr-3,1350,1412,9999,10000,f],rfl,rfl]
    rw[el];show j6 hT.h4 (D1.snoc _) ∅ ∅ λr3 g3 RN RL D3 G3=>?_;let h3:=G3.at (i:=-g1) (by have:=D1.lt;omega) (o:=.lst (l.map .int)) d6;let#[y,hy,hm]:=P9 (l:=l.map D.int) RN (by rw[ah,hl];show RL);let#[n,_,rfl]:=aI.mp hm;show v7 (a9 h3) hy ?_;left;rw[hN];show h (.year n) _ trivial D3 ((G1.trans (Gr.snoc _ _ _)).trans G3)
def Ke(hT:TV T){o:Nat}(C:DC g d q o p u s on iz ups)(hN:N.rt=Q)(h:∀(dd:Dd) g',dd.ok->j2 g' d->Gr d g g'->Q dd.d g') :
  wpS (c9 T (k+4)) V8 N [!.ref d,!.ref q,!.int r,!.ref o,!.ref p,!.ref u,none,none,none] g E:=by
 dsimp[V8,Q7];exists if2 (λc=>?_) (λc=>?_)
 .try show oz ?_
  show Kf hT C hN h
 .exists B1 (a9 C.ho) ?_;exists if2 (λc=>?_) (λc=>?_)
  .exact Kf hT C hN h
  .try with_reducible show J7 ?_
   show b52 hT C hN h
def bF7(hT:TV T)(M0:MD g q s)(W:WS s)(D0:j2 g d)(Ju:d<q)(h:∀(dd:Dd) g',dd.ok->j2 g' d->Gr d g g'->Q dd.d g'):c9 T (k+5) 188 [.ref d,.ref q] g Q E:=by
 let ln:=W.ln;let un:=W.un;let bn:=W.bn;show call_of hT.Ey rfl ?_;delta Q7;exists j6 hT.h4 D0 ∅ ∅ λr g1 r0 r1 D1 G1=>?_;let M1:=M0.gr G1 Ju;exists J8 (d9 T _) (xi (d9 T _) ?_);exists m9 M1.du rfl qh ?_;show#[q+2,_,rfl,a9 M1.eG,s.bl,λi ys σ g'=>∃ns:@&Int,ys=ns.map .int/\-ns<=i/\g'=g1/\∃z0 z1,σ=[z0,z1],by omega,λi ys σ g' p=>?_,#[[],rfl,by simp,rfl,none,none,rfl],λi y ys σ g' hy p=>?_,λys σ g' p=>?_]
 .let#[ns,rfl,h1,rfl,_]:=p;show#[yS (a9 M1.eG),by rw[ah];show h1]
 .let#[ns,rfl,h1,rfl,z0,z1,rfl]:=p;show A3 ?_
  try show fk _ _ _ _ _ _
  rcases W.se y (aY hy) with rfl|⟨v,rfl⟩
  .left;show#[ns,rfl,by omega,rfl,_,_,rfl]
  .left;show#[ns++[v],by rw[aK];rfl,by rw[aM];simp;omega,rfl,_,_,rfl]
 let#[on,rfl,uX,rfl,_]:=p;let G2:=G1.trans (Gr.snoc d g' (O.lst (on.map .int)));let D2:=D1.snoc (O.lst (on.map .int));let M2:=M1.ex (Ex.snoc _ (O.lst (on.map .int)));let a2:(g'++[O.lst (on.map .int)])[(-g')]?=!.lst (on.map .int):=d6;let l2:d< -g':=D1.lt;generalize (-g')=o at *;generalize g'++[O.lst (on.map .int)]=g2 at *;clear M1 D1 G1;exists J8 (d9 T _) (Fl (d9 T _) ?_);exists m9 M2.du rfl uS ?_;show B1 (a9 M2.lower) ?_;left;rw[ah];show#[1,(-s.lo:Int)+1,rfl,rfl,by omega,o7 1 (-s.lo),λi ys σ g3=>∃ns:@&Int,ys=ns.map .int/\-ns<=i/\g3=g2/\∃z1 z2,σ=[!.ref o,z1,z2],by rw[L6];omega,λi ys σ g3 p=>?_,#[[],rfl,by simp,rfl,none,none,rfl],λi y ys σ g3 hy p=>?_,λys σ g3 p=>?_]
 .let#[ns,rfl,h1,rfl,_]:=p;rw[show((-s.lo:Int)+1-1).toNat=-s.lo by omega];show#[J9,by rw[ah];show h1]
 .let#[ns,rfl,h1,rfl,z1,z2,rfl]:=p;let#[hi,rfl]:=P1 hy;show A3 ?_
  try show fk _ _ _ _ _ _
  exists Q9 (AZ (l:=on) (a9 a2) ?_);left;by_cases hm:(1+(i:Int))∈on
  .rw[aC hm];show Z5 ?_;show#[ns,rfl,by omega,rfl,_,_,rfl]
  .rw[az hm];show oz ?_;left;show#[ns++[1+(i:Int)],by rw[aK];rfl,by rw[aM];simp;omega,rfl,_,_,rfl]
 let#[iz,rfl,DN,rfl,_]:=p;rw[L6] at DN;let G3:=G2.trans (Gr.snoc d g3 (O.lst (iz.map .int)));let D3:=D2.snoc (O.lst (iz.map .int));let M3:=M2.ex (Ex.snoc _ (O.lst (iz.map .int)));let a3:(g3++[O.lst (iz.map .int)])[o]?=!.lst (on.map .int):=(Ex.snoc _ _).at a2;let b3:(g3++[O.lst (iz.map .int)])[(-g3)]?=!.lst (iz.map .int):=d6;let l3:d< -g3:=D2.lt;generalize (-g3)=p at *;generalize g3++[O.lst (iz.map .int)]=g4 at *;clear M2 D2 G2 a2;exists m9 M3.du rfl zT ?_;show B1 (a9 M3.upper) ?_;left;rw[ah];show Se () ?_;rw[show((-s.up:Int)+1-1).toNat=-s.up by omega];let#[ups,eu,zZ]:=XQ (a:=1) (n:=-s.up);rw[eu];let G4:=G3.trans (Gr.snoc d g4 (O.lst (ups.map .int)));let D4:=D3.snoc (O.lst (ups.map .int));let M4:=M3.ex (Ex.snoc _ (O.lst (ups.map .int)));let a4:(g4++[O.lst (ups.map .int)])[o]?=!.lst (on.map .int):=(Ex.snoc _ _).at a3;let b4:(g4++[O.lst (ups.map .int)])[p]?=!.lst (iz.map .int):=(Ex.snoc _ _).at b3;let c4:(g4++[O.lst (ups.map .int)])[(-g4)]?=!.lst (ups.map .int):=d6;let l4:d< -g4:=D3.lt;generalize (-g4)=u at *;generalize g4++[O.lst (ups.map .int)]=g5 at *;clear M3 D3 G3 a3 b3;let C:DC g5 d q o p u s on iz ups:=#[D4,M4,a4,b4,c4,Ju,l2,l3,l4,by omega,by omega,by omega]
 let h':∀(dd:Dd) g',dd.ok->j2 g' d->Gr d g5 g'->Q dd.d g':=λdd g' ok D G=>h dd g' ok D (G4.trans G);exists if2 (λc=>?_) (λc=>?_)
 .try show oz ?_
  show Kd hT C rfl h'
 .exists if2 (λc=>?_) (λc=>?_)
  .exists if2 (λc=>?_) (λc=>?_)
   .exact Kd hT C rfl h'
   .try with_reducible show J7 ?_
    show Ke hT C rfl h'
  .try show Z5 ?_
   try with_reducible show J7 ?_
   show Ke hT C rfl h'
end
def s0(n:Nat):cH:=#[List.replicate n .aW,[],[],[],0,[]]
def vC(h:n<=9):WS (s0 n):=by
 show#[λz hz=>.inl (sD hz),λi j v hi=>?_,λv x=>rfl,by unfold s0;simpa using h,by unfold s0;simp,λv hv=>?_,by unfold s0;simp,by unfold s0;simp,λl hl=>?_,λl hl=>?_,Ct 0,by unfold s0;simp,λc hc=>?_]
 .have:=sD (aY hi);cases this
 .unfold s0 at hv;simp at hv
 .unfold s0 at hl;simp at hl
 .unfold s0 at hl;simp at hl
 .unfold s0 at hc;simp at hc
section
variable{T:Nat->Option ba}
def qZ{g l:@&O}{i:Nat}:(g++l)[(-g)+i]?=l[i]?:=by rw[dE ()];congr 1;omega
def Mv(qy:T 45=!vX)(hn:n<=9)(h:∀g',Ex g g'->MD g' (-g) (s0 n)->Q (.ref (-g)) g'):c9 T (k+1) 45 [.int n] g Q E:=by
 show call_of qy rfl ?_;delta vX;exists KJ ?_;exists Ka d6 () () (by simp;omega) ?_;left;rw[show(List.replicate (Int.toNat (n:Int)) [D.aW]).flatten=List.replicate n .aW by rw[cG,lM]];simp only[List.append_assoc,List.cons_append,List.nil_append,List.length_append,List.length_cons,List.length_nil,Nat.zero_add,Nat.add_assoc,Nat.reduceAdd];let eg:∀(o:O) (r:@&O),List.set (g++(O.du []::r)) (-g) o=g++(o::r):=λo r=>by
  rw[List.set_append_right _ _ (ak _),Nat.sub_self]
  rfl
 show#[mx (-g) 0,rfl,by simp,by simp,?_];rw[eg];show h _ #[by simp,λi hi=>aG hi] #[by simp[s0],qZ,qZ,qZ,qZ,qZ]
def bD5(hT:TM T)(hn:1<=n/\n<=9)(h:Q .aW (g++[f7 (s0 n)])):c9 T (k+4) 51 [.ref (-g),.int n] (g++[.ins "Mint" []]) Q E:=by
 show NO (k:=k) hT d6 (λn' e1 n1 n9=>?_) (λhv=>absurd #[by omega,by omega] hv);obtain rfl:n=n':=by omega
 let es:(g++[O.ins "Mint" []]).set (-g) (GQ n 0 0)=g++[f7 (s0 n)]:=by simp[s0,f7,GR]
 rw[es];show h
end
def X5:ba:=#[1,2,(eJ 1 (.make "Mint" 51 (eN (bS .len (bS (.fld "bench") aE)))) (iA (.fb "bench" ["Mint"] aO (bS (.fld "bench") aE)) (iA (.fb "laid_off" ["Mint"] aO (bS (.fld "laid_off") aE)) (iA (.fb "lower_wear" ["Mint"] aO (bS (.fld "lower_wear") aE)) (iA (.fb "upper_wear" ["Mint"] aO (bS (.fld "upper_wear") aE)) (iA (.fb "present" ["Mint"] aO (bS (.fld "present") aE)) (iA (.fb "output" ["Mint"] aO (bS (.fld "output") aE)) (cq aO))))))))]
section
variable{T:Nat->Option ba}
def Kh:(fZ s dd).2.2.bl.length=-s.bl:=by
 cases dd<;>(simp only[fZ];first|unfold v9|unfold n6|unfold x9|unfold j3|unfold j4|unfold u7)<;>(repeat' split)<;>first|rfl|(simp;done)|(unfold cH.put;split<;>rfl)
def Wl(hT:TQ T)(Em:T 68=!X5)(hm:g[m]?=!f7 s)(hb:1<=-s.bl/\-s.bl<=9)(h:Q (.ref (-g)) (g++[f7 s])):c9 T (k+5) 68 [.ref m] g Q E:=by
 show call_of Em rfl ?_;delta X5;exists o8 hm rfl ?_;exists bD5 (k:=k) hT.tm hb ?_;show#[rfl,?_];let e1:Ex g (g++[f7 (s0 (-s.bl))]):=Ex.snoc _ _;let m1:=e1.at hm;let n1:(g++[f7 (s0 (-s.bl))])[(-g)]?=!(f7 (s0 (-s.bl))):=d6;let ne:m≠-g:=aN (l7 hm);let fin:(g++[f7 (s0 (-s.bl))]).set (-g) (f7 s)=g++[f7 s]:=by simp
 generalize g++[f7 (s0 (-s.bl))]=g1 at *;let m2:∀o:O,(g1.set (-g) o)[m]?=!f7 s:=λo=>d4 m1 (cT ne);exists o8 m1 rfl ?_;exists u3 n1 #[_] #[_] ?_;exists o8 (m2 _) rfl ?_;exists u3 (get_set n1) #[_] (by repeat (first|(simp;done)|show F3 ?_)) ?_;rw[cu];exists o8 (m2 _) rfl ?_;exists u3 (get_set n1) #[_] (by repeat (first|(simp;done)|show F3 ?_)) ?_;rw[cu];exists o8 (m2 _) rfl ?_;exists u3 (get_set n1) #[_] (by repeat (first|(simp;done)|show F3 ?_)) ?_;rw[cu];exists o8 (m2 _) rfl ?_;exists u3 (get_set n1) #[_] (by repeat (first|(simp;done)|show F3 ?_)) ?_;rw[cu];exists o8 (m2 _) rfl ?_;exists u3 (get_set n1) #[_] (by repeat (first|(simp;done)|show F3 ?_)) ?_;rw[cu];left;let e2:(O.ins "Mint" [("bench",.tup s.bl),("laid_off",.tup (s.go.map .int)),("lower_wear",.tup (gB s.lo)),("upper_wear",.tup (gB s.up)),("present",.int s.yr),("output",.tup s.co)])=f7 s:=rfl;have:=h;rw[<- fin] at this;show this
end
def GF:ba:=#[1,1,(fq (.ifs (.gW (cD .Eq (bS .len aE) (bp 0)) (.gW (.fQ (bO .oR (.lit (.tup [(.tup [(.str "cut"),(.tup [(.str "side")])]),(.tup [(.str "fix"),(.tup [(.str "number")])]),(.tup [(.str "off"),(.tup [(.str "number")])]),(.tup [(.str "mark"),(.tup [(.str "side"),(.str "number"),(.str "number")])]),(.tup [(.str "strike"),(.tup [(.str "number"),(.str "number")])]),(.tup [(.str "year"),(.tup [(.str "number")])])])) (cE aE (bp 0)))) (cD .NotEq (bO (.bin .Sub) (bS .len aE) (bp 1)) (bS .len (bO .mf (.lit (.tup [(.tup [(.str "cut"),(.tup [(.str "side")])]),(.tup [(.str "fix"),(.tup [(.str "number")])]),(.tup [(.str "off"),(.tup [(.str "number")])]),(.tup [(.str "mark"),(.tup [(.str "side"),(.str "number"),(.str "number")])]),(.tup [(.str "strike"),(.tup [(.str "number"),(.str "number")])]),(.tup [(.str "year"),(.tup [(.str "number")])])])) (cE aE (bp 0))))))) (fq (.raise "BadDeed" (eN (bB "it is no deed")))) .pass))]
def Q6:ba:=#[2,2,(iA (.fb "mints" ["Ledger"] aE (bS .lst (.make "Mint" 51 (eN aO)))) (iA (.fb "done" ["Ledger"] aE (.prim .lst .nil)) (fq (.fb "undone" ["Ledger"] aE (.prim .lst .nil)))))]
def Z3:ba:=#[2,4,(eJ 2 (.cA "mint" [("Ledger",249)] aE .nil) (eJ 3 (fR 239 bz aO) (oj (.cK .append (bS (.fld "mints") aE) (eN bz)) (oj (.cK .append (bS (.fld "done") aE) (eN aO)) (cq cL)))))]
def Gu:ba:=#[2,3,(oj (jb 238 aO) (eJ 2 (.cA "go_on" [("Ledger",244)] aE (eN (bS .tuple aO))) (iA (.fb "undone" ["Ledger"] aE (.prim .lst .nil)) (cq bz))))]
def Nr:ba:=#[1,1,(cq (bS .list (bS (.fld "done") aE)))]
def Z2:ba:=#[1,1,(cq (.cA "twin" [("Mint",68),("Ledger",251)] (cE (bS (.fld "mints") aE) (bS (.un .USub) (bp 1))) .nil))]
def Q5:ba:=#[1,3,(eJ 1 (bS .lst (bO .nA (bB "mint ") (bS .fv (bS .len (.cA "anvils" [("Mint",60)] (.cA "mint" [("Ledger",249)] aE .nil) .nil))))) (vm (.one 2) (.jF (bS (.fld "done") aE)) (fq (.expr (.cK .append aO (eN (.cK .join (bB " ") (eN (.comp [] 2 (.one 1) (.jF bz) .no (bS .str aO)))))))) (cq (.cK .join (bB "\n") (eN aO)))))]
def aO3:ba:=#[1,2,(eJ 1 (.make "Ledger" 243 (eN (bS .len (.cA "anvils" [("Mint",60)] (.cA "mint" [("Ledger",249)] aE .nil) .nil)))) (iA (.fb "mints" ["Ledger"] aO (bS .list (bS (.fld "mints") aE))) (iA (.fb "done" ["Ledger"] aO (bS .list (bS (.fld "done") aE))) (iA (.fb "undone" ["Ledger"] aO (bS .list (bS (.fld "undone") aE))) (cq aO)))))]
noncomputable abbrev bD6:ba:=Bg
noncomputable abbrev ug(p q u:Nat):O:=.ins "Ledger" [("mints",.ref p),("done",.ref q),("undone",.ref u)]
structure Led(g:G)(r p q u:Nat)(ms:@&(Nat×cH))(ds us:@&Dd):Prop where
 ob:g[r]?=!ug p q u
 mi:g[p]?=!.lst (ms.map λt=>.ref t.1)
 dn:g[q]?=!.lst (ds.map Dd.d)
 ud:g[u]?=!.lst (us.map Dd.d)
 st:∀t∈ms,g[t.1]?=!f7 t.2/\WS t.2/\1<=t.2.bl.length
 pq:p≠q
 pu:p≠u
 qu:q≠u
def HK(r p q u:Nat)(ms:@&(Nat×cH))(x:Nat):Prop:=x=r\/x=p\/x=q\/x=u\/∃t∈ms,x=t.1
structure TL(T:Nat->Option ba):Prop where
 Ew:T 238=!GF
 Eu:T 239=!Bg
 xV:T 243=!Q6
 Et:T 244=!Z3
 Es:T 245=!Gu
 Ug:T 248=!Nr
 Er:T 249=!Z2
 Em:T 68=!X5
structure Fr(S:Nat->Prop)(g g':G):Prop where
 len:-g<=-g'
 old:∀i,¬S i->i< -g->g'[i]?=g[i]?
section
variable{T:Nat->Option ba}{d:Nat}{r:Nat}{S:Nat->Prop}
def Fr.at(h:Fr S g g'){i:Nat}(hi:¬S i)(e:g[i]?=!o):g'[i]?=!o:=(h.old i hi (l7 e)).trans e
def Fr.ex(h:Ex g g'):Fr S g g':=#[h.len,λi x hl=>h.old i hl]
def Fr.trans(a:Fr S g g1)(b:Fr S g1 g'):Fr S g g':=#[aL a.len b.len,λi h hl=>(b.old i h (ax hl a.len)).trans (a.old i h hl)]
def Fr.set{i:Nat}{o:O}(hi:S i):Fr S g (g.set i o):=#[by simp,λj hj x=>aH λz=>hj (by rw[<- z];show hi)]
def Fr.HV{i:Nat}(e:Ex g g1)(hi:-g<=i):Ex g (g1.set i o):=#[by simp[e.len],λj hj=>by rw[aH ()];show e.old j hj]
def Led.keep(h:Led g r p q u ms ds us)(k:∀x o,HK r p q u ms x->g[x]?=!o->g'[x]?=!o):Led g' r p q u ms ds us :=
 #[k _ _ (.inl rfl) h.ob,k _ _ (.inr (.inl rfl)) h.mi,k _ _ (.inr (.inr (.inl rfl))) h.dn,k _ _ (.inr (.inr (.inr (.inl rfl)))) h.ud,λt ht=>#[k _ _ (.inr (.inr (.inr (.inr #[t,ht,rfl])))) (h.st t ht).1,(h.st t ht).2],h.pq,h.pu,h.qu]
def Led.ex(h:Led g r p q u ms ds us)(e:Ex g g'):Led g' r p q u ms ds us:=h.keep λx o y e1=>e.at e1
def Led.lt(h:Led g r p q u ms ds us){x:Nat}(hx:HK r p q u ms x):x< -g:=by
 rcases hx with rfl|rfl|rfl|rfl|⟨t,ht,rfl⟩
 .exact l7 h.ob
 .exact l7 h.mi
 .exact l7 h.dn
 .exact l7 h.ud
 .exact l7 (h.st t ht).1
def Xa(hL:TL T)(hT:TM T)(h1:∀n:Nat,v=n->1<=n->n<=9->Q .aW (g++[ug (-g+2) (-g+3) (-g+4),f7 (s0 n),.lst [.ref (-g+1)],.lst [],.lst []]))(h2:¬(1<=v/\v<=9)->∀g',Ex g g'->E #["BadAnvils"] g'):c9 T (k+5) 243 [.ref (-g),.int v] (g++[.ins "Ledger" []]) Q E:=by
 show call_of hL.xV rfl ?_;delta Q6;exists NO (k:=k) hT d6 (λn e1 n1 n9=>?_) (λhv=>h2 hv _ ((Ex.snoc _ _).trans (Ex.snoc _ _)));show#[rfl,?_];let es:(g++[O.ins "Ledger" []]++[O.ins "Mint" []]).set (g++[O.ins "Ledger" []]).length (GQ n 0 0)=g++[O.ins "Ledger" [],f7 (s0 n)]:=by simp[s0,f7,GR]
 rw[es];left;let e0:∀(o:O) (l:@&O),(g++(o::l))[(-g)]?=!o:=λo l=>by simp
 let tX:∀(o o':O) (l:@&O),(g++(o::l)).set (-g) o'=g++(o'::l):=λo o' l=>by simp
 simp only[List.append_assoc,List.cons_append,List.nil_append,List.length_append,List.length_cons,List.length_nil,Nat.zero_add,Nat.add_assoc,Nat.reduceAdd];show u3 (e0 _ _) #[_] #[_] ?_;rw[tX];left;simp only[List.append_assoc,List.cons_append,List.nil_append,List.length_append,List.length_cons,List.length_nil,Nat.zero_add,Nat.add_assoc,Nat.reduceAdd];show u3 (e0 _ _) #[_] (by simp[x8]) ?_;rw[tX];left;simp only[List.append_assoc,List.cons_append,List.nil_append,List.length_append,List.length_cons,List.length_nil,Nat.zero_add,Nat.add_assoc,Nat.reduceAdd];show u3 (e0 _ _) #[_] (by repeat (first|(simp;done)|show F3 ?_)) ?_;rw[tX];left;show h1 n e1 n1 n9
def bD9(hn:1<=n/\n<=9):Led (g++[ug (-g+2) (-g+3) (-g+4),f7 (s0 n),.lst [.ref (-g+1)],.lst [],.lst []]) (-g) (-g+2) (-g+3) (-g+4) [(-g+1,s0 n)] [] []:=by
 show#[by simp,qZ,qZ,qZ,λt ht=>?_,by omega,by omega,by omega];cases cR.mp ht;show#[qZ,vC hn.2,by unfold s0;simpa using hn.1]
def bG7{l:List α}{x:α}:jd (l++[x]) (-1)=!x:=by
 simp[jd,kr,seqIndex?];rw[au ()];show(l++[x])[(-1+((-l:Int)+1)).toNat]?=!x;rw[show(-1+((-l:Int)+1)).toNat=-l by omega];simp
def OR(hL:TL T)(hT:TQ T)(h0:Led g r p q u (ms++[(m,s)]) ds us)(h:Q (.ref (-g)) (g++[f7 s])):c9 T (k+6) 249 [.ref r] g Q E:=by
 let#[h1,h2,h3]:=h0.st (m,s) #[_];show call_of hL.Er rfl ?_;delta Z2;exists o8 h0.ob rfl ?_;exists v7 (a9 h0.mi) (d:=.ref m) (by rw[aK];show bG7) ?_;exists k7 h1 rfl rfl ?_;left;show Wl (k:=k) hT hL.Em h1 #[h3,h2.bn] h
def bS7(hL:TL T)(hT:TQ T)(h0:Led g r p q u (ms++[(m,s)]) ds us)(hz:-ms<5000/\-ds<5000)(ok:dd.ok)(h1:(fZ s dd).1=""->∀g',Fr (λx=>x=p\/x=q) g g'->Led g' r p q u (ms++[(m,s)]++[(-g,(fZ s dd).2.2)]) (ds++[dd]) us->Q (fZ s dd).2.1 g')(h2:(fZ s dd).1≠""->∀g',Ex g g'->E #[(fZ s dd).1] g'):c9 T (k+7) 244 [.ref r,dd.d] g Q E:=by
 let#[l1,l2,l3]:=h0.st (m,s) #[_];show call_of hL.Et rfl ?_;delta Z3;exists k7 h0.ob rfl rfl ?_;exists OR (k:=k) hL hT h0 ?_;exists aY4 (k:=k) hT hL.Eu d6 l2 ok (λe g2 e2=>?_) (λe=>h2 e _ (Ex.snoc _ _));let x2:Ex g (g2.set (-g) (f7 (fZ s dd).2.2)):=Fr.HV ((Ex.snoc _ _).trans e2) (ak _);let n2:(g2.set (-g) (f7 (fZ s dd).2.2))[(-g)]?=!f7 (fZ s dd).2.2:=get_set (e2.at d6);generalize g2.set (-g) (f7 (fZ s dd).2.2)=g3 at *;let L3:=h0.ex x2;let ne:p≠r:=λz=>by have:=L3.ob;rw[<- z,L3.mi] at this;cases this
 let ne2:q≠r:=λz=>by have:=L3.ob;rw[<- z,L3.dn] at this;cases this
 let pl:=l7 h0.mi;let ql:=l7 h0.dn;exists o8 L3.ob rfl ?_;exists#[S1 L3.mi,?_];exists T4 L3.mi (by simp;omega) ?_;exists o8 (d4 L3.ob ne) rfl ?_;exists#[S1 (d4 L3.dn L3.pq),?_];exists T4 (d4 L3.dn L3.pq) (by simp;omega) ?_;exists h1 e _ ((Fr.ex x2).trans ((Fr.set (.inl rfl)).trans (Fr.set (.inr rfl)))) #[d4 (d4 L3.ob ne) ne2,d4 (by rw[aK (l₁:=ms++[(m,s)])];show get_set L3.mi) (cT L3.pq),by rw[aK (l₁:=ds)];show get_set (d4 L3.dn L3.pq),d4 (d4 L3.ud L3.pu) L3.qu,λt ht=>?_,L3.pq,L3.pu,L3.qu];let np:∀{x:Nat} {s:cH},g3[x]?=!f7 s->p≠x/\q≠x:=λe=>#[λz=>(by rw[<- z,L3.mi] at e;cases e),λz=>(by rw[<- z,L3.dn] at e;cases e)]
 rcases aX.mp ht with ht|ht
 .have:=L3.st t ht;show#[d4 (d4 this.1 (np this.1).1) (np this.1).2,this.2]
 .cases cR.mp ht;show#[d4 (d4 n2 (np n2).1) (np n2).2,BB l2,by rw[Kh];show l3]
def WA(hL:TL T)(h:Q .aW g):c9 T (k+1) 238 [dd.d] g Q E:=by
 show call_of hL.Ew rfl ?_;cases dd <;> dsimp [GF,d5,List.replicate,Dd.d] <;> left <;> (show cc rfl ?_;exists cc #[] ?_;left;first
  |show vO (v:=.tup [.str "side"]) rfl ?_
  |show vO (v:=.tup [.str "number"]) rfl ?_
  |show vO (v:=.tup [.str "number",.str "number"]) rfl ?_
  | show vO (v:=.tup [.str "side",.str "number",.str "number"]) rfl ?_) <;> (exists cc rfl ?_;left;show h)
def bS8(hL:TL T)(hT:TQ T)(h0:Led g r p q u (ms++[(m,s)]) ds us)(hz:-ms<5000/\-ds<5000)(ok:dd.ok)(h1:(fZ s dd).1=""->∀g' u',Fr (λx=>x=p\/x=q\/x=r) g g'->-g<u'->Led g' r p q u' (ms++[(m,s)]++[(-g,(fZ s dd).2.2)]) (ds++[dd]) []->Q (fZ s dd).2.1 g')(h2:(fZ s dd).1≠""->∀g',Ex g g'->E #[(fZ s dd).1] g'):c9 T (k+8) 245 [.ref r,dd.d] g Q E:=by
 show call_of hL.Es rfl ?_;delta Gu;exists WA (k:=k+6) hL ?_;exists k7 h0.ob rfl rfl ?_;left;let et:∀{Q:KD},Q dd.d g->cC .tuple [dd.d] g Q:=λh=>by cases dd<;>show KI h
 show et ?_;exists bS7 (k:=k) hL hT h0 hz ok (λe g2 F2 L2=>?_) h2;let gl:-g< -g2:=l7 (L2.st (-g,(fZ s dd).2.2) #[_]).1;left;let x3:Ex g2 (g2++[O.lst []]):=Ex.snoc _ _;let n3:(g2++[O.lst []])[(-g2)]?=!.lst []:=d6;let L3:=L2.ex x3;let c3:∀x,HK r p q u (ms++[(m,s)]++[(-g,(fZ s dd).2.2)]) x->x< -g2:=λx hx=>L2.lt hx;generalize g2++[O.lst []]=g3 at *;show u3 L3.ob #[_] #[_] ?_;left;let nr:∀{x:Nat} {o:O},g3[x]?=!o->(∀p q u,o≠ug p q u)->r≠x:=λe h z=>by rw[<- z,L3.ob] at e;show h _ _ _ (aD e).symm
 let hp:=c3 p (.inr (.inl rfl));let hq:=c3 q (.inr (.inr (.inl rfl)));show h1 e _ (-g2) (#[by have:=F2.len;have:=x3.len;simp;omega,λi hi hl=>?_]) gl #[get_set L3.ob,d4 L3.mi (nr L3.mi (by intro _ _ _ z;cases z)),d4 L3.dn (nr L3.dn (by intro _ _ _ z;cases z)),d4 n3 (nr n3 (by intro _ _ _ z;cases z)),λt ht=>?_,L3.pq,by omega,by omega]
 .rw[aH (λz=>hi (.inr (.inr z.symm))),x3.old i (by have:=F2.len;omega)];show F2.old i (λz=>hi (by rcases z with z|z;show .inl z;show .inr (.inl z))) hl
 .have:=L3.st t ht;show#[d4 this.1 (nr this.1 (by intro _ _ _ z;cases z)),this.2]
end
noncomputable abbrev nT(i:Int):Str:=Str.ofString (toString i)
def yL(h:0<=i/\i<=9999):i.natAbs.log2<14:=by
 by_cases z:i.natAbs=0
 .rw[z];decide
 .exact(Nat.log2_lt z).mpr (show i.natAbs<2 ^ 14 by omega)
def Hs(h:0<=i/\i<=9999):(nT i).length<=15:=by rw[zB];show PySem.int_text_length_le (k:=14) ∅ (yL h)
abbrev Dd.l:Dd->@&D
 |.cut x=>[.str "cut",.str x]
 |.fix v=>[.str "fix",.int v]
 |.off v=>[.str "off",.int v]
 |.mark x v j=>[.str "mark",.str x,.int v,.int j]
 |.eZ a b=>[.str "strike",.int a,.int b]
 |.year n=>[.str "year",.int n]
def Dd.ER(dd:Dd):dd.d=.tup dd.l:=by cases dd<;>rfl
def Dd.Km(dd:Dd):-dd.l<=4:=by cases dd<;>simp[Dd.l]
abbrev txt:D->Str
 |.str x=>x
 |.int i=>nT i
 |_=>""
def uc(x:D):Prop:=(∃y,x=.str y/\-y<=10)\/∃i,x=.int i/\0<=i/\i<=9999
def Dd.fit(dd:Dd):Prop:=∀x∈dd.l,uc x
def uc.len{x:D}(h:uc x):(txt x).length<=15:=by
 rcases h with⟨y,rfl,h⟩|⟨i,rfl,h⟩
 .exact aL h ∅
 .exact Hs h
def Pl(h:p6 x):uc (.str x):=by
 rcases h with rfl|rfl
 .exact .inl #[_,rfl,by decide +kernel]
 .exact .inl #[_,rfl,by decide +kernel]
set_option tactic.hygienic true in
def Hi(W:WS s)(e:(fZ s dd).1=""):dd.fit:=by
 let hl:=W.ln;let hu:=W.un;let hy:=W.y0;intro x hx;cases dd with
 |cut y =>
  simp only[fZ] at e;unfold v9 at e;split at e
  .rename_i hs;simp only[Dd.l,List.mem_cons,List.mem_nil_iff,or_false] at hx;rcases hx with rfl|rfl
   .exact .inl #[_,rfl,by decide +kernel]
   .exact Pl hs
  .exact absurd e (by dsimp only;decide +kernel)
 |fix v =>
  simp only[fZ] at e;unfold n6 at e;split at e
  .rename_i hv;simp only[Dd.l,List.mem_cons,List.mem_nil_iff,or_false] at hx;rcases hx with rfl|rfl
   .exact .inl #[_,rfl,by decide +kernel]
   .exact .inr #[_,rfl,by omega,by omega]
  .exact absurd e (by dsimp only;decide +kernel)
 |off v =>
  simp only[fZ] at e;unfold x9 at e;split at e
  .rename_i hv;simp only[Dd.l,List.mem_cons,List.mem_nil_iff,or_false] at hx;rcases hx with rfl|rfl
   .exact .inl #[_,rfl,by decide +kernel]
   .exact .inr #[_,rfl,by omega,by omega]
  .exact absurd e (by dsimp only;decide +kernel)
 |mark y v j =>
  simp only[fZ] at e;unfold j3 at e;split at e
  .rename_i hs;let hz:(s.side y).length<=99:=by unfold cH.side;split<;>assumption
   split at e
   .rename_i hv;split at e
    .exact absurd e (by dsimp only;decide +kernel)
    .split at e
     .rename_i hj;simp only[Dd.l,List.mem_cons,List.mem_nil_iff,or_false] at hx;rcases hx with rfl|rfl|rfl|rfl
      .exact .inl #[_,rfl,by decide +kernel]
      .exact Pl hs
      .exact .inr #[_,rfl,by omega,by omega]
      .exact .inr #[_,rfl,by omega,by omega]
     .exact absurd e (by dsimp only;decide +kernel)
   .exact absurd e (by dsimp only;decide +kernel)
  .exact absurd e (by dsimp only;decide +kernel)
 |eZ a b =>
  simp only[fZ] at e;unfold j4 at e;split at e
  .rename_i hv;simp only[Dd.l,List.mem_cons,List.mem_nil_iff,or_false] at hx;rcases hx with rfl|rfl|rfl
   .exact .inl #[_,rfl,by decide +kernel]
   .exact .inr #[_,rfl,by omega,by omega]
   .exact .inr #[_,rfl,by omega,by omega]
  .exact absurd e (by dsimp only;decide +kernel)
 |year n =>
  simp only[fZ] at e;unfold u7 at e;split at e
  .rename_i hv;simp only[Dd.l,List.mem_cons,List.mem_nil_iff,or_false] at hx;rcases hx with rfl|rfl
   .exact .inl #[_,rfl,by decide +kernel]
   .exact .inr #[_,rfl,by omega,by omega]
  .exact absurd e (by dsimp only;decide +kernel)
def MU{sep:Str}{ys:@&Str}(h:∀y∈ys,(-y)<=B):u9 sep ys<=(B+-sep)*-ys:=by
 have:∀(ys:@&Str) (n:Nat),(∀y∈ys,(-y)<=B)->ys.foldl (λn y=>n+-y+-sep) n<=n+(B+-sep)*-ys:=by
  intro ys
  induction ys with
  |nil=>intro n _;simp
  |cons y r ih =>
   intro n h;rw[gH];let h1:=ih (n+-y+-sep) λz hz=>h z (by simp[hz]);let h2:=h y #[_];rw[aP,Nat.mul_add,Nat.mul_one];omega
 have:=this ys 0 h;unfold u9;omega
def A6(dd:Dd):Str:=Builtin.Str.glued " " (dd.l.map txt)
def E9(n:Nat)(ds:@&Dd):Str:=Builtin.Str.glued "\n" ((("mint ":Str)++nT n)::ds.map A6)
def Ot(h:dd.fit):u9 " " (dd.l.map txt)<=64/\(A6 dd).length<=64:=by
 let h1:u9 " " (dd.l.map txt)<=(15+(" ":Str).length)*(dd.l.map txt).length:=MU λy hy=>by
  let#[x,hx,rfl]:=aI.mp hy;show(h x hx).len
 let h2:(" ":Str).length=1:=by decide +kernel
 let h3:=dd.Km;rw[h2,ah] at h1;let h4:=Mi " " (dd.l.map txt);unfold A6;omega
def text_len(hn:n<=9)(h:∀dd∈ds,dd.fit)(hz:-ds<=1000):u9 "\n" ((("mint ":Str)++nT n)::ds.map A6)<=100000:=by
 let h1:u9 "\n" ((("mint ":Str)++nT n)::ds.map A6)<=(64+("\n":Str).length)*((("mint ":Str)++nT n)::ds.map A6).length:=MU λy hy=>by
  rcases aB.mp hy with rfl|hy
  .have:=Hs (i:=(n:Int)) ();let h5:("mint ":Str).length=5:=by decide +kernel
   rw[QA,h5];omega
  .let#[dd,hd,rfl]:=aI.mp hy;show(Ot (h dd hd)).2
 let h2:("\n":Str).length=1:=by decide +kernel
 rw[h2,aP,ah] at h1;omega
section
variable{T:Nat->Option ba}{d:Nat}{r:Nat}
def Zr{x:D}(h:uc x)(hq:Q (.str (txt x)) g):cC .str [x] g Q:=by
 rcases h with⟨y,rfl,h⟩|⟨i,rfl,h⟩
 .exact bP6 hq
 .exact BW (ax (yL h) ∅) hq
def b46(hi:0<=i/\i<=9999)(h:Q (.str (nT i)) g):cC .fv [.int i] g Q:=#[_,_,#[rfl,.inl #[i,rfl,ax (yL hi) ∅,rfl]],h]
def Qc{f:ME}(hf:dd.fit){σ:S}{z:ME}(hz:∀{Q:KD},Q dd.d g->bh (c9 T k) z σ g Q E)(he:∀{x:D} {w:Option D} {Q:KD},uc x->Q (.str (txt x)) g->bh (c9 T k) f [w,!x] g Q nO)(h:Q (.str (A6 dd)) (g++[.lst ((dd.l.map txt).map .str)])):bh (c9 T k) (.cK .join (.lit (.str " ")) (.cons (.comp [] 2 (.one 1) (.jF z) .no f) .nil)) σ g Q E:=by
 exists#[yW,?_];exists aV6 (d9 T _) (hz ?_);have:=dd.Km;show#[dd.l,dd.ER,by omega,λi ys σ g'=>∃z w,ys=(((dd.l.take i).map txt).map D.str)/\σ=[z,w]/\g'=g,#[none,none,rfl,rfl,rfl],λi ys σ g' p=>?_,λi y ys σ g' hy p=>?_,λys σ g' p=>?_]
 .let#[z,w,rfl,rfl,rfl]:=p;simp;omega
 .let#[z,w,rfl,rfl,rfl]:=p;show A3 ?_
  try show fk _ _ _ _ _ _
  exists he (hf y (aY hy)) ?_;show#[_,_,?_,rfl,rfl];rw[dC,hy];simp
 .let#[z,w,rfl,rfl,rfl]:=p;rw[dw];exists yV (ys:=dd.l.map txt) (a9 d6) (aL (Ot hf).1 ∅) ?_;show h
def Xb(hL:TL T)(hT:TQ T)(tU:T 250=!Q5)(h0:Led g r p q u (ms++[(m,s)]) ds us)(hf:∀dd∈ds,dd.fit)(hz:-ds<=1000)(h:∀g',Ex g g'->Q (.str (E9 (-s.bl) ds)) g'):c9 T (k+7) 250 [.ref r] g Q E:=by
 let#[_,h2,h3]:=h0.st (m,s) #[_];let bn:-s.bl<=9:=h2.bn;show call_of tU rfl ?_;delta Q5;exists k7 h0.ob rfl rfl ?_;exists OR (k:=k) hL hT h0 ?_;exists k7 d6 rfl rfl ?_;exists a23 (k:=k+5) hT d6 ?_;let x1:Ex g (g++[f7 s]++[.lst s.bl]):=(Ex.snoc _ _).trans (Ex.snoc _ _);let b1:(g++[f7 s]++[.lst s.bl])[(g++[f7 s]).length]?=!.lst s.bl:=d6;generalize g++[f7 s]++[.lst s.bl]=g1 at *;exists b46 () ?_;exists bP7 (x:="mint "++nT (-s.bl)) (by change some ("mint "++(nT (-s.bl)++Str.empty))=!_;rw[VY]) ?_;left;let x2:Ex g (g1++[.lst [.str ("mint "++nT (-s.bl))]]):=x1.trans (Ex.snoc _ _);let b2:(g1++[.lst [.str ("mint "++nT (-s.bl))]])[(-g1)]?=!.lst [.str ("mint "++nT (-s.bl))]:=d6;let gl:=x1.len;generalize g1++[.lst [.str ("mint "++nT (-s.bl))]]=g2 at *;generalize (-g1)=b at *;show yQ (d9 T _) (xi (d9 T _) ?_);exists o8 (h0.ex x2).ob rfl ?_;show#[q,_,rfl,a9 (h0.ex x2).dn,ds.map Dd.d,λi σ g'=>∃z,σ=[!.ref r,!.ref b,z]/\Ex g g'/\g'[b]?=!(.lst (.str ("mint "++nT (-s.bl))::((ds.take i).map A6).map .str)),λi σ g' p=>yS (a9 (h0.ex p.choose_spec.2.1).dn),#[none,rfl,x2,b2],λi y σ g' hy p=>?_,λσ g' p=>?_]
 .let#[z,rfl,x3,b3]:=p;rw[aJ,ag] at hy;let#[dd,hd,rfl]:=hy;show A3 ?_
  try show wpS _ _ _ _ _ _
  left
  try show#[S1 b3,?_]
  try show za ?_
  show Qc (k:=k+6) (hf dd (aY hd)) (λh=>w_var rfl h) (λhx hq=>?_) ?_
  .left;show Zr hx hq
  .exists T4 (P6 b3) (by simp;omega) ?_;exists#[_,rfl,Fr.HV (x3.trans (Ex.snoc _ _)) gl,?_];rw[get_set (P6 b3),dC,hd];simp
 .let#[z,rfl,x3,b3]:=p;rw[ah,dw] at b3
  try show wpS _ _ _ _ _ _
  exists#[yW,?_];exists yV (ys:=("mint "++nT (-s.bl))::ds.map A6) (a9 b3) (text_len bn hf hz) ?_;left;show h _ x3
end
abbrev jn(c:Nat):@&(@&Nat)->@&Nat
 |[]=>[]
 |[a]=>a
 |a::r=>a++c::jn c r
def H9{a b:@&Nat}{r:@&(@&Nat)}:jn c (a::b::r)=a++c::jn c (b::r):=rfl
def Nw{c:Nat}:∀{a b:@&Nat} {x y:@&Nat},c∉a->c∉b->a++c::x=b++c::y->a=b/\x=y
 |[],[],x,y,_,_,h=>by simpa using h
 |[],d::b,x,y,_,hb,h=>by
  have:=(sE (show c::x=d::(b++c::y) from h)).1;show absurd (by simp[this]) hb
 |d::a,[],x,y,ha,_,h=>by
  have:=(sE (show d::(a++c::x)=c::y from h)).1;show absurd (by simp[this]) ha
 |d::a,e::b,x,y,ha,hb,h=>by
  let#[h1,h2]:=sE (show d::(a++c::x)=e::(b++c::y) from h);let#[h3,h4]:=Nw (λz=>ha (by simp[z])) (λz=>hb (by simp[z])) h2;show#[by rw[h1,h3],h4]
def Ll{c:Nat}:∀{l m:@&(@&Nat)},l≠[]->m≠[]->(∀a∈l,c∉a)->(∀a∈m,c∉a)->jn c l=jn c m->l=m
 |[],_,h,_,_,_,_=>absurd rfl h
 |_::_,[],_,h,_,_,_=>absurd rfl h
 |[a],[b],_,_,_,_,h=>by rw[show a=b from h]
 |[a],b::d::r,_,_,h1,_,h=>absurd (by rw[show a=_ from h,H9];simp) (h1 a #[_])
 |b::d::r,[a],_,_,_,h2,h=>absurd (by rw[<- show _=a from h,H9];simp) (h2 a #[_])
 |a::b::r,d::e::s,_,_,h1,h2,h=>by
  rw[H9,H9] at h;let#[h3,h4]:=Nw (h1 a #[_]) (h2 d #[_]) h;rw[h3,Ll #[_] #[_] (λx hx=>h1 x (by simp[hx])) (λx hx=>h2 x (by simp[hx])) h4]
def A1{c:Nat}:∀ys:@&Str,(PySem.Str.join #[(List.toArray [c])] ys).cps.toList=jn c (ys.map λy=>y.cps.toList)
 |[]=>rfl
 |[y]=>rfl
 |y::z::r=>by
  let ih:=A1 (c:=c) (z::r);show(y++(#[(List.toArray [c])]:Str)++PySem.Str.join #[(List.toArray [c])] (z::r)).cps.toList=_;rw[iP,iP,fF,fF,ih,aQ,aQ,aQ,H9,iw]
  rfl
def aN5{ys:@&Str}(eX:ys≠[])(hf:∀y∈ys,c∉y.cps.toList):Txt.split (Builtin.Str.glued #[(List.toArray [c])] ys) #[(List.toArray [c])]=ys:=by
 let h1:=cW (Builtin.Str.glued #[(List.toArray [c])] ys) #[(List.toArray [c])];let h2:=StrLaws.split_free (Builtin.Str.glued #[(List.toArray [c])] ys) c;let h3:Txt.split (Builtin.Str.glued #[(List.toArray [c])] ys) #[(List.toArray [c])]≠[]:=λz=>by
  have:=fV (Builtin.Str.glued #[(List.toArray [c])] ys) #[(List.toArray [c])];rw[z] at this;show absurd this ∅
 generalize Txt.split (Builtin.Str.glued #[(List.toArray [c])] ys) #[(List.toArray [c])]=zs at *;rw[bK] at h1;let e:jn c (zs.map λy=>y.cps.toList)=jn c (ys.map λy=>y.cps.toList):=by rw[<- A1,<- A1,h1]
 have:=Ll (_/h3) (_/eX) (λa ha=>by let#[y,hy,rfl]:=aI.mp ha;show h2 y hy) (λa ha=>by let#[y,hy,rfl]:=aI.mp ha;show hf y hy) e;show List.map_inj_right (λx y h=>by cases x;cases y;simpa using h) |>.mp this
def X0(m:Nat):(Str.ofString (toString ((m:Nat):Int))).cps.toList=(Nat.toDigits 10 m).map Char.toNat:=PySem.W.KIN.signs_num m
def FO(h:0<=i):∀c∈(Str.ofString (toString i)).cps.toList,48<=c/\c<=57:=by
 let#[m,rfl]:=eB h;intro c hc;rw[X0] at hc;let#[d,hd,rfl]:=aI.mp hc;have:=Nat.isDigit_of_mem_toDigits (b:=10) ∅ ∅ hd;simp only[Char.isDigit,Bool.and_eq_true,decide_eq_true_eq] at this;show#[this.1,this.2]
def Oa(h:0<=i/\i<=9999):1<=(Str.ofString (toString i)).length/\(Str.ofString (toString i)).length<=4:=by
 let#[m,rfl]:=eB h.1;let e:(Str.ofString (toString ((m:Nat):Int))).length=(Nat.toDigits 10 m).length:=by
  show(Str.ofString (toString ((m:Nat):Int))).cps.size=_;rw[<- bH,X0,ah]
 rw[e];show#[Nat.length_toDigits_pos,(Nat.length_toDigits_le_iff ∅ ∅).mpr ()]
def Xr(h:0<=i/\i<=9999):PySem.intText? (Str.ofString (toString i))=!i:=PySem.W.KIN.num_reads h.1 ()
def N1:ba:=#[1,2,(cY (.gW (.eF (.fQ (.chain .Lt .LtE (bp 0) (bS .len aE) (bp 4)))) (.eF (.fQ (bS .all (.comp [] 2 (.one 1) (.jF aE) .no (bO (.cmp .In) aO (bB "0123456789"))))))) (cq (.lit .aW)) (eJ 1 (bS .int aE) (cY (cD .NotEq (bS .str aO) aE) (cq (.lit .aW)) (cq aO))))]
def T7:ba:=#[2,2,(cY (cD .Eq aE (bB "side")) (cq aO) (cq (jb 166 aO)))]
def Gw:ba:=#[1,4,(iA (.mT 1 2 (.cK .split aE (eN (bB " ")))) (cY (.gW (.fQ (bO .oR (.lit (.tup [(.tup [(.str "cut"),(.tup [(.str "side")])]),(.tup [(.str "fix"),(.tup [(.str "number")])]),(.tup [(.str "off"),(.tup [(.str "number")])]),(.tup [(.str "mark"),(.tup [(.str "side"),(.str "number"),(.str "number")])]),(.tup [(.str "strike"),(.tup [(.str "number"),(.str "number")])]),(.tup [(.str "year"),(.tup [(.str "number")])])])) aO)) (cD .NotEq (bS .len bz) (bS .len (bO .mf (.lit (.tup [(.tup [(.str "cut"),(.tup [(.str "side")])]),(.tup [(.str "fix"),(.tup [(.str "number")])]),(.tup [(.str "off"),(.tup [(.str "number")])]),(.tup [(.str "mark"),(.tup [(.str "side"),(.str "number"),(.str "number")])]),(.tup [(.str "strike"),(.tup [(.str "number"),(.str "number")])]),(.tup [(.str "year"),(.tup [(.str "number")])])])) aO)))) (cq (.lit .aW)) (eJ 3 (.comp [] 3 (.many [1,2]) (.pF (bO .mf (.lit (.tup [(.tup [(.str "cut"),(.tup [(.str "side")])]),(.tup [(.str "fix"),(.tup [(.str "number")])]),(.tup [(.str "off"),(.tup [(.str "number")])]),(.tup [(.str "mark"),(.tup [(.str "side"),(.str "number"),(.str "number")])]),(.tup [(.str "strike"),(.tup [(.str "number"),(.str "number")])]),(.tup [(.str "year"),(.tup [(.str "number")])])])) aO) bz) .no (fR 252 aO bz)) (cY (cD .In (.lit .aW) cL) (cq (.lit .aW)) (cq (bS .tuple (bO (.bin .Add) (bS .lst aO) cL)))))))]
section
variable{r:Nat}
noncomputable abbrev N4(v:Int):Prop:=0<=v/\v<=9999
abbrev Dd.good:Dd->Prop
 |.cut x=>p6 x
 |.fix v=>N4 v
 |.off v=>N4 v
 |.mark x v j=>p6 x/\N4 v/\N4 j
 |.eZ a b=>N4 a/\N4 b
 |.year n=>N4 n
def Rdg(f:D)(w:Str)(t:D):Prop:=(f=.str "side"/\p6 w/\t=.str w)\/(f=.str "number"/\∃i,N4 i/\w=nT i/\t=.int i)
inductive wb:@&D->@&Str->@&D->Prop
 |nil:wb [] [] []
 |cons {f:D} {w:Str} {t:D} {fs:@&D} {ws:@&Str} {ts:@&D} (h:Rdg f w t) (r:wb fs ws ts):wb (f::fs) (w::ws) (t::ts)
abbrev Dd.wd:Dd->Str
 |.cut _=>"cut"
 |.fix _=>"fix"
 |.off _=>"off"
 |.mark _ _ _=>"mark"
 |.eZ _ _=>"strike"
 |.year _=>"year"
abbrev Dd.fs:Dd->@&D
 |.cut _=>[.str "side"]
 |.fix _=>[.str "number"]
 |.off _=>[.str "number"]
 |.mark _ _ _=>[.str "side",.str "number",.str "number"]
 |.eZ _ _=>[.str "number",.str "number"]
 |.year _=>[.str "number"]
def Dd.Vk:dd.l.map txt=dd.wd::dd.l.tail.map txt:=by cases dd<;>rfl
def Dd.sT(h:dd.good):wb dd.fs (dd.l.tail.map txt) dd.l.tail:=by
 cases dd with
 |cut x=>show .cons (.inl #[rfl,h,rfl]) .nil
 |fix v=>show .cons (.inr #[rfl,v,h,rfl,rfl]) .nil
 |off v=>show .cons (.inr #[rfl,v,h,rfl,rfl]) .nil
 |mark x v j=>show .cons (.inl #[rfl,h.1,rfl]) (.cons (.inr #[rfl,v,h.2.1,rfl,rfl]) (.cons (.inr #[rfl,j,h.2.2,rfl,rfl]) .nil))
 |eZ a b=>show .cons (.inr #[rfl,a,h.1,rfl,rfl]) (.cons (.inr #[rfl,b,h.2,rfl,rfl]) .nil)
 |year n=>show .cons (.inr #[rfl,n,h,rfl,rfl]) .nil
def FG(h:N4 i)(hc:c<48):c∉(nT i).cps.toList:=λz=>by
 have:=FO h.1 c z;omega
def bV1:32∉dd.wd.cps.toList/\10∉dd.wd.cps.toList:=by
 cases dd
 .exact(by decide +kernel:32∉("cut":Str).cps.toList/\10∉("cut":Str).cps.toList)
 .exact(by decide +kernel:32∉("fix":Str).cps.toList/\10∉("fix":Str).cps.toList)
 .exact(by decide +kernel:32∉("off":Str).cps.toList/\10∉("off":Str).cps.toList)
 .exact(by decide +kernel:32∉("mark":Str).cps.toList/\10∉("mark":Str).cps.toList)
 .exact(by decide +kernel:32∉("strike":Str).cps.toList/\10∉("strike":Str).cps.toList)
 .exact(by decide +kernel:32∉("year":Str).cps.toList/\10∉("year":Str).cps.toList)
def WL(h:p6 x):32∉x.cps.toList/\10∉x.cps.toList:=by rcases h with rfl|rfl<;>decide +kernel
def wb.free{fs:@&D}{ws:@&Str}{ts:@&D}(R:wb fs ws ts):∀w∈ws,32∉w.cps.toList/\10∉w.cps.toList:=by
 induction R with
 |nil=>intro t h;cases h
 |cons h r ih =>
  intro t ht;rcases aB.mp ht with rfl|ht
  .rcases h with⟨_,hs,_⟩|⟨_,i,hi,rfl,_⟩
   .exact WL hs
   .exact#[FG hi ∅,FG hi ∅]
  .exact ih t ht
def Dd.free(h:dd.good):∀w∈dd.l.map txt,32∉w.cps.toList/\10∉w.cps.toList:=by
 intro w hw;rw[Dd.Vk] at hw;rcases aB.mp hw with rfl|hw
 .exact bV1
 .exact(Dd.sT h).free w hw
def LU:(" ":Str)=#[(List.toArray [32])]:=by decide +kernel
def b92:("\n":Str)=#[(List.toArray [10])]:=by decide +kernel
noncomputable abbrev Hj:@&D:=[(.tup [(.str "cut"),(.tup [(.str "side")])]),(.tup [(.str "fix"),(.tup [(.str "number")])]),(.tup [(.str "off"),(.tup [(.str "number")])]),(.tup [(.str "mark"),(.tup [(.str "side"),(.str "number"),(.str "number")])]),(.tup [(.str "strike"),(.tup [(.str "number"),(.str "number")])]),(.tup [(.str "year"),(.tup [(.str "number")])])]
end
section
variable{d:Nat}{r:Nat}
def P7{x:Int}(h:uc (.int x)):N4 x:=by
 rcases h with⟨y,h,_⟩|⟨i,h,h1,h2⟩
 .cases h
 .cases h;show#[h1,h2]
set_option tactic.hygienic true in
def AY(W:WS s)(e:(fZ s dd).1=""):dd.good:=by
 let f:=Hi W e;cases dd with
 |cut y =>
  simp only[fZ] at e;unfold v9 at e;split at e
  .rename_i hs;show hs
  .exact absurd e (by dsimp only;decide +kernel)
 |fix v=>show P7 (f _ (by simp[Dd.l]))
 |off v=>show P7 (f _ (by simp[Dd.l]))
 |mark y v j =>
  show#[?_,P7 (f _ (by simp[Dd.l])),P7 (f _ (by simp[Dd.l]))];simp only[fZ] at e;unfold j3 at e;split at e
  .rename_i hs;show hs
  .exact absurd e (by dsimp only;decide +kernel)
 |eZ a b=>show#[P7 (f _ (by simp[Dd.l])),P7 (f _ (by simp[Dd.l]))]
 |year n=>show P7 (f _ (by simp[Dd.l]))
def Lm{c d:Nat}(hd:d≠c):∀{l:@&(@&Nat)},(∀a∈l,d∉a)->d∉jn c l
 |[],_=>by simp[jn]
 |[a],h=>h a #[_]
 |a::b::r,h=>by
  rw[H9];intro z;rcases aX.mp z with z|z
  .exact h a #[_] z
  .rcases aB.mp z with z|z
   .exact hd z
   .exact Lm hd (l:=b::r) (λx hx=>h x (by simp[hx])) z
def XS(h:dd.good):10∉(A6 dd).cps.toList:=by
 unfold A6;rw[LU,bK,A1];show Lm ∅ λa ha=>?_;let#[y,hy,rfl]:=aI.mp ha;show(Dd.free h y hy).2
def WJ:("mint ":Str)++nT n=Builtin.Str.glued " " ["mint",nT n]:=by
 let e:("mint ":Str)=("mint":Str)++(" ":Str):=by decide +kernel
 rw[e]
 rfl
def N4.of(hn:1<=n/\n<=9):N4 (n:Int):=#[by omega,by omega]
def a99:32∉("mint":Str).cps.toList/\10∉("mint ":Str).cps.toList:=by decide +kernel
def aW3(hn:1<=n/\n<=9)(hd:∀dd∈ds,dd.good):Txt.split (E9 n ds) "\n"=(("mint ":Str)++nT n)::ds.map A6:=by
 unfold E9;rw[b92,aN5 #[_] λy hy=>?_];rcases aB.mp hy with rfl|hy
 .rw[iP,fF];intro z;rcases aX.mp z with z|z
  .exact a99.2 z
  .exact FG (N4.of hn) ∅ z
 .let#[dd,h,rfl]:=aI.mp hy;show XS (hd dd h)
end
def a51(h:0<=i/\i<=9999):i.natAbs.log2<1920:=by
 by_cases z:i.natAbs=0
 .rw[z];decide
 .exact(Nat.log2_lt z).mpr (ax (show i.natAbs<2 ^ 14 by omega) (Cq ∅ ∅))
def zd(a b:Str):(a++b).length=-a+-b:=lQ
section
open PySem.NumText
noncomputable abbrev As(x:Str):Prop:=x.cps.all (·<128)=true
def As.mem(h:As x):∀c∈x.cps.toList,c<128:=by
 unfold As at h;rw[<- mP,bw] at h;show λc hc=>br (h c hc)
def Y1(h:∀c∈x.cps.toList,c<128):As x:=by
 unfold As;rw[<- mP,bw];show λc hc=>aC (h c hc)
def OA{y:Str}(h:x.cps.toList=y.cps.toList):x=y:=by
 cases x;cases y;simpa using h
def m8(x:Str):-x=-x.cps.toList:=bH.symm
noncomputable abbrev Y7(i:Int):Str:=Str.ofString (toString i)
def Md(u:@&Nat)(c:Nat):digitsVal (u++[c])=digitsVal u*10+(c-48):=by unfold digitsVal;rw[List.foldl_append];rfl
def EO{d:Nat}(h:d<10):(Nat.digitChar d).toNat=48+d:=by
 obtain rfl|rfl|rfl|rfl|rfl|rfl|rfl|rfl|rfl|rfl:d=0\/d=1\/d=2\/d=3\/d=4\/d=5\/d=6\/d=7\/d=8\/d=9:=by omega
 all_goals rfl
def Oz{l:@&Nat}(h:l≠[]):∃u c,l=u++[c]:=#[l.dropLast,l.getLast h,(List.dropLast_concat_getLast h).symm]
def NG:∀(n:Nat) (l:@&Nat),(-l)=n->AllDigits l->digitsVal l<10 ^ n
 |0,l,hl,_=>by rw[uF.mp hl];decide
 |n+1,l,hl,h=>by
  let#[u,c,rfl]:=Oz (l:=l) (by intro z;rw[z] at hl;cases hl);let ih:=NG n u (_/hl) λd hd=>h d (by simp[hd]);let hc:=h c #[_];rw[Md,Nat.pow_succ];omega
def Ld:∀(n:Nat) (l:@&Nat),(-l)=n->AllDigits l->l≠[]->l.head?≠!48->0<digitsVal l/\(Nat.toDigits 10 (digitsVal l)).map Char.toNat=l
 |0,l,hl,_,h1,_=>absurd (uF.mp hl) h1
 |n+1,l,hl,h,h1,h2=>by
  let#[u,c,rfl]:=Oz h1;let hc:=h c #[_];rw[Md];by_cases hu:u=[]
  .subst hu;have:c≠48:=λz=>h2 (by rw[z];rfl);let e:digitsVal []*10+(c-48)=c-48:=by change 0*10+(c-48)=_;omega
   rw[e,uD ()];show#[by omega,?_];rw[hJ,EO ()]
   congr 1
   omega
  .let ⟨p,ih⟩:=Ld n u (_/hl) (λd hd=>h d (by simp [hd])) hu (by
    intro z;show h2 ?_;cases u with
    |nil=>show absurd rfl hu
    | cons a r=>show z)
   show#[by omega,?_];rw[lJ,<- Nat.toDigits_append_toDigits ∅ p (),aK,ih,uD (),hJ,EO ()]
   congr 2
   omega
def bU9:∀m:Nat,0<m->((Nat.toDigits 10 m).map Char.toNat).head?≠!48:=by
 intro m
 induction m using Nat.strongRecOn with
 |_ m ih =>
  intro h z;rw[Nat.toDigits_eq_if ∅] at z;split at z
  .rw[hJ,EO ‹_›] at z;have:=aD z;omega
  .rw[aK] at z;let eX:(Nat.toDigits 10 (m / 10)).map Char.toNat≠[]:=by simp[Nat.toDigits_ne_nil]
   let IW:=ih (m / 10) () ();cases q:(Nat.toDigits 10 (m / 10)).map Char.toNat with
   |nil=>show eX q
   |cons a r=>rw[q] at z IW;show IW z
def bR0(h:1<=i):(Y7 i).cps.toList.head?≠!48:=by
 let#[m,rfl]:=eB (by omega:0<=i);rw[X0];show bU9 m ()
def HC(h:0<=i/\i<=9999):1<=(Y7 i).length/\(Y7 i).length<=4:=Oa h
def Qh(h:0<=i):AllDigits (Y7 i).cps.toList:=FO h
def OC(h:0<=i/\i<=9999):PySem.intText? (Y7 i)=!i:=Xr h
def FX(h:AllDigits x.cps.toList)(h1:x.cps.toList≠[])(h2:-x<=4300):PySem.intText? x=!((digitsVal x.cps.toList:Nat):Int):=intText_digits h h1 h2
def BX:(" ":Str)=#[(List.toArray [32])]:=by decide +kernel
def bU4(x:Str)(c:Nat):(~~~(Builtin.Str.occurrences x #[(List.toArray [c])] 0 (-x) 1).isEmpty)=decide (c∈x.cps.toList):=StrLaws.found_one x c
def Lh(c:Nat):(~~~(Builtin.Str.occurrences "0123456789" #[(List.toArray [c])] 0 ("0123456789":Str).length 1).isEmpty)=decide (48<=c/\c<=57):=by
 rw[bU4,show("0123456789":Str).cps.toList=[48,49,50,51,52,53,54,55,56,57] from by decide +kernel];show decide_eq_decide.mpr ?_;simp only[List.mem_cons,List.mem_nil_iff,or_false];omega
def yT{c:Nat}:∀{l:@&(@&Nat)},l≠[]->(jn c l).length+1=(l.map List.length).sum+-l
 |[],h=>absurd rfl h
 |[a],_=>by simp[jn]
 |a::b::r,_=>by
  let ih:=yT (c:=c) (l:=b::r) #[_];rw[H9,aM,aP,aQ,bN,aP];omega
def Bc{c:Nat}:∀{l:@&(@&Nat)} {a:@&Nat},a∈l->∀x∈a,x∈jn c l
 |[b],a,h,x,hx=>by rw[cR] at h;subst h;show hx
 |b::d::r,a,h,x,hx=>by
  rw[H9];rcases aB.mp h with rfl|h
  .simp[hx]
  .have:=Bc (c:=c) h x hx;simp[this]
def Bj:∀{l:@&Nat} {a:Nat},a∈l->a<=l.sum
 |b::r,a,h=>by
  rw[bN];rcases aB.mp h with rfl|h
  .omega
  .have:=Bj h;omega
def words_of(t:Str)(ha:As t):Txt.split t " "≠[]/\((Txt.split t " ").map Str.length).sum+(Txt.split t " ").length=-t+1/\∀w∈Txt.split t " ",As w/\-w<=-t:=by
 let h1:=cW t " ";let h3:Txt.split t " "≠[]:=λz=>by
  have:=fV t " ";rw[z] at this;show absurd this ∅
 generalize Txt.split t " "=ws at *;rw[BX] at h1;let e:t.cps.toList=jn 32 (ws.map λy=>y.cps.toList):=by rw[<- A1,h1]
 let hl:=yT (c:=32) (l:=ws.map λy=>y.cps.toList) (_/h3);rw[<- e,<- m8,eL,ah] at hl;let hs:(ws.map (List.length ∘ λy:Str=>y.cps.toList))=ws.map Str.length:=gN λy x=>(m8 y).symm;rw[hs] at hl;show#[h3,hl.symm,λw hw=>#[Y1 λc hc=>ha.mem c ?_,?_]]
 .rw[e];show Bc (aI.mpr #[w,hw,rfl]) c hc
 .have:=Bj (aI.mpr #[w,hw,rfl]:-w∈ws.map Str.length);have:1<=-ws:=ki.mpr h3;omega
def three{l:List α}(h:-l=3):∃a b c,l=[a,b,c]:=by
 rcases l with _|⟨a,_|⟨b,_|⟨c,_|⟨d,r⟩⟩⟩⟩<;>simp at h
 show#[a,b,c,rfl]
structure WB(ws:@&Str)(B:Nat):Prop where
 as:∀w∈ws,As w
 sz:(ws.map Str.length).sum+-ws<=B
def AH{c:Nat}:∀{l:@&(@&Nat)} {x:Nat},x∈jn c l->x=c\/∃a∈l,x∈a
 |[b],x,h=>.inr #[b,by simp,h]
 |b::e::r,x,h=>by
  rcases aX.mp h with h|h
  .exact .inr #[b,by simp,h]
  .rcases aB.mp h with h|h
   .exact .inl h
   .rcases AH h with h|⟨a,ha,h⟩
    .exact .inl h
    .exact .inr #[a,by simp[ha],h]
def WB.glued{ws:@&Str}{B:Nat}(h:WB ws B):As (Builtin.Str.glued " " ws)/\(Builtin.Str.glued " " ws).length<=B:=by
 let e:(Builtin.Str.glued " " ws).cps.toList=jn 32 (ws.map λy=>y.cps.toList):=by rw[bK,BX,A1]
 show#[Y1 λc hc=>?_,?_]
 .rw[e] at hc;rcases AH hc with rfl|⟨a,ha,hc⟩
  .decide
  .let#[w,hw,rfl]:=aI.mp ha;show(h.as w hw).mem c hc
 .rw[m8,e];cases ws with
  |nil=>show Nat.zero_le _
  |cons w r =>
   let hl:=yT (c:=32) (l:=(w::r).map λy=>y.cps.toList) #[_];rw[eL,ah] at hl;let hs:((w::r).map (List.length ∘ λy:Str=>y.cps.toList))=(w::r).map Str.length:=gN λy x=>(m8 y).symm;rw[hs] at hl;have:=h.sz;omega
def WB.join{ws:@&Str}(h:WB ws B):u9 " " ws<=B:=by
 unfold u9;rw[StrLaws.foldl_total,show(" ":Str).length=1 from by decide +kernel,show(ws.map λx:Str=>-x)=ws.map Str.length from rfl];have:=h.sz;omega
def WB.up{ws:@&Str}{B':Nat}(h:WB ws B)(hb:B<=B'):WB ws B':=#[h.as,aL h.sz hb]
def WB.put{ws:@&Str}(h:WB ws B)(hw:As w)(i:Nat):WB (ws.take i++w::ws.drop i) (B+-w+1):=by
 show#[λx hx=>?_,?_]
 .rcases aX.mp hx with hx|hx
  .exact h.as x (dQ hx)
  .rcases aB.mp hx with rfl|hx
   .exact hw
   .exact h.as x (cV hx)
 .let e:ws=ws.take i++ws.drop i:=(jB i ws).symm;have:=h.sz;rw[e,aK,nV,aM] at this;rw[aK,aQ,nV,bN,aM,aP];omega
def WB.set{ws:@&Str}{B:Nat}(h:WB ws B){w:Str}(hw:As w)(i:Nat):WB (ws.set i w) (B+-w):=by
 let s:∀(l:@&Str) (i:Nat),((l.set i w).map Str.length).sum<=(l.map Str.length).sum+-w:=by
  intro l
  induction l with
  |nil=>intro i;simp
  |cons a r ih =>
   intro i;cases i with
   |zero=>rw[QF,aQ,aQ,bN,bN];omega
   |succ i=>have:=ih i;rw[QG,aQ,aQ,bN,bN];omega
 show#[λx hx=>?_,?_]
 .rcases bt hx with hx|rfl
  .exact h.as x hx
  .exact hw
 .have:=h.sz;have:=s ws i;rw[bX];omega
def WB.del{ws:@&Str}(h:WB ws B)(i:Nat):WB (ws.eraseIdx i) B:=by
 let s:∀(l:@&Str) (i:Nat),((l.eraseIdx i).map Str.length).sum+(l.eraseIdx i).length<=(l.map Str.length).sum+-l:=by
  intro l
  induction l with
  |nil=>intro i;simp
  |cons a r ih =>
   intro i;cases i with
   |zero=>rw[List.eraseIdx_cons_zero,aQ,bN,aP];omega
   |succ i=>have:=ih i;rw[iT,aQ,aQ,bN,bN,aP,aP];omega
 show#[λx hx=>h.as x (fJ hx),aL (s ws i) h.sz]
def Y0{α β:Type}(f:α->β):∀(l:List α) (i:Nat),(l.map f).eraseIdx i=(l.eraseIdx i).map f
 |[],_=>rfl
 |_::_,0=>rfl
 |a::r,i+1=>by rw[aQ,iT,iT,Y0 f r i,aQ]
def AX(h:As x)(lo hi:Option Int):As (L2.S9 x lo hi)/\(L2.S9 x lo hi).length<=-x:=by
 show#[Y1 λc hc=>h.mem c ?_,?_]
 .exact cV (dQ hc)
 .rw[m8,m8 x];show((x.cps.toList.drop _).take _).length<=_;rw[bu,fu];omega
def AD{y:Str}(hx:As x)(hy:As y):As (x++y):=Y1 λc hc=>by
 rw[iP,fF] at hc;show(aX.mp hc).elim (hx.mem c) (hy.mem c)
end
def OV:ba:=#[1,2,(cY (.gW (.eF (.fQ (.chain .Lt .LtE (bp 0) (bS .len aE) (bp 4)))) (.eF (.fQ (bS .all (.comp [] 2 (.one 1) (.jF aE) .no (bO (.cmp .In) aO (bB "0123456789"))))))) (cq (.lit .aW)) (eJ 1 (bS .int aE) (cY (cD .NotEq (bS .str aO) aE) (cq (.lit .aW)) (cq aO))))]
section
variable{T:Nat->Option ba}
def len_str(hz:-x<=100000)(h:Q (.int (-x)) g):cC .len [.str x] g Q:=#[_,_,#[rfl,.inr (.inr #[x,rfl,hz,rfl])],h]
def Bo(x:Str):(sgn x).length=-x:=by
 unfold sgn;rw[ah,bH]
 rfl
def Ox{j:Nat}(h:(sgn x)[j]?=!y):∃c,x.cps.toList[j]?=!c/\y=.str #[(List.toArray [c])]:=by
 unfold sgn at h;rw[aJ,ag] at h;let#[c,hc,rfl]:=h;show#[c,hc,rfl]
def take_snoc{l:List α}{j:Nat}{a:α}(h:l[j]?=!a):l.take (j+1)=l.take j++[a]:=by
 rw[List.take_add_one,h];rfl
def a72(kT:T 166=!OV)(ha:As x)(hz:-x<=1000)(h1:∀i g',Ex g g'->0<=i/\i<=9999->x=Y7 i->Q (.int i) g')(h0:∀g',Ex g g'->(∀i,0<=i/\i<=9999->x≠Y7 i)->Q .aW g'):c9 T (k+1) 166 [.str x] g Q E:=by
 show call_of kT rfl ?_;delta OV;exists len_str () ?_;exists if2 (λc1=>?_) (λc1=>?_)
 rotate_left
 .left;show h0 _ (Ex.refl _) λi hi z=>by have:=(HC hi).1;rw[<- z] at this;omega
 exists Fm (λc2=>?_) (λc2=>?_)
 rotate_left
 .left;show h0 _ (Ex.refl _) λi hi z=>by have:=(HC hi).2;rw[<- z] at this;omega
 exists J8 (d9 T _) (IX (d9 T _) ?_);exists#[_,rfl,ha,sgn x,λj ys σ g'=>(∃z,σ=[none,z])/\g'=g/\ys=(x.cps.toList.take j).map λc=>.bl (decide (48<=c/\c<=57)),?_,λj ys σ g' p=>#[J9,?_],#[#[none,rfl],rfl,rfl],λj y ys σ g' hx p=>?_,λys σ g' p=>?_]
 .rw[Bo];omega
 .let#[_,_,rfl]:=p;rw[ah,bu];omega
 .let#[#[z,rfl],rfl,rfl]:=p;let#[c,hc,rfl]:=Ox hx;show A3 ?_
  try show fk _ _ _ _ _ _
  exists b55 ?_;change _/\_/\_++[D.bl (~~~(Builtin.Str.occurrences "0123456789" #[(List.toArray [c])] 0 ("0123456789":Str).length 1).isEmpty)]=_;rw[Lh,take_snoc hc,aK];show#[#[_,rfl],rfl,rfl]
 .let#[#[z,rfl],rfl,rfl]:=p;rw[Bo,m8,dw];let e1:Ex g' (g'++[.lst (x.cps.toList.map λc=>.bl (decide (48<=c/\c<=57)))]):=Ex.snoc _ _;let b1:(g'++[O.lst (x.cps.toList.map λc=>.bl (decide (48<=c/\c<=57)))])[(-g')]?=!(.lst ((x.cps.toList.map λc=>decide (48<=c/\c<=57)).map D.bl)):=by rw[d6,eL];rfl
  generalize g'++[O.lst (x.cps.toList.map λc=>.bl (decide (48<=c/\c<=57)))]=g1 at *;show JW (a9 b1) (Px _) ?_;left;cases hb:(x.cps.toList.map λc=>decide (48<=c/\c<=57)).all id with
  |false =>
   exists h0 _ e1 λi hi z=>?_;let hd:=Qh hi.1;rw[<- z] at hd;rw[List.all_map,List.all_eq_false] at hb;let#[c,hc,q]:=hb;show q (aC (hd c hc))
  |true =>
   let hd:NumText.AllDigits x.cps.toList:=λc hc=>by
    rw[List.all_map,bw] at hb;show br (hb c hc)
   let hv:=NG _ _ rfl hd;let hi:=FX hd (λz=>by rw[m8,z] at c1;show absurd c1 ∅) ();rw[<- m8] at hv;let jJ:NumText.digitsVal x.cps.toList<10 ^ 4:=ax hv (Cq ∅ ());generalize NumText.digitsVal x.cps.toList=n at *;exists HW () hi ?_;exists BW (a51 #[by omega,by omega]) ?_;exists Fm (λc3=>?_) (λc3=>?_)
   .left;show h1 _ _ e1 #[by omega,by omega] c3.symm
   .exists h0 _ e1 λi hj z=>c3 ?_;have:=OC hj;rw[<- z,hi] at this;rw[aD this];show z.symm
end
def uu:ba:=#[1,1,(cY (.gW (cD .Eq (bS .len aE) (bp 0)) (.gW (cD .Gt (bS .len aE) (bp 9)) (.fQ (bS .any (.comp [] 2 (.one 1) (.jF aE) .no (bO (.cmp .NotIn) aO (bB "0123456789"))))))) (cq (bS (.un .USub) (bp 1))) (cq (.ite (.fU (cD .Gt (bS .len aE) (bp 1)) (cD .Eq (cE aE (bp 0)) (bB "0"))) (bS (.un .USub) (bp 1)) (bS .int aE))))]
abbrev fg(w:Str):Int:=if (-w)=0 then -1 else if 9< -w then -1 else if(w.cps.toList.any λc=>~~~decide (48<=c/\c<=57))=true then -1 else if 1< -w/\w.cps.toList.head?=some 48 then -1 else(NumText.digitsVal w.cps.toList:Nat)
def bF6(h:NumText.AllDigits w.cps.toList):(w.cps.toList.any λc=>~~~decide (48<=c/\c<=57))=false:=by
 rw[iy];intro c hc;simp[h c hc]
def ZZ(h:0<=i/\i<=9999):fg (Y7 i)=i:=by
 let hl:=HC h;let hd:=Qh h.1;let eX:(Y7 i).cps.toList≠[]:=λz=>by rw[m8,z] at hl;show absurd hl.1 ∅
 let hv:=(FX hd eX ()).symm.trans (OC h);unfold fg;rw[aq (),aq (),bF6 hd,aq ∅,aq ?_]
 .exact aD hv
 .intro⟨z1,z2⟩;by_cases hi:1<=i
  .exact bR0 hi z2
  .obtain rfl:i=0:=by omega
   show absurd z1 #[]
set_option tactic.hygienic true in
def NJ(h:0<=fg w/\fg w<=9999):w=Y7 (fg w):=by
 unfold fg at h ⊢;split at h
 .exact absurd h.1 ∅
 .split at h
  .exact absurd h.1 ∅
  .split at h
   .exact absurd h.1 ∅
   .split at h
    .exact absurd h.1 ∅
    .rename_i c1 c2 c3 c4;rw[aq c1,aq c2,aq c3,aq c4];let hd:NumText.AllDigits w.cps.toList:=λc hc=>by
      have:=iy.mp (Bool.eq_false_iff.mpr c3) c hc;simpa using this
     let eX:w.cps.toList≠[]:=λz=>c1 (by rw[m8,z];rfl);by_cases z:w.cps.toList.head?=!48
     .let l1:-w=1:=by
       by_cases l2:1< -w
       .exact absurd #[l2,z] c4
       .omega
      obtain⟨a,ea⟩:∃a,w.cps.toList=[a]:=ji.mp l1;rw[ea] at z ⊢;cases z;show OA (by rw[ea];decide +kernel)
     .let#[p,e]:=Ld _ _ rfl hd eX z;show OA (by rw[X0,e])
def Py:∀bs:@&Bool,Y2 (bs.map D.bl)=!bs.any id
 |[]=>rfl
 |b::r=>by show(Y2 (r.map D.bl)).map _=_;rw[Py r];rfl
section
variable{T:Nat->Option ba}
def zh(iG:T 172=!uu)(ha:As x)(hz:-x<=1000)(h:∀g',Ex g g'->Q (.int (fg x)) g'):c9 T (k+1) 172 [.str x] g Q E:=by
 show call_of iG rfl ?_;delta uu;unfold fg at h;exists len_str () ?_;exists if2 (λc1=>?_) (λc1=>?_)
 .left;rw[au ()] at h;show h _ (Ex.refl _)
 exists len_str () ?_;exists if2 (λc2=>?_) (λc2=>?_)
 .left;rw[aq (),au ()] at h;show h _ (Ex.refl _)
 rw[aq (),aq ()] at h;exists J8 (d9 T _) (IX (d9 T _) ?_);exists#[_,rfl,ha,sgn x,λj ys σ g'=>(∃z,σ=[none,z])/\g'=g/\ys=(x.cps.toList.take j).map λc=>.bl (~~~decide (48<=c/\c<=57)),?_,λj ys σ g' p=>#[J9,?_],#[#[none,rfl],rfl,rfl],λj y ys σ g' hx p=>?_,λys σ g' p=>?_]
 .rw[Bo];omega
 .let#[_,_,rfl]:=p;rw[ah,bu];omega
 .let#[#[z,rfl],rfl,rfl]:=p;let#[c,hc,rfl]:=Ox hx;show A3 ?_;exists ZR ?_;rw[show(Builtin.Str.occurrences "0123456789" #[(List.toArray [c])] 0 ("0123456789":Str).length 1).isEmpty= ~~~decide (48<=c/\c<=57) from by rw[<- Lh,wy],take_snoc hc,aK];show#[#[_,rfl],rfl,rfl]
 .let#[#[z,rfl],rfl,rfl]:=p;rw[Bo,m8,dw];let e1:Ex g' (g'++[.lst (x.cps.toList.map λc=>.bl (~~~decide (48<=c/\c<=57)))]):=Ex.snoc _ _;let b1:(g'++[O.lst (x.cps.toList.map λc=>.bl (~~~decide (48<=c/\c<=57)))])[(-g')]?=!(.lst ((x.cps.toList.map λc=>~~~decide (48<=c/\c<=57)).map D.bl)):=by rw[d6,eL];rfl
  show b69 (a9 b1) (Py _) ?_;left;cases hb:(x.cps.toList.map λc=>~~~decide (48<=c/\c<=57)).any id with
  |true =>
   show oz ?_;left;rw[au (by rw[<- hb,lN];rfl)] at h;show h _ e1
  |false =>
   show Z5 ?_;rw[aq (by rw[show(x.cps.toList.any λc=>~~~decide (48<=c/\c<=57))=false from by rw[<- hb,lN];rfl];decide)] at h;left;let hd:NumText.AllDigits x.cps.toList:=λc hc=>by
    rw[lN] at hb;have:=iy.mp hb c hc;simpa using this
   let eX:x.cps.toList≠[]:=λz=>by rw[m8,z] at c1;show c1 rfl
   obtain⟨a,r,ea⟩:∃a r,x.cps.toList=a::r:=dF eX;let hint:=FX hd eX ();show len_str () ?_;exists if2 (λc4=>?_) (λc4=>?_)
   .exists LD (i:=0) (c:=a) () (by rw[ea];show A2 (j:=0) rfl) ?_;exists if2 (λc5=>?_) (λc5=>?_)
    .left;let c6:(#[(List.toArray [a])]:Str)=#[(List.toArray [48])]:=c5.trans #[];simp at c6;rw[au #[by omega,by rw[ea,c6];rfl]] at h;show h _ e1
    .rw[aq (λz=>c5 (by rw[ea] at z;rw[show a=48 from aD z.2];decide +kernel))] at h;exists HW () hint ?_;show h _ e1
   .rw[aq (λz=>c4 ())] at h;show Z5 ?_;exists HW () hint ?_;show h _ e1
end
def qg(w:Str):D:=if 0<=fg w/\fg w<=9999 then .int (fg w) else .aW
abbrev jL(w:Str):Option (@&Bool) :=
 if w="cut" then some [true] else if w="fix" then some [false] else if w="off" then some [false] else if w="mark" then some [true,false,false] else if w="strike" then some [false,false] else if w="year" then some [false] else none
abbrev nB(l:@&Bool):@&D:=l.map λb=>.str (if b then "side" else "number")
def Xd(w:Str):N6 Hj w=(jL w).map λl=>.tup (nB l):=by
 unfold jL Hj;simp only[N6]
 repeat' split
 all_goals first|rfl|(subst_vars;contradiction)|skip
 all_goals simp_all
def lC(b:Bool)(w:Str):D:=if b=true then .str w else qg w
abbrev things:@&Bool->@&Str->@&D
 |b::l,w::ws=>lC b w::things l ws
 |_,_=>[]
def Nc:∀{l:@&Bool} {ws:@&Str},(-l)=-ws->(things l ws).length=-ws
 |[],[],_=>rfl
 |_::_,_::_,h=>by simp[things,Nc (_/h)]
def Nb:∀{l:@&Bool} {ws:@&Str} {i:Nat} {x:D},(O6 (nB l) (ws.map .str))[i]?=!x->∃b w,x=.tup [.str (if b=true then "side" else "number"),.str w]/\w∈ws/\(things l ws)[i]?=!lC b w
 |[],ws,i,x,h=>by simp[O6,nB] at h
 |b::l,[],i,x,h=>by simp[O6,nB] at h
 |b::l,w::ws,0,x,h=>#[b,w,by simpa[O6,nB,eq_comm] using h,by simp,rfl]
 |b::l,w::ws,i+1,x,h=>by
  let h2:(O6 (nB l) (ws.map .str))[i]?=!x:=by simpa[O6,nB] using h
  let#[b',w',e,hw,e']:=Nb h2;show#[b',w',e,by simp[hw],by simpa[things] using e']
def HM(h:As x):PyData.strOk x=true:=by
 change x.cps.all (·<0x110000)=true;rw[<- mP,bw];show λc hc=>aC (by have:=h.mem c hc;omega)
abbrev rg:D->Bool
 |.aW=>true
 |_=>false
def ZD{b:Bool}(ha:As w):lC b w=.aW\/(∃i,lC b w=.int i)\/∃y,lC b w=.str y/\PyData.strOk y=true:=by
 unfold lC qg;split
 .exact .inr (.inr #[w,rfl,HM ha])
 .split
  .exact .inr (.inl #[_,rfl])
  .exact .inl rfl
def NN{g:G}:∀{l:@&D},(∀t∈l,t=.aW\/(∃i,t=.int i)\/∃y,t=.str y/\PyData.strOk y=true)->∃ps,sT g l=!ps/\PyData.canLayAll0 ps=true/\(ps.any λq=>PyData.eqv q .none)=l.any rg
 |[],_=>#[[],rfl,rfl,rfl]
 |t::l,h=>by
  let#[ps,e,c,a]:=NN (l:=l) λx hx=>h x (by simp[hx]);let go:∀p,rd g 6 t=!p->p.canLay0=true->PyData.eqv p .none=rg t->∃ps,sT g (t::l)=!ps/\PyData.canLayAll0 ps=true/\(ps.any λq=>PyData.eqv q .none)=(t::l).any rg:=λp e1 c1 a1=>by
   show#[p::ps,?_,?_,?_]
   .show(t::l).mapM (rd g 6)=_;rw[pU,e1,show l.mapM (rd g 6)=some ps from e]
    rfl
   .show(p.canLay0&&PyData.canLayAll0 ps)=true;rw[c1,c]
    rfl
   .rw[eT,eT,a1,a]
  rcases h t #[_] with rfl|⟨i,rfl⟩|⟨y,rfl,hy⟩
  .exact go .none rfl rfl rfl
  .exact go (.int i) rfl rfl rfl
  .exact go (.str y) rfl hy rfl
abbrev B7:@&Str->D
 |[]=>.aW
 |f::r=>match jL f with
  |none=>.aW
  |some l=>if (-r)=-l then(if(things l r).any rg=true then .aW else .tup (.str f::things l r)) else .aW
structure zu(T:Nat->Option ba):Prop where
 kT:T 166=!N1
 xU:T 252=!T7
 Ep:T 253=!Gw
section
variable{T:Nat->Option ba}
def Pf(kT:T 166=!N1)(ha:As w)(hz:-w<=1000)(h:∀g',Ex g g'->Q (qg w) g'):c9 T (k+1) 166 [.str w] g Q E:=by
 show a72 kT ha hz (λi g' e hi hw=>?_) (λg' e hn=>?_)
 .have:=h g' e;unfold qg at this;rw[hw,ZZ hi,au hi] at this;show this
 .have:=h g' e;unfold qg at this;rw[aq (λz=>hn _ z (NJ z))] at this;show this
def a44(hX:zu T){b:Bool}(ha:As w)(hz:-w<=1000)(h:∀g',Ex g g'->Q (lC b w) g'):c9 T (k+2) 252 [.str (if b=true then "side" else "number"),.str w] g Q E:=by
 cases b with
 |true =>
  show call_of hX.xU rfl ?_;delta T7;exists eR #[] ?_;left;show h _ (Ex.refl _)
 |false =>
  show call_of hX.xU rfl ?_;delta T7;exists cc #[] ?_;exists Pf hX.kT ha hz λg' e=>?_;show h _ e
def WG(hX:zu T)(ha:As row)(hz:-row<=900)(h:∀g',Ex g g'->Q (B7 (Txt.split row " ")) g'):c9 T (k+3) 253 [.str row] g Q E:=by
 let#[w0,w1,w2]:=words_of row ha;show call_of hX.Ep rfl ?_;delta Gw;exists bH5 ?_;exists#[M9,?_];exists m_split #[] () rfl () ?_;obtain⟨f,r,ew⟩:∃f r,Txt.split row " "=f::r:=dF w0;rw[ew] at h w1 w2 ⊢;let e1:Ex g (g++[.lst ((f::r).map .str)]):=Ex.snoc _ _;let b1:(g++[.lst ((f::r).map .str)])[(-g)]?=!(.lst ((f::r).map .str)):=d6;generalize g++[.lst ((f::r).map .str)]=g1 at *;show#[_,_,_,rfl,a9 b1,?_];let e2:Ex g (g1++[.lst (r.map .str)]):=e1.trans (Ex.snoc _ _);let b2:(g1++[.lst (r.map .str)])[(-g1)]?=!.lst (r.map .str):=d6;let l1:(f::r).length<=1000:=by omega
 rw[aP] at l1;generalize (-g1)=j at *;generalize g1++[.lst (r.map .str)]=g2 at *;simp only[B7] at h;let lk:=Xd f;cases hf:jL f with
 |none =>
  rw[hf] at lk h;exists eR (by rw[show N6 _ f=none from lk];rfl) ?_;left;show h _ e2
 |some l =>
  rw[hf] at lk h;let lk:N6 Hj f=!.tup (nB l):=lk;dsimp only at h;let hl:(nB l).length=-l:=ah _;exists cc (by rw[lk];rfl) ?_;exists vO lk ?_;left;by_cases c:-r=-l
  rotate_left
  .rw[aq c] at h;show eR (by rw[cj,aF,ah,hl];omega) ?_;left;show h _ e2
  rw[au c] at h;show cc (by rw[eM,lG,ah,hl];omega) ?_;let tl:=Nc (l:=l) (ws:=r) c.symm;let l3:-l<=3:=by
   unfold jL at hf
   repeat' split at hf
   all_goals first|(cases hf;decide)|cases hf
  exists J8 (d9 T _) (Sm ?_);exists vO lk ?_;exists#[_,_,_,rfl,rfl,a9 b2,O6 (nB l) (r.map .str),λi ys σ g'=>(∃z1 z2,σ=[none,z1,z2])/\Ex g2 g'/\ys=(things l r).take i,?_,λi ys σ g' p=>#[bU0 (a9 (p.2.1.at b2)) (by rw[ah,hl,c]),?_],#[#[none,none,rfl],Ex.refl _,rfl],λi x ys σ g' hx p=>?_,λys σ g' p=>?_]
  .have:(O6 (nB l) (r.map .str)).length<=(nB l).length:=by unfold O6;rw[ah,nW];omega
   omega
  .let#[_,_,rfl]:=p;rw[bu];omega
  .let#[#[z1,z2,rfl],e3,rfl]:=p;let#[b,w,rfl,hw,qj]:=Nb hx;let#[aw,zw]:=w2 w (by simp[hw]);show FT rfl ?_
   try show fk _ _ _ _ _ _
   exists a44 hX aw () λg3 e4=>?_;show#[#[_,_,rfl],e3.trans e4,?_];rw[dC,qj]
   rfl
  .let#[#[z1,z2,rfl],e3,rfl]:=p;let e5:(things l r).take (O6 (nB l) (r.map .str)).length=things l r:=by
    show dh ?_;unfold O6;rw[ah,nW,ah];omega
   rw[e5];let e4:Ex g (g'++[.lst (things l r)]):=(e2.trans e3).trans (Ex.snoc _ _);let b4:(g'++[.lst (things l r)])[(-g')]?=!.lst (things l r):=d6;generalize (-g')=v at *;generalize g'++[.lst (things l r)]=g3 at *;left;let al:∀(l:@&Bool) (r:@&Str),(∀w∈r,As w)->∀t∈things l r,t=.aW\/(∃i,t=.int i)\/∃y,t=.str y/\PyData.strOk y=true:=by
    intro l
    induction l with
    |nil=>intro r _ t ht;simp[things] at ht
    |cons b l ih =>
     intro r hr t ht;cases r with
     |nil=>simp[things] at ht
     |cons w r =>
      rcases aB.mp (show t∈lC b w::things l r from ht) with rfl|ht
      .exact ZD (hr w #[_])
      .exact ih r (λw hw=>hr w (by simp[hw])) t ht
   let#[ps,q1,q2,q3]:=NN (g:=g3) (al l r λw hw=>(w2 w (by simp[hw])).1);show Z7 #[_,.inr #[things l r,ps,.none,a9 b4,q1,rfl,q2,rfl,rfl],?_];rw[q3];left;cases hn:(things l r).any rg with
   |true =>
    rw[au hn] at h;show oz ?_;left;show h _ e4
   |false =>
    rw[aq (by rw[hn];decide)] at h;show Z5 ?_;left;let e6:Ex g (g3++[.lst [.str f]]):=e4.trans (Ex.snoc _ _);let b6:(g3++[.lst [.str f]])[(-g3)]?=!.lst [.str f]:=d6;let b5:(g3++[.lst [.str f]])[v]?=!.lst (things l r):=P6 b4;show BD b6 b5 (by rw[aP,nX];omega) ?_;show BZ (a9 d6) ?_;show h _ (e6.trans (Ex.snoc _ _))
end
def G0:ba:=#[1,3,(eJ 1 (cE aE (bp 0)) (eJ 2 (.pj (.cons (bB "cut") (.cons (bp 2) (.cons (bB "fix") (.cons (bp 2) (.cons (bB "off") (zI (bp 2) (bB "mark") (bp 4) (bB "strike") (bp 3) (bB "year") (bp 2)))))))) (cY (.gW (cD .NotIn aO bz) (cD .NotEq (bS .len aE) (cE bz aO))) (cq (.lit .aW)) (cY (cD .Eq aO (bB "cut")) (cq (bO .tup (bB "cut") (cE aE (bp 1)))) (cY (cD .Eq aO (bB "mark")) (cq (.prim .tup (zM (bB "mark") (cE aE (bp 1)) (jb 172 (cE aE (bp 2))) (jb 172 (cE aE (bp 3)))))) (cq (bO (.bin .Add) (bS .tup aO) (bS .tuple (.comp [] 2 (.one 1) (.jF (bO (.kn true false) aE (bp 1))) .no (jb 172 aO))))))))))]
def CT(b:Bool)(w:Str):D:=if b=true then .str w else .int (fg w)
abbrev zo:@&Bool->@&Str->@&D
 |b::l,w::ws=>CT b w::zo l ws
 |_,_=>[]
abbrev BK:@&Str->D
 |[]=>.aW
 |f::r=>match jL f with
  |none=>.aW
  |some l=>if (-r)=-l then .tup (.str f::zo l r) else .aW
noncomputable abbrev nK:@&(Key×D):=[(.inr "cut",.int 2),(.inr "fix",.int 2),(.inr "off",.int 2),(.inr "mark",.int 4),(.inr "strike",.int 3),(.inr "year",.int 2)]
def bJ5(w:Str):J0 nK (.inr w)=(jL w).map λl=>.int (-l+1:Nat):=by
 unfold jL;let k:∀x:Str,(decide ((Sum.inr x:Key)=.inr w))=decide (w=x):=λx=>by
  by_cases h:w=x
  .subst h;simp
  .rw[az h,az];intro z;cases z;show h rfl
 unfold J0 nK;simp only[List.find?_cons,k]
 repeat' split
 all_goals first|rfl|(simp_all;done)|skip
 all_goals simp_all [List.find?_nil]
def YS{l:@&Bool}(h:jL f=!l):(f="cut"/\l=[true])\/(f="mark"/\l=[true,false,false])\/((f≠"cut"/\f≠"mark")/\(∀b∈l,b=false)/\-l<=2):=by
 unfold jL at h
 repeat' split at h
 all_goals cases h
 all_goals first|(show .inl #[by assumption,rfl])|skip
 all_goals first|(show .inr (.inl #[by assumption,rfl]))|skip
 all_goals show .inr (.inr #[#[by assumption,?_],by decide,by decide])
 all_goals first|assumption|(subst_vars;decide +kernel)
def OU:∀{l:@&Bool} {r:@&Str},(∀b∈l,b=false)->-r=-l->zo l r=r.map λw=>.int (fg w)
 |[],[],_,_=>rfl
 |b::l,w::r,h,e=>by
  obtain rfl:=h b #[_];change CT false w::zo l r=_;rw[OU (λb hb=>h b (by simp[hb])) (_/e)]
  rfl
 |[],_::_,_,e=>by cases e
 |_::_,[],_,e=>by cases e
abbrev jc:@&Str->Option Dd
 |[f,x]=>if f="cut" then some (.cut x) else if f="fix" then some (.fix (fg x)) else if f="off" then some (.off (fg x)) else if f="year" then some (.year (fg x)) else none
 |[f,x,y]=>if f="strike" then some (.eZ (fg x) (fg y)) else none
 |[f,x,y,z]=>if f="mark" then some (.mark x (fg y) (fg z)) else none
 |_=>none
abbrev rG:Dd->Prop
 |.cut _=>True
 |.fix v=>N4 v
 |.off v=>N4 v
 |.mark _ v j=>N4 v/\N4 j
 |.eZ a b=>N4 a/\N4 b
 |.year n=>N4 n
def NX(h:dd.good):rG dd:=by
 cases dd with
 |mark x v j=>show h.2
 |cut x=>trivial
 |_=>show h
set_option tactic.hygienic true in
def Z9:rg (qg w)=true↔¬N4 (fg w):=by
 unfold qg;split
 .rename_i h;show#[λz=>(by cases z),λz=>absurd h z]
 .rename_i h;show#[λx=>h,λx=>rfl]
def U3(h:N4 (fg w)):qg w=.int (fg w):=au h
def Qp:(("cut":Str)="fix")=False/\(("cut":Str)="off")=False/\(("cut":Str)="year")=False/\(("cut":Str)="strike")=False/\(("cut":Str)="mark")=False/\(("fix":Str)="cut")=False/\(("fix":Str)="off")=False/\(("fix":Str)="year")=False/\(("fix":Str)="strike")=False/\(("fix":Str)="mark")=False/\(("off":Str)="cut")=False/\(("off":Str)="fix")=False/\(("off":Str)="year")=False/\(("off":Str)="strike")=False/\(("off":Str)="mark")=False/\(("year":Str)="cut")=False/\(("year":Str)="fix")=False/\(("year":Str)="off")=False/\(("year":Str)="strike")=False/\(("year":Str)="mark")=False/\(("strike":Str)="cut")=False/\(("strike":Str)="fix")=False/\(("strike":Str)="off")=False/\(("strike":Str)="year")=False/\(("strike":Str)="mark")=False/\(("mark":Str)="cut")=False/\(("mark":Str)="fix")=False/\(("mark":Str)="off")=False/\(("mark":Str)="year")=False/\(("mark":Str)="strike")=False:=by
 show#[?_,?_,?_,?_,?_,?_,?_,?_,?_,?_,?_,?_,?_,?_,?_,?_,?_,?_,?_,?_,?_,?_,?_,?_,?_,?_,?_,?_,?_,?_]<;>show eq_false #[]
def NL(f:Str):(f="cut"/\jL f=![true])\/(f="fix"/\jL f=![false])\/(f="off"/\jL f=![false])\/(f="mark"/\jL f=![true,false,false])\/(f="strike"/\jL f=![false,false])\/(f="year"/\jL f=![false]) \/
  ((f≠"cut"/\f≠"fix"/\f≠"off"/\f≠"mark"/\f≠"strike"/\f≠"year")/\jL f=none):=by
 by_cases h1:f="cut"
 .exact .inl #[h1,by rw[h1];decide +kernel]
 by_cases h2:f="fix"
 .exact .inr (.inl #[h2,by rw[h2];decide +kernel])
 by_cases h3:f="off"
 .exact .inr (.inr (.inl #[h3,by rw[h3];decide +kernel]))
 by_cases h4:f="mark"
 .exact .inr (.inr (.inr (.inl #[h4,by rw[h4];decide +kernel])))
 by_cases h5:f="strike"
 .exact .inr (.inr (.inr (.inr (.inl #[h5,by rw[h5];decide +kernel]))))
 by_cases h6:f="year"
 .exact .inr (.inr (.inr (.inr (.inr (.inl #[h6,by rw[h6];decide +kernel])))))
 show .inr (.inr (.inr (.inr (.inr (.inr #[#[h1,h2,h3,h4,h5,h6],by unfold jL;rw[aq h1,aq h2,aq h3,aq h4,aq h5,aq h6]])))))
def b27(ws:@&Str):BK ws=match jc ws with|some dd=>dd.d|none=>.aW:=by
 let#[w0,w1,w2,w3,w4,w5,w6,w7,w8,w9,Rt,Rq,Rp,Ro,Rn,Rm,Rk,Rj,Ri,Rh,Rg,Rf,Rc,Rb,Ra,QZ,QY,QX,QW,QV]:=Qp;rcases ws with _|⟨f,r⟩
 .rfl
 rcases NL f with⟨rfl,e⟩|⟨rfl,e⟩|⟨rfl,e⟩|⟨rfl,e⟩|⟨rfl,e⟩|⟨rfl,e⟩|⟨⟨h1,h2,h3,h4,h5,h6⟩,e⟩
 all_goals rcases r with _|⟨x,_|⟨y,_|⟨z,_|⟨_,_⟩⟩⟩⟩
 all_goals simp[*,BK,e,jc,zo,CT,Dd.d]
def bN8{r:@&Str}(h:jc (f::r)=none):B7 (f::r)=.aW:=by
 let#[w0,w1,w2,w3,w4,w5,w6,w7,w8,w9,Rt,Rq,Rp,Ro,Rn,Rm,Rk,Rj,Ri,Rh,Rg,Rf,Rc,Rb,Ra,QZ,QY,QX,QW,QV]:=Qp;rcases NL f with⟨rfl,e⟩|⟨rfl,e⟩|⟨rfl,e⟩|⟨rfl,e⟩|⟨rfl,e⟩|⟨rfl,e⟩|⟨⟨h1,h2,h3,h4,h5,h6⟩,e⟩
 all_goals rcases r with _|⟨x,_|⟨y,_|⟨z,_|⟨_,_⟩⟩⟩⟩
 all_goals first|(simp[B7,e];done)|(simp[*,jc] at h;done)
def Hv{c:Int->Dd}(e:jL f=![false])(hd:jc [f,x]=!c (fg x))(hc:∀v,(c v).d=.tup [.str f,.int v])(hn:∀v,rG (c v)↔N4 v):(∃dd,jc [f,x]=!dd/\rG dd/\B7 [f,x]=dd.d)\/((∀dd,jc [f,x]=!dd->¬rG dd)/\B7 [f,x]=.aW):=by
 by_cases h:N4 (fg x)
 .exact .inl #[_,hd,(hn _).mpr h,by rw[hc];simp[B7,e,things,lC,U3 h,rg]]
 .exact .inr #[λdd z=>by rw[hd] at z;cases z;show λz=>h ((hn _).mp z),by simp[B7,e,things,lC,Z9.mpr h]]
set_option tactic.hygienic true in
def Zk(ws:@&Str):(∃dd,jc ws=!dd/\rG dd/\B7 ws=dd.d)\/((∀dd,jc ws=!dd->¬rG dd)/\B7 ws=.aW):=by
 rcases ws with _|⟨f,r⟩
 .exact .inr #[λdd h=>(by cases h),rfl]
 cases hd:jc (f::r) with
 |none=>show .inr #[λdd h=>(by cases h),bN8 hd]
 |some dd =>
  let xN:=hd;rw[<- hd];rcases r with _|⟨x,_|⟨y,_|⟨z,_|⟨_,_⟩⟩⟩⟩
  .cases hd
  .simp only[jc] at hd;split at hd
   .rename_i hf;subst hf;show .inl #[.cut x,by rfl,trivial,by rfl]
   .split at hd
    .rename_i hf;subst hf;cases hd;show Hv (c:=.fix) #[] xN (λw=>rfl) λw=>.rfl
    .split at hd
     .rename_i hf;subst hf;cases hd;show Hv (c:=.off) #[] xN (λw=>rfl) λw=>.rfl
     .split at hd
      .rename_i hf;subst hf;cases hd;show Hv (c:=.year) #[] xN (λw=>rfl) λw=>.rfl
      .cases hd
  .simp only[jc] at hd;split at hd
   .rename_i hf;subst hf;cases hd;let e:jL "strike"=![false,false]:=by decide +kernel
    by_cases h1:N4 (fg x)
    .by_cases h2:N4 (fg y)
     .exact .inl #[_,xN,#[h1,h2],by simp[B7,e,things,lC,U3 h1,U3 h2,rg,Dd.d]]
     .exact .inr #[λdd z=>by cases z;show λz=>h2 z.2,by simp[B7,e,things,lC,Z9.mpr h2]]
    .exact .inr #[λdd z=>by cases z;show λz=>h1 z.1,by simp[B7,e,things,lC,Z9.mpr h1]]
   .cases hd
  .simp only[jc] at hd;split at hd
   .rename_i hf;subst hf;cases hd;let e:jL "mark"=![true,false,false]:=by decide +kernel
    by_cases h1:N4 (fg y)
    .by_cases h2:N4 (fg z)
     .exact .inl #[_,xN,#[h1,h2],by simp[B7,e,things,lC,U3 h1,U3 h2,rg,Dd.d]]
     .exact .inr #[λdd z=>by cases z;show λz=>h2 z.2,by simp[B7,e,things,lC,Z9.mpr h2]]
    .exact .inr #[λdd z=>by cases z;show λz=>h1 z.1,by simp[B7,e,things,lC,Z9.mpr h1]]
   .cases hd
  .cases hd
def vR(h:N4 (fg w)):nT (fg w)=w:=(NJ h).symm
def XR{ws:@&Str}(h:jc ws=!dd)(n:rG dd):dd.l.map txt=ws:=by
 rcases ws with _|⟨f,_|⟨x,_|⟨y,_|⟨z,_|⟨_,_⟩⟩⟩⟩⟩
 .cases h
 .cases h
 .simp only[jc] at h
  repeat' split at h
  all_goals first|(cases h;done)|skip
  all_goals (cases h;subst_vars)
  .rfl
  all_goals show gw (λw=>[_,w]) (vR n)
 .simp only[jc] at h;split at h
  .cases h
   subst_vars
   show[_,nT (fg x),nT (fg y)]=_;rw[vR n.1,vR n.2]
   rfl
  .cases h
 .simp only[jc] at h;split at h
  .cases h
   subst_vars
   show[_,_,nT (fg y),nT (fg z)]=_;rw[vR n.1,vR n.2]
   rfl
  .cases h
 .cases h
def bN5(h:jc (Txt.split row " ")=!dd)(n:rG dd):A6 dd=row:=by
 unfold A6;rw[XR h n,bK];show cW row " "
section
variable{T:Nat->Option ba}{d:Nat}
def aZ4(iG:T 172=!uu)(kS:T 275=!G0){r:@&Str}(b1:g[a]?=!(.lst ((f::r).map .str)))(w2:∀w∈f::r,As w/\-w<=1000)(hz:-r<=1000)(h:∀g',Ex g g'->Q (BK (f::r)) g'):c9 T (k+2) 275 [.ref a] g Q E:=by
 show call_of kS rfl ?_;delta G0;simp only[BK] at h;exists v7 (a9 b1) (d:=.str f) (A2 (j:=0) rfl) ?_;exists KJ ?_;show#[nK,rfl,by decide,d6,?_];rw[show(g++[O.du []]).set (-g) (.du nK)=g++[.du nK] from by simp];let e1:Ex g (g++[.du nK]):=Ex.snoc _ _;let b2:(g++[.du nK])[(-g)]?=!.du nK:=d6;let b1:=e1.at b1;generalize (-g)=j at *;generalize g++[.du nK]=g1 at *;let lk:=bJ5 f;exists Q9 #[_,.inl #[j,nK,.inr f,rfl,b2,rfl,rfl],?_];cases hf:jL f with
 |none =>
  rw[hf] at lk h;rw[show J0 nK (.inr f)=none from lk];exists oz ?_;show h _ e1
 |some l =>
  rw[hf] at lk h;let lk:J0 nK (.inr f)=!.int (-l+1:Nat):=lk;dsimp only at h;rw[lk,show(~~~(!D.int (-l+1:Nat)).isSome)=false from rfl];exists m9 b2 rfl lk ?_;left;by_cases c:-r=-l
  rotate_left
  .rw[aq c] at h;show eR (by rw[cj,aF,ah,aP];omega) ?_;show h _ e1
  rw[au c] at h;show cc (by rw[eM,lG,ah,aP];omega) ?_;rcases YS hf with⟨rfl,rfl⟩|⟨rfl,rfl⟩|⟨⟨n1,n2⟩,hb,h2⟩
  .let#[x,rfl]:=ji.mp c;exists eR #[] ?_;left;show h _ e1
  .let#[x,y,z,rfl]:=three c;exists cc #[] ?_;exists eR #[] ?_;exists zh iG (w2 y #[_]).1 (w2 y #[_]).2 λg2 e2=>?_;let b1:=e2.at b1;exists zh iG (w2 z #[_]).1 (w2 z #[_]).2 λg3 e3=>?_;left;show h _ ((e1.trans e2).trans e3)
  .rw[OU hb c] at h;exists cc (az n1) ?_;exists cc (az n2) ?_;exists J8 (d9 T _) (xi (d9 T _) ?_);left;let ec:cut ((f::r).map D.str) (!1) none=r.map D.str:=by
    unfold cut HT.dW;show dh #[_]
   show bL2 (a9 b1) ?_;rw[ec];let e3:Ex g (g1++[.lst (r.map .str)]):=e1.trans (Ex.snoc _ _);let b3:(g1++[.lst (r.map .str)])[(-g1)]?=!.lst (r.map .str):=d6;generalize g1++[.lst (r.map .str)]=g3 at *;show#[_,_,rfl,a9 b3,r.map D.str,λi ys σ g'=>(∃z,σ=[none,z])/\Ex g3 g'/\ys=(r.take i).map λw=>.int (fg w),by rw[ah];omega,λi ys σ g' p=>#[yS (a9 (p.2.1.at b3)),?_],#[#[none,rfl],Ex.refl _,rfl],λi x ys σ g' hx p=>?_,λys σ g' p=>?_]
   .let#[_,_,rfl]:=p;rw[ah,bu];omega
   .let#[#[z,rfl],e4,rfl]:=p;rw[aJ] at hx;let#[w,hw,rfl]:=ag.mp hx;show A3 ?_;left;let hm:w∈f::r:=bg _ (aY hw);show zh iG (w2 w hm).1 (w2 w hm).2 λg5 e5=>?_;show#[#[_,rfl],e4.trans e5,?_];rw[dC,hw,aK]
    rfl
   .let#[#[z,rfl],e4,rfl]:=p;rw[ah,dw];let e5:Ex g (g'++[.lst (r.map λw=>.int (fg w))]):=(e3.trans e4).trans (Ex.snoc _ _);show BZ (a9 d6) ?_;show BE (by simp;omega) ?_;show h _ e5
end
def F8:ba:=#[1,2,(eJ 1 (.cK .split aE (eN (bB " "))) (cY (.gW (cD .NotEq (bS .len aO) (bp 2)) (cD .NotEq (cE aO (bp 0)) (bB "mint"))) (fq (.raiser (eN (bp 0)))) (fq (.lS (.make "Ledger" 243 (eN (jb 166 (cE aO (bp 1))))) "BadAnvils" true false 0))))]
def V6:ba:=#[1,5,(eJ 1 (.cK .split aE (eN (bB "\n"))) (eJ 2 (jb 254 (cE aO (bp 0))) (vm (.one 3) (.jk (bp 1) (bS .len aO)) (eJ 4 (jb 253 (cE aO cL)) (cY (cD .Is fS (.lit .aW)) (fq (.raiser (eN cL))) (fq (.lS (.cA "do" [("Ledger",245)] bz (eN fS)) "MintError" false true 3)))) (cq bz))))]
section
variable{T:Nat->Option ba}
def aN9(h1:NF T){l h:Int}(hq:Q (.bl false) g):c9 T (k+2) 1 [.aW,.int l,.int h] g Q E:=by
 show call_of h1.nf rfl ?_;delta Q4;exists call_of h1.is rfl ?_;delta X7;exists gP (c:="int") (b:=false) ∅ rfl ?_;left;show hq
def a12(hT:TM T)(h2:E #["BadAnvils"] g):c9 T (k+3) 42 [.aW] g Q E:=by
 show call_of hT.JG rfl ?_;delta N3;exists aN9 hT.nf ?_;left;show h2
def bS6(hL:TL T)(hT:TM T)(h2:∀g',Ex g g'->E #["BadAnvils"] g'):c9 T (k+5) 243 [.ref (-g),.aW] (g++[.ins "Ledger" []]) Q E:=by
 show call_of hL.xV rfl ?_;delta Q6;exists call_of hT.JF rfl ?_;delta X6;left;show a12 hT (h2 _ ((Ex.snoc _ _).trans (Ex.snoc _ _)))
def YN(lZ:T 254=!F8)(kT:T 166=!N1)(hL:TL T)(hT:TM T)(ha:As row)(hz:-row<=900)(h1:∀(n:Nat) (w:Str),Txt.split row " "=[("mint":Str),w]->fg w=n->1<=n->n<=9->∀g1,Ex g g1->Q (.ref (-g1)) (g1++[ug (-g1+2) (-g1+3) (-g1+4),f7 (s0 n),.lst [.ref (-g1+1)],.lst [],.lst []]))(h0:(∀w,Txt.split row " "=[("mint":Str),w]->¬(1<=fg w/\fg w<=9))->∀g',Ex g g'->E (J1 0) g'):c9 T (k+6) 254 [.str row] g Q E:=by
 let#[w0,w1,w2]:=words_of row ha;show call_of lZ rfl ?_;delta F8;exists#[M9,?_];show m_split #[] () rfl () ?_;let e1:Ex g (g++[.lst ((Txt.split row " ").map D.str)]):=Ex.snoc _ _;let b1:(g++[.lst ((Txt.split row " ").map D.str)])[(-g)]?=!(.lst ((Txt.split row " ").map D.str)):=d6;generalize Txt.split row " "=ws at *;generalize g++[.lst (ws.map D.str)]=g1 at *;left;by_cases c:-ws=2
 rotate_left
 .refine eR (by rw[cj,aF,ah];omega) ?_;show#[0,rfl,h0 (λw z=>by rw[z] at c;show absurd rfl c) _ e1]
 obtain⟨f,w,rfl⟩:∃f w,ws=[f,w]:=by
  rcases ws with _|⟨f,_|⟨w,_|⟨_,_⟩⟩⟩
  .cases c
  .cases c
  .exact#[f,w,rfl]
  .simp at c
 show cc rfl ?_;left;by_cases cm:f="mint"
 rotate_left
 .refine eR (by rw[cj,aF];show cm) ?_;show#[0,rfl,h0 (λw z=>by cases z;show absurd rfl cm) _ e1]
 subst cm;show cc #[] ?_;exists Qo ?_;left;let#[aw,zw]:=w2 w #[_];let no:¬(1<=fg w/\fg w<=9)->∀g',Ex g g'->E (J1 0) g':=λz=>h0 λw' e=>by cases e;show z
 let ng:∀{st:S} {g':G},E (J1 0) g'->((#["BadAnvils"]:Xn).cls.cps.size≠1/\if(#["BadAnvils"]:Xn).cls="BadAnvils"\/("BadAnvils":Str)="MintError" then ∃n:Nat,(if false=true then st[0]?=some (!.int n) else 0=n)/\E (J1 n) g' else E #["BadAnvils"] g'):=λq =>
  #[by decide +kernel,by show#[0,by rfl,q]]
 show Pf kT aw () λg2 e2=>?_;left;by_cases hv:N4 (fg w)
 .rw[U3 hv];show Xa hL hT (λn e n1 n9=>#[rfl,by show h1 n w rfl e n1 n9 g2 (e1.trans e2)]) λhz g' e=>ng (no hz g' ((e1.trans e2).trans e))
 .rw[show qg w=.aW from aq hv];show bS6 hL hT λg' e=>ng (no (λz=>hv #[by omega,by omega]) g' ((e1.trans e2).trans e))
end
inductive Rd(s1:cH):@&Str->@&Dd->cH->Prop
 |nil:Rd s1 [] [] s1
 |snoc {rs:@&Str} {ds:@&Dd} {s:cH} {r:Str} {dd:Dd} (h:Rd s1 rs ds s) (e:jc (Txt.split r " ")=!dd) (ok:(fZ s dd).1=""):Rd s1 (rs++[r]) (ds++[dd]) (fZ s dd).2.2
def Rd.ws(W:WS s1)(h:Rd s1 rs ds s):WS s:=by
 induction h with
 |nil=>show W
 |snoc _ _ _ ih=>show BB ih
def Rd.len(h:Rd s1 rs ds s):-ds=-rs:=by
 induction h with
 |nil=>rfl
 |snoc _ _ _ ih=>simp[ih]
def Y6(s:cH)(r:Str):Prop:=∀dd,jc (Txt.split r " ")=!dd->(fZ s dd).1≠""
def ZV:(fZ s dd).1.cps.size≠1:=by
 cases dd<;>simp only[fZ,v9,n6,x9,j3,j4,u7]
 all_goals repeat' split
 all_goals (dsimp only;decide +kernel)
def Kc{ws:@&Str}(ha:∀w∈ws,As w)(h:jc ws=!dd):dd.ok:=by
 rcases ws with _|⟨f,_|⟨x,_|⟨y,_|⟨z,_|⟨_,_⟩⟩⟩⟩⟩
 .cases h
 .cases h
 .simp only[jc] at h
  repeat' split at h
  all_goals cases h
  .exact HM (ha x #[_])
  all_goals trivial
 .simp only[jc] at h;split at h
  .cases h
   trivial
  .cases h
 .simp only[jc] at h;split at h
  .cases h;show HM (ha x #[_])
  .cases h
 .cases h
section
variable{T:Nat->Option ba}
def XO(lZ:T 254=!F8)(oO:T 255=!V6)(hX:zu T)(hL:TL T)(hT:TQ T)(ht:Txt.split t "\n"=fr::rest)(xk:-t<=100000)(ha:∀r∈fr::rest,As r/\-r<=900)(hz:-rest<=4900)(h1:∀(n:Nat) (w:Str) (ds:@&Dd) (s:cH),Txt.split fr " "=[("mint":Str),w]->fg w=n->1<=n->n<=9->Rd (s0 n) rest ds s->∀g' r p q u ms m,Ex g g'->-g<=r->Led g' r p q u (ms++[(m,s)]) ds []->Q (.ref r) g')(h0:(∀w,Txt.split fr " "=[("mint":Str),w]->¬(1<=fg w/\fg w<=9))->∀g',Ex g g'->E (J1 0) g')(h2:∀(n:Nat) (w:Str) (i:Nat) (r:Str) (ds:@&Dd) (s:cH),Txt.split fr " "=[("mint":Str),w]->fg w=n->1<=n->n<=9->rest[i]?=!r->Rd (s0 n) (rest.take i) ds s->Y6 s r->∀g',Ex g g'->E (J1 (i+1)) g'):c9 T (k+9) 255 [.str t] g Q E:=by
 show call_of oO rfl ?_;delta V6;exists#[M9,?_];show m_split #[] xk ht (by simp;omega) ?_;let e1:Ex g (g++[.lst ((fr::rest).map .str)]):=Ex.snoc _ _;let b1:(g++[.lst ((fr::rest).map .str)])[(-g)]?=!.lst (.str fr::rest.map .str):=d6;let jl:-g<(g++[O.lst ((fr::rest).map .str)]).length:=by simp
 generalize hj:-g=j at *;generalize g++[.lst ((fr::rest).map .str)]=g1 at *;exists v7 (a9 b1) (A2 (j:=0) rfl) ?_;exists YN (k:=k+2) lZ hX.kT hL hT.tm (ha fr #[_]).1 (ha fr #[_]).2 (λn w c1 c2 n1 n9 g2 e2=>?_) λz g' e=>h0 z g' (e1.trans e);let hn:1<=n/\n<=9:=#[n1,n9]
 let n2:=bD9 (g:=g2) hn;let b2:∀o,(g2++o:G)[j]?=!.lst (.str fr::rest.map .str):=λo=>by rw[aG (l7 (e2.at b1))];show e2.at b1
 let b2:=b2 [ug (-g2+2) (-g2+3) (-g2+4),f7 (s0 n),.lst [.ref (-g2+1)],.lst [],.lst []];let l2:-g1<=-g2:=e2.len;let e3:Ex g (g2++[ug (-g2+2) (-g2+3) (-g2+4),f7 (s0 n),.lst [.ref (-g2+1)],.lst [],.lst []]):=(e1.trans e2).trans #[by simp,λi hi=>aG hi];let pl:-g2< -g2+2:=by omega
 let ql:-g2< -g2+3:=by omega
 generalize (-g2)+2=p at *;generalize (-g2)+3=q at *;generalize (-g2)+4=u at *;generalize (-g2)+1=m0 at *;generalize (-g2)=r at *;show yQ (d9 T _) (Fl (d9 T _) ?_);left;let ll:((D.str fr::rest.map D.str).length:Int)=-rest+1:=by simp
 rw[ll];show#[1,_,rfl,rfl,#[by omega,by omega,by omega,by omega],o7 1 ((-rest:Int)+1-1).toNat,λi σ g'=>(∃x3 x4,σ=[!.str t,!.ref j,!.ref r,x3,x4])/\Ex g g'/\g'[j]?=!.lst (.str fr::rest.map .str)/\∃ms m u ds s,Led g' r p q u (ms++[(m,s)]) ds []/\-ms=i/\Rd (s0 n) (rest.take i) ds s,λi σ g' p=>J9,#[#[none,none,rfl],e3,b2,[],m0,u,[],s0 n,n2,rfl,.nil],λi y σ g' hy p=>?_,λσ g' p=>?_]
 .let#[#[x3,x4,rfl],e4,b4,ms,m,u',ds,s,L,hm,R]:=p;let#[hi,rfl]:=P1 hy;let hi:i< -rest:=by omega
  obtain⟨row,ku⟩:∃row,rest[i]?=!row:=#[_,av hi]
  let oH:=aY ku;let#[ar,zr]:=ha row (bg _ oH);let wr:=words_of row ar;show A3 ?_;left;let e5:(1:Int)+(i:Int)=((i+1:Nat):Int):=by omega
  let Eb:jd (D.str fr::rest.map D.str) (1+(i:Int))=!.str row:=by
   rw[e5];show A2 (by rw[uG,aJ,ku];rfl)
  show v7 (a9 b4) Eb ?_;left;let bad:Y6 s row->∀g',Ex g g'->E (J1 (i+1)) g':=λhb=>h2 n w i row ds s c1 c2 n1 n9 ku R hb;let HX:WS s:=R.ws (vC n9);show WG (k:=k+5) hX ar zr λg4 e6=>?_;left;rcases Zk (Txt.split row " ") with⟨dd,hd,hn4,er⟩|⟨nj,er⟩
  .rw[er];show cc (by rw[Dd.ER];rfl) ?_;show Qo ?_;left;let L4:=L.ex e6;show k7 L4.ob rfl rfl ?_;left;let ok:=Kc (λw hw=>(wr.2.2 w hw).1) hd;show bS8 (k:=k) hL hT L4 #[by omega,by rw[R.len,bu];omega] ok (λe g5 u5 F v L5=>?_) λe g5 e7=>?_
   .let jr:j<r:=by omega
    let no:∀x:Nat,x<r->¬(x=p\/x=q\/x=r):=λx hx z=>by omega
    let e7:=e4.trans e6;show#[#[_,_,rfl],#[aL e7.len F.len,λx hx=>(F.old x (no x ()) (ax hx e7.len)).trans (e7.old x hx)],F.at (no j jr) (e6.at b4),ms++[(m,s)],(-g4),u5,ds++[dd],_,L5,by rw[aM,hm];rfl,?_];rw[dC,ku];show R.snoc hd e
   .refine#[ZV,?_];rw[au (.inr rfl)];show#[i+1,?_,bad (λmh pI=>by rw[hd] at pI;cases pI;show e) _ ((e4.trans e6).trans e7)];rw[au rfl,<- e5]
    rfl
  .rw[er];show eR rfl ?_;change gh _ _ _ _ _ _;left;show#[i+1,by rw[e5],bad (λdd hd z=>nj dd hd (NX (AY HX z))) _ (e4.trans e6)]
 .let#[#[x3,x4,rfl],e4,b4,ms,m,u',ds,s,L,hm,R]:=p;let el:rest.take (o7 1 ((-rest:Int)+1-1).toNat).length=rest:=by
   rw[L6];show dh ()
  rw[el] at R;left;show h1 n w ds s c1 c2 n1 n9 R _ _ _ _ _ _ _ e4 () L
end
def S2:ba:=#[1,6,(eJ 1 (.cK .split aE (eN (bB "\n"))) (eJ 2 (.cK .split (cE aO (bp 0)) (eN (bB " "))) (cY (.gW (cD .NotEq (cE bz (bp 0)) (bB "mint")) (.gW (cD .NotEq (bS .len bz) (bp 2)) (.eF (.fQ (.chain .LtE .LtE (bp 1) (jb 172 (cE bz (bp 1))) (bp 9)))))) (cq (bp 0)) (eJ 3 (jb 45 (jb 172 (cE bz (bp 1)))) (vm (.one 4) (.jk (bp 1) (bS .len aO)) (eJ 5 (jb 275 (.cK .split (cE aO fS) (eN (bB " ")))) (fq (.ifs (.gW (cD .Is iV (.lit .aW)) (cD .NotEq (cE (fR 183 cL iV) (bp 0)) (bB ""))) (cq fS) .pass))) (cq (.lit .aW)))))))]
section
variable{T:Nat->Option ba}
def a31(nv:T 276=!S2)(iG:T 172=!uu)(kS:T 275=!G0)(qy:T 45=!vX)(hR:TR T)(ht:Txt.split t "\n"=fr::rest)(xk:-t<=100000)(ha:∀r∈fr::rest,As r/\-r<=900)(hz:-rest<=4900)(h1:∀(n:Nat) (w:Str) (ds:@&Dd) (s:cH),Txt.split fr " "=[("mint":Str),w]->fg w=n->1<=n->n<=9->Rd (s0 n) rest ds s->∀g',Ex g g'->Q .aW g')(h0:(∀w,Txt.split fr " "=[("mint":Str),w]->¬(1<=fg w/\fg w<=9))->∀g',Ex g g'->Q (.int 0) g')(h2:∀(n:Nat) (w:Str) (i:Nat) (r:Str) (ds:@&Dd) (s:cH),Txt.split fr " "=[("mint":Str),w]->fg w=n->1<=n->n<=9->rest[i]?=!r->Rd (s0 n) (rest.take i) ds s->Y6 s r->∀g',Ex g g'->Q (.int (i+1:Nat)) g'):c9 T (k+9) 276 [.str t] g Q E:=by
 show call_of nv rfl ?_;delta S2;exists#[M9,?_];exists m_split #[] xk ht (by simp;omega) ?_;let e1:Ex g (g++[.lst ((fr::rest).map .str)]):=Ex.snoc _ _;let b1:(g++[.lst ((fr::rest).map .str)])[(-g)]?=!.lst (.str fr::rest.map .str):=d6;let jl:-g<(g++[O.lst ((fr::rest).map .str)]).length:=by simp
 generalize hj:-g=j at *;generalize g++[.lst ((fr::rest).map .str)]=g1 at *;let#[af,zf]:=ha fr #[_];let#[w0,w1,w2]:=words_of fr af;exists v7 (a9 b1) (A2 (j:=0) rfl) ?_;exists#[M9,?_];exists m_split #[] () rfl () ?_;let e2:Ex g (g1++[.lst ((Txt.split fr " ").map D.str)]):=e1.trans (Ex.snoc _ _);let b2:(g1++[.lst ((Txt.split fr " ").map D.str)])[(-g1)]?=!(.lst ((Txt.split fr " ").map D.str)):=d6;let b3:(g1++[.lst ((Txt.split fr " ").map D.str)])[j]?=!.lst (.str fr::rest.map .str):=P6 b1;let jv:j< -g1:=jl;generalize Txt.split fr " "=ws at *;generalize (-g1)=v at *;generalize g1++[.lst (ws.map D.str)]=g2 at *;obtain⟨f,r,rfl⟩:∃f r,ws=f::r:=dF w0;exists v7 (a9 b2) (A2 (j:=0) rfl) ?_;left;by_cases cm:f="mint"
 rotate_left
 .refine eR (by rw[cj,aF];show cm) ?_;left;show h0 (λw z=>by cases z;show absurd rfl cm) _ e2
 subst cm;show cc #[] ?_;left;by_cases c:-r=1
 rotate_left
 .refine eR (by rw[cj,aF,ah,aP];omega) ?_;left;show h0 (λw z=>by cases z;show absurd rfl c) _ e2
 let#[w,rfl]:=ji.mp c;let#[aw,zw]:=w2 w #[_];show cc rfl ?_;exists zh iG aw () λg3 e3=>?_;let b2:=e3.at b2;exists if2 (λc1=>?_) (λc1=>?_)
 rotate_left
 .left;show h0 (λw' z=>by cases z;omega) _ (e2.trans e3)
 exists Fm (λc2=>?_) (λc2=>?_)
 rotate_left
 .left;show h0 (λw' z=>by cases z;omega) _ (e2.trans e3)
 exists zh iG aw () λg4 e4=>?_;let#[n,hn]:=eB (by omega:0<=fg w);let n1:1<=n:=by omega
 let n9:n<=9:=by omega
 let b3:=(e3.trans e4).at b3;let e5:=(e2.trans e3).trans e4;let jg:j< -g4:=l7 b3;left;rw[hn];show Mv qy n9 λg5 e6 M0=>?_;let b3:=e6.at b3;let e5:=e5.trans e6;let gl:-g<=-g4:=by have:=((e2.trans e3).trans e4).len;omega
 generalize (-g4)=q at *;exists yQ (d9 T _) (Fl (d9 T _) ?_);left;left;let ll:((D.str fr::rest.map D.str).length:Int)=-rest+1:=by simp
 rw[ll];show#[1,_,rfl,rfl,#[by omega,by omega,by omega,by omega],o7 1 ((-rest:Int)+1-1).toNat,λi σ g'=>(∃x4 x5,σ=[!.str t,!.ref j,!.ref v,!.ref q,x4,x5])/\Ex g g'/\g'[j]?=!.lst (.str fr::rest.map .str)/\∃ds s,MD g' q s/\Rd (s0 n) (rest.take i) ds s,λi σ g' p=>J9,#[#[none,none,rfl],e5,b3,[],s0 n,M0,.nil],λi y σ g' hy p=>?_,λσ g' p=>?_]
 .let#[#[x4,x5,rfl],e6,b4,ds,s,M,R]:=p;let#[hi,rfl]:=P1 hy;let hi:i< -rest:=by omega
  obtain⟨row,ku⟩:∃row,rest[i]?=!row:=#[_,av hi]
  let#[ar,zr]:=ha row (bg _ (aY ku));let wr:=words_of row ar;show A3 ?_
  try show wpS _ _ _ _ _ _
  left;let e8:(1:Int)+(i:Int)=((i+1:Nat):Int):=by omega
  let Eb:jd (D.str fr::rest.map D.str) (1+(i:Int))=!.str row:=by
   rw[e8];show A2 (by rw[uG,aJ,ku];rfl)
  show v7 (a9 b4) Eb ?_;exists#[M9,?_];exists m_split #[] () rfl () ?_;let HX:WS s:=R.ws (vC n9);let bad:Y6 s row->∀g',Ex g g'->Q (.int (i+1:Nat)) g':=λhb=>h2 n w i row ds s rfl hn n1 n9 ku R hb;obtain⟨f,r,ew⟩:∃f r,Txt.split row " "=f::r:=dF wr.1;let x1:Ex g' (g'++[.lst ((Txt.split row " ").map D.str)]):=Ex.snoc _ _;let x2:(g'++[.lst ((Txt.split row " ").map D.str)])[(-g')]?=!(.lst ((f::r).map D.str)):=by rw[<- ew];show d6
  generalize g'++[.lst ((Txt.split row " ").map D.str)]=g6 at *;let wl:=wr.2.1;rw[ew] at wl;exists aZ4 (k:=k+6) iG kS x2 (λw hw=>by have:=wr.2.2 w (by rw[ew];show hw);show#[this.1,by omega]) (by rw[aP] at wl;omega) λg7 x3=>?_;rw[<- ew,b27];let M7:=(M.ex x1).ex x3;let e9:=(e6.trans x1).trans x3;let b7:=(x1.trans x3).at b4;left;cases hd:jc (Txt.split row " ") with
  |none =>
   show eR rfl ?_;left;rw[e8];show bad (λdd z=>by rw[hd] at z;cases z) _ e9
  |some dd =>
   let ok:=Kc (λw hw=>(wr.2.2 w hw).1) hd;show cc (by dsimp only;rw[Dd.ER];rfl) ?_;exists NU (k:=k+6) hR M7 HX ok λg8 K8 M8=>?_;left;let JP:Ex g g8:=#[aL e9.len K8.len,λx hx=>(K8.old x (.inl ()) (ax hx e9.len)).trans (e9.old x hx)]
   by_cases e:(fZ s dd).1=""
   .refine cc (by rw[eM,lG];show e) ?_;exists#[#[_,_,rfl],JP,K8.at (.inl jg) b7,ds++[dd],_,M8,?_];rw[dC,ku];show R.snoc hd e
   .refine eR (by rw[cj,aF];show e) ?_;left;rw[e8];show bad (λmh z=>by rw[hd] at z;cases z;show e) _ JP
 .let#[#[x4,x5,rfl],e6,b4,ds,s,M,R]:=p;let el:rest.take (o7 1 ((-rest:Int)+1-1).toNat).length=rest:=by
   rw[L6];show dh ()
  rw[el] at R;left;show h1 n w ds s rfl hn n1 n9 R _ e6
end
def Rd.det(h:Rd s1 rs ds s):∀{lq:@&Dd} {s':cH},Rd s1 rs lq s'->ds=lq/\s=s':=by
 induction h with
 |nil =>
  intro lq s' h';generalize hr:([]:@&Str)=rs at h';cases h' with
  |nil=>show#[rfl,rfl]
  |snoc=>simp at hr
 |@snoc rs ds s r dd h e ok ih =>
  intro lq s' h';generalize hr:rs++[r]=rows at h';cases h' with
  |nil=>simp at hr
  |@snoc qc ds2 s2 r2 qQ h2 e2 ok2 =>
   let#[rfl,z]:=List.append_inj' hr rfl;cases z;let#[rfl,rfl]:=ih h2;rw[e] at e2;cases e2;show#[rfl,rfl]
def Rd.at{s1 s:cH}{rs:@&Str}{ds:@&Dd}(h:Rd s1 rs ds s):∀{i:Nat} {r:Str},rs[i]?=!r->∃lq s' dd,Rd s1 (rs.take i) lq s'/\jc (Txt.split r " ")=!dd/\(fZ s' dd).1="":=by
 induction h with
 |nil=>intro i r hr;simp at hr
 |@snoc rs ds s r dd h e ok ih =>
  intro i r' hr;by_cases hi:i< -rs
  .rw[aG hi] at hr;let#[lq,s',mh,a,b,c]:=ih hr;show#[lq,s',mh,by rw[List.take_append_of_le_length ()];show a,b,c]
  .let DO:i=-rs:=by
    have:=(aA.mp hr).1;simp at this;omega
   subst DO;simp at hr;subst hr;show#[ds,s,dd,by rw[List.take_left'];show h;rfl,e,ok]
def Rd.FJ{lq:@&Dd}(h:Rd s1 rs ds s){i:Nat}{r:Str}(hr:rs[i]?=!r)(h':Rd s1 (rs.take i) lq s')(b:Y6 s' r):False:=by
 let#[d2,s2,dd,a,e,ok]:=h.at hr;let#[rfl,rfl]:=a.det h';show b dd e ok
def bG4{lq:@&Dd}{i j:Nat}{r r':Str}(hr:rs[i]?=!r)(h:Rd s1 (rs.take i) ds s)(b:Y6 s r)(oB:rs[j]?=!r')(h':Rd s1 (rs.take j) lq s')(b':Y6 s' r'):i=j:=by
 rcases fW i j with z|z|z
 .exact(h'.FJ (i:=i) (r:=r) (by rw[QJ];rw[au z];show hr) (by rw[List.take_take,js ()];show h) b).elim
 .exact z
 .exact(h.FJ (i:=j) (r:=r') (by rw[QJ];rw[au z];show oB) (by rw[List.take_take,js ()];show h') b').elim
def Rd.rows(W:WS s1)(h:Rd s1 rs ds s):ds.map A6=rs:=by
 induction h with
 |nil=>rfl
 |snoc h e ok ih=>rw[aK,ih,hJ,bN5 e (NX (AY (h.ws W) ok))]
def YO(e:Txt.split fr " "=[("mint":Str),w])(hn:fg w=n)(n9:n<=9):("mint ":Str)++nT n=fr:=by
 let h:=cW fr " ";rw[e,<- bK] at h;rw[WJ,<- hn,vR #[by omega,by omega]];show h
def Wj(ht:Txt.split t "\n"=fr::rest)(e:Txt.split fr " "=[("mint":Str),w])(hn:fg w=n)(n9:n<=9)(R:Rd (s0 n) rest ds s):E9 n ds=t:=by
 let h:=cW t "\n";rw[ht,<- bK] at h;unfold E9;rw[YO e hn n9,R.rows (vC n9)];show h
def BS:ba:=#[1,2,(eJ 1 (bO (.bin .Add) (bB " 0123456789-. 0123456789-.!\"#$&'\x28\x29*+,/:;<=>?@ABCDEFGHIJKLMNOPQRSTUVWXYZ[\\]^_") (bB "\n")) (eJ 1 (bO (.bin .Add) (bO (.bin .Add) aO (bB "abcdefghijklmnopqrstuvwxyz{|}~")) (bB "`")) (cq (cE aO (fR 4 aE (bS .len aO))))))]
def S4:ba:=#[2,7,(eJ 2 (.cK .split aO (eN (bB " "))) (eJ 3 (fR 4 aE (bS .len bz)) (eJ 4 (.prim .lst (.cons (bB "0") (.cons (bB "1") (.cons (bB "2") (.cons (bB "01") (.cons (bB "-1") (.cons (bB "+1") (.cons (bB "") (.cons (bB "mint") (zI (bB "cut") (bB "fix") (bB "off") (bB "mark") (bB "strike") (bB "year") (bB "lower"))))))))))) (eJ 4 (bO (.bin .Add) (bO (.bin .Add) fS (bO .lst (bB "10") (bB "upper"))) bz) (eJ 5 (cE fS (fR 4 aE (bS .len fS))) (eJ 6 (fR 4 aE (bp 4)) (cY (cD .Eq jj (bp 0)) (fq (.fo bz cL iV)) (cY (cD .Eq jj (bp 1)) (fq (.expr (.cK .gc bz (pZ cL iV)))) (cY (cD .Eq jj (bp 2)) (fq (.expr (.cK .pop bz (eN cL)))) (cY (cD .Eq jj (bp 3)) (fq (.rB bz cL bz (bp 0) (bO .tup (cE bz (bp 0)) (cE bz cL)))) (cq (.cK .join (bB " ") (eN bz)))))))))))))]
section
variable{T:Nat->Option ba}{d:Nat}
def VU(nz:T 171=!BS)(h4:T 4=!F9)(D0:j2 g d)(h:∀c g',c<128->j2 g' d->Gr d g g'->Q (.str #[(List.toArray [c])]) g'):c9 T (k+2) 171 [.ref d] g Q E:=by
 show call_of nz rfl ?_;show uq #[] ?_;exists uq #[] ?_;show uq #[] ?_;let sz:∀S:Str,S=(Str.ofString " 0123456789-. 0123456789-.!\"#$&'\x28\x29*+,/:;<=>?@ABCDEFGHIJKLMNOPQRSTUVWXYZ[\\]^_"++Str.ofString "\n")++Str.ofString "abcdefghijklmnopqrstuvwxyz{|}~"++Str.ofString "`"->As S/\0< -S/\-S<=1000:=by
  rintro S rfl;show#[by decide +kernel,by decide +kernel,by decide +kernel]
 let#[s1,s2,s3]:=sz _ rfl;generalize (Str.ofString " 0123456789-. 0123456789-.!\"#$&'\x28\x29*+,/:;<=>?@ABCDEFGHIJKLMNOPQRSTUVWXYZ[\\]^_"++Str.ofString "\n")++Str.ofString "abcdefghijklmnopqrstuvwxyz{|}~"++Str.ofString "`"=S at *
 exists len_str () ?_;exists j6 h4 D0 () () λr g1 a1 b1 D1 G1=>?_;let#[c,hc,hm]:=P9 (l:=S.cps.toList) a1 (by show b1);show LD () hc ?_;show h c g1 (s1.mem c hm) D1 G1
def Bb(h0:0<=r)(h1:r<n):kr n r=!r.toNat:=by unfold kr;rw[au h0,au h1]
def Hf{ws:@&Str}(h0:0<=r)(h1:r<((ws.map D.str).length:Nat)):∃w,jd (ws.map D.str) r=!.str w/\w∈ws:=by
 let#[v,hv,hm]:=P9 h0 h1;let#[w,hw,rfl]:=aI.mp hm;show#[w,hv,hw]
def Bi{ws:@&Str}(h:WB ws B)(hw:w∈ws):-w+1<=B:=by
 have:=Bj (aI.mpr #[w,hw,rfl]:-w∈ws.map Str.length);have:=wu hw;have:=h.sz;omega
def j2.E6(D0:j2 g d)(hd:d<a):j2 (g.set a o) d:=by
 let#[s,p,b,r,xs,e1,e2,q]:=D0.ex;show#[s,p,b,r,xs,by rw[aH ()];show e1,by rw[aH ()];show e2,q]
noncomputable abbrev n5:@&Str:=["0","1","2","01","-1","+1","","mint","cut","fix","off","mark","strike","year","lower","10","upper"]
def Gy:∀w∈n5,As w/\-w<=6/\10∉w.cps.toList:=by decide +kernel
def Yt{w:Str}(hw:w∈Txt.split t " "){c:Nat}(hc:c∈w.cps.toList):c∈t.cps.toList:=by
 let h1:=cW t " ";generalize Txt.split t " "=ws at *;rw[BX] at h1;let e:t.cps.toList=jn 32 (ws.map λy=>y.cps.toList):=by rw[<- A1,h1]
 rw[e];show Bc (aI.mpr #[w,hw,rfl]) c hc
def bF0{ws:@&Str}(h:∀w∈ws,10∉w.cps.toList):10∉(Builtin.Str.glued " " ws).cps.toList:=λz=>by
 let e:(Builtin.Str.glued " " ws).cps.toList=jn 32 (ws.map λy=>y.cps.toList):=by rw[bK,BX,A1]
 rw[e] at z;rcases AH z with z|⟨a,ha,z⟩
 .exact absurd z ∅
 .let#[w,hw,rfl]:=aI.mp ha;show h w hw z
def W'(h4:T 4=!F9)(nu:T 277=!S4)(D0:j2 g d)(ha:As t)(hn:10∉t.cps.toList)(hz:-t<=5000)(h:∀t' g',As t'->-t'<=3*-t+20->10∉t'.cps.toList->j2 g' d->Gr d g g'->Q (.str t') g'):c9 T (k+2) 277 [.ref d,.str t] g Q E:=by
 let#[wn,ws,wa]:=words_of t ha;let B0:WB (Txt.split t " ") (-t+1):=#[λw hw=>(wa w hw).1,by omega]
 let wN:∀w∈Txt.split t " ",10∉w.cps.toList:=λw hw z=>hn (Yt hw z);show call_of nu rfl ?_;delta S4;exists#[M9,?_];show m_split #[] () rfl () ?_;let hd:=D0.lt;let e2:Ex g (g++[.lst ((Txt.split t " ").map .str)]):=Ex.snoc _ _;let b2:(g++[O.lst ((Txt.split t " ").map D.str)])[(-g)]?=!(.lst ((Txt.split t " ").map D.str)):=d6;let D2:=e2.draw D0;let G2:=e2.gr d;let rQ:-g≠d:=by omega
 generalize Txt.split t " "=W at *;let hW:0< -W:=ki.mpr wn;generalize DQ:-g=a at *;exists j6 h4 D2 (by rw[ah];omega) (by rw[ah];omega) λat_ g3 a3 c3 D3 G3=>?_;let b3:=G3.at rQ b2;exists BD (P6 d6) d6 ∅ ?_;left;let x4:Ex g3 (g3++[O.lst ((n5.take 15).map D.str)]++[O.lst ((n5.drop 15).map D.str)]++[O.lst (n5.map D.str)]):=((Ex.snoc _ _).trans (Ex.snoc _ _)).trans (Ex.snoc _ _);let b5:(g3++[O.lst ((n5.take 15).map D.str)]++[O.lst ((n5.drop 15).map D.str)]++[O.lst (n5.map D.str)])[(g3++[O.lst ((n5.take 15).map D.str)]++[O.lst ((n5.drop 15).map D.str)]).length]?=!.lst (n5.map D.str):=d6;change cC _ [D.ref (g3++[O.lst ((n5.take 15).map D.str)]++[O.lst ((n5.drop 15).map D.str)]).length,_] (g3++[O.lst ((n5.take 15).map D.str)]++[O.lst ((n5.drop 15).map D.str)]++[O.lst (n5.map D.str)]) _;generalize g3++[O.lst ((n5.take 15).map D.str)]++[O.lst ((n5.drop 15).map D.str)]++[O.lst (n5.map D.str)]=g4 at *;let b4:=x4.at b3;let D4:=x4.draw D3;let G4:=(G2.trans G3).trans (x4.gr d);show BD b5 b4 (by rw[ah,ah];simp;omega) ?_;rw[<- aK];let x6:Ex g4 (g4++[O.lst ((n5++W).map D.str)]):=Ex.snoc _ _;let b7:(g4++[O.lst ((n5++W).map D.str)])[(-g4)]?=!(.lst ((n5++W).map D.str)):=d6;let b6:=x6.at b4;let D6:=x6.draw D4;let G6:=G4.trans (x6.gr d);let Ur:-g4≠d:=by have:=D4.lt;omega
 exists j6 h4 D6 (by rw[ah,aM];omega) (by rw[ah,aM];simp;omega) λp g7 a7 c7 D7 G7=>?_;let b8:=G7.at Ur b7;let b9:=G7.at rQ b6;let#[w,hw,mw]:=Hf a7 c7;exists v7 (a9 b8) hw ?_;let qw:As w/\-w<=-t+6/\10∉w.cps.toList:=by
  rcases aX.mp mw with mw|mw
  .exact#[(Gy w mw).1,by have:=(Gy w mw).2.1;omega,(Gy w mw).2.2]
  .exact#[(wa w mw).1,by have:=(wa w mw).2;omega,wN w mw]
 exists j6 h4 D7 ∅ ∅ λr g8 a8 c8 D8 G8=>?_;let pv:=G8.at rQ b9;let G9:=(G6.trans G7).trans G8;left;let back:∀pC g',WB pC (3*-t+20)->(∀w∈pC,10∉w.cps.toList)->g'[a]?=!.lst (pC.map .str)->j2 g' d->Gr d g g'->∀{z3 z4 z5 z6:Option D},bh (c9 T (k+1)) (.cK .join (.lit (.str " ")) (.cons (.var 2) .nil)) [!.ref d,!.str t,!.ref a,z3,z4,z5,z6] g' Q E:=by
  intro pC g' hB hN hb hD hG z3 z4 z5 z6;show#[yW,?_];exists yV (a9 hb) (aL hB.join ()) ?_;show h _ _ hB.glued.1 hB.glued.2 (bF0 hN) hD hG
 let put:∀{g':G} {o:O},Gr d g g'->Gr d g (g'.set a o):=λ{g' o} G=>#[by rw[bX];show G.len,λi h1 h2=>by rw[aH ()];show G.old i h1 h2]
 let got:∀{g':G} {o o':O},g'[a]?=!o'->(g'.set a o)[a]?=!o:=λ{g' o o'} q=>aV (l7 q);let ix:kr (W.map D.str).length at_=!at_.toNat:=Bb a3 c3;let ip:d<a:=by omega
 obtain rfl|rfl|rfl|rfl:r=0\/r=1\/r=2\/r=3:=by omega
 .refine eR rfl ?_;exists C5 pv ix ?_;exists cc rfl ?_;exists cc rfl ?_;exists cc rfl ?_;show B6 (K2 ?_);show back (W.set at_.toNat w) _ ((B0.set qw.1 _).up ()) (λx hx=>(bt hx).elim (wN x) λz=>z▸qw.2.2) (by rw[gR];show got pv) (D8.E6 ip) (put G9)
 .refine cc rfl ?_;exists eR rfl ?_;exists#[Hr (a9 pv),?_];exists BV pv a3 (by rw[ah] at c3;omega) (by rw[ah];omega) ?_;exists cc rfl ?_;exists cc rfl ?_;show B6 (K2 ?_);show back (W.take at_.toNat++w::W.drop at_.toNat) _ ((B0.put qw.1 _).up ()) (λx hx=>(aX.mp hx).elim (λz=>wN x (dQ z)) λz=>(aB.mp z).elim (λz=>z▸qw.2.2) λz=>wN x (cV z)) (by rw[aK,aQ,kz,kA];show got pv) (D8.E6 ip) (put G9)
 .refine cc rfl ?_;exists cc rfl ?_;exists eR rfl ?_;exists GP (n:=at_) (j:=at_.toNat) pv () (av ()) (by rw[ah];omega) ?_;exists cc rfl ?_;show B6 (K2 ?_);show back (W.eraseIdx at_.toNat) _ ((B0.del _).up ()) (λx hx=>wN x (fJ hx)) (by rw[<- Y0];show got pv) (D8.E6 ip) (put G9)
 .refine cc rfl ?_;exists cc rfl ?_;exists cc rfl ?_;exists eR rfl ?_;show B6 (KQ ?_);left;let#[zO,zY,CO]:=Hf (ws:=W) (r:=0) () (by rw[ah];omega);let#[w',xj,CP]:=Hf a3 c3;show v7 (a9 pv) zY ?_;exists v7 (a9 pv) xj ?_;exists#[_,_,rfl,?_];exists C5 pv ix ?_;left;let L':(g8.set a (.lst ((W.map D.str).set at_.toNat (.str zO))))[a]?=!(.lst ((W.set at_.toNat zO).map D.str)):=by rw[gR];show got pv
  show C5 L' (n:=0) (Bb (r:=0) ∅ (by rw[ah,bX];omega)) ?_;let l1:=Bi B0 CO;let l2:=Bi B0 CP;show back ((W.set at_.toNat zO).set 0 w') _ (((B0.set (B0.as zO CO) _).set (B0.as w' CP) _).up ()) (λx hx=>(bt hx).elim (λz=>(bt z).elim (wN x) λz=>z▸wN _ CO) λz=>z▸wN _ CP) (by simp only[List.map_set];show got L') ((D8.E6 ip).E6 ip) (put (put G9))
end
def BU:ba:=#[2,4,(eJ 2 (bS .lst (bO (.bin .Add) (bB "mint ") (bS .str aE))) (vm (.one 3) (.jF aO) (fq (.expr (.cK .append bz (eN (.cK .join (bB " ") (eN (.comp [] 2 (.one 1) (.jF cL) .no (.ite (.fQ (bO .isin aO (.lit (.ty "str")))) aO (bS .str aO))))))))) (cq (.cK .join (bB "\n") (eN bz)))))]
section
variable{T:Nat->Option ba}{d:Nat}
def Xe(tT:T 257=!BU){e:Nat}(he:g[e]?=!.lst (ds.map Dd.d))(hn:n<=9)(hf:∀dd∈ds,dd.fit)(hz:-ds<=1000)(h:∀g',Ex g g'->Q (.str (E9 n ds)) g'):c9 T (k+1) 257 [.int n,.ref e] g Q E:=by
 show call_of tT rfl ?_;delta BU;exists BW (ax (yL ()) ∅) ?_;let h6:(Str.ofString (toString (n:Int))).length<=15:=Hs ();let h5:("mint ":Str).length=5:=by decide +kernel
 show uq (by rw[h5];omega) ?_;left;let x2:Ex g (g++[.lst [.str ("mint "++nT n)]]):=Ex.snoc _ _;let b2:(g++[.lst [.str ("mint "++nT n)]])[(-g)]?=!.lst [.str ("mint "++nT n)]:=d6;generalize g++[.lst [.str ("mint "++nT n)]]=g2 at *;show yQ (d9 T _) (xi (d9 T _) ?_);exists#[e,_,rfl,a9 (x2.at he),ds.map Dd.d,λi σ g'=>∃z,σ=[!.int n,!.ref e,!.ref (-g),z]/\Ex g g'/\g'[(-g)]?=!(.lst (.str ("mint "++nT n)::((ds.take i).map A6).map .str)),λi σ g' p=>yS (a9 (p.choose_spec.2.1.at he)),#[none,rfl,x2,b2],λi y σ g' hy p=>?_,λσ g' p=>?_]
 .let#[z,rfl,x3,b3]:=p;rw[aJ,ag] at hy;let#[dd,hd,rfl]:=hy;show A3 ?_
  try show wpS _ _ _ _ _ _
  left
  try show#[S1 b3,?_]
  try show za ?_
  show Qc (k:=k) (hf dd (aY hd)) (λh=>w_var rfl h) (λ{x w Q} hx hq=>?_) ?_
  .left;rcases hx with⟨y,rfl,_⟩|⟨j,rfl,hj⟩
   .refine gP (b:=true) #[_] rfl ?_;left;show hq
   .refine gP (b:=false) #[_] rfl ?_;left;show BW (ax (yL hj) ∅) hq
  .exists T4 (P6 b3) (by simp;omega) ?_;exists#[_,rfl,Fr.HV (x3.trans (Ex.snoc _ _)) (ak _),?_];rw[get_set (P6 b3),dC,hd];simp
 .let#[z,rfl,x3,b3]:=p;rw[ah,dw] at b3
  try show wpS _ _ _ _ _ _
  exists#[yW,?_];exists yV (ys:=("mint "++nT n)::ds.map A6) (a9 b3) (text_len hn hf hz) ?_;left;show h _ x3
end
def ux:("\n":Str)=#[(List.toArray [10])]:=by decide +kernel
def Bn(t:Str)(ha:As t):Txt.split t "\n"≠[]/\((Txt.split t "\n").map Str.length).sum+(Txt.split t "\n").length=-t+1/\∀w∈Txt.split t "\n",As w/\-w<=-t:=by
 let h1:=cW t "\n";let h3:Txt.split t "\n"≠[]:=λz=>by
  have:=fV t "\n";rw[z] at this;show absurd this ∅
 generalize Txt.split t "\n"=ws at *;rw[ux] at h1;let e:t.cps.toList=jn 10 (ws.map λy=>y.cps.toList):=by rw[<- A1,h1]
 let hl:=yT (c:=10) (l:=ws.map λy=>y.cps.toList) (_/h3);rw[<- e,<- m8,eL,ah] at hl;let hs:(ws.map (List.length ∘ λy:Str=>y.cps.toList))=ws.map Str.length:=gN λy x=>(m8 y).symm;rw[hs] at hl;show#[h3,hl.symm,λw hw=>#[Y1 λc hc=>ha.mem c ?_,?_]]
 .rw[e];show Bc (aI.mpr #[w,hw,rfl]) c hc
 .have:=Bj (aI.mpr #[w,hw,rfl]:-w∈ws.map Str.length);have:1<=-ws:=ki.mpr h3;omega
def Hl{sep:Str}(hs:sep=#[(List.toArray [c])]){ws:@&Str}(eX:ws≠[]):(Builtin.Str.glued sep ws).length+1=(ws.map Str.length).sum+-ws:=by
 let e:(Builtin.Str.glued sep ws).cps.toList=jn c (ws.map λy=>y.cps.toList):=by rw[bK,hs,A1]
 rw[m8,e];let hl:=yT (c:=c) (l:=ws.map λy=>y.cps.toList) (_/eX);rw[eL,ah] at hl;show hl
def WB.FH{ws:@&Str}(h:WB ws B):As (Builtin.Str.glued "\n" ws)/\(Builtin.Str.glued "\n" ws).length<=B:=by
 let e:(Builtin.Str.glued "\n" ws).cps.toList=jn 10 (ws.map λy=>y.cps.toList):=by rw[bK,ux,A1]
 show#[Y1 λc hc=>?_,?_]
 .rw[e] at hc;rcases AH hc with rfl|⟨a,ha,hc⟩
  .decide
  .let#[w,hw,rfl]:=aI.mp ha;show(h.as w hw).mem c hc
 .by_cases eX:ws=[]
  .subst eX;show cU _
  .have:=Hl ux eX;have:=h.sz;omega
def WB.bT6{ws:@&Str}(h:WB ws B):u9 "\n" ws<=B:=by
 unfold u9;rw[StrLaws.foldl_total,show("\n":Str).length=1 from by decide +kernel,show(ws.map λx:Str=>-x)=ws.map Str.length from rfl];have:=h.sz;omega
def WB.sk{ws:@&Str}(h:WB ws B){o:Str}(hw:As w){i:Nat}(hi:ws[i]?=!o):WB (ws.set i w) (B+-w- -o):=by
 let s:∀(l:@&Str) (i:Nat),l[i]?=!o->((l.set i w).map Str.length).sum+-o=(l.map Str.length).sum+-w:=by
  intro l
  induction l with
  |nil=>intro i hi;simp at hi
  |cons a r ih =>
   intro i hi;cases i with
   |zero =>
    obtain rfl:a=o:=by simpa using hi
    rw[QF,aQ,aQ,bN,bN];omega
   |succ i =>
    have:=ih i (_/hi);rw[QG,aQ,aQ,bN,bN];omega
 show#[(h.set hw i).as,?_];have:=h.sz;have:=s ws i hi;rw[bX];omega
def WB.snoc{ws:@&Str}{B:Nat}(h:WB ws B){w:Str}(hw:As w):WB (ws++[w]) (B+-w+1):=by
 show#[λx hx=>?_,?_]
 .rcases aX.mp hx with hx|hx
  .exact h.as x hx
  .cases cR.mp hx;show hw
 .have:=h.sz;rw[aK,nV,aM];simp only[List.map_cons,List.map_nil,List.sum_cons,List.sum_nil,List.length_cons,List.length_nil];omega
def X4(h:0<=i/\i<=9999):(nT i).length<=4:=(Oa h).2
def bN4(h:dd.good):(A6 dd).length<=20:=by
 let q:∀{x:Str},p6 x->-x=5:=λ{x} h=>by rcases h with rfl|rfl<;>decide +kernel
 let l:=Hl (sep:=" ") (c:=32) LU (ws:=dd.l.map txt) (by cases dd<;>simp[Dd.l]);show(Builtin.Str.glued " " (dd.l.map txt)).length<=20;let a1:("cut":Str).length=3/\("fix":Str).length=3/\("off":Str).length=3/\("mark":Str).length=4/\("strike":Str).length=6/\("year":Str).length=4:=by decide +kernel
 cases dd with
 |cut x =>
  have:=q h;simp only[Dd.l,List.map_cons,List.map_nil,txt,List.sum_cons,List.sum_nil,List.length_cons,List.length_nil] at l ⊢;omega
 |fix v =>
  have:=X4 h;simp only[Dd.l,List.map_cons,List.map_nil,txt,List.sum_cons,List.sum_nil,List.length_cons,List.length_nil] at l ⊢;omega
 |off v =>
  have:=X4 h;simp only[Dd.l,List.map_cons,List.map_nil,txt,List.sum_cons,List.sum_nil,List.length_cons,List.length_nil] at l ⊢;omega
 |mark x v j =>
  have:=q h.1;have:=X4 h.2.1;have:=X4 h.2.2;simp only[Dd.l,List.map_cons,List.map_nil,txt,List.sum_cons,List.sum_nil,List.length_cons,List.length_nil] at l ⊢;omega
 |eZ a b =>
  have:=X4 h.1;have:=X4 h.2;simp only[Dd.l,List.map_cons,List.map_nil,txt,List.sum_cons,List.sum_nil,List.length_cons,List.length_nil] at l ⊢;omega
 |year n =>
  have:=X4 h;simp only[Dd.l,List.map_cons,List.map_nil,txt,List.sum_cons,List.sum_nil,List.length_cons,List.length_nil] at l ⊢;omega
def bK0{ws:@&Str}(h:∀w∈ws,(-w)<=B):(ws.map Str.length).sum<=B*-ws:=by
 induction ws with
 |nil=>show cU _
 |cons a r ih =>
  have:=ih λw hw=>h w (by simp[hw]);have:=h a #[_];rw[aQ,bN,aP,Nat.mul_add];omega
def Wk(hn:n<=9)(h:∀dd∈ds,dd.good):(E9 n ds).length<=9+21*-ds:=by
 let l:=Hl (sep:="\n") (c:=10) ux (ws:=(("mint ":Str)++nT n)::ds.map A6) #[_];let a:=bK0 (ws:=ds.map A6) (B:=20) λw hw=>by
  let#[dd,hd,rfl]:=aI.mp hw;show bN4 (h dd hd)
 let b:(("mint ":Str)++nT n).length<=9:=by
  have:=X4 (i:=(n:Int)) ();rw[zd,show("mint ":Str).length=5 from by decide +kernel];omega
 unfold E9;rw[aQ,bN,aP,ah] at l;rw[ah] at a;omega
def S0(hi:0<=i/\i<=9999):As (nT i):=Y1 λc hc=>by have:=FO hi.1 c hc;omega
def bN6(h:dd.good):As (A6 dd):=by
 let q:∀{x:Str},p6 x->As x:=λ{x} h=>by rcases h with rfl|rfl<;>decide +kernel
 let a1:As ("cut":Str)/\As ("fix":Str)/\As ("off":Str)/\As ("mark":Str)/\As ("strike":Str)/\As ("year":Str):=by decide +kernel
 let#[c1,c2,c3,c4,c5,c6]:=a1;show(WB.glued (ws:=dd.l.map txt) #[?_,ak _]).1;cases dd with
 |cut x=>simp only[Dd.l,List.map_cons,List.map_nil,txt,List.forall_mem_cons];show#[c1,q h,by simp]
 |fix v=>simp only[Dd.l,List.map_cons,List.map_nil,txt,List.forall_mem_cons];show#[c2,S0 h,by simp]
 |off v=>simp only[Dd.l,List.map_cons,List.map_nil,txt,List.forall_mem_cons];show#[c3,S0 h,by simp]
 |mark x v j=>simp only[Dd.l,List.map_cons,List.map_nil,txt,List.forall_mem_cons];show#[c4,q h.1,S0 h.2.1,S0 h.2.2,by simp]
 |eZ a b=>simp only[Dd.l,List.map_cons,List.map_nil,txt,List.forall_mem_cons];show#[c5,S0 h.1,S0 h.2,by simp]
 |year n=>simp only[Dd.l,List.map_cons,List.map_nil,txt,List.forall_mem_cons];show#[c6,S0 h,by simp]
def Wh(hn:n<=9)(h:∀dd∈ds,dd.good):As (E9 n ds):=by
 show(WB.FH (ws:=(("mint ":Str)++nT n)::ds.map A6) #[λw hw=>?_,ak _]).1;rcases aB.mp hw with rfl|hw
 .exact AD #[] (S0 ())
 .let#[dd,hd,rfl]:=aI.mp hw;show bN6 (h dd hd)
def nl(t:Str):Nat:=t.cps.toList.count 10
def Hn{c:Nat}:∀{l:@&(@&Nat)},l≠[]->(∀a∈l,c∉a)->(jn c l).count c+1=-l
 |[],h,_=>absurd rfl h
 |[a],_,h=>by
  change a.count c+1=1;rw[nH (h a #[_])]
 |a::b::r,_,h=>by
  let ih:=Hn (c:=c) (l:=b::r) #[_] λx hx=>h x (by simp[hx]);rw[H9,List.count_append,nH (h a #[_]),List.count_cons_self];rw[aP,<- ih];omega
def FN(t:Str):(Txt.split t "\n").length=nl t+1/\∀w∈Txt.split t "\n",10∉w.cps.toList:=by
 let h1:=cW t "\n";let h2:=StrLaws.split_free t 10;let h3:Txt.split t "\n"≠[]:=λz=>by
  have:=fV t "\n";rw[z] at this;show absurd this ∅
 rw[<- ux] at h2;generalize Txt.split t "\n"=ws at *;rw[ux] at h1;let e:t.cps.toList=jn 10 (ws.map λy=>y.cps.toList):=by rw[<- A1,h1]
 show#[?_,h2];unfold nl;rw[e,Hn (_/h3) (λa ha=>by let#[y,hy,rfl]:=aI.mp ha;show h2 y hy),ah]
def Xo{ws:@&Str}(h:∀w∈ws,10∉w.cps.toList):nl (Builtin.Str.glued "\n" ws)<=-ws:=by
 let e:(Builtin.Str.glued "\n" ws).cps.toList=jn 10 (ws.map λy=>y.cps.toList):=by rw[bK,ux,A1]
 unfold nl;rw[e];by_cases eX:ws=[]
 .subst eX;show cU _
 .have:=Hn (c:=10) (l:=ws.map λy=>y.cps.toList) (_/eX) (λa ha=>by let#[y,hy,rfl]:=aI.mp ha;show h y hy);rw[ah] at this;omega
def Ht(a b:Str):nl (a++b)=nl a+nl b:=by
 unfold nl;rw[iP,fF,List.count_append]
def AJ(x:Str)(lo hi:Option Int):nl (L2.S9 x lo hi)<=nl x:=by
 show((List.take_sublist _ _).trans (List.drop_sublist _ _)).count_le 10
def Wi(hn:1<=n/\n<=9)(hd:∀dd∈ds,dd.good):nl (E9 n ds)=-ds:=by
 have:=(FN (E9 n ds)).1;rw[aW3 hn hd,aP,ah] at this;omega
def Rd.bl{s1 s:cH}{rs:@&Str}{ds:@&Dd}(h:Rd s1 rs ds s):-s.bl=-s1.bl:=by
 induction h with
 |nil=>rfl
 |snoc _ _ _ ih=>rw[Kh,ih]
def Rd.b43(W:WS s1)(h:Rd s1 rs ds s):∀dd∈ds,dd.fit/\dd.good:=by
 induction h with
 |nil=>intro dd hd;simp at hd
 |snoc h e ok ih =>
  intro mh hd;rcases aX.mp hd with hd|hd
  .exact ih mh hd
  .cases cR.mp hd;show#[Hi (h.ws W) ok,AY (h.ws W) ok]
abbrev Oc(fr:Str)(rest:@&Str):Option Nat->Prop
 |none=>∃(n:Nat) (w:Str) (ds:@&Dd) (s:cH),Txt.split fr " "=[("mint":Str),w]/\fg w=(n:Int)/\1<=n/\n<=9/\Rd (s0 n) rest ds s
 |some 0=>∀w,Txt.split fr " "=[("mint":Str),w]->¬(1<=fg w/\fg w<=9)
 |some (i+1)=>∃(n:Nat) (w r:Str) (ds:@&Dd) (s:cH),Txt.split fr " "=[("mint":Str),w]/\fg w=(n:Int)/\1<=n/\n<=9/\rest[i]?=!r/\Rd (s0 n) (rest.take i) ds s/\Y6 s r
def Oc.det:∀{o o':Option Nat},Oc fr rest o->Oc fr rest o'->o=o':=by
 let z0:∀{n:Nat} {w:Str},Txt.split fr " "=[("mint":Str),w]->fg w=(n:Int)->1<=n->n<=9->¬Oc fr rest (!0):=λe1 e2 n1 n9 h=>h _ e1 #[by omega,by omega];let sm:∀{n n':Nat} {w w':Str},Txt.split fr " "=[("mint":Str),w]->fg w=(n:Int)->Txt.split fr " "=[("mint":Str),w']->fg w'=(n':Int)->n=n':=by
  intro n n' w w' e1 e2 e3 e4;rw[e1] at e3;cases e3;omega
 let c1:∀{i:Nat},Oc fr rest none->¬Oc fr rest (!(i+1)):=by
  rintro i ⟨n,w,ds,s,a1,a2,a3,a4,R⟩ ⟨n',w',r,lq,s',b1,b2,b3,b4,hr,R',B⟩;obtain rfl:=sm a1 a2 b1 b2;show R.FJ hr R' B
 let c0:Oc fr rest none->¬Oc fr rest (!0):=by
  rintro⟨n,w,ds,s,a1,a2,a3,a4,R⟩;show z0 a1 a2 a3 a4
 let c2:∀{i:Nat},Oc fr rest (!(i+1))->¬Oc fr rest (!0):=by
  rintro i ⟨n,w,r,ds,s,a1,a2,a3,a4,_⟩;show z0 a1 a2 a3 a4
 rintro(_|_|i) (_|_|j) h h'
 .rfl
 .exact absurd h' (c0 h)
 .exact absurd h' (c1 h)
 .exact absurd h (c0 h')
 .rfl
 .exact absurd h (c2 h')
 .exact absurd h (c1 h')
 .exact absurd h' (c2 h)
 .let#[n,w,r,ds,s,a1,a2,a3,a4,hr,R,B]:=h;let#[n',w',r',lq,s',b1,b2,b3,b4,oB,R',B']:=h';obtain rfl:=sm a1 a2 b1 b2;rw[bG4 hr R B oB R' B']
abbrev Vt:Option Nat->D
 |none=>.aW
 |some i=>.int i
section
variable{T:Nat->Option ba}
def bA4(lZ:T 254=!F8)(oO:T 255=!V6)(hX:zu T)(hL:TL T)(hT:TQ T)(ht:Txt.split t "\n"=fr::rest)(at_:As t)(xk:-t<=4900)(zW:-rest<=900)(hz:∀r∈fr::rest,(-r)<=900)(h1:∀(n:Nat) (ds:@&Dd) (s:cH),Oc fr rest none->E9 n ds=t->-s.bl=n->-ds<=1000->(∀dd∈ds,dd.fit)->∀g' r p q u ms m,Ex g g'->-g<=r->Led g' r p q u (ms++[(m,s)]) ds []->Q (.ref r) g')(h2:∀i g',Oc fr rest (!i)->Ex g g'->E (J1 i) g'):c9 T (k+9) 255 [.str t] g Q E:=by
 let#[_,_,w3]:=Bn t at_;rw[ht] at w3;show XO (k:=k) lZ oO hX hL hT ht () (λr hr=>#[(w3 r hr).1,hz r hr]) () (λn w ds s e1 e2 n1 n9 R g' r p q u ms m e hr L=>?_) (λh0 g' e=>h2 0 g' h0 e) (λn w i r ds s e1 e2 n1 n9 hr R B g' e=>h2 (i+1) g' #[n,w,r,ds,s,e1,e2,n1,n9,hr,R,B] e);let G:=R.b43 (vC n9);let tx:=Wj ht e1 e2 n9 R;show h1 n ds s #[n,w,ds,s,e1,e2,n1,n9,R] tx (by rw[R.bl];simp[s0]) (by rw[R.len];omega) (λdd hd=>(G dd hd).1) g' r p q u ms m e hr L
def Pw(nv:T 276=!S2)(iG:T 172=!uu)(kS:T 275=!G0)(qy:T 45=!vX)(hR:TR T)(ht:Txt.split t "\n"=fr::rest)(at_:As t)(xk:-t<=4900)(zW:-rest<=900)(hz:∀r∈fr::rest,(-r)<=900)(h:∀o g',Oc fr rest o->Ex g g'->Q (Vt o) g'):c9 T (k+9) 276 [.str t] g Q E:=by
 let#[_,_,w3]:=Bn t at_;rw[ht] at w3;show a31 (k:=k) nv iG kS qy hR ht () (λr hr=>#[(w3 r hr).1,hz r hr]) () (λn w ds s e1 e2 n1 n9 R g' e=>h none g' #[n,w,ds,s,e1,e2,n1,n9,R] e) (λh0 g' e=>h (!0) g' h0 e) (λn w i r ds s e1 e2 n1 n9 hr R B g' e=>h (!(i+1)) g' #[n,w,r,ds,s,e1,e2,n1,n9,hr,R,B] e)
end
def Bh:ba:=#[2,8,(eJ 2 (fR 4 aE (bp 15)) (eJ 3 (.cK .split aO (eN (bB "\n"))) (eJ 4 (fR 4 aE (bS .len cL)) (eJ 5 (fR 4 aE (bS .len cL)) (cY (cD .Lt bz (bp 5)) (fq (.fo cL fS (fR 277 aE (cE cL fS)))) (cY (cD .Eq bz (bp 5)) (fq (.expr (.cK .pop cL (eN fS)))) (cY (cD .Eq bz (bp 6)) (fq (.expr (.cK .gc cL (pZ iV (cE cL fS))))) (cY (cD .Eq bz (bp 7)) (fq (.expr (.cK .append cL (eN (.cK .pop cL (eN fS)))))) (cY (cD .Eq bz (bp 8)) (fq (.rB cL fS cL iV (bO .tup (cE cL iV) (cE cL fS)))) (cY (cD .Eq bz (bp 9)) (fq (.expr (.cK .gc cL (pZ (bO (.bin .Add) iV (bp 1)) (bO (.bin .Mult) (bB " ") (fR 4 aE (bp 2))))))) (cY (.gW (cD .Lt bz (bp 10)) (cD .Eq bz (bp 14))) (cq (.cK .join (bB "\n") (eN cL))) (eJ 6 (fR 4 aE (bO (.bin .Add) (bS .len aO) (bp 1))) (eJ 7 (jb 171 aE) (cY (cD .Eq bz (bp 10)) (cq (bO (.bin .Add) (bO (.kn false true) aO jj) (bO (.kn true false) aO (bO (.bin .Add) jj (bp 1))))) (cq (bO (.bin .Add) (bO (.bin .Add) (bO (.kn false true) aO jj) lT) (bO (.kn true false) aO (bO (.bin .Add) jj (bO (.bin .Mod) bz (bp 2))))))))))))))))))))]
def Lr:ba:=#[1,2,(fq (.om (jb 255 aE)))]
section
variable{T:Nat->Option ba}{d:Nat}
def K'{ws:@&Str}(h0:0<=r)(h1:r<((ws.map D.str).length:Nat)):∃w,jd (ws.map D.str) r=!.str w/\w∈ws/\ws[r.toNat]?=!w:=by
 rw[ah] at h1;let hi:r.toNat< -ws:=by omega
 show#[ws[r.toNat],?_,dB hi,av hi];have:=A2 (xs:=ws.map D.str) (j:=r.toNat) (v:=.str ws[r.toNat]) (by rw[aJ,av hi];rfl)
 rwa [show((r.toNat:Nat):Int)=r by omega] at this
def MA(h4:T 4=!F9)(nz:T 171=!BS)(nu:T 277=!S4)(qz:T 175=!Bh)(D0:j2 g d)(ha:As t)(hz:-t<=4900)(h:∀t' g',As t'->-t'<=3*-t+30->nl t'<=2*nl t+2->j2 g' d->Gr d g g'->Q (.str t') g'):c9 T (k+3) 175 [.ref d,.str t] g Q E:=by
 let#[wn,ws,wa]:=Bn t ha;let B0:WB (Txt.split t "\n") (-t+1):=#[λw hw=>(wa w hw).1,by omega]
 let#[nw,wN]:=FN t;show call_of qz rfl ?_;delta Bh;exists j6 h4 D0 ∅ ∅ λr g1 a1 b1 D1 G1=>?_;exists#[M9,?_];show m_split #[] () rfl () ?_;let hd:=D1.lt;let e2:Ex g1 (g1++[.lst ((Txt.split t "\n").map .str)]):=Ex.snoc _ _;let b2:(g1++[O.lst ((Txt.split t "\n").map D.str)])[(-g1)]?=!(.lst ((Txt.split t "\n").map D.str)):=d6;let D2:=e2.draw D1;let G2:=G1.trans (e2.gr d);let rQ:-g1≠d:=by omega
 let DQ:=G1.len;generalize Txt.split t "\n"=W at *;generalize (-g1)=a at *;exists j6 h4 D2 (by rw[ah];omega) (by rw[ah];omega) λat_ g3 a3 c3 D3 G3=>?_;let b3:=G3.at rQ b2;exists j6 h4 D3 (by rw[ah];omega) (by rw[ah];omega) λto g4 a4 c4 D4 Qu=>?_;let b4:=Qu.at rQ b3;let G4:=(G2.trans G3).trans Qu;let back:∀pC g',WB pC (3*-t+30)->(∀w∈pC,10∉w.cps.toList)->-pC<=-W+1->g'[a]?=!.lst (pC.map .str)->j2 g' d->Gr d g g'->∀{z2 z4 z5 z6 z7:Option D},bh (c9 T (k+2)) (.cK .join (.lit (.str "\n")) (.cons (.var 3) .nil)) [!.ref d,!.str t,z2,!.ref a,z4,z5,z6,z7] g' Q E:=by
  intro pC g' hB hN hL hb hD hG z2 z4 z5 z6 z7;show#[yW,?_];exists yV (a9 hb) (aL hB.bT6 ()) ?_;show h _ _ hB.FH.1 hB.FH.2 (aL (Xo hN) ()) hD hG
 let put:∀{g':G} {o:O},Gr d g g'->Gr d g (g'.set a o):=λ{g' o} G=>#[by rw[bX];show G.len,λi h1 h2=>by rw[aH ()];show G.old i h1 h2]
 let got:∀{g':G} {o o':O},g'[a]?=!o'->(g'.set a o)[a]?=!o:=λ{g' o o'} q=>aV (l7 q);let ix:kr (W.map D.str).length at_=!at_.toNat:=Bb a3 c3;let IT:kr (W.map D.str).length to=!to.toNat:=Bb a4 c4;let ip:d<a:=by omega
 let#[w,hw,mw,hi]:=K' a3 c3;let#[v,hv,mv,_]:=K' a4 c4;let lw:=Bi B0 mw;let lv:=Bi B0 mv;left;by_cases r5:r<5
 .refine eR (aC r5) ?_;exists v7 (a9 b4) hw ?_;exists W' (k:=k) h4 nu D4 (B0.as w mw) (wN w mw) () λw' g5 QU wl' QT D5 G5=>?_;let b5:=G5.at rQ b4;exists C5 b5 ix ?_;exists cc (az ()) ?_;exists cc (az ()) ?_;exists cc (az ()) ?_;exists cc (az ()) ?_;exists cc (az ()) ?_;exists eR (aC ()) ?_;show B6 (K2 ?_);show back (W.set at_.toNat w') _ ((B0.sk QU hi).up ()) (λx hx=>(bt hx).elim (wN x) λz=>z▸QT) (by rw[bX];omega) (by rw[gR];show got b5) (D5.E6 ip) (put (G4.trans G5))
 show cc (az r5) ?_;left;obtain rfl|rfl|rfl|rfl|rfl|rfl|hr:r=5\/r=6\/r=7\/r=8\/r=9\/r=14\/(10<=r/\r<=13):=by omega
 .refine eR rfl ?_;exists GP (n:=at_) (j:=at_.toNat) b4 () (av ()) (by rw[ah];omega) ?_;exists cc rfl ?_;exists cc rfl ?_;exists cc rfl ?_;exists cc rfl ?_;exists eR rfl ?_;show B6 (K2 ?_);show back (W.eraseIdx at_.toNat) _ ((B0.del _).up ()) (λx hx=>wN x (fJ hx)) (by have:=uE W at_.toNat;omega) (by rw[<- Y0];show got b4) (D4.E6 ip) (put G4)
 .refine cc rfl ?_;exists eR rfl ?_;exists#[Hr (a9 b4),?_];exists v7 (a9 b4) hw ?_;show BV b4 a4 (by rw[ah] at c4;omega) (by rw[ah];omega) ?_;exists cc rfl ?_;exists cc rfl ?_;exists cc rfl ?_;exists eR rfl ?_;show B6 (K2 ?_);show back (W.take to.toNat++w::W.drop to.toNat) _ ((B0.put (B0.as w mw) _).up ()) (λx hx=>(aX.mp hx).elim (λz=>wN x (dQ z)) λz=>(aB.mp z).elim (λz=>z▸wN w mw) λz=>wN x (cV z)) (by rw[aM,aP,bu,fu];omega) (by rw[aK,aQ,kz,kA];show got b4) (D4.E6 ip) (put G4)
 .refine cc rfl ?_;exists cc rfl ?_;exists eR rfl ?_;left;let hi:(W.map D.str)[at_.toNat]?=!.str w:=by rw[aJ,hi];rfl
  show GP (n:=at_) (j:=at_.toNat) b4 () hi (by rw[ah];omega) ?_;let b5:(g4.set a (.lst ((W.map D.str).eraseIdx at_.toNat)))[a]?=!(.lst ((W.eraseIdx at_.toNat).map D.str)):=by rw[<- Y0];show got b4
  let le:=uE W at_.toNat;show T4 b5 (by rw[ah];omega) ?_;exists cc rfl ?_;exists cc rfl ?_;exists eR rfl ?_;show B6 (K2 ?_);show back (W.eraseIdx at_.toNat++[w]) _ (((B0.del _).snoc (B0.as w mw)).up ()) (λx hx=>(aX.mp hx).elim (λz=>wN x (fJ z)) λz=>by cases cR.mp z;show wN _ mw) (by rw[aM,eU];omega) (by rw[aK];show got b5) ((D4.E6 ip).E6 ip) (put (put G4))
 .refine cc rfl ?_;exists cc rfl ?_;exists cc rfl ?_;exists eR rfl ?_;show B6 (KQ ?_);exists v7 (a9 b4) hv ?_;exists v7 (a9 b4) hw ?_;exists#[_,_,rfl,?_];exists C5 b4 ix ?_;left;let b5:(g4.set a (.lst ((W.map D.str).set at_.toNat (.str v))))[a]?=!(.lst ((W.set at_.toNat v).map D.str)):=by rw[gR];show got b4
  show C5 b5 (n:=to.toNat) (by rw[ah,bX];rw[ah] at IT;show IT) ?_;exists cc rfl ?_;exists eR rfl ?_;show B6 (K2 ?_);show back ((W.set at_.toNat v).set to.toNat w) _ (((B0.set (B0.as v mv) _).set (B0.as w mw) _).up ()) (λx hx=>(bt hx).elim (λz=>(bt z).elim (wN x) λz=>z▸wN _ mv) λz=>z▸wN _ mw) (by rw[bX,bX];omega) (by simp only[List.map_set];show got b5) ((D4.E6 ip).E6 ip) (put (put G4))
 .refine cc rfl ?_;exists cc rfl ?_;exists cc rfl ?_;exists cc rfl ?_;exists eR rfl ?_;exists#[Hr (a9 b4),?_];exists j6 h4 D4 ∅ ∅ λz g5 a5 c5 D5 G5=>?_;let b5:=G5.at rQ b4;obtain rfl|rfl:z=0\/z=1:=by omega
  .refine bG6 ?_;show BV b5 () (by rw[ah] at c4;omega) (by rw[ah];omega) ?_;exists eR rfl ?_;show B6 (K2 ?_);show back (W.take (to+1).toNat++Str.empty::W.drop (to+1).toNat) _ ((B0.put #[] _).up (by rw[show(Str.empty:Str).length=0 from by decide +kernel];omega)) (λx hx=>(aX.mp hx).elim (λz=>wN x (dQ z)) λz=>(aB.mp z).elim (λz=>z▸by decide +kernel) λz=>wN x (cV z)) (by rw[aM,aP,bu,fu];omega) (by rw[aK,aQ,kz,kA];show got b5) (D5.E6 ip) (put (G4.trans G5))
  .refine bG5 ?_;show BV b5 () (by rw[ah] at c4;omega) (by rw[ah];omega) ?_;exists eR rfl ?_;show B6 (K2 ?_);show back (W.take (to+1).toNat++(" ":Str)::W.drop (to+1).toNat) _ ((B0.put #[] _).up (by rw[show(" ":Str).length=1 from by decide +kernel];omega)) (λx hx=>(aX.mp hx).elim (λz=>wN x (dQ z)) λz=>(aB.mp z).elim (λz=>z▸by decide +kernel) λz=>wN x (cV z)) (by rw[aM,aP,bu,fu];omega) (by rw[aK,aQ,kz,kA];show got b5) (D5.E6 ip) (put (G4.trans G5))
 .refine cc rfl ?_;exists cc rfl ?_;exists cc rfl ?_;exists cc rfl ?_;exists cc rfl ?_;exists cc rfl ?_;exists eR rfl ?_;show B6 (K2 ?_);show back W _ (B0.up ()) wN () b4 D4 G4
 .refine cc (az ()) ?_;exists cc (az ()) ?_;exists cc (az ()) ?_;exists cc (az ()) ?_;exists cc (az ()) ?_;exists cc (az ()) ?_;exists cc (az ()) ?_;exists len_str () ?_;exists j6 h4 D4 () () λp g5 a5 c5 D5 G5=>?_;exists VU (k:=k) nz h4 D5 λc g6 hc D6 G6=>?_;let GG:=G4.trans (G5.trans G6);let c1:As #[(List.toArray [c])]/\(#[(List.toArray [c])]:Str).length=1:=#[Y1 λx hx=>by simp at hx;omega,rfl]
  exists if2 (λc6=>?_) (λc6=>?_)
  .exists Qe () ?_;exists Qf () ?_;let q1:=AX ha none (!p);let q2:=AX ha (!(p+1)) none;show uq () ?_;show h _ _ (AD q1.1 q2.1) (by rw[zd];omega) (by have:=AJ t none (!p);have:=AJ t (!(p+1)) none;rw[Ht];omega) D6 GG
  .exists Qe () ?_;let q1:=AX ha none (!p);exists uq () ?_;exists Qf () ?_;let q2:=AX ha (!(p+r % 2)) none;show uq (by rw[zd];omega) ?_;show h _ _ (AD (AD q1.1 c1.1) q2.1) (by rw[zd,zd];omega) (by have:=AJ t none (!p);have:=AJ t (!(p+r % 2)) none;have:nl #[(List.toArray [c])]<=1:=List.count_le_length;rw[Ht,Ht];omega) D6 GG
end
def Fp:ba:=#[1,11,(eJ 1 (jb 3 aE) (eJ 2 (bO (.bin .Add) (bp 1) (fR 4 aO (bp 3))) (eJ 3 (jb 45 bz) (eJ 4 (.prim .lst .nil) (vm (.one 5) (.ij (bO (.bin .Add) (bp 4) (fR 4 aO (bp 21)))) (eJ 6 (fR 188 aO cL) (fq (.ifs (cD .Eq (cE (fR 183 cL jj) (bp 0)) (bB "")) (fq (.expr (.cK .append fS (eN jj)))) .pass))) (eJ 7 (fR 257 bz fS) (vm (.one 5) (.ij (bp 4)) (eJ 8 (fR 175 aO lT) (cY (cD .Gt iV (bp 1)) (fq (.set 8 (fR 175 aO mZ))) (fq (.ifs (cD .LtE (bS .max (.comp [] 2 (.one 1) (.jF (.cK .split mZ (eN (bB "\n")))) .no (bS .len aO))) (bp 200)) (eJ 9 (jb 49 mZ) (eJ 10 (jb 276 mZ) (fq (.ifs (cD .Is rH (.lit .aW)) (fq (.ifs (.gW (.fQ (bO .isin tu (.lit (.ty "list")))) (cD .NotEq (.cA "text" [("Ledger",250)] tu .nil) mZ)) (cq (.lit (.bl false))) .pass)) (fq (.ifs (.eF (.fQ (fR 7 tu (bS .lst rH)))) (cq (.lit (.bl false))) .pass)))))) .pass)))) (cq (.lit (.bl true))))))))))]
structure HY(T:Nat->Option ba):Prop where
 tr:TR T
 tv:TV T
 tl:TL T
 tx:zu T
 h3:T 3=!BQ
 h6:T 6=!zp
 h7:T 7=!F0
 EF:T 11=!Fp
 qy:T 45=!vX
 Uc:T 49=!Lr
 nz:T 171=!BS
 iG:T 172=!uu
 qz:T 175=!Bh
 tU:T 250=!Q5
 lZ:T 254=!F8
 oO:T 255=!V6
 tT:T 257=!BU
 kS:T 275=!G0
 nv:T 276=!S2
 nu:T 277=!S4
structure Dw(g:G)(d q e:Nat)(s:cH)(ds:@&Dd):Prop where
 dr:j2 g d
 md:MD g q s
 ws:WS s
 dq:d<q
 qe:q+7<=e
 le:g[e]?=!.lst (ds.map Dd.d)
 gd:∀dd∈ds,dd.fit/\dd.good
section
variable{T:Nat->Option ba}{d e:Nat}
def NP:∀{l:@&Int},l≠[]->∃M,M∈l/\∀x∈l,x<=M
 |[],h=>absurd rfl h
 |[a],_=>#[a,by simp,λx hx=>by cases cR.mp hx;show Ct _]
 |a::b::r,_=>by
  let#[M,h1,h2]:=NP (l:=b::r) #[_];by_cases c:M<=a
  .exact#[a,by simp,λx hx=>(aB.mp hx).elim (λz=>by rw[z];show Ct _) λz=>Int.le_trans (h2 x z) c]
  .exact#[M,bg _ h1,λx hx=>(aB.mp hx).elim (λz=>by omega) λz=>h2 x z]
def MD.put(h:MD g q s)(he:q+7<=e):MD (g.set e o) q s:=by
 let p:∀{i:Nat} {x:O},i<q+7->g[i]?=!x->(g.set e o)[i]?=!x:=λ{i x} hi hx=>by rw[aH ()];show hx
 show#[p () h.du,p () h.eG,p () h.lower,p () h.upper,p () h.gone,p () h.fT]
def Dw.gr(h:Dw g d q e s ds)(G1:Gr d g g')(D:j2 g' d):Dw g' d q e s ds:=by
 let hq:=h.dq;let he:=h.qe;let m:=h.md;show#[D,#[G1.at () m.du,G1.at () m.eG,G1.at () m.lower,G1.at () m.upper,G1.at () m.gone,G1.at () m.fT],h.ws,hq,he,G1.at () h.le,h.gd]
def Ym(hT:HY T)(ht:Txt.split t "\n"=fr::rest)(ta:As t)(tz:-t<=4900)(tn:-rest<=900)(tr:∀r∈fr::rest,(-r)<=900)(h1:∀(n:Nat) (ds:@&Dd) (s:cH),Oc fr rest none->E9 n ds=t->-s.bl=n->-ds<=1000->(∀dd∈ds,dd.fit)->∀g' r p q u ms m,Ex g g'->-g<=r->Led g' r p q u (ms++[(m,s)]) ds []->Q (.ref r) g')(h2:∀i g',Oc fr rest (!i)->Ex g g'->Q (.ref (-g')) (g'++[.lst [.int i]])):c9 T (k+10) 49 [.str t] g Q E:=by
 show call_of hT.Uc rfl ?_;show B6 ?_;change bh _ _ _ _ _ _;left;show bA4 (k:=k) hT.lZ hT.oO hT.tx hT.tl hT.tr.tq ht ta tz tn tr h1 λi g' o e=>.inl #[i,rfl,h2 i g' o e]
def Qi(hT:HY T)(D0:j2 g d)(ta:As t)(tz:-t<=4900)(tn:nl t<=900){z0 z2 z3 z4 z5 z6 z7 z9 pB:Option D}(hN:∀g' z9 pB,j2 g' d->N.nx [z0,!.ref d,z2,z3,z4,z5,z6,z7,!.str t,z9,pB] g') :
  wpS (c9 T (k+11)) (.seq (.ifs (.fQ (.prim (.cmp .LtE) (.cons (.prim .max (.cons (.comp [] 2 (.one 1) (.jF (.cK .split (.var 8) (.cons (.lit (.str "\n")) .nil))) .no (.prim .len (.cons (.var 1) .nil))) .nil)) (.cons (.lit (.int 200)) .nil)))) (.seq (.set 9 (.call 49 (.cons (.var 8) .nil))) (.seq (.set 10 (.call 276 (.cons (.var 8) .nil))) (.seq (.ifs (.fQ (.prim (.cmp .Is) (.cons (.var 10) (.cons (.lit .aW) .nil)))) (.seq (.ifs (.gW (.fQ (.prim .isin (.cons (.var 9) (.cons (.lit (.ty "list")) .nil)))) (.fQ (.prim (.cmp .NotEq) (.cons (.cA "text" [("Ledger",250)] (.var 9) .nil) (.cons (.var 8) .nil))))) (.seq (.ret (.lit (.bl false))) .pass) .pass) .pass) (.seq (.ifs (.eF (.fQ (.call 7 (.cons (.var 9) (.cons (.prim .lst (.cons (.var 10) .nil)) .nil))))) (.seq (.ret (.lit (.bl false))) .pass) .pass) .pass)) .pass))) .pass) .pass) N [z0,!.ref d,z2,z3,z4,z5,z6,z7,!.str t,z9,pB] g nO:=by
 let#[wn,ws,wa]:=Bn t ta;let nw:=(FN t).1;exists J8 (d9 T _) (xi (d9 T _) ?_);exists#[M9,?_];show m_split #[] () rfl () ?_;let x1:Ex g (g++[.lst ((Txt.split t "\n").map .str)]):=Ex.snoc _ _;let b1:(g++[.lst ((Txt.split t "\n").map D.str)])[(-g)]?=!(.lst ((Txt.split t "\n").map D.str)):=d6;let#[fr,rest,hs]:=dF wn;rw[hs] at b1 x1 ws wa nw ⊢;let D1:=x1.draw D0;generalize (-g)=a at *;generalize g++[.lst ((fr::rest).map D.str)]=g1 at *;show#[a,_,rfl,a9 b1,(fr::rest).map D.str,λi ys σ g'=>ys=((fr::rest).take i).map (λw:Str=>D.int (-w))/\g'=g1/\∃z0 z1,σ=[z0,z1],by rw[ah];omega,λi ys σ g' p=>?_,#[rfl,rfl,none,none,rfl],λi y ys σ g' hy p=>?_,λys σ g' p=>?_]
 .let#[rfl,rfl,_]:=p;show#[yS (a9 b1),by rw[ah,bu];omega]
 .let#[rfl,rfl,z0,z1,rfl]:=p;rw[aJ,ag] at hy;let#[w,hw,rfl]:=hy;show A3 ?_;exists len_str (by have:=(wa w (aY hw)).2;omega) ?_;show#[?_,rfl,_,_,rfl];rw[dC,hw,aK]
  rfl
 .let#[rfl,rfl,_]:=p;rw[ah,dw];let D2:=D1.snoc (.lst ((fr::rest).map λw:Str=>D.int (-w)));let b2:(g'++[O.lst ((fr::rest).map λw:Str=>D.int (-w))])[(-g')]?=!(.lst (((fr::rest).map λw:Str=>(-w:Int)).map D.int)):=by rw[eL];show d6
  obtain⟨M,m1,m2⟩:∃M:Int,M∈((fr::rest).map λw:Str=>(-w:Int))/\∀x∈((fr::rest).map λw:Str=>(-w:Int)),x<=M:=NP #[_];show b24 (a9 b2) m1 m2 ?_;exists if2 (λc1=>?_) (λc1=>?_)
  rotate_left
  .exact hN _ _ _ D2
  let tr:∀r∈fr::rest,(-r)<=900:=λr hr=>by
   have:=m2 (-r:Int) (aI.mpr #[r,hr,rfl]);omega
  rw[aP] at nw;exists Ym (k:=k+1) hT hs ta tz () tr (λn ds s o tx sn dl df g3 r p q u ms m e3 hr L=>?_) (λi g3 o e3=>?_)
  .exists Pw (k:=k+2) hT.nv hT.iG hT.kS hT.qy hT.tr hs ta tz () tr λo' g4 ho e4=>?_;obtain rfl:=ho.det o;let L4:=L.ex e4;let D4:=e4.draw (e3.draw D2);exists eR rfl ?_;exists gP (b:=false) ∅ (by unfold si;dsimp only;rw[L4.ob]) ?_;exists k7 L4.ob rfl rfl ?_;exists Xb (k:=k+4) hT.tl hT.tr.tq hT.tU L4 df dl λg5 e5=>?_;rw[sn,tx];exists cc (by rw[aC rfl];rfl) ?_;show hN _ _ _ (e5.draw D4)
  .let D3:=(e3.draw D2).snoc (.lst [.int i]);let b3:(g3++[O.lst [.int i]])[(-g3)]?=!.lst [.int i]:=d6;generalize (-g3)=r at *;exists Pw (k:=k+2) hT.nv hT.iG hT.kS hT.qy hT.tr hs ta tz () tr λo' g5 ho e5=>?_;obtain rfl:=ho.det o;let D5:=e5.draw D3;let b5:=e5.at b3;exists cc rfl ?_;left;let x6:Ex g5 (g5++[O.lst [.int i]]):=Ex.snoc _ _;let hl:C9 (g5++[O.lst [.int i]]) 1 (.ref r) (.ref (-g5)):=by
    show .lst (x6.at b5) d6 rfl (λj x y hx hy=>?_) #[_];rw[hx] at hy;cases hy
    match j,hx with
    |0,hx=>cases hx;show .int _
    |j+1,hx=>simp at hx
   show Zf hT.h6 hT.h7 1 (k:=k+8) hl λg6 e6=>?_;left;show hN _ _ _ ((x6.trans e6).draw D5)
def WY(hT:HY T):c9 T (k+12) 11 [.ref 0] [.qO (ns.map .int)] (λd x=>d=.bl true) nO:=by
 show call_of hT.EF rfl ?_;delta Fp;exists bC3 hT.h3 (a:=0) (ns:=ns) rfl λd g D0 x x=>?_;exists j6 hT.tv.h4 D0 ∅ ∅ λr0 g1 r00 r01 D1 G1=>?_;left;let#[n,hn]:=eB (by omega:0<=1+r0);rw[hn];let uY:1<=n/\n<=9:=by omega
 show Mv (k:=k+10) hT.qy uY.2 λg2 x2 M2=>?_;let l2:=l7 M2.fT;let dq:=D1.lt;let D2:=x2.draw D1;generalize (-g1)=q at *;left;let x3:Ex g2 (g2++[O.lst []]):=Ex.snoc _ _;let e3:(g2++[O.lst []])[(-g2)]?=!(.lst (([]:@&Dd).map Dd.d)):=d6;let W3:Dw (g2++[O.lst []]) d q (-g2) (s0 n) []:=#[x3.draw D2,M2.ex x3,vC uY.2,dq,by omega,e3,λdd hd=>by simp at hd]
 generalize (-g2)=e at *;show yQ (d9 T _) (Lz (d9 T _) ?_);exists j6 hT.tv.h4 W3.dr ∅ ∅ λr9 g9 r90 r91 D9 G9=>?_;let W9:=W3.gr G9 D9;exists#[by omega,by omega,o7 0 (4+r9).toNat,λi σ g=>∃s ds,Dw g d q e s ds/\-ds<=i/\∃z5 z6 z7 z8 z9 pB,σ=[!.ref 0,!.ref d,!.int n,!.ref q,!.ref e,z5,z6,z7,z8,z9,pB],λi σ g p=>J9,#[_,[],W9,cU _,none,none,none,none,none,none,rfl],λi y σ g hy p=>?_,λσ g p=>?_]
 .let#[s,ds,W,hl,z5,z6,z7,z8,z9,pB,rfl]:=p;let#[hi,rfl]:=P1 hy;show A3 ?_;exists bF7 (k:=k+6) hT.tv W.md W.ws W.dr W.dq λdd g4 ok D4 G4=>?_;let W4:=W.gr G4 D4;exists NU (k:=k+9) hT.tr W4.md W4.ws ok λg5 K5 M5=>?_;let b5:=K5.at (.inr W.qe) W4.le;let D5:=K5.draw W.dq D4;let hq:=W.dq;let he:=W.qe;left;by_cases c:(fZ s dd).1=""
  .refine eR (aC c) ?_;exists T4 b5 (by rw[ah];omega) ?_;show#[_,ds++[dd],#[D5.E6 (),M5.put he,BB W.ws,hq,he,by rw[aK];show aV (l7 b5),λmh hd=>?_],by simp;omega,_,_,_,_,_,_,rfl];rcases aX.mp hd with hd|hd
   .exact W.gd mh hd
   .cases cR.mp hd;show#[Hi W.ws c,AY W.ws c]
  .refine cc (az c) ?_;show#[_,ds,#[D5,M5,BB W.ws,hq,he,b5,W.gd],by omega,_,_,_,_,_,_,rfl]
 .let#[s,ds,W,hl,z5,z6,z7,z8,z9,pB,rfl]:=p;let hz:-ds<=24:=by
   unfold o7 at hl;simp at hl;omega
  exists Xe (k:=k+10) hT.tT W.le uY.2 (λdd hd=>(W.gd dd hd).1) () λg6 x6=>?_;let D6:=x6.draw W.dr;let ta:=Wh uY.2 λdd hd=>(W.gd dd hd).2;let tz:=Wk uY.2 λdd hd=>(W.gd dd hd).2;let tn:=Wi uY λdd hd=>(W.gd dd hd).2;generalize E9 n ds=t at *;show a35 (n:=4) ∅ (λi σ g=>j2 g d/\∃z5 z6 z8 z9 pB,σ=[!.ref 0,!.ref d,!.int n,!.ref q,!.ref e,z5,z6,!.str t,z8,z9,pB]) #[D6,_,_,_,_,_,rfl] (λi σ g hi p=>?_) (λσ g p=>?_)
  .let#[D7,z5,z6,z8,z9,pB,rfl]:=p;exists MA (k:=k+8) hT.tv.h4 hT.nz hT.nu hT.qz D7 ta () λt1 g8 Iz tz1 tn1 D8 x=>?_;exists if2 (λc1=>?_) (λc1=>?_)
   .exists MA (k:=k+8) hT.tv.h4 hT.nz hT.nu hT.qz D8 Iz () λt2 g9 Rw tz2 tn2 D9 x=>?_;show Qi (k:=k) hT D9 Rw () () λg' y9 QS D=>#[D,_,_,_,_,_,rfl]
   .exact Qi (k:=k) hT D8 Iz () () λg' y9 QS D=>#[D,_,_,_,_,_,rfl]
  rfl
end
end M
namespace Lk
open PySem L2 M
abbrev top(i:Nat):Stmt:=PySem.Challenge.pw_trussel_k52_whole_texts_spoilt.main.body.getD i (.Pass #[0,0,0,0])
abbrev bG0:Stmt->@&Stmt
 |.ClassDef (body:=b) ..=>b
 |_=>[]
abbrev LJ(i j:Nat):Stmt:=(bG0 (top i)).getD j (.Pass #[0,0,0,0])
abbrev F:@&RF:=[#[38,"is_number",["thing"],1,20,X7],#[1,"number_from",["number","least","most"],3,21,Q4],#[16,"both",["one","other"],2,22,GO],#[40,"check_side",["side"],1,27,T8],#[177,"with_thing",["things","at","thing"],3,28,T6],#[42,"check_anvils",["anvils"],1,31,N3],#[43,"check_cut",["wear","die"],2,34,Gs],#[166,"plain_number",["text","number"],1,39,N1],#[238,"check_deed",["deed"],1,42,GF],#[239,"done_at",["mint","deed","word"],2,43,bD6],#[252,"read_thing",["form","word"],2,45,T7],#[253,"read_deed",["row","first","words","things"],1,46,Gw],#[254,"read_first_row",["row","words"],1,47,F8],#[255,"read_ledger",["text","rows","ledger","at","deed"],1,48,V6],#[3,"_law_open",["_law_script"],1,50,BQ],#[4,"_law_pull",["_law_draw","_law_total_of","_law_cell","_law_got","_law_seed"],2,51,F9],#[5,"_law_far",["_law_draw","_law_number"],1,52,uh],#[36,"_law_near",["_law_draw","_law_total_of"],2,53,BP],#[6,"_law_num",["_law_found"],1,54,zp],#[7,"_law_like",["_law_found","_law_due"],2,55,F0],#[171,"_law_sign",["_law_draw","_law_signs"],1,56,BS],#[45,"_law_model",["_law_anvils"],1,57,vX],#[46,"_law_m_cut",["_law_m","_law_side_here"],2,58,BL],#[178,"_law_m_fix",["_law_m","_law_die","_law_seat"],2,59,BN],#[179,"_law_m_off",["_law_m","_law_die","_law_seat"],2,60,BO],#[181,"_law_m_mark",["_law_m","_law_side_here","_law_die","_law_spot","_law_marks"],4,61,vW],#[182,"_law_m_strike",["_law_m","_law_lower","_law_upper"],3,62,Bs],#[183,"_law_m_do",["_law_m","_law_deed_here","_law_word"],2,63,Fq],#[37,"_law_number_of",["_law_draw","_law_numbers"],2,64,Gv],#[29,"_law_side",["_law_draw"],1,65,BR],#[188,"_law_deed",["_law_draw","_law_m","_law_turn","_law_on","_law_idle","_law_uppers","_law_side_here","_law_year","_law_years"],2,66,Q7],#[257,"_law_text",["_law_anvils","_law_deeds","_law_rows","_law_deed_here"],2,67,BU],#[172,"_law_figures",["_law_word"],1,68,uu],#[275,"_law_deed_read",["_law_words","_law_word","_law_sizes"],1,69,G0],#[276,"_law_wrong_row",["_law_text_here","_law_rows","_law_words","_law_m","_law_at","_law_deed_here"],1,70,S2],#[277,"_law_line_bent",["_law_draw","_law_line","_law_words","_law_at","_law_odds","_law_word","_law_way"],2,71,S4],#[175,"_law_spoilt",["_law_draw","_law_text_here","_law_way","_law_rows","_law_at","_law_to","_law_spot","_law_sign_here"],2,72,Bh],#[49,"_law_tried",["_law_text_here","e"],1,73,Lr],#[11,"law",["_law_script","_law_draw","_law_anvils","_law_m","_law_deeds","_law_turn","_law_deed_here","_law_whole","_law_text_here","_law_found","_law_due"],1,74,Fp]]
abbrev Ms:@&RM:=[#[51,"Mint","__init__","Mint.__init__",["self","anvils"],2,35,0,X6],#[52,"Mint","wear_of","Mint.wear_of",["self","side"],2,35,1,Y8],#[53,"Mint","put_wear","Mint.put_wear",["self","side","wear"],3,35,2,V7],#[54,"Mint","cut","Mint.cut",["self","side","wear"],2,35,3,FZ],#[55,"Mint","fix","Mint.fix",["self","die","state","anvil"],2,35,4,F'],#[56,"Mint","lay_off","Mint.lay_off",["self","die","anvil"],2,35,5,Z0],#[57,"Mint","mark","Mint.mark",["self","side","die","spot","marks"],4,35,6,S3],#[58,"Mint","strike","Mint.strike",["self","lower","upper","coin"],3,35,7,Y9],#[59,"Mint","begin_year","Mint.begin_year",["self","number"],2,35,8,P5],#[60,"Mint","anvils","Mint.anvils",["self"],1,35,9,Z1],#[61,"Mint","dies","Mint.dies",["self","side"],2,35,10,Mr],#[62,"Mint","marks","Mint.marks",["self","side","die","wear"],3,35,11,GH],#[63,"Mint","state","Mint.state",["self","die"],2,35,12,GI],#[64,"Mint","year","Mint.year",["self"],1,35,13,Mt],#[65,"Mint","struck","Mint.struck",["self"],1,35,14,Nk],#[66,"Mint","coin","Mint.coin",["self","number"],2,35,15,Mq],#[68,"Mint","twin","Mint.twin",["self","other"],1,35,17,X5],#[243,"Ledger","__init__","Ledger.__init__",["self","anvils"],2,44,0,Q6],#[244,"Ledger","go_on","Ledger.go_on",["self","deed","mint","given"],2,44,1,Z3],#[245,"Ledger","do","Ledger.do",["self","deed","given"],2,44,2,Gu],#[248,"Ledger","deeds","Ledger.deeds",["self"],1,44,5,Nr],#[249,"Ledger","mint","Ledger.mint",["self"],1,44,6,Z2],#[250,"Ledger","text","Ledger.text",["self","rows","deed"],1,44,7,Q5],#[251,"Ledger","twin","Ledger.twin",["self","other"],1,44,8,aO3]]
abbrev con:@&(Str×D):=[("LAST_SPOT",.int 7),("LAST_DIE",.int 99),("LAST_YEAR",.int 9999),("SIDES",.tup [(.str "lower"),(.str "upper")]),("MOST_ANVILS",.int 9),("MOST_STRUCK",.int 200),("FIGURES",.str "0123456789"),("MOST_FIGURES",.int 4)]
abbrev gd:@&(Str×@&D):=[("FORMS",[.tup [.str "cut",.tup [(.str "side")]],.tup [.str "fix",.tup [(.str "number")]],.tup [.str "off",.tup [(.str "number")]],.tup [.str "mark",.tup [(.str "side"),(.str "number"),(.str "number")]],.tup [.str "strike",.tup [(.str "number"),(.str "number")]],.tup [.str "year",.tup [(.str "number")]]])]
abbrev exc:@&Str:=["BadAnvils","BadDeed","BadSide","BadSpot","BadYear","Fixed","Full","Gone","Marked","MintError","NoAnvil","NoCoin","NoDie","NotFixed","Nothing"]
def c0:i4:=#[[],[],true,F.map λr=>(r.nm,r.id),con,["len","list","tuple","isinstance","all","range","int","bool","str","max","sorted","set","any","zip"],exc,gd,[("Mint",51),("Ledger",243)],Ms.map λr=>(r.nm,r.cl,r.id),[("bench","Mint"),("laid_off","Mint"),("lower_wear","Mint"),("upper_wear","Mint"),("present","Mint"),("output","Mint"),("mints","Ledger"),("done","Ledger"),("undone","Ledger")],true,true,true,!(17,0)]
noncomputable abbrev T:Nat->Option ba:=vG F Ms
def tx:mH c0 F Ms top LJ:=by
 show#[rfl,rfl,by decide +kernel,by decide +kernel,by decide +kernel,by decide +kernel,?_,?_,?_,?_,by decide +kernel,λp hp=>(by cases hp;show#[by decide +kernel,by decide +kernel,by decide +kernel,λx x x x x x=>(by(repeat show CC λx=>?_);show CA rfl)])]
 all_goals
  repeat first
   |show BF.nil
   |show BM.nil
   |show YF.nil
   |show YM.nil
   |show YF.cons (by kernel_rfl) ?_
   |show YM.cons (by kernel_rfl) ?_
   |show BF.cons (λx x x x x x=>(by(repeat show CC λx=>?_);show CA rfl)) ?_
   |show BM.cons (λx x x x x x=>(by(repeat show CC λx=>?_);show CA rfl)) ?_
inductive vz:@&DictEntry->@&(Str×V)->Prop
 |nil:vz [] []
 |cons {h:Int} {x:Str} {t:Tok} {u:Value} {v:V} {es:@&DictEntry} {vs:@&(Str×V)} (r:RelV v u) (q:vz es vs):vz (#[h,.str x t,u]::es) ((x,v)::vs)
set_option tactic.hygienic true in
def vz.find{es vs}(x:Str)(h:vz es vs):C4 (vs.lookup x) (findBy Value.isStrOf es.toArray x):=by
 induction h with
 |nil=>trivial
 |cons r q ih =>
  rename_i h y t u v es vs;unfold findBy at ih ⊢;rw[List.find?_toArray] at ih ⊢;rw[ju,dz];by_cases e:x=y
  .rw[show(x==y)=true from by simp[e],show Value.isStrOf x (.str y t)=true from by simp[Value.isStrOf,e]];show r
  .rw[show(x==y)=false from by simpa using e,show Value.isStrOf x (.str y t)=false from by simp[Value.isStrOf];show λz=>e (z.symm)];show ih
def all_mk{l:PySem.W.OpenLaw}{w:World}{K:PySem.W.Frag}{h:Heap}{mg:Str->Option Value}{fa:Addr}{EV Aw lg kZ kY kX kW kU:Addr}{t0 t1 t2 yB yA t4 t5 t6 t7 rY rX rW rV rT oQ qN qL qK qJ qI qH qG qE qD:Tok}{ES:Array (Option Value)}{ET:Nat}{Um:Nat}{oY oX oW oV oU oS:Int}{yd:Array (Option Value)}{yj:Nat}{yc:Array (Option Value)}{yi:Nat}{yb:Array (Option Value)}{yh:Nat}{ya:Array (Option Value)}{yg:Nat}{xZ:Array (Option Value)}{yf:Nat}{xY:Array (Option Value)}{ye:Nat}(X:K.In h)(G:h.Ns mainGlobals mg)(Ta:mg "law"=!.ref fa)(I:mI K c0 F Ms top LJ)(e0:PySem.W.nsIn K mainGlobals "LAST_SPOT"=!!Value.int 7 t0)(e1:PySem.W.nsIn K mainGlobals "LAST_DIE"=!!Value.int 99 t1)(e2:PySem.W.nsIn K mainGlobals "LAST_YEAR"=!!Value.int 9999 t2)(e3:PySem.W.nsIn K mainGlobals "SIDES"=!!.ref EV)(UK:K.lookup EV=!#[.type "tuple",none,.seq (List.toArray [Value.str "lower" yB,Value.str "upper" yA]) ET,ES])(e4:PySem.W.nsIn K mainGlobals "MOST_ANVILS"=!!Value.int 9 t4)(e5:PySem.W.nsIn K mainGlobals "MOST_STRUCK"=!!Value.int 200 t5)(e6:PySem.W.nsIn K mainGlobals "FIGURES"=!!(Value.str "0123456789" t6))(e7:PySem.W.nsIn K mainGlobals "MOST_FIGURES"=!!Value.int 4 t7)(g0:PySem.W.nsIn K mainGlobals "FORMS"=!!.ref Aw)(Uo:K.lookup Aw=!#[.type "dict",none,.dict (List.toArray [#[oY,Value.str "cut" rY,Value.ref lg],#[oX,Value.str "fix" rX,Value.ref kZ],#[oW,Value.str "off" rW,Value.ref kY],#[oV,Value.str "mark" rV,Value.ref kX],#[oU,Value.str "strike" rT,Value.ref kW],#[oS,Value.str "year" oQ,Value.ref kU]]) Um,(List.toArray [])])(yt:K.lookup lg=!#[.type "tuple",none,.seq (List.toArray [Value.str "side" qN]) yj,yd])(yq:K.lookup kZ=!#[.type "tuple",none,.seq (List.toArray [Value.str "number" qL]) yi,yc])(yp:K.lookup kY=!#[.type "tuple",none,.seq (List.toArray [Value.str "number" qK]) yh,yb])(yo:K.lookup kX=!#[.type "tuple",none,.seq (List.toArray [Value.str "side" qJ,Value.str "number" qI,Value.str "number" qH]) yg,ya])(yn:K.lookup kW=!#[.type "tuple",none,.seq (List.toArray [Value.str "number" qG,Value.str "number" qE]) yf,xZ])(ym:K.lookup kU=!#[.type "tuple",none,.seq (List.toArray [Value.str "number" qD]) ye,xY])(sZ:oY=PyData.keyHash w.params "cut")(sY:oX=PyData.keyHash w.params "fix")(sX:oW=PyData.keyHash w.params "off")(sW:oV=PyData.keyHash w.params "mark")(sV:oU=PyData.keyHash w.params "strike")(sU:oS=PyData.keyHash w.params "year")(Ul:(Aw==sysModules)=false)
  : ∃fd:FuncData,(∀(s:Shared) (v:Value),BindsTo s fd #[[v],[]] [("_law_script",v)])/\∀base:Heap,K.In base->base.Ns mainGlobals mg->gK l.prog w K mg base (gF l.prog w) 82 fa fd ["_law_script"] (rE exc K 1 (c9 T 40 11)):=by
 let A:pw w K mg c0 T:=by
  show bJ0 I tx X G (λx d hx=>?_) (λx kvs hx=>?_)
  .let hm:=aS hx;simp only[c0,con,List.mem_cons,List.mem_nil_iff,or_false] at hm;rcases hm with z|z|z|z|z|z|z|z
   .cases z;show#[(.int 7),_,bL X G e0,#[_,rfl],λy y=>.int _]
   .cases z;show#[(.int 99),_,bL X G e1,#[_,rfl],λy y=>.int _]
   .cases z;show#[(.int 9999),_,bL X G e2,#[_,rfl],λy y=>.int _]
   .cases z;show#[.ref EV,_,bL X G e3,rfl,λy y=>.tup (vs:=[.str "lower",.str "upper"]) (.inr #[_,_,_,UK,rfl,rfl,rfl,(by change 2<=sizeLine;decide),.cons #[_,rfl] (.cons #[_,rfl] (.nil))]) (.cons (.str _) (.cons (.str _) (.nil)))]
   .cases z;show#[(.int 9),_,bL X G e4,#[_,rfl],λy y=>.int _]
   .cases z;show#[(.int 200),_,bL X G e5,#[_,rfl],λy y=>.int _]
   .cases z;show#[(.str "0123456789"),_,bL X G e6,#[_,rfl],λy y=>.str _]
   .cases z;show#[(.int 4),_,bL X G e7,#[_,rfl],λy y=>.int _]
  .let hm:=aS hx;simp only[c0,gd,List.mem_cons,List.mem_nil_iff,or_false] at hm;let z:=hm
   .cases z;let er:vz [#[oY,Value.str "cut" rY,Value.ref lg],#[oX,Value.str "fix" rX,Value.ref kZ],#[oW,Value.str "off" rW,Value.ref kY],#[oV,Value.str "mark" rV,Value.ref kX],#[oU,Value.str "strike" rT,Value.ref kW],#[oS,Value.str "year" oQ,Value.ref kU]] [("cut",.ref lg),("fix",.ref kZ),("off",.ref kY),("mark",.ref kX),("strike",.ref kW),("year",.ref kU)]:=.cons (v:=.ref lg) rfl (.cons (v:=.ref kZ) rfl (.cons (v:=.ref kY) rfl (.cons (v:=.ref kX) rfl (.cons (v:=.ref kW) rfl (.cons (v:=.ref kU) rfl (.nil))))));show#[Aw,_,bL X G g0,#[_,_,Uo,#[#[_,_,rfl,sZ],#[#[_,_,rfl,sY],#[#[_,_,rfl,sX],#[#[_,_,rfl,sW],#[#[_,_,rfl,sV],#[#[_,_,rfl,sU],True.intro]]]]]],Ul,λx=>er.find x],.cons (λy y=>.tup (vs:=[.str "side"]) (.inr #[_,_,_,yt,rfl,rfl,rfl,(by change 1<=sizeLine;decide),.cons #[_,rfl] (.nil)]) (.cons (.str _) (.nil))) (.cons (λy y=>.tup (vs:=[.str "number"]) (.inr #[_,_,_,yq,rfl,rfl,rfl,(by change 1<=sizeLine;decide),.cons #[_,rfl] (.nil)]) (.cons (.str _) (.nil))) (.cons (λy y=>.tup (vs:=[.str "number"]) (.inr #[_,_,_,yp,rfl,rfl,rfl,(by change 1<=sizeLine;decide),.cons #[_,rfl] (.nil)]) (.cons (.str _) (.nil))) (.cons (λy y=>.tup (vs:=[.str "side",.str "number",.str "number"]) (.inr #[_,_,_,yo,rfl,rfl,rfl,(by change 3<=sizeLine;decide),.cons #[_,rfl] (.cons #[_,rfl] (.cons #[_,rfl] (.nil)))]) (.cons (.str _) (.cons (.str _) (.cons (.str _) (.nil))))) (.cons (λy y=>.tup (vs:=[.str "number",.str "number"]) (.inr #[_,_,_,yn,rfl,rfl,rfl,(by change 2<=sizeLine;decide),.cons #[_,rfl] (.cons #[_,rfl] (.nil))]) (.cons (.str _) (.cons (.str _) (.nil)))) (.cons (λy y=>.tup (vs:=[.str "number"]) (.inr #[_,_,_,ym,rfl,rfl,rfl,(by change 1<=sizeLine;decide),.cons #[_,rfl] (.nil)]) (.cons (.str _) (.nil))) (.nil))))))]
 let#[f,fd,O,a,t]:=Oo I tx _ (aY (i:=38) rfl);cases Ta.symm.trans (bL X G a);let#[oc,od,kV,doc,pm,an,fc,ct,jE,rfl,lk,jX]:=O.fn.ex;show#[_,λs v=>.of_eq rfl,λbase lU rZ=>ZN lU rZ A 40 11 _ _ fa _ rfl O]
def walk{l:PySem.W.OpenLaw}{q:Program}{loose:@&Str}{XP:(Str->Option Value)->Heap->Prop}{YP:World->Heap->Prop}{d:DefRec}{K:Params->PySem.W.Frag}(hn:l.most=!63)(xM:d.params.defaults=[])(hY:∀(w:World) (h:Heap),YP w h->(K w.params).In h)(F:∀ (w:World) (mg:Str->Option Value) (fa:Addr) (h:Heap),(K w.params).In h->h.Ns mainGlobals mg->mg d.name=!.ref fa ->
   ∃ fd:FuncData,(∀ (s:Shared) (u:Value),BindsTo s fd #[[u],[]] [("_law_script",u)])/\∀ base:Heap,(K w.params).In base->base.Ns mainGlobals mg->gK l.prog w (K w.params) mg base (gF l.prog w) 82 fa fd ["_law_script"] (rE exc (K w.params) 1 (c9 T 40 11))) :
  PySem.W.WalkO q loose XP YP l.row.toRowW d [] (λf vs=>PySem.call f vs) :=
 L2.Ws (n:=63) (k:=82) (x:="_law_script") (CX:=λw=>gF l.prog w) (sp:=λw=>rE exc (K w.params) 1 (c9 T 40 11)) hn ∅ xM #[rfl,by decide,by decide] hY F (λw H a ns hl hO hS=>bS9 hO hS (WY (k:=28) #[#[#[#[#[rfl,rfl],rfl,rfl,rfl,rfl,rfl,rfl,rfl,rfl,rfl,rfl,rfl,rfl,rfl,rfl],rfl,rfl,rfl,rfl,rfl,rfl,rfl],rfl,rfl,rfl,rfl,rfl,rfl],#[rfl,rfl,rfl,rfl,rfl,rfl],#[rfl,rfl,rfl,rfl,rfl,rfl,rfl,rfl],#[rfl,rfl,rfl],rfl,rfl,rfl,rfl,rfl,rfl,rfl,rfl,rfl,rfl,rfl,rfl,rfl,rfl,rfl,rfl])) (by rintro _ _ _ _ _ ⟨_,_,_,_,_,_,_,_,_,z⟩;show z)
end Lk
end _X
open _X
open PySem PySem.W PyProof.Rows
set_option maxRecDepth 100000 in
set_option maxHeartbeats 0 in
theorem PySem.Challenge.cw_trussel_k52_whole_texts_spoilt_holds : PySem.Challenge.rw_trussel_k52_whole_texts_spoilt.Holds := by
 w_on;o_law;k_head;(case hw=>w_witness2)
 k_fill
 refine Lk.walk (l:=PySem.Challenge.rw_trussel_k52_whole_texts_spoilt) rfl rfl (fun w h Y=>PySem.W.kIn_of Y) ?F
 case F =>
  intro w mg fa h KX G hmg
  refine' Lk.all_mk KX G hmg ⟨?zz1,?zz2,?zz3,?zz4,?zz5,?zz6,?zz7,?zz8,?zz9⟩ ?_ ?_ ?_ ?_ ?_ ?_ ?_ ?_ ?_ ?_ ?_ ?_ ?_ ?_ ?_ ?_ ?_ ?_ ?_ ?_ ?_ ?_ ?_ ?_
  (case zz1=>repeat' first | (with_reducible show _=_;k_is) | exact M.PF.nil | apply M.PF.cons)
  (case zz2=>repeat' first | (with_reducible show _=_;k_is) | exact M.PM.nil | apply M.PM.cons)
  (case zz3=>repeat' first | (with_reducible show _=_;(first | k_is | kernel_rfl)) | exact M.PC.nil | apply M.PC.cons)
  (case zz4=>repeat' first | (with_reducible show _=_;k_is) | exact M.PA.nil | apply M.PA.cons)
  (case zz5=>repeat' first | (with_reducible show _=_;k_is) | exact M.PB.nil | apply M.PB.cons)
  (case zz6=>repeat' first | (with_reducible show _=_;first | (with_reducible show PySem.W.excIn _ _ _ _=true;k_exc) | k_is) | exact M.PX.nil | apply M.PX.cons)
  (case zz7=>kernel_rfl)
  (case zz8=>kernel_rfl)
  (case zz9=>intro p hp;cases hp;apply M.BA.of <;> first | (with_reducible show _=_;k_is) | kernel_rfl)
  all_goals try (with_reducible show _=_;k_is)
  all_goals try ((with_reducible show _=_);rfl)
#print axioms PySem.Challenge.cw_trussel_k52_whole_texts_spoilt_holds
