import PyProof.Rows.All
import Wide.All
import OpenK.AllK
import Wide.FinOn
import Lean
import PyProof.EqAt
import PyProof.EqKinds
import PyProof.TupleCall
import PySem.Challenge.RW_trussel_k46_twins_of_cabinets
set_option Elab.async false
set_option linter.all false
set_option maxRecDepth 100000
set_option maxHeartbeats 4000000
set_option genInjectivity false
set_option bootstrap.genMatcherCode false
set_option genSizeOf false
set_option compiler.extract_closed false
set_option compiler.reuse false
local macro_rules|`(def $i:declId $s:optDeclSig $v:declVal)=>`(noncomputable def $i:declId $s:optDeclSig $v:declVal)
open Lean in
local macro_rules|`(universe $i)=>do
 let t<-`(theorem x:True:=⟨⟩)
 let f:=fun (n:Name)=>t.raw.setArg 1 ((t.raw.getArg 1).setArg 1 ((t.raw[1][1]).setArg 0 (mkIdent (.mkStr `PySem.W.Fast s!"tw{Name.hash n}"))))
 return mkNullNode (((`PySem.Challenge.rw_trussel_k46_twins_of_cabinets::`PySem.Challenge.pw_trussel_k46_twins_of_cabinets::[("o",List.range 1053),("env",[41]),("heap",[39,46,1053]),("sts",[49,71,86,101,116,131,146,161,176,191,206,221,236,251,293,365,434,488,570,593,840,922,1007]),("tree",[47,70,85,100,115,130,145,160,175,190,205,220,235,250,292,362,433,487,569,592,757,836,921,1006,1052]),("view",[39])].flatMap fun (x,l)=>l.map fun i=>.mkStr `PySem.Challenge.cw_trussel_k46_twins_of_cabinets_holds s!"{x}_{i}").map f).toArray)
universe x
namespace _X
set_option tactic.hygienic false
local macro_rules|`(#[$xs,*])=>`(⟨$xs,*⟩)
local macro_rules|`(_/$x)=>`(by simpa using $x)
local macro_rules|`(tactic|show $t)=>`(tactic|refine $t)
open Lean in
@[reducible]def pw_:Nat->Term->MacroM (TSyntax `rcasesPat)
 |0,_=>Macro.throwUnsupported
 |n+1,t=>do match t with
  |`(#[$xs,*])=>do let ys<-xs.getElems.mapM (pw_ n);`(rcasesPat|⟨$[$ys:rcasesPat],*⟩)
  |`(⟨$xs,*⟩)=>do let ys<-xs.getElems.mapM (pw_ n);`(rcasesPat|⟨$[$ys:rcasesPat],*⟩)
  |`(_)=>`(rcasesPat|_)
  |`($i:ident)=>`(rcasesPat|$i:ident)
  |_=>Macro.throwUnsupported
open Lean in
@[reducible]def ex_(e:Term)(xs:Array (TSyntax `rcasesPat))(t:TSyntax `tactic):MacroM (TSyntax `tactic):=do
 let n:=xs.size
 let mut t:=t
 if n>1&&n<13 then
  let r<-xs.mapM fun p=>`(rintroPat|$p:rcasesPat)
  let c:TSyntax `tactic<-if e.raw.isIdent then`(tactic|try clear $(⟨e.raw⟩):ident)else`(tactic|skip)
  for i in[0:n]do
   let k:=n-1-i
   let f:=mkIdent (.mkSimple s!"E{k}_{n-k}")
   t<-`(tactic|first|(refine $f ($e :) ?_;$c;rintro $r*)|($t:tactic))
 return t
local macro_rules|`(tactic|let $p:term:=$e)=>do
 let q<-pw_ 9 p
 let x:Array Lean.Term:=match p with|`(#[$xs,*])=>xs.getElems|_=>.empty
 ex_ e (<-x.mapM (pw_ 9)) (<-`(tactic|obtain $q:rcasesPat:=$e))
open Lean in
local macro_rules|`(tactic|rintro $ps*)=>do
 let mut o:Array (TSyntax `tactic):=.empty
 let mut c:=false
 for p in ps do
  let mut d:TSyntax `tactic<-`(tactic|rintro $p)
  let mut q:=p.raw
  -- (p) is p
  for _ in [0:9] do
   if q.isOfKind ``Parser.Tactic.rintroPat.one then q:=q[0]
   if q.isOfKind ``Parser.Tactic.rcasesPat.paren&&q[1][1].isNone&&q[1][0][0].getNumArgs==1 then q:=q[1][0][0][0]
  if q.isOfKind ``Parser.Tactic.rcasesPat.tuple then
   let xs:Array Syntax:=q[1].getSepArgs
   if xs.size>1 then
    c:=true
    let ys<-xs.mapM fun x=>`(rcasesPat|($(⟨x⟩):rcasesPatLo))
    let z<-`(z)
    d<-`(tactic|(intro $z:term;$(<-ex_ z ys (<-`(tactic|obtain $(⟨q⟩):rcasesPat:=$z))):tactic))
  o:=o.push d
 if !c then Macro.throwUnsupported
 `(tactic|($[$o:tactic];*))
local macro_rules|`(#[])=>`(by decide +kernel)
local macro_rules|`(#[_])=>`(by simp)
local macro_rules|`(-$x:ident)=>`(($x).length)
local macro_rules|`(!$x)=>`(some $x)
local macro_rules|`(~~~$x)=>`(not $x)
open Lean in
local macro_rules|`(tactic|let $d:letDecl)=>if d.raw[0].isOfKind ``Parser.Term.letIdDecl then`(tactic|have $d:letDecl)else Macro.throwUnsupported
local macro_rules|`(@&$x)=>`(List $x)
local macro_rules|`($s⁻¹)=>`(($s).heap.objs.size)
local macro_rules|`(tactic|exists $t:term)=>`(tactic|(walk_at"";refine $t))
local macro_rules|`(abbrev $i:declId $s:optDeclSig $v:declVal)=>`(noncomputable def $i:declId $s:optDeclSig $v:declVal)
local macro_rules|`(def $i:declId $[$b:bracketedBinder]* :$t $v:declVal)=>if t.raw.isOfKind `Lean.Parser.Term.prop||[`TE,`TT,`TS,`TG,`sy,`TI,`R2,`TA,`St,`TO,`Bool,`Cx,`Nat,`DR,`S,`j6,`qV,`aQ,`D,`Int,`b9,`Hs,`Str].contains t.raw.getId then`(noncomputable def $i:declId $[$b:bracketedBinder]* :$t $v:declVal)else`(theorem $i:declId $[$b:bracketedBinder]* :$t $v:declVal)
section
variable{A0:Sort _}{p q r s t u:Prop}{G:Prop}
def E0_2(h:p/\q)(k:p->q->G):G:=k h.1 h.2
def E0_3(h:p/\q/\r)(k:p->q->r->G):G:=k h.1 h.2.1 h.2.2
def E0_4(h:p/\q/\r/\s)(k:p->q->r->s->G):G:=k h.1 h.2.1 h.2.2.1 h.2.2.2
def E0_5(h:p/\q/\r/\s/\t)(k:p->q->r->s->t->G):G:=k h.1 h.2.1 h.2.2.1 h.2.2.2.1 h.2.2.2.2
def E0_6(h:p/\q/\r/\s/\t/\u)(k:p->q->r->s->t->u->G):G:=k h.1 h.2.1 h.2.2.1 h.2.2.2.1 h.2.2.2.2.1 h.2.2.2.2.2
end
section
variable{A0:Sort _}{p q r s t:A0->Prop}{G:Prop}
def E1_1(h:∃x,p x)(k:∀x,p x->G):G:=h.elim λx h=>k x h
def E1_2(h:∃x,p x/\q x)(k:∀x,p x->q x->G):G:=h.elim λx h=>k x h.1 h.2
def E1_3(h:∃x,p x/\q x/\r x)(k:∀x,p x->q x->r x->G):G:=h.elim λx h=>k x h.1 h.2.1 h.2.2
def E1_4(h:∃x,p x/\q x/\r x/\s x)(k:∀x,p x->q x->r x->s x->G):G:=h.elim λx h=>k x h.1 h.2.1 h.2.2.1 h.2.2.2
def E1_5(h:∃x,p x/\q x/\r x/\s x/\t x)(k:∀x,p x->q x->r x->s x->t x->G):G:=h.elim λx h=>k x h.1 h.2.1 h.2.2.1 h.2.2.2.1 h.2.2.2.2
end
section
variable{A0 A1:Sort _}{p q r s t u:A0->A1->Prop}{G:Prop}
def E2_1(h:∃x y,p x y)(k:∀x y,p x y->G):G:=h.elim λx h=>h.elim λy h=>k x y h
def E2_2(h:∃x y,p x y/\q x y)(k:∀x y,p x y->q x y->G):G:=h.elim λx h=>h.elim λy h=>k x y h.1 h.2
def E2_3(h:∃x y,p x y/\q x y/\r x y)(k:∀x y,p x y->q x y->r x y->G):G:=h.elim λx h=>h.elim λy h=>k x y h.1 h.2.1 h.2.2
def E2_4(h:∃x y,p x y/\q x y/\r x y/\s x y)(k:∀x y,p x y->q x y->r x y->s x y->G):G:=h.elim λx h=>h.elim λy h=>k x y h.1 h.2.1 h.2.2.1 h.2.2.2
def E2_5(h:∃x y,p x y/\q x y/\r x y/\s x y/\t x y)(k:∀x y,p x y->q x y->r x y->s x y->t x y->G):G:=h.elim λx h=>h.elim λy h=>k x y h.1 h.2.1 h.2.2.1 h.2.2.2.1 h.2.2.2.2
def E2_6(h:∃x y,p x y/\q x y/\r x y/\s x y/\t x y/\u x y)(k:∀x y,p x y->q x y->r x y->s x y->t x y->u x y->G):G:=h.elim λx h=>h.elim λy h=>k x y h.1 h.2.1 h.2.2.1 h.2.2.2.1 h.2.2.2.2.1 h.2.2.2.2.2
end
section
variable{A0 A1 A2:Sort _}{p q r s t u v:A0->A1->A2->Prop}{G:Prop}
def E3_1(h:∃x y z,p x y z)(k:∀x y z,p x y z->G):G:=h.elim λx h=>h.elim λy h=>h.elim λz h=>k x y z h
def E3_2(h:∃x y z,p x y z/\q x y z)(k:∀x y z,p x y z->q x y z->G):G:=h.elim λx h=>h.elim λy h=>h.elim λz h=>k x y z h.1 h.2
def E3_3(h:∃x y z,p x y z/\q x y z/\r x y z)(k:∀x y z,p x y z->q x y z->r x y z->G):G:=h.elim λx h=>h.elim λy h=>h.elim λz h=>k x y z h.1 h.2.1 h.2.2
def E3_4(h:∃x y z,p x y z/\q x y z/\r x y z/\s x y z)(k:∀x y z,p x y z->q x y z->r x y z->s x y z->G):G:=h.elim λx h=>h.elim λy h=>h.elim λz h=>k x y z h.1 h.2.1 h.2.2.1 h.2.2.2
def E3_5(h:∃x y z,p x y z/\q x y z/\r x y z/\s x y z/\t x y z)(k:∀x y z,p x y z->q x y z->r x y z->s x y z->t x y z->G):G:=h.elim λx h=>h.elim λy h=>h.elim λz h=>k x y z h.1 h.2.1 h.2.2.1 h.2.2.2.1 h.2.2.2.2
def E3_6(h:∃x y z,p x y z/\q x y z/\r x y z/\s x y z/\t x y z/\u x y z)(k:∀x y z,p x y z->q x y z->r x y z->s x y z->t x y z->u x y z->G):G:=h.elim λx h=>h.elim λy h=>h.elim λz h=>k x y z h.1 h.2.1 h.2.2.1 h.2.2.2.1 h.2.2.2.2.1 h.2.2.2.2.2
def E3_7(h:∃x y z,p x y z/\q x y z/\r x y z/\s x y z/\t x y z/\u x y z/\v x y z)(k:∀x y z,p x y z->q x y z->r x y z->s x y z->t x y z->u x y z->v x y z->G):G:=h.elim λx h=>h.elim λy h=>h.elim λz h=>k x y z h.1 h.2.1 h.2.2.1 h.2.2.2.1 h.2.2.2.2.1 h.2.2.2.2.2.1 h.2.2.2.2.2.2
end
section
variable{A0 A1 A2 A3:Sort _}{p q r s t u v:A0->A1->A2->A3->Prop}{G:Prop}
def E4_2(h:∃x y z w,p x y z w/\q x y z w)(k:∀x y z w,p x y z w->q x y z w->G):G:=h.elim λx h=>h.elim λy h=>h.elim λz h=>h.elim λw h=>k x y z w h.1 h.2
def E4_3(h:∃x y z w,p x y z w/\q x y z w/\r x y z w)(k:∀x y z w,p x y z w->q x y z w->r x y z w->G):G:=h.elim λx h=>h.elim λy h=>h.elim λz h=>h.elim λw h=>k x y z w h.1 h.2.1 h.2.2
def E4_4(h:∃x y z w,p x y z w/\q x y z w/\r x y z w/\s x y z w)(k:∀x y z w,p x y z w->q x y z w->r x y z w->s x y z w->G):G:=h.elim λx h=>h.elim λy h=>h.elim λz h=>h.elim λw h=>k x y z w h.1 h.2.1 h.2.2.1 h.2.2.2
def E4_5(h:∃x y z w,p x y z w/\q x y z w/\r x y z w/\s x y z w/\t x y z w)(k:∀x y z w,p x y z w->q x y z w->r x y z w->s x y z w->t x y z w->G):G:=h.elim λx h=>h.elim λy h=>h.elim λz h=>h.elim λw h=>k x y z w h.1 h.2.1 h.2.2.1 h.2.2.2.1 h.2.2.2.2
def E4_6(h:∃x y z w,p x y z w/\q x y z w/\r x y z w/\s x y z w/\t x y z w/\u x y z w)(k:∀x y z w,p x y z w->q x y z w->r x y z w->s x y z w->t x y z w->u x y z w->G):G:=h.elim λx h=>h.elim λy h=>h.elim λz h=>h.elim λw h=>k x y z w h.1 h.2.1 h.2.2.1 h.2.2.2.1 h.2.2.2.2.1 h.2.2.2.2.2
def E4_7(h:∃x y z w,p x y z w/\q x y z w/\r x y z w/\s x y z w/\t x y z w/\u x y z w/\v x y z w)(k:∀x y z w,p x y z w->q x y z w->r x y z w->s x y z w->t x y z w->u x y z w->v x y z w->G):G:=h.elim λx h=>h.elim λy h=>h.elim λz h=>h.elim λw h=>k x y z w h.1 h.2.1 h.2.2.1 h.2.2.2.1 h.2.2.2.2.1 h.2.2.2.2.2.1 h.2.2.2.2.2.2
end
section
variable{A0 A1 A2 A3 A4:Sort _}{p q r s t u v:A0->A1->A2->A3->A4->Prop}{G:Prop}
def E5_2(h:∃x y z w i,p x y z w i/\q x y z w i)(k:∀x y z w i,p x y z w i->q x y z w i->G):G:=h.elim λx h=>h.elim λy h=>h.elim λz h=>h.elim λw h=>h.elim λi h=>k x y z w i h.1 h.2
def E5_3(h:∃x y z w i,p x y z w i/\q x y z w i/\r x y z w i)(k:∀x y z w i,p x y z w i->q x y z w i->r x y z w i->G):G:=h.elim λx h=>h.elim λy h=>h.elim λz h=>h.elim λw h=>h.elim λi h=>k x y z w i h.1 h.2.1 h.2.2
def E5_4(h:∃x y z w i,p x y z w i/\q x y z w i/\r x y z w i/\s x y z w i)(k:∀x y z w i,p x y z w i->q x y z w i->r x y z w i->s x y z w i->G):G:=h.elim λx h=>h.elim λy h=>h.elim λz h=>h.elim λw h=>h.elim λi h=>k x y z w i h.1 h.2.1 h.2.2.1 h.2.2.2
def E5_6(h:∃x y z w i,p x y z w i/\q x y z w i/\r x y z w i/\s x y z w i/\t x y z w i/\u x y z w i)(k:∀x y z w i,p x y z w i->q x y z w i->r x y z w i->s x y z w i->t x y z w i->u x y z w i->G):G:=h.elim λx h=>h.elim λy h=>h.elim λz h=>h.elim λw h=>h.elim λi h=>k x y z w i h.1 h.2.1 h.2.2.1 h.2.2.2.1 h.2.2.2.2.1 h.2.2.2.2.2
def E5_7(h:∃x y z w i,p x y z w i/\q x y z w i/\r x y z w i/\s x y z w i/\t x y z w i/\u x y z w i/\v x y z w i)(k:∀x y z w i,p x y z w i->q x y z w i->r x y z w i->s x y z w i->t x y z w i->u x y z w i->v x y z w i->G):G:=h.elim λx h=>h.elim λy h=>h.elim λz h=>h.elim λw h=>h.elim λi h=>k x y z w i h.1 h.2.1 h.2.2.1 h.2.2.2.1 h.2.2.2.2.1 h.2.2.2.2.2.1 h.2.2.2.2.2.2
end
local macro_rules|`(tactic|left)=>`(tactic|walk_at"")
local macro_rules|`(())=>`(by omega)
local macro_rules|`(∅)=>`(by decide)
local macro_rules|`(tactic|omega)=>`(tactic|lia)
open Lean in
local macro_rules|`(universe $n $a*)=>do
 let mut r:=Array.empty
 for k in[0:a.size/2]do r:=r.push (<-`(noncomputable def $(a[2*k]!):ident:=@$(mkIdent (n.getId++a[2*k+1]!.getId))))
 return mkNullNode r
universe PySem BW wpAny_runValue BX wpAny_load BY entryFor_alias BZ Walks.list Cj Calls.Name_function_global Jc evalArgs_none Jd W.hideAll_get Ru wpAny_newList Rv wpAny_attempt Rw W.of_hideAll Rx W.kitx_tuple aD Heap.get?_push_size aR mem_of_lookup ae wpAny_bind ai Heap.get?_push_of_some au wpAny_pure az Heap.lt_size bK Obj.data_mapFields bW Heap.SameBut.update bf Heap.get?_update_self bo wpAny_mono bx wpAny_holding cB wpAny_call_entry cC Heap.get?_update_other cL wpAny_truthy_bool cM wpAny_setState_of cN wpAny_newObj_type cQ codeAny_builtin cT wpAny_Call_Name_kw cv W.mg_of cw W.kia_one dD Heap.size_push dG Obj.isFreed_of_fields dQ wpAny_comprehension_free dR W.cellsFrom_some dS wpAny_setField dU wpAny_isInstance dt wpAny_typeOf dw wpAny_standAt eF wpAny_passesOwn eM plainId_quiet ei call_meets fC F.slot_list_getattribute fK wpAny_callSpecial?_slot fW wpAny_pyIter_list fY isSubtype_type fb wpAny_of_eq fk F.plainAttrs_list gC intKind_is iG tupleKind_room_in1 iJ F.entry_tuple_add iZ F.slot_tuple_add ig codeAny_mono ij F.args_tuple_add_2 jF noFill_tuple_add jR wpAny_rule jS W.plainGet_of jT W.callWith_K0 jV Calls.callWith_builtin jb Calls.call_function_entry kH W.callWith_K kl wpAny_updateSeq km wpAny_execs_nil kn F.slot_dict_itemiterator_iter lC Calls.evalArgs_plain ly wpAny_field lz sizeLine_eq mU seq_tuple_add mV Paired.length nz F.args_tuple_add_2 pC wpAny_pyIter_slot pE wpAny_assign_Name pG Obj.cls_mapFields pJ F.entry_tuple_add sD wpAny_askSetting sE F.slot_tuple_add uK F.slot_dict_items uL F.plainAttrs_dict vV codeAny_of_tree wc Heap.DictOf.new zm W.methodCall_KW zo F.type_list_pop zp F.slot_list_pop zq F.slot_dict_pop
universe Nat Cb pow_le_pow_right Cc eq_of_testBit_eq Ry not_lt aB lt_of_lt_of_le aC le_trans aK ne_of_lt av le_refl bL ne_of_gt bS lt_irrefl cH lt_trans cj zero_le dC le_of_lt eG le_succ fu lt_trichotomy fz lt_or_ge gG one_le_two_pow gH lt_of_le_of_lt gY lt_succ_of_lt gZ le_succ_of_le jh two_pow_pos jr eq_of_beq_eq_true mr lt_succ_self oG testBit_two_pow_sub_one zt or_mod_two_eq_one
universe List Cd mem_erase_of_ne Cf map_id Cg getElem_toArray Ci Pairwise.filter Je replicate_succ Jf mergeSort_perm Jg map_eq_nil_iff Jh flatMap_append RA map_inj_right RB find?_eq_none Rz ne_nil_of_mem aE mem_of_getElem? aF getElem?_append_left aH getElem?_set_ne aJ mem_cons aS size_toArray aU mem_singleton aW getElem?_set_self ag getElem?_map aj getElem?_eq_getElem ak getElem?_eq_some_iff ao length_map ax mem_map bA mem_append bB map_append bC map_map bD map_cons bE length_take bG all_eq_true bO any_eq_true bP mem_cons_of_mem bQ eq_nil_of_length_eq_zero bT mem_append_right ba mem_filter bc getElem?_eq_none bg take_succ bh mem_range br getElem?_append_right bt take_length cJ pairwise_iff_getElem cO mem_iff_getElem? cP filter_append cR getElem?_take_of_lt cS mem_iff_getElem cU pairwise_map cV nodup_append cY map_congr_left cq length_append dA nodup_cons dB find?_cons dI getElem?_range dM lookup_cons dN getElem?_replicate dO filter_cons dh pairwise_cons dk length_filter_le dy getElem?_eq_none_iff dz drop_eq_getElem_cons eI mem_append_left eJ mapM_cons eN isEmpty_iff eO getElem_mem eU getElem_of_mem eV filterMap_cons fA flatMap_cons fB ext_getElem? fL take_append_drop fZ pairwise_append fh append_nil fm length_eq_zero_iff gD set_set gk length_set gp filter_sublist gw filter_eq_self hU reverse_cons hV append_assoc iK nodup_range ik any_cons iq all_cons ja filter_eq_nil_iff ji range_succ kI mem_filterMap kJ mem_cons_self lA getElem_take lB any_eq_false lN eraseIdx_eq_take_drop_succ lj findIdx?_eq_some_iff_getElem mx mem_reverse my mem_flatMap mz length_drop nv of_mem_zip ny filter_map pH length_eraseIdx_of_lt pI getD_eq_getElem?_getD qW exists_mem_of_ne_nil uN pairwise_mergeSort vX take_of_length_le vY pairwise_lt_range vZ length_pos_of_mem wa drop_eq_nil_of_le wb any_map zu length_singleton zw length_replicate zx Pairwise.sublist
universe _root_ aA decide_eq_false aG decide_eq_true aI if_neg aM if_pos aP of_decide_eq_true cX beq_eq_false_iff_ne dJ congrArg de decide_eq_decide dg decide_eq_true_iff fO beq_iff_eq ft decide_eq_true_eq iH decide_eq_false_iff_not
universe Option aO some.inj aa map_eq_some_iff ah bind_eq_some_iff fc isSome_iff_exists gX isSome_map pF ne_none_iff_exists'
universe Bool bH eq_false_iff bj and_eq_true bp eq_iff_iff cu false_ne_true fj or_eq_true pK false_and sG true_and
universe PyProof bU Rows.callWith_type1 cc Rows.slot_tuple_getitem jU Rows.F.entry_set_update_loop uM Rows.boot_tuple vW Rows.boot_list zr Rows.boot_int
universe Array eW length_toList fM getElem_eq_getD js getElem?_toList qZ getElem?_eq_getElem we getElem?_eq_none
universe Int eh toNat_natCast gE zero_add gI emod_lt_of_pos jj emod_nonneg
def Ca:=@Prod.mk.inj
def aX:=@Ne.symm
def dc:=@Sum.inl.inj
def gQ:=@Classical.byContradiction
def qY:=@Decidable.byContradiction
namespace L2
open PySem PySem.Spec PyProof.Rows
variable{xs vs:@&V}{us:@&Value}{H H':Hp}{a b f C dx:Addr}{o:HO}{u:Value}{P:Program}{w:World}{h h' base:Heap}{α:Type}{x m:Str}{e c tg:Expr}{X:Cx}{pi:@&(Addr×Obj)}{σ:St}{s:Shared}{t' i k:Nat}{ch fp:@&Addr}{N ps:@&Str}{M:Model}{A:Around}{E Q:Value->Shared->Prop}{v:V}{t:TA}{ta tb te:TE}{pos pos' p:Pos}{K:PySem.W.Frag}{es:@&Expr}{op:CmpOp}{body:@&Stmt}{r:R2}{fd:FuncData}{CX:oE}{sp:Sp}
noncomputable abbrev Key:=Sum Int Str
abbrev sk:Key->Value->Bool
 |.inl k,v=>Value.isInt k v
 |.inr x,v=>Value.isStrOf x v
abbrev VJ(w:World):Key->Int
 |.inl k=>hashInt k
 |.inr x=>hashStr w x
def v7:∀{k:Key} {v:Value},sk k v=true->(∃i t,k=Sum.inl i/\v=Value.int i t)\/(∃x t,k=Sum.inr x/\v=Value.str x t)
 |.inl i,v,h=>by
  let#[t,e]:=Value.isInt_shape h;show .inl #[i,t,rfl,e]
 |.inr x,v,h=>by
  let#[t,e]:=Value.isStrOf_shape h;show .inr #[x,t,rfl,e]
def Zx(i:Int)(t:Tok):sk (.inl i) (.int i t)=true:=by simp[sk,Value.isInt]
def Zy(x:Str)(t:Tok):sk (.inr x) (.str x t)=true:=by simp[sk,Value.isStrOf]
def bW2(a b:Int):decide ((Sum.inl a:Key)=Sum.inl b)=(a==b):=by
 by_cases e:a=b
 .subst e;simp
 .let h:¬(Sum.inl a:Key)=Sum.inl b:=λq=>e (dc q);rw[aA h];show(cX.mpr e).symm
def bV9(a b:Str):decide ((Sum.inr a:Key)=Sum.inr b)=decide (a=b):=by
 simp
def bW1(a:Int)(b:Str):decide ((Sum.inl a:Key)=Sum.inr b)=false:=aA (λq=>nomatch q)
def bW0(a:Str)(b:Int):decide ((Sum.inr a:Key)=Sum.inl b)=false:=aA (λq=>nomatch q)
abbrev k6(prog:Program)(w:World):PySem.KeyKind prog w Key where
 is:=sk
 hash:=VJ w
 inj:=λv a b ha hb=>by
  rcases v7 ha with⟨i,t,rfl,rfl⟩|⟨x,t,rfl,rfl⟩
  .rcases v7 hb with⟨j,u,rfl,e⟩|⟨y,u,rfl,e⟩
   .injection e with e1 _;rw[e1]
   .exact nomatch e
  .rcases v7 hb with⟨j,u,rfl,e⟩|⟨y,u,rfl,e⟩
   .exact nomatch e
   .injection e with e1 _;rw[e1]
 byValue:=λk v h=>by
  rcases v7 h with⟨i,t,rfl,rfl⟩|⟨x,t,rfl,rfl⟩<;>rfl
 pyHash:=λhv h=>by
  rcases v7 hv with⟨i,t,rfl,rfl⟩|⟨x,t,rfl,rfl⟩
  .exact wpAny_pyHash_int h
  .exact wpAny_pyHash_str h
 eqBool:=λhu hv h=>by
  rcases v7 hu with⟨i,t,rfl,rfl⟩|⟨x,t,rfl,rfl⟩
  .rcases v7 hv with⟨j,u,rfl,rfl⟩|⟨y,u,rfl,rfl⟩
   .rw[bW2] at h;show wpAny_eqBool_int h
   .rw[bW1] at h;show SeqAt.EqAt.int_str i t y u _ _ _ _ h
  .rcases v7 hv with⟨j,u,rfl,rfl⟩|⟨y,u,rfl,rfl⟩
   .rw[bW0] at h;show SeqAt.EqAt.str_int x t j u _ _ _ _ h
   .rw[bV9] at h;show wpAny_eqBool_str h
 «strs»:=λk x t v h=>by
  rcases v7 h with⟨i,u,rfl,e⟩|⟨y,u,rfl,e⟩
  .exact nomatch e
  .injection e with e1 _;subst e1;cases v<;>rfl
def Qq(prog:Program)(w:World)(k:Key)(v:Value):(k6 prog w).is k v=sk k v:=rfl
def GX(prog:Program)(w:World)(i:Int)(t:Tok):(k6 prog w).is (.inl i) (.int i t)=true:=Zx i t
def aX3(prog:Program)(w:World)(x:Str)(t:Tok):(k6 prog w).is (.inr x) (.str x t)=true:=Zy x t
set_option genInjectivity true in
inductive V where
 |bq|bl (b:Bool)|int (i:Int)|str (x:Str)|lZ (b:Array UInt8)|ua (b:UInt64)|ref (a:Addr)|ty (n:String)
 deriving DecidableEq
abbrev RelV:V->Value->Prop
 |.bq,u=>u=Value.none
 |.bl b,u=>u=Value.bool b
 |.int i,u=>∃t,u=Value.int i t
 |.str x,u=>∃t,u=Value.str x t
 |.lZ b,u=>∃t,u=Value.bytes b t
 |.ua b,u=>∃t,u=Value.float b t
 |.ref a,u=>u=Value.ref a
 |.ty n,u=>u=Value.type n
noncomputable abbrev Vals:@&V->@&Value->Prop:=Paired RelV
def Vals.length{xs}{us}(r:Vals xs us):-xs=-us:=mV r
def Vals.get:∀{xs:@&V} {us:@&Value} {i:Nat} {x:V},Vals xs us->xs[i]?=!x->∃u,us[i]?=!u/\RelV x u
 |_,_,_,_,.nil,e=>by simp at e
 |_,_,0,_,.cons r _,e=>by simp at e;subst e;show#[_,rfl,r]
 |_,_,i+1,x,.cons _ t,e=>by
  let#[u,h1,h2]:=Vals.get t (_/e);show#[u,by simpa using h1,h2]
def Vals.set{x}{u}(r:RelV x u):∀{xs:@&V} {us:@&Value} (i:Nat),Vals xs us->Vals (xs.set i x) (us.set i u)
 |_,_,_,.nil=>.nil
 |_,_,0,.cons _ t=>.cons r t
 |_,_,i+1,.cons q t=>.cons q (Vals.set r i t)
def Vals.append{ys}{ws}(h:Vals xs us)(s:Vals ys ws):Vals (xs++ys) (us++ws):=by
 induction h with
 |nil=>show s
 |cons r t ih=>show .cons r ih
def Vals.take:∀{xs:@&V} {us:@&Value} (n:Nat),Vals xs us->Vals (xs.take n) (us.take n)
 |_,_,0,_=>.nil
 |_,_,_+1,.nil=>.nil
 |_,_,n+1,.cons r t=>.cons r (Vals.take n t)
def Vals.drop:∀{xs:@&V} {us:@&Value} (n:Nat),Vals xs us->Vals (xs.drop n) (us.drop n)
 |_,_,0,r=>r
 |_,_,_+1,.nil=>.nil
 |_,_,n+1,.cons _ t=>Vals.drop n t
abbrev K4:Option V->Option Value->Prop
 |some v,!u=>RelV v u
 |none,none=>True
 |_,_=>False
abbrev KV{κ:Type}:@&(κ×V)->@&(κ×Value)->Prop:=Paired λ(p:κ×V) (q:κ×Value)=>p.1=q.1/\RelV p.2 q.2
abbrev kV:Key->V
 |.inl i=>.int i
 |.inr x=>.str x
inductive HO where
 |lst (xs:@&V)
 |tup (xs:@&V)
 |dK (kvs:@&(Key×V))|dT (kvs:@&(List Key×V))
 |set (S:Int->Bool) (n:Nat)
 |ins (C dx:Addr) (fs:@&(Str×V))
 |own (x:Addr)
 |xd (fs:@&(Str×V))
 |met (f x:Addr)
 |mX (lo hi:Int)
 |kd (o:Obj) (u:HO)
 |rj (ps:Array Value)
 |ext (φ:Heap->Prop)
noncomputable abbrev Hp:=Addr->Option HO
abbrev upd(H:Hp)(a:Addr)(o:HO):Hp:=λb=>if b=a then some o else H b
def m4:upd H a o a=!o:=by unfold upd;rw[aM rfl]
def d6(h:b≠a):upd H a o b=H b:=by unfold upd;rw[aI h]
def b43{u}(h:H a=!o)(h':H b=!u)(d:o≠u):a≠b:=by
 intro e;subst e;rw[h] at h';show d (aO h')
def i9(h:H a=!o)(h':H b=none):a≠b:=by
 intro e;simp_all
def V4(h:Heap)(a:Addr)(items:Array Value):Prop:=∃o,h.get? a=!o/\o.cls=.type "tuple"/\(∃n,o.data=.seq items n)/\o.dict=none
def V4.tup{h}{a}{items}(x:V4 h a items):IsTup h a items:=let ⟨o,e,c,d,_⟩:=x;#[o,e,c,d]
def V4.new(h:Heap)(items:Array Value):V4 (h.push { cls:=.type "tuple",data:=.seq items }) h.objs.size items:=#[_,aD _ rfl,rfl,#[_,rfl],rfl]
section
variable(P:Program)(w:World)
abbrev q9(H:Hp)(h:Heap)(a:Addr):HO->Prop
 |.lst xs=>-xs<=sizeLine/\∃(aZ:@&Value) (n:Nat),Vals xs aZ/\h.get? a=some { cls:=.type "list",data:=.seq aZ.toArray n }
 |.tup xs=>-xs<=sizeLine/\∃aZ:@&Value,Vals xs aZ/\V4 h a aZ.toArray
 |.dK kvs=>-kvs<=sizeLine/\(a==sysModules)=false/\∃vs,KV kvs vs/\h.DictOf (k6 P w) a vs
 |.dT kvs=>-kvs<=sizeLine/\(a==sysModules)=false/\∃xs:@&(List Key×Addr×Value),
   Paired (λ(p:@&Key×V) (q:@&Key×Addr×Value)=>p.1=q.1/\H q.2.1=!.tup (p.1.map kV)/\RelV p.2 q.2.2) kvs xs /\
   ∃o es ep,h.get? a=!o/\o.ExactDict/\o.data=.dict es ep/\es.toList=xs.map (entryOfKey (tupleKind (k6 P w)))/\(xs.map (·.1)).Nodup
 |.set S n=>h.SetOf (intKind P w) a S n
 |.ins C dx fs=>H dx=!.own a/\-fs<=1000/\dx≠a/\h.get? a=!PySem.W.instObj C dx /\
   ∃mA,h.Ns1 dx mA/\(∀f,K4 (fs.lookup f) (mA f))/\PySem.Within mA (fs.map (·.1))
 |.own _=>∃o,h.get? a=!o
 |.xd fs=>∃mA,h.Ns1 a mA/\∀f,K4 (fs.lookup f) (mA f)
 |.mX lo hi=>∃t u v,h.get? a=some { cls:=.type "range",data:=.fields (List.toArray [.int lo t,.int hi u,.int 1 v]) }
 |.kd o u=>h.get? a=!o/\q9 H h a u
 |.rj ps=>h.get? a=some { cls:=.none,data:=.fields ps }
 |.met f x=>h.get? a=!PySem.W.methodObj (.ref f) (.ref x)
 |.ext φ=>φ h/\(∃o,h.get? a=!o)/\∀h1 h2:Heap,φ h1->(∀o,h1.get? a=!o->h2.get? a=!o)->φ h2
def gB(H:Hp)(h:Heap):Prop:=∀a o,H a=!o->q9 P w H h a o
end
def q9.lt(x:q9 P w H h a o):a<h.objs.size:=by
 cases o with
 |lst xs=>let#[_,_,_,_,e]:=x;show az e
 |tup xs=>let#[_,_,_,p]:=x;show p.tup.lt
 |dK kvs=>let#[_,_,_,_,o,_,_,e,_]:=x;show az e
 |dT kvs=>let#[_,_,_,_,o,_,_,e,_]:=x;show az e
 |set S n=>let#[o,_,_,_,e,_]:=x;show az e
 |ins C dx fs=>let#[_,_,_,e,_]:=x;show az e
 |own y=>let#[_,e]:=x;show az e
 |xd fs=>let#[_,#[_,_,_,e,_],_]:=x;show az e
 |mX lo hi=>let#[_,_,_,e]:=x;show az e
 |kd ob u=>let#[e,_]:=x;show az e
 |rj ps=>show az (show h.get? a=some _ from x)
 |met f y=>show az (show h.get? a=some _ from x)
 |ext φ=>let#[_,#[_,e],_]:=x;show az e
def Paired.MN{β:Type}{F G:α->β->Prop}{wK}{wJ}(h:Paired F wK wJ)(f:∀a b,F a b->G a b):Paired G wK wJ:=by
 induction h with
 |nil=>show .nil
 |cons r t ih=>show .cons (f _ _ r) ih
def q9.K9(x:q9 P w H h a o)(k:∀b u,(b=a\/H b=!.own a)->h.get? b=!u->h'.get? b=!u)(ho:∀b,H b=!.own a->H' b=!.own a)(ht:∀b xs,H b=!.tup xs->H' b=!.tup xs):q9 P w H' h' a o:=by
 induction o with
 |lst xs=>let#[z,aZ,n,r,e]:=x;show#[z,aZ,n,r,k _ _ (.inl rfl) e]
 |tup xs=>let#[z,aZ,r,ob,e,c]:=x;show#[z,aZ,r,ob,k _ _ (.inl rfl) e,c]
 |dK kvs=>let#[z,y,vs,r,ob,es,ep,e,c]:=x;show#[z,y,vs,r,ob,es,ep,k _ _ (.inl rfl) e,c]
 |dT kvs =>
  let#[z,y,xs,r,ob,es,ep,e,c]:=x;show#[z,y,xs,Paired.MN r λp q z=>#[z.1,ht _ _ z.2.1,z.2.2],ob,es,ep,k _ _ (.inl rfl) e,c]
 |set S n=>let#[ob,es,ep,t,e,c]:=x;show#[ob,es,ep,t,k _ _ (.inl rfl) e,c]
 |ins C dx fs =>
  let#[d,z,ne,e,mA,#[od,es,ep,e2,c],r]:=x;show#[ho _ d,z,ne,k _ _ (.inl rfl) e,mA,#[od,es,ep,k _ _ (.inr d) e2,c],r]
 |own y=>let#[ob,e]:=x;show#[ob,k _ _ (.inl rfl) e]
 |xd fs=>let#[mA,#[od,es,ep,e,c],r]:=x;show#[mA,#[od,es,ep,k _ _ (.inl rfl) e,c],r]
 |mX lo hi=>let#[t,u,v,e]:=x;show#[t,u,v,k _ _ (.inl rfl) e]
 |kd ob u ih=>let#[e,q]:=x;show#[k _ _ (.inl rfl) e,ih q]
 |rj ps =>
  let e:=x;show k a _ (.inl rfl) e
 |met f y =>
  let e:=x;show k a _ (.inl rfl) e
 |ext φ=>let#[p,#[o,e],st]:=x;show#[st _ _ p λo q=>k _ _ (.inl rfl) q,#[o,k _ _ (.inl rfl) e],st]
def gB.lt(x:gB P w H h)(e:H a=!o):a<h.objs.size:=(x a o e).lt
def gB.fresh(x:gB P w H h)(e:h.objs.size<=a):H a=none:=by
 cases q:H a with
 |none=>rfl
 |some u=>show absurd (aB (x.lt q) e) (bS _)
def gB.kept(x:gB P w H h)(k:∀b u,h.get? b=!u->h'.get? b=!u):gB P w H h':=λa o e =>
 (x a o e).K9 (λb u y q=>k b u q) (λy q=>q) λy y q=>q
def gB.laid(x:gB P w H h)(k:∀b u,h.get? b=!u->h'.get? b=!u)(hp:h.objs.size<=a)(new:q9 P w (upd H a o) h' a o):gB P w (upd H a o) h':=λb u e=>by
 let hn:=x.fresh hp;by_cases hb:b=a
 .subst hb;rw[m4] at e;simp_all
 .rw[d6 hb] at e;show(x b u e).K9 (λc v y q=>k c v q) (λc q=>by rw[d6 (i9 q hn)];show q) λc xs q=>by rw[d6 (i9 q hn)];show q
def Rd(H:Hp)(a:Addr)(u:HO):Prop:=H a=!u\/∃o,H a=!.kd o u
def Rd.ok{u}(r:Rd H a u)(x:gB P w H h):q9 P w H h a u:=by
 rcases r with r|⟨o,r⟩
 .exact x a u r
 .let#[_,q]:=x a _ r;show q
abbrev zg:Option HO->Prop
 |some (.lst _)=>True
 |some (.dK _)=>True
 |some (.dT _)=>True
 |some (.set _ _)=>True
 |some (.ins _ _ _)=>True
 |some (.ext _)=>True
 |_=>False
section
variable{x e:Addr}{o':HO}
def gB.write(ok:gB P w H h)(mu:zg (H x))(he:e=x\/H e=!.own x)(k:∀b u,b≠e->h.get? b=!u->h'.get? b=!u)(tM:∃u,h'.get? e=!u)(new:q9 P w (upd H x o') h' x o'):gB P w (upd H x o') h':=λb u q=>by
 let wA:∀c y,H c=!.own y->c≠x:=λc y r z=>by subst z;rw[r] at mu;show mu
 let CJ:∀c xs,H c=!.tup xs->c≠x:=λc xs r z=>by subst z;rw[r] at mu;show mu
 by_cases hb:b=x
 .subst hb;rw[m4] at q;cases q;show new
 .rw[d6 hb] at q;by_cases vd:b=e
  .let q':H b=!.own x:=by
    rcases he with z|z
    .exact absurd (vd.trans z) hb
    .rw[vd];show z
   rw[q] at q';cases q';let#[v,hv]:=tM;show#[v,by rw[vd];show hv]
  .refine(ok b u q).K9 (λc v hc r=>k c v ?_ r) (λc r=>by rw[d6 (wA c b r)];show r) λc xs r=>by rw[d6 (CJ c xs r)];show r
   rcases hc with rfl|hc
   .exact vd
   .rintro rfl;rcases he with z|z
    .exact wA c b hc z
    .rw[hc] at z;cases z;show hb rfl
end
structure Un(fs ex:@&Addr)(H H':Hp)(h h':Heap):Prop where
 keep:∀b o,h.get? b=!o->H b=none->b∉fs->b∉ex->h'.get? b=!o
 slot:∀b o,h.get? b=!o->H b=none->b∈fs->b∉ex->∃sl,h'.get? b=some { o with slots:=sl }
 free:∀b o,h.get? b=!o->H b=none->b∉ex->H' b=none
 there:∀b o,h.get? b=!o->b∉ex->∃o',h'.get? b=!o'
 jc:∀b xs,H b=!.tup xs->H' b=!.tup xs
 iO:∀b o u,H b=!.kd o u->H' b=!.kd o u
 jd:∀b ps,H b=!.rj ps->∃more,H' b=!.rj (ps++more)
section
variable{fs ex:@&Addr}{H1:Hp}{h1:Heap}{x e:Addr}
def Un.any(u:Un fs ex H H1 h h1){ob}(q:h.get? b=!ob)(n:H b=none)(hx:b∉ex):∃sl,h1.get? b=some { ob with slots:=sl }:=by
 by_cases hb:b∈fs
 .exact u.slot b ob q n hb hx
 .exact#[ob.slots,u.keep b ob q n hb hx]
def Un.kept(k:∀b u,h.get? b=!u->h'.get? b=!u):Un fs ex H H h h' :=
 #[λb ob q x x x=>k b ob q,λb ob q x x x=>#[ob.slots,k b ob q],λx x x n x=>n,λb ob q x=>#[ob,k b ob q],λx x q=>q,λx x x q=>q,λx ps q=>#[(List.toArray []),by rw[q];simp]]
def Un.refl:Un fs ex H H h h:=Un.kept λx x q=>q
def Un.laid(k:∀b u,h.get? b=!u->h'.get? b=!u)(hp:h.objs.size<=a)(hn:H a=none):Un fs ex H (upd H a o) h h' where
 keep:=λb u q x x x=>k b u q
 slot:=λb u q x x x=>#[u.slots,k b u q]
 free:=λb u q n x=>by rw[d6 (aK (aB (az q) hp))];show n
 there:=λb u q x=>#[u,k b u q]
 jc:=λb xs q=>by rw[d6 (i9 q hn)];show q
 iO:=λb u xs q=>by rw[d6 (i9 q hn)];show q
 jd:=λb ps q=>#[(List.toArray []),by rw[d6 (i9 q hn),q];simp]
def Un.write(mu:zg (H x))(he:e=x\/H e=!.own x)(k:∀b u,b≠e->h.get? b=!u->h'.get? b=!u)(tM:∃u,h'.get? e=!u):Un fs ex H (upd H x o) h h':=by
 let hx:∀b,H b=none->b≠x:=λb n z=>by subst z;rw[n] at mu;show mu
 let hb:∀b,H b=none->b≠e:=λb n z=>by
  simp_all
 let hm:∀b u,H b=!u->¬zg (!u)->b≠x:=λb u q nm z=>by simp_all
 show #[λb u q n y y=>k b u (hb b n) q,λb u q n y y=>#[u.slots,k b u (hb b n) q],λb u q n y=>by rw [d6 (hx b n)];show n,λb u q y=>?_,
  λb xs q=>by rw [d6 (hm b _ q λz=>z)];show q,λb u xs q=>by rw [d6 (hm b _ q λz=>z)];show q,λb ps q=>#[(List.toArray []),by rw [d6 (hm b _ q λz=>z),q];simp]]
 by_cases vd:b=e
 .simp_all
 .exact#[u,k b u vd q]
end
abbrev pM(h:Heap)(H:Hp):@&Addr:=(List.range h.objs.size).filter λa=>(H a).isSome
abbrev qI(h:Heap)(H:Hp):Heap:=PySem.W.hideAll h (pM h H)
def Zs(h:Heap)(H:Hp):(qI h H).objs.size=h.objs.size:=PySem.W.hideAll_size _ _
def Xt{o}(e:h.get? b=!o)(n:H b=none):(qI h H).get? b=!o :=
 Jd _ e λhm=>by
  let q:=(ba.mp hm).2;rw[n] at q;simp at q
def bH7{o}(e:(qI h H).get? b=!o):h.get? b=!o/\H b=none:=by
 let e':=Rw (pM h H) e;show#[e',?_];cases q:H b with
 |none=>rfl
 |some x =>
  let hm:b∈pM h H:=ba.mpr #[bh.mpr (az e'),by simp[q]];let z:(qI h H).get? b=none:=PySem.W.hideAll_none (pM h H) hm
  simp_all
structure Mod(K:PySem.W.Frag)(mg:Str->Option Value)(base:Heap):Prop where
 nL:K.In base
 glob:base.Ns mainGlobals mg
 blt:∃mb,base.Ns builtinsNs mb/\∀x:Str,x≠"__name__"->mb x=bootBuiltins x
 nolimit:base.NoLimit
structure Cx where
 prog:Program
 w:World
 K:PySem.W.Frag
 mg:Str->Option Value
 base:Heap
 A:Around
 N:@&Str
 dF:Shared
 jN:Hp
 env:Env
 outer:@&Env
 stack:@&Env
 ex:@&Addr
 fn:Str->Bool
 calm:Bool
 pn:@&(Addr×Obj)
 xe:Value->Shared->Prop
 sg:Option (List (Option V)):=none
def Cx.Nd(X:Cx):Prop:=X.N.Nodup/\X.sg=none
abbrev gA(l:@&Env):@&Addr:=l.filterMap (·.frame)
noncomputable abbrev Cx.fs(X:Cx):@&Addr:=gA X.outer
def zb(sc:Scope)(x:Str):Prop:=sc.names.lookup x=!.local\/sc.names.lookup x=!.cell\/sc.names.lookup x=!.free
def Loc(sc:Scope)(x:Str):Prop:=sc.names.lookup x=!.local\/sc.names.lookup x=!.cell
abbrev Look(env:Env)(h:Heap)(m:Str->Option Value)(x:Str)(u:Value):Prop :=
 (env.kindOf x=!.local/\m x=!u)\/((env.kindOf x=!.cell\/env.kindOf x=!.free)/\∃c,env.cells.lookup x=!c/\h.IsCell c (!u))
structure Cx.Ok(X:Cx):Prop where
 mod:Mod X.K X.mg X.base
 kind:X.env.scope.kind=.function
 glob:X.env.globals=mainGlobals
 blt:X.env.builtins=builtinsNs
 above:X.dF.heap.objs.size<=X.env.locals
 inj:∀x y c,X.env.cells.lookup x=!c->X.env.cells.lookup y=!c->x=y
 has:∀x,(X.env.kindOf x=!.cell\/X.env.kindOf x=!.free)->∃c,X.env.cells.lookup x=!c
 iE:∀x c,X.fn x=true->X.env.cells.lookup x=!c->X.dF.heap.objs.size<=c
 hd:X.calm=true->X.A.handled=none
 frames:X.A.frames=!X.stack
 sO:X.stack=X.outer\/(X.stack=X.env::X.outer/\X.env.frame=!X.env.locals)
 xQ:∀b∈X.ex,b≠X.env.locals/\∀x c,X.env.cells.lookup x=!c->c≠b
 bs:∀b o,X.base.get? b=!o->X.dF.heap.get? b=!o/\X.jN b=none
 ou:X.base.objs.size<=X.dF.heap.objs.size
 kO:∀b o,X.base.get? b=!o->b∉X.ex
 lL:∀b∈X.ex,b∉X.fs
 T2:X.dF.heap.FunFrames X.base X.outer
 oZ:∀b∈X.fs,X.jN b=none
structure Inv(X:Cx)(pi:@&(Addr×Obj))(σ:@&(Option V))(H:Hp)(s:Shared):Prop where
 ok:X.Ok
 os:s.os=X.dF.os
 bare:AllBare s.gens
 base:Un X.fs X.ex X.jN H X.dF.heap s.heap
 loc:∃m,s.heap.Ns X.env.locals m/\∀(i:Nat) (x:Str) (v:V),X.N[i]?=!x->σ[i]?=!!v->zb X.env.scope x->∃u,RelV v u/\Look X.env s.heap m x u
 cell:∀x c,X.env.cells.lookup x=!c->∃v,s.heap.IsCell c v
 free:H X.env.locals=none
 eX:∀x c,X.env.cells.lookup x=!c->H c=none
 pin:∀p∈X.pn++pi,s.heap.get? p.1=!p.2/\H p.1=none/\p.1≠X.env.locals/\p.1∉X.fs/\∀v,p.2.data≠.cell v
 bR:gB X.prog X.w H s.heap
 len:σ.length=-X.N
 sg:∀dn,X.sg=!dn->σ=dn
section
variable{σ:@&(Option V)}
def Cx.Ok.Wa(ok:X.Ok){o}(e:X.base.get? b=!o):b∉X.fs:=λhb=>by
 have:=(ok.T2.mem hb).1
 simp_all
def Inv.bs(I:Inv X pi σ H s):∀b o,X.base.get? b=!o->s.heap.get? b=!o/\H b=none:=λb o e =>
 #[I.base.keep b o (I.ok.bs b o e).1 (I.ok.bs b o e).2 (I.ok.Wa e) (I.ok.kO b o e),I.base.free b o (I.ok.bs b o e).1 (I.ok.bs b o e).2 (I.ok.kO b o e)]
def Inv.bk(I:Inv X pi σ H s):∀b o,X.base.get? b=!o->s.heap.get? b=!o:=λb o e=>(I.bs b o e).1
def Inv.mod(I:Inv X pi σ H s):Mod X.K X.mg X.base:=I.ok.mod
def Inv.gN(I:Inv X pi σ H s):X.K.In s.heap:=I.ok.mod.nL.keeps I.bk
def Inv.lt(I:Inv X pi σ H s):X.env.locals<s⁻¹:=let ⟨_,hn,_⟩:=I.loc;hn.lt
def Inv.sz(I:Inv X pi σ H s):X.dF.heap.objs.size<=s⁻¹:=aC I.ok.above (dC I.lt)
def Inv.FE(I:Inv X pi σ H s)(h:s⁻¹<=a):a∉X.fs:=λhb=>by
 let#[_,o,ho,_]:=I.ok.T2.mem hb;show absurd (aB (az ho) (aC I.sz h)) (bS _)
def Inv.ud(I:Inv X pi σ H s):∀x c,X.env.cells.lookup x=!c->c≠X.env.locals:=λx c e z=>by
 let#[v,o,ho,hd]:=I.cell x c e;let#[m,#[o',es,ep,oS,DC,_],_]:=I.loc
 simp_all
def Inv.T2(I:Inv X pi σ H s):s.heap.FunFrames X.base X.outer:=by
 let all:∀(l:@&Env),(∀b∈gA l,b∈X.fs)->X.dF.heap.FunFrames X.base l->s.heap.FunFrames X.base l:=by
  intro l
  induction l with
  |nil=>intro _ _;trivial
  |cons env r ih =>
   intro hs hl;let#[hk,#[L,o,hf,hn,ho,hd],hr]:=hl;let hL:=hs L (by unfold gA;rw[eV,hf];show kJ);let#[sl,e]:=I.base.slot L o ho (I.ok.oZ L hL) hL λz=>I.ok.lL L z hL;show#[hk,#[L,_,hf,hn,e,hd],ih (λb hb=>hs b (by unfold gA;rw[eV,hf];show bP _ hb)) hr]
 show all X.outer (λx hb=>hb) I.ok.T2
def Inv.stack(I:Inv X pi σ H s):s.heap.FunFrames X.base X.stack:=by
 rcases I.ok.sO with e|⟨e,hf⟩
 .rw[e];show I.T2
 .rw[e];let#[m,hn,_]:=I.loc;show .cons (by rw[I.ok.kind];decide) hf hn ?_ I.T2;show Heap.get?_none_of_le (aC I.ok.ou I.ok.above)
def Inv.uJ(I:Inv X pi σ H s):∀b∈gA X.stack,b∈X.env.locals::X.fs:=λb hb=>by
 rcases I.ok.sO with e|⟨e,hf⟩
 .rw[e] at hb;show bP _ hb
 .rw[e] at hb;unfold gA at hb;rw[eV,hf] at hb;show hb
def Inv.AG(I:Inv X pi σ H s):∀b∈gA X.stack,H b=none:=λb hb=>by
 rcases aJ.mp (I.uJ b hb) with e|hb
 .rw[e];show I.free
 .let#[_,o,ho,_]:=I.ok.T2.mem hb;show I.base.free b o ho (I.ok.oZ b hb) λz=>I.ok.lL b z hb
def Inv.step{g':Array GenState}{t':Nat}{d':Drawn}{ch:@&Addr}(I:Inv X pi σ H s)(lW:∀b∈ch,(b∈X.ex\/X.dF.heap.objs.size<=b)/\b≠X.env.locals/\(∀x c,X.env.cells.lookup x=!c->c≠b)/\∀p∈X.pn++pi,p.1≠b)(keep:∀b o,b≠X.env.locals->b∉X.fs->b∉ch->s.heap.get? b=!o->H b=none->h'.get? b=!o)(slot:∀b o,b≠X.env.locals->b∈X.fs->b∉ch->s.heap.get? b=!o->H b=none->∃sl,h'.get? b=some { o with slots:=sl })(free:∀b o,b∉ch->s.heap.get? b=!o->H b=none->H' b=none)(there:∀b o,b∉ch->s.heap.get? b=!o->∃o',h'.get? b=!o')(jc:∀b xs,H b=!.tup xs->H' b=!.tup xs)(iO:∀b o u,H b=!.kd o u->H' b=!.kd o u)(jd:∀b ps,H b=!.rj ps->∃more,H' b=!.rj (ps++more))(ns:∀m,s.heap.Ns X.env.locals m->h'.Ns X.env.locals m)(bR:gB X.prog X.w H' h')(hg:AllBare g') :
  Inv X pi σ H' { s with heap:=h',gens:=g',drawn:=d',toks:=t' }:=by
 let JH:∀b o,X.dF.heap.get? b=!o->b≠X.env.locals:=λb o e=>aK (aB (az e) I.ok.above);let uT:∀b o,X.dF.heap.get? b=!o->b∉X.ex->b∉ch:=λb o e hx hb=>by
  rcases(lW b hb).1 with z|z
  .exact hx z
  .exact absurd (aB (az e) z) (bS _)
 let cellK:∀x c,X.env.cells.lookup x=!c->∀v,s.heap.IsCell c v->h'.IsCell c v:=λx c e v bu=>by
  let#[o,ho,hd]:=bu;let wG:c∉ch:=λz=>(lW c z).2.2.1 x c e rfl;by_cases hc:c∈X.fs
  .let#[sl,q]:=slot c o (I.ud x c e) hc wG ho (I.eX x c e);show#[_,q,hd]
  .exact#[o,keep c o (I.ud x c e) hc wG ho (I.eX x c e),hd]
 show#[I.ok,I.os,hg,#[λb o e n hb hx=>?_,λb o e n hb hx=>?_,λb o e n hx=>?_,λb o e hx=>?_,λb xs e=>jc b xs (I.base.jc b xs e),λb o xs e=>iO b o xs (I.base.iO b o xs e),λb ps e=>?_],?_,λx c e=>?_,?_,λx c e=>?_,λp hp=>?_,bR,I.len,I.sg]
 .exact keep b o (JH b o e) hb (uT b o e hx) (I.base.keep b o e n hb hx) (I.base.free b o e n hx)
 .let#[sl,e1]:=I.base.slot b o e n hb hx;let#[RV,e2]:=slot b _ (JH b o e) hb (uT b o e hx) e1 (I.base.free b o e n hx);show#[RV,e2]
 .let#[o',e1]:=I.base.there b o e hx;show free b o' (uT b o e hx) e1 (I.base.free b o e n hx)
 .let#[o',e1]:=I.base.there b o e hx;show there b o' (uT b o e hx) e1
 .let#[m1,e1]:=I.base.jd b ps e;let#[m2,e2]:=jd b _ e1;show#[m1++m2,by rw[e2,Array.append_assoc]]
 .let#[m,hn,hl]:=I.loc;show#[m,ns m hn,λi x v e1 e2 e3=>?_];let#[u,r,l]:=hl i x v e1 e2 e3;show#[u,r,?_];rcases l with l|⟨k,c,e,z⟩
  .exact .inl l
  .exact .inr #[k,c,e,cellK x c e _ z]
 .let#[v,z]:=I.cell x c e;show#[v,cellK x c e v z]
 .let#[m,#[o,_,_,ho,_],_]:=I.loc;show free _ o (λz=>(lW _ z).2.1 rfl) ho I.free
 .let#[v,o,ho,hd]:=I.cell x c e;show free c o (λz=>(lW c z).2.2.1 x c e rfl) ho (I.eX x c e)
 .let#[e,n,ne,nf,d]:=I.pin p hp;let wG:p.1∉ch:=λz=>(lW p.1 z).2.2.2 p hp rfl;show#[keep p.1 p.2 ne nf wG e n,free p.1 p.2 wG e n,ne,nf,d]
def Inv.un{t'}(I:Inv X pi σ H s)(u:Un X.fs [] H H' s.heap h')(bR:gB X.prog X.w H' h'):Inv X pi σ H' { s with heap:=h',toks:=t' }:=by
 let#[m,#[o,es,ep,ho,r],_]:=id I.loc;let#[sl,hL]:=u.any ho I.free #[_];show I.step (g':=s.gens) (d':=s.drawn) (ch:=[]) (λx z=>nomatch z) (λb o x hb x e n=>u.keep b o e n hb #[_]) (λb o x hb x e n=>u.slot b o e n hb #[_]) (λb o x e n=>u.free b o e n #[_]) (λb o x e=>u.there b o e #[_]) u.jc u.iO u.jd (λm' hm=>by
  let#[o',Al,EX,oS,r']:=hm;rw[ho] at oS;cases oS;show #[_,Al,EX,hL,r']) bR I.bare
def Inv.call{g'}{t'}{d'}(I:Inv X pi σ H s)(u:Un (gA X.stack) ch H H' s.heap h')(bR:gB X.prog X.w H' h')(hg:AllBare g')(lW:∀b∈ch,(b∈X.ex\/X.dF.heap.objs.size<=b)/\b≠X.env.locals/\(∀x c,X.env.cells.lookup x=!c->c≠b)/\∀p∈X.pn++pi,p.1≠b) :
  Inv X pi σ H' { s with heap:=h',gens:=g',drawn:=d',toks:=t' }:=by
 let#[m,#[o,es,ep,ho,r],_]:=id I.loc;let#[sl,hL]:=u.any ho I.free λz=>(lW _ z).2.1 rfl;show I.step lW (λb o hL hb hc e n=>u.keep b o e n (λz=>(aJ.mp (I.uJ b z)).elim hL hb) hc) (λb o y y hc e n=>u.any e n hc) (λb o hc e n=>u.free b o e n hc) (λb o hc e=>u.there b o e hc) u.jc u.iO u.jd (λm' hm=>by
  let#[o',Al,EX,oS,r']:=hm;rw[ho] at oS;cases oS;show #[_,Al,EX,hL,r']) bR hg
def Inv.turned{t'}{it}(I:Inv X pi σ H s)(k:∀b o,b≠it->s.heap.get? b=!o->h'.get? b=!o)(hn:H it=none)(hL:it≠X.env.locals)(h1:it∈X.ex\/X.dF.heap.objs.size<=it)(h2:∀x c,X.env.cells.lookup x=!c->c≠it)(h3:∀p∈X.pn++pi,p.1≠it):Inv X pi σ H { s with heap:=h',toks:=t' }:=by
 let JG:∀b u,H b=!u->b≠it:=λb u e z=>by simp_all
 show I.step (g':=s.gens) (d':=s.drawn) (ch:=[it]) (λb hb=>?_) (λb o y y hc e y=>k b o (λz=>hc (by simp[z])) e) (λb o y y hc e y=>#[o.slots,k b o (λz=>hc (by simp[z])) e]) (λy y y y n=>n)
  (λb o hc e=>#[o,k b o (λz=>hc (by simp[z])) e]) (λy y e=>e) (λy y y e=>e) (λb ps e=>#[(List.toArray []),by rw[e];simp]) (λm hm=>?_) (λb u e=>?_) I.bare
 .let e:b=it:=by simpa using hb
  subst e;show#[h1,hL,h2,h3]
 .let#[o,es,ep,ho,r]:=hm;show#[o,es,ep,k _ o (aX hL) ho,r]
 .refine(I.bR b u e).K9 (λc v hc q=>k c v ?_ q) (λy q=>q) λy y q=>q;rcases hc with z|z
  .rw[z];show JG b u e
  .exact JG c _ z
def Inv.tok(I:Inv X pi σ H s)(t:Nat):Inv X pi σ H { s with toks:=t }:=I.un (h':=s.heap) (t':=t) Un.refl I.bR
def Inv.kept{t'}(I:Inv X pi σ H s)(k:∀b u,s.heap.get? b=!u->h'.get? b=!u):Inv X pi σ H { s with heap:=h',toks:=t' }:=I.un (Un.kept k) (I.bR.kept k)
def Inv.laid{a:Addr}{o:HO}{t':Nat}(I:Inv X pi σ H s)(k:∀b u,s.heap.get? b=!u->h'.get? b=!u)(hp:s⁻¹<=a)(new:q9 X.prog X.w (upd H a o) h' a o) :
  Inv X pi σ (upd H a o) { s with heap:=h',toks:=t' }:=I.un (Un.laid k hp (I.bR.fresh hp)) (I.bR.laid k hp new)
def Inv.write{x e}{o}{t'}(I:Inv X pi σ H s)(mu:zg (H x))(he:e=x\/H e=!.own x)(k:∀b u,b≠e->s.heap.get? b=!u->h'.get? b=!u)(tM:∃u,h'.get? e=!u)(new:q9 X.prog X.w (upd H x o) h' x o):Inv X pi σ (upd H x o) { s with heap:=h',toks:=t' }:=I.un (Un.write mu he k tM) (I.bR.write mu he k tM new)
def Inv.weak{cg}(hs:X.sg=none)(I:Inv X pi σ H s)(hl:-cg=σ.length)(w:∀(i:Nat) v,cg[i]?=!!v->σ[i]?=!!v):Inv X pi cg H s :=
 #[I.ok,I.os,I.bare,I.base,let ⟨m,hn,xf⟩:=I.loc;#[m,hn,λi x v e1 e2 e3=>xf i x v e1 (w i v e2) e3],I.cell,I.free,I.eX,I.pin,I.bR,hl.trans I.len,λy z=>by simp_all]
def Inv.yD{fF}(I:Inv X pi σ H s)(h:∀p∈fF,s.heap.get? p.1=!p.2/\H p.1=none/\p.1≠X.env.locals/\p.1∉X.fs/\∀v,p.2.data≠.cell v):Inv X fF σ H s :=
 #[I.ok,I.os,I.bare,I.base,I.loc,I.cell,I.free,I.eX,λp hp=>(bA.mp hp).elim (λz=>I.pin p (eI _ z)) (h p),I.bR,I.len,I.sg]
def OJ(hN:N.Nodup){j}(a:N[i]?=!x)(b:N[j]?=!x):i=j:=by
 let#[h1,e1]:=ak.mp a;let#[h2,e2]:=ak.mp b;show(List.getElem_inj hN).mp (e1.trans e2.symm)
def GA{Q}(I:Inv X pi σ H s)(hN:X.Nd)(hi:X.N[i]?=!x)(hx:Loc X.env.scope x)(r:RelV v u)(h:∀s',Inv X pi (σ.set i (!v)) H s'->(∃a,Heap.SameBut a s.heap s'.heap/\(a=X.env.locals\/X.env.cells.lookup x=!a))->Q Unit.unit s')(hf:X.fn x=true\/X.env.scope.names.lookup x=!.local:=by first|show .inl rfl|show .inr rfl|assumption):wpAny M A (storeName X.env x u) Q E s:=by
 let#[m,hn,hl]:=id I.loc;let qh:(X.env.scope.kind==.class||(X.env.scope.kind==.module&&X.env.locals != X.env.globals))=false:=by rw[I.ok.kind];rfl
 let xi:i<σ.length:=by rw[I.len];show(ak.mp hi).1
 let ud:=I.ud;let tracked:∀{a:Addr} {h':Heap},(∃o,s.heap.get? a=!o/\H a=none)->Heap.SameBut a s.heap h'->gB X.prog X.w H h':=λ{a h'} ha hs b ob e=>by
  let#[_,_,rH]:=ha;show(I.bR b ob e).K9 (λc w' hc q=>(hs.2 c ?_).trans q) (λt q=>q) λt t q=>q;rintro rfl;rcases hc with rfl|hc
  .rw[rH] at e;cases e
  .rw[rH] at hc;cases hc
 rcases hx with hk|hk
 .refine wpAny_storeName_local hk hn (λh' Tq hs=>?_) qh;let#[oL,_,_,mI,_]:=id hn;show h _ #[I.ok,I.os,I.bare,#[λb o e n hb hx=>?_,λb o e n hb hx=>?_,I.base.free,λb o e hx=>?_,I.base.jc,I.base.iO,I.base.jd],#[_,Tq,λj y v' e1 e2 e3=>?_],λy c e=>?_,I.free,I.eX,λp hp=>?_,tracked #[oL,mI,I.free] hs,by simpa using I.len,λt z=>by rw[hN.2] at z;cases z] #[_,hs,.inl rfl]
  .exact(hs.2 b (aK (aB (az e) I.ok.above))).trans (I.base.keep b o e n hb hx)
  .let#[sl,e1]:=I.base.slot b o e n hb hx;show#[sl,(hs.2 b (aK (aB (az e) I.ok.above))).trans e1]
  .let#[o',e1]:=I.base.there b o e hx;show#[o',(hs.2 b (aK (aB (az e) I.ok.above))).trans e1]
  .by_cases hj:j=i
   .subst hj;rw[hi] at e1;cases e1;rw[aW xi] at e2;cases e2;show#[u,r,.inl #[hk,by simp]]
   .rw[aH (aX hj)] at e2;let#[u',r',q]:=hl j y v' e1 e2 e3;show#[u',r',?_];rcases q with⟨k,e⟩|⟨k,c,e,z⟩
    .refine .inl #[k,?_];have:y≠x:=λe=>hj (OJ hN.1 e1 (e▸hi));simp[this,e]
    .exact .inr #[k,c,e,z.sameBut hs (ud y c e)]
  .let#[w',z]:=I.cell y c e;show#[w',z.sameBut hs (ud y c e)]
  .let#[e,n,ne,nf,d]:=I.pin p hp;show#[(hs.2 p.1 ne).trans e,n,ne,nf,d]
 .let vb:X.fn x=true:=by
   simp_all
  let#[c,hc]:=I.ok.has x (.inl hk);let#[w',z]:=I.cell x c hc;show wpAny_storeName_cell I.ok.kind hk hc z (λh' ni hs=>?_);let#[oc,Dq,Dp]:=id z;show h { s with heap:=h' } #[I.ok,I.os,I.bare,#[λb o e n hb hx=>?_,λb o e n hb hx=>?_,I.base.free,λb o e hx=>?_,I.base.jc,I.base.iO,I.base.jd],#[m,hn.sameBut hs (aX (ud x c hc)),λj y v' e1 e2 e3=>?_],λy c' e=>?_,I.free,I.eX,λp hp=>?_,tracked #[oc,Dq,I.eX x c hc] hs,by simpa using I.len,λt z=>by rw[hN.2] at z;cases z] #[c,hs,.inr hc]
  .exact(hs.2 b (aK (aB (az e) (I.ok.iE x c vb hc)))).trans (I.base.keep b o e n hb hx)
  .let#[sl,e1]:=I.base.slot b o e n hb hx;show#[sl,(hs.2 b (aK (aB (az e) (I.ok.iE x c vb hc)))).trans e1]
  .let#[o',e1]:=I.base.there b o e hx;show#[o',(hs.2 b (aK (aB (az e) (I.ok.iE x c vb hc)))).trans e1]
  .by_cases hj:j=i
   .subst hj;rw[hi] at e1;cases e1;rw[aW xi] at e2;cases e2;show#[u,r,.inr #[.inl hk,c,hc,ni]]
   .rw[aH (aX hj)] at e2;let#[u',r',q]:=hl j y v' e1 e2 e3;show#[u',r',?_];rcases q with q|⟨k,c',e,z'⟩
    .exact .inl q
    .refine .inr #[k,c',e,z'.sameBut hs ?_];rintro rfl;show hj (OJ hN.1 e1 (I.ok.inj _ _ _ e hc▸hi))
  .by_cases vc:c'=c
   .subst vc;show#[_,ni]
   .let#[w2,z2]:=I.cell y c' e;show#[w2,z2.sameBut hs vc]
  .let#[e,n,ne,nf,d]:=I.pin p hp;show#[(hs.2 p.1 ?_).trans e,n,ne,nf,d];intro q;rw[q,Dq] at e;let q':=aO e;show d w' (by rw[<- q'];show Dp)
def Gd{Q}(I:Inv X pi σ H s)(hN:X.Nd)(hi:X.N[i]?=!x)(hx:Loc X.env.scope x)(r:RelV v u)(h:∀s',Inv X pi (σ.set i (!v)) H s'->Q Unit.unit s')(hf:X.fn x=true\/X.env.scope.names.lookup x=!.local:=by first|show .inl rfl|show .inr rfl|assumption):wpAny M A (storeName X.env x u) Q E s :=
 GA I hN hi hx r (λs' I' y=>h s' I') hf
def Inv.Iq{s'}(I:Inv X pi σ H s)(ho:s'.os=s.os)(u:Un (gA X.stack) ch H H' s.heap s'.heap)(bR:gB X.prog X.w H' s'.heap)(hg:AllBare s'.gens)(lW:∀b∈ch,(b∈X.ex\/X.dF.heap.objs.size<=b)/\b≠X.env.locals/\(∀x c,X.env.cells.lookup x=!c->c≠b)/\∀p∈X.pn++pi,p.1≠b):Inv X pi σ H' s':=by
 let#[h',g',d',t',o']:=s';let e:o'=s.os:=ho;subst e;show I.call (g':=g') (t':=t') (d':=d') u bR hg lW
end
noncomputable abbrev XK:=Value->Option Addr->Hp->Prop
noncomputable abbrev St:=@&(Option V)
noncomputable abbrev VK:=V->Hp->Prop
noncomputable abbrev TE:=St->Hp->VK->Prop
noncomputable abbrev TT:=St->Hp->(Bool->Hp->Prop)->Prop
noncomputable abbrev TA:=St->Hp->(List V->Hp->Prop)->Prop
structure Ends where
 nx:St->Hp->Prop
 rt:VK
 bk:St->Hp->Prop:=λ_ _=>False
 ct:St->Hp->Prop:=λ_ _=>False
noncomputable abbrev TS:=Ends->St->Hp->Prop
def EP(X:Cx)(pi:@&(Addr×Obj))(σ:St)(Q:VK)(u:Value)(s':Shared):Prop:=∃v H',Inv X pi σ H' s'/\RelV v u/\Q v H'
def TP(X:Cx)(pi:@&(Addr×Obj))(σ:St)(Q:Bool->Hp->Prop)(b:Bool)(s':Shared):Prop:=∃H',Inv X pi σ H' s'/\Q b H'
def AP(X:Cx)(pi:@&(Addr×Obj))(σ:St)(Q:@&V->Hp->Prop)(us:@&Value)(s':Shared):Prop:=∃vs H',Inv X pi σ H' s'/\Vals vs us/\Q vs H'
abbrev SP(X:Cx)(pi:@&(Addr×Obj))(D:Ends)(f:Flow)(s':Shared):Prop :=
 match f with
 |.next=>∃cg H',Inv X pi cg H' s'/\D.nx cg H'
 |.brk=>∃cg H',Inv X pi cg H' s'/\D.bk cg H'
 |.cont=>∃cg H',Inv X pi cg H' s'/\D.ct cg H'
 |.ret u=>∃v cg H',Inv X pi cg H' s'/\RelV v u/\D.rt v H'
abbrev PE(X:Cx)(e:Expr)(t:TE):Prop :=
 ∀(pi:@&(Addr×Obj)) (s:Shared) (σ:St) (H:Hp) (Q:VK),Inv X pi σ H s->t σ H Q->wpAny (model X.prog X.w) X.A (eval e X.env) (EP X pi σ Q) X.xe s
abbrev PT(X:Cx)(e:Expr)(t:TT):Prop :=
 ∀(pi:@&(Addr×Obj)) (s:Shared) (σ:St) (H:Hp) (Q:Bool->Hp->Prop),Inv X pi σ H s->t σ H Q->wpAny (model X.prog X.w) X.A (isTrue e X.env (eval e X.env)) (TP X pi σ Q) X.xe s
abbrev PW(X:Cx)(e:Expr)(t:TT):Prop :=
 ∀(whole:Sem Value) (pi:@&(Addr×Obj)) (s:Shared) (σ:St) (H:Hp) (Q:Bool->Hp->Prop),Inv X pi σ H s->t σ H Q->wpAny (model X.prog X.w) X.A (isTrue e X.env whole) (TP X pi σ Q) X.xe s
def PW.pt{t}(h:PW X e t):PT X e t:=h _
abbrev PA(X:Cx)(es:@&Expr)(t:TA):Prop :=
 ∀(pos:Pos) (pi:@&(Addr×Obj)) (s:Shared) (σ:St) (H:Hp) (Q:@&V->Hp->Prop),Inv X pi σ H s->t σ H Q->wpAny (model X.prog X.w) X.A (spliced (backTo pos (starEach es X.env))) (AP X pi σ Q) X.xe s
abbrev PS(X:Cx)(st:Stmt)(t:TS):Prop :=
 ∀(pi:@&(Addr×Obj)) (s:Shared) (σ:St) (H:Hp) (D:Ends),Inv X pi σ H s->t D σ H->wpAny (model X.prog X.w) X.A (exec st X.env) (SP X pi D) X.xe s
abbrev jC(X:Cx)(st:@&Stmt)(t:TS):Prop :=
 ∀(pi:@&(Addr×Obj)) (s:Shared) (σ:St) (H:Hp) (D:Ends),Inv X pi σ H s->t D σ H->wpAny (model X.prog X.w) X.A (execs st X.env) (SP X pi D) X.xe s
def cG{t}{Q Q':α->Shared->Prop}(h:wpAny M A t Q E s)(hQ:∀a s,Q a s->Q' a s):wpAny M A t Q' E s:=bo h hQ λy y x=>x
section
def bin{a b}(ha:PE X a ta)(hb:PE X b tb){R:V->V->Hp->Prop}(I:Inv X pi σ H s)(h:ta σ H λx H1=>tb σ H1 λy H2=>R x y H2){Q:α->Shared->Prop}{f:Value->Value->Sem α}(hf:∀v u s2 x y H2,Inv X pi σ H2 s2->RelV x v->RelV y u->R x y H2->wpAny (model X.prog X.w) X.A (f v u) Q X.xe s2) :
  wpAny (model X.prog X.w) X.A (eval a X.env) (λv bI=>wpAny (model X.prog X.w) X.A (eval b X.env) (λu fg=>wpAny (model X.prog X.w) X.A (f v u) Q X.xe fg) X.xe bI) X.xe s:=by
 show cG (ha pi s σ H _ I h) λv s1 bu=>?_;let#[x,H1,I1,r1,q1]:=bu;show cG (hb pi s1 σ H1 _ I1 q1) λu s2 bu=>?_;let#[y,H2,I2,r2,q2]:=bu;show hf v u s2 x y H2 I2 r1 r2 q2
def pz(i:Nat):TE:=λσ H Q=>∃v,σ[i]?=!!v/\Q v H
def tC(v:V):TE:=λx H Q=>Q v H
def Mh(hN:X.N[i]?=!x)(hv:zb X.env.scope x)(hd:(x==("__debug__":Str))=false:=by decide)(mL:(x==("__classdict__":Str))=false:=by decide):PE X (.Name x pos) (pz i):=by
 intro pi s σ H Q I h;let#[v,e,h]:=h;let#[m,hn,hl]:=I.loc;let#[u,r,l]:=hl i x v hN e hv;let fin:EP X pi σ Q u s:=#[v,H,I,r,h]
 rcases l with⟨hk,hm⟩|⟨hk,c,hc,lX⟩
 .exact wpAny_Name (wpAny_loadName_local I.ok.kind hk hn hm fin) hd
 .rcases hk with hk|hk
  .exact wpAny_Name (wpAny_loadName_cell I.ok.kind hk hc lX fin) hd
  .exact wpAny_Name (wpAny_loadName_free I.ok.kind hk hc lX fin mL) hd
def bS4{i j pos}:PE X (.Constant (.int i) j pos) (tC (.int i)):=λx x x H x I h=>wpAny_Constant_int #[.int i,H,I.tok _,#[_,rfl],h]
def b34{b j pos}:PE X (.Constant (.bool b) j pos) (tC (.bl b)):=λx x x H x I h=>Constant_bool #[.bl b,H,I,rfl,h]
def bS2{j pos}:PE X (.Constant .none j pos) (tC .bq):=λx x x H x I h=>Constant_none #[.bq,H,I,rfl,h]
def bR9{x j pos}:PE X (.Constant (.str x) j pos) (tC (.str x)):=λy y y H y I h=>Calls.Constant_str #[.str x,H,I.tok _,#[_,rfl],h]
def Gl(X:Cx)(x:Str):Prop:=X.env.kindOf x=!.globalImplicit
def X3(I:Inv X pi σ H s)(hg:Gl X x)(hm:X.mg x=!u)(h:Q u s)(hd:(x==("__debug__":Str))=false:=by decide):wpAny (model X.prog X.w) X.A (eval (.Name x pos) X.env) Q E s :=
 Cj I.ok.kind hg (Calls.loadGlobal_global (by rw[I.ok.glob];show I.mod.glob.keeps I.bk) hm h) hd
def V1(I:Inv X pi σ H s)(hg:Gl X x)(hm:X.mg x=none)(hv:bootBuiltins x=!u)(h:Q u s)(hn:x≠"__name__":=by decide)(hd:(x==("__debug__":Str))=false:=by decide):wpAny (model X.prog X.w) X.A (eval (.Name x pos) X.env) Q E s:=by
 let#[mb,h1,h2]:=I.mod.blt;show Cj I.ok.kind hg (Calls.loadGlobal_builtin (by rw[I.ok.glob];show I.mod.glob.keeps I.bk) hm (by rw[I.ok.blt];show h1.keeps I.bk) ((h2 x hn).trans hv) h) hd
def QT(hg:Gl X x)(hm:X.mg x=!u)(r:RelV v u)(hd:(x==("__debug__":Str))=false:=by decide):PE X (.Name x pos) (tC v) :=
 λy y y H y I h=>X3 I hg hm #[v,H,I,r,h] hd
def bG6(hg:Gl X x)(hm:X.mg x=none)(hv:bootBuiltins x=!u)(r:RelV v u)(hn:x≠"__name__":=by decide)(hd:(x==("__debug__":Str))=false:=by decide):PE X (.Name x pos) (tC v) :=
 λy y y H y I h=>V1 I hg hm hv #[v,H,I,r,h] hn hd
variable{a b:Expr}
variable{tA zB:TT}{rest:@&Expr}
def WB(t u:TT):TT:=λσ H Q=>t σ H λc H1=>if c=true then u σ H1 Q else Q false H1
def RO(t u:TT):TT:=λσ H Q=>t σ H λc H1=>if c=true then Q true H1 else u σ H1 Q
def WK(t:TT):TT:=λσ H Q=>t σ H λc H1=>Q (~~~c) H1
def bF1(ha:PT X a tA):PW X (.BoolOp .And [a] pos) tA:=by
 intro wh pi s σ H Q I h;show isTrue_and (cG (ha pi s σ H Q I h) λc s1 e=>?_);cases c with
 |true=>show isTrue_and_nil e
 |false=>show e
def bQ7(ha:PT X a tA):PW X (.BoolOp .Or [a] pos) tA:=by
 intro wh pi s σ H Q I h;show isTrue_or (cG (ha pi s σ H Q I h) λc s1 e=>?_);cases c with
 |false=>show isTrue_or_nil e
 |true=>show e
def bQ8(ha:PT X a tA)(hb:PW X (.BoolOp .And (b::rest) pos) zB):PW X (.BoolOp .And (a::b::rest) pos) (WB tA zB):=by
 intro wh pi s σ H Q I h;show isTrue_and (cG (ha pi s σ H _ I h) ?_);rintro c s1 ⟨H1,I1,q1⟩;cases c with
 |true=>show hb wh pi s1 σ H1 Q I1 q1
 |false=>show#[H1,I1,q1]
def b27(ha:PT X a tA)(hb:PW X (.BoolOp .Or (b::rest) pos) zB):PW X (.BoolOp .Or (a::b::rest) pos) (RO tA zB):=by
 intro wh pi s σ H Q I h;show isTrue_or (cG (ha pi s σ H _ I h) ?_);rintro c s1 ⟨H1,I1,q1⟩;cases c with
 |true=>show#[H1,I1,q1]
 |false=>show hb wh pi s1 σ H1 Q I1 q1
def bQ9(ha:PT X a tA):PT X (.UnaryOp .Not a pos) (WK tA):=by
 intro pi s σ H Q I h;show isTrue_not (ha pi s σ H (λc H1=>Q (~~~c) H1) I h)
def b14(ta tb:TE):TE:=λσ H Q=>ta σ H λx H1=>∃c,x=.bl c/\if c=true then tb σ H1 Q else Q (.bl false) H1
def WL(ta tb:TE):TE:=λσ H Q=>ta σ H λx H1=>∃c,x=.bl c/\if c=true then Q (.bl true) H1 else tb σ H1 Q
def b10(ta:TE):TE:=λσ H Q=>ta σ H λx H1=>∃c,x=.bl c/\Q (.bl (~~~c)) H1
def bS0{op}{t}(h:PE X a t):PE X (.BoolOp op [a] pos) t:=λpi s σ H Q I hw=>BoolOp_one (h pi s σ H Q I hw)
def bS7(ha:PE X a ta)(hb:PE X (.BoolOp .And (b::rest) pos) tb):PE X (.BoolOp .And (a::b::rest) pos) (b14 ta tb):=by
 intro pi s σ H Q I h;show BoolOp_and (cG (ha pi s σ H _ I h) λv s1 bu=>?_);let#[x,H1,I1,r1,q1]:=bu;let#[c,rfl,q1]:=q1;cases r1;show cL ?_;cases c with
 |true=>show hb pi s1 σ H1 Q I1 q1
 |false=>show#[.bl false,H1,I1,rfl,q1]
def b31(ha:PE X a ta)(hb:PE X (.BoolOp .Or (b::rest) pos) tb):PE X (.BoolOp .Or (a::b::rest) pos) (WL ta tb):=by
 intro pi s σ H Q I h;show BoolOp_or (cG (ha pi s σ H _ I h) λv s1 bu=>?_);let#[x,H1,I1,r1,q1]:=bu;let#[c,rfl,q1]:=q1;cases r1;show cL ?_;cases c with
 |false=>show hb pi s1 σ H1 Q I1 q1
 |true=>show#[.bl true,H1,I1,rfl,q1]
def bS1(ha:PE X a ta):PE X (.UnaryOp .Not a pos) (b10 ta):=by
 intro pi s σ H Q I h;show UnaryOp_ (cG (ha pi s σ H _ I h) λv s1 bu=>?_);let#[x,H1,I1,r1,q1]:=bu;let#[c,rfl,q1]:=q1;cases r1;show not_of (cL #[.bl (~~~c),H1,I1,rfl,q1])
def RP(t:TT)(ta tb:TE):TE:=λσ H Q=>t σ H λc H1=>if c=true then ta σ H1 Q else tb σ H1 Q
def XU(hc:PT X c tA)(ha:PE X a ta)(hb:PE X b tb):PE X (.IfExp c a b pos) (RP tA ta tb):=by
 intro pi s σ H Q I h;show wpAny_IfExp (cG (hc pi s σ H _ I h) ?_);rintro d s1 ⟨H1,I1,q1⟩;cases d with
 |true=>show ha pi s1 σ H1 Q I1 q1
 |false=>show hb pi s1 σ H1 Q I1 q1
end
abbrev fJ(K:PySem.W.Frag)(H:Hp)(a:Addr)(xs:@&V):Prop :=
 Rd H a (.lst xs) \/
  ∃(o:Obj) (aZ:Array Value) (n:Nat),K.lookup a=!o/\o.cls=.type "list"/\o.dict=none/\o.data=.seq aZ n/\aZ.size<=sizeLine/\Vals xs aZ.toList
abbrev iR(K:PySem.W.Frag)(H:Hp)(a:Addr)(xs:@&V):Prop :=
 Rd H a (.tup xs) \/
  ∃(o:Obj) (aZ:Array Value) (n:Nat),K.lookup a=!o/\o.cls=.type "tuple"/\o.data=.seq aZ n/\aZ.size<=sizeLine/\Vals xs aZ.toList
abbrev Vl:Value->Option V
 |.none=>!.bq
 |.bool b=>!.bl b
 |.int i _=>!.int i
 |.str x _=>!.str x
 |.bytes b _=>!.lZ b
 |.float b _=>!.ua b
 |.ref a=>!.ref a
 |.type n=>!.ty n
 |_=>none
def RelV.abs{x}(r:RelV x u):Vl u=!x:=by
 cases x with
 |bq=>cases r;rfl
 |bl _=>cases r;rfl
 |int _=>let#[t,rfl]:=r;rfl
 |str _=>let#[t,rfl]:=r;rfl
 |lZ _=>let#[t,rfl]:=r;rfl
 |ua _=>let#[t,rfl]:=r;rfl
 |ref _=>cases r;rfl
 |ty _=>cases r;rfl
def RelV.inj{x y}{u}(r:RelV x u)(q:RelV y u):x=y:=aO (r.abs.symm.trans q.abs)
def Vals.inj{xs ys}{us}(h:Vals xs us)(h':Vals ys us):xs=ys:=by
 induction h generalizing ys with
 |nil=>cases h';rfl
 |cons r t ih =>
  cases h' with
  |cons r' t'=>rw[r.inj r',ih t']
section
variable{ys:@&V}
def fJ.of(h:H a=!.lst xs):fJ K H a xs:=.inl (.inl h)
def Inv.list(I:Inv X pi σ H s)(h:fJ X.K H a xs):∃aZ:@&Value,Vals xs aZ/\PlainL s.heap a aZ.toArray/\-xs<=sizeLine:=by
 rcases h with h|⟨o,aZ,n,hk,hc,hd,hs,hz,r⟩
 .let#[z,aZ,n,r,e]:=h.ok I.bR;show#[aZ,r,#[_,n,e,rfl,rfl,rfl],z]
 .refine#[aZ.toList,r,#[o,n,I.gN a o hk,hc,hd,by simpa using hs],?_];let e:=-r
  grind
def Inv.tuple(I:Inv X pi σ H s)(h:iR X.K H a xs):∃aZ:@&Value,Vals xs aZ/\IsTup s.heap a aZ.toArray/\-xs<=sizeLine:=by
 rcases h with h|⟨o,aZ,n,hk,hc,hs,hz,r⟩
 .let#[z,aZ,r,p]:=h.ok I.bR;show#[aZ,r,p.tup,z]
 .refine#[aZ.toList,r,#[o,I.gN a o hk,hc,n,by simpa using hs],?_];let e:=-r;simp only[Array.length_toList] at e;omega
def Inv.FV(I:Inv X pi σ H s)(h:fJ X.K H a xs)(h':fJ X.K H a ys):xs=ys:=by
 let#[aZ,r,#[o,n,e,_,_,d],_]:=I.list h;let#[its',r',#[o',n',e',_,_,d'],_]:=I.list h';rw[e] at e';cases e';rw[d] at d';injection d' with d1 _;have:aZ=its':=by simpa using dJ Array.toList d1
 subst this;show r.inj r'
def Inv.bb5(I:Inv X pi σ H s)(h:iR X.K H a xs)(h':iR X.K H a ys):xs=ys:=by
 let#[aZ,r,#[o,e,_,n,d],_]:=I.tuple h;let#[its',r',#[o',e',_,n',d'],_]:=I.tuple h';rw[e] at e';cases e';rw[d] at d';injection d' with d1 _;have:aZ=its':=by simpa using dJ Array.toList d1
 subst this;show r.inj r'
end
noncomputable abbrev Cx.qR(X:Cx)(E:Value->Shared->Prop):Cx:={ X with xe:=E }
def Cx.Ok.qR{X:Cx}(ok:X.Ok)(E:Value->Shared->Prop):(X.qR E).Ok :=
 #[ok.mod,ok.kind,ok.glob,ok.blt,ok.above,ok.inj,ok.has,ok.iE,ok.hd,ok.frames,ok.sO,ok.xQ,ok.bs,ok.ou,ok.kO,ok.lL,ok.T2,ok.oZ]
def Cx.Ok.HK(ok:(X.qR E).Ok):X.Ok :=
 #[ok.mod,ok.kind,ok.glob,ok.blt,ok.above,ok.inj,ok.has,ok.iE,ok.hd,ok.frames,ok.sO,ok.xQ,ok.bs,ok.ou,ok.kO,ok.lL,ok.T2,ok.oZ]
def Inv.qR(I:Inv X pi σ H s)(E:Value->Shared->Prop):Inv (X.qR E) pi σ H s:=#[I.ok.qR E,I.os,I.bare,I.base,I.loc,I.cell,I.free,I.eX,I.pin,I.bR,I.len,I.sg]
def Inv.HK(I:Inv (X.qR E) pi σ H s):Inv X pi σ H s:=#[I.ok.HK,I.os,I.bare,I.base,I.loc,I.cell,I.free,I.eX,I.pin,I.bR,I.len,I.sg]
section
variable{st:Stmt}{rest:@&Stmt}{t u:TS}
def LC:TS:=λD σ H=>D.nx σ H
def WN(t u:TS):TS:=λD σ H=>t { D with nx:=u D } σ H
def bF3:jC X [] LC:=λ_ _ σ H _ I h=>km #[σ,H,I,h]
def Yh(h1:PS X st t)(h2:jC X rest u):jC X (st::rest) (WN t u):=by
 intro pi s σ H D I h;show wpAny_execs_cons (cG (h1 pi s σ H { D with nx:=u D } I h) λf s1 q=>?_);cases f with
 |next =>
  let#[cg,H',I',q]:=q;show h2 pi s1 cg H' D I' q
 |ret v=>show q
 |brk=>show q
 |cont=>show q
def bF5:PS X (.Pass pos) LC:=λ_ _ σ H _ I h=>wpAny_Pass #[σ,H,I,h]
def Inv.quiet(I:Inv X pi σ H s):interactive X.env=false:=by simp[interactive,I.ok.kind]
def b11(te:TE):TS:=λD σ H=>te σ H λx H1=>D.nx σ H1
def bF6(he:PE X e te)(hs:swapsWith e none pos.line X.env=pure false:=by rfl):PS X (.Expr e pos) (b11 te):=by
 intro pi s σ H D I h;show wpAny_Expr_any (cG (he pi s σ H _ I h) (by rintro v s1 ⟨x,H1,I1,r1,q1⟩;show #[σ,H1,I1,q1])) I.quiet hs
def WM(te:TE):TS:=λD σ H=>te σ H D.rt
def bR1(he:PE X e te):PS X (.Return (!e) pos) (WM te):=by
 intro pi s σ H D I h;show wpAny_Return_some (cG (he pi s σ H _ I h) (by rintro v s1 ⟨x,H1,I1,r1,q1⟩;show #[x,σ,H1,I1,r1,q1]))
def b08:TS:=λD x H=>D.rt .bq H
def bF4:PS X (.Return none pos) b08:=λ_ _ σ H _ I h=>wpAny_Return_none #[.bq,σ,H,I,rfl,h]
def WI(c:TT)(t u:TS):TS:=λD σ H=>c σ H λb H1=>if b=true then t D σ H1 else u D σ H1
def b28{a b}{tc}(hc:PT X c tc)(ha:jC X a t)(hb:jC X b u):PS X (.If c a b pos) (WI tc t u):=by
 intro pi s σ H D I h;show wpAny_If (cG (hc pi s σ H _ I h) ?_);rintro d s1 ⟨H1,I1,q1⟩;cases d with
 |true=>show ha pi s1 σ H1 D I1 q1
 |false=>show hb pi s1 σ H1 D I1 q1
end
noncomputable abbrev TG:=V->St->Hp->(St->Hp->Prop)->Prop
noncomputable abbrev sy:=@&V->St->Hp->(St->Hp->Prop)->Prop
abbrev PG(X:Cx)(target:Expr)(t:TG):Prop :=
 ∀(pi:@&(Addr×Obj)) (s:Shared) (σ:St) (H:Hp) (v:V) (u:Value) (Q:St->Hp->Prop),Inv X pi σ H s->RelV v u->t v σ H Q ->
  wpAny (model X.prog X.w) X.A (assign target X.env u) (λx s'=>∃cg H',Inv X pi cg H' s'/\Q cg H') X.xe s
abbrev zf(X:Cx)(ts:@&Expr)(t:sy):Prop :=
 ∀(pi:@&(Addr×Obj)) (s:Shared) (σ:St) (H:Hp) (vs:@&V) (us:@&Value) (Q:St->Hp->Prop),Inv X pi σ H s->Vals vs us->t vs σ H Q ->
  wpAny (model X.prog X.w) X.A (assignInOrder ((assignEach ts X.env).map (·.2)) us) (λx s'=>∃cg H',Inv X pi cg H' s'/\Q cg H') X.xe s
noncomputable abbrev Ft:=V->V->V->Hp->(Hp->Prop)->Prop
abbrev Fq(X:Cx)(t:Ft):Prop :=
 ∀(pi:@&(Addr×Obj)) (s:Shared) (σ:St) (H:Hp) (o i v:V) (ov iv u:Value) (Q:Hp->Prop),Inv X pi σ H s->RelV o ov->RelV i iv->RelV v u->t o i v H Q ->
  wpAny (model X.prog X.w) X.A (setItem ov iv u) (λx s'=>∃H',Inv X pi σ H' s'/\Q H') X.xe s
noncomputable abbrev IQ:=V->V->Hp->VK->Prop
abbrev Rh(X:Cx)(op:Operator)(t:IQ):Prop :=
 ∀(pi:@&(Addr×Obj)) (s:Shared) (σ:St) (H:Hp) (x y:V) (v u:Value) (Q:VK),Inv X pi σ H s->RelV x v->RelV y u->t x y H Q ->
  wpAny (model X.prog X.w) X.A (inplaceOp op v u) (EP X pi σ Q) X.xe s
def sf(i:Nat):TG:=λv σ H Q=>Q (σ.set i (!v)) H
def QU(hN:X.Nd)(hi:X.N[i]?=!x)(hx:Loc X.env.scope x)(hf:X.fn x=true\/X.env.scope.names.lookup x=!.local:=by first|show .inl rfl|show .inr rfl|assumption):PG X (.Name x pos) (sf i):=by
 intro pi s σ H v u Q I r h;show pE (Gd I hN hi hx r (λs' I'=>#[_,H,I',h]) hf)
def MH:sy:=λvs σ H Q=>vs=[]/\Q σ H
def Le(t:TG)(u:sy):sy:=λvs σ H Q=>∃v r,vs=v::r/\t v σ H λcg H'=>u r cg H' Q
def bF9:zf X [] MH:=by
 intro pi s σ H vs us Q I r h;let#[e,h]:=h;show assignInOrder_nil #[σ,H,I,h]
def X'{t}{u}(h1:PG X e t)(h2:zf X es u)(hs:(assignEach (e::es) X.env).map (·.2)=assign e X.env::(assignEach es X.env).map (·.2):=by rfl):zf X (e::es) (Le t u):=by
 intro pi s σ H vs us Q I r h;let#[v,vr,e1,h]:=h;subst e1;cases r with
 |cons r rr =>
  rw[hs];show assignInOrder_cons (cG (h1 pi s σ H _ _ _ I r h) λx s1 bu=>?_);let#[jm,H1,I1,q1]:=bu;show h2 pi s1 jm H1 _ _ Q I1 rr q1
def Fy(K:PySem.W.Frag)(n:Nat)(t:sy):TG:=λv σ H Q=>∃a xs,v=.ref a/\iR K H a xs/\-xs=n/\t xs σ H Q
def HD{t}{n}(hc:X.calm=true)(h:zf X es t)(hn:(assignEach es X.env).length=n:=by rfl)(fI:(assignEach es X.env).findIdx? (·.1)=none:=by rfl):PG X (.Tuple es k pos) (Fy X.K n t):=by
 intro pi s σ H v u Q I r hw;let#[a,xs,e1,hq,hl,hw]:=hw;subst e1;cases r;let#[aZ,rv,ht,hz]:=I.tuple hq;show assign_Tuple_tuple (I.ok.hd hc) ht (by simp[hn,<- hl,(-rv)]) fI λh' hx=>?_;let I1:=I.kept (t':=s.toks) λb o e=>hx b o (aK (az e)) e;show h pi _ σ H xs _ Q I1 (_/rv) hw
def VD(to ti:TE)(t:Ft):TG:=λv σ H Q=>to σ H λo H1=>ti σ H1 λi H2=>t o i v H2 λH3=>Q σ H3
def bR7{o i}{to ti}{t}(ho:PE X o to)(hi:PE X i ti)(hs:Fq X t)(ha:∀ v,assign (.Subscript o i pos) X.env v=(do
   let ov <- holding [v] (eval o X.env)
   let iv <- holding [v,ov] (eval i X.env)
   standAt pos
   holding [v,ov,iv] (setItem ov iv v)
   release [v,ov,iv] []):=by intro _;rfl):PG X (.Subscript o i pos) (VD to ti t):=by
 intro pi s σ H v u Q I r h;rw[ha];show ae (bx (cG (ho pi s σ H _ I h) λov s1 bu=>?_));let#[x,H1,I1,r1,q1]:=bu;show ae (bx (cG (hi pi s1 σ H1 _ I1 q1) λiv s2 bu=>?_));let#[y,H2,I2,r2,q2]:=bu;show ae (dw (ae (bx (cG (hs pi s2 σ H2 x y v ov iv u _ I2 r1 r2 r q2) ?_))));rintro _ s3 ⟨H3,I3,q3⟩;show wpAny_release #[σ,H3,I3,q3]
def vQ(te:TE)(g:TG):TS:=λD σ H=>te σ H λx H1=>g x σ H1 D.nx
def Mi{g}(he:PE X e te)(hg:PG X tg g)(hs:swapsWithSole [tg] e pos.line X.env=pure false:=by rfl)(hw:swappedStores [tg] e X.env=pure none:=by rfl)(h1:(assignEach [tg] X.env).map (·.2)=[assign tg X.env]:=by rfl):PS X (.Assign [tg] e pos) (vQ te g):=by
 intro pi s σ H D I h;show wpAny_Assign_stores (cG (he pi s σ H _ I h) λv s1 bu=>?_) hs hw;let#[x,H1,I1,r1,q1]:=bu;rw[h1];show cG (hg pi s1 σ H1 x v _ I1 r1 q1) λy s2 q=>q
def HE(hN:X.Nd)(hi:X.N[i]?=!x)(hx:Loc X.env.scope x)(he:PE X e te)(hs:swapsWith e (!.Name x pos') pos.line X.env=pure false:=by rfl)(hf:X.fn x=true\/X.env.scope.names.lookup x=!.local:=by first|show .inl rfl|show .inr rfl|assumption) :
  PS X (.Assign [.Name x pos'] e pos) (vQ te (sf i)):=by
 intro pi s σ H D I h;show wpAny_Assign_Name (cG (he pi s σ H _ I h) λv s1 bu=>?_) hs;let#[y,H1,I1,r1,q1]:=bu;show Gd I1 hN hi hx r1 (λs2 I2=>#[_,H1,I2,q1]) hf
def WC(i:Nat)(te:TE)(ti:IQ):TS:=λD σ H=>∃x,σ[i]?=!!x/\te σ H λy H1=>ti x y H1 λz H2=>D.nx (σ.set i (!z)) H2
def bR4{op}{ti}(hN:X.Nd)(hi:X.N[i]?=!x)(hx:Loc X.env.scope x)(he:PE X e te)(ho:Rh X op ti)(hf:X.fn x=true\/X.env.scope.names.lookup x=!.local:=by first|show .inl rfl|show .inr rfl|assumption) :
  PS X (.AugAssign (.Name x pos') op e pos) (WC i te ti):=by
 intro pi s σ H D I h;let#[v,e1,h]:=h;let#[m,hn,hl]:=I.loc;let sJ:zb X.env.scope x:=by rcases hx with k|k;show .inl k;show .inr (.inl k)
 let#[u,r,l]:=hl i x v hi e1 sJ;show wpAny_AugAssign_Name ?_;let go:wpAny (model X.prog X.w) X.A (eval e X.env) (λw fg=>wpAny (model X.prog X.w) X.A (inplaceOp op u w) (λr dW=>wpAny (model X.prog X.w) X.A (storeName X.env x r) (λt=>SP X pi D .next) X.xe dW) X.xe fg) X.xe s:=by
  show cG (he pi s σ H _ I h) λw s1 bu=>?_;let#[y,H1,I1,r1,q1]:=bu;show cG (ho pi s1 σ H1 v y u w _ I1 r r1 q1) λz s2 bu=>?_;let#[zv,H2,I2,r2,q2]:=bu;show Gd I2 hN hi hx r2 (λs3 I3=>#[_,H2,I3,q2]) hf
 rcases l with⟨hk,hm⟩|⟨hk,c,hc,lX⟩
 .exact wpAny_loadName_local I.ok.kind hk hn hm go
 .rcases hk with hk|hk
  .exact wpAny_loadName_cell I.ok.kind hk hc lX go
  .rcases hx with k|k
   .have:X.env.scope.names.lookup x=!.free:=hk;rw[k] at this;cases this
   .have:X.env.scope.names.lookup x=!.free:=hk;rw[k] at this;cases this
def bM4(c:TT)(tb:TS):TS:=λD σ H=>∃W:Nat->St->Hp->Prop,(∃m,W m σ H)/\∀m σ H,W m σ H ->
 c σ H λb H1=>if b=true then ∃N:St->Hp->Prop,(∀cg H',N cg H'->∃m',m'<m/\W m' cg H')/\tb { D with nx:=N,ct:=N,bk:=D.nx } σ H1 else D.nx σ H1
def Yg{tc}{tb}(hp:PassesOwn (model X.prog X.w) X.A X.env X.xe)(hc:PT X c tc)(hb:jC X body tb):PS X (.While c body [] pos) (bM4 tc tb):=by
 intro pi s σ H D I h;let#[W,#[m0,w0],turn]:=h;show wpAny_While (codeAny_whileLoop (λn s'=>∃cg H',Inv X pi cg H' s'/\W n cg H') ?_ m0 #[σ,H,I,w0]);rintro n s1 ⟨jm,H1,I1,w1⟩;show eF hp (cG (hc pi s1 jm H1 _ I1 (turn n jm H1 w1)) ?_);rintro b s2 ⟨H2,I2,q2⟩;cases b with
 |true =>
  let#[N,hN,q2]:=q2;show eF hp (cG (hb pi s2 jm H2 _ I2 q2) λf s3 q3=>?_);cases f with
  |next =>
   let#[jk,H3,I3,n3]:=q3;let#[m',hm,w3]:=hN jk H3 n3;show#[m',hm,jk,H3,I3,w3]
  |cont =>
   let#[jk,H3,I3,n3]:=q3;let#[m',hm,w3]:=hN jk H3 n3;show#[m',hm,jk,H3,I3,w3]
  |brk=>show q3
  |ret v=>show q3
 |false =>
  show km #[jm,H2,I2,q2]
structure It where
 go:Nat->Hp->Prop
 oH:Nat->Hp->V->Hp->Prop
 stop:Nat->Hp->Prop
abbrev M5(X:Cx)(pi:@&(Addr×Obj))(H:Hp)(b:Addr):Prop :=
 H b=none/\b≠X.env.locals/\b∉X.fs/\(b∈X.ex\/X.dF.heap.objs.size<=b)/\(∀x c,X.env.cells.lookup x=!c->c≠b)/\∀p∈X.pn++pi,p.1≠b
def Inv.pq(I:Inv X pi σ H s)(hb:s⁻¹<=b)(hn:H' b=none):M5 X pi H' b:=by
 show#[hn,bL (aB I.lt hb),I.FE hb,.inr (aC I.sz hb),λx c e z=>?_,λp hp z=>?_]
 .let#[v,q]:=I.cell x c e;show absurd (aB q.lt (by simp_all)) (bS _)
 .exact absurd (aB (az (I.pin p hp).1) (by simp_all)) (bS _)
structure Turn(P:Program)(w:World)(K:PySem.W.Frag)(tg:Expr)(J:It)(fp:@&Addr)(it:Addr)(tn:Nat->Heap->Prop):Prop where
 mem:it∈fp
 obj:∀i h,tn i h->∀b∈fp,∃o,h.get? b=!o/\∀v,o.data≠.cell v
 keep:∀i h h',tn i h->(∀b∈fp,∀o,h.get? b=!o->h'.get? b=!o)->tn i h'
 item:∀(X:Cx),X.prog=P->X.w=w->X.K=K->X.calm=true->∀(i:Nat) (pi:@&(Addr×Obj)) (s:Shared) (σ:St) (H:Hp) (E:Value->Shared->Prop),Inv X pi σ H s->(∀b∈fp,M5 X pi H b)->tn i s.heap->J.go i H ->
  wpAny (model P w) X.A (pyNext (.ref it)) (λr s1=>∃ u,r=!u /\
   wpAny (model P w) X.A (letOwnedTupleGo tg (.ref it) u) (λ_ s2=>∃ x H',Inv X pi σ H' s2/\RelV x u/\J.oH i H x H'/\tn (i + 1) s2.heap/\∀ b ∈ fp,H' b=none) E s1) E s
 done:∀(X:Cx),X.prog=P->X.w=w->X.K=K->X.calm=true->∀(i:Nat) (pi:@&(Addr×Obj)) (s:Shared) (σ:St) (H:Hp) (E:Value->Shared->Prop),Inv X pi σ H s->(∀b∈fp,M5 X pi H b)->tn i s.heap->J.stop i H ->
  wpAny (model P w) X.A (pyNext (.ref it)) (λr s1=>r=none/\Inv X pi σ H s1) E s
 self:∀(A:Around) (i:Nat) (s:Shared) (Q:Value->Shared->Prop) (E:Value->Shared->Prop),tn i s.heap->Q (.ref it) s->wpAny (model P w) A (pyIter (.ref it)) Q E s
noncomputable abbrev TI:=St->Hp->(It->Hp->Prop)->Prop
abbrev Ri(X:Cx)(pi:@&(Addr×Obj))(σ:St)(tg:Expr)(R:It->Hp->Prop)(tB:Value)(s2:Shared):Prop :=
 ∃(it:Addr) (fp:@&Addr) (tn:Nat->Heap->Prop) (J:It) (H':Hp),tB=.ref it/\Inv X pi σ H' s2/\Turn X.prog X.w X.K tg J fp it tn/\tn 0 s2.heap/\(∀b∈fp,M5 X pi H' b)/\R J H'
abbrev PI(X:Cx)(tg iter:Expr)(wi:TI):Prop :=
 ∀(pi:@&(Addr×Obj)) (s:Shared) (σ:St) (H:Hp) (R:It->Hp->Prop),Inv X pi σ H s->wi σ H R ->
  wpAny (model X.prog X.w) X.A (eval iter X.env) (λv s1=>wpAny (model X.prog X.w) X.A (pyIter v) (Ri X pi σ tg R) X.xe s1) X.xe s
def Bp{it}{o}{n}{vs}{Q}(ho:s.heap.get? it=!o)(hc:o.cls=.type n)(hd:o.data=.fields vs)(hn:["enumerate","zip","dict_itemiterator","dict_reverseitemiterator","odict_iterator","itertools.zip_longest","itertools.pairwise"].contains n=false)(hQ:Q Unit.unit s):wpAny M A (letOwnedTupleGo tg (.ref it) u) Q E s:=by
  cases tg<;>first
    |show au hQ
    | (cases u <;> first
        |show au hQ
        | (show ae (BX ho ?_)
           rw[hc,hd];change wpAny M A (if(["enumerate","zip","dict_itemiterator","dict_reverseitemiterator","odict_iterator","itertools.zip_longest","itertools.pairwise"].contains n&&vs[0]?==!rawInt _)=true then _ else _) Q E s;rw[aI (by intro h;rw[hn,pK] at h;cases h)];show au hQ))
abbrev IV(K:PySem.W.Frag)(a:Addr):It :=
 #[λi H=>∃xs x,fJ K H a xs/\xs[i]?=!x,λi H x H'=>H'=H/\∀xs,fJ K H a xs->xs[i]?=!x,λi H=>∃xs,fJ K H a xs/\-xs<=i]
abbrev IU(K:PySem.W.Frag)(a:Addr):It :=
 #[λi H=>∃xs x,iR K H a xs/\xs[i]?=!x,λi H x H'=>H'=H/\∀xs,iR K H a xs->xs[i]?=!x,λi H=>∃xs,iR K H a xs/\-xs<=i]
abbrev zi(lo:Int)(n:Nat):It:=#[λi y=>i<n,λi H x H'=>H'=H/\x=.int (lo+i),λi y=>n<=i]
def bb3(a it:Addr):Turn P w K tg (IV K a) [it] it (λi h=>h.IsListIter it a i) where
 mem:=by simp
 obj:=λi h st b hb=>by
  let e:b=it:=by simpa using hb
  subst e;let#[o,e,c,d]:=st;show#[o,e,λv z=>by simp_all]
 keep:=λi h h' st k=>st.at λo e=>k it #[_] o e
 item:=by
  intro X hP hw hK hc i pi s σ H E I hf st hg;subst hP hw hK;let#[xs,x,hq,hx]:=hg;let#[aZ,rv,p,hz]:=I.list hq;let#[u,hu,ru]:=rv.get hx;let#[f0,f1,f2,f3,f4,f5]:=hf it #[_];show wpAny_pyNext_list_item st p.isList (_/hu) λh' lO sb=>?_;let I1:=I.turned (t':=s.toks) (λb o hb e=>(sb.2 b hb).trans e) f0 f1 f3 f4 f5;let#[o,e,c,d]:=id lO;show#[u,rfl,Bp e c d ∅ #[x,H,I1,ru,#[rfl,λys hy=>by rw[I.FV hy hq];show hx],lO,λb hb=>(hf b hb).1]]
 done:=by
  intro X hP hw hK hc i pi s σ H E I hf st hg;subst hP hw hK;let#[xs,hq,hx]:=hg;let#[aZ,rv,p,hz]:=I.list hq;let#[f0,f1,f2,f3,f4,f5]:=hf it #[_];let hl:=-rv;show wpAny_pyNext_list_end (I.ok.hd hc) st p.isList (by simp;omega) λh' eb=>#[rfl,I.turned (t':=s.toks) (λb o hb e=>eb b o hb e) f0 f1 f3 f4 f5]
 self:=λy y y y y st h=>wpAny_pyIter_listiter st h
def a44(a it:Addr):Turn P w K tg (IU K a) [it] it (λi h=>h.IsTupleIter it a i) where
 mem:=by simp
 obj:=λi h st b hb=>by
  let e:b=it:=by simpa using hb
  subst e;let#[o,e,c,d]:=st;show#[o,e,λv z=>by simp_all]
 keep:=λi h h' st k=>st.at λo e=>k it #[_] o e
 item:=by
  intro X hP hw hK hc i pi s σ H E I hf st hg;subst hP hw hK;let#[xs,x,hq,hx]:=hg;let#[aZ,rv,p,hz]:=I.tuple hq;let#[u,hu,ru]:=rv.get hx;let#[f0,f1,f2,f3,f4,f5]:=hf it #[_];show wpAny_pyNext_tuple_item st (show s.heap.IsTuple a aZ.toArray from p) (_/hu) λh' lO sb=>?_;let I1:=I.turned (t':=s.toks) (λb o hb e=>(sb.2 b hb).trans e) f0 f1 f3 f4 f5;let#[o,e,c,d]:=id lO;show#[u,rfl,Bp e c d ∅ #[x,H,I1,ru,#[rfl,λys hy=>by rw[I.bb5 hy hq];show hx],lO,λb hb=>(hf b hb).1]]
 done:=by
  intro X hP hw hK hc i pi s σ H E I hf st hg;subst hP hw hK;let#[xs,hq,hx]:=hg;let#[aZ,rv,p,hz]:=I.tuple hq;let#[f0,f1,f2,f3,f4,f5]:=hf it #[_];let hl:=-rv;show wpAny_pyNext_tuple_end (I.ok.hd hc) st (show s.heap.IsTuple a aZ.toArray from p) (by simp;omega) λh' eb=>#[rfl,I.turned (t':=s.toks) (λb o hb e=>eb b o hb e) f0 f1 f3 f4 f5]
 self:=λy y y y y st h=>wpAny_pyIter_tupleiter st h
def a46(it:Addr)(lo:Int)(n:Nat):Turn P w K tg (zi lo n) [it] it (λi h=>IsRangeIter h it (lo+(i:Nat)*1) ((n:Int)-(i:Nat)) 1) where
 mem:=by simp
 obj:=λi h st b hb=>by
  let e:b=it:=by simpa using hb
  subst e;show #[_,st,λv z=>by
   let z':Data.fields _=Data.cell v:=z;cases z']
 keep:=λi h h' st k=>k it #[_] _ st
 item:=by
  intro X hP hw hK hc i pi s σ H E I hf st hg;subst hP hw hK;let#[f0,f1,f2,f3,f4,f5]:=hf it #[_];let W:=Walks.range (prog:=X.prog) (w:=X.w) (I.ok.hd hc) it lo 1 n;show W.item i s _ _ hg st λv h' tk hv lO kk=>?_;let#[t,rfl]:=hv;let I1:Inv X pi σ H { s with heap:=h',toks:=tk }:=I.turned (λb o hb e=>kk b o (_/hb) e) f0 f1 f3 f4 f5;show#[_,rfl,Bp lO rfl rfl ∅ #[.int (lo+i),H,I1,#[t,?_],#[rfl,rfl],lO,λb hb=>(hf b hb).1]];rw[Int.mul_one]
 done:=by
  intro X hP hw hK hc i pi s σ H E I hf st hg;subst hP hw hK;let#[f0,f1,f2,f3,f4,f5]:=hf it #[_];show wpAny_pyNext_range_end (I.ok.hd hc) st (by have:n<=i:=hg;omega) λh' eb=>#[rfl,I.turned (t':=s.toks) (λb o hb e=>eb b o hb e) f0 f1 f3 f4 f5]
 self:=λx x x x x st h=>wpAny_pyIter_rangeiter st h
def OR{R}{lo hi}{t u v}{tk}(I:Inv X pi σ H s)(h1:-(2 ^ 62)<=lo)(h2:lo<2 ^ 62)(h3:-(2 ^ 62)<=hi)(h4:hi<2 ^ 62)(q:R (zi lo (hi-lo).toNat) H):wpAny (model X.prog X.w) X.A (pyIter (.ref s⁻¹)) (Ri X pi σ tg R) E { s with heap:=s.heap.push { cls:=.type "range",data:=.fields (List.toArray [.int lo t,.int hi u,.int 1 v]) },toks:=tk }:=by
 show wpAny_pyIter_range (IsRange.new ..) (small_one h1 h2 h3 h4) ?_;let I1:Inv X pi σ H { s with heap:=s.heap.push { cls:=.type "range",data:=.fields (List.toArray [.int lo t,.int hi u,.int 1 v]) },toks:=tk }:=I.kept λb o e=>ai _ e;show #[(s.heap.push { cls:=.type "range",data:=.fields (List.toArray [.int lo t,.int hi u,.int 1 v]) }).objs.size,[(s.heap.push { cls:=.type "range",data:=.fields (List.toArray [.int lo t,.int hi u,.int 1 v]) }).objs.size],_,_,H,rfl,
  I1.kept (t':=tk) λb o e=>ai _ e,a46 _ lo (hi - lo).toNat,?_,λb hb=>?_,q]
 .let e1:lo+((0:Nat):Int)*1=lo:=by simp
  let e2:(((hi-lo).toNat:Nat):Int)-((0:Nat):Int)=Builtin.Range.rangeSize lo hi 1:=by rw[rangeSize_one];split<;>omega
  rw[e1,e2];show aD _ rfl
 .let e:b=(s.heap.push { cls:=.type "range",data:=.fields (List.toArray [.int lo t,.int hi u,.int 1 v]) }).objs.size:=by simpa using hb
  subst e;show I1.pq (av _) (I1.bR.fresh (av _))
def b64(ta:TA):TI:=λσ H R=>ta σ H λvs H1=>∃j:Int,vs=[.int j]/\-(2 ^ 62)<=j/\j<2 ^ 62/\R (zi 0 j.toNat) H1
def b63(ta:TA):TI:=λσ H R=>ta σ H λvs H1=>∃i j:Int,vs=[.int i,.int j]/\(-(2 ^ 62)<=i/\i<2 ^ 62/\-(2 ^ 62)<=j/\j<2 ^ 62)/\R (zi i (j-i).toNat) H1
def ZU{a}{ta}(hg:Gl X "range")(hm:X.mg "range"=none)(ha:PA X [a] ta)(hs:starEach [a] X.env=[(false,eval a X.env)]:=by rfl):PI X tg (.Call (.Name "range" p) [a] [] pos) (b64 ta):=by
 intro pi s σ H R I h;show Call_ (V1 I hg hm boot_range (bU (cG (ha pos pi s σ H _ I h) λus s1 bu=>?_) hs rfl));let#[vs,H1,I1,r1,q1]:=bu;let#[j,e,q1,q2,q]:=q1;subst e;cases r1 with
 |cons r rr =>
  cases rr;let#[t,rfl]:=r;show call_range_1 (OR I1 () () q1 q2 (_/q))
def ZV{a b}{ta}(hg:Gl X "range")(hm:X.mg "range"=none)(ha:PA X [a,b] ta)(hs:starEach [a,b] X.env=[(false,eval a X.env),(false,eval b X.env)]:=by rfl)(iM:starEach [b] X.env=[(false,eval b X.env)]:=by rfl) :
  PI X tg (.Call (.Name "range" p) [a,b] [] pos) (b63 ta):=by
 intro pi s σ H R I h;show Call_ (V1 I hg hm boot_range (bU (cG (ha pos pi s σ H _ I h) λus s1 bu=>?_) (by rw[hs,iM]) (by rw[iM];rfl)));let#[vs,H1,I1,r1,q1]:=bu;let#[i,j,e,#[q1,q2,q3,q4],q]:=q1;subst e;cases r1 with
 |cons r rr =>
  cases rr with
  |cons r' rr =>
   cases rr;let#[t,rfl]:=r;let#[t',rfl]:=r';show call_range_2 (OR I1 q1 q2 q3 q4 q)
def WH(wi:TI)(g:TG)(tb:TS):TS:=λD σ H=>wi σ H λJ H1=>∃W:Nat->Nat->St->Hp->Prop,(∃m,W 0 m σ H1)/\∀i m σ H,W i m σ H ->
 (J.stop i H/\D.nx σ H)\/(J.go i H/\∃N:St->Hp->Prop,(∀cg H',N cg H'->∃m',m'<m/\W (i+1) m' cg H')/\∀x H',J.oH i H x H'->g x σ H' λcE H2=>tb { D with nx:=N,ct:=N,bk:=D.nx } cE H2)
abbrev yq(fp:@&Addr)(h:Heap):@&(Addr×Obj):=fp.filterMap λb=>(h.get? b).map λo=>(b,o)
def GI{o}(hb:b∈fp)(e:h.get? b=!o):(b,o)∈yq fp h:=kI.mpr #[b,hb,by rw[e];rfl]
def ZM{p}(hp:p∈yq fp h):p.1∈fp/\h.get? p.1=!p.2:=by
 let#[b,hb,e]:=kI.mp hp;cases q:h.get? b with
 |none=>simp_all
 |some o =>
  rw[q] at e;let e':=aO e;subst e';show#[hb,q]
def Inv.pinned(I:Inv X pi σ H s)(hf:∀b∈fp,M5 X pi H b)(ho:∀b∈fp,∃o,s.heap.get? b=!o/\∀v,o.data≠.cell v):Inv X (pi++yq fp s.heap) σ H s :=
 I.yD λp hp=>(bA.mp hp).elim (λz=>I.pin p (bT _ z)) λz=>by
  let#[hb,e]:=ZM z;let#[f0,f1,f2,_]:=hf p.1 hb;let#[o,e',d]:=ho p.1 hb;rw[e] at e';cases e';show#[e,f0,f1,f2,d]
def Inv.Ge{pl}(I:Inv X (pi++pl) σ H s):Inv X pi σ H s:=I.yD λp hp=>I.pin p (bT _ (eI _ hp))
def bR2{iter}{wi}{g}{tb}(hp:PassesOwn (model X.prog X.w) X.A X.env X.xe)(hc:X.calm=true)(hi:PI X tg iter wi)(hg:PG X tg g)(hb:jC X body tb)(hs:∀x,foldedSetIterable iter X.env x=pure x:=by intro _;rfl):PS X (.For tg iter body [] pos) (WH wi g tb):=by
 intro pi s σ H D I h;show wpAny_For (cG (hi pi s σ H _ I h) λv s1 h1=>cG h1 λtB s2 h2=>?_) hs;let#[it,fp,tn,J,H2,e,I2,T,jH,f2,W,#[m0,w0],turn]:=h2;subst e;let sP:∀{H':Hp},(∀b∈fp,H' b=none)->∀b∈fp,M5 X pi H' b:=λhn b hb=>#[hn b hb,(f2 b hb).2]
 show codeAny_forLoop_any (λn s'=>∃i cg H',Inv X pi cg H' s'/\tn i s'.heap/\(∀b∈fp,H' b=none)/\W i n cg H') ?_ m0 #[0,σ,H2,I2,jH,λb hb=>(f2 b hb).1,w0];rintro n s3 ⟨i,jk,H3,I3,wk,xO,w3⟩;rcases turn i n jk H3 w3 with⟨stop,qn⟩|⟨go,N,hN,step⟩
 .refine eF hp (cG (T.done X rfl rfl rfl hc i pi s3 jk H3 X.xe I3 (sP xO) wk stop) ?_);rintro r s4 ⟨hr,I4⟩;subst hr;show km #[jk,H3,I4,qn]
 .refine eF hp (cG (T.item X rfl rfl rfl hc i pi s3 jk H3 X.xe I3 (sP xO) wk go) ?_);rintro r s4 ⟨u,hr,h4⟩;subst hr;show eF hp (cG h4 λy s5 bu=>?_);let#[x,H5,I5,r5,y5,sQ,ES]:=bu;let IX:=I5.pinned (sP ES) (T.obj _ _ sQ);show eF hp (cG (hg _ s5 jk H5 x u _ IX r5 (step x H5 y5)) λy s6 bu=>?_);let#[sH,H6,I6,q6]:=bu;show eF hp (cG (hb _ s6 sH H6 _ I6 q6) λf s7 q7=>?_);let again:∀{nA:St} {H7:Hp},Inv X (pi++yq fp s5.heap) nA H7 s7->N nA H7->∃m,m<n/\∃i cg H',Inv X pi cg H' s7/\tn i s7.heap/\(∀b∈fp,H' b=none)/\W i m cg H':=λ{nA H7} I7 n7=>by
   let#[m',hm,w7]:=hN nA H7 n7;show#[m',hm,i+1,nA,H7,I7.Ge,T.keep _ _ _ sQ λb hb o e=>(I7.pin (b,o) (bT _ (bT _ (GI hb e)))).1,λb hb=>?_,w7];let#[o,e,d]:=T.obj _ _ sQ b hb;show(I7.pin (b,o) (bT _ (bT _ (GI hb e)))).2.1
  cases f with
  |next=>let#[nA,H7,I7,n7]:=q7;show again I7 n7
  |cont=>let#[nA,H7,I7,n7]:=q7;show again I7 n7
  |brk=>let#[nA,H7,I7,q7]:=q7;show#[nA,H7,I7.Ge,q7]
  |ret v=>let#[x7,nA,H7,I7,r7,q7]:=q7;show#[x7,nA,H7,I7.Ge,r7,q7]
noncomputable abbrev R2:=V->V->Hp->VK->Prop
abbrev gj(X:Cx)(f:Value->Value->Sem Value)(r:R2):Prop :=
 ∀(pi:@&(Addr×Obj)) (s:Shared) (σ:St) (H:Hp) (x y:V) (v u:Value) (Q:VK),Inv X pi σ H s->RelV x v->RelV y u->r x y H Q ->
  wpAny (model X.prog X.w) X.A (f v u) (EP X pi σ Q) X.xe s
abbrev BQ(X:Cx)(f:Value->Sem Value)(r:V->Hp->VK->Prop):Prop :=
 ∀(pi:@&(Addr×Obj)) (s:Shared) (σ:St) (H:Hp) (x:V) (v:Value) (Q:VK),Inv X pi σ H s->RelV x v->r x H Q ->
  wpAny (model X.prog X.w) X.A (f v) (EP X pi σ Q) X.xe s
abbrev u3(X:Cx)(f:Value)(r:@&V->Hp->VK->Prop):Prop :=
 ∀(pi:@&(Addr×Obj)) (s:Shared) (σ:St) (H:Hp) (xs:@&V) (us:@&Value) (Q:VK),Inv X pi σ H s->Vals xs us->r xs H Q ->
  wpAny (model X.prog X.w) X.A (call f us) (EP X pi σ Q) X.xe s
abbrev Vj(X:Cx)(r:V->Hp->(Bool->Hp->Prop)->Prop):Prop :=
 ∀(pi:@&(Addr×Obj)) (s:Shared) (σ:St) (H:Hp) (x:V) (v:Value) (Q:Bool->Hp->Prop),Inv X pi σ H s->RelV x v->r x H Q ->
  wpAny (model X.prog X.w) X.A (truthy v) (TP X pi σ Q) X.xe s
def rm(r:R2)(ta tb:TE):TE:=λσ H Q=>ta σ H λx H1=>tb σ H1 λy H2=>r x y H2 Q
def RL(r:V->Hp->VK->Prop)(ta:TE):TE:=λσ H Q=>ta σ H λx H1=>r x H1 Q
def rI(C:Int->Int->Prop)(g:Int->Int->V):R2:=λx y H Q=>∃i j,x=.int i/\y=.int j/\C i j/\Q (g i j) H
def mY(g:Int->Int->V):R2:=λx y H Q=>∃i j,x=.int i/\y=.int j/\Q (g i j) H
abbrev rU(g:Int->V):V->Hp->VK->Prop:=λx H Q=>∃i,x=.int i/\Q (g i) H
section
variable{a b:Expr}
def Fx(ha:PE X a ta)(hb:PE X b tb){R:V->V->Hp->Prop}(I:Inv X pi σ H s)(h:ta σ H λx H1=>tb σ H1 λy H2=>R x y H2){f:Value->Value->Sem Value}(hf:∀v u s2 x y H2,Inv X pi σ H2 s2->RelV x v->RelV y u->R x y H2->wpAny (model X.prog X.w) X.A (f v u) Q X.xe s2) :
  wpAny (model X.prog X.w) X.A (eval a X.env) (λv bI=>wpAny (model X.prog X.w) X.A (eval b X.env) (λu fg=>wpAny (model X.prog X.w) X.A (f v u) Q X.xe fg) X.xe bI) X.xe s:=by
 show cG (ha pi s σ H _ I h) λv s1 bu=>?_;let#[x,H1,I1,r1,q1]:=bu;show cG (hb pi s1 σ H1 _ I1 q1) λu s2 bu=>?_;let#[y,H2,I2,r2,q2]:=bu;show hf v u s2 x y H2 I2 r1 r2 q2
def b32{op}(ho:gj X (binaryOp op) r)(ha:PE X a ta)(hb:PE X b tb):PE X (.BinOp a op b pos) (rm r ta tb):=by
 intro pi s σ H Q I h;show wpAny_BinOp (Fx ha hb I h λv u s2 x y H2 I2 rx ry q=>ho pi s2 σ H2 x y v u Q I2 rx ry q)
def b30{op}{r}(ho:BQ X (unaryOp op) r)(ha:PE X a ta):PE X (.UnaryOp op a pos) (RL r ta):=by
 intro pi s σ H Q I h;show UnaryOp_ (cG (ha pi s σ H _ I h) (by rintro v s1 ⟨x,H1,I1,r1,q1⟩;show ho pi s1 σ H1 x v Q I1 r1 q1))
def wy{f:Value->Value->Sem Value}{C:Int->Int->Prop}{g:Int->Int->Int}(rule:∀(i j:Int) (t u:Tok) (s:Shared) (Q:Value->Shared->Prop) (E:Value->Shared->Prop),C i j->Q (.int (g i j) s.toks) { s with toks:=s.toks+1 }->wpAny (model X.prog X.w) X.A (f (.int i t) (.int j u)) Q E s) :
  gj X f (rI C λi j=>.int (g i j)):=by
 intro pi s σ H x y v u Q I rx ry h;let#[i,j,rfl,rfl,hc,q]:=h;let#[t,rfl]:=rx;let#[t',rfl]:=ry;show rule i j t t' s _ _ hc #[.int (g i j),H,I.tok _,#[_,rfl],q]
def vP{f:Value->Value->Sem Value}{g:Int->Int->Int}(rule:∀(i j:Int) (t u:Tok) (s:Shared) (Q:Value->Shared->Prop) (E:Value->Shared->Prop),Q (.int (g i j) s.toks) { s with toks:=s.toks+1 }->wpAny (model X.prog X.w) X.A (f (.int i t) (.int j u)) Q E s) :
  gj X f (mY λi j=>.int (g i j)):=by
 intro pi s σ H x y v u Q I rx ry h;let#[i,j,rfl,rfl,q]:=h;let#[t,rfl]:=rx;let#[t',rfl]:=ry;show rule i j t t' s _ _ #[.int (g i j),H,I.tok _,#[_,rfl],q]
def BL{f:Value->Value->Sem Value}{g:Int->Int->Bool}(rule:∀(i j:Int) (t u:Tok) (s:Shared) (Q:Value->Shared->Prop) (E:Value->Shared->Prop),Q (.bool (g i j)) s->wpAny (model X.prog X.w) X.A (f (.int i t) (.int j u)) Q E s) :
  gj X f (mY λi j=>.bl (g i j)):=by
 intro pi s σ H x y v u Q I rx ry h;let#[i,j,rfl,rfl,q]:=h;let#[t,rfl]:=rx;let#[t',rfl]:=ry;show rule i j t t' s _ _ #[.bl (g i j),H,I,rfl,q]
def Fo(i j:Int):Prop:=0<j/\j<1073741824
def ph(i j:Int):Prop:=0<=j/\j<=1000000/\i.natAbs<2 ^ 64
def ug(i j:Int):Prop:=(-(2 ^ 64)<i/\i<2 ^ 64)\/(-(2 ^ 64)<j/\j<2 ^ 64)
def ug.ok{i j}(h:ug i j):IntMulOk i j:=by
 rcases h with⟨h1,h2⟩|⟨h1,h2⟩
 .exact .of_left (intBits_le_64 h1 h2)
 .exact .of_right (intBits_le_64 h1 h2)
def bU3:gj X (binaryOp .Add) (mY λi j=>.int (i+j)):=vP λx x x x x x x q=>add_int q
def bT3:gj X (binaryOp .Sub) (mY λi j=>.int (i-j)):=vP λx x x x x x x q=>sub_int q
def bT7:gj X (binaryOp .Mult) (rI ug λi j=>.int (i*j)):=wy λx x x x x x x hc q=>mul_int q hc.ok
def bH3:gj X (binaryOp .FloorDiv) (rI Fo λi j=>.int (i / j)):=wy λi j x x x x x hc q=>by
 let h1:=hc.1;let h2:=hc.2;show floordiv_int () (by rw[Int.fdiv_eq_ediv_of_nonneg i ()];show q) (.inl (PyProof.noPylong_small ()))
def bT8:gj X (binaryOp .Mod) (rI (λx j=>0<j) λi j=>.int (i % j)):=wy λi j x x x x x hc q=>by
 show mod_int' () (by rw[Int.fmod_eq_emod_of_nonneg i ()];show q)
def bT6:gj X (binaryOp .Pow) (rI ph λi j=>.int (i ^ j.toNat)):=wy λx x x x x x x hc q=>pow_int_small hc.1 hc.2.1 hc.2.2 q
def bT4:gj X (binaryOp .LShift) (rI ph λi j=>.int (i*2 ^ j.toNat)):=wy λx x x x x x x hc q=>lshift_int_small hc.1 hc.2.1 hc.2.2 q
def bU2:gj X (binaryOp .BitAnd) (mY λi j=>.int (Builtin.bitAnd i j)):=vP λx x x x x x x q=>and_int q
def b37:gj X (binaryOp .BitOr) (mY λi j=>.int (Builtin.bitOr i j)):=vP λx x x x x x x q=>or_int q
def bJ2:gj X (inplaceOp .Add) (mY λi j=>.int (i+j)):=vP λx x x x x x x q=>iadd_int q
def bJ1:gj X (inplaceOp .Sub) (mY λi j=>.int (i-j)):=vP λx x x x x x x q=>isub_int q
def RJ{f:Value->Sem Value}{g:Int->Int}(rule:∀(i:Int) (t:Tok) (s:Shared) (Q:Value->Shared->Prop) (E:Value->Shared->Prop),Q (.int (g i) s.toks) { s with toks:=s.toks+1 }->wpAny (model X.prog X.w) X.A (f (.int i t)) Q E s) :
  BQ X f (rU λi=>.int (g i)):=by
 intro pi s σ H x v Q I rx h;let#[i,rfl,q]:=h;let#[t,rfl]:=rx;show rule i t s _ _ #[.int (g i),H,I.tok _,#[_,rfl],q]
def bL4:BQ X (unaryOp .USub) (rU λi=>.int (-(i))):=RJ λx x x x x q=>neg_int q
end
abbrev MV:V->V->Bool
 |.bq,.bq=>true|.bq,.int _=>true|.int _,.bq=>true|.bq,.bl _=>true|.bl _,.bq=>true|.bq,.str _=>true|.str _,.bq=>true
 |.int _,.int _=>true|.bl _,.bl _=>true|.str _,.str _=>true|.lZ _,.lZ _=>true
 |.int _,.str _=>true|.str _,.int _=>true|.bl _,.str _=>true|.str _,.bl _=>true
 |_,_=>false
def Se:R2:=λx y H Q=>MV x y=true/\Q (.bl (decide (x=y))) H
def Sb:R2:=λx y H Q=>MV x y=true/\Q (.bl (~~~decide (x=y))) H
def QD{i j}:decide (V.int i=V.int j)=(i==j):=by
 rw[bp];simp
def BB{i j}:decide (V.bl i=V.bl j)=(i==j):=by
 rw[bp];simp
def QE{i j}:decide (V.str i=V.str j)=(i==j):=by
 rw[bp];simp
def QC{i j}:decide (V.lZ i=V.lZ j)=(i.toList==j.toList):=by
 rw[bp];simp
section
variable{a b:Expr}{tc:TE}
def n8{Q}{k k'}(I:Inv X pi σ H s)(q:Q (.bl k) H)(e:k=k'):EP X pi σ Q (.bool k') s:=by
 subst e;show#[.bl k,H,I,rfl,q]
def ID:gj X (compareOp .Eq) Se:=by
 intro pi s σ H x y v u Q I rx ry h;let#[hs,q]:=h;cases x with
 |bq =>
  cases rx;cases y with
  |bq=>cases ry;show PySem.EqNone.eq_none_none (n8 I q #[_])
  |bl j=>cases ry;show PySem.EqNone.eq_none_bool (n8 I q #[_])
  |int j=>let#[t',rfl]:=ry;show PySem.EqNone.eq_none_int (n8 I q #[_])
  |str j=>let#[t',rfl]:=ry;show PySem.EqNone.eq_none_str (n8 I q #[_])
  |_=>show absurd (show false=true from hs) Bool.false_ne_true
 |bl i =>
  cases rx;cases y with
  |bq=>cases ry;show PySem.EqNone.eq_bool_none (n8 I q #[_])
  |bl j=>cases ry;show eq_bool (n8 I q BB)
  |str j=>let#[t',rfl]:=ry;show PySem.EqMixed.eq_bool_str (n8 I q #[_])
  |_=>show absurd (show false=true from hs) Bool.false_ne_true
 |int i =>
  let#[t,rfl]:=rx;cases y with
  |bq=>cases ry;show PySem.EqNone.eq_int_none (n8 I q #[_])
  |int j=>let#[t',rfl]:=ry;show eq_int (n8 I q QD)
  |str j=>let#[t',rfl]:=ry;show PySem.EqMixed.eq_int_str (n8 I q #[_])
  |_=>show absurd (show false=true from hs) Bool.false_ne_true
 |str i =>
  let#[t,rfl]:=rx;cases y with
  |bq=>cases ry;show PySem.EqNone.eq_str_none (n8 I q #[_])
  |bl j=>cases ry;show PySem.EqMixed.eq_str_bool (n8 I q #[_])
  |int j=>let#[t',rfl]:=ry;show PySem.EqMixed.eq_str_int (n8 I q #[_])
  |str j=>let#[t',rfl]:=ry;show eq_str (n8 I q QE)
  |_=>show absurd (show false=true from hs) Bool.false_ne_true
 |lZ i =>
  let#[t,rfl]:=rx;cases y with
  |lZ j=>let#[t',rfl]:=ry;show PySem.W.eq_bytes (n8 I q QC)
  |_=>show absurd (show false=true from hs) Bool.false_ne_true
 |_=>cases y<;>show absurd (show false=true from hs) cu
def IE:gj X (compareOp .NotEq) Sb:=by
 intro pi s σ H x y v u Q I rx ry h;let#[hs,q]:=h;cases x with
 |bq =>
  cases rx;cases y with
  |bq=>cases ry;show PySem.EqNone.ne_none_none (n8 I q #[_])
  |bl j=>cases ry;show PySem.EqNone.ne_none_bool (n8 I q #[_])
  |int j=>let#[t',rfl]:=ry;show PySem.EqNone.ne_none_int (n8 I q #[_])
  |str j=>let#[t',rfl]:=ry;show PySem.EqNone.ne_none_str (n8 I q #[_])
  |_=>show absurd (show false=true from hs) Bool.false_ne_true
 |bl i =>
  cases rx;cases y with
  |bq=>cases ry;show PySem.EqNone.ne_bool_none (n8 I q #[_])
  |bl j=>cases ry;show ne_bool (n8 I q (congrArg not BB))
  |str j=>let#[t',rfl]:=ry;show PySem.EqMixed.ne_bool_str (n8 I q #[_])
  |_=>show absurd (show false=true from hs) Bool.false_ne_true
 |int i =>
  let#[t,rfl]:=rx;cases y with
  |bq=>cases ry;show PySem.EqNone.ne_int_none (n8 I q #[_])
  |int j=>let#[t',rfl]:=ry;show ne_int (n8 I q (congrArg not QD))
  |str j=>let#[t',rfl]:=ry;show PySem.EqMixed.ne_int_str (n8 I q #[_])
  |_=>show absurd (show false=true from hs) Bool.false_ne_true
 |str i =>
  let#[t,rfl]:=rx;cases y with
  |bq=>cases ry;show PySem.EqNone.ne_str_none (n8 I q #[_])
  |bl j=>cases ry;show PySem.EqMixed.ne_str_bool (n8 I q #[_])
  |int j=>let#[t',rfl]:=ry;show PySem.EqMixed.ne_str_int (n8 I q #[_])
  |str j=>let#[t',rfl]:=ry;show ne_str (n8 I q (congrArg not QE))
  |_=>show absurd (show false=true from hs) Bool.false_ne_true
 |lZ i =>
  let#[t,rfl]:=rx;cases y with
  |lZ j=>let#[t',rfl]:=ry;show PySem.W.ne_bytes (n8 I q (congrArg not QC))
  |_=>show absurd (show false=true from hs) Bool.false_ne_true
 |_=>cases y<;>show absurd (show false=true from hs) cu
def b38:gj X (compareOp .Lt) (mY λi j=>.bl (decide (i<j))):=BL λx x x x x x x q=>lt_int q
def b39:gj X (compareOp .LtE) (mY λi j=>.bl (decide (i<=j))):=BL λx x x x x x x q=>le_int q
def b40:gj X (compareOp .Gt) (mY λi j=>.bl (decide (j<i))):=BL λx x x x x x x q=>gt_int q
def b41:gj X (compareOp .GtE) (mY λi j=>.bl (decide (j<=i))):=BL λx x x x x x x q=>ge_int q
def bT9:gj X (compareOp .Is) (λx y H Q=>y=.bq/\Q (.bl (decide (x=.bq))) H):=by
 intro pi s σ H x y v u Q I rx ry h;let#[rfl,q]:=h;cases ry;show is_none_gen (n8 I q ?_);cases x<;>first
  |(cases rx;rfl)
  |(let#[t,rfl]:=rx;rfl)
def bH2:gj X (compareOp .IsNot) (λx y H Q=>y=.bq/\Q (.bl (~~~decide (x=.bq))) H):=by
 intro pi s σ H x y v u Q I rx ry h;let#[rfl,q]:=h;cases ry;show isnot_none_gen (n8 I q ?_);cases x<;>first
  |(cases rx;rfl)
  |(let#[t,rfl]:=rx;rfl)
def bG4(ho:gj X (compareOp op) r)(ha:PE X a ta)(hb:PE X b tb)(hm:behindInMarks op b=false):PE X (.Compare a [op] [b] pos) (rm r ta tb):=by
 intro pi s σ H Q I h;show wpAny_Compare1 (Fx ha hb I h λv u s2 x y H2 I2 rx ry q=>ho pi s2 σ H2 x y v u Q I2 rx ry q) hm
def ye(t:TE):TT:=λσ H Q=>t σ H λx H'=>∃k,x=.bl k/\Q k H'
def QZ(ho:gj X (compareOp op) r)(ha:PE X a ta)(hb:PE X b tb)(hm:behindInMarks op b=false):PT X (.Compare a [op] [b] pos) (ye (rm r ta tb)):=by
 intro pi s σ H Q I h;show wpAny_isTrue_Compare1 (cG (ha pi s σ H _ I h) λv s1 ⟨x,H1,I1,r1,q1⟩=>cG (hb pi s1 σ H1 _ I1 q1) λu s2 ⟨y,H2,I2,r2,q2⟩ =>
  cG (ho pi s2 σ H2 x y v u _ I2 r1 r2 q2) λc s3 ⟨z,H3,I3,r3,k,e,q3⟩=>?_) hm
 subst e;cases r3;show cL #[H3,I3,q3]
def HH(r r':R2)(ta tb tc:TE):TE:=λσ H Q=>ta σ H λx H1=>tb σ H1 λy H2=>r x y H2 λz H3=>∃k,z=.bl k /\
 (if k=true then tc σ H3 λw' H4=>r' y w' H4 Q else Q (.bl false) H3)
def XS{iU}{r'}(ho:gj X (compareOp op) r)(oS:gj X (compareOp iU) r')(ha:PE X a ta)(hb:PE X b tb)(hc:PE X c tc)(hm:lastMarks [op,iU] [b,c]=false:=by with_unfolding_all rfl):PE X (.Compare a [op,iU] [b,c] pos) (HH r r' ta tb tc):=by
 intro pi s σ H Q I h;show Compare_chain (cG (ha pi s σ H _ I h) λv s1 ⟨x,H1,I1,r1,q1⟩=>chain_link (cG (hb pi s1 σ H1 _ I1 q1) λu s2 ⟨y,H2,I2,r2,q2⟩ =>
  cG (ho pi s2 σ H2 x y v u _ I2 r1 r2 q2) λd s3 ⟨z,H3,I3,r3,k,e,q3⟩=>?_)) hm
 subst e;cases r3;show cL ?_;cases k with
 |false=>show ite_ff #[.bl false,H3,I3,rfl,q3]
 |true=>show ite_tt (chain_last (cG (hc pi s3 σ H3 _ I3 q3) (by rintro w' s4 ⟨z',H4,I4,r4,q4⟩;show oS pi s4 σ H4 y z' u w' Q I4 r2 r4 q4)))
def Yi{iU}{r'}(ho:gj X (compareOp op) r)(oS:gj X (compareOp iU) r')(ha:PE X a ta)(hb:PE X b tb)(hc:PE X c tc)(hm:lastMarks [op,iU] [b,c]=false:=by with_unfolding_all rfl):PT X (.Compare a [op,iU] [b,c] pos) (ye (HH r r' ta tb tc)):=by
 intro pi s σ H Q I h;show isTrue_chain (cG (ha pi s σ H _ I h) λv s1 ⟨x,H1,I1,r1,q1⟩=>test_link (cG (hb pi s1 σ H1 _ I1 q1) λu s2 ⟨y,H2,I2,r2,q2⟩ =>
  cG (ho pi s2 σ H2 x y v u _ I2 r1 r2 q2) λd s3 ⟨z,H3,I3,r3,k,e,q3⟩=>?_)) hm
 subst e;cases r3;show cL ?_;cases k with
 |false =>
  let#[k',e',q']:=q3;cases e';show ite_ff #[H3,I3,q']
 |true =>
  show ite_tt (test_last (cG (hc pi s3 σ H3 _ I3 q3) ?_));rintro w' s4 ⟨z',H4,I4,r4,q4⟩;show cG (oS pi s4 σ H4 y z' u w' _ I4 r2 r4 q4) λd' s5 bu=>?_;let#[z2,H5,I5,r5,k2,e2,q5]:=bu;subst e2;cases r5;show cL #[H5,I5,q5]
abbrev Fu(K:PySem.W.Frag)(x:V)(H:Hp)(k:Bool):Prop :=
 match x with
 |.bq=>k=false
 |.bl b=>k=b
 |.int i=>k=(i != 0)
 |.str y=>-y<=sizeLine/\k=((-y:Int) != 0)
 |.lZ y=>y.size<=sizeLine/\k=((y.size:Int) != 0)
 |.ref p=>(∃xs,fJ K H p xs/\k= ~~~xs.isEmpty)\/(∃xs,iR K H p xs/\k= ~~~xs.isEmpty)\/∃kvs,H p=!.dK kvs/\k= ~~~kvs.isEmpty
 |_=>False
def a82{κ:Type}{kvs:@&(κ×V)}{vs:@&(κ×Value)}(r:KV kvs vs):(~~~vs.isEmpty)= ~~~kvs.isEmpty:=by
 cases r<;>rfl
def Qm{aZ}(r:Vals xs aZ):(~~~aZ.toArray.isEmpty)= ~~~xs.isEmpty:=by
 cases r<;>simp
def BG:(sizeLine:Nat)<2 ^ 63:=by rw[lz];decide
def bL8:Vj X (λx H Q=>∃k,Fu X.K x H k/\Q k H):=by
 intro pi s σ H x v Q I rx h;let#[k,e,q]:=h;let hs:=lz;cases x with
 |bq =>
  cases rx;let e':=e;subst e';show truthy_none #[H,I,q]
 |bl b =>
  cases rx;let e':=e;subst e';show cL #[H,I,q]
 |int i =>
  let#[t,rfl]:=rx;let e':=e;subst e';show PySem.P.truthy_int #[H,I,q]
 |str y =>
  let#[t,rfl]:=rx;let#[hy,e']:=e;subst e';show PySem.P.truthy_str () #[H,I.tok _,q]
 |lZ y =>
  let#[t,rfl]:=rx;let#[hy,e']:=e;subst e';show PySem.W.truthy_bytes () #[H,I.tok _,q]
 |ref p =>
  cases rx;let e':=e;rcases e' with⟨xs,hx,e'⟩|⟨xs,hx,e'⟩|⟨kvs,hx,e'⟩
  .subst e';let#[aZ,r,pl,hz]:=I.list hx;let hlen:=-r;show wpAny_truthy_list pl.isList (by simp only[List.size_toArray];omega) #[H,I.tok _,by rw[Qm r];show q]
  .subst e';let#[aZ,r,pl,hz]:=I.tuple hx;let hlen:=-r;show truthy_tuple pl (by simp only[List.size_toArray];omega) #[H,I.tok _,by rw[Qm r];show q]
  .subst e';let#[hz,hS,vs,r,m]:=I.bR p _ hx;let hlen:=mV r;show wpAny_truthy_dict hS m () #[H,I.tok _,by rw[a82 r];show q]
 |_=>show(show False from e).elim
def Yj(ha:PE X a ta)(he:∀whole,isTrue a X.env whole=(do let v <- whole;standAt a.pos;holding [v] (truthy v))) :
  PT X a (λσ H Q=>ta σ H λx H'=>∃k,Fu X.K x H' k/\Q k H'):=by
 intro pi s σ H Q I h;show isTrue_plain (cG (ha pi s σ H _ I h) (by rintro v s1 ⟨x,H1,I1,r1,q1⟩;show bL8 pi s1 σ H1 x v Q I1 r1 q1)) (he _)
def vals1{x}(r:Vals [x] us):∃u,us=[u]/\RelV x u:=by
 cases r with
 |cons r1 r2=>cases r2;show#[_,rfl,r1]
def vals2{x y}(r:Vals [x,y] us):∃u w',us=[u,w']/\RelV x u/\RelV y w':=by
 cases r with
 |cons r1 r2 =>
  cases r2 with
  |cons r3 r4=>cases r4;show#[_,_,rfl,r1,r3]
def Pm:u3 X (.type "int") (λxs H Q=>(∃i,xs=[.int i]/\Q (.int i) H)\/∃k,xs=[.bl k]/\Q (.int (if k then 1 else 0)) H):=by
 intro pi s σ H xs us Q I r h;rcases h with⟨i,rfl,q⟩|⟨k,rfl,q⟩
 .let#[u,rfl,t,rfl]:=vals1 r;show call_int_int #[.int i,H,I,#[_,rfl],q]
 .let#[u,rfl,r1]:=vals1 r;cases r1;show call_int_bool #[.int (if k then 1 else 0),H,I.tok _,#[_,rfl],q]
end
structure ui(h:Heap)(x dx C:Addr)(mA:Str->Option Value):Prop where
 obj:h.get? x=!PySem.W.instObj C dx
 ns:h.Ns1 dx mA
 ne:dx≠x
set_option tactic.hygienic true in
def PJ{mA}(n:h.Ns1 dx mA):∃od,h.get? dx=!od/\∀name,PySem.W.lookIn name od=!mA name:=by
 let#[o,es,ep,ho,hd,hk,_,hm]:=n;show#[o,ho,λname=>?_];let e:=hm name;unfold nsFind findBy at e;rw[<- Array.find?_toList] at e;unfold PySem.W.lookIn;rw[hd];dsimp only;split
 .rename_i y q;rw[q] at e;show dJ some e
 .rename_i q;rw[q] at e;let a:es.toList.any (·.refKey)=false:=by
   rw[lB];intro y hy;let#[z,t,mK]:=hk y (Array.mem_toList_iff.mp hy);simp[DictEntry.refKey,mK]
  let a':¬es.toList.any (·.refKey)=true:=by rw[a];show cu
  rw[aI a'];show dJ some e
def ui.look{x}{mA}(I:ui h x dx C mA):∃od,PySem.W.InstAt h x (PySem.W.instObj C dx) C (!od)/\∀name,PySem.W.lookIn name od=!mA name :=
 let ⟨od,ho,hl⟩:=PJ I.ns
 #[od,#[I.obj,rfl,rfl,ho],hl]
section
variable{prog:Program}{x:Addr}{mA:Str->Option Value}{name:Str}{v:Value}
def get_map{expr}(X:K.In s.heap)(I:ui s.heap x dx C mA)(hg:PySem.W.plainGet K C name=true)(hh:PySem.W.hasDictIn K C=true)(ha:PySem.W.findIn K (.ref C) name=!none)(hv:mA name=!v)(wQ:PySem.W.handedIn v=true)(h:Q v { s with toks:=s.toks+1 }) :
  wpAny (model prog w) A (getAttr (.ref x) name expr) Q E s:=by
 let#[od,J,hl]:=I.look;show PySem.W.get_value X J (jS hg).1 (PySem.W.findObj_own hh ha rfl (by rw[hl,hv])) wQ h
def Xr{pl}{Q}(X:K.In s.heap)(I:ui s.heap x dx C mA)(hg:PySem.W.plainGet K C name=true)(hf:PySem.W.findIn K (.ref C) name=!!.ref f)(ht:PySem.W.isFn K (.ref f)=true)(hv:mA name=none)(h:Q (.ref f,[.ref x]) s) :
  wpAny (model prog w) A (getMethod (.ref x) name pl) Q E s:=by
 let#[od,J,hl]:=I.look;show PySem.W.method_fn X J (jS hg).1 (jS hg).2 hf (fO.mp ht) (by show(PySem.W.lookIn name od).map (·.isSome)=!false;simp_all) h
def bD7{ns}{Q}(X:K.In s.heap)(I:ui s.heap x dx C mA)(hs:PySem.W.findIn K (.ref C) "__setattr__"=!!(.builtin "object.__setattr__"))(hp:PySem.W.plainOver K C=true)(ht:PySem.W.takerIn K C name=!none)(hh:PySem.W.hasDictIn K C=true)(hw:PySem.Within mA ns)(hsz:-ns<=sizeLine)(h:∀h',ui h' x dx C (λy=>if y=name then some v else mA y)->Heap.SameBut dx s.heap h'->Q Unit.unit { s with heap:=h',toks:=s.toks+2 }) :
  wpAny (model prog w) A (setAttr (.ref x) name v) Q E s:=by
 let#[od,J,hl]:=I.look;show PySem.W.set_plain X J hs (PySem.W.osa_open X J hp ht λb=>?_);let#[cd,hc,DC]:=PySem.W.any_some hh;let hx:=I.obj;show ae (au (ae (ae (wpAny_loadPart hx (ae (PySem.W.Looks.here (PySem.W.looks_clsIn X hc) ?_))))));rw[DC];show au (ae (au (ae ?_)));show wpAny_nsSet1 I.ns λh' qd iM=>?_;let#[oD,esD,epD,Th,Ub,Ue]:=qd.count (PySem.Within.cons name v hw);show ae (wpAny_lookBehind Th (by rw[Ub];show pastItsLine_dict (aC Ue (by grind))) ?_);show au (h _ #[(iM.2 _ (aX I.ne)).trans I.obj,qd,I.ne] iM)
def XF{R}{vs}{kw}(X:K.In s.heap)(hm:PySem.W.makesIn K C=true)(hi:PySem.W.findIn K (.ref C) "__init__"=!!.ref f)(hf:PySem.W.typeIn K (.ref f)=!(.type "function"))(h:codeAny (model prog w) (A.under (.builtin "type.__call__" #[.ref C :: vs,kw])) (.call (.ref f) #[.ref (s⁻¹ + 1) :: vs,kw]) (PySem.W.InitBack (s⁻¹ + 1) R)
   { s with heap:=(s.heap.push PySem.W.emptyDict).push (PySem.W.instObj C s⁻¹) }) :
  codeAny (model prog w) A (.call (.ref C) #[vs,kw]) R s:=by
 show PySem.W.make_core (PySem.W.makes_of X hm) (PySem.W.looks_findIn X hi) (λself=>PySem.W.bind_fn X self hf) (.inl rfl) h
end
abbrev A7(f:Str)(v:V):@&(Str×V)->@&(Str×V)
 |[]=>[(f,v)]
 |(g,x)::r=>if g=f then(g,v)::r else(g,x)::A7 f v r
def NI(f g:Str)(v:V):∀fs:@&(Str×V),(A7 f v fs).lookup g=if g=f then some v else fs.lookup g
 |[]=>by
  change List.lookup g [(f,v)]=_;by_cases h:g=f
  .let hb:=fO.mpr h;simp only[List.lookup,hb,if_pos h]
  .let hb:=cX.mpr h;simp only[List.lookup,hb,if_neg h]
 |(k,x)::r=>by
  let ih:=NI f g v r;rw[show A7 f v ((k,x)::r)=(if k=f then(k,v)::r else(k,x)::A7 f v r) from rfl];by_cases hk:k=f
  .rw[aM hk];by_cases h:g=k
   .let hb:=fO.mpr h;simp only[List.lookup,hb,if_pos (h.trans hk)]
   .let hb:=cX.mpr h;simp only[List.lookup,hb,if_neg (λe:g=f=>h (e.trans hk.symm))]
  .rw[aI hk];by_cases h:g=k
   .let hb:=fO.mpr h;simp only[List.lookup,hb,if_neg (λe:g=f=>hk (h.symm.trans e))]
   .let hb:=cX.mpr h;simp only[List.lookup,hb];show ih
def Gm(f:Str)(v:V):∀fs:@&(Str×V),f∈(A7 f v fs).map (·.1)/\∀g,g∈fs.map (·.1)->g∈(A7 f v fs).map (·.1)
 |[]=>#[by simp[A7],λg h=>by simp at h]
 |(k,x)::r=>by
  let#[i1,i2]:=Gm f v r;rw[show A7 f v ((k,x)::r)=(if k=f then(k,v)::r else(k,x)::A7 f v r) from rfl];by_cases hk:k=f
  .rw[aM hk]
   grind
  .rw[aI hk];show#[?_,λg h=>?_]
   .exact bP _ i1
   .rcases aJ.mp h with e|e
    .exact aJ.mpr (.inl e)
    .exact bP _ (i2 g e)
def NH(f:Str)(v:V):∀fs:@&(Str×V),(A7 f v fs).length<=-fs+1
 |[]=>by simp[A7]
 |(k,x)::r=>by
  let ih:=NH f v r;rw[show A7 f v ((k,x)::r)=(if k=f then(k,v)::r else(k,x)::A7 f v r) from rfl]
  grind
def K4.some_of{o}(r:K4 (!v) o):∃u,o=!u/\RelV v u:=by
 cases o with
 |none=>show(show False from r).elim
 |some u=>show#[u,rfl,r]
def K4.none_of{o}(r:K4 none o):o=none:=by
 cases o with
 |none=>rfl
 |some u=>show(show False from r).elim
def Zr(r:RelV v u):PySem.W.handedIn u=true:=by
 cases v with
 |bq=>cases (show u=Value.none from r);rfl
 |bl b=>cases (show u=Value.bool b from r);rfl
 |int i=>let#[t,e]:=(show ∃t,u=Value.int i t from r);cases e;rfl
 |str x=>let#[t,e]:=(show ∃t,u=Value.str x t from r);cases e;rfl
 |lZ b=>let#[t,e]:=(show ∃t,u=Value.bytes b t from r);cases e;rfl
 |ua b=>let#[t,e]:=(show ∃t,u=Value.float b t from r);cases e;rfl
 |ref a=>cases (show u=Value.ref a from r);rfl
 |ty n=>cases (show u=Value.type n from r);rfl
section
variable{fs:@&(Str×V)}
def Az(bR:gB P w H h)(e:H a=!.ins C dx fs):∃mA,ui h a dx C mA/\(∀f,K4 (fs.lookup f) (mA f))/\PySem.Within mA (fs.map (·.1))/\-fs<=1000/\H dx=!.own a:=by
 let#[d,z,ne,ob,mA,n,r,q]:=(show q9 P w H h a (.ins C dx fs) from bR a _ e)
 show#[mA,#[ob,n,ne],r,q,z,d]
end
structure jE(K:PySem.W.Frag)(C:Addr):Prop where
 pg:PySem.W.plainGet K C Str.empty=true
 hd:PySem.W.hasDictIn K C=true
 po:PySem.W.plainOver K C=true
 sa:PySem.W.findIn K (.ref C) "__setattr__"=!!(.builtin "object.__setattr__")
def jE.get(c:jE K C)(f:Str):PySem.W.plainGet K C f=true:=c.pg
def J6(K:PySem.W.Frag)(C:Addr)(f:Str):Prop:=PySem.W.findIn K (.ref C) f=!none
def J6.b05{f}(n:J6 K C f):PySem.W.takerIn K C f=!none:=by
 unfold PySem.W.takerIn;rw[show PySem.W.findIn K (.ref C) f=some none from n]
 rfl
structure Meth(K:PySem.W.Frag)(C:Addr)(m:Str)(f:Addr):Prop where
 at_:PySem.W.findIn K (.ref C) m=!!.ref f
 fn:PySem.W.isFn K (.ref f)=true
 kp:PySem.W.keepIn K (.ref f)=true
section
variable{fs:@&(Str×V)}{f:Str}
def Qk{b}(I:Inv X pi σ H s)(e:H a=!.ins C dx fs)(c:jE X.K C)(n:J6 X.K C f)(l:fs.lookup f=!v)(h:∀u s',Inv X pi σ H s'->RelV v u->Q u s'):wpAny (model X.prog X.w) A (getAttr (.ref a) f b) Q E s:=by
 let#[mA,O,r,_,_,_]:=Az I.bR e;let#[u,hu,ru]:=K4.some_of (by rw[<- l];show r f);show get_map I.gN O (c.get f) c.hd n hu (Zr ru) (h u _ (I.tok _) ru)
def Ql{g}{pl}{Q}(I:Inv X pi σ H s)(e:H a=!.ins C dx fs)(c:jE X.K C)(k:Meth X.K C m g)(l:fs.lookup m=none)(h:Q (.ref g,[.ref a]) s):wpAny (model X.prog X.w) A (getMethod (.ref a) m pl) Q E s:=by
 let#[mA,O,r,_,_,_]:=Az I.bR e;let hn:=K4.none_of (by rw[<- l];show r m);show Xr I.gN O (c.get m) k.at_ k.fn hn h
def Nt{y}{Q}(I:Inv X pi σ H s)(e:H a=!.ins C dx fs)(c:jE X.K C)(n:J6 X.K C f)(hl:-fs<1000)(ry:RelV y u)(h:∀s',Inv X pi σ (upd H a (.ins C dx (A7 f y fs))) s'->Q Unit.unit s'):wpAny (model X.prog X.w) A (setAttr (.ref a) f u) Q E s:=by
 let#[mA,O,r,wi,_,ho]:=Az I.bR e;let hz:(fs.map (·.1)).length<=sizeLine:=by rw[ao,lz];omega
 show bD7 I.gN O c.sa c.po n.b05 c.hd wi hz λh' O' sb=>h _ ?_;let hd:∃o,h'.get? dx=!o:=let ⟨o,_,_,e',_⟩:=O'.ns;#[o,e']
 show I.write (by rw[e];show True.intro) (.inr ho) (λb q hb z=>(sb.2 b hb).trans z) hd ?_;show#[by rw[d6 O.ne];show ho,?_,O.ne,O'.obj,_,O'.ns,λg=>?_,λg hg=>?_]
 .have:=NH f y fs;omega
 .change K4 ((A7 f y fs).lookup g) (if g=f then some u else mA g);rw[NI];by_cases q:g=f
  .rw[aM q,aM q];show ry
  .rw[aI q,aI q];show r g
 .by_cases q:g=f
  .rw[q];show(Gm f y fs).1
  .refine(Gm f y fs).2 g (wi g λz=>hg ?_);show(if g=f then some u else mA g)=none;rw[aI q];show z
def Inv.made(I:Inv X pi σ H s):Inv X pi σ (upd (upd H s⁻¹ (.own (s⁻¹+1))) (s⁻¹+1) (.ins C s⁻¹ []))
  { s with heap:=(s.heap.push PySem.W.emptyDict).push (PySem.W.instObj C s⁻¹) }:=by
 let e1:(s.heap.push PySem.W.emptyDict).get? s⁻¹=!PySem.W.emptyDict:=aD s.heap rfl;let e2:((s.heap.push PySem.W.emptyDict).push (PySem.W.instObj C s⁻¹)).get? (s⁻¹+1)=!(PySem.W.instObj C s⁻¹):=by
  have:=aD (s.heap.push PySem.W.emptyDict) (o:=PySem.W.instObj C s⁻¹) rfl
  rwa [dD] at this
 let e3:(s.heap.push PySem.W.emptyDict).Ns s⁻¹ (λx=>none):=#[PySem.W.emptyDict,(List.toArray []),_,e1,rfl,(λe he=>absurd he #[_]),λx=>rfl]
 let I1:=I.laid (o:=.own (s⁻¹+1)) (h':=s.heap.push PySem.W.emptyDict) (t':=s.toks) (λb u q=>ai _ q) (av _) #[_,e1];show I1.laid (t':=s.toks) (λb u q=>ai _ q) (Nat.le_of_eq (dD _ _)) ?_;let ne:s⁻¹≠s⁻¹+1:=aK (mr _);show#[by rw[d6 ne,m4],cj _,ne,e2,λx=>none,(Heap.Ns1.of_empty e3).at λo q=>ai _ q,λx=>True.intro,λy hy=>absurd rfl hy]
def bK4{prog}{env}(hb:attributeBase e f env (eval e env)=eval e env)(h:wpAny (model prog w) A (eval e env) (λo bI=>wpAny (model prog w) A (getAttr o f true) Q E bI) E s):wpAny (model prog w) A (eval (.Attribute e f pos) env) Q E s :=
 Attribute_any_ h (by rw[arm_eval_Attribute,hb])
end
def WE(K:PySem.W.Frag)(ta:TE)(f:Str):TE:=λσ H Q=>ta σ H λx H1=>∃a C dx fs v,x=.ref a/\H1 a=!.ins C dx fs/\jE K C/\J6 K C f/\fs.lookup f=!v/\Q v H1
def Wt(K:PySem.W.Frag)(ta tv:TE)(f:Str):TS:=λD σ H=>tv σ H λy H1=>ta σ H1 λx H2=>∃a C dx fs,x=.ref a/\H2 a=!.ins C dx fs/\jE K C/\J6 K C f/\-fs<1000 /\
 D.nx σ (upd H2 a (.ins C dx (A7 f y fs)))
abbrev Fp(X:Cx)(op:Operator)(rd:V->V->Hp->VK->Prop):Prop :=
 ∀(pi:@&(Addr×Obj)) (s:Shared) (σ:St) (H:Hp) (x y:V) (u v:Value) (Q:VK),Inv X pi σ H s->RelV x u->RelV y v->rd x y H Q->wpAny (model X.prog X.w) X.A (inplaceOp op u v) (EP X pi σ Q) X.xe s
def bE8(K:PySem.W.Frag)(ta tv:TE)(rd:V->V->Hp->VK->Prop)(f:Str):TS:=λD σ H=>ta σ H λx H1=>∃a C dx fs v,x=.ref a/\H1 a=!.ins C dx fs/\jE K C/\J6 K C f/\fs.lookup f=!v /\
 tv σ H1 λy H2=>rd v y H2 λz H3=>∃vi jB,H3 a=!.ins C vi jB/\-jB<1000/\D.nx σ (upd H3 a (.ins C vi (A7 f z jB)))
section
variable{o value:Expr}{f:Str}{wj:Pos}{tv:TE}
def bS5(he:PE X e ta)(hb:attributeBase e f X.env (eval e X.env)=eval e X.env):PE X (.Attribute e f pos) (WE X.K ta f):=by
 intro pi s σ H Q I h;show bK4 hb (cG (he pi s σ H _ I h) λu s1 bu=>?_);let#[x,H1,I1,rx,a,C,dx,fs,v,ex,ea,c,n,l,q]:=bu;subst ex;obtain rfl:u=Value.ref a:=rx;show Qk I1 ea c n l λu' s2 I2 ru=>#[v,H1,I2,ru,q]
def bR3(ha:PE X o ta)(hv:PE X value tv)(hs:swapsWith value (!.Attribute o f pos') pos.line X.env=pure false):PS X (.Assign [.Attribute o f pos'] value pos) (Wt X.K ta tv f):=by
 intro pi s σ H D I h;show plainObj_wpAny_Assign_Attribute (cG (hv pi s σ H _ I h) ?_) hs;rintro u s1 ⟨y,H1,I1,ry,q⟩;show cG (ha pi s1 σ H1 _ I1 q) λov s2 bu=>?_;let#[x,H2,I2,rx,a,C,dx,fs,ex,ea,c,n,l,q2]:=bu;subst ex;obtain rfl:ov=Value.ref a:=rx;show Nt I2 ea c n l ry λs3 I3=>#[σ,_,I3,q2]
def ZY{op}{rd}(ha:PE X o ta)(hv:PE X value tv)(Dm:Fp X op rd):PS X (.AugAssign (.Attribute o f wj) op value pos) (bE8 X.K ta tv rd f):=by
 intro pi s σ H D I h;show wpAny_AugAssign_AttributeAny (cG (ha pi s σ H _ I h) λov s1 bu=>?_);let#[x,H1,I1,rx,a,C,dx,fs,v,ex,ea,c,n,l,q]:=bu;subst ex;obtain rfl:ov=Value.ref a:=rx;show Qk I1 ea c n l λu s2 I2 ru=>cG (hv pi s2 σ H1 _ I2 q) ?_;rintro w3 s3 ⟨y,H2,I3,ry,q3⟩;show cG (Dm pi s3 σ H2 v y u w3 _ I3 ru ry q3) λw4 s4 bu=>?_;let#[z,H3,I4,rz,vi,jB,Va,l',q4]:=bu;show Nt I4 Va c n l' rz λs5 I5=>#[σ,_,I5,q4]
abbrev Wh:V->V->Hp->VK->Prop:=λx y H Q=>∃i j,x=.int i/\y=.int j/\Q (.int (i+j)) H
def bX0:Fp X .Add Wh:=by
 rintro pi s σ H x y u v Q I rx ry ⟨i,j,rfl,rfl,q⟩;let#[t,rfl]:=(show ∃t,u=Value.int i t from rx)
 let#[t',rfl]:=(show ∃t',v=Value.int j t' from ry)
 show PyProof.Rows.iadd_int #[.int (i+j),H,I.tok _,#[_,rfl],q]
end
section
variable{c:Value}{b:Bool}
inductive iy(K:PySem.W.Frag)(H:Hp):V->Value->Prop where
 |bq:iy K H .bq (.type "NoneType")
 |bl (x:Bool):iy K H (.bl x) (.type "bool")
 |int (i:Int):iy K H (.int i) (.type "int")
 |str (x:Str):iy K H (.str x) (.type "str")
 |ua (x:UInt64):iy K H (.ua x) (.type "float")
 |lst {a:Addr} {xs:@&V} (e:H a=!.lst xs):iy K H (.ref a) (.type "list")
 |kd {a:Addr} {o:Obj} {xs:@&V} (e:H a=!.kd o (.lst xs)):iy K H (.ref a) (.type "list")
 |tup {a:Addr} {xs:@&V} (e:H a=!.tup xs):iy K H (.ref a) (.type "tuple")
 |dK {a:Addr} {kvs:@&(Key×V)} (e:H a=!.dK kvs):iy K H (.ref a) (.type "dict")
 |dT {a:Addr} {kvs:@&(List Key×V)} (e:H a=!.dT kvs):iy K H (.ref a) (.type "dict")
 |ins {a C dx:Addr} {fs:@&(Str×V)} (e:H a=!.ins C dx fs) (cl:jE K C) (ha:PySem.W.findIn K (.ref C) "__class__"=!!(.builtin "object.__class__"))
   (hn:PySem.W.specialIn K (.builtin "object.__class__") "__get__"=!!(.builtin "getset_descriptor.__get__")) (tG:PySem.W.takesIn K (.builtin "object.__class__")=!true)
   (hm:PySem.W.mroIn K C (.type "object")=!true):iy K H (.ref a) (.ref C)
def Zv{x}{t}(I:Inv X pi σ H s)(rx:RelV x u)(ty:iy X.K H x t)(e:PySem.W.kitOne X.K t c=!b)(h:∀tk,Q (.bool b) { s with toks:=tk }) :
  wpAny (model X.prog X.w) A (call (.builtin "isinstance") [u,c]) Q E s:=by
 cases ty with
 |bq=>cases (show u=Value.none from rx);show cw PySem.W.kitx_none I.gN True.intro e (λz=>nomatch z) h
 |bl y=>cases (show u=Value.bool y from rx);show cw PySem.W.kitx_bool I.gN True.intro e (λz=>nomatch z) h
 |int i=>let#[t,q]:=(show ∃t,u=Value.int i t from rx);cases q;show cw PySem.W.kitx_int I.gN True.intro e (λz=>nomatch z) h
 |str y=>let#[t,q]:=(show ∃t,u=Value.str y t from rx);cases q;show cw PySem.W.kitx_str I.gN True.intro e (λz=>nomatch z) h
 |ua y=>let#[t,q]:=(show ∃t,u=Value.float y t from rx);cases q;show cw PySem.W.kitx_float I.gN True.intro e (λz=>nomatch z) h
 |@lst a xs ea =>
  cases (show u=Value.ref a from rx);let#[_,_,n,_,h1]:=(show q9 X.prog X.w H s.heap a (.lst xs) from I.bR a _ ea)
  show cw PySem.W.kitx_list I.gN #[_,h1,rfl] e (λz=>nomatch z) h
 |@kd a ob xs ea =>
  cases (show u=Value.ref a from rx);let#[_,_,_,n,_,h1]:=(show q9 X.prog X.w H s.heap a (.kd ob (.lst xs)) from I.bR a _ ea)
  show cw PySem.W.kitx_list I.gN #[_,h1,rfl] e (λz=>nomatch z) h
 |@tup a xs ea =>
  cases (show u=Value.ref a from rx);let#[_,_,_,p]:=(show q9 X.prog X.w H s.heap a (.tup xs) from I.bR a _ ea)
  let#[o,h1,h2,_]:=p;show cw Rx I.gN #[o,h1,h2] e (λz=>nomatch z) h
 |@dK a kvs ea =>
  cases (show u=Value.ref a from rx);let#[_,_,vs,_,p]:=(show q9 X.prog X.w H s.heap a (.dK kvs) from I.bR a _ ea)
  let#[o,es,ep,h1,h2,_]:=p;show cw PySem.W.kitx_dict I.gN #[o,h1,h2.1] e (λz=>nomatch z) h
 |@dT a kvs ea =>
  cases (show u=Value.ref a from rx);let#[_,_,xs,_,o,es,ep,h1,h2,_]:=(show q9 X.prog X.w H s.heap a (.dT kvs) from I.bR a _ ea)
  show cw PySem.W.kitx_dict I.gN #[o,h1,h2.1] e (λz=>nomatch z) h
 |@ins a C dx fs ea cl ha hn tG hm =>
  cases (show u=Value.ref a from rx);let#[mA,O,_]:=Az I.bR ea;let#[od,J,_]:=O.look;show cw (PySem.W.kitx_own (cl.get _) cl.hd ha hn tG hm) I.gN J e (λz=>nomatch z) h
end
structure y9(k:Nat)(A:Around):Prop where
 hd:A.handled=none
 dp:A.depth+3*k+5<recursionLimit
 un:A.units+16*k+200<cLine
def y9.mono{j}(r:y9 k A)(h:j<=k):y9 j A:=#[r.hd,by have:=r.dp;omega,by have:=r.un;omega]
def y9.deeper{k}{A}(r:y9 (k+1) A)(env:Env):y9 k (A.deeper env) :=
 #[r.hd,by have:=r.dp;change A.depth+1+3*k+5<_;omega,by have:=r.un;change A.units+3+16*k+200<_;omega]
def a70{kw}:(A.under (.builtin "type.__call__" #[.ref C::us,kw])).depth=A.depth+1:=by
 rfl
def a69{kw}:(A.under (.builtin "type.__call__" #[.ref C::us,kw])).units=A.units+1:=by
 rfl
def y9.make(r:y9 (k+1) A)(C:Addr)(us:@&Value)(kw:@&(Str×Value)):y9 k (A.under (.builtin "type.__call__" #[.ref C::us,kw])) :=
 #[r.hd,by have:=r.dp;rw[a70];omega,by have:=r.un;rw[a69];omega]
def y9.depth{k}{A}(r:y9 k A):A.depth<recursionLimit:=by have:=r.dp;omega
def FI:TA:=λx H Q=>Q [] H
def b13(ta:TE)(tr:TA):TA:=λσ H Q=>ta σ H λx H1=>tr σ H1 λxs H2=>Q (x::xs) H2
def vB:PA X [] FI:=λx x x x H Q I h=>Calls.spliced_nil #[[],H,I,.nil,h]
def vF(ha:PE X e te)(hr:PA X es t)(hs:starEach (e::es) X.env=(false,eval e X.env)::starEach es X.env:=by rfl):PA X (e::es) (b13 te t):=by
 intro pos pi s σ H Q I h;rw[hs];change wpAny _ _ (spliced ((false,eval e X.env)::backTo pos (starEach es X.env))) _ _ s;show Calls.spliced_cons (cG (ha pi s σ H _ I h) λu s1 bu=>?_);let#[x,H1,I1,r1,q1]:=bu;show cG (hr pos pi s1 σ H1 _ I1 q1) (by rintro us s2 ⟨xs,H2,I2,r2,q2⟩;show #[x::xs,H2,I2,.cons r1 r2,q2])
def WO(t:TA):TE:=λσ H Q=>t σ H λxs H1=>-xs<=sizeLine/\∀p,H1 p=none->Q (.ref p) (upd H1 p (.tup xs))
def WJ(t:TA):TE:=λσ H Q=>t σ H λxs H1=>-xs<=sizeLine/\∀p,H1 p=none->Q (.ref p) (upd H1 p (.lst xs))
def bR8{x1}(h:PA X es t):PE X (.Tuple es x1 pos) (WO t):=by
 intro pi s σ H Q I hq;show wpAny_Tuple_spliced (cG (h pos pi s σ H _ I hq) ?_);rintro us s1 ⟨xs,H1,I1,r,z,q⟩;show #[by rw[<- -r];show z,?_];let hf:=I1.bR.fresh (av _);show#[.ref s1⁻¹,upd H1 s1⁻¹ (.tup xs),I1.laid (t':=s1.toks) (λb u e=>ai _ e) (av _) ?_,rfl,q _ hf];show#[z,us,r,#[_,aD _ rfl,rfl,#[_,rfl],rfl]]
def bS3(h:PA X es t):PE X (.List es pos) (WJ t):=by
 intro pi s σ H Q I hq;show wpAny_List_spliced (cG (h pos pi s σ H _ I hq) ?_);rintro us s1 ⟨xs,H1,I1,r,z,q⟩;show #[by rw[<- -r];show z,?_];let hf:=I1.bR.fresh (av _);show#[.ref s1⁻¹,upd H1 s1⁻¹ (.lst xs),I1.laid (t':=s1.toks) (λb u e=>ai _ e) (av _) ?_,rfl,q _ hf];show#[z,us,0,r,aD _ rfl]
noncomputable abbrev Sp:=@&V->Hp->VK->XK->Prop
noncomputable abbrev oE:=@&Env->Hp->Shared->XK->Value->Shared->Prop
structure uh(P:Program)(w:World)(K:PySem.W.Frag)(mg:Str->Option Value)(base:Heap)(A:Around)(outer:@&Env)(s:Shared)(H:Hp):Prop where
 frames:A.frames=!outer
 mod:Mod K mg base
 bs:∀b o,base.get? b=!o->s.heap.get? b=!o/\H b=none
 ou:base.objs.size<=s⁻¹
 T2:s.heap.FunFrames base outer
 oZ:∀b∈gA outer,H b=none
 bR:gB P w H s.heap
 bare:AllBare s.gens
abbrev CE(outer:@&Env)(P:Program)(w:World)(H:Hp)(s:Shared)(Q:VK)(u:Value)(s':Shared):Prop :=
 ∃v H',s'.os=s.os/\AllBare s'.gens/\Un (gA outer) [] H H' s.heap s'.heap/\gB P w H' s'.heap/\RelV v u/\Q v H'
abbrev CR(CX:oE)(outer:@&Env)(P:Program)(w:World)(H:Hp)(s:Shared)(Q:VK)(E:XK)(r:Result)(s':Shared):Prop :=
 match r with
 |.ok (.ret u)=>CE outer P w H s Q u s'
 |.ok _=>False
 |.error e=>CX outer H s E e s'
structure gW(P:Program)(w:World)(K:PySem.W.Frag)(mg:Str->Option Value)(base:Heap)(CX:oE)(k:Nat)(f:Addr)(fd:FuncData)(ps:@&Str)(sp:Sp):Prop where
 len:∀vs H Q E,sp vs H Q E->-vs=-ps
 run:∀(A:Around) (outer:@&Env) (s:Shared) (H:Hp) (args:Args) (us:@&Value) (vs:@&V) (Q:VK) (E:XK),y9 k A->uh P w K mg base A outer s H->BindsTo s fd args (ps.zip us)->Vals vs us->sp vs H Q E ->
  codeAny (model P w) A (.call (.ref f) args) (CR CX outer P w H s Q E) s
def uh.make{mg}{outer}(e:uh P w K mg base A outer s H)(C:Addr)(us:@&Value)(kw:@&(Str×Value)) :
  uh P w K mg base (A.under (.builtin "type.__call__" #[.ref C::us,kw])) outer s H:=#[by first|show e.frames|(simpa[Around.under,Code.envs,Code.isFrame,pushEnvs] using e.frames),e.mod,e.bs,e.ou,e.T2,e.oZ,e.bR,e.bare]
section
variable{s':Shared}
def Inv.MG(I:Inv X pi σ H s):uh X.prog X.w X.K X.mg X.base X.A X.stack s H :=
 #[I.ok.frames,I.ok.mod,I.bs,aC I.ok.ou I.sz,I.stack,I.AG,I.bR,I.bare]
def Inv.after{Q}(I:Inv X pi σ H s)(h:CE X.stack X.prog X.w H s Q u s'):EP X pi σ Q u s':=by
 let#[v,H',os,bare,un,bR,r,q]:=h;let#[hh,g,d,t,rB]:=s';obtain rfl:rB=s.os:=os;show#[v,H',I.call (h':=hh) (g':=g) (d':=d) (t':=t) un bR bare (λb z=>absurd z #[_]),r,q]
end
def Lz(sp:Sp)(kE:@&V)(E:XK)(t:TA):TE:=λσ H Q=>t σ H λvs H1=>sp (vs++kE) H1 Q E
def LB(C:Addr)(sp:Sp)(kE:@&V)(E:XK)(t:TA):TE:=λσ H Q=>t σ H λvs H1=>∀x dx,H1 x=none->H1 dx=none->dx≠x ->
 sp (.ref x::(vs++kE)) (upd (upd H1 dx (.own x)) x (.ins C dx [])) (λv H2=>v=.bq/\Q (.ref x) H2) E
abbrev Binds(K:PySem.W.Frag)(fd:FuncData)(ps:@&Str)(ds:@&Value):Prop :=
 ∀(s:Shared) (us:@&Value),K.In s.heap->(us++ds).length=-ps->BindsTo s fd #[us,[]] (ps.zip (us++ds))
def Binds.all(h:∀us:@&Value,(-us)=-ps->bindArgs fd #[us,[]]=pure (ps.zip us)):Binds K fd ps []:=λs us x hl=>by
 rw[fh] at hl ⊢;show .of_eq (h us hl)
def Passes(CX:oE)(X:Cx)(E:XK):Prop:=∀(pi:@&(Addr×Obj)) (σ:St) (H:Hp) (s:Shared) (e:Value) (s':Shared),Inv X pi σ H s->CX X.stack H s E e s'->X.xe e s'
section
variable{kE:@&V}{ds:@&Value}{E:XK}
def Ar{Q}(F:gW X.prog X.w X.K X.mg X.base CX k f fd ps sp)(hr:y9 k X.A)(hb:Binds X.K fd ps ds)(hd:Vals kE ds)(hx:Passes CX X E)(I:Inv X pi σ H s)(r:Vals vs us)(h:sp (vs++kE) H Q E):wpAny (model X.prog X.w) X.A (call (.ref f) us) (EP X pi σ Q) X.xe s:=by
 let r2:=r.append hd;let hl:(us++ds).length=-ps:=by rw[<- -r2];show F.len _ _ _ _ h
 show wpAny_call (ig (F.run X.A X.stack s H #[us,[]] (us++ds) (vs++kE) Q E hr I.MG (hb s us I.gN hl) r2 h) λr s' hq=>?_);cases r with
 |error e=>show hx pi σ H s e s' I hq
 |ok fl =>
  cases fl with
  |ret u=>show I.after hq
  |next=>show False.elim hq
  |brk=>show False.elim hq
  |cont=>show False.elim hq
def bG5(F:gW X.prog X.w X.K X.mg X.base CX k f fd ps sp)(hr:y9 k X.A)(hg:Gl X x)(hm:X.mg x=!.ref f)(hk:PySem.W.keepIn X.K (.ref f)=true)(hb:Binds X.K fd ps ds)(hd:Vals kE ds)(hx:Passes CX X E)(ha:PA X (e::es) t)(iB:(x==("__debug__":Str))=false:=by decide)(he:starEach (e::es) X.env=(false,eval e X.env)::starEach es X.env:=by rfl)(gK:(backTo pos (starEach es X.env)).any (·.1)=false:=by rfl) :
  PE X (.Call (.Name x p) (e::es) [] pos) (Lz sp kE E t):=by
 intro pi s σ H Q I h;show cT (X3 I hg hm ?_ iB);show kH I.ok.mod.nL hk (cG (ha pos pi s σ H _ I h) ?_) he gK;rintro us s1 ⟨vs,H1,I1,r,q⟩;show #[I1.gN,?_];show Ar F hr hb hd hx I1 r q
def XR(F:gW X.prog X.w X.K X.mg X.base CX k f fd ps sp)(hr:y9 k X.A)(hg:Gl X x)(hm:X.mg x=!.ref f)(hk:PySem.W.keepIn X.K (.ref f)=true)(hb:Binds X.K fd ps ds)(hd:Vals kE ds)(hx:Passes CX X E)(iB:(x==("__debug__":Str))=false:=by decide):PE X (.Call (.Name x p) [] [] pos) (Lz sp kE E FI):=by
 intro pi s σ H Q I h;show cT (X3 I hg hm ?_ iB);show jT I.gN hk (Ar (us:=[]) F hr hb hd hx I .nil h)
structure Mk(K:PySem.W.Frag)(C f:Addr):Prop where
 makes:PySem.W.makesIn K C=true
 init:PySem.W.findIn K (.ref C) "__init__"=!!.ref f
 fn:PySem.W.isFn K (.ref f)=true
 kp:PySem.W.keepIn K (.ref C)=true
def OT{Q}(M:Mk X.K C f)(F:gW X.prog X.w X.K X.mg X.base CX k f fd ps sp)(hr:y9 (k+1) X.A)(hb:Binds X.K fd ps ds)(hd:Vals kE ds)(hx:Passes CX X E)(I:Inv X pi σ H s)(r:Vals vs us)(h:∀x dx,H x=none->H dx=none->dx≠x->sp (.ref x::(vs++kE)) (upd (upd H dx (.own x)) x (.ins C dx [])) (λv H2=>v=.bq/\Q (.ref x) H2) E) :
  wpAny (model X.prog X.w) X.A (call (.ref C) us) (EP X pi σ Q) X.xe s:=by
 let hq:=h (s⁻¹+1) s⁻¹ (I.bR.fresh (eG _)) (I.bR.fresh (av _)) (aK (mr _));let I2:=Inv.made (C:=C) I;let r2:Vals (V.ref (s⁻¹+1)::(vs++kE)) (Value.ref (s⁻¹+1)::(us++ds)):=.cons rfl (r.append hd);let hl:(Value.ref (s⁻¹+1)::us++ds).length=-ps:=by
  let e:=-r2;rw[F.len _ _ _ _ hq] at e;show e.symm
 show wpAny_call (XF I.gN M.makes M.init (fO.mp M.fn) (ig (F.run _ X.stack _ _ #[Value.ref (s⁻¹ + 1) :: us,[]] (Value.ref (s⁻¹ + 1) :: (us ++ ds)) _ _ E (hr.make C us [])
  (I2.MG.make C us []) (hb _ (Value.ref (s⁻¹ + 1) :: us) I2.gN hl) r2 hq) λr s' nS=>?_))
 cases r with
 |error e=>show hx pi σ _ _ e s' I2 nS
 |ok fl =>
  cases fl with
  |ret u =>
   let#[v,H',I3,rv,ev,q3]:=I2.after nS;subst ev;show#[rv,#[V.ref (s⁻¹+1),H',I3,rfl,q3]]
  |next=>show False.elim nS
  |brk=>show False.elim nS
  |cont=>show False.elim nS
def bG2(M:Mk X.K C f)(F:gW X.prog X.w X.K X.mg X.base CX k f fd ps sp)(hr:y9 (k+1) X.A)(hg:Gl X x)(hm:X.mg x=!.ref C)(hb:Binds X.K fd ps ds)(hd:Vals kE ds)(hx:Passes CX X E)(ha:PA X (e::es) t)(iB:(x==("__debug__":Str))=false:=by decide)(he:starEach (e::es) X.env=(false,eval e X.env)::starEach es X.env:=by rfl)(gK:(backTo pos (starEach es X.env)).any (·.1)=false:=by rfl) :
  PE X (.Call (.Name x p) (e::es) [] pos) (LB C sp kE E t):=by
 intro pi s σ H Q I h;show cT (X3 I hg hm ?_ iB);show kH I.ok.mod.nL M.kp (cG (ha pos pi s σ H _ I h) ?_) he gK;rintro us s1 ⟨vs,H1,I1,r,q⟩;show #[I1.gN,?_];show OT M F hr hb hd hx I1 r q
def XX(M:Mk X.K C f)(F:gW X.prog X.w X.K X.mg X.base CX k f fd ps sp)(hr:y9 (k+1) X.A)(hg:Gl X x)(hm:X.mg x=!.ref C)(hb:Binds X.K fd ps ds)(hd:Vals kE ds)(hx:Passes CX X E)(iB:(x==("__debug__":Str))=false:=by decide):PE X (.Call (.Name x p) [] [] pos) (LB C sp kE E FI):=by
 intro pi s σ H Q I h;show cT (X3 I hg hm ?_ iB);show jT I.gN M.kp (OT (us:=[]) M F hr hb hd hx I .nil h)
end
structure jq(N P:@&Str)(sc:Scope):Prop where
 kind:sc.kind=.function
 co:sc.isCoroutine=false
 gen:sc.isGenerator=false
 nd:N.Nodup
 pre:N.take (-P)=P
 par:∀x∈P,sc.names.lookup x=!.local\/sc.names.lookup x=!.cell
 nG:∀y∈sc.names,y.2≠.free
def Pl{kindOf}{x}:∀{binds:@&(Str×Value)} {m:Str->Option Value},(∀v,(x,v)∉binds)->bindL kindOf binds m x=m x
 |[],_,_=>rfl
 |(n,v)::r,m,h=>by
  unfold bindL;rw[Pl λw hw=>h w (bP _ hw)];split
  .have:x≠n:=by rintro rfl;show h v kJ
   simp[this]
  .rfl
def Pj{kindOf}{x}:∀{binds:@&(Str×Value)} {m:Str->Option Value},(∀v,(x,v)∉binds)->bindC kindOf binds m x=m x
 |[],_,_=>rfl
 |(n,v)::r,m,h=>by
  unfold bindC;rw[Pj λw hw=>h w (bP _ hw)];split
  .rfl
  .have:x≠n:=by rintro rfl;show h v kJ
   simp[this]
def Pk{kindOf}{x}{v}:∀{P:@&Str} {vs:@&Value} {i:Nat} {m:Str->Option Value},P.Nodup->P[i]?=!x->vs[i]?=!v->kindOf x=!.local ->
  bindL kindOf (P.zip vs) m x=!v
 |[],_,_,_,_,h,_,_=>by simp at h
 |_::_,[],_,_,_,_,h,_=>by simp at h
 |p::P,w::vs,0,m,nd,h1,h2,hk=>by
  simp at h1 h2;subst h1;subst h2;change bindL kindOf ((p,w)::P.zip vs) m p=_;unfold bindL;rw[Pl λv hv=>(dA.mp nd).1 (nv hv).1,aM hk];simp
 |p::P,w::vs,i+1,m,nd,h1,h2,hk=>by
  unfold bindL;show Pk (dA.mp nd).2 (_/h1) (_/h2) hk
def Ph{kindOf}{x}{v}:∀{P:@&Str} {vs:@&Value} {i:Nat} {m:Str->Option Value},P.Nodup->P[i]?=!x->vs[i]?=!v->kindOf x≠!.local ->
  bindC kindOf (P.zip vs) m x=!v
 |[],_,_,_,_,h,_,_=>by simp at h
 |_::_,[],_,_,_,_,h,_=>by simp at h
 |p::P,w::vs,0,m,nd,h1,h2,hk=>by
  simp at h1 h2;subst h1;subst h2;change bindC kindOf ((p,w)::P.zip vs) m p=_;unfold bindC;rw[Pj λv hv=>(dA.mp nd).1 (nv hv).1,aI hk];simp
 |p::P,w::vs,i+1,m,nd,h1,h2,hk=>by
  unfold bindC;show Ph (dA.mp nd).2 (_/h1) (_/h2) hk
def start(N:@&Str)(vs:@&V):St:=vs.map some++List.replicate (-N- -vs) none
abbrev qE(CX:oE)(P:Program)(w:World)(K:PySem.W.Frag)(mg:Str->Option Value)(base:Heap)(N:@&Str)(qual:Str)(scope:Scope)(f:Addr)(cd:Value)(A:Around)(outer:@&Env)(s:Shared)(H:Hp)(E:XK):Cx where
 prog:=P
 w:=w
 K:=K
 mg:=mg
 base:=base
 A:=A.deeper (envOfC qual scope s⁻¹ f cd)
 N:=N
 dF:=s
 jN:=H
 env:=envOfC qual scope s⁻¹ f cd
 outer:=outer
 stack:=envOfC qual scope s⁻¹ f cd::outer
 ex:=[]
 calm:=true
 fn:=λx=>true
 pn:=[]
 xe:=λe s'=>wpAny (model P w) (A.deeper (envOfC qual scope s⁻¹ f cd)) (leaving (envOfC qual scope s⁻¹ f cd) e) (λx pO=>CX outer H s E e pO) (λe' pO=>CX outer H s E e' pO) s'
def FO{sc:Scope}{n:Nat}(h:sc.names.lookup x=!.cell):∃c,(cellsFrom n sc.names []).lookup x=!c:=by
 let q:=dR sc.names n [] (.inl h);show fc.mp q
def Zu{mg}{qual}{scope}{cd}{outer}{s1}{E}(S:jq N ps scope)(hd:A.handled=none)(e0:uh P w K mg base A outer s H)(hl:-vs=-ps)(r:Vals vs us)(x:InCallC s s⁻¹ (bindL (envOfC qual scope s⁻¹ f cd).kindOf (ps.zip us) λt=>none) (cellsFrom (s⁻¹+1) scope.names []) (bindC (envOfC qual scope s⁻¹ f cd).kindOf (ps.zip us) λt=>none) s1) :
  Inv (qE CX P w K mg base N qual scope f cd A outer s H E) [] (start N vs) H s1:=by
 let gK:-ps<=-N:=by have:=dJ List.length S.pre;grind
 let#[h1,tk,rfl,hk]:=x.done;let wC:∀b:Addr,b∉(qE CX P w K mg base N qual scope f cd A outer s H E).ex:=λb z=>absurd (show b∈([]:@&Addr) from z) #[_];show #[#[e0.mod,S.kind,rfl,rfl,av _,λy z c h1 h2=>?_,λy hy=>?_,λy c t h=>?_,λt=>hd,Around.frames_deeper e0.frames,.inr #[rfl,rfl],λb z=>absurd z (wC b),e0.bs,e0.ou,λb t t=>wC b,λb z=>absurd z (wC b),e0.T2,e0.oZ],
  rfl,e0.bare,Un.kept hk,#[_,x.toInCall.ns,λi y v h1 h2 h3=>?_],λy c h=>#[_,x.cell y c h],e0.bR.fresh (av _),λy c h=>?_,λp hp=>absurd (show p ∈ ([]:@&(Addr × Obj)) from hp) #[_],e0.bR.kept hk,?_,λdn z=>absurd (show (none:Option (List (Option V)))=some dn from z) #[_]]
 .exact name_of_addr x.apart (aR h1) (aR h2)
 .rcases hy with hy|hy
  .exact FO hy
  .exact absurd rfl (S.nG _ (aR hy))
 .exact dC (x.above y c (aR h))
 .let hi:i< -vs:=by
   unfold start at h2;by_cases hi:i< -vs
   .exact hi
   .rw[br (_/hi)] at h2;rw[dN] at h2
    simp_all
  let ha:vs[i]?=!v:=by
   unfold start at h2;rw[aF (_/hi),ag] at h2;cases e:vs[i]? with
   |none=>rw[e] at h2;cases h2
   |some a=>rw[e] at h2;cases h2;rfl
  let#[u,hu,rv]:=r.get ha;let hp:ps[i]?=!y:=by
   rw[<- S.pre,cR ()];show h1
  let JI:ps.Nodup:=by rw[<- S.pre];show S.nd.sublist (List.take_sublist _ _)
  show#[u,rv,?_];rcases S.par y (aE hp) with k|k
  .exact .inl #[k,Pk JI hp hu k]
  .let#[c,e]:=FO k;show .inr #[.inl k,c,e,?_];let q:=x.cell y c e;rw[Ph JI hp hu (by change scope.names.lookup y≠_;rw[k];decide)] at q;show q
 .exact e0.bR.fresh (dC (x.above y c (aR h)))
 .unfold start;change _=-N
  simp_all
def b68{mg}{name qual}{params}{scope}{dV kV doc pm gf ct oc}{an od}{mZ}(lk:K.lookup f=!#[oc,od,.func (PySem.W.fnOf name qual params body scope dV kV doc pm an gf ct),mZ])(mL:PySem.W.codeIn K gf qual=true)(S:jq N ps scope)(len:∀vs H Q E,sp vs H Q E->-vs=-ps)(xr:∀ (A:Around) (outer:@&Env) (s:Shared) (H:Hp) (vs:@&V) (Q:VK) (E:XK),y9 k (A.deeper (envOfC qual scope s⁻¹ f gf))->sp vs H Q E ->
   ∃ t,jC (qE CX P w K mg base N qual scope f gf A outer s H E) body t/\t { nx:=λz H'=>Q .bq H',rt:=Q } (start N vs) H) :
  gW P w K mg base CX (k+1) f (PySem.W.fnOf name qual params body scope dV kV doc pm an gf ct) ps sp:=by
 show#[len,λA outer s H args us vs Q E hr e0 hb r uV=>?_];let hl:=len _ _ _ _ uV;let KX:=e0.mod.nL.keeps λb o e=>(e0.bs b o e).1;let lim:=e0.mod.nolimit.keeps λb o e=>(e0.bs b o e).1;let xh:∀y∈ps.zip us,scope.names.lookup y.1=!.local\/(scope.names.lookup y.1=!.cell/\((cellsFrom (s⁻¹+1) scope.names []).lookup y.1).isSome=true):=λ⟨n,v⟩ hy=>by
  rcases S.par n (nv hy).1 with q|q
  .exact .inl q
  .exact .inr #[q,dR _ _ _ (.inl q)]
 show codeAny_call_function hr.depth (KX _ _ lk) rfl S.co S.gen rfl (PySem.W.codeRec_of KX mL) (hb _ _ _ _ ?_);show wpAny_newFunctionEnv_cells S.kind xh λenv he s1 x=>?_;subst he;show#[lim.keeps x.toInCall.keep,codeAny_func ?_];let#[t,ht,hq]:=xr A outer s H vs Q E (hr.deeper _) uV;let I:Inv (qE CX P w K mg base N qual scope f gf A outer s H E) [] (start N vs) H s1:=Zu S hr.hd e0 hl r x;show bo (ht [] s1 (start N vs) H _ I hq) (λfl s' hs=>?_) λe s' hs=>hs;let fin:∀{cg:St} {H':Hp} {v:V} {u:Value},Inv (qE CX P w K mg base N qual scope f gf A outer s H E) [] cg H' s'->RelV v u->Q v H'->CE outer P w H s Q u s' :=
  λ{cg H' v u} J rv q=>#[v,H',J.os,J.bare,J.base,J.bR,rv,q]
 cases fl with
 |ret u =>
  let#[v,cg,H',J,rv,q]:=hs;show fin J rv q
 |next =>
  let#[cg,H',J,q]:=hs;show fin (v:=V.bq) J rfl q
 |brk =>
  let#[_,_,_,q]:=hs
  simp_all
 |cont =>
  let#[_,_,_,q]:=hs
  simp_all
section
variable{id T:String}{r:@&V->Hp->VK->Prop}
def Cv(r:@&V->Hp->VK->Prop)(t:TA):TE:=λσ H Q=>t σ H λvs H1=>r vs H1 Q
def AQ(hc:u3 X (.builtin id) r)(hg:Gl X x)(hm:X.mg x=none)(hv:bootBuiltins x=!.builtin id)(ha:PA X (e::es) t)(hn:x≠"__name__":=by decide)(iB:(x==("__debug__":Str))=false:=by decide)(he:starEach (e::es) X.env=(false,eval e X.env)::starEach es X.env:=by rfl)(gK:(backTo pos (starEach es X.env)).any (·.1)=false:=by rfl):PE X (.Call (.Name x p) (e::es) [] pos) (Cv r t):=by
 intro pi s σ H Q I h;show cT (V1 I hg hm hv ?_ hn iB);show PyProof.Rows.callWith_builtin1 (cG (ha pos pi s σ H _ I h) (by rintro us s1 ⟨vs,H1,I1,r1,q1⟩;show hc pi s1 σ H1 vs us Q I1 r1 q1)) he gK
def Z6(hc:u3 X (.type T) r)(hg:Gl X x)(hm:X.mg x=none)(hv:bootBuiltins x=!.type T)(ha:PA X (e::es) t)(hn:x≠"__name__":=by decide)(iB:(x==("__debug__":Str))=false:=by decide)(he:starEach (e::es) X.env=(false,eval e X.env)::starEach es X.env:=by rfl)(gK:(backTo pos (starEach es X.env)).any (·.1)=false:=by rfl):PE X (.Call (.Name x p) (e::es) [] pos) (Cv r t):=by
 intro pi s σ H Q I h;show cT (V1 I hg hm hv ?_ hn iB);show bU (cG (ha pos pi s σ H _ I h) (by rintro us s1 ⟨vs,H1,I1,r1,q1⟩;show hc pi s1 σ H1 vs us Q I1 r1 q1)) he gK
end
end L2
namespace HT
open PySem PyProof.Rows
section
variable{prog:Program}{w:World}{A:Around}{E:Value->Shared->Prop}{s:Shared}
def bK2{t b}{vs ws}{Q}(ht:IsTup s.heap t vs.toArray)(hb:IsTup s.heap b ws.toArray)(hv:vs≠[])(h1:ws=[]->Q (.ref t) s)(h2:ws≠[]->Q (.ref s⁻¹) { s with heap:=s.heap.push { cls:=.type "tuple",data:=.seq (vs++ws).toArray } })(hsz:-vs+-ws<=sizeLine):wpAny (model prog w) A (binaryOp .Add (.ref t) (.ref b)) Q E s:=by
 let#[#[cls,dd,data,sl],ho,hc,n,hd]:=id ht;let#[#[xZ,rW,data2,lP],kA,qj,n2,hd2]:=id hb;subst hc hd qj hd2;let e:vs.toArray++ws.toArray=(vs++ws).toArray:=by simp
 by_cases hw:ws=[]
 .exact concat_meets #[_,ho,rfl] #[_,kA,rfl] jF mU iZ iJ (ij _ _)
   (tuple_addW1 t b vs.toArray ws.toArray n n2 dd rW sl lP (_/hv) (by simp[hw])) #[ho,kA,h1 hw]
 .refine concat_meets #[_,ho,rfl] #[_,kA,rfl] jF mU iZ iJ (ij _ _)
   (tuple_addW2 t b vs.toArray ws.toArray n n2 dd rW sl lP (_/hv) (_/hw) ()) #[ho,kA,?_]
  rw[e];show h2 hw
abbrev eK(n d:Nat):Option Int->Nat
 |none=>d
 |some v=>if v<0 then(v+(n:Int)).toNat else min v.toNat n
def QB(v:Int)(n d:Nat):(if v<0 then max (v+(n:Int)) 0 else min v (n:Int))=((eK n d (!v):Nat):Int):=by
 show(if v<0 then max (v+(n:Int)) 0 else min v (n:Int))=(((if v<0 then(v+(n:Int)).toNat else min v.toNat n):Nat):Int)
 grind
def ba2(lo hi:Option Int)(n:Nat):Builtin.Slice.sliceAdjust lo hi 1 (n:Int)=(((eK n 0 lo:Nat):Int),((eK n n hi:Nat):Int)):=by
 show Prod.ext ?_ ?_
 .cases lo with
  |none=>rfl
  |some v=>show QB v n 0
 .cases hi with
  |none=>rfl
  |some v=>show QB v n n
def a58(i j:Nat):Builtin.Slice.slicePlaces (i:Int) (j:Int) 1=j-i:=by
 unfold Builtin.Slice.slicePlaces;let h1:(1:Int)>0:=by omega
 simp only[h1,if_true,Int.ediv_one];split<;>omega
def Nv{v}{o}{Q}(p:IsPart v o)(h:Q o s):wpAny (model prog w) A (Builtin.Slice.slicePartIndex v) Q E s:=by
 cases p with
 |none=>show slicePart_none h
 |int i t=>show slicePart_int h
def Oa{sl}{vl vu}{lo hi:Option Int}{n:Nat}{Q:Int×Int×Nat->Shared->Prop}(hs:s.heap.IsSliceOf sl vl vu .none)(pl:IsPart vl lo)(pu:IsPart vu hi)(h:Q (((eK n 0 lo:Nat):Int),1,eK n n hi-eK n 0 lo) s):wpAny (model prog w) A (Builtin.Slice.sliceApplied (.ref sl) (pure (n:Int))) Q E s:=by
 let#[os,tI,oV,xo]:=id hs;show ae (ae (ly tI xo (x:=vl) rfl (ae (ly tI xo (x:=vu) rfl (ae (ly tI xo (x:=.none) rfl (au ?_)))))));show ae (slicePart_none ?_);show ae (Nv pl (ae (Nv pu (ae (au ?_)))));change wpAny _ _ (match Builtin.Slice.sliceAdjust lo hi 1 (n:Int) with|(lo,hi)=>pure (lo,(1:Int),Builtin.Slice.slicePlaces lo hi 1)) _ _ s;rw[ba2 lo hi n];change wpAny _ _ (pure (((eK n 0 lo:Nat):Int),(1:Int),Builtin.Slice.slicePlaces ((eK n 0 lo:Nat):Int) ((eK n n hi:Nat):Int) 1)) _ _ s;rw[a58];show au h
def Yb(xs:Array Value)(i k:Nat):((List.range k).filterMap λ(m:Nat)=>xs[((i:Int)+(m:Int)*1).toNat]?).toArray=((xs.toList.drop i).take k).toArray:=by
 let e:(λ(m:Nat)=>xs[((i:Int)+(m:Int)*1).toNat]?)=λm=>xs[i+m]?:=by
  funext m
  have:((i:Int)+(m:Int)*1).toNat=i+m:=by omega
  rw[this]
 rw[e];have:=pick_run xs i k;rw[List.filterMap_map] at this;let e2:((λx=>xs[x]?) ∘ λx=>i+x)=λm=>xs[i+m]?:=rfl;rw[e2] at this;rw[this]
def au4{t sl}{items}{vl vu}{lo hi}{Q}(ht:IsTup s.heap t items)(hs:s.heap.IsSliceOf sl vl vu .none)(pl:IsPart vl lo)(pu:IsPart vu hi)(hw:¬(eK items.size 0 lo=0/\eK items.size items.size hi=items.size))(h:Q (.ref s⁻¹) { s with heap:=s.heap.push { cls:=.type "tuple",data:=.seq ((items.toList.drop (eK items.size 0 lo)).take (eK items.size items.size hi-eK items.size 0 lo)).toArray } })(hsz:items.size<=sizeLine):wpAny (model prog w) A (getItem (.ref t) (.ref sl)) Q E s:=by
 let lT:sizeOk (.seq ((items.toList.drop (eK items.size 0 lo)).take (eK items.size items.size hi-eK items.size 0 lo)).toArray):=by
  show((items.toList.drop (eK items.size 0 lo)).take (eK items.size items.size hi-eK items.size 0 lo)).toArray.size<=sizeLine;rw[aS,bE,mz,eW];omega
 let#[os,tI,oV,xo]:=id hs;let DM:s.TypeIs (.ref sl) "slice":=#[os,tI,oV]
 unfold getItem
 try with_reducible show bx ?_
 show ae (wpAny_sequenceKey ht.typeIs ∅ ?_);show ae (fK ht.typeIs cc
  (cB cc ht.typeIs entry_tuple_getitem ?_ (args_tuple_getitem _ _)))
 change wpAny _ _ (Builtin.Tuple.tupleItemsOf (.ref t) >>= _) _ _ s;show ae (tupleItemsOf_ ht ?_);show ae (dt DM ?_);show ae (Oa hs pl pu ?_);let nh:¬((((eK items.size 0 lo:Nat):Int)==0&&(1:Int)==1&&(eK items.size items.size hi-eK items.size 0 lo)==items.size)=true):=by
  grind
 change wpAny _ _ (if(((eK items.size 0 lo:Nat):Int)==0&&(1:Int)==1&&(eK items.size items.size hi-eK items.size 0 lo)==items.size)=true then _ else _) _ _ s;rw[aI nh,Yb]
 first
  |show wpAny_bind (wpAny_newObj_type (wpAny_pure #[_,rfl,wpAny_pure h]) lT)
  |show wpAny_bind (wpAny_newObj_type (wpAny_bind (wpAny_pure (wpAny_pure #[_,rfl,wpAny_pure h]))) lT)
  |show wpAny_bind (wpAny_bind (wpAny_newObj_type (wpAny_pure (wpAny_pure #[_,rfl,wpAny_pure h])) lT))
  |show wpAny_bind (wpAny_bind (wpAny_newObj_type (wpAny_pure #[_,rfl,wpAny_pure h]) lT))
end
end HT
namespace L2
open PySem PySem.Spec PyProof.Rows
variable{X:Cx}{e:Expr}{pos:Pos}{n t':Nat}{α:Type}{a:Addr}{pi:@&(Addr×Obj)}{σ:St}{H H':Hp}{s:Shared}{aZ:@&Value}{A:Around}{y x:V}{u:Value}{o:Option V}{w:World}{E Q:Value->Shared->Prop}{kvs:@&(List Key×V)}{P:Program}
noncomputable abbrev TO:=St->Hp->(Option Int->Hp->Prop)->Prop
abbrev PO(X:Cx)(e:Option Expr)(t:TO):Prop :=
 ∀(pi:@&(Addr×Obj)) (s:Shared) (σ:St) (H:Hp) (Q:Option Int->Hp->Prop),Inv X pi σ H s->t σ H Q ->
  wpAny (model X.prog X.w) X.A (evalPart e X.env) (λu s'=>∃o H',Inv X pi σ H' s'/\IsPart u o/\Q o H') X.xe s
def bC1:TO:=λx H Q=>Q none H
def b09(t:TE):TO:=λσ H Q=>t σ H λx H1=>∃i,x=.int i/\Q (!i) H1
section
variable{te:TE}{lo hi:Option Expr}{tl th:TO}{p2:Pos}
def QX:PO X none bC1:=by
 intro pi s σ H Q I h;show au #[none,H,I,.none,h]
def QY(h:PE X e te):PO X (!e) (b09 te):=by
 intro pi s σ H Q I hw;show cG (h pi s σ H _ I hw) λu s1 bu=>?_;let#[x,H1,I1,r1,q1]:=bu;let#[i,rfl,q]:=q1;let#[t,rfl]:=r1;show#[!i,H1,I1,.int i t,q]
abbrev zc(X:Cx)(r:V->Option Int->Option Int->Hp->VK->Prop):Prop :=
 ∀(pi:@&(Addr×Obj)) (s:Shared) (σ:St) (H:Hp) (x:V) (v vl vu:Value) (lo hi:Option Int) (sl:Addr) (Q:VK),Inv X pi σ H s->RelV x v->s.heap.IsSliceOf sl vl vu .none->IsPart vl lo->IsPart vu hi->r x lo hi H Q ->
  ∃T id,typeLookup (.type T) "__getitem__"=pure (!.builtin id)/\s.TypeIs v T/\wpAny (model X.prog X.w) X.A (getItem v (.ref sl)) (EP X pi σ Q) X.xe s
def RN(r:V->Option Int->Option Int->Hp->VK->Prop)(te:TE)(tl th:TO):TE:=λσ H Q=>te σ H λx H1=>tl σ H1 λl H2=>th σ H2 λu H3=>r x l u H3 Q
def OO{r}(hr:zc X r)(he:PE X e te)(hl:PO X lo tl)(hu:PO X hi th):PE X (.Subscript e (.Slice lo hi none p2) pos) (RN r te tl th):=by
 intro pi s σ H Q I h;show Subscript_ (cG (he pi s σ H _ I h) λv s1 bu=>?_);let#[x,H1,I1,r1,q1]:=bu;show wpAny_Slice (cG (hl pi s1 σ H1 _ I1 q1) ?_);rintro vl s2 ⟨l,H2,I2,pl,q2⟩;show cG (hu pi s2 σ H2 _ I2 q2) λvu s3 bu=>?_;let#[u,H3,I3,pu,q3]:=bu;show au ?_;let I4:Inv X pi σ H3 { s3 with heap:=s3.heap.push { cls:=.type "slice",data:=.fields (List.toArray [vl,vu,.none]) } }:=I3.kept (t':=s3.toks) λb ob q=>ai _ q;let#[T,id,hT,ht,hg]:=hr pi { s3 with heap:=s3.heap.push { cls:=.type "slice",data:=.fields (List.toArray [vl,vu,.none]) } } σ H3 x v vl vu l u s3⁻¹ Q I4 r1 (Heap.IsSliceOf.new ..) pl pu q3;show tail_any ht hT hg (by rfl)
abbrev qD(xs:@&V)(lo hi:Option Int):@&V:=(xs.drop (HT.eK (-xs) 0 lo)).take (HT.eK (-xs) (-xs) hi-HT.eK (-xs) 0 lo)
def Nz(xs:@&V)(lo hi:Option Int):(qD xs lo hi).length<=-xs:=by
 unfold qD;rw[bE,mz];omega
abbrev Wr(K:PySem.W.Frag):V->Option Int->Option Int->Hp->VK->Prop:=λx lo hi H Q=>∃a xs,x=.ref a/\iR K H a xs /\
 ¬(HT.eK (-xs) 0 lo=0/\HT.eK (-xs) (-xs) hi=-xs)/\∀p,H p=none->Q (.ref p) (upd H p (.tup (qD xs lo hi)))
def bO1:zc X (Wr X.K):=by
 intro pi s σ H x v vl vu lo hi sl Q I rx hs pl pu h;let#[a,xs,rfl,hx,hw,q]:=h;cases rx;let#[aZ,r,ht,hz]:=I.tuple hx;let hlen:aZ.toArray.size=-xs:=by show r.length.symm
 show#["tuple",_,cc.lookup,ht.typeIs,?_];show HT.au4 ht hs pl pu (by rw[hlen];show hw) ?_ (by rw[hlen];show hz);rw[hlen];show#[.ref s⁻¹,_,I.laid (t':=s.toks) (λb ob q=>ai _ q) (av _) ?_,rfl,q _ (I.bR.fresh (av _))];show#[aC (Nz xs lo hi) hz,_,(r.drop (HT.eK (-xs) 0 lo)).take (HT.eK (-xs) (-xs) hi-HT.eK (-xs) 0 lo),V4.new _ _]
def b25(K:PySem.W.Frag):R2:=λx y H Q=>∃a b xs ys,x=.ref a/\y=.ref b/\iR K H a xs/\iR K H b ys/\xs≠[]/\-xs+-ys<=sizeLine /\
 (ys=[]->Q (.ref a) H)/\(ys≠[]->∀p,H p=none->Q (.ref p) (upd H p (.tup (xs++ys))))
def Vals.yB{xs}{us}(r:Vals xs us):us=[]↔xs=[]:=by
 cases r with
 |nil=>simp
 |cons _ _=>simp
def bH4:gj X (binaryOp .Add) (b25 X.K):=by
 intro pi s σ H x y v u Q I rx ry h;let#[a,b,xs,ys,rfl,rfl,ha,hb,hx,hz,q1,q2]:=h;cases rx;cases ry;let#[aZ,r1,p1,_]:=I.tuple ha;let#[mG,r2,p2,_]:=I.tuple hb;show HT.bK2 p1 p2 (λz=>hx (r1.yB.mp z)) (λz=>#[.ref a,H,I,rfl,q1 (r2.yB.mp z)]) (λz=>?_) (by rw[<- -r1,<- -r2];show hz);show#[.ref s⁻¹,_,I.laid (t':=s.toks) (λb ob q=>ai _ q) (av _) ?_,rfl,q2 (λw=>z (r2.yB.mpr w)) _ (I.bR.fresh (av _))];show#[by rw[cq];show hz,_,r1.append r2,V4.new _ _]
end
abbrev nM(n:Nat)(i:Int):Option Nat:=if 0<=i then(if i<n then some i.toNat else none) else if -(n:Int)<=i then some (i+n).toNat else none
abbrev iX{α:Type}(xs:List α)(i:Int):Option α:=(nM (-xs) i).bind λj=>xs[j]?
def QL{i}{j}(h:nM n i=!j):seqIndex? i n=!j/\j<n/\-(n:Int)<=i/\i<n:=by
 unfold nM at h;by_cases h0:0<=i
 .rw[aM h0] at h;by_cases h1:i<n
  .rw[aM h1] at h;let e:=aO h;show#[by rw[seqIndex_of h0 h1,e],by omega,by omega,h1]
  simp_all
 .rw[aI h0] at h;by_cases h1:-(n:Int)<=i
  .rw[aM h1] at h;let e:=aO h;show#[by rw[seqIndex_neg () h1,e],by omega,h1,by omega]
  simp_all
def Qv{xs:List α}{i:Int}{v:α}(h:iX xs i=!v):∃j,seqIndex? i (-xs)=!j/\xs[j]?=!v/\j< -xs/\-(-xs:Int)<=i/\i< -xs:=by
 unfold iX at h;cases e:nM (-xs) i with
 |none=>simp_all
 |some j =>
  rw[e] at h;let#[h1,h2,h3,h4]:=QL e;show#[j,h1,h,h2,h3,h4]
def D9{xs:List α}{j:Nat}{v:α}(h:xs[j]?=!v):iX xs (j:Int)=!v:=by
 let hj:=(ak.mp h).1;let e:nM (-xs) (j:Int)=!j:=by
  unfold nM
  simp_all
 unfold iX;rw[e];show h
def HW(b:Expr):Prop:=∀o i,subscripted b false o i=operate [o,i] (getItem o i)
abbrev vU(X:Cx)(r:R2):Prop :=
 ∀(value slice:Expr) (pi:@&(Addr×Obj)) (s:Shared) (σ:St) (H:Hp) (x y:V) (v u:Value) (Q:VK),Inv X pi σ H s->RelV x v->RelV y u->r x y H Q ->
  subscripted slice false v u=operate [v,u] (getItem v u)->wpAny (model X.prog X.w) X.A (subscriptTail value slice v u) (EP X pi σ Q) X.xe s
abbrev mj(X:Cx)(id:String)(r:V->@&V->Hp->VK->Prop):Prop :=
 ∀(pi:@&(Addr×Obj)) (s:Shared) (σ:St) (H:Hp) (x:V) (xs:@&V) (v:Value) (us:@&Value) (Q:VK),Inv X pi σ H s->RelV x v->Vals xs us->r x xs H Q ->
  wpAny (model X.prog X.w) X.A (call (.builtin id) (v::us)) (EP X pi σ Q) X.xe s
section
variable{a b:Expr}{ta tb:TE}
def Lq{r}(hr:vU X r)(ha:PE X a ta)(hb:PE X b tb)(hs:HW b):PE X (.Subscript a b pos) (rm r ta tb):=by
 intro pi s σ H Q I h;show Subscript_ (Fx ha hb I h λv u s2 x y H2 I2 rx ry q=>hr a b pi s2 σ H2 x y v u Q I2 rx ry q (hs _ _))
def Wj(K:PySem.W.Frag):R2:=λx y H Q=>∃p xs i v,x=.ref p/\y=.int i/\fJ K H p xs/\iX xs i=!v/\Q v H
def Wk(K:PySem.W.Frag):R2:=λx y H Q=>∃p xs i v,x=.ref p/\y=.int i/\iR K H p xs/\iX xs i=!v/\Q v H
def bI8:vU X (Wj X.K):=by
 intro value slice pi s σ H x y v u Q I rx ry h hs;let#[p,xs,i,z,rfl,rfl,hq,he,q]:=h;cases rx;let#[t,rfl]:=ry;let#[aZ,r,pl,hz]:=I.list hq;let#[j,h1,h2,h3,h4,h5]:=Qv he;let#[w,ew,fN]:=r.get h2;let hl:=-r;let hn:=BG;let fin:EP X pi σ Q w s:=#[z,H,I,fN,q]
 by_cases h0:0<=i
 .let hj:i.toNat=j:=by
   rw[seqIndex_of h0 h5] at h1;show aO h1
  show item_listR pl.isList h0 () (by rw[hj];simpa using ew) fin hs
 .let hj:(i+(aZ.toArray.size:Int)).toNat=j:=by
   rw[seqIndex_neg () h4] at h1;rw[aS,<- hl];show aO h1
  show subscriptTail_builtinR pl.isList.typeIs slot_list_getitem.lookup
   (wpAny_getItem_list_neg pl.isList () (by rw[aS]<;>omega) () (by rw[hj];simpa using ew) #[rfl,fin]) hs
def bW4:vU X (Wk X.K):=by
 intro value slice pi s σ H x y v u Q I rx ry h hs;let#[p,xs,i,z,rfl,rfl,hq,he,q]:=h;cases rx;let#[t,rfl]:=ry;let#[aZ,r,pl,hz]:=I.tuple hq;let#[j,h1,h2,h3,h4,h5]:=Qv he;let#[w,ew,fN]:=r.get h2;let hl:=-r;let hn:=BG;let fin:EP X pi σ Q w s:=#[z,H,I,fN,q]
 show subscriptTail_builtinR pl.typeIs slot_tuple_getitem.lookup
  (getItem_tuple pl () () (by rw[aS,<- hl];show h1) (_/ew) #[rfl,fin]) hs
def a68(aZ:@&Value)(n j:Nat)(u:Value):Obj.mapSeq (·.setIfInBounds j u) { cls:=.type "list",data:=.seq aZ.toArray n }={ cls:=.type "list",data:=.seq (aZ.set j u).toArray n }:=by
 simp[Obj.mapSeq]
def Inv.lst{pi:@&(Addr×Obj)}{σ:St}{H:Hp}{s:Shared}{p:Addr}{xs:@&V}(I:Inv X pi σ H s)(h:H p=!.lst xs) :
  ∃(aZ:@&Value) (n:Nat),Vals xs aZ/\s.heap.get? p=some { cls:=.type "list",data:=.seq aZ.toArray n }/\-xs<=sizeLine:=by
 let#[z,aZ,n,r,e]:=I.bR p _ h;show#[aZ,n,r,e,z]
def Inv.bV2{p}{xs ys}{its'}{n'}{f}(I:Inv X pi σ H s)(h:H p=!.lst xs)(ho:s.heap.get? p=some { cls:=.type "list",data:=.seq aZ.toArray n })(hf:f { cls:=.type "list",data:=.seq aZ.toArray n }={ cls:=.type "list",data:=.seq its'.toArray n' })(r:Vals ys its')(hz:-ys<=sizeLine)(t:Nat) :
  Inv X pi σ (upd H p (.lst ys)) { s with heap:=s.heap.update p f,toks:=t }:=by
 let e:(s.heap.update p f).get? p=some { cls:=.type "list",data:=.seq its'.toArray n' }:=by
  rw[bf f ho (by rw[hf]<;>rfl),hf]
 show I.write (by rw[h];trivial) (.inl rfl) (λb u hb q=>(cC _ _ (aX hb)).trans q) #[_,e] ?_;show#[hz,its',n',r,e]
abbrev b23:V->V->V->Hp->(Hp->Prop)->Prop:=λo i v H Q=>∃p xs k j,o=.ref p/\i=.int k/\H p=!.lst xs/\nM (-xs) k=!j/\Q (upd H p (.lst (xs.set j v)))
def set_list:Fq X b23:=by
 intro pi s σ H o i v ov iv u Q I ro ri rv h;let#[p,xs,k,j,rfl,rfl,hp,hj,q]:=h;cases ro;let#[t,rfl]:=ri;let#[aZ,n,r,ho,hz]:=I.lst hp;let#[h1,h2,h3,h4]:=QL hj;let hl:=-r;let hn:=BG;let I':Inv X pi σ (upd H p (.lst (xs.set j v))) { s with heap:=s.heap.update p (Obj.mapSeq (·.setIfInBounds j u)) } :=
  I.bV2 hp ho (a68 aZ n j u) (r.set rv j) (by rw[gk];show hz) s.toks
 by_cases h0:0<=k
 .let hk:k.toNat=j:=by
   rw[seqIndex_of h0 h4] at h1;show aO h1
  show PySem.W.ki_setAt ho h0 () (by rw[aS,<- hl];show h4) (by rw[hk];show#[_,I',q])
 .let hk:(k+(aZ.toArray.size:Int)).toNat=j:=by
   rw[seqIndex_neg () h3] at h1;rw[aS,<- hl];show aO h1
  show PySem.W.ki_setBack ho () (by rw[aS,<- hl];show h3) () (by rw[hk];show#[_,I',q])
def aQ2(lo hi:Option Int)(n:Nat):(sliceBounds lo hi none n).1=((HT.eK n 0 lo:Nat):Int)/\(sliceBounds lo hi none n).2.1=((HT.eK n n hi:Nat):Int)/\(sliceBounds lo hi none n).2.2=1:=by
 show#[?_,?_,rfl]
 .cases lo with
  |none=>rfl
  |some i =>
   simp only[sliceBounds,HT.eK,Option.getD_none,show(1:Int)>0 by decide,if_true]
   grind
 .cases hi with
  |none=>rfl
  |some i =>
   simp only[sliceBounds,HT.eK,Option.getD_none,show(1:Int)>0 by decide,if_true]
   grind
def aL0(aZ:@&Value)(lo hi:Option Int):slicePick aZ.toArray lo hi none=((aZ.drop (HT.eK (-aZ) 0 lo)).take (HT.eK (-aZ) (-aZ) hi-HT.eK (-aZ) 0 lo)).toArray:=by
 let#[h1,h2,h3]:=aQ2 lo hi aZ.toArray.size;unfold slicePick;rw[h1,h2,h3];simp only[sliceRange_one,pick_run,List.size_toArray]<;>rfl
abbrev Wq(K:PySem.W.Frag):V->Option Int->Option Int->Hp->VK->Prop:=λx lo hi H Q=>∃a xs,x=.ref a/\fJ K H a xs/\∀p,H p=none->Q (.ref p) (upd H p (.lst (qD xs lo hi)))
def bD1:zc X (Wq X.K):=by
 intro pi s σ H x v vl vu lo hi sl Q I rx hs pl pu h;let#[a,xs,rfl,hx,q]:=h;cases rx;let#[aZ,r,ht,hz]:=I.list hx;let hlen:=-r;show#["list",_,slot_list_getitem.lookup,ht.isList.typeIs,?_];show wpAny_getItem_list_slice ht.isList hs pl pu .none #[_] ?_ (by grind);rw[aL0,<- hlen];show#[.ref s⁻¹,_,I.laid (t':=s.toks) (λb ob q=>ai _ q) (av _) ?_,rfl,q _ (I.bR.fresh (av _))];show#[aC (Nz xs lo hi) hz,_,0,(r.drop (HT.eK (-xs) 0 lo)).take (HT.eK (-xs) (-xs) hi-HT.eK (-xs) 0 lo),aD _ rfl]
abbrev O9:V->Bool
 |.bq=>true
 |.bl _=>true
 |.int _=>true
 |.str _=>true
 |_=>false
abbrev lM:V->V->Bool
 |.bq,.bq=>true
 |.bl a,.bl b=>a==b
 |.bl a,.int b=>(if a then 1 else 0)==b
 |.int a,.bl b=>a==(if b then 1 else 0)
 |.int a,.int b=>a==b
 |.str a,.str b=>a==b
 |_,_=>false
def bX6{v}(ry:RelV y u)(rx:RelV x v)(fy:O9 y=true)(fx:O9 x=true):SeqAt.EqAt A s u v (lM y x):=by
 cases y with
 |bq =>
  cases ry;cases x with
  |bq=>cases rx;show SeqAt.EqAt.same _
  |bl b=>cases rx;show SeqAt.EqAt.none_bool b
  |int b=>let#[t,rfl]:=rx;show SeqAt.EqAt.none_int b t
  |str b=>let#[t,rfl]:=rx;show SeqAt.EqAt.none_str b t
  |_=>show absurd (show false=true from fx) Bool.false_ne_true
 |bl a =>
  cases ry;cases x with
  |bq=>cases rx;show SeqAt.EqAt.bool_none a
  |bl b=>cases rx;show SeqAt.EqAt.bool_bool a b
  |int b=>let#[t,rfl]:=rx;show SeqAt.EqAt.bool_int a b t
  |str b=>let#[t,rfl]:=rx;show SeqAt.EqAt.bool_str a b t
  |_=>show absurd (show false=true from fx) Bool.false_ne_true
 |int a =>
  let#[t',rfl]:=ry;cases x with
  |bq=>cases rx;show SeqAt.EqAt.int_none a t'
  |bl b=>cases rx;show SeqAt.EqAt.int_bool a t' b
  |int b=>let#[t,rfl]:=rx;show SeqAt.EqAt.int_int a t' b t
  |str b=>let#[t,rfl]:=rx;show SeqAt.EqAt.int_str a t' b t
  |_=>show absurd (show false=true from fx) Bool.false_ne_true
 |str a =>
  let#[t',rfl]:=ry;cases x with
  |bq=>cases rx;show SeqAt.EqAt.str_none a t'
  |bl b=>cases rx;show SeqAt.EqAt.str_bool a t' b
  |int b=>let#[t,rfl]:=rx;show SeqAt.EqAt.str_int a t' b t
  |str b=>let#[t,rfl]:=rx;show SeqAt.EqAt.str_str a t' b t
  |_=>show absurd (show false=true from fx) Bool.false_ne_true
 |_=>show absurd (show false=true from fy) cu
def nk(x:V)(u:Value):Bool:=match u with
 |.none=>lM .bq x
 |.bool b=>lM (.bl b) x
 |.int i _=>lM (.int i) x
 |.str z _=>lM (.str z) x
 |_=>false
def BC(r:RelV y u)(f:O9 y=true):nk x u=lM y x:=by
 cases y with
 |bq=>cases r;rfl
 |bl b=>cases r;rfl
 |int i=>let#[t,rfl]:=r;rfl
 |str z=>let#[t,rfl]:=r;rfl
 |_=>show absurd (show false=true from f) cu
def HZ{x}:∀{xs:@&V} {us:@&Value},Vals xs us->xs.all O9=true->us.any (nk x)=xs.any λy=>lM y x
 |_,_,.nil,_=>rfl
 |y::xs,u::us,.cons r t,f=>by
  rw[iq,bj] at f;rw[ik,ik,BC r f.1,HZ t f.2]
def AN{A}{s}{x}{v}(rx:RelV x v)(fx:O9 x=true):∀{xs:@&V} {us:@&Value},Vals xs us->xs.all O9=true->∀u∈us,SeqAt.EqAt A s u v (nk x u)
 |_,_,.nil,_=>λu hu=>by cases hu
 |y::xs,u::us,.cons r t,f=>λu' hu=>by
  rw[iq,bj] at f;rcases aJ.mp hu with rfl|hu
  .rw[BC r f.1];show bX6 r rx f.1 fx
  .exact AN rx fx t f.2 u' hu
def zO(x:V)(xs:@&V):Bool:=xs.any λy=>lM y x
def CA(K:PySem.W.Frag)(neg:Bool):R2:=λx y H Q=>∃p xs,y=.ref p/\(fJ K H p xs\/iR K H p xs)/\O9 x=true/\xs.all O9=true/\Q (.bl (if neg then ~~~zO x xs else zO x xs)) H
def aS0:gj X (compareOp .NotIn) (CA X.K true):=by
 intro pi s σ H x y v u Q I rx ry h;let#[p,xs,rfl,hq,fx,fs,q]:=h;cases ry;rcases hq with hq|hq
 .let#[aZ,r,pl,hz]:=I.list hq;show SeqAt.notIn_listAt (nk x) pl.isList (λw hw=>AN rx fx r fs w (_/hw)) #[.bl _,H,I,rfl,?_];rw[show aZ.toArray.any (nk x)=aZ.any (nk x) by simp,HZ r fs];show q
 .let#[aZ,r,pl,hz]:=I.tuple hq;show SeqAt.notIn_tupleAt (nk x) pl (λw hw=>AN rx fx r fs w (_/hw)) #[.bl _,H,I,rfl,?_];rw[show aZ.toArray.any (nk x)=aZ.any (nk x) by simp,HZ r fs];show q
def aV4:u3 X (.builtin "len") (λxs H Q=>∃p ys,xs=[.ref p]/\(fJ X.K H p ys\/iR X.K H p ys)/\Q (.int (-ys)) H):=by
 intro pi s σ H xs us Q I r h;let#[p,ys,rfl,hq,q]:=h;let#[u,rfl,rx]:=vals1 r;cases rx;let hn:=BG;rcases hq with hq|hq
 .let#[aZ,r',pl,hz]:=I.list hq;let hlen:=-r';show Calls.call_len_list pl.isList (by simp only[List.size_toArray]<;>omega) #[.int (-ys),H,I.tok _,#[s.toks+1,by rw[aS,hlen]],q]
 .let#[aZ,r',pl,hz]:=I.tuple hq;let hlen:=-r';show len_tuple pl (by simp only[List.size_toArray]<;>omega) #[.int (-ys),H,I.tok _,#[s.toks+1,by rw[aS,hlen]],q]
def aV3:u3 X (.type "list") (λxs H Q=>∃p ys,xs=[.ref p]/\(fJ X.K H p ys\/iR X.K H p ys)/\∀l,H l=none->Q (.ref l) (upd H l (.lst ys))):=by
 intro pi s σ H xs us Q I r h;let#[p,ys,rfl,hq,q]:=h;let#[u,rfl,rx]:=vals1 r;cases rx;let fin:∀(aZ:@&Value),Vals ys aZ->-ys<=sizeLine->∀(h':Heap) (c':Nat),(∀b o',s.heap.get? b=!o'->h'.get? b=!o') ->
   h'.get? s⁻¹=some { cls:=.type "list",dict:=none,data:=.seq aZ.toArray c',slots:=(List.toArray []) }->EP X pi σ Q (.ref s⁻¹) { s with heap:=h' }:=λaZ r' hz h' c' kp e =>
  #[.ref s⁻¹,_,I.laid (t':=s.toks) kp (av _) (show q9 X.prog X.w _ h' _ (.lst ys) from#[hz,aZ,c',r',e]),rfl,q _ (I.bR.fresh (av _))]
 rcases hq with hq|hq
 .let#[aZ,r',pl,hz]:=I.list hq;let hlen:=-r';let#[o,ho,hc,n,hd]:=pl.isList;show call_list_seq p (.inl rfl) ho hc hd (λh' c' kp e=>fin aZ r' hz h' c' kp e) (by simp_all)
 .let#[aZ,r',pl,hz]:=I.tuple hq;let hlen:=-r';let#[o,ho,hc,n,hd]:=pl;show call_list_seq p (.inr rfl) ho hc hd (λh' c' kp e=>fin aZ r' hz h' c' kp e) (by simp_all)
def aL9:u3 X (.type "tuple") (λxs H Q=>∃p ys,xs=[.ref p]/\((fJ X.K H p ys/\∀l,H l=none->Q (.ref l) (upd H l (.tup ys)))\/(iR X.K H p ys/\Q (.ref p) H))):=by
 intro pi s σ H xs us Q I r h;let#[p,ys,rfl,h]:=h;let#[u,rfl,rx]:=vals1 r;cases rx;rcases h with⟨hq,q⟩|⟨hq,q⟩
 .let#[aZ,r',pl,hz]:=I.list hq;let hlen:=-r';show call_tuple_list pl.isList (λh' kp=>?_) (by simp_all);let I1:=I.kept (t':=s.toks) kp;let I2:Inv X pi σ (upd H h'.objs.size (.tup ys)) { s with heap:=h'.push { cls:=.type "tuple",data:=.seq aZ.toArray } } :=
   I1.laid (t':=s.toks) (λb o e=>ai _ e) (av _) (show q9 X.prog X.w _ _ _ (.tup ys) from#[hz,aZ,r',V4.new _ _])
  show#[.ref h'.objs.size,_,I2,rfl,q _ (I1.bR.fresh (av _))]
 .let#[aZ,r',pl,hz]:=I.tuple hq;show call_tuple_same pl #[.ref p,H,I,rfl,q]
def oK(K:PySem.W.Frag)(T:String)(x:V)(H:Hp):Prop:=match x with
 |.str _=>T="str"
 |.int _=>T="int"
 |.ref p=>(T="list"/\∃xs,fJ K H p xs)\/(T="tuple"/\∃o,K.lookup p=!o/\o.cls=.type "tuple"/\o.dict=none) \/
   (T="dict"/\((∃kvs,H p=!.dK kvs)\/∃kvs,H p=!.dT kvs))\/(T="set"/\∃S n,H p=!.set S n)
 |_=>False
def Mv{T}{v}(I:Inv X pi σ H s)(r:RelV x v)(ty:oK X.K T x H) :
  s.TypeIs v T/\∀a,v=.ref a->∃ob,s.heap.get? a=!ob/\ob.dict=none:=by
 cases x with
 |str z =>
  let#[t,rfl]:=r;cases (show T="str" from ty);show#[typeIs_str s z t,λy e=>nomatch e]
 |int i =>
  let#[t,rfl]:=r;cases (show T="int" from ty);show#[typeIs_int s i t,λy e=>nomatch e]
 |ref p =>
  cases r;rcases ty with⟨rfl,xs,hq⟩|⟨rfl,o,hk,hc,hd⟩|⟨rfl,hk⟩|⟨rfl,S,n,hk⟩
  .let#[aZ,_,pl,_]:=I.list hq;show#[pl.isList.typeIs,λa e=>?_];cases e;let#[o,n,e,c,hd,_]:=pl;show#[o,e,hd]
  .refine#[#[o,I.gN p o hk,hc],λa e=>?_];cases e;show#[o,I.gN _ o hk,hd]
  .let z:∃o,s.heap.get? p=!o/\o.ExactDict:=by
    rcases hk with⟨kvs,hk⟩|⟨kvs,hk⟩
    .let#[_,_,_,_,o,_,_,e,ex,_]:=I.bR p _ hk;show#[o,e,ex]
    .let#[_,_,_,_,o,_,_,e,ex,_]:=I.bR p _ hk;show#[o,e,ex]
   let#[o,e,ex]:=z;show#[#[o,e,ex.1],λa e2=>?_];cases e2;show#[o,e,ex.2.1]
  .let#[o,_,_,_,e,ex,_]:=I.bR p _ hk;show#[#[o,e,ex.1],λa e2=>?_];cases e2;show#[o,e,ex.2.1]
 |_=>show False.elim ty
def WD(K:PySem.W.Frag)(T:String)(r:V->@&V->Hp->VK->Prop)(to:TE):TE:=λσ H Q=>to σ H λx H1=>oK K T x H1/\r x [] H1 Q
def RQ(K:PySem.W.Frag)(T:String)(r:V->@&V->Hp->VK->Prop)(to:TE)(t:TA):TE:=λσ H Q=>to σ H λx H1=>oK K T x H1/\t σ H1 λxs H2=>r x xs H2 Q
variable{o:Expr}{es:@&Expr}{to:TE}{t:TA}{name:Str}{apos eY:Pos}{T id:String}{r:V->@&V->Hp->VK->Prop}
def bS6(pa:PlainAttrs T)(slot:Slot T name id)(tF:typeOf (.builtin id)=pure (.type "method_descriptor"))(hm:mj X id r)(ho:PE X o to)(fS:attributeBase o name X.env (eval o X.env)=eval o X.env:=by rfl)(fR:(apos.endLine==eY.line)=true:=by rfl):PE X (.Call (.Attribute o name apos) [] [] eY) (WD X.K T r to):=by
 intro pi s σ H Q I h;show wpAny_Call_method0_late fS fR (cG (ho pi s σ H _ I h) λv s1 bu=>?_);let#[x,H1,I1,r1,ty,q1]:=bu;let#[h1,h2]:=Mv I1 r1 ty;show#[T,id,pa,slot,tF,h1,h2,jV rfl (Jc (hm pi s1 σ H1 x [] v [] Q I1 r1 .nil q1))]
def b33(pa:PlainAttrs T)(slot:Slot T name id)(tF:typeOf (.builtin id)=pure (.type "method_descriptor"))(hm:mj X id r)(ho:PE X o to)(ha:PA X (e::es) t)(fS:attributeBase o name X.env (eval o X.env)=eval o X.env:=by rfl)(lH:((backTo eY (starEach (e :: es) X.env)).all (λx=>~~~x.1) && (backToKw eY (keywordEach [] X.env)).all (λx=>x.1.isSome)
   && decide ((e :: es).length + ([]:@&Keyword).length + (if ([]:@&Keyword).isEmpty then 0 else 1) < 30))=true:=by rfl)(fR:(apos.endLine==eY.line)=true:=by rfl)(hs:starEach (e::es) X.env=(false,eval e X.env)::starEach es X.env:=by rfl)(fq:(backTo eY (starEach es X.env)).any (·.1)=false:=by rfl) :
  PE X (.Call (.Attribute o name apos) (e::es) [] eY) (RQ X.K T r to t):=by
 intro pi s σ H Q I h;show wpAny_Call_method_late fS lH fR rfl (cG (ho pi s σ H _ I h) λv s1 bu=>?_);let#[x,H1,I1,r1,ty,q1]:=bu;let#[h1,h2]:=Mv I1 r1 ty;show#[T,id,pa,slot,tF,h1,h2,?_];let hA:=ha eY pi s1 σ H1 _ I1 q1;rw[hs] at hA ⊢;show jV (by show(false||(backTo eY (starEach es X.env)).any (·.1))=false;rw[fq]<;>rfl) (lC ?_);show cG hA (by rintro us s2 ⟨vs,H2,I2,r2,q2⟩;show hm pi s2 σ H2 x vs v us Q I2 r1 r2 q2)
end
abbrev BS(X:Cx)(id:String)(r:V->@&V->Hp->VK->Prop):Prop :=
 ∀(pi:@&(Addr×Obj)) (s:Shared) (σ:St) (H:Hp) (x:V) (xs:@&V) (v:Value) (us:@&Value) (Q:VK),Inv X pi σ H s->RelV x v->Vals xs us->r x xs H Q ->
  wpAny (model X.prog X.w) X.A (call (.builtin id) (v::us)) (EP X pi σ Q) X.xe s
def Vals.one{us}(h:Vals [x] us):∃u,us=[u]/\RelV x u:=by
 cases h with
 |cons r h =>
  cases h;show#[_,rfl,r]
def Vals.zero:∀{us:@&Value},Vals [] us->us=[]
 |_,.nil=>rfl
def Vals.dropLast{xs}{us}(h:Vals xs us):Vals xs.dropLast us.dropLast:=by
 induction h with
 |nil=>show .nil
 |cons r t ih =>
  cases t with
  |nil=>show .nil
  |cons q t'=>show .cons r ih
def Vals.eraseIdx:∀{xs:@&V} {us:@&Value} (i:Nat),Vals xs us->Vals (xs.eraseIdx i) (us.eraseIdx i)
 |_,_,_,.nil=>.nil
 |_,_,0,.cons _ t=>t
 |_,_,i+1,.cons r t=>.cons r (Vals.eraseIdx i t)
def Vals.reverse{xs}{us}(h:Vals xs us):Vals xs.reverse us.reverse:=by
 induction h with
 |nil=>show .nil
 |cons r t ih=>rw[hU,hU];show Vals.append ih (.cons r .nil)
def Vals.rep{xs}{us}(h:Vals xs us):∀k:Nat,Vals (List.replicate k xs).flatten (List.replicate k us).flatten
 |0=>.nil
 |k+1=>by
  show Vals.append h (Vals.rep h k)
def PD{α:Type}:∀(l:List α) (i:Nat),(l.eraseIdx i).length<=-l
 |[],_=>av _
 |_::_,0=>eG _
 |_::r,i+1=>Nat.succ_le_succ (PD r i)
def foldl_rep(aZ:@&Value):∀(k:Nat) (acc:@&Value),
  List.foldl (λx1 x2=>x1++x2) acc.toArray (List.replicate k aZ.toArray)=(acc++(List.replicate k aZ).flatten).toArray
 |0,acc=>by simp
 |k+1,acc=>by
  let e:acc.toArray++aZ.toArray=(acc++aZ).toArray:=by simp
  let e2:(acc++aZ)++(List.replicate k aZ).flatten=acc++(List.replicate (k+1) aZ).flatten:=by
   rw[Je,List.flatten_cons,hV]
  rw[<- e2,<- foldl_rep aZ k (acc++aZ),<- e,Je,List.foldl_cons]
section
variable{l:Addr}{xs ys:@&V}
def Inv.oy{its'}{f}{t'}(I:Inv X pi σ H s)(hH:H l=!.lst xs)(e:s.heap.get? l=some { cls:=.type "list",data:=.seq aZ.toArray n })(hf:f aZ.toArray=its'.toArray)(hv:Vals ys its')(hz:-ys<=sizeLine) :
  Inv X pi σ (upd H l (.lst ys)) { s with heap:=s.heap.update l (Obj.mapSeq f),toks:=t' }:=by
 let q:=PySem.IsL.update e f;rw[hf] at q;show I.write (by rw[hH];show trivial) (.inl rfl) (λb' u hb hu=>(cC s.heap (Obj.mapSeq f) (aX hb)).trans hu) #[_,q] ?_;show#[hz,its',_,hv,q]
def Inv.MM{t'}(I:Inv X pi σ H s)(hv:Vals ys aZ)(hz:-ys<=sizeLine) :
  Inv X pi σ (upd H s⁻¹ (.lst ys)) { s with heap:=s.heap.push { cls:=.type "list",data:=.seq aZ.toArray },toks:=t' } :=
 I.laid (λx x q=>ai _ q) (av _) #[hz,aZ,0,hv,aD _ rfl]
def Inv.fresh(I:Inv X pi σ H s):H s⁻¹=none:=I.bR.fresh (av _)
def Inv.ur(I:Inv X pi σ H s)(hH:H l=!.lst xs):-xs<=sizeLine/\∃(aZ:@&Value) (n:Nat),Vals xs aZ/\-xs=-aZ/\s.heap.get? l=some { cls:=.type "list",data:=.seq aZ.toArray n }:=by
 let#[z,aZ,n,r,e]:=I.bR l _ hH;show#[z,aZ,n,r,(-r),e]
def XN(h:n<=sizeLine):Builtin.List.listTooLong n=false:=by
 unfold Builtin.List.listTooLong
 simp_all
end
abbrev bF0:V->@&V->Hp->VK->Prop:=λx vs H Q=>∃l xs y,x=.ref l/\vs=[y]/\H l=!.lst xs/\-xs<sizeLine/\Q .bq (upd H l (.lst (xs++[y])))
def ZI:BS X "list.append" bF0:=by
 intro pi s σ H x vs v us Q I rx rv h;let#[l,xs,y,rfl,rfl,hH,hz,q]:=h;cases rx;let#[u,rfl,ru]:=rv.one;let#[z,aZ,n,r,hl,e]:=I.ur hH;show ei F.slot_list_append #[_,e,rfl] F.entry_list_append (F.args_list_append_2 _ _) (PySem.list_append l aZ.toArray n u (by grind)) #[e,?_];show#[.bq,_,I.oy (its':=aZ++[u]) hH e #[_] (r.append (.cons ru .nil)) ?_,rfl,q]
 grind
abbrev Wl:V->@&V->Hp->VK->Prop:=λx vs H Q=>∃l xs y,x=.ref l/\vs=[]/\H l=!.lst xs/\xs[(-xs)-1]?=!y/\Q y (upd H l (.lst xs.dropLast))
def bU9:BS X "list.pop" Wl:=by
 intro pi s σ H x vs v us Q I rx rv h;let#[l,xs,y,rfl,rfl,hH,hy,q]:=h;cases rx;let Df:=rv.zero;subst Df;let#[z,aZ,n,r,hl,e]:=I.ur hH;let#[u,hu,ru]:=r.get hy;let SR:aZ.toArray[aZ.toArray.size-1]?=!u:=by
  change aZ.toArray[(-aZ)-1]?=!u;rw[<- js,<- hl];show hu
 show ei F.slot_list_pop #[_,e,rfl] F.entry_list_pop (F.args_list_pop_1 _) (MeetsSeq.list_pop_last l aZ.toArray n u SR (by rw[aS];omega)) #[e,?_];show#[y,_,I.oy (its':=aZ.dropLast) hH e ?_ r.dropLast ?_,ru,q]
 .simp
 .rw[List.length_dropLast];omega
abbrev bQ3:V->@&V->Hp->VK->Prop:=λx vs H Q=>∃l xs i k y,x=.ref l/\vs=[.int i]/\H l=!.lst xs/\-(2 ^ 63)<=i/\i<2 ^ 63/\seqIndex? i (-xs)=!k/\xs[k]?=!y/\Q y (upd H l (.lst (xs.eraseIdx k)))
def XI:BS X "list.pop" bQ3:=by
 intro pi s σ H x vs v us Q I rx rv h;let#[l,xs,i,k,y,rfl,rfl,hH,h1,h2,hk,hy,q]:=h;cases rx;let#[u,rfl,ru]:=rv.one;let#[t,rfl]:=ru;let#[z,aZ,n,r,hl,e]:=I.ur hH;let#[w,hw,fN]:=r.get hy;show ei F.slot_list_pop #[_,e,rfl] F.entry_list_pop (F.args_list_pop_2 _ _)
  (MeetsSeq.list_pop_at l aZ.toArray n i t k w (fitsIndex_both h1 h2) (by rw[aS,<- hl];show hk) (by simp_all) (by rw[aS];omega)) #[e,?_]
 show#[y,_,I.oy (its':=aZ.eraseIdx k) hH e ?_ (r.eraseIdx k) ?_,fN,q]
 .simp
 .have:=PD xs k;omega
abbrev bQ4:V->@&V->Hp->VK->Prop:=λx vs H Q=>∃l xs,x=.ref l/\vs=[]/\H l=!.lst xs/\Q .bq (upd H l (.lst []))
def XH:BS X "list.clear" bQ4:=by
 intro pi s σ H x vs v us Q I rx rv h;let#[l,xs,rfl,rfl,hH,q]:=h;cases rx;let Df:=rv.zero;subst Df;let#[z,aZ,n,r,hl,e]:=I.ur hH;show ei F.slot_list_clear #[_,e,rfl] F.entry_list_clear (F.args_list_clear_1 _) (AutoSeq1.list_clear_list_0 l aZ.toArray n (by rw[aS];omega)) #[e,?_];show#[.bq,_,I.oy (its':=[]) hH e rfl .nil (cj _),rfl,q]
def Wi:R2:=λx y H Q=>∃l b xs zs,x=.ref l/\y=.ref b/\H l=!.lst xs/\H b=!.lst zs/\-xs+-zs<=sizeLine/\∀p,H p=none->Q (.ref p) (upd H p (.lst (xs++zs)))
def bU0:gj X (binaryOp .Add) Wi:=by
 intro pi s σ H x y v u Q I rx ry h;let#[l,b,xs,zs,rfl,rfl,hH,hB,hz,q]:=h;cases rx;cases ry;let#[z,aZ,n,r,hl,e]:=I.ur hH;let#[z2,mG,n2,r2,qe,e2]:=I.ur hB;show PySem.P.add_list e e2 ?_ (by rw[aS,aS];omega);let ea:aZ.toArray++mG.toArray=(aZ++mG).toArray:=by simp
 rw[ea];show#[.ref _,_,I.MM (t':=s.toks) (r.append r2) (by rw[cq];omega),rfl,q _ I.fresh]
def Wm:R2:=λx y H Q=>∃l k xs,x=.ref l/\y=.int k/\H l=!.lst xs/\-(2 ^ 63)<=k/\k<2 ^ 63/\-xs*k.toNat<=sizeLine /\
 ∀p,H p=none->Q (.ref p) (upd H p (.lst (List.replicate k.toNat xs).flatten))
def len_rep(xs:List α)(k:Nat):(List.replicate k xs).flatten.length=k*-xs:=by
 simp
def bT5:gj X (binaryOp .Mult) Wm:=by
 intro pi s σ H x y v u Q I rx ry h;let#[l,k,xs,rfl,rfl,hH,h1,h2,hz,q]:=h;cases rx;let#[t,rfl]:=ry;let#[z,aZ,n,r,hl,e]:=I.ur hH;let hlen:aZ.toArray.size*k.toNat<=sizeLine:=by rw[aS,<- hl];show hz
 let DE:¬aZ.toArray.size*k.toNat>(2 ^ 63-1) / 8:=by
  have:(sizeLine:Nat)<=(2 ^ 63-1) / 8:=by decide
  omega
 let DA:¬(~~~Builtin.List.listFitsIndex k)=true:=by
  rw[fitsIndex_both h1 h2];show cu
 let xb:¬Builtin.List.listTooLong (aZ.toArray.size*k.toNat)=true:=by
  rw[XN hlen];show cu
 let kT:List.foldl (λx1 x2=>x1++x2) (List.toArray []) (List.replicate (if aZ.toArray.isEmpty=true then 0 else k.toNat) aZ.toArray)=(List.replicate k.toNat aZ).flatten.toArray:=by
  let f0:∀m:Nat,List.foldl (λx1 x2=>x1++x2) (List.toArray []) (List.replicate m aZ.toArray)=(List.replicate m aZ).flatten.toArray:=λm=>by
   have:=foldl_rep aZ m []
   simp_all
  rw[f0];cases aZ with
  |nil=>simp
  |cons a r'=>rfl
 show wpAny_binaryOp_repeat_ref ∅ #[_,e,rfl] (λs'=>typeIs_int s' k t) noFill_list_mul F.fills_int_mul F.slot_int_rmul repeat_list F.slot_int_index.lookup
  (ei F.slot_int_rmul (typeIs_int s k t) F.entry_int_rmul (F.args_int_rmul_2 _ _) (int___rmul___int_list k t l aZ.toArray n)
   #[e,rfl,#[_,e,rfl],ei F.slot_list_mul #[_,e,rfl] F.entry_list_mul (F.args_list_mul_2 _ _) (AutoListH.list___mul___list_int_3 l aZ.toArray n k t DA DE xb) #[e,?_]])
 rw[kT];show#[.ref _,_,I.MM (t':=s.toks) (r.rep k.toNat) (by rw[len_rep,Nat.mul_comm];show hz),rfl,q _ I.fresh]
section
variable{κ:Type}[DecidableEq κ]
abbrev U0(kvs:@&(κ×V))(k:κ):Option V:=(kvs.find? λkv=>decide (kv.1=k)).map (·.2)
abbrev putK(kvs:@&(κ×V))(k:κ)(v:V):@&(κ×V) :=
 if(kvs.any λkv=>decide (kv.1=k))=true then kvs.map (λkv=>if kv.1=k then(kv.1,v) else kv) else kvs++[(k,v)]
abbrev uA(kvs:@&(κ×V))(k:κ):@&(κ×V):=kvs.filter λkv=>decide (kv.1≠k)
def Gg{p:κ×V}{r:@&(κ×V)}{k:κ}(e:p.1=k):U0 (p::r) k=!p.2:=by simp[U0,List.find?_cons,e]
def Gf{p:κ×V}{r:@&(κ×V)}{k:κ}(e:¬p.1=k):U0 (p::r) k=U0 r k:=by simp[U0,List.find?_cons,e]
def Pe(k:κ):∀kvs:@&(κ×V),(kvs.any λkv=>decide (kv.1=k))=(U0 kvs k).isSome
 |[]=>rfl
 |p::r=>by
  rw[ik];by_cases e:p.1=k
  .simp only[Gg e,decide_eq_true e,Bool.true_or,Option.isSome_some]
  .rw[Gf e,aA e,Bool.false_or];show Pe k r
def Z1(kvs:@&(κ×V))(k:κ)(v:V):(putK kvs k v).length<=-kvs+1:=by
 unfold putK;split
 .simp
 simp
def K4.Z9{u}(r:K4 o u):o.isSome=u.isSome:=by
 cases o with
 |none=>cases u with
  |none=>rfl
  |some _=>show(show False from r).elim
 |some _=>cases u with
  |none=>show(show False from r).elim
  |some _=>rfl
def K4.getD{o}{u}{d}{d'}(r:K4 o u)(rd:RelV d d'):RelV (o.getD d) (u.getD d'):=by
 cases o with
 |none=>cases u with
  |none=>show rd
  |some _=>show(show False from r).elim
 |some _=>cases u with
  |none=>show(show False from r).elim
  |some _=>show r
def KV.val{kvs}{vs}(r:KV kvs vs)(k:κ):K4 (U0 kvs k) (valueAt vs k):=by
 induction r with
 |nil=>show True.intro
 |@cons p q ps qs h t ih =>
  let#[h1,h2]:=h;by_cases e:p.1=k
  .let e':=h1.symm.trans e;let b:valueAt (q::qs) k=!q.2:=by simp[valueAt,List.find?_cons,e']
   rw[Gg e,b];show h2
  .let e':¬q.1=k:=λz=>e (h1.trans z);let b:valueAt (q::qs) k=valueAt qs k:=by simp[valueAt,List.find?_cons,e']
   rw[Gf e,b];show ih
def KV.any{kvs}{vs}(r:KV kvs vs)(k:κ):(kvs.any λkv=>decide (kv.1=k))=vs.any λkv=>decide (kv.1=k):=by
 induction r with
 |nil=>rfl
 |cons h t ih=>simp_all
def KV.FH{kvs}{vs}(r:KV kvs vs)(k:κ)(ry:RelV y u) :
  KV (kvs.map λkv=>if kv.1=k then(kv.1,y) else kv) (vs.map λkv=>if kv.1=k then(kv.1,u) else kv):=by
 induction r with
 |nil=>show .nil
 |@cons p q ps qs h t ih =>
  rw[bD,bD];show .cons ?_ ih;let#[h1,h2]:=h;by_cases e:p.1=k
  .rw[aM e,aM (h1.symm.trans e)];show#[h1,ry]
  .rw[aI e,aI (λz=>e (h1.trans z))];show#[h1,h2]
def KV.put{kvs}{vs}(r:KV kvs vs)(k:κ)(ry:RelV y u):KV (putK kvs k y) (stored vs k u):=by
 unfold putK stored;rw[r.any k];by_cases e:(vs.any λkv=>decide (kv.1=k))=true
 .rw[aM e,aM e];show r.FH k ry
 .rw[aI e,aI e];show Paired.snoc r #[rfl,ry]
def KV.drop{kvs}{vs}(r:KV kvs vs)(k:κ):KV (uA kvs k) (without vs k):=by
 unfold uA without
 induction r with
 |nil=>show .nil
 |@cons p q ps qs h t ih =>
  let#[h1,h2]:=h;rw[dO,dO];by_cases e:p.1=k
  .let a:¬decide (p.1≠k)=true:=by simp[e]
   let b:¬decide (q.1≠k)=true:=by simp[h1.symm.trans e]
   rw[aI a,aI b];show ih
  .let e':¬q.1=k:=λz=>e (h1.trans z);let a:decide (p.1≠k)=true:=by simp[e]
   let b:decide (q.1≠k)=true:=by simp[e']
   rw[aM a,aM b];show .cons #[h1,h2] ih
def KV.keys{kvs:@&(κ×V)}{vs:@&(κ×Value)}(r:KV kvs vs):kvs.map (·.1)=vs.map (·.1):=by
 induction r with
 |nil=>rfl
 |cons h t ih=>simp_all
def KV.length{kvs:@&(κ×V)}{vs:@&(κ×Value)}(r:KV kvs vs):-kvs=-vs:=mV r
def Xk(kvs:@&(κ×V))(k:κ):(uA kvs k).length<=-kvs:=dk _ _
end
def si{k}(r:RelV (kV k) u):(k6 P w).is k u=true:=by
 cases k with
 |inl i=>let#[t,e]:=(show ∃t,u=Value.int i t from r);subst e;show GX P w i t
 |inr x=>let#[t,e]:=(show ∃t,u=Value.str x t from r);subst e;show aX3 P w x t
def Pz{P}{w}:∀{ks:@&Key} {us:@&Value},Vals (ks.map kV) us->ItemsAre (k6 P w) ks us
 |[],_,r=>by cases r;show .nil
 |k::ks,_,r=>by
  cases r with
  |cons h t=>show .cons (si h) (Pz t)
noncomputable abbrev KT(H:Hp):@&(List Key×V)->@&(List Key×Addr×Value)->Prop:=Paired λp q=>p.1=q.1/\H q.2.1=!.tup (p.1.map kV)/\RelV p.2 q.2.2
def KT.val{xs}(r:KT H kvs xs)(k:@&Key):K4 (U0 kvs k) ((atKey xs k).map (·.2)):=by
 induction r with
 |nil=>show True.intro
 |@cons p q ps qs h t ih =>
  let#[h1,_,h2]:=h;by_cases e:p.1=k
  .let e':=h1.symm.trans e;let b:atKey (q::qs) k=!q.2:=by simp[atKey,List.find?_cons,e']
   rw[Gg e,b];show h2
  .let e':¬q.1=k:=λz=>e (h1.trans z);let b:atKey (q::qs) k=atKey qs k:=by simp[atKey,List.find?_cons,e']
   rw[Gf e,b];show ih
def KT.FH{xs}(r:KT H kvs xs)(k:@&Key)(ry:RelV y u) :
  KT H (kvs.map λkv=>if kv.1=k then(kv.1,y) else kv) (xs.map (putAt k u)):=by
 induction r with
 |nil=>show .nil
 |@cons p q ps qs h t ih =>
  rw[bD,bD];show .cons ?_ ih;let#[h1,h2,h3]:=h;unfold putAt;by_cases e:p.1=k
  .rw[aM e,aM (h1.symm.trans e)];show#[h1,h2,ry]
  .rw[aI e,aI (λz=>e (h1.trans z))];show#[h1,h2,h3]
def KT.put{xs}(r:KT H kvs xs)(k:@&Key){b}(hb:H b=!.tup (k.map kV))(ry:RelV y u) :
  KT H (putK kvs k y) (storedH xs k b u):=by
 let e:(kvs.any λkv=>decide (kv.1=k))=(atKey xs k).isSome:=by
  rw[Pe,(r.val k).Z9,gX]
 unfold putK storedH;rw[e];by_cases q:(atKey xs k).isSome=true
 .rw[aM q,aM q];show r.FH k ry
 .rw[aI q,aI q];show Paired.snoc r #[rfl,hb,ry]
def KT.keeps{xs}(r:KT H kvs xs)(ht:∀b ys,H b=!.tup ys->H' b=!.tup ys):KT H' kvs xs :=
 Paired.MN r λx x z=>#[z.1,ht _ _ z.2.1,z.2.2]
section
variable{h:Heap}
def Ls{u}(ok:gB P w H h)(e:Rd H a u):q9 P w H h a u:=e.ok ok
def uz{kvs}(ok:gB P w H h)(e:Rd H a (.dK kvs)):-kvs<=sizeLine/\(a==sysModules)=false/\∃vs,KV kvs vs/\h.DictOf (k6 P w) a vs :=
 show q9 P w H h a (.dK kvs) from Ls ok e
def vn{kvs}(ok:gB P w H h)(e:H a=!.dK kvs):-kvs<=sizeLine/\(a==sysModules)=false/\∃vs,KV kvs vs/\h.DictOf (k6 P w) a vs:=uz ok (.inl e)
def yo{ks}(ok:gB P w H h)(e:H a=!.tup (ks.map kV)):(tupleKind (k6 P w)).is h ks a:=by
 let#[_,aZ,r,o,h1,h2,#[n,h3],_]:=(show q9 P w H h a (.tup (ks.map kV)) from ok a _ e)
 show#[o,aZ.toArray,n,h1,h2,h3,by simpa using Pz r]
def yW(ok:gB P w H h)(e:Rd H a (.dT kvs)):-kvs<=sizeLine/\(a==sysModules)=false /\
  ∃xs,KT H kvs xs/\h.DictOfH (tupleKind (k6 P w)) a xs:=by
 let#[z,y,xs,r,o,es,ep,h1,h2,h3,h4,h5]:=(show q9 P w H h a (.dT kvs) from Ls ok e)
 show#[z,y,xs,r,o,es,ep,h1,h2,h3,h4,λx hx=>?_,h5];let all:∀{l:@&(List Key×V)} {m:@&(List Key×Addr×Value)},KT H l m->∀x∈m,(tupleKind (k6 P w)).is h x.1 x.2.1:=by
  intro l m q
  induction q with
  |nil=>simp
  |@cons p q ps qs hq t ih =>
   intro x hx;rcases aJ.mp hx with e|hx
   .exact yo ok (by simp_all)
   .exact ih x hx
 show all r x hx
def b69(ok:gB P w H h)(e:H a=!.dT kvs):-kvs<=sizeLine/\(a==sysModules)=false /\
  ∃xs,KT H kvs xs/\h.DictOfH (tupleKind (k6 P w)) a xs:=yW ok (.inl e)
end
abbrev pj(H:Hp)(a:Addr)(y:V)(r:Option V):Prop :=
 (∃kvs k,Rd H a (.dK kvs)/\y=kV k/\r=U0 kvs k)\/∃kvs k b,Rd H a (.dT kvs)/\y=.ref b/\H b=!.tup (k.map kV)/\r=U0 kvs k
abbrev Ap(H:Hp)(a:Addr)(y v:V)(H':Hp):Prop :=
 (∃kvs k,H a=!.dK kvs/\y=kV k/\-kvs<sizeLine/\H'=upd H a (.dK (putK kvs k v))) \/
 ∃kvs k b,H a=!.dT kvs/\y=.ref b/\H b=!.tup (k.map kV)/\-kvs<sizeLine/\H'=upd H a (.dT (putK kvs k v))
def pj.k{H}{a}{kvs}{k}(e:H a=!.dK kvs):pj H a (kV k) (U0 kvs k):=.inl #[kvs,k,.inl e,rfl,rfl]
def Ap.k{H}{a}{kvs}{k}{v}(e:H a=!.dK kvs)(hl:-kvs<sizeLine):Ap H a (kV k) v (upd H a (.dK (putK kvs k v))):=.inl #[kvs,k,e,rfl,hl,rfl]
section
variable{v:V}{r:Value}
def Inv.big(I:Inv X pi σ H s):sysModules<s⁻¹:=by
 let h:=(I.mod.glob.keeps I.bk).lt;show cH ∅ h
def Zi(hu:A.units+1<cLine)(I:Inv X pi σ H s)(g:pj H a y (!v))(ry:RelV y u)(h:∀w' s',Inv X pi σ H s'->RelV v w'->Q w' s') :
  wpAny (model X.prog X.w) A (getItem (.ref a) u) Q E s:=by
 rcases g with⟨kvs,k,e,ey,l⟩|⟨kvs,k,b,e,ey,eb,l⟩
 .subst ey;let#[z,hd,vs,rel,dd]:=uz I.bR e;let#[w',hw,fN]:=K4.some_of (by rw[l];show rel.val k);show wpAny_getItem_of (si ry) dd.mapOf hw (h w' _ (I.tok _) fN)
 .subst ey;cases (show u=Value.ref b from ry);let#[z,hd,xs,rel,dd]:=yW I.bR e;let#[w',hw,fN]:=K4.some_of (by rw[l];show rel.val k);let#[p,hp,mH]:=aa.mp hw;show wpAny_getItem_heap (iG hu) (yo I.bR eb) dd hp ?_;rw[mH];show h w' _ (I.tok _) fN
def Vz(hu:A.units+1<cLine)(I:Inv X pi σ H s)(g:pj H a y o)(ry:RelV y u)(h:∀s',Inv X pi σ H s'->Q (.bool o.isSome) s') :
  wpAny (model X.prog X.w) A (compareOp .In u (.ref a)) Q E s:=by
 rcases g with⟨kvs,k,e,ey,l⟩|⟨kvs,k,b,e,ey,eb,l⟩
 .subst ey;let#[z,hd,vs,rel,dd]:=uz I.bR e;show wpAny_in_of (si ry) hd dd.mapOf ?_;rw[<- (rel.val k).Z9,<- l];show h _ (I.tok _)
 .subst ey;cases (show u=Value.ref b from ry);let#[z,hd,xs,rel,dd]:=yW I.bR e;show wpAny_in_heap (iG hu) (yo I.bR eb) hd dd ?_;let q:=(rel.val k).Z9;rw[gX] at q;rw[<- q,<- l];show h _ (I.tok _)
def bK0(hu:A.units+1<cLine)(I:Inv X pi σ H s)(g:pj H a y o)(ry:RelV y u)(h:∀s',Inv X pi σ H s'->Q (.bool (~~~o.isSome)) s') :
  wpAny (model X.prog X.w) A (compareOp .NotIn u (.ref a)) Q E s:=by
 rcases g with⟨kvs,k,e,ey,l⟩|⟨kvs,k,b,e,ey,eb,l⟩
 .subst ey;let#[z,hd,vs,rel,dd]:=uz I.bR e;show wpAny_notIn_of (si ry) hd dd.mapOf ?_;rw[<- (rel.val k).Z9,<- l];show h _ (I.tok _)
 .subst ey;cases (show u=Value.ref b from ry);let#[z,hd,xs,rel,dd]:=yW I.bR e;show wpAny_notIn_heap (iG hu) (yo I.bR eb) hd dd ?_;let q:=(rel.val k).Z9;rw[gX] at q;rw[<- q,<- l];show h _ (I.tok _)
def X8{h'}{t'}{ob}(I:Inv X pi σ H s)(mu:zg (H a))(hs:Heap.SameBut a s.heap h')(he:∃q,h'.get? a=!q)(new:q9 X.prog X.w (upd H a ob) h' a ob) :
  Inv X pi σ (upd H a ob) { s with heap:=h',toks:=t' } :=
 I.write mu (.inl rfl) (λb q hb z=>(hs.2 b hb).trans z) he new
def uF{h'}{kvs}{vs}(z:-kvs<=sizeLine)(hd:(a==sysModules)=false)(rel:KV kvs vs)(dd:h'.DictOf (k6 P w) a vs) :
  q9 P w H' h' a (.dK kvs):=#[z,hd,vs,rel,dd]
def Zj{Q}(hu:A.units+1<cLine)(I:Inv X pi σ H s)(g:Ap H a y v H')(ry:RelV y u)(rv:RelV v r)(h:∀s',Inv X pi σ H' s'->Q Unit.unit s') :
  wpAny (model X.prog X.w) A (setItem (.ref a) u r) Q E s:=by
 rcases g with⟨kvs,k,e,ey,l,eH⟩|⟨kvs,k,b,e,ey,eb,l,eH⟩
 .subst ey eH;let#[z,hd,vs,rel,dd]:=vn I.bR e;let hz:-vs<=sizeLine:=by rw[<- -rel];show z
  let hl:(putK kvs k v).length<=sizeLine:=by have:=Z1 kvs k v;omega
  show wpAny_setItem_pairs (si ry) dd λh' nr hs=>h _ ?_;let he:∃q,h'.get? a=!q:=let ⟨q,_,_,hq,_⟩:=nr;#[q,hq]
  show X8 I (by rw[e];show True.intro) hs he (uF hl hd (rel.put k rv) nr)
 .subst ey eH;cases (show u=Value.ref b from ry);let#[z,hd,xs,rel,dd]:=b69 I.bR e;let hz:-xs<=sizeLine:=by rw[<- mV rel];show z
  let hl:(putK kvs k v).length<=sizeLine:=by have:=Z1 kvs k v;omega
  show wpAny_setItem_heap (iG hu) (yo I.bR eb) dd λh' nr hs=>h _ ?_;let#[q,es,ep,hq,h2,h3,h4,_,h5]:=nr;show X8 I (by rw[e];show True.intro) hs #[q,hq] #[hl,hd,_,(rel.put k eb rv).keeps λc ys ec=>?_,q,es,ep,hq,h2,h3,h4,h5];rw[d6 (b43 ec e (λz=>nomatch z))];show ec
end
section
variable{kvs:@&(Key×V)}{k:Key}
def b74{v}{more}(I:Inv X pi σ H s)(e:H a=!.dK kvs)(ry:RelV (kV k) u)(l:U0 kvs k=!v)(hm:more=[]\/∃x,more=[x])(h:∀w' s',Inv X pi σ (upd H a (.dK (uA kvs k))) s'->RelV v w'->Q w' s'):wpAny (model X.prog X.w) A (call (.builtin "dict.pop") (.ref a::u::more)) Q E s:=by
 let#[z,hd,vs,rel,dd]:=vn I.bR e;let#[w',hw,fN]:=K4.some_of (by rw[<- l];show rel.val k);let hp:(keyPart u).isSome=true:=by
  cases k with
  |inl i=>let#[t,q]:=(show ∃t,u=Value.int i t from ry);subst q;rfl
  |inr x=>let#[t,q]:=(show ∃t,u=Value.str x t from ry);subst q;rfl
 let ha:argsOk "dict.pop" #[.ref a::u::more,[]]:=by
  rcases hm with q|⟨x,q⟩
  .subst q;show PySem.F.args_dict_pop_2 _ _
  .subst q;show PySem.F.args_dict_pop_3 _ _ _
 show call_meetsIn zq dd.typeIs PySem.F.entry_dict_pop ha (meets_dict_pop_there (k6 X.prog X.w) a (si ry) more hm hp)
  #[vs,w',dd,by rw[<- -rel];show z,hw,λh' nr hs=>h w' _ ?_ fN]
 let he:∃q,h'.get? a=!q:=let ⟨q,_,_,hq,_⟩:=nr;#[q,hq]
 show X8 I (by rw[e];show True.intro) hs he (uF (aC (Xk kvs k) z) hd (rel.drop k) nr)
def b75(I:Inv X pi σ H s)(e:Rd H a (.dK kvs))(h:∀t s',Inv X pi σ H s'->Q (.int (-kvs) t) s'):wpAny (model X.prog X.w) A (call (.builtin "len") [.ref a]) Q E s:=by
 let#[z,hd,vs,rel,dd]:=uz I.bR e;show call_len_dict hd dd (by rw[<- -rel];rw[lz] at z;omega) ?_;rw[<- -rel];show h _ _ (I.tok _)
end
def aX9(I:Inv X pi σ H s)(g:pj H a y o):s.TypeIs (.ref a) "dict":=by
 rcases g with⟨kvs,k,e,_,_⟩|⟨kvs,k,b,e,_,_,_⟩
 .let#[_,_,vs,_,dd]:=uz I.bR e;show dd.typeIs
 .let#[_,_,xs,_,dd]:=yW I.bR e;show dd.typeIs
def OC(h:Heap)(hb:sysModules<h.objs.size):q9 P w H (h.push { cls:=.type "dict",data:=.dict (List.toArray []) }) h.objs.size (.dK []) :=
 #[cj _,cX.mpr (aX (aK hb)),[],.nil,wc h]
def bM9:TE:=λx H Q=>∀p,H p=none->Q (.ref p) (upd H p (.dK []))
def XT:PE X (.Dict [] [] pos) bM9:=λpi s σ H Q I h =>
 wpAny_Dict_empty #[.ref s⁻¹,_,I.laid (t':=s.toks) (λx x q=>ai _ q) (av _) (OC s.heap I.big),rfl,h _ (I.bR.fresh (av _))]
abbrev As:@&(TE×TE)->St->Hp->(List (V×V)->Hp->Prop)->Prop
 |[],_,H,Q=>Q [] H
 |(tk,tv)::r,σ,H,Q=>tk σ H λx H1=>tv σ H1 λy H2=>As r σ H2 λps H3=>Q ((x,y)::ps) H3
noncomputable abbrev VV:@&(V×V)->@&(Value×Value)->Prop:=Paired λp q=>RelV p.1 q.1/\RelV p.2 q.2
abbrev ze(X:Cx)(pos:Pos)(keys:@&(Option Expr))(values:@&Expr)(iT:@&(TE×TE)):Prop :=
 ∀(pi:@&(Addr×Obj)) (s:Shared) (σ:St) (H:Hp) (Q:@&(V×V)->Hp->Prop),Inv X pi σ H s->As iT σ H Q ->
  wpAny (model X.prog X.w) X.A (evalPairs (pairTrees keys values X.env pos)) (λvs s'=>∃ps H',Inv X pi σ H' s'/\VV ps vs/\Q ps H') X.xe s
def bF7:ze X pos [] [] []:=λpi s σ H Q I h=>pairTrees_nil_walk #[[],H,I,.nil,h]
def Ye{k v}{ks}{vs}{tk tv}{iT}(hk:PE X k tk)(hv:PE X v tv)(hr:ze X pos ks vs iT) :
  ze X pos (some k::ks) (v::vs) ((tk,tv)::iT):=λpi s σ H Q I h =>
 pairTrees_cons_walk (cG (hk pi s σ H _ I h) λu s1 ⟨x,H1,I1,rx,q1⟩=>cG (hv pi s1 σ H1 _ I1 q1) λw2 s2 ⟨y,H2,I2,ry,q2⟩ =>
  cG (hr pi s2 σ H2 _ I2 q2) (by rintro ws s3 ⟨ps,H3,I3,rel,q3⟩;show #[(x,y) :: ps,H3,I3,.cons #[rx,ry] rel,q3]))
abbrev uH(kvs more:@&(Key×V)):@&(Key×V):=more.foldl (λacc kv=>putK acc kv.1 kv.2) kvs
def KV.merge:∀{more:@&(Key×V)} {rs:@&(Key×Value)} {kvs:@&(Key×V)} {vs:@&(Key×Value)},KV more rs->KV kvs vs->KV (uH kvs more) (merged vs rs):=by
 intro more rs kvs vs r
 induction r generalizing kvs vs with
 |nil=>intro q;show q
 |@cons p q ps qs h t ih =>
  intro r0;let e:KV (putK kvs p.1 p.2) (stored vs q.1 q.2):=by
   have:=r0.put p.1 h.2;rw[<- h.1];show this
  show ih e
def NW:∀(more kvs:@&(Key×V)),(uH kvs more).length<=-kvs+-more
 |[],kvs=>by change (-kvs)<=-kvs+0;omega
 |p::r,kvs=>by
  let h1:=NW r (putK kvs p.1 p.2);let h2:=Z1 kvs p.1 p.2;show(uH (putK kvs p.1 p.2) r).length<=_
  grind
def Qf{P}{w}:∀{kvs:@&(Key×V)} {ws:@&(Value×Value)},VV (kvs.map λkv=>(kV kv.1,kv.2)) ws->∃rs,Carries (k6 P w) ws rs/\KV kvs rs
 |[],_,r=>by cases r;show#[[],True.intro,.nil]
 |p::kvs,_,r=>by
  cases r with
  |@cons a b as bs h t =>
   let#[rs,c,q]:=Qf (P:=P) (w:=w) t;let#[b1,b2]:=b;show#[(p.1,b2)::rs,#[si h.1,rfl,c],.cons #[rfl,h.2] q]
def b12(iT:@&(TE×TE)):TE:=λσ H Q=>∀p,H p=none->As iT σ (upd H p (.dK [])) λps H2=>H2 p=!.dK []/\∃kvs:@&(Key×V),ps=kvs.map (λkv=>(kV kv.1,kv.2))/\-kvs<=15/\Q (.ref p) (upd H2 p (.dK (uH [] kvs)))
def bG3{keys}{values}{iT}(h:ze X pos keys values iT)(kU:keys.all (·.isSome)=true)(hl:-keys=-values)(h0:keys≠[])(rL:-keys<=15):PE X (.Dict keys values pos) (b12 iT):=by
 intro pi s σ H Q I q;let hn:=I.bR.fresh (av s⁻¹);let I1:=I.laid (h':=s.heap.push { cls:=.type "dict",data:=.dict (List.toArray []) }) (t':=s.toks) (λx x q=>ai _ q) (av _) (OC s.heap I.big);show wpAny_Dict_walk (knd:=k6 X.prog X.w) kU hl h0 rL (cG (h pi _ σ _ _ I1 (q _ hn)) λws s2 bu=>?_);let#[ps,H2,I2,rel,e,kvs,ep,lk,q2]:=bu;subst ep;let#[rs,c,rk]:=Qf rel;let#[z,hd,vs0,r0,dd]:=vn I2.bR e;cases r0;show#[rs,c,dd,λh' nr hs=>#[.ref s⁻¹,_,?_,rfl,q2]];let hz:(uH [] kvs).length<=sizeLine:=by
  let h1:=NW kvs [];rw[List.length_nil] at h1;rw[lz];omega
 let he:∃q,h'.get? s⁻¹=!q:=let ⟨q,_,_,hq,_⟩:=nr;#[q,hq]
 show X8 I2 (by rw[e];show True.intro) hs he (uF hz hd (rk.merge .nil) nr)
section
variable{kvs:@&(Key×V)}
def Xe(I:Inv X pi σ H s)(e:Rd H a (.dK kvs))(h:∀p s',H p=none->Inv X pi σ (upd H p (.dK kvs)) s'->Q (.ref p) s'):wpAny (model X.prog X.w) A (call (.type "dict") [.ref a]) Q E s:=by
 let#[z,hd,vs,rel,dd]:=uz I.bR e;show kt_call_dict hd dd (by rw[<- -rel];show z) λh' nr hs=>?_;show h _ _ (I.bR.fresh (av _)) (I.laid (t':=s.toks) (λb q hq=>?_) (av _) (uF z (cX.mpr (aX (aK I.big))) rel nr));show(hs.2 b (aK (az hq))).trans (ai _ hq)
end
end L2
namespace Rt
open PySem PySem.W PySem.Calls PyProof.Rows
def aB7{P}{h}:∀(ns:@&Int) (vs:@&Value),WellAll P h vs (ns.map WData.int)->IntsAre vs ns:=by
 intro ns
 induction ns with
 |nil =>
  intro vs w;cases w;show .nil
 |cons n ns ih =>
  intro vs w;cases w with
  |cons a b =>
   cases a;show .cons _ _ (ih _ b)
def bd0{l:OpenLaw}{n:Nat}(hn:l.most=!n){P:Params}{h:Heap}{args:@&WData}{vals:@&Value}(qb:l.row.toRowW.claim.pre args=true)(Dd:WellAll P h vals args) :
  ∃a vs ns,vals=[Value.ref a]/\args=[WData.list (ns.map WData.int)]/\h.get? a=some { cls:=.type "list",data:=.seq vs.toArray }/\IntsAre vs ns/\-ns<=n:=by
 let SY:WShape.hasAll [] args [.list .int]=true:=(pre_splitW qb).1;let hc:l.pre.holds [] { args:=args }=true:=(pre_splitW qb).2;let#[d,r,rfl,h1,h2]:=hasAllW_cons SY;obtain rfl:=hasAllW_nil h2;let#[xs,rfl,h3]:=hasW_list h1;let#[ns,rfl]:=items_int h3;let hlen:-ns<=n:=by
  let h4:(WTm.not (.lt (.lit (.int (n:Int))) (.len (.arg 0)))).holds [] { args:=[.list (ns.map .int)] }=true:=by
   let h4:=(holds_andW hc).1;rw[hn] at h4;show h4
  let h5:=condW_of h4 (w_not (w_lt w_lit (w_len_list (w_arg rfl))))
  simp_all
 cases Dd with
 |cons w1 w2 =>
  cases w2;cases w1 with
  |list ho kU=>show#[_,_,ns,rfl,rfl,ho,aB7 ns _ kU,hlen]
def ZX(l:OpenLaw)(args:@&WData):l.row.toRowW.claim.post args (.bool true) args=true :=
 postW_of
  (show WShape.has [] (.bool true) .bool=true by rfl)
  (show(WTm.eq .res (.lit (.bool true))).value [] { args:=args,res:=!.bool true,after:=args }=some (.bool (true==true)) from w_eq_bool (w_res rfl) w_lit) rfl
def aY3{l:OpenLaw}{n:Nat}{q:Program}{loose:@&Str}{XP:(Str->Option Value)->Heap->Prop}{YP:World->Heap->Prop}{d:DefRec}(hn:l.most=!n)(xp:d.params.defaults=[])(call:∀ (w:World) (dF bI:Shared) (mg mb:Str->Option Value) (fa:Addr) (o:Obj) (pm cd doc:Value) (a:Addr) (vs:@&Value) (ns:@&Int),
   Ground q loose [] XP w dF mg mb bI.heap->YP w bI.heap ->
   bI.heap.get? fa=!o->o.data=.func (docDef d.name d.params d.body d.scope pm cd doc)->bI.heap.CodeRec cd d.name->mg d.name=!.ref fa ->
   bI.heap.get? a=some { cls:=.type "list",data:=.seq vs.toArray }->IntsAre vs ns->-ns<=n->bI.gens=(List.toArray []) ->
   codeAny (model l.prog w) callerA (.call (.ref fa) #[[.ref a],[]]) (λr s'=>r=.ok (.ret (.bool true))/\OldK bI.heap s'.heap/\s'.os=bI.os/\AllBare s'.gens) bI) :
  WalkO q loose XP YP l.row.toRowW d [] (λf vs=>PySem.call f vs):=by
 intro w dF bI mg mb G Y fa o pm cd doc dV kV ho hd mL hD hmg hg args vals as qb Tx hrd Dd hlo;obtain rfl:dV=.none:=Dflts.none hD xp;obtain rfl:kV=.none:=Dflts.noKw hD;let#[a,vs,ns,rfl,rfl,lG,hints,hlen]:=bd0 hn qb Dd;show enter_call (ig (call w dF bI mg mb fa o pm cd doc a vs ns G Y ho (fd_plain hd) mL hmg lG hints hlen hg) λr s' hq=>?_);let#[rfl,h2,h3,h4]:=hq;show#[.inl #[.bool true,.bool true,[],rfl,λx=>rfl,.bool true,ZX l _,λx=>#[List.Pairwise.nil,λx hm=>(nomatch hm)]],h2,h3,h4]
end Rt
namespace L2
open PySem PySem.Spec PyProof.Rows
variable{w:World}{x qual:Str}{X:Cx}{A:Around}{s:Shared}{elt iter tg:Expr}{ifs:@&Expr}{scope:Scope}{pos:Pos}{cl:@&(Str×Addr)}{C:Addr}{N':@&Str}{d8:@&Nat}{fp:@&Addr}{g:TG}{tc:TT}{te:TE}
def P':∀{vs:@&Value} {ns:@&Int},IntsAre vs ns->Vals (ns.map V.int) vs
 |_,_,.nil=>.nil
 |_,_,.cons n t h=>.cons #[t,rfl] (P' h)
def Aq(H:Hp):Prop:=∀b,H b=none\/∃o xs,H b=!.kd o (.lst xs)
def XB{P}{K}{mg mb}{CX}{k}{fa a}{fd}{sp}{bI}{vs}{ns}(KX:K.In bI.heap)(zV:bI.heap.Ns mainGlobals mg)(hb:bI.heap.Ns builtinsNs mb)(DF:∀x:Str,x≠"__name__"->mb x=bootBuiltins x)(Dv:bI.heap.NoLimit)(hg:bI.gens=(List.toArray []))(ha:bI.heap.get? a=some { cls:=.type "list",data:=.seq vs.toArray })(hi:IntsAre vs ns)(hl:-ns<=sizeLine)(hr:y9 k callerA)(F:∀base:Heap,K.In base->base.Ns mainGlobals mg->gW P w K mg base CX k fa fd [x] sp)(xt:∀(s:Shared) (u:Value),BindsTo s fd #[[u],[]] [(x,u)])(uV:∀H:Hp,Aq H->fJ K H a (ns.map V.int)->sp [.ref a] H (λv y=>v=.bl true) λy y y=>False)(DT:∀H e s',CX [] H bI (λy y y=>False) e s'->False) :
  codeAny (model P w) callerA (.call (.ref fa) #[[.ref a],[]]) (λr s'=>r=.ok (.ret (.bool true))/\OldK bI.heap s'.heap/\s'.os=bI.os/\AllBare s'.gens) bI:=by
 let rv:=P' hi;let SG:=-hi;let core:∀H:Hp,Aq H->fJ K H a (ns.map V.int)->gB P w H bI.heap->(∀b,H b≠none->b=a)->(H a≠none->K.lookup a=none) ->
   codeAny (model P w) callerA (.call (.ref fa) #[[.ref a],[]]) (λr s'=>r=.ok (.ret (.bool true))/\OldK bI.heap s'.heap/\s'.os=bI.os/\AllBare s'.gens) bI:=by
  intro H hO hS bR hA hK;let O0:∀{b:Addr} {o:Obj},bI.heap.get? b=!o->H b=none->(qI bI.heap H).get? b=!o:=λe n=>Xt e n;let wC:∀{b:Addr} {o:Obj} {es:Array DictEntry} {ep:Nat},bI.heap.get? b=!o->o.data=.dict es ep->H b=none:=λ{b o es ep} e d=>by
   grind
  let zJ:∀{b:Addr} {m:Str->Option Value},bI.heap.Ns b m->(qI bI.heap H).Ns b m:=λ{b m} ⟨o,es,ep,e,d,r⟩=>#[o,es,ep,O0 e (wC e d),d,r]
  let Kv:K.In (qI bI.heap H):=λb o e=>O0 (KX b o e) (by
   grind)
  let hM:Mod K mg (qI bI.heap H):=#[Kv,zJ zV,#[mb,zJ hb,DF],let ⟨mc,h1,h2⟩:=Dv;#[mc,zJ h1,h2]]
  let e0:uh P w K mg (qI bI.heap H) callerA [] bI H:=#[rfl,hM,λb o e=>bH7 e,Nat.le_of_eq (Zs _ _),trivial,λb hb=>absurd (show b∈([]:@&Addr) from hb) #[_],bR,.of_eq hg]
  show ig ((F _ Kv (zJ zV)).run callerA [] bI H #[[.ref a],[]] [.ref a] [.ref a] _ _ hr e0 (xt bI (.ref a)) (.cons rfl .nil) (uV H hO hS)) λr s' h=>?_;cases r with
  |error e=>show(DT H e s' h).elim
  |ok fl =>
   cases fl with
   |next=>show False.elim h
   |brk=>show False.elim h
   |cont=>show False.elim h
   |ret u =>
    let#[v,H',os,bare,un,Dn,r',q]:=h;let q':=q;subst q';obtain rfl:u=Value.bool true:=r';show#[rfl,OldK.of_keep λb o e=>?_,os,bare];cases q:H b with
    |none=>show un.keep b o e q (by intro z;show absurd (show b∈([]:@&Addr) from z) #[_]) #[_]
    |some u =>
     rcases hO b with z|⟨ob,xs,z⟩
     .simp_all
     .let z2:=un.iO b ob _ z;let#[e1,_]:=bR b _ z;let#[e2,_]:=Dn b _ z2
      simp_all
 cases hk:K.lookup a with
 |some o =>
  let e:=KX a o hk;rw[ha] at e;cases e;show core (λy=>none) (λy=>.inl rfl) (.inr #[_,vs.toArray,_,hk,rfl,rfl,rfl,by simp_all,by simpa using rv]) (λb u z=>by simp_all) (λb z=>absurd rfl z) λz=>absurd rfl z
 |none =>
  show core (λb=>if b=a then some (.kd { cls:=.type "list",data:=.seq vs.toArray } (.lst (ns.map V.int))) else none) (λb=>?_) (.inl (.inr #[{ cls:=.type "list",data:=.seq vs.toArray },aM rfl])) (λb u z=>?_) (λb z=>?_) λy=>hk
  .by_cases hb:b=a
   .exact .inr #[_,_,aM hb]
   .exact .inl (aI hb)
  .by_cases hb:b=a
   .let z':=(aM hb).symm.trans z;cases z';subst hb;show#[ha,by rw[ao];show hl,vs,_,rv,ha]
   simp_all
  .by_cases hb:b=a
   .exact hb
   .exact absurd (aI hb) z
def bB5{l:PySem.W.OpenLaw}{n k:Nat}{q:Program}{loose:@&Str}{XP:(Str->Option Value)->Heap->Prop}{YP:World->Heap->Prop}{d:DefRec}{K:Params->PySem.W.Frag}{CX:World->oE}{sp:World->Sp}(hn:l.most=!n)(qd:n<=sizeLine)(xp:d.params.defaults=[])(hr:y9 k callerA)(hY:∀(w:World) (h:Heap),YP w h->(K w.params).In h)(F:∀ (w:World) (mg:Str->Option Value) (fa:Addr) (h:Heap),(K w.params).In h->h.Ns mainGlobals mg->mg d.name=!.ref fa ->
   ∃fd:FuncData,(∀(s:Shared) (u:Value),BindsTo s fd #[[u],[]] [(x,u)]) /\
    ∀ base:Heap,(K w.params).In base->base.Ns mainGlobals mg->gW l.prog w (K w.params) mg base (CX w) k fa fd [x] (sp w))(uV:∀(w:World) (H:Hp) (a:Addr) (ns:@&Int),(-ns)<=n->Aq H->fJ (K w.params) H a (ns.map V.int)->sp w [.ref a] H (λv y=>v=.bl true) λy y y=>False)(DT:∀(w:World) (H:Hp) (s:Shared) (e:Value) (s':Shared),CX w [] H s (λy y y=>False) e s'->False) :
  PySem.W.WalkO q loose XP YP l.row.toRowW d [] (λf vs=>PySem.call f vs):=by
 show Rt.aY3 hn xp λw dF bI mg mb fa o pm cd doc a vs ns G Y ho hd mL hmg lG hints hlen hg=>?_;let KX:=hY w _ Y;let#[fd,hb,hF]:=F w mg fa _ KX G.T.g hmg;show XB KX G.T.g G.T.b G.T.builtins G.T.nolimit hg lG hints (aC hlen qd) hr hF hb (λH hO hS=>uV w H a ns hlen hO hS) λH e s'=>DT w H bI e s'
abbrev I9(s:Stmt):Arguments:=match s with
 |.FunctionDef _ a _ _ _ _ _ _ _ _=>a
 |_=>{ posonlyargs:=[],args:=[],vararg:=none,kwonlyargs:=[],kw_defaults:=[],kwarg:=none,defaults:=[] }
abbrev v9(s:Stmt):@&Stmt:=match s with
 |.FunctionDef _ _ b _ _ _ _ _ _ _=>b
 |_=>[]
abbrev u7(s:Stmt):Scope:=match s with
 |.FunctionDef _ _ _ _ _ _ sc _ _ _=>sc
 |_=>{ kind:=.function,names:=[],isGenerator:=false,isCoroutine:=false }
structure sC(K:PySem.W.Frag)(x qual:Str)(st:Stmt)(f:Addr)(fd:FuncData):Prop where
 ex:∃(oc:Value) (od:Option Addr) (kV doc pm:Value) (an:Option Addr) (gf ct:Value) (mZ:Array (Option Value)),
  fd=PySem.W.fnOf x qual (I9 st) (v9 st) (u7 st) .none kV doc pm an gf ct/\K.lookup f=!#[oc,od,.func fd,mZ]/\PySem.W.codeIn K gf qual=true
 kp:PySem.W.keepIn K (.ref f)=true
section
variable{K:PySem.W.Frag}
def sC.binds{st}{f}{fd}{ps}(F:sC K x qual st f fd)(h:∀(kV doc pm:Value) (an:Option Addr) (gf ct:Value) (us:@&Value),(-us)=-ps->bindArgs (PySem.W.fnOf x qual (I9 st) (v9 st) (u7 st) .none kV doc pm an gf ct) #[us,[]]=pure (ps.zip us)):Binds K fd ps []:=by
 let#[oc,od,kV,doc,pm,an,gf,ct,mZ,rfl,lk,mL]:=F.ex;show .all (h kV doc pm an gf ct)
def Ma{st}{f}{oc}{od an}{mZ}{kV doc pm gf ct}(l:K.lookup f=!#[oc,od,.func (PySem.W.fnOf x qual (I9 st) (v9 st) (u7 st) .none kV doc pm an gf ct),mZ])(c:PySem.W.codeIn K gf qual=true)(k:PySem.W.keepIn K (.ref f)=true):sC K x qual st f (PySem.W.fnOf x qual (I9 st) (v9 st) (u7 st) .none kV doc pm an gf ct):=#[#[oc,od,kV,doc,pm,an,gf,ct,mZ,rfl,l,c],k]
end
def Zc:u3 X (.builtin "len") (λxs H Q=>∃a kvs,xs=[V.ref a]/\H a=!.dK kvs/\Q (.int (-kvs)) H):=by
 intro pi s σ H xs us Q I r h;let#[a,kvs,rfl,ha,q]:=h;let#[u,rfl,ru]:=vals1 r;cases ru;show b75 I (.inl ha) λt s' I'=>#[.int (-kvs),H,I',#[t,rfl],q]
section
variable{prog:Program}{R:Result->Shared->Prop}
def aV1{target}{it acc}{env}(I:Nat->Shared->Prop)(turn:∀ n s,I n s->wpAny (model prog w) A (pyNext it) (λr bI=>match r with
   |none=>R (.ok .next) bI
   | some v=>wpAny (model prog w) A (letOwnedTupleGo target it v) (λy bI=>wpAny (model prog w) A (assign target env v) (λ_ fg =>
     wpAny (model prog w) A (forIn ifs true λc r=>if r=true then do let ok <- isTrue c env (eval c env);pure (ForInStep.yield ok) else pure (ForInStep.yield r)) (λok dW =>
      if ok=true then wpAny (model prog w) A (eval elt env) (λx fP =>
       wpAny (model prog w) A (call (.builtin "list.append") [acc,x]) (λy gJ=>∃ m,m < n/\I m gJ) (λy y=>False) fP) (notedBy (model prog w) A env λe s'=>R (.error e) s') dW
      else ∃ m,m < n/\I m dW) (λy y=>False) fg) (λy y=>False) bI) (λy y=>False) bI) (λy y=>False) s)(n:Nat)(h:I n s) :
  codeAny (model prog w) A (.compLoop (.ListComp elt [#[target,iter,ifs,0]] scope pos) 0 it acc env) R s:=by
 show codeAny_loop rfl I (λn s hI=>?_) n h;change wpAny _ A ((compTurn (.ListComp elt [#[target,iter,ifs,0]] scope pos) 0 it acc env).onRaise (λx=>do noteFrame x env;theTreesLotGoes x)) _ _ s;show wpAny_noted ?_;rw[compTurn_list];show ae (dw (ae (bo (turn n s hI) (λr bI cW=>?_) λy y h'=>h'.elim)));cases r with
 |none=>show au cW
 |some v =>
  show ae (bo cW (λy bI cW=>?_) λy y h'=>h'.elim);show ae (bo cW (λy fg gF=>ae (bo gF (λok dW kS=>?_) λy y h'=>h'.elim)) λy y h'=>h'.elim);cases ok with
  |false=>show wpAny_pure #[rfl,kS]
  |true =>
   show ae (ae (bo kS (λx fP nP=>ae (bo nP (λy gJ nO=>au (au #[rfl,nO])) λy y h'=>h'.elim)) λy y h'=>h'))
end
abbrev jP(X:Cx)(es:@&Expr)(t:TT):Prop :=
 ∀(pi:@&(Addr×Obj)) (s:Shared) (σ:St) (H:Hp) (Q:Bool->Hp->Prop),Inv X pi σ H s->t σ H Q ->
  wpAny (model X.prog X.w) X.A (forIn es true λc r=>if r=true then do let ok <- isTrue c X.env (eval c X.env);pure (ForInStep.yield ok) else pure (ForInStep.yield r)) (TP X pi σ Q) X.xe s
def MY:TT:=λx H Q=>Q true H
def Ra:jP X [] MY:=λpi s σ H Q I h=>au #[H,I,h]
def Rb{c}{t}(h:PT X c t):jP X [c] t:=by
 intro pi s σ H Q I q;show ae (ae (bo (h pi s σ H Q I q) (λb s' hb=>au (au hb)) λy y x=>x))
abbrev M1(scope:Scope)(cl:@&(Str×Addr))(C:Addr):@&(Str×Addr):=cellsFrom (C+1) scope.names []++cl
def N4:∀(names:@&(Str×NameKind)) (n:Nat) (acc:@&(Str×Addr)),cellsFrom n names acc=cellsFrom n names []++acc
 |[],_,_=>rfl
 |(y,k)::r,n,acc=>by
  unfold cellsFrom;split
  .rw[N4 r (n+1) ((y,n)::acc),N4 r (n+1) [(y,n)],hV]
   rfl
  .exact N4 r n acc
def GZ{x}{c}:∀{names:@&(Str×NameKind)} {n:Nat},(x,c)∈cellsFrom n names []->(x,NameKind.cell)∈names
 |[],_,h=>by simp[cellsFrom] at h
 |(y,k)::r,n,h=>by
  unfold cellsFrom at h;split at h
  .rw[N4] at h;rcases bA.mp h with z|z
   .exact bP _ (GZ z)
   grind
  .exact bP _ (GZ h)
def V0{α:Type}:∀{a b:@&(Str×α)},(a++b).lookup x=(a.lookup x).or (b.lookup x)
 |[],_=>rfl
 |(y,v)::r,b=>by
  grind
def Pn(h:scope.names.lookup x=!.cell\/∃c,cl.lookup x=!c):∃c,(M1 scope cl C).lookup x=!c:=by
 unfold M1;rw[V0];cases e:(cellsFrom (C+1) scope.names []).lookup x with
 |some c=>show#[c,rfl]
 |none =>
  rcases h with h|h
  .let q:=dR scope.names (C+1) [] (.inl h);rw[e] at q;cases q
  .exact h
def V5{env:Env}:∀{names:@&(Str×NameKind)} {x:Str},names.lookup x=!.cell ->
  (names.map λ(n,k)=>if(k==NameKind.free&&env.scope.kind==.function&&env.kindOf n==!.cell) then(n,NameKind.cell) else(n,k)).lookup x=!.cell
 |[],_,h=>by simp at h
 |(n,k)::r,x,h=>by
  let ih:=@V5 env r x;change List.lookup x ((if(k==NameKind.free&&env.scope.kind==.function&&env.kindOf n==!.cell)=true then(n,NameKind.cell) else(n,k))::_)=_;cases hx:x==n with
  |true =>
   simp only[List.lookup_cons,hx] at h
   simp_all
  |false =>
   simp only[List.lookup_cons,hx] at h;by_cases hc:(k==NameKind.free&&env.scope.kind==.function&&env.kindOf n==!.cell)=true
   .rw[aM hc];simp only[List.lookup_cons,hx];show ih h
   .rw[aI hc];simp only[List.lookup_cons,hx];show ih h
def OB{h}(ck:CellsOk h (C+1) (cellsFrom (C+1) scope.names [])){c}(e:(M1 scope cl C).lookup x=!c):C<c\/cl.lookup x=!c:=by
 unfold M1 at e;rw[V0] at e;cases e2:(cellsFrom (C+1) scope.names []).lookup x with
 |some c' =>
  rw[e2] at e;cases e;show .inl (ck.empty x c (aR e2)).2
 |none =>
  rw[e2] at e;show .inr e
def Hn{M}{E}{globals}{outer}{Q}(hQ:∀ cW:Heap,cW.Ns s⁻¹ (λx=>none)->(∀ b o,s.heap.get? b=!o->cW.get? b=!o)->CellsOk cW (s⁻¹ + 1) (cellsFrom (s⁻¹ + 1) scope.names []) ->
   Q (newEnv scope s⁻¹ globals (M1 scope cl s⁻¹) qual none .none (!outer) builtinsNs) { s with heap:=cW }) :
  wpAny M A (newFunctionEnv scope globals cl [] qual none .none (!outer)) Q E s:=by
 simp only[newFunctionEnv,Option.isSome_some,if_true];show ae (wpAny_alloc ?_);show ae (wpAny_layCells _ (λname kind cells=>by rfl) _ _ _ _ ?_);let ok:=cellsFrom_ok scope.names (s.heap.push { cls:=.type "dict",data:=.dict (List.toArray []) }) (s⁻¹+1) [] #[λx x hm=>(nomatch hm),List.Pairwise.nil] #[_];rw[dD] at ok;rw[show({ s with heap:=s.heap.push { cls:=.type "dict",data:=.dict (List.toArray []) } }:Shared).heap.objs.size=s⁻¹+1 from dD ..];show ae (au (au ?_));rw[N4];show hQ _ ((Heap.Ns.new s.heap (.type "dict")).keeps (pushCells_keeps _ _)) (λb o e=>pushCells_keeps _ _ b o (ai _ e)) ok
abbrev f7(X:Cx)(pi:@&(Addr×Obj))(scope:Scope)(N':@&Str)(cl:@&(Str×Addr))(C:Addr)(s:Shared)(H:Hp)(fp:@&Addr):Cx where
 prog:=X.prog
 w:=X.w
 K:=X.K
 mg:=X.mg
 base:=X.base
 A:=X.A
 N:=N'
 dF:=s
 jN:=H
 env:=compEnvC scope (M1 scope cl C) C X.env
 outer:=X.stack
 stack:=X.stack
 ex:=fp
 calm:=true
 fn:=λx=>decide (scope.names.lookup x=!.cell)
 pn:=X.pn++pi
 xe:=λy y=>False
structure cF(X:Cx)(scope:Scope)(N':@&Str)(d8:@&Nat)(cl:@&(Str×Addr)):Prop where
 kind:scope.kind=.function
 cells:∀y∈scope.names,y.2=.cell->scope.names.lookup y.1=!.cell
 names:∀y∈scope.names,y.2=.local->scope.names.lookup y.1=!.local
 ot:closureFor scope X.env=pure cl
 cin:∀x c,cl.lookup x=!c->X.env.cells.lookup x=!c
 ya:∀x,scope.names.lookup x=!.free->∃c,cl.lookup x=!c
 nd:N'.Nodup
 WG:∀(i j:Nat),d8[i]?=!j->∃x,N'[i]?=!x/\X.N[j]?=!x/\scope.names.lookup x=!.free/\(X.env.kindOf x=!.cell\/X.env.kindOf x=!.free)
 Fj:-d8<=-N'
def O4{env:Env}:∀{names:@&(Str×NameKind)} {x:Str},names.lookup x=!.free ->
  (names.map λ(n,k)=>if(k==NameKind.free&&env.scope.kind==.function&&env.kindOf n==!.cell) then(n,NameKind.cell) else(n,k)).lookup x=!.cell \/
  (names.map λ(n,k)=>if(k==NameKind.free&&env.scope.kind==.function&&env.kindOf n==!.cell) then(n,NameKind.cell) else(n,k)).lookup x=!.free
 |[],_,h=>by simp at h
 |(n,k)::r,x,h=>by
  let ih:=@O4 env r x;change List.lookup x ((if(k==NameKind.free&&env.scope.kind==.function&&env.kindOf n==!.cell)=true then(n,NameKind.cell) else(n,k))::_)=_\/List.lookup x ((if(k==NameKind.free&&env.scope.kind==.function&&env.kindOf n==!.cell)=true then(n,NameKind.cell) else(n,k))::_)=_;cases hx:x==n with
  |true =>
   simp only[List.lookup_cons,hx] at h;cases h;by_cases hc:(NameKind.free==NameKind.free&&env.scope.kind==.function&&env.kindOf n==!.cell)=true
   .rw[aM hc];simp[List.lookup_cons,hx]
   .rw[aI hc];simp[List.lookup_cons,hx]
  |false =>
   simp only[List.lookup_cons,hx] at h;by_cases hc:(k==NameKind.free&&env.scope.kind==.function&&env.kindOf n==!.cell)=true
   .rw[aM hc];simp only[List.lookup_cons,hx];show ih h
   .rw[aI hc];simp only[List.lookup_cons,hx];show ih h
def V6{env:Env}:∀{names:@&(Str×NameKind)} {x:Str},((names.map λ(n,k)=>if(k==NameKind.free&&env.scope.kind==.function&&env.kindOf n==!.cell) then(n,NameKind.cell) else(n,k)).lookup x=!.cell \/
  (names.map λ(n,k)=>if (k == NameKind.free && env.scope.kind == .function && env.kindOf n == !.cell) then (n,NameKind.cell) else (n,k)).lookup x=!.free)->names.lookup x=!.free \/ names.lookup x=!.cell
 |[],_,h=>by simp at h
 |(n,k)::r,x,h=>by
  let ih:=@V6 env r x;rw[bD] at h;cases hx:x==n with
  |true =>
   simp only[List.lookup_cons,hx];by_cases hc:(k==NameKind.free&&env.scope.kind==.function&&env.kindOf n==!.cell)=true
   .refine .inl ?_;simp only[Bool.and_eq_true,beq_iff_eq] at hc;rw[hc.1.1]
   .simp only[if_neg hc,List.lookup_cons,hx] at h;rcases h with h|h
    .exact .inr h
    .exact .inl h
  |false =>
   simp only[List.lookup_cons,hx];by_cases hc:(k==NameKind.free&&env.scope.kind==.function&&env.kindOf n==!.cell)=true
   .simp only[if_pos hc,List.lookup_cons,hx] at h;show ih h
   .simp only[if_neg hc,List.lookup_cons,hx] at h;show ih h
def E3(σ:St)(d8:@&Nat)(n:Nat):St:=d8.map (λj=>(σ[j]?).join)++List.replicate (n- -d8) none
section
variable{pi:@&(Addr×Obj)}{σ:St}{H:Hp}
def Inv.a90{h1}{tk}(I:Inv X pi σ H s)(S:cF X scope N' d8 cl)(hc:X.calm=true)(hf:∀b∈fp,M5 X pi H b)(ho:∀b∈fp,∃o,s.heap.get? b=!o)(hC:s⁻¹<=C)(hn:∃m,h1.Ns C m)(k:∀b o,s.heap.get? b=!o->h1.get? b=!o)(ck:CellsOk h1 (C+1) (cellsFrom (C+1) scope.names [])) :
  Inv (f7 X pi scope N' cl C s H fp) [] (E3 σ d8 (-N')) H { s with heap:=h1,toks:=tk }:=by
 let#[m,hm]:=hn;let TK:=S.kind;let JF:∀b o,s.heap.get? b=!o->b≠C:=λb o e z=>absurd (az e) (by simp_all);let two:∀{x:Str} {c:Addr},(M1 scope cl C).lookup x=!c->(C<c/\h1.IsCell c none/\(x,c)∈cellsFrom (C+1) scope.names [])\/(cl.lookup x=!c/\(cellsFrom (C+1) scope.names []).lookup x=none):=λ{x c} h=>by
  unfold M1 at h;rw[V0] at h;cases e:(cellsFrom (C+1) scope.names []).lookup x with
  |some c' =>
   rw[e] at h;cases h;let hm:=aR e;show .inl #[(ck.empty x c hm).2,(ck.empty x c hm).1,hm]
  |none =>
   rw[e] at h;show .inr #[h,rfl]
 let wz:∀{x:Str} {c:Addr},cl.lookup x=!c->c<s⁻¹:=λ{x c} h=>by
  let#[v,o,e,_]:=I.cell x c (S.cin x c h);show az e
 let frees:∀{x:Str},scope.names.lookup x=!.free->(M1 scope cl C).lookup x=cl.lookup x:=λ{x} h=>by
  unfold M1;rw[V0];cases e:(cellsFrom (C+1) scope.names []).lookup x with
  |some c' =>
   have:=S.cells _ (GZ (aR e)) rfl
   simp_all
  |none=>rfl
 show#[#[I.mod,TK,I.ok.glob,I.ok.blt,hC,?_,?_,?_,λw=>I.ok.hd hc,I.ok.frames,.inl rfl,?_,I.bs,?_,?_,?_,I.stack,I.AG],rfl,I.bare,Un.kept k,#[m,hm,?_],?_,?_,?_,?_,I.bR.kept k,?_,λdn z=>absurd (show(none:Option (List (Option V)))=some dn from z) #[_]]
 .intro x y c h1 h2;rcases two h1 with⟨l1,_,q1⟩|⟨q1,_⟩<;>rcases two h2 with⟨l2,_,q2⟩|⟨q2,_⟩
  .exact PySem.name_of_addr ck.apart q1 q2
  .exact absurd (cH l1 (aB (wz q2) hC)) (bS _)
  .exact absurd (cH l2 (aB (wz q1) hC)) (bS _)
  .exact I.ok.inj x y c (S.cin x c q1) (S.cin y c q2)
 .intro x hx;rcases V6 hx with z|z
  .let#[c,hc]:=S.ya x z;show#[c,(frees z).trans hc]
  .let q:=dR scope.names (C+1) [] (.inl z);let#[c,hc]:=fc.mp q;show#[c,?_];show(M1 scope cl C).lookup x=!c;unfold M1;rw[V0,hc]
   rfl
 .intro x c hf h;let z:=aP hf;let q:=dR scope.names (C+1) [] (.inl z);rcases two h with⟨l,_⟩|⟨_,e⟩
  .exact dC (gH hC l)
  simp_all
 .intro b hb;let#[f0,f1,f2,f3,f4,f5]:=hf b hb;let#[o,e]:=ho b hb;show#[JF b o e,λx c h=>?_];rcases two h with⟨l,_⟩|⟨q,_⟩
  .intro z;subst z;show absurd (cH l (aB (az e) hC)) (bS _)
  .exact f4 x c (S.cin x c q)
 .exact aC I.ok.ou I.sz
 .intro b o e hb;let#[f0,f1,f2,f3,f4,f5]:=hf b hb;rcases f3 with f3|f3
  .exact I.ok.kO b o e f3
  .exact absurd (az (I.ok.bs b o e).1) (Ry.mpr f3)
 .intro b hb z;let#[f0,f1,f2,f3,f4,f5]:=hf b hb;rcases aJ.mp (I.uJ b z) with z|z
  .exact f1 z
  .exact f2 z
 .intro i x v EL h2 h3;let hi:i< -d8:=by
   unfold E3 at h2;by_cases hi:i< -d8
   .exact hi
   .rw[br (_/hi),dN] at h2
    simp_all
  obtain⟨j,hj⟩:∃j,d8[i]?=!j:=#[_,aj hi]
  let hs:σ[j]?=!!v:=by
   unfold E3 at h2;rw[aF (_/hi),ag,hj] at h2;simp only[Option.map_some] at h2;cases e:σ[j]? with
   |none=>rw[e] at h2;cases h2
   |some a=>rw[e] at h2;show dJ some (aO h2)
  let#[y,SQ,Dc,wO,SO]:=S.WG i j hj;let ey:y=x:=by
   let xM:N'[i]?=!x:=EL;rw[SQ] at xM;show aO xM
  subst ey;let#[m0,hm0,hl]:=I.loc;let ⟨u,ru,hu⟩:=hl j y v Dc hs (by
   rcases SO with z|z
   .exact .inr (.inl z)
   .exact .inr (.inr z))
  show#[u,ru,.inr #[O4 wO,?_]];rcases hu with⟨z,_⟩|⟨_,c,Ab,qj⟩
  .simp_all
  .let#[c',ni]:=S.ya y wO;let e:=S.cin y c' ni;rw[Ab] at e;cases e;let#[o,e1,e2]:=qj;show#[c,(frees wO).trans ni,o,k _ _ e1,e2]
 .intro x c h;rcases two h with⟨_,q,_⟩|⟨q,_⟩
  .exact#[none,q]
  .let#[v,o,e1,e2]:=I.cell x c (S.cin x c q);show#[v,o,k _ _ e1,e2]
 .exact I.bR.fresh hC
 .intro x c h;rcases two h with⟨l,_⟩|⟨q,_⟩
  .exact I.bR.fresh (dC (gH hC l))
  .exact I.eX x c (S.cin x c q)
 .intro p hp;let iN:p∈X.pn++pi:=by simpa[f7] using hp
  let#[p1,p2,p3,p4,p5]:=I.pin p iN;show#[k _ _ p1,p2,JF _ _ p1,λz=>?_,p5];rcases aJ.mp (I.uJ _ z) with z|z
  .exact p3 z
  .exact p4 z
 .unfold E3;change _=-N';rw[cq,ao,zw];have:=S.Fj;omega
def Inv.Xd{fF:@&(Addr×Obj)}{cg:St}{H':Hp}{s':Shared}(I:Inv X pi σ H s)(hf:∀b∈fp,M5 X pi H b)(J:Inv (f7 X pi scope N' cl C s H fp) fF cg H' s'):Inv X pi σ H' s' :=
 I.Iq (ch:=fp) J.os J.base J.bR J.bare λb hb=>by
  let#[f0,f1,f2,f3,f4,f5]:=hf b hb;show#[f3,f1,f4,f5]
def Inv.b02{D}{ys}{aZ}{n}(I:Inv X pi σ H s)(f:M5 X pi H D)(hs:X.dF.heap.objs.size<=D)(hv:Vals ys aZ)(hz:-ys<=sizeLine)(ho:s.heap.get? D=some { cls:=.type "list",data:=.seq aZ.toArray n }):Inv X pi σ (upd H D (.lst ys)) s:=by
 let#[f0,f1,f2,f3,f4,f5]:=f;let fE:∀b o,X.dF.heap.get? b=!o->b≠D:=λb o e z=>absurd (az e) (by rw[z];show Ry.mpr hs);let tup:∀b u,H b=!u->upd H D (.lst ys) b=!u:=λb u e=>by rw[d6 (i9 e f0)];show e
 show#[I.ok,I.os,I.bare,#[?_,?_,?_,I.base.there,?_,?_,?_],I.loc,I.cell,?_,?_,?_,?_,I.len,I.sg]
 .exact λb o e n1 n2 n3=>I.base.keep b o e n1 n2 n3
 .exact λb o e n1 n2 n3=>I.base.slot b o e n1 n2 n3
 .exact λb o e n1 n2=>by rw[d6 (fE b o e)];show I.base.free b o e n1 n2
 .exact λb xs e=>tup _ _ (I.base.jc b xs e)
 .exact λb o u e=>tup _ _ (I.base.iO b o u e)
 .exact λb ps e=>by
   let#[more,q]:=I.base.jd b ps e;show#[more,tup _ _ q]
 .rw[d6 f1.symm];show I.free
 .exact λx c e=>by rw[d6 (f4 x c e)];show I.eX x c e
 .intro p hp;let#[p1,p2,p3]:=I.pin p hp;show#[p1,by rw[d6 (f5 p hp)];show p2,p3]
 .intro a o e;by_cases ha:a=D
  .subst ha;rw[m4] at e;cases e;show#[hz,aZ,n,hv,ho]
  .rw[d6 ha] at e;let q:=I.bR a o e;show q.K9 (λb u y h=>h) (λb hb=>tup _ _ hb) (λb xs hb=>tup _ _ hb)
end
def IG(wi:TI)(d8:@&Nat)(n:Nat)(g:TG)(tc:TT)(te:TE):TE:=λσ H Q=>wi σ H λJ H1=>∃W:Nat->Nat->@&V->St->Hp->Prop,(∃m,W 0 m [] (E3 σ d8 n) H1)/\∀i m ys σ H,W i m ys σ H ->
 (J.stop i H/\∀p,H p=none->Q (.ref p) (upd H p (.lst ys))) \/
 (J.go i H/\-ys < sizeLine/\∀ x H',J.oH i H x H'->g x σ H' λcE H2=>tc cE H2 λb H3 =>
  if b=true then te cE H3 λy H4=>∃ m',m' < m/\W (i + 1) m' (ys ++ [y]) cE H4 else ∃ m',m' < m/\W (i + 1) m' ys cE H3)
noncomputable abbrev Wb(aZ:@&Value)(n:Nat):Obj:={ cls:=.type "list",data:=.seq aZ.toArray n }
section
variable{pi:@&(Addr×Obj)}{σ:St}{H:Hp}
structure BU(X:Cx)(n0:Nat){α:Type}(K:Addr->α->Heap->Obj->Prop)(fin:Addr->α->HO):Prop where
 nc:∀{a y h o},K a y h o->∀v,o.data≠.cell v
 get:∀{a y h o},K a y h o->h.get? a=!o
 K9:∀{a y h h' o},K a y h o->h'.get? a=!o->K a y h' o
 done:∀{pi σ H s a y o},n0<=a->Inv X pi σ H s->M5 X pi H a->X.dF.heap.objs.size<=a->K a y s.heap o->Inv X pi σ (upd H a (fin a y)) s
def Gj{α:Type}{K:Addr->α->Heap->Obj->Prop}{fin:Addr->α->HO}{y0:α}{o0:Obj}{Bd:α->Prop}{tb:α->St->Hp->(α->Hp->Prop)->Prop}{body:(Shared->Prop)->Shared->Prop}{LP:Shared->Prop}{it:Addr}{tn:Nat->Heap->Prop}{J:It}{R:Result->Shared->Prop}{W:Nat->Nat->α->St->Hp->Prop}{m0:Nat}{Q:VK}{cW:Heap}{env:Env}(G:BU X s⁻¹ K fin)(S:cF X scope N' d8 cl)(hc:X.calm=true)(hg:PG (f7 X pi scope N' cl C s H fp) tg g)(ht:jP (f7 X pi scope N' cl C s H fp) ifs tc)(I:Inv X pi σ H s)(T:Turn X.prog X.w X.K tg J fp it tn)(st:tn 0 s.heap)(hf:∀b∈fp,M5 X pi H b)(w0:W 0 m0 y0 (E3 σ d8 (-N')) H)(turn:∀ i m y σ H,W i m y σ H->(J.stop i H/\∀ p,H p=none->Q (.ref p) (upd H p (fin p y))) \/
   (J.go i H/\Bd y/\∀ x H',J.oH i H x H'->g x σ H' λcE H2=>tc cE H2 λb H3 =>
    if b=true then tb y cE H3 λy' H4=>∃ m',m' < m/\W (i + 1) m' y' cE H4 else ∃ m',m' < m/\W (i + 1) m' y cE H3))(tP:∀s' H' m,Inv X pi σ H' s'->Q (.ref s⁻¹) H'->s'.heap.Ns C m->H' C=none->s⁻¹<=C->R (.ok .next) s')(zV:∃m,cW.Ns C m)(uW:∀b o,(s.heap.push o0).get? b=!o->cW.get? b=!o)(qi:CellsOk cW (C+1) (cellsFrom (C+1) scope.names []))(eC:s⁻¹+1=C)(k0:K s⁻¹ y0 cW o0)(ev:(f7 X pi scope N' cl C s H fp).env=env)(DL:∀ y o fF cg H' s' (P:α->Hp->Prop) (R':Shared->Prop),Bd y->K s⁻¹ y s'.heap o->(∀ {zy H8 s8},Inv (f7 X pi scope N' cl C s H fp) fF zy H8 s8->s8.heap.get? s⁻¹=!o)->Inv (f7 X pi scope N' cl C s H fp) fF cg H' s'->tb y cg H' P ->
   (∀ s8 H8 y' h' t' o',Inv (f7 X pi scope N' cl C s H fp) fF cg H8 s8->P y' H8->(∀ b u,b ≠ s⁻¹->s8.heap.get? b=!u->h'.get? b=!u)->K s⁻¹ y' h' o'->R' { s8 with heap:=h',toks:=t' })->body R' s')(lp:∀ (I:Nat->Shared->Prop),(∀ n s,I n s->wpAny (model X.prog X.w) X.A (pyNext (.ref it)) (λr bI=>match r with
   |none=>R (.ok .next) bI
   | some v=>wpAny (model X.prog X.w) X.A (letOwnedTupleGo tg (.ref it) v) (λt bI=>wpAny (model X.prog X.w) X.A (assign tg env v) (λ_ fg =>
     wpAny (model X.prog X.w) X.A (forIn ifs true λc r=>if r=true then do let ok <- isTrue c env (eval c env);pure (ForInStep.yield ok) else pure (ForInStep.yield r)) (λok dW =>
      if ok=true then body (λgJ=>∃ m,m < n/\I m gJ) dW else ∃ m,m < n/\I m dW) (λt t=>False) fg) (λt t=>False) bI) (λt t=>False) bI) (λt t=>False) s)->∀ n,I n { s with heap:=cW }->LP { s with heap:=cW }) :
  tn 0 cW/\LP { s with heap:=cW }:=by
 subst ev;generalize DS:s.heap.push o0=H2 at uW;generalize eD:s⁻¹=D at *;let Kx:D≠C:=by omega
 let lt:∀b o,s.heap.get? b=!o->b<D:=λb o e=>by rw[<- eD];show az e
 let zM:D<=C:=by omega
 let uT:∀b o,s.heap.get? b=!o->b≠C:=λb o e=>aK (aB (lt b o e) zM);let wF:∀b o,s.heap.get? b=!o->b≠D:=λb o e=>aK (lt b o e);let old:∀b o,s.heap.get? b=!o->cW.get? b=!o:=λb o e=>uW b o (DS▸ai _ e);let lG:∀b∈fp,∃o,s.heap.get? b=!o:=λb hb=>by
  let#[o,e,_]:=T.obj _ _ st b hb;show#[o,e]
 let Kw:D∉fp:=λhm=>by
  let#[o,e]:=lG D hm;show wF D o e rfl
 let X1:Inv (f7 X pi scope N' cl C s H fp) [] (E3 σ d8 (-N')) H { s with heap:=cW } :=
  I.a90 S hc hf lG (by rw[eD];omega) zV old qi
 let Ju:=T.keep _ _ _ st λb t o e=>old b o e;let UW:∀{H':Hp},(∀b∈fp,H' b=none)->∀b∈fp,M5 (f7 X pi scope N' cl C s H fp) [] H' b:=λhn b hb=>by
  let#[f0,f1,f2,f3,f4,f5]:=hf b hb;let#[o,e]:=lG b hb;show#[hn b hb,?_,?_,.inl hb,λx c q=>(OB qi q).elim (λl z=>absurd (cH (z▸l) (aB (lt b o e) zM)) (bS _)) λq=>f4 x c (S.cin x c q),λp hp=>?_]
  .exact uT b o e
  .exact λz=>by
    rcases aJ.mp (I.uJ b z) with z|z
    .exact f1 z
    .exact f2 z
  .let iN:p∈X.pn++pi:=by simpa[f7] using hp
   show f5 p iN
 let fD:∀{H':Hp},H' D=none->M5 (f7 X pi scope N' cl C s H fp) [] H' D:=λhn=>by
  show#[hn,Kx,λz=>?_,.inr (by change s⁻¹<=D;omega),λx c q=>?_,λp hp=>?_]
  .exact absurd (I.FE (a:=D) ()) λnh=>by
    rcases aJ.mp (I.uJ D z) with z|z
    .exact absurd I.lt (by rw[<- z,eD];show bS _)
    .exact nh z
  .rcases OB qi q with l|q
   .exact λz=>absurd (aB (z▸l) zM) (bS _)
   .let#[v,o,e,_]:=I.cell x c (S.cin x c q);show wF c o e
  .let iN:p∈X.pn++pi:=by simpa[f7] using hp
   show wF _ _ (I.pin p iN).1
 show#[Ju,lp (λn s'=>∃(i:Nat) (y:α) (cg:St) (H':Hp) (o:Obj),Inv (f7 X pi scope N' cl C s H fp) [] cg H' s'/\tn i s'.heap/\(∀b∈fp,H' b=none)/\H' D=none/\K D y s'.heap o/\W i n y cg H') ?_ m0 #[0,y0,_,H,o0,X1,Ju,λb hb=>(hf b hb).1,I.bR.fresh (),k0,w0]];rintro n s3 ⟨i,y,jk,H3,o,I3,wk,xO,d3,k3,w3⟩;let Rm:Inv (f7 X pi scope N' cl C s H fp) [(D,o)] jk H3 s3:=I3.yD λp hp=>by
  let z:p=(D,o):=by simpa using hp
  subst z;let#[f0,f1,f2,_]:=fD d3;show#[G.get k3,f0,f1,f2,G.nc k3]
 let mR:∀{H':Hp},(∀b∈fp,H' b=none)->∀b∈fp,M5 (f7 X pi scope N' cl C s H fp) [(D,o)] H' b:=λ{H'} hn b hb=>by
  let#[f0,f1,f2,f3,f4,f5]:=UW hn b hb;show#[f0,f1,f2,f3,f4,λp hp=>?_];let iN:p∈(f7 X pi scope N' cl C s H fp).pn\/p=(D,o):=by simpa using hp
  rcases iN with z|z
  .exact f5 p (eI _ z)
  .subst z;show λz=>Kw (by rw[show D=b from z];show hb)
 rcases turn i n y jk H3 w3 with⟨stop,q⟩|⟨go,hz,step⟩
 .refine cG (T.done (f7 X pi scope N' cl C s H fp) rfl rfl rfl rfl i _ s3 _ H3 _ Rm (mR xO) wk stop) ?_;rintro r s4 ⟨hr,I4⟩;subst hr;let J4:=I.Xd hf I4;let ET:M5 X pi H3 D:=by
   show#[d3,bL (by rw[<- eD];show I.lt),I.FE (),.inr (by have:=I.sz;omega),λx c q=>?_,λp hp=>?_]
   .let#[v,o,e,_]:=I.cell x c q;show wF c o e
   .exact wF _ _ (I.pin p hp).1
  let#[mC,Tt,_]:=I4.loc;show tP s4 _ mC (G.done (av _) J4 ET (by have:=I.sz;omega) (G.K9 k3 (I4.pin (D,o) #[_]).1)) (q D d3) Tt (by rw[d6 Kx.symm];show I4.free) zM
 .refine cG (T.item (f7 X pi scope N' cl C s H fp) rfl rfl rfl rfl i _ s3 _ H3 _ Rm (mR xO) wk go) ?_;rintro r s4 ⟨u,hr,h4⟩;subst hr;show cG h4 λt s5 bu=>?_;let#[x,H5,I5,r5,y5,sQ,ES]:=bu;let IX:=I5.pinned (mR ES) (T.obj _ _ sQ);show cG (hg _ s5 _ H5 x u _ IX r5 (step x H5 y5)) λt s6 bu=>?_;let#[sH,H6,I6,q6]:=bu;show cG (ht _ s6 sH H6 _ I6 q6) ?_;rintro ok s7 ⟨H7,I7,q7⟩;let back:∀{zy:St} {H8:Hp} {s8:Shared},Inv (f7 X pi scope N' cl C s H fp) ([(D,o)]++yq fp s5.heap) zy H8 s8->(∀b∈fp,H8 b=none)/\tn (i+1) s8.heap/\H8 D=none/\s8.heap.get? D=!o :=
   λ{zy H8 s8} I8=>by
    let pf:∀b∈fp,∀o,s5.heap.get? b=!o->s8.heap.get? b=!o/\H8 b=none:=λb hb o e=>by
     have:=I8.pin (b,o) (bT _ (bT _ (GI hb e)));show#[this.1,this.2.1]
    let pd:=I8.pin (D,o) #[_];show#[λb hb=>?_,T.keep _ _ _ sQ λb hb o e=>(pf b hb o e).1,pd.2.1,pd.1];let#[o,e,_]:=T.obj _ _ sQ b hb;show(pf b hb o e).2
  cases ok with
  |false =>
   let#[m',hm,w7]:=q7;let#[b1,b2,b3,b4]:=back I7;show#[m',hm,i+1,y,sH,H7,o,I7.yD λp hp=>absurd hp #[_],b2,b1,b3,G.K9 k3 b4,w7]
  |true =>
   show DL y o _ sH H7 s7 _ _ hz (G.K9 k3 (back I7).2.2.2) (λI8=>(back I8).2.2.2) I7 q7 ?_;rintro s8 H8 y' h' t' o' I8 ⟨m',hm,w8⟩ kp k8;let#[b1,b2,b3,b4]:=back I8;let I8':Inv (f7 X pi scope N' cl C s H fp) [] sH H8 s8:=I8.yD λp hp=>absurd hp #[_];let#[f0,f1,f2,f3,f4,f5]:=fD (H':=H8) b3;show#[m',hm,i+1,y',sH,H8,o',I8'.turned (t':=t') (λb o hb e=>kp b o hb e) f0 f1 f3 f4 f5,T.keep _ _ _ b2 λb hb o e=>kp b o (λz=>Kw (by rw[<- z];show hb)) e,b1,b3,k8,w8]
def KL(a:Addr)(ys:@&V)(h:Heap)(o:Obj):Prop:=∃aZ n,Vals ys aZ/\-ys<=sizeLine/\o=Wb aZ n/\h.get? a=!o
def Xp{n0}:BU X n0 KL λx ys=>.lst ys where
 nc:=λ⟨_,_,_,_,e,_⟩ v z=>by subst e;cases z
 get:=λ⟨_,_,_,_,_,e⟩=>e
 K9:=λ⟨aZ,n,h1,h2,h3,_⟩ e=>#[aZ,n,h1,h2,h3,e]
 done:=λ_ I f hs ⟨aZ,n,h1,h2,h3,e⟩=>I.b02 f hs h1 h2 (h3▸e)
def Qh{it:Addr}{tn:Nat->Heap->Prop}{J:It}{xx:Addr->Shared->Hp->Value->Shared->Prop}{RR:Value->Addr->Result->Shared->Prop}{E:Value->Shared->Prop}{W:Nat->Nat->@&V->St->Hp->Prop}{m0:Nat}{Q:VK}(S:cF X scope N' d8 cl)(hc:X.calm=true)(hg:∀C s H,PG (f7 X pi scope N' cl C s H fp) tg g)(ht:∀C s H,jP (f7 X pi scope N' cl C s H fp) ifs tc)(he:∀C s H,PE ((f7 X pi scope N' cl C s H fp).qR (xx C s H)) elt te)(I:Inv X pi σ H s)(T:Turn X.prog X.w X.K tg J fp it tn)(st:tn 0 s.heap)(hf:∀b∈fp,M5 X pi H b)(w0:W 0 m0 [] (E3 σ d8 (-N')) H)(turn:∀ i m ys σ H,W i m ys σ H->(J.stop i H/\∀ p,H p=none->Q (.ref p) (upd H p (.lst ys))) \/
   (J.go i H/\-ys < sizeLine/\∀ x H',J.oH i H x H'->g x σ H' λcE H2=>tc cE H2 λb H3 =>
    if b=true then te cE H3 λy H4=>∃ m',m' < m/\W (i + 1) m' (ys ++ [y]) cE H4 else ∃ m',m' < m/\W (i + 1) m' ys cE H3))(tP:∀D C s' H' m,Inv X pi σ H' s'->Q (.ref D) H'->s'.heap.Ns C m->H' C=none->s⁻¹<=C->RR (.ref D) C (.ok .next) s')(Ut:∀D C e s',s⁻¹<=C->xx C s H e s'->notedBy (model X.prog X.w) X.A (compEnvC scope (M1 scope cl C) C X.env) (λe s'=>RR (.ref D) C (.error e) s') e s') :
  wpAny (model X.prog X.w) X.A (newList []) (λacc dW=>wpAny (model X.prog X.w) X.A (newFunctionEnv scope X.env.globals cl [] X.env.qual none .none (!X.env)) (λkf fP =>
   kf.frame=X.env.frame/\codeAny (model X.prog X.w) X.A (.compStart (.ListComp elt [#[tg,iter,ifs,0]] scope pos) 0 (.ref it) acc { kf with scope:=relabel scope X.env }) (RR acc kf.locals) fP) E dW) E s:=by
 show cN (Hn λcW jw gc qi=>?_);let eC:(s.heap.push { cls:=.type "list",dict:=none,data:=.seq ([]:@&Value).toArray }).objs.size=s⁻¹+1:=dD ..
 replace eC:=eC.symm
 generalize (s.heap.push { cls:=.type "list",dict:=none,data:=.seq ([]:@&Value).toArray }).objs.size=C at *;show (λL=>#[rfl,codeAny_compStart_list L.2 (T.self _ 0 _ _ _ L.1 L.2)]) (Gj (tb:=λys σ H P=>te σ H λy H'=>P (ys ++ [y]) H')
  (body:=λP dW=>wpAny (model X.prog X.w) X.A (eval elt (compEnvC scope (M1 scope cl C) C X.env)) (λx fP=>wpAny (model X.prog X.w) X.A (call (.builtin "list.append") [.ref s⁻¹,x]) (λz gJ=>P gJ) (λz z=>False) fP) (notedBy (model X.prog X.w) X.A (compEnvC scope (M1 scope cl C) C X.env) λe s'=>RR (.ref s⁻¹) C (.error e) s') dW)
  Xp S hc (hg C s H) (ht C s H) I T st hf w0 turn (λs' H' m=>tP _ C s' H' m) #[_,jw] gc qi eC #[[],0,.nil,cj _,rfl,gc _ _ (aD _ rfl)] rfl (λys o fF cg H' s' P R' hz k hb I' q hR=>?_) (λI turn n h=>aV1 I turn n h))
 .refine bo (he C s H _ s' cg H' _ (I'.qR _) q) (λxv s8 bu=>?_) λe s' hx=>Ut _ C e s' () hx;let#[y,H8,I8,r8,q8]:=bu;let I8:=I8.HK;let#[aZ,nn,v3,z3,rfl,_]:=k;let b4:=hb I8;show ei F.slot_list_append #[_,b4,rfl] F.entry_list_append (F.args_list_append_2 _ _) (PySem.list_append _ aZ.toArray nn xv (by rw[aS];have:=-v3;omega)) #[b4,?_];let q0:=PySem.IsL.update b4 (·.push xv);rw[show aZ.toArray.push xv=(aZ++[xv]).toArray by simp] at q0;show hR s8 H8 _ _ s8.toks _ I8 q8 (λb' u hb hu=>(cC s8.heap (Obj.mapSeq (·.push xv)) (aX hb)).trans hu) #[_,_,v3.append (.cons r8 .nil),by rw[cq,zu];omega,rfl,q0]
def Inv.Iy{h':Heap}{s2:Shared}{H2:Hp}(I:Inv X pi σ H s)(hC:s2⁻¹<=C)(I2:Inv X pi σ H2 s2)(hn:H C=none)(sb:Heap.SameBut C s.heap h'):Inv X pi σ H { s with heap:=h' }:=by
 let f:=I2.pq (H':=H) hC hn;let#[f0,f1,f2,f3,f4,f5]:=f;show I.turned (t':=s.toks) (λb o hb e=>sb.extBut b o hb e) f0 f1 f3 f4 f5
def Qj{M}{E:Value->Shared->Prop}{a}{b}{P:Env->Prop}{Q:Value->Env->Shared->Prop}(h:wpAny M A a (λx s1=>wpAny M A b (λy s2=>P y/\Q x y s2) E s1) E s):wpAny M A a (λx s1=>wpAny M A b (λy s2=>Q x y s2) E s1) E s :=
 bo h (λw w h=>bo h (λw w h=>h.2) λw w z=>z) λw w z=>z
def QS{wi}(S:cF X scope N' d8 cl)(hc:X.calm=true)(hi:PI X tg iter wi)(hg:∀pi C s H fp,PG (f7 X pi scope N' cl C s H fp) tg g)(ht:∀pi C s H fp,jP (f7 X pi scope N' cl C s H fp) ifs tc)(he:∀pi C s H fp,PE (f7 X pi scope N' cl C s H fp) elt te)(hs:∀x,foldedSetIterable iter X.env x=pure x):PE X (.ListComp elt [#[tg,iter,ifs,0]] scope pos) (IG wi d8 (-N') g tc te):=by
 intro pi s σ H Q I h;show dQ rfl hs S.ot S.kind S.names (cG (hi pi s σ H _ I h) λxv bI cW=>cG cW λtB fg gF=>?_);let#[it,fp,tn,J,H2,e,I2,T,jH,f2,W,#[m0,w0],turn]:=gF;subst e;show Qj (Qh S hc (λC s H=>hg pi C s H fp) (λC s H=>ht pi C s H fp) (λC s H=>he pi C s H fp) I2 T jH f2 w0 turn ?_ λy y y y y z=>z.elim);intro D C s' H' m I' q hn hC hsz;show#[m,hn,λh' sb=>#[.ref D,H',I'.Iy hsz I2 hC sb,rfl,q]]
def aX0{lE px}{wi}{i}(S:cF X scope N' d8 cl)(hc:X.calm=true)(hi:PI X tg iter wi)(hg:∀pi C s H fp,PG (f7 X pi scope N' cl C s H fp) tg g)(ht:∀pi C s H fp,jP (f7 X pi scope N' cl C s H fp) ifs tc)(he:∀pi C s H fp,PE (f7 X pi scope N' cl C s H fp) elt te)(hs:∀x,foldedSetIterable iter X.env x=pure x)(hN:X.Nd)(oU:X.N[i]?=!x)(hx:Loc X.env.scope x)(hf:X.fn x=true\/X.env.scope.names.lookup x=!.local) :
  PS X (.Assign [.Name x px] (.ListComp elt [#[tg,iter,ifs,0]] scope pos) lE) (vQ (IG wi d8 (-N') g tc te) (sf i)):=by
 intro pi s σ H D I h;let pY:∃b,swapsWith (.ListComp elt [#[tg,iter,ifs,0]] scope pos) (!.Name x px) lE.line X.env=pure b:=#[_,rfl]
 let#[b,pY]:=pY;cases b with
 |false=>show HE hN oU hx (QS S hc hi hg ht he hs) pY hf pi s σ H D I h
 |true =>
  rw[exec_Assign_Name_used _ _ _ _ pY];show ae (dw (ae ?_));show ae (bo (dQ rfl hs S.ot S.kind S.names
   (cG (hi pi s σ H _ I h) λxv bI cW=>cG cW λtB fg gF=>?_)) (λy s' hq=>au (au hq)) λy y e=>e)
  let#[it,fp,tn,J,H2,e,I2,T,jH,f2,W,#[m0,w0],turn]:=gF;subst e;show Qj (Qh (Q:=λv H1=>sf i v σ H1 D.nx) S hc (λC s H=>hg pi C s H fp) (λC s H=>ht pi C s H fp) (λC s H=>he pi C s H fp) I2 T jH f2 w0 turn ?_ λy y y y y z=>z.elim);intro Dl C s' H' m I' q hn hC hsz;show pE (GA I' hN oU hx (v:=.ref Dl) rfl (?_) hf);rintro s3 I3 ⟨a,sb,ha⟩;let DU:C≠a:=by
   let#[f0,f1,f2,f3,f4,f5]:=I2.pq (H':=H') hsz hC;rcases ha with z|z
   .rw[z];show f1
   .exact λz'=>f4 _ _ z z'.symm
  let#[f0,f1,f2,f3,f4,f5]:=I2.pq (H':=H') hsz hC;show#[m,hn.sameBut sb DU,λh3 Cy=>#[_,H',I3.turned (t':=s3.toks) (λb o hb e=>Cy.extBut b o hb e) f0 f1 f3 f4 f5,q]]
end
end L2
namespace HT
open PySem PyProof.Rows
section
variable{prog:Program}{w:World}{A:Around}{E:Value->Shared->Prop}{s:Shared}
def WW{t b:Addr}{ws:@&Value}{Q:Value->Shared->Prop}(ht:IsTup s.heap t (List.toArray []))(hb:IsTup s.heap b ws.toArray)(h1:Q (.ref b) s):wpAny (model prog w) A (binaryOp .Add (.ref t) (.ref b)) Q E s:=by
 let#[#[cls,dd,data,sl],ho,hc,n,hd]:=id ht;let#[#[xZ,rW,data2,lP],kA,qj,n2,hd2]:=id hb;simp only at hc hd qj hd2;subst hc hd qj hd2;show concat_meets #[_,ho,rfl] #[_,kA,rfl] jF mU iZ iJ (ij _ _)
   (tuple_addW0 t b (List.toArray []) ws.toArray n n2 dd rW sl lP rfl) #[ho,kA,h1]
def ap0{t sl}{items}{vl vu}{lo hi}{Q}(ht:IsTup s.heap t items)(hs:s.heap.IsSliceOf sl vl vu .none)(pl:IsPart vl lo)(pu:IsPart vu hi)(hw:eK items.size 0 lo=0/\eK items.size items.size hi=items.size)(h:Q (.ref t) s):wpAny (model prog w) A (getItem (.ref t) (.ref sl)) Q E s:=by
 let#[os,tI,oV,xo]:=id hs;let DM:s.TypeIs (.ref sl) "slice":=#[os,tI,oV]
 unfold getItem
 try with_reducible show bx ?_
 show ae (wpAny_sequenceKey ht.typeIs ∅ ?_);show ae (fK ht.typeIs cc
  (cB cc ht.typeIs entry_tuple_getitem ?_ (args_tuple_getitem _ _)))
 change wpAny _ _ (Builtin.Tuple.tupleItemsOf (.ref t) >>= _) _ _ s;show ae (tupleItemsOf_ ht ?_);show ae (dt DM ?_);show ae (Oa hs pl pu ?_);let CZ:((((eK items.size 0 lo:Nat):Int)==0&&(1:Int)==1&&(eK items.size items.size hi-eK items.size 0 lo)==items.size)=true):=by
  simp_all
 change wpAny _ _ (if(((eK items.size 0 lo:Nat):Int)==0&&(1:Int)==1&&(eK items.size items.size hi-eK items.size 0 lo)==items.size)=true then _ else _) _ _ s;rw[aM CZ];show ae (ae (dt ht.typeIs (au ?_)))
 first
  |show wpAny_bind (wpAny_rule (wpAny_bind (wpAny_pure #[_,rfl,wpAny_pure h])))
  |show wpAny_bind (wpAny_rule (wpAny_pure #[_,rfl,wpAny_pure h]))
  |show wpAny_bind (wpAny_rule (wpAny_bind (wpAny_pure (wpAny_pure #[_,rfl,wpAny_pure h]))))
end
end HT
namespace L2
open PySem PySem.Spec PyProof.Rows
section
variable{X:Cx}
def bQ5(K:PySem.W.Frag):R2:=λx y H Q=>∃a b xs ys,x=.ref a/\y=.ref b/\iR K H a xs/\iR K H b ys/\-xs+-ys<=sizeLine /\
 (xs=[]->Q (.ref b) H)/\(ys=[]->Q (.ref a) H)/\(∀p,H p=none->Q (.ref p) (upd H p (.tup (xs++ys))))
def XO:gj X (binaryOp .Add) (bQ5 X.K):=by
 intro pi s σ H x y v u Q I rx ry h;let#[a,b,xs,ys,rfl,rfl,ha,hb,hz,q0,q1,q2]:=h;by_cases hx:xs=[]
 .subst hx;cases rx;cases ry;let#[aZ,r1,p1,_]:=I.tuple ha;let#[mG,r2,p2,_]:=I.tuple hb;cases r1;show HT.WW p1 p2 #[.ref b,H,I,rfl,q0 rfl]
 .exact bH4 pi s σ H _ _ v u Q I rx ry #[a,b,xs,ys,rfl,rfl,ha,hb,hx,hz,q1,λz=>q2]
abbrev b22(K:PySem.W.Frag):V->Option Int->Option Int->Hp->VK->Prop:=λx lo hi H Q=>∃a xs,x=.ref a/\iR K H a xs /\
 (qD xs lo hi=xs->Q (.ref a) H)/\∀p,H p=none->Q (.ref p) (upd H p (.tup (qD xs lo hi)))
def bD0:zc X (b22 X.K):=by
 intro pi s σ H x v vl vu lo hi sl Q I rx hs pl pu h;let#[a,xs,rfl,hx,q0,q]:=h;by_cases hw:HT.eK (-xs) 0 lo=0/\HT.eK (-xs) (-xs) hi=-xs
 .cases rx;let#[aZ,r,ht,hz]:=I.tuple hx;let hlen:aZ.toArray.size=-xs:=by show r.length.symm
  show#["tuple",_,cc.lookup,ht.typeIs,?_];show HT.ap0 ht hs pl pu (by rw[hlen];show hw) #[.ref a,H,I,rfl,q0 (by unfold qD;simp_all)]
 .exact bO1 pi s σ H _ v vl vu lo hi sl Q I rx hs pl pu #[a,xs,rfl,hx,hw,q]
def aY1:u3 X (.builtin "isinstance") (λxs H Q=>∃x t c b,xs=[x,.ty c]/\iy X.K H x t/\PySem.W.kitOne X.K t (.type c)=!b/\Q (.bl b) H):=by
 intro pi s σ H xs us Q I r h;let#[x,t,c,b,rfl,hT,hk,q]:=h;let#[u,w',rfl,ru,fN]:=vals2 r;cases (show w'=Value.type c from fN);show Zv I ru hT hk λtk=>#[.bl b,H,I.tok tk,rfl,q]
def Za(hc:X.calm=true):u3 X (.builtin "all") (λxs H Q=>∃(a:Addr) (bs:@&Bool),xs=[.ref a]/\fJ X.K H a (bs.map V.bl)/\Q (.bl (bs.all id)) H):=by
 intro pi s σ H xs us Q I r h;let#[a,bs,rfl,ha,q]:=h;let#[u,rfl,ru]:=vals1 r;cases ru;let#[aZ,rv,p,hz]:=I.list ha;show call_all_walk ?_;show fW p.isList ?_;let fE:a≠s⁻¹:=by
  let#[o,e,_]:=id p.isList;show aK (az e)
 let hl:=-rv;rw[ao] at hl;show#[s⁻¹,_,_,_,_,_,λi=>bs.getD i true,rfl,BZ (A:=X.A.in1) (I.ok.hd hc) _ a fE aZ.toArray,#[#[_,aD _ rfl,rfl,rfl],?_],?_,λh' tk k=>?_]
 .let#[o,e,q1]:=id p.isList;show#[o,ai _ e,q1]
 .intro i v s' Q' E' hP hQ;let hv:aZ[i]?=!v:=by simpa using hP
  let hi:i< -bs:=by rw[hl];show(ak.mp hv).1
  let#[u',wR,Cz]:=rv.get (by rw[ag,aj hi];rfl);rw[hv] at wR;cases wR;cases (show v=Value.bool bs[i] from Cz);show cL ?_;have:bs.getD i true=bs[i]:=by simp[List.getD,hi]
  dsimp only at hQ;rw[this] at hQ;show hQ
 .let e1:(List.range aZ.toArray.size).all (λi=>bs.getD i true)=bs.all id:=by
   rw[aS,<- hl];rw[bp];simp only[List.all_eq_true,List.mem_range,id];constructor
   .intro hh x hx;let#[i,hi,rfl]:=cS.mp hx;have:=hh i hi;simpa[List.getD,hi] using this
   .intro hh i hi;have:=hh bs[i] (eO hi);simpa[List.getD,hi] using this
  rw[e1];show #[.bl (bs.all id),H,I.kept (t':=tk) λb o e=>k b o (by
   intro hb;have:b=s⁻¹:=by simpa using hb
   show absurd (az e) (by rw [this];show bS _)) (ai _ e),rfl,q]
end
end L2
namespace HT
open PySem PyProof.Rows
end HT
namespace L2
open PySem PySem.Spec PyProof.Rows
variable{X:Cx}{pos p:Pos}{w:World}{H H':Hp}{σ:St}{s s':Shared}{B:Heap}{ea C:Addr}{a0:Value}{ta:TA}
def q9.get{P}{h}{a}:∀{o:HO},q9 P w H h a o->∃ob,h.get? a=!ob
 |.lst _,x=>by let#[_,_,_,_,e]:=x;show#[_,e]
 |.tup _,x=>by let#[_,_,_,o,e,_]:=x;show#[o,e]
 |.dK _,x=>by let#[_,_,_,_,o,es,ep,e,_]:=x;show#[o,e]
 |.dT _,x=>by let#[_,_,_,_,o,es,ep,e,_]:=x;show#[o,e]
 |.set _ _,x=>by let#[o,es,ep,t,e,_]:=x;show#[o,e]
 |.ins _ _ _,x=>by let#[_,_,_,e,_]:=x;show#[_,e]
 |.own _,x=>x
 |.xd _,x=>by let#[mA,n,_]:=x;let#[od,e,_]:=PJ n;show#[od,e]
 |.mX _ _,x=>by let#[_,_,_,e]:=x;show#[_,e]
 |.kd _ _,x=>#[_,x.1]
 |.rj _,x=>#[_,x]
 |.met _ _,x=>#[_,x]
 |.ext _,x=>x.2.1
abbrev FL(H':Hp)(h0:Heap)(l:@&Env)(e:Value)(C:Addr)(h:Heap):Prop :=
 ∃(ea:Addr) (a0:Value) (B:Heap),e=.ref ea/\Heap.FlyingW B l ea (.ref C) a0 h/\∀b o,h.get? b=!o->b∉gA l->(H' b≠none\/∃o0,h0.get? b=!o0)->B.get? b=!o
abbrev iz(P:Program)(w:World):oE:=λouter H s E e s'=>∃(C:Addr) (H':Hp),s'.os=s.os/\AllBare s'.gens/\Un (gA outer) [] H H' s.heap s'.heap/\gB P w H' s'.heap/\FL H' s.heap outer e C s'.heap/\E (.ref C) none H'
section
variable{pi:@&(Addr×Obj)}{E:XK}{e:Value}
def Inv.flew(I:Inv X pi σ H s)(h:iz X.prog X.w X.stack H s E e s'):∃C H',Inv X pi σ H' s'/\FL H' s.heap X.stack e C s'.heap/\E (.ref C) none H':=by
 let#[C,H',ho,hb,hu,bR,fl,hE]:=h;show#[C,H',I.Iq ho hu bR hb #[_],fl,hE]
def AH(I:Inv X pi σ H s){b}(hb:b∈gA X.stack):∃o,s.heap.get? b=!o/\∀vs,o.data≠.fields vs:=(I.stack.mem hb).2
def Iv{oY}(I:Inv X pi σ H s)(fI:X.stack=X.env::X.outer)(hex:X.ex=[])(hf:X.env.frame=!X.env.locals)(uU:∀b o,s.heap.get? b=!o->b∉gA X.stack->(H b≠none\/∃o0,X.dF.heap.get? b=!o0)->B.get? b=!o)(sl:∀b∈gA X.stack,∀o,s.heap.get? b=!o->∃sl,oY.get? b=some { o with slots:=sl })(fw:Heap.FlyingW B X.outer ea (.ref C) a0 oY)(hE:E (.ref C) none H):iz X.prog X.w X.outer X.jN X.dF E (.ref ea) { s with heap:=oY }:=by
 let Dg:∀b,b∈gA X.outer->b∈gA X.stack:=λb hb=>by rw[fI];unfold gA at hb ⊢;rw[eV,hf];show bP _ hb
 let wB:∀b o,X.dF.heap.get? b=!o->b∉gA X.outer->b∉gA X.stack:=λb o e hb z=>by
  rcases aJ.mp (I.uJ b z) with z|z
  .exact absurd (az e) (by rw[z];show Ry.mpr I.ok.above)
  .exact hb z
 let pM:∀b u,H b=!u->b∉gA X.stack:=λb u e z=>by rw[I.AG b z] at e;cases e
 let kept:∀b o,s.heap.get? b=!o->b∉gA X.stack->(H b≠none\/∃o0,X.dF.heap.get? b=!o0)->oY.get? b=!o:=λb o e n q=>fw.1 b o (uU b o e n q);let wD:∀b,b∉X.ex:=λb=>by rw[hex];simp
 show#[C,H,I.os,I.bare,#[?_,?_,?_,?_,I.base.jc,I.base.iO,I.base.jd],?_,#[ea,a0,B,rfl,fw,?_],hE]
 .exact λb o e n1 n2 x=>kept b o (I.base.keep b o e n1 n2 (wD b)) (wB b o e n2) (.inr #[o,e])
 .intro b o e n1 n2 _;let#[RU,e1]:=I.base.slot b o e n1 n2 (wD b);let#[lP,e2]:=sl b (Dg b n2) _ e1;show#[lP,e2]
 .exact λb o e n1 x=>I.base.free b o e n1 (wD b)
 .intro b o e _;let#[o1,e1]:=I.base.there b o e (wD b);by_cases hb:b∈gA X.stack
  .let#[lP,e2]:=sl b hb _ e1;show#[_,e2]
  .exact#[o1,kept b o1 e1 hb (.inr #[o,e])]
 .intro a o e;show (I.bR a o e).K9 (λb u hb q=>by
   let jO:∃v,H b=!v:=by
    rcases hb with rfl|hb
    .exact#[o,e]
    .exact#[_,hb]
   let#[v,hv]:=jO;show kept b u q (pM b v hv) (.inl (by rw [hv];simp))) (λb hb=>hb) (λb xs hb=>hb)
 .intro b o e n q;rcases q with q|⟨o0,q⟩
  .let#[v,hv]:=pF.mp q;let#[o1,e1]:=(I.bR b v hv).get;let z:=uU b o1 e1 (pM b v hv) (.inl (by rw[hv];simp));let z':=fw.1 b o1 z;have:o=o1:=by
    let e':oY.get? b=!o:=e;rw[z'] at e';show(aO e').symm
   subst this;show z
  .let#[o1,e1]:=I.base.there b o0 q (wD b);let z:=uU b o1 e1 (wB b o0 q n) (.inr #[o0,q]);let z':=fw.1 b o1 z;have:o=o1:=by
    let e':oY.get? b=!o:=e;rw[z'] at e';show(aO e').symm
   subst this;show z
def aT4{h0}{Ex}(I:Inv X pi σ H s)(fl:FL H h0 X.stack e C s.heap)(UM:∀b o,X.dF.heap.get? b=!o->∃o',h0.get? b=!o')(fI:X.stack=X.env::X.outer)(hex:X.ex=[])(hf:X.env.frame=!X.env.locals)(hE:E (.ref C) none H):wpAny (model X.prog X.w) X.A (leaving X.env e) (λx pO=>iz X.prog X.w X.outer X.jN X.dF E e pO) Ex s:=by
 let#[ea,a0,B,rfl,fw,hB]:=fl;rw[fI] at fw;show wpAny_leaves_onW (by rw[I.ok.frames,fI]) hf fw λoY Aj us=>?_;show Iv I fI hex hf (λb o e n q=>hB b o e n (q.imp id (by rintro ⟨o0,q⟩;show UM b o0 q))) (λb hb o e=>?_) Aj hE;let#[o1,e1,nf]:=AH I hb;rw[e] at e1;cases e1;show us b o e nf
def a79{h'}{vs}{Ex}(I:Inv X pi σ H s)(hx:Heap.MadeExcOf s.heap h' ea (.ref C) vs)(fI:X.stack=X.env::X.outer)(hex:X.ex=[])(hf:X.env.frame=!X.env.locals)(hE:E (.ref C) none H):wpAny (model X.prog X.w) X.A (leaving X.env (.ref ea)) (λx pO=>iz X.prog X.w X.outer X.jN X.dF E (.ref ea) pO) Ex { s with heap:=h' }:=by
 let vb:=I.stack;rw[fI] at vb;let nW:∀env∈(X.env::X.outer),∀b,env.frame=!b->b∈gA X.stack:=λenv he b hb=>by rw[fI];show kI.mpr #[env,he,hb]
 show wpAny_leaves_madeW (by rw[I.ok.frames,fI]) hf (λb o q=>Rw _ q) (PySem.W.funFrames_hide vb nW) hx λoY t fw x x us=>?_;show(show iz X.prog X.w X.outer X.jN X.dF E (.ref ea) { s with heap:=oY } from Iv I fI hex hf (λb o e n x=>Jd _ e n) (λb hb o e=>?_) fw hE);let#[o1,e1,nf]:=AH I hb;rw[e] at e1;cases e1;show us b o (hx.keeps b o e) nf
def YV{l}{h0 h h1}{Pg}(u:Un (gA l) [] H H' h0 h)(ok:gB Pg w H' h)(hB:∀b o,h.get? b=!o->b∉gA l->(H' b≠none\/∃o0,h0.get? b=!o0)->B.get? b=!o)(st:B.StaysIn h1)(us:h.UpToSlots h1)(Ki:∀b∈gA l,H' b=none/\∃o,h.get? b=!o/\∀vs,o.data≠.fields vs):Un (gA l) [] H H' h0 h1/\gB Pg w H' h1/\∀b o,h1.get? b=!o->b∉gA l->(H' b≠none\/∃o0,h0.get? b=!o0)->B.get? b=!o:=by
 let pM:∀b u,H' b=!u->b∉gA l:=λb u e z=>by rw[(Ki b z).1] at e;cases e
 let kept:∀b o,h.get? b=!o->b∉gA l->(H' b≠none\/∃o0,h0.get? b=!o0)->h1.get? b=!o:=λb o e n q=>st b o (hB b o e n q);let KN:∀b∈gA l,∀o,h.get? b=!o->∃sl,h1.get? b=some { o with slots:=sl }:=λb hb o e=>by
  let#[_,o1,e1,nf]:=Ki b hb;rw[e] at e1;cases e1;show us b o e nf
 show#[#[?_,?_,u.free,?_,u.jc,u.iO,u.jd],?_,?_]
 .exact λb o e n1 n2 n3=>kept b o (u.keep b o e n1 n2 n3) n2 (.inr #[o,e])
 .intro b o e n1 n2 n3;let#[RU,e1]:=u.slot b o e n1 n2 n3;let#[lP,e2]:=KN b n2 _ e1;show#[lP,e2]
 .intro b o e n;let#[o1,e1]:=u.there b o e n;by_cases hb:b∈gA l
  .let#[lP,e2]:=KN b hb _ e1;show#[_,e2]
  .exact#[o1,kept b o1 e1 hb (.inr #[o,e])]
 .intro a o e;show (ok a o e).K9 (λb u hb q=>by
   let jO:∃v,H' b=!v:=by
    rcases hb with rfl|hb
    .exact#[o,e]
    .exact#[_,hb]
   let#[v,hv]:=jO;show kept b u q (pM b v hv) (.inl (by rw [hv];simp))) (λb hb=>hb) (λb xs hb=>hb)
 .intro b o e n q;have:∃o1,h.get? b=!o1:=by
   rcases q with q|⟨o0,q⟩
   .let#[v,hv]:=pF.mp q;show(ok b v hv).get
   .exact u.there b o0 q #[_]
  let#[o1,e1]:=this;let z:=hB b o1 e1 n q;rw[st b o1 z] at e;cases e;show z
structure Lies(X:Cx)(H H':Hp)(s:Shared)(B:Heap)(ea C:Addr)(a0:Value)(s':Shared):Prop where
 os:s'.os=s.os
 bare:AllBare s'.gens
 un:Un (gA X.stack) [] H H' s.heap s'.heap
 bR:gB X.prog X.w H' s'.heap
 uU:∀b o,s'.heap.get? b=!o->b∉gA X.stack->(H' b≠none\/∃o0,s.heap.get? b=!o0)->B.get? b=!o
def Lies.inv(I:Inv X pi σ H s)(l:Lies X H H' s B ea C a0 s'):Inv X pi σ H' s':=I.Iq l.os l.un l.bR l.bare #[_]
def leave_held{Ex}(I:Inv X pi σ H s)(l:Lies X H H' s B ea C a0 s')(hh:Heap.HeldW B X.stack ea (.ref C) a0 X.env.locals s'.heap)(fI:X.stack=X.env::X.outer)(hex:X.ex=[])(hf:X.env.frame=!X.env.locals)(hE:E (.ref C) none H'):wpAny (model X.prog X.w) X.A (leaving X.env (.ref ea)) (λx pO=>iz X.prog X.w X.outer X.jN X.dF E (.ref ea) pO) Ex s':=by
 let J:=l.inv I;let Dy:=hh;rw[fI] at Dy;show ae (wpAny_noteFrame_againW hf Dy.2.2.2 ?_);show wpAny_landsW Dy λoY fl us=>?_;let#[k1,k2,#[_,_,k3],k4]:=fl;show Iv J fI hex hf (λb o e n q=>l.uU b o e n (q.imp id (by rintro ⟨o0,q⟩;show I.base.there b o0 q (by rw[hex];simp)))) (λb hb o e=>?_) #[k1,k2,k3,k4] hE;let#[o1,e1,nf]:=AH J hb;rw[e] at e1;cases e1;show us b o e nf
def Au(X:Cx)(Ξ:XK):Prop:=∀(pi:@&(Addr×Obj)) (σ:St) (H:Hp) (s:Shared) (h':Heap) (ea C:Addr) (vs:@&Value),Inv X pi σ H s->Heap.MadeExcOf s.heap h' ea (.ref C) vs->Ξ (.ref C) none H->X.xe (.ref ea) { s with heap:=h' }
def yh(X:Cx)(Ξ:XK):Prop:=∀(pi:@&(Addr×Obj)) (σ:St) (H H':Hp) (s s':Shared) (B:Heap) (ea C:Addr) (a0:Value),Inv X pi σ H s->Lies X H H' s B ea C a0 s'->Heap.HeldW B X.stack ea (.ref C) a0 X.env.locals s'.heap->Ξ (.ref C) none H'->X.xe (.ref ea) s'
def bM6(C:Addr)(Ξ:XK)(t:TA):TS:=λ_ σ H=>t σ H λvs H1=>-vs<=sizeLine/\Ξ (.ref C) none H1
def Yf{x}{B newId gS}{bm}{np eY}{ke}{rest}{t}{Ξ}(hc:X.calm=true)(O:OwnCls x C bm newId X.mg X.base)(FB:ExcBaseFacts B newId gS bm)(hg:Gl X x)(ha:PA X (ke::rest) t)(hr:Au X Ξ)(he:starEach (ke::rest) X.env=(false,eval ke X.env)::starEach rest X.env)(fq:(backTo eY (starEach rest X.env)).any (·.1)=false)(hd:(x==("__debug__":Str))=false) :
  PS X (.Raise (!.Call (.Name x np) (ke::rest) [] eY) none pos) (bM6 C Ξ t):=by
 intro pi s σ H D I h;let#[tl,N,nm,q,bs,hdct,sn,sub,ab,col,dd,k0,k1,k2,k3,k5,mN,hC,hN,zW,T]:=O.obj;show wpAny_Raise_call_subT (nm:=nm) (q:=q) (N:=N) (bs:=bs) (hdct:=hdct) (sn:=sn) (sub:=sub) (ab:=ab) (col:=col) (dd:=dd) (k0:=k0) (k1:=k1) (k2:=k2) (k3:=k3) (k5:=k5)
  FB (T.hasType FB.hasBase) (I.ok.hd hc) (by rw[he];show(false||(backTo eY (starEach rest X.env)).any (·.1))=false;rw[fq];rfl) zW (X3 I hg O.bound #[rfl,?_] hd)
 let h':=ha eY pi s σ H _ I h;rw[he] at h' ⊢;show lC (bo h' (λvs fg gF=>?_) λz z y=>y);let#[ws,H1,I1,rv,hz,hE]:=gF;show#[rfl,by rw[<- -rv];show hz,I1.bk _ _ hC,hN.keeps I1.bk,T.keeps I1.bk,λh2 ea hm=>hr pi σ H1 fg h2 ea C vs I1 hm hE]
def sv(X:Cx)(pi:@&(Addr×Obj))(xe:Value->Shared->Prop)(o:Option St:=none):Cx:={ X with pn:=X.pn++pi,xe:=xe,sg:=o }
def S1(X:Cx)(ea:Addr):Cx:={ X with A:=X.A.mark (!.ref ea),calm:=false,xe:=λx x=>False,sg:=none }
def Inv.b03{xe}{o}(ho:∀τ,o=!τ->σ=τ)(I:Inv X pi σ H s):Inv (sv X pi xe o) [] σ H s :=
 #[#[I.ok.mod,I.ok.kind,I.ok.glob,I.ok.blt,I.ok.above,I.ok.inj,I.ok.has,I.ok.iE,I.ok.hd,I.ok.frames,I.ok.sO,I.ok.xQ,I.ok.bs,I.ok.ou,I.ok.kO,I.ok.lL,I.ok.T2,I.ok.oZ],I.os,I.bare,I.base,I.loc,I.cell,I.free,I.eX,
  λp hp=>I.pin p (by simpa [sv] using hp),I.bR,I.len,ho]
def Inv.uC{xe}{o}{fF}(hs:X.sg=none)(I:Inv (sv X pi xe o) fF σ H s):Inv X pi σ H s :=
 #[#[I.ok.mod,I.ok.kind,I.ok.glob,I.ok.blt,I.ok.above,I.ok.inj,I.ok.has,I.ok.iE,I.ok.hd,I.ok.frames,I.ok.sO,I.ok.xQ,I.ok.bs,I.ok.ou,I.ok.kO,I.ok.lL,I.ok.T2,I.ok.oZ],I.os,I.bare,I.base,I.loc,I.cell,I.free,I.eX,
  λp hp=>I.pin p (eI _ hp),I.bR,I.len,λx z=>by simp_all]
def Inv.Mr(I:Inv X pi σ H s):Inv (S1 X ea) pi σ H s :=
 #[#[I.ok.mod,I.ok.kind,I.ok.glob,I.ok.blt,I.ok.above,I.ok.inj,I.ok.has,I.ok.iE,λz=>(by cases z),I.ok.frames,I.ok.sO,I.ok.xQ,I.ok.bs,I.ok.ou,I.ok.kO,I.ok.lL,I.ok.T2,I.ok.oZ],I.os,I.bare,I.base,I.loc,I.cell,I.free,I.eX,I.pin,I.bR,I.len,λdn z=>absurd (show(none:Option St)=some dn from z) #[_]]
def Inv.vy(hs:X.sg=none)(J:X.Ok)(I:Inv (S1 X ea) pi σ H s):Inv X pi σ H s :=
 #[J,I.os,I.bare,I.base,I.loc,I.cell,I.free,I.eX,I.pin,I.bR,I.len,λx z=>by simp_all]
def SP.uC{xe}{o}{D}{f}(hs:X.sg=none)(h:SP (sv X pi xe o) [] D f s):SP X pi D f s:=by
 cases f with
 |next=>let#[a,b,I,q]:=h;show#[a,b,I.uC hs,q]
 |brk=>let#[a,b,I,q]:=h;show#[a,b,I.uC hs,q]
 |cont=>let#[a,b,I,q]:=h;show#[a,b,I.uC hs,q]
 |ret u=>let#[v,a,b,I,r,q]:=h;show#[v,a,b,I.uC hs,r,q]
def SP.vy{ea}{D}{f}(hs:X.sg=none)(J:X.Ok)(h:SP (S1 X ea) pi D f s):SP X pi D f s:=by
 cases f with
 |next=>let#[a,b,I,q]:=h;show#[a,b,I.vy hs J,q]
 |brk=>let#[a,b,I,q]:=h;show#[a,b,I.vy hs J,q]
 |cont=>let#[a,b,I,q]:=h;show#[a,b,I.vy hs J,q]
 |ret u=>let#[v,a,b,I,r,q]:=h;show#[v,a,b,I.vy hs J,r,q]
abbrev ux(X:Cx)(D:Ends)(dn:St)(C:Addr)(H:Hp):@&ExceptHandler->Prop
 |.ExceptHandler (!.Name x _) none (yb::rn) _::rest=>Gl X x/\(x==("__debug__":Str))=false/\∃C' b,X.mg x=!.ref C'/\PySem.W.exmOne X.K (.ref C) (.ref C')=!b /\
   (if b=true then ∃t:TS,(∀ea,jC (S1 X ea) (yb::rn) t)/\t D dn H else ux X D dn C H rest)
 |[]=>∃Ξ:XK,yh X Ξ/\Ξ (.ref C) none H
 |_=>False
end
section
variable{pi:@&(Addr×Obj)}{e:Value}{D:Ends}
abbrev Bx(X:Cx)(pi:@&(Addr×Obj))(D:Ends)(hs:@&ExceptHandler):Value->Shared->Prop:=λe bI =>
 wpAny (model X.prog X.w) X.A (noteFrame e X.env) (λx fg=>wpAny (model X.prog X.w) X.A (setFlight e none) (λx dW=>wpAny (model X.prog X.w) X.A (handleBy e X.env hs) (SP X pi D) X.xe dW) X.xe fg) X.xe bI
def Lies.step{h1}(I:Inv X pi σ H s)(l:Lies X H H' s B ea C a0 s')(st:B.StaysIn h1)(us:s'.heap.UpToSlots h1):Lies X H H' s B ea C a0 { s' with heap:=h1 }:=by
 let J:=l.inv I;let#[u,ok,ib]:=YV l.un l.bR l.uU st us λb hb=>#[J.AG b hb,AH J hb]
 show#[l.os,l.bare,u,ok,ib]
def aX6{l}{L}{cls}{A}{M}{E}{Q}(fw:Heap.FlyingW B l ea cls a0 s.heap)(h:∀h',Heap.HeldW B l ea cls a0 L h'->(∀b o,s.heap.get? b=!o->(∀vs,o.data≠.fields vs)->h'.get? b=!o)->Q Unit.unit { s with heap:=h' }):wpAny M A (setFlight (.ref ea) (!L)) Q E s:=by
 let#[f1,f2,f3,oe,vs,T,oT,ts,he,qh,hd,h1,To,Ae,hT,zZ,h3]:=fw;let wU:=(Array.getElem?_eq_some_iff.mp h3).1;let other:∀b,b≠T->(s.heap.update T (Obj.mapFields (·.setIfInBounds 3 ((!L).elim Value.none λf=>rawInt f)))).get? b=s.heap.get? b :=
  λb hb=>cC _ _ (aX hb)
 let kQ:∀b o,s.heap.get? b=!o->(∀vs,o.data≠.fields vs)->b≠T:=λb o hb xa q=>by
  rw[q,hT] at hb;injection hb with hb;subst hb;show xa ts zZ
 show ae (ly he hd h1 ?_);show dS hT zZ wU (h _ #[λb o Uk=>(other b λq=>by simp_all).trans (f1 b o Uk),f2,
  f3.of_keeps λb o hb xa=>#[o,(other b (kQ b o hb xa)).trans hb,rfl],?_] λb o hb xa=>(other b (kQ b o hb xa)).trans hb)
 show#[oe,vs,T,_,_,(other ea (aX Ae)).trans he,qh,hd,h1,To,Ae,bf _ hT (dG (bK zZ _)),bK zZ _,by simp[wU]]
set_option tactic.hygienic true in
def Px{B}{ea C}{a0}{dn}(oQ:X.sg=none)(hf:X.env.frame=!X.env.locals)(uY:-dn=σ.length)(zS:∀(i:Nat) v,dn[i]?=!!v->σ[i]?=!!v):∀(hs:@&ExceptHandler) (s':Shared),Inv X pi σ H s->Lies X H H' s B ea C a0 s'->Heap.FlyingW B X.stack ea (.ref C) a0 s'.heap->ux X D dn C H' hs ->
  wpAny (model X.prog X.w) X.A (handleBy (.ref ea) X.env hs) (SP X pi D) X.xe s'
 |[],s',I,l,fw,t=>by
  let#[Ξ,hh,hE]:=t;show wpAny_handleBy_nil ?_;let#[f1,f2,f3,oe,vs,T,oT,ts,he,qh,hd,h1,_]:=id fw;show ae (ly he hd h1 ?_);rw[aI #[_],hf];show ae (aX6 fw λh2 held k=>wpAny_throw ?_);let l2:=l.step I held.1 (λb o hb hn=>#[o.slots,k b o hb hn]);show hh pi σ H H' s _ B ea C a0 I l2 held hE
 |.ExceptHandler none _ _ _::_,_,_,_,_,t=>t.elim
 |.ExceptHandler (!e) nm bd pos::rest,s',I,l,fw,t=>by
  cases e
  case Name x np =>
   cases nm with
   |some y=>show t.elim
   |none =>
    cases bd with
    |nil=>show t.elim
    |cons yb rn =>
     let#[hg,iB,C',b,hm,hx,q]:=t;let J:=l.inv I;let JM:Inv (S1 X ea) pi σ H' s':=J.Mr;let LT:PySem.W.Looks (model X.prog X.w) s'.heap (typeOf (.ref ea)) (.ref C):=λA Q E s2 k q=>by
      let#[ob,ho,hc]:=fw.there;show wpAny_typeOf_ref (k _ _ ho) (by rw[hc];show q)
     show wpAny_handleBy_cons (codeAny_handlers_test ?_) (by intro z;cases z);show X3 JM hg hm ?_ iB;show(PySem.W.exm_one J.gN LT hx).here ?_;cases b with
     |false =>
      show Px oQ hf uY zS rest s' I l fw q
     |true =>
      let#[t,ht,hq]:=q;show codeAny_handlers_suite ?_;show wpAny_setFlight_noneW fw.1 fw.2.2.1 fw.2.2.2.at λh2 k1 k2 k3 k4=>?_;let l2:=l.step I k1 (λb o hb hn=>#[o.slots,k4 b o hb hn]);let J2:=l2.inv I;let J3:Inv (S1 X ea) pi dn H' { s' with heap:=h2 }:=(Inv.weak oQ J2 uY zS).Mr;show bo (ht ea pi _ _ H' D J3 hq) (λf s2 hf=>hf.vy oQ I.ok) λu u z=>z.elim
  all_goals show t.elim
def XQ{hs}{Ξ}{o}{dn}(oQ:X.sg=none)(fI:X.stack=X.env::X.outer)(hf:X.env.frame=!X.env.locals)(CY:∀σ:St,σ.length=-X.N->(∀τ,o=!τ->σ=τ)->-dn=σ.length/\∀(i:Nat) v,dn[i]?=!!v->σ[i]?=!!v)(hT:∀C H',Ξ (.ref C) none H'->ux X D dn C H' hs) :
  Passes (iz X.prog X.w) (sv X pi (Bx X pi D hs) o) Ξ:=by
 intro fF σ H s e s' I0 h;let I:=I0.uC oQ;let#[uY,zS]:=CY σ I.len I0.sg;let#[C,H',ho,hb,hu,bR,#[ea,a0,B,rfl,fw,hB],hE]:=h;let l:Lies X H H' s B ea C a0 s':=#[ho,hb,hu,bR,hB]
 let fw:Heap.FlyingW B X.stack ea (.ref C) a0 s'.heap:=fw;let Aj:=fw;rw[fI] at Aj;show wpAny_looks_onW (by rw[I.ok.frames,fI]) hf Aj λh1 held us=>?_;let l1:=l.step I held.1 us;show wpAny_landsW held λh2 fl RH=>?_;let l2:=l1.step I fl.1 RH;rw[<- fI] at fl;show Px oQ hf uY zS hs _ I l2 fl (hT C H' hE)
def bR0{hs}{h₀}{body}{t:Ends->St->TS}{Ξ:Ends->St->XK}(f:St->Option St)(z:St->St)(hz:∀σ τ,f σ=!τ->σ=τ)(oQ:X.sg=none)(hb:∀pi D σ,(∀C H',Ξ D σ (.ref C) none H'->ux X D (z σ) C H' (h₀::hs))->jC (sv X pi (Bx X pi D (h₀::hs)) (f σ)) body (t D σ)) :
  PS X (.Try body (h₀::hs) [] [] pos) (λD σ H=>(∀C H',Ξ D σ (.ref C) none H'->ux X D (z σ) C H' (h₀::hs))/\t D σ D σ H):=by
 intro pi s σ H D I ⟨hT,h⟩;show wpAny_Try_except (bo (hb pi D σ hT [] s σ H D (I.b03 (hz σ)) h) (λf s1 q=>?_) λe s1 q=>q);let q:=q.uC oQ;cases f with
 |next =>
  let#[cg,H',I',q]:=q;show cG (km #[cg,H',I',q]) λx x z=>z
 |brk=>show q
 |cont=>show q
 |ret u=>show q
end
abbrev IW(K:PySem.W.Frag)(a:Addr):It :=
 #[λi H=>∃xs x,fJ K H a xs/\xs[i]?=!x,λi H v H'=>∃p x,H p=none/\v=.ref p/\(∀xs,fJ K H a xs->xs[i]?=!x)/\H'=upd H p (.tup [.int i,x]),λi H=>∃xs,fJ K H a xs/\-xs<=i]
def bb4{P}{K}{elts}{x1}{tp}(a e it:Addr)(Kk:e≠it):Turn P w K (.Tuple elts x1 tp) (IW K a) [e,it] e (λi h=>(∃old,IsEnum h e it i old)/\h.IsListIter it a i) where
 mem:=by simp
 obj:=λi h st b hb=>by
  let#[#[old,h1],o,h2,c,d]:=st;rcases aJ.mp hb with z|z
  .subst z;show #[_,h1,λv z=>by
    let z':Data.fields _=Data.cell v:=z;cases z']
  .let z:b=it:=by simpa using z
   subst z;show#[o,h2,λv z=>by rw[d] at z;cases z]
 keep:=λi h h' st k=>by
  let#[#[old,h1],h2]:=st;show#[#[old,k e #[_] _ h1],h2.at λo x=>k it #[_] o x]
 item:=by
  intro X hP hw hK hc i pi s σ H E I hf st hg;subst hP hw hK;let#[#[old,h1],h2]:=st;let#[xs,x,hq,hx]:=hg;let#[aZ,rv,p,hz]:=I.list hq;let#[u,hu,ru]:=rv.get hx;let#[e0,e1,e2,e3,e4,e5]:=hf e #[_];let#[f0,f1,f2,f3,f4,f5]:=hf it #[_];show wpAny_pyNext_enum_item h1 h2 p.isList (_/hu) Kk λh' tM Dw rD tD rG=>?_;show#[_,rfl,wpAny_letOwnedTupleGo_enum tM λAf TY iM=>?_];let iM:Heap.SameBut e h' Af:=iM;let elt:=az h1;let kp:∀b o,b≠e->b≠it->s.heap.get? b=!o->Af.get? b=!o:=λb o b1 b2 q=>(iM.2 b b1).trans (rG b o b1 b2 q);let hn:=I.bR.fresh (av _);let sL:=(iM.2 _ (bL elt)).trans rD;let ne:∀b u',H b=!u'->b≠e/\b≠it:=λb u' q=>And.intro (λz=>by simp_all) (λz=>by simp_all);let bR:gB X.prog X.w (upd H s⁻¹ (.tup [.int i,x])) Af:=λb o q=>by
   by_cases hb:b=s⁻¹
   .subst hb;rw[m4] at q;cases q;show#[by change 2<=sizeLine;decide,[.int i s.toks,u],.cons #[_,rfl] (.cons ru .nil),_,sL,rfl,#[_,rfl],rfl]
   .rw[d6 hb] at q;show(I.bR b o q).K9 (λc v hc q'=>?_) (λc q'=>by rw[d6 (i9 q' hn)];show q') λc ys q'=>by rw[d6 (i9 q' hn)];show q'
    rcases hc with z|z
    .subst z;show kp _ _ (ne _ _ q).1 (ne _ _ q).2 q'
    .exact kp _ _ (ne _ _ z).1 (ne _ _ z).2 q'
  let I2:Inv X pi σ (upd H s⁻¹ (.tup [.int i,x])) { s with heap:=Af,toks:=s.toks+1 }:=by
   show I.step (g':=s.gens) (d':=s.drawn) (t':=s.toks+1) (ch:=[e,it]) (λb hb=>?_) (λb o t t hb q t=>kp b o (λz=>hb (by simp[z])) (λz=>hb (by simp[z])) q) (λb o t t hb q t=>#[o.slots,kp b o (λz=>hb (by simp[z])) (λz=>hb (by simp[z])) q])
    (λb o t q n=>by rw[d6 (aK (az q))];show n) (λb o hb q=>#[o,kp b o (λz=>hb (by simp[z])) (λz=>hb (by simp[z])) q])
    (λb ys q=>by rw[d6 (i9 q hn)];show q) (λb o' ys q=>by rw[d6 (i9 q hn)];show q) (λb ps q=>#[(List.toArray []),by rw[d6 (i9 q hn),q];simp]) (λm hm=>?_) bR I.bare
   .rcases aJ.mp hb with z|z
    .subst z;show#[e3,e1,e4,e5]
    .let z:b=it:=by simpa using z
     subst z;show#[f3,f1,f4,f5]
   .let#[o,es,ep,ho,r]:=hm;show#[o,es,ep,kp _ o (aX e1) (aX f1) ho,r]
  show#[.ref s⁻¹,_,I2,rfl,#[s⁻¹,x,hn,rfl,λys hy=>by rw[I.FV hy hq];show hx,rfl],#[#[u,by simpa using TY],Dw.at λo y=>(iM.2 it Kk.symm).trans y],λb hb=>?_];let jO:b<s⁻¹:=by
   rcases aJ.mp hb with z|z
   .subst z;show elt
   .let z:b=it:=by simpa using z
    subst z;let#[o,h2,_]:=h2;show az h2
  rw[d6 (aK jO)];show(hf b hb).1
 done:=by
  intro X hP hw hK hc i pi s σ H E I hf st hg;subst hP hw hK;let#[#[old,h1],h2]:=st;let#[xs,hq,hx]:=hg;let#[aZ,rv,p,hz]:=I.list hq;let#[f0,f1,f2,f3,f4,f5]:=hf it #[_];let hl:=-rv;show wpAny_pyNext_enum_end (I.ok.hd hc) h1 h2 p.isList (by simp;omega) λh' eb=>#[rfl,I.turned (t':=s.toks) (λb o hb e=>eb b o hb e) f0 f1 f3 f4 f5]
 self:=λt t t t t st h=>by
  let#[#[old,h1],h2]:=st;show wpAny_pyIter_enum h1 h
def QV{l}{tp}{elts}{x1}(hg:Gl X "enumerate")(hm:X.mg "enumerate"=none)(ha:PA X [l] ta)(hs:starEach [l] X.env=[(false,eval l X.env)]) :
  PI X (.Tuple elts x1 tp) (.Call (.Name "enumerate" p) [l] [] pos) (λσ H R=>ta σ H λvs H1=>∃a,vs=[.ref a]/\(∃xs,fJ X.K H1 a xs)/\R (IW X.K a) H1):=by
 intro pi s σ H R I h;show Call_ (V1 I hg hm PyProof.Rows.boot_enumerate (bU (cG (ha pos pi s σ H _ I h) λus s1 bu=>?_) hs rfl));let#[vs,H1,I1,r1,q1]:=bu;let#[a,e,#[xs,hq],q]:=q1;subst e;cases r1 with
 |cons r rr =>
  cases rr;cases r;let#[aZ,rv,p,hz]:=I1.list hq;show call_enumerate_list p.isList λh' he hit hsz hk=>wpAny_pyIter_enum he ?_;show#[s1⁻¹+1,[s1⁻¹+1,s1⁻¹],_,_,H1,rfl,I1.kept (t':=s1.toks) hk,bb4 a _ _ #[_],#[#[_,he],hit],λb hb=>?_,q];let jO:s1⁻¹<=b:=by
   rcases aJ.mp hb with z|z
   .simp_all
   simp_all
  show I1.pq jO (I1.bR.fresh jO)
def a81{lo}{acc}{n}(h:ItemsOf (λi v=>∃t,v=.int (lo+i*1) t) acc n):Vals ((List.range n).map λ(k:Nat)=>V.int (lo+k)) acc.toList:=by
 let hl:-acc.toList=n:=by
  have:=h.1;omega
 let go:∀(m:Nat) (l:@&Value),(-l)<=n->m+-l=n->(∀i v,l[i]?=!v->∃t,v=Value.int (lo+((m+i:Nat):Int)) t)->Vals ((List.range' m (-l)).map λ(k:Nat)=>V.int (lo+k)) l:=by
  intro m l
  induction l generalizing m with
  |nil=>intro _ _ _;show .nil
  |cons x r ih =>
   intro h1 h2 h3;show .cons ?_ (ih (m+1) (by simp at h1;omega) (by simp at h2;omega) λi v hv=>?_)
   .let#[t,e]:=h3 0 x rfl;show#[t,by rw[e];simp]
   .let#[t,e]:=h3 (i+1) v (_/hv)
    grind
 have:=go 0 acc.toList () () λi v hv=>?_
 .rw[hl,<- List.range_eq_range'] at this;show this
 .have:acc[i]?=!v:=by rw[<- js];show hv
  let#[t,e]:=h.2 i v this;show#[t,?_];rw[e];simp
def NU(hc:X.calm=true):u3 X (.type "list") (λxs H Q=>∃a lo hi,xs=[.ref a]/\H a=!.mX lo hi/\(-(2 ^ 62)<=lo/\lo<2 ^ 62/\-(2 ^ 62)<=hi/\hi<2 ^ 62/\hi-lo<=100000)/\∀p,H p=none->Q (.ref p) (upd H p (.lst ((List.range (hi-lo).toNat).map λ(k:Nat)=>V.int (lo+k))))):=by
 intro pi s σ H xs us Q I r h;let#[a,lo,hi,rfl,ha,#[h1,h2,h3,h4,h5],q]:=h;let#[t,u,v,ho]:=I.bR a _ ha;cases r with
 |cons r rr =>
 cases rr;cases r;let hn:Builtin.Range.rangeSize lo hi 1=((hi-lo).toNat:Nat):=by rw[rangeSize_one];split<;>omega
 show call_list_range (I.ok.hd hc) ho (small_one h1 h2 h3 h4) hn () λh' iL acc c hk hS gT=>?_;let hp:=I.bR.fresh (av _);show#[.ref _,_,I.laid (o:=.lst ((List.range (hi-lo).toNat).map λ(k:Nat)=>V.int (lo+k))) (t':=iL) hk (av _) #[?_,acc.toList,c,a81 gT,by simpa using hS],rfl,q _ hp];rw[ao,List.length_range];have:(hi-lo).toNat<=100000:=by omega
 show aC this ∅
def ZR{a}(hg:Gl X "range")(hm:X.mg "range"=none)(ha:PA X [a] ta)(hs:starEach [a] X.env=[(false,eval a X.env)]):PE X (.Call (.Name "range" p) [a] [] pos) (λσ H Q=>ta σ H λvs H1=>∃j:Int,vs=[.int j]/\∀q,H1 q=none->Q (.ref q) (upd H1 q (.mX 0 j))):=by
 intro pi s σ H Q I h;show cT (V1 I hg hm boot_range (bU (cG (ha pos pi s σ H _ I h) λus s1 bu=>?_) hs rfl));let#[vs,H1,I1,r1,q1]:=bu;let#[j,e,q]:=q1;subst e;cases r1 with
 |cons r rr =>
  cases rr;let#[t,rfl]:=r;show call_range_1 #[.ref s1⁻¹,_,I1.laid (o:=.mX 0 j) (λb o e=>ai _ e) (av _) #[_,_,_,aD _ rfl],rfl,q _ (I1.bR.fresh (av _))]
def ZS{a b}(hg:Gl X "range")(hm:X.mg "range"=none)(ha:PA X [a,b] ta)(hs:starEach [a,b] X.env=[(false,eval a X.env),(false,eval b X.env)])(iM:starEach [b] X.env=[(false,eval b X.env)]):PE X (.Call (.Name "range" p) [a,b] [] pos) (λσ H Q=>ta σ H λvs H1=>∃i j:Int,vs=[.int i,.int j]/\∀q,H1 q=none->Q (.ref q) (upd H1 q (.mX i j))):=by
 intro pi s σ H Q I h;show cT (V1 I hg hm boot_range (bU (cG (ha pos pi s σ H _ I h) λus s1 bu=>?_) (by rw[hs,iM]) (by rw[iM];rfl)));let#[vs,H1,I1,r1,q1]:=bu;let#[i,j,e,q]:=q1;subst e;cases r1 with
 |cons r rr =>
  cases rr with
  |cons r' rr =>
   cases rr;let#[t,rfl]:=r;let#[t',rfl]:=r';show call_range_2 #[.ref s1⁻¹,_,I1.laid (o:=.mX i j) (λb o e=>ai _ e) (av _) #[_,_,_,aD _ rfl],rfl,q _ (I1.bR.fresh (av _))]
abbrev Bj(K:PySem.W.Frag)(P:Params)(a:Addr)(kvs:@&(Str×V)):Prop :=
 ∃es n,K.lookup a=!#[.type "dict",none,.dict es n,(List.toArray [])]/\PySem.W.KeysLit P es.toList/\(a==sysModules)=false/\∀x,K4 (kvs.lookup x) (findBy Value.isStrOf es x)
def b58{kvs}:vU X (λx y H Q=>∃a z v,x=.ref a/\Bj X.K X.w.params a kvs/\y=.str z/\kvs.lookup z=!v/\Q v H):=by
 intro value slice pi s σ H x y v u Q I rx ry h hs;let#[a,z,d,rfl,#[es,n,hl,hk,lo,hf],rfl,hz,q]:=h;cases rx;let#[t,rfl]:=ry;let hm:=PySem.W.mapOf_K (prog:=X.prog) I.gN hl hk;let e:=hf z;rw[hz] at e;cases h2:findBy Value.isStrOf es z with
 |none=>rw[h2] at e;show e.elim
 |some r =>
  rw[h2] at e;show tail_any hm.typeIs slot_dict_getitem.lookup (wpAny_getItem_of (strKind_is X.prog X.w z t) hm h2 #[d,H,I.tok _,e,q]) hs
def bI9(hu:X.A.units+1<cLine):vU X (λx y H Q=>∃a v,x=.ref a/\pj H a y (!v)/\Q v H):=by
 intro value slice pi s σ H x y v u Q I rx ry h hs;let#[a,d,rfl,g,q]:=h;cases rx;show tail_any (aX9 I g) slot_dict_getitem.lookup (Zi hu I g ry λw' s3 I3 fN=>#[d,H,I3,fN,q]) hs
end L2
namespace ST
open PySem PyProof.Rows
variable{xs:Array Nat}{i k j n ep:Nat}{t:SetTable}{h h':Heap}{L:Bool}{es:Array (Int×Value)}{x f:Value}{prog:Program}{w:World}{a I b l:Addr}{ks ns:@&Int}{A:Around}{E Q:Value->Shared->Prop}{s:Shared}{pl:@&Nat}{α:Type}{r:Rd}{items:Array Value}
noncomputable abbrev lx(xs:Array Nat):Prop:=xs.toList.Pairwise (· < ·)
def lx.lt(h:lx xs)(xj:i<k)(hk:k<xs.size):xs.getD i 0<xs.getD k 0:=by
 have:=cJ.mp h i k (_/cH xj hk) (_/hk) xj;rw[<- fM (h:=cH xj hk),<- fM (h:=hk)];show this
def lx.le(h:lx xs)(xj:i<=k)(hk:k<xs.size):xs.getD i 0<=xs.getD k 0:=by
 rcases Nat.eq_or_lt_of_le xj with e|e
 .rw[e];show av _
 .exact dC (h.lt e hk)
def Ig{xs}{j}(h:lx xs):∀(fuel lo hi:Nat),hi-lo<=fuel->lo<=hi->hi<=xs.size->(∀i,i<lo->xs.getD i 0<j)->(∀i,hi<=i->i<xs.size->j<=xs.getD i 0) ->
  SetTable.below.go xs j fuel lo hi<=xs.size/\(∀i,i<SetTable.below.go xs j fuel lo hi->xs.getD i 0<j)/\∀i,SetTable.below.go xs j fuel lo hi<=i->i<xs.size->j<=xs.getD i 0
 |0,lo,hi,h1,h2,h3,h4,h5=>by
  have:lo=hi:=by omega
  subst this;show#[h3,h4,h5]
 |fuel+1,lo,hi,h1,h2,h3,h4,h5=>by
  unfold SetTable.below.go;split
  .let hm:(lo+hi) / 2<xs.size:=by omega
   let em:xs.getD ((lo+hi) / 2) j=xs.getD ((lo+hi) / 2) 0:=by simp[Array.getD,hm]
   dsimp only;rw[em];by_cases hc:xs.getD ((lo+hi) / 2) 0<j
   .rw[aM hc];show Ig h fuel _ hi () () h3 (λi gT=>gH (h.le () hm) hc) h5
   .rw[aI hc];show Ig h fuel lo _ () () () h4 λi gT hs=>aC (Nat.le_of_not_lt hc) (h.le gT hs)
  .have:lo=hi:=by omega
   subst this;show#[h3,h4,h5]
def Bb(j:Nat)(h:lx xs):SetTable.below xs j<=xs.size/\(∀i,i<SetTable.below xs j->xs.getD i 0<j)/\∀i,SetTable.below xs j<=i->i<xs.size->j<=xs.getD i 0 :=
 Ig h _ 0 _ () () (av _) (λi hi=>absurd hi (Nat.not_lt_zero _)) λi h1 h2=>absurd h2 ()
def below_at(h:lx xs)(hi:i<xs.size):SetTable.below xs (xs.getD i 0)=i:=by
 let#[h1,h2,h3]:=Bb (xs.getD i 0) h;rcases fu (SetTable.below xs (xs.getD i 0)) i with z|z|z
 .exact absurd (h3 _ (av _) ()) (Nat.not_le_of_lt (h.lt z hi))
 .exact z
 .exact absurd (h2 i z) (bS _)
def a98(h:lx xs)(hi:i<xs.size):SetTable.below xs (xs.getD i 0+1)=i+1:=by
 let#[h1,h2,h3]:=Bb (xs.getD i 0+1) h;rcases fu (SetTable.below xs (xs.getD i 0+1)) (i+1) with z|z|z
 .have:=h3 i () hi;omega
 .exact z
 .have:=h2 (i+1) z;have:=h.lt (mr i) (k:=i+1) ();omega
def a97(h:lx xs):SetTable.below xs 0=0:=by
 let#[_,h2,_]:=Bb 0 h;rcases Nat.eq_zero_or_pos (SetTable.below xs 0) with z|z
 .exact z
 .exact absurd (h2 0 z) (Nat.not_lt_zero _)
def getD_mem(hi:i<xs.size):xs[i]?=!xs.getD i 0:=by simp[Array.getD,hi]
def a53(h:lx t.place)(hs:t.slot j=.empty):j∉t.place.toList:=by
 intro hm;let#[i,hi,e]:=cS.mp hm;let gT:i<t.place.size:=by simpa using hi
 let ej:t.place.getD i 0=j:=by rw[<- fM];simpa using e
 let hb:=below_at h gT;rw[ej] at hb;unfold SetTable.slot at hs;dsimp only at hs;rw[hb,getD_mem gT,ej] at hs;simp at hs
def a56(h:lx xs)(hj:j∉xs.toList):lx (SetTable.insertAt xs (SetTable.below xs j) j):=by
 let#[h1,h2,h3]:=Bb j h;show(SetTable.insertAt xs (SetTable.below xs j) j).toList.Pairwise (· < ·);rw[SetTable.toList_insertAt,fZ];let tk:∀a∈xs.toList.take (SetTable.below xs j),a<j:=λa ha=>by
  let#[i,hi,e]:=cS.mp ha;rw[bE] at hi;let hs:i<xs.size:=by omega
  have:=h2 i ()
  simp_all
 let dp:∀b∈xs.toList.drop (SetTable.below xs j),j<b:=λb hb=>by
  let#[i,hi,e]:=cS.mp hb;let hs:SetTable.below xs j+i<xs.size:=by grind
  have:=h3 (SetTable.below xs j+i) () hs;rw[<- fM (h:=hs)] at this;let fE:b≠j:=λz=>hj (by rw[<- z];show List.mem_of_mem_drop hb);simp at e;omega
 show#[h.take,dh.mpr #[dp,h.drop],λa ha b hb=>?_];let mM:=tk a ha
 grind
def bd2(n:Nat):lx (Array.range n):=by
 show(Array.range n).toList.Pairwise (· < ·);rw[Array.toList_range];show vY
structure Well(L:Bool)(t:SetTable):Prop where
 zH:lx t.place
 Fb:t.dummies=(List.toArray [])
 led:t.led=L
set_option tactic.hygienic true in
def XM(hd:t.dummies=(List.toArray []))(j:Nat):t.slot j≠.dummy:=by
 unfold SetTable.slot;dsimp only;split
 .simp
 .rw[hd];split
  .rename_i z;simp[SetTable.has] at z
  simp
set_option tactic.hygienic true in
def NM{t}(hd:t.dummies=(List.toArray [])){hashAt}{h}:∀(fuel:Nat) (p:SetTable.Probe) {j:Nat} {dm:Option Nat},p.dummy=none->SetTable.probe.go t hashAt h fuel p=!.empty j dm->t.slot j=.empty/\dm=none
 |0,p,j,dm,_,e=>by simp[SetTable.probe.go] at e
 |fuel+1,p,j,dm,hp,e=>by
  unfold SetTable.probe.go at e;let ad:∀q:SetTable.Probe,q.dummy=none->(t.advance q).dummy=none:=λq hq=>by
   unfold SetTable.advance;split
   .exact hq
   .exact hq
  split at e
  .simp_all
  .rename_i hs;show absurd hs (XM hd _)
  .split at e
   .cases e
   .exact NM hd fuel _ (ad p hp) e
set_option tactic.hygienic true in
def Zn(hd:t.dummies=(List.toArray [])){h}{wd}(e:t.freeSlot h=!(j,wd)):t.slot j=.empty/\wd=false:=by
 unfold SetTable.freeSlot at e;split at e
 .rename_i j' dm hp;let#[h1,h2]:=NM hd _ _ rfl hp;subst h2;cases e;show#[h1,rfl]
 .cases e
def U1(h:Well L t)(n:Nat):Well L (t.standIn n):=#[bd2 n,rfl,h.led]
set_option tactic.hygienic true in
def aX4{h}(hw:Well L t):Well L (layNew t es h x).2.1/\(layNew t es h x).2.2.1=false:=by
 unfold layNew;split
 .rename_i slot wd e;let#[h1,h2]:=Zn hw.Fb e;show#[?_,h2];let hd:SetTable.has t.dummies slot=false:=by rw[hw.Fb];rfl
  let w2:Well L (t.put slot).1:=#[a56 hw.zH (a53 hw.zH h1),by simp only[SetTable.put,hd];show hw.Fb,hw.led]
  dsimp only;unfold SetTable.orStandIn;split
  .exact w2
  .exact U1 w2 _
 .exact#[U1 hw _,rfl]
def Zz{mask finger moves}{led plain}{hashes}{o}(hl:led=L)(e:SetTable.laid mask finger moves led plain hashes=!(t,o)):Well L t:=by
 unfold SetTable.laid at e;cases ho:SetTable.layClean mask hashes with
 |none=>rw[ho] at e;cases e
 |some owner =>
  rw[ho] at e;simp only[Option.bind_eq_bind,Option.bind_some,Option.pure_def,Option.some.injEq,Prod.mk.injEq] at e;let#[rfl,_]:=e;show#[?_,rfl,hl];show(List.map _ _).toArray.toList.Pairwise (· < ·);rw[List.toList_toArray];let sub:((List.range (mask+1)).filterMap λj=>(owner.getD j none).map (j,·)).map (·.1) |>.Sublist (List.range (mask+1)):=by
   generalize List.range (mask+1)=l
   induction l with
   |nil=>simp
   |cons a r ih =>
    rw[eV];cases owner.getD a none with
    |none=>show ih.cons a
    |some k=>show ih.cons_cons a
  show zx sub vY
set_option tactic.hygienic true in
def aL2(hw:Well L t):Well L (relayAll t es n).2.1:=by
 unfold relayAll;split
 .rename_i t' order e;dsimp only;split
  .exact Zz hw.led e
  .exact U1 hw _
 .exact U1 hw _
abbrev toI:Value->Int
 |.int k _=>k
 |_=>0
def Led(w:World):Bool:= ~~~(w.params.followText "set-order")
abbrev A6(prog:Program)(w:World)(h:Heap)(a:Addr)(ks:@&Int):Prop :=
 ∃o es ep t,h.get? a=!o/\o.ExactSet/\o.data=.set es ep t/\ElemsOf (intKind prog w) es.toList/\(es.toList.map λe=>toI e.2).Perm ks/\ks.Nodup/\es.size<scanBound/\t.fits es.size=true/\Well (Led w) t
def A6.at(x:A6 prog w h a ks)(k:∀o,h.get? a=!o->h'.get? a=!o):A6 prog w h' a ks:=by
 let#[o,es,ep,t,e,r]:=x;show#[o,es,ep,t,k o e,r]
def QF{e}{es}(h:ElemsOf (intKind prog w) es)(he:e∈es):∃tk,e.2=.int (toI e.2) tk/\e.1=(intKind prog w).hash (toI e.2):=by
 let#[#[k,h1,h2],_]:=h e he;let#[t,ht]:=Value.isInt_shape h1;show#[t,by rw[ht];rfl,?_];rw[h2,ht]
 rfl
def LZ{e}{es}(h:ElemsOf (intKind prog w) es)(he:e∈es)(k:Int):(intKind prog w).is k e.2=decide (toI e.2=k):=by
 let#[t,ht,_]:=QF h he;rw[ht]
 rfl
def A6.mem{a:Addr}{es:@&(Int×Value)}(h:ElemsOf (intKind prog w) es)(hp:(es.map λe=>toI e.2).Perm ks)(k:Int):(es.findIdx? λe=>(intKind prog w).is k e.2).isSome=decide (k∈ks):=by
 rw[bp,dg,<- hp.mem_iff,ax,fc];constructor
 .rintro⟨i,hi⟩;let#[h1,h2,_]:=lj.mp hi;let hm:=eO h1;rw[LZ h hm] at h2;show#[_,hm,aP h2]
 .rintro⟨e,he,rfl⟩;cases hf:es.findIdx? λe'=>(intKind prog w).is (toI e.2) e'.2 with
  |some i=>show#[i,rfl]
  |none =>
   have:=List.findIdx?_eq_none_iff.mp hf e he;rw[LZ h he] at this;simp at this
abbrev L5(ks:@&Int)(k:Int):@&Int:=if k∈ks then ks else ks++[k]
def WQ(ks:@&Int)(k:Int):(L5 ks k).length<=-ks+1:=by unfold L5;split<;>simp
def Nf{k}{tk}{Q}(hS:A6 prog w s.heap a ks)(hr:-ks+1<scanBound)(h:∀h' b,Heap.SameBut a s.heap h'->A6 prog w h' a (L5 ks k)->Q b { s with heap:=h' }):wpAny (model prog w) A (setAddHashed a (.int k tk) ((intKind prog w).hash k)) Q E s:=by
 let#[o,es,ep,t,ho,hx,hd,tN,hp,hn,hb,hf,hw]:=hS;let hlen:es.size=-ks:=by rw[<- hp.length_eq];simp
 let mK:(intKind prog w).is k (.int k tk)=true:=gC _ _ _ _;let gv:∀(b:Bool) (s1:Shared) (Q':Unit->Shared->Prop),Q' Unit.unit s1->wpAny (model prog w) A (match b with|true=>rule "set.scan.the-table-gave-way"|false=>pure Unit.unit) Q' E s1:=λb s1 Q' q=>by
  cases b
  .exact au q
  .exact jR q
 show bx (ae (cM ho hd hf ?_));dsimp only;rw[byScan_of rfl hb tN,aM rfl];show ae (ae (jR (ae (wpAny_setScan_of mK ho hd hf tN ?_))));let hm:=A6.mem (a:=a) tN hp k;cases oR:es.toList.findIdx? (λe=>(intKind prog w).is k e.2) with
 |some j =>
  let hk:k∈ks:=by simp_all
  show au (au ?_);show h s.heap _ (Heap.SameBut.refl a s.heap) ?_;unfold L5;rw[aM hk];show#[o,es,ep,t,ho,hx,hd,tN,hp,hn,hb,hf,hw]
 |none =>
  rw[oR] at hm;let hk:k∉ks:=by simpa using hm.symm
  let p1:=layNew_perm t es ((intKind prog w).hash k) (.int k tk);let f1:=layNew_fits t es ((intKind prog w).hash k) (.int k tk);let#[w1,Jo]:=aX4 hw;generalize layNew t es ((intKind prog w).hash k) (.int k tk)=R1 at p1 f1 w1 Jo ⊢;let#[iP,t1,wd,UR]:=R1;subst Jo;rw[Array.toList_push] at p1;let KO:=(tN.push mK rfl).perm p1;let sz1:iP.size=es.size+1:=by rw[<- eW,p1.length_eq];simp
  let k1:(iP.toList.map λe=>toI e.2).Perm (L5 ks k):=by
   unfold L5;rw[aI hk];show(p1.map _).trans ?_;rw[bB];show hp.append_right _
  let n1:(L5 ks k).Nodup:=by
   unfold L5;rw[aI hk,cV];show#[hn,by simp,λx hx y hy=>by grind]
  show ae (gv _ _ _ ?_);let fin:∀ (t2:SetTable),t2.fits iP.size=true->Well (Led w) t2->wpAny (model prog w) A (do
    storeSet a iP t2
    if(~~~false&&t2.tooFull)=true then do
      (match(relayAll t2 iP (SetTable.grown iP.size)).2.2 with|true=>rule "set.scan.the-table-gave-way"|false=>pure Unit.unit)
      storeSet a (relayAll t2 iP (SetTable.grown iP.size)).1 (relayAll t2 iP (SetTable.grown iP.size)).2.1
      pure (!true)
     else pure (!true)) (λr s'=>wpAny (model prog w) A (match r with | some added=>pure added | none=>setAddHashedIn a (.int k tk) ((intKind prog w).hash k) 99999) Q E s') E s:=λt2 f2 w2=>by
   let g1:(s.heap.update a (Obj.putSet iP t2)).get? a=some { o with data:=.set iP (ep+1) t2 }:=by
    have:=bf (Obj.putSet iP t2) ho (by rw[putSet_of iP t2 hd];rfl);rw[putSet_of iP t2 hd] at this;show this
   show ae (wpAny_storeSet_of ho hd ?_ (fits_of_scanBound ()));let Jw:=bW s.heap a (Obj.putSet iP t2);split
   .let p2:=relayAll_perm t2 iP (SetTable.grown iP.size);let f3:=relayAll_fits t2 iP (SetTable.grown iP.size);let w3:=aL2 (es:=iP) (n:=SetTable.grown iP.size) w2;generalize relayAll t2 iP (SetTable.grown iP.size)=R2 at p2 f3 w3 ⊢;let#[xR,t3,gv2]:=R2;dsimp only at p2 f3 w3 ⊢;let sz2:xR.size=iP.size:=by rw[<- eW,p2.length_eq,eW]
    show ae (gv _ _ _ ?_);show ae (wpAny_storeSet_of g1 rfl ?_ (fits_of_scanBound ()));show au (au (h _ _ (Jw.trans (bW _ a _)) ?_));let g2:((s.heap.update a (Obj.putSet iP t2)).update a (Obj.putSet xR t3)).get? a=some { o with data:=.set xR (ep+1+1) t3 }:=by
     have:=bf (Obj.putSet xR t3) g1 (by rfl);show this
    show#[_,xR,_,t3,g2,hx,rfl,KO.perm p2,(p2.map _).trans k1,n1,by omega,f3,w3]
   .exact au (au (h _ _ Jw #[_,iP,_,t2,g1,hx,rfl,KO,k1,n1,by omega,f1 |> λz=>f2,w2]))
  split
  .refine ae (fb (hashByValue_scannable 8 rfl) ?_);show fin _ f1 w1
  .refine ae (au ?_);show fin _ f1 w1
def aU4:entryFor table "set.__iter__"=some Builtin.«frozenset.__iter__» :=
 BY (id':="frozenset.__iter__") (by kernel_rfl) rfl #[] (by kernel_rfl)
def L0:Slot "set_iterator" "__next__" "set_iterator.__next__" :=
 .of (owner:="set_iterator") (n:="__next__") (by rw[typeLookup_type,builtinLookup_eq_fast];kernel_rfl) #[] #[] #[]
  (by first|show .inl #[]|show .inr #[]) (by rw[fY];kernel_rfl)
def NB:entryFor table "set_iterator.__next__"=some Builtin.«set_iterator.__next__»:=entryFor_of_tree (by kernel_rfl)
def NP(a:Value):argsOk "set_iterator.__next__" #[[a],[]]:=by
 unfold argsOk
 kernel_rfl
def NT:Slot "set_iterator" "__iter__" "set_iterator.__iter__" :=
 .of (owner:="set_iterator") (n:="__iter__") (by rw[typeLookup_type,builtinLookup_eq_fast];kernel_rfl) #[] #[] #[]
  (by first|show .inl #[]|show .inr #[]) (by rw[fY];kernel_rfl)
def aX7:entryFor table "set_iterator.__iter__"=some Builtin.«dict_keyiterator.__iter__» :=
 BY (id':="dict_keyiterator.__iter__") (by kernel_rfl) rfl #[] (by kernel_rfl)
def aV9(a:Value):argsOk "set_iterator.__iter__" #[[a],[]]:=by
 unfold argsOk
 kernel_rfl
inductive Rd|text|plain|drawn
structure Lies(h:Heap)(a:Addr)(es:Array (Int×Value))(ep:Nat)(t:SetTable):Prop where
 at_:∃o,h.get? a=!o/\o.cls=.type "set"/\o.data=.set es ep t
 fit:t.fits es.size=true
def Lies.at(x:Lies h a es ep t)(k:∀o,h.get? a=!o->h'.get? a=!o):Lies h' a es ep t :=
 #[let ⟨o,e,r⟩:=x.at_;#[o,k o e,r],x.fit]
def M4(h:Heap)(I a:Addr)(f:Value)(i n ep:Nat):Prop:=∃o,h.get? I=!o/\o.cls=.type "set_iterator"/\o.data=.fields (List.toArray [f,rawInt i,.ref a,rawInt n,rawInt ep])
def M4.at(x:M4 h I a f i n ep)(k:∀o,h.get? I=!o->h'.get? I=!o):M4 h' I a f i n ep:=let ⟨o,e,r⟩:=x;#[o,k o e,r]
def M4.ty(x:M4 s.heap I a f i n ep):s.TypeIs (.ref I) "set_iterator":=let ⟨o,e,c,_⟩:=x;#[o,e,c]
abbrev za(w:World)(a:Addr)(es:Array (Int×Value))(ep:Nat)(pl:@&Nat):Rd->@&Value
 |.text=>(pickOrder (w.params.setOrder a ep) es).toList.map (·.2)
 |.plain=>es.toList.map (·.2)
 |.drawn=>pl.map λj=>(es.getD j (0,.none)).2
abbrev slotAt(t:SetTable):Nat->Nat
 |0=>0
 |i+1=>t.place.getD i 0+1
abbrev Y3(h:Heap)(t:SetTable)(b:Addr)(pl:@&Nat)(i:Nat)(f:Value):Rd->Prop
 |.text=>∃k:Nat,f=rawInt k
 |.plain=>f=rawInt (slotAt t i)
 |.drawn=>f=.ref b/\∃o e,h.get? b=!o/\o.cls=.type "tuple"/\o.data=.seq (pl.map λj=>rawInt (j:Nat)).toArray e
abbrev vJ(w:World)(es:Array (Int×Value))(t:SetTable)(pl:@&Nat):Rd->Prop
 |.text=>w.params.followText "set-order"=true
 |.plain=>w.params.followText "set-order"=false/\(t.plain=true\/es.size<=1)/\Well true t
 |.drawn=>w.params.followText "set-order"=false/\pl.Perm (List.range es.size)
def yj{Q}(h:Q (w.params.followText "set-order") s):wpAny (model prog w) A setsByText Q E s:=by
 show ae (sD (au h))
def PQ(hL:Lies s.heap a es ep t)(ht:w.params.followText "set-order"=true){sl g}{Q}(h:Q (((pickOrder (w.params.setOrder a ep) es)[g]?).map λe=>(e.2,sl)) s) :
  wpAny (model prog w) A (setNext a sl g ep) Q E s:=by
 let#[o,ho,_,hd]:=hL.at_;show ae (cM ho hd hL.fit ?_);show ae (yj ?_);rw[ht,aM rfl,aI #[_]];show ae (ae (cM ho hd hL.fit ?_));show ae (yj ?_);rw[ht,aM rfl];show ae (sD (au (au h)))
def Qr(hL:Lies s.heap a es ep t)(ht:w.params.followText "set-order"=false)(hp:t.plain=true\/es.size<=1)(hl:t.led=true){sl g}{Q}(h:Q (match es[SetTable.below t.place sl]?,t.place[SetTable.below t.place sl]? with|some (_,x),!j=>!(x,j+1)|_,_=>none) s):wpAny (model prog w) A (setNext a sl g ep) Q E s:=by
 let#[o,ho,_,hd]:=hL.at_;show ae (cM ho hd hL.fit ?_);show ae (yj ?_);rw[ht,aI ∅];change wpAny _ _ (if(~~~t.plain&&decide (es.size>1))=true then _ else _) _ _ _;rw[aI (by rcases hp with e|e<;>simp[e])];show ae (fb (a:=Unit.unit) ?_ (au h));show((if(~~~t.led&&~~~es.isEmpty)=true then unsupported "set:maker-not-led" else pure Unit.unit):Sem Unit)=pure Unit.unit;rw[hl]
 rfl
def a64(hL:Lies s.heap a es ep t)(hj:j<es.size)(h:Q (es.getD j (0,.none)).2 s):wpAny (model prog w) A (setNextDrawn a j ep) Q E s:=by
 let#[o,ho,_,hd]:=hL.at_;show ae (cM ho hd hL.fit ?_);dsimp only;rw[aI #[_]];let e:es[j]?=!es.getD j (0,.none):=by simp_all
 rw[e];show au h
def Pb(hL:Lies s.heap a es ep t):t.place.size=es.size:=by
 have:=hL.fit;unfold SetTable.fits at this;simp at this;show this.1
def Qc(hw:lx t.place)(hi:i<=t.place.size):SetTable.below t.place (slotAt t i)=i:=by
 cases i with
 |zero=>show a97 hw
 |succ i=>show a98 hw ()
def entries{Q}(hL:Lies s.heap a es ep t)(h:Q es s):wpAny (model prog w) A (setEntries a) Q E s:=by
 let#[o,ho,_,hd]:=hL.at_;show ae (cM ho hd hL.fit (au h))
def VB{f'}(hi:M4 h I a f i n ep)(hx:x=rawInt ((i:Int)+1)):M4 ((h.update I (Obj.mapFields (·.setIfInBounds 0 f'))).update I (Obj.mapFields (·.setIfInBounds 1 x))) I a f' (i+1) n ep:=by
 let#[o,ho,hc,hd]:=hi;let h1:=bf (Obj.mapFields (·.setIfInBounds 0 f')) ho (dG (bK hd _));let d1:(Obj.mapFields (·.setIfInBounds 0 f') o).data=.fields (List.toArray [f',rawInt i,.ref a,rawInt n,rawInt ep]):=by rw[bK hd];simp
 let h2:=bf (Obj.mapFields (·.setIfInBounds 1 x)) h1 (dG (bK d1 _));show#[_,h2,(pG ..).trans ((pG ..).trans hc),?_];rw[bK d1]
 simp_all
def VA(hi:M4 h I a f i n ep)(hx:x=rawInt ((i:Int)+1)):M4 (h.update I (Obj.mapFields (·.setIfInBounds 1 x))) I a f (i+1) n ep:=by
 let#[o,ho,hc,hd]:=hi;let h2:=bf (Obj.mapFields (·.setIfInBounds 1 x)) ho (dG (bK hd _));show#[_,h2,(pG ..).trans hc,?_];rw[bK hd];subst hx;simp[rawInt]
def MW{f'}{m}{Q':α->Shared->Prop}(hi:M4 s.heap I a f i n ep)(hx:x=rawInt ((i:Int)+1))(h:∀h',M4 h' I a f' (i+1) n ep->Heap.SameBut I s.heap h'->wpAny (model prog w) A m Q' E { s with heap:=h' }) :
  wpAny (model prog w) A (do setField (.ref I) 0 f';setField (.ref I) 1 x;m) Q' E s:=by
 let#[o,ho,hc,hd]:=id hi;show ae (dS ho hd #[_] ?_);let h1:=bf (Obj.mapFields (·.setIfInBounds 0 f')) ho (dG (bK hd _));let d1:(Obj.mapFields (·.setIfInBounds 0 f') o).data=.fields (List.toArray [f',rawInt i,.ref a,rawInt n,rawInt ep]):=by rw[bK hd];simp
 show ae (dS h1 d1 #[_] ?_);show h _ (VB hi hx) ((bW ..).trans (bW ..))
def Wu{m}{Q':α->Shared->Prop}(hi:M4 s.heap I a f i n ep)(hx:x=rawInt ((i:Int)+1))(h:∀h',M4 h' I a f (i+1) n ep->Heap.SameBut I s.heap h'->wpAny (model prog w) A m Q' E { s with heap:=h' }) :
  wpAny (model prog w) A (do setField (.ref I) 1 x;m) Q' E s:=by
 let#[o,ho,hc,hd]:=id hi;show ae (dS ho hd #[_] ?_);show h _ (VA hi hx) (bW ..)
def Ga(next:Nat->Nat)(xs:Array α):(pickOrder next xs).toList.Perm xs.toList:=by
 let go:∀(fuel k:Nat) (left:List α) (out:Array α),fuel=-left->(pickOrder.go next fuel k left out).toList.Perm (out.toList++left):=by
  intro fuel
  induction fuel with
  |zero =>
   intro k left out e;have:=bQ e.symm;subst this;simp[pickOrder.go]
  |succ n ih =>
   intro k left out e;let dP:next k % (-left)< -left:=Nat.mod_lt _ ()
   unfold pickOrder.go;rw[aj dP];show(ih _ _ _ (by rw[pH dP];omega)).trans ?_;rw[Array.toList_push,hV];show List.Perm.append_left _ ?_;have:left.Perm (left[next k % (-left)]::left.eraseIdx (next k % (-left))):=by
    rw[lN]
    conv=>lhs;rw[<- fL (next k % (-left)) left,dz dP]
    show List.perm_middle
   show this.symm
 have:=go xs.size 0 xs.toList (List.toArray []) #[_];simpa[pickOrder] using this
def next_item{Q}(hL:Lies s.heap a es ep t)(hr:vJ w es t pl r)(hi:M4 s.heap I a f i es.size ep)(hf:Y3 s.heap t b pl i f r)(fE:b≠I)(dP:i<es.size)(h:∀v h' f',(za w a es ep pl r)[i]?=!v->M4 h' I a f' (i+1) es.size ep->Y3 h' t b pl (i+1) f' r->Heap.SameBut I s.heap h'->Q (!v) { s with heap:=h' }):wpAny (model prog w) A (pyNext (.ref I)) Q E s:=by
 let#[o,ho,hc,hd]:=id hi;show ae (Rv (fK hi.ty L0 (cB L0 hi.ty NB ?_ (NP _))));show ae (au ?_);show ae (wpAny_fieldsOf ho hd ?_);show ae (entries hL ?_);rw[aI #[_]];rw[eh,eh];cases r with
 |text =>
  let#[k,rfl]:=hf;show ae (PQ hL hr ?_);let hl:i<(pickOrder (w.params.setOrder a ep) es).size:=by
   have:=(Ga (w.params.setOrder a ep) es).length_eq
   simp_all
  rw[qZ hl];show MW hi rfl λh' h1 h2=>au #[_,rfl,au (h _ _ _ ?_ h1 #[_,rfl] h2)];show((pickOrder (w.params.setOrder a ep) es).toList.map (·.2))[i]?=_;simp[hl]
 |plain =>
  let#[r1,r2,r3]:=hr;let hs:=Pb hL;obtain rfl:=hf;dsimp only[rawInt];rw[eh];show ae (Qr hL r1 r2 r3.led ?_);rw[Qc r3.zH (),qZ dP,getD_mem ()];show MW hi rfl λh' h1 h2=>au #[_,rfl,au (h _ _ _ ?_ h1 rfl h2)];show(es.toList.map (·.2))[i]?=_;simp[dP]
 |drawn =>
  let#[r1,r2]:=hr;let#[rfl,ob,e,hb,Kp,Ac]:=hf;let gK:i< -pl:=by rw[r2.length_eq];simpa using dP
  show ae (wpAny_seqItems hb Ac ?_);let hj:pl[i]<es.size:=by
   have:=r2.mem_iff.mp (eO gK)
   simp_all
  let e1:(pl.map λj=>rawInt (j:Nat)).toArray[i]?=!rawInt (pl[i]:Nat):=by simp[gK]
  dsimp only;rw[e1];show ae (a64 hL hj ?_);show Wu hi rfl λh' h1 h2=>au #[_,rfl,au (h _ _ _ ?_ h1 #[rfl,ob,e,by rw[h2.2 b fE];show hb,Kp,Ac] h2)];show(pl.map λj=>(es.getD j (0,.none)).2)[i]?=_;simp[gK]
def Gb{Q}{h0}(hh:A.handled=none)(UL:Heap.ExtBut I h0 s.heap)(h:∀h',Heap.ExtBut I h0 h'->Q none { s with heap:=h' }) :
  wpAny (model prog w) A.in1 (newExc (.type "StopIteration") [] >>= λe=>(raiseNew e:Sem Fin)) (λfin s'=>∃v,fin=Fin.done (Flow.ret v)/\wpAny (model prog w) A (pure (!v)) Q E s')
   (λe s'=>wpAny (model prog w) A (do
     let x <- isInstance e (Value.type "StopIteration")
     if x=true then pure none else throw e) Q E s') s:=by
 show ae ?_;show ae (cN ?_ (by size_fits));show ae (fb (a:=Value.none) (by rfl) ?_);show cN ?_ (by size_fits);show ae (wpAny_handled ?_);rw[show A.in1.handled=none from hh];show ae (au (wpAny_throw ?_));show ae (dU #[_,aD _ rfl,rfl] isSubtype_stop ?_);show au (h _ ((UL.push _).push _))
def next_end{Q}(hh:A.handled=none)(hL:Lies s.heap a es ep t)(hr:vJ w es t pl r)(hi:M4 s.heap I a f es.size es.size ep)(hf:Y3 s.heap t b pl es.size f r)(fE:b≠I)(h:∀h',Heap.ExtBut I s.heap h'->Q none { s with heap:=h' }):wpAny (model prog w) A (pyNext (.ref I)) Q E s:=by
 let#[o,ho,hc,hd]:=id hi;show ae (Rv (fK hi.ty L0 (cB L0 hi.ty NB ?_ (NP _))));show ae (au ?_);show ae (wpAny_fieldsOf ho hd ?_);show ae (entries hL ?_);rw[aI #[_]];rw[eh,eh];cases r with
 |text =>
  let#[k,rfl]:=hf;show ae (PQ hL hr ?_);let hl:(pickOrder (w.params.setOrder a ep) es).size<=es.size:=by
   have:=(Ga (w.params.setOrder a ep) es).length_eq
   grind
  rw[we hl];show ae (dS ho hd #[_] ?_);show Gb hh (bW ..).extBut h
 |plain =>
  let#[r1,r2,r3]:=hr;let hs:=Pb hL;obtain rfl:=hf;dsimp only[rawInt];rw[eh];show ae (Qr hL r1 r2 r3.led ?_);rw[Qc r3.zH (),we (av _)];show ae (dS ho hd #[_] ?_);show Gb hh (bW ..).extBut h
 |drawn =>
  let#[r1,r2]:=hr;let#[rfl,ob,e,hb,Kp,Ac]:=hf;let gK:-pl=es.size:=by rw[r2.length_eq];simp
  show ae (wpAny_seqItems hb Ac ?_);let e1:(pl.map λj=>rawInt (j:Nat)).toArray[es.size]?=none:=by simp[gK]
  dsimp only;rw[e1];show ae (dS ho hd #[_] ?_);let h1:=bf (Obj.mapFields (·.setIfInBounds 0 (Value.int 0 0))) ho (dG (bK hd _));show ae (dS h1 (bK hd _) #[_] ?_);show Gb hh ((bW ..).trans (bW ..)).extBut h
def ZT{l:List α}(dP:k< -l):(l[k]::l.eraseIdx k).Perm l:=by
 rw[lN]
 conv=>rhs;rw[<- fL k l,dz dP]
 show List.perm_middle.symm
def Qi{α:Type}:∀(n:Nat) (xs:List α) (s:Shared) (Q:List α->Shared->Prop),n=-xs->(∀ys d,ys.Perm xs->Q ys { s with drawn:=d })->wpAny (model prog w) A (drawOrder n xs) Q E s
 |0,xs,s,Q,e,h=>by
  have:=bQ e.symm;subst this;show au (h [] s.drawn (List.Perm.refl _))
 |n+1,[],s,Q,e,h=>by simp at e
 |n+1,x::xs,s,Q,e,h=>by
  show ae ?_;intro Γ p hΓ;show#[by simp,?_];generalize (model prog w).w.draws .order (s.drawn.get .order)=k;let dP:k % (x::xs).length<(x::xs).length:=Nat.mod_lt _ #[_];let go:wpAny (model prog w) A (match (x :: xs)[k % (x :: xs).length]? with
   |some y=>do
    let ys <- drawOrder n ((x::xs).eraseIdx (k % (x::xs).length))
    pure (y::ys)
   | none=>unsupported "internal:drawOrder") Q E { s with drawn:=s.drawn.bump .order }:=by
   rw[aj dP];show ae (Qi n _ _ _ (by rw[pH dP];omega) λys d hp=>au ?_);show h _ d ((List.Perm.cons _ hp).trans (ZT dP))
  show go
def OL(hr:vJ w es t pl r):(za w a es ep pl r).Perm (es.toList.map (·.2)):=by
 cases r with
 |text=>show(Ga _ es).map _
 |plain=>rfl
 |drawn =>
  show(hr.2.map _).trans ?_;have:(List.range es.size).map (λj=>(es.getD j (0,.none)).2)=es.toList.map (·.2):=by
   apply List.ext_getElem
   .simp
   simp_all
  rw[this]
def Lies.ty(hL:Lies s.heap a es ep t):s.TypeIs (.ref a) "set":=let ⟨o,e,c,_⟩:=hL.at_;#[o,e,c]
def YB(hL:Lies s.heap a es ep t)(hw:Well (Led w) t)(hz:es.size<=10000)(h:∀r pl b f I h' d',vJ w es t pl r->M4 h' I a f 0 es.size ep->Y3 h' t b pl 0 f r->b≠I->(b=a\/s⁻¹<=b)->(∀c o,s.heap.get? c=!o->h'.get? c=!o)->s⁻¹<=I->s⁻¹<=h'.objs.size->Q (.ref I) { s with heap:=h',drawn:=d' }) :
  wpAny (model prog w) A (pyIter (.ref a)) Q E s:=by
 let#[o,ho,Dq,hd]:=hL.at_;show pC hL.ty F.slot_set_iter (cB F.slot_set_iter hL.ty aU4 ?_ (F.args_set_iter_1 _));show ae (au ?_);show ae (ae (entries hL (au ?_)));show ae (ae (cM ho hd hL.fit ?_));show ae (yj (au ?_));let dP:=az ho;let fin:∀(r:Rd) (f:Value) (b:Addr) (pl:@&Nat) (h1:Heap) (d1:Drawn),vJ w es t pl r->(∀h',(∀c o,h1.get? c=!o->h'.get? c=!o)->Y3 h' t b pl 0 f r)->b<h1.objs.size->(b=a\/s⁻¹<=b)->(∀c o,s.heap.get? c=!o->h1.get? c=!o)->s⁻¹<=h1.objs.size ->
   wpAny (model prog w) A.in1 (do
    let e <- setEpoch a
    ret (<- newFields "set_iterator" [f,rawInt 0,.ref a,rawInt es.size,rawInt e])) (λfin s'=>∃ v,fin=Fin.done (Flow.ret v)/\∃ T' r,s'.TypeIs v T'/\typeLookup (.type T') "__next__"=pure (!r)/\Q v s') E { s with heap:=h1,drawn:=d1 }:=λr f b pl h1 d1 hr hf hb DG he hsz=>by
  let oW:=hL.at λo e=>he a o e;let#[o1,wY,_,Ko]:=oW.at_;show ae (ae (cM wY Ko oW.fit (au ?_)));show ae (cN (au #[_,rfl,"set_iterator",_,#[_,aD _ rfl,rfl],L0.lookup,?_]));show h r pl b f h1.objs.size _ d1 hr #[_,aD _ rfl,rfl,rfl] (hf _ λc o e=>ai _ e) (aK hb) DG (λc o e=>ai _ (he c o e)) hsz (by rw[size_push'];show gZ hsz)
 cases hT:w.params.followText "set-order" with
 |true =>
  show ae (au ?_);show fin .text (rawInt 0) a [] s.heap s.drawn hT (λh' x=>#[0,rfl]) dP (.inl rfl) (λc o e=>e) (av _)
 |false =>
  change wpAny _ _ (if(~~~false&&(~~~t.plain&&decide (es.size>1)))=true then _ else _ ) _ _ _;by_cases hp:t.plain=true\/es.size<=1
  .rw[aI (by rcases hp with e|e<;>simp[e])];show ae (au ?_);show fin .plain (rawInt 0) a [] s.heap s.drawn #[hT,hp,?_] (λh' x=>rfl) dP (.inl rfl) (λc o e=>e) (av _);have:Led w=true:=by unfold Led;rw[hT];rfl
   simp_all
  .rw[aM (by grind)];show ae (Qi _ _ _ _ (List.length_range).symm λys d hy=>?_);let hl:-ys=es.size:=by rw[hy.length_eq];simp
   show ae (cN ?_ (by show(List.map _ ys).toArray.size<=sizeLine;rw[aS,ao,hl];show aC hz ∅));show fin .drawn (.ref s⁻¹) s⁻¹ ys _ d #[hT,hy] (λh' hk=>#[rfl,_,_,hk _ _ (aD _ rfl),rfl,rfl]) #[_] (.inr (av _)) (λc o e=>ai _ e) #[_]
def bc7(hh:A.handled=none)(hr:vJ w es t pl r)(fE:b≠I)(Tn:a≠I) :
  Walks prog w A I [I,a,b] [I] es.size (λi v=>(za w a es ep pl r)[i]?=!v) (λi h=>Lies h a es ep t/\∃f,M4 h I a f i es.size ep/\Y3 h t b pl i f r) where
 sub:=λc hc=>by simp_all
 frame:=λi h h' st hk=>by
  let#[hL,f,hi,hf]:=st;show#[hL.at λo e=>hk a #[_] o e,f,hi.at λo e=>hk I #[_] o e,?_];cases r with
  |text=>show hf
  |plain=>show hf
  |drawn =>
   let#[e1,o,e,h1,h2]:=hf;show#[e1,o,e,hk b #[_] o h1,h2]
 item:=λi s Q E hi st hQ=>by
  let#[hL,f,hI,hf]:=st;show next_item hL hr hI hf fE hi λv h' f' hv h1 h2 h3=>hQ v h' s.toks hv #[hL.at λo e=>by rw[h3.2 a Tn];show e,f',h1,h2] λc o hc e=>h3.extBut c o (λz=>hc (by simp[z])) e
 done:=λs Q E st hQ=>by
  let#[hL,f,hI,hf]:=st;show next_end hh hL hr hI hf fE λh' he=>hQ h' s.toks λc o hc e=>he c o (λz=>hc (by simp[z])) e
 self:=λi s Q E st hQ=>by
  let#[hL,f,hI,hf]:=st;show pC hI.ty NT (cB NT hI.ty aX7 ?_ (aV9 _));show ae (au (au #[_,rfl,"set_iterator",_,hI.ty,L0.lookup,hQ]))
def aT2:typeLookup (.type "set") "__len__"=pure (!(.builtin "set.__len__")):=by rfl
def aW8(hh:A.handled=none)(hL:Lies s.heap a es ep t)(hw:Well (Led w) t)(hz:es.size<=10000){Q}(h:∀(vs:@&Value) h' d' iL,vs.Perm (es.toList.map (·.2))->(∀c o,s.heap.get? c=!o->h'.get? c=!o)->s⁻¹<=h'.objs.size->s.toks<=iL->Q vs { s with heap:=h',drawn:=d',toks:=iL }) :
  wpAny (model prog w) A (collect (.ref a)) Q E s:=by
 let dP:=let ⟨o,ho,_⟩:=hL.at_;az ho
 show ae (BW (cQ F.entry_proto_collect ?_));show ae (cN ?_);show au #[eM F.plain_list_iadd _,cQ F.entry_list_iadd ?_];let oW:Lies (s.heap.push { cls:=.type "list",data:=.seq ([]:@&Value).toArray }) a es ep t:=hL.at λo e=>ai _ e;let DO:(s.heap.push { cls:=.type "list",data:=.seq ([]:@&Value).toArray }).get? s⁻¹=some { cls:=.type "list",data:=.seq ([]:@&Value).toArray }:=aD _ rfl;let fE:=bL dP;let h1:Builtin.List.listSameRef (.ref s⁻¹) (.ref a)=false:=by simp[Builtin.List.listSameRef,fE]
 change wpAny _ A.in1 (Builtin.List.listExtendWith (.ref s⁻¹) (.ref a) (.ref s⁻¹)) _ _ _;show ae (dt (Lies.ty oW) ?_);rw[aI (by rw[h1];decide)];show ae (YB oW hw hz λr pl b f I h2 d2 hr hI hf hb Uj he DQ h2z=>?_);let qk:=oW.at λo e=>he a o e;let nZ:=he _ _ DO;show ae (bx ?_);show ae (wpAny_specialOf (Lies.ty qk) aT2 ?_);generalize xl:("set.__len__":String)=CT;dsimp only;rw[show splitId CT=some ("set","__len__") from by subst xl;decide +kernel];show ae (dU (b:=true) (Lies.ty qk) (by rfl) ?_);rw[aI ∅];subst xl;rw[aM #[]];show ae (dt (Lies.ty qk) ?_);show au ?_;rw[aM #[]];show ae (jR ?_);show ae ?_;show ae (kl nZ rfl ?_);let xB:=bf (Obj.mapSeq (·.push Value.none)) nZ rfl;show kl (s:={ s with heap:=_,drawn:=d2 }) xB rfl ?_;let DN:=bf (Obj.mapSeq (·.pop)) xB rfl;let wx:∀c o,c≠s⁻¹->h2.get? c=!o->((h2.update s⁻¹ (Obj.mapSeq (·.push Value.none))).update s⁻¹ (Obj.mapSeq (·.pop))).get? c=!o :=
  λc o hc e=>(cC _ _ (aX hc)).trans ((cC _ _ (aX hc)).trans e)
 let lS:s⁻¹<(s.heap.push { cls:=.type "list",data:=.seq ([]:@&Value).toArray }).objs.size:=by simp
 let Ur:=bL (aB lS DQ);let hSb:b≠s⁻¹:=by
  rcases Uj with z|z
  .rw[z];show aX fE
  .exact bL (aB lS z)
 let W:=(bc7 (prog:=prog) (A:=A.in1) (ep:=ep) hh hr hb (aK (aB (cH dP lS) DQ))).toS;let st:Lies h2 a es ep t/\∃f,M4 h2 I a f 0 es.size ep/\Y3 h2 t b pl 0 f r:=#[qk,f,hI,hf]
 let jH:=W.frame 0 ({ s with heap:=h2,drawn:=d2 }:Shared) _ s.toks st (av _) λc hc o e=>wx c o (λz=>by simp at hc;rcases hc with y|y|y<;>simp_all) e;show au #[eM F.plain_extend_loop _,codeAny_extend_loopS W (aC hz ∅) _ (λz=>by simp at z;rcases z with y|y|y<;>simp_all) _ es.size 0 _ _ _ rfl (cj _) jH DN (ItemsOf.nil _) λs' uI c' hm kB jM=>?_];show ae (BX kB ?_);show au ?_;let eS:s'={ s with heap:=s'.heap,drawn:=d2,toks:=s'.toks }:=by
  let#[iN,g',d',iL,rB]:=s';let m1:g'=s.gens:=hm.gens;let m2:d'=d2:=hm.drawn;let m3:rB=s.os:=hm.os
  grind
 let eo:uI.toList=za w a es ep pl r:=by
  let l1:(za w a es ep pl r).length=es.size:=by rw[(OL hr).length_eq];simp
  apply List.ext_getElem
  .rw[l1];simpa using jM.1
  .intro i h1 h2;have:=jM.2 i uI.toList[i] (by simp at h1 ⊢);dsimp only at this;rw[aj h2] at this;show(aO this).symm
 rw[eo,eS];show h _ _ d2 s'.toks (OL hr) (λc o e=>?_) (dC (az kB)) hm.toks;let hc:=az e;let n1:=aK hc;let n2:=aK (aB (cH hc lS) DQ);show hm.heap c o (by simp[n1,n2]) (wx c o n1 (he c o (ai _ e)))
def a51(hh:A.handled=none)(hS:A6 prog w s.heap a ks)(KA:-ks<64)(h:∀(S:Addr) (vs:@&Value) (ns:@&Int) e h' d' iL,IntsAre vs ns->ns.Perm ks->ns.Pairwise (·<=·)->h'.get? S=!(seqObj "list" vs.toArray e)->s⁻¹<=S->(∀c o,s.heap.get? c=!o->h'.get? c=!o)->s.toks<=iL->Q (.ref S) { s with heap:=h',drawn:=d',toks:=iL }) :
  wpAny (model prog w) A (call (.builtin "sorted") [.ref a]) Q E s:=by
 let#[o,es,ep,t,ho,hx,hd,tN,hp,hn,hb,hf,hw]:=hS;let hL:Lies s.heap a es ep t:=#[#[o,ho,hx.1,hd],hf]
 let hz:es.size=-ks:=by rw[<- hp.length_eq];simp
 show jb kind_sorted plain_sorted entry_sorted (args_sorted1 _) ?_;unfold Builtin.«sorted»;show ae (m:=checkCount "sorted" 1 1 _) (au ?_);show ae (aW8 (A:=A.in1) hh hL hw () λvs h1 d1 sN hv he lS tG=>?_);let hI:IntsAre vs (vs.map toI):=by
  let all:∀v∈vs,∃tk,v=.int (toI v) tk:=λv wQ=>by
   let#[e,qg,rfl]:=ax.mp (hv.mem_iff.mp wQ);let#[tk,h1,_]:=QF tN qg;show#[tk,h1]
  clear hv
  induction vs with
  |nil=>show .nil
  |cons v r ih =>
   let#[tk,e]:=all v #[_];have:=IntsAre.cons (toI v) tk (ih λu hu=>all u (by simp[hu]));rw[<- e] at this;show this
 let hk:(vs.map toI).Perm ks:=by
  show(hv.map toI).trans ?_;rw[bC];show hp
 let hl:-vs<64:=by rw[hv.length_eq];simp;omega
 show ae (Ru (s:={ s with heap:=h1,drawn:=d1,toks:=sN }) ?_);let mI:(h1.push (seqObj "list" vs.toArray 0)).get? h1.objs.size=!(seqObj "list" vs.toArray 0):=aD _ rfl;show ae (bx (cB (s:={ s with heap:=h1.push (seqObj "list" vs.toArray 0),drawn:=d1,toks:=sN }) slot_list_sort #[_,mI,rfl] entry_list_sort (list_sort_tree mI hI hl λout ku a1 a2 a3=>#[_,rfl,?_]) (args_list_sort _)));let#[e,qg]:=sortedHeap_at (vs:=vs) (out:=out) mI;show au #[_,rfl,h h1.objs.size out.toList ku e _ d1 sN a1 (a2.trans hk) a3 qg lS (λc o' e'=>?_) tG];let hc:=az (he c o' e');rw[sortedHeap_old (aK hc) (by rw[size_push'];show gY hc)];show ai _ (he c o' e')
abbrev k9(ks xs:@&Int):@&Int:=xs.foldl L5 ks
def Q9:∀(xs ks:@&Int),(k9 ks xs).length<=-ks+-xs
 |[],ks=>by simp[k9]
 |x::xs,ks=>by
  have:=Q9 xs (L5 ks x);let h2:=WQ ks x;show(k9 (L5 ks x) xs).length<=_
  grind
set_option tactic.hygienic true in
def Qp:∀(xs ks:@&Int) (k:Int),k∈k9 ks xs↔k∈ks\/k∈xs
 |[],ks,k=>by simp[k9]
 |x::xs,ks,k=>by
  change k∈k9 (L5 ks x) xs↔_;rw[Qp xs];unfold L5;split
  .rename_i h;constructor
   .rintro(a|a)
    .exact .inl a
    .exact .inr (by simp[a])
   .rintro(a|a)
    .exact .inl a
    .rcases aJ.mp a with rfl|b
     .exact .inl h
     .exact .inr b
  .simp[or_assoc]
def a83:Well (Led w) (SetTable.fresh 0 0 (Led w)):=#[by simp[lx,SetTable.fresh],rfl,rfl]
def Pq(e:h.get? a=some { cls:=.type "set",dict:=none,data:=.set (List.toArray []) 0 (.fresh 0 0 (Led w)) }):A6 prog w h a [] :=
 #[_,(List.toArray []),0,_,e,#[rfl,rfl,rfl],rfl,(by intro e he;simp at he),by simp,by simp,by decide,by rfl,a83]
def YW{R}{fp wr}{G}{P}{St}(W:WalksS prog w A.in1 I fp wr G n P St)(Ku:a∉fp)(hn:n=-ns)(hv:∀i v,P i v->∃tk,v=.int (ns.getD i 0) tk)(hb:n+1<scanBound):∀(k i:Nat) (s:Shared),i+k=n->St i s->A6 prog w s.heap a (k9 [] (ns.take i)) ->
   (∀s',Moved (a::wr) G s s'->A6 prog w s'.heap a (k9 [] ns)->R (.ok (.ret .none)) s')->codeAny (model prog w) A (.builtin "set.update.loop" #[[.ref a,.ref I],[]]) R s:=by
 let hw:a∉wr:=λh=>Ku (W.sub _ h);let nD:∀b∈wr,b∈a::wr:=λb hb=>by simp[hb]
 intro k
 induction k with
 |zero =>
  intro i s e st hS hR;obtain rfl:i=n:=by omega
  show cQ jU ?_;show ae (W.done s _ _ st λs' m=>au (hR s' (m.mono nD) (A6.at ?_ λo e=>m.heap a o hw e)))
  simp_all
 |succ k ih =>
  intro i s e st hS hR;let dP:i< -ns:=by omega
  show cQ jU ?_;show ae (W.item i s _ _ () st λv s' hP lO m=>?_);let#[tk,rfl]:=hv i v hP;let kB:=A6.at hS λo e=>m.heap a o hw e;let hl:=Q9 (ns.take i) [];rw[bE] at hl;simp only[List.length_nil] at hl;show ae (bx ?_);show bx (ae ((intKind prog w).pyHash (k:=ns.getD i 0) (gC _ _ _ _) ?_));show Nf (s:={ s' with toks:=s'.toks+1 }) kB () λh' bb sb nZ=>?_;let e2:L5 (k9 [] (ns.take i)) (ns.getD i 0)=k9 [] (ns.take (i+1)):=by
   unfold k9;rw[bg,List.foldl_append,aj dP];simp[List.getD,dP]
  rw[e2] at nZ;show au #[eM PyProof.Rows.F.plain_set_update_loop _,ih (i+1) _ () (W.frame _ s' _ _ lO (eG _) λb hb o e=>by rw[sb.2 b λz=>Ku (z▸hb)];show e) nZ λs2 m2 h2=>?_];show hR s2 (Moved.trans W.gtrans ((m.mono nD).then_heap (eG _) λb o hb e=>by rw[sb.2 b λz=>hb (by rw[z];simp)];show e) m2) h2
noncomputable abbrev K3(w:World):Obj:={ cls:=.type "set",dict:=none,data:=.set (List.toArray []) 0 (.fresh 0 0 (Led w)) }
def QQ(h:Q (.ref s⁻¹) { s with heap:=s.heap.push (K3 w) }):wpAny (model prog w) A (newSet (.type "set")) Q E s:=by
 show ae (yj ?_);show cN h (cj _)
def WZ(x:Value)(h:Q (.ref s⁻¹) { s with heap:=s.heap.push (K3 w) }):codeAny (model prog w) A (.call (.builtin "set.__new__") #[[.type "set",x],[]]) (wants Q E) s:=by
 show vV (?_:wpAny _ A.in1 (do
  checkBuiltinCall "set.__new__" #[[.type "set",x],[]]
  again (.builtin "set.__new__" #[[.type "set",x],[]])) _ _ s)
 show ae (fb (F.newCall_set_1 x) (au #[eM F.plain_set_new _,?_]));show cQ F.entry_set_new ?_;let sub:=sub_set_self;show ae ?_;show ae (fb (by rfl) ?_);show ae (fb sub ?_);show au ?_;show ae (QQ (au h))
def FR{vs}(h:IntsAre vs ns):-vs=-ns:=by
 induction h with
 |nil=>rfl
 |cons n t r ih=>simp[ih]
def yO(h:Heap)(l:Addr)(items:Array Value):Prop:=h.IsList l items\/h.IsTuple l items
def yO.lt(x:yO h l items):l<h.objs.size:=by
 rcases x with⟨_,e,_⟩|⟨_,e,_⟩<;>show az e
def Xx{Q}(hh:A.handled=none)(hS:s.heap.get? a=!K3 w)(hl:yO s.heap l items)(hi:IntsAre items.toList ns)(hb:items.size+1<scanBound)(fE:a≠l)(h:∀h' tk,A6 prog w h' a (k9 [] ns)->(∀b o,b≠a->s.heap.get? b=!o->h'.get? b=!o)->s.toks<=tk->wpAny (model prog w) A (ret .none) Q E { s with heap:=h',toks:=tk }) :
  wpAny (model prog w) A (Builtin.«set.__init__» #[[.ref a,.ref l],[]]) Q E s:=by
 let hT:s.TypeIs (.ref a) "set":=#[_,hS,rfl]
 let dP:=hl.lt;let zX:=aK dP;show ae (fb rfl ?_);let nm:∀{Q':String->Shared->Prop},(∀x,Q' x s)->wpAny (model prog w) A (typeNameOfCut 200 (.ref a)) Q' E s:=λ{Q'} q=>by
  show ae (ae (dt hT ?_));show au (fb (a:="set") ?_ (q _))
  rfl
 show ae (nm λx=>?_);show ae (au ?_);show ae (au ?_);show ae (ae (cM hS rfl rfl (au ?_)));rw[aI (by unfold SetTable.fill;simp[SetTable.fresh])];unfold Builtin.Frozenset.updateFrom Builtin.Frozenset.isAnySet;obtain⟨c,vc,xA,it,hit,Kd,St,W,fI⟩:∃c:String,(c="list"\/c="tuple")/\s.TypeIs (.ref l) c/\∃it:Obj,(∀Q':Value->Shared->Prop,Q' (.ref s⁻¹) { s with heap:=s.heap.push it }->wpAny (model prog w) A (pyIter (.ref l)) Q' E s) /\
   (∀b o,s.heap.get? b=!o->(s.heap.push it).get? b=!o)/\∃St:Nat->Shared->Prop,WalksS prog w A.in1 s⁻¹ [s⁻¹,l] [s⁻¹] (λa b=>b=a) items.size (λi v=>items[i]?=!v) St/\St 0 { s with heap:=s.heap.push it }:=by
  rcases hl with hl|hl
  .let#[o,ho,hc,_]:=id hl;show#["list",.inl rfl,#[o,ho,hc],_,λQ' q=>fW hl q,λb o e=>ai _ e,_,(BZ (A:=A.in1) hh _ l zX items).toS,#[#[_,aD _ rfl,rfl,rfl],hl.push _]]
  .let#[o,ho,hc,_]:=id hl;show#["tuple",.inr rfl,#[o,ho,hc],_,λQ' q=>wpAny_pyIter_tuple hl q,λb o e=>ai _ e,_,(Walks.tuple (A:=A.in1) hh _ l zX items).toS,#[#[_,aD _ rfl,rfl,rfl],hl.push _]]
 show ae (ae (ae (dU (b:=false) xA (by rcases vc with rfl|rfl<;>(rw[fY];kernel_rfl)) ?_)));show dU (b:=false) xA (by rcases vc with rfl|rfl<;>(rw[fY];kernel_rfl)) ?_;rw[aI ∅];show ae (dt xA ?_);rw[aI (by rcases vc with rfl|rfl<;>decide)];show ae (hit _ ?_);show ae (BW ?_);let Um:=az hS;let hsz:items.size=-ns:=by show FR hi
 show YW W (by simp only[List.mem_cons,List.not_mem_nil,or_false,not_or];show#[aK Um,fE]) hsz (λi v hv=>IntsAre.int_at hi i v (by rw[js];show hv)) hb items.size 0 _ ()
  fI (Pq (Kd _ _ hS)) λs' m kB=>?_
 let eS:s'={ s with heap:=s'.heap,toks:=s'.toks }:=by
  let#[iN,g',d',iL,rB]:=s';let m1:g'=s.gens:=m.gens;let m2:d'=s.drawn:=m.drawn;let m3:rB=s.os:=m.os
  simp_all
 rw[eS];show au (h _ _ kB (λb o hb e=>?_) m.toks);show m.heap b o (by simp only[List.mem_cons,List.not_mem_nil,or_false,not_or];show#[hb,aK (az e)]) (Kd _ _ e)
def WV(hh:A.handled=none)(hl:yO s.heap l items)(hi:IntsAre items.toList ns)(hb:items.size+1<scanBound)(h:∀h' tk,A6 prog w h' s⁻¹ (k9 [] ns)->(∀b o,s.heap.get? b=!o->h'.get? b=!o)->s.toks<=tk->Q (.ref s⁻¹) { s with heap:=h',toks:=tk }) :
  wpAny (model prog w) A (call (.type "set") [.ref l]) Q E s:=by
 let cs:=F.called_set;let#[_,_,y1]:=cs.mro;let y2:=cs.made;let y3:=cs.sub;let y6:=F.typeCall_set_1 (.ref l);show wpAny_call (vV (?_:wpAny _ _ (callAny (.type "set") _) _ _ _));show au #[Code.quiet_builtin _ #[],cQ F.entry_type_call ?_];rw[Around.under_plain (weight_type_call_type "set" [.ref l] []) rfl]
 repeat (any_goals (first|assumption|wp_step))
 show ig (WZ (.ref l) (E:=E) (Q:=λv s1=>v=.ref s⁻¹/\s1={ s with heap:=s.heap.push (K3 w) }) #[rfl,rfl]) ?_;rintro(e|fl) s1 hr
 .exact hr
 cases fl with
 |next=>show hr
 |brk=>show hr
 |cont=>show hr
 |ret v =>
 let#[rfl,rfl]:=hr;let hS:(s.heap.push (K3 w)).get? s⁻¹=!K3 w:=aD _ rfl;let hT:Shared.TypeIs { s with heap:=s.heap.push (K3 w) } (.ref s⁻¹) "set":=#[_,hS,rfl]
 let y7:=cs.init.lookup;let y8:=cs.init.bind (.ref s⁻¹)
 repeat (any_goals (first|assumption|wp_step))
 show ig (codeAny_call_builtin (R:=wants (λv s2=>v=.none/\∃h' tk,s2={ s with heap:=h',toks:=tk }/\A6 prog w h' s⁻¹ (k9 [] ns)/\(∀b o,s.heap.get? b=!o->h'.get? b=!o)/\s.toks<=tk) E) cs.init.plain F.entry_set_init (check_set_init_1 hT ?_)) ?_
 .let Kc:yO (s.heap.push (K3 w)) l items:=hl.imp (·.push _) (·.push _);let Tv:=hl.lt;show Xx (by simp[hh]) hS Kc hi hb (bL Tv) λh' tk h1 h2 h3=>au #[rfl,h',tk,rfl,h1,λb o e=>h2 b o (aK (az e)) (ai _ e),h3]
 .rintro(e|fl) s2 hr
  .exact hr
  cases fl with
  |next=>show hr
  |brk=>show hr
  |cont=>show hr
  |ret v =>
  let#[rfl,h',tk,rfl,h1,h2,h3]:=hr
  repeat (any_goals (first|assumption|wp_step))
  show h _ _ h1 h2 h3
end ST
namespace L2
open PySem PySem.Spec PyProof.Rows
abbrev uv(X:Cx)(a:Addr)(ks:@&Int):HO:=.ext λh=>ST.A6 X.prog X.w h a ks
abbrev p9(ns:@&Int):@&Int:=(ST.k9 [] ns).mergeSort (λa b=>decide (a<=b))
def T6:∀{a b:@&Int},a.Perm b->a.Pairwise (·<=·)->b.Pairwise (·<=·)->a=b
 |[],b,h,_,_=>by simp_all
 |x::a,[],h,_,_=>absurd h.length_eq #[_]
 |x::a,y::b,h,h1,h2=>by
  rw[dh] at h1 h2;let e:x=y:=by
   let m1:=h.mem_iff (a:=y);let m2:=h.mem_iff (a:=x);simp only[List.mem_cons,true_or,true_iff,iff_true] at m1 m2;rcases m1 with z|z
   .exact z.symm
   .grind
  subst e;rw[T6 (h.cons_inv) h1.2 h2.2]
def GL(ns:@&Int):(p9 ns).Pairwise (·<=·):=by
 have:=uN (le:=λa b:Int=>decide (a<=b)) (λa b c h1 h2=>by simp at *;omega) (λa b=>by simp;omega) (ST.k9 [] ns);show this.imp λh=>by simpa using h
def U2(ns:@&Int):(p9 ns).Perm (ST.k9 [] ns):=Jf _ _
def Z3(ns:@&Int):(p9 ns).length<=-ns:=by
 rw[(U2 ns).length_eq];have:=ST.Q9 ns []
 simp_all
section
variable{X:Cx}{pi:@&(Addr×Obj)}{σ:St}{H:Hp}{s:Shared}
def Inv.draw(I:Inv X pi σ H s)(d:Drawn):Inv X pi σ H { s with drawn:=d } :=
 I.step (g':=s.gens) (t':=s.toks) (d':=d) (ch:=[]) #[_] (λb o x x x e x=>e) (λb o x x x e x=>#[o.slots,e]) (λb o x x e=>e) (λb o x e=>#[o,e]) (λx x e=>e) (λx x x e=>e) (λb ps e=>#[(List.toArray []),by simp[e]]) (λm hm=>hm) I.bR I.bare
def Oh{h}{a}{ks}(x:ST.A6 X.prog X.w h a ks):q9 X.prog X.w H h a (uv X a ks) :=
 #[x,by let#[o,_,_,_,e,_]:=x;show#[o,e],λh1 h2 y k=>y.at k]
def GN{ns}{vs}(h:IntsAre vs ns):Vals (ns.map V.int) vs:=by
 induction h with
 |nil=>show .nil
 |cons n t r ih=>show .cons #[t,rfl] ih
def Be:∀{ns:@&Int} {vs:@&Value},Vals (ns.map V.int) vs->IntsAre vs ns
 |[],_,h=>by cases h;show .nil
 |n::ns,_,h=>by
  cases h with
  |cons r rr =>
   let#[t,rfl]:=r;show .cons n t (Be rr)
def NR(hc:X.calm=true):u3 X (.type "set") (λxs H Q=>∃a ns,xs=[.ref a]/\fJ X.K H a (ns.map V.int)/\-ns<60/\∀p,H p=none->Q (.ref p) (upd H p (uv X p (ST.k9 [] ns)))):=by
 intro pi s σ H xs us Q I r h;let#[a,ns,rfl,hq,hl,q]:=h;cases r with
 |cons r rr =>
 cases rr;cases r;let#[aZ,rv,p,hz]:=I.list hq;let hI:=Be rv;let hlen:=ST.FR hI;show ST.WV (ns:=ns) (I.ok.hd hc) (.inl p.isList) (_/hI) (by rw[aS,hlen];show aB (Nat.succ_lt_succ hl) ∅) λh' tk hS hk x=>?_;show#[.ref _,_,I.laid (a:=s⁻¹) (t':=tk) hk (av _) (Oh hS),rfl,q _ (I.bR.fresh (av _))]
def NZ(hc:X.calm=true):u3 X (.builtin "sorted") (λxs H Q=>∃a ns,xs=[.ref a]/\H a=!uv X a (ST.k9 [] ns)/\-ns<60/\∀p,H p=none->Q (.ref p) (upd H p (.lst ((p9 ns).map V.int)))):=by
 intro pi s σ H xs us Q I r h;let#[a,ns,rfl,ha,hl,q]:=h;cases r with
 |cons r rr =>
 cases rr;cases r;let hS:ST.A6 X.prog X.w s.heap a (ST.k9 [] ns):=(I.bR a _ ha).1;let hn:=ST.Q9 ns [];simp only[List.length_nil] at hn;show ST.a51 (I.ok.hd hc) hS () λS vs ku e h' d' iL h1 h2 h3 h4 h5 h6 x=>?_;let e1:ku=p9 ns:=T6 (h2.trans (U2 ns).symm) h3 (GL ns);subst e1;let hz:=Z3 ns;show#[.ref S,_,(I.laid (a:=S) (o:=.lst ((p9 ns).map V.int)) (t':=iL) h6 h5 #[by rw[ao];show aC hz (aC (dC hl) ∅),vs,e,GN h1,h4]).draw d',rfl,q S (I.bR.fresh h5)]
end
end L2
namespace ST
open PySem PyProof.Rows
def WU{prog}{w}{A}{E}{s}{a}{ks}{k}{tk}{Q}(hS:A6 prog w s.heap a ks)(hr:-ks+1<scanBound)(h:∀h',Heap.SameBut a s.heap h'->A6 prog w h' a (L5 ks k)->Q .none { s with heap:=h',toks:=s.toks+1 }):wpAny (model prog w) A (call (.builtin "set.add") [.ref a,.int k tk]) Q E s:=by
 let hT:s.TypeIs (.ref a) "set":=let ⟨o,_,_,_,e,x,_⟩:=hS;#[o,e,x.1]
 show cB F.slot_set_add hT F.entry_set_add ?_ (F.args_set_add_2 _ _);let go:∀(Q':Fin->Shared->Prop),(∀h',Heap.SameBut a s.heap h'->A6 prog w h' a (L5 ks k)->wpAny (model prog w) A.in1 (ret .none) Q' E { s with heap:=h',toks:=s.toks+1 })->wpAny (model prog w) A.in1 (do let _ <- setAdd a (.int k tk);ret .none) Q' E s:=λQ' q=>by
  show ae (bx (ae ((intKind prog w).pyHash (gC _ _ _ _) ?_)));show Nf hS hr λh' b sb S2=>q h' sb S2
 unfold Builtin.«set.add» Builtin.Frozenset.oneOther;simp only[List.isEmpty_nil,bind_assoc];show ae (au ?_);show ae (au ?_);show go _ λh' sb S2=>au #[_,rfl,h h' sb S2]
end ST
namespace L2
open PySem PySem.Spec PyProof.Rows
variable{elt iter:Expr}{ifs:@&Expr}{scope:Scope}{pos:Pos}
section
variable{prog:Program}{w:World}{A:Around}{R:Result->Shared->Prop}{s:Shared}
def a45(elt target iter:Expr)(ifs:@&Expr)(scope:Scope)(pos:Pos)(it acc:Value)(env:Env):compTurn (.SetComp elt [#[target,iter,ifs,0]] scope pos) 0 it acc env=(do
      standAt iter.pos
      match <- pyNext it with
      |none=>pure (.done .next)
      |some v =>
        letOwnedTupleGo target it v
        assign target env v
        let mut ok:=true
        for c in ifs do if ok then ok <- isTrue c env (eval c env)
        if ok then(do let x <- eval elt env;standAt elt.pos;let _ <- call (.builtin "set.add") [acc,x])
        again (.compLoop (.SetComp elt [#[target,iter,ifs,0]] scope pos) 0 it acc env)):=by rfl
def aL1{target}{it acc}{env}(I:Nat->Shared->Prop)(turn:∀ n s,I n s->wpAny (model prog w) A (pyNext it) (λr bI=>match r with
   |none=>R (.ok .next) bI
   | some v=>wpAny (model prog w) A (letOwnedTupleGo target it v) (λy bI=>wpAny (model prog w) A (assign target env v) (λ_ fg =>
     wpAny (model prog w) A (forIn ifs true λc r=>if r=true then do let ok <- isTrue c env (eval c env);pure (ForInStep.yield ok) else pure (ForInStep.yield r)) (λok dW =>
      if ok=true then wpAny (model prog w) A (eval elt env) (λx fP =>
       wpAny (model prog w) A (call (.builtin "set.add") [acc,x]) (λy gJ=>∃ m,m < n/\I m gJ) (λy y=>False) fP) (λy y=>False) dW
      else ∃ m,m < n/\I m dW) (λy y=>False) fg) (λy y=>False) bI) (λy y=>False) bI) (λy y=>False) s)(n:Nat)(h:I n s) :
  codeAny (model prog w) A (.compLoop (.SetComp elt [#[target,iter,ifs,0]] scope pos) 0 it acc env) R s:=by
 show codeAny_loop rfl I (λn s hI=>?_) n h;change wpAny _ A ((compTurn (.SetComp elt [#[target,iter,ifs,0]] scope pos) 0 it acc env).onRaise (λx=>do noteFrame x env;theTreesLotGoes x)) _ _ s;show wpAny_noted ?_;rw[a45];show ae (dw (ae (bo (turn n s hI) (λr bI cW=>?_) λy y h'=>h'.elim)));cases r with
 |none=>show au cW
 |some v =>
  show ae (bo cW (λy bI cW=>?_) λy y h'=>h'.elim);show ae (bo cW (λy fg gF=>ae (bo gF (λok dW kS=>?_) λy y h'=>h'.elim)) λy y h'=>h'.elim);cases ok with
  |false=>show wpAny_pure #[rfl,kS]
  |true =>
   show ae (ae (bo kS (λx fP nP=>ae (dw (ae (bo nP (λy gJ nO=>au (au #[rfl,nO])) λy y h'=>h'.elim)))) λy y h'=>h'.elim))
def a55{target}{it acc}{env}(h0:codeAny (model prog w) A (.compLoop (.SetComp elt [#[target,iter,ifs,0]] scope pos) 0 it acc env) R s)(h:wpAny (model prog w) A (pyIter it) (λJP s'=>codeAny (model prog w) A (.compLoop (.SetComp elt [#[target,iter,ifs,0]] scope pos) 0 JP acc env) R s') (notedBy (model prog w) A env λx s'=>R (.error x) s') s) :
  codeAny (model prog w) A (.compStart (.SetComp elt [#[target,iter,ifs,0]] scope pos) 0 it acc env) R s:=by
 show vV (?_:wpAny _ _ ((compStart (.SetComp elt [#[target,iter,ifs,0]] scope pos) 0 it acc env).onRaise (λx=>do noteFrame x env;standAt theWindowsPlace)) _ _ s);show wpAny_notedAt ?_;show ae (sD (wpAny_ite ?_));split
 .first
   |show au #[rfl,h0]
   |show ae (au (au #[rfl,h0]))
 .refine ae (jR ?_);show ae (dw (ae (bo h (λJP s' h'=>au #[rfl,h']) λy y x=>x)))
end
def LO(o:Obj):Prop:=∀v,o.data≠.cell v
def bM5(X:Cx)(wi:TI)(d8:@&Nat)(n:Nat)(g:TG)(tc:TT)(te:TE):TE:=λσ H Q=>wi σ H λJ H1=>∃W:Nat->Nat->@&Int->St->Hp->Prop,(∃m,W 0 m [] (E3 σ d8 n) H1)/\∀i m ys σ H,W i m ys σ H ->
 (J.stop i H/\∀p,H p=none->Q (.ref p) (upd H p (uv X p (ST.k9 [] ys)))) \/
 (J.go i H/\-ys < 60/\∀ x H',J.oH i H x H'->g x σ H' λcE H2=>tc cE H2 λb H3 =>
  if b=true then te cE H3 λy H4=>∃ k,y=.int k/\∃ m',m' < m/\W (i + 1) m' (ys ++ [k]) cE H4 else ∃ m',m' < m/\W (i + 1) m' ys cE H3)
section
variable{X:Cx}{pi:@&(Addr×Obj)}{σ:St}{H:Hp}{s:Shared}
def Inv.Mt{D}{φ}(I:Inv X pi σ H s)(f:M5 X pi H D)(hs:X.dF.heap.objs.size<=D)(ho:q9 X.prog X.w (upd H D (.ext φ)) s.heap D (.ext φ)):Inv X pi σ (upd H D (.ext φ)) s:=by
 let#[f0,f1,f2,f3,f4,f5]:=f;let fE:∀b o,X.dF.heap.get? b=!o->b≠D:=λb o e z=>absurd (az e) (by simp_all);let tup:∀b u,H b=!u->upd H D (.ext φ) b=!u:=λb u e=>by rw[d6 (i9 e f0)];show e
 show#[I.ok,I.os,I.bare,#[?_,?_,?_,I.base.there,?_,?_,?_],I.loc,I.cell,?_,?_,?_,?_,I.len,I.sg]
 .exact λb o e n1 n2 n3=>I.base.keep b o e n1 n2 n3
 .exact λb o e n1 n2 n3=>I.base.slot b o e n1 n2 n3
 .exact λb o e n1 n2=>by rw[d6 (fE b o e)];show I.base.free b o e n1 n2
 .exact λb xs e=>tup _ _ (I.base.jc b xs e)
 .exact λb o u e=>tup _ _ (I.base.iO b o u e)
 .exact λb ps e=>by
   let#[more,q]:=I.base.jd b ps e;show#[more,tup _ _ q]
 .rw[d6 f1.symm];show I.free
 .exact λx c e=>by rw[d6 (f4 x c e)];show I.eX x c e
 .intro p hp;let#[p1,p2,p3]:=I.pin p hp;show#[p1,by rw[d6 (f5 p hp)];show p2,p3]
 .intro a o e;by_cases ha:a=D
  .subst ha;rw[m4] at e
   simp_all
  .rw[d6 ha] at e;let q:=I.bR a o e;show q.K9 (λb u y h=>h) (λb hb=>tup _ _ hb) (λb xs hb=>tup _ _ hb)
def KS(X:Cx)(a:Addr)(ys:@&Int)(h:Heap)(o:Obj):Prop:=-ys<=60/\LO o/\h.get? a=!o/\ST.A6 X.prog X.w h a (ST.k9 [] ys)
def QI{n0}:BU X n0 (KS X) λa ys=>uv X a (ST.k9 [] ys) where
 nc:=λh=>h.2.1
 get:=λh=>h.2.2.1
 K9:=λ⟨h1,h2,h3,h4⟩ e=>#[h1,h2,e,h4.at λo e'=>by rw[h3] at e';cases e';show e]
 done:=λ_ I f hs ⟨_,_,h3,h4⟩=>I.Mt f hs (Oh h4)
def aW9{tg:Expr}{N':@&Str}{d8:@&Nat}{cl:@&(Str×Addr)}{it:Addr}{fp:@&Addr}{tn:Nat->Heap->Prop}{J:It}{g:TG}{tc:TT}{te:TE}{RR:Value->Addr->Result->Shared->Prop}{E:Value->Shared->Prop}{W:Nat->Nat->@&Int->St->Hp->Prop}{m0:Nat}{Q:VK}(S:cF X scope N' d8 cl)(hc:X.calm=true)(hg:∀C s H,PG (f7 X pi scope N' cl C s H fp) tg g)(ht:∀C s H,jP (f7 X pi scope N' cl C s H fp) ifs tc)(he:∀C s H,PE (f7 X pi scope N' cl C s H fp) elt te)(I:Inv X pi σ H s)(T:Turn X.prog X.w X.K tg J fp it tn)(st:tn 0 s.heap)(hf:∀b∈fp,M5 X pi H b)(w0:W 0 m0 [] (E3 σ d8 (-N')) H)(turn:∀ i m ys σ H,W i m ys σ H->(J.stop i H/\∀ p,H p=none->Q (.ref p) (upd H p (uv X p (ST.k9 [] ys)))) \/
   (J.go i H/\-ys < 60/\∀ x H',J.oH i H x H'->g x σ H' λcE H2=>tc cE H2 λb H3 =>
    if b=true then te cE H3 λy H4=>∃ k,y=.int k/\∃ m',m' < m/\W (i + 1) m' (ys ++ [k]) cE H4 else ∃ m',m' < m/\W (i + 1) m' ys cE H3))(tP:∀D C s' H' m,Inv X pi σ H' s'->Q (.ref D) H'->s'.heap.Ns C m->H' C=none->s⁻¹<=C->RR (.ref D) C (.ok .next) s') :
  wpAny (model X.prog X.w) X.A (newSet (.type "set")) (λacc dW=>wpAny (model X.prog X.w) X.A (newFunctionEnv scope X.env.globals cl [] X.env.qual none .none (!X.env)) (λkf fP =>
   codeAny (model X.prog X.w) X.A (.compStart (.SetComp elt [#[tg,iter,ifs,0]] scope pos) 0 (.ref it) acc { kf with scope:=relabel scope X.env }) (RR acc kf.locals) fP) E dW) E s:=by
 show ST.QQ (Hn λcW jw gc qi=>?_);let eC:(s.heap.push (ST.K3 X.w)).objs.size=s⁻¹+1:=dD ..
 replace eC:=eC.symm
 let jM:=gc _ _ (aD _ rfl);generalize (s.heap.push (ST.K3 X.w)).objs.size=C at *;show (λL=>a55 L.2 (T.self _ 0 _ _ _ L.1 L.2)) (Gj (tb:=λys σ H P=>te σ H λy H'=>∃ k,y=.int k/\P (ys ++ [k]) H')
  (body:=λP dW=>wpAny (model X.prog X.w) X.A (eval elt (compEnvC scope (M1 scope cl C) C X.env)) (λx fP=>wpAny (model X.prog X.w) X.A (call (.builtin "set.add") [.ref s⁻¹,x]) (λt gJ=>P gJ) (λt t=>False) fP) (λt t=>False) dW)
  QI S hc (hg C s H) (ht C s H) I T st hf w0 turn (λs' H' m=>tP _ C s' H' m) #[_,jw] gc qi eC #[cj _,(λv (z:Data.set _ _ _=_)=>by cases z),jM,ST.Pq jM] rfl (λys o fF cg H' s' P R' hz k hb I' q hR=>?_) (λI turn n h=>aL1 I turn n h))
 show cG (he C s H _ s' cg H' _ I' q) λxv s8 bu=>?_;let#[y,H8,I8,r8,kk,ey,q8]:=bu;subst ey;let#[tk,rfl]:=r8;let#[_,_,_,S8]:=(QI (n0:=0)).K9 k (hb I8);let CO:=ST.Q9 ys [];simp only[List.length_nil] at CO;show ST.WU S8 (aB (by omega:_<62) ∅) λh' sb S9=>?_;let e9:ST.L5 (ST.k9 [] ys) kk=ST.k9 [] (ys++[kk]):=by unfold ST.k9;rw[List.foldl_append];rfl
 rw[e9] at S9;let#[o9,UZ,U',t9,g9,x9,d9,r9]:=id S9;show hR s8 H8 _ h' (s8.toks+1) o9 I8 q8 (λb' u hb hu=>by rw[sb.2 b' hb];show hu) #[by rw[cq,zu];omega,(λv z=>by rw[d9] at z;cases z),g9,S9]
def XZ{tg}{N'}{d8}{cl}{wi}{g}{tc}{te}(S:cF X scope N' d8 cl)(hc:X.calm=true)(hi:PI X tg iter wi)(hg:∀pi C s H fp,PG (f7 X pi scope N' cl C s H fp) tg g)(ht:∀pi C s H fp,jP (f7 X pi scope N' cl C s H fp) ifs tc)(he:∀pi C s H fp,PE (f7 X pi scope N' cl C s H fp) elt te)(hs:∀x,foldedSetIterable iter X.env x=pure x):PE X (.SetComp elt [#[tg,iter,ifs,0]] scope pos) (bM5 X wi d8 (-N') g tc te):=by
 intro pi s σ H Q I h;show dQ rfl hs S.ot S.kind S.names (cG (hi pi s σ H _ I h) λxv bI cW=>cG cW λtB fg gF=>?_);let#[it,fp,tn,J,H2,e,I2,T,jH,f2,W,#[m0,w0],turn]:=gF;subst e;show aW9 S hc (λC s H=>hg pi C s H fp) (λC s H=>ht pi C s H fp) (λC s H=>he pi C s H fp) I2 T jH f2 w0 turn ?_;intro D C s' H' m I' q hn hC hsz;show#[m,hn,λh' sb=>#[.ref D,H',I'.Iy hsz I2 hC sb,rfl,q]]
end
end L2
namespace HT
open PySem PyProof.Rows Builtin
end HT
namespace L2
open PySem PySem.Spec PyProof.Rows
def bI7(sep:Str)(ys:@&Str):Nat:=ys.foldl (λn y=>n+-y+-sep) 0
end L2
namespace HT
open PySem PyProof.Rows Builtin PySem.SeqAt
section
variable{prog:Program}{w:World}{A:Around}{E:Value->Shared->Prop}{s:Shared}
def ZL:typeLookup (.type "tuple") (dunderI "add")=pure none:=by
 kernel_rfl
def Xv{t b}{vs ws}{Q}(ht:IsTup s.heap t vs.toArray)(hb:IsTup s.heap b ws.toArray)(h0:vs=[]->Q (.ref b) s)(h1:ws=[]->Q (.ref t) s)(h2:Q (.ref s⁻¹) { s with heap:=s.heap.push { cls:=.type "tuple",data:=.seq (vs++ws).toArray } })(hsz:-vs+-ws<=sizeLine):wpAny (model prog w) A (inplaceOp .Add (.ref t) (.ref b)) Q E s:=by
 let#[#[cls,dd,data,sl],ho,hc,n,hd]:=id ht;let#[#[xZ,rW,data2,lP],kA,qj,n2,hd2]:=id hb;subst hc hd qj hd2;let e:vs.toArray++ws.toArray=(vs++ws).toArray:=by simp
 show wpAny_inplaceOp_concat #[_,ho,rfl] #[_,kA,rfl] ZL jF mU ?_;by_cases hv:vs=[]
 .subst hv;show ei sE #[_,ho,rfl] pJ (nz _ _) (tuple_addW0 t b (List.toArray []) ws.toArray n n2 dd rW sl lP rfl) #[ho,kA,h0 rfl]
 by_cases hw:ws=[]
 .exact ei sE #[_,ho,rfl] pJ (nz _ _) (tuple_addW1 t b vs.toArray ws.toArray n n2 dd rW sl lP (_/hv) (by simp[hw])) #[ho,kA,h1 hw]
 .refine ei sE #[_,ho,rfl] pJ (nz _ _) (tuple_addW2 t b vs.toArray ws.toArray n n2 dd rW sl lP (_/hv) (_/hw) ()) #[ho,kA,?_];rw[e];show h2
end
end HT
namespace L2
open PySem PySem.Spec PyProof.Rows
section
variable{X:Cx}
def HU(ys:@&V)(y:V)(n:Nat):Prop:=ys.all O9=true/\O9 y=true/\(∃z,ys[n]?=!z/\lM z y=true)/\∀(m:Nat) z,m<n->ys[m]?=!z->lM z y=false
def Io:∀{xs:@&V} {us:@&Value} {i:Nat} (hi:i< -us),Vals xs us->∃x,xs[i]?=!x/\RelV x us[i]
 |_,_,0,hi,.cons r _=>#[_,rfl,r]
 |_,_,i+1,hi,.cons _ t=>by
  let#[x,h1,h2]:=Io (_/hi) t;show#[x,by simpa using h1,by simpa using h2]
def LR{xs:@&V}(h:xs.all O9=true){i:Nat}{x:V}(e:xs[i]?=!x):O9 x=true:=bG.mp h x (aE e)
def Zk{ys}{y}{n}{aZ}(F:HU ys y n)(r:Vals ys aZ):∃hn:n<aZ.toArray.size,nk y aZ.toArray[n]=true/\∀m (hm:m<aZ.toArray.size),m<n->nk y aZ.toArray[m]=false:=by
 let#[fs,fy,#[z,hz,he],nh]:=F;let hl:=-r;let hn:n< -aZ:=by
  grind
 show#[by simpa using hn,?_,λm hm Tr=>?_]
 .let#[x,hx,rx]:=Io hn r;rw[hz] at hx;cases hx;rw[Cg,BC rx (LR fs hz)];show he
 .let mJ:m< -aZ:=by simpa using hm
  let#[x,hx,rx]:=Io mJ r;rw[Cg,BC rx (LR fs hx)];show nh m x Tr hx
abbrev Oc(K:PySem.W.Frag):V->@&V->Hp->VK->Prop:=λx xs H Q=>∃a ys y n,x=.ref a/\xs=[y]/\fJ K H a ys/\HU ys y n/\n<2 ^ 62/\Q (.int n) H
def ZJ(hu:X.A.units+100<cLine):mj X "list.index" (Oc X.K):=by
 intro pi s σ H x xs v us Q I rx r h;let#[a,ys,y,n,rfl,rfl,hq,W,qd,q]:=h;cases rx;cases r with
 |cons ry rr =>
 cases rr;let#[aZ,rv,p,hz]:=I.list hq;let pt:=p.isList.typeIs;let#[#[cls,dd,data,sl],k,ho,hc,Km,hd]:=id p;simp only at hc Km hd;subst hc Km hd;let#[hn,hit,nh]:=Zk W rv;show ei F.slot_list_index pt F.entry_list_index (F.args_list_index_2 _ _) (SeqAt.list_indexAt a aZ.toArray k none sl _ (nk y) n hn () hit nh) #[ho,λw hw=>AN ry W.2.1 rv W.1 w (_/hw),#[.int n,H,I.tok _,#[_,rfl],q]]
abbrev Fv(K:PySem.W.Frag)(H:Hp)(a:Addr)(xs:@&V):Prop :=
 H a=!.tup xs\/∃(o:Obj) (aZ:Array Value) (n:Nat),K.lookup a=!o/\o.cls=.type "tuple"/\o.dict=none/\o.data=.seq aZ n/\aZ.size<=sizeLine/\Vals xs aZ.toList
def Fv.sq{K}{H}{a}{xs}(h:Fv K H a xs):iR K H a xs:=by
 rcases h with h|⟨o,aZ,n,h1,h2,_,h3,h4,h5⟩
 .exact .inl (.inl h)
 .exact .inr #[o,aZ,n,h1,h2,h3,h4,h5]
def bM8(K:PySem.W.Frag)(to:TE)(t:TA):TE:=λσ H Q=>to σ H λx H1=>∃a xs,x=.ref a/\fJ K H1 a xs/\t σ H1 λys H2=>Oc K x ys H2 Q
def XW{o e}{es}{to}{t}{apos eY}(hu:X.A.units+100<cLine)(ho:PE X o to)(ha:PA X (e::es) t)(fS:attributeBase o "index" X.env (eval o X.env)=eval o X.env)(lH:((backTo eY (starEach (e :: es) X.env)).all (λx=>~~~x.1) && (backToKw eY (keywordEach [] X.env)).all (λx=>x.1.isSome)
   && decide ((e :: es).length + ([]:@&Keyword).length + (if ([]:@&Keyword).isEmpty then 0 else 1) < 30))=true)(fR:(apos.endLine==eY.line)=true)(hs:starEach (e::es) X.env=(false,eval e X.env)::starEach es X.env)(fq:(backTo eY (starEach es X.env)).any (·.1)=false) :
  PE X (.Call (.Attribute o "index" apos) (e::es) [] eY) (bM8 X.K to t):=by
 intro pi s σ H Q I h;show wpAny_Call_method_late fS lH fR rfl (cG (ho pi s σ H _ I h) λv s1 bu=>?_);let#[x,H1,I1,r1,q1]:=bu;let#[a,xs,rfl,hq,q1]:=q1
 .cases r1;let#[aZ,rv,pl,hz]:=I1.list hq;let pt:=pl.isList.typeIs;let#[ob,k,e1,_,e2,_]:=id pl;show#["list","list.index",F.plainAttrs_list,F.slot_list_index,F.type_list_index,pt,λb q=>by cases q;show#[ob,e1,e2],?_];let hA:=ha eY pi s1 σ H1 _ I1 q1;rw[hs] at hA ⊢;show jV (by show(false||(backTo eY (starEach es X.env)).any (·.1))=false;rw[fq]<;>rfl) (lC ?_);show cG hA (by rintro us s2 ⟨vs,H2,I2,r2,q2⟩;show ZJ hu pi s2 σ H2 (.ref a) vs (.ref a) us Q I2 rfl r2 q2)
abbrev b24(K:PySem.W.Frag):V->V->Hp->VK->Prop:=λx y H Q=>(∃i j,x=.int i/\y=.int j/\Q (.int (i+j)) H) \/
 ∃a b xs ys,x=.ref a/\y=.ref b/\iR K H a xs/\iR K H b ys/\-xs+-ys<=sizeLine/\(xs=[]->Q (.ref b) H)/\(ys=[]->Q (.ref a) H)/\(∀p,H p=none->Q (.ref p) (upd H p (.tup (xs++ys))))
def QK:Fp X .Add (b24 X.K):=by
 rintro pi s σ H x y u v Q I rx ry h;rcases h with h|⟨a,b,xs,ys,rfl,rfl,ha,hb,hz,q0,q1,q2⟩
 .exact bX0 pi s σ H x y u v Q I rx ry h
 .cases rx;cases ry;let#[aZ,r1,p1,_]:=I.tuple ha;let#[mG,r2,p2,_]:=I.tuple hb;show HT.Xv p1 p2 (λz=>#[.ref b,H,I,rfl,q0 (r1.yB.mp z)]) (λz=>#[.ref a,H,I,rfl,q1 (r2.yB.mp z)]) ?_ (by rw[<- -r1,<- -r2];show hz);show#[.ref s⁻¹,_,I.laid (t':=s.toks) (λb ob q=>ai _ q) (av _) ?_,rfl,q2 _ (I.bR.fresh (av _))];show#[by rw[cq];show hz,_,r1.append r2,V4.new _ _]
end
end L2
namespace ST
open PySem PyProof.Rows
def Spot(k:Int):Prop:=0<=k/\k<8
structure Own(mask:Nat)(owner:Array (Option Nat))(pre:@&Int):Prop where
 sz:owner.size=mask+1
 fwd:∀(i:Nat) (k:Int),pre[i]?=!k->owner[k.toNat]?=!!i
 bwd:∀(j i:Nat),owner[j]?=!!i->pre[i]?=!(j:Int)
section
variable{prog:Program}{w:World}{a:Addr}
abbrev Vi(prog:Program)(w:World)(h:Heap)(a:Addr)(ks:@&Int):Prop :=
 ∃o es ep t,h.get? a=!o/\o.ExactSet/\o.data=.set es ep t/\ElemsOf (intKind prog w) es.toList/\(es.toList.map λe=>toI e.2).Perm ks/\ks.Nodup/\es.size<scanBound/\t.fits es.size=true/\Well (Led w) t/\(ks=[]->7<=t.mask)
def A6.toV{h}{ks}(x:A6 prog w h a ks)(hn:ks≠[]):Vi prog w h a ks:=by
 let#[o,es,ep,t,h1,h2,h3,h4,h5,h6,h7,h8,h9]:=x;show#[o,es,ep,t,h1,h2,h3,h4,h5,h6,h7,h8,h9,λz=>absurd z hn]
def A6.same{h}{ks us}(x:A6 prog w h a ks)(hp:ks.Perm us):A6 prog w h a us:=by
 let#[o,es,ep,t,h1,h2,h3,h4,h5,h6,h7]:=x;show#[o,es,ep,t,h1,h2,h3,h4,h5.trans hp,hp.nodup_iff.mp h6,h7]
def above:∀n,n<300->7<SetTable.sizeAbove n/\n<SetTable.sizeAbove n/\SetTable.sizeAbove n<=sizeLine:=by decide +kernel
end
end ST
namespace L2
open PySem PySem.Spec PyProof.Rows
variable{X:Cx}
end L2
namespace ST
open PySem PyProof.Rows
def aL5:typeLookup (.type "dict") "__len__"=pure (!(.builtin "dict.__len__")):=by rfl
section
variable{prog:Program}{w:World}{A:Around}{E:Value->Shared->Prop}{s:Shared}{a:Addr}{ep:Nat}{K:Type}[DecidableEq K]{knd:PySem.KeyKind prog w K}{kvs:@&(K×Value)}
def aU6(hh:A.handled=none)(hd:(a==sysModules)=false)(hm:s.heap.DictAt knd a kvs ep)(hz:-kvs<=10000){Q}(h:∀(vs:@&Value) h' iL,(-vs)=-kvs->(∀(i:Nat) v,vs[i]?=!v->∃k x,kvs[i]?=!(k,x)/\knd.is k v=true)->(∀c o,s.heap.get? c=!o->h'.get? c=!o)->s⁻¹<=h'.objs.size->s.toks<=iL->Q vs { s with heap:=h',toks:=iL }) :
  wpAny (model prog w) A (collect (.ref a)) Q E s:=by
 let dP:=hm.lt_size;show ae (BW (cQ F.entry_proto_collect ?_));show ae (cN ?_);show au #[eM F.plain_list_iadd _,cQ F.entry_list_iadd ?_];let oW:=hm.push { cls:=.type "list",data:=.seq ([]:@&Value).toArray };let DO:(s.heap.push { cls:=.type "list",data:=.seq ([]:@&Value).toArray }).get? s⁻¹=some { cls:=.type "list",data:=.seq ([]:@&Value).toArray }:=aD _ rfl;let fE:=bL dP;let h1:Builtin.List.listSameRef (.ref s⁻¹) (.ref a)=false:=by simp[Builtin.List.listSameRef,fE]
 change wpAny _ A.in1 (Builtin.List.listExtendWith (.ref s⁻¹) (.ref a) (.ref s⁻¹)) _ _ _;show ae (dt oW.dictOf.typeIs ?_);rw[aI (by rw[h1];decide)];show ae (wpAny_pyIter_dict hd oW ?_);let lS:s⁻¹<(s.heap.push { cls:=.type "list",data:=.seq ([]:@&Value).toArray }).objs.size:=by simp
 let Uu:((s.heap.push { cls:=.type "list",data:=.seq ([]:@&Value).toArray }).push { cls:=.type "dict_keyiterator",data:=.fields (List.toArray [.ref a,.int 0 0,.int (-kvs) 0,.int ep 0]) }).IsKeyIter (s.heap.push { cls:=.type "list",data:=.seq ([]:@&Value).toArray }).objs.size a 0 (-kvs) ep:=#[_,aD _ rfl,rfl,rfl]
 let qk:=oW.push { cls:=.type "dict_keyiterator",data:=.fields (List.toArray [.ref a,.int 0 0,.int (-kvs) 0,.int ep 0]) };let he:∀c o,(s.heap.push { cls:=.type "list",data:=.seq ([]:@&Value).toArray }).get? c=!o->((s.heap.push { cls:=.type "list",data:=.seq ([]:@&Value).toArray }).push { cls:=.type "dict_keyiterator",data:=.fields (List.toArray [.ref a,.int 0 0,.int (-kvs) 0,.int ep 0]) }).get? c=!o:=λc o e=>ai _ e;let nZ:=he _ _ DO;generalize ((s.heap.push { cls:=.type "list",data:=.seq ([]:@&Value).toArray }).push { cls:=.type "dict_keyiterator",data:=.fields (List.toArray [.ref a,.int 0 0,.int (-kvs) 0,.int ep 0]) })=h2 at *;generalize hI':(s.heap.push { cls:=.type "list",data:=.seq ([]:@&Value).toArray }).objs.size=I at *;show ae (bx ?_);show ae (wpAny_specialOf (s:={ s with heap:=h2 }) qk.dictOf.typeIs aL5 ?_);generalize xl:("dict.__len__":String)=CT;dsimp only;rw[show splitId CT=some ("dict","__len__") from by subst xl;decide +kernel];show ae (dU qk.dictOf.typeIs (by rfl) ?_);rw[aI ∅];subst xl;rw[aM #[]];show ae (dt qk.dictOf.typeIs ?_);show au ?_;rw[aM #[]];show ae (jR ?_);show ae ?_;show ae (kl nZ rfl ?_);let xB:=bf (Obj.mapSeq (·.push Value.none)) nZ rfl;show kl (s:={ s with heap:=_ }) xB rfl ?_;let DN:=bf (Obj.mapSeq (·.pop)) xB rfl;let wx:∀c o,c≠s⁻¹->h2.get? c=!o->((h2.update s⁻¹ (Obj.mapSeq (·.push Value.none))).update s⁻¹ (Obj.mapSeq (·.pop))).get? c=!o :=
  λc o hc e=>(cC _ _ (aX hc)).trans ((cC _ _ (aX hc)).trans e)
 let Ur:=bL lS;let Uo:=aK (cH dP lS);let W:=(Walks.dictKeys (A:=A.in1) (knd:=knd) hh I a Uo kvs ep).toS;let st:h2.IsKeyIter I a 0 (-kvs) ep/\h2.DictAt knd a kvs ep:=#[Uu,qk]
 let jH:=W.frame 0 ({ s with heap:=h2 }:Shared) _ s.toks st (av _) λc hc o e=>wx c o (λz=>by simp at hc;rcases hc with y|y<;>simp_all) e;show au #[eM F.plain_extend_loop _,codeAny_extend_loopS W (aC hz ∅) _ (λz=>by simp at z;rcases z with y|y<;>simp_all) _ (-kvs) 0 _ _ _ rfl (cj _) jH DN (ItemsOf.nil _) λs' uI c' hm kB jM=>?_];show ae (BX kB ?_);show au ?_;let eS:s'={ s with heap:=s'.heap,toks:=s'.toks }:=by
  let#[iN,g',d',iL,rB]:=s';let m1:g'=s.gens:=hm.gens;let m2:d'=s.drawn:=hm.drawn;let m3:rB=s.os:=hm.os
  grind
 rw[eS];show h _ _ s'.toks (_/jM.1) (λi v hv=>jM.2 i v (_/hv)) (λc o e=>?_) (dC (az kB)) hm.toks;let hc:=az e;let n1:=aK hc;let n2:=aK (cH hc lS);show hm.heap c o (by simp[n1,n2]) (wx c o n1 (he c o (ai _ e)))
def bI5{i}{v}(h:(L2.k6 prog w).is (.inl i) v=true):∃t,v=.int i t:=by
 rw[L2.Qq] at h;rcases L2.v7 h with⟨j,t,e1,e2⟩|⟨x,t,e1,_⟩
 .cases e1;show#[t,e2]
 .cases e1
def aW7{kvs}{ns:@&Int}(hh:A.handled=none)(hd:(a==sysModules)=false)(hm:s.heap.DictAt (L2.k6 prog w) a kvs ep)(hk:kvs.map (·.1)=ns.map Sum.inl)(KA:-ns<64){Q:Value->Shared->Prop}(h:∀(S:Addr) (vs:@&Value) (ku:@&Int) e h' iL,IntsAre vs ku->ku.Perm ns->ku.Pairwise (·<=·)->h'.get? S=!(seqObj "list" vs.toArray e)->s⁻¹<=S->(∀c o,s.heap.get? c=!o->h'.get? c=!o)->s.toks<=iL->Q (.ref S) { s with heap:=h',toks:=iL }) :
  wpAny (model prog w) A (call (.builtin "sorted") [.ref a]) Q E s:=by
 let hl:-kvs=-ns:=by simpa using dJ List.length hk
 show jb kind_sorted plain_sorted entry_sorted (args_sorted1 _) ?_;show ae (au ?_);show ae (aU6 (A:=A.in1) hh hd hm () λvs h1 sN JS hv he lS tG=>?_);let hI:IntsAre vs ns:=by
  let all:∀(i:Nat) v,vs[i]?=!v->∃n tk,ns[i]?=!n/\v=.int n tk:=λi v e=>by
   let#[k,x,h1,h2]:=hv i v e;let h3:(kvs.map (·.1))[i]?=!k:=by rw[ag,h1];rfl
   rw[hk,ag,aa] at h3;let#[n,h4,rfl]:=h3;let#[tk,e]:=bI5 h2;show#[n,tk,h4,e]
  let xc:=JS.trans hl;clear hv JS hl hk h
  induction vs generalizing ns with
  |nil =>
   cases ns with
   |nil=>show .nil
   |cons=>simp at xc
  |cons v r ih =>
   cases ns with
   |nil=>simp at xc
   |cons n ns =>
    let#[n',tk,e1,e2]:=all 0 v rfl;cases e1;rw[e2];show .cons n tk (ih (by grind) (λi v e=>all (i+1) v e) (_/xc))
 let qe:-vs<64:=by omega
 show ae (Ru ?_);let mI:(h1.push (seqObj "list" vs.toArray 0)).get? h1.objs.size=!(seqObj "list" vs.toArray 0):=aD _ rfl;show ae (bx (cB (s:={ s with heap:=h1.push (seqObj "list" vs.toArray 0),toks:=sN }) slot_list_sort #[_,mI,rfl] entry_list_sort (list_sort_tree mI hI qe λout ku a1 a2 a3=>#[_,rfl,?_]) (args_list_sort _)));let#[e,qg]:=sortedHeap_at mI;show au #[_,rfl,h h1.objs.size out.toList ku e _ sN a1 a2 a3 qg lS (λc o' e'=>?_) tG];let hc:=az (he c o' e');rw[sortedHeap_old (aK hc) (by rw[size_push'];show gY hc)];show ai _ (he c o' e')
end
end ST
namespace L2
open PySem PySem.Spec PyProof.Rows
variable{X:Cx}
def GY:∀{ns ks:@&Int},(ks++ns).Nodup->ST.k9 ks ns=ks++ns
 |[],ks,_=>by simp[ST.k9]
 |n::r,ks,h=>by
  let hn:n∉ks:=λz=>by
   have:=(cV.mp h).2.2 n z n #[_];show this rfl
  let e:ST.L5 ks n=ks++[n]:=by
   unfold ST.L5;rw[aI (_/hn)]
  change ST.k9 (ST.L5 ks n) r=_;rw[e,GY (by simp_all),hV]
  rfl
def ay1(hc:X.calm=true):u3 X (.builtin "sorted") (λxs H Q=>∃a kvs ns,xs=[.ref a]/\H a=!.dK kvs/\kvs.map (·.1)=ns.map Sum.inl/\-ns<60/\∀p,H p=none->Q (.ref p) (upd H p (.lst ((p9 ns).map V.int)))):=by
 intro pi s σ H xs us Q I r h;let#[a,kvs,ns,rfl,ha,hk,hl,q]:=h;cases r with
 |cons r rr =>
 cases rr;cases r;let#[_,hd,vs,kv,hD]:=vn I.bR ha;let#[ep,hA]:=hD.dictAt;let Ke:=kv.keys.symm.trans hk;let Tj:ns.Nodup:=by
  let#[_,_,_,_,_,_,_,_,nd]:=id hD;rw[Ke] at nd;show(cU.mp nd).imp λh e=>h (dJ _ e)
 show ST.aW7 (I.ok.hd hc) hd hA Ke () λS us ku e h' iL h1 h2 h3 h4 h5 h6 x=>?_;let e1:=T6 (h2.trans ((U2 ns).trans (by rw[GY (ks:=[]) Tj];show .refl _)).symm) h3 (GL ns);subst e1;let hz:=Z3 ns;show#[.ref S,_,(I.laid (o:=.lst ((p9 ns).map V.int)) (t':=iL) h6 h5 #[by rw[ao];show aC hz (aC (dC hl) ∅),us,e,GN h1,h4]),rfl,q S (I.bR.fresh h5)]
def aX5{aZ}{ns}(hi:IntsAre aZ ns):∃xs,aZ.toArray=intItems xs/\ns=xs.toList.map (·.1):=by
 let#[xs,e]:=hi.allInts.items;show#[xs,e,by rw[<- hi.numsOf,<- nums_intItems,<- e]]
def Zd(hc:X.calm=true):u3 X (.builtin "sum") (λxs H Q=>∃a,∃ns:@&Int,xs=[.ref a]/\fJ X.K H a (ns.map V.int)/\Q (.int ns.sum) H):=by
 intro pi s σ H xs us Q I r h;let#[a,ns,rfl,ha,q]:=h;let#[u,rfl,ru]:=vals1 r;cases ru;let#[aZ,rv,p,hz]:=I.list ha;let#[xs,e,en]:=aX5 (Be rv);show sum_intListG (xs:=xs) (I.ok.hd hc) (by rw[<- e];show p.isList) λh' tk t' k=>#[.int ns.sum,H,I.kept k,#[t',?_],q]
 rw[preSum_eq,vX #[_],en]
def Zb(hc:X.calm=true):u3 X (.builtin "all") (λxs H Q=>∃(a:Addr) (ns:@&Int),xs=[.ref a]/\fJ X.K H a (ns.map V.int)/\Q (.bl (ns.all λn=>n != 0)) H):=by
 intro pi s σ H xs us Q I r h;let#[a,ns,rfl,ha,q]:=h;let#[u,rfl,ru]:=vals1 r;cases ru;let#[aZ,rv,p,hz]:=I.list ha;show call_all_walk ?_;show fW p.isList ?_;let fE:a≠s⁻¹:=by
  let#[o,e,_]:=id p.isList;show aK (az e)
 let hl:=-rv;rw[ao] at hl;show#[s⁻¹,_,_,_,_,_,λi=>ns.getD i 1 != 0,rfl,BZ (A:=X.A.in1) (I.ok.hd hc) _ a fE aZ.toArray,#[#[_,aD _ rfl,rfl,rfl],?_],?_,λh' tk k=>?_]
 .let#[o,e,q1]:=id p.isList;show#[o,ai _ e,q1]
 .intro i v s' Q' E' hP hQ;let hv:aZ[i]?=!v:=by simpa using hP
  let hi:i< -ns:=by rw[hl];show(ak.mp hv).1
  let#[u',wR,Cz]:=rv.get (i:=i) (x:=V.int ns[i]) (by rw[ag,aj hi];rfl);rw[hv] at wR;cases wR;let#[t,rfl]:=Cz;show truthy_int ?_;have:ns.getD i 1=ns[i]:=by simp[List.getD,hi]
  dsimp only at hQ;rw[this] at hQ;show hQ
 .let e1:(List.range aZ.toArray.size).all (λi=>ns.getD i 1 != 0)=ns.all λn=>n != 0:=by
   rw[aS,<- hl];rw[bp];simp only[List.all_eq_true,List.mem_range];constructor
   .intro hh x hx;let#[i,hi,rfl]:=cS.mp hx;have:=hh i hi;simpa[List.getD,hi] using this
   .intro hh i hi;have:=hh ns[i] (eO hi);simpa[List.getD,hi] using this
  rw[e1];show #[.bl _,H,I.kept (t':=tk) λb o e=>k b o (by
   intro hb;have:b=s⁻¹:=by simpa using hb
   show absurd (az e) (by rw [this];show bS _)) (ai _ e),rfl,q]
def aM0:u3 X (.builtin "len") (λxs H Q=>∃a,∃ks:@&Int,xs=[.ref a]/\H a=!uv X a ks/\Q (.int (-ks)) H):=by
 intro pi s σ H xs us Q I r h;let#[a,ks,rfl,ha,q]:=h;let#[u,rfl,ru]:=vals1 r;cases ru;let hS:ST.A6 X.prog X.w s.heap a ks:=(I.bR a _ ha).1;let#[o,es,ep,t,e,ex,ed,_,hp,nd,hz,hf,_]:=hS;let hl:es.size=-ks:=by have:=hp.length_eq;simpa using this
 show call_len_set e ex ed hf (by have:scanBound<2 ^ 62:=∅;omega) #[.int (-ks),H,I.tok _,#[_,by rw[hl]],q]
def bG0{i}{j}{p pos}(nY:PySem.W.kdsCode X.K X.env.code=true):PE X (.Set [.Constant (.int i) j p] 0 pos) (λσ H Q=>∀q,H q=none->Q (.ref q) (upd H q (.set (λk=>decide (k=i)) 1))):=by
 intro pi s σ H Q I h;show ae (dw ?_);show ae (PySem.W.kds_main I.gN nY λb=>?_);show PySem.W.kds_core (ts:=(evalEach [Expr.Constant (.int i) j p] X.env).map λt=>do let v <- t;standAt pos;pure v) (by rfl) (by rfl) (by change 1<=30;decide) (by rfl) λled=>?_;show PySem.W.kds_all pos _ _ _ ?_;show wpAny_Constant_int ?_;show PySem.W.kds_fill_cons ?_;let Us:(s.heap.push { cls:=.type "set",dict:=none,data:=.set (List.toArray []) 0 (.fresh 0 0 led) }).SetOf (intKind X.prog X.w) s⁻¹ (λx=>false) 0:=(setObjOf_fresh led).setOf (aD _ rfl) ∅;show bx (ae ((intKind X.prog X.w).pyHash (gC _ _ _ _) ?_));show wpAny_setAddHashed_of (gC _ _ _ _) rfl Us ∅ λh' uW kB=>?_;show PySem.W.kds_fill_nil (by rfl) ?_;let kp:∀b u,s.heap.get? b=!u->h'.get? b=!u:=λb u e=>(uW.2 b (aK (az e))).trans (ai _ e);show#[.ref s⁻¹,_,I.laid kp (av _) (by change Heap.SetOf _ _ _ _ _;simpa using kB),rfl,h _ (I.bR.fresh (av _))]
def ZN:gj X (compareOp .In) (λx y H Q=>∃i a S n,x=.int i/\y=.ref a/\H a=!.set S n/\Q (.bl (S i)) H):=by
 intro pi s σ H x y v u Q I rx ry h;let#[i,a,S,n,rfl,rfl,ha,q]:=h;let#[t,rfl]:=rx;cases ry;show wpAny_inSet_of (gC _ _ _ _) rfl (I.bR a _ ha) #[.bl (S i),H,I.tok _,rfl,q]
def aR9:gj X (compareOp .NotIn) (λx y H Q=>∃i a S n,x=.int i/\y=.ref a/\H a=!.set S n/\Q (.bl (~~~S i)) H):=by
 intro pi s σ H x y v u Q I rx ry h;let#[i,a,S,n,rfl,rfl,ha,q]:=h;let#[t,rfl]:=rx;cases ry;show wpAny_notInSet_of (gC _ _ _ _) rfl (I.bR a _ ha) #[.bl (~~~S i),H,I.tok _,rfl,q]
def a65:mj X "set.add" (λx xs H Q=>∃a i S n,x=.ref a/\xs=[.int i]/\H a=!.set S n/\n+1<4096/\Q .bq (upd H a (.set (λk=>S k||decide (k=i)) (if S i then n else n+1)))):=by
 intro pi s σ H x vs v us Q I rx rv h;let#[a,i,S,n,rfl,rfl,ha,hn,q]:=h;cases rx;let#[u,rfl,t,rfl]:=rv.one;show call_set_add (gC _ _ _ _) rfl (I.bR a _ ha) (show n+1<scanBound from hn) λh' uW kB=>?_;let#[o,es,ep,tb,ho,_]:=id kB;show#[.bq,_,I.write (o:=.set (λk=>S k||decide (k=i)) (if S i then n else n+1)) (by rw[ha];trivial) (.inl rfl) (λb u hb e=>(uW.2 b hb).trans e) #[o,ho] kB,rfl,q]
abbrev IT(K:PySem.W.Frag)(a:Addr)(n:Nat):It :=
 #[λi H=>∃xs x,fJ K H a xs/\-xs=n/\i<n/\xs[n-1-i]?=!x,λi H x H'=>H'=H/\∀xs,fJ K H a xs->xs[n-1-i]?=!x,λi H=>n<=i]
def YR{P}{w}{K}{tg}(a it:Addr)(n:Nat):Turn P w K tg (IT K a n) [it] it (λi h=>i<=n/\h.IsRevIter it a ((n:Int)-1-(i:Nat))) where
 mem:=by simp
 obj:=λi h st b hb=>by
  let e:b=it:=by simpa using hb
  subst e;let#[o,e,c,d]:=st.2;show#[o,e,λv z=>by simp_all]
 keep:=λi h h' st k=>#[st.1,st.2.at λo e=>k it #[_] o e]
 item:=by
  intro X hP hw hK hc i pi s σ H E I hf st hg;subst hP hw hK;let#[xs,x,hq,hn,hi,hx]:=hg;let#[aZ,rv,p,hz]:=I.list hq;let#[u,hu,ru]:=rv.get hx;let#[f0,f1,f2,f3,f4,f5]:=hf it #[_];let jH:=st.2;rw[show(n:Int)-1-(i:Nat)=((n-1-i:Nat):Int) by omega] at jH;show wpAny_pyNext_rev_item jH p.isList (_/hu) λh' lO sb=>?_;let I1:=I.turned (t':=s.toks) (λb o hb e=>(sb.2 b hb).trans e) f0 f1 f3 f4 f5;let#[o,e,c,d]:=id lO;show#[u,rfl,Bp e c d ∅ #[x,H,I1,ru,#[rfl,λys hy=>by rw[I.FV hy hq];show hx],#[by omega,?_],λb hb=>(hf b hb).1]]
  grind
 done:=by
  intro X hP hw hK hc i pi s σ H E I hf st hg;let#[f0,f1,f2,f3,f4,f5]:=hf it #[_];let jH:=st.2;have:n<=i:=hg;rw[show(n:Int)-1-(i:Nat)=-1 by omega] at jH;show wpAny_pyNext_rev_end (I.ok.hd hc) jH λh' eb=>#[rfl,I.turned (t':=s.toks) (λb o hb e=>eb b o hb e) f0 f1 f3 f4 f5]
 self:=λy y y y y st h=>wpAny_pyIter_revIter st.2 h
def boot_reversed:bootBuiltins "reversed"=!(.type "reversed"):=by decide +kernel
def bR6{tg l}{ta}{p pos}(hg:Gl X "reversed")(hm:X.mg "reversed"=none)(ha:PA X [l] ta)(hs:starEach [l] X.env=[(false,eval l X.env)]) :
  PI X tg (.Call (.Name "reversed" p) [l] [] pos) (λσ H R=>ta σ H λvs H1=>∃a xs,vs=[.ref a]/\fJ X.K H1 a xs/\R (IT X.K a (-xs)) H1):=by
 intro pi s σ H R I h;show Call_ (V1 I hg hm boot_reversed (bU (cG (ha pos pi s σ H _ I h) λus s1 bu=>?_) hs rfl));let#[vs,H1,I1,r1,q1]:=bu;let#[a,xs,e,hq,q]:=q1;subst e;cases r1 with
 |cons r rr =>
  cases rr;cases r;let#[aZ,rv,p,hz]:=I1.list hq;show call_reversed_list p.isList ?_;let hl:=-rv;let hit:(s1.heap.push (revObj a ((aZ.toArray.size:Int)-1))).IsRevIter s1⁻¹ a ((-xs:Int)-1-((0:Nat):Int)):=#[_,aD _ rfl,rfl,by simp[revObj,hl]]
  show wpAny_pyIter_revIter hit ?_;show#[s1⁻¹,[s1⁻¹],_,_,H1,rfl,I1.kept (t':=s1.toks) λb o e=>ai _ e,YR a _ (-xs),#[cj _,hit],λb hb=>?_,q];let e:b=s1⁻¹:=by simpa using hb
  subst e;show I1.pq (av _) (I1.bR.fresh (av _))
end L2
namespace ST
open PySem PyProof.Rows
section
variable{prog:Program}{w:World}{A:Around}{E:Value->Shared->Prop}{s:Shared}{a:Addr}
def a52{T}{o}{items}{n}{ns}(hT:T="list"\/T="tuple")(ho:s.heap.get? a=!o)(hc:o.cls=.type T)(hd:o.data=.seq items n)(hI:IntsAre items.toList ns)(KA:-ns<60){Q}(h:∀(h1:Heap) (vs:@&Value) (ku:@&Int) e h',(∀b o',s.heap.get? b=!o'->h1.get? b=!o')->IntsAre vs ku->ku.Perm ns->ku.Pairwise (·<=·)->h'.get? h1.objs.size=!(seqObj "list" vs.toArray e)->(∀c o,h1.get? c=!o->h'.get? c=!o)->Q (.ref h1.objs.size) { s with heap:=h' }) :
  wpAny (model prog w) A (call (.builtin "sorted") [.ref a]) Q E s:=by
 let hl:-items.toList=-ns:=FR hI;show jb kind_sorted plain_sorted entry_sorted (args_sorted1 _) ?_;unfold Builtin.«sorted»;show ae (m:=checkCount "sorted" 1 1 _) (au ?_);show ae (wpAny_collect_seq (A:=A.in1) a hT ho hc hd (λh1 kp=>?_) (by simp at hl;unfold sizeLine;omega));let qe:-items.toList<64:=by omega
 generalize items.toList=vs at *;show ae (Ru (s:={ s with heap:=h1 }) ?_);let mI:(h1.push (seqObj "list" vs.toArray 0)).get? h1.objs.size=!(seqObj "list" vs.toArray 0):=aD _ rfl;show ae (bx (cB (s:={ s with heap:=h1.push (seqObj "list" vs.toArray 0) }) slot_list_sort #[_,mI,rfl] entry_list_sort (list_sort_tree mI hI qe λout ku a1 a2 a3=>#[_,rfl,?_]) (args_list_sort _)));let#[e,qg]:=sortedHeap_at (vs:=vs) (out:=out) mI;show au #[_,rfl,h h1 out.toList ku e _ kp a1 a2 a3 qg (λc o' e'=>?_)];let hc:=az e';rw[sortedHeap_old (aK hc) (by rw[size_push'];show gY hc)];show ai _ e'
end
end ST
namespace L2
open PySem PyProof.Rows
abbrev qT(ns:@&Int):@&Int:=ns.mergeSort (λa b=>decide (a<=b))
def Nw(ns:@&Int):(qT ns).Pairwise (·<=·):=by
 have:=uN (le:=λa b:Int=>decide (a<=b)) (λa b c h1 h2=>by simp at *;omega) (λa b=>by simp;omega) ns;show this.imp λh=>by simpa using h
def GK(ns:@&Int):(qT ns).Perm ns:=Jf _ _
section
variable{X:Cx}
def aG6:u3 X (.builtin "sorted") (λxs H Q=>∃p,∃ns:@&Int,xs=[.ref p]/\(fJ X.K H p (ns.map V.int)\/iR X.K H p (ns.map V.int))/\-ns<60/\∀l,H l=none->Q (.ref l) (upd H l (.lst ((qT ns).map V.int)))):=by
 intro pi s σ H xs us Q I r h;let#[p,ns,rfl,hq,hl,q]:=h;let#[u,rfl,rx]:=vals1 r;cases rx;obtain⟨T,aZ,o,n,hT,r',ho,hc,hd⟩:∃T,∃(aZ:@&Value) (o:Obj) (n:Nat),(T="list"\/T="tuple")/\Vals (ns.map V.int) aZ/\s.heap.get? p=!o/\o.cls=.type T/\o.data=.seq aZ.toArray n:=by
  rcases hq with hq|hq
  .let#[aZ,r',pl,_]:=I.list hq;let#[o,ho,hc,n,hd]:=pl.isList;show#[_,aZ,o,n,.inl rfl,r',ho,hc,hd]
  .let#[aZ,r',#[o,ho,hc,n,hd],_]:=I.tuple hq;show#[_,aZ,o,n,.inr rfl,r',ho,hc,hd]
 show ST.a52 hT ho hc hd (Be r') hl λh1 vs ku e h' kp i1 i2 i3 i4 i5=>?_;let e1:ku=qT ns:=T6 (i2.trans (GK ns).symm) i3 (Nw ns);subst e1;let I1:Inv X pi σ H { s with heap:=h1 }:=I.kept (t':=s.toks) kp;let hz:(qT ns).length<=10000:=by rw[(GK ns).length_eq];omega
 show#[.ref h1.objs.size,_,(I1.laid (a:=h1.objs.size) (o:=.lst ((qT ns).map V.int)) (t':=s.toks) i5 (av _) #[by rw[ao];show aC hz ∅,vs,e,GN i1,i4]),rfl,q _ (I1.bR.fresh (av _))]
def Qa:∀{ks:@&Key} {l:@&Value},(-l)=-ks->(∀(i:Nat) v,l[i]?=!v->∃k,ks[i]?=!k/\sk k v=true)->Vals (ks.map kV) l
 |[],[],_,_=>.nil
 |k::ks,v::l,hl,h=>by
  let#[k',e,hk]:=h 0 v rfl;cases e;show .cons ?_ (Qa (_/hl) λi v e=>h (i+1) v e);rcases v7 hk with⟨i,t,rfl,rfl⟩|⟨x,t,rfl,rfl⟩<;>show#[t,rfl]
def aG7(hc:X.calm=true):u3 X (.type "list") (λxs H Q=>∃a kvs,xs=[.ref a]/\H a=!.dK kvs/\-kvs<=10000/\∀p,H p=none->Q (.ref p) (upd H p (.lst ((kvs.map (·.1)).map kV)))):=by
 intro pi s σ H xs us Q I r h;let#[a,kvs,rfl,ha,hl,q]:=h;let#[u,rfl,rx]:=vals1 r;cases rx;let#[_,hd,vs,kv,hD]:=vn I.bR ha;let#[ep,hA]:=hD.dictAt;let qe:-vs<=10000:=by rw[<- -kv];show hl
 show PySem.W.kdl_call (PySem.W.kdl_dict (kvs:=vs) (ep:=ep) hd) (I.ok.hd hc) hA (aC qe ∅) λh' tk acc c k1 k2 k3=>?_;let hv:Vals ((kvs.map (·.1)).map kV) acc.toList:=by
  show Qa (by rw[eW,k3.1,ao,(-kv)]) λi v e=>?_;let#[k,x,e1,e2]:=k3.2 i v (_/e);show#[k,by rw[kv.keys,ag,e1];rfl,e2]
 show#[.ref s⁻¹,_,(I.laid (a:=s⁻¹) (o:=.lst ((kvs.map (·.1)).map kV)) (t':=tk) k1 (av _) #[by rw[ao,ao];show aC hl ∅,acc.toList,c,hv,by simpa using k2]),rfl,q _ (I.bR.fresh (av _))]
end
end L2
namespace ST
open PySem PyProof.Rows
variable{tk:Tok}{items:Array Value}{n:Nat}{ks:@&Int}
def aT3:typeLookup (.type "list") "keys"=pure none:=by rfl
def aB1:typeLookup (.type "list") "__getattr__"=pure none:=by rfl
section
variable{prog:Program}{w:World}{A:Around}{E:Value->Shared->Prop}{h:Heap}{g:Array GenState}{d:Drawn}{t:Nat}{os:OsState}{a:Addr}{o:Obj}
def aB4{Q}(hh:A.handled=none)(hx:h.get? a=!o)(hc:o.cls=.type "list")(hn:o.dict=none)(hd:o.data=.seq items n)(hq:∀e h' tk,(∀b o,h.get? b=!o->h'.get? b=!o)->t<=tk->(∃oe,h'.get? e=!oe/\oe.cls=.type "AttributeError")->E (.ref e) #[h',g,d,tk,os]) :
  wpAny (model prog w) A (Builtin.«object.__getattribute__» #[[.ref a,.str "keys" tk],[]]) Q E #[h,g,d,t,os]:=by
 let hT:(#[h,g,d,t,os]:Shared).TypeIs (.ref a) "list":=#[_,hx,hc]
 let f4:=aT3
 repeat (any_goals (first|assumption|wp_step))
 rw[hd];unfold instanceDict
 repeat (any_goals (first|assumption|wp_step))
 rw[hc];rw[hn];rw[aM (by rfl)];show au ?_;unfold Builtin.ObjectAttr.inDict;show au ?_
 repeat (any_goals (first|assumption|wp_step))
 let hm:(Str.ofString (toString "'"++toString ((Manifest.find? "list").elim "list" λx=>x.tpName)++toString "' object has no attribute '")++Str.ofString "keys"++Str.ofString "'").length<=sizeLine:=by decide +kernel
 generalize (Str.ofString (toString "'"++toString ((Manifest.find? "list").elim "list" λx=>x.tpName)++toString "' object has no attribute '")++Str.ofString "keys"++Str.ofString "'")=msg at *;unfold raiseAttrError
 repeat (any_goals (first|assumption|wp_step))
 let f5:isSubtype (.type "AttributeError") (.type "AttributeError")=pure true:=by rfl
 show fb f5 ?_
 repeat (any_goals (first|assumption|wp_step))
 show wpAny_raiseNew_none hh (hq _ _ _ (λb ob e=>?_) () ?_)
 .let hb:b≠(h.push { cls:=Value.type "tuple",data:=Data.seq (List.toArray [Value.str msg t]) }).objs.size:=by
   have:=az e;rw[dD];show aK (gY this)
  show((bW _ _ _).2 b hb).trans (ai _ (ai _ e))
 .exact#[_,bf _ (aD _ rfl) rfl,rfl]
def aF5{R}(hh:A.handled=none)(hx:h.get? a=!o)(hc:o.cls=.type "list")(hn:o.dict=none)(hd:o.data=.seq items n)(hq:∀e h' tk,(∀b o,h.get? b=!o->h'.get? b=!o)->t<=tk->(∃oe,h'.get? e=!oe/\oe.cls=.type "AttributeError")->R (.error (.ref e)) #[h',g,d,tk,os]) :
  codeAny (model prog w) A (.call (.builtin "list.__getattribute__") #[[.ref a,.str "keys" tk],[]]) R #[h,g,d,t,os] :=
 codeAny_call_builtin fC.plain F.entry_list_ga (fC.check _ _ _ _ _ _ _ _ (show(#[h,g,d,t,os]:Shared).TypeIs (.ref a) "list" from#[_,hx,hc]) (F.args_list_getattribute_2 _ _) (aB4 (by simp[hh]) hx hc hn hd hq))
def aT5{Q}(hh:A.handled=none)(hx:h.get? a=!o)(hc:o.cls=.type "list")(hn:o.dict=none)(hd:o.data=.seq items n)(hq:∀e h' tk,(∀b o,h.get? b=!o->h'.get? b=!o)->t<=tk->(∃oe,h'.get? e=!oe/\oe.cls=.type "AttributeError")->E (.ref e) #[h',g,d,tk,os]):wpAny (model prog w) A (getAttrBy (.ref a) (.str "keys" tk) false) Q E #[h,g,d,t,os]:=by
 let hT:(#[h,g,d,t,os]:Shared).TypeIs (.ref a) "list":=#[_,hx,hc]
 let f2:=fC.lookup;let f3:=fC.bind (.ref a)
 repeat (any_goals (first|assumption|wp_step))
 show aF5 hh hx hc hn hd ?_;rintro e h' iL k1 k2 ⟨oe,he,Aa⟩;let Ae:(#[h',g,d,iL,os]:Shared).TypeIs (.ref e) "AttributeError":=#[_,he,Aa]
 let f5:isSubtype (.type "AttributeError") (.type "AttributeError")=pure true:=by rw[fY];kernel_rfl
 let f6:=aB1;unfold getattributeRaised;show ae (dU Ae f5 ?_);rw[aM rfl];unfold hookBehind
 repeat (any_goals (first|assumption|wp_step))
 show hq e h' iL k1 k2 #[oe,he,Aa]
def aF6{Q}(hh:A.handled=none)(hx:h.get? a=!o)(hc:o.cls=.type "list")(hn:o.dict=none)(hd:o.data=.seq items n)(hq:∀h' tk,(∀b o,h.get? b=!o->h'.get? b=!o)->t<=tk->Q none #[h',g,d,tk,os]):wpAny (model prog w) A (getAttr? (.ref a) "keys") Q E #[h,g,d,t,os]:=by
 unfold getAttr? getAttrBy?;let f5:isSubtype (.type "AttributeError") (.type "AttributeError")=pure true:=by rw[fY];kernel_rfl
 show ae (wpAny_mkText ?_);show ae (Rv (aT5 hh hx hc hn hd ?_));rintro e h' iL k1 k2 ⟨oe,he,Aa⟩;show ae (dU (show(#[h',g,d,iL,os]:Shared).TypeIs (.ref e) "AttributeError" from#[_,he,Aa]) f5 ?_);rw[aM rfl];show au (hq h' iL k1 (Nat.le_of_succ_le k2))
def Y5:plainId "dict.update.loop"=true:=by decide +kernel
def NC:entryFor table "dict.update.loop"=some Builtin.«dict.update.loop»:=entryFor_of_tree (by kernel_rfl)
abbrev S0(ks:@&Int):@&(L2.Key×Value):=ks.map λk=>(.inl k,.bool true)
def stored_new{k}(h:k∉ks):stored (S0 ks) (.inl k:L2.Key) (.bool true)=S0 (ks++[k]):=by
 unfold stored;rw[aI]
 .simp[S0]
 .intro z;rw[bO] at z;let#[x,hx,e]:=z;let#[j,hj,rfl]:=ax.mp hx;have:=dc (aP e);show h (this▸hj)
def a59{R:Result->Shared->Prop}{I}{fp wr}{G:Array GenState->Array GenState->Prop}{P:Nat->Value->Prop}{St:Nat->Shared->Prop}(W:WalksS prog w A.in1 I fp wr G n P St)(Kq:a∉fp)(hn:n=-ks){tp:Nat->Addr}(hv:∀i v,P i v->v=.ref (tp i))(JU:∀i,i<n->tp i∉a::wr)(hb:n<=10000)(nd:ks.Nodup):∀(k i:Nat) (s:Shared),i+k=n->St i s->(∀j,j<n->∃tk,s.heap.IsTuple (tp j) (List.toArray [.int (ks.getD j 0) tk,.bool true]))->s.heap.DictOf (L2.k6 prog w) a (S0 (ks.take i)) ->
   (∀s',Moved (a::wr) G s s'->s'.heap.DictOf (L2.k6 prog w) a (S0 ks)->R (.ok (.ret .none)) s')->codeAny (model prog w) A (.builtin "dict.update.loop" #[[.ref a,.ref I,rawInt i,.none],[]]) R s:=by
 let hw:a∉wr:=λh=>Kq (W.sub _ h);let nD:∀b∈wr,b∈a::wr:=λb hb=>by simp[hb]
 intro k
 induction k with
 |zero =>
  intro i s e st ht hS hR;obtain rfl:i=n:=by omega
  show cQ NC ?_;rw[Around.under_plainId Y5 _];unfold Builtin.«dict.update.loop»;show ae (W.done s _ _ st λs' m=>?_);show ae (au ?_);show au (hR s' (m.mono nD) ?_);rw[hn,bt] at hS;let#[o,es,ep,ho,r]:=hS;show#[o,es,ep,m.heap a o hw ho,r]
 |succ k ih =>
  intro i s e st ht hS hR;let dP:i< -ks:=by omega
  show cQ NC ?_;rw[Around.under_plainId Y5 _];unfold Builtin.«dict.update.loop»;show ae (W.item i s _ _ () st λv s' hP lO m=>?_);cases hv i v hP;let kB:s'.heap.DictOf (L2.k6 prog w) a (S0 (ks.take i)):=by
   let#[o,es,ep,ho,r]:=hS;show#[o,es,ep,m.heap a o hw ho,r]
  let rD:∀j,j<n->∃tk,s'.heap.IsTuple (tp j) (List.toArray [.int (ks.getD j 0) tk,.bool true]):=λj hj=>by
   let#[tk,o,ho,r]:=ht j hj;show#[tk,o,m.heap _ o (λz=>JU j hj (by simp[z])) ho,r]
  let#[tk,o,ho,hc,nn,hd]:=rD i ();show ae (bx ?_);show ae (wpAny_tryCatch ?_);unfold Builtin.Dict.pairItems;show ae (dt (show s'.TypeIs (.ref (tp i)) "tuple" from#[o,ho,hc]) ?_);rw[aM ∅];unfold seqItems?;show ae (ae (BX ho ?_));rw[hd];show au (au ?_);show bx ?_;unfold dictSet;show bx (ae ((L2.k6 prog w).pyHash (L2.GX _ _ _ _) ?_));let hl:(S0 (ks.take i)).length<=10000:=by
   unfold S0;rw[ao,bE];omega
  show wpAny_dictSetHashed_pairs (L2.GX _ _ _ _) kB (λh' nZ sb=>?_) (aC hl ∅);let ek:ks.take (i+1)=ks.take i++[ks.getD i 0]:=by
   rw[bg,aj dP];simp[List.getD,dP]
  let nh:ks.getD i 0∉ks.take i:=by
   have:(ks.take (i+1)).Nodup:=nd.sublist (List.take_sublist _ _);rw[ek,cV] at this;show λz=>this.2.2 _ z _ #[_] rfl
  rw[stored_new nh,<- ek] at nZ;show au #[eM Y5 _,?_];rw[show((i:Nat):Int)+1=((i+1:Nat):Int) by omega];show ih (i+1) _ () (W.frame _ s' _ _ lO (eG _) λb hb o e=>by rw[sb.2 b λz=>Kq (z▸hb)];show e) (λj hj=>?_) nZ λs2 m2 h2=>?_
  .let#[tk,o,ho,r]:=rD j hj;show#[tk,o,(sb.2 _ λz=>JU j hj (by simp[z])).trans ho,r]
  .exact hR s2 (Moved.trans W.gtrans ((m.mono nD).then_heap (eG _) λb o hb e=>by rw[sb.2 b λz=>hb (by rw[z];simp)];show e) m2) h2
def a93{l}{tp:Nat->Addr}{nn:Nat}{s}{Q:Value->Shared->Prop}(hh:A.handled=none)(ho:s.heap.get? l=!o)(hc:o.cls=.type "list")(hn:o.dict=none)(hd:o.data=.seq items nn)(hsz:items.size=-ks)(hit:∀(i:Nat) (v:Value),items[i]?=!v->v=.ref (tp i))(ht:∀j,j< -ks->∃tk,s.heap.IsTuple (tp j) (List.toArray [.int (ks.getD j 0) tk,.bool true]))(hb:-ks<=10000)(nd:ks.Nodup)(h:∀h' tk,h'.DictOf (L2.k6 prog w) s⁻¹ (S0 ks)->(∀b o,s.heap.get? b=!o->h'.get? b=!o)->s.toks<=tk->Q (.ref s⁻¹) { s with heap:=h',toks:=tk }) :
  wpAny (model prog w) A (call (.type "dict") [.ref l]) Q E s:=by
 show callType_codes (Q₁:=λobj bI=>obj=.ref s⁻¹/\bI={ s with heap:=s.heap.push { cls:=.type "dict",data:=.dict (List.toArray []) } }) F.kt_called_dict (F.kt_typeCall_dict_1 _) F.entry_dict_init (kt_code_dict_new _ #[rfl,rfl]) ?_;rintro obj bI ⟨rfl,rfl⟩;let kT:(s.heap.push { cls:=.type "dict",data:=.dict (List.toArray []) }).DictOf (L2.k6 prog w) s⁻¹ []:=wc s.heap;show#[kT.typeIs,F.args_dict_init_2 _ _,?_];let wY:(s.heap.push { cls:=.type "dict",data:=.dict (List.toArray []) }).get? l=!o:=ai _ ho;let xA:Shared.TypeIs { s with heap:=s.heap.push { cls:=.type "dict",data:=.dict (List.toArray []) } } (.ref l) "list":=#[o,wY,hc]
 unfold Builtin.«dict.__init__»;show ae ?_;unfold Builtin.Dict.selfAndRest;show ae (wpAny_notOrdered_dict kT.typeIs ?_);show au ?_;change wpAny _ _ (Builtin.Dict.updateFrom "dict.__init__" s⁻¹ (.ref l) [] .none) _ _ _;unfold Builtin.Dict.updateFrom;show ae (dt xA ?_);rw[aM ∅];show ae (aF6 (by simp[hh]) wY hc hn hd λh1 sN k1 k2=>?_);rw[aM (by rfl)];show ae (jR ?_);let kA:=k1 _ _ wY;let qe:h1.IsList l items:=#[o,kA,hc,nn,hd]
 let dP:=az kA;let zX:=aK dP;show ae (fW qe ?_);show au #[eM Y5 _,?_];let la:=az ho;let#[oa,_,_,Tg,_]:=id kT;let rJ:=az (k1 _ _ Tg);let tl:∀j,j< -ks->tp j<s⁻¹:=λj hj=>by
  let#[_,o',e,_]:=ht j hj;show az e
 show a59 (BZ (by simp[hh]) h1.objs.size l zX items).toS (λz=>?_) hsz hit (λj hj z=>?_) () nd items.size 0 _ () #[#[_,aD _ rfl,rfl,rfl],qe.push _] (λj hj=>?_) ?_ λs' m kB=>?_
 .simp only[List.mem_cons,List.not_mem_nil,or_false] at z;rcases z with z|z
  .exact aK rJ z
  .exact bL la z
 .have:=tl j ();simp only[List.mem_cons,List.not_mem_nil,or_false] at z;rcases z with z|z
  .exact aK this z
  .exact aK (cH this rJ) z
 .let#[tk,o',e,r]:=ht j ();show#[tk,o',ai _ (k1 _ _ (ai _ e)),r]
 .let#[o',es,ep,e,r]:=kT;show#[o',es,ep,ai _ (k1 _ _ e),r]
 .let eS:s'={ s with heap:=s'.heap,toks:=s'.toks }:=by
   let#[iN,g',d',iL,rB]:=s';let m1:=m.gens;let m2:=m.drawn;let m3:=m.os;subst m1;subst m2;subst m3
   rfl
  rw[eS];show#[rfl,h _ _ kB (λb o' e=>?_) (aC k2 m.toks)];let lb:=az e;show m.heap b o' (λz=>?_) (ai _ (k1 _ _ (ai _ e)));simp only[List.mem_cons,List.not_mem_nil,or_false] at z;rcases z with z|z
  .exact aK lb z
  .exact aK (cH lb rJ) z
end
end ST
namespace L2
open PySem PyProof.Rows
section
variable{X:Cx}
def Ov:∀ks:@&Int,KV (ks.map λk=>((.inl k:Key),V.bl true)) (ST.S0 ks)
 |[]=>.nil
 |_::ks=>.cons #[rfl,rfl] (Ov ks)
def aD0(hc:X.calm=true):u3 X (.type "dict") (λxs H Q=>∃a,∃(ts:@&Addr) (ks:@&Int),xs=[.ref a]/\fJ X.K H a (ts.map V.ref)/\-ts=-ks/\(∀(i:Nat) t k,ts[i]?=!t->ks[i]?=!k->iR X.K H t [.int k,.bl true])/\-ks<=10000/\ks.Nodup/\∀p,H p=none->Q (.ref p) (upd H p (.dK (ks.map λk=>(.inl k,.bl true))))):=by
 intro pi s σ H xs us Q I r h;let#[a,ts,ks,rfl,hq,hl,ht,hz,nd,q]:=h;let#[u,rfl,ru]:=vals1 r;cases ru;let#[aZ,rv,#[o,n,ho,jo,TZ,hd],_]:=I.list hq;let hlen:-aZ=-ts:=by rw[<- -rv];simp
 show ST.a93 (tp:=λi=>ts.getD i 0) (I.ok.hd hc) ho jo TZ hd (by rw[aS];omega) (λi v hv=>?_) (λj hj=>?_) hz nd λh' tk hS hk tG=>?_
 .rw[List.getElem?_toArray] at hv;let hi:i< -ts:=by rw[<- hlen];show(ak.mp hv).1
  let#[u,hu,ru]:=rv.get (by rw[ag,aj hi];rfl);rw[hv] at hu;cases hu;rw[show ts.getD i 0=ts[i] by simp[List.getD,hi]];show ru
 .let uZ:j< -ts:=by omega
  let#[mG,RY,p2,_]:=I.tuple (ht j ts[j] ks[j] (aj uZ) (aj hj));cases RY with
  |cons r1 r2 =>
  cases r2 with
  |cons r2 r3 =>
  cases r3;let#[tk,rfl]:=r1;cases r2;rw[show ts.getD j 0=ts[j] by simp[List.getD,uZ],show ks.getD j 0=ks[j] by simp[List.getD,hj]];show#[tk,p2]
 .exact#[.ref _,_,I.laid (t':=tk) hk (av _) (uF (by rw[ao];show aC hz ∅) (cX.mpr (aX (aK I.big))) (Ov ks) hS),rfl,q _ (I.bR.fresh (av _))]
end
end L2
namespace L2
open PySem PySem.Spec PyProof.Rows
variable{prog:Program}{w:World}{A:Around}{s:Shared}{kx vx iter tg:Expr}{ifs:@&Expr}{scope:Scope}{pos:Pos}{X:Cx}{N':@&Str}{d8:@&Nat}{g:TG}{tc:TT}{tk tv:TE}
section
variable{R:Result->Shared->Prop}
def aL8{target}{it}{D}{env}(I:Nat->Shared->Prop)(turn:∀ n s,I n s->wpAny (model prog w) A (pyNext it) (λr bI=>match r with
   |none=>R (.ok .next) bI
   | some v=>wpAny (model prog w) A (letOwnedTupleGo target it v) (λy bI=>wpAny (model prog w) A (assign target env v) (λ_ fg =>
     wpAny (model prog w) A (forIn ifs true λc r=>if r=true then do let ok <- isTrue c env (eval c env);pure (ForInStep.yield ok) else pure (ForInStep.yield r)) (λok dW =>
      if ok=true then wpAny (model prog w) A (eval kx env) (λkv fP=>wpAny (model prog w) A (eval vx env) (λvv gJ =>
       wpAny (model prog w) A (dictSet D kv vv) (λy pN=>∃ m,m < n/\I m pN) (λy y=>False) gJ) (λy y=>False) fP) (λy y=>False) dW
      else ∃ m,m < n/\I m dW) (λy y=>False) fg) (λy y=>False) bI) (λy y=>False) bI) (λy y=>False) s)(n:Nat)(h:I n s) :
  codeAny (model prog w) A (.compLoop (.DictComp kx vx [#[target,iter,ifs,0]] scope pos) 0 it (.ref D) env) R s:=by
 show codeAny_loop rfl I (λn s hI=>?_) n h;change wpAny _ A ((compTurn (.DictComp kx vx [#[target,iter,ifs,0]] scope pos) 0 it (.ref D) env).onRaise (λx=>do noteFrame x env;theTreesLotGoes x)) _ _ s;show wpAny_noted ?_;rw[compTurn_dict];show ae (dw (ae (bo (turn n s hI) (λr bI cW=>?_) λy y h'=>h'.elim)));cases r with
 |none=>show au cW
 |some v =>
  show ae (bo cW (λy bI cW=>?_) λy y h'=>h'.elim);show ae (bo cW (λy fg gF=>ae (bo gF (λok dW kS=>?_) λy y h'=>h'.elim)) λy y h'=>h'.elim);cases ok with
  |false=>show wpAny_pure #[rfl,kS]
  |true =>
   show ae (ae (bo kS (λkv fP nP=>ae (bx (bo nP (λvv gJ nO=>ae (dw (bx (bo nO (λy pN CV=>au #[rfl,CV]) λy y h'=>h'.elim)))) λy y h'=>h'.elim))) λy y h'=>h'.elim))
end
def Mq(wi:TI)(d8:@&Nat)(n:Nat)(g:TG)(tc:TT)(tk tv:TE):TE:=λσ H Q=>wi σ H λJ H1=>∃W:Nat->Nat->@&(Key×V)->St->Hp->Prop,(∃m,W 0 m [] (E3 σ d8 n) H1)/\∀i m ys σ H,W i m ys σ H ->
 (J.stop i H/\∀p,H p=none->Q (.ref p) (upd H p (.dK ys))) \/
 (J.go i H/\-ys < 1000/\∀ x H',J.oH i H x H'->g x σ H' λcE H2=>tc cE H2 λb H3 =>
  if b=true then tk cE H3 λy H4=>∃ k,y=kV k/\tv cE H4 λv H5=>∃ m',m' < m/\W (i + 1) m' (putK ys k v) cE H5 else ∃ m',m' < m/\W (i + 1) m' ys cE H3)
def X4{P}{k}{u}(h:(k6 P w).is k u=true):RelV (kV k) u:=by
 rw[Qq] at h;rcases v7 h with⟨j,t,e1,e2⟩|⟨x,t,e1,e2⟩
 .subst e1 e2;show#[t,rfl]
 .subst e1 e2;show#[t,rfl]
section
variable{pi:@&(Addr×Obj)}{σ:St}{H:Hp}
def KDc(X:Cx)(a:Addr)(ys:@&(Key×V))(h:Heap)(o:Obj):Prop:=-ys<=1000/\LO o/\h.get? a=!o/\∃rs,KV ys rs/\h.DictOf (k6 X.prog X.w) a rs
def OE{n0:Nat}(pX:∀D,n0<=D->(D==sysModules)=false):BU X n0 (KDc X) λy ys=>.dK ys where
 nc:=λh=>h.2.1
 get:=λh=>h.2.2.1
 K9:=λ⟨h1,h2,h3,rs,h4,h5⟩ e=>#[h1,h2,e,rs,h4,h5.at λo e'=>by rw[h3] at e';cases e';show e]
 done:=λ{pi σ H s D ys o} hn J4 ET hs ⟨z3,_,o4,rs,zN,S4⟩=>by
  let K1:=J4.Mt (φ:=λh=>h.DictOf (k6 X.prog X.w) D rs) ET hs #[S4,#[_,o4],λh1 h2 x k=>x.at k];let K2:=X8 (t':=s.toks) (h':=s.heap) K1 (by rw[m4];show True.intro) #[rfl,λy y=>rfl] #[_,o4] (uF (aC z3 ∅) (pX D hn) zN S4);let eu:upd (upd H D (.ext λh=>h.DictOf (k6 X.prog X.w) D rs)) D (.dK ys)=upd H D (.dK ys):=funext λb=>by
   by_cases hb:b=D
   .rw[hb,m4,m4]
   .rw[d6 hb,d6 hb,d6 hb]
  rw[eu] at K2;show K2
def NA{cl:@&(Str×Addr)}{it:Addr}{fp:@&Addr}{tn:Nat->Heap->Prop}{J:It}{RR:Value->Addr->Result->Shared->Prop}{E:Value->Shared->Prop}{W:Nat->Nat->@&(Key×V)->St->Hp->Prop}{m0:Nat}{Q:VK}(S:cF X scope N' d8 cl)(hc:X.calm=true)(hg:∀C s H,PG (f7 X pi scope N' cl C s H fp) tg g)(ht:∀C s H,jP (f7 X pi scope N' cl C s H fp) ifs tc)(hk:∀C s H,PE (f7 X pi scope N' cl C s H fp) kx tk)(hv:∀C s H,PE (f7 X pi scope N' cl C s H fp) vx tv)(I:Inv X pi σ H s)(T:Turn X.prog X.w X.K tg J fp it tn)(st:tn 0 s.heap)(hf:∀b∈fp,M5 X pi H b)(w0:W 0 m0 [] (E3 σ d8 (-N')) H)(turn:∀ i m ys σ H,W i m ys σ H->(J.stop i H/\∀ p,H p=none->Q (.ref p) (upd H p (.dK ys))) \/
   (J.go i H/\-ys < 1000/\∀ x H',J.oH i H x H'->g x σ H' λcE H2=>tc cE H2 λb H3 =>
    if b=true then tk cE H3 λy H4=>∃ k,y=kV k/\tv cE H4 λv H5=>∃ m',m' < m/\W (i + 1) m' (putK ys k v) cE H5 else ∃ m',m' < m/\W (i + 1) m' ys cE H3))(pX:∀D,s⁻¹<=D->(D==sysModules)=false)(tP:∀D C s' H' m,Inv X pi σ H' s'->Q (.ref D) H'->s'.heap.Ns C m->H' C=none->s⁻¹<=C->RR (.ref D) C (.ok .next) s') :
  wpAny (model X.prog X.w) X.A newDict (λacc dW=>wpAny (model X.prog X.w) X.A (newFunctionEnv scope X.env.globals cl [] X.env.qual none .none (!X.env)) (λkf fP =>
   codeAny (model X.prog X.w) X.A (.compStart (.DictComp kx vx [#[tg,iter,ifs,0]] scope pos) 0 (.ref it) acc { kf with scope:=relabel scope X.env }) (RR acc kf.locals) fP) E dW) E s:=by
 show cN (Hn λcW jw gc qi=>?_);let eC:(s.heap.push { cls:=.type "dict",dict:=none,data:=.dict (List.toArray []) }).objs.size=s⁻¹+1:=dD ..
 replace eC:=eC.symm
 let jM:=gc _ _ (aD _ rfl);let kT:cW.DictOf (k6 X.prog X.w) s⁻¹ []:=(wc s.heap).at λo e=>gc _ _ e;generalize (s.heap.push { cls:=.type "dict",dict:=none,data:=.dict (List.toArray []) }).objs.size=C at *;show (λL=>codeAny_compStart_dict L.2 (T.self _ 0 _ _ _ L.1 L.2)) (Gj (tb:=λys σ H P=>tk σ H λy H'=>∃ k,y=kV k/\tv σ H' λv H''=>P (putK ys k v) H'') (env:=compEnvC scope (M1 scope cl C) C X.env)
  (body:=λP dW=>wpAny (model X.prog X.w) X.A (eval kx (compEnvC scope (M1 scope cl C) C X.env)) (λkv fP=>wpAny (model X.prog X.w) X.A (eval vx (compEnvC scope (M1 scope cl C) C X.env)) (λvv gJ=>wpAny (model X.prog X.w) X.A (dictSet s⁻¹ kv vv) (λt pN=>P pN) (λt t=>False) gJ) (λt t=>False) fP) (λt t=>False) dW)
  (OE pX) S hc (hg C s H) (ht C s H) I T st hf w0 turn (λs' H' m=>tP _ C s' H' m) #[_,jw] gc qi eC #[cj _,(λv (z:Data.dict _ _=_)=>by cases z),jM,[],.nil,kT] rfl (λys o fF cg H' s' P R' hz k hb I' q hR=>?_) (λI turn n h=>aL8 I turn n h))
 show cG (hk C s H _ s' cg H' _ I' q) λxk s7 bu=>?_;let#[y,H7,I7,r7,kk,ey,q7]:=bu;subst ey;show cG (hv C s H _ s7 cg H7 _ I7 q7) λxv s8 bu=>?_;let#[v,H8,I8,r8,q8]:=bu;let#[z3,_,_,rs,zN,S8]:=(OE pX).K9 k (hb I8);show wpAny_dictSet_pairs (hsz:=by rw[zN.length.symm];show aC z3 ∅) (si r7) S8 λh' S9 sb=>?_;let#[o9,UZ,U',g9,x9,d9,r9]:=id S9;show hR s8 H8 _ h' (s8.toks+1) o9 I8 q8 (λb' u hb hu=>by rw[sb.2 b' hb];show hu) #[by have:=Z1 ys kk v;omega,(λv z=>by rw[d9] at z;cases z),g9,_,zN.put kk r8,S9]
def ON{cl}{wi}(S:cF X scope N' d8 cl)(hc:X.calm=true)(hi:PI X tg iter wi)(hg:∀pi C s H fp,PG (f7 X pi scope N' cl C s H fp) tg g)(ht:∀pi C s H fp,jP (f7 X pi scope N' cl C s H fp) ifs tc)(hk:∀pi C s H fp,PE (f7 X pi scope N' cl C s H fp) kx tk)(hv:∀pi C s H fp,PE (f7 X pi scope N' cl C s H fp) vx tv)(hs:∀x,foldedSetIterable iter X.env x=pure x):PE X (.DictComp kx vx [#[tg,iter,ifs,0]] scope pos) (Mq wi d8 (-N') g tc tk tv):=by
 intro pi s σ H Q I h;rw[arm_eval_DictComp];show dQ rfl hs S.ot S.kind S.names (cG (hi pi s σ H _ I h) λxv bI cW=>cG cW λtB fg gF=>?_);let#[it,fp,tn,J,H2,e,I2,T,jH,f2,W,#[m0,w0],turn]:=gF;subst e;show NA S hc (λC s H=>hg pi C s H fp) (λC s H=>ht pi C s H fp) (λC s H=>hk pi C s H fp) (λC s H=>hv pi C s H fp) I2 T jH f2 w0 turn (λD hD=>beq_false_of_ne (bL (aB I2.big hD))) ?_;intro D C s' H' m I' q hn hC hsz;show#[m,hn,λh' sb=>#[.ref D,H',I'.Iy hsz I2 hC sb,rfl,q]]
def aR0{cl}{lE px}{wi}{i}{x}(S:cF X scope N' d8 cl)(hc:X.calm=true)(hi:PI X tg iter wi)(hg:∀pi C s H fp,PG (f7 X pi scope N' cl C s H fp) tg g)(ht:∀pi C s H fp,jP (f7 X pi scope N' cl C s H fp) ifs tc)(hk:∀pi C s H fp,PE (f7 X pi scope N' cl C s H fp) kx tk)(hv:∀pi C s H fp,PE (f7 X pi scope N' cl C s H fp) vx tv)(hs:∀x,foldedSetIterable iter X.env x=pure x)(hN:X.Nd)(oU:X.N[i]?=!x)(hx:Loc X.env.scope x)(hf:X.fn x=true\/X.env.scope.names.lookup x=!.local) :
  PS X (.Assign [.Name x px] (.DictComp kx vx [#[tg,iter,ifs,0]] scope pos) lE) (vQ (Mq wi d8 (-N') g tc tk tv) (sf i)):=by
 intro pi s σ H D I h;let pY:∃b,swapsWith (.DictComp kx vx [#[tg,iter,ifs,0]] scope pos) (!.Name x px) lE.line X.env=pure b:=#[_,rfl]
 let#[b,pY]:=pY;cases b with
 |false=>show HE hN oU hx (ON S hc hi hg ht hk hv hs) pY hf pi s σ H D I h
 |true =>
  rw[exec_Assign_Name_used _ _ _ _ pY];show ae (dw (ae ?_));show ae (bo (dQ rfl hs S.ot S.kind S.names
   (cG (hi pi s σ H _ I h) λxv bI cW=>cG cW λtB fg gF=>?_)) (λy s' hq=>au (au hq)) λy y e=>e)
  let#[it,fp,tn,J,H2,e,I2,T,jH,f2,W,#[m0,w0],turn]:=gF;subst e;show NA (Q:=λv H1=>sf i v σ H1 D.nx) S hc (λC s H=>hg pi C s H fp) (λC s H=>ht pi C s H fp) (λC s H=>hk pi C s H fp) (λC s H=>hv pi C s H fp) I2 T jH f2 w0 turn (λD hD=>beq_false_of_ne (bL (aB I2.big hD))) ?_;intro Dl C s' H' m I' q hn hC hsz;show pE (GA I' hN oU hx (v:=.ref Dl) rfl (?_) hf);rintro s3 I3 ⟨a,sb,ha⟩;let#[f0,f1,f2,f3,f4,f5]:=I2.pq (H':=H') hsz hC;let DU:C≠a:=by
   rcases ha with z|z
   .rw[z];show f1
   .exact λz'=>f4 _ _ z z'.symm
  show#[m,hn.sameBut sb DU,λh3 Cy=>#[_,H',I3.turned (t':=s3.toks) (λb o hb e=>Cy.extBut b o hb e) f0 f1 f3 f4 f5,q]]
def bG1{e}{T T'}(h:PE X e T)(f:∀σ H Q,T' σ H Q->T σ H λx H'=>∃a φ kvs,H' a=!.ext φ/\(∀H' h',φ h'->q9 X.prog X.w H' h' a (.dK kvs))/\Q x (upd H' a (.dK kvs))):PE X e T':=by
 intro pi s σ H Q I q;show cG (h pi s σ H _ I (f σ H Q q)) λv s1 hq=>?_;let#[x,H1,I1,r1,a,φ,kvs,ha,CW,q1]:=hq;let#[p1,p2,_]:=I1.bR a _ ha;show#[x,_,X8 (t':=s1.toks) (h':=s1.heap) I1 (by rw[ha];show True.intro) #[rfl,λy y=>rfl] p2 (CW _ _ p1),r1,q1]
def KV.at{kvs}{vs}(r:KV kvs vs):∀{i:Nat} {k:Key} {x:V},kvs[i]?=!(k,x)->∃u,vs[i]?=!(k,u)/\RelV x u:=by
 unfold KV at r
 induction r with
 |nil=>intro i k x h;simp at h
 |cons h r ih =>
  intro i k x e;cases i with
  |zero =>
   simp at e;subst e;let#[h1,h2]:=h;show #[_,by
    change some _=!(k,_);let EL:k=_:=h1;rw [EL],h2]
  |succ i=>simpa using ih (_/e)
def aX8:entryFor table "dict_itemiterator.__iter__"=some Builtin.«dict_keyiterator.__iter__» :=
 BY (id':="dict_keyiterator.__iter__") (by kernel_rfl) rfl #[] (by kernel_rfl)
abbrev Rk(φ:Heap->Prop)(a:Addr)(kvs:@&(Key×V)):It :=
 #[λi H=>H a=!.ext φ/\i< -kvs,λi H v H'=>∃p k x,H p=none/\v=.ref p/\kvs[i]?=!(k,x)/\H'=upd H p (.tup [kV k,x]),λi H=>H a=!.ext φ/\-kvs<=i]
def a47{P}{K}{elts}{x1}{tp}(a it:Addr){kvs}(vs:@&(Key×Value))(ep:Nat)(rel:KV kvs vs) :
  Turn P w K (.Tuple elts x1 tp) (Rk (λh=>h.DictAt (k6 P w) a vs ep) a kvs) [it] it (λi h=>∃ok ov,IsItemIter h it a i (-vs) ep ok ov) where
 mem:=by simp
 obj:=λi h st b hb=>by
  let#[ok,ov,h1]:=st;let z:b=it:=by simpa using hb
  subst z;show #[_,h1,λv z=>by
   let z':Data.fields _=Data.cell v:=z;cases z']
 keep:=λi h h' st k=>by
  let#[ok,ov,h1]:=st;show#[ok,ov,k it #[_] _ h1]
 item:=by
  intro X hP hw hK hc i pi s σ H E I hf st hg;subst hP hw hK;let#[ok,ov,h1]:=st;let#[ha,hi]:=hg;let hm:=(I.bR a _ ha).1;obtain⟨k,x,hx⟩:∃k x,kvs[i]?=!(k,x):=#[_,_,aj hi]
  let#[u,hu,ru]:=rel.at hx;let#[f0,f1,f2,f3,f4,f5]:=hf it #[_];show wpAny_pyNext_items_item h1 hm hu λkey h' mK ho ht hz hk=>?_;show#[_,rfl,wpAny_letOwnedTupleGo_items ho λh2 TQ iM=>?_];let iM:Heap.SameBut it h' h2:=iM;let elt:=az h1;let kp:∀b o,b≠it->s.heap.get? b=!o->h2.get? b=!o:=λb o b1 q=>(iM.2 b b1).trans (hk b o b1 q);let hn:=I.bR.fresh (av _);let sL:=(iM.2 _ (bL elt)).trans ht;let ne:∀b u',H b=!u'->b≠it:=λb u' q z=>by rw[z,f0] at q;cases q
  let bR:gB X.prog X.w (upd H s⁻¹ (.tup [kV k,x])) h2:=λb o q=>by
   by_cases hb:b=s⁻¹
   .subst hb;rw[m4] at q;cases q;show#[by change 2<=sizeLine;decide,[key,u],.cons (X4 mK) (.cons ru .nil),_,sL,rfl,#[_,rfl],rfl]
   .rw[d6 hb] at q;show(I.bR b o q).K9 (λc v hc q'=>?_) (λc q'=>by rw[d6 (i9 q' hn)];show q') λc ys q'=>by rw[d6 (i9 q' hn)];show q'
    rcases hc with z|z
    .subst z;show kp _ _ (ne _ _ q) q'
    .exact kp _ _ (ne _ _ z) q'
  let I2:Inv X pi σ (upd H s⁻¹ (.tup [kV k,x])) { s with heap:=h2 }:=by
   show I.step (g':=s.gens) (d':=s.drawn) (t':=s.toks) (ch:=[it]) (λb hb=>?_) (λb o y y hb q y=>kp b o (λz=>hb (by simp[z])) q) (λb o y y hb q y=>#[o.slots,kp b o (λz=>hb (by simp[z])) q])
    (λb o y q n=>by rw[d6 (aK (az q))];show n) (λb o hb q=>#[o,kp b o (λz=>hb (by simp[z])) q])
    (λb ys q=>by rw[d6 (i9 q hn)];show q) (λb o' ys q=>by rw[d6 (i9 q hn)];show q) (λb ps q=>#[(List.toArray []),by rw[d6 (i9 q hn),q];simp]) (λm hm=>?_) bR I.bare
   .let z:b=it:=by simpa using hb
    subst z;show#[f3,f1,f4,f5]
   .let#[o,es,ep,ho,r]:=hm;show#[o,es,ep,kp _ o (aX f1) ho,r]
  show#[.ref s⁻¹,_,I2,rfl,#[s⁻¹,k,x,hn,rfl,hx,rfl],#[key,u,TQ],λb hb=>?_];let z:b=it:=by simpa using hb
  subst z;rw[d6 (aK elt)];show f0
 done:=by
  intro X hP hw hK hc i pi s σ H E I hf st hg;subst hP hw hK;let#[ok,ov,h1]:=st;let#[ha,hi]:=hg;let hm:=(I.bR a _ ha).1;let#[f0,f1,f2,f3,f4,f5]:=hf it #[_];show wpAny_pyNext_items_end (I.ok.hd hc) h1 hm (bc (by rw[<- -rel];show hi)) λh' eb=>#[rfl,I.turned (t':=s.toks) (λb o hb e=>eb b o hb e) f0 f1 f3 f4 f5]
 self:=λy y s y y st h=>by
  let#[ok,ov,h1]:=st;let hT:s.TypeIs (.ref it) "dict_itemiterator":=#[_,h1,rfl]
  show pC hT kn (cB kn hT aX8 ?_ (PySem.F.args_dict_itemiterator_iter_1 _));show au #[_,rfl,"dict_itemiterator",_,hT,PySem.F.slot_dict_itemiterator_next.lookup,h]
def Ya{o}{td}{apos tp}{elts}{x1}(ho:PE X o td)(fS:attributeBase o "items" X.env (eval o X.env)=eval o X.env)(fR:(apos.endLine==pos.line)=true) :
  PI X (.Tuple elts x1 tp) (.Call (.Attribute o "items" apos) [] [] pos) (λσ H R=>td σ H λv H1=>∃a kvs,v=.ref a/\H1 a=!.dK kvs/\∀φ:Heap->Prop,(∀H' h',φ h'->q9 X.prog X.w H' h' a (.dK kvs))->R (Rk φ a kvs) (upd H1 a (.ext φ))):=by
 intro pi s σ H R I h;show wpAny_Call_method fS rfl fR uL uK PySem.F.type_dict_items (cG (ho pi s σ H _ I h) λu s1 bu=>?_);let#[x,H1,I1,rx,a,kvs,ex,ha,q]:=bu;subst ex;obtain rfl:u=Value.ref a:=rx;let#[z,hd,vs,rel,dd]:=vn I1.bR ha;show#[dd.typeIs,dd.mapOf.noDict,?_];show method_meetsIn uK PySem.F.entry_dict_items rfl (Jc #[rfl,dd.typeIs,PySem.F.args_dict_items_1 _,_,meets_dict_items (k6 X.prog X.w) a hd,#[vs,dd],?_]);let#[o1,es,ep,r1]:=dd;let hm:s1.heap.DictAt (k6 X.prog X.w) a vs ep:=#[o1,es,r1]
 let rF:=hm.push { cls:=.type "dict_items",data:=.fields (List.toArray [.ref a]) };let lS:(s1.heap.push { cls:=.type "dict_items",data:=.fields (List.toArray [.ref a]) }).objs.size=s1⁻¹+1:=dD ..;show wpAny_pyIter_items #[_,aD _ rfl,rfl,rfl] rF ?_;let kp:∀b o,s1.heap.get? b=!o->((s1.heap.push { cls:=.type "dict_items",data:=.fields (List.toArray [.ref a]) }).push { cls:=.type "dict_itemiterator",data:=.fields (List.toArray [.none,.bool false,.ref a,.int 0 0,.int (-vs) 0,.int ep 0,.none,.none]) }).get? b=!o:=λb o e=>ai _ (ai _ e);let I2:=I1.kept (t':=s1.toks) kp;let uX:=rF.push { cls:=.type "dict_itemiterator",data:=.fields (List.toArray [.none,.bool false,.ref a,.int 0 0,.int (-vs) 0,.int ep 0,.none,.none]) };let hit:IsItemIter ((s1.heap.push { cls:=.type "dict_items",data:=.fields (List.toArray [.ref a]) }).push { cls:=.type "dict_itemiterator",data:=.fields (List.toArray [.none,.bool false,.ref a,.int 0 0,.int (-vs) 0,.int ep 0,.none,.none]) }) (s1.heap.push { cls:=.type "dict_items",data:=.fields (List.toArray [.ref a]) }).objs.size a 0 (-vs) ep .none .none:=aD _ rfl;let#[o3,es3,g3,r3]:=id uX;let I3:=X8 (t':=s1.toks) (ob:=.ext λh=>h.DictAt (k6 X.prog X.w) a vs ep) I2 (by rw[ha];show True.intro) #[rfl,λy y=>rfl] #[_,g3] #[uX,#[_,g3],(by rintro h1 h2 ⟨o,es,e,r⟩ k;show #[o,es,k o e,r])];show#[_,[_],_,_,_,rfl,I3,a47 a _ vs ep rel,#[_,_,hit],λb hb=>?_,q _ λH' h' e=>uF z hd rel (let ⟨o,es,e⟩:=e;#[o,es,ep,e])];let z:b=(s1.heap.push { cls:=.type "dict_items",data:=.fields (List.toArray [.ref a]) }).objs.size:=by simpa using hb
 let jO:s1⁻¹<=b:=by rw[z,lS];show eG _
 show I1.pq jO ?_;rw[d6 (bL (aB hm.lt_size jO))];show I1.bR.fresh jO
end
abbrev ML:@&Int->@&Int->Bool
 |x::xs,y::ys=>if x=y then ML xs ys else decide (x<y)
 |_,_=>false
end L2
namespace M
open PySem L2
set_option genInjectivity true in
inductive D where
 |bq|bl (b:Bool)|int (i:Int)|str (x:Str)|ty (n:String)|ref (i:Nat)|tup (l:@&D)
set_option genInjectivity true in
inductive O where
 |lst (l:@&D)|qv (l:@&D)
 |cy (kvs:@&(Key×D))
 |ins (c:Str) (fs:@&(Str×D))
 |set (S:Int->Bool) (n:Nat)
abbrev O.mut:O->Bool
 |.qv _=>false
 |_=>true
abbrev ox:D->Option Key
 |.int i=>!.inl i
 |.str x=>!.inr x
 |_=>none
abbrev x6(kvs:@&(Key×D))(k:Key):Option D:=(kvs.find? λkv=>decide (kv.1=k)).map (·.2)
abbrev putD(kvs:@&(Key×D))(k:Key)(v:D):@&(Key×D) :=
 if(kvs.any λkv=>decide (kv.1=k))=true then kvs.map (λkv=>if kv.1=k then(kv.1,v) else kv) else kvs++[(k,v)]
abbrev m7(f:Str)(v:D):@&(Str×D)->@&(Str×D)
 |[]=>[(f,v)]
 |(g,x)::r=>if g=f then(g,v)::r else(g,x)::m7 f v r
abbrev Z0:@&D->Str->Option D
 |.tup [.str y,v]::r,x=>if x=y then some v else Z0 r x
 |_::_,_=>none
 |[],_=>none
abbrev Lj:@&D->Option Str
 |[]=>!Str.empty
 |.str x::r=>(Lj r).map λy=>x++y
 |_=>none
structure Xn where
 cls:Str
noncomputable abbrev G:=@&O
noncomputable abbrev S:=@&(Option D)
noncomputable abbrev KD:=D->G->Prop
noncomputable abbrev KX:=Xn->G->Prop
noncomputable abbrev jD:KX:=λx x=>False
abbrev Hv:Option O->Option (@&D)
 |some (.lst l)=>!l
 |some (.qv l)=>!l
 |_=>none
noncomputable abbrev d7(g:G)(a:Nat):Option (@&D):=Hv g[a]?
abbrev rd(g:G):Nat->D->Option PyData
 |_,.bq=>!.none
 |_,.bl b=>!.bool b
 |_,.int i=>!.int i
 |_,.str x=>!.str x
 |_,.ty _=>none
 |0,.ref _=>none
 |0,.tup _=>none
 |n+1,.ref a=>match d7 g a with
  |some l=>(l.mapM (rd g n)).map .list
  |none=>none
 |n+1,.tup l=>(l.mapM (rd g n)).map .tuple
abbrev RZ(g:G)(l:@&D):Option (@&PyData):=l.mapM (rd g 6)
abbrev M8(g:G):D->Option (@&D)
 |.tup l=>!l
 |.ref a=>d7 g a
 |_=>none
abbrev V2:D->Bool
 |.bq=>true
 |_=>false
abbrev cut{α:Type}(xs:List α)(lo hi:Option Int):List α:=(xs.drop (HT.eK (-xs) 0 lo)).take (HT.eK (-xs) (-xs) hi-HT.eK (-xs) 0 lo)
abbrev uq(g:G)(x:D)(c:String):Option Bool:=match x with
 |.bq=>!(c=="NoneType")
 |.bl _=>!(c=="bool"||c=="int")
 |.int _=>!(c=="int")
 |.str _=>!(c=="str")
 |.tup _=>!(c=="tuple")
 |.ref a=>match g[a]? with
  |some (.lst _)=>!(c=="list")
  |_=>none
 |.ty _=>none
abbrev E1(lo:Int)(n:Nat):@&D:=(List.range n).map λ(k:Nat)=>.int (lo+k)
abbrev se:@&D->Option Bool
 |[]=>!true
 |.bl b::r=>(se r).map λc=>b&&c
 |_=>none
inductive Pr where
 |bin (op:Operator)|un (op:UnaryOp)|cmp (op:CmpOp)
 |ix|nE (lo hi:Bool)|rev|tup|lst|nt
 |len|list|tuple|isin|all|max|min|int|str|nK|nJ|sset|RS|iW
 |UP|EM|om|fv|EO|fld (f:Str)
 |append|pop|get|index|join|iadd|clear|sV|extend|any|eA|sum|oy|nN|kM|CP|oo|mS|jx|kL (i:Int)
noncomputable abbrev DR:=@&D->G->D->G->Prop
abbrev arR:Operator->Int->Int->Int->Prop
 |.Add,i,j,r=>r=i+j
 |.Sub,i,j,r=>r=i-j
 |.Mult,i,j,r=>ug i j/\r=i*j
 |.FloorDiv,i,j,r=>Fo i j/\r=i / j
 |.Mod,i,j,r=>0<j/\r=i % j
 |.Pow,i,j,r=>ph i j/\r=i ^ j.toNat
 |.LShift,i,j,r=>ph i j/\r=i*2 ^ j.toNat
 |.BitAnd,i,j,r=>r=Builtin.bitAnd i j
 |.BitOr,i,j,r=>r=Builtin.bitOr i j
 |_,_,_,_=>False
def Vp(op:Operator):DR:=λxs g d g' =>
 (∃i j r,xs=[.int i,.int j]/\arR op i j r/\d=.int r/\g'=g) \/
 (op=.Add/\((∃ l m,xs=[.tup l,.tup m]/\-l + -m <= 100000/\d=.tup (l ++ m)/\g'=g) \/
  (∃a b l m,xs=[.ref a,.ref b]/\g[a]?=!.lst l/\g[b]?=!.lst m/\-l+-m<=100000/\d=.ref (-g)/\g'=g++[.lst (l++m)]) \/
  False)) \/
 (op=.Mult/\(∃a l n,xs=[.ref a,.int n]/\g[a]?=!.lst l/\-(2 ^ 62)<=n/\n<2 ^ 62/\-l*n.toNat<=100000/\d=.ref (-g)/\g'=g++[.lst (List.replicate n.toNat l).flatten]))
def RI(op:UnaryOp):DR:=λxs g d g'=>op=.USub/\∃i,xs=[.int i]/\d=.int (-(i))/\g'=g
abbrev xS(g:G)(x y:D)(b:Bool):Prop :=
 (∃i j,x=.int i/\y=.int j/\b=decide (i=j))\/(∃i j,x=.bl i/\y=.bl j/\b=(i==j))\/(∃i j,x=.str i/\y=.str j/\b=decide (i=j)) \/
 ∃p q,rd g 6 x=!p/\rd g 6 y=!q/\p.canLay0=true/\q.canLay0=true/\b=PyData.eqv p q
abbrev inR(g:G)(x y:D)(b:Bool):Prop :=
 (∃a kvs c,y=.ref a/\g[a]?=!.cy kvs/\ox x=!c/\b=(x6 kvs c).isSome) \/
 ∃l ps p,M8 g y=!l/\RZ g l=!ps/\rd g 6 x=!p/\PyData.canLayAll0 ps=true/\p.canLay0=true/\b=(ps.any λq=>PyData.eqv q p)
def MX(g:G)(x y:D)(b:Bool):Prop:=∃a S n i,y=.ref a/\g[a]?=!.set S n/\x=.int i/\b=S i
abbrev MF(g:G)(x y:D)(b:Bool):CmpOp->Prop
 |.Eq=>xS g x y b
 |.NotEq=>xS g x y (~~~b)
 |.In=>inR g x y b\/MX g x y b
 |.NotIn=>inR g x y (~~~b)\/MX g x y (~~~b)
 |.Lt=>∃i j,x=.int i/\y=.int j/\b=decide (i<j)
 |.LtE=>∃i j,x=.int i/\y=.int j/\b=decide (i<=j)
 |.Gt=>∃i j,x=.int i/\y=.int j/\b=decide (j<i)
 |.GtE=>∃i j,x=.int i/\y=.int j/\b=decide (j<=i)
 |.Is=>y=.bq/\b=V2 x
 |.IsNot=>y=.bq/\b= ~~~V2 x
def Vu(op:CmpOp):DR:=λxs g d g'=>∃x y b,xs=[x,y]/\MF g x y b op/\d=.bl b/\g'=g
abbrev M'(g:G)(x:D)(b:Bool):Prop :=
 (x=.bq/\b=false)\/x=.bl b\/(∃i,x=.int i/\b=(i != 0))\/(∃l,x=.tup l/\b= ~~~l.isEmpty)\/∃a l,x=.ref a/\d7 g a=!l/\b= ~~~l.isEmpty
def SM:DR:=λxs g d g'=>g'=g/\((∃x l i,xs=[x,.int i]/\M8 g x=!l/\iX l i=!d)\/(∃a kvs y c,xs=[.ref a,y]/\g[a]?=!.cy kvs/\ox y=!c/\x6 kvs c=!d) \/
 False)
def wq(x:D)(lo hi:Option Int)(g:G)(d:D)(g':G):Prop:=(∃l,x=.tup l/\d=.tup (cut l lo hi)/\g'=g)\/∃a l,x=.ref a/\d7 g a=!l/\d=.ref (-g)/\g'=g++[.lst (cut l lo hi)]
abbrev Ww:Bool->Bool->DR
 |false,false,xs,g,d,g'=>∃x,xs=[x]/\wq x none none g d g'
 |true,false,xs,g,d,g'=>∃x i,xs=[x,.int i]/\wq x (!i) none g d g'
 |false,true,xs,g,d,g'=>∃x j,xs=[x,.int j]/\wq x none (!j) g d g'
 |true,true,xs,g,d,g'=>∃x i j,xs=[x,.int i,.int j]/\wq x (!i) (!j) g d g'
def Ws:DR:=λxs g d g'=>(∃l,xs=[.tup l]/\d=.tup l.reverse/\g'=g)\/∃a l,xs=[.ref a]/\d7 g a=!l/\d=.ref (-g)/\g'=g++[.lst l.reverse]
def b97:DR:=λxs g d g'=>-xs<=1000/\d=.tup xs/\g'=g
def VN:DR:=λxs g d g'=>-xs<=1000/\d=.ref (-g)/\g'=g++[.lst xs]
abbrev vK:@&D->@&(Key×D)->Option (List (Key×D))
 |[],kvs=>!kvs
 |k::v::r,kvs=>(ox k).bind λc=>vK r (putD kvs c v)
 |_,_=>none
def b71:DR:=λxs g d g'=>xs=[]/\d=.ref (-g)/\g'=g++[.cy []]
def VL:DR:=λxs g d g'=>g'=g/\((∃x l,xs=[x]/\M8 g x=!l/\d=.int (-l))\/(∃a kvs,xs=[.ref a]/\g[a]?=!.cy kvs/\d=.int (-kvs))\/False)
abbrev kD:Key->D
 |.inl i=>.int i
 |.inr x=>.str x
def b48:DR:=λxs g d g'=>(∃x l,xs=[x]/\M8 g x=!l/\d=.ref (-g)/\g'=g++[.lst l])\/∃a kvs,xs=[.ref a]/\g[a]?=!.cy kvs/\-kvs<=10000/\d=.ref (-g)/\g'=g++[.lst ((kvs.map (·.1)).map kD)]
def bL7:DR:=λxs g d g'=>∃x l,xs=[x]/\M8 g x=!l/\d=.tup l/\g'=g
def b60:DR:=λxs g d g'=>∃x c b,xs=[x,.ty c]/\c∈["int","bool","str","tuple","list"]/\uq g x c=!b/\d=.bl b/\g'=g
def allR:DR:=λxs g d g'=>∃a l b,xs=[.ref a]/\d7 g a=!l/\(se l=!b\/∃ns:@&Int,l=ns.map .int/\b=ns.all λn=>n != 0)/\d=.bl b/\g'=g
abbrev Ng:@&D->Option Bool
 |[]=>!false
 |.bl b::r=>(Ng r).map λc=>b||c
 |_=>none
def anyR:DR:=λxs g d g'=>∃a l b,xs=[.ref a]/\d7 g a=!l/\Ng l=!b/\d=.bl b/\g'=g
def bO0:DR:=λxs g d g'=>(∃a kvs ns,xs=[.ref a]/\g[a]?=!.cy kvs/\kvs.map (·.1)=ns.map Sum.inl/\-ns<60/\d=.ref (-g)/\g'=g++[.lst ((p9 ns).map .int)])\/∃x,∃ns:@&Int,xs=[x]/\M8 g x=!ns.map .int/\-ns<60/\d=.ref (-g)/\g'=g++[.lst ((qT ns).map .int)]
def VO:DR:=λxs g d g'=>g'=g/\((∃i j,xs=[.int i,.int j]/\d=.int (if j>i then j else i))\/∃a,∃(ns:@&Int) (M:Int),xs=[.ref a]/\d7 g a=!ns.map .int/\M∈ns/\(∀x∈ns,x<=M)/\d=.int M)
def VQ:DR:=λxs g d g'=>g'=g/\((∃i j,xs=[.int i,.int j]/\d=.int (if j<i then j else i))\/(∃a,∃(ns:@&Int) (M:Int),xs=[.ref a]/\d7 g a=!ns.map .int/\M∈ns/\(∀x∈ns,M<=x)/\d=.int M)\/∃a b,∃(ns ms:@&Int),xs=[.ref a,.ref b]/\g[a]?=!.lst (ns.map .int)/\g[b]?=!.lst (ms.map .int)/\-ms=-ns/\d=if L2.ML ms ns then .ref b else .ref a)
def b20:DR:=λxs g d g'=>∃a i S n,xs=[.ref a,.int i]/\g[a]?=!.set S n/\n+1<4096/\d=.bq/\g'=g.set a (.set (λk=>S k||decide (k=i)) (if S i then n else n+1))
def b49:DR:=λxs g d g'=>∃a,∃ns:@&Int,xs=[.ref a]/\d7 g a=!ns.map .int/\-ns<600/\d=.ref (-g)/\g'=g++[.set (λk=>decide (k∈ns)) (ST.k9 [] ns).length]
def bP9(i:Int):DR:=λxs g d g'=>xs=[]/\d=.ref (-g)/\g'=g++[.set (λk=>decide (k=i)) 1]
def Wz:DR:=λxs g d g'=>∃a,∃ns:@&Int,xs=[.ref a]/\d7 g a=!ns.map .int/\d=.int ns.sum/\g'=g
def b47:DR:=λxs g d g'=>∃a,∃ns:@&Int,xs=[.ref a]/\d7 g a=!ns.map .int/\-ns<60/\d=.int (ST.k9 [] ns).length/\g'=g
def b59:DR:=λxs g d g'=>∃i j,xs=[.int i,.int j]/\d=.int (i-j)/\g'=g
def VI:DR:=λxs g d g'=>g'=g/\((∃i,xs=[.int i]/\d=.int i)\/∃b,xs=[.bl b]/\d=.int (if b then 1 else 0))
def Wx:DR:=λxs g d g'=>(∃i,xs=[.int i]/\i.natAbs.log2<1920/\d=.str (toString i)/\g'=g)\/∃x,xs=[.str x]/\d=.str x/\g'=g
def bV4:DR:=λxs g d g'=>∃j,xs=[.int j]/\-(2 ^ 62)<=j/\j<=100000/\d=.ref (-g)/\g'=g++[.lst (E1 0 j.toNat)]
def bV3:DR:=λxs g d g'=>∃i j,xs=[.int i,.int j]/\(-(2 ^ 62)<=i/\i<2 ^ 62/\-(2 ^ 62)<=j/\j<2 ^ 62/\j-i<=100000)/\d=.ref (-g)/\g'=g++[.lst (E1 i (j-i).toNat)]
def b17:DR:=λxs g d g'=>∃a ns,xs=[.ref a]/\d7 g a=!ns.map .int/\-ns<60/\d=.ref (-g)/\g'=g++[.lst ((p9 ns).map .int)]
def WA:DR:=λxs g d g'=>∃ns ms:@&Int,xs=[.tup (ns.map .int),.tup (ms.map .int)]/\(∀k∈ns,ST.Spot k)/\(∀k∈ms,ST.Spot k)/\-ns+-ms<50/\d=.ref (-g)/\g'=g++[.lst ((p9 (ns++ms)).map .int)]
def MJ(neg:Bool):DR:=λxs g d g'=>∃kvs x,xs=[.tup kvs,.str x]/\d=.bl (xor neg (Z0 kvs x).isSome)/\g'=g
def b66:DR:=λxs g d g'=>∃kvs x,xs=[.tup kvs,.str x]/\Z0 kvs x=!d/\g'=g
def UU:DR:=λxs g d g'=>g'=g/\((∃i,xs=[.int i]/\i.natAbs.log2<1920/\d=.str (toString i))\/∃x,xs=[.str x]/\-x<=2000/\d=.str x)
def b67:DR:=λxs g d g'=>∃x,Lj xs=!x/\d=.str x/\g'=g
def VC(f:Str):DR:=λxs g d g'=>∃a c fs,xs=[.ref a]/\g[a]?=!.ins c fs/\fs.lookup f=!d/\g'=g
def appendR:DR:=λxs g d g'=>∃a y l,xs=[.ref a,y]/\g[a]?=!.lst l/\-l<100000/\d=.bq/\g'=g.set a (.lst (l++[y]))
def We:DR:=λxs g d g'=>∃a i l k,xs=[.ref a,.int i]/\g[a]?=!.lst l/\-(2 ^ 63)<=i/\i<2 ^ 63/\seqIndex? i (-l)=!k/\l[k]?=!d/\g'=g.set a (.lst (l.eraseIdx k))
def VE:DR:=λxs g d g'=>∃a y z kvs c,xs=[.ref a,y,z]/\g[a]?=!.cy kvs/\ox y=!c/\d=(x6 kvs c).getD z/\g'=g
abbrev Bo:D->Bool
 |.bq=>true
 |.bl _=>true
 |.int _=>true
 |.str _=>true
 |_=>false
abbrev toV:D->V
 |.bl b=>.bl b
 |.int i=>.int i
 |.str x=>.str x
 |_=>.bq
def Bz(l:@&D)(y:D)(n:Nat):Prop:=l.all Bo=true/\Bo y=true/\(∃z,l[n]?=!z/\lM (toV z) (toV y)=true)/\∀(m:Nat) z,m<n->l[m]?=!z->lM (toV z) (toV y)=false
def bW9:DR:=λxs g d g'=>∃x y l n,xs=[x,y]/\M8 g x=!l/\Bz l y n/\-l<=100000/\d=.int n/\g'=g
def joinR:DR:=λxs g d g'=>∃sep a ys,xs=[.str sep,.ref a]/\d7 g a=!ys.map .str/\bI7 sep ys<=100000/\d=.str (Builtin.Str.glued sep ys)/\g'=g
def b62:DR:=λxs g d g'=>(∃i j,xs=[.int i,.int j]/\d=.int (i+j)/\g'=g)\/∃l m,xs=[.tup l,.tup m]/\-l+-m<=100000/\d=.tup (l++m)/\g'=g
def bY2:DR:=λxs g d g'=>∃a l,xs=[.ref a]/\g[a]?=!.lst l/\d=.bq/\g'=g.set a (.lst [])
def b29:DR:=λxs g d g'=>∃a l,xs=[.ref a]/\g[a]?=!.lst (l++[d])/\g'=g.set a (.lst l)
def bJ8:DR:=λxs g d g'=>∃a b l m,xs=[.ref a,.ref b]/\g[a]?=!.lst l/\g[b]?=!.lst m/\-l+-m<=100000/\d=.bq/\g'=g.set a (.lst (l++m))
def bX9:DR:=λxs g d g'=>(∃a kvs,xs=[.ref a]/\g[a]?=!.cy kvs/\d=.ref (-g)/\g'=g++[.cy kvs])\/∃a,∃ks:@&Int,xs=[.ref a]/\d7 g a=!(ks.map λk=>.tup [.int k,.bl true])/\-ks<=1000/\ks.Nodup/\d=.ref (-g)/\g'=g++[.cy (ks.map λk=>(.inl k,.bl true))]
abbrev mR(p:Key×Int×Int):Key×D:=(p.1,.tup [.int p.2.1,.int p.2.2])
def sj(n:Int)(p:Key×Int×Int):Bool:= ~~~(decide (p.2.1=n)||decide (p.2.2=n))
def b72:DR:=λxs g d g'=>∃a n,∃fs:@&(Key×Int×Int),xs=[.ref a,.int n]/\g[a]?=!.cy (fs.map mR)/\-fs<1000/\(fs.map (·.1)).Nodup/\d=.ref (-g)/\g'=g++[.cy ((fs.filter (sj n)).map mR)]
abbrev uo(ns:@&Int):@&(Key×D):=ns.zipIdx.map λp=>(.inl p.1,.int p.2)
def b73:DR:=λxs g d g'=>∃a,∃ns:@&Int,xs=[.ref a]/\g[a]?=!.lst (ns.map .int)/\-ns<1000/\ns.Nodup/\d=.ref (-g)/\g'=g++[.cy (uo ns)]
abbrev delD(kvs:@&(Key×D))(k:Key):@&(Key×D):=kvs.filter λkv=>decide (kv.1≠k)
def b70:DR:=λxs g d g'=>∃a y kvs c,xs=[.ref a,y]/\g[a]?=!.cy kvs/\ox y=!c/\x6 kvs c=!d/\g'=g.set a (.cy (delD kvs c))
abbrev PR:Pr->DR
 |.oo=>b72
 |.mS=>b73
 |.jx=>b70
 |.clear=>bY2
 |.any=>anyR
 |.sum=>Wz
 |.kM=>b20
 |.CP=>b49
 |.kL i=>bP9 i
 |.oy=>b47
 |.nN=>b59
 |.eA=>bO0
 |.extend=>bJ8
 |.sV=>b29
 |.iW=>bX9
 |.bin op=>Vp op
 |.un op=>RI op
 |.cmp op=>Vu op
 |.ix=>SM
 |.nE a b=>Ww a b
 |.rev=>Ws
 |.tup=>b97
 |.lst=>VN
 |.nt=>b71
 |.len=>VL
 |.list=>b48
 |.tuple=>bL7
 |.isin=>b60
 |.all=>allR
 |.max=>VO
 |.min=>VQ
 |.int=>VI
 |.str=>Wx
 |.nK=>bV4
 |.nJ=>bV3
 |.sset=>b17
 |.RS=>WA
 |.UP=>MJ false
 |.EM=>MJ true
 |.om=>b66
 |.fv=>UU
 |.EO=>b67
 |.fld f=>VC f
 |.append=>appendR
 |.pop=>We
 |.get=>VE
 |.index=>bW9
 |.join=>joinR
 |.iadd=>b62
def cI(p:Pr)(xs:@&D)(g:G)(Q:KD):Prop:=∃d g',PR p xs g d g'/\Q d g'
def vh(g:G)(x y:D)(k:Bool->Prop):Prop:=∃b,xS g x y b/\k b
def oP(g:G)(x y:D)(k:Bool->Prop):Prop:=∃b,inR g x y b/\k b
def qO(g:G)(x:D)(k:Bool->Prop):Prop:=∃b,M' g x b/\k b
def Wv(x y v:D)(g g':G):Prop:=(∃a i l j,x=.ref a/\y=.int i/\g[a]?=!.lst l/\nM (-l) i=!j/\g'=g.set a (.lst (l.set j v))) \/
 ∃a kvs c,x=.ref a/\g[a]?=!.cy kvs/\ox y=!c/\-kvs<100000/\g'=g.set a (.cy (putD kvs c v))
def pv(x y v:D)(g:G)(k:G->Prop):Prop:=∃g',Wv x y v g g'/\k g'
def Lu(f:Str)(cs:@&Str)(x v:D)(g g':G):Prop:=∃a c fs,x=.ref a/\g[a]?=!.ins c fs/\c∈cs/\-fs<100/\g'=g.set a (.ins c (m7 f v fs))
def yc(f:Str)(cs:@&Str)(x v:D)(g:G)(k:G->Prop):Prop:=∃g',Lu f cs x v g g'/\k g'
abbrev lQ:Pr->D->G->Prop
 |.get,x,g=>∃a kvs,x=.ref a/\g[a]?=!.cy kvs
 |.jx,x,g=>∃a kvs,x=.ref a/\g[a]?=!.cy kvs
 |.join,x,g=>∃y,x=.str y
 |.kM,x,g=>∃a S n,x=.ref a/\g[a]?=!.set S n
 |.index,x,g=>∃a l,x=.ref a/\d7 g a=!l
 |_,x,g=>∃a l,x=.ref a/\d7 g a=!l
inductive IK where
 |fix (l:@&D)|lst (a:Nat)|ub (a:Nat)|uR (a n:Nat)
abbrev IK.at:IK->Nat->G->Option (Option D)
 |.fix l,i,_=>some l[i]?
 |.lst a,i,g=>match d7 g a with
  |some l=>some l[i]?
  |none=>none
 |.ub a,i,g=>match d7 g a with
  |some l=>!(l[i]?.map λd=>.tup [.int i,d])
  |none=>none
 |.uR a n,i,g=>match d7 g a with
  |some l=>if (-l)=n then some (if i<n then l[n-1-i]? else none) else none
  |none=>none
inductive MT where
 |one (i:Nat)|many (is:@&Nat)
abbrev Z4:@&Nat->@&D->S->Option S
 |[],[],σ=>!σ
 |i::is,d::ds,σ=>Z4 is ds (σ.set i (!d))
 |_,_,_=>none
def ko(t:MT)(x:D)(σ:S)(k:S->Prop):Prop:=match t with
 |.one i=>k (σ.set i (!x))
 |.many is=>∃l cg,x=.tup l/\Z4 is l σ=!cg/\k cg
set_option genInjectivity false in
set_option genSizeOf false in
inductive ME where
 |var (i:Nat)|lit (d:D)
 |nil|cons (a b:ME)|prim (p:Pr) (es:ME)|dX (p:Pr) (o es:ME)|oq (es:ME)
 |chain (o1 o2:CmpOp) (a b c:ME)
 |dZ (a b:ME)|iu (a b:ME)|du (a:ME)|ite (c a b:ME)
 |call (f:Nat) (es:ME)|make (c:Str) (f:Nat) (es:ME)|bJ (m:Str) (cs:@&(Str×Nat)) (o es:ME)
 |comp (d8:@&Nat) (n:Nat) (tg:MT) (it cond elt:ME)|ir (d8:@&Nat) (n:Nat) (tg:MT) (it cond elt:ME)
 |eQ (e:ME)|fo (a:ME)|jJ (a b:ME)|lF (e:ME)|oO (e:ME)|eP (e:ME)|no
noncomputable abbrev eZ:=Nat->@&D->G->KD->KX->Prop
def P0(σ:S)(d8:@&Nat)(n:Nat):S:=d8.map (λj=>(σ[j]?).join)++List.replicate (n- -d8) none
abbrev turns(k:IK)(σ:S)(g:G)(fin:S->G->Prop)(turn:D->(S->G->Prop)->S->G->Prop):Prop :=
 ∃W:Nat->Nat->S->G->Prop,(∃m,W 0 m σ g)/\∀i m σ g,W i m σ g->(k.at i g=!none/\fin σ g)\/∃x,k.at i g=!!x/\∃N2:S->G->Prop,(∀cg g',N2 cg g'->∃m',m'<m/\W (i+1) m' cg g')/\turn x N2 σ g
abbrev HI(k:IK)(σ:S)(g:G)(fin:@&D->G->Prop)(turn:D->(Option D->S->G->Prop)->S->G->Prop):Prop :=
 ∃W:Nat->Nat->@&D->S->G->Prop,(∃m,W 0 m [] σ g)/\∀i m ys σ g,W i m ys σ g->(k.at i g=!none/\fin ys g) \/
  ∃x,k.at i g=!!x/\-ys<100000/\turn x (λy cg g'=>∃m',m'<m/\W (i+1) m' (ys++y.toList) cg g') σ g
abbrev HJ(k:IK)(σ:S)(g:G)(fin:@&Int->G->Prop)(turn:D->(Option Int->S->G->Prop)->S->G->Prop):Prop :=
 ∃W:Nat->Nat->@&Int->S->G->Prop,(∃m,W 0 m [] σ g)/\∀i m ys σ g,W i m ys σ g->(k.at i g=!none/\-ys<60/\fin ys g) \/
  ∃x,k.at i g=!!x/\-ys<60/\turn x (λy cg g'=>∃m',m'<m/\W (i+1) m' (ys++y.toList) cg g') σ g
mutual
noncomputable def aY(P:eZ):ME->S->G->KD->KX->Prop
 |.var i,σ,g,Q,_=>∃d,σ[i]?=!!d/\Q d g
 |.lit d,_,g,Q,_=>Q d g
 |.prim p es,σ,g,Q,E=>fU P es σ g (λxs g1=>cI p xs g1 Q) E
 |.dX p o es,σ,g,Q,E=>aY P o σ g (λx g1=>lQ p x g1/\fU P es σ g1 (λxs g2=>cI p (x::xs) g2 Q) E) E
 |.oq es,σ,g,Q,E=>fU P es σ (g++[.cy []]) (λxs g1=>∃kvs,vK xs []=!kvs/\-xs<=30/\g1[(-g)]?=!.cy []/\Q (.ref (-g)) (g1.set (-g) (.cy kvs))) E
 |.chain o1 o2 a b c,σ,g,Q,E=>aY P a σ g (λx g1=>aY P b σ g1 (λy g2=>cI (.cmp o1) [x,y] g2 λz g3=>∃t,z=.bl t/\if t=true then aY P c σ g3 (λw g4=>cI (.cmp o2) [y,w] g4 Q) E else Q (.bl false) g3) E) E
 |.dZ a b,σ,g,Q,E=>aY P a σ g (λx g1=>∃t,x=.bl t/\if t=true then aY P b σ g1 Q E else Q (.bl false) g1) E
 |.iu a b,σ,g,Q,E=>aY P a σ g (λx g1=>∃t,x=.bl t/\if t=true then Q (.bl true) g1 else aY P b σ g1 Q E) E
 |.du a,σ,g,Q,E=>aY P a σ g (λx g1=>∃t,x=.bl t/\Q (.bl (~~~t)) g1) E
 |.ite c a b,σ,g,Q,E=>et P c σ g (λt g1=>if t=true then aY P a σ g1 Q E else aY P b σ g1 Q E) E
 |.call f es,σ,g,Q,E=>fU P es σ g (λxs g1=>P f xs g1 Q E) E
 |.make c f es,σ,g,Q,E=>fU P es σ g (λxs g1=>P f (.ref (-g1)::xs) (g1++[.ins c []]) (λd g2=>d=.bq/\Q (.ref (-g1)) g2) E) E
 |.bJ m cs o es,σ,g,Q,E=>aY P o σ g (λx g1=>∃a c fs f,x=.ref a/\g1[a]?=!.ins c fs/\fs.lookup m=none/\cs.lookup c=!f/\fU P es σ g1 (λxs g2=>P f (x::xs) g2 Q E) E) E
 |.comp d8 n tg it cond elt,σ,g,Q,E=>gR P it σ g (λk g1=>HI k (P0 σ d8 n) g1 (λys g=>Q (.ref (-g)) (g++[.lst ys])) λx N σ g=>ko tg x σ λcE=>et P cond cE g (λb g3=>if b=true then aY P elt cE g3 (λy g4=>N (!y) cE g4) jD else N none cE g3) jD) E
 |.ir d8 n tg it cond elt,σ,g,Q,E=>gR P it σ g (λk g1=>HJ k (P0 σ d8 n) g1 (λys g=>Q (.ref (-g)) (g++[.lst ((p9 ys).map .int)])) λx N σ g=>ko tg x σ λcE=>et P cond cE g (λb g3=>if b=true then aY P elt cE g3 (λy g4=>∃j,y=.int j/\N (!j) cE g4) jD else N none cE g3) jD) E
 |.nil,_,_,_,_=>False
 |.cons _ _,_,_,_,_=>False
 |.eQ _,_,_,_,_=>False
 |.fo _,_,_,_,_=>False
 |.jJ _ _,_,_,_,_=>False
 |.lF _,_,_,_,_=>False
 |.oO _,_,_,_,_=>False
 |.eP _,_,_,_,_=>False
 |.no,_,_,_,_=>False
noncomputable def fU(P:eZ):ME->S->G->(List D->G->Prop)->KX->Prop
 |.nil,_,g,Q,_=>Q [] g
 |.cons a b,σ,g,Q,E=>aY P a σ g (λx g1=>fU P b σ g1 (λxs g2=>Q (x::xs) g2) E) E
 |_,_,_,_,_=>False
noncomputable def et(P:eZ):ME->S->G->(Bool->G->Prop)->KX->Prop
 |.dZ a b,σ,g,Q,E=>et P a σ g (λt g1=>if t=true then et P b σ g1 Q E else Q false g1) E
 |.iu a b,σ,g,Q,E=>et P a σ g (λt g1=>if t=true then Q true g1 else et P b σ g1 Q E) E
 |.du a,σ,g,Q,E=>et P a σ g (λt g1=>Q (~~~t) g1) E
 |.no,_,g,Q,_=>Q true g
 |.eP e,σ,g,Q,E=>aY P e σ g (λx g1=>qO g1 x λb=>Q b g1) E
 |_,_,_,_,_=>False
noncomputable def gR(P:eZ):ME->S->G->(IK->G->Prop)->KX->Prop
 |.eQ e,σ,g,R,E=>aY P e σ g (λx g1=>(∃l,x=.tup l/\R (.fix l) g1)\/∃a l,x=.ref a/\d7 g1 a=!l/\R (.lst a) g1) E
 |.fo a,σ,g,R,E=>aY P a σ g (λx g1=>∃j:Int,x=.int j/\-(2 ^ 62)<=j/\j<2 ^ 62/\R (.fix (E1 0 j.toNat)) g1) E
 |.jJ a b,σ,g,R,E=>aY P a σ g (λx g1=>aY P b σ g1 (λy g2=>∃i j:Int,x=.int i/\y=.int j/\(-(2 ^ 62)<=i/\i<2 ^ 62/\-(2 ^ 62)<=j/\j<2 ^ 62)/\R (.fix (E1 i (j-i).toNat)) g2) E) E
 |.lF e,σ,g,R,E=>aY P e σ g (λx g1=>∃a l,x=.ref a/\d7 g1 a=!l/\R (.ub a) g1) E
 |.oO e,σ,g,R,E=>aY P e σ g (λx g1=>∃a l,x=.ref a/\d7 g1 a=!l/\R (.uR a (-l)) g1) E
 |_,_,_,_,_=>False
end
set_option genInjectivity false in
set_option genSizeOf false in
inductive MS where
 |pass|seq (a b:MS)|expr (e:ME)|set (i:Nat) (e:ME)|nC (t:MT) (e:ME)|df (o i v:ME)|fH (f:Str) (cs:@&Str) (o v:ME)
 |kY (f:Str) (cs:@&Str) (o v:ME)|kh (i:Nat) (p:Pr) (v:ME)|zD (o1 i1 o2 i2 e:ME)
 |ifs (c:ME) (a b:MS)|gL (t:MT) (it:ME) (b:MS)|jW (c:ME) (b:MS)|ret (e:ME)|sR|brk|cont
 |raise (x:Str) (es:ME)|qP (b:MS) (hs:@&(Str×ME))
structure Ends where
 nx:S->G->Prop
 rt:KD
 bk:S->G->Prop:=λ_ _=>False
 ct:S->G->Prop:=λ_ _=>False
abbrev oJ(P:eZ)(N:Ends)(σ:S)(E:KX):@&(Str×ME)->KX
 |[],x,g=>E x g
 |(y,e)::r,x,g=>if x.cls=y\/y="MintError" then aY P e σ g N.rt jD else oJ P N σ E r x g
abbrev wpS(P:eZ):MS->Ends->S->G->KX->Prop
 |.pass,N,σ,g,_=>N.nx σ g
 |.seq a b,N,σ,g,E=>wpS P a { N with nx:=λjm g1=>wpS P b N jm g1 E } σ g E
 |.expr e,N,σ,g,E=>aY P e σ g (λs g1=>N.nx σ g1) E
 |.set i e,N,σ,g,E=>aY P e σ g (λx g1=>N.nx (σ.set i (!x)) g1) E
 |.nC t e,N,σ,g,E=>aY P e σ g (λx g1=>ko t x σ λjm=>N.nx jm g1) E
 |.df o i v,N,σ,g,E=>aY P v σ g (λx g1=>aY P o σ g1 (λy g2=>aY P i σ g2 (λz g3=>pv y z x g3 λg4=>N.nx σ g4) E) E) E
 |.fH f cs o v,N,σ,g,E=>aY P v σ g (λx g1=>aY P o σ g1 (λy g2=>yc f cs y x g2 λg3=>N.nx σ g3) E) E
 |.kY f cs o v,N,σ,g,E=>aY P o σ g (λy g1=>∃a c fs x,y=.ref a/\g1[a]?=!.ins c fs/\c∈cs/\fs.lookup f=!x/\aY P v σ g1 (λz g3=>cI .iadd [x,z] g3 λw g4=>∃jB,g4[a]?=!.ins c jB/\-jB<100/\N.nx σ (g4.set a (.ins c (m7 f w jB)))) E) E
 |.zD o1 i1 o2 i2 e,N,σ,g,E=>aY P e σ g (λx g1=>∃u v,x=.tup [u,v]/\aY P o1 σ g1 (λy1 g2=>aY P i1 σ g2 (λz1 g3=>pv y1 z1 u g3 λg4=>aY P o2 σ g4 (λy2 g5=>aY P i2 σ g5 (λz2 g6=>pv y2 z2 v g6 λg7=>N.nx σ g7) E) E) E) E) E
 |.kh i p v,N,σ,g,E=>∃x,σ[i]?=!!x/\aY P v σ g (λz g1=>cI p [x,z] g1 λw g2=>N.nx (σ.set i (!w)) g2) E
 |.ifs c a b,N,σ,g,E=>et P c σ g (λt g1=>if t=true then wpS P a N σ g1 E else wpS P b N σ g1 E) E
 |.gL t it b,N,σ,g,E=>gR P it σ g (λk g1=>turns k σ g1 N.nx λx N2 σ g=>ko t x σ λcE=>wpS P b { N with nx:=N2,ct:=N2,bk:=N.nx } cE g E) E
 |.jW c b,N,σ,g,E=>∃W:Nat->S->G->Prop,(∃m,W m σ g)/\∀m σ g,W m σ g->et P c σ g (λt g1=>if t=true then ∃N2:S->G->Prop,(∀cg g',N2 cg g'->∃m',m'<m/\W m' cg g')/\wpS P b { N with nx:=N2,ct:=N2,bk:=N.nx } σ g1 E else N.nx σ g1) E
 |.ret e,N,σ,g,E=>aY P e σ g N.rt E
 |.sR,N,_,g,_=>N.rt .bq g
 |.brk,N,σ,g,_=>N.bk σ g
 |.cont,N,σ,g,_=>N.ct σ g
 |.raise x es,_,σ,g,E=>fU P es σ g (λvs g1=>-vs<=1000/\E #[x] g1) E
 |.qP b hs,N,σ,g,E=>wpS P b N σ g (oJ P N (σ.map λs=>none) E hs)
structure aQ where
 ar:Nat
 n:Nat
 body:MS
def b8(m:aQ)(ds:@&D):S:=ds.map some++List.replicate (m.n- -ds) none
abbrev b7(T:Nat->Option aQ):Nat->eZ
 |0,_,_,_,_,_=>False
 |k+1,f,ds,g,Q,E=>∃m,T f=!m/\-ds=m.ar/\wpS (b7 T k) m.body #[λx g'=>Q .bq g',Q,λx x=>False,λx x=>False] (b8 m ds) g E
end M
namespace M
open PySem L2
variable{g:G}{K:PySem.W.Frag}{H:Hp}{a p:Addr}{vs:@&V}{i:Nat}{o:O}{u:HO}{l:@&D}
def y4{p xs}{Q Q'}(h:∀d g,Q d g->Q' d g)(q:cI p xs g Q):cI p xs g Q':=by
 let#[d,g',a,b]:=q;show#[d,g',a,h _ _ b]
def bb7{x}{k k'}(h:∀b,k b->k' b)(q:qO g x k):qO g x k':=by
 let#[b,a,z]:=q;show#[b,a,h _ z]
def Ba{x y v}{k k'}(h:∀g,k g->k' g)(q:pv x y v g k):pv x y v g k':=by
 let#[b,a,z]:=q;show#[b,a,h _ z]
def a54{f cs x v}{k k'}(h:∀g,k g->k' g)(q:yc f cs x v g k):yc f cs x v g k':=by
 let#[b,a,z]:=q;show#[b,a,h _ z]
def E0{t x σ}{k k'}(h:∀σ,k σ->k' σ)(q:ko t x σ k):ko t x σ k':=by
 cases t with
 |one i=>show h _ q
 |many is=>let#[l,cg,a,b,c]:=q;show#[l,cg,a,b,h _ c]
def a43{k σ g}{fin kW}{turn iS}(h:∀σ g,fin σ g->kW σ g)(h2:∀x N σ g,turn x N σ g->iS x N σ g)(q:turns k σ g fin turn):turns k σ g kW iS:=by
 let#[W,w0,q]:=q;show#[W,w0,λi m σ g w=>?_];rcases q i m σ g w with⟨a,b⟩|⟨x,a,N2,b,c⟩
 .exact .inl #[a,h _ _ b]
 .exact .inr #[x,a,N2,b,h2 _ _ _ _ c]
def aW5{k σ g}{fin kW}{turn iS}(h:∀ys g,fin ys g->kW ys g)(h2:∀x N σ g,turn x N σ g->iS x N σ g)(q:HI k σ g fin turn):HI k σ g kW iS:=by
 let#[W,w0,q]:=q;show#[W,w0,λi m ys σ g w=>?_];rcases q i m ys σ g w with⟨a,b⟩|⟨x,a,b,c⟩
 .exact .inl #[a,h _ _ b]
 .exact .inr #[x,a,b,h2 _ _ _ _ c]
def aW4{k σ g}{fin kW}{turn iS}(h:∀ys g,fin ys g->kW ys g)(h2:∀x N σ g,turn x N σ g->iS x N σ g)(q:HJ k σ g fin turn):HJ k σ g kW iS:=by
 let#[W,w0,q]:=q;show#[W,w0,λi m ys σ g w=>?_];rcases q i m ys σ g w with⟨a,b,c⟩|⟨x,a,b,c⟩
 .exact .inl #[a,b,h _ _ c]
 .exact .inr #[x,a,b,h2 _ _ _ _ c]
def P6{t:Bool}{A B A' B':Prop}(h1:A->A')(h2:B->B')(q:if t=true then A else B):if t=true then A' else B':=by
 cases t
 .exact h2 q
 .exact h1 q
def j4(P:eZ):Prop:=∀f xs g Q Q' E E',(∀d g,Q d g->Q' d g)->(∀x g,E x g->E' x g)->P f xs g Q E->P f xs g Q' E'
mutual
def c9{P}(hP:j4 P):∀(e:ME) (σ:S) (g:G) (Q Q':KD) (E E':KX),(∀d g,Q d g->Q' d g)->(∀x g,E x g->E' x g)->aY P e σ g Q E->aY P e σ g Q' E'
 |.var i,σ,g,Q,Q',E,E',h,hx,q=>by
  let#[d,a,b]:=q;show#[d,a,h _ _ b]
 |.lit d,σ,g,Q,Q',E,E',h,hx,q=>by show h _ _ q
 |.prim p es,σ,g,Q,Q',E,E',h,hx,q=>by
  show L8 hP es _ _ _ _ _ _ (λxs g1 q=>y4 h q) hx q
 |.dX p o es,σ,g,Q,Q',E,E',h,hx,q=>by
  show c9 hP o _ _ _ _ _ _ (λx g1 q=>#[q.1,L8 hP es _ _ _ _ _ _ (λxs g2 q=>y4 h q) hx q.2]) hx q
 |.oq es,σ,g,Q,Q',E,E',h,hx,q=>by
  show L8 hP es _ _ _ _ _ _ (by rintro xs g1 ⟨kvs,a,b,c,d⟩;show #[kvs,a,b,c,h _ _ d]) hx q
 |.chain o1 o2 a b c,σ,g,Q,Q',E,E',h,hx,q=>by
  show c9 hP a _ _ _ _ _ _ (λx g1 q=>c9 hP b _ _ _ _ _ _ (λy g2 q=>y4 (λz g3 q=>?_) q) hx q) hx q;let#[t,e,q]:=q;show#[t,e,P6 (λq=>c9 hP c _ _ _ _ _ _ (λw g4 q=>y4 h q) hx q) (h _ _) q]
 |.dZ a b,σ,g,Q,Q',E,E',h,hx,q=>by
  show c9 hP a _ _ _ _ _ _ (λx g1 q=>?_) hx q;let#[t,e,q]:=q;show#[t,e,P6 (λq=>c9 hP b _ _ _ _ _ _ h hx q) (h _ _) q]
 |.iu a b,σ,g,Q,Q',E,E',h,hx,q=>by
  show c9 hP a _ _ _ _ _ _ (λx g1 q=>?_) hx q;let#[t,e,q]:=q;show#[t,e,P6 (h _ _) (λq=>c9 hP b _ _ _ _ _ _ h hx q) q]
 |.du a,σ,g,Q,Q',E,E',h,hx,q=>by
  show c9 hP a _ _ _ _ _ _ (λx g1 q=>?_) hx q;let#[t,e,q]:=q;show#[t,e,h _ _ q]
 |.ite c a b,σ,g,Q,Q',E,E',h,hx,q=>by
  show w5 hP c _ _ _ _ _ _ (λt g1 q=>P6 (λq=>c9 hP a _ _ _ _ _ _ h hx q) (λq=>c9 hP b _ _ _ _ _ _ h hx q) q) hx q
 |.call f es,σ,g,Q,Q',E,E',h,hx,q=>by
  show L8 hP es _ _ _ _ _ _ (λxs g1 q=>hP _ _ _ _ _ _ _ h hx q) hx q
 |.make c f es,σ,g,Q,Q',E,E',h,hx,q=>by
  show L8 hP es _ _ _ _ _ _ (λxs g1 q=>hP _ _ _ _ _ _ _ (λd g2 q=>#[q.1,h _ _ q.2]) hx q) hx q
 |.bJ m cs o es,σ,g,Q,Q',E,E',h,hx,q=>by
  show c9 hP o _ _ _ _ _ _ (λx g1 q=>?_) hx q;let#[a,c,fs,f,q1,q2,q3,q4,q]:=q;show#[a,c,fs,f,q1,q2,q3,q4,L8 hP es _ _ _ _ _ _ (λxs g2 q=>hP _ _ _ _ _ _ _ h hx q) hx q]
 |.comp d8 n tg it cond elt,σ,g,Q,Q',E,E',h,hx,q=>by
  show F5 hP it _ _ _ _ _ _ (λk g1 q=>aW5 (λys g q=>h _ _ q) (λv v v v q=>q) q) hx q
 |.ir d8 n tg it cond elt,σ,g,Q,Q',E,E',h,hx,q=>by
  show F5 hP it _ _ _ _ _ _ (λk g1 q=>aW4 (λys g q=>h _ _ q) (λv v v v q=>q) q) hx q
 |.nil,σ,g,Q,Q',E,E',h,hx,q=>(show False from q).elim
 |.cons _ _,σ,g,Q,Q',E,E',h,hx,q=>(show False from q).elim
 |.eQ _,σ,g,Q,Q',E,E',h,hx,q=>(show False from q).elim
 |.fo _,σ,g,Q,Q',E,E',h,hx,q=>(show False from q).elim
 |.jJ _ _,σ,g,Q,Q',E,E',h,hx,q=>(show False from q).elim
 |.lF _,σ,g,Q,Q',E,E',h,hx,q|.oO _,σ,g,Q,Q',E,E',h,hx,q=>(show False from q).elim
 |.eP _,σ,g,Q,Q',E,E',h,hx,q=>(show False from q).elim
 |.no,σ,g,Q,Q',E,E',h,hx,q=>(show False from q).elim
def L8{P}(hP:j4 P):∀(e:ME) (σ:S) (g:G) (Q Q':@&D->G->Prop) (E E':KX),(∀d g,Q d g->Q' d g)->(∀x g,E x g->E' x g)->fU P e σ g Q E->fU P e σ g Q' E'
 |.nil,σ,g,Q,Q',E,E',h,hx,q=>by show h _ _ q
 |.cons a b,σ,g,Q,Q',E,E',h,hx,q=>by
  show c9 hP a _ _ _ _ _ _ (λx g1 q=>L8 hP b _ _ _ _ _ _ (λxs g2 q=>h _ _ q) hx q) hx q
 |.var _,σ,g,Q,Q',E,E',h,hx,q|.lit _,σ,g,Q,Q',E,E',h,hx,q|.prim _ _,σ,g,Q,Q',E,E',h,hx,q|.dX _ _ _,σ,g,Q,Q',E,E',h,hx,q|.oq _,σ,g,Q,Q',E,E',h,hx,q|.chain _ _ _ _ _,σ,g,Q,Q',E,E',h,hx,q|.dZ _ _,σ,g,Q,Q',E,E',h,hx,q|.iu _ _,σ,g,Q,Q',E,E',h,hx,q|.du _,σ,g,Q,Q',E,E',h,hx,q|.ite _ _ _,σ,g,Q,Q',E,E',h,hx,q|.call _ _,σ,g,Q,Q',E,E',h,hx,q
 |.make _ _ _,σ,g,Q,Q',E,E',h,hx,q|.bJ _ _ _ _,σ,g,Q,Q',E,E',h,hx,q|.comp _ _ _ _ _ _,σ,g,Q,Q',E,E',h,hx,q|.ir _ _ _ _ _ _,σ,g,Q,Q',E,E',h,hx,q|.eQ _,σ,g,Q,Q',E,E',h,hx,q|.fo _,σ,g,Q,Q',E,E',h,hx,q|.jJ _ _,σ,g,Q,Q',E,E',h,hx,q|.lF _,σ,g,Q,Q',E,E',h,hx,q|.oO _,σ,g,Q,Q',E,E',h,hx,q|.eP _,σ,g,Q,Q',E,E',h,hx,q|.no,σ,g,Q,Q',E,E',h,hx,q=>(show False from q).elim
def w5{P}(hP:j4 P):∀(e:ME) (σ:S) (g:G) (Q Q':Bool->G->Prop) (E E':KX),(∀d g,Q d g->Q' d g)->(∀x g,E x g->E' x g)->et P e σ g Q E->et P e σ g Q' E'
 |.dZ a b,σ,g,Q,Q',E,E',h,hx,q=>by
  show w5 hP a _ _ _ _ _ _ (λt g1 q=>P6 (λq=>w5 hP b _ _ _ _ _ _ h hx q) (h _ _) q) hx q
 |.iu a b,σ,g,Q,Q',E,E',h,hx,q=>by
  show w5 hP a _ _ _ _ _ _ (λt g1 q=>P6 (h _ _) (λq=>w5 hP b _ _ _ _ _ _ h hx q) q) hx q
 |.du a,σ,g,Q,Q',E,E',h,hx,q=>by show w5 hP a _ _ _ _ _ _ (λt g1 q=>h _ _ q) hx q
 |.no,σ,g,Q,Q',E,E',h,hx,q=>by show h _ _ q
 |.eP e,σ,g,Q,Q',E,E',h,hx,q=>by show c9 hP e _ _ _ _ _ _ (λx g1 q=>bb7 (λb q=>h _ _ q) q) hx q
 |.var _,σ,g,Q,Q',E,E',h,hx,q|.lit _,σ,g,Q,Q',E,E',h,hx,q|.prim _ _,σ,g,Q,Q',E,E',h,hx,q|.dX _ _ _,σ,g,Q,Q',E,E',h,hx,q|.oq _,σ,g,Q,Q',E,E',h,hx,q|.chain _ _ _ _ _,σ,g,Q,Q',E,E',h,hx,q|.ite _ _ _,σ,g,Q,Q',E,E',h,hx,q|.call _ _,σ,g,Q,Q',E,E',h,hx,q|.nil,σ,g,Q,Q',E,E',h,hx,q|.cons _ _,σ,g,Q,Q',E,E',h,hx,q
 |.make _ _ _,σ,g,Q,Q',E,E',h,hx,q|.bJ _ _ _ _,σ,g,Q,Q',E,E',h,hx,q|.comp _ _ _ _ _ _,σ,g,Q,Q',E,E',h,hx,q|.ir _ _ _ _ _ _,σ,g,Q,Q',E,E',h,hx,q|.eQ _,σ,g,Q,Q',E,E',h,hx,q|.fo _,σ,g,Q,Q',E,E',h,hx,q|.jJ _ _,σ,g,Q,Q',E,E',h,hx,q|.lF _,σ,g,Q,Q',E,E',h,hx,q|.oO _,σ,g,Q,Q',E,E',h,hx,q=>(show False from q).elim
def F5{P}(hP:j4 P):∀(e:ME) (σ:S) (g:G) (Q Q':IK->G->Prop) (E E':KX),(∀d g,Q d g->Q' d g)->(∀x g,E x g->E' x g)->gR P e σ g Q E->gR P e σ g Q' E'
 |.eQ e,σ,g,Q,Q',E,E',h,hx,q=>by
  show c9 hP e _ _ _ _ _ _ (λx g1 q=>q.imp (by rintro ⟨l,a,b⟩;show #[l,a,h _ _ b]) (by rintro ⟨i,l,a,b,c⟩;show #[i,l,a,b,h _ _ c])) hx q
 |.fo a,σ,g,Q,Q',E,E',h,hx,q=>by
  show c9 hP a _ _ _ _ _ _ (by rintro x g1 ⟨j,a,b,c,d⟩;show #[j,a,b,c,h _ _ d]) hx q
 |.jJ a b,σ,g,Q,Q',E,E',h,hx,q=>by
  show c9 hP a _ _ _ _ _ _ (λx g1 q=>c9 hP b _ _ _ _ _ _ (by rintro y g2 ⟨i,j,a,b,c,d⟩;show #[i,j,a,b,c,h _ _ d]) hx q) hx q
 |.lF e,σ,g,Q,Q',E,E',h,hx,q=>by
  show c9 hP e _ _ _ _ _ _ (by rintro x g1 ⟨i,l,a,b,c⟩;show #[i,l,a,b,h _ _ c]) hx q
 |.oO e,σ,g,Q,Q',E,E',h,hx,q=>by
  show c9 hP e _ _ _ _ _ _ (by rintro x g1 ⟨i,l,a,b,c⟩;show #[i,l,a,b,h _ _ c]) hx q
 |.var _,σ,g,Q,Q',E,E',h,hx,q|.lit _,σ,g,Q,Q',E,E',h,hx,q|.prim _ _,σ,g,Q,Q',E,E',h,hx,q|.dX _ _ _,σ,g,Q,Q',E,E',h,hx,q|.oq _,σ,g,Q,Q',E,E',h,hx,q|.chain _ _ _ _ _,σ,g,Q,Q',E,E',h,hx,q|.ite _ _ _,σ,g,Q,Q',E,E',h,hx,q|.call _ _,σ,g,Q,Q',E,E',h,hx,q|.nil,σ,g,Q,Q',E,E',h,hx,q|.cons _ _,σ,g,Q,Q',E,E',h,hx,q
 |.dZ _ _,σ,g,Q,Q',E,E',h,hx,q|.iu _ _,σ,g,Q,Q',E,E',h,hx,q|.du _,σ,g,Q,Q',E,E',h,hx,q|.eP _,σ,g,Q,Q',E,E',h,hx,q|.no,σ,g,Q,Q',E,E',h,hx,q
 |.make _ _ _,σ,g,Q,Q',E,E',h,hx,q|.bJ _ _ _ _,σ,g,Q,Q',E,E',h,hx,q|.comp _ _ _ _ _ _,σ,g,Q,Q',E,E',h,hx,q|.ir _ _ _ _ _ _,σ,g,Q,Q',E,E',h,hx,q=>(show False from q).elim
end
structure Ends.le(N N':Ends):Prop where
 nx:∀σ g,N.nx σ g->N'.nx σ g
 rt:∀d g,N.rt d g->N'.rt d g
 bk:∀σ g,N.bk σ g->N'.bk σ g
 ct:∀σ g,N.ct σ g->N'.ct σ g
set_option tactic.hygienic true in
def Pf{P}(hP:j4 P){N N'}{E E'}(h:N.le N')(hx:∀x g,E x g->E' x g){σ}:∀(hs:@&(Str×ME)) x g,oJ P N σ E hs x g->oJ P N' σ E' hs x g
 |[],x,g,q=>hx x g q
 |(y,e)::r,x,g,q=>by
  unfold oJ at q ⊢;split
  .rename_i hh;rw[aM hh] at q;show c9 hP e _ _ _ _ _ _ h.rt (λw w z=>z) q
  .rename_i hh;rw[aI hh] at q;show Pf hP h hx r x g q
def wpS_mono{P}(hP:j4 P):∀(s:MS) (N N':Ends) (σ:S) (g:G) (E E':KX),N.le N'->(∀x g,E x g->E' x g)->wpS P s N σ g E->wpS P s N' σ g E'
 |.pass,N,N',σ,g,E,E',h,hx,q=>h.nx _ _ q
 |.seq a b,N,N',σ,g,E,E',h,hx,q=>wpS_mono hP a { N with nx:=λjm g1=>wpS P b N jm g1 E } { N' with nx:=λjm g1=>wpS P b N' jm g1 E' } _ _ _ _ #[λjm g1 q=>wpS_mono hP b _ _ _ _ _ _ h hx q,h.rt,h.bk,h.ct] hx q
 |.expr e,N,N',σ,g,E,E',h,hx,q=>c9 hP e _ _ _ _ _ _ (λx g1 q=>h.nx _ _ q) hx q
 |.set i e,N,N',σ,g,E,E',h,hx,q=>c9 hP e _ _ _ _ _ _ (λx g1 q=>h.nx _ _ q) hx q
 |.nC t e,N,N',σ,g,E,E',h,hx,q=>c9 hP e _ _ _ _ _ _ (λx g1 q=>E0 (λσ q=>h.nx _ _ q) q) hx q
 |.df o i v,N,N',σ,g,E,E',h,hx,q=>c9 hP v _ _ _ _ _ _ (λx g1 q=>c9 hP o _ _ _ _ _ _ (λy g2 q=>c9 hP i _ _ _ _ _ _ (λz g3 q=>Ba (λg q=>h.nx _ _ q) q) hx q) hx q) hx q
 |.fH f cs o v,N,N',σ,g,E,E',h,hx,q=>c9 hP v _ _ _ _ _ _ (λx g1 q=>c9 hP o _ _ _ _ _ _ (λy g2 q=>a54 (λg q=>h.nx _ _ q) q) hx q) hx q
 | .kY f cs o v,N,N',σ,g,E,E',h,hx,q=>c9 hP o _ _ _ _ _ _ (λy g1 q=>by
   let#[a,c,fs,x,q1,q2,q3,q4,q]:=q;show #[a,c,fs,x,q1,q2,q3,q4,c9 hP v _ _ _ _ _ _ (λz g3 q=>y4 (λw g4 q=>by
    let#[jB,k1,k2,k3]:=q;show #[jB,k1,k2,h.nx _ _ k3]) q) hx q]) hx q
 |.zD o1 i1 o2 i2 e,N,N',σ,g,E,E',h,hx,q=>c9 hP e _ _ _ _ _ _ (λx g1 q=>let ⟨u,v,q1,q⟩:=q;#[u,v,q1,c9 hP o1 _ _ _ _ _ _ (λy g2 q=>c9 hP i1 _ _ _ _ _ _ (λz g3 q=>Ba (λg4 q=>c9 hP o2 _ _ _ _ _ _ (λy g5 q=>c9 hP i2 _ _ _ _ _ _ (λz g6 q=>Ba (λg q=>h.nx _ _ q) q) hx q) hx q) q) hx q) hx q]) hx q
 |.kh i p v,N,N',σ,g,E,E',h,hx,q=>let ⟨x,q1,q⟩:=q;#[x,q1,c9 hP v _ _ _ _ _ _ (λz g1 q=>y4 (λw g2 q=>h.nx _ _ q) q) hx q]
 |.ifs c a b,N,N',σ,g,E,E',h,hx,q=>w5 hP c _ _ _ _ _ _ (λt g1 q=>P6 (λq=>wpS_mono hP a _ _ _ _ _ _ h hx q) (λq=>wpS_mono hP b _ _ _ _ _ _ h hx q) q) hx q
 |.gL t it b,N,N',σ,g,E,E',h,hx,q=>F5 hP it _ _ _ _ _ _ (λk g1 q=>a43 h.nx (λx N2 σ g q=>E0 (λcE q=>wpS_mono hP b { N with nx:=N2,ct:=N2,bk:=N.nx } { N' with nx:=N2,ct:=N2,bk:=N'.nx } _ _ _ _ #[λr r z=>z,h.rt,h.nx,λr r z=>z] hx q) q) q) hx q
 |.jW c b,N,N',σ,g,E,E',h,hx,q=>by
  let#[W,w0,q]:=q;show#[W,w0,λm σ g w=>w5 hP c _ _ _ _ _ _ (λt g1 q=>P6 (λq=>?_) (h.nx _ _) q) hx (q m σ g w)];let#[N2,a,q]:=q;show#[N2,a,wpS_mono hP b { N with nx:=N2,ct:=N2,bk:=N.nx } { N' with nx:=N2,ct:=N2,bk:=N'.nx } _ _ _ _ #[λr r z=>z,h.rt,h.nx,λr r z=>z] hx q]
 |.ret e,N,N',σ,g,E,E',h,hx,q=>c9 hP e _ _ _ _ _ _ h.rt hx q
 |.sR,N,N',σ,g,E,E',h,hx,q=>h.rt _ _ q
 |.brk,N,N',σ,g,E,E',h,hx,q=>h.bk _ _ q
 |.cont,N,N',σ,g,E,E',h,hx,q=>h.ct _ _ q
 |.raise x es,N,N',σ,g,E,E',h,hx,q=>L8 hP es _ _ _ _ _ _ (λvs g1 q=>#[q.1,hx _ _ q.2]) hx q
 |.qP b hs,N,N',σ,g,E,E',h,hx,q=>wpS_mono hP b _ _ _ _ _ _ h (λx g q=>Pf hP h hx hs x g q) q
def a8(T:Nat->Option aQ):∀k,j4 (b7 T k)
 |0=>λf xs g Q Q' E E' h hx q=>q.elim
 |k+1=>λf xs g Q Q' E E' h hx q=>by
  let#[m,a,b,q]:=q;show#[m,a,b,wpS_mono (a8 T k) m.body #[λx g'=>Q .bq g',Q,λx x=>False,λx x=>False] _ _ _ _ _ #[λx x z=>h _ _ z,h,λx x z=>z,λx x z=>z] hx q]
abbrev TupAt(K:PySem.W.Frag)(H:Hp)(a:Addr)(vs:@&V):Prop :=
 H a=!.tup vs\/∃(o:Obj) (aZ:Array Value) (n:Nat),K.lookup a=!o/\o.cls=.type "tuple"/\o.dict=none/\o.data=.seq aZ n/\aZ.size<=sizeLine/\Vals vs aZ.toList
def TupAt.d(h:TupAt K H a vs):Fv K H a vs:=h
def TupAt.sq{K}{H}{a}{vs}(h:TupAt K H a vs):iR K H a vs:=h.d.sq
mutual
inductive f9(K:PySem.W.Frag)(ρ:@&Addr)(H:Hp):D->V->Prop
 |bq:f9 K ρ H .bq .bq
 |bl (b:Bool):f9 K ρ H (.bl b) (.bl b)
 |int (i:Int):f9 K ρ H (.int i) (.int i)
 |str (x:Str):f9 K ρ H (.str x) (.str x)
 |ty (n:String):f9 K ρ H (.ty n) (.ty n)
 |ref {i:Nat} {a:Addr} (h:ρ[i]?=!a):f9 K ρ H (.ref i) (.ref a)
 |tup {l:@&D} {a:Addr} {vs:@&V} (h:TupAt K H a vs) (r:c8 K ρ H l vs):f9 K ρ H (.tup l) (.ref a)
inductive c8(K:PySem.W.Frag)(ρ:@&Addr)(H:Hp):@&D->@&V->Prop
 |nil:c8 K ρ H [] []
 |cons {d:D} {v:V} {ds:@&D} {vs:@&V} (h:f9 K ρ H d v) (r:c8 K ρ H ds vs):c8 K ρ H (d::ds) (v::vs)
end
structure Ext(ρ:@&Addr)(H:Hp)(bX:@&Addr)(H':Hp):Prop where
 pre:∃more,bX=ρ++more
 tup:∀a xs,H a=!.tup xs->H' a=!.tup xs
def Ext.refl(ρ:@&Addr)(H:Hp):Ext ρ H ρ H:=#[#[[],by simp],λx x h=>h]
def Ext.trans{ρ H cx H1 fe H2}(a:Ext ρ H cx H1)(b:Ext cx H1 fe H2):Ext ρ H fe H2:=by
 let#[#[m,rfl],t]:=a;let#[#[m',rfl],t']:=b;show#[#[m++m',by simp],λx xs h=>t' _ _ (t _ _ h)]
def Ext.get{ρ H bX H'}(e:Ext ρ H bX H')(h:ρ[i]?=!a):bX[i]?=!a:=by
 let#[#[m,rfl],_]:=e;rw[aF (ak.mp h).1];show h
def TupAt.ext{K ρ H bX H'}(e:Ext ρ H bX H')(h:TupAt K H a vs):TupAt K H' a vs:=h.elim (λz=>.inl (e.tup _ _ z)) .inr
mutual
def f9.ext{K ρ H bX H'}(e:Ext ρ H bX H'):∀{d v},f9 K ρ H d v->f9 K bX H' d v
 |_,_,.bq=>.bq
 |_,_,.bl b=>.bl b
 |_,_,.int i=>.int i
 |_,_,.str x=>.str x
 |_,_,.ty n=>.ty n
 |_,_,.ref h=>.ref (e.get h)
 |_,_,.tup h r=>.tup (h.ext e) (c8.ext e r)
def c8.ext{K ρ H bX H'}(e:Ext ρ H bX H'):∀{ds vs},c8 K ρ H ds vs->c8 K bX H' ds vs
 |_,_,.nil=>.nil
 |_,_,.cons h r=>.cons (f9.ext e h) (c8.ext e r)
end
def c8.length{K ρ H}{ds}{vs}(h:c8 K ρ H ds vs):-ds=-vs:=by
 induction ds generalizing vs with
 |nil=>cases h;rfl
 |cons d ds ih =>
  cases h with
  |cons q r=>simp[ih r]
def c8.get{K ρ H}:∀{ds vs} {i:Nat} {d:D},c8 K ρ H ds vs->ds[i]?=!d->∃v,vs[i]?=!v/\f9 K ρ H d v
 |_,_,_,_,.nil,h=>by simp at h
 |_,_,0,_,.cons h _,e=>by simp at e;subst e;show#[_,rfl,h]
 |_,_,i+1,d,.cons _ r,e=>by
  let#[v,h1,h2]:=c8.get r (_/e);show#[v,by simpa using h1,h2]
def c8.set{K ρ H}{d}{v}(h:f9 K ρ H d v):∀{ds vs} (i:Nat),c8 K ρ H ds vs->c8 K ρ H (ds.set i d) (vs.set i v)
 |_,_,_,.nil=>.nil
 |_,_,0,.cons _ r=>.cons h r
 |_,_,i+1,.cons q r=>.cons q (c8.set h i r)
def c8.append{K ρ H}{ds es}{ws}(h:c8 K ρ H ds vs)(s:c8 K ρ H es ws):c8 K ρ H (ds++es) (vs++ws):=by
 induction ds generalizing vs with
 |nil=>cases h;show s
 |cons d ds ih =>
  cases h with
  |cons q r=>show .cons q (ih r)
def c8.rep{K ρ H}{ds}{vs}(r:c8 K ρ H ds vs):∀n,c8 K ρ H (List.replicate n ds).flatten (List.replicate n vs).flatten
 |0=>.nil
 |n+1=>by
  show c8.append r (c8.rep r n)
def c8.erase{K ρ H}:∀{ds:@&D} {vs:@&V} (i:Nat),c8 K ρ H ds vs->c8 K ρ H (ds.eraseIdx i) (vs.eraseIdx i)
 |_,_,_,.nil=>.nil
 |_,_,0,.cons _ r=>r
 |_,_,i+1,.cons q r=>.cons q (c8.erase i r)
def c8.take{K ρ H}:∀{ds:@&D} {vs:@&V} (n:Nat),c8 K ρ H ds vs->c8 K ρ H (ds.take n) (vs.take n)
 |_,_,0,_=>.nil
 |_,_,_+1,.nil=>.nil
 |_,_,n+1,.cons h r=>.cons h (c8.take n r)
def c8.drop{K ρ H}:∀{ds:@&D} {vs:@&V} (n:Nat),c8 K ρ H ds vs->c8 K ρ H (ds.drop n) (vs.drop n)
 |_,_,0,r=>r
 |_,_,_+1,.nil=>.nil
 |_,_,n+1,.cons _ r=>c8.drop n r
def c8.reverse{K ρ H}:∀{ds:@&D} {vs:@&V},c8 K ρ H ds vs->c8 K ρ H ds.reverse vs.reverse
 |_,_,.nil=>.nil
 |_,_,.cons h r=>by
  rw[hU,hU];show c8.append (c8.reverse r) (.cons h .nil)
def c8.cut{K ρ H}{ds}{vs}(r:c8 K ρ H ds vs)(lo hi:Option Int):c8 K ρ H (M.cut ds lo hi) (qD vs lo hi):=by
 unfold M.cut qD;rw[(-r)];show(r.drop _).take _
def c8.ints{K ρ H}:∀{ns:@&Int} {vs:@&V},c8 K ρ H (ns.map D.int) vs->vs=ns.map V.int
 |[],_,.nil=>rfl
 |_::_,_,.cons h r=>by cases h;rw[c8.ints r];rfl
def c8.ofInts{K ρ H}:∀(ns:@&Int),c8 K ρ H (ns.map D.int) (ns.map V.int)
 |[]=>.nil
 |n::r=>.cons (.int n) (c8.ofInts r)
abbrev vj(K:PySem.W.Frag)(H:Hp)(a:Addr)(vs:@&V):Prop :=
 (∃o,H a=!.kd o (.lst vs))\/∃(o:Obj) (aZ:Array Value) (n:Nat),K.lookup a=!o/\o.cls=.type "list"/\o.dict=none/\o.data=.seq aZ n/\aZ.size<=sizeLine/\Vals vs aZ.toList
def vj.sq(h:vj K H a vs):fJ K H a vs:=h.elim (by rintro ⟨o,z⟩;show .inl (.inr #[o,z])) .inr
inductive i8{α:Type}(K:PySem.W.Frag)(ρ:@&Addr)(H:Hp):@&(α×D)->@&(α×V)->Prop
 |nil:i8 K ρ H [] []
 |cons {k:α} {d:D} {v:V} {ds:@&(α×D)} {vs:@&(α×V)} (h:f9 K ρ H d v) (r:i8 K ρ H ds vs):i8 K ρ H ((k,d)::ds) ((k,v)::vs)
def i8.ext{α:Type}{K ρ H bX H'}(e:Ext ρ H bX H'){ds:@&(α×D)}{vs:@&(α×V)}(h:i8 K ρ H ds vs):i8 K bX H' ds vs:=by
 induction h with
 |nil=>show .nil
 |cons h r ih=>show .cons (h.ext e) ih
def i8.drop{K ρ H}{ds}{vs}(k:Key)(h:i8 K ρ H ds vs):i8 K ρ H (delD ds k) (uA vs k):=by
 unfold delD uA
 induction h with
 |nil=>show .nil
 |cons h r ih =>
  rw[dO,dO];split
  .exact .cons h ih
  .exact ih
def i8.get{α:Type}{K ρ H}{ds}{vs}(h:i8 K ρ H ds vs):∀{i:Nat} {k:α} {d:D},ds[i]?=!(k,d)->∃v,vs[i]?=!(k,v)/\f9 K ρ H d v:=by
 induction h with
 |nil=>intro i k d e;simp at e
 |cons h r ih =>
  intro i k d e;cases i with
  |zero=>simp at e;let#[rfl,rfl]:=e;show#[_,rfl,h]
  |succ i=>simpa using ih (_/e)
def i8.length{α:Type}{K ρ H}{ds:@&(α×D)}{vs:@&(α×V)}(h:i8 K ρ H ds vs):-ds=-vs:=by
 induction h with
 |nil=>rfl
 |cons h r ih=>simp[ih]
abbrev uw(K:PySem.W.Frag)(ρ:@&Addr)(H:Hp):Option D->Option V->Prop
 |some d,!v=>f9 K ρ H d v
 |none,none=>True
 |_,_=>False
def i8.val{K ρ H}:∀{ds vs} (k:Key),i8 K ρ H ds vs->uw K ρ H (x6 ds k) (U0 vs k)
 |_,_,k,.nil=>trivial
 |_,_,k,.cons (k:=k') h r=>by
  unfold x6 U0;rw[dB,dB];by_cases e:k'=k
  .simp only[e,decide_true];show h
  .simp only[e,decide_false];show i8.val k r
def i8.Nh{K ρ H}:∀{ds vs} (k:Key),i8 K ρ H ds vs->(ds.any λkv=>decide (kv.1=k))=(vs.any λkv=>decide (kv.1=k))
 |_,_,k,.nil=>rfl
 |_,_,k,.cons h r=>by simp only[List.any_cons,i8.Nh k r]
def i8.snoc{K ρ H}{k:Key}{d:D}{v:V}(h:f9 K ρ H d v){ds vs}(t:i8 K ρ H ds vs):i8 K ρ H (ds++[(k,d)]) (vs++[(k,v)]):=by
 induction ds generalizing vs with
 |nil=>cases t;show .cons h .nil
 |cons d ds ih =>
  cases t with
  |cons q r=>show .cons q (ih r)
def i8.Hy{K ρ H}{k:Key}{d:D}{v:V}(h:f9 K ρ H d v):∀{ds vs},i8 K ρ H ds vs->i8 K ρ H (ds.map λkv=>if kv.1=k then(kv.1,d) else kv) (vs.map λkv=>if kv.1=k then(kv.1,v) else kv)
 |_,_,.nil=>.nil
 |_,_,.cons (k:=k') q r=>by
  simp only[List.map_cons];by_cases e:k'=k
  .rw[aM e,aM e];show .cons h (i8.Hy h r)
  .rw[aI e,aI e];show .cons q (i8.Hy h r)
def i8.put{K ρ H}{k}{d}{v}(h:f9 K ρ H d v){ds vs}(r:i8 K ρ H ds vs):i8 K ρ H (putD ds k d) (putK vs k v):=by
 unfold putD putK;rw[r.Nh k];split
 .exact r.Hy h
 .exact r.snoc h
noncomputable abbrev w9(K:PySem.W.Frag)(x:Str)(C:Addr):Prop:=PySem.W.nsIn K mainGlobals x=!!.ref C
set_option tactic.hygienic true in
def i8.look{K ρ H}{ds}{vs}(f:Str)(h:i8 K ρ H ds vs):uw K ρ H (ds.lookup f) (vs.lookup f):=by
 induction h with
 |nil=>trivial
 |cons h r ih =>
  rename_i k d v ds vs;rw[dM,dM];cases f==k
  .exact ih
  .exact h
def i8.A7{K ρ H}{f}{d}{v}(h:f9 K ρ H d v){ds}{vs}(r:i8 K ρ H ds vs):i8 K ρ H (m7 f d ds) (L2.A7 f v vs):=by
 induction r with
 |nil=>show .cons h .nil
 |cons q r ih =>
  unfold m7 L2.A7;split
  .exact .cons h r
  .exact .cons q ih
def GJ{f}{d}{p:Str->Prop}(hf:p f):∀{ds:@&(Str×D)},(∀x∈ds,p x.1)->∀x∈m7 f d ds,p x.1
 |[],_,x,hx=>by
  have:x=(f,d):=by simpa[m7] using hx
  simp_all
 |(k,e)::r,h,x,hx=>by
  unfold m7 at hx;split at hx
  .rcases aJ.mp hx with z|z
   .rw[z];show h (k,e) #[_]
   .exact h x (by simp[z])
  .rcases aJ.mp hx with z|z
   .rw[z];show h (k,e) #[_]
   .exact GJ hf (λy hy=>h y (by simp[hy])) x z
abbrev OH(K:PySem.W.Frag)(ρ:@&Addr)(H:Hp):O->HO->Prop
 |.lst l,.lst vs=>c8 K ρ H l vs
 |.cy kvs,.dK vs=>i8 K ρ H kvs vs
 |.set S n,.set S' n'=>S=S'/\n=n'
 |.ins c fs,.ins C _ vs=>w9 K c C/\jE K C/\i8 K ρ H fs vs/\∀x∈fs,J6 K C x.1
 |_,_=>False
def OH.ext{K ρ H bX H'}(e:Ext ρ H bX H'){o}{u}(h:OH K ρ H o u):OH K bX H' o u:=by
 cases o<;>cases u<;>first|show h.elim|show c8.ext e h|show i8.ext e h|show#[h.1,h.2.1,h.2.2.1.ext e,h.2.2.2]|show h
def OH.vp{K ρ H}{xs}(h:OH K ρ H o (.tup xs)):False:=by cases o<;>show h
def OH.b42{K ρ H}{ob}(h:OH K ρ H o (.kd ob u)):False:=by cases o<;>show h
def R9(K:PySem.W.Frag)(ρ:@&Addr)(H:Hp)(o:O)(a:Addr):Prop:=match o with
 |.qv l=>∃vs,vj K H a vs/\c8 K ρ H l vs
 |o=>∃u,H a=!u/\OH K ρ H o u
def R9.of{K ρ H}(hu:H a=!u)(h:OH K ρ H o u):R9 K ρ H o a:=by
 cases o<;>first|show#[u,hu,h]|(cases u<;>show h.elim)
def R9.inv{K ρ H}(m:o.mut=true)(h:R9 K ρ H o a):∃u,H a=!u/\OH K ρ H o u:=by
 cases o<;>first|show h|cases m
def R9.lst{K ρ H}{l}{a}(h:R9 K ρ H (.lst l) a):∃vs,H a=!.lst vs/\c8 K ρ H l vs:=by
 let#[u,h1,h2]:=h;cases u<;>first|show#[_,h1,h2]|show h2.elim
def R9.cy{K ρ H}{l}{a}(h:R9 K ρ H (.cy l) a):∃vs,H a=!.dK vs/\i8 K ρ H l vs:=by
 let#[u,h1,h2]:=h;cases u<;>first|show#[_,h1,h2]|show h2.elim
def R9.set{K ρ H}{S}{n}{a}(h:R9 K ρ H (.set S n) a):H a=!.set S n:=by
 let#[u,h1,h2]:=h;cases u<;>first|(let#[rfl,rfl]:=(show _/\_ from h2);show h1)|show h2.elim
def R9.ins{K ρ H}{c}{fs}{a}(h:R9 K ρ H (.ins c fs) a):∃C dx vs,H a=!.ins C dx vs/\w9 K c C/\jE K C/\i8 K ρ H fs vs/\∀x∈fs,J6 K C x.1:=by
 let#[u,h1,h2]:=h;cases u<;>first|show#[_,_,_,h1,h2]|show h2.elim
structure Rl(K:PySem.W.Frag)(ρ:@&Addr)(g:G)(H:Hp):Prop where
 len:ρ.length=-g
 obj:∀(i:Nat) o a,g[i]?=!o->ρ[i]?=!a->R9 K ρ H o a
 nd:∀(i j:Nat) o o' a,g[i]?=!o->g[j]?=!o'->o.mut=true->o'.mut=true->ρ[i]?=!a->ρ[j]?=!a->i=j
section
variable{ρ:@&Addr}
def Rl.lst(R:Rl K ρ g H){i:Nat}{l}{a}(h:g[i]?=!.lst l)(ha:ρ[i]?=!a):∃vs,H a=!.lst vs/\c8 K ρ H l vs:=(R.obj _ _ _ h ha).lst
def Rl.cy(R:Rl K ρ g H){i:Nat}{l}{a}(h:g[i]?=!.cy l)(ha:ρ[i]?=!a):∃vs,H a=!.dK vs/\i8 K ρ H l vs:=(R.obj _ _ _ h ha).cy
def Rl.set(R:Rl K ρ g H){i:Nat}{S:Int->Bool}{n:Nat}{a}(h:g[i]?=!.set S n)(ha:ρ[i]?=!a):H a=!.set S n:=(R.obj _ _ _ h ha).set
def Rl.ins(R:Rl K ρ g H){i:Nat}{c}{fs}{a}(h:g[i]?=!.ins c fs)(ha:ρ[i]?=!a):∃C dx vs,H a=!.ins C dx vs/\w9 K c C/\jE K C/\i8 K ρ H fs vs/\∀x∈fs,J6 K C x.1:=(R.obj _ _ _ h ha).ins
def Rl.items(R:Rl K ρ g H)(h:d7 g i=!l)(ha:ρ[i]?=!a):∃vs,fJ K H a vs/\c8 K ρ H l vs:=by
 cases e:g[i]? with
 |none=>rw[d7,e] at h;cases h
 |some o =>
  rw[d7,e] at h;let q:=R.obj _ _ _ e ha;cases o with
  |lst m=>cases h;let#[vs,z,r]:=q.lst;show#[vs,fJ.of z,r]
  |qv m=>cases h;let#[vs,z,r]:=q;show#[vs,z.sq,r]
  |_=>cases h
def B0{o}(hp:H p=none):Ext ρ H ρ (upd H p o):=#[#[[],by simp],λa xs h=>by rw[d6 (i9 h hp)];show h]
def vj.upd{p a}{o}{vs}(h:vj K H a vs)(hp:∀ob u,H p≠!.kd ob u):vj K (upd H p o) a vs:=by
 rcases h with⟨ob,z⟩|z
 .refine .inl #[ob,?_];rw[d6 ?_]
  .exact z
  .intro e;subst e;show hp _ _ z
 .exact .inr z
def R9.upd{p a}{o}{u}{bX}(h:R9 K ρ H o a)(fE:o.mut=true->a≠p)(hp:∀ob u,H p≠!.kd ob u)(e:Ext ρ H bX (L2.upd H p u)):R9 K bX (L2.upd H p u) o a:=by
 cases hm:o.mut with
 |true =>
  let#[u',h1,h2]:=h.inv hm;show .of (by rw[d6 (fE hm)];show h1) (h2.ext e)
 |false =>
  cases o<;>first|cases hm|skip
  let#[vs,z,r]:=h;show#[vs,z.upd hp,r.ext e]
def Rl.grow{o}(R:Rl K ρ g H)(hp:H p=none):Rl K ρ g (upd H p o):=by
 let e:Ext ρ H ρ (upd H p o):=B0 hp;show#[R.len,λi ob a h1 h2=>?_,R.nd];let q:=R.obj _ _ _ h1 h2;show q.upd (λhm=>?_) (λob u z=>by simp_all) e;let#[u,h1,_]:=q.inv hm;show i9 h1 hp
def Rl.w6(R:Rl K ρ g H)(p:Addr):(ρ++[p])[(-g)]?=!p:=by rw[<- R.len];simp
def A8{o}(hp:H p=none):Ext ρ H (ρ++[p]) (upd H p o):=#[#[[p],rfl],(B0 (ρ:=ρ) hp).tup]
def Rl.new{p}{o}{u}(R:Rl K ρ g H)(hp:H p=none)(r:OH K ρ H o u):Rl K (ρ++[p]) (g++[o]) (upd H p u):=by
 let e:Ext ρ H (ρ++[p]) (upd H p u):=A8 hp;let old:∀{i:Nat} {ob:O} {a:Addr},g[i]?=!ob->(ρ++[p])[i]?=!a->ρ[i]?=!a:=λ{i ob a} h1 h2=>by
  rw[aF (by rw[R.len];show(ak.mp h1).1)] at h2;show h2
 let split:∀{i:Nat} {ob:O},(g++[o])[i]?=!ob->g[i]?=!ob\/(i=-g/\ob=o):=λ{i ob} h=>by
  rcases fu i (-g) with q|q|q
  .rw[aF q] at h;show .inl h
  .subst q;simp at h;show .inr #[rfl,h.symm]
  .rw[bc (by simp;omega)] at h;cases h
 show#[by simp[R.len],λi ob a h1 h2=>?_,λi j o1 o2 a h1 h2 m1 m2 h3 h4=>?_]
 .rcases split h1 with q|⟨rfl,rfl⟩
  .let z:=R.obj _ _ _ q (old q h2);show z.upd (λhm=>?_) (λob u z=>by simp_all) e;let#[u,h1,_]:=z.inv hm;show i9 h1 hp
  .rw[R.w6] at h2;cases h2;show .of m4 (r.ext e)
 .let nq:∀{i:Nat} {o:O} {a:Addr},g[i]?=!o->o.mut=true->ρ[i]?=!a->a≠p:=λ{i o a} h1 hm h2=>by
   let#[u,z,_]:=(R.obj _ _ _ h1 h2).inv hm;show i9 z hp
  rcases split h1 with q|⟨rfl,_⟩
  .rcases split h2 with q'|⟨rfl,_⟩
   .exact R.nd _ _ _ _ _ q q' m1 m2 (old q h3) (old q' h4)
   .rw[R.w6] at h4;cases h4;show absurd rfl (nq q m1 (old q h3))
  .rcases split h2 with q'|⟨rfl,_⟩
   .rw[R.w6] at h3;cases h3;show absurd rfl (nq q' m2 (old q' h4))
   .rfl
def Rl.sup{H'}(R:Rl K ρ g H)(e:∀b u,H b=!u->H' b=!u):Rl K ρ g H':=by
 let x:Ext ρ H ρ H':=#[#[[],by simp],λb xs h=>e _ _ h]
 show#[R.len,λi o a h1 h2=>?_,R.nd];let q:=R.obj _ _ _ h1 h2;cases hm:o.mut with
 |true =>
  let#[u,z1,z2]:=q.inv hm;show .of (e _ _ z1) (z2.ext x)
 |false =>
  cases o<;>first|cases hm|skip
  let#[vs,z,r]:=q;show#[vs,z.imp (by rintro ⟨o,z⟩;show #[o,e _ _ z]) id,r.ext x]
def Rl.alloc(R:Rl K ρ g H)(hp:H p=none)(r:c8 K ρ H l vs):Rl K (ρ++[p]) (g++[.lst l]) (upd H p (.lst vs)):=R.new hp r
def Rl.put{o'}(R:Rl K ρ g H)(h:g[i]?=!o)(hm:o.mut=true)(ha:ρ[i]?=!a)(r:OH K ρ H o' u) :
  Rl K ρ (g.set i o') (upd H a u)/\Ext ρ H ρ (upd H a u):=by
 let#[u0,z0,JD]:=(R.obj _ _ _ h ha).inv hm;let e:Ext ρ H ρ (upd H a u):=#[#[[],by simp],λb xs q=>by rw[d6];show q;intro z;subst z;rw[z0] at q;cases q;show JD.vp]
 show#[#[by simp[R.len],λj ob b h1 h2=>?_,λj k o1 o2 b h1 h2 m1 m2 h3 h4=>?_],e]
 .by_cases lV:i=j
  .subst lV;rw[ha] at h2;cases h2;let hi:=(ak.mp h).1;rw[aW hi] at h1;cases h1;show .of m4 (r.ext e)
  .rw[aH lV] at h1;show(R.obj _ _ _ h1 h2).upd (λmJ ez=>?_) (λob u z=>by rw[z0] at z;cases z;show JD.b42) e;subst ez;show lV (R.nd _ _ _ _ _ h h1 hm mJ ha h2)
 .let back:∀{j:Nat} {m:O},(g.set i o')[j]?=!m->m.mut=true->∃m',g[j]?=!m'/\m'.mut=true:=λ{j m} q mJ=>by
   by_cases lV:i=j
   .subst lV;show#[o,h,hm]
   .rw[aH lV] at q;show#[m,q,mJ]
  let#[_,q1,n1]:=back h1 m1;let#[_,q2,n2]:=back h2 m2;show R.nd _ _ _ _ _ q1 q2 n1 n2 h3 h4
def Rl.write{l'}(R:Rl K ρ g H)(h:g[i]?=!.lst l)(ha:ρ[i]?=!a)(r:c8 K ρ H l' vs) :
  Rl K ρ (g.set i (.lst l')) (upd H a (.lst vs))/\Ext ρ H ρ (upd H a (.lst vs)):=R.put h rfl ha r
end
structure v5(K:PySem.W.Frag)(ρ:@&Addr)(H:Hp)(σ:S)(cz:St):Prop where
 len:σ.length=-cz
 val:∀(i:Nat) d,σ[i]?=!!d->∃v,cz[i]?=!!v/\f9 K ρ H d v
section
variable{ρ bX:@&Addr}{H':Hp}
def v5.ext{σ cz}(e:Ext ρ H bX H')(r:v5 K ρ H σ cz):v5 K bX H' σ cz:=#[r.len,λi d h=>let ⟨v,a,b⟩:=r.val i d h;#[v,a,b.ext e]]
def v5.set{σ cz d v}(r:v5 K ρ H σ cz)(i:Nat)(h:f9 K ρ H d v):v5 K ρ H (σ.set i (!d)) (cz.set i (!v)):=by
 show#[by simp[r.len],λj e q=>?_];by_cases lV:i=j
 .subst lV;let hi:i<σ.length:=by
   have:=(ak.mp q).1
   simp_all
  rw[aW hi] at q;cases q;show#[v,by rw[aW (by rw[<- r.len];show hi)],h]
 .rw[aH lV] at q ⊢;show r.val j e q
def v5.start{ds vs}{n}(r:c8 K ρ H ds vs):v5 K ρ H (ds.map some++List.replicate (n- -ds) none) (vs.map some++List.replicate (n- -vs) none):=by
 show#[by simp[(-r)],λi d h=>?_];by_cases hi:i< -ds
 .rw[aF (_/hi),ag] at h;cases e:ds[i]? with
  |none=>rw[e] at h;cases h
  |some x =>
   rw[e] at h;cases h;let#[v,h1,h2]:=r.get e;show#[v,?_,h2];rw[aF (by rw[ao,<- -r];show hi),ag,h1]
   rfl
 .rw[br (_/hi),dN] at h;split at h<;>cases h
def v5.d8{σ cz}(r:v5 K ρ H σ cz)(d8:@&Nat)(n:Nat):v5 K ρ H (P0 σ d8 n) (E3 cz d8 n):=by
 show#[by simp[P0,E3],λi d h=>?_];unfold P0 at h;unfold E3;by_cases hi:i< -d8
 .rw[aF (_/hi),ag,aj hi] at h;rw[aF (_/hi),ag,aj hi];simp only[Option.map_some] at h ⊢;cases e:σ[d8[i]]? with
  |none=>simp_all
  |some x =>
   rw[e] at h;let hx:=aO h;subst hx;let#[v,h1,h2]:=r.val _ _ e;show#[v,by rw[h1];rfl,h2]
 .rw[br (_/hi),dN] at h;split at h<;>cases h
end
end M
namespace M
open PySem L2 PySem.Spec PyProof.Rows
variable{b:Bool}{d:D}{X:Cx}{ρ:@&Addr}{g:G}{H:Hp}{σ:L2.St}{s:Shared}{l:@&D}{v x:V}{vs:@&V}
abbrev LQ(K:PySem.W.Frag)(ρ:@&Addr)(H:Hp)(Q:VK):KD:=λd g'=>∀bX H' v,Ext ρ H bX H'->Rl K bX g' H'->f9 K bX H' d v->Q v H'
def LQ.ext{K ρ H cx H1 Q d g}(e:Ext ρ H cx H1)(h:LQ K ρ H Q d g):LQ K cx H1 Q d g:=λbX H' v e' R r=>h bX H' v (e.trans e') R r
def LQ.now{K ρ H Q d g v}(h:LQ K ρ H Q d g)(R:Rl K ρ g H)(r:f9 K ρ H d v):Q v H:=h ρ H v (.refl _ _) R r
def LQ.new{K ρ H Q}{g}{l}{vs}{p}(h:LQ K ρ H Q (.ref (-g)) (g++[.lst l]))(R:Rl K ρ g H)(hp:H p=none)(r:c8 K ρ H l vs):Q (.ref p) (upd H p (.lst vs)) :=
 h (ρ++[p]) _ _ (A8 hp) (R.alloc hp r) (.ref (R.w6 p))
def LQ.tup{K ρ H Q}{g}{l}{vs}{p}(h:LQ K ρ H Q (.tup l) g)(R:Rl K ρ g H)(hp:H p=none)(r:c8 K ρ H l vs):Q (.ref p) (upd H p (.tup vs)) :=
 h ρ _ _ (B0 hp) (R.grow hp) (.tup (.inl m4) (r.ext (B0 hp)))
def r2(K:PySem.W.Frag)(p:Pr):R2:=λx y H Q=>∃d e g ρ,Rl K ρ g H/\f9 K ρ H d x/\f9 K ρ H e y/\cI p [d,e] g (LQ K ρ H Q)
abbrev r1(K:PySem.W.Frag)(p:Pr):V->Hp->VK->Prop:=λx H Q=>∃d g ρ,Rl K ρ g H/\f9 K ρ H d x/\cI p [d] g (LQ K ρ H Q)
abbrev rN(K:PySem.W.Frag)(p:Pr):@&V->Hp->VK->Prop:=λxs H Q=>∃ds g ρ,Rl K ρ g H/\c8 K ρ H ds xs/\cI p ds g (LQ K ρ H Q)
def J0{n}(h:n<=100000):n<=sizeLine:=aC h ∅
def Ih{n}(h:n<100000):n<sizeLine:=aB h ∅
def f9.n6{K ρ H i v}(h:f9 K ρ H (.int i) v):v=.int i:=by cases h;rfl
def f9.HG{K ρ H i v}(h:f9 K ρ H (.str i) v):v=.str i:=by cases h;rfl
def f9.V3{K ρ H i v}(h:f9 K ρ H (.bl i) v):v=.bl i:=by cases h;rfl
def f9.BH{K ρ H v}(h:f9 K ρ H .bq v):v=.bq:=by cases h;rfl
def f9.b00{K ρ H n v}(h:f9 K ρ H (.ty n) v):v=.ty n:=by cases h;rfl
def f9.j9{K ρ H i v}(h:f9 K ρ H (.ref i) v):∃a,v=.ref a/\ρ[i]?=!a:=by cases h;show#[_,rfl,by assumption]
def f9.M7{K ρ H l v}(h:f9 K ρ H (.tup l) v):∃a vs,v=.ref a/\TupAt K H a vs/\c8 K ρ H l vs:=by cases h;show#[_,_,rfl,by assumption,by assumption]
def c8.one{K ρ H d vs}(h:c8 K ρ H [d] vs):∃v,vs=[v]/\f9 K ρ H d v:=by
 cases h with
 |cons r rr=>cases rr;show#[_,rfl,r]
def c8.two{K ρ H d e vs}(h:c8 K ρ H [d,e] vs):∃v w,vs=[v,w]/\f9 K ρ H d v/\f9 K ρ H e w:=by
 cases h with
 |cons r rr=>let#[w,rfl,q]:=rr.one;show#[_,_,rfl,r,q]
def F0{a b c}(h:[a,b]=[c,d]):a=c/\b=d:=by cases h;show#[rfl,rfl]
section
def bU1(op:Operator):gj X (binaryOp op) (r2 X.K (.bin op)):=by
 intro pi s σ H x y v u Q I rx ry h;let#[d,e,g,ρ,R,rd,re,d',g',h,q]:=h;rcases h with⟨i,j,r,ex,ha,rfl,rfl⟩|⟨rfl,h⟩|⟨rfl,h⟩
 .let#[rfl,rfl]:=F0 ex;obtain rfl:=rd.n6;obtain rfl:=re.n6;let fin:=q.now R (.int r);cases op<;>first|show(show False from ha).elim|skip
  .cases ha;show bU3 pi s σ H _ _ v u Q I rx ry #[i,j,rfl,rfl,fin]
  .cases ha;show bT3 pi s σ H _ _ v u Q I rx ry #[i,j,rfl,rfl,fin]
  .let#[hc,rfl]:=ha;show bT7 pi s σ H _ _ v u Q I rx ry #[i,j,rfl,rfl,hc,fin]
  .let#[hc,rfl]:=ha;show bT8 pi s σ H _ _ v u Q I rx ry #[i,j,rfl,rfl,hc,fin]
  .let#[hc,rfl]:=ha;show bT6 pi s σ H _ _ v u Q I rx ry #[i,j,rfl,rfl,hc,fin]
  .let#[hc,rfl]:=ha;show bT4 pi s σ H _ _ v u Q I rx ry #[i,j,rfl,rfl,hc,fin]
  .cases ha;show b37 pi s σ H _ _ v u Q I rx ry #[i,j,rfl,rfl,fin]
  .cases ha;show bU2 pi s σ H _ _ v u Q I rx ry #[i,j,rfl,rfl,fin]
  .let#[hc,rfl]:=ha;show bH3 pi s σ H _ _ v u Q I rx ry #[i,j,rfl,rfl,hc,fin]
 .rcases h with⟨l,m,ex,hz,rfl,rfl⟩|⟨a,b,l,m,ex,ha,hb,hz,rfl,rfl⟩|z
  .let#[rfl,rfl]:=F0 ex;let#[a,vs,rfl,ta,rs]:=rd.M7;let#[b,ws,rfl,tb,rt]:=re.M7;show XO pi s σ H _ _ v u Q I rx ry #[a,b,vs,ws,rfl,rfl,ta.sq,tb.sq,?_,λz=>?_,λz=>?_,λp hp=>q.tup R hp (rs.append rt)]
   .rw[<- -rs,<- -rt];show J0 hz
   .subst z;cases rs;show q.now R (.tup tb rt)
   .subst z;cases rt;rw[fh] at q;show q.now R (.tup ta rs)
  .let#[rfl,rfl]:=F0 ex;let#[a',rfl,ra]:=rd.j9;let#[b',rfl,rb]:=re.j9;let#[vs,z1,rs]:=R.lst ha ra;let#[ws,z2,rt]:=R.lst hb rb;show bU0 pi s σ H _ _ v u Q I rx ry #[_,_,vs,ws,rfl,rfl,z1,z2,by rw[<- -rs,<- -rt];show J0 hz,λp hp=>q.new R hp (rs.append rt)]
  .exact z.elim
 .rcases h with⟨a,l,n,ex,ha,h1,h2,hz,rfl,rfl⟩
  let#[rfl,rfl]:=F0 ex;let#[a',rfl,ra]:=rd.j9;obtain rfl:=re.n6;let#[vs,z1,rs]:=R.lst ha ra;show bT5 pi s σ H _ _ v u Q I rx ry #[_,_,vs,rfl,rfl,z1,by omega,by omega,by rw[<- -rs];show J0 hz,λp hp=>q.new R hp (rs.rep _)]
def b36(op:UnaryOp):BQ X (unaryOp op) (r1 X.K (.un op)):=by
 intro pi s σ H x v Q I rx h;let#[d,g,ρ,R,rd,d',g',#[rfl,i,ex,rfl,rfl],q]:=h;cases ex;obtain rfl:=rd.n6;show bL4 pi s σ H _ v Q I rx #[_,rfl,q.now R (.int _)]
section
variable{pi:@&(Addr×Obj)}
def NN(I:Inv X pi σ H s)(R:Rl X.K ρ g H)(n:Nat)(ih:∀{d:D} {v:V} {u:Value} {p:PyData},rd g n d=!p->f9 X.K ρ H d v->RelV v u->∃as,Reads s.heap u p as/\p.depth<=n):∀{vs:@&V} {us:@&Value} {ps:@&PyData},l.mapM (rd g n)=!ps->c8 X.K ρ H l vs->Vals vs us->∃as,ReadsAll s.heap us ps as/\PyData.depthAll ps<=n:=by
 induction l with
 |nil =>
  intro vs us ps h rs rv;cases rs;cases rv;simp at h;subst h;show#[_,.nil,cj _]
 |cons d l il =>
  intro vs us ps h rs rv;cases rs with
  |cons jf rs =>
   cases rv with
   |cons ru rv =>
    rw[eJ] at h;cases e:rd g n d with
    |none=>simp_all
    |some p =>
     rw[e] at h;cases e2:l.mapM (rd g n) with
     |none=>rw[e2] at h;cases h
     |some qs =>
      rw[e2] at h;cases h;let#[as,q1,d1]:=ih e jf ru;let#[bs,q2,d2]:=il e2 rs rv;show#[_,.cons q1 q2,?_];simp only[PyData.depthAll];omega
set_option tactic.hygienic true in
def yL(I:Inv X pi σ H s)(R:Rl X.K ρ g H)(n:Nat):∀{d:D} {v:V} {u:Value} {p:PyData},rd g n d=!p->f9 X.K ρ H d v->RelV v u->∃as,Reads s.heap u p as/\p.depth<=n:=by
 induction n with
 |zero =>
  intro d v u p h r ru;cases r with
  |bq=>simp only[rd] at h;cases h;cases ru;show#[_,.none,Nat.zero_le _]
  |bl b=>simp only[rd] at h;cases h;cases ru;show#[_,.bool b,Nat.zero_le _]
  |int i=>simp only[rd] at h;cases h;let#[t,rfl]:=ru;show#[_,.int i t,Nat.zero_le _]
  |str x=>simp only[rd] at h;cases h;let#[t,rfl]:=ru;show#[_,.str x t,Nat.zero_le _]
  |_=>simp only[rd] at h;cases h
 |succ n ih =>
  intro d v u p h r ru;cases r with
  |bq=>simp only[rd] at h;cases h;cases ru;show#[_,.none,Nat.zero_le _]
  |bl b=>simp only[rd] at h;cases h;cases ru;show#[_,.bool b,Nat.zero_le _]
  |int i=>simp only[rd] at h;cases h;let#[t,rfl]:=ru;show#[_,.int i t,Nat.zero_le _]
  |str x=>simp only[rd] at h;cases h;let#[t,rfl]:=ru;show#[_,.str x t,Nat.zero_le _]
  |ty x=>simp only[rd] at h;cases h
  |ref ha =>
   rename_i i a;simp only[rd] at h;cases e:d7 g i with
   |none=>simp_all
   |some l =>
    rw[e] at h;dsimp only at h;cases e2:l.mapM (rd g n) with
    |none=>simp_all
    |some ps =>
     rw[e2] at h;cases h;cases ru;let#[vs,hq,rs]:=R.items e ha;let#[aZ,rv,p,hz]:=I.list hq;let#[as,q,hd]:=NN I R n ih e2 rs rv;let#[o,ho,hc,k,tO]:=p.isList;show#[_,.list ho hc tO (_/q),?_];simp only[PyData.depth];omega
  |tup ht rs =>
   rename_i l a vs;simp only[rd] at h;cases e2:l.mapM (rd g n) with
   |none=>simp_all
   |some ps =>
    rw[e2] at h;cases h;cases ru;let#[aZ,rv,pt,hz]:=I.tuple ht.sq;let#[as,q,hd]:=NN I R n ih e2 rs rv;let#[o,ho,hc,k,tO]:=id pt;show#[_,.tuple ho hc tO (_/q),?_];simp only[PyData.depth];omega
end
end
def X4{K ρ H}{c}(h:ox d=!c)(r:f9 K ρ H d v):v=kV c:=by
 cases r<;>first|(cases h;rfl)|cases h
def uw.some{K ρ H}{o}{d}(h:uw K ρ H (!d) o):∃v,o=!v/\f9 K ρ H d v:=by
 cases o with
 |none=>show h.elim
 |some v=>show#[v,rfl,h]
def uw.isSome{K ρ H}{o}{d}(h:uw K ρ H d o):d.isSome=o.isSome:=by
 cases o<;>cases d<;>first|rfl|show h.elim
def Lb{pi}{e}{y}{v u}{Q}(hu:X.A.units+100<cLine)(I:Inv X pi σ H s)(rx:RelV x v)(ry:RelV y u)(R:Rl X.K ρ g H)(jf:f9 X.K ρ H d x)(re:f9 X.K ρ H e y)(h:xS g d e b)(neg:Bool)(q:Q (.bl (xor neg b)) H):wpAny (model X.prog X.w) X.A (compareOp (if neg then .NotEq else .Eq) v u) (EP X pi σ Q) X.xe s:=by
 rcases h with⟨i,j,rfl,rfl,rfl⟩|⟨i,j,rfl,rfl,rfl⟩|⟨i,j,rfl,rfl,rfl⟩|⟨p,p',h1,h2,c1,c2,rfl⟩
 .obtain rfl:=jf.n6;obtain rfl:=re.n6;cases neg
  .exact ID pi s σ H _ _ v u Q I rx ry #[rfl,by simp_all]
  .exact IE pi s σ H _ _ v u Q I rx ry #[rfl,by simp_all]
 .obtain rfl:=jf.V3;obtain rfl:=re.V3;cases neg
  .exact ID pi s σ H _ _ v u Q I rx ry #[rfl,by rw[BB];simpa using q]
  .exact IE pi s σ H _ _ v u Q I rx ry #[rfl,by rw[BB];simpa using q]
 .obtain rfl:=jf.HG;obtain rfl:=re.HG;cases neg
  .exact ID pi s σ H _ _ v u Q I rx ry #[rfl,by simp_all]
  .exact IE pi s σ H _ _ v u Q I rx ry #[rfl,by simp_all]
 .let#[as,q1,d1]:=yL I R 6 h1 jf rx;let#[bs,q2,d2]:=yL I R 6 h2 re ry;let hr:X.A.units+min p.depth p'.depth<cLine:=by omega
  cases neg
  .exact SeqAt.compareEq_reads q1 q2 c1 c2 hr #[.bl _,H,I,rfl,by simpa using q]
  .exact SeqAt.compareNe_reads q1 q2 c1 c2 hr #[.bl _,H,I,rfl,by simpa using q]
def in_of{pi}{e}{y}{v u}{Q}(hu:X.A.units+100<cLine)(I:Inv X pi σ H s)(rx:RelV x v)(ry:RelV y u)(R:Rl X.K ρ g H)(jf:f9 X.K ρ H d x)(re:f9 X.K ρ H e y)(h:inR g d e b)(neg:Bool)(q:Q (.bl (xor neg b)) H):wpAny (model X.prog X.w) X.A (compareOp (if neg then .NotIn else .In) v u) (EP X pi σ Q) X.xe s:=by
 rcases h with⟨a,kvs,c,rfl,ha,hc,rfl⟩|⟨l,ps,p,h0,h1,h2,c1,c2,rfl⟩
 .let#[a',rfl,ra]:=re.j9;let#[vs,z,rs]:=R.cy ha ra;have:=X4 hc jf;subst this;cases ry;rw[(rs.val c).isSome] at q;cases neg
  .exact Vz () I (pj.k z) rx λs' I'=>#[.bl _,H,I',rfl,by simpa using q]
  .exact bK0 () I (pj.k z) rx λs' I'=>#[.bl _,H,I',rfl,by simpa using q]
 .let#[as,q1,d1]:=yL I R 6 h2 jf rx;cases e with
  |tup m =>
   cases h0;let h3:rd g 7 (.tup l)=!.tuple ps:=by simp only[rd];rw[show l.mapM (rd g 6)=some ps from h1];rfl
   let#[bs,q2,d2]:=yL I R 7 h3 re ry;let hr:X.A.units+1+min (PyData.depthAll ps) p.depth<cLine:=by omega
   cases neg
   .exact SeqAt.in_tuple_reads q2 q1 c1 c2 hr #[.bl _,H,I,rfl,by simpa using q]
   .exact SeqAt.notIn_tuple_reads q2 q1 c1 c2 hr #[.bl _,H,I,rfl,by simpa using q]
  |ref a =>
   let h3:rd g 7 (.ref a)=!.list ps:=by
    simp only[rd];rw[show d7 g a=some l from h0];dsimp only;rw[show l.mapM (rd g 6)=some ps from h1]
    rfl
   let#[bs,q2,d2]:=yL I R 7 h3 re ry;let hr:X.A.units+1+min (PyData.depthAll ps) p.depth<cLine:=by omega
   cases neg
   .exact SeqAt.in_list_reads q2 q1 c1 c2 hr #[.bl _,H,I,rfl,by simpa using q]
   .exact SeqAt.notIn_list_reads q2 q1 c1 c2 hr #[.bl _,H,I,rfl,by simpa using q]
  |_=>cases h0
def vA(hu:X.A.units+100<cLine)(op:CmpOp):gj X (compareOp op) (r2 X.K (.cmp op)):=by
 intro pi s σ H x y v u Q I rx ry h;let#[d,e,g,ρ,R,jf,re,d',g',#[x',y',b,ex,h,rfl,rfl],q]:=h;let#[rfl,rfl]:=F0 ex;let fin:=q.now R (.bl b);let pU:∀{P:Int->Int->Bool},(∃i j,d=.int i/\e=.int j/\b=P i j)->∃i j,x=.int i/\y=.int j/\b=P i j:=λhh=>by
  let#[i,j,z1,z2,z3]:=hh;show#[i,j,(z1▸jf).n6,(z2▸re).n6,z3]
 cases op
 .exact Lb hu I rx ry R jf re h false (_/fin)
 .exact Lb hu I rx ry R jf re h true (_/fin)
 .let#[i,j,e1,e2,e3]:=pU (P:=λi j=>decide (i<j)) h;show b38 pi s σ H _ _ v u Q I rx ry #[i,j,e1,e2,by subst e3;show fin]
 .let#[i,j,e1,e2,e3]:=pU (P:=λi j=>decide (i<=j)) h;show b39 pi s σ H _ _ v u Q I rx ry #[i,j,e1,e2,by subst e3;show fin]
 .let#[i,j,e1,e2,e3]:=pU (P:=λi j=>decide (j<i)) h;show b40 pi s σ H _ _ v u Q I rx ry #[i,j,e1,e2,by subst e3;show fin]
 .let#[i,j,e1,e2,e3]:=pU (P:=λi j=>decide (j<=i)) h;show b41 pi s σ H _ _ v u Q I rx ry #[i,j,e1,e2,by subst e3;show fin]
 .let#[rfl,rfl]:=(show _/\_ from h)
  obtain rfl:=re.BH;show bT9 pi s σ H _ _ v u Q I rx ry #[rfl,?_];let e:V2 d=decide (x=V.bq):=by cases jf<;>simp[V2]
  rw[<- e];show fin
 .let#[rfl,rfl]:=(show _/\_ from h)
  obtain rfl:=re.BH;show bH2 pi s σ H _ _ v u Q I rx ry #[rfl,?_];let e:V2 d=decide (x=V.bq):=by cases jf<;>simp[V2]
  rw[<- e];show fin
 .rcases h with h|⟨a,S,n,i,rfl,ha,rfl,rfl⟩
  .exact in_of hu I rx ry R jf re h false (_/fin)
  .let#[a',rfl,ra]:=re.j9;obtain rfl:=jf.n6;show ZN pi s σ H _ _ v u Q I rx ry #[i,a',S,n,rfl,rfl,R.set ha ra,fin]
 .rcases h with h|⟨a,S,n,i,rfl,ha,rfl,hb⟩
  .exact in_of hu I rx ry R jf re h true (_/fin)
  .let#[a',rfl,ra]:=re.j9;obtain rfl:=jf.n6;show aR9 pi s σ H _ _ v u Q I rx ry #[i,a',S,n,rfl,rfl,R.set ha ra,by rw[<- hb,Bool.not_not];show fin]
def empty_eq{K ρ H}(r:c8 K ρ H l vs):l.isEmpty=vs.isEmpty:=by cases r<;>rfl
def bL9{K}(R:Rl K ρ g H)(r:f9 K ρ H d x)(h:M' g d b):Fu K x H b:=by
 rcases h with⟨rfl,rfl⟩|rfl|⟨i,rfl,rfl⟩|⟨l,rfl,rfl⟩|⟨a,l,rfl,hl,rfl⟩
 .obtain rfl:=r.BH;rfl
 .obtain rfl:=r.V3;rfl
 .obtain rfl:=r.n6;rfl
 .let#[a,vs,rfl,ht,rs]:=r.M7;show .inr (.inl #[_,ht.sq,by rw[empty_eq rs]])
 .let#[a',rfl,ha]:=r.j9;let#[vs,hq,rs]:=R.items hl ha;show .inl #[_,hq,by rw[empty_eq rs]]
def bK5{K ρ H}{i}(r:c8 K ρ H l vs)(h:iX l i=!d):∃v,iX vs i=!v/\f9 K ρ H d v:=by
 unfold iX at h ⊢;rw[<- -r];cases e:nM (-l) i with
 |none=>simp_all
 |some j =>
  rw[e] at h;show r.get h
def yu{K ρ H}{x}(R:Rl K ρ g H)(r:f9 K ρ H x v)(h:M8 g x=!l):∃a vs,v=.ref a/\c8 K ρ H l vs/\((∃i,x=.ref i/\ρ[i]?=!a)/\fJ K H a vs\/x=.tup l/\TupAt K H a vs):=by
 cases r with
 |tup ht rs=>cases h;show#[_,_,rfl,rs,.inr #[rfl,ht]]
 |ref ha=>let#[vs,hq,rs]:=R.items h ha;show#[_,_,rfl,rs,.inl #[#[_,rfl,ha],hq]]
 |_=>cases h
def b57(hu:X.A.units+100<cLine):vU X (r2 X.K .ix):=by
 intro value slice pi s σ H x y v u Q I rx ry h hs;let#[d,e,g,ρ,R,jf,re,d',g',#[rfl,h],q]:=h;rcases h with⟨x',l,i,ex,hl,ha⟩|⟨a,kvs,y',c,ex,ha,hc,hv⟩|z
 .let#[rfl,rfl]:=F0 ex;obtain rfl:=re.n6;let#[a,vs,rfl,rs,h]:=yu R jf hl;let#[w,hw,fN]:=bK5 rs ha;rcases h with⟨_,hq⟩|⟨_,ht⟩
  .exact bI8 value slice pi s σ H _ _ v u Q I rx ry #[_,_,i,w,rfl,rfl,hq,hw,q.now R fN] hs
  .exact bW4 value slice pi s σ H _ _ v u Q I rx ry #[_,_,i,w,rfl,rfl,ht.sq,hw,q.now R fN] hs
 .let#[rfl,rfl]:=F0 ex;let#[a',rfl,ra]:=jf.j9;let#[vs,z,rs]:=R.cy ha ra;have:=X4 hc re;subst this;let q2:=rs.val c;rw[hv] at q2;let#[w,hw,fN]:=q2.some;show bI9 () value slice pi s σ H _ _ v u Q I rx ry #[_,w,rfl,by have:=pj.k (k:=c) z;rw[hw] at this;show this,q.now R fN] hs
 .exact z.elim
abbrev Sa(K:PySem.W.Frag):V->Option Int->Option Int->Hp->VK->Prop:=λx lo hi H Q=>∃d g ρ d' g',Rl K ρ g H/\f9 K ρ H d x/\wq d lo hi g d' g'/\LQ K ρ H Q d' g'
def Lv:zc X (Sa X.K):=by
 intro pi s σ H x v vl vu lo hi sl Q I rx hs pl pu h;let#[d,g,ρ,d',g',R,jf,h,q]:=h;rcases h with⟨l,rfl,rfl,rfl⟩|⟨a,l,rfl,hl,rfl,rfl⟩
 .let#[a,vs,rfl,ht,rs]:=jf.M7;show bD0 pi s σ H _ v vl vu lo hi sl Q I rx hs pl pu #[_,_,rfl,ht.sq,λz=>?_,λp hp=>q.tup R hp (rs.cut lo hi)];show q.now R (.tup ht ?_);have:=rs.cut lo hi
  simp_all
 .let#[a',rfl,ha]:=jf.j9;let#[vs,hq,rs]:=R.items hl ha;show bD1 pi s σ H _ v vl vu lo hi sl Q I rx hs pl pu #[_,_,rfl,hq,λp hp=>q.new R hp (rs.cut lo hi)]
abbrev Wn(K:PySem.W.Frag):V->V->V->Hp->(Hp->Prop)->Prop:=λo i v H Q=>∃Fd di dv g ρ,Rl K ρ g H/\f9 K ρ H Fd o/\f9 K ρ H di i/\f9 K ρ H dv v/\pv Fd di dv g (λg'=>∀bX H',Ext ρ H bX H'->Rl K bX g' H'->Q H')
def bO9(hu:X.A.units+100<cLine):Fq X (Wn X.K):=by
 intro pi s σ H o i v ov iv u Q I ro ri rv h;let#[Fd,di,dv,g,ρ,R,r1,r2,r3,g',h,q]:=h;rcases h with⟨a,i',l,j,rfl,rfl,hl,hj,rfl⟩|⟨a,kvs,c,rfl,ha,hc,hz,rfl⟩
 .let#[a',rfl,ha]:=r1.j9;obtain rfl:=r2.n6;let#[vs,z,rs]:=R.lst hl ha;let#[R',e']:=R.write hl ha (rs.set r3 j);show set_list pi s σ H _ _ _ ov iv u Q I ro ri rv #[_,vs,_,j,rfl,rfl,z,by rw[<- -rs];show hj,q ρ _ e' R']
 .let#[a',rfl,ra]:=r1.j9;let#[vs,z,rs]:=R.cy ha ra;have:=X4 hc r2;subst this;let#[R',e']:=R.put (o':=.cy (putD kvs c dv)) (u:=.dK (putK vs c v)) ha rfl ra (rs.put r3);cases ro;show Zj () I (Ap.k z (by rw[<- -rs];show Ih hz)) ri rv λs' I'=>#[_,I',q ρ _ e' R']
def bV7:u3 X (.builtin "len") (rN X.K .len):=by
 intro pi s σ H xs us Q I r h;let#[ds,g,ρ,R,rs,d',g',#[rfl,h],q]:=h;rcases h with⟨x,l,rfl,hl,rfl⟩|⟨a,kvs,rfl,ha,rfl⟩|z
 .let#[v,rfl,rv]:=rs.one;let#[a,vs,rfl,rl,h]:=yu R rv hl;show aV4 pi s σ H _ us Q I r #[_,_,rfl,?_,by rw[<- -rl];show q.now R (.int _)];show h.imp (λz=>z.2) (λz=>z.2.sq)
 .let#[v,rfl,rv]:=rs.one;let#[a',rfl,ra]:=rv.j9;let#[vs,z,rk]:=R.cy ha ra;show Zc pi s σ H _ us Q I r #[_,_,rfl,z,by rw[<- -rk];show q.now R (.int _)]
 .exact z.elim
def FU{K ρ H}:∀(ks:@&Key),c8 K ρ H (ks.map kD) (ks.map kV)
 |[]=>.nil
 |.inl _::r=>.cons (.int _) (FU r)
 |.inr _::r=>.cons (.str _) (FU r)
def i8.keys{α:Type}{K ρ H}{ds:@&(α×D)}{vs:@&(α×V)}(h:i8 K ρ H ds vs):ds.map (·.1)=vs.map (·.1):=by
 induction h with
 |nil=>rfl
 |cons _ _ ih=>simp_all
def bI3(hc:X.calm=true):u3 X (.type "list") (rN X.K .list):=by
 intro pi s σ H xs us Q I r h;obtain⟨ds,g,ρ,R,rs,d',g',⟨x,l,rfl,hl,rfl,rfl⟩|⟨a,kvs,rfl,ha,hn,rfl,rfl⟩,q⟩:=h
 rotate_left
 .let#[v,rfl,rv]:=rs.one;let#[a',rfl,ra]:=rv.j9;let#[vs,z,rk]:=R.cy ha ra;show aG7 hc pi s σ H _ us Q I r #[_,vs,rfl,z,by rw[<- -rk];show hn,λp hp=>q (ρ++[p]) _ _ (A8 hp) (R.new hp (by rw[rk.keys];show FU _)) (.ref (R.w6 p))]
 let#[v,rfl,rv]:=rs.one;let#[a,vs,rfl,rl,h]:=yu R rv hl;show aV3 pi s σ H _ us Q I r #[_,_,rfl,h.imp (λz=>z.2) (λz=>z.2.sq),λp hp=>q.new R hp rl]
def YQ:u3 X (.type "tuple") (rN X.K .tuple):=by
 intro pi s σ H xs us Q I r h;let#[ds,g,ρ,R,rs,d',g',#[x,l,rfl,hl,rfl,rfl],q]:=h;let#[v,rfl,rv]:=rs.one;let#[a,vs,rfl,rl,h]:=yu R rv hl;show aL9 pi s σ H _ us Q I r #[a,vs,rfl,?_];show h.imp (λz=>#[z.2,λp hp=>q.tup R hp rl]) (λz=>#[z.2.sq,q.now R (.tup z.2 rl)])
def bJ0:u3 X (.builtin "isinstance") (rN X.K .isin):=by
 intro pi s σ H xs us Q I r h;let#[ds,g,ρ,R,rs,d',g',#[x,c,b,rfl,hc,hb,rfl,rfl],q]:=h;let#[v,w,rfl,r1,r2]:=rs.two;obtain rfl:=r2.b00;let fin:=q.now R (.bl b);let go:∀(t:Value) (v:V),iy X.K H v t->PySem.W.kitOne X.K t (.type c)=!b->Vals [v,V.ty c] us->wpAny (model X.prog X.w) X.A (call (.builtin "isinstance") us) (EP X pi σ Q) X.xe s :=
  λt v ht hk r=>aY1 pi s σ H _ us Q I r #[v,t,c,b,rfl,ht,hk,fin]
 simp only[List.mem_cons,List.mem_nil_iff,or_false] at hc;cases r1 with
 |bq=>show go _ _ .bq ?_ r;cases hb;rcases hc with rfl|rfl|rfl|rfl|rfl<;>rfl
 |bl y=>show go _ _ (.bl y) ?_ r;cases hb;rcases hc with rfl|rfl|rfl|rfl|rfl<;>rfl
 |int y=>show go _ _ (.int y) ?_ r;cases hb;rcases hc with rfl|rfl|rfl|rfl|rfl<;>rfl
 |str y=>show go _ _ (.str y) ?_ r;cases hb;rcases hc with rfl|rfl|rfl|rfl|rfl<;>rfl
 |ty _=>cases hb
 |tup ht rs =>
  cases hb;rcases ht with ht|ht
  .refine go _ _ (.tup ht) ?_ r;rcases hc with rfl|rfl|rfl|rfl|rfl<;>rfl
  .let#[o,aZ,n,lk,jo,_]:=ht;let#[u,w',rfl,ru,fN]:=vals2 r;cases (show w'=Value.type c from fN);cases ru;let hk:PySem.W.kitOne X.K (.type "tuple") (.type c)=!(c=="tuple"):=by rcases hc with rfl|rfl|rfl|rfl|rfl<;>rfl
   show cw Rx I.gN #[o,I.gN _ _ lk,jo] hk (λz=>nomatch z) λtk=>#[.bl _,H,I.tok tk,rfl,fin]
 |@ref i a ha =>
  let xu:∃m,g'[i]?=!.lst m/\b=(c=="list"):=by
   simp only[uq] at hb;split at hb
   .exact#[_,by assumption,(aO hb).symm]
   .cases hb
  let#[m,e,rfl]:=xu;let#[vs,z,_]:=R.lst e ha;show go _ _ (.lst z) ?_ r;rcases hc with rfl|rfl|rfl|rfl|rfl<;>rfl
set_option tactic.hygienic true in
def ba1:∀{l:@&D} {b:Bool},se l=!b->∃bs:@&Bool,l=bs.map D.bl/\b=bs.all id:=by
 intro l
 induction l with
 |nil=>intro b h;cases h;show#[[],rfl,rfl]
 |cons d r ih =>
  intro b h;cases d<;>first|(cases h;done)|skip
  rename_i c;simp only[se] at h;cases e:se r with
  |none=>simp_all
  |some b' =>
   rw[e] at h;cases h;let#[bs,rfl,rfl]:=ih e;show#[c::bs,rfl,by simp]
def c8.YJ{K ρ H}:∀{bs:@&Bool} {vs:@&V},c8 K ρ H (bs.map D.bl) vs->vs=bs.map V.bl:=by
 intro bs
 induction bs with
 |nil=>intro vs h;cases h;rfl
 |cons b r ih =>
  intro vs h;cases h with
  |cons h rr=>rw[ih rr,h.V3];rfl
def bZ1(hc:X.calm=true):u3 X (.builtin "all") (rN X.K .all):=by
 intro pi s σ H xs us Q I r h;let#[ds,g,ρ,R,rs,d',g',#[a,l,b,rfl,hl,hb,rfl,rfl],q]:=h;let#[v,rfl,rv]:=rs.one;let#[a',rfl,ra]:=rv.j9;let#[vs,hq,rs]:=R.items hl ra;rcases hb with hb|⟨ns,rfl,rfl⟩
 rotate_left
 .have:=rs.ints;subst this;show Zb hc pi s σ H _ us Q I r #[_,ns,rfl,hq,q.now R (.bl _)]
 let#[bs,rfl,rfl]:=ba1 hb;have:=rs.YJ;subst this;show Za hc pi s σ H _ us Q I r #[_,bs,rfl,hq,q.now R (.bl _)]
def FT{K ρ H}:∀(ns:@&Int),c8 K ρ H (ns.map D.int) (ns.map V.int)
 |[]=>.nil
 |_::r=>.cons (.int _) (FT r)
def YD(hc:X.calm=true):u3 X (.builtin "sorted") (rN X.K .eA):=by
 intro pi s σ H xs us Q I r h;obtain⟨ds,g,ρ,R,rs,d',g',⟨a,kvs,ns,rfl,ha,hk,hn,rfl,rfl⟩|⟨x,ns,rfl,hx,hn,rfl,rfl⟩,q⟩:=h
 rotate_left
 .let#[v,rfl,rv]:=rs.one;let#[a,vs,rfl,rl,h]:=yu R rv hx;have:=rl.ints;subst this;show aG6 pi s σ H _ us Q I r #[_,ns,rfl,h.imp (λz=>z.2) (λz=>z.2.sq),hn,λp hp=>q (ρ++[p]) _ _ (A8 hp) (R.new hp (FT _)) (.ref (R.w6 p))]
 let#[v,rfl,rv]:=rs.one;let#[a',rfl,ra]:=rv.j9;let#[vs,z1,rk]:=R.cy ha ra;show ay1 hc pi s σ H _ us Q I r #[_,vs,ns,rfl,z1,rk.keys.symm.trans hk,hn,λp hp=>q (ρ++[p]) _ _ (A8 hp) (R.new hp (FT _)) (.ref (R.w6 p))]
def bN4(hc:X.calm=true):u3 X (.builtin "sum") (rN X.K .sum):=by
 intro pi s σ H xs us Q I r h;let#[ds,g,ρ,R,rs,d',g',h,q]:=h;let#[a,ns,rfl,hl,rfl,rfl]:=h;let#[v,rfl,rv]:=rs.one;let#[a',rfl,ra]:=rv.j9;let#[vs,hq,rs]:=R.items hl ra;have:=rs.ints;subst this;show Zd hc pi s σ H _ us Q I r #[_,ns,rfl,hq,q.now R (.int _)]
def bW7:u3 X (.type "int") (rN X.K .int):=by
 intro pi s σ H xs us Q I r h;let#[ds,g,ρ,R,rs,d',g',#[rfl,h],q]:=h;rcases h with⟨i,rfl,rfl⟩|⟨b,rfl,rfl⟩
 .let#[v,rfl,rv]:=rs.one;obtain rfl:=rv.n6;show Pm pi s σ H _ us Q I r (.inl #[i,rfl,q.now R (.int _)])
 .let#[v,rfl,rv]:=rs.one;obtain rfl:=rv.V3;show Pm pi s σ H _ us Q I r (.inr #[b,rfl,q.now R (.int _)])
abbrev rM(K:PySem.W.Frag)(p:Pr):V->@&V->Hp->VK->Prop:=λx xs H Q=>∃d ds g ρ,Rl K ρ g H/\f9 K ρ H d x/\c8 K ρ H ds xs/\cI p (d::ds) g (LQ K ρ H Q)
def X9{a b}{m}(h:a::l=b::m):a=b/\l=m:=by cases h;show#[rfl,rfl]
def YY:mj X "list.append" (rM X.K .append):=by
 intro pi s σ H x xs v us Q I rx r h;let#[d,ds,g,ρ,R,rd,rs,d',g',#[a,y,l,ex,ha,hz,rfl,rfl],q]:=h;let#[rfl,rfl]:=X9 ex;let#[a',rfl,ra]:=rd.j9;let#[w,rfl,fN]:=rs.one;let#[vs,z1,rv]:=R.lst ha ra;let#[R2,e2]:=R.write ha ra (rv.append (.cons fN .nil));show ZI pi s σ H _ _ v us Q I rx r #[_,vs,_,rfl,rfl,z1,by rw[<- -rv];show Ih hz,q ρ _ _ e2 R2 .bq]
def WY:mj X "list.clear" (rM X.K .clear):=by
 intro pi s σ H x xs v us Q I rx r h;let#[d,ds,g,ρ,R,rd,rs,d',g',#[a,l,ex,ha,rfl,rfl],q]:=h;let#[rfl,rfl]:=X9 ex;let#[a',rfl,ra]:=rd.j9;cases rs;let#[vs,z1,rv]:=R.lst ha ra;let#[R2,e2]:=R.write ha ra (c8.nil);show XH pi s σ H _ _ v us Q I rx r #[_,vs,rfl,rfl,z1,q ρ _ _ e2 R2 .bq]
def bF8:mj X "list.pop" (rM X.K .sV):=by
 intro pi s σ H x xs v us Q I rx r h;let#[d,ds,g,ρ,R,rd,rs,y,g',#[a,l,ex,ha,rfl],q]:=h;let#[rfl,rfl]:=X9 ex;let#[a',rfl,ra]:=rd.j9;cases rs;let#[vs,z1,rv]:=R.lst ha ra;let#[w,hw,fN]:=rv.get (i:=-l) (d:=y) #[_];let hl:-vs=-l+1:=by rw[<- -rv];simp
 let rl:c8 X.K ρ H l vs.dropLast:=by
  have:=rv.erase (-l);rw[List.eraseIdx_append_of_length_le (av _)] at this;rw[show vs.eraseIdx (-l)=vs.dropLast by rw[List.eraseIdx_eq_dropLast];omega] at this;simpa using this
 let#[R2,e2]:=R.write ha ra rl;show bU9 pi s σ H _ _ v us Q I rx r #[_,vs,w,rfl,rfl,z1,by rw[hl];show hw,q ρ _ _ e2 R2 (fN.ext e2)]
def i8.LD{K ρ H}:∀ks:@&Int,i8 K ρ H (ks.map λk=>((.inl k:Key),D.bl true)) (ks.map λk=>((.inl k:Key),V.bl true))
 |[]=>.nil
 |_::ks=>.cons (.bl true) (i8.LD ks)
def PY{K ρ H}:∀{ks:@&Int} {vs:@&V},c8 K ρ H (ks.map λk=>.tup [.int k,.bl true]) vs->∃ts:@&Addr,vs=ts.map V.ref/\-ts=-ks/\∀(i:Nat) t k,ts[i]?=!t->ks[i]?=!k->iR K H t [.int k,.bl true]
 |[],_,h=>by cases h;simp
 |k::ks,_,h=>by
  cases h with
  |cons r rs =>
  let#[ts,rfl,hl,ht]:=PY rs;let#[a,vs,rfl,h1,h2]:=r.M7;show#[a::ts,rfl,by simp[hl],λi t k' e1 e2=>?_];cases i with
  |zero =>
   cases e1;cases e2;cases h2 with
   |cons r1 r2 =>
   cases r2 with
   |cons r2 r3 =>
   cases r3;cases r1;cases r2;show h1.sq
  |succ i=>show ht i t k' e1 e2
def Xf(hc:X.calm=true):u3 X (.type "dict") (rN X.K .iW):=by
 intro pi s σ H xs us Q I r h;obtain⟨ds,g,ρ,R,rs,d',g',⟨a,kvs,rfl,ha,rfl,rfl⟩|⟨a,ks,rfl,ha,hz,nd,rfl,rfl⟩,q⟩:=h
 .let#[v,rfl,rv]:=rs.one;let#[a',rfl,ra]:=rv.j9;let#[vs,z1,rk]:=R.cy ha ra;cases r with
  |cons r rr =>
  cases rr;cases r;show Xe I (.inl z1) λp s' hp I'=>#[.ref p,_,I',rfl,?_]
  show q (ρ++[p]) _ _ (A8 hp) (R.new hp rk) (.ref (R.w6 p))
 .let#[v,rfl,rv]:=rs.one;let#[a',rfl,ra]:=rv.j9;let#[vs,z1,rk]:=R.items ha ra;let#[ts,rfl,hl,ht]:=PY rk;show aD0 hc pi s σ H _ us Q I r #[a',ts,ks,rfl,z1,hl,ht,by omega,nd,λp hp=>?_];show q (ρ++[p]) _ _ (A8 hp) (R.new hp (i8.LD ks)) (.ref (R.w6 p))
def Yd:mj X "list.pop" (rM X.K .pop):=by
 intro pi s σ H x xs v us Q I rx r h;let#[d,ds,g,ρ,R,rd,rs,y,g',#[a,i,l,k,ex,ha,h1,h2,hk,hy,rfl],q]:=h;let#[rfl,rfl]:=X9 ex;let#[a',rfl,ra]:=rd.j9;let#[w,rfl,fN]:=rs.one;obtain rfl:=fN.n6;let#[vs,z1,rv]:=R.lst ha ra;let#[w,hw,fN]:=rv.get hy;let#[R2,e2]:=R.write ha ra (rv.erase k);show XI pi s σ H _ _ v us Q I rx r #[_,vs,i,k,w,rfl,rfl,z1,h1,h2,by rw[<- -rv];show hk,hw,q ρ _ _ e2 R2 (fN.ext e2)]
def c8.strs{K ρ H}{ys:@&Str}(h:c8 K ρ H (ys.map D.str) vs):vs=ys.map V.str:=by
 induction ys generalizing vs with
 |nil=>cases h;rfl
 |cons y ys ih =>
  cases h with
  |cons q r=>cases q;rw[ih r];rfl
def ty_list(R:Rl X.K ρ g H)(r:f9 X.K ρ H d v)(h:∃a l,d=.ref a/\d7 g a=!l):oK X.K "list" v H:=by
 let#[a,l,rfl,hl]:=h;let#[a',rfl,ra]:=r.j9;let#[vs,hq,_]:=R.items hl ra;show .inl #[rfl,vs,hq]
def bE7:mj X "set.add" (rM X.K .kM):=by
 intro pi s σ H x xs v us Q I rx r h;let#[d,ds,g,ρ,R,rd,rs,d',g',#[a,i,S,n,ex,ha,hn,rfl,rfl],q]:=h;let#[rfl,rfl]:=X9 ex;let#[a',rfl,ra]:=rd.j9;let#[w,rfl,fN]:=rs.one;obtain rfl:=fN.n6;let#[R2,e2]:=R.put (o':=.set (λk=>S k||decide (k=i)) (if S i then n else n+1)) (u:=.set (λk=>S k||decide (k=i)) (if S i then n else n+1)) ha rfl ra #[rfl,rfl];show a65 pi s σ H _ _ v us Q I rx r #[_,i,S,n,rfl,rfl,R.set ha ra,hn,q ρ _ _ e2 R2 .bq]
def ty_set(R:Rl X.K ρ g H)(r:f9 X.K ρ H d v)(h:lQ .kM d g):oK X.K "set" v H:=by
 let#[a,S,n,rfl,hl]:=h;let#[a',rfl,ra]:=r.j9;show .inr (.inr (.inr #[rfl,S,n,R.set hl ra]))
def bJ9:mj X "dict.pop" (rM X.K .jx):=by
 intro pi s σ H x xs v us Q I rx r h;let#[d,ds,g,ρ,R,rd,rs,d',g',#[a,y,kvs,c,ex,ha,hc,hv,rfl],q]:=h;let#[rfl,rfl]:=X9 ex;let#[a',rfl,ra]:=rd.j9;let#[w1,rfl,r1]:=rs.one;let#[vs,z1,rv]:=R.cy ha ra;have:=X4 hc r1;subst this;cases rx;let q2:=rv.val c;rw[hv] at q2;let#[w,hw,q2]:=q2.some;let#[R2,e2]:=R.put (o':=.cy (delD kvs c)) (u:=.dK (uA vs c)) ha rfl ra (rv.drop c);cases r with
 |cons r rr =>
 cases rr;show b74 I z1 r hw (.inl rfl) λw' s3 I3 fN=>#[w,_,I3,fN,q ρ _ _ e2 R2 (q2.ext e2)]
def ty_dict(R:Rl X.K ρ g H)(r:f9 X.K ρ H d v)(h:lQ .get d g):oK X.K "dict" v H:=by
 let#[a,l,rfl,hl]:=h;let#[a',rfl,ra]:=r.j9;let#[vs,hq,_]:=R.cy hl ra;show .inr (.inr (.inl #[rfl,.inl #[vs,hq]]))
noncomputable abbrev iQ:=@&Str×XK
abbrev LX(K:PySem.W.Frag)(ρ:@&Addr)(H:Hp)(Ξ:iQ):KX:=λx g'=>∀bX H' C,Ext ρ H bX H'->Rl K bX g' H'->x.cls∈Ξ.1->w9 K x.cls C->Ξ.2 (.ref C) none H'
def LX.ext{K}{cx}{H1}{Ξ}(e:Ext ρ H cx H1){x}(h:LX K ρ H Ξ x g):LX K cx H1 Ξ x g:=λbX H' C e' R hm c=>h bX H' C (e.trans e') R hm c
noncomputable abbrev pA(ex:@&Str):iQ:=(ex,λx x x=>False)
def LE(K:PySem.W.Frag)(Ξ:iQ)(t:S->G->KD->KX->Prop):TE:=λcz H Q=>∃σ g ρ,v5 K ρ H σ cz/\Rl K ρ g H/\t σ g (LQ K ρ H Q) (LX K ρ H Ξ)
def LT(K:PySem.W.Frag)(Ξ:iQ)(t:S->G->(Bool->G->Prop)->KX->Prop):TT:=λcz H Q=>∃σ g ρ,v5 K ρ H σ cz/\Rl K ρ g H/\t σ g (λb g'=>∀bX H',Ext ρ H bX H'->Rl K bX g' H'->Q b H') (LX K ρ H Ξ)
def LA(K:PySem.W.Frag)(Ξ:iQ)(t:S->G->(List D->G->Prop)->KX->Prop):TA:=λcz H Q=>∃σ g ρ,v5 K ρ H σ cz/\Rl K ρ g H/\t σ g (λds g'=>∀bX H' vs,Ext ρ H bX H'->Rl K bX g' H'->c8 K bX H' ds vs->Q vs H') (LX K ρ H Ξ)
def pk(K:PySem.W.Frag)(gx:@&Addr)(H0:Hp)(k:IK)(J:It):Prop:=∀ρ g H,Ext gx H0 ρ H->Rl K ρ g H->∀i,(k.at i g=!none->J.stop i H) /\
 ∀d,k.at i g=!!d->J.go i H/\∀v H',J.oH i H v H'->Ext ρ H ρ H'/\Rl K ρ g H'/\f9 K ρ H' d v
def LI(K:PySem.W.Frag)(Ξ:iQ)(t:S->G->(IK->G->Prop)->KX->Prop):TI:=λcz H R=>∃σ g ρ,v5 K ρ H σ cz/\Rl K ρ g H/\t σ g (λk g'=>∀bX H' J,Ext ρ H bX H'->Rl K bX g' H'->pk K bX H' k J->R J H') (LX K ρ H Ξ)
def LG(K:PySem.W.Frag)(t:MT):TG:=λv cz H Q=>∃d σ g ρ,v5 K ρ H σ cz/\Rl K ρ g H/\f9 K ρ H d v/\ko t d σ (λcg=>∀cZ,v5 K ρ H cg cZ->Q cZ H)
abbrev LN(K:PySem.W.Frag)(ρ:@&Addr)(H:Hp)(N:L2.Ends):Ends where
 nx:=λcg g'=>∀bX H' cZ,Ext ρ H bX H'->Rl K bX g' H'->v5 K bX H' cg cZ->N.nx cZ H'
 rt:=LQ K ρ H N.rt
 bk:=λcg g'=>∀bX H' cZ,Ext ρ H bX H'->Rl K bX g' H'->v5 K bX H' cg cZ->N.bk cZ H'
 ct:=λcg g'=>∀bX H' cZ,Ext ρ H bX H'->Rl K bX g' H'->v5 K bX H' cg cZ->N.ct cZ H'
def LS(K:PySem.W.Frag)(Ξ:iQ)(t:Ends->S->G->KX->Prop):TS:=λN cz H=>∃σ g ρ,v5 K ρ H σ cz/\Rl K ρ g H/\t (LN K ρ H N) σ g (LX K ρ H Ξ)
end M
namespace L2
open PySem PySem.Spec PyProof.Rows
variable{t t':TT}
section
variable{X:Cx}{e:Expr}
def PE.imp{t t'}(h:PE X e t)(i:∀σ H Q,t' σ H Q->t σ H Q):PE X e t':=λpi s σ H Q I q=>h pi s σ H Q I (i σ H Q q)
def PT.imp(h:PT X e t)(i:∀σ H Q,t' σ H Q->t σ H Q):PT X e t':=λpi s σ H Q I q=>h pi s σ H Q I (i σ H Q q)
def PW.imp(h:PW X e t)(i:∀σ H Q,t' σ H Q->t σ H Q):PW X e t':=λw pi s σ H Q I q=>h w pi s σ H Q I (i σ H Q q)
def PA.imp{es}{t t'}(h:PA X es t)(i:∀σ H Q,t' σ H Q->t σ H Q):PA X es t':=λp pi s σ H Q I q=>h p pi s σ H Q I (i σ H Q q)
def jP.imp{es}(h:jP X es t)(i:∀σ H Q,t' σ H Q->t σ H Q):jP X es t':=λpi s σ H Q I q=>h pi s σ H Q I (i σ H Q q)
def PI.imp{tg}{t t'}(h:PI X tg e t)(i:∀σ H Q,t' σ H Q->t σ H Q):PI X tg e t':=λpi s σ H Q I q=>h pi s σ H Q I (i σ H Q q)
def PG.imp{t t'}(h:PG X e t)(i:∀v σ H Q,t' v σ H Q->t v σ H Q):PG X e t':=λpi s σ H v u Q I r q=>h pi s σ H v u Q I r (i v σ H Q q)
def PS.imp{st}{t t'}(h:PS X st t)(i:∀N σ H,t' N σ H->t N σ H):PS X st t':=λpi s σ H N I q=>h pi s σ H N I (i N σ H q)
def jC.imp{st}{t t'}(h:jC X st t)(i:∀N σ H,t' N σ H->t N σ H):jC X st t':=λpi s σ H N I q=>h pi s σ H N I (i N σ H q)
end
end L2
namespace M
open PySem L2 PySem.Spec PyProof.Rows
variable{Ξ:iQ}{P:eZ}{op iU:CmpOp}{rest es:@&Expr}{hZ mo:ME}{p2 q apos jZ:Pos}{o:Expr}
section
variable{K:PySem.W.Frag}(hP:j4 P){ρ gx:@&Addr}{H H0:Hp}{σ:S}{cz:L2.St}{g:G}{m:ME}
include hP
def fG{Q0}{Q}(s:v5 K ρ H σ cz)(R:Rl K ρ g H)(e0:Ext gx H0 ρ H)(h:aY P m σ g Q0 (LX K gx H0 Ξ))(k:∀x g1 cx H1 v1,Ext ρ H cx H1->Rl K cx g1 H1->f9 K cx H1 x v1->Q0 x g1->Q v1 H1):LE K Ξ (aY P m) cz H Q :=
 #[σ,g,ρ,s,R,c9 hP m _ _ _ _ _ _ (λx g1 h cx H1 v1 e1 R1 r1=>k x g1 cx H1 v1 e1 R1 r1 h) (λy y z=>LX.ext e0 z) h]
def jX{Q0}{Q}(s:v5 K ρ H σ cz)(R:Rl K ρ g H)(e0:Ext gx H0 ρ H)(h:fU P m σ g Q0 (LX K gx H0 Ξ))(k:∀x g1 cx H1 v1,Ext ρ H cx H1->Rl K cx g1 H1->c8 K cx H1 x v1->Q0 x g1->Q v1 H1):LA K Ξ (fU P m) cz H Q :=
 #[σ,g,ρ,s,R,L8 hP m _ _ _ _ _ _ (λx g1 h cx H1 v1 e1 R1 r1=>k x g1 cx H1 v1 e1 R1 r1 h) (λy y z=>LX.ext e0 z) h]
def rh{Q0}{Q}(s:v5 K ρ H σ cz)(R:Rl K ρ g H)(e0:Ext gx H0 ρ H)(h:et P m σ g Q0 (LX K gx H0 Ξ))(k:∀t g1 cx H1,Ext ρ H cx H1->Rl K cx g1 H1->Q0 t g1->Q t H1):LT K Ξ (et P m) cz H Q :=
 #[σ,g,ρ,s,R,w5 hP m _ _ _ _ _ _ (λt g1 h cx H1 e1 R1=>k t g1 cx H1 e1 R1 h) (λx x z=>LX.ext e0 z) h]
def uO{ms}{N}{N0}(s:v5 K ρ H σ cz)(R:Rl K ρ g H)(e0:Ext gx H0 ρ H)(h:wpS P ms N0 σ g (LX K gx H0 Ξ))(k:N0.le (LN K ρ H N)):LS K Ξ (wpS P ms) N cz H :=
 #[σ,g,ρ,s,R,wpS_mono hP ms _ _ _ _ _ _ k (λx x z=>LX.ext e0 z) h]
end
def c8.mX{K ρ H}(lo:Int)(n:Nat):c8 K ρ H (E1 lo n) ((List.range n).map λ(k:Nat)=>V.int (lo+k)):=by
 have:∀l:@&Nat,c8 K ρ H (l.map λ(k:Nat)=>D.int (lo+k)) (l.map λ(k:Nat)=>V.int (lo+k)):=by
  intro l
  induction l with
  |nil=>show .nil
  |cons x r ih=>show .cons (.int _) ih
 show this _
section
variable{X:Cx}(hP:j4 P){a b c e:Expr}{ma mb mc:ME}{pos:Pos}{p:Pr}
include hP
def HF(h:PE X e (rm (r2 X.K p) (LE X.K Ξ (aY P ma)) (LE X.K Ξ (aY P mb)))):PE X e (LE X.K Ξ (aY P (.prim p (.cons ma (.cons mb .nil))))) :=
 h.imp λcz H Q bu=>by
  let#[σ,g,ρ,s,R,h]:=bu;show fG hP s R (.refl _ _) h λx g1 cx H1 v1 e1 R1 r1 h=>fG hP (s.ext e1) R1 e1 h λy g2 fe H2 v2 e2 R2 r2 h =>
   #[x,y,g2,fe,R2,r1.ext e2,r2,y4 (λd g' h=>h.ext (e1.trans e2)) h]
def bN6(h:PT X e (ye (rm (r2 X.K (.cmp op)) (LE X.K Ξ (aY P ma)) (LE X.K Ξ (aY P mb))))):PT X e (LT X.K Ξ (et P (.eP (.prim (.cmp op) (.cons ma (.cons mb .nil)))))) :=
 h.imp λcz H Q bu=>by
  let#[σ,g,ρ,s,R,h]:=bu;show fG hP s R (.refl _ _) h λx g1 cx H1 v1 e1 R1 r1 h=>fG hP (s.ext e1) R1 e1 h λy g2 fe H2 v2 e2 R2 r2 h=>?_;let#[d',g',h,q]:=h;let#[x',y',t,ex,hc,rfl,rfl]:=id h;show#[x,y,g',fe,R2,r1.ext e2,r2,_,_,h,λbX H' v e' R' r'=>?_];let#[t',ht,q]:=q;rcases ht with⟨z,_⟩|z|⟨i,z,_⟩|⟨l,z,_⟩|⟨a,l,z,_⟩<;>cases z
  show#[_,r'.V3,q bX H' (e1.trans (e2.trans e')) R']
def b18{op}(ha:PE X a (LE X.K Ξ (aY P ma))):PE X (.UnaryOp op a pos) (LE X.K Ξ (aY P (.prim (.un op) (.cons ma .nil)))) :=
 (b30 (b36 op) ha).imp λcz H Q bu=>by
  let#[σ,g,ρ,s,R,h]:=bu;show fG hP s R (.refl _ _) h λx g1 cx H1 v1 e1 R1 r1 h=>#[x,g1,cx,R1,r1,y4 (λd g' h=>h.ext e1) h]
def Oy:∀cz H Q,LE X.K Ξ (aY P (.chain op iU ma mb mc)) cz H Q->HH (r2 X.K (.cmp op)) (r2 X.K (.cmp iU)) (LE X.K Ξ (aY P ma)) (LE X.K Ξ (aY P mb)) (LE X.K Ξ (aY P mc)) cz H Q:=λcz H Q bu=>by
 let#[σ,g,ρ,s,R,h]:=bu;show fG hP s R (.refl _ _) h λx g1 cx H1 v1 e1 R1 r1 h=>fG hP (s.ext e1) R1 e1 h λy g2 fe H2 v2 e2 R2 r2 h=>?_;show#[x,y,g2,fe,R2,r1.ext e2,r2,y4 (λd g3 h jt H3 v3 e3 R3 r3=>?_) h];let#[t,rfl,h]:=h;obtain rfl:=r3.V3;show#[t,rfl,?_];cases t
 .exact h jt H3 _ (e1.trans (e2.trans e3)) R3 (.bl _)
 .exact fG hP (s.ext (e1.trans (e2.trans e3))) R3 (e1.trans (e2.trans e3)) h λz g4 mB H4 v4 e4 R4 r4 h =>
   #[y,z,g4,mB,R4,r2.ext (e3.trans e4),r4,y4 (λd g' h=>h.ext (e1.trans (e2.trans (e3.trans e4)))) h]
def Yr(hu:X.A.units+100<cLine)(ha:PE X a (LE X.K Ξ (aY P ma)))(hb:PE X b (LE X.K Ξ (aY P mb)))(hc:PE X c (LE X.K Ξ (aY P mc)))(hm:lastMarks [op,iU] [b,c]=false) :
  PE X (.Compare a [op,iU] [b,c] pos) (LE X.K Ξ (aY P (.chain op iU ma mb mc))):=(XS (vA hu op) (vA hu iU) ha hb hc hm).imp (Oy hP)
def WX{σ}{g}{Q}{E}(h:et P (.eP (.chain op iU ma mb mc)) σ g Q E):aY P (.chain op iU ma mb mc) σ g (λd g'=>∃t,d=.bl t/\Q t g') E:=by
 let one:∀{o:CmpOp} {xs:@&D} {g:G},cI (.cmp o) xs g (λd g1=>qO g1 d λb=>Q b g1)->cI (.cmp o) xs g λd g'=>∃t,d=.bl t/\Q t g':=by
  intro o xs g h;let#[d',g',h,t',ht,q]:=h;let#[x',y',t,ex,hc,rfl,rfl]:=id h;show#[_,_,h,t',?_,q];rcases ht with⟨z,_⟩|z|⟨i,z,_⟩|⟨l,z,_⟩|⟨a,l,z,_⟩<;>first|show z|cases z
 show c9 hP ma _ _ _ _ _ _ (λx g1 h=>c9 hP mb _ _ _ _ _ _ (λy g2 h=>y4 (λz g3 h=>?_) h) (λv v z=>z) h) (λv v z=>z) h;let#[t,rfl,h]:=h;show#[t,rfl,?_];cases t
 .let#[b,hb,q]:=(show qO g3 (.bl false) λb=>Q b g3 from h)
  rcases hb with⟨z,_⟩|z|⟨i,z,_⟩|⟨l,z,_⟩|⟨a,l,z,_⟩<;>first|(cases z;show#[_,rfl,q])|cases z
 .exact c9 hP mc _ _ _ _ _ _ (λw g4 h=>one h) (λv v z=>z) h
def YG(hu:X.A.units+100<cLine)(ha:PE X a (LE X.K Ξ (aY P ma)))(hb:PE X b (LE X.K Ξ (aY P mb)))(hc:PE X c (LE X.K Ξ (aY P mc)))(hm:lastMarks [op,iU] [b,c]=false) :
  PT X (.Compare a [op,iU] [b,c] pos) (LT X.K Ξ (et P (.eP (.chain op iU ma mb mc)))) :=
 (Yi (vA hu op) (vA hu iU) ha hb hc hm).imp λcz H Q ⟨σ,g,ρ,s,R,h⟩ =>
  Oy hP cz H _ (fG hP s R (.refl _ _) (WX hP h) λx g1 cx H1 v1 e1 R1 r1 h=>by
   let#[t,rfl,h]:=h;show #[t,r1.V3,h cx H1 e1 R1])
def bP8(ha:PE X a (LE X.K Ξ (aY P ma)))(hb:PE X (.BoolOp .And (b::rest) pos) (LE X.K Ξ (aY P mb))):PE X (.BoolOp .And (a::b::rest) pos) (LE X.K Ξ (aY P (.dZ ma mb))) :=
 (bS7 ha hb).imp λcz H Q bu=>by
  let#[σ,g,ρ,s,R,h]:=bu;show fG hP s R (.refl _ _) h λx g1 cx H1 v1 e1 R1 r1 h=>?_;let#[t,rfl,h]:=h;show#[t,r1.V3,?_];cases t
  .exact h cx H1 _ e1 R1 (.bl _)
  .exact fG hP (s.ext e1) R1 e1 h λy g2 fe H2 v2 e2 R2 r2 h=>h fe H2 v2 (e1.trans e2) R2 r2
def b19(ha:PE X a (LE X.K Ξ (aY P ma)))(hb:PE X (.BoolOp .Or (b::rest) pos) (LE X.K Ξ (aY P mb))):PE X (.BoolOp .Or (a::b::rest) pos) (LE X.K Ξ (aY P (.iu ma mb))) :=
 (b31 ha hb).imp λcz H Q bu=>by
  let#[σ,g,ρ,s,R,h]:=bu;show fG hP s R (.refl _ _) h λx g1 cx H1 v1 e1 R1 r1 h=>?_;let#[t,rfl,h]:=h;show#[t,r1.V3,?_];cases t
  .exact fG hP (s.ext e1) R1 e1 h λy g2 fe H2 v2 e2 R2 r2 h=>h fe H2 v2 (e1.trans e2) R2 r2
  .exact h cx H1 _ e1 R1 (.bl _)
def bP3(ha:PE X a (LE X.K Ξ (aY P ma))):PE X (.UnaryOp .Not a pos) (LE X.K Ξ (aY P (.du ma))) :=
 (bS1 ha).imp λcz H Q bu=>by
  let#[σ,g,ρ,s,R,h]:=bu;show fG hP s R (.refl _ _) h λx g1 cx H1 v1 e1 R1 r1 h=>?_;let#[t,rfl,h]:=h;show#[t,r1.V3,h cx H1 _ e1 R1 (.bl _)]
def bP4(hc:PT X c (LT X.K Ξ (et P mc)))(ha:PE X a (LE X.K Ξ (aY P ma)))(hb:PE X b (LE X.K Ξ (aY P mb))):PE X (.IfExp c a b pos) (LE X.K Ξ (aY P (.ite mc ma mb))) :=
 (XU hc ha hb).imp λcz H Q bu=>by
  let#[σ,g,ρ,s,R,h]:=bu;show rh hP s R (.refl _ _) h λt g1 cx H1 e1 R1 h=>?_;cases t
  .exact fG hP (s.ext e1) R1 e1 h λy g2 fe H2 v2 e2 R2 r2 h=>h fe H2 v2 (e1.trans e2) R2 r2
  .exact fG hP (s.ext e1) R1 e1 h λy g2 fe H2 v2 e2 R2 r2 h=>h fe H2 v2 (e1.trans e2) R2 r2
def bP2{k}(h:PA X es (LA X.K Ξ (fU P hZ))):PE X (.Tuple es k pos) (LE X.K Ξ (aY P (.prim .tup hZ))) :=
 (bR8 h).imp λcz H Q bu=>by
  let#[σ,g,ρ,s,R,h]:=bu;show jX hP s R (.refl _ _) h λds g1 cx H1 vs e1 R1 r1 h=>?_;let#[d',g',#[hz,rfl,rfl],q]:=h;show#[by rw[<- -r1];show J0 (aC hz ∅),λp hp=>(q.ext e1).tup R1 hp r1]
def Ml(h:PA X es (LA X.K Ξ (fU P hZ))):PE X (.List es pos) (LE X.K Ξ (aY P (.prim .lst hZ))) :=
 (bS3 h).imp λcz H Q bu=>by
  let#[σ,g,ρ,s,R,h]:=bu;show jX hP s R (.refl _ _) h λds g1 cx H1 vs e1 R1 r1 h=>?_;let#[d',g',#[hz,rfl,rfl],q]:=h;show#[by rw[<- -r1];show J0 (aC hz ∅),λp hp=>(q.ext e1).new R1 hp r1]
def P2:PA X [] (LA X.K Ξ (fU P .nil)) :=
 (vB).imp λcz H Q bu=>by
  let#[σ,g,ρ,s,R,h]:=bu;show h ρ H [] (.refl _ _) R .nil
def F4(ha:PE X a (LE X.K Ξ (aY P ma)))(h:PA X es (LA X.K Ξ (fU P hZ)))(hs:starEach (a::es) X.env=(false,eval a X.env)::starEach es X.env):PA X (a::es) (LA X.K Ξ (fU P (.cons ma hZ))) :=
 (vF ha h hs).imp λcz H Q bu=>by
  let#[σ,g,ρ,s,R,h]:=bu;show fG hP s R (.refl _ _) h λx g1 cx H1 v1 e1 R1 r1 h=>jX hP (s.ext e1) R1 e1 h λxs g2 fe H2 vs e2 R2 r2 h=>h fe H2 _ (e1.trans e2) R2 (.cons (r1.ext e2) r2)
def YA(ha:PE X a (LE X.K Ξ (aY P ma)))(hb:PE X b (LE X.K Ξ (aY P mb))):PE X (.Subscript a (.Slice (!b) none none p2) pos) (LE X.K Ξ (aY P (.prim (.nE true false) (.cons ma (.cons mb .nil))))) :=
 (OO Lv ha (QY hb) QX).imp λcz H Q bu=>by
  let#[σ,g,ρ,s,R,h]:=bu;show fG hP s R (.refl _ _) h λx g1 cx H1 v1 e1 R1 r1 h=>fG hP (s.ext e1) R1 e1 h λy g2 fe H2 v2 e2 R2 r2 h=>?_;let#[d',g',#[x',i,ex,h],q]:=h;cases ex;show#[i,r2.n6,x,g2,fe,d',g',R2,r1.ext e2,h,q.ext (e1.trans e2)]
def Yz(ha:PE X a (LE X.K Ξ (aY P ma)))(hb:PE X b (LE X.K Ξ (aY P mb))):PE X (.Subscript a (.Slice none (!b) none p2) pos) (LE X.K Ξ (aY P (.prim (.nE false true) (.cons ma (.cons mb .nil))))) :=
 (OO Lv ha QX (QY hb)).imp λcz H Q bu=>by
  let#[σ,g,ρ,s,R,h]:=bu;show fG hP s R (.refl _ _) h λx g1 cx H1 v1 e1 R1 r1 h=>fG hP (s.ext e1) R1 e1 h λy g2 fe H2 v2 e2 R2 r2 h=>?_;let#[d',g',#[x',i,ex,h],q]:=h;cases ex;show#[i,r2.n6,x,g2,fe,d',g',R2,r1.ext e2,h,q.ext (e1.trans e2)]
def bN5(ha:PE X a (LE X.K Ξ (aY P ma)))(he:∀whole,isTrue a X.env whole=(do let v <- whole;standAt a.pos;holding [v] (truthy v))):PT X a (LT X.K Ξ (et P (.eP ma))) :=
 (Yj ha he).imp λcz H Q bu=>by
  let#[σ,g,ρ,s,R,h]:=bu;show fG hP s R (.refl _ _) h λx g1 cx H1 v1 e1 R1 r1 h=>?_;let#[b,h1,h2]:=h;show#[b,bL9 R1 r1 h1,h2 cx H1 e1 R1]
def bN7(ha:PT X a (LT X.K Ξ (et P ma))):PT X (.UnaryOp .Not a pos) (LT X.K Ξ (et P (.du ma))) :=
 (bQ9 ha).imp λcz H Q bu=>by
  let#[σ,g,ρ,s,R,h]:=bu;show rh hP s R (.refl _ _) h λt g1 cx H1 e1 R1 h=>h cx H1 e1 R1
def bN3(ha:PT X a (LT X.K Ξ (et P ma)))(hb:PW X (.BoolOp .And (b::rest) pos) (LT X.K Ξ (et P mb))):PW X (.BoolOp .And (a::b::rest) pos) (LT X.K Ξ (et P (.dZ ma mb))) :=
 (bQ8 ha hb).imp λcz H Q bu=>by
  let#[σ,g,ρ,s,R,h]:=bu;show rh hP s R (.refl _ _) h λt g1 cx H1 e1 R1 h=>?_;cases t
  .exact h cx H1 e1 R1
  .exact rh hP (s.ext e1) R1 e1 h λt g2 fe H2 e2 R2 h=>h fe H2 (e1.trans e2) R2
def b16(ha:PT X a (LT X.K Ξ (et P ma)))(hb:PW X (.BoolOp .Or (b::rest) pos) (LT X.K Ξ (et P mb))):PW X (.BoolOp .Or (a::b::rest) pos) (LT X.K Ξ (et P (.iu ma mb))) :=
 (b27 ha hb).imp λcz H Q bu=>by
  let#[σ,g,ρ,s,R,h]:=bu;show rh hP s R (.refl _ _) h λt g1 cx H1 e1 R1 h=>?_;cases t
  .exact rh hP (s.ext e1) R1 e1 h λt g2 fe H2 e2 R2 h=>h fe H2 (e1.trans e2) R2
  .exact h cx H1 e1 R1
def bC8:jP X [] (LT X.K Ξ (et P .no)) :=
 (Ra).imp λcz H Q bu=>by
  let#[σ,g,ρ,s,R,h]:=bu;show h ρ H (.refl _ _) R
def bP7{x}{v}(hv:(∃id,v=.builtin id)\/∃T,v=.type T)(hc:u3 X v (rN X.K p))(hg:Gl X x)(hm:X.mg x=none)(hb:bootBuiltins x=!v)(ha:PA X (e::es) (LA X.K Ξ (fU P hZ)))(hn:x≠"__name__")(hd:(x==("__debug__":Str))=false)(fI:starEach (e::es) X.env=(false,eval e X.env)::starEach es X.env)(gK:(backTo pos (starEach es X.env)).any (·.1)=false):PE X (.Call (.Name x q) (e::es) [] pos) (LE X.K Ξ (aY P (.prim p hZ))):=by
 let base:PE X (.Call (.Name x q) (e::es) [] pos) (Cv (rN X.K p) (LA X.K Ξ (fU P hZ))):=by
  rcases hv with⟨id,rfl⟩|⟨T,rfl⟩
  .exact AQ hc hg hm hb ha hn hd fI gK
  .exact Z6 hc hg hm hb ha hn hd fI gK
 show base.imp λcz H Q bu=>?_;let#[σ,g,ρ,s,R,h]:=bu;show jX hP s R (.refl _ _) h λxs g1 cx H1 vs e1 R1 r1 h=>#[xs,g1,cx,R1,r1,y4 (λd g' h=>h.ext e1) h]
def Og{T}{name}{id}(pa:PlainAttrs T)(slot:Slot T name id)(tF:typeOf (.builtin id)=pure (.type "method_descriptor"))(hm:mj X id (rM X.K p))(hk:∀{d:D} {v:V} {g:G} {ρ:@&Addr} {H:Hp},Rl X.K ρ g H->f9 X.K ρ H d v->lQ p d g->oK X.K T v H)(ho:PE X o (LE X.K Ξ (aY P mo)))(ha:PA X (e::es) (LA X.K Ξ (fU P hZ)))(fS:attributeBase o name X.env (eval o X.env)=eval o X.env)(lH:((backTo pos (starEach (e::es) X.env)).all (λx=>~~~x.1)&&(backToKw pos (keywordEach [] X.env)).all (λx=>x.1.isSome)&&decide ((e::es).length+([]:@&Keyword).length+(if([]:@&Keyword).isEmpty then 0 else 1)<30))=true)(fR:(apos.endLine==pos.line)=true)(hs:starEach (e::es) X.env=(false,eval e X.env)::starEach es X.env)(fq:(backTo pos (starEach es X.env)).any (·.1)=false) :
  PE X (.Call (.Attribute o name apos) (e::es) [] pos) (LE X.K Ξ (aY P (.dX p mo hZ))) :=
 (b33 pa slot tF hm ho ha fS lH fR hs fq).imp λcz H Q bu=>by
  let#[σ,g,ρ,s,R,h]:=bu;show fG hP s R (.refl _ _) h λx g1 cx H1 v1 e1 R1 r1 h=>#[hk R1 r1 h.1,jX hP (s.ext e1) R1 e1 h.2 λxs g2 fe H2 ws e2 R2 r2 h =>
   #[x,xs,g2,fe,R2,r1.ext e2,r2,y4 (λd g' h=>h.ext (e1.trans e2)) h]]
def Yw{T}{name}{id}(pa:PlainAttrs T)(slot:Slot T name id)(tF:typeOf (.builtin id)=pure (.type "method_descriptor"))(hm:mj X id (rM X.K p))(hk:∀{d:D} {v:V} {g:G} {ρ:@&Addr} {H:Hp},Rl X.K ρ g H->f9 X.K ρ H d v->lQ p d g->oK X.K T v H)(ho:PE X o (LE X.K Ξ (aY P mo)))(fS:attributeBase o name X.env (eval o X.env)=eval o X.env)(fR:(apos.endLine==pos.line)=true) :
  PE X (.Call (.Attribute o name apos) [] [] pos) (LE X.K Ξ (aY P (.dX p mo .nil))) :=
 (bS6 pa slot tF hm ho fS fR).imp λcz H Q bu=>by
  let#[σ,g,ρ,s,R,h]:=bu;show fG hP s R (.refl _ _) h λx g1 cx H1 v1 e1 R1 r1 h=>#[hk R1 r1 h.1,x,[],g1,cx,R1,r1,.nil,y4 (λd g' h=>h.ext e1) h.2]
omit hP in
def OD{K ρ H}{d}{v}(r:f9 K ρ H d v)(h:Bo d=true):v=toV d/\O9 v=true:=by
 cases r with
 |bq=>show#[rfl,rfl]
 |bl _=>show#[rfl,rfl]
 |int _=>show#[rfl,rfl]
 |str _=>show#[rfl,rfl]
 |ty _=>show absurd h cu
 |ref _=>show absurd h cu
 |tup _ _=>show absurd h cu
omit hP in
def Zm{K ρ H}{l}{vs}(r:c8 K ρ H l vs)(h:l.all Bo=true):vs=l.map toV/\vs.all O9=true:=by
 induction l generalizing vs with
 |nil=>cases r;show#[rfl,rfl]
 |cons d l ih =>
  cases r with
  |cons rd rs =>
   rw[iq,bj] at h;let#[e1,f1]:=OD rd h.1;let#[e2,f2]:=ih rs h.2;subst e1 e2;show#[rfl,by rw[iq,f1,f2];rfl]
omit hP in
def Zl{K ρ H}{l}{vs}{y}{w}{n}(r:c8 K ρ H l vs)(ry:f9 K ρ H y w)(h:Bz l y n):HU vs w n:=by
 let#[h1,h2,#[z,h3,h4],h5]:=h;let#[e1,f1]:=Zm r h1;let#[e2,f2]:=OD ry h2;subst e1 e2;show#[f1,f2,#[toV z,by rw[ag,h3];rfl,h4],λm z' hm hz=>?_];rw[ag,aa] at hz;let#[RG,hz,rfl]:=hz;show h5 m RG hm hz
def Ys(hu:X.A.units+100<cLine)(ho:PE X o (LE X.K Ξ (aY P mo)))(ha:PA X (e::es) (LA X.K Ξ (fU P hZ)))(fS:attributeBase o "index" X.env (eval o X.env)=eval o X.env)(lH:((backTo pos (starEach (e::es) X.env)).all (λx=>~~~x.1)&&(backToKw pos (keywordEach [] X.env)).all (λx=>x.1.isSome)&&decide ((e::es).length+([]:@&Keyword).length+(if([]:@&Keyword).isEmpty then 0 else 1)<30))=true)(fR:(apos.endLine==pos.line)=true)(hs:starEach (e::es) X.env=(false,eval e X.env)::starEach es X.env)(fq:(backTo pos (starEach es X.env)).any (·.1)=false) :
  PE X (.Call (.Attribute o "index" apos) (e::es) [] pos) (LE X.K Ξ (aY P (.dX .index mo hZ))) :=
 (XW hu ho ha fS lH fR hs fq).imp λcz H Q bu=>by
  let#[σ,g,ρ,s,R,h]:=bu;show fG hP s R (.refl _ _) h λx g1 cx H1 v1 e1 R1 r1 h=>?_;let#[hk,h]:=h;let#[a,l,rfl,hl]:=hk
  .let#[a',rfl,ra]:=r1.j9;let#[vs,hq,_]:=R1.items hl ra;show#[a',vs,rfl,hq,jX hP (s.ext e1) R1 e1 h λxs g2 fe H2 ws e2 R2 r2 h=>?_];let#[d',g',#[x,y,l',n,ex,hi,W,hz,rfl,rfl],q]:=h;cases ex;let#[w,rfl,fN]:=r2.one;let#[rg,Dk,nF]:=R2.items (show d7 _ a=some l' from hi) (e2.get ra);let hn:n<2 ^ 62:=by
     let#[_,_,#[z,tD,_],_]:=W;have:=(ak.mp tD).1;omega
   show#[a',rg,w,n,rfl,rfl,Dk,Zl nF fN W,hn,(q.ext (e1.trans e2)).now R2 (.int n)]
def Yt(hc:X.calm=true)(ha:PE X a (LE X.K Ξ (aY P ma)))(nX:Gl X "list")(nT:X.mg "list"=none)(hg:Gl X "range")(hm:X.mg "range"=none)(hs:starEach [a] X.env=[(false,eval a X.env)]) :
  PE X (.Call (.Name "list" p2) [.Call (.Name "range" q) [a] [] pos] [] jZ) (LE X.K Ξ (aY P (.prim .nK (.cons ma .nil)))) :=
 (Z6 (NU hc) nX nT (by rfl) (vF (ZR hg hm (F4 hP ha (P2 hP) (by rw[hs];rfl)) hs) vB)).imp λcz H Q bu=>by
  let#[σ,g,ρ,s,R,h]:=bu;show jX hP s R (.refl _ _) h λxs g1 cx H1 vs e1 R1 r1 h=>?_;let#[d',g',#[j,rfl,h1,h2,rfl,rfl],q]:=h;let#[v,rfl,rv]:=r1.one;obtain rfl:=rv.n6;show#[j,rfl,λq' hq=>#[q',0,j,rfl,m4,#[by omega,by omega,h1,by omega,by omega],λp hp=>?_]];rw[show(j-0).toNat=j.toNat by omega];show(q.ext (e1.trans (B0 hq))).new (R1.grow hq) hp (c8.mX 0 _)
def Yu(hc:X.calm=true)(ha:PE X a (LE X.K Ξ (aY P ma)))(hb:PE X b (LE X.K Ξ (aY P mb)))(nX:Gl X "list")(nT:X.mg "list"=none)(hg:Gl X "range")(hm:X.mg "range"=none)(hs:starEach [a,b] X.env=[(false,eval a X.env),(false,eval b X.env)])(iM:starEach [b] X.env=[(false,eval b X.env)]) :
  PE X (.Call (.Name "list" p2) [.Call (.Name "range" q) [a,b] [] pos] [] jZ) (LE X.K Ξ (aY P (.prim .nJ (.cons ma (.cons mb .nil))))) :=
 (Z6 (NU hc) nX nT (by rfl) (vF (ZS hg hm (F4 hP ha (F4 hP hb (P2 hP) (by rw[iM];rfl)) (by rw[hs,iM])) hs iM) vB)).imp λcz H Q bu=>by
  let#[σ,g,ρ,s,R,h]:=bu;show jX hP s R (.refl _ _) h λxs g1 cx H1 vs e1 R1 r1 h=>?_;let#[d',g',#[i,j,rfl,hb,rfl,rfl],q]:=h;let#[v,w,rfl,rv,fN]:=r1.two;obtain rfl:=rv.n6;obtain rfl:=fN.n6;show#[i,j,rfl,λq' hq=>#[q',i,j,rfl,m4,hb,λp hp=>(q.ext (e1.trans (B0 hq))).new (R1.grow hq) hp (c8.mX i _)]]
def bD9(hc:X.calm=true)(ha:PE X a (LE X.K Ξ (aY P ma)))(nX:Gl X "sorted")(nT:X.mg "sorted"=none)(hg:Gl X "set")(hm:X.mg "set"=none)(hs:starEach [a] X.env=[(false,eval a X.env)]) :
  PE X (.Call (.Name "sorted" p2) [.Call (.Name "set" q) [a] [] pos] [] jZ) (LE X.K Ξ (aY P (.prim .sset (.cons ma .nil)))) :=
 (AQ (NZ hc) nX nT (by rfl) (vF (Z6 (NR hc) hg hm (by rfl) (F4 hP ha (P2 hP) (by rw[hs];rfl)) ∅ ∅ (by rw[hs];rfl) rfl) vB)).imp λcz H Q bu=>by
  let#[σ,g,ρ,s,R,h]:=bu;show jX hP s R (.refl _ _) h λxs g1 cx H1 vs e1 R1 r1 h=>?_;let#[d',g',#[i,ns,rfl,hl,hz,rfl,rfl],q]:=h;let#[v,rfl,rv]:=r1.one;let#[a',rfl,ra]:=rv.j9;let#[ws,hq,rs]:=R1.items hl ra;obtain rfl:=rs.ints;show#[_,ns,rfl,hq,hz,λq' nS=>#[q',ns,rfl,m4,hz,λp hp=>?_]];show(q.ext (e1.trans (B0 nS))).new (R1.grow nS) hp (c8.ofInts _)
def bE2(hc:X.calm=true)(ha:PE X a (LE X.K Ξ (aY P ma)))(nX:Gl X "len")(nT:X.mg "len"=none)(hg:Gl X "set")(hm:X.mg "set"=none)(hs:starEach [a] X.env=[(false,eval a X.env)]) :
  PE X (.Call (.Name "len" p2) [.Call (.Name "set" q) [a] [] pos] [] jZ) (LE X.K Ξ (aY P (.prim .oy (.cons ma .nil)))) :=
 (AQ aM0 nX nT PySem.boot_len (vF (Z6 (NR hc) hg hm (by rfl) (F4 hP ha (P2 hP) (by rw[hs];rfl)) ∅ ∅ (by rw[hs];rfl) rfl) vB)).imp λcz H Q bu=>by
  let#[σ,g,ρ,s,R,h]:=bu;show jX hP s R (.refl _ _) h λxs g1 cx H1 vs e1 R1 r1 h=>?_;let#[d',g',#[i,ns,rfl,hl,hz,rfl,rfl],q]:=h;let#[v,rfl,rv]:=r1.one;let#[a',rfl,ra]:=rv.j9;let#[ws,hq,rs]:=R1.items hl ra;obtain rfl:=rs.ints;show#[_,ns,rfl,hq,by omega,λq' nS=>#[q',_,rfl,m4,?_]];show(q.ext (e1.trans (B0 nS))).now (R1.grow nS) (.int _)
def bE0{i}{j}(nY:PySem.W.kdsCode X.K X.env.code=true):PE X (.Set [.Constant (.int i) j q] 0 pos) (LE X.K Ξ (aY P (.prim (.kL i) .nil))) :=
 (bG0 nY).imp λcz H Q bu=>by
  let#[σ,g,ρ,s,R,h]:=bu;let#[d',g',#[_,rfl,rfl],q]:=h;show λp hp=>q (ρ++[p]) _ _ (A8 hp) (R.new hp #[rfl,rfl]) (.ref (R.w6 p))
def bP5{f}(ha:PE X a (LE X.K Ξ (aY P ma)))(hb:attributeBase a f X.env (eval a X.env)=eval a X.env):PE X (.Attribute a f pos) (LE X.K Ξ (aY P (.prim (.fld f) (.cons ma .nil)))) :=
 (bS5 ha hb).imp λcz H Q bu=>by
  let#[σ,g,ρ,s,R,h]:=bu;show fG hP s R (.refl _ _) h λx g1 cx H1 v1 e1 R1 r1 h=>?_;let#[d',g',#[i,c,fs,ex,hi,hf,rfl],q]:=h;cases ex;let#[a',rfl,ra]:=r1.j9;let#[C,dx,vs,hH,_,hC,rk,na]:=R1.ins hi ra;let lk:=rk.look f;rw[hf] at lk;let#[v,hv,rv]:=lk.some;show#[a',C,dx,vs,v,rfl,hH,hC,na _ (aR hf),hv,q cx H1 v e1 R1 rv]
end
section
variable{X:Cx}{pos:Pos}
def bP1{i}{x}(hN:X.N[i]?=!x)(hv:zb X.env.scope x)(hd:(x==("__debug__":Str))=false)(mL:(x==("__classdict__":Str))=false):PE X (.Name x pos) (LE X.K Ξ (aY P (.var i))) :=
 (Mh hN hv hd mL).imp λcz H Q bu=>by
  let#[σ,g,ρ,s,R,h]:=bu;let#[d,e,h]:=h;let#[v,h1,h2]:=s.val _ _ e;show#[v,h1,h.now R h2]
def vC{e}{d}{v}(h:PE X e (tC v))(r:∀ρ H,f9 X.K ρ H d v):PE X e (LE X.K Ξ (aY P (.lit d))) :=
 h.imp λcz H Q bu=>by
  let#[σ,g,ρ,s,R,h]:=bu;show LQ.now h R (r ρ H)
def bE4:PE X (.Dict [] [] pos) (LE X.K Ξ (aY P (.prim .nt .nil))) :=
 (XT).imp λcz H Q ⟨σ,g,ρ,s,R,h⟩ p hp=>by
  let#[d',g',#[_,rfl,rfl],q]:=h;show q (ρ++[p]) _ _ (A8 hp) (R.new hp i8.nil) (.ref (R.w6 p))
end
end M
namespace L2
open PySem PySem.Spec PyProof.Rows
section
variable{X:Cx}{m:Str}{pos apos:Pos}{e o:Expr}{es:@&Expr}{ta:TE}{t:TA}
def bM7(X:Cx)(m:Str)(E:XK)(ta:TE)(t:TA):TE:=λσ H Q=>ta σ H λx H1=>∃a C dx fs f fd ps k sp,x=.ref a/\H1 a=!.ins C dx fs/\fs.lookup m=none/\jE X.K C/\Meth X.K C m f /\
 gW X.prog X.w X.K X.mg X.base (iz X.prog X.w) k f fd ps sp/\y9 k X.A/\Binds X.K fd ps []/\t σ H1 λvs H2=>sp (x::(vs++[])) H2 Q E
def XY{pl}{E}(he:PE X o ta)(hx:Passes (iz X.prog X.w) X E)(ha:PA X (e::es) t)(fI:starEach (e::es) X.env=(false,eval e X.env)::starEach es X.env)(gK:(backTo pos (starEach es X.env)).any (·.1)=false)(ht:eval (.Call (.Attribute o m apos) (e :: es) [] pos) X.env=(do
   let ov <- eval o X.env
   standAt apos.atName
   let (f,first) <- holding [ov] (getMethod ov m pl)
   callWith pos f first (backTo pos (starEach (e :: es) X.env)) (backToKw pos (keywordEach [] X.env)))) :
  PE X (.Call (.Attribute o m apos) (e::es) [] pos) (bM7 X m E ta t):=by
 intro pi s σ H Q I h;show zm (cG (he pi s σ H _ I h) λu s1 bu=>?_) ht;let#[x,H1,I1,rx,a,C,dx,fs,f,fd,ps,k,sp,ex,ea,l,c,hm,F,hr,hb,q]:=bu;subst ex;obtain rfl:u=Value.ref a:=rx;show Ql I1 ea c hm l ?_;show kH I.ok.mod.nL hm.kp (cG (ha pos pi s1 σ H1 _ I1 q) ?_) fI gK;rintro us s2 ⟨vs,H2,I2,r,q2⟩;show #[I2.gN,?_];show Ar (vs:=.ref a::vs) F hr hb .nil hx I2 (.cons rfl r) q2
def bC2(X:Cx)(m:Str)(E:XK)(ta:TE):TE:=λσ H Q=>ta σ H λx H1=>∃a C dx fs f fd ps k sp,x=.ref a/\H1 a=!.ins C dx fs/\fs.lookup m=none/\jE X.K C/\Meth X.K C m f /\
 gW X.prog X.w X.K X.mg X.base (iz X.prog X.w) k f fd ps sp/\y9 k X.A/\Binds X.K fd ps []/\sp [x] H1 Q E
def ZQ{pl}{E}(he:PE X o ta)(hx:Passes (iz X.prog X.w) X E)(ht:eval (.Call (.Attribute o m apos) [] [] pos) X.env=(do
   let ov <- eval o X.env
   standAt apos.atName
   let (f,first) <- holding [ov] (getMethod ov m pl)
   callWith pos f first (backTo pos (starEach [] X.env)) (backToKw pos (keywordEach [] X.env)))) :
  PE X (.Call (.Attribute o m apos) [] [] pos) (bC2 X m E ta):=by
 intro pi s σ H Q I h;show zm (cG (he pi s σ H _ I h) λu s1 bu=>?_) ht;let#[x,H1,I1,rx,a,C,dx,fs,f,fd,ps,k,sp,ex,ea,l,c,hm,F,hr,hb,q]:=bu;subst ex;obtain rfl:u=Value.ref a:=rx;show Ql I1 ea c hm l ?_;show jT I1.gN hm.kp (Ar (us:=[.ref a]) (vs:=[.ref a]) F hr hb .nil hx I1 (.cons rfl .nil) q)
end
end L2
namespace M
open PySem L2 PySem.Spec PyProof.Rows
variable{K:PySem.W.Frag}{H H0:Hp}{a fa C:Addr}{x:Str}{p:Pos}{k f j:Nat}{fd:FuncData}{ps:@&Str}{gx:@&Addr}{xs:@&D}{vs:@&V}{es:@&Expr}{e:Expr}{hZ:ME}
inductive rX(K:PySem.W.Frag):@&D->@&(Str×V)->Prop
 |nil:rX K [] []
 |cons {x:Str} {d:D} {v:V} {ds:@&D} {vs:@&(Str×V)} (h:∀ρ H,f9 K ρ H d v) (r:rX K ds vs):rX K (.tup [.str x,d]::ds) ((x,v)::vs)
set_option tactic.hygienic true in
def rX.look{ρ}{ds vs}(x:Str)(h:rX K ds vs):uw K ρ H (Z0 ds x) (vs.lookup x):=by
 induction h with
 |nil=>trivial
 |cons h r ih =>
  rename_i y d v ds vs;unfold Z0;rw[dM];by_cases e:x=y
  .rw[aM e,show(x==y)=true from by simp[e]];show h ρ H
  .rw[aI e,show(x==y)=false from by simpa using e];show ih
def Nb(X:Cx)(x:Str)(kvs:@&D):Prop:=∃A vs,X.mg x=!.ref A/\Bj X.K X.w.params A vs/\rX X.K kvs vs
section
variable{X:Cx}{Ξ:iQ}{P:eZ}(hP:j4 P){a c:Expr}{ma:ME}{pos:Pos}
include hP
def bE3{kvs}(hg:Gl X x)(hd:(x==("__debug__":Str))=false)(hG:Nb X x kvs)(ha:PE X a (LE X.K Ξ (aY P ma)))(hs:HW a):PE X (.Subscript (.Name x p) a pos) (LE X.K Ξ (aY P (.prim .om (.cons (.lit (.tup kvs)) (.cons ma .nil))))):=by
 let#[A,vs,hmg,hk,gr]:=hG;show(Lq (b58 (kvs:=vs)) (QT (v:=.ref A) hg hmg rfl hd) ha hs).imp λcz H Q bu=>?_;let#[σ,g,ρ,s,R,h]:=bu;show fG hP s R (.refl _ _) h λd g1 cx H1 v1 e1 R1 r1 h=>?_;let#[d',g',#[SH,z,ex,hz,rfl],q]:=h;cases ex;obtain rfl:=r1.HG;let lk:=gr.look (ρ:=cx) (H:=H1) z;rw[hz] at lk;let#[w,hw,lk]:=lk.some;show#[A,z,w,rfl,hk,rfl,hw,q cx H1 _ e1 R1 lk]
omit hP in
abbrev rA(ex:@&Str)(K:PySem.W.Frag)(n:Nat)(t:@&D->G->KD->KX->Prop):Sp:=λvs H Q E=>-vs=n/\∃ds g ρ,c8 K ρ H ds vs/\Rl K ρ g H/\t ds g (LQ K ρ H Q) (LX K ρ H (ex,E))
omit hP in
abbrev pB(X:Cx)(P:eZ)(ex:@&Str)(k f:Nat)(fa:Addr)(fd:FuncData)(ps:@&Str):Prop :=
 gW X.prog X.w X.K X.mg X.base (iz X.prog X.w) k fa fd ps (rA ex X.K (-ps) (P f))/\Binds X.K fd ps []/\∀ds g Q E,P f ds g Q E->-ds=-ps
def yd{k}(F:pB X P Ξ.1 k f fa fd ps){ρ}{g}{Q0}{Q}(e0:Ext gx H0 ρ H)(R:Rl X.K ρ g H)(r:c8 X.K ρ H xs vs)(h:P f xs g Q0 (LX X.K gx H0 Ξ))(k:∀d g',Q0 d g'->LQ X.K ρ H Q d g'):rA Ξ.1 X.K (-ps) (P f) (vs++[]) H Q Ξ.2:=by
 rw[fh];show#[by rw[<- -r];show F.2.2 _ _ _ _ h,xs,g,ρ,r,R,hP _ _ _ _ _ _ _ k (λx x z=>LX.ext e0 z) h]
def bE6(hx:Passes (iz X.prog X.w) X Ξ.2)(F:pB X P Ξ.1 k f fa fd ps)(hr:y9 k X.A)(hg:Gl X x)(hm:X.mg x=!.ref fa)(hk:PySem.W.keepIn X.K (.ref fa)=true)(ha:PA X (e::es) (LA X.K Ξ (fU P hZ)))(hd:(x==("__debug__":Str))=false)(fI:starEach (e::es) X.env=(false,eval e X.env)::starEach es X.env)(gK:(backTo pos (starEach es X.env)).any (·.1)=false):PE X (.Call (.Name x p) (e::es) [] pos) (LE X.K Ξ (aY P (.call f hZ))) :=
 (bG5 F.1 hr hg hm hk F.2.1 .nil hx ha hd fI gK).imp λcz H Q bu=>by
  let#[σ,g,ρ,s,R,h]:=bu;show jX hP s R (.refl _ _) h λxs g1 cx H1 vs e1 R1 r1 h=>yd hP F e1 R1 r1 h λd g' h=>h.ext e1
def Yq(hx:Passes (iz X.prog X.w) X Ξ.2)(F:pB X P Ξ.1 k f fa fd ps)(hr:y9 k X.A)(hg:Gl X x)(hm:X.mg x=!.ref fa)(hk:PySem.W.keepIn X.K (.ref fa)=true)(hd:(x==("__debug__":Str))=false):PE X (.Call (.Name x p) [] [] pos) (LE X.K Ξ (aY P (.call f .nil))) :=
 (XR F.1 hr hg hm hk F.2.1 .nil hx hd).imp λcz H Q bu=>by
  let#[σ,g,ρ,s,R,h]:=bu;show yd hP F (.refl _ _) R .nil h λd g' h=>h
def QN{c}(F:pB X P Ξ.1 k f fa fd ps)(hC:w9 X.K c C)(hc:jE X.K C){ρ}{g1}{Q}(e0:Ext gx H0 ρ H)(R:Rl X.K ρ g1 H)(r:c8 X.K ρ H xs vs)(h:P f (.ref (-g1)::xs) (g1++[.ins c []]) (λd g2=>d=.bq/\LQ X.K gx H0 Q (.ref (-g1)) g2) (LX X.K gx H0 Ξ)):∀x dx,H x=none->H dx=none->dx≠x->rA Ξ.1 X.K (-ps) (P f) (.ref x::(vs++[])) (upd (upd H dx (.own x)) x (.ins C dx [])) (λv H2=>v=.bq/\Q (.ref x) H2) Ξ.2:=by
 intro x dx hx Kl fE;let nQ:upd H dx (.own x) x=none:=by rw[d6 (aX fE)];show hx
 let R2:=R.grow (o:=.own x) Kl;let e2:Ext ρ H ρ (upd H dx (.own x)):=B0 Kl;let R3:=R2.new (o:=.ins c []) (u:=.ins C dx []) nQ #[hC,hc,.nil,λx hx=>absurd hx #[_]];let e3:Ext ρ (upd H dx (.own x)) (ρ++[x]) (upd (upd H dx (.own x)) x (.ins C dx [])):=A8 nQ;have:=yd hP F (e0.trans (e2.trans e3)) R3 (.cons (.ref (R.w6 x)) (r.ext (e2.trans e3))) h (Q:=λv H2=>v=.bq/\Q (.ref x) H2) λd g' q bX H' v e' R' r'=>by
  let#[rfl,q]:=q;show#[r'.BH,q bX H' _ (e0.trans (e2.trans (e3.trans e'))) R' (.ref (e'.get (R.w6 x)))]
 show this
def bE1(hx:Passes (iz X.prog X.w) X Ξ.2)(F:pB X P Ξ.1 k f fa fd ps)(M:Mk X.K C fa)(hC:w9 X.K x C)(hc:jE X.K C)(hr:y9 (k+1) X.A)(hg:Gl X x)(hm:X.mg x=!.ref C)(ha:PA X (e::es) (LA X.K Ξ (fU P hZ)))(hd:(x==("__debug__":Str))=false)(fI:starEach (e::es) X.env=(false,eval e X.env)::starEach es X.env)(gK:(backTo pos (starEach es X.env)).any (·.1)=false):PE X (.Call (.Name x p) (e::es) [] pos) (LE X.K Ξ (aY P (.make x f hZ))) :=
 (bG2 M F.1 hr hg hm F.2.1 .nil hx ha hd fI gK).imp λcz H Q bu=>by
  let#[σ,g,ρ,s,R,h]:=bu;show jX hP s R (.refl _ _) h λxs g1 cx H1 vs e1 R1 r1 h=>QN hP F hC hc e1 R1 r1 h
def Yv(hx:Passes (iz X.prog X.w) X Ξ.2)(F:pB X P Ξ.1 k f fa fd ps)(M:Mk X.K C fa)(hC:w9 X.K x C)(hc:jE X.K C)(hr:y9 (k+1) X.A)(hg:Gl X x)(hm:X.mg x=!.ref C)(hd:(x==("__debug__":Str))=false):PE X (.Call (.Name x p) [] [] pos) (LE X.K Ξ (aY P (.make x f .nil))) :=
 (XX M F.1 hr hg hm F.2.1 .nil hx hd).imp λcz H Q bu=>by
  let#[σ,g,ρ,s,R,h]:=bu;show QN hP F hC hc (.refl _ _) R .nil h
omit hP in
def HV(X:Cx)(P:eZ)(ex:@&Str)(m:Str)(cs:@&(Str×Nat)):Prop:=∀c f C,cs.lookup c=!f->w9 X.K c C->∃k fa fd ps,Meth X.K C m fa/\pB X P ex k f fa fd ps/\y9 k X.A
def Yx{m}{cs}{o}{mo}{apos}{pl}(hx:Passes (iz X.prog X.w) X Ξ.2)(hM:HV X P Ξ.1 m cs)(ho:PE X o (LE X.K Ξ (aY P mo)))(ha:PA X (e::es) (LA X.K Ξ (fU P hZ)))(fI:starEach (e::es) X.env=(false,eval e X.env)::starEach es X.env)(gK:(backTo pos (starEach es X.env)).any (·.1)=false)(ht:eval (.Call (.Attribute o m apos) (e :: es) [] pos) X.env=(do
   let ov <- eval o X.env
   standAt apos.atName
   let (f,first) <- holding [ov] (getMethod ov m pl)
   callWith pos f first (backTo pos (starEach (e :: es) X.env)) (backToKw pos (keywordEach [] X.env)))):PE X (.Call (.Attribute o m apos) (e :: es) [] pos) (LE X.K Ξ (aY P (.bJ m cs mo hZ))) :=
 (XY ho hx ha fI gK ht).imp λcz H Q bu=>by
  let#[σ,g,ρ,s,R,h]:=bu;show fG hP s R (.refl _ _) h λx g1 cx H1 v1 e1 R1 r1 h=>?_;let#[i,c,fs,f,rfl,hi,hf,oV,h]:=h;let#[a',rfl,ra]:=r1.j9;let#[C,dx,vs,hH,hC,jo,rk,na]:=R1.ins hi ra;let#[k,fa,fd,ps,M,F,hr]:=hM c f C oV hC;let lk:=rk.look m;rw[hf] at lk;let hl:vs.lookup m=none:=by cases e:vs.lookup m with|none=>rfl|some w=>rw[e] at lk;show lk.elim
  show#[a',C,dx,vs,fa,fd,ps,k,_,rfl,hH,hl,jo,M,F.1,hr,F.2.1,?_];show jX hP (s.ext e1) R1 e1 h λxs g2 fe H2 ws e2 R2 r2 h=>yd hP F (e1.trans e2) R2 (.cons (.ref (e2.get ra)) r2) h λd g' h=>h.ext (e1.trans e2)
def bc8{m}{cs}{o}{mo}{apos}{pl}(hx:Passes (iz X.prog X.w) X Ξ.2)(hM:HV X P Ξ.1 m cs)(ho:PE X o (LE X.K Ξ (aY P mo)))(ht:eval (.Call (.Attribute o m apos) [] [] pos) X.env=(do
   let ov <- eval o X.env
   standAt apos.atName
   let (f,first) <- holding [ov] (getMethod ov m pl)
   callWith pos f first (backTo pos (starEach [] X.env)) (backToKw pos (keywordEach [] X.env)))):PE X (.Call (.Attribute o m apos) [] [] pos) (LE X.K Ξ (aY P (.bJ m cs mo .nil))) :=
 (ZQ ho hx ht).imp λcz H Q bu=>by
  let#[σ,g,ρ,s,R,h]:=bu;show fG hP s R (.refl _ _) h λx g1 cx H1 v1 e1 R1 r1 h=>?_;let#[i,c,fs,f,rfl,hi,hf,oV,h]:=h;let#[a',rfl,ra]:=r1.j9;let#[C,dx,vs,hH,hC,jo,rk,na]:=R1.ins hi ra;let#[k,fa,fd,ps,M,F,hr]:=hM c f C oV hC;let lk:=rk.look m;rw[hf] at lk;let hl:vs.lookup m=none:=by cases e:vs.lookup m with|none=>rfl|some w=>rw[e] at lk;show lk.elim
  show#[a',C,dx,vs,fa,fd,ps,k,_,rfl,hH,hl,jo,M,F.1,hr,F.2.1,yd hP F e1 R1 (.cons (.ref ra) .nil) h λd g' h=>h.ext e1]
end
inductive kZ(K:PySem.W.Frag)(ρ:@&Addr)(H:Hp):@&D->@&(V×V)->Prop
 |nil:kZ K ρ H [] []
 |cons {k d:D} {x y:V} {ds:@&D} {ps:@&(V×V)} (h1:f9 K ρ H k x) (h2:f9 K ρ H d y) (r:kZ K ρ H ds ps):kZ K ρ H (k::d::ds) ((x,y)::ps)
set_option tactic.hygienic true in
def bX8{K ρ H}{ps}(r:kZ K ρ H xs ps):∀{acc kvs:@&(Key×D)} {accV:@&(Key×V)},vK xs acc=!kvs->i8 K ρ H acc accV->∃more:@&(Key×V),ps=more.map (λkv=>(kV kv.1,kv.2))/\2*-more=-xs/\i8 K ρ H kvs (uH accV more):=by
 induction r with
 |nil =>
  intro acc kvs accV h ra;cases h;show#[[],rfl,rfl,ra]
 |cons h1 h2 r ih =>
  rename_i k d x y ds ps;intro acc kvs accV h ra;simp only[vK] at h;cases hk:ox k with
  |none=>simp_all
  |some c =>
   rw[hk] at h;let#[more,e1,e2,r2]:=ih (show vK ds (putD acc c d)=some kvs from h) (ra.put h2);let ex:=X4 hk h1;show#[(c,y)::more,by simp_all,by grind,r2]
section
variable{X:Cx}{Ξ:iQ}{P:eZ}(hP:j4 P){pos:Pos}
inductive nu(X:Cx)(Ξ:iQ)(P:eZ):@&(Option Expr)->@&Expr->ME->@&(TE×TE)->Prop
 |nil:nu X Ξ P [] [] .nil []
 |cons {k v:Expr} {ks:@&(Option Expr)} {vs:@&Expr} {mk mv ms:ME} {iT:@&(TE×TE)} (hk:PE X k (LE X.K Ξ (aY P mk))) (hv:PE X v (LE X.K Ξ (aY P mv))) (r:nu X Ξ P ks vs ms iT) :
   nu X Ξ P (some k::ks) (v::vs) (.cons mk (.cons mv ms)) ((LE X.K Ξ (aY P mk),LE X.K Ξ (aY P mv))::iT)
def nu.So{ks vs ms iT}(h:nu X Ξ P ks vs ms iT):ze X pos ks vs iT:=by
 induction h with
 |nil=>show bF7
 |cons hk hv r ih=>show Ye hk hv ih
def nu.len{ks vs ms iT}(h:nu X Ξ P ks vs ms iT):ks.all (·.isSome)=true/\-ks=-vs:=by
 induction h with
 |nil=>show#[rfl,rfl]
 |cons hk hv r ih=>show#[by simpa using ih.1,by simp[ih.2]]
include hP
def nu.pairs{ks vs ms iT}(hd:nu X Ξ P ks vs ms iT):∀{cz:L2.St} {σ:S} {g:G} {ρ gx:@&Addr} {H H0:Hp} {Qd:@&D->G->Prop} {Q:@&(V×V)->Hp->Prop},v5 X.K ρ H σ cz->Rl X.K ρ g H->Ext gx H0 ρ H->fU P ms σ g Qd (LX X.K gx H0 Ξ) ->
  (∀ds g' bX H' ps,Ext ρ H bX H'->Rl X.K bX g' H'->kZ X.K bX H' ds ps->Qd ds g'->Q ps H')->As iT cz H Q:=by
 induction hd with
 |nil =>
  intro cz σ g ρ gx H H0 Qd Q s R e0 h k;show k [] g ρ H [] (.refl _ _) R .nil h
 |cons hk hv r ih =>
  intro cz σ g ρ gx H H0 Qd Q s R e0 h k;show fG hP s R e0 h λx g1 cx H1 v1 e1 R1 r1 h=>fG hP (s.ext e1) R1 (e0.trans e1) h λy g2 fe H2 v2 e2 R2 r2 h=>?_;show ih (s.ext (e1.trans e2)) R2 (e0.trans (e1.trans e2)) h λds g' bX H' ps e' R' rp hq=>?_;show k _ g' bX H' _ (e1.trans (e2.trans e')) R' (.cons (r1.ext (e2.trans e')) (r2.ext e') rp) hq
def bP6{ks}{vs}{ms}{iT}(hd:nu X Ξ P ks vs ms iT)(h0:ks≠[])(rL:-ks<=15):PE X (.Dict ks vs pos) (LE X.K Ξ (aY P (.oq ms))) :=
 (bG3 hd.So hd.len.1 hd.len.2 h0 rL).imp λcz H Q ⟨σ,g,ρ,s,R,h⟩ p hp=>by
  let e1:Ext ρ H (ρ++[p]) (upd H p (.dK [])):=A8 hp;show nu.pairs hP hd (s.ext e1) (R.new hp (o:=.cy []) (u:=.dK []) i8.nil) e1 h λds g2 fe H2 ps e2 R2 rp hq=>?_;let#[kvs,hk,hz,hg,q]:=hq;let mH:fe[(-g)]?=!p:=e2.get (R.w6 p);let#[vs',hv,rv]:=R2.cy hg mH;cases rv;let#[more,em,hl,rk]:=bX8 rp hk (accV:=[]) .nil;show#[hv,more,em,by omega,?_];let#[R3,e3]:=R2.put (o':=.cy kvs) (u:=.dK (uH [] more)) hg rfl mH rk;show q fe _ _ (e1.trans (e2.trans e3)) R3 (.ref mH)
end
def b53{l}(ht:TupAt K H0 a vs)(rs:c8 K gx H0 l vs):pk K gx H0 (.fix l) (IU K a):=by
 intro ρ g H e R i;let rD:=ht.ext e;let Jx:=rs.ext e;show#[λh=>#[vs,rD.sq,?_],λd h=>?_]
 .have:=dy.mp (aO h);rw[<- -Jx];show this
 .let#[v,hv,rv]:=Jx.get (aO h);show#[#[vs,v,rD.sq,hv],λw H' y=>?_];let#[rfl,y]:=y;have:=y vs rD.sq;rw[hv] at this;cases this;show#[.refl _ _,R,rv]
def b55(ha:gx[j]?=!a):pk K gx H0 (.lst j) (IV K a):=by
 intro ρ g H e R i;let mM:=e.get ha;show#[λh=>?_,λd h=>?_]
 .simp only[IK.at] at h;cases el:d7 g j with
  |none=>simp_all
  |some l =>
   rw[el] at h;let#[vs,hq,rs]:=R.items el mM;show#[vs,hq,?_];have:=dy.mp (aO h);rw[<- -rs];show this
 .simp only[IK.at] at h;cases el:d7 g j with
  |none=>simp_all
  |some l =>
   rw[el] at h;let#[vs,hq,rs]:=R.items el mM;let#[v,hv,rv]:=rs.get (aO h);show#[#[vs,v,hq,hv],λw H' y=>?_];let#[rfl,y]:=y;have:=y vs hq;rw[hv] at this;cases this;show#[.refl _ _,R,rv]
def Li{lo}{n}:pk K gx H0 (.fix (E1 lo n)) (zi lo n):=by
 unfold E1;intro ρ g H e R i;show#[λh=>?_,λd h=>?_]
 .have:=dy.mp (aO h);change n<=i;simpa using this
 .let h:=aO h;let hi:i<n:=by
   have:=(ak.mp h).1
   simp_all
  rw[ag,dI hi] at h;cases h;show#[hi,λw H' y=>?_];let#[rfl,rfl]:=y;show#[.refl _ _,R,.int _]
def b54{n}(ha:gx[j]?=!a):pk K gx H0 (.uR j n) (IT K a n):=by
 intro ρ g H e R i;let mM:=e.get ha;show#[λh=>?_,λd h=>?_]
 .simp only[IK.at] at h;cases el:d7 g j with
  |none=>simp_all
  |some l =>
   rw[el] at h;dsimp only at h;by_cases hl:-l=n
   .rw[aM hl] at h;let h:=aO h;by_cases hi:i<n
    .rw[aM hi] at h;have:=dy.mp h;omega
    .exact Nat.le_of_not_lt hi
   simp_all
 .simp only[IK.at] at h;cases el:d7 g j with
  |none=>simp_all
  |some l =>
   rw[el] at h;dsimp only at h;by_cases hl:-l=n
   .rw[aM hl] at h;let h:=aO h;by_cases hi:i<n
    .rw[aM hi] at h;let#[vs,hq,rs]:=R.items el mM;let#[v,hv,rv]:=rs.get h;show#[#[vs,v,hq,by rw[<- -rs];show hl,hi,hv],λw H' y=>?_];let#[rfl,y]:=y;have:=y vs hq;rw[hv] at this;cases this;show#[.refl _ _,R,rv]
    .rw[aI hi] at h;cases h
   simp_all
def b56(ha:gx[j]?=!a):pk K gx H0 (.ub j) (IW K a):=by
 intro ρ g H e R i;let mM:=e.get ha;show#[λh=>?_,λd h=>?_]
 .simp only[IK.at] at h;cases el:d7 g j with
  |none=>rw[el] at h;cases h
  |some l =>
   rw[el] at h;let#[vs,hq,rs]:=R.items el mM;show#[vs,hq,?_];let h:=aO h;rw[Option.map_eq_none_iff] at h;have:=dy.mp h;rw[<- -rs];show this
 .simp only[IK.at] at h;cases el:d7 g j with
  |none=>simp_all
  |some l =>
   rw[el] at h;let#[vs,hq,rs]:=R.items el mM;let h:=aO h;rw[aa] at h;let#[d',hd,rfl]:=h;let#[v,hv,rv]:=rs.get hd;show#[#[vs,v,hq,hv],λw H' y=>?_];let#[p,x,hp,rfl,y,rfl]:=y;have:=y vs hq;rw[hv] at this;cases this;show#[B0 hp,R.grow hp,.tup (.inl m4) (.cons (.int _) (.cons (rv.ext (B0 hp)) .nil))]
end M
namespace L2
open PySem PySem.Spec PyProof.Rows
def bR5{X}{tg l}{tl}(hl:PE X l tl):PI X tg l (λσ H R=>tl σ H λx H1=>(∃a,x=.ref a/\(∃xs,fJ X.K H1 a xs)/\R (IV X.K a) H1)\/(∃a,x=.ref a/\(∃xs,iR X.K H1 a xs)/\R (IU X.K a) H1)):=by
 intro pi s σ H R I h;show cG (hl pi s σ H _ I h) λv s1 bu=>?_;let#[x,H1,I1,r1,q1]:=bu;rcases q1 with⟨a,e,⟨xs,hq⟩,q⟩|⟨a,e,⟨xs,hq⟩,q⟩
 .subst e;cases r1;let#[aZ,rv,p,hz]:=I1.list hq;show fW p.isList ?_;show#[s1⁻¹,[s1⁻¹],_,_,H1,rfl,I1.kept (t':=s1.toks) λb o e=>ai _ e,bb3 a _,#[_,aD _ rfl,rfl,rfl],λb hb=>?_,q];let e:b=s1⁻¹:=by simpa using hb
  subst e;show I1.pq (av _) (I1.bR.fresh (av _))
 .subst e;cases r1;let#[aZ,rv,p,hz]:=I1.tuple hq;show wpAny_pyIter_tuple (show s1.heap.IsTuple a aZ.toArray from p) ?_;show#[s1⁻¹,[s1⁻¹],_,_,H1,rfl,I1.kept (t':=s1.toks) λb o e=>ai _ e,a44 a _,#[_,aD _ rfl,rfl,rfl],λb hb=>?_,q];let e:b=s1⁻¹:=by simpa using hb
  subst e;show I1.pq (av _) (I1.bR.fresh (av _))
end L2
namespace M
open PySem L2 PySem.Spec PyProof.Rows
variable{X:Cx}{tg o:Expr}{pos p tp:Pos}{i:Nat}{x f:Str}{t:MT}{mo mi:ME}{cs:@&Str}
section
variable{Ξ:iQ}{P:eZ}(hP:j4 P){a b:Expr}{ma mb:ME}
include hP
def bO6(ha:PE X a (LE X.K Ξ (aY P ma))):PI X tg a (LI X.K Ξ (gR P (.eQ ma))) :=
 (bR5 ha).imp λcz H R bu=>by
  let#[σ,g,ρ,s,Rr,h]:=bu;show fG hP s Rr (.refl _ _) h λx g1 cx H1 v1 e1 R1 r1 h=>?_;rcases h with⟨l,rfl,h⟩|⟨i,l,rfl,hl,h⟩
  .let#[a',vs,rfl,ht,rs]:=r1.M7;show .inr #[_,rfl,#[_,ht.sq],h cx H1 _ e1 R1 (b53 ht rs)]
  .let#[a',rfl,mM]:=r1.j9;let#[vs,hq,rs]:=R1.items hl mM;show .inl #[_,rfl,#[_,hq],h cx H1 _ e1 R1 (b55 mM)]
def bD5{elts}{x1}(ha:PE X a (LE X.K Ξ (aY P ma)))(hg:Gl X "enumerate")(hm:X.mg "enumerate"=none)(hs:starEach [a] X.env=[(false,eval a X.env)]):PI X (.Tuple elts x1 tp) (.Call (.Name "enumerate" p) [a] [] pos) (LI X.K Ξ (gR P (.lF ma))) :=
 (QV hg hm (F4 hP ha (P2 hP) (by rw[hs];rfl)) hs).imp λcz H R bu=>by
  let#[σ,g,ρ,s,Rr,h]:=bu;show jX hP s Rr (.refl _ _) (Q0:=λxs g1=>∃a l,xs=[.ref a]/\d7 g1 a=!l/\∀bX H' J,Ext ρ H bX H'->Rl X.K bX g1 H'->pk X.K bX H' (.ub a) J->R J H') ?_ λxs g1 cx H1 vs e1 R1 r1 h=>?_
  .exact c9 hP ma _ _ _ _ _ _ (by rintro x g1 ⟨i,l,e,hl,h⟩;show #[i,l,by rw[e],hl,h]) (λy y z=>z) h
  .let#[j,l,rfl,hl,h]:=h;let#[v,rfl,rv]:=r1.one;let#[a',rfl,ra]:=rv.j9;let#[vs,hq,rs]:=R1.items hl ra;show#[_,rfl,#[_,hq],h cx H1 _ e1 R1 (b56 ra)]
def bO7(ha:PE X a (LE X.K Ξ (aY P ma)))(hg:Gl X "reversed")(hm:X.mg "reversed"=none)(hs:starEach [a] X.env=[(false,eval a X.env)]):PI X tg (.Call (.Name "reversed" p) [a] [] pos) (LI X.K Ξ (gR P (.oO ma))) :=
 (bR6 hg hm (F4 hP ha (P2 hP) (by rw[hs];rfl)) hs).imp λcz H R bu=>by
  let#[σ,g,ρ,s,Rr,h]:=bu;show jX hP s Rr (.refl _ _) (Q0:=λxs g1=>∃a l,xs=[.ref a]/\d7 g1 a=!l/\∀bX H' J,Ext ρ H bX H'->Rl X.K bX g1 H'->pk X.K bX H' (.uR a (-l)) J->R J H') ?_ λxs g1 cx H1 vs e1 R1 r1 h=>?_
  .exact c9 hP ma _ _ _ _ _ _ (by rintro x g1 ⟨i,l,e,hl,h⟩;show #[i,l,by rw[e],hl,h]) (λy y z=>z) h
  .let#[j,l,rfl,hl,h]:=h;let#[v,rfl,rv]:=r1.one;let#[a',rfl,ra]:=rv.j9;let#[vs,hq,rs]:=R1.items hl ra;show#[_,vs,rfl,hq,h cx H1 _ e1 R1 (by rw[(-rs)];show b54 ra)]
def bD4(ha:PE X a (LE X.K Ξ (aY P ma)))(hg:Gl X "range")(hm:X.mg "range"=none)(hs:starEach [a] X.env=[(false,eval a X.env)]):PI X tg (.Call (.Name "range" p) [a] [] pos) (LI X.K Ξ (gR P (.fo ma))) :=
 (ZU hg hm (F4 hP ha (P2 hP) (by rw[hs];rfl)) hs).imp λcz H R bu=>by
  let#[σ,g,ρ,s,Rr,h]:=bu;show jX hP s Rr (.refl _ _) (Q0:=λxs g1=>∃j:Int,xs=[.int j]/\-(2 ^ 62)<=j/\j<2 ^ 62/\∀bX H' J,Ext ρ H bX H'->Rl X.K bX g1 H'->pk X.K bX H' (.fix (E1 0 j.toNat)) J->R J H') ?_ λxs g1 cx H1 vs e1 R1 r1 h=>?_
  .exact c9 hP ma _ _ _ _ _ _ (by rintro x g1 ⟨j,e,h1,h2,h⟩;show #[j,by rw[e],h1,h2,h]) (λy y z=>z) h
  .let#[j,rfl,h1,h2,h]:=h;let#[v,rfl,rv]:=r1.one;obtain rfl:=rv.n6;show#[_,rfl,h1,h2,h cx H1 _ e1 R1 Li]
def bD3(ha:PE X a (LE X.K Ξ (aY P ma)))(hb:PE X b (LE X.K Ξ (aY P mb)))(hg:Gl X "range")(hm:X.mg "range"=none)(hs:starEach [a,b] X.env=[(false,eval a X.env),(false,eval b X.env)])(iM:starEach [b] X.env=[(false,eval b X.env)]) :
  PI X tg (.Call (.Name "range" p) [a,b] [] pos) (LI X.K Ξ (gR P (.jJ ma mb))) :=
 (ZV hg hm (F4 hP ha (F4 hP hb (P2 hP) (by rw[iM];rfl)) (by rw[hs,iM])) hs iM).imp λcz H R bu=>by
  let#[σ,g,ρ,s,Rr,h]:=bu;show jX hP s Rr (.refl _ _) (Q0:=λxs g1=>∃i j:Int,xs=[.int i,.int j]/\(-(2 ^ 62)<=i/\i<2 ^ 62/\-(2 ^ 62)<=j/\j<2 ^ 62)/\∀bX H' J,Ext ρ H bX H'->Rl X.K bX g1 H'->pk X.K bX H' (.fix (E1 i (j-i).toNat)) J->R J H') ?_ λxs g1 cx H1 vs e1 R1 r1 h=>?_
  .exact c9 hP ma _ _ _ _ _ _ (λx g1 h=>c9 hP mb _ _ _ _ _ _ (by rintro y g2 ⟨i,j,e,e',h1,h⟩;show #[i,j,by rw[e,e'],h1,h]) (λu u z=>z) h) (λu u z=>z) h
  .let#[i,j,rfl,h1,h]:=h;let#[v,w,rfl,rv,fN]:=r1.two;obtain rfl:=rv.n6;obtain rfl:=fN.n6;show#[_,_,rfl,h1,h cx H1 _ e1 R1 Li]
end
def bO8(hN:X.Nd)(hi:X.N[i]?=!x)(hx:Loc X.env.scope x)(hf:X.fn x=true\/X.env.scope.names.lookup x=!.local):PG X (.Name x pos) (LG X.K (.one i)) :=
 (QU hN hi hx hf).imp λv cz H Q hq=>by
  let#[d,σ,g,ρ,s,R,r,h]:=hq;show h _ (s.set i r)
inductive gg(X:Cx):@&Expr->@&Nat->Prop
 |nil:gg X [] []
 |cons {x:Str} {p:Pos} {i:Nat} {es:@&Expr} {is:@&Nat} (hi:X.N[i]?=!x) (hx:Loc X.env.scope x) (hf:X.fn x=true\/X.env.scope.names.lookup x=!.local) (r:gg X es is):gg X (.Name x p::es) (i::is)
abbrev yn:@&Nat->sy
 |[]=>MH
 |i::is=>Le (sf i) (yn is)
def Gy(hN:X.Nd){es}{is}(h:gg X es is):zf X es (yn is):=by
 induction h with
 |nil=>show bF9
 |cons hi hx hf r ih=>show X' (QU hN hi hx hf) ih rfl
def P1:∀{es:@&Expr} {is:@&Nat},gg X es is->(assignEach es X.env).length=-is/\(assignEach es X.env).findIdx? (·.1)=none
 |_,_,.nil=>#[rfl,rfl]
 |_,_,.cons (x:=x) (p:=p) (es:=es) hi hx hf r=>by
  let#[h1,h2]:=P1 r;let e:assignEach (.Name x p::es) X.env=(false,assign (.Name x p) X.env)::assignEach es X.env:=rfl;rw[e];show#[by simp[h1],?_];rw[List.findIdx?_cons,h2]
  rfl
def Pt{K}{ρ}{H}{k:S->Prop}{Q:L2.St->Hp->Prop}:∀{is:@&Nat} {l:@&D} {vs:@&V} {σ cg:S} {cz:L2.St},Z4 is l σ=!cg->c8 K ρ H l vs->v5 K ρ H σ cz->(∀cZ,v5 K ρ H cg cZ->Q cZ H)->yn is vs cz H Q
 |[],_,_,_,_,_,h,.nil,s,q=>by
  cases h;show#[rfl,q _ s]
 |[],_,_,_,_,_,h,.cons _ _,s,q=>by cases h
 |i::is,_,_,_,_,_,h,.nil,s,q=>by cases h
 |i::is,_,_,_,_,_,h,.cons r rr,s,q=>by
  show#[_,_,rfl,Pt (k:=k) h rr (s.set i r) q]
def Nr:∀{is:@&Nat} {l:@&D} {σ cg:S},Z4 is l σ=!cg->-l=-is
 |[],[],_,_,_=>rfl
 |[],_::_,_,_,h=>by simp only[Z4] at h;cases h
 |_::_,[],_,_,h=>by simp only[Z4] at h;cases h
 |_::is,_::l,_,_,h=>by simp only[Z4] at h;simp[Nr h]
def Oi{es}{is}{k}(hc:X.calm=true)(hN:X.Nd)(hs:gg X es is):PG X (.Tuple es k pos) (LG X.K (.many is)) :=
 (HD hc (Gy hN hs) (P1 hs).1 (P1 hs).2).imp λv cz H Q bu=>by
  let#[d,σ,g,ρ,s,R,r,h]:=bu;let#[l,cg,rfl,e,h]:=h;let#[a',vs,rfl,ht,rs]:=r.M7;show#[_,_,rfl,ht.sq,by rw[<- -rs];show Nr e,Pt (k:=λx=>True) e rs s h]
def LN.ext{K ρ H N cx H1}(e:Ext ρ H cx H1):(LN K ρ H N).le (LN K cx H1 N) :=
 #[λσ g h bX H' cZ e' R s=>h bX H' cZ (e.trans e') R s,λd g h=>h.ext e,λσ g h bX H' cZ e' R s=>h bX H' cZ (e.trans e') R s,λσ g h bX H' cZ e' R s=>h bX H' cZ (e.trans e') R s]
section
variable{Ξ:iQ}{P:eZ}(hP:j4 P){a b c:Expr}{ma mb mc:ME}{st:Stmt}{rest:@&Stmt}{CN nH:MS}
include hP
def Mm:jC X [] (LS X.K Ξ (wpS P .pass)) :=
 (bF3).imp (by rintro N cz H ⟨σ,g,ρ,s,R,h⟩;show h ρ H cz (.refl _ _) R s)
def Oj(h1:PS X st (LS X.K Ξ (wpS P CN)))(h2:jC X rest (LS X.K Ξ (wpS P nH))):jC X (st::rest) (LS X.K Ξ (wpS P (.seq CN nH))) :=
 (Yh h1 h2).imp λN cz H ⟨σ,g,ρ,s,R,h⟩ =>
  uO hP s R (.refl _ _) (show wpS P CN { LN X.K ρ H N with nx:=λjm g1=>wpS P nH (LN X.K ρ H N) jm g1 (LX X.K ρ H Ξ) } σ g (LX X.K ρ H Ξ) from h) #[λjm g1 h cx H1 RC e1 R1 s1=>uO hP s1 R1 e1 h (LN.ext e1),λx x z=>z,λx x z=>z,λx x z=>z]
def bC4(ha:PE X a (LE X.K Ξ (aY P ma)))(hs:swapsWith a none pos.line X.env=pure false):PS X (.Expr a pos) (LS X.K Ξ (wpS P (.expr ma))) :=
 (bF6 ha hs).imp (by rintro N cz H ⟨σ,g,ρ,s,R,h⟩;show fG hP s R (.refl _ _) h λx g1 cx H1 v1 e1 R1 r1 h=>h cx H1 cz e1 R1 (s.ext e1))
def Mp(h0:PS X (.Assign [.Name x p] a pos) (vQ (LE X.K Ξ (aY P ma)) (sf i))):PS X (.Assign [.Name x p] a pos) (LS X.K Ξ (wpS P (.set i ma))) :=
 h0.imp (by rintro N cz H ⟨σ,g,ρ,s,R,h⟩;show fG hP s R (.refl _ _) h λx g1 cx H1 v1 e1 R1 r1 h=>h cx H1 _ e1 R1 ((s.ext e1).set i r1))
def bN0(h0:PS X (.Assign [tg] a pos) (vQ (LE X.K Ξ (aY P ma)) (LG X.K t))):PS X (.Assign [tg] a pos) (LS X.K Ξ (wpS P (.nC t ma))) :=
 h0.imp (by rintro N cz H ⟨σ,g,ρ,s,R,h⟩;show fG hP s R (.refl _ _) h λx g1 cx H1 v1 e1 R1 r1 h=>#[x,σ,g1,cx,s.ext e1,R1,r1,E0 (λcg h cZ s'=>h cx H1 cZ e1 R1 s') h])
def YN(hu:X.A.units+100<cLine){i}(ha:PE X a (LE X.K Ξ (aY P ma)))(ho:PE X o (LE X.K Ξ (aY P mo)))(hi:PE X i (LE X.K Ξ (aY P mi)))(hs:swapsWithSole [.Subscript o i tp] a pos.line X.env=pure false)(mM:∀ v,assign (.Subscript o i tp) X.env v=(do
   let ov <- holding [v] (eval o X.env)
   let iv <- holding [v,ov] (eval i X.env)
   standAt tp
   holding [v,ov,iv] (setItem ov iv v)
   release [v,ov,iv] [])):PS X (.Assign [.Subscript o i tp] a pos) (LS X.K Ξ (wpS P (.df mo mi ma))) :=
 (Mi ha (bR7 ho hi (bO9 hu) mM) hs).imp λN cz H ⟨σ,g,ρ,s,R,h⟩ =>
  fG hP s R (.refl _ _) h λx g1 cx H1 v1 e1 R1 r1 h=>fG hP (s.ext e1) R1 e1 h λy g2 fe H2 v2 e2 R2 r2 h=>fG hP (s.ext (e1.trans e2)) R2 (e1.trans e2) h λz g3 jt H3 v3 e3 R3 r3 h =>
   #[y,z,x,g3,jt,R3,r2.ext e3,r3,r1.ext (e2.trans e3),Ba (λg4 h mB H4 e4 R4=>h mB H4 cz (e1.trans (e2.trans (e3.trans e4))) R4 (s.ext (e1.trans (e2.trans (e3.trans e4))))) h]
omit hP in
def BA(K:PySem.W.Frag)(f:Str)(cs:@&Str):Prop:=∀c C,c∈cs->w9 K c C->J6 K C f
omit hP in
def bD6(hF:BA X.K f cs){ρ}{H}{g g'}{x v}{xv vv}(R:Rl X.K ρ g H)(rx:f9 X.K ρ H x xv)(rv:f9 X.K ρ H v vv)(h:Lu f cs x v g g') :
  ∃a C dx fs,xv=.ref a/\H a=!.ins C dx fs/\jE X.K C/\J6 X.K C f/\-fs<1000/\Rl X.K ρ g' (upd H a (.ins C dx (A7 f vv fs)))/\Ext ρ H ρ (upd H a (.ins C dx (A7 f vv fs))):=by
 let#[i,c,fs,rfl,hi,hc,hz,rfl]:=h;let#[a',rfl,ra]:=rx.j9;let#[C,dx,vs,hH,hC,jo,rk,na]:=R.ins hi ra;let#[R',e']:=R.put (o':=.ins c (m7 f v fs)) (u:=.ins C dx (A7 f vv vs)) hi rfl ra #[hC,jo,rk.A7 rv,GJ (hF c C hc hC) na];show#[a',C,dx,vs,rfl,hH,jo,hF c C hc hC,by rw[<- -rk];omega,R',e']
def bC3(hF:BA X.K f cs)(ho:PE X o (LE X.K Ξ (aY P mo)))(ha:PE X a (LE X.K Ξ (aY P ma)))(hs:swapsWith a (!.Attribute o f tp) pos.line X.env=pure false):PS X (.Assign [.Attribute o f tp] a pos) (LS X.K Ξ (wpS P (.fH f cs mo ma))) :=
 (bR3 ho ha hs).imp λN cz H ⟨σ,g,ρ,s,R,h⟩=>fG hP s R (.refl _ _) h λx g1 cx H1 v1 e1 R1 r1 h=>fG hP (s.ext e1) R1 e1 h λy g2 fe H2 v2 e2 R2 r2 h=>by
  let#[g3,h,q]:=h;let#[a',C,dx,fs,hx,hH,jo,na,hz,R3,e3]:=bD6 hF R2 r2 (r1.ext e2) h;show#[a',C,dx,fs,hx,hH,jo,na,hz,q fe _ cz (e1.trans (e2.trans e3)) R3 (s.ext (e1.trans (e2.trans e3)))]
def bC6{op}{p}(Dm:(op=.Add/\p=.iadd)\/(op=.Sub/\p=.nN))(hN:X.Nd)(hi:X.N[i]?=!x)(hx:Loc X.env.scope x)(hf:X.fn x=true\/X.env.scope.names.lookup x=!.local)(ha:PE X a (LE X.K Ξ (aY P ma))):PS X (.AugAssign (.Name x tp) op a pos) (LS X.K Ξ (wpS P (.kh i p ma))):=by
 let ho:Rh X op (r2 X.K p):=by
  intro pi s σ H x y v u Q I rx ry h;let#[d,e,g,ρ,R,rd,re,d',g',hr,q]:=h;rcases Dm with⟨rfl,rfl⟩|⟨rfl,rfl⟩
  .rcases hr with⟨i,j,ex,rfl,rfl⟩|⟨l,m,ex,hz,rfl,rfl⟩
   .let#[rfl,rfl]:=F0 ex;obtain rfl:=rd.n6;obtain rfl:=re.n6;show bJ2 pi s σ H _ _ v u Q I rx ry #[i,j,rfl,rfl,q.now R (.int _)]
   .let#[rfl,rfl]:=F0 ex;let#[p1,Ct,rfl,t1,pP]:=rd.M7;let#[p2,rg,rfl,t2,nF]:=re.M7;show QK pi s σ H _ _ v u Q I rx ry (.inr #[p1,p2,Ct,rg,rfl,rfl,t1.sq,t2.sq,by rw[<- -pP,<- -nF];show J0 hz,λz=>?_,λz=>?_,λp hp=>q.tup R hp (pP.append nF)])
    .subst z;cases pP;show q.now R (.tup t2 nF)
    .subst z;cases nF;rw[fh] at q;show q.now R (.tup t1 pP)
  .let#[i,j,ex,rfl,rfl]:=hr;let#[rfl,rfl]:=F0 ex;obtain rfl:=rd.n6;obtain rfl:=re.n6;show bJ1 pi s σ H _ _ v u Q I rx ry #[i,j,rfl,rfl,q.now R (.int _)]
 show(bR4 hN hi hx ha ho hf).imp λN cz H bu=>?_;let#[σ,g,ρ,s,R,h]:=bu;let#[xd,SU,h]:=h;let#[xv,hv,rx]:=s.val _ _ SU;show#[xv,hv,fG hP s R (.refl _ _) h λz g1 cx H1 v1 e1 R1 r1 h=>?_];show#[xd,z,g1,cx,R1,rx.ext e1,r1,y4 (λw g2 q=>?_) h];show λfe H2 v2 e2 R2 r2=>q fe H2 _ (e1.trans e2) R2 ((s.ext (e1.trans e2)).set i r2)
def bC7(hF:BA X.K f cs)(ho:PE X o (LE X.K Ξ (aY P mo)))(ha:PE X a (LE X.K Ξ (aY P ma))):PS X (.AugAssign (.Attribute o f tp) .Add a pos) (LS X.K Ξ (wpS P (.kY f cs mo ma))) :=
 (ZY ho ha QK).imp λN cz H ⟨σ,g,ρ,s,R,h⟩=>fG hP s R (.refl _ _) h λy g1 cx H1 v1 e1 R1 r1 h=>by
  let#[i,c,fs,x,rfl,hi,hc,hf,h]:=h;let#[a',rfl,ra]:=r1.j9;let#[C,dx,vs,hH,hC,jo,rk,na]:=R1.ins hi ra;let lk:=rk.look f;rw[hf] at lk;let#[v,hv,rv]:=lk.some;show#[a',C,dx,vs,v,rfl,hH,jo,hF c C hc hC,hv,fG hP (s.ext e1) R1 e1 h λz g3 jt H3 v3 e3 R3 r3 h=>?_];let#[d',g',hR,jB,gT,hz,q]:=h;let fin:∀{mB:@&Addr} {H4:Hp} {vv:V},Ext jt H3 mB H4->Rl X.K mB g' H4->f9 X.K mB H4 d' vv->∃vi jB,H4 a'=!.ins C vi jB/\-jB<1000/\N.nx cz (upd H4 a' (.ins C vi (A7 f vv jB))):=by
   intro mB H4 vv e4 R4 r4;let#[C2,KR,rg,DS,Ky,DD,Jy,Sv]:=R4.ins gT ((e3.trans e4).get ra);have:C2=C:=by grind
   subst this;let#[R5,e5]:=R4.put (o':=.ins c (m7 f d' jB)) (u:=.ins C2 KR (A7 f vv rg)) gT rfl ((e3.trans e4).get ra) #[Ky,DD,Jy.A7 r4,GJ (hF c C2 hc Ky) Sv];show#[KR,rg,DS,by rw[<- -Jy];omega,q mB _ cz (e1.trans (e3.trans (e4.trans e5))) R5 (s.ext (e1.trans (e3.trans (e4.trans e5))))]
  rcases hR with⟨j,l,ex,rfl,rfl⟩|⟨l,m,ex,zQ,rfl,rfl⟩
  .let#[rfl,rfl]:=F0 ex;obtain rfl:=rv.n6;obtain rfl:=r3.n6;show .inl #[_,_,rfl,rfl,fin (.refl _ _) R3 (.int _)]
  .let#[rfl,rfl]:=F0 ex;let#[p1,Ct,rfl,t1,pP]:=(rv.ext e3).M7;let#[p2,rg,rfl,t2,nF]:=r3.M7;show .inr #[p1,p2,Ct,rg,rfl,rfl,t1.sq,t2.sq,by rw[<- -pP,<- -nF];show J0 zQ,λz=>?_,λz=>?_,λp hp=>?_]
   .subst z;cases pP;show fin (.refl _ _) R3 (.tup t2 nF)
   .subst z;cases nF;rw[fh] at fin;show fin (.refl _ _) R3 (.tup t1 pP)
   .exact fin (B0 hp) (R3.grow hp) (.tup (.inl m4) ((pP.append nF).ext (B0 hp)))
def b15{sa sb}{JK msb}(hc:PT X c (LT X.K Ξ (et P mc)))(ha:jC X sa (LS X.K Ξ (wpS P JK)))(hb:jC X sb (LS X.K Ξ (wpS P msb))):PS X (.If c sa sb pos) (LS X.K Ξ (wpS P (.ifs mc JK msb))) :=
 (b28 hc ha hb).imp λN cz H ⟨σ,g,ρ,s,R,h⟩=>rh hP s R (.refl _ _) h λt g1 cx H1 e1 R1 h=>by
  cases t
  .exact uO hP (s.ext e1) R1 e1 h (LN.ext e1)
  .exact uO hP (s.ext e1) R1 e1 h (LN.ext e1)
def Mo(ha:PE X a (LE X.K Ξ (aY P ma))):PS X (.Return (!a) pos) (LS X.K Ξ (wpS P (.ret ma))) :=
 (bR1 ha).imp (by rintro N cz H ⟨σ,g,ρ,s,R,h⟩;show #[σ,g,ρ,s,R,h])
def YO{body}{mb}(hp:PassesOwn (model X.prog X.w) X.A X.env X.xe)(hc:PT X c (LT X.K Ξ (et P mc)))(hb:jC X body (LS X.K Ξ (wpS P mb))):PS X (.While c body [] pos) (LS X.K Ξ (wpS P (.jW mc mb))) :=
 (Yg hp hc hb).imp λN cz H bu=>by
  let#[σ,g,ρ,s,R,h]:=bu;let#[W,#[m0,w0],h]:=h;show#[λm cZ H'=>∃cg g' bX,Ext ρ H bX H'/\v5 X.K bX H' cg cZ/\Rl X.K bX g' H'/\W m cg g',#[m0,σ,g,ρ,.refl _ _,s,R,w0],?_];rintro m cZ H' ⟨cg,g',bX,e1,s',R',w'⟩;show rh hP s' R' e1 (h m cg g' w') λt g1 cx H1 e2 R1 q=>?_;cases t
  .exact q cx H1 cZ (e1.trans e2) R1 (s'.ext e2)
  .let#[N2,DP,q]:=q;show#[λkK H2=>∃cE g2 fe,Ext ρ H fe H2/\v5 X.K fe H2 cE kK/\Rl X.K fe g2 H2/\N2 cE g2,?_,?_]
   .rintro kK H2 ⟨cE,g2,fe,e3,s2,R2,n2⟩;let#[m',hm,w2]:=DP cE g2 n2;show#[m',hm,cE,g2,fe,e3,s2,R2,w2]
   .refine uO hP (s'.ext e2) R1 (e1.trans e2) q #[?_,?_,?_,?_]
    .exact λjk g3 n3 jt H3 lD e3 R3 s3=>#[jk,g3,jt,(e1.trans e2).trans e3,s3,R3,n3]
    .exact λd g3 h=>h.ext (e1.trans e2)
    .exact λjk g3 h jt H3 lD e3 R3 s3=>h jt H3 lD ((e1.trans e2).trans e3) R3 s3
    .exact λjk g3 n3 jt H3 lD e3 R3 s3=>#[jk,g3,jt,(e1.trans e2).trans e3,s3,R3,n3]
def bN2{iter}{body}{mb}(hp:PassesOwn (model X.prog X.w) X.A X.env X.xe)(hc:X.calm=true)(hi:PI X tg iter (LI X.K Ξ (gR P mi)))(hg:PG X tg (LG X.K t))(hb:jC X body (LS X.K Ξ (wpS P mb)))(hs:∀x,foldedSetIterable iter X.env x=pure x):PS X (.For tg iter body [] pos) (LS X.K Ξ (wpS P (.gL t mi mb))) :=
 (bR2 hp hc hi hg hb hs).imp λN cz H bu=>by
  let#[σ,g,ρ,s,R,h]:=bu;show#[σ,g,ρ,s,R,F5 hP mi _ _ _ _ _ _ (λk g1 h cx H1 J e1 R1 j1=>?_) (λu u z=>z) h];let#[W,#[m0,w0],h]:=h;show#[λi m cZ H'=>∃cg g' bX,Ext cx H1 bX H'/\v5 X.K bX H' cg cZ/\Rl X.K bX g' H'/\W i m cg g',#[m0,σ,g1,cx,.refl _ _,s.ext e1,R1,w0],?_];rintro i m cZ H' ⟨cg,g',bX,e',s',R',w'⟩;let#[wM,wL]:=j1 bX g' H' e' R' i;rcases h i m cg g' w' with⟨ek,q⟩|⟨x,ek,N2,DP,q⟩
  .exact .inl #[wM ek,q bX H' cZ (e1.trans e') R' s']
  .let#[go,yl]:=wL x ek;show .inr #[go,λkK H2=>∃cE g2 fe,Ext cx H1 fe H2/\v5 X.K fe H2 cE kK/\Rl X.K fe g2 H2/\N2 cE g2,?_,?_]
   .rintro kK H2 ⟨cE,g2,fe,e2,s2,R2,n2⟩;let#[m',hm,w2]:=DP cE g2 n2;show#[m',hm,cE,g2,fe,e2,s2,R2,w2]
   .intro v H2 y;let#[e2,R2,r2]:=yl v H2 y;show#[x,cg,g',bX,s'.ext e2,R2,r2,E0 (λcE q kK s2=>?_) q];show uO hP s2 R2 (e1.trans (e'.trans e2)) q #[?_,?_,?_,?_]
    .exact λjk g3 n3 jt H3 lD e3 R3 s3=>#[jk,g3,jt,(e'.trans e2).trans e3,s3,R3,n3]
    .exact λd g3 h=>h.ext (e1.trans (e'.trans e2))
    .exact λjk g3 h jt H3 lD e3 R3 s3=>h jt H3 lD (e1.trans ((e'.trans e2).trans e3)) R3 s3
    .exact λjk g3 n3 jt H3 lD e3 R3 s3=>#[jk,g3,jt,(e'.trans e2).trans e3,s3,R3,n3]
def OA{d8}{n}{ju me}:∀cz H Q,LE X.K Ξ (aY P (.comp d8 n t mi ju me)) cz H Q->IG (LI X.K Ξ (gR P mi)) d8 n (LG X.K t) (LT X.K (pA Ξ.1) (et P ju)) (LE X.K (pA Ξ.1) (aY P me)) cz H Q:=λcz H Q bu=>by
 let#[σ,g,ρ,s,R,h]:=bu;show#[σ,g,ρ,s,R,F5 hP mi _ _ _ _ _ _ (λk g1 h cx H1 J e1 R1 j1=>?_) (λw w z=>z) h];let#[W,#[m0,w0],h]:=h;show#[λi m Jj cZ H'=>∃ys cg g' bX,Ext cx H1 bX H'/\v5 X.K bX H' cg cZ/\Rl X.K bX g' H'/\c8 X.K bX H' ys Jj/\W i m ys cg g',#[m0,[],_,g1,cx,.refl _ _,(s.ext e1).d8 d8 n,R1,.nil,w0],?_];rintro i m Jj cZ H' ⟨ys,cg,g',bX,e',s',R',ry,w'⟩;let#[wM,wL]:=j1 bX g' H' e' R' i;rcases h i m ys cg g' w' with⟨ek,q⟩|⟨x,ek,hz,q⟩
 .exact .inl #[wM ek,λp hp=>(q.ext (e1.trans e')).new R' hp ry]
 .let#[go,yl]:=wL x ek;show .inr #[go,by rw[<- -ry];show Ih hz,λv H2 y=>?_];let#[e2,R2,r2]:=yl v H2 y;show#[x,cg,g',bX,s'.ext e2,R2,r2,E0 (λcE q kK s2=>?_) q];show#[cE,g',bX,s2,R2,w5 hP ju _ _ _ _ _ _ (λb g3 q jt H3 e3 R3=>?_) (λw w z=>z.elim) q];cases b
  .let#[m',hm,w3]:=q;show#[m',hm,ys,cE,g3,jt,(e'.trans e2).trans e3,s2.ext e3,R3,(ry.ext e2).ext e3,by simpa using w3]
  .refine#[cE,g3,jt,s2.ext e3,R3,c9 hP me _ _ _ _ _ _ (λz g4 q mB H4 v4 e4 R4 r4=>?_) (λw w z=>z.elim) q];let#[m',hm,w4]:=q;show#[m',hm,ys++[z],cE,g4,mB,(e'.trans e2).trans (e3.trans e4),(s2.ext e3).ext e4,R4,(((ry.ext e2).ext e3).ext e4).append (.cons r4 .nil),by simpa using w4]
def Yy{elt iter}{ifs}{scope}{N'}{d8}{cl}{p2 jZ}{ju me}(S:cF X scope N' d8 cl)(hc:X.calm=true)(hi:PI X tg iter (LI X.K Ξ (gR P mi)))(hg:∀pi C s H fp,PG (f7 X pi scope N' cl C s H fp) tg (LG X.K t))(ht:∀pi C s H fp,jP (f7 X pi scope N' cl C s H fp) ifs (LT X.K (pA Ξ.1) (et P ju)))(he:∀pi C s H fp,PE (f7 X pi scope N' cl C s H fp) elt (LE X.K (pA Ξ.1) (aY P me)))(hs:∀x,foldedSetIterable iter X.env x=pure x)(nX:Gl X "sorted")(nT:X.mg "sorted"=none):PE X (.Call (.Name "sorted" p2) [.SetComp elt [#[tg,iter,ifs,0]] scope pos] [] jZ) (LE X.K Ξ (aY P (.ir d8 (-N') t mi ju me))) :=
 (AQ (NZ hc) nX nT (by rfl) (vF (XZ S hc hi hg ht he hs) vB)).imp λcz H Q bu=>by
  let#[σ,g,ρ,s,R,h]:=bu;show#[σ,g,ρ,s,R,F5 hP mi _ _ _ _ _ _ (λk g1 h cx H1 J e1 R1 j1=>?_) (λw w z=>z) h];let#[W,#[m0,w0],h]:=h;show#[λi m ys cZ H'=>∃cg g' bX,Ext cx H1 bX H'/\v5 X.K bX H' cg cZ/\Rl X.K bX g' H'/\W i m ys cg g',#[m0,_,g1,cx,.refl _ _,(s.ext e1).d8 d8 _,R1,w0],?_];rintro i m ys cZ H' ⟨cg,g',bX,e',s',R',w'⟩;let#[wM,wL]:=j1 bX g' H' e' R' i;rcases h i m ys cg g' w' with⟨ek,hz,q⟩|⟨x,ek,hz,q⟩
  .exact .inl #[wM ek,λp hp=>#[p,ys,rfl,m4,by omega,λp' iN=>(q.ext ((e1.trans e').trans (B0 hp))).new (R'.grow hp) iN (c8.ofInts _)]]
  .let#[go,yl]:=wL x ek;show .inr #[go,hz,λv H2 y=>?_];let#[e2,R2,r2]:=yl v H2 y;show#[x,cg,g',bX,s'.ext e2,R2,r2,E0 (λcE q kK s2=>?_) q];show#[cE,g',bX,s2,R2,w5 hP ju _ _ _ _ _ _ (λb g3 q jt H3 e3 R3=>?_) (λw w z=>z.elim) q];cases b
   .let#[m',hm,w3]:=q;show#[m',hm,cE,g3,jt,(e'.trans e2).trans e3,s2.ext e3,R3,by simpa using w3]
   .refine#[cE,g3,jt,s2.ext e3,R3,c9 hP me _ _ _ _ _ _ (λz g4 q mB H4 v4 e4 R4 r4=>?_) (λw w z=>z.elim) q];let#[j,rfl,m',hm,w4]:=q;obtain rfl:=r4.n6;show#[j,rfl,m',hm,cE,g4,mB,(e'.trans e2).trans (e3.trans e4),(s2.ext e3).ext e4,R4,by simpa using w4]
end
end M
namespace M
open PySem L2
section
variable{X:Cx}{Ξ:iQ}{P:eZ}{o:Expr}{mo:ME}{pos:Pos}(hP:j4 P)
include hP
def bE5{kx vx}{elts ifs}{x1 j}{tp apos ip}{scope}{N'}{cl}(S:cF X scope N' [j] cl)(h3:-N'=4)(hc:X.calm=true)(ho:PE X o (LE X.K Ξ (aY P mo)))(hb:attributeBase o "items" X.env (eval o X.env)=eval o X.env)(hl:(apos.endLine==ip.line)=true)(hg:∀pi C s H fp,PG (f7 X pi scope N' cl C s H fp) (.Tuple elts x1 tp) (Fy X.K 2 (yn [2,3])))(ht:∀pi C s H fp,jP (f7 X pi scope N' cl C s H fp) ifs (ye (rm (CA X.K true) (pz 0) (pz 3))))(hk:∀pi C s H fp,PE (f7 X pi scope N' cl C s H fp) kx (pz 2))(hv:∀pi C s H fp,PE (f7 X pi scope N' cl C s H fp) vx (pz 3)) :
  PE X (.DictComp kx vx [#[.Tuple elts x1 tp,.Call (.Attribute o "items" apos) [] [] ip,ifs,0]] scope pos) (LE X.K Ξ (aY P (.prim .oo (.cons mo (.cons (.var j) .nil))))) :=
 bG1 (ON S hc (Ya ho hb hl) hg ht hk hv λt=>rfl) λcz H Q bu=>by
  let#[σ,g,ρ,s,R,h]:=bu;show#[σ,g,ρ,s,R,c9 hP mo _ _ _ _ _ _ (λx g1 h cx H1 v1 e1 R1 r1=>?_) (λt t z=>z) h];let#[d,dj,d',g',#[a',n,fs,ex,Dz,hl,nd,rfl,rfl],q]:=h;let#[rfl,rfl]:=F0 ex;let#[a,rfl,ra]:=r1.j9;let#[vs,ha,kr]:=R1.cy Dz ra;let#[w,hw,fN]:=(s.ext e1).val j _ dj;obtain rfl:=fN.n6;let vl:-vs=-fs:=by rw[<- -kr,ao]
  show#[a,vs,rfl,ha,λφ CW=>#[λi m ys cZ H'=>m+i=-fs/\(∃y0 y1 y2,cZ=[!.int n,y0,y1,y2])/\(∀b u,upd H1 a (.ext φ) b=!u->H' b=!u)/\i8 X.K cx H1 (((fs.take i).filter (sj n)).map mR) ys,#[(-fs),by simp,#[none,none,none,?_],λt t z=>z,by simpa using i8.nil],?_]]
  .rw[h3];unfold E3;simp[hw]
  rintro i m ys cZ H' ⟨hm,⟨y0,y1,y2,rfl⟩,up,ky⟩;let xy:=up _ _ m4;let tp:∀b xs,H1 b=!.tup xs->H' b=!.tup xs:=λb xs z=>up _ _ (by rw[d6];show z;intro e;rw[e,ha] at z;cases z);cases m with
  |zero =>
   let hi:i=-fs:=by omega
   subst hi;rw[bt] at ky;show .inl #[#[xy,by omega],λp hp=>#[a,φ,vs,?_,CW,?_]]
   .rw[d6 (i9 xy hp)];show xy
   let zU:=i9 xy hp;let sw:upd (upd H' p (.dK ys)) a (.dK vs)=upd (upd H' a (.dK vs)) p (.dK ys):=funext λb=>by
    by_cases h1:b=a
    .rw[h1,m4,d6 zU,m4]
    .rw[d6 h1];by_cases h2:b=p
     .rw[h2,m4,m4]
     .rw[d6 h2,d6 h2,d6 h1]
   rw[sw];let sup:∀b u,H1 b=!u->upd H' a (.dK vs) b=!u:=λb u z=>by
    by_cases h1:b=a
    .rw[h1,m4,<- ha,<- h1];show z
    .rw[d6 h1];show up _ _ (by rw[d6 h1];show z)
   let x1:Ext cx H1 cx (upd H' a (.dK vs)):=#[#[[],by simp],λb xs z=>sup _ _ z]
   let mH:upd H' a (.dK vs) p=none:=by rw[d6 zU.symm];show hp
   show q (cx++[p]) _ _ (e1.trans (x1.trans (A8 mH))) ((R1.sup sup).new mH (ky.ext x1)) (.ref (R1.w6 p))
  |succ m =>
   let hi:i< -fs:=by omega
   let yl:-ys<=i:=by
    rw[<- -ky,ao];show aC (dk _ _) (by rw[bE];show Nat.min_le_left _ _)
   show .inr #[#[xy,by omega],by omega,?_];rintro x H2 ⟨p,k,x,hp,rfl,hx,rfl⟩;obtain⟨⟨k',n1,n2⟩,hf⟩:∃f,fs[i]?=!f:=#[_,aj hi]
   let#[v,JT,rv]:=kr.get (k:=k') (d:=.tup [.int n1,.int n2]) (by rw[ag,hf];rfl);rw[hx] at JT;let#[rfl,rfl]:=Ca (aO JT);let#[q',ws,rfl,tq,rs]:=rv.M7;obtain rfl:=c8.ints (ns:=[n1,n2]) rs;let x2:Ext cx H1 cx (upd H' p (.tup [kV k,.ref q'])):=#[#[[],by simp],λb xs z=>by rw[d6 (i9 (tp b xs z) hp)];show tp b xs z]
   let zA:∀b u,upd H1 a (.ext φ) b=!u->upd H' p (.tup [kV k,.ref q']) b=!u:=λb u z=>by rw[d6 (i9 (up b u z) hp)];show up b u z
   let tk:fs.take (i+1)=fs.take i++[(k,n1,n2)]:=by rw[bg,hf];rfl
   show#[p,_,rfl,TupAt.sq (.inl m4),rfl,_,_,rfl,_,_,rfl,rfl,?_];show#[.int n,rfl,.ref q',rfl,q',_,rfl,.inr (tq.ext x2).sq,rfl,rfl,_,rfl,?_];let hk:(~~~zO (.int n) ([n1,n2].map V.int))=sj n (k,n1,n2):=by simp[zO,lM,sj,Bool.beq_eq_decide_eq]
   rw[aM rfl,hk];cases hz:sj n (k,n1,n2) with
   |false =>
    show#[m,by omega,by omega,#[_,_,_,rfl],zA,?_];rw[tk,cP,dO,hz];simpa using ky
   |true =>
    show#[kV k,rfl,k,rfl,.ref q',rfl,m,by omega,by omega,#[_,_,_,rfl],zA,?_];rw[tk,cP,dO,hz];have:=ky.put (k:=k) rv;let np:((((fs.take i).filter (sj n)).map mR).any λkv=>decide (kv.1=k))=false:=by
     rw[lB];intro y hy e;let#[f,DB,rfl]:=ax.mp hy;let xn:=(ba.mp DB).1;let e:f.1=k:=aP e;let#[i',gT,e']:=eU xn;let l1:i'<i:=by rw[bE] at gT;omega
     let CK:=cJ.mp nd i' i (by simp;omega) (_/hi) l1;apply CK;rw[lA] at e';let TV:fs[i]=(k,n1,n2):=by rw[aj hi] at hf;show aO hf
     simp[e',TV,e]
    rw[putD,aI (by rw[np];decide)] at this;simpa[mR] using this
def bC5{kx vx l}{elts}{x1 i}{x}{tp ep ip px lE}{scope}{N'}{cl}{ml}(S:cF X scope N' [] cl)(h3:-N'=3)(hc:X.calm=true)(hl:PE X l (LE X.K Ξ (aY P ml)))(Kh:Gl X "enumerate")(hm:X.mg "enumerate"=none)(hs:starEach [l] X.env=[(false,eval l X.env)])(hg:∀pi C s H fp,PG (f7 X pi scope N' cl C s H fp) (.Tuple elts x1 tp) (Fy X.K 2 (yn [1,2])))(hk:∀pi C s H fp,PE (f7 X pi scope N' cl C s H fp) kx (pz 2))(hv:∀pi C s H fp,PE (f7 X pi scope N' cl C s H fp) vx (pz 1))(hN:X.Nd)(oU:X.N[i]?=!x)(hx:Loc X.env.scope x)(hf:X.fn x=true\/X.env.scope.names.lookup x=!.local) :
  PS X (.Assign [.Name x px] (.DictComp kx vx [#[.Tuple elts x1 tp,.Call (.Name "enumerate" ep) [l] [] ip,[],0]] scope pos) lE) (LS X.K Ξ (wpS P (.set i (.prim .mS (.cons ml .nil))))) :=
 (aR0 S hc (QV Kh hm (F4 hP hl (P2 hP) (by rw[hs];rfl)) hs) hg (λw w w w w=>Ra) hk hv (λw=>rfl) hN oU hx hf).imp λN cz H bu=>by
  let#[σ,g,ρ,s,R,h]:=bu;show jX hP s R (.refl _ _) (Q0:=λxs g1=>cI .mS xs g1 λx g2=>(LN X.K ρ H N).nx (σ.set i (!x)) g2) h λxs g1 cx H1 vs e1 R1 r1 h=>?_;let#[d',g',#[a',ns,rfl,Dz,hl,nd,rfl,rfl],q]:=h;let#[v,rfl,rv]:=r1.one;let#[a,rfl,ra]:=rv.j9;let#[vs,ha,rs]:=R1.lst Dz ra;obtain rfl:=rs.ints;show#[a,rfl,#[_,fJ.of ha],λi m ys cZ H'=>m+i=-ns/\(∃y0 y1 y2,cZ=[y0,y1,y2])/\(∀b u,H1 b=!u->H' b=!u)/\ys=(ns.zipIdx.take i).map λp=>((.inl p.1:Key),V.int p.2),#[(-ns),by simp,#[none,none,none,?_],λw w z=>z,by simp],?_]
  .rw[h3];rfl
  rintro i' m ys cZ H' ⟨hm,⟨y0,y1,y2,rfl⟩,up,rfl⟩;let hq:fJ X.K H' a (ns.map V.int):=fJ.of (up _ _ ha);cases m with
  |zero =>
   let hi:i'=-ns.zipIdx:=by rw[List.length_zipIdx];omega
   show .inl #[#[_,hq,by simp;omega],λp hp=>?_];rw[hi,bt];let x1:Ext cx H1 cx H':=#[#[[],by simp],λb xs z=>up _ _ z]
   let e2:=e1.trans (x1.trans (A8 (o:=.dK (ns.zipIdx.map λp=>((.inl p.1:Key),V.int p.2))) hp));show q (cx++[p]) _ _ e2 ((R1.sup up).new hp ?_) ((s.ext e2).set i (.ref (R1.w6 p)));have:∀l:@&(Int×Nat),i8 X.K cx H' (l.map λp=>((.inl p.1:Key),D.int p.2)) (l.map λp=>((.inl p.1:Key),V.int p.2)):=λl=>by
    induction l with
    |nil=>show .nil
    |cons y l ih=>show .cons (.int _) ih
   show this _
  |succ m =>
   let hi:i'< -ns:=by omega
   show .inr #[#[_,_,hq,by rw[ag,aj hi];rfl],by simp;omega,?_];rintro x H2 ⟨p,x,hp,rfl,hx,rfl⟩;let hx:=hx _ hq;rw[ag,aj hi] at hx;cases hx;let zA:∀b u,H1 b=!u->upd H' p (.tup [.int i',.int ns[i']]) b=!u:=λb u z=>by rw[d6 (i9 (up b u z) hp)];show up b u z
   show#[p,_,rfl,TupAt.sq (.inl m4),rfl,_,_,rfl,_,_,rfl,rfl,?_];dsimp only[MY];rw[aM rfl];show#[.int ns[i'],rfl,.inl ns[i'],rfl,.int i',rfl,m,by omega,by omega,#[_,_,_,rfl],zA,?_];let tk:ns.zipIdx.take (i'+1)=ns.zipIdx.take i'++[(ns[i'],i')]:=by rw[bg,List.getElem?_zipIdx,aj hi];simp
   rw[tk,bB];let np:((ns.zipIdx.take i').map λp=>((.inl p.1:Key),V.int p.2)).any (λkv=>decide (kv.1=.inl ns[i']))=false:=by
    rw[lB];intro y hy e;let#[f,DB,rfl]:=ax.mp hy;let e:=aP e;let e:=dc e;let#[j,hj,e']:=eU DB;let l1:j<i':=by rw[bE] at hj;omega
    rw[lA,List.getElem_zipIdx] at e';let CK:=cJ.mp nd j i' () hi l1;apply CK;show(dJ Prod.fst e').trans e
   unfold putK;rw[aI (by rw[np];decide)]
   rfl
end
end M
namespace M
open PySem L2 PySem.Spec PyProof.Rows
variable{X:Cx}{Ξ:iQ}{P:eZ}{x qual:Str}{pos px:Pos}{c:j6}{i n:Nat}{e o b:Expr}{es args:@&Expr}{env:Env}{p:Pr}{f:Addr}{m:ME}{sc scope:Scope}{r:CF}{cd:Value}{N:@&Str}{A:Around}{outer:@&Env}{s:Shared}{H:Hp}{E:XK}
section
variable(hP:j4 P)
include hP
def YL{C}{B newId gS}{bm}{np eY}{ke}{rest}{hZ}(hc:X.calm=true)(O:OwnCls x C bm newId X.mg X.base)(FB:ExcBaseFacts B newId gS bm)(hg:Gl X x)(ha:PA X (ke::rest) (LA X.K Ξ (fU P hZ)))(hr:Au X Ξ.2)(hx:x∈Ξ.1)(hC:w9 X.K x C)(he:starEach (ke::rest) X.env=(false,eval ke X.env)::starEach rest X.env)(fq:(backTo eY (starEach rest X.env)).any (·.1)=false)(hd:(x==("__debug__":Str))=false):PS X (.Raise (!.Call (.Name x np) (ke::rest) [] eY) none pos) (LS X.K Ξ (wpS P (.raise x hZ))) :=
 (Yf hc O FB hg ha hr he fq hd).imp λN cz H bu=>by
  let#[σ,g,ρ,s,R,h]:=bu;show jX hP s R (.refl _ _) h λds g1 cx H1 vs e1 R1 r1 h=>?_;show#[by rw[<- -r1];show J0 (aC h.1 ∅),h.2 cx H1 C e1 R1 hx hC]
abbrev BP(X:Cx)(ex:@&Str)(D:L2.Ends)(dn:L2.St)(hs:@&ExceptHandler):iQ:=(ex,λv x H=>∃C,v=.ref C/\ux X D dn C H hs)
inductive mT(X:Cx)(Ξ:iQ)(P:eZ):@&ExceptHandler->@&(Str×ME)->Prop
 |nil (hh:yh X Ξ.2):mT X Ξ P [] []
 |cons {y:Str} {C':Addr} {p p1 p2:Pos} {e:Expr} {me:ME} {hs:@&ExceptHandler} {ms:@&(Str×ME)} (hg:Gl X y) (hd:(y==("__debug__":Str))=false) (hm:X.mg y=!.ref C')
   (hx:∀x C,x∈Ξ.1->w9 X.K x C->PySem.W.exmOne X.K (.ref C) (.ref C')=!decide (x=y\/y="MintError")) (he:∀ea,PE (S1 X ea) e (LE X.K (pA Ξ.1) (aY P me))) (r:mT X Ξ P hs ms) :
   mT X Ξ P (.ExceptHandler (!.Name y p) none [.Return (!e) p1] p2::hs) ((y,me)::ms)
set_option tactic.hygienic true in
def Pd{N:L2.Ends}{ρ bX:@&Addr}{H H':Hp}{σ:S}{g:G}{x:Xn}{C:Addr}(hl:σ.length=-X.N)(e:Ext ρ H bX H')(R:Rl X.K bX g H')(hx:x.cls∈Ξ.1)(hC:w9 X.K x.cls C) :
  ∀{hs:@&ExceptHandler} {ms:@&(Str×ME)},mT X Ξ P hs ms->oJ P (LN X.K ρ H N) (σ.map λy=>none) (LX X.K ρ H Ξ) ms x g->ux X N (List.replicate (-X.N) none) C H' hs
 |_,_,.nil hh,q=>#[Ξ.2,hh,q bX H' C e R hx hC]
 |_,_,.cons (me:=me) hg hd hm SS he r,q=>by
  show#[hg,hd,_,_,hm,SS _ _ hx hC,?_];unfold oJ at q;split at q
  .rename_i ex;rw[aM (_/ex)];show#[LS X.K (pA Ξ.1) (wpS P (.seq (.ret me) .pass)),λea=>Oj (X:=S1 X ea) (Ξ:=pA Ξ.1) hP (Mo (X:=S1 X ea) hP (he ea)) (Mm (X:=S1 X ea) hP),?_];show#[σ.map λy=>none,g,bX,#[by simp[hl],λi d z=>?_],R,?_]
   .simp_all
   .refine c9 hP me _ _ _ _ _ _ (λd g1 h=>?_) (λy y z=>z.elim) q;show h.ext e
  .rename_i ex;rw[aI (_/ex)];show Pd hl e R hx hC r q
def bN1{h₀}{hs}{ms}{body}{mb}(oQ:X.sg=none)(hb:∀pi D,jC (sv X pi (Bx X pi D (h₀::hs))) body (LS X.K (BP X Ξ.1 D (List.replicate (-X.N) none) (h₀::hs)) (wpS P mb)))(hh:mT X Ξ P (h₀::hs) ms):PS X (.Try body (h₀::hs) [] [] pos) (LS X.K Ξ (wpS P (.qP mb ms))):=by
 intro pi s cz H N I ⟨σ,g,ρ,sr,R,h⟩;show bR0 (t:=λD y=>LS X.K (BP X Ξ.1 D (List.replicate (-X.N) none) (h₀::hs)) (wpS P mb)) (Ξ:=λD y=>(BP X Ξ.1 D (List.replicate (-X.N) none) (h₀::hs)).2) (λy=>none) (λy=>List.replicate (-X.N) none) (λy y z=>by cases z) oQ (λpi D y y=>hb pi D) pi s cz H N I #[(by rintro C H' ⟨C',e,z⟩;simp_all),?_];show#[σ,g,ρ,sr,R,wpS_mono hP mb _ _ _ _ _ _ #[λy y z=>z,λy y z=>z,λy y z=>z,λy y z=>z] (λx g1 q bX H' C e' R' hm hc=>#[C,rfl,?_]) h];show Pd (Ξ:=Ξ) hP (sr.len.trans I.len) e' R' hm hc hh q
end
structure j6 where
 N:@&Str
 nm:@&(Str×NameKind)
 nj:Bool
 fns:@&(Str×Nat)
 con:@&(Str×D)
 blt:@&Str
 exc:@&Str
 gd:@&(Str×@&D)
 cls:@&(Str×Nat)
 oN:@&(Str×Str×Nat)
 pb:@&(Str×Str)
 jY:Bool
 jG:Bool
 wr:Bool:=true
abbrev gM:Expr->Bool
 |.Set ..=>false
 |.Starred ..=>false
 |.Slice ..=>false
 |_=>true
abbrev F8:Expr->Bool
 |.ListComp ..=>false
 |.SetComp ..=>false
 |.DictComp ..=>false
 |_=>true
abbrev Lp:Expr->Bool
 |.Name ..=>false
 |_=>true
abbrev vp:Expr->Bool
 |.Tuple ..=>false
 |_=>true
abbrev Gz:Expr->Bool
 |.Name ..=>true
 |.Call ..=>true
 |.Subscript ..=>true
 |.Constant ..=>true
 |.Attribute ..=>true
 |.BinOp ..=>true
 |_=>false
abbrev vz:Expr->Bool
 |.Call (.Name ..) [] ..=>false
 |_=>true
abbrev j6.idx(c:j6)(x:Str):Option Nat:=c.N.findIdx? λy=>decide (y=x)
def j6.sJ(c:j6)(x:Str):Bool:=match c.nm.lookup x with
 |some .local=>true
 |some .cell=>true
 |some .free=>true
 |_=>false
def j6.gl(c:j6)(x:Str):Bool:=decide (c.nm.lookup x=!.globalImplicit)
def j6.B5(c:j6)(x:Str):Bool:=decide (c.nm.lookup x=!.local)||decide (c.nm.lookup x=!.cell)
def oz(x:Str):Bool:=(x==("__debug__":Str))==false&&(x==("__classdict__":Str))==false&&decide (x≠"__name__")
abbrev IH:@&(Str×String):=[("int","int"),("bool","bool"),("str","str"),("tuple","tuple"),("list","list")]
abbrev Hr:@&(Str×Pr):=[("len",.len),("list",.list),("tuple",.tuple),("isinstance",.isin),("all",.all),("int",.int),("dict",.iW),("sorted",.eA),("sum",.sum)]
abbrev yz:@&(Str×Pr):=[("clear",.clear),("pop",.sV)]
abbrev Hz:@&(Str×Pr):=[("append",.append),("pop",.pop),("add",.kM)]
abbrev yv:Expr->Option (Str×@&Expr)
 |.Call (.Name x _) args [] _=>!(x,args)
 |_=>none
abbrev Nj:Expr->Bool
 |.Tuple ..=>true
 |_=>false
abbrev asName:Expr->Option Str
 |.Name x _=>!x
 |_=>none
abbrev frees(sc:Scope):@&Str:=(sc.names.filter λy=>decide (y.2=.free)).map (·.1)
abbrev locals(sc:Scope):@&Str:=(sc.names.filter λy=>decide (y.2=.local)||decide (y.2=.cell)).map (·.1)
def j6.inner(c:j6)(sc:Scope):j6:={ c with N:=frees sc++locals sc,nm:=sc.names,nj:=false,jY:=false,jG:=false,wr:=true }
abbrev j6.d8(c:j6)(sc:Scope):@&Nat:=(frees sc).map λx=>(c.idx x).getD 0
abbrev j6.yG(c:j6)(sc:Scope):Bool :=
 decide (sc.kind=.function)&&sc.names.all (λy=>~~~decide (y.2=.cell)||decide (sc.names.lookup y.1=!.cell))&&sc.names.all (λy=>~~~decide (y.2=.local)||decide (sc.names.lookup y.1=!.local)) &&
 decide (frees sc++locals sc).Nodup&&(frees sc).all (λx=>(c.idx x).isSome&&decide (sc.names.lookup x=!.free)&&(decide (c.nm.lookup x=!.cell)||decide (c.nm.lookup x=!.free)))
abbrev j6.slot(c:j6)(e:Expr):Option Nat:=(asName e).bind λx=>if c.B5 x then c.idx x else none
abbrev j6.slots(c:j6):@&Expr->Option (@&Nat)
 |[]=>![]
 |e::r=>(c.slot e).bind λi=>(c.slots r).map λis=>i::is
abbrev j6.tg(c:j6)(e:Expr):Option MT:=((c.slot e).map .one).orElse λx=>match e with
 |.Tuple es _ _=>(c.slots es).map .many
 |_=>none
abbrev uy:Const->Option D
 |.int i=>!.int i
 |.bool b=>!.bl b
 |.none=>!.bq
 |.str x=>!.str x
 |_=>none
structure CF where
 e:j6->Expr->Option ME
 t:j6->Expr->Option ME
 s:j6->Stmt->Option MS
section
variable(r:CF)(c:j6)
abbrev c1(p:Pr)(a:Expr):Option ME:=(r.e c a).map λm=>.prim p (.cons m .nil)
abbrev c2(p:Pr)(a b:Expr):Option ME:=(r.e c a).bind λma=>(r.e c b).map λmb=>.prim p (.cons ma (.cons mb .nil))
abbrev Q8:@&Expr->Option ME
 |[]=>!.nil
 |e::es=>if gM e then(r.e c e).bind λm=>(Q8 es).map λms=>.cons m ms else none
abbrev Bl:@&(Option Expr)->@&Expr->Option ME
 |[],[]=>!.nil
 |some k::ks,v::vs=>(r.e c k).bind λmk=>(r.e c v).bind λmv=>(Bl ks vs).map λms=>.cons mk (.cons mv ms)
 |_,_=>none
abbrev Ir(op:BoolOp):@&Expr->Option ME
 |[]=>none
 |[a]=>r.e c a
 |a::b::rs=>(r.e c a).bind λma=>(Ir op (b::rs)).map λmb=>match op with
  |.And=>.dZ ma mb
  |.Or=>.iu ma mb
abbrev Iu(op:BoolOp):@&Expr->Option ME
 |[]=>none
 |[a]=>r.t c a
 |a::b::rs=>(r.t c a).bind λma=>(Iu op (b::rs)).map λmb=>match op with
  |.And=>.dZ ma mb
  |.Or=>.iu ma mb
abbrev LY:@&Expr->Option ME
 |[]=>!.no
 |[e]=>r.t c e
 |_=>none
abbrev A9:@&Stmt->Option MS
 |[]=>!.pass
 |s::rs=>(r.s c s).bind λm=>(A9 rs).map λms=>.seq m ms
abbrev IL(x:Str):Option ME :=
 if oz x then(if c.sJ x then(c.idx x).map .var else if c.gl x then((c.con.lookup x).map .lit).orElse λy=>if c.blt.contains x then(IH.lookup x).map λt=>.lit (.ty t) else none else none) else none
abbrev Cm(op:UnaryOp)(a:Expr):Option ME:=if op=.Not then(r.e c a).map .du else c1 r c (.un op) a
abbrev j6.MI(b:Expr):Option (@&D):=(asName b).bind λx=>if c.gl x&&oz x then c.gd.lookup x else none
abbrev yS(a:Expr)(ops:@&CmpOp)(bs:@&Expr):Option ME:=match ops,bs with
 |[op],[b]=>if behindInMarks op b then none else c2 r c (.cmp op) a b
 |[op,iU],[b,d]=>if lastMarks [op,iU] [b,d] then none else(r.e c a).bind λma=>(r.e c b).bind λmb=>(r.e c d).map λmd=>.chain op iU ma mb md
 |_,_=>none
abbrev Vo:Expr->Option (Option Expr×Option Expr×Option Expr)
 |.Slice lo hi st _=>!(lo,hi,st)
 |_=>none
abbrev Jl(a:Expr):Option Expr->Option Expr->Option Expr->Option ME
 |some b,none,none=>c2 r c (.nE true false) a b
 |none,!b,none=>c2 r c (.nE false true) a b
 |_,_,_=>none
abbrev Na(a b:Expr):Option ME:=((Vo b).bind λq=>Jl r c a q.1 q.2.1 q.2.2).orElse λx=>if gM b then((c.MI a).bind λkvs=>(r.e c b).map λmb=>.prim .om (.cons (.lit (.tup kvs)) (.cons mb .nil))).orElse λx=>c2 r c .ix a b else none
abbrev Jk(x:Str)(e:Expr):Option ME:=(yv e).bind λq =>
 if x="list" && q.1="range" && c.blt.contains "list" && c.blt.contains "range" && c.gl "range" then (match q.2 with
  |[a]=>if gM a then c1 r c .nK a else none
  |[a,b]=>if gM a&&gM b then c2 r c .nJ a b else none
  | _=>none)
 else if x="sorted" && q.1="set" && c.blt.contains "sorted" && c.blt.contains "set" && c.gl "set" then (match q.2 with
  |[a]=>if gM a then c1 r c .sset a else none
  | _=>none)
 else if x="len" && q.1="set" && c.blt.contains "len" && c.blt.contains "set" && c.gl "set" then (match q.2 with
  |[a]=>if gM a then c1 r c .oy a else none
  | _=>none)
 else none
abbrev b95(x:Str)(e:Expr):@&Expr->Option ME
 |[]=>Jk r c x e
 |_=>none
abbrev HQ(x:Str):Option ME:=if oz x&&c.gl x then((c.fns.lookup x).map λf=>.call f .nil).orElse λy=>(c.cls.lookup x).map λf=>.make x f .nil else none
abbrev HR(x:Str)(e:Expr)(es:@&Expr):Option ME:=if oz x&&c.gl x then(b95 r c x e es).orElse λy=>(Q8 r c (e::es)).bind λms=>((c.fns.lookup x).map λf=>.call f ms).orElse λy=>((c.cls.lookup x).map λf=>.make x f ms).orElse λy=>if c.blt.contains x then(Hr.lookup x).map λp=>.prim p ms else none else none
abbrev MA(x:Str):@&Expr->Option ME
 |[]=>HQ c x
 |e::es=>HR r c x e es
abbrev j6.meths(m:Str):@&(Str×Nat):=(c.oN.filter λy=>decide (y.1=m)).map (·.2)
abbrev HS(o:Expr)(m:Str)(apos pos:Pos)(args:@&Expr):Option ME :=
 if vz o && (apos.endLine == pos.line) && decide (-args < 20) then (r.e c o).bind λmo=>(Q8 r c args).bind λms=>if m="index" then (if args.isEmpty then none else !.dX .index mo ms) else if decide (m="pop") && Lp o && ~~~args.isEmpty then some (.dX .jx mo ms) else if args.isEmpty && (yz.lookup m).isSome then (yz.lookup m).map λp=>.dX p mo ms else (match Hz.lookup m with
  |some p=>if args.isEmpty then none else !.dX p mo ms
  | none=>!.bJ m (c.meths m) mo ms) else none
abbrev IJ(f:Expr)(args:@&Expr)(jI:@&Keyword)(pos:Pos):Option ME:=if jI.isEmpty then(match f with
 |.Name x _=>MA r c x args
 |.Attribute o m apos=>HS r c o m apos pos args
 | _=>none) else none
abbrev Bn(tg e:Expr):Option ME:=(((yv e).bind λq =>
  if q.1="enumerate" then (match q.2 with
   |[a]=>if c.gl "enumerate"&&c.blt.contains "enumerate"&&gM a&&Nj tg then(r.e c a).map .lF else none
   | _=>none)
  else if q.1="reversed" then (match q.2 with
   |[a]=>if c.gl "reversed"&&c.blt.contains "reversed"&&gM a then(r.e c a).map .oO else none
   | _=>none)
  else if q.1="range" then (match q.2 with
   |[a]=>if c.gl "range"&&c.blt.contains "range"&&gM a then(r.e c a).map .fo else none
   |[a,b]=>if c.gl "range"&&c.blt.contains "range"&&gM a&&gM b then(r.e c a).bind λma=>(r.e c b).map λmb=>.jJ ma mb else none
   | _=>none)
  else none):Option ME).orElse λx=>if gM e then (r.e c e).map .eQ else none
abbrev uE(elt:Expr)(gens:@&Comprehension)(sc:Scope):Option ME:=match gens with
 |[#[tg,it,ifs,rC]]=>if c.yG sc&&decide (rC=0)&&gM it then((c.inner sc).tg tg).bind λt=>(Bn r c tg it).bind λmi=>(LY r (c.inner sc) ifs).bind λmc=>(r.e (c.inner sc) elt).map λme=>.comp (c.d8 sc) (frees sc++locals sc).length t mi mc me else none
 |_=>none
abbrev MD:Expr->Option Str
 |.Name x _=>!x
 |_=>none
abbrev Vn:Expr->Option (Expr×@&Comprehension×Scope)
 |.SetComp elt gens sc _=>!(elt,gens,sc)
 |_=>none
abbrev b98:ME->Option ME
 |.comp a n t i k e=>!.ir a n t i k e
 |_=>none
abbrev Cn(f:Expr)(args:@&Expr)(jI:@&Keyword):Option ME:=match args with
 |[a]=>if jI.isEmpty&&decide (MD f=some "sorted")&&c.gl "sorted"&&c.blt.contains "sorted" then(Vn a).bind λq=>(uE r c q.1 q.2.1 q.2.2).bind b98 else none
 |_=>none
abbrev zz(f:Expr)(args:@&Expr)(jI:@&Keyword):Option ME:=(λ(_:j6)=>none) c
abbrev FK(es:@&Expr)(k:Nat):Option ME:=if c.nj&&decide (k=0) then(match es with
 |[.Constant (.int i) _ _]=>!.prim (.kL i) .nil
 | _=>none) else none
abbrev MC:Expr->Option (Expr×@&Expr×@&Keyword×Pos)
 |.Call f a k p=>!(f,a,k,p)
 |_=>none
abbrev Ni:Expr->Option (Expr×Str×Pos)
 |.Attribute o m p=>!(o,m,p)
 |_=>none
abbrev Vm:Expr->Option (Expr×@&CmpOp×@&Expr)
 |.Compare a ops bs _=>!(a,ops,bs)
 |_=>none
abbrev Fw:Expr->Option (@&Expr)
 |.Tuple es _ _=>!es
 |_=>none
def j6.qN(c:j6)(e:Expr)(i:Nat):Bool:=((MD e).map λx=>oz x&&c.sJ x&&decide (c.idx x=!i)).getD false
abbrev Jn(c:j6):@&Expr->Bool
 |[b]=>c.qN b 3
 |_=>false
abbrev Jm(c:j6):@&Expr->Bool
 |[e]=>((Vm e).map λq=>decide (q.2.1=[.NotIn])&&c.qN q.1 0&&Jn c q.2.2).getD false
 |_=>false
abbrev Cp(kx vx:Expr)(gens:@&Comprehension)(sc:Scope):Option ME:=match gens with
 |[#[tg,it,ifs,rC]]=>if c.yG sc&&decide (rC=0)&&decide ((frees sc++locals sc).length=4)&&(c.inner sc).qN kx 2&&(c.inner sc).qN vx 3&&Jm (c.inner sc) ifs then
   (MC it).bind λq=>(Ni q.1).bind λw=>if q.2.1.isEmpty&&q.2.2.1.isEmpty&&decide (w.2.1="items")&&vz w.1&&(w.2.2.endLine==q.2.2.2.line) then
    (Fw tg).bind λes=>if decide ((c.inner sc).slots es=![2,3]) then (match c.d8 sc with
     |[j]=>(r.e c w.1).map λmo=>.prim .oo (.cons mo (.cons (.var j) .nil))
     | _=>none) else none else none else none
 |_=>none
abbrev Lw:Expr->Option ME
 |.Name x _=>IL c x
 |.Constant k _ _=>(uy k).map .lit
 |.BinOp a op b _=>c2 r c (.bin op) a b
 |.UnaryOp op a _=>Cm r c op a
 |.Compare a ops bs _=>yS r c a ops bs
 |.BoolOp op vs _=>Ir r c op vs
 |.IfExp t a b _=>(r.t c t).bind λmt=>(r.e c a).bind λma=>(r.e c b).map λmb=>.ite mt ma mb
 |.Tuple es _ _=>(Q8 r c es).map (.prim .tup)
 |.List es _=>(Q8 r c es).map (.prim .lst)
 |.Subscript a b _=>Na r c a b
 |.Dict ks vs _=>if ks.isEmpty&&vs.isEmpty then some (.prim .nt .nil) else if decide (-ks<=15) then(Bl r c ks vs).map .oq else none
 |.Attribute o f _=>if vz o then c1 r c (.fld f) o else none
 |.Call f args jI pos=>(Cn r c f args jI).orElse λy=>(zz c f args jI).orElse λy=>IJ r c f args jI pos
 |.ListComp elt gens sc _=>uE r c elt gens sc
 |.Set es k _=>FK c es k
 |_=>none
abbrev stepT:Expr->Option ME
 |.UnaryOp op a _=>if op=.Not then(r.t c a).map .du else none
 |.BoolOp op vs _=>Iu r c op vs
 |.Compare a ops bs _=>(yS r c a ops bs).map .eP
 |e=>if Gz e then(r.e c e).map .eP else none
abbrev Nq:Expr->Option ME
 |.Constant k _ _=>(uy k).map .lit
 |_=>none
abbrev Ht:@&Expr->Option ME
 |[]=>!.nil
 |e::es=>(Nq e).bind λm=>(Ht es).map λms=>.cons m ms
abbrev Np:Expr->Option ME
 |.List es _=>(Ht es).map (.prim .lst)
 |.Constant k _ _=>(uy k).map .lit
 |_=>none
abbrev b90:@&Stmt->Option Expr
 | [s]=>(match s with
  |.Return e _=>e
  | _=>none)
 |_=>none
abbrev LU:ExceptHandler->Option (Str×Expr)
 |.ExceptHandler t n b _=>if n.isNone then t.bind λt=>(asName t).bind λy=>(b90 b).map λe=>(y,e) else none
abbrev Bm:@&ExceptHandler->Option (List (Str×ME))
 |[]=>![]
 |h::hs=>(LU h).bind λq=>if c.exc.contains q.1&&c.gl q.1&&oz q.1 then(Np q.2).bind λm=>(Bm hs).map λms=>(q.1,m)::ms else none
abbrev Qu(e f:Option Expr):Option (Str×Expr×@&Expr):=if f.isNone then e.bind λe=>(yv e).bind λq=>q.2.head?.map λa=>(q.1,a,q.2.tail) else none
abbrev j6.BK(f:Str):@&Str:=(c.pb.filter λy=>decide (y.1=f)).map (·.2)
abbrev Hq:@&Expr->Option (Expr×Expr×Expr×Expr)
 |_=>none
abbrev b94(e:Expr):Option ME:=match e with
 |.DictComp kx vx gens sc _=>Cp r c kx vx gens sc
 |e=>r.e c e
abbrev LV{α:Type}:List α->Option α
 |[x]=>!x
 |_=>none
abbrev Co(kx vx:Expr)(gens:@&Comprehension)(sc:Scope):Option ME:=match gens with
 |[#[tg,it,ifs,rC]]=>if c.yG sc&&decide (rC=0)&&decide ((frees sc++locals sc).length=3)&&(c.inner sc).qN kx 2&&(c.inner sc).qN vx 1&&ifs.isEmpty&&(c.d8 sc).isEmpty then
   (yv it).bind λq=>(LV q.2).bind λa=>(Fw tg).bind λes=>if decide (q.1="enumerate")&&c.gl "enumerate"&&c.blt.contains "enumerate"&&gM a&&decide ((c.inner sc).slots es=![1,2]) then(r.e c a).map λma=>.prim .mS (.cons ma .nil) else none else none
 |_=>none
abbrev Cq(e:Expr):Option ME:=match e with
 |.DictComp kx vx gens sc _=>Co r c kx vx gens sc
 |_=>none
abbrev MU(tg e:Expr):Option MS:=match tg with
 |.Name x _=>if c.B5 x then(c.idx x).bind λi=>((r.e c e).orElse λy=>Cq r c e).map λm=>.set i m else none
 |.Tuple es _ _=>(Hq es).elim (if vp e&&F8 e then(c.slots es).bind λis=>(r.e c e).map λm=>.nC (.many is) m else none) λq=>if F8 e&&gM q.2.1&&gM q.2.2.2 then(r.e c q.1).bind λm1=>(r.e c q.2.1).bind λn1=>(r.e c q.2.2.1).bind λm2=>(r.e c q.2.2.2).bind λn2=>(r.e c e).map λm=>.zD m1 n1 m2 n2 m else none
 |.Subscript o i _=>if gM i&&F8 e then(r.e c o).bind λmo=>(r.e c i).bind λmi=>(r.e c e).map λm=>.df mo mi m else none
 |.Attribute o f _=>(r.e c o).bind λmo=>(b94 r c e).map λm=>.fH f (c.BK f) mo m
 |_=>none
abbrev Nk:Operator->Option Pr
 |.Add=>!.iadd
 |.Sub=>!.nN
 |_=>none
abbrev toR(e:Expr)(m:ME):ME:=(λ(_:j6)=>m) c
abbrev Lx:Stmt->Option MS
 |.Expr e _=>if F8 e then(r.e c e).map .expr else none
 | .Assign Cu e _=>(match Cu with
  |[tg]=>MU r c tg e
  | _=>none)
 | .AugAssign tg op e _=>(match tg with
  |.Attribute o f _=>if decide (op=.Add) then(r.e c o).bind λmo=>(r.e c e).map λm=>.kY f (c.BK f) mo m else none
  |.Name x _=>if c.B5 x then(Nk op).bind λp=>(c.idx x).bind λi=>(r.e c e).map λm=>.kh i p m else none
  | _=>none)
 |.If t a b _=>(r.t c t).bind λmt=>(A9 r c a).bind λma=>(A9 r c b).map λmb=>.ifs mt ma mb
 |.For tg it body qx _=>if c.nj&&(qx.isEmpty&&gM it) then(c.tg tg).bind λt=>(Bn r c tg it).bind λmi=>(A9 r c body).map λmb=>.gL t mi mb else none
 |.While t body qx _=>if c.nj&&qx.isEmpty then(r.t c t).bind λmt=>(A9 r c body).map λmb=>.jW mt mb else none
 | .Return e _=>(match e with
  |some e=>(r.e c e).map λm=>.ret (toR c e m)
  | none=>!.sR)
 |.Pass _=>!.pass
 |.Raise e f _=>(Qu e f).bind λq=>if c.jY&&c.exc.contains q.1&&c.gl q.1&&oz q.1 then(Q8 r c (q.2.1::q.2.2)).map (.raise q.1) else none
 |.Try body hs el fi _=>if c.jG&&~~~hs.isEmpty&&el.isEmpty&&fi.isEmpty then(A9 r { c with jY:=false,jG:=false,wr:=true } body).bind λmb=>(Bm c hs).map λms=>.qP mb ms else none
 |_=>none
end
abbrev comp:Nat->CF
 |0=>#[λx x=>none,λx x=>none,λx x=>none]
 |n+1=>#[Lw (comp n),stepT (comp n),λc s=>(Lx (comp n) c s).orElse λx=>!.expr .no]
structure iA(X:Cx)(c:j6)(P:eZ)(Ξ:iQ):Prop where
 N:X.N=c.N
 nd:c.N.Nodup
 loc:∀x,c.nm.lookup x=!.local->X.env.scope.names.lookup x=!.local
 Ao:∀x,c.nm.lookup x=!.cell->X.env.scope.names.lookup x=!.cell
 ER:∀x,c.nm.lookup x=!.free->X.env.scope.names.lookup x=!.cell\/X.env.scope.names.lookup x=!.free
 KH:∀x,c.nm.lookup x=!.globalImplicit->X.env.scope.names.lookup x=!.globalImplicit
 cells:∀x,(c.nm.lookup x=!.cell\/c.nm.lookup x=!.free)->∃a,X.env.cells.lookup x=!a
 nj:∀x,c.nm.lookup x=!.cell->X.fn x=true
 calm:X.calm=true
 units:X.A.units+100<cLine
 own:c.nj=true->PassesOwn (model X.prog X.w) X.A X.env X.xe
 mono:j4 P
 con:∀x d,c.con.lookup x=!d->∃v u,X.mg x=!u/\RelV v u/\∀ρ H,f9 X.K ρ H d v
 blt:∀x,c.blt.contains x=true->X.mg x=none
 fns:∀x f,c.fns.lookup x=!f->∃k fa fd ps,pB X P Ξ.1 k f fa fd ps/\y9 k X.A/\X.mg x=!.ref fa/\PySem.W.keepIn X.K (.ref fa)=true
 cls:∀x f,c.cls.lookup x=!f->∃k C fa fd ps,pB X P Ξ.1 k f fa fd ps/\y9 (k+1) X.A/\X.mg x=!.ref C/\w9 X.K x C/\jE X.K C/\Mk X.K C fa
 oN:∀m y f C,(m,y,f)∈c.oN->w9 X.K y C->∃k fa fd ps,Meth X.K C m fa/\pB X P Ξ.1 k f fa fd ps/\y9 k X.A
 pb:∀f y C,(f,y)∈c.pb->w9 X.K y C->J6 X.K C f
 Ak:Ξ.1=c.exc
 pass:Passes (iz X.prog X.w) X Ξ.2
 jY:c.jY=true->Au X Ξ.2
 jG:c.jG=true->X.stack=X.env::X.outer/\X.env.frame=!X.env.locals/\yh X Ξ.2
 exc:∀x,c.exc.contains x=true->∃C,X.mg x=!.ref C/\w9 X.K x C/\∃B newId gS bm,OwnCls x C bm newId X.mg X.base/\ExcBaseFacts B newId gS bm
 EV:∀x y C C',c.exc.contains x=true->c.exc.contains y=true->w9 X.K x C->w9 X.K y C'->PySem.W.exmOne X.K (.ref C) (.ref C')=!decide (x=y\/y="MintError")
 EN:∀x kvs,c.gd.lookup x=!kvs->Nb X x kvs
 code:c.nj=true->PySem.W.kdsCode X.K X.env.code=true
 sgn:c.wr=true->X.sg=none
def bJ4(h:c.idx x=!i):c.N[i]?=!x:=by
 unfold j6.idx at h;rw[lj] at h;let#[h1,h2,_]:=h;rw[aj h1,aP h2]
set_option tactic.hygienic true in
def iA.LF(C:iA X c P Ξ)(h:c.sJ x=true):zb X.env.scope x:=by
 unfold j6.sJ at h;split at h
 .rename_i e;show .inl (C.loc x e)
 .rename_i e;show .inr (.inl (C.Ao x e))
 .rename_i e;rcases C.ER x e with z|z
  .exact .inr (.inl z)
  .exact .inr (.inr z)
 .cases h
def iA.E8(C:iA X c P Ξ)(h:c.gl x=true):Gl X x:=C.KH x (aP h)
def iA.B5(C:iA X c P Ξ){x}(h:c.B5 x=true):Loc X.env.scope x/\(X.fn x=true\/X.env.scope.names.lookup x=!.local):=by
 unfold j6.B5 at h;rw[fj] at h;rcases h with h|h
 .have:=C.loc x (aP h);show#[.inl this,.inr this]
 .exact#[.inr (C.Ao x (aP h)),.inl (C.nj x (aP h))]
def iA.qJ(C:iA X c P Ξ)(h:c.idx x=!i):X.N[i]?=!x:=by rw[C.N];show bJ4 h
def iA.pQ(C:iA X c P Ξ)(hw:c.wr=true):X.Nd:=#[by rw[C.N];show C.nd,C.sgn hw]
def GB(h:asName e=!x):∃p,e=.Name x p:=by
 cases e<;>first|(cases h;show#[_,rfl])|cases h
def OV(h:c.slot e=!i):∃x p,e=.Name x p/\c.B5 x=true/\c.idx x=!i:=by
 let#[x,hx,h2]:=ah.mp h;let#[p,rfl]:=GB hx;split at h2
 .exact#[x,p,rfl,by assumption,h2]
 .cases h2
def iA.slots(C:iA X c P Ξ):∀{es:@&Expr} {is:@&Nat},c.slots es=!is->gg X es is:=by
 intro es
 induction es with
 |nil=>intro is h;cases h;show .nil
 |cons e r ih =>
  intro is h;let#[i,hi,h]:=ah.mp h;let#[is',hs,rfl]:=aa.mp h;let#[x,p,rfl,hl,hx]:=OV hi;show .cons (C.qJ hx) (C.B5 hl).1 (C.B5 hl).2 (ih hs)
def orElse_some{α:Type}{a}{b:Unit->Option α}{m}(h:a.orElse b=!m):a=!m\/b Unit.unit=!m:=by
 cases a with
 |none=>show .inr h
 |some x=>show .inl h
def iA.MZ(C:iA X c P Ξ)(hw:c.wr=true){tg}{t}(h:c.tg tg=!t):PG X tg (LG X.K t):=by
 rcases orElse_some h with h|h
 .let#[i,hi,rfl]:=aa.mp h;let#[x,p,rfl,hl,hx]:=OV hi;show bO8 (C.pQ hw) (C.qJ hx) (C.B5 hl).1 (C.B5 hl).2
 .cases tg<;>first|(cases h;done)|skip
  let#[is,hs,rfl]:=aa.mp (show(c.slots _).map MT.many=some t from h);show Oi C.calm (C.pQ hw) (C.slots hs)
def p6(h:gM e=true):starEach (e::es) env=(false,eval e env)::starEach es env:=by
 cases e<;>first|rfl|cases h
def AO(h:gM e=true):∀x,foldedSetIterable e env x=pure x:=by
 intro x;cases e<;>first|rfl|cases h
def Mf(h:gM e=true):HW e:=by
 intro o i;cases e<;>first|rfl|cases h
def bH6{i}{tp}(h:gM i=true):∀v,assign (.Subscript o i tp) env v=(do
      let ov <- holding [v] (eval o env)
      let iv <- holding [v,ov] (eval i env)
      standAt tp
      holding [v,ov,iv] (setItem ov iv v)
      release [v,ov,iv] []):=by
  intro v;cases i<;>first|rfl|cases h
def Gx{t}(h:F8 e=true):swapsWith e t n env=pure false:=by
 cases e<;>first|rfl|cases h
def XJ{k}{p}(h:vp e=true):swappedStores [.Tuple es k p] e env=pure none:=by
 cases e<;>first|rfl|cases h
def ZW(h:Gz e=true):∀whole,isTrue e env whole=(do let v <- whole;standAt e.pos;holding [v] (truthy v)):=by
 intro w;cases e<;>first|rfl|cases h
set_option tactic.hygienic true in
def Z2{q}(h:yv e=!q):∃p pos,e=.Call (.Name q.1 p) q.2 [] pos:=by
 cases e<;>first|(cases h;done)|skip
 rename_i f as jI pos;cases f<;>first|(cases h;done)|skip
 cases jI<;>first|(cases h;done)|skip
 cases h;show#[_,_,rfl]
def bY8{f}{a}{k}{p}(h:MC e=!(f,a,k,p)):e=.Call f a k p:=by
 cases e<;>cases h
 rfl
def bK6{m}{p}(h:Ni e=!(o,m,p)):e=.Attribute o m p:=by
 cases e<;>cases h
 rfl
def LW(h:Fw e=!es):∃k p,e=.Tuple es k p:=by
 cases e with
 |Tuple Al k p=>cases h;show#[k,p,rfl]
 |_=>cases h
def YZ(h:Nj e=true):∃es k p,e=.Tuple es k p:=by
 cases e<;>first|show#[_,_,_,rfl]|cases h
set_option tactic.hygienic true in
def Xq{kvs}(h:c.MI b=!kvs):∃x p,b=.Name x p/\c.gl x=true/\oz x=true/\c.gd.lookup x=!kvs:=by
 let#[x,hx,h2]:=ah.mp h;let#[p,rfl]:=GB hx;split at h2
 .rename_i hc;rw[bj] at hc;show#[x,p,rfl,hc.1,hc.2,h2]
 .cases h2
set_option tactic.hygienic true in
def O0{f}(h:vz o=true):attributeBase o f env (eval o env)=eval o env:=by
 cases o<;>first|rfl|skip
 rename_i f as jI pos;cases f<;>first|rfl|skip
 cases as with
 |nil=>cases h
 |cons=>rfl
def Ic{env}:∀(names:@&(Str×NameKind)) (acc:@&(Str×Addr)),(∀y∈names,y.2=.free->∃a,env.cells.lookup y.1=!a)->(∀x a,acc.lookup x=!a->env.cells.lookup x=!a) ->
  ∃ cl,(forIn names acc λ(y:Str × NameKind) (cs:@&(Str × Addr))=>(match y with
   |(name,kind)=>if(kind==NameKind.free)=true then do
     let __do_lift <- cellOf env name
     pure (ForInStep.yield ((name,__do_lift)::cs))
    else pure (ForInStep.yield cs):Sem (ForInStep (List (Str × Addr)))))=pure cl/\(∀ x a,cl.lookup x=!a->env.cells.lookup x=!a)/\(∀ y ∈ names,y.2=.free->∃ a,cl.lookup y.1=!a)/\∀ x a,acc.lookup x=!a->∃ a',cl.lookup x=!a'
 |[],acc,_,h2=>#[acc,rfl,h2,λy hy=>absurd hy #[_],λx a h=>#[a,h]]
 |(n,k)::r,acc,h1,h2=>by
  rw[List.forIn_cons];by_cases hk:k=.free
  .subst hk;let#[a,ha]:=h1 (n,.free) #[_] rfl;let hc:cellOf env n=pure a:=by unfold cellOf;rw[ha]
   let ⟨cl,e,q1,q2,q3⟩:=Ic r ((n,a) :: acc) (λy hy=>h1 y (by simp [hy])) (λx b hb=>by
    rw[dM] at hb;cases hx:x==n with
    |true=>simp_all
    | false=>rw [hx] at hb;show h2 x b hb)
   show#[cl,?_,q1,λy hy hf=>?_,λx b hb=>?_]
   .simp only[beq_self_eq_true,if_true,hc];show e
   .rcases aJ.mp hy with z|z
    .subst z;show q3 n a #[_]
    .exact q2 y z hf
   .cases hx:x==n with
    |true=>show q3 x a (by rw[dM,hx])
    |false=>show q3 x b (by rw[dM,hx];show hb)
  .let hb:(k==NameKind.free)=false:=by simpa using hk
   let#[cl,e,q1,q2,q3]:=Ic r acc (λy hy=>h1 y (by simp[hy])) h2;show#[cl,?_,q1,λy hy hf=>?_,q3]
   .simp only[hb,Bool.false_eq_true,if_false];show e
   .rcases aJ.mp hy with z|z
    .simp_all
    .exact q2 y z hf
def ZP{P}{w}:Passes (iz P w) X (λx x x=>False):=λx x x x x x x h=>by
 let#[_,_,_,_,_,_,_,z]:=h;show z.elim
def Ob{env:Env}:∀{names:@&(Str×NameKind)} {x:Str},names.lookup x=!.globalImplicit ->
  (names.map λ(n,k)=>if(k==NameKind.free&&env.scope.kind==.function&&env.kindOf n==!.cell) then(n,NameKind.cell) else(n,k)).lookup x=!.globalImplicit
 |[],_,h=>by simp at h
 |(n,k)::r,x,h=>by
  let ih:=@Ob env r x;change List.lookup x ((if(k==NameKind.free&&env.scope.kind==.function&&env.kindOf n==!.cell)=true then(n,NameKind.cell) else(n,k))::_)=_;cases hx:x==n with
  |true =>
   simp only[List.lookup_cons,hx] at h;cases h;simp[List.lookup_cons,hx]
  |false =>
   simp only[List.lookup_cons,hx] at h;by_cases hc:(k==NameKind.free&&env.scope.kind==.function&&env.kindOf n==!.cell)=true
   .rw[aM hc];simp only[List.lookup_cons,hx];show ih h
   .rw[aI hc];simp only[List.lookup_cons,hx];show ih h
def iA.comp(C:iA X c P Ξ)(h:c.yG sc=true):∃cl,cF X sc (frees sc++locals sc) (c.d8 sc) cl/\∀pi A s H fp,iA (f7 X pi sc (frees sc++locals sc) cl A s H fp) (c.inner sc) P (pA Ξ.1):=by
 unfold j6.yG at h;simp only[Bool.and_eq_true,decide_eq_true_eq,List.all_eq_true] at h;let#[#[#[#[h1,h2],h3],h4],h5]:=h;let fr:∀x∈frees sc,(∃i,c.idx x=!i)/\sc.names.lookup x=!.free/\(c.nm.lookup x=!.cell\/c.nm.lookup x=!.free):=λx hx=>by
  have:=h5 x hx;rw[fc,fj] at this;simp only[decide_eq_true_eq] at this;show#[this.1.1,this.1.2,this.2]
 let ue:∀y∈sc.names,y.2=.free->∃a,X.env.cells.lookup y.1=!a:=λy hy hf=>by
  let hm:y.1∈frees sc:=ax.mpr #[y,ba.mpr #[hy,by simp[hf]],rfl];show C.cells y.1 (fr y.1 hm).2.2
 let#[cl,e,q1,q2,_]:=Ic sc.names [] ue (λx a h=>by simp at h);let h2:∀y∈sc.names,y.2=.cell->sc.names.lookup y.1=!.cell:=λy hy hl=>by
  have:=h2 y hy
  simp_all
 show#[cl,#[h1,h2,λy hy hl=>?_,?_,q1,λx hx=>q2 (x,.free) (aR hx) rfl,h4,λi j lV=>?_,?_],λpi A s H fp=>?_]
 .grind
 .simp only[closureFor];rw[e]
  rfl
 .unfold j6.d8 at lV;rw[ag] at lV;cases ex:(frees sc)[i]? with
  |none=>simp_all
  |some x =>
   rw[ex] at lV;let hx:=aE ex;let#[#[k,hk],hl,hc]:=fr x hx;let hj:k=j:=by
    have:=aO lV;dsimp only at this;rw[hk] at this;show this
   subst hj;show#[x,?_,C.qJ hk,hl,?_]
   .rw[aF (ak.mp ex).1];show ex
   .rcases hc with z|z
    .exact .inl (C.Ao x z)
    .exact C.ER x z
 .unfold j6.d8;simp
 .refine#[rfl,h4,λx hx=>lookup_relabel_local hx,λx hx=>?_,λx hx=>O4 hx,λx hx=>Ob hx,λx hx=>?_,λx w=>?_,rfl,C.units,(λw=>PassesOwn.never),C.mono,C.con,C.blt,C.fns,C.cls,C.oN,C.pb,C.Ak,ZP,(λz=>by cases z),(λz=>by cases z),C.exc,C.EV,C.EN,(λz=>by cases z),λw=>rfl]
  .exact V5 hx
  .rcases hx with hx|hx
   .exact Pn (.inl hx)
   .exact Pn (.inr (q2 (x,.free) (aR hx) rfl))
  .exact aG ‹_›
def T7(h:oz x=true):(x==("__debug__":Str))=false/\(x==("__classdict__":Str))=false/\x≠"__name__":=by
 unfold oz at h;simp only[Bool.and_eq_true,decide_eq_true_eq,beq_iff_eq] at h;show#[h.1.1,h.1.2,h.2]
def YU{t}(h:IH.lookup x=!t):bootBuiltins x=!.type t:=by
 let hm:=aR h;simp only[IH,List.mem_cons,List.mem_nil_iff,or_false] at hm;rcases hm with z|z|z|z|z<;>(cases z;first|show zr|show PyProof.Rows.boot_bool|show PyProof.Rows.boot_str|show uM|show vW|decide +kernel|rfl)
def Y'(hc:X.calm=true)(hu:X.A.units+100<cLine)(h:Hr.lookup x=!p):∃v,((∃id,v=.builtin id)\/∃T,v=.type T)/\bootBuiltins x=!v/\u3 X v (rN X.K p):=by
 let hm:=aR h;simp only[Hr,List.mem_cons,List.mem_nil_iff,or_false] at hm;rcases hm with z|z|z|z|z|z|z|z|z
 .cases z;show#[.builtin "len",.inl #[_,rfl],PySem.boot_len,bV7]
 .cases z;show#[.type "list",.inr #[_,rfl],by first|show vW|decide +kernel,bI3 hc]
 .cases z;show#[.type "tuple",.inr #[_,rfl],by first|show uM|decide +kernel,YQ]
 .cases z;show#[.builtin "isinstance",.inl #[_,rfl],by first|show PyProof.Rows.boot_isinstance|decide +kernel,bJ0]
 .cases z;show#[.builtin "all",.inl #[_,rfl],by first|show PyProof.Rows.boot_all|decide +kernel,bZ1 hc]
 .cases z;show#[.type "int",.inr #[_,rfl],by first|show zr|decide +kernel,bW7]
 .cases z;show#[.type "dict",.inr #[_,rfl],by first|show PyProof.Rows.boot_dict|decide +kernel,Xf hc]
 .cases z;show#[.builtin "sorted",.inl #[_,rfl],by first|show PyProof.Rows.boot_sorted|decide +kernel,YD hc]
 .cases z;show#[.builtin "sum",.inl #[_,rfl],by first|show PyProof.Rows.boot_sum|decide +kernel,bN4 hc]
def a66(h:yz.lookup x=!p):∃T id,PlainAttrs T/\Slot T x id/\typeOf (.builtin id)=pure (.type "method_descriptor")/\mj X id (rM X.K p) /\
  ∀{d:D} {v:V} {g:G} {ρ:@&Addr} {H:Hp},Rl X.K ρ g H->f9 X.K ρ H d v->lQ p d g->oK X.K T v H:=by
 let hm:=aR h;simp only[yz,List.mem_cons,List.mem_nil_iff,or_false] at hm;rcases hm with z|z
 .cases z;show#[_,_,fk,PySem.F.slot_list_clear,PySem.F.type_list_clear,WY,λR r h=>ty_list R r h]
 .cases z;show#[_,_,fk,zp,zo,bF8,λR r h=>ty_list R r h]
def ZH(hu:X.A.units+100<cLine)(h:Hz.lookup x=!p):∃T id,PlainAttrs T/\Slot T x id/\typeOf (.builtin id)=pure (.type "method_descriptor")/\mj X id (rM X.K p) /\
  ∀{d:D} {v:V} {g:G} {ρ:@&Addr} {H:Hp},Rl X.K ρ g H->f9 X.K ρ H d v->lQ p d g->oK X.K T v H:=by
 let hm:=aR h;simp only[Hz,List.mem_cons,List.mem_nil_iff,or_false] at hm;rcases hm with z|z|z
 .cases z;show#[_,_,fk,PySem.F.slot_list_append,PySem.F.type_list_append,YY,λR r h=>ty_list R r h]
 .cases z;show#[_,_,fk,zp,zo,Yd,λR r h=>ty_list R r h]
 .cases z;show#[_,_,PySem.F.plainAttrs_set,PySem.F.slot_set_add,PySem.F.type_set_add,bE7,λR r h=>ty_set R r h]
def OZ{pos}{env}:∀{es:@&Expr},(∀e∈es,gM e=true)->(backTo pos (starEach es env)).all (λx=>~~~x.1)=true
 |[],_=>rfl
 |e::es,h=>by
  rw[p6 (h e #[_])];let ih:=OZ (pos:=pos) (env:=env) (es:=es) λx hx=>h x (by simp[hx]);unfold backTo at ih ⊢;rw[bD,iq,ih]
  rfl
def V8{pos}{env}:∀{es:@&Expr},(∀e∈es,gM e=true)->(backTo pos (starEach es env)).any (·.1)=false
 |[],_=>rfl
 |e::es,h=>by
  rw[p6 (h e #[_])];let ih:=V8 (pos:=pos) (env:=env) (es:=es) λx hx=>h x (by simp[hx]);unfold backTo at ih ⊢;rw[bD,ik,ih]
  rfl
def FP:∀{es:@&Expr} {m:ME},Q8 r c es=!m->∀e∈es,gM e=true:=by
 intro es
 induction es with
 |nil=>intro m _ e he;simp_all
 |cons a es ih =>
  intro m h e he;unfold Q8 at h;split at h
  .let#[m1,h1,h]:=ah.mp h;let#[m2,h2,_]:=aa.mp h;rcases aJ.mp he with z|z
   .rw[z];assumption
   .exact ih h2 e z
  .cases h
structure sA(P:eZ)(r:CF):Prop where
 e:∀X c Ξ,iA X c P Ξ->∀e m,r.e c e=!m->PE X e (LE X.K Ξ (aY P m))
 t:∀X c Ξ,iA X c P Ξ->∀e m,r.t c e=!m->PT X e (LT X.K Ξ (et P m))
 s:∀X c Ξ,iA X c P Ξ->c.wr=true->∀st m,r.s c st=!m->PS X st (LS X.K Ξ (wpS P m))
section
variable(S:sA P r)(C:iA X c P Ξ){a:Expr}
include S C
def yk(h:c1 r c p a=!m):∃ma,PE X a (LE X.K Ξ (aY P ma))/\m=.prim p (.cons ma .nil):=by
 let#[ma,ha,rfl]:=aa.mp h;show#[ma,S.e X c Ξ C _ _ ha,rfl]
def vt(h:c2 r c p a b=!m):∃ma mb,PE X a (LE X.K Ξ (aY P ma))/\PE X b (LE X.K Ξ (aY P mb))/\m=.prim p (.cons ma (.cons mb .nil)):=by
 let#[ma,ha,h]:=ah.mp h;let#[mb,hb,rfl]:=aa.mp h;show#[ma,mb,S.e X c Ξ C _ _ ha,S.e X c Ξ C _ _ hb,rfl]
set_option tactic.hygienic true in
def wI:∀{es:@&Expr} {m:ME},Q8 r c es=!m->PA X es (LA X.K Ξ (fU P m)):=by
 intro es
 induction es with
 |nil=>intro m h;cases h;show P2 C.mono
 |cons a es ih =>
  intro m h;unfold Q8 at h;split at h
  .rename_i bR;let#[m1,h1,h]:=ah.mp h;let#[m2,h2,rfl]:=aa.mp h;show F4 C.mono (S.e X c Ξ C _ _ h1) (ih h2) (p6 bR)
  .cases h
def SA:∀{ks:@&(Option Expr)} {vs:@&Expr} {m:ME},Bl r c ks vs=!m->∃iT,nu X Ξ P ks vs m iT:=by
 intro ks
 induction ks with
 |nil=>intro vs m h;cases vs<;>first|(cases h;show#[_,.nil])|cases h
 |cons k ks ih =>
  intro vs m h;cases k<;>first|(cases h;done)|skip
  cases vs<;>first|(cases h;done)|skip
  let#[m1,h1,h]:=ah.mp h;let#[m2,h2,h]:=ah.mp h;let#[m3,h3,rfl]:=aa.mp h;let#[iT,D]:=ih h3;show#[_,.cons (S.e X c Ξ C _ _ h1) (S.e X c Ξ C _ _ h2) D]
def SD{op}:∀{vs:@&Expr} {m:ME},Ir r c op vs=!m->PE X (.BoolOp op vs pos) (LE X.K Ξ (aY P m)):=by
 intro vs
 induction vs with
 |nil=>intro m h;cases h
 |cons a vs ih =>
  intro m h;cases vs with
  |nil=>show bS0 (S.e X c Ξ C _ _ h)
  |cons b vs =>
   let#[m1,h1,h]:=ah.mp h;let#[m2,h2,rfl]:=aa.mp h;cases op
   .exact bP8 C.mono (S.e X c Ξ C _ _ h1) (ih h2)
   .exact b19 C.mono (S.e X c Ξ C _ _ h1) (ih h2)
def Sw{op}:∀{vs:@&Expr} {m:ME},Iu r c op vs=!m->PW X (.BoolOp op vs pos) (LT X.K Ξ (et P m)):=by
 intro vs
 induction vs with
 |nil=>intro m h;cases h
 |cons a vs ih =>
  intro m h;cases vs with
  |nil =>
   cases op
   .exact bF1 (S.t X c Ξ C _ _ h)
   .exact bQ7 (S.t X c Ξ C _ _ h)
  |cons b vs =>
   let#[m1,h1,h]:=ah.mp h;let#[m2,h2,rfl]:=aa.mp h;cases op
   .exact bN3 C.mono (S.t X c Ξ C _ _ h1) (ih h2)
   .exact b16 C.mono (S.t X c Ξ C _ _ h1) (ih h2)
def VZ(h:LY r c es=!m):jP X es (LT X.K Ξ (et P m)):=by
 rcases es with _|⟨e,_|⟨_,_⟩⟩
 .cases h;show bC8 C.mono
 .exact Rb (S.t X c Ξ C _ _ h)
 .cases h
def vN(hw:c.wr=true):∀{Jt:@&Stmt} {m:MS},A9 r c Jt=!m->jC X Jt (LS X.K Ξ (wpS P m)):=by
 intro es
 induction es with
 |nil=>intro m h;cases h;show Mm C.mono
 |cons a es ih =>
  intro m h;let#[m1,h1,h]:=ah.mp h;let#[m2,h2,rfl]:=aa.mp h;show Oj C.mono (S.s X c Ξ C hw _ _ h1) (ih h2)
end
def NL{t}(h:F8 e=true):swapsWithSole [t] e n env=pure false:=by
 show Gx h
def iA.qP(C:iA X c P Ξ)(hw:c.wr=true)(fI:X.stack=X.env::X.outer)(hf:X.env.frame=!X.env.locals)(pi:@&(Addr×Obj))(D:L2.Ends)(hs:@&ExceptHandler){o}{dn}{w}(CY:∀σ:L2.St,σ.length=-X.N->(∀τ,o=!τ->σ=τ)->-dn=σ.length/\∀(i:Nat) v,dn[i]?=!!v->σ[i]?=!!v)(ho:w=true->o=none) :
  iA (sv X pi (Bx X pi D hs) o) { c with jY:=false,jG:=false,wr:=w } P (BP X Ξ.1 D dn hs) :=
 #[C.N,C.nd,C.loc,C.Ao,C.ER,C.KH,C.cells,C.nj,C.calm,C.units,(λx=>PassesOwn.looking),C.mono,C.con,C.blt,C.fns,C.cls,C.oN,C.pb,C.Ak,XQ (C.sgn hw) fI hf CY (by rintro C H' ⟨C',e,z⟩;show (by simp_all)),(λz=>by cases z),(λz=>by cases z),C.exc,C.EV,C.EN,C.code,ho]
def PN{m}{apos}(hb:vz o=true)(hl:(apos.endLine==pos.line)=true)(hf:methodCallForm (-args) (backTo pos (starEach args env)) (backToKw pos (keywordEach [] env))=true) :
  eval (.Call (.Attribute o m apos) args [] pos) env=(do
   let ov <- eval o env
   standAt apos.atName
   let (f,first) <- holding [ov] (getMethod ov m (do return (<- importBound o env).getD true))
   callWith pos f first (backTo pos (starEach args env)) (backToKw pos (keywordEach [] env))):=by
 let h1:eval (.Call (.Attribute o m apos) args [] pos) env=(do
   let ov <- attributeBase o m env (eval o env)
   standAt apos.atName
   methodCall o m apos pos env ov (-args + 0) (backTo pos (starEach args env)) (backToKw pos (keywordEach [] env))):=rfl
 rw[h1,O0 hb];let h2:∀ ov,methodCall o m apos pos env ov (-args + 0) (backTo pos (starEach args env)) (backToKw pos (keywordEach [] env))=(do
   let (f,first) <- holding [ov] (getMethod ov m (do return (<- importBound o env).getD true))
   callWith pos f first (backTo pos (starEach args env)) (backToKw pos (keywordEach [] env))):=λov=>by
  unfold methodCall calleeOf methodCallPos
  simp_all
 simp only[h2]
section
variable(S:sA P r)(C:iA X c P Ξ){a d:Expr}
include C
set_option tactic.hygienic true in
def bU7(h:IL c x=!m):PE X (.Name x pos) (LE X.K Ξ (aY P m)):=by
 unfold IL at h;split at h
 .rename_i iB;let#[d1,d2,d3]:=T7 iB;split at h
  .rename_i hv;let#[i,hi,rfl]:=aa.mp h;show bP1 (C.qJ hi) (C.LF hv) d1 d2
  .split at h
   .rename_i hg;rcases orElse_some h with h|h
    .let#[d,hd,rfl]:=aa.mp h;let#[v,u,hm,r,rr]:=C.con x d hd;show vC (QT (C.E8 hg) hm r d1) rr
    .split at h
     .rename_i hb;let#[t,ht,rfl]:=aa.mp h;show vC (v:=.ty t) (bG6 (C.E8 hg) (C.blt x hb) (YU ht) rfl d3 d1) λy y=>.ty t
     .cases h
   .cases h
 .cases h
omit C in
def CL{k}{j}{d}(h:uy k=!d):PE X (.Constant k j pos) (LE X.K Ξ (aY P (.lit d))):=by
 cases k<;>first|(cases h;done)|skip
 .cases h;show vC bS2 λx x=>.bq
 .cases h;show vC b34 λx x=>.bl _
 .cases h;show vC bS4 λx x=>.int _
 .cases h;show vC bR9 λx x=>.str _
include S
set_option tactic.hygienic true in
def V'{op}(h:Cm r c op a=!m):PE X (.UnaryOp op a pos) (LE X.K Ξ (aY P m)):=by
 unfold Cm at h;split at h
 .rename_i ho;subst ho;let#[ma,ha,rfl]:=aa.mp h;show bP3 C.mono (S.e X c Ξ C _ _ ha)
 .let#[ma,ha,rfl]:=yk S C h;show b18 C.mono ha
set_option tactic.hygienic true in
def Ln{ops}{bs}(h:yS r c a ops bs=!m):PE X (.Compare a ops bs pos) (LE X.K Ξ (aY P m))/\PT X (.Compare a ops bs pos) (LT X.K Ξ (et P (.eP m))):=by
 unfold yS at h;split at h
 .rename_i op b;split at h
  .cases h
  .rename_i hm;let hm:behindInMarks op b=false:=by simpa using hm
   let#[ma,mb,ha,hb,rfl]:=vt S C h;show#[HF C.mono (bG4 (vA C.units op) ha hb hm),bN6 C.mono (QZ (vA C.units op) ha hb hm)]
 .split at h
  .cases h
  .rename_i hm;let#[ma,ha,h]:=ah.mp h;let#[mb,hb,h]:=ah.mp h;let#[md,hd,rfl]:=aa.mp h;show#[Yr C.mono C.units (S.e X c Ξ C _ _ ha) (S.e X c Ξ C _ _ hb) (S.e X c Ξ C _ _ hd) (_/hm),YG C.mono C.units (S.e X c Ξ C _ _ ha) (S.e X c Ξ C _ _ hb) (S.e X c Ξ C _ _ hd) (_/hm)]
 .cases h
def VX{lo hi st}{p2}(h:Jl r c a lo hi st=!m):PE X (.Subscript a (.Slice lo hi st p2) pos) (LE X.K Ξ (aY P m)):=by
 cases lo<;>cases hi<;>cases st<;>first|(cases h;done)|skip
 .let#[ma,mb,ha,hb,rfl]:=vt S C h;show Yz C.mono ha hb
 .let#[ma,mb,ha,hb,rfl]:=vt S C h;show YA C.mono ha hb
set_option tactic.hygienic true in
def b44(h:Na r c a b=!m):PE X (.Subscript a b pos) (LE X.K Ξ (aY P m)):=by
 rcases orElse_some h with h|h
 .let#[q,hq,h]:=ah.mp h;let eb:∃p,b=.Slice q.1 q.2.1 q.2.2 p:=by cases b<;>first|(cases hq;show#[_,rfl])|cases hq
  let#[p,rfl]:=eb;show VX S C h
 .split at h
  .rename_i hb;rcases orElse_some h with h|h
   .let#[kvs,hk,h]:=ah.mp h;let#[mb,jO,rfl]:=aa.mp h;let#[x,p,rfl,hg,hd,hk]:=Xq hk;show bE3 C.mono (C.E8 hg) (T7 hd).1 (C.EN x kvs hk) (S.e X c Ξ C _ _ jO) (Mf hb)
   .let#[ma,mb,ha,jO,rfl]:=vt S C h;show HF C.mono (Lq (b57 C.units) ha jO (Mf hb))
  .cases h
set_option tactic.hygienic true in
def VY(hg:c.gl x=true)(h:Jk r c x e=!m):PE X (.Call (.Name x px) [e] [] pos) (LE X.K Ξ (aY P m)):=by
 let#[q,hq,h']:=ah.mp h;clear h;let h:=h';clear h';let#[p,pos',rfl]:=Z2 hq;let#[y,as]:=q;dsimp only at h ⊢;split at h
 .rename_i hc;simp only[Bool.and_eq_true,decide_eq_true_eq] at hc;let#[#[#[#[rfl,rfl],hl],hr],va]:=hc;rcases as with _|⟨a,_|⟨b,_|⟨_,_⟩⟩⟩
  .cases h
  .dsimp only at h;split at h
   .rename_i ho;let#[ma,ha,rfl]:=yk S C h;show Yt C.mono C.calm ha (C.E8 hg) (C.blt _ hl) (C.E8 va) (C.blt _ hr) (p6 ho)
   .cases h
  .dsimp only at h;split at h
   .rename_i ho;rw[bj] at ho;let#[ma,mb,ha,hb,rfl]:=vt S C h;show Yu C.mono C.calm ha hb (C.E8 hg) (C.blt _ hl) (C.E8 va) (C.blt _ hr) (by rw[p6 ho.1,p6 ho.2];rfl) (p6 ho.2)
   .cases h
  .cases h
 .split at h
  .rename_i hc;simp only[Bool.and_eq_true,decide_eq_true_eq] at hc;let#[#[#[#[rfl,rfl],hl],hr],va]:=hc;rcases as with _|⟨a,_|⟨_,_⟩⟩
   .cases h
   .dsimp only at h;split at h
    .rename_i ho;let#[ma,ha,rfl]:=yk S C h;show bD9 C.mono C.calm ha (C.E8 hg) (C.blt _ hl) (C.E8 va) (C.blt _ hr) (p6 ho)
    .cases h
   .cases h
  .split at h
   .rename_i hc;simp only[Bool.and_eq_true,decide_eq_true_eq] at hc;let#[#[#[#[rfl,rfl],hl],hr],va]:=hc;rcases as with _|⟨a,_|⟨_,_⟩⟩
    .cases h
    .dsimp only at h;split at h
     .rename_i ho;let#[ma,ha,rfl]:=yk S C h;show bE2 C.mono C.calm ha (C.E8 hg) (C.blt _ hl) (C.E8 va) (C.blt _ hr) (p6 ho)
     .cases h
    .cases h
   .cases h
set_option tactic.hygienic true in
def bH8(h:MA r c x args=!m):PE X (.Call (.Name x px) args [] pos) (LE X.K Ξ (aY P m)):=by
 cases args with
 |nil =>
  let h2:HQ c x=!m:=h;unfold HQ at h2;split at h2
  .rename_i iB;rw[bj] at iB;rcases orElse_some h2 with h2|h2
   .let#[f,hf,rfl]:=aa.mp h2;let#[k,fa,fd,ps,F,hr,hm,hk]:=C.fns x f hf;show Yq C.mono C.pass F hr (C.E8 iB.2) hm hk (T7 iB.1).1
   let#[f,hf,rfl]:=aa.mp h2;let#[k,C',fa,fd,ps,F,hr,hm,hC,jo,M]:=C.cls x f hf;show Yv C.mono C.pass F M hC jo hr (C.E8 iB.2) hm (T7 iB.1).1
  .cases h2
 |cons e es =>
  let h0:HR r c x e es=!m:=h;clear h;let h:=h0;clear h0;unfold HR at h;split at h
  .rename_i iB;rw[bj] at iB;let#[d1,d2,d3]:=T7 iB.1;rcases orElse_some h with h|h
   .cases es with
    |nil=>show VY S C iB.2 h
    |cons _ _=>cases h
   .let#[ms,tJ,h]:=ah.mp h;let ok:=FP tJ;let pa:=wI S C tJ;let fI:=p6 (env:=X.env) (es:=es) (ok e #[_]);let gK:=V8 (pos:=pos) (env:=X.env) (es:=es) λz hz=>ok z (by simp[hz]);rcases orElse_some h with h|h
    .let#[f,hf,rfl]:=aa.mp h;let#[k,fa,fd,ps,F,hr,hm,hk]:=C.fns x f hf;show bE6 C.mono C.pass F hr (C.E8 iB.2) hm hk pa d1 fI gK
    .rcases orElse_some h with h|h
     .let#[f,hf,rfl]:=aa.mp h;let#[k,C',fa,fd,ps,F,hr,hm,hC,jo,M]:=C.cls x f hf;show bE1 C.mono C.pass F M hC jo hr (C.E8 iB.2) hm pa d1 fI gK
     .split at h
      .rename_i hb;let#[p,hp,rfl]:=aa.mp h;let#[v,hv,DF,hc]:=Y' C.calm C.units hp;show bP7 C.mono hv hc (C.E8 iB.2) (C.blt x hb) DF pa d3 d1 fI gK
      .cases h
  .cases h
omit S in
def OI{m}:HV X P Ξ.1 m (c.meths m):=λy f C' h hC=>by
 let hm:=aR h;unfold j6.meths at hm;let#[#[m',y',f'],h1,h2]:=ax.mp hm;let#[h3,h4]:=ba.mp h1;cases h2;have:m'=m:=by simpa using h4
 subst this;show C.oN m' y f C' h3 hC
set_option tactic.hygienic true in
def bH9{mt}{apos}(h:HS r c o mt apos pos args=!m):PE X (.Call (.Attribute o mt apos) args [] pos) (LE X.K Ξ (aY P m)):=by
 unfold HS at h;split at h
 .rename_i hc;simp only[Bool.and_eq_true,decide_eq_true_eq] at hc;let#[#[hb,hl],hn]:=hc;let#[mo,ho,h]:=ah.mp h;let#[ms,tJ,h]:=ah.mp h;let ok:=FP tJ;let pa:=wI S C tJ;let po:=S.e X c Ξ C _ _ ho;let hf:methodCallForm (-args) (backTo pos (starEach args X.env)) (backToKw pos (keywordEach [] X.env))=true:=by
   unfold methodCallForm;rw[OZ ok];have:-args+0<30:=by omega
   show(true&&true&&decide (-args+0<30))=true;rw[aG this]
   rfl
  by_cases oU:mt="index"
  .subst oU;rw[aM rfl] at h;cases args with
   |nil=>cases h
   |cons e es =>
    cases h;show Ys C.mono C.units po pa (O0 hb) hf hl (p6 (ok e #[_])) (V8 λz hz=>ok z (by simp[hz]))
  rw[aI oU] at h;by_cases zT:(decide (mt="pop")&&Lp o&&~~~args.isEmpty)=true
  .rw[aM zT] at h;obtain rfl:=aO h;simp only[Bool.and_eq_true,decide_eq_true_eq] at zT;let#[#[rfl,_],fE]:=zT;cases args with
   |nil=>cases fE
   |cons e es =>
    show Og C.mono uL zq PySem.F.type_dict_pop bJ9 (λR r h=>ty_dict R r h) po pa (O0 hb) hf hl (p6 (ok e #[_])) (V8 λz hz=>ok z (by simp[hz]))
  rw[aI zT] at h;cases args with
  |nil =>
   cases tJ;by_cases h0:(yz.lookup mt).isSome=true
   .rw[aM (by rw[h0];rfl)] at h;let#[p,hp,rfl]:=aa.mp h;let#[T,id,CH,sl,ty,CM,hk]:=a66 hp;show Yw C.mono CH sl ty CM hk po (O0 hb) hl
   rw[aI (by rw[bj];show λz=>h0 z.2)] at h;split at h
   .cases h
   .cases h;show bc8 C.mono C.pass (OI C) po (PN hb hl hf)
  |cons e es =>
   let fI:=p6 (env:=X.env) (es:=es) (ok e #[_]);let gK:=V8 (pos:=pos) (env:=X.env) (es:=es) λz hz=>ok z (by simp[hz]);rw[aI #[_]] at h;split at h
   .rename_i p hp;cases h;let#[T,id,CH,sl,ty,CM,hk]:=ZH C.units hp;show Og C.mono CH sl ty CM hk po pa (O0 hb) hf hl fI gK
   .cases h;show Yx C.mono C.pass (OI C) po pa fI gK (PN hb hl hf)
 .cases h
set_option tactic.hygienic true in
def JJ{tg}(h:Bn r c tg e=!m):PI X tg e (LI X.K Ξ (gR P m)):=by
 rcases orElse_some h with h|h
 .let#[q,hq,h']:=ah.mp h;rename_i h0;clear h h0;let h:=h';clear h';let#[p,pos',rfl]:=Z2 hq;let#[y,as]:=q;dsimp only at h ⊢;split at h
  .rename_i hy;subst hy;rcases as with _|⟨a,_|⟨_,_⟩⟩
   .cases h
   .dsimp only at h;split at h
    .rename_i hc;simp only[Bool.and_eq_true] at hc;let#[#[#[hg,hb],ho],ht]:=hc;let#[ma,ha,rfl]:=aa.mp h;let#[es,k,tp,rfl]:=YZ ht;show bD5 C.mono (S.e X c Ξ C _ _ ha) (C.E8 hg) (C.blt _ hb) (p6 ho)
    .cases h
   .cases h
  .split at h
   .rename_i hy;subst hy;rcases as with _|⟨a,_|⟨_,_⟩⟩
    .cases h
    .dsimp only at h;split at h
     .rename_i hc;simp only[Bool.and_eq_true] at hc;let#[#[hg,hb],ho]:=hc;let#[ma,ha,rfl]:=aa.mp h;show bO7 C.mono (S.e X c Ξ C _ _ ha) (C.E8 hg) (C.blt _ hb) (p6 ho)
     .cases h
    .cases h
   split at h
   .rename_i hy;subst hy;rcases as with _|⟨a,_|⟨b,_|⟨_,_⟩⟩⟩
    .cases h
    .dsimp only at h;split at h
     .rename_i hc;simp only[Bool.and_eq_true] at hc;let#[#[hg,hb],ho]:=hc;let#[ma,ha,rfl]:=aa.mp h;show bD4 C.mono (S.e X c Ξ C _ _ ha) (C.E8 hg) (C.blt _ hb) (p6 ho)
     .cases h
    .dsimp only at h;split at h
     .rename_i hc;simp only[Bool.and_eq_true] at hc;let#[#[#[hg,hb],ho],kA]:=hc;let#[ma,ha,h]:=ah.mp h;let#[mb,jO,rfl]:=aa.mp h;show bD3 C.mono (S.e X c Ξ C _ _ ha) (S.e X c Ξ C _ _ jO) (C.E8 hg) (C.blt _ hb) (by rw[p6 ho,p6 kA];rfl) (p6 kA)
     .cases h
    .cases h
   .cases h
 .split at h
  .let#[ma,ha,rfl]:=aa.mp h;show bO6 C.mono (S.e X c Ξ C _ _ ha)
  .cases h
omit S in
set_option tactic.hygienic true in
def vO(h:c.qN e i=true):∃x p,e=.Name x p/\PE X e (pz i):=by
 unfold j6.qN at h;cases e<;>first|(cases h;done)|skip
 rename_i x p;let h:(oz x&&c.sJ x&&decide (c.idx x=!i))=true:=h;simp only[Bool.and_eq_true,decide_eq_true_eq] at h;let#[#[h1,h2],h3]:=h;let#[d1,d2,_]:=T7 h1;show#[x,p,rfl,Mh (C.qJ h3) (C.LF h2) d1 d2]
omit S in
set_option tactic.hygienic true in
def VU{ifs}(h:Jm c ifs=true):jP X ifs (ye (rm (CA X.K true) (pz 0) (pz 3))):=by
 rcases ifs with _|⟨e,_|⟨_,_⟩⟩
 .cases h
 .cases e<;>first|(cases h;done)|skip
  rename_i a ops bs p;let h:(decide (ops=[.NotIn])&&c.qN a 0&&Jn c bs)=true:=h;simp only[Bool.and_eq_true,decide_eq_true_eq] at h;let#[#[rfl,h1],h2]:=h;rcases bs with _|⟨b,_|⟨_,_⟩⟩<;>first|(cases h2;done)|skip
  let h2:=h2;let#[_,_,rfl,p1]:=vO C h1;let#[_,_,rfl,p2]:=vO C h2;show Rb (QZ aS0 p1 p2 rfl)
 .cases h
set_option tactic.hygienic true in
def VS{kx vx}{gens}(h:Cp r c kx vx gens sc=!m):PE X (.DictComp kx vx gens sc pos) (LE X.K Ξ (aY P m)):=by
 unfold Cp at h;rcases gens with _|⟨⟨tg,it,ifs,rC⟩,_|⟨_,_⟩⟩
 .cases h
 .dsimp only at h;split at h
  .rename_i hs;simp only[Bool.and_eq_true,decide_eq_true_eq] at hs;let#[#[#[#[#[hs,rfl],h3],hk],hv],ht]:=hs;let#[q,hq,h]:=ah.mp h;let#[w,hw,h]:=ah.mp h;split at h
   .rename_i hx;simp only[Bool.and_eq_true,decide_eq_true_eq] at hx;let#[#[#[#[x1,x2],x3],x4],x5]:=hx;let#[es,he,h]:=ah.mp h;split at h
    .rename_i kz;let kz:=aP kz;split at h
     .rename_i j hj;let#[mo,Kb,rfl]:=aa.mp h;let#[cl,Sc,I]:=C.comp hs;rw[hj] at Sc;let#[f,as,ks,ip]:=q;obtain rfl:=bY8 hq;let#[o,mm,ap]:=w;obtain rfl:=bK6 hw;let#[kk,tp,rfl]:=LW he;dsimp only at x1 x2 x3 x4 x5 Kb;obtain rfl:=eN.mp x1;obtain rfl:=eN.mp x2;subst x3;show bE5 C.mono Sc h3 C.calm (S.e X c Ξ C _ _ Kb) (O0 x4) x5 (λpi A s H fp=>HD (I pi A s H fp).calm (Gy ((I pi A s H fp).pQ rfl) ((I pi A s H fp).slots kz)) (P1 ((I pi A s H fp).slots kz)).1 (P1 ((I pi A s H fp).slots kz)).2) (λpi A s H fp=>VU (I pi A s H fp) ht)
       (λpi A s H fp=>let ⟨_,_,_,z⟩:=vO (I pi A s H fp) hk;z) (λpi A s H fp=>let ⟨_,_,_,z⟩:=vO (I pi A s H fp) hv;z)
     .cases h
    .cases h
   .cases h
  .cases h
 .cases h
set_option tactic.hygienic true in
def Ij{elt}{gens}(h:uE r c elt gens sc=!m):∃tg it ifs t mi mc me cl,gens=[#[tg,it,ifs,0]]/\m=.comp (c.d8 sc) (frees sc++locals sc).length t mi mc me/\gM it=true /\
  cF X sc (frees sc++locals sc) (c.d8 sc) cl/\PI X tg it (LI X.K Ξ (gR P mi))/\(∀pi A s H fp,PG (f7 X pi sc (frees sc++locals sc) cl A s H fp) tg (LG X.K t)) /\
   (∀pi A s H fp,jP (f7 X pi sc (frees sc++locals sc) cl A s H fp) ifs (LT X.K (pA Ξ.1) (et P mc)))/\(∀pi A s H fp,PE (f7 X pi sc (frees sc++locals sc) cl A s H fp) elt (LE X.K (pA Ξ.1) (aY P me))):=by
 unfold uE at h;rcases gens with _|⟨⟨tg,it,ifs,rC⟩,_|⟨_,_⟩⟩
 .cases h
 .dsimp only at h;split at h
  .rename_i hs;simp only[Bool.and_eq_true,decide_eq_true_eq] at hs;let#[#[hs,rfl],hit]:=hs;let#[t,h1,h]:=ah.mp h;let#[mi,h2,h]:=ah.mp h;let#[mc,h3,h]:=ah.mp h;let#[me,h4,rfl]:=aa.mp h;let#[cl,Sc,I]:=C.comp hs;show#[tg,it,ifs,t,mi,mc,me,cl,rfl,rfl,hit,Sc,JJ S C h2,λpi A s H fp=>(I pi A s H fp).MZ rfl h1,λpi A s H fp=>VZ S (I pi A s H fp) h3,λpi A s H fp=>S.e _ _ _ (I pi A s H fp) elt me h4]
  .cases h
 .cases h
omit S in
def VW{f}{jI}(h:zz c f args jI=!m):PE X (.Call f args jI pos) (LE X.K Ξ (aY P m)):=by
 unfold zz at h;cases h
set_option tactic.hygienic true in
def Sz:∀e m,Lw r c e=!m->PE X e (LE X.K Ξ (aY P m)):=by
 intro e m h;cases e with
 |Name x p=>show bU7 C h
 |Constant k j p =>
  let#[d,hd,rfl]:=aa.mp (show(uy k).map ME.lit=some m from h);show CL hd
 |BinOp a op b p =>
  let#[ma,mb,ha,hb,rfl]:=vt S C h;show HF C.mono (b32 (bU1 op) ha hb)
 |UnaryOp op a p=>show V' S C h
 |Compare a ops bs p=>show(Ln S C h).1
 |BoolOp op vs p=>show SD S C h
 |IfExp t a b p =>
  let#[mt,ht,h]:=ah.mp h;let#[ma,ha,h]:=ah.mp h;let#[mb,hb,rfl]:=aa.mp h;show bP4 C.mono (S.t X c Ξ C _ _ ht) (S.e X c Ξ C _ _ ha) (S.e X c Ξ C _ _ hb)
 |Tuple es k p =>
  let#[ma,ha,rfl]:=aa.mp h;show bP2 C.mono (wI S C ha)
 |List es p =>
  let#[ma,ha,rfl]:=aa.mp h;show Ml C.mono (wI S C ha)
 |Subscript a b p=>show b44 S C h
 |Dict ks vs p =>
  let h2:(if ks.isEmpty&&vs.isEmpty then some (ME.prim .nt .nil) else if decide (-ks<=15) then(Bl r c ks vs).map .oq else none)=!m:=h;split at h2
  .rename_i hc;cases ks<;>cases vs<;>first|(cases hc;done)|skip
   cases h2;show bE4
  .rename_i hc;split at h2
   .rename_i hl;let#[ms,hm,rfl]:=aa.mp h2;let#[iT,D]:=SA S C hm;show bP6 C.mono D (λz=>hc ?_) (aP hl);have:=D.len.2;subst z;cases vs<;>first|rfl|cases this
   .cases h2
 |Attribute o f p =>
  let h2:(if vz o then c1 r c (.fld f) o else none)=!m:=h;split at h2
  .rename_i hb;let#[ma,ha,rfl]:=yk S C h2;show bP5 C.mono ha (O0 hb)
  .cases h2
 |Call f args jI pos =>
  let h1:((Cn r c f args jI).orElse λy=>(zz c f args jI).orElse λy=>IJ r c f args jI pos)=!m:=h;rcases orElse_some h1 with h2|h2
  .unfold Cn at h2;rcases args with _|⟨a,_|⟨_,_⟩⟩
   .cases h2
   .dsimp only at h2;split at h2
    .rename_i hk;simp only[Bool.and_eq_true,decide_eq_true_eq] at hk;let#[#[#[hk,hf],nX],hb]:=hk;cases jI<;>first|(cases hk;done)|skip
     let#[q,hq,h3]:=ah.mp h2;let#[m1,h4,h5]:=ah.mp h3;cases f<;>first|(cases hf;done)|skip
     cases a<;>first|(cases hq;done)|skip
     cases hf;cases hq;let#[tg,it,ifs,t,mi,mc,me,cl,eg,rfl,hit,Sc,q1,q2,q3,q4]:=Ij S C h4;dsimp only at eg;subst eg;cases h5;show Yy C.mono Sc C.calm q1 q2 q3 q4 (AO hit) (C.E8 nX) (C.blt _ hb)
    .cases h2
   .cases h2
  clear h h1;rcases orElse_some h2 with h3|h3
  .exact VW C h3
  clear h2;unfold IJ at h3;split at h3
  .rename_i hk;cases jI<;>first|(cases hk;done)|skip
   cases f with
   |Name x p=>show bH8 S C h3
   |Attribute o a p=>show bH9 S C h3
   |_=>cases h3
  .cases h3
 |Set es k p =>
  let h2:FK c es k=!m:=h;unfold FK at h2;split at h2
  .rename_i hc;rw[bj] at hc;obtain rfl:=aP hc.2;split at h2
   .cases h2;show bE0 C.mono (C.code hc.1)
   .cases h2
  .cases h2
 |ListComp elt gens sc p =>
  let#[tg,it,ifs,t,mi,mc,me,cl,rfl,rfl,hit,Sc,q1,q2,q3,q4]:=Ij S C h;show(QS Sc C.calm q1 q2 q3 q4 (AO hit)).imp λσ H Q h=>OA C.mono σ H Q h
 |_=>cases h
set_option tactic.hygienic true in
def Sx:∀e m,stepT r c e=!m->PT X e (LT X.K Ξ (et P m)):=by
 intro e m h;let plain:∀{e:Expr} {m:ME},(if Gz e then(r.e c e).map ME.eP else none)=!m->PT X e (LT X.K Ξ (et P m)):=λ{e m} h=>by
  split at h
  .rename_i hp;let#[ma,ha,rfl]:=aa.mp h;show bN5 C.mono (S.e X c Ξ C _ _ ha) (ZW hp)
  .cases h
 cases e with
 |UnaryOp op a p =>
  let h2:(if op=.Not then(r.t c a).map ME.du else none)=!m:=h;split at h2
  .rename_i ho;subst ho;let#[ma,ha,rfl]:=aa.mp h2;show bN7 C.mono (S.t X c Ξ C _ _ ha)
  .cases h2
 |BoolOp op vs p=>show(Sw S C h).pt
 |Compare a ops bs p =>
  let#[ma,ha,rfl]:=aa.mp (show(yS r c a ops bs).map ME.eP=some m from h);show(Ln S C ha).2
 |_=>show plain h
end
def a99{α:Type}{l:List α}{x:α}(h:LV l=!x):l=[x]:=by
 rcases l with _|⟨a,_|⟨_,_⟩⟩<;>cases h
 rfl
section
def Oz(h:Nq e=!m):PE X e (LE X.K Ξ (aY P m))/\gM e=true:=by
 cases e<;>first|(cases h;done)|skip
 let#[d,hd,rfl]:=aa.mp (show(uy _).map ME.lit=some m from h);show#[CL hd,rfl]
def Zf(hP:j4 P):∀{es:@&Expr} {m:ME},Ht es=!m->PA X es (LA X.K Ξ (fU P m)):=by
 intro es
 induction es with
 |nil=>intro m h;cases h;show P2 hP
 |cons e es ih =>
  intro m h;let#[m1,h1,h]:=ah.mp h;let#[m2,h2,rfl]:=aa.mp h;show F4 hP (Oz h1).1 (ih h2) (p6 (Oz (X:=X) (Ξ:=Ξ) (P:=P) h1).2)
def Xc(hP:j4 P)(h:Np e=!m):PE X e (LE X.K Ξ (aY P m)):=by
 cases e<;>first|(cases h;done)|skip
 .let#[d,hd,rfl]:=aa.mp (show(uy _).map ME.lit=some m from h);show CL hd
 .let#[ms,hm,rfl]:=aa.mp h;show Ml hP (Zf hP hm)
def ba0{h}{q}(hq:LU h=!q):∃p p1 p2,h=.ExceptHandler (!.Name q.1 p) none [.Return (!q.2) p1] p2:=by
 let#[t,n,b,p0]:=h;cases n with
 |some _=>cases hq
 |none =>
  let#[t,rfl,hq]:=ah.mp (show t.bind _=some q from hq);let#[y,hy,hq]:=ah.mp hq;let#[e,he,rfl]:=aa.mp hq;let#[p,rfl]:=GB hy;rcases b with _|⟨s,_|⟨_,_⟩⟩
  .cases he
  .cases s<;>first|(cases he;done)|(cases he;show#[_,_,_,rfl])
  .cases he
set_option tactic.hygienic true in
def Xb(C:iA X c P Ξ)(Dx:yh X Ξ.2):∀{hs:@&ExceptHandler} {ms:@&(Str×ME)},Bm c hs=!ms->mT X Ξ P hs ms:=by
 intro hs
 induction hs with
 |nil=>intro ms h;cases h;show .nil Dx
 |cons hd hs ih =>
  intro ms h;let#[q,hq,h']:=ah.mp h;clear h;let h:=h';clear h';let#[p,p1,p2,rfl]:=ba0 hq;let#[y,e]:=q;dsimp only at h ⊢;split at h
  .rename_i hc;simp only[Bool.and_eq_true] at hc;let#[m,h1,h]:=ah.mp h;let#[JL,h2,rfl]:=aa.mp h;let#[C',hm,hi,_]:=C.exc y hc.1.1;show .cons (C.E8 hc.1.2) (T7 hc.2).1 hm (λx C1 hx h1=>C.EV x y C1 C' ?_ hc.1.1 h1 hi) (λea=>Xc C.mono h1) (ih h2);rw[C.Ak] at hx;simpa using hx
  .cases h
def aY4{e f}{q}(h:Qu e f=!q):f=none/\∃p p',e=!.Call (.Name q.1 p) (q.2.1::q.2.2) [] p':=by
 cases f with
 |some _=>cases h
 |none =>
  let#[t,rfl,h]:=ah.mp (show e.bind _=some q from h);let#[z,hz,h]:=ah.mp h;let#[p,p',rfl]:=Z2 hz;let#[x,as]:=z;cases as with
  |nil=>cases h
  |cons a as=>cases h;show#[rfl,_,_,rfl]
def QH(C:iA X c P Ξ){f}:BA X.K f (c.BK f):=λy C' h hC=>by
 let#[#[f',y'],h1,h2]:=ax.mp h;let#[h3,h4]:=ba.mp h1;cases h2;have:f'=f:=by simpa using h4
 subst this;show C.pb f' y' C' h3 hC
variable(S:sA P r)(C:iA X c P Ξ)
include S C
set_option tactic.hygienic true in
def VT(hw:c.wr=true)(h:Cq r c e=!m)(hl:Loc X.env.scope x/\(X.fn x=true\/X.env.scope.names.lookup x=!.local))(hi:X.N[i]?=!x):PS X (.Assign [.Name x px] e pos) (LS X.K Ξ (wpS P (.set i m))):=by
 cases e<;>first|(cases h;done)|skip
 rename_i kx vx gens sc p
 replace h:Co r c kx vx gens sc=!m:=h
 unfold Co at h;rcases gens with _|⟨⟨tg,it,ifs,rC⟩,_|⟨_,_⟩⟩
 .cases h
 .dsimp only at h;split at h
  .rename_i hs;simp only[Bool.and_eq_true,decide_eq_true_eq] at hs;let#[#[#[#[#[#[hs,rfl],h3],hk],hv],ht],Ud]:=hs;let#[q,hq,h]:=ah.mp h;let#[a,ha,h]:=ah.mp h;let#[es,he,h]:=ah.mp h;split at h
   .rename_i hc;simp only[Bool.and_eq_true,decide_eq_true_eq] at hc;let#[#[#[#[h1,hg],hb],ho],kz]:=hc;let#[ma,Ts,rfl]:=aa.mp h;let#[ep,ip,rfl]:=Z2 hq;let#[y,as]:=q;dsimp only at h1 ha;subst h1;obtain rfl:=a99 ha;let#[cl,Sc,I]:=C.comp hs;rw[eN.mp Ud] at Sc;obtain rfl:=eN.mp ht;let#[kk,tp,rfl]:=LW he;show bC5 C.mono Sc h3 C.calm (S.e X c Ξ C _ _ Ts) (C.E8 hg) (C.blt _ hb) (p6 ho) (λpi A s H fp=>HD (I pi A s H fp).calm (Gy ((I pi A s H fp).pQ rfl) ((I pi A s H fp).slots kz)) (P1 ((I pi A s H fp).slots kz)).1 (P1 ((I pi A s H fp).slots kz)).2)
     (λpi A s H fp=>let ⟨_,_,_,z⟩:=vO (I pi A s H fp) hk;z) (λpi A s H fp=>let ⟨_,_,_,z⟩:=vO (I pi A s H fp) hv;z) (C.pQ hw) hi hl.1 hl.2
   .cases h
  .cases h
 .cases h
set_option tactic.hygienic true in
def b45{tg}{m}(hw:c.wr=true)(hS:∀e m,r.e c e=!m->F8 e=false->∃elt gens sc p,e=.ListComp elt gens sc p/\∃r',sA P r'/\uE r' c elt gens sc=!m)(hT:∀a b k p m,r.e c (.Tuple [a,b] k p)=!m->∃r' ms,sA P r'/\Q8 r' c [a,b]=!ms/\m=.prim .tup ms)(h:MU r c tg e=!m):PS X (.Assign [tg] e pos) (LS X.K Ξ (wpS P m)):=by
 cases tg with
 |Name x px =>
  let h2:(if c.B5 x then(c.idx x).bind λi=>((r.e c e).orElse λy=>Cq r c e).map λm=>MS.set i m else none)=!m:=h;split at h2
  .rename_i hl;let#[i,hi,h2]:=ah.mp h2;let#[me,he,rfl]:=aa.mp h2;rcases orElse_some he with he|he
   rotate_left
   .exact VT S C hw he (C.B5 hl) (C.qJ hi)
   cases hn:F8 e with
   |true=>show Mp C.mono (HE (C.pQ hw) (C.qJ hi) (C.B5 hl).1 (S.e X c Ξ C _ _ he) (Gx hn) (C.B5 hl).2)
   |false =>
    let#[elt,gens,sc,p,rfl,r',S',hx]:=hS e me he hn;let#[tg,it,ifs,t,mi,mc,me,cl,rfl,rfl,hit,Sc,q1,q2,q3,q4]:=Ij S' C hx;show Mp C.mono ?_;show(aX0 Sc C.calm q1 q2 q3 q4 (AO hit) (C.pQ hw) (C.qJ hi) (C.B5 hl).1 (C.B5 hl).2).imp λN σ H h=>OA C.mono σ H _ h
  .cases h2
 |Tuple es k pt =>
  let h0:((Hq es).elim (if vp e&&F8 e then(c.slots es).bind λis=>(r.e c e).map λm=>MS.nC (.many is) m else none) λq=>if F8 e&&gM q.2.1&&gM q.2.2.2 then(r.e c q.1).bind λm1=>(r.e c q.2.1).bind λn1=>(r.e c q.2.2.1).bind λm2=>(r.e c q.2.2.2).bind λn2=>(r.e c e).map λm=>MS.zD m1 n1 m2 n2 m else none)=!m:=h;cases hq:Hq es with
  |some q =>
   rw[hq] at h0;dsimp only[Option.elim] at h0;split at h0
   .cases hq
   .cases h0
  |none =>
  rw[hq] at h0;let h2:(if vp e&&F8 e then(c.slots es).bind λis=>(r.e c e).map λm=>MS.nC (.many is) m else none)=!m:=h0;split at h2
  .rename_i hn;rw[bj] at hn;let#[is,hs,h2]:=ah.mp h2;let#[me,he,rfl]:=aa.mp h2;show bN0 C.mono (Mi (S.e X c Ξ C _ _ he) (Oi C.calm (C.pQ hw) (C.slots hs)) (NL hn.2) (XJ hn.1))
  .cases h2
 |Subscript o i pt =>
  let h2:(if gM i&&F8 e then(r.e c o).bind λmo=>(r.e c i).bind λmi=>(r.e c e).map λm=>MS.df mo mi m else none)=!m:=h;split at h2
  .rename_i hn;rw[bj] at hn;let#[mo,ho,h2]:=ah.mp h2;let#[mi,hi,h2]:=ah.mp h2;let#[me,he,rfl]:=aa.mp h2;show YN C.mono C.units (S.e X c Ξ C _ _ he) (S.e X c Ξ C _ _ ho) (S.e X c Ξ C _ _ hi) (NL hn.2) (bH6 hn.1)
  .cases h2
 |Attribute o f pt =>
  let#[mo,ho,h]:=ah.mp h;let#[me,he,rfl]:=aa.mp h;show bC3 C.mono (QH C) (S.e X c Ξ C _ _ ho) (by cases e<;>first|show VS S C he|show S.e X c Ξ C _ _ he) (by cases e<;>rfl)
 |_=>cases h
set_option tactic.hygienic true in
def Sy(hw:c.wr=true)(hS:∀e m,r.e c e=!m->F8 e=false->∃elt gens sc p,e=.ListComp elt gens sc p/\∃r',sA P r'/\uE r' c elt gens sc=!m)(hT:∀a b k p m,r.e c (.Tuple [a,b] k p)=!m->∃r' ms,sA P r'/\Q8 r' c [a,b]=!ms/\m=.prim .tup ms) :
  ∀st m,Lx r c st=!m->PS X st (LS X.K Ξ (wpS P m)):=by
 intro st m h;let hP:=C.mono;cases st with
 |AugAssign tg op e p =>
  cases tg with
  |Attribute o f tp =>
   let h2:(if decide (op=Operator.Add) then(r.e c o).bind λmo=>(r.e c e).map λm=>MS.kY f (c.BK f) mo m else none)=!m:=h;split at h2
   .rename_i ho;obtain rfl:=aP ho;let#[mo,ho,h2]:=ah.mp h2;let#[me,he,rfl]:=aa.mp h2;show bC7 C.mono (QH C) (S.e X c Ξ C _ _ ho) (S.e X c Ξ C _ _ he)
   .cases h2
  |Name x tp =>
   let h2:(if c.B5 x then(Nk op).bind λp=>(c.idx x).bind λi=>(r.e c e).map λm=>MS.kh i p m else none)=!m:=h;split at h2
   .rename_i hl;let#[p,hp,h2]:=ah.mp h2;let#[i,hi,h2]:=ah.mp h2;let#[me,he,rfl]:=aa.mp h2;show bC6 C.mono ?_ (C.pQ hw) (C.qJ hi) (C.B5 hl).1 (C.B5 hl).2 (S.e X c Ξ C _ _ he);cases op<;>first|(cases hp;done)|skip
    .cases hp;show .inl #[rfl,rfl]
    .cases hp;show .inr #[rfl,rfl]
   .cases h2
  |_=>cases h
 |Expr e p =>
  let h2:(if F8 e then(r.e c e).map MS.expr else none)=!m:=h;split at h2
  .rename_i hn;let#[me,he,rfl]:=aa.mp h2;show bC4 hP (S.e X c Ξ C _ _ he) (Gx hn)
  .cases h2
 |Assign Cu e p =>
  rcases Cu with _|⟨tg,_|⟨_,_⟩⟩
  .cases h
  .exact b45 S C hw hS hT h
  .cases h
 |If t a b p =>
  let#[mt,ht,h]:=ah.mp h;let#[ma,ha,h]:=ah.mp h;let#[mb,hb,rfl]:=aa.mp h;show b15 hP (S.t X c Ξ C _ _ ht) (vN S C hw ha) (vN S C hw hb)
 |For tg it body qx p =>
  let h2:(if c.nj&&(qx.isEmpty&&gM it) then(c.tg tg).bind λt=>(Bn r c tg it).bind λmi=>(A9 r c body).map λmb=>MS.gL t mi mb else none)=!m:=h;split at h2
  .rename_i hc;rw[bj,bj] at hc;cases qx<;>first|(cases hc.2.1;done)|skip
   let#[t,h1,h2]:=ah.mp h2;let#[mi,h3,h2]:=ah.mp h2;let#[mb,h4,rfl]:=aa.mp h2;show bN2 hP (C.own hc.1) C.calm (JJ S C h3) (C.MZ hw h1) (vN S C hw h4) (AO hc.2.2)
  .cases h2
 |While t body qx p =>
  let h2:(if c.nj&&qx.isEmpty then(r.t c t).bind λmt=>(A9 r c body).map λmb=>MS.jW mt mb else none)=!m:=h;split at h2
  .rename_i hc;rw[bj] at hc;cases qx<;>first|(cases hc.2;done)|skip
   let#[mt,h1,h2]:=ah.mp h2;let#[mb,h4,rfl]:=aa.mp h2;show YO hP (C.own hc.1) (S.t X c Ξ C _ _ h1) (vN S C hw h4)
  .cases h2
 |Return e p =>
  cases e with
  |none=>cases h;show(bF4 (X:=X)).imp (by rintro N cz H ⟨σ,g,ρ,s,R,h⟩;show LQ.now h R .bq)
  |some e =>
   let#[me,he,rfl]:=aa.mp (show(r.e c e).map (λm=>MS.ret (toR c e m))=some m from h);show Mo hP ?_;show S.e X c Ξ C _ _ he
 |Raise e f p =>
  let#[q,hq,h2]:=ah.mp h;clear h;let#[rfl,px,p2,rfl]:=aY4 hq;let#[x,e,es]:=q;dsimp only at h2 ⊢;split at h2
  .rename_i hc;simp only[Bool.and_eq_true] at hc;let#[ma,ha,rfl]:=aa.mp h2;let ok:=FP ha;let#[C',hm,hi,B,nI,iI,bm,O,FB]:=C.exc x hc.1.1.2;show YL hP C.calm O FB (C.E8 hc.1.2) (wI S C ha) (C.jY hc.1.1.1) (by rw[C.Ak];simpa using hc.1.1.2) hi (p6 (ok e #[_])) (V8 λz hz=>ok z (by simp[hz])) (T7 hc.2).1
  .cases h2
 |Try body hs el fi p =>
  let h2:(if c.jG&&~~~hs.isEmpty&&el.isEmpty&&fi.isEmpty then(A9 r { c with jY:=false,jG:=false,wr:=true } body).bind λmb=>(Bm c hs).map λms=>MS.qP mb ms else none)=!m:=h;split at h2
  .rename_i hc;simp only[Bool.and_eq_true] at hc;let#[#[#[ht,hh],he],hf]:=hc;cases el<;>first|(cases he;done)|skip
   cases fi<;>first|(cases hf;done)|skip
   cases hs<;>first|(cases hh;done)|skip
   let#[fI,hf,Dx]:=C.jG ht
   .let#[mb,h1,h2]:=ah.mp h2;let#[ms,h3,rfl]:=aa.mp h2;show bN1 hP (C.sgn hw) (λpi D=>vN S (C.qP hw fI hf pi D _ (λσ hl _=>#[by rw[zw,hl],λi v z=>?_]) λy=>rfl) rfl h1) (Xb C Dx h3);rw[dN] at z;split at z<;>cases z
  .cases h2
 |Pass p=>cases h;show(bF5 (X:=X)).imp (by rintro N cz H ⟨σ,g,ρ,s,R,h⟩;show h ρ H cz (.refl _ _) R s)
 |_=>cases h
end
def aY0(h:(comp (n+1)).e c e=!m)(hn:F8 e=false):∃elt gens sc p,e=.ListComp elt gens sc p/\uE (comp n) c elt gens sc=!m:=by
 cases e<;>first|(cases hn;done)|(cases h;done)|show#[_,_,_,_,rfl,h]
def snd:∀n,(∀k,k<=n->sA P (comp k)):=by
 intro n
 induction n with
 |zero =>
  intro k hk;obtain rfl:=Nat.le_zero.mp hk;show#[λx x x x x x h=>(by cases h),λx x x x x x h=>(by cases h),λx x x x x x x h=>(by cases h)]
 |succ n ih =>
  intro k hk;rcases fz k (n+1) with dP|Kh
  .grind
  obtain rfl:k=n+1:=by omega
  let I:=ih n (av n);show#[λX c Ξ C e m h=>Sz I C e m h,λX c Ξ C e m h=>Sx I C e m h,λX c Ξ C hw st m h=>?_];rcases orElse_some h with h|h
  rotate_left
  .cases h;show λpi s σ H D I q=>by let#[_,_,_,_,_,z]:=q;show(show False from z).elim
  show Sy I C hw (λe m he hn=>?_) (λa b k p m he=>?_) st m h
  .cases n with
   |zero=>cases he
   |succ n =>
    let#[elt,gens,sc,p,rfl,hx]:=aY0 he hn;show#[_,_,_,_,rfl,comp n,ih n (),hx]
  .cases n with
   |zero=>cases he
   |succ n =>
    let#[ms,hm,rfl]:=aa.mp (show(Q8 (comp n) c [a,b]).map (ME.prim .tup)=some m from he);show#[comp n,ms,ih n (),hm,rfl]
structure qV where
 nm:Str
 qn:Str
 N:@&Str
 ps:@&Str
 st:Stmt
def j6.at(c:j6)(d:qV):j6:={ c with N:=d.N,nm:=(u7 d.st).names,nj:=true,jY:=true,jG:=true,wr:=true }
structure jQ(K:PySem.W.Frag)(c:j6)(d:qV)(m:aQ)(f:Addr)(fd:FuncData):Prop where
 fn:sC K d.nm d.qn d.st f fd
 bi:Binds K fd d.ps []
 sc:jq d.N d.ps (u7 d.st)
 co:A9 (comp 60) (c.at d) (v9 d.st)=!m.body
 ar:m.ar=-d.ps
 nn:m.n=-d.N
structure oB(w:World)(K:PySem.W.Frag)(mg:Str->Option Value)(c:j6)(T:Nat->Option aQ):Prop where
 fns:∀x i,c.fns.lookup x=!i->∃d m f fd,T i=!m/\jQ K c d m f fd/\mg x=!.ref f
 cls:∀x i,c.cls.lookup x=!i->∃C d m f fd,T i=!m/\jQ K c d m f fd/\mg x=!.ref C/\w9 K x C/\jE K C/\Mk K C f
 oN:∀x y i C,(x,y,i)∈c.oN->w9 K y C->∃d m f fd,T i=!m/\jQ K c d m f fd/\Meth K C x f
 pb:∀f y C,(f,y)∈c.pb->w9 K y C->J6 K C f
 con:∀x d,c.con.lookup x=!d->∃v u,mg x=!u/\RelV v u/\∀ρ H,f9 K ρ H d v
 blt:∀x,c.blt.contains x=true->mg x=none
 EW:∀x,c.exc.contains x=true->∃C,mg x=!.ref C/\w9 K x C/\∀base:Heap,K.In base->base.Ns mainGlobals mg->∃B newId gS bm,OwnCls x C bm newId mg base/\ExcBaseFacts B newId gS bm
 EU:∀x y C C',c.exc.contains x=true->c.exc.contains y=true->w9 K x C->w9 K y C'->PySem.W.exmOne K (.ref C) (.ref C')=!decide (x=y\/y="MintError")
 tY:∀x kvs,c.gd.lookup x=!kvs->∃A vs,mg x=!.ref A/\Bj K w.params A vs/\rX K kvs vs
section
variable{Pg:Program}{w:World}{K:PySem.W.Frag}{mg:Str->Option Value}{base:Heap}{T:Nat->Option aQ}
set_option tactic.hygienic true in
def bW3{q}(h:PySem.W.codeIn K cd q=true):PySem.W.kdsCode K cd=true:=by
 unfold PySem.W.codeIn at h;unfold PySem.W.kdsCode;split at h
 .dsimp only;split at h
  .rename_i e;rw[e]
  .cases h
 .cases h
def bG7:Passes (iz Pg w) (qE (iz Pg w) Pg w K mg base N qual scope f cd A outer s H E) E:=λpi σ H1 s1 e s' I h=>by
 let#[C,H',J,fl,hE]:=I.flew h;show aT4 J fl (λb o q=>I.base.there b o q (by intro z;cases z)) rfl rfl rfl hE
def Yn:Au (qE (iz Pg w) Pg w K mg base N qual scope f cd A outer s H E) E:=λpi σ H1 s1 h' ea C vs I hm hE =>
 a79 I hm rfl rfl rfl hE
def bJ5:yh (qE (iz Pg w) Pg w K mg base N qual scope f cd A outer s H E) E:=λpi σ H1 H2 s1 s2 B ea C a0 I l hh hE =>
 leave_held I l hh rfl rfl rfl hE
def Ib{k}{m}(hT:T i=!m){ds}{g}{Q}{E}(h:b7 T k i ds g Q E):-ds=m.ar:=by
 cases k with
 |zero=>show h.elim
 |succ k =>
  let#[m',e,h,_]:=h
  simp_all
def bZ3(nL:K.In base)(xN:base.Ns mainGlobals mg)(A:oB w K mg c T):∀(k i:Nat) d m f fd,T i=!m->jQ K c d m f fd->gW Pg w K mg base (iz Pg w) (2*k) f fd d.ps (rA c.exc K (-d.ps) (b7 T k i)):=by
 intro k
 induction k with
 |zero =>
  intro i d m f fd hm O;show#[λvs H Q E h=>h.1,λA outer s H args us vs Q E v v v v h=>?_];let#[_,_,_,_,_,_,q]:=h;show q.elim
 |succ k ih =>
  intro i d m f fd hm O;let#[oc,od,kV,doc,pm,an,gf,ct,mZ,rfl,lk,mL]:=O.fn.ex;show b68 (k:=2*k+1) lk mL O.sc (λvs H Q E h=>h.1) (λA0 outer s H vs Q E hr h=>?_);let#[hl,xs,g,ρ,rs,R,q]:=h;let C:iA (qE (iz Pg w) Pg w K mg base d.N d.qn (u7 d.st) f gf A0 outer s H E) (c.at d) (b7 T k) (c.exc,E):=by
   show#[rfl,O.sc.nd,λx h=>h,λx h=>h,λx h=>.inr h,λx h=>h,λx h=>?_,λv v=>rfl,rfl,?_,(λv=>PassesOwn.leaving),a8 T k,A.con,A.blt,λx j hj=>?_,λx j hj=>?_,λx y j C' hj hC=>?_,A.pb,rfl,bG7,λv=>Yn,λv=>#[rfl,rfl,bJ5],λx hx=>?_,A.EU,A.tY,λv=>bW3 mL,λv=>rfl]
   .rcases h with h|h
    .exact FO h
    .exact absurd rfl (O.sc.nG _ (aR h))
   .have:=hr.un;show(A0.deeper _).units+100<cLine;omega
   .let#[d',m',f',rS,hT,O',hmg]:=A.fns x j hj;show#[2*k,f',rS,d'.ps,#[ih j d' m' f' rS hT O',O'.bi,λKU g' Q' E' h'=>(Ib hT h').trans O'.ar],hr.mono (),hmg,O'.fn.kp]
   .let#[C',d',m',f',rS,hT,O',hmg,hC,jo,M]:=A.cls x j hj;show#[2*k,C',f',rS,d'.ps,#[ih j d' m' f' rS hT O',O'.bi,λKU g' Q' E' h'=>(Ib hT h').trans O'.ar],hr,hmg,hC,jo,M]
   .let#[d',m',f',rS,hT,O',M]:=A.oN x y j C' hj hC;show#[2*k,f',rS,d'.ps,M,#[ih j d' m' f' rS hT O',O'.bi,λKU g' Q' E' h'=>(Ib hT h').trans O'.ar],hr.mono ()]
   .let#[C,h1,h2,h3]:=A.EW x hx;show#[C,h1,h2,h3 base nL xN]
  show#[_,vN (snd 60 60 (av _)) C rfl O.co,?_];let#[m',e,q1,q]:=q;rw[hm] at e;cases e;show#[b8 m xs,g,ρ,?_,R,wpS_mono (a8 T k) m.body #[λv g'=>LQ K ρ H Q .bq g',LQ K ρ H Q,λv v=>False,λv v=>False] _ _ _ _ _ #[λσ g' h bX H' cZ e R' s'=>h bX H' _ e R' .bq,λd g' h=>h,λv v h=>h.elim,λv v h=>h.elim] (λv v z=>z) q];have:=v5.start (n:=-d.N) rs;unfold b8 L2.start;rw[O.nn];show this
def bV8{L k0:Nat}{a}{ns:@&Int}(hO:Aq H)(hS:fJ K H a (ns.map V.int))(h:b7 T k0 L [.ref 0] [.qv (ns.map .int)] (λd x=>d=.bl true) jD) :
  rA exc K 1 (b7 T k0 L) [.ref a] H (λv x=>v=.bl true) λx x x=>False:=by
 show#[rfl,[.ref 0],[.qv (ns.map .int)],[a],.cons (.ref rfl) .nil,#[rfl,λi o b h1 h2=>?_,λi j l m b h1 h2 m1=>?_],a8 T k0 _ _ _ _ _ _ _ (λd g' e bX H' v x x r=>?_) (λx x z=>z.elim) h]
 .cases i with
  |zero =>
   cases h1;cases h2;show#[_,?_,c8.ofInts ns];rcases hS with(z|⟨o,z⟩)|z
   .rcases hO a with q|⟨o,xs,q⟩
    .simp_all
    simp_all
   .exact .inl #[o,z]
   .exact .inr z
  |succ i=>simp at h1
 .cases i with
  |zero=>cases h1;cases m1
  |succ i=>simp at h1
 .subst e;cases r
  rfl
end
end M
namespace M
open PySem L2
variable{P:eZ}{g:G}{Q:KD}{E:KX}{N:Ends}{a i n:Nat}{b:Bool}{c f:Str}{o cond elt:ME}{x y d v:D}{cs:@&Str}{j:Int}{l:@&D}{A B:Prop}{kvs:@&(Key×D)}{kg:G->Prop}{ns:@&Int}{d8:@&Nat}{R:IK->G->Prop}
section
variable{σ:S}{a b c:ME}{x y:MS}{p:Pr}
def HN(h:N.nx σ g):wpS P .pass N σ g E:=h
def II(h:wpS P x #[λjm g1=>wpS P y N jm g1 E,N.rt,N.bk,N.ct] σ g E):wpS P (.seq x y) N σ g E:=h
def HP(h:wpS P x N σ g E):wpS P (.seq x .pass) N σ g E:=h
def Mx(h:aY P a σ g (λx g1=>N.nx σ g1) E):wpS P (.expr a) N σ g E:=h
def LK(h:aY P a σ g (λx g1=>N.nx (σ.set i (!x)) g1) E):wpS P (.set i a) N σ g E:=h
def bZ5{t}(h:aY P a σ g (λx g1=>ko t x σ λjm=>N.nx jm g1) E):wpS P (.nC t a) N σ g E:=h
def Ot{i}(h:aY P a σ g (λx g1=>aY P o σ g1 (λy g2=>aY P i σ g2 (λz g3=>pv y z x g3 λg4=>N.nx σ g4) E) E) E):wpS P (.df o i a) N σ g E:=h
def bL0(h:aY P a σ g (λx g1=>aY P o σ g1 (λy g2=>yc f cs y x g2 λg3=>N.nx σ g3) E) E):wpS P (.fH f cs o a) N σ g E:=h
def Mw(h:aY P o σ g (λy g1=>∃a' c fs x,y=.ref a'/\g1[a']?=!.ins c fs/\c∈cs/\fs.lookup f=!x/\aY P a σ g1 (λz g3=>cI .iadd [x,z] g3 λw g4=>∃jB,g4[a']?=!.ins c jB/\-jB<100/\N.nx σ (g4.set a' (.ins c (m7 f w jB)))) E) E):wpS P (.kY f cs o a) N σ g E:=h
def LJ(h:et P c σ g (λt g1=>if t=true then wpS P x N σ g1 E else wpS P y N σ g1 E) E):wpS P (.ifs c x y) N σ g E:=h
def bZ8(h:aY P a σ g N.rt E):wpS P (.ret a) N σ g E:=h
def bB6{x}(h:fU P a σ g (λvs g1=>-vs<=1000/\E #[x] g1) E):wpS P (.raise x a) N σ g E:=h
def bZ6{hs}(h:wpS P x N σ g (oJ P N (σ.map λy=>none) E hs)):wpS P (.qP x hs) N σ g E:=h
def b65{x}{e}{r}(h:aY P e σ g N.rt jD):oJ P N σ E (("MintError",e)::r) x g:=by unfold oJ;rw[aM (.inr rfl)];show h
def w_var(e:σ[i]?=!!d)(h:Q d g):aY P (.var i) σ g Q E:=by show#[d,e,h]
def w_lit(h:Q d g):aY P (.lit d) σ g Q E:=h
def bL1(h:fU P a σ g (λxs g1=>cI p xs g1 Q) E):aY P (.prim p a) σ g Q E:=h
def b96(h:cI p [] g Q):aY P (.prim p .nil) σ g Q E:=by show h
def vS(h:aY P a σ g (λx g1=>cI p [x] g1 Q) E):aY P (.prim p (.cons a .nil)) σ g Q E:=by show h
def qQ(h:aY P a σ g (λx g1=>aY P b σ g1 (λy g2=>cI p [x,y] g2 Q) E) E):aY P (.prim p (.cons a (.cons b .nil))) σ g Q E:=by show h
def bB8{o1 o2}(h:aY P a σ g (λx g1=>aY P b σ g1 (λy g2=>cI (.cmp o1) [x,y] g2 λz g3=>∃t,z=.bl t/\if t=true then aY P c σ g3 (λw g4=>cI (.cmp o2) [y,w] g4 Q) E else Q (.bl false) g3) E) E):aY P (.chain o1 o2 a b c) σ g Q E:=h
def w_and(h:aY P a σ g (λx g1=>∃t,x=.bl t/\if t=true then aY P b σ g1 Q E else Q (.bl false) g1) E):aY P (.dZ a b) σ g Q E:=h
def w_not(h:aY P a σ g (λx g1=>∃t,x=.bl t/\Q (.bl (~~~t)) g1) E):aY P (.du a) σ g Q E:=h
def w_ite(h:et P c σ g (λt g1=>if t=true then aY P a σ g1 Q E else aY P b σ g1 Q E) E):aY P (.ite c a b) σ g Q E:=h
def HM{f}(h:fU P a σ g (λxs g1=>P f xs g1 Q E) E):aY P (.call f a) σ g Q E:=h
def bL2{f}{c}(h:fU P a σ g (λxs g1=>P f (.ref (-g1)::xs) (g1++[.ins c []]) (λd g2=>d=.bq/\Q (.ref (-g1)) g2) E) E):aY P (.make c f a) σ g Q E:=h
def bB7{m}{cs}(h:aY P o σ g (λx g1=>∃a' c fs f,x=.ref a'/\g1[a']?=!.ins c fs/\fs.lookup m=none/\cs.lookup c=!f/\fU P a σ g1 (λxs g2=>P f (x::xs) g2 Q E) E) E):aY P (.bJ m cs o a) σ g Q E:=h
def My(h:aY P o σ g (λx g1=>lQ p x g1/\fU P a σ g1 (λxs g2=>cI p (x::xs) g2 Q) E) E):aY P (.dX p o a) σ g Q E:=h
def LH(h:fU P a σ (g++[.cy []]) (λxs g1=>∃kvs,vK xs []=!kvs/\-xs<=30/\g1[(-g)]?=!.cy []/\Q (.ref (-g)) (g1.set (-g) (.cy kvs))) E):aY P (.oq a) σ g Q E:=h
def By{Q}(h:Q [] g):fU P .nil σ g Q E:=h
def vD{Q}(h:aY P a σ g (λx g1=>fU P b σ g1 (λxs g2=>Q (x::xs) g2) E) E):fU P (.cons a b) σ g Q E:=h
def bK9{Q}(h:et P a σ g (λt g1=>if t=true then et P b σ g1 Q E else Q false g1) E):et P (.dZ a b) σ g Q E:=h
def bZ7{Q}(h:et P a σ g (λt g1=>if t=true then Q true g1 else et P b σ g1 Q E) E):et P (.iu a b) σ g Q E:=h
def bK8{Q}(h:et P a σ g (λt g1=>Q (~~~t) g1) E):et P (.du a) σ g Q E:=h
def O6{Q}(h:Q true g):et P .no σ g Q E:=h
def LL{Q}(h:aY P a σ g (λx g1=>qO g1 x λb=>Q b g1) E):et P (.eP a) σ g Q E:=h
end
section
variable{i:Int}{kb:Bool->Prop}{t s:Bool}{m:@&D}
def b93(h:Q (.int (i+j)) g):cI (.bin .Add) [.int i,.int j] g Q:=#[_,_,.inl #[i,j,_,rfl,rfl,rfl,rfl],h]
def b92(h:Q (.int (i-j)) g):cI (.bin .Sub) [.int i,.int j] g Q:=#[_,_,.inl #[i,j,_,rfl,rfl,rfl,rfl],h]
def vk(c:ug i j)(h:Q (.int (i*j)) g):cI (.bin .Mult) [.int i,.int j] g Q:=#[_,_,.inl #[i,j,_,rfl,#[c,rfl],rfl,rfl],h]
def rZ(c:0<j)(h:Q (.int (i % j)) g):cI (.bin .Mod) [.int i,.int j] g Q:=#[_,_,.inl #[i,j,_,rfl,#[c,rfl],rfl,rfl],h]
def Nc(c:Fo i j)(h:Q (.int (i / j)) g):cI (.bin .FloorDiv) [.int i,.int j] g Q:=#[_,_,.inl #[i,j,_,rfl,#[c,rfl],rfl,rfl],h]
def Bk(c:ph i j)(h:Q (.int (i ^ j.toNat)) g):cI (.bin .Pow) [.int i,.int j] g Q:=#[_,_,.inl #[i,j,_,rfl,#[c,rfl],rfl,rfl],h]
def yV(hl:-l+-m<=100000)(h:Q (.tup (l++m)) g):cI (.bin .Add) [.tup l,.tup m] g Q:=#[_,_,.inr (.inl #[rfl,.inl #[l,m,rfl,hl,rfl,rfl]]),h]
def b89{i j}(hi:g[i]?=!.lst l)(hj:g[j]?=!.lst m)(hl:-l+-m<=100000)(h:Q (.ref (-g)) (g++[.lst (l++m)])):cI (.bin .Add) [.ref i,.ref j] g Q:=#[_,_,.inr (.inl #[rfl,.inr (.inl #[i,j,l,m,rfl,hi,hj,hl,rfl,rfl])]),h]
def Nl{i}{n}(hi:g[i]?=!.lst l)(h1:-(2 ^ 62)<=n)(h2:n<2 ^ 62)(hl:-l*n.toNat<=100000)(h:Q (.ref (-g)) (g++[.lst (List.replicate n.toNat l).flatten])):cI (.bin .Mult) [.ref i,.int n] g Q:=#[_,_,.inr (.inr #[rfl,#[i,l,n,rfl,hi,h1,h2,hl,rfl,rfl]]),h]
def bZ9(h:Q (.int (-(i))) g):cI (.un .USub) [.int i] g Q:=#[_,_,#[rfl,i,rfl,rfl,rfl],h]
def ow{op}(hb:MF g x y b op)(h:Q (.bl b) g):cI (.cmp op) [x,y] g Q:=#[_,_,#[x,y,b,rfl,hb,rfl,rfl],h]
def Vt(h:Q (.bl (decide (i<j))) g):cI (.cmp .Lt) [.int i,.int j] g Q:=ow #[i,j,rfl,rfl,rfl] h
def Vs(h:Q (.bl (decide (i<=j))) g):cI (.cmp .LtE) [.int i,.int j] g Q:=ow #[i,j,rfl,rfl,rfl] h
def Vr(h:Q (.bl (decide (j<i))) g):cI (.cmp .Gt) [.int i,.int j] g Q:=ow #[i,j,rfl,rfl,rfl] h
def Vq(h:Q (.bl (decide (j<=i))) g):cI (.cmp .GtE) [.int i,.int j] g Q:=ow #[i,j,rfl,rfl,rfl] h
def BI(h:vh g x y λb=>Q (.bl b) g):cI (.cmp .Eq) [x,y] g Q:=let ⟨_,hb,h⟩:=h;ow hb h
def BJ(h:vh g x y λb=>Q (.bl (~~~b)) g):cI (.cmp .NotEq) [x,y] g Q:=let ⟨b,hb,h⟩:=h;ow (show xS g x y (~~~(~~~b)) from by simp_all) h
def uj(h:oP g x y λb=>Q (.bl b) g):cI (.cmp .In) [x,y] g Q:=let ⟨_,hb,h⟩:=h;ow (.inl hb) h
def b84{S}(hg:g[a]?=!.set S n)(h:Q (.bl (S i)) g):cI (.cmp .In) [.int i,.ref a] g Q:=ow (.inr #[a,S,n,i,rfl,hg,rfl,rfl]) h
def K8(h:oP g x y λb=>Q (.bl (~~~b)) g):cI (.cmp .NotIn) [x,y] g Q:=let ⟨b,hb,h⟩:=h;ow (.inl (show inR g x y (~~~(~~~b)) from by simp_all)) h
def Lr(h:kb (decide (i=j))):vh g (.int i) (.int j) kb:=#[_,.inl #[i,j,rfl,rfl,rfl],h]
def MR(h:kb (t==s)):vh g (.bl t) (.bl s) kb:=#[_,.inr (.inl #[t,s,rfl,rfl,rfl]),h]
def b26{x y}(h:kb (decide (x=y))):vh g (.str x) (.str y) kb:=#[_,.inr (.inr (.inl #[x,y,rfl,rfl,rfl])),h]
def b87(h:Q (.bl (decide (i=j))) g):cI (.cmp .Eq) [.int i,.int j] g Q:=BI (Lr h)
def Nn(h:Q (.bl (~~~decide (i=j))) g):cI (.cmp .NotEq) [.int i,.int j] g Q:=BJ (Lr h)
def b88(h:Q (.bl (t==s)) g):cI (.cmp .Eq) [.bl t,.bl s] g Q:=BI (MR h)
def b77(h:Q (.bl (~~~(t==s))) g):cI (.cmp .NotEq) [.bl t,.bl s] g Q:=BJ (MR h)
def b86{p q}(h:Q (.bl (decide (p=q))) g):cI (.cmp .Eq) [.str p,.str q] g Q:=BI (b26 h)
def uk(h:Q (.bl (V2 d)) g):cI (.cmp .Is) [d,.bq] g Q:=ow #[rfl,rfl] h
def Nm(h:Q (.bl (~~~V2 d)) g):cI (.cmp .IsNot) [d,.bq] g Q:=ow #[rfl,rfl] h
def b83(h:Q (.bl true) g):cI (.cmp .Is) [.bq,.bq] g Q:=uk h
def b81(h:Q (.bl false) g):cI (.cmp .Is) [.int i,.bq] g Q:=uk h
def b82(h:Q (.bl false) g):cI (.cmp .Is) [.bl t,.bq] g Q:=uk h
def b79{x}(h:Q (.bl false) g):cI (.cmp .Is) [.str x,.bq] g Q:=uk h
def b78(h:Q (.bl false) g):cI (.cmp .Is) [.tup l,.bq] g Q:=uk h
def b80(h:Q (.bl false) g):cI (.cmp .Is) [.ref n,.bq] g Q:=uk h
def b85(h:Q (.bl false) g):cI (.cmp .IsNot) [.bq,.bq] g Q:=Nm h
def b99(h:kb t):qO g (.bl t) kb:=#[t,.inr (.inl rfl),h]
def b07(h:kb (i != 0)):qO g (.int i) kb:=#[_,.inr (.inr (.inl #[i,rfl,rfl])),h]
def b06{i}(hl:d7 g i=!l)(h:kb (~~~l.isEmpty)):qO g (.ref i) kb:=#[_,.inr (.inr (.inr (.inr #[i,l,rfl,hl,rfl]))),h]
def Aw{p:Bool->Prop}(h:p t):∃s,D.bl t=D.bl s/\p s:=#[t,rfl,h]
def bW8{p:Int->Prop}(h:p i):∃s,D.int i=D.int s/\p s:=#[i,rfl,h]
def if2{c}[Decidable c](h1:c->A)(h2:¬c->B):if decide c=true then A else B:=by
 simp_all
def jv(h:A):if true=true then A else B:=by rw[aM rfl];show h
def qK(h:B):if false=true then A else B:=by rw[aI ∅];show h
def MK(h:A):if(~~~false)=true then A else B:=by show h
def VH(h:B):if(~~~true)=true then A else B:=by rw[aI ∅];show h
def eB(hb:b=false)(h:B):if b=true then A else B:=by rw[hb];show qK h
def eR(hb:b=true)(h:A):if b=true then A else B:=by rw[hb];show jv h
def u4(hl:d7 g a=!l)(h2:iX l i=!d)(h:Q d g):cI .ix [.ref a,.int i] g Q:=#[_,_,#[rfl,.inl #[_,l,i,rfl,hl,h2]],h]
def E7(h2:iX l i=!d)(h:Q d g):cI .ix [.tup l,.int i] g Q:=#[_,_,#[rfl,.inl #[_,l,i,rfl,rfl,h2]],h]
def j5{i}{k}(hg:g[i]?=!.cy kvs)(hk:ox y=!k)(hv:x6 kvs k=!v)(h:Q v g):cI .ix [.ref i,y] g Q:=#[_,_,#[rfl,.inr (.inl #[i,kvs,y,k,rfl,hg,hk,hv])],h]
def su(hl:g[a]?=!.lst l)(hn:nM (-l) i=!n)(h:kg (g.set a (.lst (l.set n v)))):pv (.ref a) (.int i) v g kg:=#[_,.inl #[a,i,l,n,rfl,rfl,hl,hn,rfl],h]
def U3{i}{k}(hg:g[i]?=!.cy kvs)(hk:ox y=!k)(hl:-kvs<100000)(h:kg (g.set i (.cy (putD kvs k v)))):pv (.ref i) y v g kg:=#[_,.inr #[i,kvs,k,rfl,hg,hk,hl,rfl],h]
def K5{fs}(hg:g[a]?=!.ins c fs)(hc:c∈cs)(hl:-fs<100)(h:kg (g.set a (.ins c (m7 f v fs)))):yc f cs (.ref a) v g kg:=#[_,#[a,c,fs,rfl,hg,hc,hl,rfl],h]
def u1{fs}(hg:g[a]?=!.ins c fs)(hf:fs.lookup f=!d)(h:Q d g):cI (.fld f) [.ref a] g Q:=#[_,_,#[a,c,fs,rfl,hg,hf,rfl],h]
def a7(h:g[a]?=!.lst l):d7 g a=!l:=by simp only[d7,h,Hv]
def Zw(h:g[a]?=!.qv l):d7 g a=!l:=by simp only[d7,h,Hv]
def uB(hl:d7 g a=!l)(h:Q (.int (-l)) g):cI .len [.ref a] g Q:=#[_,_,#[rfl,.inl #[_,l,rfl,hl,rfl]],h]
def Iw(hl:g[a]?=!.cy kvs)(h:Q (.int (-kvs)) g):cI .len [.ref a] g Q:=#[_,_,#[rfl,.inr (.inl #[a,kvs,rfl,hl,rfl])],h]
def bO2(h:Q (.tup (cut l (!i) none)) g):cI (.nE true false) [.tup l,.int i] g Q:=#[_,_,#[_,i,rfl,.inl #[l,rfl,rfl,rfl]],h]
def bO3(h:Q (.tup (cut l none (!i))) g):cI (.nE false true) [.tup l,.int i] g Q:=#[_,_,#[_,i,rfl,.inl #[l,rfl,rfl,rfl]],h]
def bO4(hl:d7 g a=!l)(h:Q (.ref (-g)) (g++[.lst (cut l none (!i))])):cI (.nE false true) [.ref a,.int i] g Q:=#[_,_,#[_,i,rfl,.inr #[a,l,rfl,hl,rfl,rfl]],h]
def IF(hl:-l<=1000)(h:Q (.tup l) g):cI .tup l g Q:=#[_,_,#[hl,rfl,rfl],h]
def Bw(hl:-l<=1000)(h:Q (.ref (-g)) (g++[.lst l])):cI .lst l g Q:=#[_,_,#[hl,rfl,rfl],h]
def Iz(hl:d7 g a=!l)(h:Q (.ref (-g)) (g++[.lst l])):cI .list [.ref a] g Q:=#[_,_,.inl #[_,l,rfl,hl,rfl,rfl],h]
def Y9(hg:g[a]?=!.cy kvs)(hz:-kvs<=10000)(h:Q (.ref (-g)) (g++[.lst ((kvs.map (·.1)).map kD)])):cI .list [.ref a] g Q:=#[_,_,.inr #[a,kvs,rfl,hg,hz,rfl,rfl],h]
def b46(h:Q (.ref (-g)) (g++[.lst l])):cI .list [.tup l] g Q:=#[_,_,.inl #[_,l,rfl,rfl,rfl,rfl],h]
def b01(hl:d7 g a=!l)(h:Q (.tup l) g):cI .tuple [.ref a] g Q:=#[_,_,#[_,l,rfl,hl,rfl,rfl],h]
def gO{c}(hc:c∈["int","bool","str","tuple","list"])(hb:uq g d c=!b)(h:Q (.bl b) g):cI .isin [d,.ty c] g Q:=#[_,_,#[d,c,b,rfl,hc,hb,rfl,rfl],h]
def yY{i}(hg:g[i]?=!.lst l)(hl:-l<100000)(h:Q .bq (g.set i (.lst (l++[y])))):cI .append [.ref i,y] g Q:=#[_,_,#[i,y,l,rfl,hg,hl,rfl,rfl],h]
def Lm{i j:Nat}{n:Int}(hg:g[i]?=!.lst l)(hn:n=j)(hj:l[j]?=!y)(hl:-l<100000)(h:Q y (g.set i (.lst (l.eraseIdx j)))):cI .pop [.ref i,.int n] g Q:=by
 let dP:=(ak.mp hj).1;show#[_,_,#[i,n,l,j,rfl,hg,by omega,by omega,?_,hj,rfl],h];rw[hn];show PySem.StrLaws.seqIndex_nonneg () () |>.trans #[_]
def Md(hl:d7 g a=!l):lQ .index (.ref a) g:=#[a,l,rfl,hl]
def Ll(hl:d7 g a=!l)(W:Bz l y n)(hz:-l<=100000)(h:Q (.int n) g):cI .index [.ref a,y] g Q:=#[_,_,#[_,y,l,n,rfl,hl,W,hz,rfl,rfl],h]
def BD(h:Q (.int (i+j)) g):cI .iadd [.int i,.int j] g Q:=#[_,_,.inl #[i,j,rfl,rfl,rfl],h]
def QR{i}(hg:g[i]?=!.cy kvs)(hk:kvs.map (·.1)=ns.map Sum.inl)(hz:-ns<60)(h:Q (.ref (-g)) (g++[.lst ((p9 ns).map .int)])):cI .eA [.ref i] g Q:=#[_,_,.inl #[i,kvs,ns,rfl,hg,hk,hz,rfl,rfl],h]
def bG8{i}(hl:d7 g i=!ns.map .int)(hz:-ns<60)(h:Q (.ref (-g)) (g++[.lst ((qT ns).map .int)])):cI .eA [.ref i] g Q:=#[_,_,.inr #[_,ns,rfl,hl,hz,rfl,rfl],h]
def HA{i}(hg:g[i]?=!.lst l):lQ .append (.ref i) g:=#[i,l,rfl,a7 hg]
def HB{i}(hg:g[i]?=!.lst l):lQ .pop (.ref i) g:=#[i,l,rfl,a7 hg]
def bI2{i}(hg:g[i]?=!.lst l)(h:Q .bq (g.set i (.lst []))):cI .clear [.ref i] g Q:=#[_,_,#[i,l,rfl,hg,rfl,rfl],h]
def XG{i}(hg:g[i]?=!.lst l):lQ .clear (.ref i) g:=#[i,l,rfl,a7 hg]
def AE{i}(hg:g[i]?=!.cy kvs)(h:Q (.ref (-g)) (g++[.cy kvs])):cI .iW [.ref i] g Q:=#[_,_,.inl #[i,kvs,rfl,hg,rfl,rfl],h]
def bS8(hl:d7 g a=!ns.map .int)(hz:-ns<60)(h:Q (.ref (-g)) (g++[.lst ((p9 ns).map .int)])):cI .sset [.ref a] g Q:=#[_,_,#[a,ns,rfl,hl,hz,rfl,rfl],h]
def nt(h:Q (.ref (-g)) (g++[.cy []])):cI .nt [] g Q:=#[_,_,#[rfl,rfl,rfl],h]
def bV1{S}(hg:g[a]?=!.set S n)(hn:n+1<4096)(h:Q .bq (g.set a (.set (λk=>S k||decide (k=i)) (if S i then n else n+1)))):cI .kM [.ref a,.int i] g Q:=#[_,_,#[a,i,S,n,rfl,hg,hn,rfl,rfl],h]
def bI0{S}(hg:g[a]?=!.set S n):lQ .kM (.ref a) g:=#[a,S,n,rfl,hg]
def bT0(hg:g[a]?=!.lst (ns.map .int))(hl:-ns<1000)(nd:ns.Nodup)(h:Q (.ref (-g)) (g++[.cy (uo ns)])):cI .mS [.ref a] g Q:=#[_,_,#[a,ns,rfl,hg,hl,nd,rfl,rfl],h]
def bS9{n:Int}{fs:@&(Key×Int×Int)}(hg:g[a]?=!.cy (fs.map mR))(hl:-fs<1000)(nd:(fs.map (·.1)).Nodup)(h:Q (.ref (-g)) (g++[.cy ((fs.filter (sj n)).map mR)])):cI .oo [.ref a,.int n] g Q:=#[_,_,#[a,n,fs,rfl,hg,hl,nd,rfl,rfl],h]
def yp{c}(hg:g[a]?=!.cy kvs)(hk:ox y=!c)(hv:x6 kvs c=!d)(h:Q d (g.set a (.cy (delD kvs c)))):cI .jx [.ref a,y] g Q:=#[_,_,#[a,y,kvs,c,rfl,hg,hk,hv,rfl],h]
def yZ(hg:g[a]?=!.cy kvs):lQ .jx (.ref a) g:=#[a,kvs,rfl,hg]
def bG9(h:Q (.ref (-g)) (g++[.set (λk=>decide (k=i)) 1])):cI (.kL i) [] g Q:=#[_,_,#[rfl,rfl,rfl],h]
def Ly(hl:d7 g a=!ns.map .int)(h:Q (.int ns.sum) g):cI .sum [.ref a] g Q:=#[_,_,#[a,ns,rfl,hl,rfl,rfl],h]
def Mc(hl:d7 g a=!ns.map .int)(hz:-ns<60)(h:Q (.int (ST.k9 [] ns).length) g):cI .oy [.ref a] g Q:=#[_,_,#[a,ns,rfl,hl,hz,rfl,rfl],h]
def b91(hl:d7 g a=!ns.map .int)(h:Q (.bl (ns.all λn=>n != 0)) g):cI .all [.ref a] g Q:=#[_,_,#[a,_,_,rfl,hl,.inr #[ns,rfl,rfl],rfl,rfl],h]
def FN(c:ph i j)(h:Q (.int (i*2 ^ j.toNat)) g):cI (.bin .LShift) [.int i,.int j] g Q:=#[_,_,.inl #[i,j,_,rfl,#[c,rfl],rfl,rfl],h]
def yT(h:Q (.int (Builtin.bitAnd i j)) g):cI (.bin .BitAnd) [.int i,.int j] g Q:=#[_,_,.inl #[i,j,_,rfl,rfl,rfl,rfl],h]
def Vk(h:Q (.int (Builtin.bitOr i j)) g):cI (.bin .BitOr) [.int i,.int j] g Q:=#[_,_,.inl #[i,j,_,rfl,rfl,rfl,rfl],h]
def HL{σ}{i}{p}{v}(e:σ[i]?=!!x)(h:aY P v σ g (λz g1=>cI p [x,z] g1 λw g2=>N.nx (σ.set i (!w)) g2) E):wpS P (.kh i p v) N σ g E:=#[x,e,h]
def bW6(h:Q (.int (i-j)) g):cI .nN [.int i,.int j] g Q:=#[_,_,#[i,j,rfl,rfl,rfl],h]
def b61{v:Bool}(h:Q (.int (if v then 1 else 0)) g):cI .int [.bl v] g Q:=#[_,_,#[rfl,.inr #[v,rfl,rfl]],h]
def Lf{kvs}{x}(hv:Z0 kvs x=!v)(h:Q v g):cI .om [.tup kvs,.str x] g Q:=#[_,_,#[kvs,x,rfl,hv,rfl],h]
def yU{i}{v}(hl:d7 g i=!l)(hv:se l=!v)(h:Q (.bl v) g):cI .all [.ref i] g Q:=#[_,_,#[i,l,v,rfl,hl,.inl hv,rfl,rfl],h]
def j8{i}{σ}{k}(h:k (σ.set i (!x))):ko (.one i) x σ k:=h
def N6{is}{σ cg}{k}(e:Z4 is l σ=!cg)(h:k cg):ko (.many is) (.tup l) σ k:=#[l,cg,rfl,e,h]
end
def yN:∀(bs:@&Bool),se (bs.map D.bl)=!bs.all id:=by
 intro bs
 induction bs with
 |nil=>rfl
 |cons b r ih=>simp[se,ih]
def call_of{T}{k f}{m}{ds}(hT:T f=!m)(hl:-ds=m.ar)(h:wpS (b7 T k) m.body #[λx g'=>Q .bq g',Q,λx x=>False,λx x=>False] (b8 m ds) g E):b7 T (k+1) f ds g Q E:=#[m,hT,hl,h]
def i7{σ}{a}{f:Nat}{m}{fs}{cs:@&(Str×Nat)}(hg:g[i]?=!.ins c fs)(hf:fs.lookup m=none)(hc:cs.lookup c=!f)(h:fU P a σ g (λxs g2=>P f (.ref i::xs) g2 Q E) E) :
  ∃a' c fs f,D.ref i=.ref a'/\g[a']?=!.ins c fs/\fs.lookup m=none/\cs.lookup c=!f/\fU P a σ g (λxs g2=>P f (.ref i::xs) g2 Q E) E:=#[i,c,fs,f,rfl,hg,hf,hc,h]
def IK.Is(k:IK)(l:@&D)(g:G):Prop:=∀i,k.at i g=some l[i]?
def L4:(IK.fix l).Is l g:=λx=>rfl
def m9(h:d7 g a=!l):(IK.lst a).Is l g:=λi=>by simp only[IK.at,h]
abbrev qw(l:@&D):@&D:=l.mapIdx λi d=>.tup [.int i,d]
def BE(h:d7 g a=!l):(IK.ub a).Is (qw l) g:=λi=>by
 simp only[IK.at,h,qw,List.getElem?_mapIdx]
def bW5(h:d7 g a=!l):(IK.uR a (-l)).Is l.reverse g:=λi=>by
 simp only[IK.at,h,if_true];by_cases hi:i< -l
 .rw[aM hi,List.getElem?_reverse hi]
 .rw[aI hi,bc (_/hi)]
def X7(l:@&D):(qw l).length=-l:=by simp[qw]
def Ax(h:(qw l)[i]?=!x):∃d,l[i]?=!d/\x=.tup [.int i,d]:=by
 rw[qw,List.getElem?_mapIdx,aa] at h;let#[d,h1,h2]:=h;show#[d,h1,h2.symm]
def T4{lo}(h:(E1 lo n)[i]?=!x):i<n/\x=.int (lo+i):=by
 unfold E1 at h;let hi:i<n:=by
  have:=(ak.mp h).1;simpa using this
 rw[ag,dI hi] at h;cases h;show#[hi,rfl]
def N8(lo:Int)(n:Nat):(E1 lo n).length=n:=by simp[E1]
section
variable{σ:S}{it a b c:ME}{s:MS}{t:MT}
def YS{k}{fin}{turn}(I:Nat->S->G->Prop)(hk:∀i σ g,I i σ g->k.Is l g)(h0:I 0 σ g)(hs:∀i x σ g,l[i]?=!x->I i σ g->turn x (I (i+1)) σ g)(hd:∀σ g,I (-l) σ g->fin σ g):turns k σ g fin turn:=by
 show#[λi m σ g=>m=-l-i/\i<=-l/\I i σ g,#[(-l),by simp,cj _,h0],?_];rintro i m σ g ⟨rfl,hi,p⟩;rw[hk i σ g p i];by_cases dP:i< -l
 .rw[aj dP];show .inr #[_,rfl,I (i+1),λcg g' p'=>#[(-l)-(i+1),by omega,rfl,dP,p'],hs i l[i] σ g (aj dP) p]
 .let e:i=-l:=by omega
  subst e;rw[bc (av _)];show .inl #[rfl,hd σ g p]
inductive zj(P:eZ)(t:MT)(s:MS)(N:Ends)(E:KX)(σ:S)(k:IK)(g1:G):Prop
 |mk (l:@&D) (I:Nat->S->G->Prop) (hk:∀i σ g,I i σ g->k.Is l g) (h0:I 0 σ g1)
   (hs:∀i x σ g,l[i]?=!x->I i σ g->ko t x σ λcE=>wpS P s #[I (i+1),N.rt,N.nx,I (i+1)] cE g E) (hd:∀σ g,I (-l) σ g->N.nx σ g):zj P t s N E σ k g1
def L9(hP:j4 P)(h:gR P it σ g (zj P t s N E σ) E):wpS P (.gL t it s) N σ g E :=
 F5 hP it _ _ _ _ _ _ (λk g1 hq=>by let#[l,I,hk,h0,hs,hd]:=hq;show YS I hk h0 hs hd) (λx x z=>z) h
inductive CompI(P:eZ)(t:MT)(cond elt:ME)(E:KX)(Q:KD)(σ:S)(k:IK)(g1:G):Prop
 |mk (l:@&D) (I:Nat->@&D->S->G->Prop) (hl:-l<=1000) (hk:∀i ys σ g,I i ys σ g->k.Is l g/\-ys<=i) (h0:I 0 [] σ g1)
   (hs:∀i x ys σ g,l[i]?=!x->I i ys σ g->ko t x σ λcE=>et P cond cE g (λc g3=>if c=true then aY P elt cE g3 (λy g4=>I (i+1) (ys++[y]) cE g4) E else I (i+1) ys cE g3) jD)
   (hd:∀ys σ g,I (-l) ys σ g->Q (.ref (-g)) (g++[.lst ys])):CompI P t cond elt E Q σ k g1
def M6(hP:j4 P)(h:gR P it σ g (CompI P t cond elt jD Q (P0 σ d8 n)) E):aY P (.comp d8 n t it cond elt) σ g Q E:=by
 show F5 hP it _ _ _ _ _ _ (λk g1 h=>?_) (λx x z=>z) h;let#[l,I,hl,hk,h0,hs,hd]:=h;show#[λi m ys σ g=>m=-l-i/\i<=-l/\I i ys σ g,#[(-l),by simp,cj _,h0],?_];rintro i m ys σ g ⟨rfl,hi,p⟩;let#[rG,hy]:=hk i ys σ g p;rw[rG i];by_cases dP:i< -l
 .rw[aj dP];show .inr #[_,rfl,by omega,E0 (λcE q=>w5 hP cond _ _ _ _ _ _ (λc g3 q=>?_) (λx x z=>z) q) (hs i l[i] ys σ g (aj dP) p)];cases c
  .exact#[(-l)-(i+1),by omega,rfl,dP,by simpa using(show I (i+1) ys cE g3 from q)]
  .exact c9 hP elt _ _ _ _ _ _ (λy g4 q=>#[(-l)-(i+1),by omega,rfl,dP,by simpa using q]) (λx x z=>z) q
 .let e:i=-l:=by omega
  subst e;rw[bc (av _)];show .inl #[rfl,hd ys σ g p]
inductive zd(P:eZ)(t:MT)(cond elt:ME)(Q:KD)(σ:S)(k:IK)(g1:G):Prop
 |mk (l:@&D) (I:Nat->@&Int->S->G->Prop) (hl:-l<60) (hk:∀i ys σ g,I i ys σ g->k.Is l g/\-ys<=i) (h0:I 0 [] σ g1)
   (hs:∀i x ys σ g,l[i]?=!x->I i ys σ g->ko t x σ λcE=>et P cond cE g (λc g3=>if c=true then aY P elt cE g3 (λy g4=>∃j,y=.int j/\I (i+1) (ys++[j]) cE g4) jD else I (i+1) ys cE g3) jD)
   (hd:∀ys σ g,I (-l) ys σ g->Q (.ref (-g)) (g++[.lst ((p9 ys).map .int)])):zd P t cond elt Q σ k g1
def Oq(hP:j4 P)(h:gR P it σ g (zd P t cond elt Q (P0 σ d8 n)) E):aY P (.ir d8 n t it cond elt) σ g Q E:=by
 show F5 hP it _ _ _ _ _ _ (λk g1 h=>?_) (λx x z=>z) h;let#[l,I,hl,hk,h0,hs,hd]:=h;show#[λi m ys σ g=>m=-l-i/\i<=-l/\I i ys σ g,#[(-l),by simp,cj _,h0],?_];rintro i m ys σ g ⟨rfl,hi,p⟩;let#[rG,hy]:=hk i ys σ g p;rw[rG i];by_cases dP:i< -l
 .rw[aj dP];show .inr #[_,rfl,by omega,E0 (λcE q=>w5 hP cond _ _ _ _ _ _ (λc g3 q=>?_) (λx x z=>z) q) (hs i l[i] ys σ g (aj dP) p)];cases c
  .exact#[(-l)-(i+1),by omega,rfl,dP,by simpa using(show I (i+1) ys cE g3 from q)]
  .refine c9 hP elt _ _ _ _ _ _ (λy g4 q=>?_) (λx x z=>z) q;let#[j,e,q]:=q;show#[j,e,(-l)-(i+1),by omega,rfl,dP,by simpa using q]
 .let e:i=-l:=by omega
  subst e;rw[bc (av _)];show .inl #[rfl,by omega,hd ys σ g p]
def a39(hP:j4 P)(h:aY P a σ g (λx g1=>∃j:Nat,x=.int j/\j<=1000/\∃I:Nat->@&D->S->G->Prop,I 0 [] (P0 σ d8 n) g1/\(∀i ys σ g,I i ys σ g->-ys<=i) /\
      (∀(i:Nat) ys σ g,i<j->I i ys σ g->ko t (.int i) σ λcE=>et P cond cE g (λc g3=>if c=true then aY P elt cE g3 (λy g4=>I (i+1) (ys++[y]) cE g4) jD else I (i+1) ys cE g3) jD) /\
      ∀ ys σ g,I j ys σ g->Q (.ref (-g)) (g ++ [.lst ys])) E):aY P (.comp d8 n t (.fo a) cond elt) σ g Q E:=by
  show M6 hP ?_;show c9 hP a _ _ _ _ _ _ (λx g1 h=>?_) (λw w z=>z) h;let#[j,rfl,hj,I,h0,hz,hs,hd]:=h;show#[j,rfl,by omega,by omega,_,I,by rw[N8];simpa using hj,λi ys σ g p=>#[L4,hz i ys σ g p],h0,λi x ys σ g hx p=>?_,λys σ g p=>hd ys σ g (by rw[N8] at p;simpa using p)];let#[hi,rfl]:=T4 hx;rw[show(0:Int)+(i:Int)=i by omega];show hs i ys σ g (_/hi) p
def Ip(I:Nat->S->G->Prop)(m0:Nat)(h0:I m0 σ g)(hs:∀m σ g,I m σ g->et P c σ g (λt g1=>if t=true then wpS P s #[λcg g'=>∃m',m'<m/\I m' cg g',N.rt,N.nx,λcg g'=>∃m',m'<m/\I m' cg g'] σ g1 E else N.nx σ g1) E)(hP:j4 P):wpS P (.jW c s) N σ g E:=by
 show#[I,#[m0,h0],λm σ g p=>w5 hP c _ _ _ _ _ _ (λt g1 q=>?_) (λx x z=>z) (hs m σ g p)];cases t
 .exact q
 .exact#[_,λx x z=>z,q]
def yP(hP:j4 P)(h:aY P a σ g (λx g1=>∃j:Int,x=.int j/\-(2 ^ 62)<=j/\j<2 ^ 62/\R (.fix (E1 0 j.toNat)) g1) E):gR P (.fo a) σ g R E:=h
def VG(hP:j4 P)(h:aY P a σ g (λx g1=>aY P b σ g1 (λy g2=>∃i j:Int,x=.int i/\y=.int j/\(-(2 ^ 62)<=i/\i<2 ^ 62/\-(2 ^ 62)<=j/\j<2 ^ 62)/\R (.fix (E1 i (j-i).toNat)) g2) E) E):gR P (.jJ a b) σ g R E:=h
def zP(hP:j4 P)(h:aY P a σ g (λx g1=>∃l,x=.tup l/\R (.fix l) g1) E):gR P (.eQ a) σ g R E:=by
 show c9 hP a _ _ _ _ _ _ (λx g1 h=>.inl h) (λy y z=>z) h
def iV(hP:j4 P)(h:aY P a σ g (λx g1=>∃i l,x=.ref i/\d7 g1 i=!l/\R (.lst i) g1) E):gR P (.eQ a) σ g R E:=by
 show c9 hP a _ _ _ _ _ _ (λx g1 h=>.inr h) (λy y z=>z) h
def SN(h:aY P a σ g (λx g1=>∃i l,x=.ref i/\d7 g1 i=!l/\R (.uR i (-l)) g1) E):gR P (.oO a) σ g R E:=h
def CU(h:aY P a σ g (λx g1=>∃i l,x=.ref i/\d7 g1 i=!l/\R (.ub i) g1) E):gR P (.lF a) σ g R E:=h
end
end M
namespace M
open PySem L2 PySem.Spec PyProof.Rows
variable{K:PySem.W.Frag}{x:Str}{C:Addr}
structure RF where
 id:Nat
 nm:Str
 N:@&Str
 k:Nat
 i:Nat
 m:aQ
structure RM where
 id:Nat
 cl:Str
 nm:Str
 qn:Str
 N:@&Str
 k:Nat
 i:Nat
 j:Nat
 m:aQ
def RF.d(tp:Nat->Stmt)(r:RF):qV:=#[r.nm,r.nm,r.N,r.N.take r.k,tp r.i]
def RM.d(mt:Nat->Nat->Stmt)(r:RM):qV:=#[r.nm,r.qn,r.N,r.N.take r.k,mt r.i r.j]
abbrev vR(F:@&RF)(M:@&RM)(i:Nat):Option aQ:=match F.find? λr=>Nat.beq r.id i with
 |some r=>!r.m
 |none=>(M.find? λr=>Nat.beq r.id i).map (·.m)
section
variable(tp:Nat->Stmt)(mt:Nat->Nat->Stmt)(K:PySem.W.Frag)
abbrev PF:@&RF->Prop
 |[]=>True
 |r::l=>(∃f fd,PySem.W.nsIn K mainGlobals r.nm=!!.ref f/\sC K r.nm r.nm (tp r.i) f fd)/\PF l
abbrev PM:@&RM->Prop
 |[]=>True
 |r::l=>(∃C f fd,PySem.W.nsIn K mainGlobals r.cl=!!.ref C/\Meth K C r.nm f/\sC K r.nm r.qn (mt r.i r.j) f fd)/\PM l
abbrev PC:@&(Str×Nat)->Prop
 |[]=>True
 |r::l=>(∃C,PySem.W.nsIn K mainGlobals r.1=!!.ref C/\jE K C/\PySem.W.makesIn K C=true/\PySem.W.keepIn K (.ref C)=true)/\PC l
abbrev PA:@&(Str×Str)->Prop
 |[]=>True
 |r::l=>(∃C,PySem.W.nsIn K mainGlobals r.2=!!.ref C/\PySem.W.findIn K (.ref C) r.1=!none)/\PA l
abbrev PB:@&Str->Prop
 |[]=>True
 |r::l=>PySem.W.nsIn K mainGlobals r=!none/\PB l
abbrev PX:@&Str->Prop
 |[]=>True
 |r::l=>(∃C,PySem.W.nsIn K mainGlobals r=!!.ref C/\PySem.W.excIn K C [.type "ValueError",.type "Exception",.type "BaseException",.type "object"] "ValueError.__new__"=true)/\PX l
abbrev BF:@&RF->Prop
 |[]=>True
 |r::l=>(∀(kV doc pm:Value) (an:Option Addr) (gf ct:Value) (us:@&Value),(-us)=(r.N.take r.k).length->bindArgs (PySem.W.fnOf r.nm r.nm (I9 (tp r.i)) (v9 (tp r.i)) (u7 (tp r.i)) .none kV doc pm an gf ct) #[us,[]]=pure ((r.N.take r.k).zip us))/\BF l
abbrev BM:@&RM->Prop
 |[]=>True
 |r::l=>(∀(kV doc pm:Value) (an:Option Addr) (gf ct:Value) (us:@&Value),(-us)=(r.N.take r.k).length->bindArgs (PySem.W.fnOf r.nm r.qn (I9 (mt r.i r.j)) (v9 (mt r.i r.j)) (u7 (mt r.i r.j)) .none kV doc pm an gf ct) #[us,[]]=pure ((r.N.take r.k).zip us))/\BM l
abbrev YF(c:j6):@&RF->Prop
 |[]=>True
 |r::l=>A9 (comp 60) (c.at (r.d tp)) (v9 (tp r.i))=!r.m.body/\YF c l
abbrev YM(c:j6):@&RM->Prop
 |[]=>True
 |r::l=>A9 (comp 60) (c.at (r.d mt)) (v9 (mt r.i r.j))=!r.m.body/\YM c l
end
section
variable{tp:Nat->Stmt}{mt:Nat->Nat->Stmt}{c:j6}{id k i j:Nat}{cl nm qn:Str}{N:@&Str}{m:aQ}{f:Addr}{oc kV doc pm gf ct:Value}{od an:Option Addr}{mZ:Array (Option Value)}
def PF.nil:PF tp K []:=trivial
def PF.cons{l}(a:PySem.W.nsIn K mainGlobals nm=!!.ref f)(lk:K.lookup f=!#[oc,od,.func (PySem.W.fnOf nm nm (I9 (tp i)) (v9 (tp i)) (u7 (tp i)) .none kV doc pm an gf ct),mZ])(cd:PySem.W.codeIn K gf nm=true)(kp:PySem.W.keepIn K (.ref f)=true)(h:PF tp K l):PF tp K (#[id,nm,N,k,i,m]::l):=#[#[f,_,a,Ma lk cd kp],h]
def PM.nil:PM mt K []:=trivial
def PM.cons{l}(c0:PySem.W.nsIn K mainGlobals cl=!!.ref C)(a:PySem.W.findIn K (.ref C) nm=!!.ref f)(af:PySem.W.isFn K (.ref f)=true)(lk:K.lookup f=!#[oc,od,.func (PySem.W.fnOf nm qn (I9 (mt i j)) (v9 (mt i j)) (u7 (mt i j)) .none kV doc pm an gf ct),mZ])(cd:PySem.W.codeIn K gf qn=true)(kp:PySem.W.keepIn K (.ref f)=true)(h:PM mt K l):PM mt K (#[id,cl,nm,qn,N,k,i,j,m]::l):=#[#[C,f,_,c0,#[a,af,kp],Ma lk cd kp],h]
def PC.nil:PC K []:=trivial
def PC.cons{l}(cn:PySem.W.nsIn K mainGlobals x=!!.ref C)(cp:PySem.W.plainGet K C Str.empty=true)(Vg:PySem.W.hasDictIn K C=true)(Vd:PySem.W.plainOver K C=true)(Vc:PySem.W.findIn K (.ref C) "__setattr__"=!!(.builtin "object.__setattr__"))(Ve:PySem.W.makesIn K C=true)(Vf:PySem.W.keepIn K (.ref C)=true)(h:PC K l):PC K ((x,i)::l):=#[#[C,cn,#[cp,Vg,Vd,Vc],Ve,Vf],h]
def PA.nil:PA K []:=trivial
def PA.cons{l}(cn:PySem.W.nsIn K mainGlobals x=!!.ref C)(fl:PySem.W.findIn K (.ref C) nm=!none)(h:PA K l):PA K ((nm,x)::l):=#[#[C,cn,fl],h]
def PB.nil:PB K []:=trivial
def PB.cons{l}(cn:PySem.W.nsIn K mainGlobals x=!none)(h:PB K l):PB K (x::l):=#[cn,h]
def PX.nil:PX K []:=trivial
def PX.cons{l}(cn:PySem.W.nsIn K mainGlobals x=!!.ref C)(q:PySem.W.excIn K C [.type "ValueError",.type "Exception",.type "BaseException",.type "object"] "ValueError.__new__"=true)(h:PX K l):PX K (x::l):=#[#[C,cn,q],h]
def Jq{P:@&Value->Prop}{n:Nat}(h:∀a vs,(-vs)=n->P (a::vs))(us:@&Value)(hl:-us=n+1):P us:=by
 cases us with
 |nil=>cases hl
 |cons a vs=>show h a vs (Nat.succ.inj hl)
def Jp{P:@&Value->Prop}(h:P [])(us:@&Value)(hl:-us=0):P us:=by
 simp_all
def BF.nil:BF tp []:=trivial
def BF.cons{l}(h:∀(kV doc pm:Value) (an:Option Addr) (gf ct:Value) (us:@&Value),(-us)=(N.take k).length->bindArgs (PySem.W.fnOf nm nm (I9 (tp i)) (v9 (tp i)) (u7 (tp i)) .none kV doc pm an gf ct) #[us,[]]=pure ((N.take k).zip us))(h2:BF tp l):BF tp (#[id,nm,N,k,i,m]::l):=#[h,h2]
def BM.nil:BM mt []:=trivial
def BM.cons{l}(h:∀(kV doc pm:Value) (an:Option Addr) (gf ct:Value) (us:@&Value),(-us)=(N.take k).length->bindArgs (PySem.W.fnOf nm qn (I9 (mt i j)) (v9 (mt i j)) (u7 (mt i j)) .none kV doc pm an gf ct) #[us,[]]=pure ((N.take k).zip us))(h2:BM mt l):BM mt (#[id,cl,nm,qn,N,k,i,j,m]::l):=#[h,h2]
def YF.nil:YF tp c []:=trivial
def YF.cons{l}(h:A9 (comp 60) (c.at #[nm,nm,N,N.take k,tp i]) (v9 (tp i))=!m.body)(h2:YF tp c l):YF tp c (#[id,nm,N,k,i,m]::l):=#[h,h2]
def YM.nil:YM mt c []:=trivial
def YM.cons{l}(h:A9 (comp 60) (c.at #[nm,qn,N,N.take k,mt i j]) (v9 (mt i j))=!m.body)(h2:YM mt c l):YM mt c (#[id,cl,nm,qn,N,k,i,j,m]::l):=#[h,h2]
def YF.get:∀{l:@&RF},YF tp c l->∀r∈l,A9 (comp 60) (c.at (r.d tp)) (v9 (tp r.i))=!r.m.body
 |_::_,h,r,hr=>(aJ.mp hr).elim (λz=>z▸h.1) (YF.get h.2 r)
def YM.get:∀{l:@&RM},YM mt c l->∀r∈l,A9 (comp 60) (c.at (r.d mt)) (v9 (mt r.i r.j))=!r.m.body
 |_::_,h,r,hr=>(aJ.mp hr).elim (λz=>z▸h.1) (YM.get h.2 r)
def PF.get:∀{l:@&RF},PF tp K l->∀r∈l,∃f fd,PySem.W.nsIn K mainGlobals r.nm=!!.ref f/\sC K r.nm r.nm (tp r.i) f fd
 |_::_,h,r,hr=>(aJ.mp hr).elim (λz=>z▸h.1) (PF.get h.2 r)
def PM.get:∀{l:@&RM},PM mt K l->∀r∈l,∃C f fd,PySem.W.nsIn K mainGlobals r.cl=!!.ref C/\Meth K C r.nm f/\sC K r.nm r.qn (mt r.i r.j) f fd
 |_::_,h,r,hr=>(aJ.mp hr).elim (λz=>z▸h.1) (PM.get h.2 r)
def PC.get:∀{l:@&(Str×Nat)},PC K l->∀r∈l,∃C,PySem.W.nsIn K mainGlobals r.1=!!.ref C/\jE K C/\PySem.W.makesIn K C=true/\PySem.W.keepIn K (.ref C)=true
 |_::_,h,r,hr=>(aJ.mp hr).elim (λz=>z▸h.1) (PC.get h.2 r)
def PA.get:∀{l:@&(Str×Str)},PA K l->∀r∈l,∃C,PySem.W.nsIn K mainGlobals r.2=!!.ref C/\PySem.W.findIn K (.ref C) r.1=!none
 |_::_,h,r,hr=>(aJ.mp hr).elim (λz=>z▸h.1) (PA.get h.2 r)
def PB.get:∀{l:@&Str},PB K l->∀r∈l,PySem.W.nsIn K mainGlobals r=!none
 |_::_,h,r,hr=>(aJ.mp hr).elim (λz=>z▸h.1) (PB.get h.2 r)
def PX.get:∀{l:@&Str},PX K l->∀r∈l,∃C,PySem.W.nsIn K mainGlobals r=!!.ref C/\PySem.W.excIn K C [.type "ValueError",.type "Exception",.type "BaseException",.type "object"] "ValueError.__new__"=true
 |_::_,h,r,hr=>(aJ.mp hr).elim (λz=>z▸h.1) (PX.get h.2 r)
def BF.get:∀{l:@&RF},BF tp l->∀r∈l,∀(kV doc pm:Value) (an:Option Addr) (gf ct:Value) (us:@&Value),(-us)=(r.N.take r.k).length->bindArgs (PySem.W.fnOf r.nm r.nm (I9 (tp r.i)) (v9 (tp r.i)) (u7 (tp r.i)) .none kV doc pm an gf ct) #[us,[]]=pure ((r.N.take r.k).zip us)
 |_::_,h,r,hr=>(aJ.mp hr).elim (λz=>z▸h.1) (BF.get h.2 r)
def BM.get:∀{l:@&RM},BM mt l->∀r∈l,∀(kV doc pm:Value) (an:Option Addr) (gf ct:Value) (us:@&Value),(-us)=(r.N.take r.k).length->bindArgs (PySem.W.fnOf r.nm r.qn (I9 (mt r.i r.j)) (v9 (mt r.i r.j)) (u7 (mt r.i r.j)) .none kV doc pm an gf ct) #[us,[]]=pure ((r.N.take r.k).zip us)
 |_::_,h,r,hr=>(aJ.mp hr).elim (λz=>z▸h.1) (BM.get h.2 r)
end
def zF(N P:@&Str)(sc:Scope):Bool:=decide (sc.kind=.function)&&~~~sc.isCoroutine&&~~~sc.isGenerator&&decide N.Nodup&&decide (N.take (-P)=P)&&P.all (λx=>decide (sc.names.lookup x=!.local)||decide (sc.names.lookup x=!.cell))&&sc.names.all λy=>decide (y.2≠.free)
def Mj{N P}{sc}(h:zF N P sc=true):jq N P sc:=by
 unfold zF at h;simp only[Bool.and_eq_true,decide_eq_true_eq,Bool.not_eq_true',List.all_eq_true,Bool.or_eq_true] at h;let#[#[#[#[#[#[h1,h2],h3],h4],h5],h6],h7]:=h;show#[h1,h2,h3,h4,h5,h6,h7]
set_option tactic.hygienic true in
def ZO{h₀}{mg}{LM}{newId}(X:K.In h₀)(G:h₀.Ns mainGlobals mg)(e:PySem.W.nsIn K mainGlobals x=!!.ref C)(q:PySem.W.excIn K C LM newId=true):PyProof.Rows.OwnCls x C LM newId mg h₀:=by
 show#[cv X G e,?_];unfold PySem.W.excIn at q;split at q
 .rename_i dd cd sl ho;split at q
  .rename_i C' bm k0 k1 k2 k3 n k5 hm hs;simp only[Bool.and_eq_true,beq_iff_eq,Bool.not_eq_true'] at q;let#[#[#[#[#[z1,z2],xq],ht],bR],zW]:=q;subst z1;subst z2;let#[nm,bs,mro,ns,qn,hd,sn,sub,ab,col,del]:=cd;dsimp only at hm xq bR zW;subst hm xq;let kz:sl=(List.toArray [k0,k1,k2,k3,!.builtin n,k5]):=by
    let#[l]:=sl;simp only at hs;rw[hs]
   subst kz;show#[bm,ns,nm,qn,bs,hd,sn,sub,ab,col,dd,k0,k1,k2,k3,k5,_,X _ _ ho,.of_isNs (PySem.W.isNs_of_in X bR),PySem.W.nsMap_none_of_in X bR zW,PySem.W.tail_of_in X ht]
  .cases q
 .cases q
abbrev vE(K:PySem.W.Frag)(x:Str):Addr:=match PySem.W.nsIn K mainGlobals x with
 |some (!.ref C)=>C
 |_=>0
def QG(K:PySem.W.Frag)(exc:@&Str):Bool:=exc.all λx=>exc.all λy=>decide (PySem.W.exmOne K (.ref (vE K x)) (.ref (vE K y))=!decide (x=y\/y="MintError"))
def bX5{exc}(h:QG K exc=true){y}{C'}(hx:exc.contains x=true)(hy:exc.contains y=true)(hC:w9 K x C)(Kz:w9 K y C'):PySem.W.exmOne K (.ref C) (.ref C')=!decide (x=y\/y="MintError"):=by
 let h1:=bG.mp h x (_/hx);let h2:=aP (bG.mp h1 y (_/hy));let e1:vE K x=C:=by unfold vE;simp_all
 let e2:vE K y=C':=by unfold vE;simp_all
 rw[e1,e2] at h2;show h2
def Ie{α:Type}{f:α->Nat}:∀{l:List α},(l.map f).Nodup->∀r∈l,l.find? (λx=>Nat.beq (f x) (f r))=!r
 |y::l,nd,r,hr=>by
  rw[bD,dA] at nd;rcases aJ.mp hr with rfl|hr
  .rw[List.find?_cons_of_pos];show Nat.beq_refl _
  .rw[List.find?_cons_of_neg]
   .exact Ie nd.2 r hr
   .intro z;show nd.1 (ax.mpr #[r,hr,(jr z).symm])
def bJ7{α β:Type}{f:α->Nat}{g:β->Nat}{l:List α}{r:β}(h:g r∉l.map f):l.find? (λx=>Nat.beq (f x) (g r))=none:=by
 rw[RB];intro x hx z;show h (ax.mpr #[x,hx,jr z])
section
variable{w:World}{h₀:Heap}{mg:Str->Option Value}{c:j6}{F:@&RF}{M:@&RM}{tp:Nat->Stmt}{mt:Nat->Nat->Stmt}
structure mh(K:PySem.W.Frag)(c:j6)(F:@&RF)(M:@&RM)(tp:Nat->Stmt)(mt:Nat->Nat->Stmt):Prop where
 qF:PF tp K F
 qM:PM mt K M
 qC:PC K c.cls
 qA:PA K c.pb
 qB:PB K c.blt
 qX:PX K c.exc
 xm:QG K c.exc=true
structure mf(c:j6)(F:@&RF)(M:@&RM)(tp:Nat->Stmt)(mt:Nat->Nat->Stmt):Prop where
 cf:c.fns=F.map λr=>(r.nm,r.id)
 cm:c.oN=M.map λr=>(r.nm,r.cl,r.id)
 ci:c.cls.all (λy=>M.any λr=>decide (r.cl=y.1)&&decide (r.nm="__init__")&&Nat.beq r.id y.2)=true
 nd:(F.map (·.id)++M.map (·.id)).Nodup
 sF:F.all (λr=>zF r.N (r.N.take r.k) (u7 (tp r.i))&&decide (r.m.ar=(r.N.take r.k).length)&&decide (r.m.n=-r.N))=true
 sM:M.all (λr=>zF r.N (r.N.take r.k) (u7 (mt r.i r.j))&&decide (r.m.ar=(r.N.take r.k).length)&&decide (r.m.n=-r.N))=true
 oF:YF tp c F
 oM:YM mt c M
 bF:BF tp F
 bM:BM mt M
def Od(I:mh K c F M tp mt)(X:mf c F M tp mt)(r:RF)(hr:r∈F):∃f fd,jQ K c (r.d tp) r.m f fd/\PySem.W.nsIn K mainGlobals r.nm=!!.ref f/\vR F M r.id=!r.m:=by
 let#[f,fd,a,q]:=I.qF.get r hr;let s:=bG.mp X.sF r hr;simp only[Bool.and_eq_true,decide_eq_true_eq] at s;let o:=X.oF.get r hr;show#[f,fd,#[q,q.binds (X.bF.get r hr),Mj s.1.1,o,s.1.2,s.2],a,?_];unfold vR;rw[Ie (cV.mp X.nd).1 r hr]
def Oe(I:mh K c F M tp mt)(X:mf c F M tp mt)(r:RM)(hr:r∈M):∃C f fd,jQ K c (r.d mt) r.m f fd/\PySem.W.nsIn K mainGlobals r.cl=!!.ref C/\Meth K C r.nm f/\vR F M r.id=!r.m:=by
 let#[C,f,fd,a,q1,q]:=I.qM.get r hr;let s:=bG.mp X.sM r hr;simp only[Bool.and_eq_true,decide_eq_true_eq] at s;let o:=X.oM.get r hr;show#[C,f,fd,#[q,q.binds (X.bM.get r hr),Mj s.1.1,o,s.1.2,s.2],a,q1,?_];let nd:=cV.mp X.nd;unfold vR;rw[bJ7 (λz=>nd.2.2 _ z _ (ax.mpr #[r,hr,rfl]) rfl),Ie nd.2.1 r hr]
 rfl
def bM2(I:mh K c F M tp mt)(Y:mf c F M tp mt)(X:K.In h₀)(G:h₀.Ns mainGlobals mg)(con:∀x d,c.con.lookup x=!d->∃v u,mg x=!u/\RelV v u/\∀ρ H,f9 K ρ H d v)(tY:∀x kvs,c.gd.lookup x=!kvs->∃A vs,mg x=!.ref A/\Bj K w.params A vs/\rX K kvs vs):oB w K mg c (vR F M):=by
 show#[λx i hx=>?_,λx i hx=>?_,λx y i C hx hC=>?_,λf y C hx hC=>?_,con,λx hx=>?_,λx hx=>?_,λx y C C' hx hy hC Kz=>bX5 I.xm hx hy hC Kz,tY]
 .let hm:=aR hx;rw[Y.cf] at hm;let#[r,hr,e]:=ax.mp hm;cases e;let#[f,fd,O,a,t]:=Od I Y r hr;show#[_,_,f,fd,t,O,cv X G a]
 .let hm:=aR hx;let h1:=bG.mp Y.ci _ hm;let#[r,hr,e]:=bO.mp h1;simp only[Bool.and_eq_true,decide_eq_true_eq] at e;let#[#[e1,e2],e3]:=e;let e3:=jr e3;let#[C,f,fd,O,a,q,t]:=Oe I Y r hr;let#[C',a',hc,mk,kp]:=I.qC.get _ hm;rw[e1] at a;cases a.symm.trans a';rw[e2] at q;rw[e3] at t;show#[C,_,_,f,fd,t,O,cv X G a,a,hc,#[mk,q.at_,q.fn,kp]]
 .rw[Y.cm] at hx;let#[r,hr,e]:=ax.mp hx;cases e;let#[C',f,fd,O,a,q,t]:=Oe I Y r hr;cases a.symm.trans hC;show#[_,_,f,fd,t,O,q]
 .let#[C',a,q]:=I.qA.get _ hx;cases a.symm.trans hC;show q
 .exact PySem.W.mg_none_of X G (I.qB.get x (_/hx))
 .let#[C,a,q]:=I.qX.get x (_/hx);show#[_,cv X G a,a,λbase nL xN=>#[_,_,_,_,ZO nL xN a q,PySem.F.excBase_ValueError]]
end
end M
namespace M
open PySem L2
variable{g g':G}{i j n k a b m r c lo p q hd cl lc lf qc qf gv lr hl:Nat}{o o':O}{P:eZ}{Q:KD}{E:KX}{N:Ends}{ms ns ds:@&Int}{l d8 H as:@&Nat}{α:Type}{x:Str}{y e dd:D}{kb:Bool->Prop}{cs:@&b9}{f v u:Int}{t:MT}{it elt:ME}{w:RW}{rs:@&gn}{hs:Hs}{fs:Fs}{kvs:@&(Key×D)}{ls:@&(@&D)}
set_option hygiene false
local macro_rules|`(tactic|delta $x:ident)=>`(tactic|dsimp[$x:ident,b8,List.replicate])
open Lean Parser.Tactic in
local macro_rules|`(tactic|walk_at"w1")=>do
 let q<-`(?_)
 let N:=fun k (l:List Syntax)=>Syntax.node .none k l.toArray
 let a:Array (TSyntax ``tacticSeq):=([`HP,`II,`LK,`bZ8,`Mx,`bZ5,`Ot,`bL0,`LJ,`HN,`Cs,`w_lit,`qQ,`vS,`b96,`bL1,`bB8,`w_and,`w_or,`w_not,`w_ite,`HM,`bL2,`bB7,`By,`vD,`bK9,`bZ7,`bK8,`O6,`LL,`b93,`b92,`bZ9,`Vt,`Vs,`Vr,`Vq,`b87,`Nn,`b88,`b77,`b86,`b83,`b81,`b82,`b79,`b78,`b80,`uk,`b85,`La,`KY,`KZ,`Nm,`b99,`Aw,`bW8,`jv,`qK,`MK,`VH,`JN,`Cw,`bO2,`bO3,`Jz,`b46,`Jr].map fun n=>⟨N ``tacticSeq [N ``tacticSeq1Indented [mkNullNode [N ``refine [mkAtom "refine",Syntax.mkApp (mkIdent n) [q].toArray]].toArray]]⟩).toArray
 `(tactic|with_reducible first|(refine w_var (d:=?_) ?_ ?_;rotate_left;·with_unfolding_all rfl)$[|$a]*)
local macro_rules|`(tactic|walk_at"w2")=>`(tactic|repeat(with_reducible first|walk_at "w1"|refine IF (by simp) ?_|refine Bw (by simp) ?_|refine u4 (a7 (by assumption)) (by with_unfolding_all rfl) ?_|refine uB (a7 (by assumption)) ?_|refine Bk (by unfold ph;decide) ?_))
local macro_rules|`(tactic|walk_at"w3")=>`(tactic|repeat(with_reducible first|walk_at "w1"|refine IF (by simp) ?_|refine Bw (by simp) ?_|refine u4 (a7 (by assumption)) (by with_unfolding_all rfl) ?_|refine uB (a7 (by assumption)) ?_|refine Bk (by unfold ph;decide) ?_|refine And.intro (show List.length _ <= 1000 from by simp) ?_|refine N6 (by with_unfolding_all rfl) ?_|refine j8 ?_|refine E7 (by with_unfolding_all rfl) ?_))
open Lean Parser.Tactic in
local macro_rules|`(tactic|walk_at"")=>do
 let q<-`(?_)
 let N:=fun k (l:List Syntax)=>Syntax.node .none k l.toArray
 let a:Array (TSyntax ``tacticSeq):=([`bB6,`bZ6,`My,`KW,`b07,`Js,`max2,`min2,`b61,`nt,`US,`KI,`j8,`CU].map fun n=>⟨N ``tacticSeq [N ``tacticSeq1Indented [mkNullNode [N ``refine [mkAtom "refine",Syntax.mkApp (mkIdent n) [q].toArray]].toArray]]⟩).toArray
 `(tactic|repeat(with_reducible first|walk_at "w1"|refine IF (by simp) ?_|refine Bw (by simp) ?_|refine u4 (a7 (by assumption)) (by with_unfolding_all rfl) ?_|refine uB (a7 (by assumption)) ?_|refine Bk (by unfold ph;decide) ?_|refine And.intro (show List.length _ <= 1000 from by simp) ?_|refine N6 (by with_unfolding_all rfl) ?_|refine E7 (by with_unfolding_all rfl) ?_|refine And.intro (HA (by assumption)) ?_|refine And.intro (HB (by assumption)) ?_|refine And.intro (SE (by assumption)) ?_|refine rZ (by decide) ?_|refine Ho (by decide) (by decide) ?_$[|$a]*))
set_option hygiene true
@[inline]abbrev gb(a:ME):ME:=.cons a .nil
@[inline]abbrev wg(a b:ME):ME:=.cons a (.cons b .nil)
@[inline]abbrev mD(a b c:ME):ME:=.cons a (.cons b (.cons c .nil))
@[inline]abbrev sI(a b c d:ME):ME:=.cons a (.cons b (.cons c (.cons d .nil)))
@[inline]abbrev rf(a b c d e:ME):ME:=.cons a (.cons b (.cons c (.cons d (.cons e .nil))))
@[inline]abbrev Ji(a b c d e f:ME):ME:=.cons a (.cons b (.cons c (.cons d (.cons e (.cons f .nil)))))
@[inline]abbrev Ck(a b c d e f g:ME):ME:=.cons a (.cons b (.cons c (.cons d (.cons e (.cons f (.cons g .nil))))))
@[inline]abbrev eT(f:Nat)(a:ME):ME:=.call f (.cons a .nil)
@[inline]abbrev dq(f:Nat)(a b:ME):ME:=.call f (.cons a (.cons b .nil))
@[inline]abbrev gh(f:Nat)(a b c:ME):ME:=.call f (.cons a (.cons b (.cons c .nil)))
@[inline]abbrev CG(f:Nat)(a b c d:ME):ME:=.call f (.cons a (.cons b (.cons c (.cons d .nil))))
@[inline]abbrev cK(o:PySem.CmpOp)(a b:ME):ME:=.eP (.prim (.cmp o) (.cons a (.cons b .nil)))
@[inline]abbrev dE(a:ME)(b c:MS):MS:=.seq (.ifs a b .pass) c
@[inline]abbrev oh(t:MT)(a:ME)(b c:MS):MS:=.seq (.gL t a b) c
@[inline]abbrev bw(a b:ME):ME:=.prim .ix (.cons a (.cons b .nil))
@[inline]abbrev aT(a:Int):ME:=.lit (.int a)
@[inline]abbrev bY(a:PySem.Str):ME:=.lit (.str a)
@[inline]abbrev bZ(p:Pr)(a:ME):ME:=.prim p (.cons a .nil)
@[inline]abbrev bV(p:Pr)(a b:ME):ME:=.prim p (.cons a (.cons b .nil))
@[inline]abbrev bN(a:ME):MS:=.seq (.ret a) .pass
@[inline]abbrev eE(a:MS):MS:=.seq a .pass
@[inline]abbrev gi(a b:MS):MS:=.seq a b
@[inline]abbrev dH(n:Nat)(a:ME)(b:MS):MS:=.seq (.set n a) b
@[inline]abbrev ay:ME:=.var 0
@[inline]abbrev aN:ME:=.var 1
@[inline]abbrev aV:ME:=.var 2
@[inline]abbrev bz:ME:=.var 3
@[inline]abbrev da:ME:=.var 4
@[inline]abbrev dY:ME:=.var 5
@[inline]abbrev fQ:ME:=.var 6
@[inline]abbrev kR:ME:=.var 7
@[inline]abbrev sZ:ME:=.var 8
@[inline]abbrev pS:ME:=.var 9
@[inline]abbrev jn(a:ME)(b:MS):MS:=.seq (.expr a) b
def T1:aQ:=#[2,5,(dE (.dZ (cK .Lt (bw ay (aT 2)) aN) (cK .Lt (bw ay (aT 1)) (bZ .len (bw ay (aT 0))))) (dH 2 (bw (bw ay (aT 0)) (bw ay (aT 1))) (gi (.df ay (aT 1) (bV (.bin .Add) (bw ay (aT 1)) (aT 1))) (gi (.df ay (aT 2) (aT 0)) (eE (.ifs (cK .GtE aV (bV (.bin .Pow) (aT 10) (aT 18))) (eE (.df ay (aT 2) aV)) (eE (.df ay (aT 3) (bV (.bin .Mod) (bV (.bin .Add) (bV (.bin .Add) (bV (.bin .Mult) (bw ay (aT 3)) (aT 48271)) (bV (.bin .Mult) (bV (.bin .Mod) aV (aT 2147483629)) (aT 69621))) (aT 12345)) (aT 2147483647))))))))) (dE (cK .GtE (bw ay (aT 2)) aN) (dH 3 (bV (.bin .Mod) (bw ay (aT 2)) aN) (gi (.df ay (aT 2) (bV (.bin .FloorDiv) (bw ay (aT 2)) aN)) (bN bz))) (dH 4 (bw ay (aT 3)) (gi (.df ay (aT 3) (bV (.bin .Mod) (bV (.bin .Add) (bV (.bin .Add) (bV (.bin .Mult) (bV (.bin .Mod) (bV (.bin .Mult) da da) (aT 2147483629)) (aT 5)) (bV (.bin .Mult) da (aT 16811))) (aT 2531011)) (aT 2147483647))) (bN (bV (.bin .Mod) (bV (.bin .Add) (bV (.bin .FloorDiv) (bw ay (aT 3)) (aT 59)) (bV (.bin .Mult) (bV (.bin .Mod) (bw ay (aT 3)) (aT 8191)) (aT 31))) aN))))))]
def uu:aQ:=#[1,2,(dH 1 (dq 4 ay (bV (.bin .Pow) (aT 10) (aT 9))) (dE (cK .Eq (dq 4 ay (aT 2)) (aT 0)) (eE (.set 1 (bV (.bin .Add) aN (bV (.bin .Pow) (aT 10) (aT 25))))) (dE (cK .Eq (dq 4 ay (aT 2)) (aT 0)) (bN (bV (.bin .Sub) (bZ (.un .USub) (aT 1)) aN)) (bN aN))))]
structure m8(g:G)(d:Nat):Prop where
 ex:∃(s:Nat) (p b r:Int) (xs:@&Int),g[d]?=!.lst [.ref s,.int p,.int b,.int r]/\g[s]?=!.lst (xs.map .int)/\s<d/\0<=p/\0<=b/\0<=r/\r<2147483647
structure Gr(d:Nat)(g g':G):Prop where
 len:-g<=-g'
 old:∀i,i≠d->i< -g->g'[i]?=g[i]?
def Gr.refl(d:Nat)(g:G):Gr d g g:=#[av _,λx x x=>rfl]
def Gr.trans{d}{g g1 g2}(a:Gr d g g1)(b:Gr d g1 g2):Gr d g g2:=#[aC a.len b.len,λi h1 h2=>(b.old i h1 (aB h2 a.len)).trans (a.old i h1 h2)]
def Gr.set(d:Nat)(g:G)(o:O):Gr d g (g.set d o):=#[by simp,λi h1 h2=>aH (aX h1)]
def Gr.snoc(d:Nat)(g:G)(o:O):Gr d g (g++[o]):=#[by simp,λi h1 h2=>aF h2]
def Gr.at{d}(h:Gr d g g')(hi:i≠d)(e:g[i]?=!o):g'[i]?=!o:=(h.old i hi (ak.mp e).1).trans e
def i0(h:g[i]?=!o):i< -g:=(ak.mp h).1
def m8.lt{d}(h:m8 g d):d< -g:=by
 let#[_,_,_,_,_,e,_]:=h.ex;show i0 e
def m8.snoc{d}(h:m8 g d)(o:O):m8 (g++[o]) d:=by
 let#[s,p,b,r,xs,e1,e2,q]:=h.ex;show#[s,p,b,r,xs,by rw[aF (i0 e1)];show e1,by rw[aF (i0 e2)];show e2,q]
abbrev K6:MS->MS
 |.seq _ b=>b
 |x=>x
def bY0{i j}(h1:-(2 ^ 64)<i)(h2:i<2 ^ 64):ug i j:=.inl #[h1,h2]
def ym{i j}(h1:-(2 ^ 64)<j)(h2:j<2 ^ 64):ug i j:=.inr #[h1,h2]
def ZZ{d}{n}{c2}(hN:N.rt=Q)(D0:m8 g d)(hn:0<n)(qd:n<1073741824)(h:∀r g',0<=r->r<n->m8 g' d->Gr d g g'->Q (.int r) g'):wpS P (K6 T1.body) N [!.ref d,!.int n,c2,none,none] g E:=by
 let#[s,p,b,r,xs,e1,e2,pZ,hp,hb,hr,jL]:=D0.ex;let dP:=i0 e1;subst hN;dsimp[T1,K6];walk_at "w2";show if2 (λc=>?_) (λc=>?_)
 .walk_at "w2";show rZ hn ?_;walk_at "w2";show Nc #[hn,qd] ?_;walk_at "w2";show su e1 (by rfl) ?_;walk_at "w2";show h _ _ (jj _ ()) (gI _ hn) #[s,p,b / n,r,xs,?_,?_,pZ,hp,Int.ediv_nonneg hb (),hr,jL] (Gr.set d g _)
  .rw[aW dP];rfl
  .rw[aH (bL pZ)];show e2
 .walk_at "w2";let JA:-(2 ^ 64)<r/\r<2 ^ 64:=#[by omega,by omega]
  show vk (bY0 JA.1 JA.2) ?_;show rZ ∅ ?_;show vk (ym ∅ ∅) ?_;walk_at "w2";show vk (ym ∅ ∅) ?_;walk_at "w2";show rZ ∅ ?_;walk_at "w2";show su e1 (by rfl) ?_;generalize oR:(r*r % 2147483629*5+r*16811+2531011) % 2147483647=r';let q0:0<=r':=by rw[<- oR];show jj _ ∅
  let q1:r'<2147483647:=by rw[<- oR];show gI _ ∅
  let xT:(g.set d (.lst [.ref s,.int p,.int b,.int r']))[d]?=!.lst [.ref s,.int p,.int b,.int r']:=aW dP;change wpS P _ _ _ (g.set d (.lst [.ref s,.int p,.int b,.int r'])) E;walk_at "w2";show Nc #[by decide,by decide] ?_;walk_at "w2";show rZ ∅ ?_;show vk (ym ∅ ∅) ?_;walk_at "w2";show rZ hn ?_;show h _ _ (jj _ ()) (gI _ hn) #[s,p,b,r',xs,xT,?_,pZ,hp,hb,q0,q1] (Gr.set d g _);rw[aH (bL pZ)];show e2
def m5{T}(hT:T 4=!T1){d}{n}(D0:m8 g d)(hn:0<n)(qd:n<1073741824)(h:∀r g',0<=r->r<n->m8 g' d->Gr d g g'->Q (.int r) g'):b7 T (k+1) 4 [.ref d,.int n] g Q E:=by
 let#[s,p,b,r,xs,e1,e2,pZ,hp,hb,hr,jL]:=D0.ex;let dP:=i0 e1;show call_of hT rfl ?_;let tail:∀(g':G) (c2:Option D),m8 g' d->Gr d g g'->wpS (b7 T k) (K6 T1.body) #[λx g'=>Q .bq g',Q,λx x=>False,λx x=>False] [!.ref d,!.int n,c2,none,none] g' E :=
  λg' c2 D1 gr=>ZZ rfl D1 hn qd λr g2 a b c e=>h r g2 a b c (gr.trans e)
 delta T1;walk_at "w2";show if2 (λc=>?_) (λc=>?_)
 .walk_at "w2";show if2 (λc'=>?_) (λc'=>?_)
  .walk_at "w2";let iN:p.toNat< -xs:=by
    rw[ao] at c';omega
   let ea:iX (xs.map D.int) p=!.int xs[p.toNat]:=by
    have:=D9 (xs:=xs.map D.int) (by rw[ag,aj iN];rfl)
    rwa [show((p.toNat:Nat):Int)=p by omega] at this
   show u4 (a7 e2) ea ?_;generalize xs[p.toNat]=cell;walk_at "w2";show su e1 (by rfl) ?_;let f1:(g.set d (.lst [.ref s,.int (p+1),.int b,.int r]))[d]?=!.lst [.ref s,.int (p+1),.int b,.int r]:=aW dP;walk_at "w2";show su f1 (by rfl) ?_;rw[gD];let f2:(g.set d (.lst [.ref s,.int (p+1),.int 0,.int r]))[d]?=!.lst [.ref s,.int (p+1),.int 0,.int r]:=aW dP;change wpS (b7 T k) _ _ _ (g.set d (.lst [.ref s,.int (p+1),.int 0,.int r])) E;walk_at "w2";show if2 (λc2=>?_) (λc2=>?_)
   .walk_at "w2";show su f2 (by rfl) ?_;rw[gD];show tail _ _ #[s,p+1,cell,r,xs,aW dP,by rw[aH (bL pZ)];show e2,pZ,by omega,?_,hr,jL] (Gr.set d g _);let KC:(0:Int)<=10 ^ (18:Int).toNat:=by decide
    omega
   .walk_at "w2";show vk (ym ∅ ∅) ?_;walk_at "w2";show rZ ∅ ?_;show vk (ym ∅ ∅) ?_;walk_at "w2";show rZ ∅ ?_;walk_at "w2";show su f2 (by rfl) ?_;rw[gD];show tail _ _ #[s,p+1,0,_,xs,aW dP,by rw[aH (bL pZ)];show e2,pZ,by omega,by decide,jj _ ∅,gI _ ∅] (Gr.set d g _)
  .exact tail _ _ D0 (Gr.refl _ _)
 .exact tail _ _ D0 (Gr.refl _ _)
def Hu{T}(hT:T 4=!T1)(Uq:T 5=!uu){d}(D0:m8 g d)(h:∀r g',m8 g' d->Gr d g g'->Q (.int r) g'):b7 T (k+2) 5 [.ref d] g Q E:=by
 show call_of Uq rfl ?_;delta uu;walk_at "w2";show m5 hT D0 ∅ ∅ λr1 g1 y y D1 G1=>?_;walk_at "w2";show m5 hT D1 ∅ ∅ λr2 g2 y y D2 G2=>?_;walk_at "w2";let Ro:=G1.trans G2;let last:∀(x:Int),wpS (b7 T (k+1)) (K6 (K6 uu.body)) #[λy g'=>Q .bq g',Q,λy y=>False,λy y=>False] [!.ref d,!.int x] g2 E:=λx=>by
  dsimp[uu,K6];walk_at "w2";show m5 hT D2 ∅ ∅ λr3 g3 y y D3 G3=>?_;walk_at "w2";show if2 (λc=>?_) (λc=>?_)
  .walk_at "w2";show h _ _ D3 (Ro.trans G3)
  .walk_at "w2";show h _ _ D3 (Ro.trans G3)
 show if2 (λc=>?_) (λc=>?_)
 .refine HP ?_;show LK ?_;show qQ ?_;walk_at "w1";show qQ ?_;walk_at "w1";walk_at "w1";show Bk (by unfold ph;decide) ?_;walk_at "w1";show last _
 .exact last _
def Gu:aQ:=#[1,1,(bN (.dZ (bV .isin ay (.lit (.ty "int"))) (.du (bV .isin ay (.lit (.ty "bool"))))))]
def GW:aQ:=#[3,3,(bN (.dZ (eT 38 ay) (.chain .LtE .LtE aN ay aV)))]
structure NF(T:Nat->Option aQ):Prop where
 nf:T 1=!GW
 is:T 38=!Gu
def Q1:aQ:=#[1,3,(dH 1 (aT 0) (oh (.one 2) (.eQ ay) (dE (.du (.eP (gh 1 aV aN (aT 7)))) (bN (.lit (.bl false))) (eE (.set 1 (bV (.bin .Add) aV (aT 1))))) (bN (.lit (.bl true)))))]
def Bs:aQ:=#[1,1,(bN (.prim .lst (sI (bZ .list (bV (.nE false true) ay (aT 63))) (aT 0) (aT 0) (aT 29))))]
def yQ:aQ:=#[1,1,(bN (.dZ (bV .isin ay (.lit (.ty "int"))) (.du (bV .isin ay (.lit (.ty "bool"))))))]
def O7:aQ:=#[2,2,(dE (cK .Is aN (.lit .bq)) (bN (bV (.cmp .Is) ay (.lit .bq))) (dE (.eP (bV .isin aN (.lit (.ty "bool")))) (bN (.dZ (bV .isin ay (.lit (.ty "bool"))) (bV (.cmp .Eq) ay aN))) (dE (.eP (bV .isin aN (.lit (.ty "int")))) (bN (.dZ (eT 6 ay) (bV (.cmp .Eq) ay aN))) (dE (.eP (bV .isin aN (.lit (.ty "str")))) (bN (.dZ (bV .isin ay (.lit (.ty "str"))) (bV (.cmp .Eq) ay aN))) (dE (.iu (cK .NotEq (bV .isin aN (.lit (.ty "tuple"))) (bV .isin ay (.lit (.ty "tuple")))) (cK .NotEq (bV .isin aN (.lit (.ty "list"))) (bV .isin ay (.lit (.ty "list"))))) (bN (.lit (.bl false))) (dE (cK .NotEq (bZ .len ay) (bZ .len aN)) (bN (.lit (.bl false))) (bN (bZ .all (.comp [1,0] 4 (.one 3) (.fo (bZ .len aN)) .no (dq 7 (bw aN bz) (bw ay bz)))))))))))]
def yK:aQ:=#[1,1,(bN (bV (.cmp .Eq) (bZ .list ay) (.comp [0] 3 (.one 2) (.fo (aT 8)) (cK .In aV ay) aV)))]
def P4{g}{n}:∀ms:@&Int,(ms.map D.int).mapM (rd g n)=!ms.map PyData.int
 |[]=>rfl
 |m::r=>by
  rw[bD,eJ,P4 r];cases n<;>rfl
def lay_ints:∀ms:@&Int,PyData.canLayAll0 (ms.map PyData.int)=true
 |[]=>by rfl
 |m::r=>by simp[PyData.canLayAll0,PyData.canLay0,lay_ints r]
def ND:∀ms ns:@&Int,PyData.eqvAll (ms.map PyData.int) (ns.map PyData.int)=decide (ms=ns)
 |[],[]=>by rfl
 |[],_::_=>by rfl
 |_::_,[]=>by rfl
 |m::r,n::q=>by
  simp only[List.map_cons,PyData.eqvAll,PyData.eqv,ND r q];by_cases h:m=n
  .subst h;simp
  .simp[h]
def Py{i}{k}(h:k (ms.any λm=>m==i)):oP g (.int i) (.tup (ms.map .int)) k:=by
 show#[_,.inr #[_,_,_,rfl,P4 ms,rfl,lay_ints ms,by rfl,rfl],?_];rw[wb];show h
def Po{k}(ha:d7 g a=!ms.map .int)(hb:d7 g b=!ns.map .int)(h:k (decide (ms=ns))):vh g (.ref a) (.ref b) k:=by
 show#[_,.inr (.inr (.inr #[.list (ms.map .int),.list (ns.map .int),?_,?_,?_,?_,rfl])),?_]
 .simp only[rd];rw[ha];dsimp only;rw[P4];rfl
 .simp only[rd];rw[hb];dsimp only;rw[P4];rfl
 .simp[PyData.canLay0,lay_ints]
 .simp[PyData.canLay0,lay_ints]
 .simp only[PyData.eqv,ND];show h
section
variable{T:Nat->Option aQ}{d:Nat}
def L3(h1:NF T){i}(h:Q (.bl true) g):b7 T (k+1) 38 [.int i] g Q E:=by
 show call_of h1.is rfl ?_;delta Gu;walk_at "w2";show gO (b:=true) ∅ rfl ?_;walk_at "w2";show gO ∅ rfl ?_;walk_at "w2";show h
def L1(h1:NF T){i l m}(h:Q (.bl (decide (l<=i)&&decide (i<=m))) g):b7 T (k+2) 1 [.int i,.int l,.int m] g Q E:=by
 show call_of h1.nf rfl ?_;delta GW;walk_at "w2";show L3 h1 ?_;walk_at "w2";show if2 (λc=>?_) (λc=>?_)
 .rw[aG c] at h;walk_at "w2";show h
 .rw[aA c] at h;show h
abbrev gm:Int->@&Int->Bool
 |_,[]=>true
 |l,x::r=>(decide (l<=x)&&decide (x<=7))&&gm (x+1) r
def NV(h1:NF T)(h2:T 2=!Q1)(h:Q (.bl (gm 0 ms)) g):b7 T (k+3) 2 [.tup (ms.map .int)] g Q E:=by
 show call_of h2 rfl ?_;show L9 (a8 T _) (zP (a8 T _) ?_);walk_at "w2";show#[_,rfl,_,λi σ g'=>g'=g/\∃(l:Int) (z:Option D),σ=[!.tup (ms.map .int),!.int l,z]/\gm 0 ms=gm l (ms.drop i),λy y y y=>L4,#[rfl,0,none,rfl,rfl],λi x σ g' hx p=>?_,λσ g' p=>?_]
 .let#[rfl,l,z,rfl,e]:=p;rw[ag] at hx;cases em:ms[i]? with
  |none=>rw[em] at hx;cases hx
  |some m =>
   rw[em] at hx;cases hx;let hi:=(ak.mp em).1;let ed:ms.drop i=m::ms.drop (i+1):=by
    rw[dz hi]
    congr 1
    show(ak.mp em).2
   rw[ed] at e;simp only[gm] at e;change wpS _ _ _ _ _ _;walk_at "w2";show L1 h1 ?_;walk_at "w2";cases hc:(decide (l<=m)&&decide (m<=7)) with
   |true =>
    rw[hc,sG] at e;walk_at "w2";show#[rfl,m+1,!.int m,rfl,e]
   |false =>
    rw[hc,pK] at e;rw[e] at h;show h
 .let#[rfl,l,z,rfl,e]:=p;rw[wa #[_]] at e;rw[e] at h;show h
def bH1(h3:T 3=!Bs)(hg:g[a]?=!.qv (ns.map .int))(h:∀d g',m8 g' d->-g<=d->(∀i,i< -g->g'[i]?=g[i]?)->Q (.ref d) g'):b7 T (k+1) 3 [.ref a] g Q E:=by
 show call_of h3 rfl ?_;delta Bs;walk_at "w2";show bO4 (Zw hg) ?_;show Iz (l:=cut (ns.map D.int) none (!63)) (a7 #[_]) ?_;walk_at "w2";let ec:cut (ns.map D.int) none (!63)=(cut ns none (!63)).map D.int:=by
  unfold cut;simp[List.map_take,List.map_drop]
 show h _ _ #[(-g)+1,0,0,29,cut ns none (!63),?_,?_,?_,by decide,by decide,by decide,by decide] #[_] (λi hi=>?_)
 .simp
 .rw[<- ec];simp
 .simp
 .simp[List.getElem?_append,hi,Nat.lt_of_lt_of_le hi (by omega:-g<=-g+1),Nat.lt_of_lt_of_le hi (by omega:-g<=-g+1+1)]
def NK(h8:T 8=!yK)(h:∀g',Gr d g g'->(m8 g d->m8 g' d)->Q (.bl (decide (ms=((List.range 8).map λ(n:Nat)=>(n:Int)).filter λs=>ms.any λm=>m==s))) g'):b7 T (k+1) 8 [.tup (ms.map .int)] g Q E:=by
 show call_of h8 rfl ?_;delta yK;walk_at "w2";show a39 (a8 T _) ?_;walk_at "w2";show#[8,rfl,by decide,λi ys σ g'=>g'=g++[.lst (ms.map .int)]/\-ys<=i/\(∃z w,σ=[!.tup (ms.map .int),z,w])/\ys=((((List.range i).map λ(n:Nat)=>(n:Int)).filter λs=>ms.any λm=>m==s).map D.int),#[rfl,by simp,#[none,none,rfl],rfl],λi ys σ g' p=>p.2.1,λi ys σ g' hi p=>?_,λys σ g' p=>?_]
 .let#[rfl,hl,#[z,w,rfl],e]:=p;change et _ _ _ _ _ _;walk_at "w2";show uj (Py ?_);walk_at "w2";let er:(List.range (i+1)).map (λ(n:Nat)=>(n:Int))=(List.range i).map (λ(n:Nat)=>(n:Int))++[(i:Int)]:=by rw[ji];simp
  cases hc:(ms.any λm=>m==(i:Int)) with
  |true =>
   show jv ?_;walk_at "w2";show#[rfl,by simp;omega,#[_,_,rfl],?_];rw[er,cP,bB,<- e];simp[hc]
  |false =>
   show qK ?_;show#[rfl,by omega,#[_,_,rfl],?_];rw[er,cP,bB,<- e];simp[hc]
 .let#[rfl,hl,_,e]:=p;rw[e];show BI (Po (ms:=ms) (a7 #[_]) (a7 (by simp;rfl)) ?_);show h _ ((Gr.snoc d g _).trans (Gr.snoc d _ _)) λD0=>(D0.snoc _).snoc _
end
def Lg:∀{ms:@&Int} {l:Int},ms.Pairwise (· < ·)->(∀m∈ms,l<=m/\m<=7)->gm l ms=true
 |[],_,_,_=>rfl
 |m::r,l,hp,h=>by
  let#[h1,h2]:=dh.mp hp;let hm:=h m #[_];simp only[gm];rw[aG hm.1,aG hm.2,Lg h2 λx hx=>#[by have:=h1 x hx;omega,(h x (by simp[hx])).2]]
  rfl
def G0{l:List α}{r:Int}(h0:0<=r)(h1:r< -l):∃v,iX l r=!v/\v∈l:=by
 let hi:r.toNat< -l:=by omega
 show#[l[r.toNat],?_,eO hi];have:=D9 (aj hi)
 rwa [show((r.toNat:Nat):Int)=r by omega] at this
section
variable{T:Nat->Option aQ}
def QM(h7:T 7=!O7){a b}(h:Q (.bl (a==b)) g):b7 T (k+1) 7 [.bl a,.bl b] g Q E:=by
 show call_of h7 rfl ?_;delta O7;walk_at "w2";walk_at "w2";show gO (c:="bool") (b:=true) ∅ rfl ?_;walk_at "w2";show gO (c:="bool") (b:=true) ∅ rfl ?_;walk_at "w2";show h
end
def PL(ms:@&Int):gm 0 ms=decide (ms=((List.range 8).map λ(n:Nat)=>(n:Int)).filter λs=>ms.any λm=>m==s):=by
 rw[bp,dg];constructor
 .intro h;let key:∀(ms:@&Int) (l:Int),gm l ms=true->ms.Pairwise (· < ·)/\∀m∈ms,l<=m/\m<=7:=by
   intro ms
   induction ms with
   |nil=>intro l _;show#[List.Pairwise.nil,by simp]
   |cons m r ih =>
    intro l h;simp only[gm,Bool.and_eq_true,decide_eq_true_eq] at h;let#[#[h1,h2],h3]:=h;let#[p1,p2]:=ih (m+1) h3;show#[dh.mpr #[λx hx=>by have:=p2 x hx;omega,p1],λx hx=>?_];rcases aJ.mp hx with z|z
    .subst z;show#[h1,h2]
    .have:=p2 x z;omega
  let#[p1,p2]:=key ms 0 h;let uniq:∀(xs ys:@&Int),xs.Pairwise (· < ·)->ys.Pairwise (· < ·)->(∀z,z∈xs↔z∈ys)->xs=ys:=by
   intro xs
   induction xs with
   |nil =>
    intro ys _ _ h;cases ys with
    |nil=>rfl
    |cons y r=>show absurd ((h y).mpr #[_]) #[_]
   |cons x xs ih =>
    intro ys hx hy h;cases ys with
    |nil=>show absurd ((h x).mp #[_]) #[_]
    |cons y ys =>
     let#[a1,a2]:=dh.mp hx;let#[b1,b2]:=dh.mp hy;let UY:x=y:=by
      rcases aJ.mp ((h x).mp #[_]) with z|z
      .exact z
      .rcases aJ.mp ((h y).mpr #[_]) with w|w
       .exact w.symm
       .have:=b1 x z;have:=a1 y w;omega
     subst UY
     congr 1
     show ih ys a2 b2 λz=>#[λhz=>?_,λhz=>?_]
     .rcases aJ.mp ((h z).mp (by simp[hz])) with w|w
      .subst w;show absurd (a1 z hz) ()
      .exact w
     .rcases aJ.mp ((h z).mpr (by simp[hz])) with w|w
      .subst w;show absurd (b1 z hz) ()
      .exact w
  show uniq _ _ p1 ?_ λz=>?_
  .refine Ci _ ?_
   decide
  .simp only[List.mem_filter,List.any_eq_true,beq_iff_eq,exists_eq_right,List.mem_map,List.mem_range];show#[λhz=>#[#[z.toNat,by have:=p2 z hz;omega,by have:=p2 z hz;omega],hz],λhz=>hz.2]
 .intro h;rw[h];show Lg ?_ λm hm=>?_
  .refine Ci _ ?_
   decide
  .let#[hm,_]:=ba.mp hm;let#[n,hn,rfl]:=ax.mp hm;have:=bh.mp hn;omega
def E9:aQ:=#[1,8,(gi (.nC (.many [1,2,3,4,5]) ay) (dH 6 (.dZ (gh 1 aN (aT 1) (aT 99)) (eT 2 aV)) (dH 7 (.dZ (gh 1 bz (aT 1) (aT 99)) (eT 2 da)) (bN (.dZ fQ (.dZ kR (gh 1 dY (aT 0) (aT 9999))))))))]
def W0:aQ:=#[1,1,(dE (.iu (.du (.eP (.chain .LtE .LtE (aT 1) (bw ay (aT 0)) (aT 99)))) (.iu (.du (.eP (.chain .LtE .LtE (aT 1) (bw ay (aT 2)) (aT 99)))) (.du (.eP (.chain .LtE .LtE (aT 0) (bw ay (aT 4)) (aT 9999)))))) (bN (.lit (.bl false))) (bN (.dZ (eT 8 (bw ay (aT 1))) (eT 8 (bw ay (aT 3))))))]
def AW:aQ:=#[2,10,(dH 2 (dq 4 ay (aT 12)) (gi (.nC (.many [3,4,5,6,7]) aN) (dH 8 (bw (.prim .lst (Ji (bV .tup (aT 1) (aT 0)) (bV .tup (aT 3) (aT 3)) (bZ .tup (aT 8)) (bV .tup (bZ (.un .USub) (aT 1)) (aT 2)) (bV .tup (aT 0) (aT 9)) (bV .tup (aT 7) (bV (.bin .Pow) (aT 10) (aT 20))))) (dq 4 ay (aT 6))) (dH 9 (bw (.prim .lst (sI (aT 0) (aT 100) (bZ (.un .USub) (aT 1)) (eT 5 ay))) (dq 4 ay (aT 4))) (dE (cK .Eq aV (aT 0)) (bN (.prim .tup (rf pS da dY fQ kR))) (dE (cK .Eq aV (aT 1)) (bN (.prim .tup (rf bz sZ dY fQ kR))) (dE (cK .Eq aV (aT 2)) (bN (.prim .tup (rf bz da pS fQ kR))) (dE (cK .Eq aV (aT 3)) (bN (.prim .tup (rf bz da dY sZ kR))) (dE (cK .Eq aV (aT 4)) (bN (.prim .tup (rf bz da dY fQ (bw (.prim .lst (sI (bZ (.un .USub) (aT 1)) (aT 10000) (aT 9999) (eT 5 ay))) (dq 4 ay (aT 4)))))) (bN aN))))))))))]
structure b9 where
 lo:Int
 lm:@&Int
 up:Int
 um:@&Int
 yr:Int
def b9.d(c:b9):D:=.tup [.int c.lo,.tup (c.lm.map .int),.int c.up,.tup (c.um.map .int),.int c.yr]
def j7(c:b9):Bool:=((decide (1<=c.lo)&&decide (c.lo<=99))&&gm 0 c.lm)&&(((decide (1<=c.up)&&decide (c.up<=99))&&gm 0 c.um)&&(decide (0<=c.yr)&&decide (c.yr<=9999)))
section
variable{T:Nat->Option aQ}{d:Nat}
def Hb(h1:NF T)(h2:T 2=!Q1)(oX:T 12=!E9){c}(h:Q (.bl (j7 c)) g):b7 T (k+4) 12 [c.d] g Q E:=by
 show call_of oX rfl ?_;dsimp[E9,b8,List.replicate,b9.d];walk_at "w3";show L1 h1 ?_;let s1:∀b:Bool,b=((decide (1<=c.lo)&&decide (c.lo<=99))&&gm 0 c.lm)->wpS (b7 T (k+3)) (K6 (K6 E9.body)) #[λx g'=>Q .bq g',Q,λx x=>False,λx x=>False] [!c.d,!.int c.lo,!.tup (c.lm.map .int),!.int c.up,!.tup (c.um.map .int),!.int c.yr,!.bl b,none] g E:=by
  intro b hb;dsimp[E9,K6];walk_at "w3";show L1 h1 ?_;let s2:∀b':Bool,b'=((decide (1<=c.up)&&decide (c.up<=99))&&gm 0 c.um)->wpS (b7 T (k+3)) (K6 (K6 (K6 E9.body))) #[λx g'=>Q .bq g',Q,λx x=>False,λx x=>False] [!c.d,!.int c.lo,!.tup (c.lm.map .int),!.int c.up,!.tup (c.um.map .int),!.int c.yr,!.bl b,!.bl b'] g E:=by
   intro b' jO;dsimp[E9,K6];let e:j7 c=(b&&(b'&&(decide (0<=c.yr)&&decide (c.yr<=9999)))):=by unfold j7;rw[hb,jO]
   rw[e] at h;walk_at "w3";cases b
   .exact qK h
   .refine jv ?_;walk_at "w3";cases b'
    .exact qK h
    .refine jv ?_;walk_at "w3";show L1 h1 h
  show Aw ?_;cases hc:(decide (1<=c.up)&&decide (c.up<=99)) with
  |false=>show qK (s2 false (by rw[hc];rfl))
  |true =>
   show jv ?_;walk_at "w1";walk_at "w1";walk_at "w1";walk_at "w1";show NV h1 h2 (s2 _ (by rw[hc];rfl))
 show Aw ?_;cases hc:(decide (1<=c.lo)&&decide (c.lo<=99)) with
 |false=>show qK (s1 false (by rw[hc];rfl))
 |true =>
  show jv ?_;walk_at "w1";walk_at "w1";walk_at "w1";walk_at "w1";show NV h1 h2 (s1 _ (by rw[hc];rfl))
def Qg(h8:T 8=!yK)(Ag:T 13=!W0){c}(h:∀g',Gr d g g'->(m8 g d->m8 g' d)->Q (.bl (j7 c)) g'):b7 T (k+2) 13 [c.d] g Q E:=by
 show call_of Ag rfl ?_;let no:j7 c=false->Q (.bl false) g:=λe=>by
  have:=h g (Gr.refl _ _) id
  rwa [e] at this
 dsimp[W0,b8,List.replicate,b9.d];walk_at "w3";let fin:j7 c=(gm 0 c.lm&&gm 0 c.um)->wpS (b7 T (k+1)) (K6 W0.body) #[λx g'=>Q .bq g',Q,λx x=>False,λx x=>False] [!c.d] g E:=λe=>by
  dsimp[W0,K6,b9.d];walk_at "w3";show NK h8 (d:=d) λg1 G1 D1=>?_;rw[<- PL];show Aw ?_;let h':=h;rw[e] at h';cases hl:gm 0 c.lm with
  |false =>
   rw[hl,pK] at h';show qK (h' g1 G1 D1)
  |true =>
   rw[hl,sG] at h';show jv ?_;walk_at "w3";show NK h8 (d:=d) λg2 G2 D2=>?_;rw[<- PL];show h' g2 (G1.trans G2) λz=>D2 (D1 z)
 let out:j7 c=false->wpS (b7 T (k+1)) (.seq (.ret (.lit (.bl false))) .pass) #[λjm g1=>wpS (b7 T (k+1)) (K6 W0.body) #[λx g'=>Q .bq g',Q,λx x=>False,λx x=>False] jm g1 E,Q,λx x=>False,λx x=>False] [!c.d] g E:=λe=>by
  walk_at "w3";show no e
 show if2 (λc1=>?_) (λc1=>?_)
 .walk_at "w3";cases c2:decide (c.lo<=99) with
  |false=>show out (by unfold j7;rw[c2];simp)
  |true =>
   walk_at "w3";show if2 (λc3=>?_) (λc3=>?_)
   .walk_at "w3";cases c4:decide (c.up<=99) with
    |false=>show out (by unfold j7;rw[c4];simp)
    |true =>
     walk_at "w3";show if2 (λc5=>?_) (λc5=>?_)
     .walk_at "w3";cases c6:decide (c.yr<=9999) with
      |false=>show out (by unfold j7;rw[c6];simp)
      |true=>show fin (by unfold j7;rw[aG c1,c2,aG c3,c4,aG c5,c6];simp)
     .walk_at "w3";show no (by unfold j7;rw[aA c5];simp)
   .walk_at "w3";show no (by unfold j7;rw[aA c3];simp)
 .walk_at "w3";show no (by unfold j7;rw[aA c1];simp)
end
def b0:(g++[o])[(-g)]?=!o:=by simp
def Ay(h:g[i]?=!o):(g++[o'])[i]?=!o:=by rw[aF (i0 h)];show h
def get_set(h:g[i]?=!o):(g.set i o')[i]?=!o':=aW (i0 h)
def c7(h:g[i]?=!o)(hn:j≠i):(g.set j o')[i]?=!o:=by rw[aH hn];show h
def AI:aQ:=#[1,5,(dH 1 (.prim .lst (Ck (.prim .tup .nil) (bZ .tup (aT 0)) (bV .tup (aT 0) (aT 1)) (bZ .tup (aT 1)) (.prim .tup (mD (aT 0) (aT 1) (aT 2))) (.prim .tup (sI (aT 0) (aT 1) (aT 2) (aT 7))) (bZ .tup (aT 2)))) (dH 2 (bw aN (dq 4 ay (bw (bV .tup (aT 4) (aT 7)) (bZ .int (bV (.cmp .Eq) (dq 4 ay (aT 4)) (aT 0)))))) (dH 3 (bw aN (dq 4 ay (aT 5))) (dH 4 (bw (.prim .lst (Ji (aT 0) (aT 0) (aT 1400) (aT 1400) (aT 1401) (aT 1))) (dq 4 ay (aT 6))) (bN (.prim .tup (rf (bV (.bin .Add) (aT 1) (dq 4 ay (aT 3))) aV (bV (.bin .Add) (aT 1) (dq 4 ay (aT 4))) bz da)))))))]
structure mq(c:b9):Prop where
 good:j7 c=true
 l8:-c.lm<=8
 u8:-c.um<=8
def mq.mk'{lo up yr}{lm um}(h1:1<=lo)(h2:lo<=99)(h3:1<=up)(h4:up<=99)(h5:0<=yr)(h6:yr<=9999)(h7:gm 0 lm=true)(h8:gm 0 um=true)(h9:-lm<=8)(KC:-um<=8):mq #[lo,lm,up,um,yr]:=by
 show#[?_,h9,KC];simp only[j7,h7,h8,decide_eq_true h1,decide_eq_true h2,decide_eq_true h3,decide_eq_true h4,decide_eq_true h5,decide_eq_true h6]
 rfl
def mq.inv{c}(h:mq c):(1<=c.lo/\c.lo<=99)/\gm 0 c.lm=true/\(1<=c.up/\c.up<=99)/\gm 0 c.um=true/\0<=c.yr/\c.yr<=9999:=by
 have:=h.good;unfold j7 at this;simp only[Bool.and_eq_true,decide_eq_true_eq] at this;let#[#[#[a,b],e],#[#[c',d],f],p,q]:=this;show#[#[a,b],e,#[c',d],f,p,q]
abbrev so:@&(@&Int):=[[],[0],[0,1],[1],[0,1,2],[0,1,2,7],[2]]
def bI1:∀ms∈so,gm 0 ms=true/\-ms<=8:=by decide
def QP{r}(h0:0<=r)(h7:r<7):∃ms,iX (so.map λms=>D.tup (ms.map .int)) r=!.tup (ms.map .int)/\gm 0 ms=true/\-ms<=8:=by
 let#[v,hv,hm]:=G0 (l:=so.map λms=>D.tup (ms.map .int)) h0 (by simpa[so] using h7);let#[ms,h1,rfl]:=ax.mp hm;show#[ms,hv,bI1 ms h1]
section
variable{T:Nat->Option aQ}{d:Nat}
def aY5(h4:T 4=!T1)(Ef:T 22=!AI)(D0:m8 g d)(h:∀c g',mq c->m8 g' d->Gr d g g'->Q c.d g'):b7 T (k+2) 22 [.ref d] g Q E:=by
 show call_of Ef rfl ?_;delta AI;let dl:=D0.lt;left;let D1:=D0.snoc (.lst (so.map λms=>D.tup (ms.map .int)));let G1:=Gr.snoc d g (.lst (so.map λms=>D.tup (ms.map .int)));let e1:(g++[O.lst (so.map λms=>D.tup (ms.map .int))])[(-g)]?=!(.lst (so.map λms=>D.tup (ms.map .int))):=b0;show m5 h4 D1 ∅ ∅ λr g2 r0 r1 D2 G2=>?_;left;let e2:=G2.at () e1;let hn:∃n:Int,iX [D.int 4,D.int 7] (if decide (r=0)=true then 1 else 0)=!.int n/\0<n/\n<=7:=by
  by_cases hr:r=0
  .exact#[7,by rw[aG hr];rfl,by decide,by decide]
  .exact#[4,by rw[aA hr];rfl,by decide,by decide]
 let#[n,en,n0,n7]:=hn;show E7 en ?_;exists m5 h4 D2 n0 () λr3 g3 Sj r31 D3 G3=>?_;let e3:=G3.at () e2;let#[lm,el,gl,ll]:=QP Sj ();show u4 (a7 e3) el ?_;exists m5 h4 D3 ∅ ∅ λr4 g4 Si r41 D4 G4=>?_;let e4:=G4.at () e3;let#[um,eu,gu,lu]:=QP Si ();show u4 (a7 e4) eu ?_;left;let e5:(g4++[O.lst [.int 0,.int 0,.int 1400,.int 1400,.int 1401,.int 1]])[(-g4)]?=!.lst [.int 0,.int 0,.int 1400,.int 1400,.int 1401,.int 1]:=b0;show m5 h4 (D4.snoc _) ∅ ∅ λr5 g5 Sg Sf D5 G5=>?_;let e6:=G5.at (by have:=D4.lt;omega) e5;let#[v,hv,hm]:=G0 (l:=[D.int 0,.int 0,.int 1400,.int 1400,.int 1401,.int 1]) Sg (_/Sf);let hy:∃y:Int,v=.int y/\0<=y/\y<=9999:=by
  simp only[List.mem_cons,List.mem_nil_iff,or_false] at hm;rcases hm with rfl|rfl|rfl|rfl|rfl|rfl<;>show#[_,rfl,by decide,by decide]
 let#[y,rfl,y0,y1]:=hy;show u4 (a7 e6) hv ?_;exists m5 h4 D5 ∅ ∅ λr6 g6 r60 r61 D6 G6=>?_;exists m5 h4 D6 ∅ ∅ λr7 g7 r70 r71 D7 G7=>?_;left;show h #[1+r6,lm,1+r7,um,y] _ (mq.mk' () () () () y0 y1 gl gu ll lu) D7 (G1.trans (G2.trans (G3.trans (G4.trans ((Gr.snoc _ _ _).trans (G5.trans (G6.trans G7)))))))
end
def P5:aQ:=#[1,1,(eE (.ifs (.du (.eP (gh 1 ay (aT 1) (aT 9)))) (eE (.raise "BadAnvils" (gb (bY "there are from one to nine anvils")))) .pass))]
def IC:aQ:=#[2,2,(dE (cK .Eq (dq 4 ay (aT 12)) (aT 7)) (bN (eT 5 ay)) (bN (bV (.bin .Sub) (dq 4 ay (bV (.bin .Add) aN (aT 4))) (aT 2))))]
def AD:aQ:=#[2,2,(bN (bZ .all (.comp [1] 3 (.one 2) (.eQ ay) .no (bV (.cmp .In) aV ay))))]
def U4:aQ:=#[1,1,(eE (.ifs (.du (.eP (eT 12 ay))) (eE (.raise "BadCoin" (gb (bY "it is no coin")))) .pass))]
def GU:aQ:=#[1,2,(dE (cK .Gt (bZ .len ay) (aT 9)) (eE (.raise "TooMany" (gb (bY "at most nine coins are asked about at once")))) (eE (.gL (.one 1) (.eQ ay) (eE (.expr (eT 39 aN))))))]
def Bg:aQ:=#[1,1,(eE (.ifs (cK .NotIn ay (.lit (.tup [(.str "lower"),(.str "upper")]))) (eE (.raise "BadSide" (gb (bY "a side is lower or upper")))) .pass))]
def Gq:aQ:=#[1,1,(jn (eT 40 ay) (bN (bV .om (.lit (.tup [(.tup [(.str "lower"),(.int 0)]),(.tup [(.str "upper"),(.int 2)])])) ay)))]
noncomputable abbrev Ja(T:Nat->Option aQ):Prop:=T 18=!GU/\T 39=!U4
noncomputable abbrev BV(T:Nat->Option aQ):Prop:=T 19=!Gq/\T 40=!Bg
structure Ex(g g':G):Prop where
 len:-g<=-g'
 old:∀i,i< -g->g'[i]?=g[i]?
def Ex.refl(g:G):Ex g g:=#[av _,λx x=>rfl]
def Ex.trans{g g1 g2}(a:Ex g g1)(b:Ex g1 g2):Ex g g2:=#[aC a.len b.len,λi h=>(b.old i (aB h a.len)).trans (a.old i h)]
def Ex.snoc(g:G)(o:O):Ex g (g++[o]):=#[by simp,λi h=>aF h]
def Ex.at(h:Ex g g')(e:g[i]?=!o):g'[i]?=!o:=(h.old i (i0 e)).trans e
def Ex.gr(h:Ex g g')(d:Nat):Gr d g g':=#[h.len,λi x h2=>h.old i h2]
def Ex.draw{d}(h:Ex g g')(D0:m8 g d):m8 g' d:=by
 let#[s,p,b,r,xs,e1,e2,q]:=D0.ex;show#[s,p,b,r,xs,h.at e1,h.at e2,q]
inductive u5(g:G):Nat->D->D->Prop
 |bq {n:Nat}:u5 g n .bq .bq
 |bl {n:Nat} (b:Bool):u5 g n (.bl b) (.bl b)
 |int {n:Nat} (i:Int):u5 g n (.int i) (.int i)
 |str {n:Nat} (x:Str):u5 g n (.str x) (.str x)
 |tup {n:Nat} {l m:@&D} (hl:-l=-m) (h:∀(i:Nat) x y,l[i]?=!x->m[i]?=!y->u5 g n x y) (hz:-m<=1000):u5 g (n+1) (.tup l) (.tup m)
 |lst {n a b:Nat} {l m:@&D} (ha:g[a]?=!.lst l) (hb:g[b]?=!.lst m) (hl:-l=-m) (h:∀(i:Nat) x y,l[i]?=!x->m[i]?=!y->u5 g n x y) (hz:-m<=1000):u5 g (n+1) (.ref a) (.ref b)
def u5.ex(e:Ex g g'){x}(h:u5 g n x y):u5 g' n x y:=by
 induction h with
 |bq=>show .bq
 |bl b=>show .bl b
 |int i=>show .int i
 |str x=>show .str x
 |tup hl h hz ih=>show .tup hl ih hz
 |lst ha hb hl h hz ih=>show .lst (e.at ha) (e.at hb) hl ih hz
section
variable{T:Nat->Option aQ}
def Me(h6:T 6=!yQ){i}(h:Q (.bl true) g):b7 T (k+1) 6 [.int i] g Q E:=by
 show call_of h6 rfl ?_;delta yQ;exists gO (b:=true) ∅ rfl ?_;exists gO ∅ rfl ?_;left;show h
abbrev bI4:MS:=match O7.body with
 |.seq _ (.seq _ (.seq _ (.seq _ (.seq _ b))))=>b
 |x=>x
def L6(h6:T 6=!yQ)(h7:T 7=!O7):∀(n:Nat) {k:Nat} {g:G} {x y:D} {Q:KD} {E:KX},u5 g n x y->(∀g',Ex g g'->Q (.bl true) g')->b7 T (k+n+2) 7 [x,y] g Q E:=by
 let wt:∀(n:Nat),(∀{k:Nat} {g:G} {x y:D} {Q:KD} {E:KX},u5 g n x y->(∀g',Ex g g'->Q (.bl true) g')->b7 T (k+n+2) 7 [x,y] g Q E) ->
   ∀{k:Nat} {g:G} {x y:D} {l m:@&D} {Q:KD} {E:KX},(∀g',Ex g g'->M8 g' x=!l)->(∀g',Ex g g'->M8 g' y=!m)->-l=-m->-m<=1000->(∀(i:Nat) x y,l[i]?=!x->m[i]?=!y->u5 g n x y)->(∀g',Ex g g'->Q (.bl true) g') ->
   wpS (b7 T (k+n+2)) bI4 #[λv g'=>Q .bq g',Q,λv v=>False,λv v=>False] [!x,!y] g E:=by
  intro n ih k g x y l m Q E hx hy hl hz hs hQ;let len:∀(z:D) (l:@&D) (g':G) (Q':KD),M8 g' z=!l->Q' (.int (-l)) g'->cI .len [z] g' Q':=λz l g' Q' e q=>#[_,_,#[rfl,.inl #[z,l,rfl,e,rfl]],q]
  show II (LJ (LL (qQ (vS (w_var rfl (len _ _ _ _ (hx g (Ex.refl g)) ?_))))));show vS (w_var rfl (len _ _ _ _ (hy g (Ex.refl g)) ?_));show Nn ?_;rw[hl,aG rfl];exists M6 (a8 T _) (yP (a8 T _) ?_);show vS (w_var rfl (len _ _ _ _ (hy g (Ex.refl g)) ?_));show#[_,rfl,by omega,by omega,E1 0 (-m),λi ys σ g'=>∃z w,ys=List.replicate i (.bl true)/\σ=[!y,!x,z,w]/\Ex g g',by rw[N8];show hz,λi ys σ g' p=>#[L4,?_],#[none,none,rfl,rfl,Ex.refl g],λi z ys σ g' hz p=>?_,λys σ g' p=>?_]
  .let#[z,w,rfl,_]:=p;simp
  .let#[z,w,rfl,rfl,e]:=p;let#[hi,rfl]:=T4 hz;let h1:l[i]?=some l[i]:=aj ();let h2:=aj hi;let a1:iX l (0+(i:Int))=some l[i]:=by rw[gE];show D9 h1
   let a2:iX m (0+(i:Int))=some m[i]:=by rw[gE];show D9 h2
   change et _ _ _ _ _ _;show O6 (jv (HM (vD (qQ (w_var rfl (w_var rfl #[_,_,#[rfl,.inl #[_,l,_,rfl,hx g' e,a1]],?_]))))));show vD (qQ (w_var rfl (w_var rfl #[_,_,#[rfl,.inl #[_,m,_,rfl,hy g' e,a2]],?_])));show By (ih ((hs i _ _ h1 h2).ex e) λg2 e2=>?_);show#[_,_,by rw[List.replicate_succ'],rfl,e.trans e2]
  .let#[z,w,rfl,rfl,e]:=p;show yU (a7 b0) ?_ (hQ _ (e.trans (Ex.snoc _ _)));have:List.replicate (E1 0 (-m)).length (D.bl true)=(List.replicate (E1 0 (-m)).length true).map D.bl:=by simp
   rw[this,yN];simp
 intro n
 induction n with
 |zero =>
  intro k g x y Q E h hQ;let h0:=hQ g (Ex.refl g);cases h with
  |bq =>
   show call_of h7 rfl ?_;delta O7;left;show h0
  |bl b=>show QM h7 (_/h0)
  |int i =>
   show call_of h7 rfl ?_;delta O7;exists gO (c:="bool") (b:=false) ∅ rfl ?_;exists gO (c:="int") (b:=true) ∅ rfl ?_;exists Me h6 ?_;left;simpa using h0
  |str x =>
   show call_of h7 rfl ?_;delta O7;exists gO (c:="bool") (b:=false) ∅ rfl ?_;exists gO (c:="int") (b:=false) ∅ rfl ?_;exists gO (c:="str") (b:=true) ∅ rfl ?_;exists gO (c:="str") (b:=true) ∅ rfl ?_;left;simpa using h0
 |succ n ih =>
  intro k g x y Q E h hQ;let h0:=hQ g (Ex.refl g);cases h with
  |bq =>
   show call_of h7 rfl ?_;delta O7;left;show h0
  |bl b=>show QM h7 (_/h0)
  |int i =>
   show call_of h7 rfl ?_;delta O7;exists gO (c:="bool") (b:=false) ∅ rfl ?_;exists gO (c:="int") (b:=true) ∅ rfl ?_;exists Me h6 ?_;left;simpa using h0
  |str x =>
   show call_of h7 rfl ?_;delta O7;exists gO (c:="bool") (b:=false) ∅ rfl ?_;exists gO (c:="int") (b:=false) ∅ rfl ?_;exists gO (c:="str") (b:=true) ∅ rfl ?_;exists gO (c:="str") (b:=true) ∅ rfl ?_;left;simpa using h0
  |@tup _ l m hl hs hz =>
   show call_of h7 rfl ?_;let body:=wt n ih (k:=k) (x:=.tup l) (y:=.tup m) (E:=E) (λv v=>rfl) (λv v=>rfl) hl hz hs hQ;delta O7;exists gO (c:="bool") (b:=false) ∅ rfl ?_;exists gO (c:="int") (b:=false) ∅ rfl ?_;exists gO (c:="str") (b:=false) ∅ rfl ?_;exists gO (c:="tuple") (b:=true) ∅ rfl ?_;exists gO (c:="tuple") (b:=true) ∅ rfl ?_;exists eB rfl ?_;exists gO (c:="list") (b:=false) ∅ rfl ?_;exists gO (c:="list") (b:=false) ∅ rfl ?_;exists eB rfl (HN ?_);show body
  |@lst _ a b l m ha hb hl hs hz =>
   show call_of h7 rfl ?_;let body:=wt n ih (k:=k) (x:=.ref a) (y:=.ref b) (E:=E) (λg' e=>a7 (e.at ha)) (λg' e=>a7 (e.at hb)) hl hz hs hQ;let ta:∀c,uq g (.ref a) c=!(c=="list"):=λc=>by simp only[uq,ha]
   let tb:∀c,uq g (.ref b) c=!(c=="list"):=λc=>by simp only[uq,hb]
   delta O7;exists gO (c:="bool") (b:=false) ∅ (tb _) ?_;exists gO (c:="int") (b:=false) ∅ (tb _) ?_;exists gO (c:="str") (b:=false) ∅ (tb _) ?_;exists gO (c:="tuple") (b:=false) ∅ (tb _) ?_;exists gO (c:="tuple") (b:=false) ∅ (ta _) ?_;exists eB rfl ?_;exists gO (c:="list") (b:=true) ∅ (tb _) ?_;exists gO (c:="list") (b:=true) ∅ (ta _) ?_;exists eB rfl (HN ?_);show body
end
def Ex.MP(h:Gr (-g) g g'):Ex g g':=#[h.len,λi hi=>h.old i () hi]
def pL(a b:@&Int):Bool:=a.all λs=>b.any λm=>m==s
section
variable{T:Nat->Option aQ}{d:Nat}
def Qb(rL:T 15=!AD){a b}(ha:-a<=1000)(h:∀g',Ex g g'->Q (.bl (pL a b)) g'):b7 T (k+1) 15 [.tup (a.map .int),.tup (b.map .int)] g Q E:=by
 show call_of rL rfl ?_;delta AD;exists M6 (a8 T _) (zP (a8 T _) ?_);exists#[_,rfl,_,λi ys σ g'=>∃z w,ys=((a.take i).map λs=>b.any λm=>m==s).map D.bl/\σ=[!.tup (b.map .int),z,w]/\g'=g,by simpa using ha,λi ys σ g' p=>#[L4,?_],#[none,none,rfl,rfl,rfl],λi x ys σ g' hx p=>?_,λys σ g' p=>?_]
 .let#[z,w,rfl,_]:=p;simp;omega
 .let#[z,w,rfl,rfl,rfl]:=p;rw[ag,aa] at hx;let#[s,hs,rfl]:=hx;exists uj (Py ?_);show#[_,_,?_,rfl,rfl];rw[bg,hs];simp
 .let#[z,w,rfl,rfl,rfl]:=p;show yU (a7 b0) (yN _) ?_;let e:((a.take (a.map D.int).length).map λs=>b.any λm=>m==s).all id=pL a b:=by
   simp[pL,List.all_map]
  rw[e];show h _ (Ex.snoc _ _)
def Xw(hx:PyData.strOk x=true)(h:kb (decide (x="lower")||decide (x="upper"))):oP g (.str x) (.tup [.str "lower",.str "upper"]) kb:=by
 show#[_,.inr #[_,[.str "lower",.str "upper"],.str x,rfl,rfl,rfl,by decide +kernel,by show hx,rfl],?_];let e:∀y:Str,PyData.eqv (.str y) (.str x)=decide (x=y):=λy=>by
  simp only[PyData.eqv];rw[bp,fO,dg];show eq_comm
 simp only[List.any_cons,List.any_nil,Bool.or_false,e];show h
def N1(UH:T 40=!Bg)(ho:PyData.strOk x=true)(h1:x="lower"\/x="upper"->Q .bq g)(h3:x≠"lower"->x≠"upper"->E #["BadSide"] g):b7 T (k+1) 40 [.str x] g Q E:=by
 show call_of UH rfl ?_;delta Bg;exists K8 (Xw ho ?_);left;by_cases e:x="lower"\/x="upper"
 .refine eB (by rw[Bool.not_eq_false',fj,dg,dg];show e) ?_;show h1 e
 .refine eR (by rw[Bool.not_eq_true',Bool.or_eq_false_iff,iH,iH];show not_or.mp e) ?_;left;show h3 (λz=>e (.inl z)) (λz=>e (.inr z))
def F9(jA:BV T)(ho:PyData.strOk x=true)(h1:x="lower"->Q (.int 0) g)(h2:x="upper"->Q (.int 2) g)(h3:x≠"lower"->x≠"upper"->E #["BadSide"] g):b7 T (k+2) 19 [.str x] g Q E:=by
 show call_of jA.1 rfl ?_;delta Gq;exists N1 jA.2 ho (λhx=>?_) h3;left;by_cases e1:x="lower"
 .let el:Z0 [.tup [.str "lower",.int 0],.tup [.str "upper",.int 2]] x=!.int 0:=by simp[Z0,e1]
  show Lf el ?_;show h1 e1
 .let e2:=hx.resolve_left e1;let el:Z0 [.tup [.str "lower",.int 0],.tup [.str "upper",.int 2]] x=!.int 2:=by simp[Z0,e1];simp[e2]
  show Lf el ?_;show h2 e2
def CB(c:b9):Prop:=-c.lm<=8/\-c.um<=8
def Y0(h1:NF T)(h2:T 2=!Q1)(oX:T 12=!E9)(qq:Ja T)(ha:g[a]?=!.lst (cs.map b9.d))(hz:-cs<=1000)(hm:9< -cs->E #["TooMany"] g)(hb:-cs<=9->cs.all j7=false->E #["BadCoin"] g)(h:-cs<=9->cs.all j7=true->Q .bq g):b7 T (k+6) 18 [.ref a] g Q E:=by
 show call_of qq.1 rfl ?_;delta GU;left;rw[ao];show if2 (λc=>?_) (λc=>?_)
 .left;show hm ()
 let h9:-cs<=9:=by omega
 exists L9 (a8 T _) (iV (a8 T _) ?_);exists#[a,_,rfl,a7 ha,cs.map b9.d,λi σ g'=>∃z,σ=[!.ref a,z]/\g'=g/\(cs.take i).all j7=true,λi σ g' p=>?_,#[none,rfl,rfl,by simp],λi x σ g' hx p=>?_,λσ g' p=>?_]
 .let#[z,rfl,rfl,_]:=p;show m9 (a7 ha)
 .let#[z,rfl,rfl,hg]:=p;rw[ag,aa] at hx;let#[c,hc,rfl]:=hx;show j8 ?_;exists call_of qq.2 rfl ?_;delta U4;exists Hb h1 h2 oX ?_;left;cases e:j7 c with
  |true =>
   show#[_,rfl,rfl,?_];rw[bg,hc];simp[hg,e]
  |false =>
   show MK ?_;exists hb h9 ?_;rw[List.all_eq_false];show#[c,aE hc,by rw[e];decide]
 .let#[z,rfl,rfl,hg]:=p;rw[ao,bt] at hg;show h h9 hg
end
section
variable{T:Nat->Option aQ}{d:Nat}
def aM1(h4:T 4=!T1)(h5:T 5=!uu)(ED:T 14=!AW){c}(hB:CB c)(D0:m8 g d)(h:∀(c':b9) g',CB c'->m8 g' d->Gr d g g'->Q c'.d g'):b7 T (k+3) 14 [.ref d,c.d] g Q E:=by
 show call_of ED rfl ?_;dsimp[AW,b8,List.replicate,b9.d];exists m5 h4 D0 ∅ ∅ λway g1 x x D1 G1=>?_;exists m5 h4 (D1.snoc _) ∅ ∅ λr g2 r0 r1 D2 G2=>?_;let e2:=G2.at (i:=-g1) (by have:=D1.lt;omega) (o:=.lst ([[1,0],[3,3],[8],[-1,2],[0,9],[7,10 ^ 20]].map λl=>D.tup (l.map D.int))) #[_];let#[v,hv,hm]:=G0 (l:=[[1,0],[3,3],[8],[-1,2],[0,9],[7,10 ^ 20]].map λl=>D.tup (l.map D.int)) r0 (_/r1);let#[odd,ho,rfl]:=ax.mp hm;let wX:-odd<=8:=by
  simp only[List.mem_cons,List.mem_nil_iff,or_false] at ho;rcases ho with rfl|rfl|rfl|rfl|rfl|rfl<;>decide
 show u4 (a7 e2) hv ?_;exists Hu h4 h5 D2 λf g3 D3 G3=>?_;exists m5 h4 (D3.snoc _) ∅ ∅ λr' g4 Sm Sl D4 G4=>?_;let e4:=G4.at (i:=-g3) (by have:=D3.lt;omega) (o:=.lst ([0,100,-1,f].map D.int)) #[_];let#[v',wQ,mJ]:=G0 (l:=[0,100,-1,f].map D.int) Sm (_/Sl);let#[num,_,rfl]:=ax.mp mJ;show u4 (a7 e4) wQ ?_;let G:=G1.trans ((Gr.snoc _ _ _).trans (G2.trans (G3.trans ((Gr.snoc _ _ _).trans G4))));exists if2 (λx=>?_) (λx=>?_)
 .left;show h #[num,c.lm,c.up,c.um,c.yr] g4 hB D4 G
 exists if2 (λx=>?_) (λx=>?_)
 .left;show h #[c.lo,odd,c.up,c.um,c.yr] g4 #[wX,hB.2] D4 G
 exists if2 (λx=>?_) (λx=>?_)
 .left;show h #[c.lo,c.lm,num,c.um,c.yr] g4 hB D4 G
 exists if2 (λx=>?_) (λx=>?_)
 .left;show h #[c.lo,c.lm,c.up,odd,c.yr] g4 #[hB.1,wX] D4 G
 exists if2 (λx=>?_) (λx=>?_)
 .exists Hu h4 h5 D4 λf' g5 D5 G5=>?_;exists m5 h4 (D5.snoc _) ∅ ∅ λr'' g6 CD CC D6 G6=>?_;let e6:=G6.at (i:=-g5) (by have:=D5.lt;omega) (o:=.lst ([-1,10000,9999,f'].map D.int)) #[_];let#[v'',De,Du]:=G0 (l:=[-1,10000,9999,f'].map D.int) CD (_/CC);let#[CI,_,rfl]:=ax.mp Du;show u4 (a7 e6) De ?_;left;show h #[c.lo,c.lm,c.up,c.um,CI] g6 hB D6 (G.trans (G5.trans ((Gr.snoc _ _ _).trans G6)))
 left;show h c g4 hB D4 G
end
def R7(f:Int)(c:b9):Int:=if f=0 then c.lo else c.up
def yi(hf:f=0\/f=2)(c:b9):iX [D.int c.lo,D.tup (c.lm.map .int),D.int c.up,D.tup (c.um.map .int),D.int c.yr] f=!.int (R7 f c):=by
 rcases hf with rfl|rfl<;>rfl
abbrev b9.py(c:b9):PyData:=.tuple [.int c.lo,.tuple (c.lm.map .int),.int c.up,.tuple (c.um.map .int),.int c.yr]
def bE9(c:b9):rd g (n+2) c.d=!c.py:=by
 unfold b9.d b9.py;simp only[rd,List.mapM_cons,List.mapM_nil,P4]
 rfl
def XC(c:b9):c.py.canLay0=true:=by
 unfold b9.py;simp[PyData.canLay0,PyData.canLayAll0,lay_ints]
def ZC(cs:@&b9):(PyData.list (cs.map b9.py)).canLay0=true:=by
 simp only[PyData.canLay0]
 induction cs with
 |nil=>rfl
 |cons c r ih=>simp[PyData.canLayAll0,XC,ih]
def Bt:aQ:=#[1,1,(dE (cK .Eq (dq 4 ay (aT 14)) (aT 9)) (bN (bw (.prim .lst (sI (bY "") (bY "Lower") (bY "both") (bY "upper "))) (dq 4 ay (aT 4)))) (bN (bw (bV .lst (bY "lower") (bY "upper")) (dq 4 ay (aT 2)))))]
section
variable{T:Nat->Option aQ}{d:Nat}
def bD2(h4:T 4=!T1)(DW:T 29=!Bt)(D0:m8 g d)(h:∀x g',PyData.strOk x=true->m8 g' d->Gr d g g'->Q (.str x) g'):b7 T (k+2) 29 [.ref d] g Q E:=by
 show call_of DW rfl ?_;delta Bt;exists m5 h4 D0 ∅ ∅ λr g1 y y D1 G1=>?_;exists if2 (λc=>?_) (λc=>?_)
 .exists m5 h4 (D1.snoc _) ∅ ∅ λr g2 r0 r1 D2 G2=>?_;let e2:=G2.at (i:=-g1) (by have:=D1.lt;omega) (o:=.lst (([("":Str),("Lower":Str),("both":Str),("upper ":Str)]:@&Str).map D.str)) #[_];let#[v,hv,hm]:=G0 (l:=([("":Str),("Lower":Str),("both":Str),("upper ":Str)]:@&Str).map D.str) r0 (_/r1);let#[x,hx,rfl]:=ax.mp hm;show u4 (a7 e2) hv ?_;exists h x g2 ?_ D2 (G1.trans ((Gr.snoc _ _ _).trans G2));simp only[List.mem_cons,List.mem_nil_iff,or_false] at hx;rcases hx with rfl|rfl|rfl|rfl<;>decide +kernel
 .exists m5 h4 (D1.snoc _) ∅ ∅ λr g2 r0 r1 D2 G2=>?_;let e2:=G2.at (i:=-g1) (by have:=D1.lt;omega) (o:=.lst (([("lower":Str),("upper":Str)]:@&Str).map D.str)) #[_];let#[v,hv,hm]:=G0 (l:=([("lower":Str),("upper":Str)]:@&Str).map D.str) r0 (_/r1);let#[x,hx,rfl]:=ax.mp hm;show u4 (a7 e2) hv ?_;exists h x g2 ?_ D2 (G1.trans ((Gr.snoc _ _ _).trans G2));simp only[List.mem_cons,List.mem_nil_iff,or_false] at hx;rcases hx with rfl|rfl<;>decide +kernel
end
def AS(ha:g[a]?=!.lst [.str "lower",.str "upper"])(hx:PyData.strOk x=true)(h:kb (decide (x="lower")||decide (x="upper"))):oP g (.str x) (.ref a) kb:=by
 show#[_,.inr #[_,[.str "lower",.str "upper"],.str x,a7 ha,rfl,rfl,by simp only[PyData.canLayAll0,PyData.canLay0,Bool.and_true];decide +kernel,by simp only[PyData.canLay0];show hx,rfl],?_];let e:∀y:Str,PyData.eqv (.str y) (.str x)=decide (x=y):=λy=>by
  simp only[PyData.eqv];rw[bp,fO,dg];show eq_comm
 simp only[List.any_cons,List.any_nil,Bool.or_false,e];show h
def ZF{l}(ha:g[a]?=!.lst l)(hb:g[b]?=!.lst l)(h:∀x∈l,(∃i,x=.int i)\/∃y,x=.str y)(hz:-l<=1000):u5 g 1 (.ref a) (.ref b):=by
 show .lst ha hb rfl (λi x y hx hy=>?_) hz;rw[hx] at hy;cases hy;rcases h x (aE hx) with⟨j,rfl⟩|⟨y,rfl⟩
 .exact .int _
 .exact .str _
def cD:b9:=#[0,[],0,[],0]
noncomputable abbrev gU(cs:@&b9)(i:Nat):b9:=cs.getD i cD
def sx{c}(h:cs[i]?=!c):gU cs i=c:=by simp[gU,List.getD,h]
inductive RW where
 |eL|lower|upper
abbrev RW.s:RW->Str
 |.eL=>"coin"
 |.lower=>"lower"
 |.upper=>"upper"
structure gn where
 w:RW
 x:Int
 y:Int
def gn.d(r:gn):D:=.tup [.str r.w.s,.int r.x,.int r.y]
def meant(cs:@&b9)(w:RW)(x:Int)(i:Nat):Bool:=match w with
 |.eL=>decide ((i:Int)=x)
 |.lower=>decide ((gU cs i).lo=x)
 |.upper=>decide ((gU cs i).up=x)
abbrev jg(cs:@&b9)(w:RW)(x:Int):@&Nat:=(List.range (-cs)).filter (meant cs w x)
abbrev a9(l:@&Nat):@&D:=l.map λ(i:Nat)=>D.int i
def rq(l:@&Nat):Nat:=(l.map (2 ^ ·)).sum
def je(n:Nat)(p:Nat->Bool):Nat:=rq ((List.range n).filter p)
def OY(n:Nat)(p:Nat->Bool):je (n+1) p=je n p+if p n=true then 2 ^ n else 0:=by
 unfold je rq;rw[ji,cP,bB,List.sum_append];cases h:p n<;>simp[List.filter_cons,h]
def bN8(n:Nat)(p:Nat->Bool):je n p<2 ^ n:=by
 induction n with
 |zero=>simp[je,rq]
 |succ n ih =>
  rw[OY,Nat.pow_succ];split<;>omega
def Ol(n:Nat)(p:Nat->Bool)(i:Nat):(je n p).testBit i=(decide (i<n)&&p i):=by
 induction n with
 |zero=>simp[je,rq]
 |succ n ih =>
  let hl:=bN8 n p;rw[OY];by_cases hp:p n=true
  .rw[aM hp,Nat.add_comm];rcases fu i n with h|h|h
   .rw[Nat.testBit_two_pow_add_gt h,ih,aG h,aG ()]
   .subst h;rw[Nat.testBit_two_pow_add_eq,ih];simp[hp]
   .rw[Nat.testBit_lt_two_pow (aB (show 2 ^ n+je n p<2 ^ (n+1) by omega) (Cb () h)),aA ()]
    rfl
  .rw[aI hp,Nat.add_zero,ih];by_cases h:i=n
   .subst h;simp[hp]
   .rw[show decide (i<n)=decide (i<n+1) from de.mpr ()]
def HY(a b:Nat):Builtin.bitAnd (a:Int) (b:Int)=((a &&& b:Nat):Int):=by
 rfl
def bT1(a b:Nat):Builtin.bitOr (a:Int) (b:Int)=((a |||b:Nat):Int):=by
 unfold Builtin.bitOr Builtin.bitAnd;let h1:∀x:Nat,decide (0<=Builtin.bitNot (x:Int))=false:=λx=>by unfold Builtin.bitNot;show aA ()
 let h2:∀x:Nat,Builtin.bitNot (Builtin.bitNot (x:Int))=x:=λx=>by unfold Builtin.bitNot;omega
 rw[h1,h1];simp only[h2];simp
def bZ0(a b:Nat):((a &&& b:Nat)≠0)↔∃i,a.testBit i=true/\b.testBit i=true:=by
 constructor
 .intro h;let#[i,hi]:=Nat.exists_testBit_of_ne_zero h;rw[Nat.testBit_and,bj] at hi;show#[i,hi]
 .rintro⟨i,h1,h2⟩ e;have:(a &&& b).testBit i=true:=by rw[Nat.testBit_and,h1,h2];rfl
  rw[e,Nat.zero_testBit] at this;cases this
def Av(s n:Nat)(p:Nat->Bool):((((s &&& je n p:Nat):Int) != 0)=(List.range n).any λi=>s.testBit i&&p i):=by
 rw[bp,bne_iff_ne,bO];have:(((s &&& je n p:Nat):Int)≠0)↔((s &&& je n p:Nat)≠0):=by omega
 rw[this,bZ0];constructor
 .rintro⟨i,h1,h2⟩;rw[Ol,bj,ft] at h2;show#[i,bh.mpr h2.1,by rw[h1,h2.2];rfl]
 .rintro⟨i,h1,h2⟩;rw[bj] at h2;show#[i,h2.1,by rw[Ol,aG (bh.mp h1),h2.2];rfl]
def mw(a b:b9):Bool:=(decide (a.lo=b.lo)&&~~~pL a.lm b.lm)||(decide (a.up=b.up)&&~~~pL a.um b.um)
def mE(a b:b9):Bool:=decide (0<b.yr)&&decide (b.yr<a.yr)
def vq(cs:@&b9)(S:Nat->Bool)(p:Nat):Bool:=(List.range (-cs)).any λi=>S i&&mw (gU cs i) (gU cs p)
def yX(cs:@&b9)(S:Nat->Bool)(p:Nat):Bool:=(List.range (-cs)).any λi=>S i&&mE (gU cs i) (gU cs p)
abbrev yR(cs:@&b9)(S:Nat->Bool)(p:Nat)(d:Int):Bool :=
 ((List.range (-cs)).any λi=>(S i||decide (i=p))&&decide ((gU cs i).lo=d))&&((List.range (-cs)).any λi=>~~~S i&&decide ((gU cs i).lo=d))
def FJ(cs:@&b9)(S:Nat->Bool)(p:Nat):Nat:=((p9 (cs.map b9.lo)).filter (yR cs S p)).length
def Bu(cs:@&b9)(rs:@&gn)(S:Nat->Bool)(p:Nat):Bool:=rs.all λr=>~~~meant cs r.w r.y p||(List.range (-cs)).any λi=>S i&&meant cs r.w r.x i
abbrev fault(cs:@&b9)(v:Int)(rs:@&gn)(S:Nat->Bool)(p:Nat):Str :=
 if vq cs S p=true then "wear" else if yX cs S p=true then "year" else if v<FJ cs S p then "anvil" else if Bu cs rs S p=true then "" else "rule"
def Ai(x:Str):D:=if x="" then .bq else .str x
def Z8:aQ:=#[3,4,(dE (.du (.eP (eT 38 aV))) (bN (.prim .lst .nil)) (dE (cK .Eq aN (bY "coin")) (bN (.comp [2] 3 (.one 2) (.fo (bZ .len ay)) (cK .Eq aV ay) aV)) (dH 3 (eT 19 aN) (bN (.comp [3,2] 5 (.many [3,4]) (.lF ay) (cK .Eq (bw da ay) aN) bz)))))]
def yy:aQ:=#[2,3,(jn (eT 18 ay) (dH 2 (eT 19 aN) (bN (.ir [2] 3 (.one 2) (.eQ ay) .no (bw aV ay)))))]
def Gs:aQ:=#[2,5,(gi (.nC (.many [2,3,4]) aN) (dE (.iu (cK .NotIn aV (.lit (.tup [(.str "coin"),(.str "lower"),(.str "upper")]))) (cK .Eq bz da)) (bN (.lit (.bl false))) (bN (.dZ (bV (.cmp .NotEq) (gh 74 ay aV bz) (.prim .lst .nil)) (bV (.cmp .NotEq) (gh 74 ay aV da) (.prim .lst .nil))))))]
def GV:aQ:=#[2,4,(eE (.gL (.many [2,3]) (.lF aN) (eE (.ifs (.du (.eP (dq 88 ay bz))) (eE (.expr .no)) .pass))))]
def AM:aQ:=#[1,1,(bN (bZ .sum (.comp [] 2 (.one 1) (.eQ ay) .no (bV (.bin .LShift) (aT 1) aN))))]
def AY:aQ:=#[2,2,(bN (bV (.bin .BitOr) ay (bV (.bin .LShift) (aT 1) aN)))]
def PK:aQ:=#[2,4,(oh (.one 2) (.eQ (.lit (.tup [(.str "lower"),(.str "upper")]))) (dH 3 (eT 19 aV) (eE (.ifs (.dZ (cK .Eq (bw ay bz) (bw aN bz)) (.du (.eP (dq 15 (bw ay (bV (.bin .Add) bz (aT 1))) (bw aN (bV (.bin .Add) bz (aT 1))))))) (bN (.lit (.bl true))) .pass))) (bN (.lit (.bl false))))]
def Hx:aQ:=#[2,2,(bN (.chain .Lt .Lt (aT 0) (bw aN (aT 4)) (bw ay (aT 4))))]
def NJ:aQ:=#[1,1,(bN (.comp [0] 3 (.one 2) (.eQ ay) .no (eT 90 (.comp [2] 4 (.many [2,3]) (.lF ay) (.eP (dq 92 bz ay)) aV))))]
def NS:aQ:=#[1,1,(bN (.comp [0] 3 (.one 2) (.eQ ay) .no (eT 90 (.comp [2] 4 (.many [2,3]) (.lF ay) (.eP (dq 93 bz ay)) aV))))]
def GF:aQ:=#[1,1,(bN (.comp [0] 3 (.one 2) (.eQ (dq 20 ay (bY "lower"))) .no (eT 90 (gh 74 ay (bY "lower") aV))))]
def Hm:aQ:=#[2,8,(dH 2 (.comp [] 2 (.one 1) (.eQ ay) .no (.prim .lst .nil)) (oh (.many [3,4,5]) (.eQ aN) (dH 6 (eT 90 (gh 74 ay bz da)) (eE (.gL (.one 7) (.eQ (gh 74 ay bz dY)) (eE (.ifs (cK .NotIn fQ (bw aV kR)) (eE (.expr (.dX .append (bw aV kR) (gb fQ)))) .pass))))) (bN aV)))]
def Y8:aQ:=#[3,3,(jn (eT 18 ay) (jn (eT 42 aN) (eE (.expr (dq 89 ay aV)))))]
def Gn:aQ:=#[3,3,(jn (gh 98 ay aN aV) (bN (.make "Bounds" 113 (mD ay aN aV))))]
def GG:aQ:=#[3,5,(dH 3 (dq 91 aN aV) (dH 4 (bV (.bin .Sub) (bZ (.fld "full") ay) aN) (bN (bZ .len (.comp [4,3] 4 (.one 3) (.eQ (bZ (.fld "lower_dies") ay)) (.dZ (.eP (bV (.bin .BitAnd) bz aN)) (.eP (bV (.bin .BitAnd) bz ay))) bz)))))]
def GH:aQ:=#[3,3,(dE (.eP (bV (.bin .BitAnd) aN (bw (bZ (.fld "worn_by_place") ay) aV))) (bN (bY "wear")) (dE (.eP (bV (.bin .BitAnd) aN (bw (bZ (.fld "later_by_place") ay) aV))) (bN (bY "year")) (dE (cK .Gt (gh 100 ay aN aV) (bZ (.fld "room") ay)) (bN (bY "anvil")) (dE (.du (.eP (bZ .all (.comp [1] 3 (.one 2) (.eQ (bw (bZ (.fld "needed_by_place") ay) aV)) .no (bV (.bin .BitAnd) ay aV))))) (bN (bY "rule")) (bN (.lit .bq))))))]
def GQ:aQ:=#[4,4,(gi (.fH "size" ["Bounds"] ay (bZ .len aN)) (gi (.fH "full" ["Bounds"] ay (bV (.bin .Sub) (bV (.bin .LShift) (aT 1) (bZ .len aN)) (aT 1))) (gi (.fH "room" ["Bounds"] ay aV) (gi (.fH "worn_by_place" ["Bounds"] ay (eT 94 aN)) (gi (.fH "later_by_place" ["Bounds"] ay (eT 95 aN)) (gi (.fH "lower_dies" ["Bounds"] ay (eT 96 aN)) (eE (.fH "needed_by_place" ["Bounds"] ay (dq 97 aN bz)))))))))]
section
variable{σ:S}{c:ME}
def P7(hP:j4 P)(Sh:S->Prop)(p:Nat->Bool)(w:Nat->D){l}{k}(hk:∀g',Ex g g'->k.Is l g')(hl:-l<=1000)(h0:Sh (P0 σ d8 n))(hs:∀i d σ g',l[i]?=!d->Ex g g'->Sh σ->ko t d σ λcE=>et P c cE g' (λb g3=>b=p i/\Ex g g3/\if b=true then aY P elt cE g3 (λy g4=>y=w i/\Ex g g4/\Sh cE) jD else Sh cE) jD)(hd:∀g',Ex g g'->Q (.ref (-g')) (g'++[.lst (((List.range (-l)).filter p).map w)]))(hi:∀R:IK->G->Prop,R k g->gR P it σ g R E):aY P (.comp d8 n t it c elt) σ g Q E:=by
 show M6 hP (hi _ ?_);show#[l,λi ys σ g'=>Ex g g'/\ys=((List.range i).filter p).map w/\Sh σ,hl,λi ys σ g' q=>#[hk _ q.1,?_],#[Ex.refl _,rfl,h0],λi x ys σ g' hx q=>?_,λys σ g' q=>?_]
 .let#[_,rfl,_]:=q;rw[ao];show aC (dk _ _) #[_]
 .let#[e1,rfl,sh]:=q;show E0 (λcE q=>w5 hP c _ _ _ _ _ _ (λb g3 q=>?_) (λv v z=>z) q) (hs i x σ g' hx e1 sh);let#[rfl,e3,q]:=q;let ef:((List.range (i+1)).filter p).map w=((List.range i).filter p).map w++if p i=true then[w i] else[]:=by
   rw[ji,cP,bB];cases z:p i<;>simp only[List.filter_cons,z,List.filter_nil]<;>rfl
  cases hp:p i with
  |true =>
   rw[hp] at q ef;show c9 hP elt _ _ _ _ _ _ (λy g4 q=>?_) (λv v z=>z) q;let#[rfl,e4,sh]:=q;show#[e4,by rw[ef];rfl,sh]
  |false =>
   simp_all
 .let#[e1,rfl,sh]:=q;show hd g' e1
def comp_map(hP:j4 P)(Sh:S->Prop)(w:Nat->D){l}{k}(hk:∀g',Ex g g'->k.Is l g')(hl:-l<=1000)(h0:Sh (P0 σ d8 n))(hs:∀i d σ g',l[i]?=!d->Ex g g'->Sh σ->ko t d σ λcE=>aY P elt cE g' (λy g4=>y=w i/\Ex g g4/\Sh cE) jD)(hd:∀g',Ex g g'->Q (.ref (-g')) (g'++[.lst ((List.range (-l)).map w)]))(hi:∀R:IK->G->Prop,R k g->gR P it σ g R E):aY P (.comp d8 n t it .no elt) σ g Q E:=by
 show P7 hP Sh (λx=>true) w hk hl h0 (λi d σ g' hx e sh=>E0 (λcE q=>O6 #[rfl,e,?_]) (hs i d σ g' hx e sh)) (λg' e=>?_) hi
 .exact jv q
 .have:=hd g' e
  rwa [show(List.range (-l)).filter (λx=>true)=List.range (-l) from gw.mpr λx x=>rfl]
def rY(hP:j4 P){l}{o}(hl:d7 g a=!l)(h:∀Q:KD,Q (.ref a) g->aY P o σ g Q E):∀R:IK->G->Prop,R (.lst a) g->gR P (.eQ o) σ g R E:=λR r=>iV hP (h _ #[a,l,rfl,hl,r])
def Fz{l}{o}(hl:d7 g a=!l)(h:∀Q:KD,Q (.ref a) g->aY P o σ g Q E):∀R:IK->G->Prop,R (.ub a) g->gR P (.lF o) σ g R E:=λR r=>CU (h _ #[a,l,rfl,hl,r])
def FA(hP:j4 P){o}(hj:j<=1000)(h:∀Q:KD,Q (.int (j:Nat)) g->aY P o σ g Q E):∀R:IK->G->Prop,R (.fix (E1 0 j)) g->gR P (.fo o) σ g R E:=λR r=>yP hP (h _ #[j,rfl,by omega,by omega,by simpa using r])
end
def OG(l:@&Nat):a9 l=(l.map λ(i:Nat)=>(i:Int)).map D.int:=by simp[a9]
structure TB0(T:Nat->Option aQ):Prop where
 nf:NF T
 h2:T 2=!Q1
 oX:T 12=!E9
 qq:Ja T
 jA:BV T
 rL:T 15=!AD
 Es:T 20=!yy
 qm:T 74=!Z8
 UE:T 88=!Gs
 UD:T 89=!GV
 vg:T 90=!AM
 ql:T 91=!AY
 UC:T 92=!PK
 UB:T 93=!Hx
 UA:T 94=!NJ
 Uz:T 95=!NS
 Uy:T 96=!GF
 Ux:T 97=!Hm
 EK:T 100=!GG
 EJ:T 101=!GH
 EI:T 113=!GQ
structure TB(T:Nat->Option aQ):Prop extends TB0 T where
 xE:T 42=!P5
 DV:T 98=!Y8
 Uw:T 99=!Gn
instance{T:Nat->Option aQ}:CoeOut (TB T) (TB0 T):=#[TB.toTB0]
section
variable{T:Nat->Option aQ}{d:Nat}
def aC8(h1:NF T)(xE:T 42=!P5){i}(h:1<=i->i<=9->Q .bq g)(hn:¬(1<=i/\i<=9)->E #["BadAnvils"] g):b7 T (k+3) 42 [.int i] g Q E:=by
 show call_of xE rfl ?_;delta P5;exists L1 h1 ?_;left;by_cases hi:1<=i/\i<=9
 .rw[aG hi.1,aG hi.2];show h hi.1 hi.2
 .have:(decide (1<=i)&&decide (i<=9))=false:=by
   simp_all
  rw[this];left;show hn hi
def T5(h1:NF T)(jA:BV T)(qm:T 74=!Z8){x}(ha:g[a]?=!.lst (cs.map b9.d))(hz:-cs<=1000)(h:∀g' b,Ex g g'->-g<=b->g'[b]?=!(.lst (a9 (jg cs w x)))->Q (.ref b) g'):b7 T (k+3) 74 [.ref a,.str w.s,.int x] g Q E:=by
 show call_of qm rfl ?_;delta Z8;exists L3 h1 ?_;left;let fld:∀f:Int,(f=0\/f=2)->(∀i c,cs[i]?=!c->meant cs w x i=decide (R7 f c=x))->aY (b7 T (k+2)) (.comp [3,2] 5 (.many [3,4]) (.lF (.var 0)) (.eP (.prim (.cmp .Eq) (.cons (.prim .ix (.cons (.var 4) (.cons (.var 0) .nil))) (.cons (.var 1) .nil)))) (.var 3)) [!.ref a,!.str w.s,!.int x,!.int f] g Q E:=λf hf hm=>by
  show P7 (a8 T _) (λσ=>∃z2 z3 z4,σ=[!.int f,!.int x,z2,z3,z4]) (meant cs w x) (λi=>.int (i:Nat)) (λg' e=>BE (a7 (e.at ha))) (by rw[X7];simpa using hz) #[none,none,none,rfl] (λi d σ g' hx e sh=>?_) (λg' e=>?_) (Fz (a7 ha) λQ q=>w_var rfl q)
  .let#[z2,z3,z4,rfl]:=sh;let#[dd,hd,rfl]:=Ax hx;rw[ag,aa] at hd;let#[c,hc,rfl]:=hd;show N6 rfl ?_;exists E7 (yi hf c) ?_;left;rw[hm i c hc];show#[rfl,e,?_];show if2 (λy=>?_) (λy=>?_)
   .left;show#[rfl,e,_,_,_,rfl]
   .exact#[_,_,_,rfl]
  .rw[X7,ao];show h _ _ (e.trans (Ex.snoc _ _)) e.len b0
 cases w with
 |eL =>
  show eR #[] ?_;exists P7 (a8 T _) (λσ=>∃z1 z2,σ=[!.int x,z1,z2]) (meant cs .eL x) (λi=>.int (i:Nat)) (λg' e=>L4) (by rw[N8];show hz) #[none,none,rfl] (λi d σ g' hx e sh=>?_) (λg' e=>?_) (FA (a8 T _) hz λQ q=>?_)
  .let#[z2,z3,rfl]:=sh;let#[hi,rfl]:=T4 hx;rw[gE];show j8 ?_;exists#[rfl,e,?_];show if2 (λy=>?_) (λy=>?_)
   .left;show#[rfl,e,_,_,rfl]
   .exact#[_,_,rfl]
  .rw[N8];show h _ _ (e.trans (Ex.snoc _ _)) e.len b0
  .left;rw[ao];show q
 |lower =>
  show eB #[] ?_;exists F9 jA #[] (λy=>?_) (λz=>absurd z #[]) (λz=>absurd rfl z);show fld 0 (.inl rfl) λi c hc=>by simp only[meant,sx hc];rfl
 |upper =>
  show eB #[] ?_;exists F9 jA #[] (λz=>absurd z #[]) (λy=>?_) (λy z=>absurd rfl z);show fld 2 (.inr rfl) λi c hc=>by simp only[meant,sx hc];rfl
def Y4(vg:T 90=!AM)(ha:g[a]?=!.lst (a9 l))(hz:-l<=1000)(hl:∀i∈l,i<=1000)(h:∀g',Ex g g'->Q (.int (rq l:Nat)) g'):b7 T (k+1) 90 [.ref a] g Q E:=by
 show call_of vg rfl ?_;delta AM;exists comp_map (a8 T _) (λσ=>∃z0 z1,σ=[z0,z1]) (λi=>.int ((2 ^ (l.getD i 0):Nat):Int)) (λg' e=>m9 (a7 (e.at ha))) (by simpa[a9] using hz) #[none,none,rfl] (λi d σ g' hx e sh=>?_) (λg' e=>?_) (rY (a8 T _) (a7 ha) λQ q=>w_var rfl q)
 .let#[z0,z1,rfl]:=sh;rw[a9,ag,aa] at hx;let#[j,hj,rfl]:=hx;show j8 ?_;left;have:=hl j (aE hj);show FN #[by omega,by omega,by decide] ?_;show#[?_,e,_,_,rfl];simp[List.getD,hj]
 .refine Ly (ns:=(List.range (-l)).map λi=>((2 ^ (l.getD i 0):Nat):Int)) (a7 (by simpa[a9] using b0)) ?_;have:((List.range (-l)).map λi=>((2 ^ (l.getD i 0):Nat):Int)).sum=(rq l:Nat):=by
   let e2:(List.range (-l)).map (λi=>((2 ^ (l.getD i 0):Nat):Int))=(l.map (2 ^ ·)).map λ(n:Nat)=>(n:Int):=by
    show fB λi=>?_;rw[ag,ag,ag];by_cases hi:i< -l
    .simp[List.getD,hi]
    .rw[bc (_/hi),bc ()]
     rfl
   rw[e2];unfold rq;generalize l.map (2 ^ ·)=m
   induction m with
   |nil=>rfl
   |cons x r ih=>simp[ih]
  rw[this];show h _ (e.trans (Ex.snoc _ _))
def F6(ql:T 91=!AY){s}(hp:p<=1000)(h:Q (.int ((s |||2 ^ p:Nat):Int)) g):b7 T (k+1) 91 [.int (s:Nat),.int (p:Nat)] g Q E:=by
 show call_of ql rfl ?_;delta AY;exists FN #[by omega,by omega,by decide] ?_;show Vk ?_;let e:(1:Int)*2 ^ ((p:Nat):Int).toNat=((2 ^ p:Nat):Int):=by simp
 rw[e,bT1];show h
end
section
variable{T:Nat->Option aQ}{d:Nat}
def Mz{c}(h:CB c):-c.lm<=1000/\-c.um<=1000:=#[aC h.1 ∅,aC h.2 ∅]
def aS3(hT:TB0 T){c e}(hc:CB c)(h:∀g',Ex g g'->Q (.bl (mw c e)) g'):b7 T (k+3) 92 [c.d,e.d] g Q E:=by
 show call_of hT.UC rfl ?_;show L9 (a8 T _) (zP (a8 T _) ?_);show#[_,rfl,_,λi σ g'=>Ex g g'/\(∃z2 z3,σ=[!c.d,!e.d,z2,z3])/\(1<=i->(decide (c.lo=e.lo)&&~~~pL c.lm e.lm)=false)/\(2<=i->(decide (c.up=e.up)&&~~~pL c.um e.um)=false),λy y y y=>L4,#[Ex.refl _,#[none,none,rfl],λz=>absurd z (),λz=>absurd z ()],λi x σ g' hx q=>?_,λσ g' q=>?_]
 .let#[e1,#[z2,z3,rfl],q1,q2]:=q;show j8 ?_
  match i,hx with
  |0,hx =>
   cases hx;exists F9 hT.jA #[] (λy=>?_) (λz=>absurd z #[]) (λz=>absurd rfl z);exists E7 rfl ?_;exists E7 rfl ?_;exists if2 (λh1=>?_) (λh1=>?_)
   .exists E7 rfl ?_;exists E7 rfl ?_;exists Qb hT.rL (Mz hc).1 λg2 e2=>?_;left;cases hw:pL c.lm e.lm with
    |false =>
     left;have:mw c e=true:=by unfold mw;rw[aG h1,hw];rfl
     rw[<- this];show h _ (e1.trans e2)
    |true =>
     show#[e1.trans e2,#[_,_,rfl],λy=>by rw[aG h1];rfl,λz=>absurd z ()]
   .exact#[e1,#[_,_,rfl],λy=>by rw[aA h1];rfl,λz=>absurd z ()]
  |1,hx =>
   cases hx;exists F9 hT.jA #[] (λz=>absurd z #[]) (λy=>?_) (λy z=>absurd rfl z);exists E7 rfl ?_;exists E7 rfl ?_;exists if2 (λh1=>?_) (λh1=>?_)
   .exists E7 rfl ?_;exists E7 rfl ?_;exists Qb hT.rL (Mz hc).2 λg2 e2=>?_;left;cases hw:pL c.um e.um with
    |false =>
     left;have:mw c e=true:=by unfold mw;rw[aG h1,hw];simp
     rw[<- this];show h _ (e1.trans e2)
    |true =>
     show#[e1.trans e2,#[_,_,rfl],λy=>q1 (),λy=>by rw[aG h1];rfl]
   .exact#[e1,#[_,_,rfl],λy=>q1 (),λy=>by rw[aA h1];rfl]
  |i+2,hx=>simp at hx
 .let#[e1,#[z2,z3,rfl],q1,q2]:=q;have:mw c e=false:=by unfold mw;rw[q1 ∅,q2 ∅];rfl
  rw[<- this];show h _ e1
def Xz(hT:TB0 T){c e}(h:Q (.bl (mE c e)) g):b7 T (k+1) 93 [c.d,e.d] g Q E:=by
 show call_of hT.UB rfl ?_;delta Hx;exists E7 rfl ?_;exists if2 (λh1=>?_) (λh1=>?_)
 .exists E7 rfl ?_;left;have:mE c e=decide (e.yr<c.yr):=by unfold mE;rw[aG h1];rfl
  rw[<- this];show h
 .have:mE c e=false:=by unfold mE;rw[aA h1];rfl
  rw[<- this];show h
abbrev uP(cs:@&b9)(q:b9->b9->Bool):@&D:=(List.range (-cs)).map λi=>.int ((je (-cs) λj=>q (gU cs j) (gU cs i):Nat):Int)
def yt{q}:∀i∈(List.range (-cs)).filter q,i< -cs:=λi hi=>bh.mp (ba.mp hi).1
def yH{q}:((List.range n).filter q).length<=n:=aC (dk _ _) #[_]
def bB3(hT:TB0 T)(ha:g[a]?=!.lst (cs.map b9.d))(hz:-cs<=9)(hB:∀c∈cs,CB c)(h:∀g' b,Ex g g'->-g<=b->g'[b]?=!.lst (uP cs mw)->Q (.ref b) g'):b7 T (k+4) 94 [.ref a] g Q E:=by
 show call_of hT.UA rfl ?_;show comp_map (a8 T _) (λσ=>∃z1 z2,σ=[!.ref a,z1,z2]) (λi=>.int ((je (-cs) λj=>mw (gU cs j) (gU cs i):Nat):Int)) (λg' e=>m9 (a7 (e.at ha))) (by simp;omega) #[none,none,rfl] (λi d σ g' hx e sh=>?_) (λg' e=>?_) (rY (a8 T _) (a7 ha) λQ q=>w_var rfl q)
 .let#[z1,z2,rfl]:=sh;rw[ag,aa] at hx;let#[c,hc,rfl]:=hx;show j8 ?_;exists P7 (a8 T _) (λσ=>∃z1 z2 z3,σ=[!c.d,z1,z2,z3]) (λj=>mw (gU cs j) (gU cs i)) (λi=>.int (i:Nat)) (λg2 e2=>BE (a7 ((e.trans e2).at ha))) (by rw[X7];simp;omega) #[none,none,none,rfl] (λj d σ g2 hx e2 sh=>?_) (λg2 e2=>?_) (Fz (a7 (e.at ha)) λQ q=>w_var rfl q)
  .let#[z1,z2,z3,rfl]:=sh;let#[dd,hd,rfl]:=Ax hx;rw[ag,aa] at hd;let#[c',ni,rfl]:=hd;show N6 rfl ?_;exists aS3 hT (hB c' (aE ni)) λg3 e3=>?_;exists#[by simp only[sx ni,sx hc],e2.trans e3,?_];cases mw c' c with
   |true =>
    show eR rfl ?_;left;show#[rfl,e2.trans e3,_,_,_,rfl]
   |false=>show eB rfl #[_,_,_,rfl]
  .exists Y4 hT.vg (by have:=b0 (g:=g2) (o:=.lst (((List.range (qw (cs.map b9.d)).length).filter λj=>mw (gU cs j) (gU cs i)).map λi=>D.int (i:Nat)));rw[X7,ao] at this ⊢;show this) (aC yH ()) (λj hj=>by have:=yt j hj;omega) λg3 e3=>?_;show#[rfl,(e.trans (e2.trans (Ex.snoc _ _))).trans e3,_,_,rfl]
 .refine h _ _ (e.trans (Ex.snoc _ _)) e.len ?_;rw[b0,ao]
  rfl
def ZA(hT:TB0 T)(ha:g[a]?=!.lst (cs.map b9.d))(hz:-cs<=9)(h:∀g' b,Ex g g'->-g<=b->g'[b]?=!.lst (uP cs mE)->Q (.ref b) g'):b7 T (k+4) 95 [.ref a] g Q E:=by
 show call_of hT.Uz rfl ?_;show comp_map (a8 T _) (λσ=>∃z1 z2,σ=[!.ref a,z1,z2]) (λi=>.int ((je (-cs) λj=>mE (gU cs j) (gU cs i):Nat):Int)) (λg' e=>m9 (a7 (e.at ha))) (by simp;omega) #[none,none,rfl] (λi d σ g' hx e sh=>?_) (λg' e=>?_) (rY (a8 T _) (a7 ha) λQ q=>w_var rfl q)
 .let#[z1,z2,rfl]:=sh;rw[ag,aa] at hx;let#[c,hc,rfl]:=hx;show j8 ?_;exists P7 (a8 T _) (λσ=>∃z1 z2 z3,σ=[!c.d,z1,z2,z3]) (λj=>mE (gU cs j) (gU cs i)) (λi=>.int (i:Nat)) (λg2 e2=>BE (a7 ((e.trans e2).at ha))) (by rw[X7];simp;omega) #[none,none,none,rfl] (λj d σ g2 hx e2 sh=>?_) (λg2 e2=>?_) (Fz (a7 (e.at ha)) λQ q=>w_var rfl q)
  .let#[z1,z2,z3,rfl]:=sh;let#[dd,hd,rfl]:=Ax hx;rw[ag,aa] at hd;let#[c',ni,rfl]:=hd;show N6 rfl ?_;exists Xz hT ?_;exists#[by simp only[sx ni,sx hc],e2,?_];cases mE c' c with
   |true =>
    show eR rfl ?_;left;show#[rfl,e2,_,_,_,rfl]
   |false=>show eB rfl #[_,_,_,rfl]
  .exists Y4 hT.vg (by have:=b0 (g:=g2) (o:=.lst (((List.range (qw (cs.map b9.d)).length).filter λj=>mE (gU cs j) (gU cs i)).map λi=>D.int (i:Nat)));rw[X7,ao] at this ⊢;show this) (aC yH ()) (λj hj=>by have:=yt j hj;omega) λg3 e3=>?_;show#[rfl,(e.trans (e2.trans (Ex.snoc _ _))).trans e3,_,_,rfl]
 .refine h _ _ (e.trans (Ex.snoc _ _)) e.len ?_;rw[b0,ao]
  rfl
def Xi(hT:TB0 T)(ha:g[a]?=!.lst (cs.map b9.d))(hz:-cs<=9)(hg:cs.all j7=true)(h:Q (.ref (-g)) (g++[.lst ((p9 (cs.map b9.lo)).map .int)])):b7 T (k+7) 20 [.ref a,.str "lower"] g Q E:=by
 show call_of hT.Es rfl ?_;delta yy;exists Y0 hT.nf hT.h2 hT.oX hT.qq ha () (λz=>by omega) (λx z=>by rw[hg] at z;cases z) λx x=>?_;exists F9 hT.jA #[] (λx=>?_) (λz=>absurd z #[]) (λz=>absurd rfl z);exists Oq (a8 T _) (iV (a8 T _) ?_);exists#[a,_,rfl,a7 ha,cs.map b9.d,λi ys σ g'=>∃z w,ys=(cs.take i).map b9.lo/\σ=[!.int 0,z,w]/\g'=g,by simp;omega,λi ys σ g' p=>?_,#[none,none,rfl,rfl,rfl],λi c ys σ g' hx p=>?_,λys σ g' p=>?_]
 .let#[z,w,rfl,rfl,rfl]:=p;show#[m9 (a7 ha),by simp;omega]
 .let#[z,w,rfl,rfl,rfl]:=p;rw[ag,aa] at hx;let#[c,hc,rfl]:=hx;exists E7 rfl ?_;show#[_,rfl,_,_,?_,rfl,rfl];rw[bg,hc];simp
 .let#[z,w,rfl,rfl,rfl]:=p;rw[ao,bt];show h
abbrev qG(cs:@&b9):@&D:=(p9 (cs.map b9.lo)).map λd=>.int ((je (-cs) (meant cs .lower d):Nat):Int)
def aL7(hT:TB0 T)(ha:g[a]?=!.lst (cs.map b9.d))(hz:-cs<=9)(hg:cs.all j7=true)(h:∀g' b,Ex g g'->-g<=b->g'[b]?=!.lst (qG cs)->Q (.ref b) g'):b7 T (k+8) 96 [.ref a] g Q E:=by
 show call_of hT.Uy rfl ?_;delta GF;left;let xc:(p9 (cs.map b9.lo)).length<=9:=aC (Z3 _) (_/hz);unfold qG at h;show M6 (a8 T _) (iV (a8 T _) ?_);exists Xi hT ha hz hg ?_;let e0:=Ex.snoc g (O.lst ((p9 (cs.map b9.lo)).map .int));let hb:=b0 (g:=g) (o:=O.lst ((p9 (cs.map b9.lo)).map .int));generalize p9 (cs.map b9.lo)=ds at *;generalize g++[O.lst (ds.map .int)]=g1 at *;show#[_,_,rfl,a7 hb,ds.map .int,λi ys σ g'=>Ex g1 g'/\ys=(ds.take i).map (λd=>.int ((je (-cs) (meant cs .lower d):Nat):Int))/\∃z1 z2,σ=[!.ref a,z1,z2],by simp;omega,λi ys σ g' q=>#[m9 (a7 (q.1.at hb)),?_],#[Ex.refl _,rfl,none,none,rfl],λi x ys σ g' hx q=>?_,λys σ g' q=>?_]
 .let#[_,rfl,_]:=q;simp;omega
 .let#[e1,rfl,z1,z2,rfl]:=q;rw[ag,aa] at hx;let#[dd,hd,rfl]:=hx;show j8 ?_;exists T5 hT.nf hT.jA hT.qm (w:=.lower) ((e0.trans e1).at ha) () λg2 b2 e2 y xu=>?_;exists Y4 hT.vg xu (aC yH ()) (λj hj=>by have:=yt j hj;omega) λg3 e3=>?_;show#[e1.trans (e2.trans e3),?_,_,_,rfl];rw[bg,hd];simp[je,jg]
 .let#[e1,rfl,z1,z2,rfl]:=q;rw[ao,bt];show h _ _ (e0.trans (e1.trans (Ex.snoc _ _))) (aC e0.len e1.len) b0
end
def Zt{i}{k}(ha:d7 g a=!ms.map .int)(h:k (ms.any λm=>m==i)):oP g (.int i) (.ref a) k:=by
 show#[_,.inr #[_,_,_,ha,P4 ms,rfl,lay_ints ms,by rfl,rfl],?_];rw[wb];show h
def bJ3{k}(ha:g[a]?=!.lst (a9 l))(h:k (decide (i∈l))):oP g (.int (i:Nat)) (.ref a) k:=by
 show Zt (by rw[<- OG];show a7 ha) ?_;have:((l.map λ(i:Nat)=>(i:Int)).any λm=>m==(i:Int))=decide (i∈l):=by
  rw[bp,bO,ft];constructor
  .rintro⟨x,hx,e⟩;let#[j,hj,rfl]:=ax.mp hx;rw[fO] at e;rw[show i=j by omega];show hj
  .exact λhi=>#[_,ax.mpr #[i,hi,rfl],by simp]
 rw[this];show h
structure oC(g:G)(nb lo n:Nat)(B:Nat->Nat)(F:Nat->Nat->Prop):Prop where
 ex:∃as:@&Nat,g[nb]?=!.lst (as.map .ref)/\-as=n/\as.Nodup/\(∀a∈as,lo<=a/\a≠nb)/\∀i a,as[i]?=!a->∃ms:@&Nat,g[a]?=!.lst (a9 ms)/\-ms<=B i/\∀m,m∈ms↔F i m
def oC.at{g g'}{nb lo n}{B}{F}(h:oC g nb lo n B F)(e:Ex g g'):oC g' nb lo n B F:=by
 let#[as,h1,h2,h3,h4,h5]:=h.ex;show#[#[as,e.at h1,h2,h3,h4,λi a hi=>?_]];let#[ms,m1,m2]:=h5 i a hi;show#[ms,e.at m1,m2]
def oC.imp{nb}{B B'}{F F'}(h:oC g nb lo n B F)(hB:∀i,i<n->B i<=B' i)(hF:∀i m,i<n->(F i m↔F' i m)):oC g nb lo n B' F' :=
 let ⟨as,h1,h2,h3,h4,h5⟩:=h.ex
 #[#[as,h1,h2,h3,h4,λi a hi=>let ⟨ms,m1,m2,m3⟩:=h5 i a hi
  let gT:i<n:=by rw[<- h2];show(ak.mp hi).1
  #[ms,m1,aC m2 (hB i gT),λm=>(m3 m).trans (hF i m gT)]]]
def vo(cs:@&b9)(rs:@&gn)(i m:Nat):Prop:=∃r∈rs,meant cs r.w r.y i=true/\m=je (-cs) (meant cs r.w r.x)
abbrev O3(rs:@&gn):@&D:=rs.map gn.d
def PU{l:List α}(h:l.Nodup){a:α}(hi:l[i]?=!a)(hj:l[j]?=!a):i=j:=by
 let#[h1,e1]:=ak.mp hi;let#[h2,e2]:=ak.mp hj;show(List.getElem_inj h).mp (e1.trans e2.symm)
section
variable{T:Nat->Option aQ}{d:Nat}
def ZK(hT:TB0 T)(ha:g[a]?=!.lst (cs.map b9.d))(hz:-cs<=9)(hc:g[c]?=!.lst (O3 rs))(hr:-rs<=900)(h:∀g' b,Ex g g'->-g<=b->oC g' b (-g) (-cs) (λv=>-rs) (vo cs rs)->Q (.ref b) g'):b7 T (k+4) 97 [.ref a,.ref c] g Q E:=by
 show call_of hT.Ux rfl ?_;delta Hm;exists M6 (a8 T _) (iV (a8 T _) ?_);exists#[a,_,rfl,a7 ha,cs.map b9.d,λi ys σ g'=>Ex g g'/\(∃as:@&Nat,ys=as.map .ref/\-as=i/\as.Nodup/\∀b∈as,(-g)<=b/\g'[b]?=!.lst [])/\∃z0 z1,σ=[z0,z1],by simp;omega,λi ys σ g' q=>#[m9 (a7 (q.1.at ha)),?_],#[Ex.refl _,#[[],rfl,rfl,by simp,by simp],none,none,rfl],λi x ys σ g' hx q=>?_,λys σ g' q=>?_]
 .let#[_,#[as,rfl,rfl,_],_]:=q;simp
 .let#[e1,#[as,rfl,hl,nd,hA],z0,z1,rfl]:=q;show j8 ?_;exists#[e1.trans (Ex.snoc _ _),#[as++[(-g')],by simp,by simp[hl],?_,λb hb=>?_],_,_,rfl]
  .rw[cV];show#[nd,by simp,λx hx y hy=>by cases aU.mp hy;show aK (i0 (hA x hx).2)]
  .rcases bA.mp hb with hb|hb
   .exact#[(hA b hb).1,(Ex.snoc _ _).at (hA b hb).2]
   .cases aU.mp hb;show#[e1.len,b0]
 .let#[e1,#[as,rfl,hl,nd,hA],z0,z1,rfl]:=q;rw[ao] at hl;let e2:=e1.trans (Ex.snoc g' (O.lst (as.map D.ref)));let lo:=e1.len;let N0:oC (g'++[O.lst (as.map D.ref)]) (-g') (-g) (-cs) (λv=>0) (vo cs []):=#[#[as,b0,hl,nd,λb hb=>#[(hA b hb).1,aK (i0 (hA b hb).2)],λi b hb=>#[[],(Ex.snoc _ _).at (hA b (aE hb)).2,by simp,λm=>#[λz=>absurd z #[_],(by rintro ⟨r,hr,_⟩;show absurd hr #[_])]]]]
  generalize (-g')=nb at *;show L9 (a8 T _) (iV (a8 T _) ?_);exists#[c,_,rfl,a7 (e2.at hc),O3 rs,λi σ g'=>Ex g g'/\oC g' nb (-g) (-cs) (λv=>i) (vo cs (rs.take i))/\∃z3 z4 z5 z6 z7,σ=[!.ref a,!.ref c,!.ref nb,z3,z4,z5,z6,z7],λi σ g' q=>m9 (a7 (q.1.at hc)),#[e2,N0,none,none,none,none,none,rfl],λi x σ g' hx q=>?_,λσ g' q=>?_]
  .let#[e3,N3,z3,z4,z5,z6,z7,rfl]:=q;rw[O3,ag,aa] at hx;let#[r,oR,rfl]:=hx;let hi:=(ak.mp oR).1;show N6 rfl ?_;exists T5 hT.nf hT.jA hT.qm (e3.at ha) () λg4 b4 e4 v Ul=>?_;exists Y4 hT.vg Ul (aC yH ()) (λj hj=>by have:=yt j hj;omega) λg5 e5=>?_;left;let KP:=e3.trans (e4.trans e5);let N5:=N3.at (e4.trans e5);let ef:rq (jg cs r.w r.x)=je (-cs) (meant cs r.w r.x):=rfl;rw[ef];generalize je (-cs) (meant cs r.w r.x)=first at *
   show L9 (a8 T _) (iV (a8 T _) ?_);exists T5 hT.nf hT.jA hT.qm (KP.at ha) () λg6 b6 e6 hb6 JZ=>?_;show#[b6,_,rfl,a7 JZ,a9 (jg cs r.w r.y),λj σ g'=>Ex g g'/\g'[b6]?=!(.lst (a9 (jg cs r.w r.y)))/\oC g' nb (-g) (-cs) (λq=>i+if q∈(jg cs r.w r.y).take j then 1 else 0) (λq m=>vo cs (rs.take i) q m\/(q∈(jg cs r.w r.y).take j/\m=first))/\(∀as:@&Nat,g'[nb]?=!.lst (as.map .ref)->b6∉as)/\∃z7,σ=[!.ref a,!.ref c,!.ref nb,!.str r.w.s,!.int r.x,!.int r.y,!.int (first:Nat),z7],λj σ g' q=>m9 (a7 q.2.1),#[KP.trans e6,JZ,(N5.at e6).imp (λq v=>by simp) (λq m v=>by simp),?_,z7,rfl],λj x σ g' hx q=>?_,λσ g' q=>?_]
   .intro iY h' hm;let#[NO,h1,h2,h3,h4,h5]:=N5.ex;have:=(e6.at h1).symm.trans h';let e':NO=iY:=by
     let h0:NO.map D.ref=iY.map D.ref:=by injection this with w;injection w
     show(RA (λx y z=>by injection z)).mp h0
    subst e';let#[i',gT]:=cO.mp hm;let#[ms,m1,_]:=h5 i' b6 gT;have:=i0 m1;omega
   .let#[e7,p7,N7,zL,z7,rfl]:=q;rw[a9,ag,aa] at hx;let#[q,hq,rfl]:=hx;let JY:=yt q (aE hq);let Ti:q∉(jg cs r.w r.y).take j:=λz=>by
     let#[j',uZ]:=cO.mp z;let hl:j'<j:=by
      have:=(ak.mp uZ).1;simp at this;omega
     rw[cR hl] at uZ;let Su:(jg cs r.w r.y).Nodup:=iK.filter _;have:=PU Su uZ hq;omega
    let tk:(jg cs r.w r.y).take (j+1)=(jg cs r.w r.y).take j++[q]:=by rw[bg,hq];rfl
    let#[yg,h1,h2,h3,h4,h5]:=N7.ex;let Tb:q< -yg:=by omega
    let ve:=aj Tb;generalize yg[q]=aq at ve;let#[ms,m1,m2,m3]:=h5 q aq ve;let gq:iX (yg.map D.ref) (q:Int)=!.ref aq:=D9 (by rw[ag,ve];rfl);show j8 ?_;exists u4 (a7 h1) gq ?_;show K8 (bJ3 m1 ?_);left;by_cases nW:first∈ms
    .refine eB (by simp[nW]) ?_;show#[e7,p7,N7.imp (λq' v=>?_) (λq' m v=>?_),zL,_,rfl]
     .rw[tk];by_cases z:q'∈(jg cs r.w r.y).take j
      .simp[z]
      .simp[z]
     .rw[tk];simp only[List.mem_append,List.mem_singleton];constructor
      .rintro(z|⟨z1,z2⟩)
       .exact .inl z
       .exact .inr #[.inl z1,z2]
      .rintro(z|⟨z1|z1,z2⟩)
       .exact .inl z
       .exact .inr #[z1,z2]
       .subst z1 z2;show(m3 m).mp nW
    .refine eR (by simp[nW]) ?_;exists u4 (a7 h1) gq ?_;left;rw[aI Ti] at m2;show yY m1 (by simp[a9];omega) ?_;let nU:=aE ve;let fE:=(h4 aq nU).2;let Tp:aq≠b6:=λz=>zL yg h1 (z▸nU);let KG:=c7 (o':=O.lst (a9 ms++[D.int (first:Nat)])) h1 fE;show#[#[by simp;show e7.len,λi' gT=>by rw[aH (by have:=(h4 aq nU).1;omega)];show e7.old i' gT],c7 p7 Tp,#[#[yg,KG,h2,h3,h4,λi' b hb=>?_]],λiY h'=>?_,_,rfl]
     .by_cases zY:i'=q
      .subst zY;have:b=aq:=by rw[ve] at hb;injection hb with z;show z.symm
       subst this;show#[ms++[first],by rw[get_set m1];simp[a9],?_,λm=>?_]
       .rw[tk];simp;omega
       .rw[bA,aU,m3 m,tk];simp only[List.mem_append,List.mem_singleton];constructor
        .rintro((z|⟨z1,z2⟩)|z)
         .exact .inl z
         .exact .inr #[.inl z1,z2]
         .exact .inr #[.inr trivial,z]
        .rintro(z|⟨z1|z1,z2⟩)
         .exact .inl (.inl z)
         .exact .inl (.inr #[z1,z2])
         .exact .inr z2
      .let DG:aq≠b:=λz=>zY (PU h3 hb (z▸ve));let#[JL,k1,k2,k3]:=h5 i' b hb;show#[JL,c7 k1 DG,?_,λm=>(k3 m).trans ?_]
       .rw[tk];simpa[zY] using k2
       .rw[tk];simp[zY]
     .rw[KG] at h';show zL iY (h1.trans h')
   .let#[e7,p7,N7,zL,z7,rfl]:=q;rw[a9,ao,bt] at N7;show#[e7,N7.imp (λq v=>by split<;>omega) (λq m hq=>?_),_,_,_,_,_,rfl];let tk:rs.take (i+1)=rs.take i++[r]:=by rw[bg,oR];rfl
    unfold vo;rw[tk];simp only[List.mem_append,List.mem_singleton];constructor
    .rintro(⟨r',h1,h2⟩|⟨h1,h2⟩)
     .exact#[r',.inl h1,h2]
     .exact#[r,.inr rfl,(ba.mp h1).2,by rw[h2];show ef.symm]
    .rintro⟨r',h1|h1,h2,h3⟩
     .exact .inl #[r',h1,h2,h3]
     .subst h1;show .inr #[ba.mpr #[bh.mpr hq,h2],by rw[h3];show ef]
  .let#[e3,N3,z3,z4,z5,z6,z7,rfl]:=q;rw[O3,ao,bt] at N3;left;show h _ _ e3 lo N3
end
def Gp:aQ:=#[3,3,(eE (.ifs (.du (.eP (gh 74 ay aN aV))) (eE (.raise "NoDie" (gb (bY "no coin is of that die")))) .pass))]
def Bh:aQ:=#[3,3,(bN (bV (.bin .Add) (bV (.bin .Add) (bV (.nE false true) ay aN) (bZ .tup aV)) (bV (.nE true false) ay (bV (.bin .Add) aN (aT 1)))))]
def Qo:aQ:=#[1,2,(dH 1 (aT 1) (gi (.jW (cK .In aN ay) (eE (.kh 1 .iadd (aT 1)))) (bN aN)))]
def Hc:aQ:=#[1,1,(gi (.fH "held" ["Cabinet"] ay (.prim .nt .nil)) (gi (.fH "claims" ["Cabinet"] ay (.prim .nt .nil)) (gi (.fH "last_coin" ["Cabinet"] ay (aT 0)) (eE (.fH "last_fact" ["Cabinet"] ay (aT 0))))))]
def G9:aQ:=#[2,2,(eE (.ifs (.iu (.du (.eP (eT 38 aN))) (cK .NotIn aN (bZ (.fld "held") ay))) (eE (.raise "NoCoin" (gb (bY "no coin has that number")))) .pass))]
def R6:aQ:=#[3,3,(jn (.bJ "check_number" [("Cabinet",209)] ay (gb aN)) (jn (.bJ "check_number" [("Cabinet",209)] ay (gb aV)) (eE (.ifs (cK .Eq aN aV) (eE (.raise "SameOne" (gb (bY "two unlike coins are asked for")))) .pass))))]
def R0:aQ:=#[3,4,(dH 3 (eT 19 aN) (bN (.comp [2,3,0] 5 (.one 4) (.eQ (.bJ "numbers" [("Cabinet",221)] ay .nil)) (cK .Eq (bw (bw (bZ (.fld "held") aV) da) aN) ay) da)))]
def U8:aQ:=#[4,6,(dH 4 (eT 19 aN) (eE (.gL (.one 5) (.eQ aV) (eE (.df (bZ (.fld "held") ay) dY (gh 177 (bw (bZ (.fld "held") ay) dY) da bz))))))]
def S5:aQ:=#[2,2,(jn (eT 39 aN) (dE (cK .Eq (bZ .len (bZ (.fld "held") ay)) (aT 9)) (eE (.raise "Full" (gb (bY "there is no room for one more coin")))) (gi (.kY "last_coin" ["Cabinet"] ay (aT 1)) (gi (.df (bZ (.fld "held") ay) (bZ (.fld "last_coin") ay) aN) (bN (bZ (.fld "last_coin") ay))))))]
def Hk:aQ:=#[3,4,(dH 3 (.bJ "coin" [("Cabinet",222)] ay (gb aN)) (jn (eT 39 aV) (gi (.df (bZ (.fld "held") ay) aN aV) (bN bz))))]
def Hd:aQ:=#[3,3,(jn (.bJ "check_pair" [("Cabinet",210)] ay (wg aN aV)) (gi (.kY "last_fact" ["Cabinet"] ay (aT 1)) (gi (.df (bZ (.fld "claims") ay) (bZ (.fld "last_fact") ay) (bV .tup aN aV)) (bN (bZ (.fld "last_fact") ay)))))]
def Q2:aQ:=#[4,5,(jn (eT 40 aN) (jn (gh 75 (.bJ "coins" [("Cabinet",223)] ay .nil) aN aV) (jn (gh 75 (.bJ "coins" [("Cabinet",223)] ay .nil) aN bz) (dE (cK .Eq aV bz) (eE (.raise "SameOne" (gb (bY "two unlike dies are asked for")))) (dH 4 (.bJ "numbers_of" [("Cabinet",211)] ay (wg aN bz)) (jn (.bJ "give_die" [("Cabinet",212)] ay (mD aN da aV)) (bN da)))))))]
def O8:aQ:=#[4,7,(jn (eT 40 aN) (jn (gh 75 (.bJ "coins" [("Cabinet",223)] ay .nil) aN aV) (dH 4 (.bJ "numbers_of" [("Cabinet",211)] ay (wg aN aV)) (oh (.one 5) (.eQ bz) (eE (.ifs (.iu (.du (.eP (eT 38 dY))) (cK .NotIn dY da)) (eE (.raise "NoCoin" (gb (bY "no coin of that die has that number")))) .pass)) (dE (.iu (cK .NotEq (bZ .oy bz) (bZ .len bz)) (cK .In (bZ .len bz) (bV .tup (aT 0) (bZ .len da)))) (eE (.raise "BadList" (gb (bY "some coins of the die are asked for, each once, not all of them")))) (dH 6 (eT 194 (dq 20 (.bJ "coins" [("Cabinet",223)] ay .nil) aN)) (jn (.bJ "give_die" [("Cabinet",212)] ay (mD aN bz fQ)) (bN fQ))))))))]
def U6:aQ:=#[1,1,(bN (bZ .eA (bZ (.fld "held") ay)))]
def U9:aQ:=#[2,2,(jn (.bJ "check_number" [("Cabinet",209)] ay (gb aN)) (bN (bw (bZ (.fld "held") ay) aN)))]
def Hg:aQ:=#[1,1,(bN (.comp [0] 3 (.one 2) (.eQ (.bJ "numbers" [("Cabinet",221)] ay .nil)) .no (bw (bZ (.fld "held") ay) aV)))]
def Hh:aQ:=#[1,1,(bN (.comp [0] 3 (.one 2) (.eQ (bZ .eA (bZ (.fld "claims") ay))) .no (.prim .tup (mD aV (bw (bw (bZ (.fld "claims") ay) aV) (aT 0)) (bw (bw (bZ (.fld "claims") ay) aV) (aT 1))))))]
noncomputable abbrev Hs:=@&(Nat×b9)
noncomputable abbrev Fs:=@&(Nat×Int×Int)
noncomputable abbrev kC(j:Nat):Key:=.inl (j:Int)
abbrev gz(hs:Hs):@&(Key×D):=hs.map λp=>(kC p.1,p.2.d)
abbrev iC(fs:Fs):@&(Key×D):=fs.map λp=>(kC p.1,.tup [.int p.2.1,.int p.2.2])
abbrev nums{α:Type}(hs:@&(Nat×α)):@&Nat:=hs.map (·.1)
abbrev d0(hs:Hs):@&b9:=hs.map (·.2)
def fT(l:@&Nat):Prop:=l.Pairwise (· < ·)
def A5(hs:@&(Nat×α)):(nums hs).length=-hs:=by simp[nums]
def Xu(hs:Hs):(gz hs).map (·.1)=((nums hs).map λn:Nat=>(n:Int)).map Sum.inl:=by simp[gz,nums,kC]
def Xo(fs:Fs):(iC fs).map (·.1)=((nums fs).map λn:Nat=>(n:Int)).map Sum.inl:=by simp[iC,nums,kC]
def p8{α:Type}{f:α->D}:∀{hs:@&(Nat×α)} {n:Nat} {c:α},fT (nums hs)->(n,c)∈hs->x6 (hs.map λp=>(kC p.1,f p.2)) (kC n)=!f c
 |[],_,_,_,h=>by cases h
 |(m,e)::r,n,c,inc,h=>by
  let ka:=dh.mp inc;unfold x6;rw[bD,dB];by_cases hm:m=n
  .subst hm;have:c=e:=by
    rcases aJ.mp h with z|z
    .exact(Ca z).2
    .have:=ka.1 m (ax.mpr #[_,z,rfl]);show absurd this (bS m)
   subst this;simp
  .let h':=(aJ.mp h).resolve_left λz=>hm (Ca z).1.symm;let fE:decide (kC m=kC n)=false:=aA λz=>hm (by have:=dc z;omega);simp only[fE];show p8 ka.2 h'
def bL3{f:α->D}(hs:@&(Nat×α))(v:Int):(x6 (hs.map λp=>(kC p.1,f p.2)) (.inl v)).isSome=(nums hs).any λn=>decide ((n:Int)=v):=by
 unfold x6;rw[gX,bp,List.find?_isSome,bO];constructor
 .rintro⟨x,hx,e⟩;let#[p,hp,rfl]:=ax.mp hx;show#[p.1,ax.mpr #[p,hp,rfl],aG (dc (aP e))]
 .rintro⟨n,hn,e⟩;let#[p,hp,rfl]:=ax.mp hn;show#[_,ax.mpr #[p,hp,rfl],aG (dJ Sum.inl (aP e))]
def oA(hs:Hs)(n:Nat)(c:b9):Hs:=hs.map λp=>if p.1=n then(p.1,c) else p
def AF{c}(h:n∈nums hs):putD (gz hs) (kC n) c.d=gz (oA hs n c):=by
 unfold putD;rw[aM,gz,oA,bC,gz,bC]
 .refine cY λp x=>?_;by_cases e:p.1=n
  .simp[e]
  .have:¬kC p.1=kC n:=λz=>e (by have:=dc z;omega);simp[e,this]
 .let#[p,hp,rfl]:=ax.mp h;show bO.mpr #[_,ax.mpr #[p,hp,rfl],aG rfl]
def OQ{c}(h:n∉nums hs):putD (gz hs) (kC n) c.d=gz (hs++[(n,c)]):=by
 unfold putD;rw[aI]
 .simp[gz]
 .intro z;let#[x,hx,e]:=bO.mp z;let#[p,hp,rfl]:=ax.mp hx;have:=dc (aP e);show h (ax.mpr #[p,hp,by omega])
def OF(h:fT l):(l.map λn:Nat=>(n:Int)).Pairwise (·<=·):=cU.mpr (h.imp λz=>by omega)
def Mb(h:fT l):(l.map λn:Nat=>(n:Int)).Nodup:=cU.mpr (h.imp λz e=>by omega)
def YC(h:fT l):qT (l.map λn:Nat=>(n:Int))=l.map λn:Nat=>(n:Int):=T6 (GK _) (Nw _) (OF h)
def OW(h:fT l):p9 (l.map λn:Nat=>(n:Int))=l.map λn:Nat=>(n:Int):=by
 show T6 ((U2 _).trans ?_) (GL _) (OF h);rw[GY (_/Mb h)]
 rfl
def Q3(l:@&Nat):a9 l=(l.map λn:Nat=>(n:Int)).map D.int:=by simp[a9]
noncomputable abbrev iE(hd cl:Nat)(lc lf:Int):O:=.ins "Cabinet" [("held",.ref hd),("claims",.ref cl),("last_coin",.int lc),("last_fact",.int lf)]
structure fV(g:G)(m hd cl:Nat)(lc lf:Int)(hs:Hs)(fs:Fs):Prop where
 o:g[m]?=!iE hd cl lc lf
 h:g[hd]?=!.cy (gz hs)
 c:g[cl]?=!.cy (iC fs)
structure iF(hs:Hs):Prop where
 inc:fT (nums hs)
 len:-hs<=9
 good:∀p∈hs,mq p.2
def fV.at{g g'}{m hd cl}{lc lf}{hs}{fs}(C:fV g m hd cl lc lf hs fs)(e:Ex g g'):fV g' m hd cl lc lf hs fs:=#[e.at C.o,e.at C.h,e.at C.c]
abbrev cA:RW->Int
 |.lower=>0
 |_=>2
def L'(w:RW):cA w=0\/cA w=2:=by cases w<;>simp[cA]
abbrev numsOf(hs:Hs)(f v:Int):@&Nat:=(hs.filter λp=>decide (R7 f p.2=v)).map (·.1)
def Bi{n}(h:n∈numsOf hs f v):n∈nums hs:=by
 let#[p,hp,rfl]:=ax.mp h;show ax.mpr #[p,(ba.mp hp).1,rfl]
def numsOf_len(hs:Hs)(f v:Int):(numsOf hs f v).length<=-hs:=by
 unfold numsOf;rw[ao];show dk _ _
def N9(h:iF hs):(d0 hs).all j7=true:=by
 rw[bG];intro c hc;let#[p,hp,rfl]:=ax.mp hc;show(h.good p hp).good
def QO(hw:w≠.eL)(v:Int)(i:Nat):meant cs w v i=decide (R7 (cA w) (gU cs i)=v):=by
 cases w with
 |eL=>show absurd rfl hw
 |lower=>rfl
 |upper=>rfl
def Yc(hw:w≠.eL)(v:Int):(jg (d0 hs) w v).isEmpty=(numsOf hs (cA w) v).isEmpty:=by
 rw[bp,eN,eN];constructor
 .intro h;rw[numsOf,Jg,ja];intro p hp hd;let#[i,hi,e]:=eU hp;let hl:i<(d0 hs).length:=by simpa[d0] using hi
  have:i∈jg (d0 hs) w v:=by
   show ba.mpr #[bh.mpr hl,?_];rw[QO hw,sx (c:=p.2) (by simp[d0,hi,e])];show hd
  rw[h] at this;cases this
 .intro h;rw[jg,ja];intro i hi hd;let hl:=bh.mp hi;rw[QO hw] at hd;let xf:i< -hs:=by simpa[d0] using hl
  rw[sx (c:=hs[i].2) (by simp[d0,xf])] at hd;have:hs[i].1∈numsOf hs (cA w) v:=ax.mpr #[hs[i],ba.mpr #[eO xf,hd],rfl];rw[h] at this;cases this
def b9.re(c:b9)(f v:Int):b9:=if f=0 then{ c with lo:=v } else{ c with up:=v }
def b21(c:b9)(f v:Int):(c.re f v).re f v=c.re f v:=by
 unfold b9.re;split<;>rfl
def t8(hs:Hs)(ns:@&Nat)(f v:Int):Hs:=hs.map λp=>if p.1∈ns then(p.1,p.2.re f v) else p
def OK{F:Nat×b9->Nat×b9}(h:∀p,(F p).1=p.1):nums (hs.map F)=nums hs:=by
 unfold nums;rw[bC];show cY λp x=>h p
def L7(hs:Hs)(ns:@&Nat)(f v:Int):nums (t8 hs ns f v)=nums hs:=OK λp=>by split<;>rfl
def mq.re{c}(h:mq c){f v}(h1:1<=v)(h2:v<=99):mq (c.re f v):=by
 let#[a1,a2,a3,a4,a5,a6]:=h.inv;unfold b9.re;split
 .exact mq.mk' h1 h2 a3.1 a3.2 a5 a6 a2 a4 h.l8 h.u8
 .exact mq.mk' a1.1 a1.2 h1 h2 a5 a6 a2 a4 h.l8 h.u8
def iF.give(h:iF hs){ns}(h1:1<=v)(h2:v<=99):iF (t8 hs ns f v):=by
 show#[by rw[L7];show h.inc,by simpa[t8] using h.len,λp hp=>?_];let#[q,hq,rfl]:=ax.mp hp;split
 .exact(h.good q hq).re h1 h2
 .exact h.good q hq
def Pu(inc:fT (nums hs)){ns}{c}(hc:(n,c)∈t8 hs ns f v):oA (t8 hs ns f v) n (c.re f v)=t8 hs (ns++[n]) f v:=by
 unfold oA;let ka:fT (nums (t8 hs ns f v)):=by rw[L7];show inc
 let e:(t8 hs ns f v).map (λp=>if p.1=n then(p.1,c.re f v) else p)=(t8 hs ns f v).map λp=>if p.1=n then(p.1,p.2.re f v) else p:=by
  show cY λp hp=>?_;by_cases hn:p.1=n
  .let h1:=p8 (f:=λc:b9=>D.tup [.int c.lo,.int c.up,.int c.yr,.tup (c.lm.map .int),.tup (c.um.map .int)]) ka hc;let h2:=p8 (f:=λc:b9=>D.tup [.int c.lo,.int c.up,.int c.yr,.tup (c.lm.map .int),.tup (c.um.map .int)]) ka (show(n,p.2)∈_ by rw[<- hn];show hp);have:c=p.2:=by
    let h3:=aO (h1.symm.trans h2);simp only[D.tup.injEq,List.cons.injEq,D.int.injEq,and_true] at h3;let#[a1,a2,a3,a4,a5]:=h3;let inj:∀{a b:@&Int},a.map D.int=b.map D.int->a=b:=λ{a b} z=>RA (λx y z=>by cases z;rfl) |>.mp z
    let b4:=inj a4;let b5:=inj a5;let#[d1,d2,d3,d4,d5]:=c;simp only at a1 a2 a3 b4 b5;subst a1 a2 a3 b4 b5
    rfl
   rw[aM hn,aM hn,this]
  .rw[aI hn,aI hn]
 rw[e];unfold t8;rw[bC];show cY λp w=>?_;show(if(if p.1∈ns then(p.1,p.2.re f v) else p).1=n then _ else _)=_;by_cases h1:p.1∈ns
 .simp only[List.mem_append,h1,true_or,if_true,b21];split<;>rfl
 .by_cases h2:p.1=n
  .let h3:=h2▸h1;simp[h2,h3]
  .simp[h1,h2]
structure TC(T:Nat->Option aQ):Prop where
 nf:NF T
 h2:T 2=!Q1
 oX:T 12=!E9
 qq:Ja T
 jA:BV T
 Es:T 20=!yy
 qm:T 74=!Z8
 UG:T 75=!Gp
 EC:T 177=!Bh
 EA:T 194=!Qo
 En:T 208=!Hc
 xI:T 209=!G9
 El:T 211=!R0
 Ek:T 212=!U8
 tT:T 214=!S5
 xH:T 219=!Q2
 xG:T 220=!O8
 Ee:T 221=!U6
 xF:T 222=!U9
 Ed:T 223=!Hg
 Ec:T 224=!Hh
section
variable{σ:S}{c:ME}
inductive zk(α:Type)(P:eZ)(t:MT)(c elt:ME)(Q:KD)(σ:S)(k:IK)(g1:G):Prop
 |mk (l:List α) (fl:α->D) (Sh:S->Prop) (p:α->Bool) (w:α->D) (hk:∀g',Ex g1 g'->k.Is (l.map fl) g') (hl:-l<=1000) (h0:Sh σ)
   (hs:∀x σ g',x∈l->Ex g1 g'->Sh σ->ko t (fl x) σ λcE=>et P c cE g' (λb g3=>b=p x/\Ex g1 g3/\if b=true then aY P elt cE g3 (λy g4=>y=w x/\Ex g1 g4/\Sh cE) jD else Sh cE) jD) (hd:∀g',Ex g1 g'->Q (.ref (-g')) (g'++[.lst ((l.filter p).map w)])):zk α P t c elt Q σ k g1
def M9(hP:j4 P)(h:gR P it σ g (zk α P t c elt Q (P0 σ d8 n)) E):aY P (.comp d8 n t it c elt) σ g Q E:=by
 show M6 hP (F5 hP it _ _ _ _ _ _ (λk g1 h=>?_) (λv v z=>z) h);let#[l,fl,Sh,p,w,hk,hl,h0,hs,hd]:=h;show#[l.map fl,λi ys σ g'=>Ex g1 g'/\ys=((l.take i).filter p).map w/\Sh σ,by simpa using hl,λi ys σ g' q=>#[hk _ q.1,?_],#[Ex.refl _,by simp,h0],λi x ys σ g' hx q=>?_,λys σ g' q=>?_]
 .let#[_,rfl,_]:=q;rw[ao];show aC (dk _ _) (by rw[bE];omega)
 .let#[e1,rfl,sh]:=q;rw[ag,aa] at hx;let#[x,hx,rfl]:=hx;show E0 (λcE q=>w5 hP c _ _ _ _ _ _ (λb g3 q=>?_) (λv v z=>z) q) (hs x σ g' (aE hx) e1 sh);let#[rfl,e3,q]:=q;let ef:((l.take (i+1)).filter p).map w=((l.take i).filter p).map w++if p x=true then[w x] else[]:=by
   rw[bg,hx,cP,bB];cases z:p x<;>simp[z]
  cases hp:p x with
  |true =>
   rw[hp] at q ef;show c9 hP elt _ _ _ _ _ _ (λy g4 q=>?_) (λv v z=>z) q;let#[rfl,e4,sh]:=q;show#[e4,by rw[ef];rfl,sh]
  |false =>
   rw[hp] at q ef;show#[e3,by rw[ef];simp,q]
 .let#[e1,rfl,sh]:=q;rw[ao,bt];show hd g' e1
end
section
variable{T:Nat->Option aQ}{d:Nat}{lc lf:Int}
def Q6(l:List α):l.filter (λx=>true)=l:=gw.mpr λx x=>rfl
def P8(hT:TC T)(C:fV g m hd cl lc lf hs fs)(inc:fT (nums hs))(hz:-hs<=50)(h:Q (.ref (-g)) (g++[.lst (a9 (nums hs))])):b7 T (k+1) 221 [.ref m] g Q E:=by
 show call_of hT.Ee rfl ?_;delta U6;exists u1 C.o rfl ?_;show QR C.h (Xu hs) (by simp[nums];omega) ?_;rw[OW inc,<- Q3];show h
def u2(hT:TC T)(C:fV g m hd cl lc lf hs fs)(inc:fT (nums hs))(hz:-hs<=50)(h:∀g' r,Ex g g'->-g<=r->g'[r]?=!(.lst ((d0 hs).map b9.d))->Q (.ref r) g'):b7 T (k+2) 223 [.ref m] g Q E:=by
 show call_of hT.Ed rfl ?_;delta Hg;exists M9 (α:=Nat×b9) (a8 T _) (iV (a8 T _) ?_);exists i7 C.o rfl rfl ?_;exists P8 hT C inc hz ?_;let e1:=Ex.snoc g (O.lst (a9 (nums hs)));show#[_,_,rfl,a7 b0,hs,λp=>.int (p.1:Nat),λσ=>∃z1 z2,σ=[!.ref m,z1,z2],λx=>true,λp=>p.2.d,λg' e=>m9 (a7 ?_),by omega,#[none,none,rfl],λp σ g' hp e sh=>?_,λg' e=>?_]
 .rw[show hs.map (λp=>D.int (p.1:Nat))=a9 (nums hs) by simp[a9,nums]];show e.at b0
 .let#[z1,z2,rfl]:=sh;show j8 (O6 #[rfl,e,jv ?_]);left;let C':=(C.at e1).at e;show u1 C'.o rfl ?_;left;show j5 C'.h rfl (p8 inc hp) #[rfl,e,_,_,rfl]
 .rw[Q6];show h _ _ ((e1.trans e).trans (Ex.snoc _ _)) (e1.trans e).len ?_;rw[d0,bC];show b0
def FQ(hT:TC T)(C:fV g m hd cl lc lf hs fs)(inc:fT (nums fs))(hz:-fs<=50)(h:∀g' r,Ex g g'->-g<=r->g'[r]?=!(.lst (fs.map λf=>.tup [.int (f.1:Nat),.int f.2.1,.int f.2.2]))->Q (.ref r) g'):b7 T (k+2) 224 [.ref m] g Q E:=by
 show call_of hT.Ec rfl ?_;delta Hh;exists M9 (α:=Nat×Int×Int) (a8 T _) (iV (a8 T _) ?_);exists u1 C.o rfl ?_;exists QR C.c (Xo fs) (by simp[nums];omega) ?_;rw[OW inc,<- Q3];let e1:=Ex.snoc g (O.lst (a9 (nums fs)));show#[_,_,rfl,a7 b0,fs,λp=>.int (p.1:Nat),λσ=>∃z1 z2,σ=[!.ref m,z1,z2],λy=>true,λf=>.tup [.int (f.1:Nat),.int f.2.1,.int f.2.2],λg' e=>m9 (a7 ?_),by omega,#[none,none,rfl],λp σ g' hp e sh=>?_,λg' e=>?_]
 .rw[show fs.map (λp=>D.int (p.1:Nat))=a9 (nums fs) by simp[a9,nums]];show e.at b0
 .let#[z1,z2,rfl]:=sh;show j8 (O6 #[rfl,e,jv ?_]);left;let C':=(C.at e1).at e;let hv:=p8 (f:=λx:Int×Int=>D.tup [.int x.1,.int x.2]) inc hp;show u1 C'.o rfl ?_;exists j5 C'.c rfl hv ?_;exists u1 C'.o rfl ?_;exists j5 C'.c rfl hv ?_;left;show#[rfl,e,_,_,rfl]
 .rw[Q6];show h _ _ ((e1.trans e).trans (Ex.snoc _ _)) (e1.trans e).len b0
def Xa(hT:TC T)(C:fV g m hd cl lc lf hs fs)(inc:fT (nums hs)){x}(hn:(n,x)∈hs)(h:Q x.d g):b7 T (k+3) 222 [.ref m,.int (n:Nat)] g Q E:=by
 show call_of hT.xF rfl ?_;delta U9;exists i7 C.o rfl rfl ?_;exists call_of hT.xI rfl ?_;delta G9;exists L3 hT.nf ?_;exists u1 C.o rfl ?_;exists K8 #[(x6 (gz hs) (kC n)).isSome,.inl #[_,_,kC n,rfl,C.h,rfl,rfl],?_];rw[show x6 (gz hs) (kC n)=some x.d from p8 inc hn];exists eB rfl ?_;exists u1 C.o rfl ?_;left;show j5 C.h rfl (p8 inc hn) h
def He(hT:TC T)(hw:w≠.eL)(ha:g[a]?=!(.lst ((d0 hs).map b9.d)))(hz:-hs<=9)(h:numsOf hs (cA w) v≠[]->∀g',Ex g g'->Q .bq g')(hn:numsOf hs (cA w) v=[]->∀g',Ex g g'->E #["NoDie"] g'):b7 T (k+4) 75 [.ref a,.str w.s,.int v] g Q E:=by
 show call_of hT.UG rfl ?_;delta Gp;exists T5 hT.nf hT.jA hT.qm ha (by simp[d0];omega) λg1 b e1 y hb=>?_;show b06 (a7 hb) ?_;have:(a9 (jg (d0 hs) w v)).isEmpty=(numsOf hs (cA w) v).isEmpty:=by
  rw[<- Yc hw];cases jg (d0 hs) w v<;>rfl
 rw[this];cases hq:numsOf hs (cA w) v with
 |nil =>
  show eR rfl ?_;left;show hn hq _ e1
 |cons x l =>
  show eB rfl ?_;show h (by rw[hq];simp) _ e1
def GC(hT:TC T)(hw:w≠.eL)(h:Q (.int (cA w)) g):b7 T (k+2) 19 [.str w.s] g Q E:=by
 cases w with
 |eL=>show absurd rfl hw
 |lower=>show F9 hT.jA #[] (λx=>h) (λz=>absurd z #[]) (λz=>absurd rfl z)
 |upper=>show F9 hT.jA #[] (λz=>absurd z #[]) (λx=>h) (λx z=>absurd rfl z)
def Ny(hT:TC T)(hw:w≠.eL)(h:Q .bq g):b7 T (k+1) 40 [.str w.s] g Q E:=by
 cases w with
 |eL=>show absurd rfl hw
 |lower=>show N1 hT.jA.2 #[] (λx=>h) (λz=>absurd rfl z)
 |upper=>show N1 hT.jA.2 #[] (λx=>h) (λx z=>absurd rfl z)
def NX(hT:TC T)(hw:w≠.eL)(C:fV g m hd cl lc lf hs fs)(inc:fT (nums hs))(hz:-hs<=50)(h:∀g' r,Ex g g'->-g<=r->g'[r]?=!(.lst (a9 (numsOf hs (cA w) v)))->Q (.ref r) g'):b7 T (k+3) 211 [.ref m,.str w.s,.int v] g Q E:=by
 show call_of hT.El rfl ?_;delta R0;exists GC hT hw ?_;exists M9 (α:=Nat×b9) (a8 T _) (iV (a8 T _) ?_);exists i7 C.o rfl rfl ?_;exists P8 hT C inc hz ?_;let e1:=Ex.snoc g (O.lst (a9 (nums hs)));show#[_,_,rfl,a7 b0,hs,λp=>.int (p.1:Nat),λσ=>∃z3 z4,σ=[!.int v,!.int (cA w),!.ref m,z3,z4],λp=>decide (R7 (cA w) p.2=v),λp=>.int (p.1:Nat),λg' e=>m9 (a7 ?_),by omega,#[none,none,rfl],λp σ g' hp e sh=>?_,λg' e=>?_]
 .rw[show hs.map (λp=>D.int (p.1:Nat))=a9 (nums hs) by simp[a9,nums]];show e.at b0
 .let#[z3,z4,rfl]:=sh;show j8 ?_;left;let C':=(C.at e1).at e;show u1 C'.o rfl ?_;exists j5 C'.h rfl (p8 inc hp) ?_;exists E7 (yi (L' w) p.2) ?_;exists#[rfl,e,?_];show if2 (λx=>?_) (λx=>?_)
  .left;show#[rfl,e,_,_,rfl]
  .exact#[_,_,rfl]
 .refine h _ _ ((e1.trans e).trans (Ex.snoc _ _)) (e1.trans e).len ?_;rw[numsOf,a9,bC];show b0
end
def Vv{a b c d}:cut [a,b,c,d,e] none (!0)=[]:=rfl
def Vw{a b c d}:cut [a,b,c,d,e] (!1) none=[b,c,d,e]:=rfl
def Vx{a b c d}:cut [a,b,c,d,e] none (!2)=[a,b]:=rfl
def Vy{a b c d}:cut [a,b,c,d,e] (!3) none=[d,e]:=rfl
def Ik:∀{a b:@&Int},a.Nodup->(∀x∈a,x∈b)->-a<=-b
 |[],b,_,_=>cj _
 |x::a,b,nd,h=>by
  rw[dA] at nd;let h1:=h x #[_];have:=Ik (b:=b.erase x) nd.2 λy hy=>(Cd (λz=>nd.1 (by rw[<- z];show hy))).mpr (h y (by simp[hy]));rw[List.length_erase_of_mem h1] at this;have:=vZ h1;rw[List.length_cons];omega
structure qy(ds:@&Int)(F:Int):Prop where
 pos:1<=F
 no:F∉ds
 all:∀i,1<=i->i<F->i∈ds
def qy.le{F}(h:qy ds F):F<=-ds+1:=by
 have:=Ik (a:=(List.range (F-1).toNat).map λi:Nat=>(i:Int)+1) (cU.mpr (iK.imp λz e=>z ())) λx hx=>by
  let#[i,hi,rfl]:=ax.mp hx;have:=bh.mp hi;show h.all _ () ()
 simp at this;omega
def bJ6(ds:@&Int):∃F,qy ds F:=by
 let go:∀n:Nat,(∃F,qy ds F)\/∀i:Int,1<=i->i<=n->i∈ds:=λn=>by
  induction n with
  |zero=>show .inr λi h1 h2=>by omega
  |succ n ih =>
   rcases ih with h|h
   .exact .inl h
   .by_cases hn:((n:Int)+1)∈ds
    .exact .inr λi h1 h2=>by
      by_cases e:i=n+1
      .rw[e];show hn
      .exact h i h1 ()
    .exact .inl #[n+1,by omega,hn,λi h1 h2=>h i h1 ()]
 rcases go (-ds+1) with h|h
 .exact h
 .have:=Ik (a:=(List.range (-ds+1)).map λi:Nat=>(i:Int)+1) (cU.mpr (iK.imp λz e=>z ())) λx hx=>by
   let#[i,hi,rfl]:=ax.mp hx;have:=bh.mp hi;show h _ () ()
  simp at this;omega
abbrev Q7(hs:Hs)(f:Int):@&Int:=(d0 hs).map (R7 f)
def Gk{v}:v∈Q7 hs f↔numsOf hs f v≠[]:=by
 unfold Q7 d0 numsOf;rw[bC];constructor
 .intro h z;let#[p,hp,e]:=ax.mp h;rw[Jg,ja] at z;show z p hp (aG e)
 .intro h;cases hf:hs.filter λp=>decide (R7 f p.2=v) with
  |nil=>rw[hf] at h;show absurd rfl h
  |cons p r =>
   let hp:p∈hs.filter λp=>decide (R7 f p.2=v):=by rw[hf];simp
   let#[h1,h2]:=ba.mp hp;show ax.mpr #[p,h1,aP h2]
def E5(hs:Hs)(f v u:Int):Str:=if numsOf hs f v=[]\/numsOf hs f u=[] then "NoDie" else if v=u then "SameOne" else ""
def R8(hs:Hs)(f v:Int)(ns:@&Int):Bool:=decide ((ST.k9 [] ns).length≠-ns)||(decide (-ns=0)||decide (-ns=(numsOf hs f v).length))
def F7(hs:Hs)(f v:Int)(ns:@&Int):Str:=if numsOf hs f v=[] then "NoDie" else if(ns.all λn=>decide (n∈(numsOf hs f v).map λn:Nat=>(n:Int)))=true then(if R8 hs f v ns=true then "BadList" else "") else "NoCoin"
section
variable{T:Nat->Option aQ}{d:Nat}
def X5{i}(ha:M8 g y=!ms.map .int)(h:kb (decide (i∈ms))):oP g (.int i) y kb:=by
 show#[_,.inr #[_,ms.map .int,.int i,ha,?_,rfl,?_,rfl,rfl],?_]
 .exact P4 ms
 .exact lay_ints ms
 .have:((ms.map PyData.int).any λq=>PyData.eqv q (.int i))=decide (i∈ms):=by
   rw[wb,bp,bO,dg];constructor
   .rintro⟨x,hx,e⟩;have:x=i:=by simpa[PyData.eqv] using e
    rw[<- this];show hx
   .intro hx;show#[i,hx,by simp[PyData.eqv]]
  rw[this];show h
def aW3(hT:TC T){c:b9}(h:Q (c.re (cA w) v).d g):b7 T (k+1) 177 [c.d,.int (cA w),.int v] g Q E:=by
 show call_of hT.EC rfl ?_;let h0:w=.lower\/cA w=2:=by cases w<;>simp[cA]
 rcases h0 with rfl|h2
 .dsimp[Bh,b8,List.replicate,cA,b9.d];left;rw[Vv];show yV #[_] ?_;left;rw[show(0:Int)+1=1 by rfl,Vw];show yV #[_] ?_;show h
 .rw[h2] at h ⊢;dsimp[Bh,b8,List.replicate,b9.d];left;rw[Vx];show yV #[_] ?_;left;rw[show(2:Int)+1=3 by rfl,Vy];show yV #[_] ?_;show h
def QJ(hT:TC T)(hw:w≠.eL)(C:fV g m hd cl lc lf hs fs)(inc:fT (nums hs))(hz:-hs<=50){ns}(ha:g[a]?=!.lst (a9 ns))(hn:∀n∈ns,n∈nums hs)(n1:a≠hd)(n2:m≠hd)(n3:cl≠hd)(h:∀g',(-g')=-g->(∀i,i≠hd->g'[i]?=g[i]?)->fV g' m hd cl lc lf (t8 hs ns (cA w) v) fs->Q .bq g'):b7 T (k+3) 212 [.ref m,.str w.s,.ref a,.int v] g Q E:=by
 show call_of hT.Ek rfl ?_;delta U8;exists GC hT hw ?_;exists L9 (a8 T _) (iV (a8 T _) ?_);exists#[a,_,rfl,a7 ha,a9 ns,λi σ g'=>(∃z5,σ=[!.ref m,!.str w.s,!.ref a,!.int v,!.int (cA w),z5])/\-g'=-g/\(∀i,i≠hd->g'[i]?=g[i]?)/\fV g' m hd cl lc lf (t8 hs (ns.take i) (cA w) v) fs,λi σ g' q=>m9 (a7 (by rw[q.2.2.1 a n1];show ha)),#[#[none,rfl],rfl,λy y=>rfl,?_],λi x σ g' hx q=>?_,λσ g' q=>?_]
 .have:t8 hs (ns.take 0) (cA w) v=hs:=by
   conv=>rhs;rw[<- Cf hs]
   rfl
  rw[this];show C
 .let#[#[z5,rfl],l1,o1,C1]:=q;rw[a9,ag,aa] at hx;let#[n,hx,rfl]:=hx;show j8 ?_;let hm:=hn n (aE hx);let mJ:n∈nums (t8 hs (ns.take i) (cA w) v):=by rw[L7];show hm
  let ka:fT (nums (t8 hs (ns.take i) (cA w) v)):=by rw[L7];show inc
  let#[p,hp,ng]:=ax.mp mJ;let iN:(n,p.2)∈t8 hs (ns.take i) (cA w) v:=by rw[<- ng];show hp
  exists u1 C1.o rfl ?_;exists j5 C1.h rfl (p8 ka iN) ?_;exists aW3 hT ?_;exists u1 C1.o rfl ?_;exists U3 C1.h rfl (by simp[gz,t8];omega) ?_;rw[AF mJ,Pu inc iN];show#[#[_,rfl],by simpa using l1,λi hi=>by rw[aH (aX hi)];show o1 i hi,c7 C1.o (aX n2),?_,c7 C1.c (aX n3)];rw[show ns.take (i+1)=ns.take i++[n] by rw[bg,hx];rfl];show get_set C1.h
 .let#[#[z5,rfl],l1,o1,C1]:=q;rw[a9,ao,bt] at C1;show h g' l1 o1 C1
def bU4(hT:TC T)(hw:w≠.eL)(C:fV g m hd cl lc lf hs fs)(O1:iF hs)(n2:m≠hd)(n3:cl≠hd)(hn:E5 hs (cA w) v u≠""->∀g',Ex g g'->E #[E5 hs (cA w) v u] g')(h:E5 hs (cA w) v u=""->∀g' r,Gr hd g g'->-g<=r->g'[r]?=!(.lst (a9 (numsOf hs (cA w) u)))->fV g' m hd cl lc lf (t8 hs (numsOf hs (cA w) u) (cA w) v) fs->Q (.ref r) g'):b7 T (k+5) 219 [.ref m,.str w.s,.int v,.int u] g Q E:=by
 let hz:=O1.len;show call_of hT.xH rfl ?_;delta Q2;exists Ny hT hw ?_;exists i7 C.o rfl rfl ?_;exists u2 hT C O1.inc () λg1 r1 e1 x lU=>?_;exists He hT hw lU hz (λd1 g2 e2=>?_) (λd1 g2 e2=>?_)
 .let iD:=e1.trans e2;let C2:=C.at iD;exists i7 C2.o rfl rfl ?_;exists u2 hT C2 O1.inc () λg3 r3 e3 x nR=>?_;exists He hT hw nR hz (λd2 g4 e4=>?_) (λd2 g4 e4=>?_)
  .let An:=iD.trans (e3.trans e4);let C4:=C.at An;exists if2 (λtE=>?_) (λtE=>?_)
   .have:E5 hs (cA w) v u="SameOne":=by unfold E5;rw[aI (λz=>z.elim d1 d2),aM tE]
    rw[this] at hn;left;show hn #[] _ An
   .let this:E5 hs (cA w) v u="":=by unfold E5;rw[aI (λz=>z.elim d1 d2),aI tE]
    exists i7 C4.o rfl rfl ?_;exists NX hT hw C4 O1.inc () λg5 r5 e5 l5 qa=>?_;let uc:=An.trans e5;let C5:=C.at uc;let lh:=i0 C4.h;exists i7 C5.o rfl rfl ?_;exists QJ hT hw C5 O1.inc () qa (λn hn=>Bi hn) () n2 n3 λg6 l6 o6 C6=>?_;exists h this g6 r5 #[by have:=uc.len;omega,λi hi hl=>by rw[o6 i hi];show uc.old i hl] (by have:=An.len;omega) (by rw[o6 r5 ()];show qa) C6
  .have:E5 hs (cA w) v u="NoDie":=by unfold E5;rw[aM (.inr d2)]
   rw[this] at hn;show hn #[] _ (iD.trans (e3.trans e4))
 .have:E5 hs (cA w) v u="NoDie":=by unfold E5;rw[aM (.inl d1)]
  rw[this] at hn;show hn #[] _ (e1.trans e2)
def aL6(hT:TC T){F}(hF:qy ds F)(ha:g[a]?=!.lst (ds.map .int))(h:Q (.int F) g):b7 T (k+1) 194 [.ref a] g Q E:=by
 show call_of hT.EA rfl ?_;show Ip (λj σ g'=>g'=g/\∃i:Int,σ=[!.ref a,!.int i]/\1<=i/\i<=F/\j=(F-i).toNat) _ #[rfl,1,rfl,by decide,hF.pos,rfl] (λj σ g' q=>?_) (a8 T _);let#[rfl,i,rfl,i1,i2,rfl]:=q;exists uj (X5 (a7 ha) ?_);exists if2 (λhi=>?_) (λhi=>?_)
 .have:i≠F:=λz=>hF.no (z▸hi);show HL rfl ?_;show BD ?_;show#[(F-(i+1)).toNat,by omega,rfl,i+1,rfl,by omega,by omega,rfl]
 .let e:i=F:=by
   show gQ λz=>hi (hF.all i i1 ())
  subst e;left;show h
def Xj(hT:TC T)(hw:w≠.eL)(O1:iF hs)(ha:g[a]?=!(.lst ((d0 hs).map b9.d)))(h:Q (.ref (-g)) (g++[.lst ((p9 (Q7 hs (cA w))).map .int)])):b7 T (k+7) 20 [.ref a,.str w.s] g Q E:=by
 let hz:(d0 hs).length<=9:=by simpa[d0] using O1.len
 unfold Q7 at h;generalize oV:d0 hs=cs at *;let hg:cs.all j7=true:=by rw[<- oV];show N9 O1
 show call_of hT.Es rfl ?_;delta yy;exists Y0 hT.nf hT.h2 hT.oX hT.qq ha () (λz=>by omega) (λx z=>by rw[hg] at z;cases z) λx x=>?_;exists GC hT hw ?_;exists Oq (a8 T _) (iV (a8 T _) ?_);exists#[a,_,rfl,a7 ha,cs.map b9.d,λi ys σ g'=>∃z y,ys=(cs.take i).map (R7 (cA w))/\σ=[!.int (cA w),z,y]/\g'=g,by simp;omega,λi ys σ g' p=>?_,#[none,none,by simp,rfl,rfl],λi c ys σ g' hx p=>?_,λys σ g' p=>?_]
 .let#[z,y,rfl,rfl,rfl]:=p;show#[m9 (a7 ha),by simp;omega]
 .let#[z,y,rfl,rfl,rfl]:=p;rw[ag,aa] at hx;let#[c,hc,rfl]:=hx;exists E7 (yi (L' w) c) ?_;show#[_,rfl,_,_,?_,rfl,rfl];rw[bg,hc];simp
 .let#[z,y,rfl,rfl,rfl]:=p;rw[ao,bt];show h
def Zo{F}(h:qy ds F):qy (p9 ds) F:=by
 let e:∀x,x∈p9 ds↔x∈ds:=λx=>by rw[(U2 ds).mem_iff,ST.Qp];simp
 show#[h.pos,λz=>h.no ((e _).mp z),λi h1 h2=>(e _).mpr (h.all i h1 h2)]
def bL5(hT:TC T)(hw:w≠.eL)(C:fV g m hd cl lc lf hs fs)(O1:iF hs)(n2:m≠hd)(n3:cl≠hd)(ha:g[a]?=!.lst (ns.map .int))(hl:-ns<=50)(n1:a≠hd){F}(hF:qy (Q7 hs (cA w)) F)(hn:F7 hs (cA w) v ns≠""->∀g',Ex g g'->E #[F7 hs (cA w) v ns] g')(h:F7 hs (cA w) v ns=""->∀g',Gr hd g g'->fV g' m hd cl lc lf (t8 hs (ns.map Int.toNat) (cA w) F) fs->Q (.int F) g'):b7 T (k+8) 220 [.ref m,.str w.s,.int v,.ref a] g Q E:=by
 let hz:=O1.len;show call_of hT.xG rfl ?_;delta O8;exists Ny hT hw ?_;exists i7 C.o rfl rfl ?_;exists u2 hT C O1.inc () λg1 r1 e1 y lU=>?_;exists He hT hw lU hz (λd1 g2 e2=>?_) (λd1 g2 e2=>?_)
 .let iD:=e1.trans e2;let C2:=C.at iD;exists i7 C2.o rfl rfl ?_;exists NX hT hw C2 O1.inc () λg3 r3 e3 l3 nR=>?_;let ia:=iD.trans e3;let C3:=C.at ia;let a3:=ia.at ha;rw[Q3] at nR;show L9 (a8 T _) (iV (a8 T _) ?_);exists#[a,_,rfl,a7 a3,ns.map .int,λi σ g'=>g'=g3/\(∃z5,σ=[!.ref m,!.str w.s,!.int v,!.ref a,!.ref r3,z5,none])/\((ns.take i).all λn=>decide (n∈(numsOf hs (cA w) v).map λn:Nat=>(n:Int)))=true,λi σ g' q=>m9 (a7 (by rw[q.1];show a3)),#[rfl,#[none,rfl],by simp],λi x σ g' hx q=>?_,λσ g' q=>?_]
  .let#[rfl,#[z5,rfl],q]:=q;rw[ag,aa] at hx;let#[n,hx,rfl]:=hx;show j8 ?_;exists L3 hT.nf ?_;exists K8 (X5 (a7 nR) ?_);left;by_cases hm:n∈(numsOf hs (cA w) v).map λn:Nat=>(n:Int)
   .refine eB (by rw[aG hm];rfl) ?_;show#[rfl,#[_,rfl],?_];rw[bg,hx];simp only[Option.toList_some,List.all_append,q,List.all_cons,List.all_nil,decide_eq_true hm]
    rfl
   .refine eR (by rw[aA hm];rfl) ?_;left;have:F7 hs (cA w) v ns="NoCoin":=by
     unfold F7;rw[aI d1,aI];intro z;show hm (aP (bG.mp z n (aE hx)))
    rw[this] at hn;show hn #[] _ ia
  .let#[rfl,#[z5,rfl],q]:=q;rw[ao,bt] at q;exists Mc (a7 a3) () ?_;left;let bad:R8 hs (cA w) v ns=true->F7 hs (cA w) v ns="BadList":=λz=>by unfold F7;rw[aI d1,aM q,aM z]
   let good:R8 hs (cA w) v ns=false->F7 hs (cA w) v ns="":=λz=>by unfold F7;rw[aI d1,aM q,aI (by rw[z];decide)]
   let lm:(ns.map D.int).length=-ns:=by simp
   let lr:(((numsOf hs (cA w) v).map λn:Nat=>(n:Int)).map D.int).length=(numsOf hs (cA w) v).length:=by simp
   rw[lm];by_cases c1:(ST.k9 [] ns).length=-ns
   .refine eB (by rw[aG (show((ST.k9 [] ns).length:Int)=-ns by omega)];rfl) ?_;left
    try rw[lr]
    show uj (X5 (ms:=[0,((numsOf hs (cA w) v).length:Int)]) rfl ?_);left;by_cases c2:-ns=0\/-ns=(numsOf hs (cA w) v).length
    .refine eR (aG (by rw[aJ,aU];omega)) ?_;left;let b1:R8 hs (cA w) v ns=true:=by
      unfold R8;rcases c2 with z|z
      .simp[z]
      .simp[z]
     rw[bad b1] at hn;show hn #[] _ ia
    .refine eB (aA (by rw[aJ,aU];omega)) ?_;let b1:R8 hs (cA w) v ns=false:=by
      unfold R8;rw[aA (),aA (),aA ()]
      rfl
     exists i7 C3.o rfl rfl ?_;exists u2 hT C3 O1.inc () λg4 r4 e4 y wW=>?_;exists Xj hT hw O1 wW ?_;left;let e5:=e4.trans (Ex.snoc g4 (O.lst ((p9 (Q7 hs (cA w))).map .int)));show aL6 hT (Zo hF) b0 ?_;let uc:=ia.trans e5;let C5:=C.at uc;exists i7 C5.o rfl rfl ?_;left;let wZ:∀n∈ns,∃j∈numsOf hs (cA w) v,n=(j:Nat):=λn hx=>by
      let#[j,hj,e]:=ax.mp (aP (bG.mp q n hx));show#[j,hj,e.symm]
     let en:ns.map D.int=a9 (ns.map Int.toNat):=by
      rw[a9,bC];show cY λn hx=>?_;let#[j,_,rfl]:=wZ n hx;simp
     let a5:=e5.at a3;rw[en] at a5;show QJ hT hw C5 O1.inc () a5 (λn hx=>?_) n1 n2 n3 λg6 l6 o6 C6=>?_
     .let#[i,hi,rfl]:=ax.mp hx;let#[j,hj,rfl]:=wZ i hi;show Bi (_/hj)
     .left;show h (good b1) g6 #[by have:=uc.len;omega,λi hi hl=>by rw[o6 i hi];show uc.old i hl] C6
   .refine eR (by rw[aA (show ¬((ST.k9 [] ns).length:Int)=-ns by omega)];rfl) ?_;left;let b1:R8 hs (cA w) v ns=true:=by
     unfold R8;rw[aG c1]
     rfl
    rw[bad b1] at hn;show hn #[] _ ia
 .have:F7 hs (cA w) v ns="NoDie":=by unfold F7;rw[aM d1]
  rw[this] at hn;show hn #[] _ (e1.trans e2)
def aG9(hT:TC T)(C:fV g m hd cl lc lf hs fs){c}(hc:j7 c=true)(hz:-hs<9)(dP:∀n∈nums hs,n<=lc)(n2:m≠hd)(n3:cl≠hd)(n4:cl≠m)(h:∀g',(-g')=-g->(∀i,i≠hd->i≠m->g'[i]?=g[i]?)->fV g' m hd cl (lc+1:Nat) lf (hs++[(lc+1,c)]) fs->Q (.int (lc+1:Nat)) g'):b7 T (k+6) 214 [.ref m,c.d] g Q E:=by
 show call_of hT.tT rfl ?_;delta S5;exists call_of hT.qq.2 rfl ?_;delta U4;exists Hb hT.nf hT.h2 hT.oX ?_;rw[hc];exists u1 C.o rfl ?_;show Iw C.h ?_;exists if2 (λz=>?_) (λx=>?_)
 .rw[gz,ao] at z;omega
 show Mw ?_;exists#[m,_,_,_,rfl,C.o,by simp,rfl,?_];show BD ?_;show#[_,C.o,by simp,?_];let e3:(O.ins "Cabinet" (m7 "last_coin" (.int ((lc:Nat)+1)) [("held",.ref hd),("claims",.ref cl),("last_coin",.int (lc:Nat)),("last_fact",.int (lf:Nat))]))=iE hd cl (lc+1:Nat) (lf:Nat):=rfl;rw[e3];let rF:=get_set C.o (o':=iE hd cl (lc+1:Nat) (lf:Nat));exists u1 rF rfl ?_;exists u1 rF rfl ?_;left;let Kg:=c7 C.h n2 (o':=iE hd cl (lc+1:Nat) (lf:Nat));show U3 Kg rfl (by simp[gz];omega) ?_;rw[OQ (λz=>by have:=dP _ z;omega)];left;let uX:=c7 rF (aX n2) (o':=O.cy (gz (hs++[(lc+1,c)])));show u1 uX rfl ?_;exists h _ #[_] (λi h1 h2=>by rw[aH (aX h1),aH (aX h2)]) #[uX,get_set Kg,c7 (c7 C.c (aX n4)) (aX n3)]
end
def Gv:aQ:=#[2,2,(dE (.iu (cK .Eq (bZ .len aN) (aT 0)) (cK .Eq (dq 4 ay (aT 10)) (aT 4))) (bN (dq 36 ay (bV (.bin .Add) (aT 3) (bZ .len aN)))) (bN (bw aN (dq 4 ay (bZ .len aN)))))]
def FD:aQ:=#[0,0,(bN (.oq (.cons (bY "coins") (Ck (.prim .nt .nil) (bY "facts") (.prim .nt .nil) (bY "given") (aT 0) (bY "learnt") (aT 0)))))]
def FX:aQ:=#[1,1,(bN (.comp [0] 3 (.one 2) (.eQ (bZ .eA (bZ .list (bw ay (bY "coins"))))) .no (bw (bw ay (bY "coins")) aV)))]
def IB:aQ:=#[2,2,(dE (.du (.eP (eT 13 aN))) (bN (bV .tup (bY "BadCoin") (.lit .bq))) (dE (cK .Gt (bZ .len (bw ay (bY "coins"))) (aT 8)) (bN (bV .tup (bY "Full") (.lit .bq))) (gi (.df ay (bY "given") (bV (.bin .Add) (bw ay (bY "given")) (aT 1))) (gi (.df (bw ay (bY "coins")) (bw ay (bY "given")) aN) (bN (bV .tup (bY "") (bw ay (bY "given"))))))))]
def Gw:aQ:=#[3,4,(dH 3 (bZ .list ay) (gi (.df bz (.ite (cK .Eq aN (bY "lower")) (aT 0) (aT 2)) aV) (bN (.prim .tup (rf (bw bz (aT 0)) (bw bz (aT 1)) (bw bz (aT 2)) (bw bz (aT 3)) (bw bz (aT 4)))))))]
def FC:aQ:=#[3,4,(dH 3 (.ite (cK .Eq aN (bY "lower")) (aT 0) (aT 2)) (bN (.comp [3,0,2] 5 (.one 4) (.eQ (bZ .eA (bZ .list (bw ay (bY "coins"))))) (cK .Eq (bw (bw (bw aN (bY "coins")) da) ay) aV) da)))]
def Bq:aQ:=#[4,6,(dE (cK .NotIn aN (bV .lst (bY "lower") (bY "upper"))) (bN (bV .tup (bY "BadSide") (.lit .bq))) (dH 4 (gh 201 ay aN bz) (dE (.iu (cK .Eq (bZ .len da) (aT 0)) (cK .Eq (bZ .len (gh 201 ay aN aV)) (aT 0))) (bN (bV .tup (bY "NoDie") (.lit .bq))) (dE (cK .Eq aV bz) (bN (bV .tup (bY "SameOne") (.lit .bq))) (oh (.one 5) (.eQ da) (eE (.df (bw ay (bY "coins")) dY (gh 200 (bw (bw ay (bY "coins")) dY) aN aV))) (bN (bV .tup (bY "") da)))))))]
def Br:aQ:=#[4,7,(dE (cK .NotIn aN (bV .lst (bY "lower") (bY "upper"))) (bN (bV .tup (bY "BadSide") (.lit .bq))) (dH 4 (gh 201 ay aN aV) (dE (cK .Eq (bZ .len da) (aT 0)) (bN (bV .tup (bY "NoDie") (.lit .bq))) (dE (.du (.eP (bZ .all (.comp [4] 3 (.one 2) (.eQ bz) .no (bV (.cmp .In) aV ay))))) (bN (bV .tup (bY "NoCoin") (.lit .bq))) (dE (.iu (cK .Eq (bZ .len bz) (aT 0)) (.iu (cK .Lt (bZ .oy bz) (bZ .len bz)) (cK .Eq (bZ .len bz) (bZ .len da)))) (bN (bV .tup (bY "BadList") (.lit .bq))) (dH 6 (bw (.comp [0,1] 4 (.one 3) (.jJ (aT 1) (aT 12)) (cK .Eq (bZ .len (gh 201 ay aN bz)) (aT 0)) bz) (aT 0)) (oh (.one 5) (.eQ bz) (eE (.df (bw ay (bY "coins")) dY (gh 200 (bw (bw ay (bY "coins")) dY) aN fQ))) (bN (bV .tup (bY "") fQ)))))))))]
def AA:aQ:=#[3,4,(dH 3 (.ite (cK .Eq aV (bY "lower")) (aT 0) (aT 2)) (bN (dq 37 ay (bZ .sset (.comp [3] 3 (.one 2) (.eQ (eT 196 aN)) .no (bw aV ay))))))]
abbrev M3(qc qf gv lr:Nat):@&(Key×D):=[(.inr "coins",.ref qc),(.inr "facts",.ref qf),(.inr "given",.int (gv:Nat)),(.inr "learnt",.int (lr:Nat))]
def K0:x6 (M3 qc qf gv lr) (.inr "coins")=!.ref qc:=rfl
def V7:x6 (M3 qc qf gv lr) (.inr "facts")=!.ref qf:=rfl
def BN:x6 (M3 qc qf gv lr) (.inr "given")=!.int (gv:Nat):=rfl
structure ie(g:G)(q qc qf gv lr:Nat)(hs:Hs)(fs:Fs):Prop where
 b:g[q]?=!.cy (M3 qc qf gv lr)
 c:g[qc]?=!.cy (gz hs)
 f:g[qf]?=!.cy (iC fs)
def ie.at{g g'}{q qc qf gv lr}{hs}{fs}(B:ie g q qc qf gv lr hs fs)(e:Ex g g'):ie g' q qc qf gv lr hs fs:=#[e.at B.b,e.at B.c,e.at B.f]
def fX(x:Str):Int:=if x="lower" then 0 else 2
def Lc(x:Str):fX x=0\/fX x=2:=by unfold fX;split<;>simp
def vL(hw:w≠.eL):fX w.s=cA w:=by
 cases w with
 |eL=>rfl
 |lower=>rfl
 |upper=>rfl
structure TD(T:Nat->Option aQ):Prop where
 h4:T 4=!T1
 h5:T 5=!uu
 UJ:T 36=!IC
 UI:T 37=!Gv
 h8:T 8=!yK
 Ag:T 13=!W0
 Ez:T 195=!FD
 Ey:T 196=!FX
 Ew:T 197=!IB
 Er:T 200=!Gw
 Ep:T 201=!FC
 xK:T 202=!Bq
 xJ:T 203=!Br
section
variable{T:Nat->Option aQ}{d:Nat}
def Lo(hT:TD T){j}(hj:0<=j/\j<=1000)(D0:m8 g d)(h:∀(v:Int) g',m8 g' d->Gr d g g'->Q (.int v) g'):b7 T (k+3) 36 [.ref d,.int j] g Q E:=by
 show call_of hT.UJ rfl ?_;delta IC;exists m5 hT.h4 D0 ∅ ∅ λr g1 x x D1 G1=>?_;exists if2 (λx=>?_) (λx=>?_)
 .left;show Hu hT.h4 hT.h5 D1 λr g2 D2 G2=>h r g2 D2 (G1.trans G2)
 .exists m5 hT.h4 D1 () () λr g2 x x D2 G2=>?_;left;show h _ _ D2 (G1.trans G2)
def Il(hT:TD T)(hi:g[i]?=!.lst (ns.map .int))(hd:d<i)(hz:-ns<=100)(D0:m8 g d)(h:∀(v:Int) g',m8 g' d->Gr d g g'->Q (.int v) g'):b7 T (k+4) 37 [.ref d,.ref i] g Q E:=by
 show call_of hT.UI rfl ?_;delta Gv;left;rw[ao];show if2 (λx=>?_) (λc1=>?_)
 .refine eR rfl ?_;exists Lo hT (by rw[ao];omega) D0 λv g2 D2 G2=>?_;show h v g2 D2 G2
 exists m5 hT.h4 D0 ∅ ∅ λr g1 x x D1 G1=>?_;let TR:=G1.at () hi;exists if2 (λx=>?_) (λx=>?_)
 .exists Lo hT (by rw[ao];omega) D1 λv g2 D2 G2=>?_;show h v g2 D2 (G1.trans G2)
 .left;rw[ao];show m5 hT.h4 D1 () () λr2 g2 r0 r1 D2 G2=>?_;let#[y,hy,hm]:=G0 (l:=ns.map D.int) r0 (by rw[ao];show r1);let#[v,_,rfl]:=ax.mp hm;show u4 (a7 (G2.at () TR)) hy ?_;show h v g2 D2 (G1.trans G2)
def T8(hs:Hs):((gz hs).map (·.1)).map kD=a9 (nums hs):=by
 simp[gz,nums,a9,kD]
def Bf(fs:Fs):((iC fs).map (·.1)).map kD=a9 (nums fs):=by
 simp[iC,nums,a9,kD]
def A2(ha:g[a]?=!.lst (a9 l))(inc:fT l)(hz:-l<=50)(h:Q (.ref (-g)) (g++[.lst (a9 l)])):cI .eA [.ref a] g Q:=by
 rw[Q3] at ha h;show bG8 (a7 ha) (by simp;omega) ?_;rw[YC inc];show h
def S7(hT:TD T)(B:ie g q qc qf gv lr hs fs)(inc:fT (nums hs))(hz:-hs<=50)(h:∀g' r,Ex g g'->-g<=r->g'[r]?=!(.lst ((d0 hs).map b9.d))->Q (.ref r) g'):b7 T (k+1) 196 [.ref q] g Q E:=by
 show call_of hT.Ey rfl ?_;delta FX;exists M9 (α:=Nat×b9) (a8 T _) (iV (a8 T _) ?_);exists j5 B.b rfl K0 ?_;exists Y9 B.c (by simp[gz];omega) ?_;rw[T8];exists A2 b0 inc (by rw[A5];show hz) ?_;let e1:=(Ex.snoc g (O.lst (a9 (nums hs)))).trans (Ex.snoc _ (O.lst (a9 (nums hs))));show#[_,_,rfl,a7 b0,hs,λp=>.int (p.1:Nat),λσ=>∃z1 z2,σ=[!.ref q,z1,z2],λx=>true,λp=>p.2.d,λg' e=>m9 (a7 ?_),by omega,#[none,none,rfl],λp σ g' hp e sh=>?_,λg' e=>?_]
 .rw[show hs.map (λp=>D.int (p.1:Nat))=a9 (nums hs) by simp[a9,nums]];show e.at b0
 .let#[z1,z2,rfl]:=sh;show j8 (O6 #[rfl,e,jv ?_]);left;let B':=(B.at e1).at e;show j5 B'.b rfl K0 ?_;left;show j5 B'.c rfl (p8 inc hp) #[rfl,e,_,_,rfl]
 .rw[Q6];show h _ _ ((e1.trans e).trans (Ex.snoc _ _)) (e1.trans e).len ?_;rw[d0,bC];show b0
def yw(hT:TD T)(B:ie g q qc qf gv lr hs fs)(inc:fT (nums hs))(hz:-hs<=50)(h:∀g' r,Ex g g'->-g<=r->g'[r]?=!(.lst (a9 (numsOf hs (fX x) v)))->Q (.ref r) g'):b7 T (k+1) 201 [.ref q,.str x,.int v] g Q E:=by
 show call_of hT.Ep rfl ?_;delta FC;let rest:aY (b7 T k) (.comp [3,0,2] 5 (.one 4) (.eQ (.prim .eA (.cons (.prim .list (.cons (.prim .ix (.cons (.var 0) (.cons (.lit (.str "coins")) .nil))) .nil)) .nil))) (.eP (.prim (.cmp .Eq) (.cons (.prim .ix (.cons (.prim .ix (.cons (.prim .ix (.cons (.var 1) (.cons (.lit (.str "coins")) .nil))) (.cons (.var 4) .nil))) (.cons (.var 0) .nil))) (.cons (.var 2) .nil)))) (.var 4)) [!.ref q,!.str x,!.int v,!.int (fX x)] g Q E:=by
  show M9 (α:=Nat×b9) (a8 T _) (iV (a8 T _) ?_);exists j5 B.b rfl K0 ?_;show Y9 B.c (by simp[gz];omega) ?_;rw[T8];show A2 b0 inc (by rw[A5];show hz) ?_;let e1:=(Ex.snoc g (O.lst (a9 (nums hs)))).trans (Ex.snoc _ (O.lst (a9 (nums hs))));show#[_,_,rfl,a7 b0,hs,λp=>.int (p.1:Nat),λσ=>∃z3 z4,σ=[!.int (fX x),!.ref q,!.int v,z3,z4],λp=>decide (R7 (fX x) p.2=v),λp=>.int (p.1:Nat),λg' e=>m9 (a7 ?_),by omega,#[none,none,rfl],λp σ g' hp e sh=>?_,λg' e=>?_]
  .rw[show hs.map (λp=>D.int (p.1:Nat))=a9 (nums hs) by simp[a9,nums]];show e.at b0
  .let#[z3,z4,rfl]:=sh;show j8 ?_;left;let B':=(B.at e1).at e;show j5 B'.b rfl K0 ?_;exists j5 B'.c rfl (p8 inc hp) ?_;exists E7 (yi (Lc x) p.2) ?_;exists#[rfl,e,?_];show if2 (λy=>?_) (λy=>?_)
   .left;show#[rfl,e,_,_,rfl]
   .exact#[_,_,rfl]
  .refine h _ _ ((e1.trans e).trans (Ex.snoc _ _)) (e1.trans e).len ?_;rw[numsOf,a9,bC];show b0
 exists if2 (λc1=>?_) (λc1=>?_)
 .rw[show fX x=0 from aM c1] at rest;show w_lit rest
 .rw[show fX x=2 from aI c1] at rest;show w_lit rest
def aR6(hT:TD T){c:b9}(h:∀g',Ex g g'->Q (c.re (fX x) v).d g'):b7 T (k+1) 200 [c.d,.str x,.int v] g Q E:=by
 show call_of hT.Er rfl ?_;dsimp[Gw,b8,List.replicate,b9.d];left;let gs:=b0 (g:=g) (o:=O.lst [D.int c.lo,D.tup (c.lm.map .int),D.int c.up,D.tup (c.um.map .int),D.int c.yr]);let fin:∀l:@&D,Ex g ((g++[O.lst [D.int c.lo,D.tup (c.lm.map .int),D.int c.up,D.tup (c.um.map .int),D.int c.yr]]).set (-g) (.lst l)):=λl=>#[by simp,λi hi=>by rw[aH (),aF hi]]
 show if2 (λc1=>?_) (λc1=>?_)
 .rw[show fX x=0 from aM c1] at h;show su gs (n:=0) rfl ?_;let g2:=get_set gs (o':=O.lst ([D.int c.lo,D.tup (c.lm.map .int),D.int c.up,D.tup (c.um.map .int),D.int c.yr].set 0 (.int v)));left;show h _ (fin _)
 .rw[show fX x=2 from aI c1] at h;show su gs (n:=2) rfl ?_;let g2:=get_set gs (o':=O.lst ([D.int c.lo,D.tup (c.lm.map .int),D.int c.up,D.tup (c.um.map .int),D.int c.yr].set 2 (.int v)));left;show h _ (fin _)
def Pw(hT:TD T){σ}{i3 i6}(B:ie g q qc qf gv lr hs fs)(inc:fT (nums hs))(hz:-hs<=50){ns}(ha:g[a]?=!.lst (a9 ns))(hn:∀n∈ns,n∈nums hs)(n1:a≠qc)(n2:q≠qc)(n3:qf≠qc)(s0:∀y,(σ.set 5 y)[0]?=!!.ref q)(s1:∀y,(σ.set 5 y)[1]?=!!.str x)(s3:σ[i3]?=!!.ref a)(s6:∀y,(σ.set 5 y)[i6]?=!!.int v)(s5:∀y,(σ.set 5 y)[5]?=!y)(h:∀g' y,Gr qc g g'->ie g' q qc qf gv lr (t8 hs ns (fX x) v) fs->N.nx (σ.set 5 y) g')(h0:ns=[]->∀g',Gr qc g g'->ie g' q qc qf gv lr hs fs->N.nx σ g'):wpS (b7 T (k+1)) (.gL (.one 5) (.eQ (.var i3)) (.seq (.df (.prim .ix (.cons (.var 0) (.cons (.lit (.str "coins")) .nil))) (.var 5) (.call 200 (.cons (.prim .ix (.cons (.prim .ix (.cons (.var 0) (.cons (.lit (.str "coins")) .nil))) (.cons (.var 5) .nil))) (.cons (.var 1) (.cons (.var i6) .nil))))) .pass)) N σ g E:=by
 show L9 (a8 T _) (iV (a8 T _) (w_var s3 ?_));show#[a,_,rfl,a7 ha,a9 ns,λi cg g'=>(cg=σ/\i=0\/0<i/\∃y,cg=σ.set 5 y)/\Gr qc g g'/\ie g' q qc qf gv lr (t8 hs (ns.take i) (fX x) v) fs,λi σ g' q=>m9 (a7 (q.2.1.at n1 ha)),#[.inl #[rfl,rfl],Gr.refl _ _,?_],λi y cg g' hx q'=>?_,λcg g' q'=>?_]
 .have:t8 hs (ns.take 0) (fX x) v=hs:=by
   conv=>rhs;rw[<- Cf hs]
   rfl
  rw[this];show B
 .let#[zC,G1,B1]:=q';rw[a9,ag,aa] at hx;let#[n,hx,rfl]:=hx;show j8 ?_;let UX:cg.set 5 (!.int (n:Nat))=σ.set 5 (!.int (n:Nat)):=by
   rcases zC with⟨rfl,_⟩|⟨_,y,rfl⟩
   .rfl
   .rw[gD]
  rw[UX];let hm:=hn n (aE hx);let mJ:n∈nums (t8 hs (ns.take i) (fX x) v):=by rw[L7];show hm
  let ka:fT (nums (t8 hs (ns.take i) (fX x) v)):=by rw[L7];show inc
  let#[p,hp,ng]:=ax.mp mJ;let iN:(n,p.2)∈t8 hs (ns.take i) (fX x) v:=by rw[<- ng];show hp
  show HP (Ot (HM (vD (qQ (qQ (w_var (s0 _) (w_lit ?_)))))));show j5 B1.b rfl K0 (w_var (s5 _) ?_);show j5 B1.c rfl (p8 ka iN) ?_;show vD (w_var (s1 _) (vD (w_var (s6 _) (By ?_))));show aR6 hT λg2 e2=>?_;let B2:=B1.at e2;show qQ (w_var (s0 _) (w_lit (j5 B2.b rfl K0 ?_)));show w_var (s5 _) ?_;show U3 B2.c rfl (by simp[gz,t8];omega) ?_;rw[AF mJ,Pu inc iN];show#[.inr #[Nat.succ_pos _,_,rfl],(G1.trans (e2.gr qc)).trans (Gr.set _ _ _),c7 B2.b (aX n2),?_,c7 B2.f (aX n3)];rw[show ns.take (i+1)=ns.take i++[n] by rw[bg,hx];rfl];show get_set B2.c
 .let#[zC,G1,B1]:=q';rw[a9,ao] at zC;rw[a9,ao,bt] at B1;rcases zC with⟨rfl,z⟩|⟨_,y,rfl⟩
  .let z':=bQ z;subst z';have:t8 hs [] (fX x) v=hs:=by
    conv=>rhs;rw[<- Cf hs]
    rfl
   rw[this] at B1;show h0 rfl _ G1 B1
  .exact h _ _ G1 B1
end
section
variable{T:Nat->Option aQ}{d:Nat}
def AR(hw:w≠.eL):PyData.strOk w.s=true/\(decide (w.s="lower")||decide (w.s="upper"))=true:=by
 cases w with
 |eL=>show absurd rfl hw
 |lower=>decide +kernel
 |upper=>decide +kernel
def WR(hT:TD T)(hw:w≠.eL)(B:ie g q qc qf gv lr hs fs)(O1:iF hs)(n2:q≠qc)(n3:qf≠qc)(hn:E5 hs (cA w) v u≠""->∀g',Ex g g'->Q (.tup [.str (E5 hs (cA w) v u),.bq]) g')(h:E5 hs (cA w) v u=""->∀g' r,Gr qc g g'->-g<=r->g'[r]?=!(.lst (a9 (numsOf hs (cA w) u)))->ie g' q qc qf gv lr (t8 hs (numsOf hs (cA w) u) (cA w) v) fs->Q (.tup [.str "",.ref r]) g'):b7 T (k+2) 202 [.ref q,.str w.s,.int v,.int u] g Q E:=by
 let hz:=O1.len;show call_of hT.xK rfl ?_;delta Bq;exists K8 (AS b0 (AR hw).1 ?_);rw[(AR hw).2];left;let e1:=Ex.snoc g (O.lst [D.str "lower",D.str "upper"]);show yw hT (B.at e1) O1.inc () λg2 r2 e2 l2 jL=>?_;rw[vL hw] at jL;let iD:=e1.trans e2;left;let fin:∀g3,Ex g g3->(numsOf hs (cA w) v=[]\/numsOf hs (cA w) u=[])->Q (.tup [.str "NoDie",.bq]) g3:=λg3 e3 z=>by
  have:E5 hs (cA w) v u="NoDie":=by unfold E5;rw[aM z]
  rw[this] at hn;show hn #[] _ e3
 let li:∀l:@&Nat,(a9 l).length=-l:=λl=>by simp[a9]
 rw[li];by_cases d2:numsOf hs (cA w) u=[]
 .refine eR (by rw[d2];rfl) ?_;left;show fin _ iD (.inr d2)
 show eB (aA (λz=>d2 (bQ ()))) ?_;exists yw hT (B.at iD) O1.inc () λg3 r3 e3 l3 nR=>?_;rw[vL hw] at nR;let ia:=iD.trans e3;left;rw[li];by_cases d1:numsOf hs (cA w) v=[]
 .refine eR (by rw[d1];rfl) ?_;left;show fin _ ia (.inl d1)
 show eB (aA (λz=>d1 (bQ ()))) ?_;exists if2 (λtE=>?_) (λtE=>?_)
 .have:E5 hs (cA w) v u="SameOne":=by unfold E5;rw[aI (λz=>z.elim d1 d2),aM tE]
  rw[this] at hn;left;show hn #[] _ ia
 .let this:E5 hs (cA w) v u="":=by unfold E5;rw[aI (λz=>z.elim d1 d2),aI tE]
  let lc:=i0 B.c;let B3:=B.at ia;let JB:=e3.at jL;let l1:=e1.len;show Pw hT B3 O1.inc () JB (λn hn=>Bi hn) () n2 n3 (λx=>rfl) (λx=>rfl) rfl (λx=>rfl) (λx=>rfl) (λg4 y G4 B4=>?_) (λz=>absurd z d2);rw[vL hw] at B4;left;show h this _ _ #[by have:=ia.len;have:=G4.len;omega,λi h1 h2=>(G4.old i h1 (aB h2 ia.len)).trans (ia.old i h2)] () (G4.at () JB) B4
def bY6(hT:TD T)(ho:PyData.strOk x=true)(h1:x≠"lower")(h2:x≠"upper")(h:∀g',Ex g g'->Q (.tup [.str "BadSide",.bq]) g'):b7 T (k+2) 202 [.ref q,.str x,.int v,.int u] g Q E:=by
 show call_of hT.xK rfl ?_;delta Bq;exists K8 (AS b0 ho ?_);rw[aA h1,aA h2];exists eR rfl ?_;left;show h _ (Ex.snoc _ _)
def bY5(hT:TD T)(ho:PyData.strOk x=true)(h1:x≠"lower")(h2:x≠"upper")(h:∀g',Ex g g'->Q (.tup [.str "BadSide",.bq]) g'):b7 T (k+2) 203 [.ref q,.str x,.int v,.ref a] g Q E:=by
 show call_of hT.xJ rfl ?_;delta Br;exists K8 (AS b0 ho ?_);rw[aA h1,aA h2];exists eR rfl ?_;left;show h _ (Ex.snoc _ _)
def a87{p}(hj:j<n)(hp:p j=true)(hl:∀i,i<j->p i=false):((List.range n).filter p)[0]?=!j:=by
 rw[<- List.head?_eq_getElem?,List.head?_filter,List.find?_range_eq_some];show#[hp,bh.mpr hj,λi hi=>by rw[hl i hi];rfl]
def YX(ns:@&Int):(ST.k9 [] ns).length<=-ns:=by simpa using ST.Q9 ns []
def WS(hT:TD T)(hw:w≠.eL)(B:ie g q qc qf gv lr hs fs)(O1:iF hs)(n2:q≠qc)(n3:qf≠qc)(ha:g[a]?=!.lst (ns.map .int))(hl:-ns<=50)(n1:a≠qc){F}(hF:qy (Q7 hs (cA w)) F)(hn:F7 hs (cA w) v ns≠""->∀g',Ex g g'->Q (.tup [.str (F7 hs (cA w) v ns),.bq]) g')(h:F7 hs (cA w) v ns=""->∀g',Gr qc g g'->ie g' q qc qf gv lr (t8 hs (ns.map Int.toNat) (cA w) F) fs->Q (.tup [.str "",.int F]) g'):b7 T (k+2) 203 [.ref q,.str w.s,.int v,.ref a] g Q E:=by
 let hz:=O1.len;show call_of hT.xJ rfl ?_;delta Br;exists K8 (AS b0 (AR hw).1 ?_);rw[(AR hw).2];left;let e1:=Ex.snoc g (O.lst [D.str "lower",D.str "upper"]);show yw hT (B.at e1) O1.inc () λg2 r2 e2 l2 jL=>?_;rw[vL hw] at jL;let iD:=e1.trans e2;let li:∀l:@&Nat,(a9 l).length=-l:=λl=>by simp[a9]
 left;rw[li];by_cases d1:numsOf hs (cA w) v=[]
 .refine eR (by rw[d1];rfl) ?_;left;have:F7 hs (cA w) v ns="NoDie":=by unfold F7;rw[aM d1]
  rw[this] at hn;show hn #[] _ iD
 show eB (aA (λz=>d1 (bQ ()))) ?_;let a2:=iD.at ha;rw[Q3] at jL;exists M9 (α:=Int) (a8 T _) (rY (a8 T _) (a7 a2) (λQ q=>w_var rfl q) _ ?_);show#[ns,D.int,λσ=>∃z1 z2,σ=[!.ref r2,z1,z2],λx=>true,λn=>.bl (decide (n∈(numsOf hs (cA w) v).map λn:Nat=>(n:Int))),λg' e=>m9 (a7 (e.at a2)),by omega,#[none,none,rfl],λn σ g' hp e sh=>?_,λg3 e3=>?_]
 .let#[z1,z2,rfl]:=sh;show j8 (O6 #[rfl,e,jv ?_]);exists uj (X5 (a7 (e.at jL)) ?_);show#[rfl,e,_,_,rfl]
 rw[Q6];let e4:=(iD.trans e3).trans (Ex.snoc g3 (O.lst (ns.map λn=>D.bl (decide (n∈(numsOf hs (cA w) v).map λn:Nat=>(n:Int))))));let UT:=e3.trans (Ex.snoc g3 (O.lst (ns.map λn=>D.bl (decide (n∈(numsOf hs (cA w) v).map λn:Nat=>(n:Int))))));show yU (v:=ns.all λn=>decide (n∈(numsOf hs (cA w) v).map λn:Nat=>(n:Int))) (a7 b0) (by rw[show ns.map (λn=>D.bl (decide (n∈(numsOf hs (cA w) v).map λn:Nat=>(n:Int))))=(ns.map λn=>decide (n∈(numsOf hs (cA w) v).map λn:Nat=>(n:Int))).map D.bl by rw[bC];rfl,yN,List.all_map];rfl) ?_;generalize g3++[O.lst (ns.map λn=>D.bl (decide (n∈(numsOf hs (cA w) v).map λn:Nat=>(n:Int))))]=g4 at *;left;cases kU:ns.all λn=>decide (n∈(numsOf hs (cA w) v).map λn:Nat=>(n:Int)) with
 |false =>
  show eR rfl ?_;left;have:F7 hs (cA w) v ns="NoCoin":=by unfold F7;rw[aI d1,aI (by rw[kU];decide)]
  rw[this] at hn;show hn #[] _ e4
 |true =>
  show eB rfl ?_;let a4:=e4.at ha;let r4:=UT.at jL;let lm:(ns.map D.int).length=-ns:=by simp
  let lr:(((numsOf hs (cA w) v).map λn:Nat=>(n:Int)).map D.int).length=(numsOf hs (cA w) v).length:=by simp
  let ale:=YX ns;let bad:R8 hs (cA w) v ns=true->Q (.tup [.str "BadList",.bq]) g4:=λz=>by
   have:F7 hs (cA w) v ns="BadList":=by unfold F7;rw[aI d1,aM kU,aM z]
   rw[this] at hn;show hn #[] _ e4
  let good:R8 hs (cA w) v ns=false->F7 hs (cA w) v ns="":=λz=>by unfold F7;rw[aI d1,aM kU,aI (by rw[z];decide)]
  left;rw[lm];by_cases c1:-ns=0
  .refine eR (aG ()) ?_;left;show bad (by unfold R8;simp[c1])
  show eB (aA ()) ?_;exists Mc (a7 a4) () ?_;left;rw[lm];by_cases c2:(ST.k9 [] ns).length=-ns
  .refine eB (aA ()) ?_;left;rw[lm,lr];by_cases c3:-ns=(numsOf hs (cA w) v).length
   .refine eR (aG ()) ?_;left;show bad (by unfold R8;simp[c3])
   show eB (aA ()) ?_;let b1:R8 hs (cA w) v ns=false:=by
    unfold R8;rw[aA (),aA (),aA ()]
    rfl
   let B4:=B.at e4;exists M9 (α:=Nat) (a8 T _) (VG (a8 T _) ?_);exists#[1,12,rfl,rfl,#[by decide,by decide,by decide,by decide],List.range 11,λj=>.int (1+(j:Int)),λσ=>∃z2 z3,σ=[!.ref q,!.str w.s,z2,z3],λj=>decide (numsOf hs (cA w) (1+(j:Int))=[]),λj=>.int (1+(j:Int)),λx x=>L4,by decide,#[none,none,rfl],λj σ g' hj e sh=>?_,λg5 e5=>?_]
   .let#[z2,z3,rfl]:=sh;show j8 ?_;exists yw hT (B4.at e) O1.inc () λg6 r6 e6 l6 Di=>?_;rw[vL hw] at Di;left;rw[li];let ee:decide (((numsOf hs (cA w) (1+(j:Int))).length:Int)=0)=decide (numsOf hs (cA w) (1+(j:Int))=[]):=de.mpr #[λz=>bQ (),λz=>by rw[z];rfl];show#[ee,e.trans e6,?_];show if2 (λx=>?_) (λx=>?_)
    .left;show#[rfl,e.trans e6,_,_,rfl]
    .exact#[_,_,rfl]
   let Uv:=hF.le;let hFp:=hF.pos;let dl:(Q7 hs (cA w)).length<=9:=by simpa[Q7,d0] using hz
   let ff:=a87 (p:=λj:Nat=>decide (numsOf hs (cA w) (1 + (j:Int))=[])) (n:=11) (j:=(F - 1).toNat) () (aG (by
    rw[show 1+(((F-1).toNat:Nat):Int)=F by omega];show gQ λz=>hF.no (Gk.mpr z))) (λi hi=>aA (Gk.mp (hF.all _ () ())))
   let e6:=e5.trans (Ex.snoc g5 (O.lst (((List.range 11).filter λj:Nat=>decide (numsOf hs (cA w) (1+(j:Int))=[])).map λj:Nat=>D.int (1+(j:Int)))));exists u4 (d:=.int F) (a7 b0) (D9 (by rw[ag,ff];simp;omega)) ?_;generalize g5++[O.lst (((List.range 11).filter λj:Nat=>decide (numsOf hs (cA w) (1+(j:Int))=[])).map λj:Nat=>D.int (1+(j:Int)))]=g6 at *;let pe:=e4.trans e6;let wZ:∀n∈ns,∃j∈numsOf hs (cA w) v,n=(j:Nat):=λn hx=>by
    let#[j,hj,e]:=ax.mp (aP (bG.mp kU n hx));show#[j,hj,e.symm]
   let en:ns.map D.int=a9 (ns.map Int.toNat):=by
    rw[a9,bC];show cY λn hx=>?_;let#[j,_,rfl]:=wZ n hx;simp
   let a6:=pe.at ha;rw[en] at a6;exists Pw hT (B.at pe) O1.inc () a6 (λn hx=>?_) n1 n2 n3 (λx=>rfl) (λx=>rfl) rfl (λx=>rfl) (λx=>rfl) (λg7 y G7 B7=>?_) (λz=>?_)
   .let#[i,hi,rfl]:=ax.mp hx;let#[j,hj,rfl]:=wZ i hi;show Bi (_/hj)
   .rw[vL hw] at B7;left;show h (good b1) _ #[by have:=pe.len;have:=G7.len;omega,λi h1 h2=>(G7.old i h1 (aB h2 pe.len)).trans (pe.old i h2)] B7
   .have:-ns=0:=by simpa using dJ List.length z
    show absurd this c1
  .refine eR (aG ()) ?_;left;show bad (by unfold R8;simp[c2])
end
def IA:aQ:=#[2,3,(dE (cK .NotIn aN (bw ay (bY "coins"))) (bN (bV .tup (bY "NoCoin") (.lit .bq))) (oh (.one 2) (.eQ (bZ .eA (bZ .list (bw ay (bY "facts"))))) (eE (.ifs (cK .In aN (bw (bw ay (bY "facts")) aV)) (eE (.expr (.dX .jx (bw ay (bY "facts")) (gb aV)))) .pass)) (bN (bV .tup (bY "") (.dX .jx (bw ay (bY "coins")) (gb aN))))))]
def Hw:aQ:=#[3,3,(dE (.iu (cK .NotIn aN (bw ay (bY "coins"))) (cK .NotIn aV (bw ay (bY "coins")))) (bN (bV .tup (bY "NoCoin") (.lit .bq))) (dE (cK .Eq aN aV) (bN (bV .tup (bY "SameOne") (.lit .bq))) (gi (.df ay (bY "learnt") (bV (.bin .Add) (bw ay (bY "learnt")) (aT 1))) (gi (.df (bw ay (bY "facts")) (bw ay (bY "learnt")) (bV .tup aN aV)) (bN (bV .tup (bY "") (bw ay (bY "learnt"))))))))]
def qL:aQ:=#[2,4,(dH 2 (bw aN (aT 0)) (dE (cK .Eq aV (bY "put")) (bN (dq 197 ay (bw aN (aT 1)))) (dE (cK .Eq aV (bY "right")) (dE (cK .NotIn (bw aN (aT 1)) (bw ay (bY "coins"))) (bN (bV .tup (bY "NoCoin") (.lit .bq))) (dE (.du (.eP (eT 13 (bw aN (aT 2))))) (bN (bV .tup (bY "BadCoin") (.lit .bq))) (dH 3 (bw (bw ay (bY "coins")) (bw aN (aT 1))) (gi (.df (bw ay (bY "coins")) (bw aN (aT 1)) (bw aN (aT 2))) (bN (bV .tup (bY "") bz)))))) (dE (cK .Eq aV (bY "out")) (bN (dq 198 ay (bw aN (aT 1)))) (dE (cK .Eq aV (bY "tell")) (bN (gh 199 ay (bw aN (aT 1)) (bw aN (aT 2)))) (dE (cK .Eq aV (bY "untell")) (dE (cK .NotIn (bw aN (aT 1)) (bw ay (bY "facts"))) (bN (bV .tup (bY "NoFact") (.lit .bq))) (bN (bV .tup (bY "") (.dX .jx (bw ay (bY "facts")) (gb (bw aN (aT 1))))))) (dE (cK .Eq aV (bY "one")) (bN (CG 202 ay (bw aN (aT 1)) (bw aN (aT 2)) (bw aN (aT 3)))) (bN (CG 203 ay (bw aN (aT 1)) (bw aN (aT 2)) (bw aN (aT 3)))))))))))]
def E6:aQ:=#[2,3,(dH 2 (bw aN (aT 0)) (dE (cK .Eq aV (bY "put")) (bN (.bJ "put" [("Cabinet",214)] ay (gb (bw aN (aT 1))))) (dE (cK .Eq aV (bY "right")) (bN (.bJ "right" [("Cabinet",215)] ay (wg (bw aN (aT 1)) (bw aN (aT 2))))) (dE (cK .Eq aV (bY "out")) (bN (.bJ "out" [("Cabinet",216)] ay (gb (bw aN (aT 1))))) (dE (cK .Eq aV (bY "tell")) (bN (.bJ "tell" [("Cabinet",217)] ay (wg (bw aN (aT 1)) (bw aN (aT 2))))) (dE (cK .Eq aV (bY "untell")) (bN (.bJ "untell" [("Cabinet",218)] ay (gb (bw aN (aT 1))))) (dE (cK .Eq aV (bY "one")) (bN (.bJ "one_die" [("Cabinet",219)] ay (mD (bw aN (aT 1)) (bw aN (aT 2)) (bw aN (aT 3))))) (bN (.bJ "two_dies" [("Cabinet",220)] ay (mD (bw aN (aT 1)) (bw aN (aT 2)) (bZ .list (bw aN (aT 3)))))))))))))]
def AL:aQ:=#[2,6,(dH 2 (eT 196 aN) (dE (.iu (cK .Eq (bZ .len aV) (aT 0)) (cK .Eq (dq 4 ay (aT 3)) (aT 0))) (bN (eT 22 ay)) (dH 3 (bw aV (dq 4 ay (bZ .len aV))) (dH 4 (bw aV (dq 4 ay (bZ .len aV))) (dH 5 (.comp [0] 3 (.one 2) (.eQ (bV .tup (bw bz (aT 1)) (bw da (aT 3)))) .no (bZ .tuple (.comp [0,2] 4 (.one 3) (.fo (aT 8)) (.iu (cK .In bz aN) (cK .Eq (dq 4 ay (aT 9)) (aT 0))) bz))) (bN (.prim .tup (rf (bw bz (aT 0)) (bw dY (aT 0)) (bw da (aT 2)) (bw dY (aT 1)) (bw (.prim .lst (mD (aT 0) (bw bz (aT 4)) (aT 1410))) (dq 4 ay (aT 3)))))))))))]
def GD:aQ:=#[2,3,(dH 2 (bZ .eA (bZ .list (bw aN (bY "coins")))) (dE (.iu (.du (.eP (dq 7 (.bJ "numbers" [("Cabinet",221)] ay .nil) aV))) (.du (.eP (dq 7 (.bJ "coins" [("Cabinet",223)] ay .nil) (eT 196 aN))))) (bN (.lit (.bl false))) (dE (.du (.eP (bZ .all (.comp [1,0] 4 (.one 3) (.eQ aV) .no (dq 7 (.bJ "coin" [("Cabinet",222)] aN (gb bz)) (bw (bw ay (bY "coins")) bz)))))) (bN (.lit (.bl false))) (bN (dq 7 (.bJ "facts" [("Cabinet",224)] ay .nil) (.comp [1] 3 (.one 2) (.eQ (bZ .eA (bZ .list (bw aN (bY "facts"))))) .no (bV (.bin .Add) (bZ .tup aV) (bw (bw ay (bY "facts")) aV))))))))]
def GR:aQ:=#[2,2,(jn (.bJ "check_number" [("Cabinet",209)] ay (gb aN)) (gi (.fH "claims" ["Cabinet"] ay (bV .oo (bZ (.fld "claims") ay) aN)) (bN (.dX .jx (bZ (.fld "held") ay) (gb aN)))))]
def X2:aQ:=#[2,2,(dE (.iu (.du (.eP (eT 38 aN))) (cK .NotIn aN (bZ (.fld "claims") ay))) (eE (.raise "NoFact" (gb (bY "no fact has that number")))) (bN (.dX .jx (bZ (.fld "claims") ay) (gb aN))))]
structure Fl(a b c:Nat)(g g':G):Prop where
 len:-g<=-g'
 old:∀i,(i≠a/\i≠b/\i≠c)->i< -g->g'[i]?=g[i]?
section
variable{d:Nat}{g2:G}
def Fl.at(F:Fl a b c g g')(h:i≠a/\i≠b/\i≠c)(e:g[i]?=!o):g'[i]?=!o:=(F.old i h (i0 e)).trans e
def Ex.fl(e:Ex g g'):Fl a b c g g':=#[e.len,λi x h=>e.old i h]
def Fl.trans(F:Fl a b c g g')(F2:Fl a b c g' g2):Fl a b c g g2:=#[aC F.len F2.len,λi h l=>(F2.old i h (aB l F.len)).trans (F.old i h l)]
def Fl.set(F:Fl a b c g g'){i}(h:i=a\/i=b\/i=c)(o:O):Fl a b c g (g'.set i o):=#[by rw[gk];show F.len,λj hj l=>by rw[aH ()];show F.old j hj l]
def Gr.fl{x}(G1:Gr x g g')(h:x=a\/x=b\/x=c):Fl a b c g g':=#[G1.len,λi hi l=>G1.old i () l]
def Fl.draw(F:Fl a b c g g')(D0:m8 g d)(h:d<a/\d<b/\d<c):m8 g' d:=by
 let#[s,p,x,r,xs,e1,e2,hs,q]:=D0.ex;show#[s,p,x,r,xs,F.at () e1,F.at () e2,hs,q]
end
def gy(l:@&Nat)(v:Int):Bool:=l.any λn=>decide ((n:Int)=v)
def X6:gy l v=true↔∃n∈l,v=(n:Nat):=by
 unfold gy;rw[bO];show#[(by rintro ⟨n,h,e⟩;show #[n,h,(aP e).symm]),(by rintro ⟨n,h,e⟩;show #[n,h,aG e.symm])]
def Q4{hs:@&(Nat×α)}(h:gy (nums hs) v=true):∃n x,v=(n:Nat)/\(n,x)∈hs:=by
 let#[n,hn,e]:=X6.mp h;let#[#[n',x],hp,rfl]:=ax.mp hn;show#[n',x,e,hp]
abbrev O5{α:Type}(hs:@&(Nat×α))(n:Nat):@&(Nat×α):=hs.filter λp=>decide (p.1≠n)
def b52{a}:decide (kC a≠kC b)=decide (a≠b):=de.mpr (not_congr #[λz=>by have:=dc z;omega,λz=>by rw[z]])
def yx{f:α->D}(hs:@&(Nat×α))(n:Nat):delD (hs.map λp=>(kC p.1,f p.2)) (kC n)=(O5 hs n).map λp=>(kC p.1,f p.2):=by
 unfold delD O5;rw[ny];show dJ _ (List.filter_congr λp x=>b52)
def K7(v:Int)(p:Nat×Int×Int):Bool:= ~~~(decide (p.2.1=v)||decide (p.2.2=v))
abbrev kP(p:Nat×Int×Int):Key×Int×Int:=(kC p.1,p.2)
def Ld(fs:Fs):(fs.map kP).map mR=iC fs:=by
 unfold iC;rw[bC]
 rfl
def bI6(fs:Fs)(v:Int):((fs.map kP).filter (sj v)).map mR=iC (fs.filter (K7 v)):=by
 rw[ny,<- Ld]
 rfl
def b50(h:fT (nums fs)):((fs.map kP).map (·.1)).Nodup:=by
 rw[bC];show cU.mpr ((cU.mp h).imp λz e=>by have:=dc e;omega)
def fT.sub{l m:@&(Nat×α)}(h:fT (nums l))(s:m.Sublist l):fT (nums m):=zx (s.map _) h
def OP{x y}(h:n∉nums fs):putD (iC fs) (kC n) (.tup [.int x,.int y])=iC (fs++[(n,x,y)]):=by
 unfold putD;rw[aI]
 .simp[iC]
 .intro z;let#[p,hx,e]:=bO.mp z;let#[p,hp,rfl]:=ax.mp hx;have:=dc (aP e);show h (ax.mpr #[p,hp,by omega])
def BO:x6 (M3 qc qf gv lr) (.inr "learnt")=!.int (lr:Nat):=rfl
noncomputable abbrev pD(p:Int×Int):D:=.tup [.int p.1,.int p.2]
structure TE(T:Nat->Option aQ):Prop where
 tc:TC T
 td:TD T
 h6:T 6=!yQ
 h7:T 7=!O7
 Ef:T 22=!AI
 Em:T 210=!R6
 Ej:T 215=!Hk
 Ei:T 216=!GR
 Eh:T 217=!Hd
 Eg:T 218=!X2
 Eu:T 198=!IA
 Et:T 199=!Hw
 lK:T 204=!qL
 lJ:T 205=!E6
 Eo:T 207=!GD
section
variable{T:Nat->Option aQ}{d:Nat}{c:b9}
def uG{f:α->D}{hs:@&(Nat×α)}(h:g[a]?=!(.cy (hs.map λp=>(kC p.1,f p.2))))(hk:kb (gy (nums hs) v)):oP g (.int v) (.ref a) kb:=#[_,.inl #[a,_,.inl v,rfl,h,rfl,rfl],by rw[bL3];show hk]
def Bc(hT:TC T)(C:fV g m hd cl lc lf hs fs)(hn:gy (nums hs) v=false->E #["NoCoin"] g)(h:gy (nums hs) v=true->Q .bq g):b7 T (k+2) 209 [.ref m,.int v] g Q E:=by
 show call_of hT.xI rfl ?_;delta G9;exists L3 hT.nf ?_;exists u1 C.o rfl ?_;show K8 (uG C.h ?_);left;by_cases hv:gy (nums hs) v=true
 .refine eB (by rw[hv];rfl) ?_;show h hv
 .let hv:=bH.mpr hv;show eR (by rw[hv];rfl) ?_;left;show hn hv
def b76(hT:TC T)(C:fV g m hd cl lc lf hs fs)(inc:fT (nums hs))(hn:gy (nums hs) v=false->E #["NoCoin"] g)(h:∀n x,v=(n:Nat)->(n,x)∈hs->Q x.d g):b7 T (k+3) 222 [.ref m,.int v] g Q E:=by
 show call_of hT.xF rfl ?_;delta U9;exists i7 C.o rfl rfl ?_;exists Bc hT C hn λhv=>?_;let#[n,x,rfl,hp]:=Q4 hv;exists u1 C.o rfl ?_;exists j5 C.h rfl (p8 inc hp) ?_;show h n x rfl hp
def GP(hT:TC T)(hn:j7 c=false->E #["BadCoin"] g)(h:j7 c=true->Q .bq g):b7 T (k+5) 39 [c.d] g Q E:=by
 show call_of hT.qq.2 rfl ?_;delta U4;exists Hb hT.nf hT.h2 hT.oX ?_;left;by_cases hc:j7 c=true
 .refine eB (by rw[hc];rfl) ?_;show h hc
 .let hc:=bH.mpr hc;show eR (by rw[hc];rfl) ?_;left;show hn hc
def E4(hs:Hs)(c:b9):Str:=if j7 c=false then "BadCoin" else if (-hs)=9 then "Full" else ""
def Wf(hT:TC T)(C:fV g m hd cl lc lf hs fs)(O1:iF hs)(dP:∀n∈nums hs,n<=lc)(n2:m≠hd)(n3:cl≠hd)(n4:cl≠m)(hn:E4 hs c≠""->E #[E4 hs c] g)(h:E4 hs c=""->j7 c=true->-hs<9->∀g',Fl m hd cl g g'->fV g' m hd cl (lc+1:Nat) lf (hs++[(lc+1,c)]) fs->Q (.int (lc+1:Nat)) g'):b7 T (k+6) 214 [.ref m,c.d] g Q E:=by
 by_cases hc:j7 c=true
 .let hz:=O1.len;by_cases h9:-hs=9
  .let e:E4 hs c="Full":=by unfold E4;rw[aI (by rw[hc];decide),aM h9]
   rw[e] at hn;show call_of hT.tT rfl ?_;delta S5;exists GP hT (λz=>by rw[hc] at z;cases z) λx=>?_;exists u1 C.o rfl ?_;show Iw C.h ?_;exists eR (aG (by simp[gz,h9])) ?_;left;show hn #[]
  .let e:E4 hs c="":=by unfold E4;rw[aI (by rw[hc];decide),aI h9]
   show aG9 hT C hc () dP n2 n3 n4 λg' l o C'=>h e hc () g' #[by omega,λi hi x=>o i hi.2.1 hi.1] C'
 .let hc:=bH.mpr hc;let e:E4 hs c="BadCoin":=by unfold E4;rw[aM hc]
  rw[e] at hn;show call_of hT.tT rfl ?_;delta S5;left;show GP hT (λx=>hn #[]) λz=>by rw[hc] at z;cases z
def x8(hs:Hs)(v:Int)(c:b9):Str:=if gy (nums hs) v=false then "NoCoin" else if j7 c=false then "BadCoin" else ""
def bQ2(hT:TE T)(C:fV g m hd cl lc lf hs fs)(O1:iF hs)(n2:m≠hd)(n3:cl≠hd)(hn:x8 hs v c≠""->E #[x8 hs v c] g)(h:x8 hs v c=""->j7 c=true->∀n x g',v=(n:Nat)->(n,x)∈hs->Fl m hd cl g g'->fV g' m hd cl lc lf (oA hs n c) fs->Q x.d g'):b7 T (k+6) 215 [.ref m,.int v,c.d] g Q E:=by
 let hz:=O1.len;show call_of hT.Ej rfl ?_;delta Hk;exists i7 C.o rfl rfl ?_;exists b76 hT.tc C O1.inc (λhv=>?_) λn x e hp=>?_
 .let e:x8 hs v c="NoCoin":=by unfold x8;rw[aM hv]
  rw[e] at hn;show hn #[]
 let hv:gy (nums hs) v=true:=X6.mpr #[n,ax.mpr #[_,hp,rfl],e];subst e;exists GP hT.tc (λhc=>?_) λhc=>?_
 .let e:x8 hs n c="BadCoin":=by unfold x8;rw[aI (by rw[hv];decide),aM hc]
  rw[e] at hn;show hn #[]
 let e:x8 hs n c="":=by unfold x8;rw[aI (by rw[hv];decide),aI (by rw[hc];decide)]
 exists u1 C.o rfl ?_;exists U3 C.h rfl (by simp[gz];omega) ?_;rw[AF (ax.mpr #[_,hp,rfl])];left;show h e hc n x _ rfl hp ((Ex.fl (Ex.refl g)).set (.inr (.inl rfl)) _) #[c7 C.o (aX n2),get_set C.h,c7 C.c (aX n3)]
def Wc(hT:TE T)(C:fV g m hd cl lc lf hs fs)(O1:iF hs)(inc:fT (nums fs))(hf:-fs<1000)(n2:m≠hd)(n3:cl≠hd)(hn:gy (nums hs) v=false->E #["NoCoin"] g)(h:∀n x g',v=(n:Nat)->(n,x)∈hs->Fl m hd cl g g'->fV g' m hd (-g) lc lf (O5 hs n) (fs.filter (K7 v))->Q x.d g'):b7 T (k+3) 216 [.ref m,.int v] g Q E:=by
 let lm:=i0 C.o;let lh:=i0 C.h;show call_of hT.Ei rfl ?_;delta GR;exists i7 C.o rfl rfl ?_;exists Bc hT.tc C hn λhv=>?_;let#[n,x,rfl,hp]:=Q4 hv;exists u1 C.o rfl ?_;exists bS9 (by rw[Ld];show C.c) (_/hf) (b50 inc) ?_;rw[bI6];let e1:=Ex.snoc g (O.cy (iC (fs.filter (K7 (n:Nat)))));let s1:=b0 (g:=g) (o:=O.cy (iC (fs.filter (K7 (n:Nat)))));let C1:=C.at e1;generalize g++[_]=g1 at *;exists K5 C1.o #[_] #[_] ?_;let e3:(O.ins "Cabinet" (m7 "claims" (.ref (-g)) [("held",.ref hd),("claims",.ref cl),("last_coin",.int (lc:Nat)),("last_fact",.int (lf:Nat))]))=iE hd (-g) (lc:Nat) (lf:Nat):=rfl;rw[e3];let o2:=get_set C1.o (o':=iE hd (-g) (lc:Nat) (lf:Nat));let h2:=c7 C1.h n2 (o':=iE hd (-g) (lc:Nat) (lf:Nat));exists u1 o2 rfl ?_;exists#[yZ h2,?_];exists yp h2 rfl (p8 O1.inc hp) ?_;rw[show delD (gz hs) (kC n)=gz (O5 hs n) from yx hs n];show h n x _ rfl hp (((Ex.fl e1).set (.inl rfl) _).set (.inr (.inl rfl)) _) #[c7 o2 (aX n2),get_set h2,c7 (c7 s1 ()) ()]
def A4(hs:Hs)(v u:Int):Str:=if gy (nums hs) v=false\/gy (nums hs) u=false then "NoCoin" else if v=u then "SameOne" else ""
def b04(hT:TE T)(C:fV g m hd cl lc lf hs fs)(dP:∀n∈nums fs,n<=lf)(hf:-fs<1000)(n2:m≠hd)(n3:cl≠hd)(n4:cl≠m)(hn:A4 hs v u≠""->E #[A4 hs v u] g)(h:A4 hs v u=""->∀g',Fl m hd cl g g'->fV g' m hd cl lc (lf+1:Nat) hs (fs++[(lf+1,v,u)])->Q (.int (lf+1:Nat)) g'):b7 T (k+4) 217 [.ref m,.int v,.int u] g Q E:=by
 show call_of hT.Eh rfl ?_;delta Hd;exists i7 C.o rfl rfl ?_;exists call_of hT.Em rfl ?_;delta R6;let no:(gy (nums hs) v=false\/gy (nums hs) u=false)->E #["NoCoin"] g:=λz=>by
  let e:A4 hs v u="NoCoin":=by unfold A4;rw[aM z]
  rw[e] at hn;show hn #[]
 exists i7 C.o rfl rfl ?_;exists Bc hT.tc C (λz=>no (.inl z)) λh1=>?_;exists i7 C.o rfl rfl ?_;exists Bc hT.tc C (λz=>no (.inr z)) λh2=>?_;let nn:¬(gy (nums hs) v=false\/gy (nums hs) u=false):=by rw[h1,h2];decide
 exists if2 (λz=>?_) (λz=>?_)
 .let e:A4 hs v u="SameOne":=by unfold A4;rw[aI nn,aM z]
  rw[e] at hn;left;show hn #[]
 let e:A4 hs v u="":=by unfold A4;rw[aI nn,aI z]
 show Mw ?_;exists#[m,_,_,_,rfl,C.o,by simp,rfl,?_];show BD ?_;show#[_,C.o,by simp,?_];let o2:=get_set C.o (o':=iE hd cl (lc:Nat) (lf+1:Nat));let c2:=c7 C.c (aX n4) (o':=iE hd cl (lc:Nat) (lf+1:Nat));exists u1 o2 rfl ?_;exists u1 o2 rfl ?_;show U3 c2 rfl (by simp[iC];omega) ?_;rw[OP (λz=>by have:=dP _ z;omega)];left;let o3:=c7 o2 n4 (o':=O.cy (iC (fs++[(lf+1,v,u)])));show u1 o3 rfl ?_;show h e _ (((Ex.fl (Ex.refl g)).set (.inl rfl) _).set (.inr (.inr rfl)) _) #[o3,c7 (c7 C.h n2) n3,get_set c2]
def bB9(hT:TE T)(C:fV g m hd cl lc lf hs fs)(inc:fT (nums fs))(n3:cl≠hd)(n4:cl≠m)(hn:gy (nums fs) v=false->E #["NoFact"] g)(h:∀n x g',v=(n:Nat)->(n,x)∈fs->Fl m hd cl g g'->fV g' m hd cl lc lf hs (O5 fs n)->Q (pD x) g'):b7 T (k+2) 218 [.ref m,.int v] g Q E:=by
 show call_of hT.Eg rfl ?_;delta X2;exists L3 hT.tc.nf ?_;exists u1 C.o rfl ?_;exists K8 (uG (f:=pD) C.c ?_);left;by_cases hv:gy (nums fs) v=true
 .refine eB (by rw[hv];rfl) ?_;let#[n,x,rfl,hp]:=Q4 hv;exists u1 C.o rfl ?_;exists#[yZ C.c,?_];exists yp C.c rfl (p8 (f:=pD) inc hp) ?_;rw[show delD (iC fs) (kC n)=iC (O5 fs n) from yx (f:=pD) fs n];show h n x _ rfl hp ((Ex.fl (Ex.refl g)).set (.inr (.inr rfl)) _) #[c7 C.o n4,c7 C.h n3,get_set C.c]
 .let hv:=bH.mpr hv;show eR (by rw[hv];rfl) ?_;left;show hn hv
end
structure Sd where
 lc:Nat
 lf:Nat
 hs:Hs
 fs:Fs
def mn(hs:Hs)(fs:Fs):Prop:=∀f∈fs,f.2.1≠f.2.2/\(∃n∈nums hs,f.2.1=(n:Nat))/\∃n∈nums hs,f.2.2=(n:Nat)
structure kF(s:Sd):Prop where
 K:iF s.hs
 lt:∀j∈nums s.hs,j<=s.lc
 inc:fT (nums s.fs)
 sX:∀j∈nums s.fs,j<=s.lf
 fl:-s.fs<=s.lf
 inf:mn s.hs s.fs
inductive kG where
 |val (d:D)|lst (l:@&Nat)
abbrev kG.at(lo:Nat)(g:G)(y:D):kG->Prop
 |.val d=>y=d
 |.lst l=>∃r,y=.ref r/\lo<=r/\g[r]?=!.lst (a9 l)
abbrev kG.ok:kG->Prop
 |.val d=>∀g,u5 g 2 d d
 |.lst l=>-l<=1000
def u5.up{x}(h:u5 g n x y):u5 g (n+1) x y:=by
 induction h with
 |bq=>show .bq
 |bl b=>show .bl b
 |int i=>show .int i
 |str x=>show .str x
 |tup hl h hz ih=>show .tup hl ih hz
 |lst ha hb hl h hz ih=>show .lst ha hb hl ih hz
def AV(ms:@&Int)(hz:-ms<=1000):u5 g (n+1) (.tup (ms.map .int)) (.tup (ms.map .int)):=by
 show .tup rfl (λi x y hx hy=>?_) (_/hz);rw[hx] at hy;cases hy;rw[ag,aa] at hx;let#[j,_,rfl]:=hx;show .int _
def AU{c}(h:mq c):u5 g 2 c.d c.d:=by
 let h1:=h.l8;let h2:=h.u8;show .tup rfl (λi x y hx hy=>?_) #[_];rw[hx] at hy;cases hy
 match i,hx with
 |0,hx=>cases hx;show .int _
 |1,hx=>cases hx;show AV _ ()
 |2,hx=>cases hx;show .int _
 |3,hx=>cases hx;show AV _ ()
 |4,hx=>cases hx;show .int _
 |i+5,hx=>simp at hx
section
variable{T:Nat->Option aQ}{d:Nat}{c:b9}
def a76(O1:iF hs)(ha:g[a]?=!(.lst ((d0 hs).map b9.d)))(hb:g[b]?=!(.lst ((d0 hs).map b9.d))):u5 g 3 (.ref a) (.ref b):=by
 show .lst ha hb rfl (λi x y hx hy=>?_) (by have:=O1.len;simp[d0];omega);rw[hx] at hy;cases hy;rw[ag,aa] at hx;let#[c,hc,rfl]:=hx;let#[p,hp,rfl]:=ax.mp (aE hc);show AU (O1.good p hp)
def PH(ha:g[a]?=!.lst (a9 l))(hb:g[b]?=!.lst (a9 l))(hz:-l<=1000):u5 g 1 (.ref a) (.ref b) :=
 ZF ha hb (λx hx=>by let#[i,_,rfl]:=ax.mp hx;show .inl #[_,rfl]) (by simpa[a9] using hz)
def kG.VM{an:kG}(ok:an.ok){l2:Nat}{y2:D}(h:an.at lo g y)(h2:an.at l2 g y2):u5 g 2 y y2:=by
 cases an with
 |val d=>rw[show y=d from h,show y2=d from h2];show ok g
 |lst l =>
  let#[r,rfl,_,e]:=h;let#[r2,rfl,_,e2]:=h2;show(PH e e2 ok).up
def bY3(hT:TE T)(B:ie g q qc qf gv lr hs fs)(O1:iF hs)(dP:∀n∈nums hs,n<=gv)(n2:q≠qc)(n3:qf≠qc)(n4:qf≠q)(hn:E4 hs c≠""->∀g',Ex g g'->Q (.tup [.str (E4 hs c),.bq]) g')(h:E4 hs c=""->∀g',Fl q qc qf g g'->ie g' q qc qf (gv+1) lr (hs++[(gv+1,c)]) fs->Q (.tup [.str "",.int (gv+1:Nat)]) g'):b7 T (k+3) 197 [.ref q,c.d] g Q E:=by
 let hz:=O1.len;show call_of hT.td.Ew rfl ?_;delta IB;exists Qg (d:=-g) hT.td.h8 hT.td.Ag λg1 G1 x=>?_;let e1:=Ex.MP G1;let B1:=B.at e1;left;by_cases hc:j7 c=true
 .refine eB (by rw[hc];rfl) ?_;exists j5 B1.b rfl K0 ?_;show Iw B1.c ?_;left;rw[gz,ao];show if2 (λz=>?_) (λz=>?_)
  .let e:E4 hs c="Full":=by unfold E4;rw[aI (by rw[hc];decide),aM ()]
   rw[e] at hn;left;show hn #[] _ e1
  let e:E4 hs c="":=by unfold E4;rw[aI (by rw[hc];decide),aI ()]
  exists j5 B1.b rfl BN ?_;exists U3 B1.b rfl (by simp[M3]) ?_;let b2:=get_set B1.b (o':=O.cy (M3 qc qf (gv+1) lr));let c2:=c7 B1.c n2 (o':=O.cy (M3 qc qf (gv+1) lr));exists j5 b2 rfl K0 ?_;exists j5 b2 rfl BN ?_;show U3 c2 rfl (by simp[gz];omega) ?_;rw[OQ (λz=>by have:=dP _ z;omega)];let b3:=c7 b2 (aX n2) (o':=O.cy (gz (hs++[(gv+1,c)])));exists j5 b3 rfl BN ?_;left;show h e _ (((Ex.fl e1).set (.inl rfl) _).set (.inr (.inl rfl)) _) #[b3,get_set c2,c7 (c7 B1.f (aX n4)) (aX n3)]
 .let hc:=bH.mpr hc;let e:E4 hs c="BadCoin":=by unfold E4;rw[aM hc]
  rw[e] at hn;show eR (by rw[hc];rfl) ?_;left;show hn #[] _ e1
def drop_eq{f}(h:fs[i]?=!f):fs.drop i=f::fs.drop (i+1):=by
 let#[hi,e]:=ak.mp h;rw[dz hi,e]
abbrev T3(fs:Fs)(v:Int)(i:Nat):Fs:=(fs.take i).filter (K7 v)++fs.drop i
def Xm(fs:Fs)(v:Int)(i:Nat):(T3 fs v i).Sublist fs:=by
 conv=>rhs;rw[<- fL i fs]
 show List.Sublist.append gp (List.Sublist.refl _)
def Xl{f}(h:fs[i]?=!f):f∈T3 fs v i:=bT _ (by rw[drop_eq h];simp)
def Zq{f}(h:fs[i]?=!f)(hk:K7 v f=true):T3 fs v (i+1)=T3 fs v i:=by
 unfold T3;rw[drop_eq h,bg,h];simp[hk]
def Zp{f}(inc:fT (nums fs))(h:fs[i]?=!f)(hk:K7 v f=false):O5 (T3 fs v i) f.1=T3 fs v (i+1):=by
 let#[hi,e]:=ak.mp h;let pw:=cJ.mp (cU.mp inc);unfold T3 O5;rw[drop_eq h,bg,h,cP,dO];simp only[ne_eq,not_true,decide_false,Bool.false_eq_true,if_false,Option.toList_some,List.filter_append,List.filter_cons,hk,List.filter_nil,List.append_nil]
 congr 1
 .refine gw.mpr λp hp=>aG λz=>?_;let#[j,hj,e2]:=eU (ba.mp hp).1;rw[bE] at hj;have:=pw j i () hi ();rw[lA] at e2;rw[e,e2] at this;omega
 .refine gw.mpr λp hp=>aG λz=>?_;let#[j,hj,e2]:=eU hp;rw[mz] at hj;have:=pw i (i+1+j) hi () ();rw[List.getElem_drop] at e2;rw[e,e2] at this;omega
def bY4(hT:TE T)(B:ie g q qc qf gv lr hs fs)(O1:iF hs)(inc:fT (nums fs))(hf:-fs<=50)(n2:q≠qc)(n3:qf≠qc)(n4:qf≠q)(hn:gy (nums hs) v=false->Q (.tup [.str "NoCoin",.bq]) g)(h:∀n x g',v=(n:Nat)->(n,x)∈hs->Fl q qc qf g g'->ie g' q qc qf gv lr (O5 hs n) (fs.filter (K7 v))->Q (.tup [.str "",x.d]) g'):b7 T (k+1) 198 [.ref q,.int v] g Q E:=by
 show call_of hT.Eu rfl ?_;delta IA;exists j5 B.b rfl K0 ?_;exists K8 (uG B.c ?_);left;by_cases hv:gy (nums hs) v=true
 case neg =>
  let hv:=bH.mpr hv;show eR (by rw[hv];rfl) ?_;left;show hn hv
 show eB (by rw[hv];rfl) ?_;let#[n,x,rfl,hp]:=Q4 hv;exists L9 (a8 T _) (iV (a8 T _) ?_);exists j5 B.b rfl V7 ?_;exists Y9 B.f (by simp[iC];omega) ?_;rw[Bf];exists A2 b0 inc (by rw[A5];show hf) ?_;let e1:=(Ex.snoc g (O.lst (a9 (nums fs)))).trans (Ex.snoc _ (O.lst (a9 (nums fs))));let s1:=b0 (g:=g++[O.lst (a9 (nums fs))]) (o:=O.lst (a9 (nums fs)));let l1:-g<(g++[O.lst (a9 (nums fs))]).length:=by simp
 generalize (g++[O.lst (a9 (nums fs))]).length=sr at *;generalize (g++[O.lst (a9 (nums fs))])++[O.lst (a9 (nums fs))]=g1 at *;let lq:=i0 B.f;show#[sr,_,rfl,a7 s1,a9 (nums fs),λi σ g'=>(∃z,σ=[!.ref q,!.int (n:Nat),z])/\Fl q qc qf g g'/\g'[sr]?=!(.lst (a9 (nums fs)))/\ie g' q qc qf gv lr hs (T3 fs (n:Nat) i),λi σ g' p=>m9 (a7 p.2.2.1),#[#[none,rfl],Ex.fl e1,s1,?_],λi y σ g' hy p=>?_,λσ g' p=>?_]
 .rw[show T3 fs (n:Nat) 0=fs by simp[T3]];show B.at e1
 .let#[#[z,rfl],F2,s2,B2]:=p;rw[a9,ag,aa] at hy;let#[j,hj,rfl]:=hy;rw[nums,ag,aa] at hj;let#[#[j',x1,x2],xn,rfl]:=hj;let CQ:=inc.sub (Xm fs (n:Nat) i);let vm:=p8 (f:=pD) CQ (Xl xn);show j8 ?_;exists j5 B2.b rfl V7 ?_;exists j5 B2.f rfl vm ?_;exists uj (X5 (ms:=[x1,x2]) rfl ?_);left;by_cases hk:K7 (n:Nat) (j',x1,x2)=true
  .refine eB (aA λz=>?_) ?_
   .unfold K7 at hk;simp at hk z;omega
   exists#[#[_,rfl],F2,s2,?_];rw[Zq xn hk];show B2
  .let hk:=bH.mpr hk;show eR (aG ?_) ?_
   .unfold K7 at hk;simp at hk ⊢;omega
   exists j5 B2.b rfl V7 ?_;exists#[yZ B2.f,?_];exists yp B2.f rfl vm ?_;rw[show delD (iC (T3 fs (n:Nat) i)) (kC j')=iC (O5 (T3 fs (n:Nat) i) j') from yx (f:=pD) _ _,Zp inc xn hk];show#[#[_,rfl],F2.set (.inr (.inr rfl)) _,c7 s2 (),c7 B2.b n4,c7 B2.c n3,get_set B2.f]
 .let#[#[z,rfl],F2,s2,B2]:=p;rw[show T3 fs (n:Nat) (a9 (nums fs)).length=fs.filter (K7 (n:Nat)) by simp[T3,a9,nums]] at B2;exists j5 B2.b rfl K0 ?_;exists#[yZ B2.c,?_];exists yp B2.c rfl (p8 O1.inc hp) ?_;rw[show delD (gz hs) (kC n)=gz (O5 hs n) from yx hs n];left;show h n x _ rfl hp (F2.set (.inr (.inl rfl)) _) #[c7 B2.b (aX n2),get_set B2.c,c7 B2.f (aX n3)]
def bK3(hT:TE T)(B:ie g q qc qf gv lr hs fs)(dP:∀n∈nums fs,n<=lr)(hf:-fs<1000)(n2:q≠qc)(n3:qf≠qc)(n4:qf≠q)(hn:A4 hs v u≠""->Q (.tup [.str (A4 hs v u),.bq]) g)(h:A4 hs v u=""->∀g',Fl q qc qf g g'->ie g' q qc qf gv (lr+1) hs (fs++[(lr+1,v,u)])->Q (.tup [.str "",.int (lr+1:Nat)]) g'):b7 T (k+1) 199 [.ref q,.int v,.int u] g Q E:=by
 show call_of hT.Et rfl ?_;delta Hw;let no:(gy (nums hs) v=false\/gy (nums hs) u=false)->Q (.tup [.str "NoCoin",.bq]) g:=λz=>by
  let e:A4 hs v u="NoCoin":=by unfold A4;rw[aM z]
  rw[e] at hn;show hn #[]
 exists j5 B.b rfl K0 ?_;show K8 (uG B.c ?_);left;by_cases h1:gy (nums hs) v=true
 case neg =>
  let h1:=bH.mpr h1;show eR (by rw[h1];rfl) ?_;left;show no (.inl h1)
 show eB (by rw[h1];rfl) ?_;exists j5 B.b rfl K0 ?_;show K8 (uG B.c ?_);left;by_cases h2:gy (nums hs) u=true
 case neg =>
  let h2:=bH.mpr h2;show eR (by rw[h2];rfl) ?_;left;show no (.inr h2)
 show eB (by rw[h2];rfl) ?_;let nn:¬(gy (nums hs) v=false\/gy (nums hs) u=false):=by rw[h1,h2];decide
 exists if2 (λz=>?_) (λz=>?_)
 .let e:A4 hs v u="SameOne":=by unfold A4;rw[aI nn,aM z]
  rw[e] at hn;left;show hn #[]
 let e:A4 hs v u="":=by unfold A4;rw[aI nn,aI z]
 exists j5 B.b rfl BO ?_;exists U3 B.b rfl (by simp[M3]) ?_;let b2:=get_set B.b (o':=O.cy (M3 qc qf gv (lr+1)));let f2:=c7 B.f (aX n4) (o':=O.cy (M3 qc qf gv (lr+1)));exists j5 b2 rfl V7 ?_;exists j5 b2 rfl BO ?_;show U3 f2 rfl (by simp[iC];omega) ?_;rw[OP (λz=>by have:=dP _ z;omega)];let b3:=c7 b2 n4 (o':=O.cy (iC (fs++[(lr+1,v,u)])));exists j5 b3 rfl BO ?_;left;show h e _ (((Ex.fl (Ex.refl g)).set (.inl rfl) _).set (.inr (.inr rfl)) _) #[b3,c7 (c7 B.c n2) n3,get_set f2]
end
structure Ad(d m hd cl q qc qf:Nat):Prop where
 h:d<m/\m<hd/\hd<q/\q<qc/\qc<qf/\d<cl/\cl≠m/\cl≠hd/\cl≠q/\cl≠qc/\cl≠qf
structure Wd(g:G)(d m hd cl q qc qf:Nat)(s:Sd):Prop where
 dr:m8 g d
 C:fV g m hd cl s.lc s.lf s.hs s.fs
 B:ie g q qc qf s.lc s.lf s.hs s.fs
 K:kF s
 A:Ad d m hd cl q qc qf
def MB(T:Nat->Option aQ)(k:Nat)(g:G)(m hd cl:Nat)(dd:D)(e:Str)(an:kG)(s':Sd):Prop:=∀(Q:KD) (E:KX),(e≠""->∀g',Ex g g'->E #[e] g') ->
 (e=""->∀g' y ic,Fl m hd cl g g'->(ic=cl\/-g<=ic)->fV g' m hd ic s'.lc s'.lf s'.hs s'.fs->kG.at (-g) g' y an->Q y g')->b7 T (k+10) 205 [.ref m,dd] g Q E
def Vh(T:Nat->Option aQ)(k:Nat)(g:G)(q qc qf:Nat)(dd:D)(e:Str)(an:kG)(s':Sd):Prop:=∀(Q:KD) (E:KX),(e≠""->∀g',Ex g g'->Q (.tup [.str e,.bq]) g') ->
 (e=""->∀g' y,Fl q qc qf g g'->ie g' q qc qf s'.lc s'.lf s'.hs s'.fs->kG.at (-g) g' y an->Q (.tup [.str "",y]) g')->b7 T (k+11) 204 [.ref q,dd] g Q E
inductive Step(T:Nat->Option aQ)(k:Nat)(g:G)(m hd cl q qc qf:Nat)(s:Sd)(Wo:Str->Prop)(dd:D):Prop
 |mk (e:Str) (an:kG) (s':Sd) (ok:an.ok) (K:e=""->kF s') (l:s'.lf<=s.lf+1) (hw:Wo e) (hc:MB T k g m hd cl dd e an s') (hb:∀g1,Fl m hd cl g g1->ie g1 q qc qf s.lc s.lf s.hs s.fs->Vh T k g1 q qc qf dd e an s'):Step T k g m hd cl q qc qf s Wo dd
def Step.any{T}{s}{Wo}(S:Step T k g m hd cl q qc qf s Wo dd):Step T k g m hd cl q qc qf s (λx=>True) dd:=let ⟨e,an,s',a,b,c,_,h1,h2⟩:=S;#[e,an,s',a,b,c,trivial,h1,h2]
def qU(e:Str):Prop:=e="BadCoin"\/e="Full"\/e="NoCoin"\/e=""
def BR(e:Str):Prop:=qU e\/e="SameOne"\/e="NoFact"
def bc0(hs:Hs)(v u:Int):BR (A4 hs v u):=by
 unfold A4;split
 .exact .inl (.inr (.inr (.inl rfl)))
 .split
  .exact .inr (.inl rfl)
  .exact .inl (.inr (.inr (.inr rfl)))
def Yk(hs:Hs)(c:b9):qU (E4 hs c):=by
 unfold E4 qU;split
 .simp
 .split<;>simp
def a57(hs:Hs)(v:Int)(c:b9):qU (x8 hs v c):=by
 unfold x8 qU;split
 .simp
 .split<;>simp
set_option tactic.hygienic true in
def bF2{c}(h:E4 hs c=""):j7 c=true/\-hs≠9:=by
 unfold E4 at h;split at h
 .exact absurd h #[]
 .rename_i c1;split at h
  .exact absurd h #[]
  .rename_i c2;show#[by simpa using c1,c2]
def mn.more{h2:Hs}(h:mn hs fs)(a:∀n∈nums hs,n∈nums h2):mn h2 fs:=λf hf =>
 let ⟨d,⟨n,h1,e1⟩,m,h2,e2⟩:=h f hf
 #[d,#[n,a n h1,e1],m,a m h2,e2]
def mn.out(h:mn hs fs):mn (O5 hs n) (fs.filter (K7 (n:Nat))):=λf hf=>by
 let#[h1,h2]:=ba.mp hf;let#[d,#[a,ha,ea],b,hb,eb]:=h f h1;simp only[K7,Bool.not_eq_true',Bool.or_eq_false_iff,decide_eq_false_iff_not] at h2;let keep:∀x:Nat,x∈nums hs->((x:Nat):Int)≠n->x∈nums (O5 hs n):=λx hx ne=>by
  let#[p,hp,rfl]:=ax.mp hx;show ax.mpr #[p,ba.mpr #[hp,aG λz=>ne (by rw[z])],rfl]
 show#[d,#[a,keep a ha (by rw[<- ea];show h2.1),ea],b,keep b hb (by rw[<- eb];show h2.2),eb]
def kF.put{s}{c}(K:kF s)(hB:CB c)(h:E4 s.hs c=""):kF #[s.lc+1,s.lf,s.hs++[(s.lc+1,c)],s.fs]:=by
 let#[hg,h9]:=bF2 h;let hz:=K.K.len;show#[#[?_,by simp;omega,λp hp=>?_],λj hj=>?_,K.inc,K.sX,K.fl,K.inf.more λn hn=>by unfold nums at hn ⊢;rw[bB];show eI _ hn]
 .unfold nums fT;rw[bB,fZ];show#[K.K.inc,by simp,λx hx y hy=>?_];have:=K.lt x hx;simp at hy;omega
 .rcases bA.mp hp with z|z
  .exact K.K.good p z
  .rw[aU.mp z];show#[hg,hB.1,hB.2]
 .unfold nums at hj;rw[bB] at hj;rcases bA.mp hj with z|z
  .exact gZ (K.lt j z)
  .simp at z;change j<=s.lc+1;omega
def kF.sub{s}(K:kF s){h2}{f2}(a:h2.Sublist s.hs)(b:f2.Sublist s.fs)(i:mn h2 f2):kF #[s.lc,s.lf,h2,f2] :=
 #[#[K.K.inc.sub a,aC a.length_le K.K.len,λp hp=>K.K.good p (a.subset hp)],λj hj=>K.lt j ((a.map _).subset hj),K.inc.sub b,λj hj=>K.sX j ((b.map _).subset hj),aC b.length_le K.fl,i]
def kF.same{s}(K:kF s){h2}(O2:iF h2)(e:nums h2=nums s.hs):kF #[s.lc,s.lf,h2,s.fs]:=#[O2,λj hj=>K.lt j (e▸hj),K.inc,K.sX,K.fl,K.inf.more λn hn=>e▸hn]
set_option tactic.hygienic true in
def kF.tell{s}(K:kF s)(h:A4 s.hs v u=""):kF #[s.lc,s.lf+1,s.hs,s.fs++[(s.lf+1,v,u)]]:=by
 let ht:gy (nums s.hs) v=true/\gy (nums s.hs) u=true/\v≠u:=by
  unfold A4 at h;split at h
  .exact absurd h ∅
  .rename_i hn;split at h
   .exact absurd h ∅
   .rename_i hv;simp only[not_or,Bool.not_eq_false] at hn;show#[hn.1,hn.2,hv]
 show#[K.K,K.lt,?_,λj hj=>?_,by have:=K.fl;simp;omega,λf hf=>?_]
 rotate_right
 .rcases bA.mp hf with z|z
  .exact K.inf f z
  .rw[aU.mp z];show#[ht.2.2,X6.mp ht.1,X6.mp ht.2.1]
 .unfold nums fT;rw[bB,fZ];show#[K.inc,by simp,λx hx y hy=>?_];have:=K.sX x hx;simp at hy;omega
 .unfold nums at hj;rw[bB] at hj;rcases bA.mp hj with z|z
  .exact gZ (K.sX j z)
  .simp at z;change j<=s.lf+1;omega
def uniq{f:α->D}{hs:@&(Nat×α)}(inc:fT (nums hs)){n':Nat}{x x'}(h:(n,x)∈hs)(h':(n',x')∈hs)(e:((n:Nat):Int)=(n':Nat)):n=n'/\f x=f x':=by
 have:n=n':=by omega
 subst this;show#[rfl,aO ((p8 inc h).symm.trans (p8 inc h'))]
def ZG(x:Int×Int):u5 g 2 (pD x) (pD x):=AV [x.1,x.2] #[_]
def bD8(O1:iF hs){c}(hg:mq c):iF (oA hs n c)/\nums (oA hs n c)=nums hs:=by
 let e:nums (oA hs n c)=nums hs:=OK λp=>by split<;>rfl
 show#[#[by rw[e];show O1.inc,by simpa[oA] using O1.len,λp hp=>?_],e];let#[p,h1,rfl]:=ax.mp hp;split
 .exact hg
 .exact O1.good p h1
def Nu(x:Str):(x≠"lower"/\x≠"upper")\/∃w:RW,w≠.eL/\x=w.s:=by
 by_cases h1:x="lower"
 .exact .inr #[.lower,(λz=>by cases z),h1]
 .by_cases h2:x="upper"
  .exact .inr #[.upper,(λz=>by cases z),h2]
  .exact .inl #[h1,h2]
def Xh(O1:iF hs)(h:numsOf hs f v≠[]):1<=v/\v<=99:=by
 have:=Gk.mpr h;unfold Q7 d0 at this;rw[bC] at this;let#[p,hp,rfl]:=ax.mp this;let#[a1,_,a3,_]:=(O1.good p hp).inv;change 1<=R7 f p.2/\R7 f p.2<=99;unfold R7;split
 .exact a1
 .exact a3
section
variable{T:Nat->Option aQ}{d:Nat}{s:Sd}{c:b9}
def Wd.box(W:Wd g d m hd cl q qc qf s){g1}(F:Fl m hd cl g g1):ie g1 q qc qf s.lc s.lf s.hs s.fs:=by
 have:=W.A.h;show#[F.at () W.B.b,F.at () W.B.c,F.at () W.B.f]
def Pa(hT:TE T)(W:Wd g d m hd cl q qc qf s)(hB:CB c):Step T k g m hd cl q qc qf s qU (.tup [.str "put",c.d]):=by
 let ad:=W.A.h;show#[E4 s.hs c,.val (.int (s.lc+1:Nat)),#[s.lc+1,s.lf,s.hs++[(s.lc+1,c)],s.fs],λx=>.int _,W.K.put hB,by simp,Yk _ _,λQ E hn h=>?_,λg1 F B Q E hn h=>?_]
 .refine call_of hT.lJ rfl ?_;delta E6;exists eR #[] ?_;exists i7 W.C.o rfl rfl ?_;left;show Wf hT.tc W.C W.K.K W.K.lt () () () (λz=>hn z _ (Ex.refl g)) λe x x g' F' C'=>h e g' _ cl F' (.inl rfl) C' rfl
 .refine call_of hT.lK rfl ?_;delta qL;exists eR #[] ?_;left;show bY3 hT B W.K.K W.K.lt () () () hn λe g' F' B'=>h e g' _ F' B' rfl
set_option tactic.hygienic true in
def a49(hT:TE T)(W:Wd g d m hd cl q qc qf s)(hB:CB c):Step T k g m hd cl q qc qf s qU (.tup [.str "right",.int v,c.d]):=by
 let ad:=W.A.h;let O1:=W.K.K;let hz:=O1.len;obtain⟨an,s',ok,K',l',key⟩:∃(an:kG) (s':Sd),an.ok/\(x8 s.hs v c=""->kF s')/\s'.lf<=s.lf+1/\∀n x,v=(n:Nat)->(n,x)∈s.hs->an=.val x.d/\s'=#[s.lc,s.lf,oA s.hs n c,s.fs]:=by
  by_cases hv:gy (nums s.hs) v=true
  .let#[n,x,rfl,hp]:=Q4 hv;show#[.val x.d,#[s.lc,s.lf,oA s.hs n c,s.fs],λy=>AU (O1.good _ hp),λz=>?_,by simp,λn' x' e iN=>?_]
   .let hg:j7 c=true:=by
     unfold x8 at z;rw[aI (by rw[hv];decide)] at z;split at z
     .exact absurd z #[]
     .rename_i hc;simpa using hc
    have:=bD8 (n:=n) O1 #[hg,hB.1,hB.2];show W.K.same this.1 this.2
   .let#[rfl,e2]:=uniq (f:=b9.d) O1.inc hp iN e;show#[by rw[e2],rfl]
  .refine#[.val .bq,s,λy=>.bq,λz=>?_,by omega,λn x e hp=>absurd (X6.mpr #[n,ax.mpr #[_,hp,rfl],e]) hv];unfold x8 at z;rw[aM (bH.mpr hv)] at z;show absurd z #[]
 show#[x8 s.hs v c,an,s',ok,K',l',a57 _ _ _,λQ E hn h=>?_,λg1 F B Q E hn h=>?_]
 .refine call_of hT.lJ rfl ?_;delta E6;exists eB #[] ?_;exists eR #[] ?_;exists i7 W.C.o rfl rfl ?_;exists bQ2 hT W.C O1 () () (λz=>hn z _ (Ex.refl g)) λe y n x g' ev hp F' C'=>?_;let#[rfl,rfl]:=key n x ev hp;show h e g' _ cl F' (.inl rfl) C' rfl
 .refine call_of hT.lK rfl ?_;delta qL;exists eB #[] ?_;exists eR #[] ?_;exists j5 B.b rfl K0 ?_;show K8 (uG B.c ?_);left;by_cases hv:gy (nums s.hs) v=true
  case neg =>
   let hv:=bH.mpr hv;let e:x8 s.hs v c="NoCoin":=by unfold x8;rw[aM hv]
   rw[e] at hn;show eR (by rw[hv];rfl) ?_;left;show hn #[] _ (Ex.refl _)
  show eB (by rw[hv];rfl) ?_;let#[n,x,rfl,hp]:=Q4 hv;exists Qg (d:=-g1) hT.td.h8 hT.td.Ag λg2 G2 y=>?_;let e2:=Ex.MP G2;let B2:=B.at e2;left;by_cases hc:j7 c=true
  case neg =>
   let hc:=bH.mpr hc;let e:x8 s.hs n c="BadCoin":=by unfold x8;rw[aI (by rw[hv];decide),aM hc]
   rw[e] at hn;show eR (by rw[hc];rfl) ?_;left;show hn #[] _ e2
  show eB (by rw[hc];rfl) ?_;let e:x8 s.hs n c="":=by unfold x8;rw[aI (by rw[hv];decide),aI (by rw[hc];decide)]
  let#[rfl,rfl]:=key n x rfl hp;exists j5 B2.b rfl K0 ?_;exists j5 B2.c rfl (p8 O1.inc hp) ?_;exists j5 B2.b rfl K0 ?_;exists U3 B2.c rfl (by simp[gz];omega) ?_;rw[AF (ax.mpr #[_,hp,rfl])];left;show h e _ _ ((Ex.fl e2).set (.inr (.inl rfl)) _) #[c7 B2.b (),get_set B2.c,c7 B2.f ()] rfl
def YI(hT:TE T)(W:Wd g d m hd cl q qc qf s)(hf:-s.fs<=50):Step T k g m hd cl q qc qf s qU (.tup [.str "out",.int v]):=by
 let ad:=W.A.h;let O1:=W.K.K;obtain⟨e,an,s',ok,K',l',RK,no,key⟩:∃(e:Str) (an:kG) (s':Sd),an.ok/\(e=""->kF s')/\s'.lf<=s.lf+1/\qU e/\(gy (nums s.hs) v=false->e="NoCoin")/\∀n x,v=(n:Nat)->(n,x)∈s.hs->e=""/\an=.val x.d/\s'=#[s.lc,s.lf,O5 s.hs n,s.fs.filter (K7 v)]:=by
  by_cases hv:gy (nums s.hs) v=true
  .let#[n,x,rfl,hp]:=Q4 hv;show#["",.val x.d,#[s.lc,s.lf,O5 s.hs n,s.fs.filter (K7 (n:Nat))],λy=>AU (O1.good _ hp),λy=>W.K.sub gp gp W.K.inf.out,by simp,.inr (.inr (.inr rfl)),λz=>(by rw[hv] at z;cases z),λn' x' e iN=>?_];let#[rfl,e2]:=uniq (f:=b9.d) O1.inc hp iN e;show#[rfl,by rw[e2],rfl]
  .exact#["NoCoin",.val .bq,s,λy=>.bq,λz=>absurd z #[],by omega,.inr (.inr (.inl rfl)),λy=>rfl,λn x e hp=>absurd (X6.mpr #[n,ax.mpr #[_,hp,rfl],e]) hv]
 show#[e,an,s',ok,K',l',RK,λQ E hn h=>?_,λg1 F B Q E hn h=>?_]
 .refine call_of hT.lJ rfl ?_;delta E6;left
  iterate 2 (show eB #[] ?_;left)
  show eR #[] ?_;exists i7 W.C.o rfl rfl ?_;exists Wc hT W.C O1 W.K.inc () () () (λz=>?_) λn x g' ev hp F' C'=>?_
  .obtain rfl:=no z;show hn #[] _ (Ex.refl g)
  .let#[rfl,rfl,rfl]:=key n x ev hp;show h rfl g' _ (-g) F' (.inr (av _)) C' rfl
 .refine call_of hT.lK rfl ?_;delta qL;left
  iterate 2 (show eB #[] ?_;left)
  show eR #[] ?_;exists bY4 hT B O1 W.K.inc hf () () () (λz=>?_) λn x g' ev hp F' B'=>?_
  .obtain rfl:=no z;show hn #[] _ (Ex.refl g1)
  .let#[rfl,rfl,rfl]:=key n x ev hp;show h rfl g' _ F' B' rfl
def bc4(hT:TE T)(W:Wd g d m hd cl q qc qf s)(hf:-s.fs<=50):Step T k g m hd cl q qc qf s BR (.tup [.str "tell",.int v,.int u]):=by
 let ad:=W.A.h;show#[A4 s.hs v u,.val (.int (s.lf+1:Nat)),#[s.lc,s.lf+1,s.hs,s.fs++[(s.lf+1,v,u)]],λx=>.int _,λh0=>W.K.tell h0,by simp,bc0 _ _ _,λQ E hn h=>?_,λg1 F B Q E hn h=>?_]
 .refine call_of hT.lJ rfl ?_;delta E6;left
  iterate 3 (show eB #[] ?_;left)
  show eR #[] ?_;exists i7 W.C.o rfl rfl ?_;left;show b04 hT W.C W.K.sX () () () () (λz=>hn z _ (Ex.refl g)) λe g' F' C'=>h e g' _ cl F' (.inl rfl) C' rfl
 .refine call_of hT.lK rfl ?_;delta qL;left
  iterate 3 (show eB #[] ?_;left)
  show eR #[] ?_;left;show bK3 hT B W.K.sX () () () () (λz=>hn z _ (Ex.refl g1)) λe g' F' B'=>h e g' _ F' B' rfl
def aW6(hT:TE T)(W:Wd g d m hd cl q qc qf s):Step T k g m hd cl q qc qf s BR (.tup [.str "untell",.int v]):=by
 let ad:=W.A.h;obtain⟨e,an,s',ok,K',l',qu,no,key⟩:∃(e:Str) (an:kG) (s':Sd),an.ok/\(e=""->kF s')/\s'.lf<=s.lf+1/\BR e/\(gy (nums s.fs) v=false->e="NoFact")/\∀n x,v=(n:Nat)->(n,x)∈s.fs->e=""/\an=.val (pD x)/\s'=#[s.lc,s.lf,s.hs,O5 s.fs n]:=by
  by_cases hv:gy (nums s.fs) v=true
  .let#[n,x,rfl,hp]:=Q4 hv;show#["",.val (pD x),#[s.lc,s.lf,s.hs,O5 s.fs n],λy=>ZG x,λy=>W.K.sub (List.Sublist.refl _) gp λf hf=>W.K.inf f (ba.mp hf).1,by simp,.inl (.inr (.inr (.inr rfl))),λz=>(by rw[hv] at z;cases z),λn' x' e iN=>?_];let#[rfl,e2]:=uniq (f:=pD) W.K.inc hp iN e;show#[rfl,by rw[e2],rfl]
  .exact#["NoFact",.val .bq,s,λy=>.bq,λz=>absurd z #[],by omega,.inr (.inr rfl),λy=>rfl,λn x e hp=>absurd (X6.mpr #[n,ax.mpr #[_,hp,rfl],e]) hv]
 show#[e,an,s',ok,K',l',qu,λQ E hn h=>?_,λg1 F B Q E hn h=>?_]
 .refine call_of hT.lJ rfl ?_;delta E6;left
  iterate 4 (show eB #[] ?_;left)
  show eR #[] ?_;exists i7 W.C.o rfl rfl ?_;exists bB9 hT W.C W.K.inc () () (λz=>?_) λn x g' ev hp F' C'=>?_
  .obtain rfl:=no z;show hn #[] _ (Ex.refl g)
  .let#[rfl,rfl,rfl]:=key n x ev hp;show h rfl g' _ cl F' (.inl rfl) C' rfl
 .refine call_of hT.lK rfl ?_;delta qL;left
  iterate 4 (show eB #[] ?_;left)
  show eR #[] ?_;exists j5 B.b rfl V7 ?_;exists K8 (uG (f:=pD) B.f ?_);left;by_cases hv:gy (nums s.fs) v=true
  case neg =>
   let hv:=bH.mpr hv;obtain rfl:=no hv;show eR (by rw[hv];rfl) ?_;left;show hn #[] _ (Ex.refl _)
  show eB (by rw[hv];rfl) ?_;let#[n,x,rfl,hp]:=Q4 hv;let#[rfl,rfl,rfl]:=key n x rfl hp;exists j5 B.b rfl V7 ?_;exists#[yZ B.f,?_];exists yp B.f rfl (p8 (f:=pD) W.K.inc hp) ?_;rw[show delD (iC s.fs) (kC n)=iC (O5 s.fs n) from yx (f:=pD) s.fs n];left;show h rfl _ _ ((Ex.fl (Ex.refl g1)).set (.inr (.inr rfl)) _) #[c7 B.b (),c7 B.c (),get_set B.f] rfl
def bH5(hT:TC T)(ho:PyData.strOk x=true)(h1:x≠"lower")(h2:x≠"upper")(h:E #["BadSide"] g):b7 T (k+2) 219 [.ref m,.str x,.int v,.int u] g Q E:=by
 show call_of hT.xH rfl ?_;delta Q2;left;show N1 hT.jA.2 ho (λz=>z.elim (λz=>absurd z h1) λz=>absurd z h2) λy y=>h
def bC0(hT:TC T)(ho:PyData.strOk x=true)(h1:x≠"lower")(h2:x≠"upper")(h:E #["BadSide"] g):b7 T (k+2) 220 [.ref m,.str x,.int v,.ref a] g Q E:=by
 show call_of hT.xG rfl ?_;delta O8;left;show N1 hT.jA.2 ho (λz=>z.elim (λz=>absurd z h1) λz=>absurd z h2) λy y=>h
def Qz(hT:TE T)(W:Wd g d m hd cl q qc qf s)(h:b7 T (k+9) 219 [.ref m,.str x,.int v,.int u] g Q E):b7 T (k+10) 205 [.ref m,.tup [.str "one",.str x,.int v,.int u]] g Q E:=by
 show call_of hT.lJ rfl ?_;delta E6;left
 iterate 5 (show eB #[] ?_;left)
 show eR #[] ?_;exists i7 W.C.o rfl rfl ?_;left;show h
def QA(hT:TE T)(W:Wd g d m hd cl q qc qf s)(ha:g[a]?=!.lst (ns.map .int))(h:b7 T (k+9) 220 [.ref m,.str x,.int v,.ref (-g)] (g++[.lst (ns.map .int)]) Q E):b7 T (k+10) 205 [.ref m,.tup [.str "two",.str x,.int v,.ref a]] g Q E:=by
 show call_of hT.lJ rfl ?_;delta E6;left
 iterate 6 (show eB #[] ?_;left)
 show i7 W.C.o rfl rfl ?_;exists Iz (a7 ha) ?_;show h
def Qw(hT:TE T)(h:b7 T (k+9) 202 [.ref q,.str x,.int v,.int u] g Q E):b7 T (k+10) 204 [.ref q,.tup [.str "one",.str x,.int v,.int u]] g Q E:=by
 show call_of hT.lK rfl ?_;delta qL;left
 iterate 5 (show eB #[] ?_;left)
 show eR #[] ?_;left;show h
def Qx(hT:TE T)(h:b7 T (k+9) 203 [.ref q,.str x,.int v,.ref a] g Q E):b7 T (k+10) 204 [.ref q,.tup [.str "two",.str x,.int v,.ref a]] g Q E:=by
 show call_of hT.lK rfl ?_;delta qL;left
 iterate 6 (show eB #[] ?_;left)
 show h
def YH(hT:TE T)(W:Wd g d m hd cl q qc qf s)(ho:PyData.strOk x=true):Step T k g m hd cl q qc qf s (λy=>True) (.tup [.str "one",.str x,.int v,.int u]):=by
 let ad:=W.A.h;let O1:=W.K.K;rcases Nu x with⟨x1,x2⟩|⟨w,hw,rfl⟩
 .refine#["BadSide",.val .bq,s,λy=>.bq,λz=>absurd z #[],by omega,trivial,λQ E hn h=>?_,λg1 F B Q E hn h=>?_]
  .exact Qz hT W (bH5 hT.tc ho x1 x2 (hn #[] _ (Ex.refl g)))
  .exact Qw hT (bY6 hT.td ho x1 x2 (hn #[]))
 let K1:E5 s.hs (cA w) v u=""->iF (t8 s.hs (numsOf s.hs (cA w) u) (cA w) v):=λh0=>by
  let hv:=Xh O1 λz=>by
   have:E5 s.hs (cA w) v u="NoDie":=by unfold E5;rw[aM (.inl z)]
   rw[this] at h0;show absurd h0 #[]
  show O1.give hv.1 hv.2
 let nl:(numsOf s.hs (cA w) u).length<=1000:=aC (numsOf_len _ _ _) (by have:=O1.len;omega);show#[E5 s.hs (cA w) v u,.lst (numsOf s.hs (cA w) u),#[s.lc,s.lf,t8 s.hs (numsOf s.hs (cA w) u) (cA w) v,s.fs],nl,λh0=>W.K.same (K1 h0) (L7 _ _ _ _),by simp,trivial,λQ E hn h=>?_,λg1 F B Q E hn h=>?_]
 .exact Qz hT W (bU4 hT.tc hw W.C O1 () () hn λh0 g' r G1 l1 hr C1=>h h0 g' _ cl (G1.fl (.inr (.inl rfl))) (.inl rfl) C1 #[r,rfl,l1,hr])
 .exact Qw hT (WR hT.td hw B O1 () () hn λh0 g' r G1 l1 hr B1=>h h0 g' _ (G1.fl (.inr (.inl rfl))) B1 #[r,rfl,l1,hr])
def YK(hT:TE T)(W:Wd g d m hd cl q qc qf s)(ho:PyData.strOk x=true)(ha:g[a]?=!.lst (ns.map .int))(hl:-ns<=50)(na:a≠m/\a≠hd/\a≠cl/\a≠q/\a≠qc/\a≠qf):Step T k g m hd cl q qc qf s (λy=>True) (.tup [.str "two",.str x,.int v,.ref a]):=by
 let ad:=W.A.h;let O1:=W.K.K;let e0:=Ex.snoc g (O.lst (ns.map D.int));let s0:=b0 (g:=g) (o:=O.lst (ns.map D.int));let lh:=i0 W.C.h;rcases Nu x with⟨x1,x2⟩|⟨w,hw,rfl⟩
 .refine#["BadSide",.val .bq,s,λy=>.bq,λz=>absurd z #[],by omega,trivial,λQ E hn h=>?_,λg1 F B Q E hn h=>?_]
  .exact QA hT W ha (bC0 hT.tc ho x1 x2 (hn #[] _ e0))
  .exact Qx hT (bY5 hT.td ho x1 x2 (hn #[]))
 let#[F,hF]:=bJ6 (Q7 s.hs (cA w));let Uv:=hF.le;let dl:(Q7 s.hs (cA w)).length<=9:=by have:=O1.len;simpa[Q7,d0] using this
 show#[F7 s.hs (cA w) v ns,.val (.int F),#[s.lc,s.lf,t8 s.hs (ns.map Int.toNat) (cA w) F,s.fs],λy=>.int _,λh0=>W.K.same (O1.give hF.pos ()) (L7 _ _ _ _),by simp,trivial,λQ E hn h=>?_,λg1 F1 B Q E hn h=>?_]
 .refine QA hT W ha (bL5 hT.tc hw (W.C.at e0) O1 () () s0 hl () hF (λz g' e'=>hn z g' (e0.trans e')) λh0 g' G1 C1=>?_);show h h0 g' _ cl ((Ex.fl e0).trans (G1.fl (.inr (.inl rfl)))) (.inl rfl) C1 rfl
 .exact Qx hT (WS hT.td hw B O1 () () (F1.at () ha) hl () hF hn λh0 g' G1 B1=>h h0 g' _ (G1.fl (.inr (.inl rfl))) B1 rfl)
end
section
variable{T:Nat->Option aQ}{d:Nat}
def a75(ha:g[a]?=!(.lst (fs.map λf=>.tup [.int (f.1:Nat),.int f.2.1,.int f.2.2])))(hb:g[b]?=!(.lst (fs.map λf=>.tup [.int (f.1:Nat),.int f.2.1,.int f.2.2])))(hz:-fs<=1000):u5 g 2 (.ref a) (.ref b):=by
 show .lst ha hb rfl (λi x y hx hy=>?_) (_/hz);rw[hx] at hy;cases hy;rw[ag,aa] at hx;let#[f,_,rfl]:=hx;show AV [(f.1:Int),f.2.1,f.2.2] #[_]
def Nx(hT:TE T)(C:fV g m hd cl lc lf hs fs)(B:ie g q qc qf gv lr hs fs)(O1:iF hs)(inc:fT (nums fs))(hf:-fs<=50)(h:∀g',Ex g g'->Q (.bl true) g'):b7 T (k+6) 207 [.ref m,.ref q] g Q E:=by
 let hz:=O1.len;let nl:=A5 hs;show call_of hT.Eo rfl ?_;delta GD;exists j5 B.b rfl K0 ?_;exists Y9 B.c (by simp[gz];omega) ?_;rw[T8];exists A2 b0 O1.inc () ?_;let e1:=(Ex.snoc g (O.lst (a9 (nums hs)))).trans (Ex.snoc _ (O.lst (a9 (nums hs))));let s1:=b0 (g:=g++[O.lst (a9 (nums hs))]) (o:=O.lst (a9 (nums hs)));generalize (g++[O.lst (a9 (nums hs))]).length=sr at *;generalize (g++[O.lst (a9 (nums hs))])++[_]=g1 at *;let C1:=C.at e1;let B1:=B.at e1;exists i7 C1.o rfl rfl ?_;exists P8 hT.tc C1 O1.inc () ?_;left;let e2:=Ex.snoc g1 (O.lst (a9 (nums hs)));show L6 hT.h6 hT.h7 1 (PH b0 (e2.at s1) ()) λg3 e3=>?_;let ia:=e2.trans e3;let C3:=C1.at ia;let B3:=B1.at ia;exists i7 C3.o rfl rfl ?_;exists u2 hT.tc C3 O1.inc () λg4 r4 e4 x wW=>?_;exists S7 hT.td (B3.at e4) O1.inc () λg5 r5 e5 x qa=>?_;exists L6 hT.h6 hT.h7 3 (a76 O1 (e5.at wW) qa) λg6 e6=>?_;let pe:=ia.trans (e4.trans (e5.trans e6));let C6:=C1.at pe;let B6:=B1.at pe;let s6:=pe.at s1;exists M9 (α:=Nat×b9) (a8 T _) (rY (a8 T _) (a7 s6) (λQ q=>w_var rfl q) _ ?_);show#[hs,λp=>.int (p.1:Nat),λσ=>∃z1 z2,σ=[!.ref q,!.ref m,z1,z2],λx=>true,λx=>.bl true,λg' e=>m9 (a7 ?_),by omega,#[none,none,rfl],λp σ g' hp e sh=>?_,λg7 e7=>?_]
 .rw[show hs.map (λp=>D.int (p.1:Nat))=a9 (nums hs) by simp[a9,nums]];show e.at s6
 .let#[z1,z2,rfl]:=sh;show j8 (O6 #[rfl,e,jv ?_]);let C7:=C6.at e;let B7:=B6.at e;exists i7 C7.o rfl rfl ?_;exists Xa hT.tc C7 O1.inc hp ?_;exists j5 B7.b rfl K0 ?_;exists j5 B7.c rfl (p8 O1.inc hp) ?_;exists L6 hT.h6 hT.h7 2 (AU (O1.good p hp)) λg8 e8=>?_;show#[rfl,e.trans e8,_,_,rfl]
 rw[Q6];show yU (v:=true) (a7 b0) ?_ ?_
 .rw[show hs.map (λx=>D.bl true)=(hs.map λx=>true).map D.bl by rw[bC];rfl,yN];simp
 let e8:=pe.trans (e7.trans (Ex.snoc g7 (O.lst (hs.map λx=>D.bl true))));generalize g7++[_]=g8 at *;let C8:=C1.at e8;let B8:=B1.at e8;exists i7 C8.o rfl rfl ?_;exists FQ hT.tc C8 inc hf λg9 r9 e9 x Ta=>?_;let B9:=B8.at e9;exists M9 (α:=Nat×Int×Int) (a8 T _) (iV (a8 T _) ?_);exists j5 B9.b rfl V7 ?_;exists Y9 B9.f (by simp[iC];omega) ?_;rw[Bf];exists A2 b0 inc (by rw[A5];show hf) ?_;let rT:=(Ex.snoc g9 (O.lst (a9 (nums fs)))).trans (Ex.snoc _ (O.lst (a9 (nums fs))));show#[_,_,rfl,a7 b0,fs,λp=>.int (p.1:Nat),λσ=>∃z1 z2,σ=[!.ref q,z1,z2],λx=>true,λf=>.tup [.int (f.1:Nat),.int f.2.1,.int f.2.2],λg' e=>m9 (a7 ?_),by omega,#[none,none,rfl],λp σ g' hp e sh=>?_,λmQ kX=>?_]
 .rw[show fs.map (λp=>D.int (p.1:Nat))=a9 (nums fs) by simp[a9,nums]];show e.at b0
 .let#[z1,z2,rfl]:=sh;show j8 (O6 #[rfl,e,jv ?_]);let Rq:=(B9.at rT).at e;exists j5 Rq.b rfl V7 ?_;exists j5 Rq.f rfl (p8 (f:=pD) inc hp) ?_;exists yV #[_] ?_;show#[rfl,e,_,_,rfl]
 rw[Q6];let iD:=(rT.trans kX).trans (Ex.snoc mQ (O.lst (fs.map λf=>.tup [.int (f.1:Nat),.int f.2.1,.int f.2.2])));exists L6 hT.h6 hT.h7 2 (a75 (iD.at Ta) b0 ()) λtZ ia=>?_;show h _ (((e1.trans e8).trans e9).trans (iD.trans ia))
def Xs(h4:T 4=!T1){z}(D0:m8 g d)(h:∀(ns:@&Int) g',(-ns)<=8->m8 g' d->Gr d g g'->Q (.tup (ns.map .int)) g') :
  aY (b7 T (k+1)) (.prim .tuple (.cons (.comp [0,2] 4 (.one 3) (.fo (.lit (.int 8))) (.iu (.eP (.prim (.cmp .In) (.cons (.var 3) (.cons (.var 1) .nil)))) (.eP (.prim (.cmp .Eq) (.cons (.call 4 (.cons (.var 0) (.cons (.lit (.int 9)) .nil))) (.cons (.lit (.int 0)) .nil))))) (.var 3)) .nil)) [!.ref d,z,!.tup (ms.map .int)] g Q E:=by
 exists M6 (a8 T _) (yP (a8 T _) ?_);exists#[by decide,by decide,E1 0 8,λi ys σ g'=>m8 g' d/\Gr d g g'/\(∃ns:@&Int,ys=ns.map .int)/\-ys<=i/\∃z2 z3,σ=[!.ref d,!.tup (ms.map .int),z2,z3],by decide,λi ys σ g' p=>#[L4,p.2.2.2.1],#[D0,Gr.refl _ _,#[[],rfl],by simp,none,none,rfl],λi y ys σ g' hy p=>?_,λys σ g5 p=>?_]
 .let#[D5,G5,#[ns,rfl],hl,z2,z3,rfl]:=p;let#[_,rfl]:=T4 hy;let yes:∀g6,m8 g6 d->Gr d g g6->aY (b7 T (k+1)) (.var 3) [!.ref d,!.tup (ms.map .int),z2,!(.int (0+(i:Int)))] g6 (λy g4=>m8 g4 d/\Gr d g g4/\(∃l:@&Int,ns.map D.int++[y]=l.map .int)/\(ns.map D.int++[y]).length<=i+1/\∃RE RD,[!D.ref d,!.tup (ms.map .int),z2,!(.int (0+(i:Int)))]=[!.ref d,!.tup (ms.map .int),RE,RD]) jD:=λg6 D6 G6=>by
   left;show#[D6,G6,#[ns++[0+(i:Int)],by simp],by simp at hl ⊢;omega,_,_,rfl]
  show j8 ?_;exists uj (X5 rfl ?_);exists if2 (λx=>?_) (λx=>?_)
  .refine jv ?_;show yes g' D5 G5
  exists m5 h4 D5 ∅ ∅ λr g6 x x D6 G6=>?_;exists if2 (λx=>?_) (λx=>?_)
  .exact yes g6 D6 (G5.trans G6)
  .exact#[D6,G5.trans G6,#[ns,rfl],by omega,_,_,rfl]
 let#[D5,G5,#[ns,rfl],hl,z2,z3,rfl]:=p;show b01 (a7 b0) ?_;show h ns _ (by simpa[E1] using hl) ((Ex.snoc _ _).draw D5) (G5.trans ((Ex.snoc _ _).gr d))
def aX2(hT:TE T)(tU:T 206=!AL)(B:ie g q qc qf gv lr hs fs)(O1:iF hs)(D0:m8 g d)(h:∀(c:b9) g',CB c->m8 g' d->Gr d g g'->Q c.d g'):b7 T (k+3) 206 [.ref d,.ref q] g Q E:=by
 let h4:=hT.td.h4;let hz:=O1.len;let dl:=D0.lt;show call_of tU rfl ?_;delta AL;exists S7 hT.td B O1.inc () λg1 r1 e1 l1 lU=>?_;let D1:=e1.draw D0;let G1:=e1.gr d;let lc:(d0 hs).length<=9:=by simpa[d0] using hz
 let any:∀g2,m8 g2 d->Gr d g g2->b7 T (k+2) 22 [.ref d] g2 Q E:=λg2 D2 G2=>aY5 h4 hT.Ef D2 λc g3 hc D3 G3=>h c g3 #[hc.l8,hc.u8] D3 (G2.trans G3);left;rw[ao];show if2 (λx=>?_) (λc0=>?_)
 .refine eR rfl ?_;left;show any g1 D1 G1
 exists m5 h4 D1 ∅ ∅ λr g2 x x D2 G2=>?_;let Rn:=G1.trans G2;exists if2 (λx=>?_) (λx=>?_)
 .left;show any g2 D2 Rn
 let jL:=G2.at () lU;left;rw[ao];show m5 h4 D2 () () λj1 g3 j0 jl D3 G3=>?_;let nR:=G3.at () jL;let#[y,hy,hm]:=G0 (l:=(d0 hs).map b9.d) j0 (_/jl);let#[c1,Ab,rfl]:=ax.mp hm;show u4 (a7 nR) hy ?_;left;rw[ao];show m5 h4 D3 () () λj2 g4 SK SJ D4 G4=>?_;let wW:=G4.at () nR;let#[y,Dc,rF]:=G0 (l:=(d0 hs).map b9.d) SK (_/SJ);let#[c2,qj,rfl]:=ax.mp rF;show u4 (a7 wW) Dc ?_;let G4':=Rn.trans (G3.trans G4);exists M6 (a8 T _) (zP (a8 T _) ?_);exists E7 rfl ?_;exists E7 rfl ?_;exists#[_,rfl,[.tup (c1.lm.map .int),.tup (c2.um.map .int)],λi ys σ g'=>m8 g' d/\Gr d g g'/\(∃L:@&(@&Int),ys=L.map (λl=>.tup (l.map .int))/\-L=i/\∀l∈L,(-l)<=8)/\∃z1 z2,σ=[!.ref d,z1,z2],by simp,λi ys σ g' p=>#[L4,?_],#[D4,G4',#[[],rfl,rfl,λl hl=>by cases hl],none,none,rfl],λi y ys σ g' hy p=>?_,λys σ g5 p=>?_]
 .let#[_,_,#[L,rfl,hl,_],_]:=p;rw[ao];omega
 .let#[D5,G5,#[L,rfl,hl,h8],z1,z2,rfl]:=p;obtain⟨ms,rfl⟩:∃ms:@&Int,y=.tup (ms.map .int):=by
   rcases aJ.mp (aE hy) with z|z
   .exact#[_,z]
   .exact#[_,aU.mp z]
  show j8 (O6 (jv ?_));show Xs h4 D5 λns g6 hn D6 G6=>?_;show#[D6,G5.trans G6,#[L++[ns],by simp,by simp[hl],λl hl=>(bA.mp hl).elim (h8 l) λz=>by rw[aU.mp z];show hn],_,_,rfl]
 let#[D5,G5,#[L,rfl,hl,h8],z1,z2,rfl]:=p;obtain⟨n1,n2,rfl⟩:∃n1 n2,L=[n1,n2]:=by
  match L,hl with
  |[a,b],_=>show#[a,b,rfl]
 let e6:=Ex.snoc g5 (O.lst ([n1,n2].map λl=>D.tup (l.map .int)));let s6:=b0 (g:=g5) (o:=O.lst ([n1,n2].map λl=>D.tup (l.map .int)));let D6:=e6.draw D5;let G6:=G5.trans (e6.gr d);generalize g5++[_]=g6 at *;generalize (-g5)=u6 at *;exists E7 rfl ?_;exists E7 rfl ?_;exists E7 rfl ?_;left;let e7:=Ex.snoc g6 (O.lst [D.int 0,D.int c1.yr,D.int 1410]);let s7:=b0 (g:=g6) (o:=O.lst [D.int 0,D.int c1.yr,D.int 1410]);let l7:-g6≠d:=by have:=G6.len;omega
 show m5 h4 (e7.draw D6) ∅ ∅ λj3 g8 t0 t1 D8 G8=>?_;let#[y,wO,uX]:=G0 (l:=[0,c1.yr,1410]) t0 (_/t1);show u4 (d:=.int y) (a7 (G8.at l7 s7)) ?_ ?_
 .have:j3=0\/j3=1\/j3=2:=by omega
  rcases this with rfl|rfl|rfl<;>cases wO<;>rfl
 left;show h #[c1.lo,n1,c2.up,n2,y] g8 #[h8 n1 #[_],h8 n2 #[_]] D8 (G6.trans ((e7.gr d).trans G8))
def Qe(hT:TE T)(qo:T 232=!AA)(B:ie g q qc qf gv lr hs fs)(O1:iF hs)(D0:m8 g d)(DC:d<q)(h:∀(v:Int) g',m8 g' d->Gr d g g'->Q (.int v) g'):b7 T (k+5) 232 [.ref d,.ref q,.str x] g Q E:=by
 let hz:=O1.len;show call_of qo rfl ?_;delta AA;let rest:aY (b7 T (k+4)) (.call 37 (.cons (.var 0) (.cons (.prim .sset (.cons (.comp [3] 3 (.one 2) (.eQ (.call 196 (.cons (.var 1) .nil))) .no (.prim .ix (.cons (.var 2) (.cons (.var 0) .nil)))) .nil)) .nil))) [!.ref d,!.ref q,!.str x,!.int (fX x)] g Q E:=by
  exists M9 (α:=b9) (a8 T _) (iV (a8 T _) ?_);exists S7 hT.td B O1.inc () λg1 r1 e1 l1 lU=>?_;show#[r1,_,rfl,a7 lU,d0 hs,b9.d,λσ=>∃z1 z2,σ=[!.int (fX x),z1,z2],λy=>true,λc=>.int (R7 (fX x) c),λg' e=>m9 (a7 (e.at lU)),by simp[d0];omega,#[none,none,rfl],λc σ g' hp e sh=>?_,λg2 e2=>?_]
  .let#[z1,z2,rfl]:=sh;show j8 (O6 #[rfl,e,jv ?_]);left;show E7 (yi (Lc x) c) #[rfl,e,_,_,rfl]
  rw[Q6];let e3:=(e1.trans e2).trans (Ex.snoc g2 (O.lst ((d0 hs).map λc=>D.int (R7 (fX x) c))));show bS8 (a7 (by rw[bC];show b0)) (by simp[d0];omega) ?_;left;let e4:=e3.trans (Ex.snoc _ (O.lst ((p9 ((d0 hs).map (R7 (fX x)))).map .int)));let dl:=D0.lt;show Il hT.td b0 (by have:=e3.len;omega) (aC (Z3 _) (by simp[d0];omega)) (e4.draw D0) λv g5 D5 G5=>?_;show h v g5 D5 ((e4.gr d).trans G5)
 exists if2 (λc1=>?_) (λc1=>?_)
 .rw[show fX x=0 from aM c1] at rest;show w_lit rest
 .rw[show fX x=2 from aI c1] at rest;show w_lit rest
def Qy(hT:TD T)(h:Q (.ref (-g)) (g++[.cy (M3 (-g+1) (-g+2) 0 0),.cy [],.cy []])):b7 T (k+1) 195 [] g Q E:=by
 show call_of hT.Ez rfl ?_;delta FD;exists LH ?_;exists#[_,rfl,by simp,by simp,?_];have:((g++[O.cy []]++[O.cy []])++[O.cy []]).set (-g) (.cy [(.inr "coins",.ref (g++[O.cy []]).length),(.inr "facts",.ref ((g++[O.cy []])++[O.cy []]).length),(.inr "given",.int 0),(.inr "learnt",.int 0)])=g++[.cy (M3 (-g+1) (-g+2) 0 0),.cy [],.cy []]:=by
  simp[M3,List.set_append]
 show this▸h
def Ia(hT:TC T)(h:Q .bq (g++[iE (-g+1) (-g+2) 0 0,.cy [],.cy []])):b7 T (k+1) 208 [.ref (-g)] (g++[.ins "Cabinet" []]) Q E:=by
 show call_of hT.En rfl ?_;delta Hc;let s0:=b0 (g:=g) (o:=O.ins "Cabinet" []);exists K5 (Ay s0) #[_] #[_] ?_;rw[show ∀x:D,m7 "held" x []=([("held",x)]:@&(Str×D)) from λw=>rfl];let s1:=get_set (Ay (o':=O.cy []) s0) (o':=O.ins "Cabinet" [("held",.ref (g++[O.ins "Cabinet" []]).length)]);exists K5 (Ay s1) #[_] #[_] ?_;generalize hx:D.ref (((g++[O.ins "Cabinet" []]++[O.cy []]).set (-g) (O.ins "Cabinet" [("held",.ref (g++[O.ins "Cabinet" []]).length)])).length)=x2 at *;let s2:=get_set (Ay (o':=O.cy []) s1) (o':=O.ins "Cabinet" [("held",.ref (g++[O.ins "Cabinet" []]).length),("claims",x2)]);exists K5 s2 #[_] #[_] ?_;let s3:=get_set s2 (o':=O.ins "Cabinet" [("held",.ref (g++[O.ins "Cabinet" []]).length),("claims",x2),("last_coin",.int 0)]);exists K5 s3 #[_] #[_] ?_;rw[show ∀x y z u:D,m7 "last_fact" x [("held",y),("claims",z),("last_coin",u)]=([("held",y),("claims",z),("last_coin",u),("last_fact",x)]:@&(Str×D)) from λw w w w=>rfl];subst hx;show cast (dJ (Q .bq) ?_) h;simp[List.set_append,iE]
end
def FZ:aQ:=#[2,2,(bN (.dZ (bV (.cmp .Eq) (bV (.cmp .Eq) (bw ay (aT 0)) (bY "")) (bV (.cmp .Eq) (bw aN (aT 0)) (bY ""))) (dq 7 (bw ay (aT 1)) (bw aN (aT 1)))))]
def GS:aQ:=#[2,2,(eE (.qP (bN (bV .lst (bY "") (dq 205 ay aN))) [("MintError",(.prim .lst (.cons (.lit (.str "refused")) (.cons (.lit .bq) .nil))))]))]
def yI:aQ:=#[2,7,(dH 2 (bZ .eA (bZ .list (bw aN (bY "coins")))) (dH 3 (dq 4 ay (aT 16)) (dE (.iu (cK .Lt bz (aT 6)) (.dZ (cK .Lt (bZ .len aV) (aT 2)) (cK .Lt bz (aT 12)))) (bN (bV .tup (bY "put") (dq 14 ay (dq 206 ay aN)))) (dE (cK .Lt bz (aT 8)) (bN (.prim .tup (mD (bY "right") (dq 37 ay aV) (dq 14 ay (dq 206 ay aN))))) (dE (cK .Lt bz (aT 9)) (bN (bV .tup (bY "out") (dq 37 ay aV))) (dE (cK .Lt bz (aT 12)) (bN (.prim .tup (mD (bY "tell") (dq 37 ay aV) (dq 37 ay aV)))) (dE (cK .Lt bz (aT 13)) (bN (bV .tup (bY "untell") (dq 37 ay (bZ .eA (bZ .list (bw aN (bY "facts"))))))) (dH 4 (eT 29 ay) (dH 5 (gh 232 ay aN da) (dE (cK .Lt bz (aT 14)) (bN (.prim .tup (sI (bY "one") da dY (gh 232 ay aN da)))) (dH 6 (.comp [0] 3 (.one 2) (.eQ (gh 201 aN da dY)) (cK .Eq (dq 4 ay (aT 2)) (aT 0)) aV) (bN (.prim .tup (sI (bY "two") da dY (bV (.bin .Add) fQ (bV (.bin .Mult) (bZ .lst (dq 37 ay aV)) (bZ .int (bV (.cmp .Eq) (dq 4 ay (aT 6)) (aT 0)))))))))))))))))))]
structure TG(T:Nat->Option aQ):Prop where
 te:TE T
 ED:T 14=!AW
 tU:T 206=!AL
 DW:T 29=!Bt
 qo:T 232=!AA
 EB:T 191=!FZ
 DZ:T 234=!GS
 DY:T 235=!yI
section
variable{T:Nat->Option aQ}{d:Nat}{s:Sd}{c:b9}
def Wd.gr(W:Wd g d m hd cl q qc qf s)(D':m8 g' d)(G':Gr d g g'):Wd g' d m hd cl q qc qf s:=by
 have:=W.A.h;show#[D',#[G'.at () W.C.o,G'.at () W.C.h,G'.at () W.C.c],#[G'.at () W.B.b,G'.at () W.B.c,G'.at () W.B.f],W.K,W.A]
def Wd.at(W:Wd g d m hd cl q qc qf s)(e:Ex g g'):Wd g' d m hd cl q qc qf s:=W.gr (e.draw W.dr) (e.gr d)
def Of(hT:TG T){e1 e2:Str}{y1 y2:D}(hr:g[r]?=!.lst [.str e1,y1])(he:decide (e1="")=decide (e2=""))(hy:u5 g 2 y1 y2)(h:∀g',Ex g g'->Q (.bl true) g'):b7 T (k+5) 191 [.ref r,.tup [.str e2,y2]] g Q E:=by
 show call_of hT.EB rfl ?_;delta FZ;left;rw[he,beq_self_eq_true];left;show L6 hT.te.h6 hT.te.h7 2 hy h
def Mu(hT:TG T){e}{an}{s'}(hc:MB T k g m hd cl dd e an s')(hn:e≠""->∀g',Ex g g'->Q (.ref (-g')) (g'++[.lst [.str "refused",.bq]]))(h:e=""->∀g' y ic,Fl m hd cl g g'->(ic=cl\/-g<=ic)->fV g' m hd ic s'.lc s'.lf s'.hs s'.fs->kG.at (-g) g' y an->Q (.ref (-g')) (g'++[.lst [.str "",y]])):b7 T (k+11) 234 [.ref m,dd] g Q E:=by
 show call_of hT.DZ rfl ?_;delta GS;exists hc _ _ (λz g' e'=>b65 ?_) λz g' y ic F jo C' A'=>Bw #[_] (h z g' y ic F jo C' A');left;show hn z g' e'
end
def C0(cs:@&b9)(r:gn):Bool:= ~~~decide (r.x=r.y)&&(~~~(jg cs r.w r.x).isEmpty&&~~~(jg cs r.w r.y).isEmpty)
def in_words(h:kb true):oP g (.str w.s) (.tup [.str "coin",.str "lower",.str "upper"]) kb:=by
 show#[_,.inr #[_,[.str "coin",.str "lower",.str "upper"],.str w.s,rfl,rfl,rfl,by decide +kernel,by cases w<;>decide +kernel,rfl],?_];have:([PyData.str "coin",PyData.str "lower",PyData.str "upper"].any λq=>PyData.eqv q (.str w.s))=true:=by
  cases w<;>decide +kernel
 rw[this];show h
def ne_nil(ha:g[a]?=!.lst (a9 l))(hb:g[b]?=!.lst [])(h:Q (.bl (~~~l.isEmpty)) g):cI (.cmp .NotEq) [.ref a,.ref b] g Q:=by
 show BJ (Po (ns:=[]) (by rw[<- OG];show a7 ha) (a7 hb) ?_);have:decide ((l.map λ(i:Nat)=>(i:Int))=[])=l.isEmpty:=by cases l<;>simp
 rw[this];show h
structure Bd(g:G)(b:Nat)(cs:@&b9)(v:Int)(rs:@&gn):Prop where
 ex:∃w l d nb,g[b]?=!(.ins "Bounds" [("size",.int (-cs)),("full",.int ((2 ^ (-cs)-1:Nat):Int)),("room",.int v),("worn_by_place",.ref w),("later_by_place",.ref l),("lower_dies",.ref d),("needed_by_place",.ref nb)]) /\
  g[w]?=!.lst (uP cs mw)/\g[l]?=!.lst (uP cs mE)/\g[d]?=!.lst (qG cs)/\oC g nb 0 (-cs) (λ_=>-rs) (vo cs rs)
def Bd.at{g g'}{b}{cs}{v}{rs}(h:Bd g b cs v rs)(e:Ex g g'):Bd g' b cs v rs:=by
 let#[w,l,d,nb,h1,h2,h3,h4,h5]:=h.ex;show#[#[w,l,d,nb,e.at h1,e.at h2,e.at h3,e.at h4,h5.at e]]
def a88(l:List α)(z:α)(q:α->Bool):((List.range (-l)).filter λi=>q (l.getD i z)).length=(l.filter q).length:=by
 let e:l=(List.range (-l)).map λi=>l.getD i z:=by
  show fB λi=>?_;rw[ag];by_cases hi:i< -l
  .rw[dI hi,aj hi];simp[List.getD,hi]
  .rw[bc (),bc (_/hi)]
   rfl
 conv=>rhs;rw[e,ny,ao]
 rfl
def Ow{q:Nat->Bool}{s:Nat}{S:Nat->Bool}(h:∀i,i<n->s.testBit i=S i):((Builtin.bitAnd ((je n q:Nat):Int) (s:Nat)) != 0)=(List.range n).any λi=>S i&&q i:=by
 rw[HY,Nat.and_comm,Av,bp,bO,bO];constructor
 .rintro⟨i,h1,h2⟩;show#[i,h1,by rw[<- h i (bh.mp h1)];show h2]
 .rintro⟨i,h1,h2⟩;show#[i,h1,by rw[h i (bh.mp h1)];show h2]
def XD{s}(h:s<2 ^ n)(hi:i<n):(2 ^ n-1-s).testBit i= ~~~s.testBit i:=by
 grind
def yM(s p i:Nat):(s |||2 ^ p).testBit i=(s.testBit i||decide (i=p)):=by
 rw[Nat.testBit_or,Nat.testBit_two_pow]
 congr 1
 show de.mpr eq_comm
def vG{s}(h:s<2 ^ n)(hp:p<n):s |||2 ^ p<2 ^ n:=Nat.or_lt_two_pow h (Nat.pow_lt_pow_right () hp)
section
variable{T:Nat->Option aQ}{d:Nat}
def aU0(hT:TB0 T){r}(ha:g[a]?=!.lst (cs.map b9.d))(hz:-cs<=1000)(h:∀g',Ex g g'->Q (.bl (C0 cs r)) g'):b7 T (k+4) 88 [.ref a,r.d] g Q E:=by
 show call_of hT.UE rfl ?_;delta Gs;exists N6 rfl ?_;exists K8 (in_words ?_);exists if2 (λh1=>?_) (λh1=>?_)
 .have:C0 cs r=false:=by unfold C0;rw[aG h1];rfl
  rw[<- this];show h _ (Ex.refl _)
 .exists T5 hT.nf hT.jA hT.qm ha hz λg1 b1 e1 z xw=>?_;exists ne_nil ((Ex.snoc _ _).at xw) b0 ?_;left;cases h2:(jg cs r.w r.x).isEmpty with
  |true =>
   show eB rfl ?_;have:C0 cs r=false:=by unfold C0;rw[aA h1,h2];rfl
   rw[<- this];show h _ (e1.trans (Ex.snoc _ _))
  |false =>
   show eR rfl ?_;exists T5 hT.nf hT.jA hT.qm ((e1.trans (Ex.snoc _ _)).at ha) hz λg2 b2 e2 z xu=>?_;exists ne_nil ((Ex.snoc _ _).at xu) b0 ?_;have:C0 cs r= ~~~(jg cs r.w r.y).isEmpty:=by unfold C0;rw[aA h1,h2];rfl
   rw[<- this];show h _ ((e1.trans (Ex.snoc _ _)).trans (e2.trans (Ex.snoc _ _)))
def aG4(hT:TB0 T)(ha:g[a]?=!.lst (cs.map b9.d))(hz:-cs<=1000)(hc:g[c]?=!.lst (O3 rs))(hr:-rs<=900)(h:rs.all (C0 cs)=true->∀g',Ex g g'->Q .bq g')(hn:rs.all (C0 cs)=false->∀g',Ex g g'->False):b7 T (k+5) 89 [.ref a,.ref c] g Q E:=by
 show call_of hT.UD rfl ?_;delta GV;exists L9 (a8 T _) (CU ?_);exists#[c,_,rfl,a7 hc,qw (O3 rs),λi σ g'=>Ex g g'/\(∃z2 z3,σ=[!.ref a,!.ref c,z2,z3])/\(rs.take i).all (C0 cs)=true,λi σ g' q=>BE (a7 (q.1.at hc)),#[Ex.refl _,#[none,none,rfl],rfl],λi x σ g' hx q=>?_,λσ g' q=>?_]
 .let#[e1,#[z2,z3,rfl],q]:=q;let#[dd,hd,rfl]:=Ax hx;rw[O3,ag,aa] at hd;let#[r,oR,rfl]:=hd;let tk:rs.take (i+1)=rs.take i++[r]:=by rw[bg,oR];rfl
  show N6 rfl ?_
  try show wpS _ _ _ _ _ _
  exists aU0 (k:=k) hT (e1.at ha) hz λg2 e2=>?_;left;cases hg:C0 cs r with
  |true =>
   left;show#[e1.trans e2,#[_,_,rfl],by rw[tk,List.all_append,q];simp[hg]]
  |false =>
   exists hn ?_ _ (e1.trans e2);rw[List.all_eq_false];show#[r,aE oR,by rw[hg];decide]
 .let#[e1,#[z2,z3,rfl],q]:=q;rw[X7,O3,ao,bt] at q;show h q _ e1
def aG5(hT:TB0 T)(xE:T 42=!P5)(DV:T 98=!Y8)(ha:g[a]?=!.lst (cs.map b9.d))(hz:-cs<=1000)(hc:g[c]?=!.lst (O3 rs))(hr:-rs<=900)(hm:9< -cs->E #["TooMany"] g)(hb:-cs<=9->cs.all j7=false->E #["BadCoin"] g)(hv:-cs<=9->cs.all j7=true->¬(1<=v/\v<=9)->E #["BadAnvils"] g)(hw:-cs<=9->cs.all j7=true->1<=v/\v<=9->rs.all (C0 cs)=false->∀g',Ex g g'->False)(h:-cs<=9->cs.all j7=true->1<=v/\v<=9->rs.all (C0 cs)=true->∀g',Ex g g'->Q .bq g'):b7 T (k+7) 98 [.ref a,.int v,.ref c] g Q E:=by
 show call_of DV rfl ?_;delta Y8;exists Y0 (k:=k) hT.nf hT.h2 hT.oX hT.qq ha hz hm hb λh9 hg=>?_;exists aC8 (k:=k+3) hT.nf xE (λv1 v2=>?_) (hv h9 hg);left;show aG4 (k:=k+1) hT ha hz hc hr (h h9 hg #[v1,v2]) (hw h9 hg #[v1,v2])
def Rc{f}{x}(fs:@&(Str×D)):(m7 f x fs).length<=-fs+1:=by
 induction fs with
 |nil=>simp[m7]
 |cons y r ih =>
  unfold m7;split<;>simp
  show ih
def yE{f}{x}{fs}(h:-fs+1<n):(m7 f x fs).length<n:=gH (Rc fs) h
def yF{f}{x}{fs}(h:-fs+(m+1)<n):(m7 f x fs).length+m<n:=by
 have:=Rc (f:=f) (x:=x) fs;omega
abbrev f3(n:Nat)(v:Int):@&(Str×D):=[("size",.int n),("full",.int ((2 ^ n-1:Nat):Int)),("room",.int v)]
def vw(n:Nat)(v:Int):(f3 n v).length=3:=rfl
def aH1(hT:TB0 T)(ha:g[a]?=!.lst (cs.map b9.d))(hz:-cs<=9)(hg:cs.all j7=true)(hB:∀c∈cs,CB c)(hc:g[c]?=!.lst (O3 rs))(hr:-rs<=900)(hb:g[b]?=!(.ins "Bounds" []))(h:∀g',(-g)<=-g'->(∀i,i< -g->i≠b->g'[i]?=g[i]?)->Bd g' b cs v rs->Q .bq g'):b7 T (k+9) 113 [.ref b,.ref a,.int v,.ref c] g Q E:=by
 show call_of hT.EI rfl ?_;delta GQ;let wH:b≠a:=λz=>by subst z;rw[ha] at hb;cases hb
 let zK:b≠c:=λz=>by subst z;rw[hc] at hb;cases hb
 exists K5 hb #[_] #[_] ?_;left;let rJ:=c7 (o':=O.ins "Bounds" (m7 "size" (.int (cs.map b9.d).length) [])) ha wH;show uB (a7 rJ) ?_;show FN #[by omega,by simp;omega,by decide] ?_;exists K5 (get_set hb) #[_] (by first|(simp;done)|(show yE ?_;repeat (first|(rw[vw];omega)|(simp;done)|show yF ?_))) ?_;rw[gD];exists K5 (get_set hb) #[_] (by first|(simp;done)|(show yE ?_;repeat (first|(rw[vw];omega)|(simp;done)|show yF ?_))) ?_;rw[gD];let e0:m7 "room" (.int v) (m7 "full" (.int (1*2 ^ Int.toNat ((cs.map b9.d).length:Int)-1)) (m7 "size" (.int (cs.map b9.d).length) []))=(f3 (-cs) v):=by
  have:(1*2 ^ Int.toNat ((cs.map b9.d).length:Int)-1:Int)=((2 ^ (-cs)-1:Nat):Int):=by
   have:=gG (n:=-cs);rw[Int.natCast_sub this];simp
  rw[this,ao]
  rfl
 simp only[e0];let kp:∀(g1:G) (o:O),Ex (g.set b o) g1->(∀i,i< -g->i≠b->g1[i]?=g[i]?)/\-g<=-g1:=λg1 o e=>#[λi hi hn=>by rw[e.old i (_/hi),aH (aX hn)],by have:=e.len;simpa using this]
 generalize ho:O.ins "Bounds" (f3 (-cs) v)=o1;let xw:=get_set (o':=o1) hb;let rJ:=c7 (o':=o1) ha wH;let Ab:=c7 (o':=o1) hc zK;let k1:=kp _ o1 (Ex.refl _);generalize g.set b o1=g1 at *;subst ho;exists bB3 hT rJ hz hB λg2 w e2 hw1 hw=>?_;exists K5 (e2.at xw) #[_] (by rw[vw];omega) ?_;let lw:w≠b:=λz=>by have:=i0 xw;omega
 let DJ:=get_set (o':=O.ins "Bounds" (m7 "worn_by_place" (.ref w) (f3 (-cs) v))) (e2.at xw);let SX:=c7 (o':=O.ins "Bounds" (m7 "worn_by_place" (.ref w) (f3 (-cs) v))) hw lw.symm;let Ks:=c7 (o':=O.ins "Bounds" (m7 "worn_by_place" (.ref w) (f3 (-cs) v))) (e2.at rJ) wH;let Ui:=c7 (o':=O.ins "Bounds" (m7 "worn_by_place" (.ref w) (f3 (-cs) v))) (e2.at Ab) zK;let k3:(∀i,i< -g->i≠b->(g2.set b (O.ins "Bounds" (m7 "worn_by_place" (.ref w) (f3 (-cs) v))))[i]?=g[i]?)/\-g<=(g2.set b (O.ins "Bounds" (m7 "worn_by_place" (.ref w) (f3 (-cs) v)))).length:=#[λi hi hn=>by rw[aH (aX hn),e2.old i ()];show k1.1 i hi hn,by simp;have:=e2.len;omega]
 generalize g2.set b (O.ins "Bounds" (m7 "worn_by_place" (.ref w) (f3 (-cs) v)))=g3 at *;exists ZA hT Ks hz λg4 l e4 Kc hl=>?_;exists K5 (e4.at DJ) #[_] (by first|(simp;done)|(show yE ?_;repeat (first|(rw[vw];omega)|(simp;done)|show yF ?_))) ?_;let ll:l≠b:=λz=>by have:=i0 DJ;omega
 generalize ho:O.ins "Bounds" (m7 "later_by_place" (.ref l) (m7 "worn_by_place" (.ref w) (f3 (-cs) v)))=o5;let DI:=get_set (o':=o5) (e4.at DJ);let SW:=c7 (o':=o5) (e4.at SX) lw.symm;let TH:=c7 (o':=o5) hl ll.symm;let Kr:=c7 (o':=o5) (e4.at Ks) wH;let Uh:=c7 (o':=o5) (e4.at Ui) zK;let k5:(∀i,i< -g->i≠b->(g4.set b o5)[i]?=g[i]?)/\-g<=(g4.set b o5).length:=#[λi hi hn=>by rw[aH (aX hn),e4.old i ()];show k3.1 i hi hn,by simp;have:=e4.len;omega]
 generalize g4.set b o5=g5 at *;subst ho;exists aL7 hT Kr hz hg λg6 dd e6 Ko hd=>?_;exists K5 (e6.at DI) #[_] (by first|(simp;done)|(show yE ?_;repeat (first|(rw[vw];omega)|(simp;done)|show yF ?_))) ?_;let ld:dd≠b:=λz=>by have:=i0 DI;omega
 generalize ho:O.ins "Bounds" (m7 "lower_dies" (.ref dd) (m7 "later_by_place" (.ref l) (m7 "worn_by_place" (.ref w) (f3 (-cs) v))))=o7;let DH:=get_set (o':=o7) (e6.at DI);let SV:=c7 (o':=o7) (e6.at SW) lw.symm;let Tz:=c7 (o':=o7) (e6.at TH) ll.symm;let Uc:=c7 (o':=o7) hd ld.symm;let Up:=c7 (o':=o7) (e6.at Kr) wH;let Ug:=c7 (o':=o7) (e6.at Uh) zK;let k7:(∀i,i< -g->i≠b->(g6.set b o7)[i]?=g[i]?)/\-g<=(g6.set b o7).length:=#[λi hi hn=>by rw[aH (aX hn),e6.old i ()];show k5.1 i hi hn,by simp;have:=e6.len;omega]
 generalize g6.set b o7=g7 at *;subst ho;exists ZK hT Up hz Ug hr λg8 nb e8 hn1 hn=>?_;exists K5 (e8.at DH) #[_] (by first|(simp;done)|(show yE ?_;repeat (first|(rw[vw];omega)|(simp;done)|show yF ?_))) ?_;let lb7:=i0 DH;let ln:nb≠b:=λz=>by omega
 generalize ho:O.ins "Bounds" (m7 "needed_by_place" (.ref nb) (m7 "lower_dies" (.ref dd) (m7 "later_by_place" (.ref l) (m7 "worn_by_place" (.ref w) (f3 (-cs) v)))))=o9;show h _ (by simp;have:=e8.len;omega) (λi hi hn=>by rw[aH (aX hn),e8.old i ()];show k7.1 i hi hn) #[#[w,l,dd,nb,?_,c7 (e8.at SV) lw.symm,c7 (e8.at Tz) ll.symm,c7 (e8.at Uc) ld.symm,?_]]
 .rw[get_set (e8.at DH),<- ho]
  rfl
 .let#[as,q1,q2,q3,q4,q5]:=hn.ex;show#[#[as,c7 q1 ln.symm,q2,q3,λx hx=>#[by omega,(q4 x hx).2],λi x hx=>let ⟨ms,m1,m2⟩:=q5 i x hx;#[ms,c7 m1 (λz=>by have:=(q4 x (aE hx)).1;omega),m2]]]
end
section
variable{T:Nat->Option aQ}{d:Nat}
def aV5(hT:TB T)(ha:g[a]?=!.lst (cs.map b9.d))(hz:-cs<=1000)(hB:∀c∈cs,CB c)(hc:g[c]?=!.lst (O3 rs))(hr:-rs<=900)(hm:9< -cs->E #["TooMany"] g)(hb:-cs<=9->cs.all j7=false->E #["BadCoin"] g)(hv:-cs<=9->cs.all j7=true->¬(1<=v/\v<=9)->E #["BadAnvils"] g)(hw:-cs<=9->cs.all j7=true->1<=v/\v<=9->rs.all (C0 cs)=false->∀g',Ex g g'->False)(h:-cs<=9->cs.all j7=true->1<=v/\v<=9->rs.all (C0 cs)=true->∀g' b,Ex g g'->-g<=b->Bd g' b cs v rs->Q (.ref b) g'):b7 T (k+10) 99 [.ref a,.int v,.ref c] g Q E:=by
 show call_of hT.Uw rfl ?_;delta Gn;exists aG5 (k:=k+2) hT.toTB0 hT.xE hT.DV ha hz hc hr hm hb hv hw λh9 hg hv hR g1 e1=>?_;left;let x1:=Ex.snoc g1 (O.ins "Bounds" []);show aH1 (k:=k) hT (x1.at (e1.at ha)) h9 hg hB (x1.at (e1.at hc)) hr b0 λg2 l2 o2 B2=>?_;show#[rfl,h h9 hg hv hR g2 _ #[by have:=e1.len;simp at l2;omega,λi hi=>?_] e1.len B2];have:=e1.len;rw[o2 i (by simp;omega) (),x1.old i ()];show e1.old i hi
def GO(hT:TB T)(ha:g[a]?=!.lst (cs.map b9.d))(hz:-cs<=9)(hg:cs.all j7=true)(hB:∀c∈cs,CB c)(hv:1<=v/\v<=9)(hc:g[c]?=!.lst (O3 rs))(hr:-rs<=900)(hR:rs.all (C0 cs)=true)(h:∀g' b,Ex g g'->-g<=b->Bd g' b cs v rs->Q (.ref b) g'):b7 T (k+10) 99 [.ref a,.int v,.ref c] g Q E :=
 aV5 hT ha () hB hc hr (λz=>by omega) (λx z=>by rw[hg] at z;cases z) (λx x z=>absurd hv z) (λx x x z=>by rw[hR] at z;cases z) λx x x x=>h
def aG1(hT:TB0 T)(B:Bd g b cs v rs)(hz:-cs<=9){s}(hs:s<2 ^ (-cs))(hp:p< -cs)(h:∀g',Ex g g'->Q (.int (FJ cs s.testBit p:Nat)) g'):b7 T (k+2) 100 [.ref b,.int (s:Nat),.int (p:Nat)] g Q E:=by
 show call_of hT.EK rfl ?_;delta GG;let#[w,l,dd,nb,h1,h2,h3,h4,h5]:=B.ex;exists F6 hT.ql () ?_;exists u1 h1 rfl ?_;left;let e1:((2 ^ (-cs)-1:Nat):Int)-(s:Nat)=((2 ^ (-cs)-1-s:Nat):Int):=by omega
 rw[e1];let xc:(p9 (cs.map b9.lo)).length<=9:=aC (Z3 _) (_/hz);let Ua:(qG cs).length=(p9 (cs.map b9.lo)).length:=by simp[qG]
 show P7 (a8 T _) (λσ=>∃z2 z3,σ=[!(.int ((2 ^ (-cs)-1-s:Nat):Int)),!(.int ((s |||2 ^ p:Nat):Int)),z2,z3]) (λi=>yR cs s.testBit p ((p9 (cs.map b9.lo)).getD i 0)) (λi=>(qG cs).getD i .bq) (λg' e=>m9 (a7 (e.at h4))) () #[none,none,rfl] (λi x σ g' hx e sh=>?_) (λg' e=>?_) (rY (a8 T _) (a7 h4) λQ q=>?_)
 .let#[z2,z3,rfl]:=sh;let JR:=hx;rw[qG,ag,aa] at JR;let#[rV,hd,rfl]:=JR;let eg:(p9 (cs.map b9.lo)).getD i 0=rV:=by simp[List.getD,hd]
  show j8 ?_;exists yT ?_;left;let b1:=Ow (n:=-cs) (q:=meant cs .lower rV) (λi y=>yM s p i);let b2:=Ow (q:=meant cs .lower rV) (λi hi=>XD hs hi);rw[b1,eg];let hu:yR cs s.testBit p rV=(((List.range (-cs)).any λi=>(s.testBit i||decide (i=p))&&meant cs .lower rV i)&&(List.range (-cs)).any λi=>~~~s.testBit i&&meant cs .lower rV i):=rfl;rw[hu];cases (List.range (-cs)).any λi=>(s.testBit i||decide (i=p))&&meant cs .lower rV i with
  |false =>
   show eB rfl ?_;show#[rfl,e,eB rfl #[_,_,rfl]]
  |true =>
   show eR rfl ?_;exists yT ?_;left;rw[b2,sG];show#[rfl,e,?_];cases (List.range (-cs)).any λi=>~~~s.testBit i&&meant cs .lower rV i with
   |false=>show eB rfl #[_,_,rfl]
   |true =>
    show eR rfl ?_;exists#[?_,e,_,_,rfl];simp[List.getD,hx]
 .refine uB (a7 b0) ?_;have:(((List.range (qG cs).length).filter λi=>yR cs s.testBit p ((p9 (cs.map b9.lo)).getD i 0)).map λi=>(qG cs).getD i .bq).length=FJ cs s.testBit p:=by
   rw[ao,Ua,a88 (p9 (cs.map b9.lo)) 0 (yR cs s.testBit p)]
   rfl
  rw[this];show h _ (e.trans (Ex.snoc _ _))
 .left;show u1 h1 rfl q
def Mn{q}(hp:p< -cs):iX (uP cs q) (p:Int)=!(.int ((je (-cs) λj=>q (gU cs j) (gU cs p):Nat):Int)):=D9 (by rw[uP,ag,dI hp];rfl)
def Ox{s}{q}:((Builtin.bitAnd (s:Nat) ((je n q:Nat):Int)) != 0)=(List.range n).any λi=>s.testBit i&&q i:=by rw[HY,Av]
def aL4(hT:TB0 T)(B:Bd g b cs v rs)(hz:-cs<=9)(hr:-rs<=900){s}(hs:s<2 ^ (-cs))(hp:p< -cs)(h:∀g',Ex g g'->Q (Ai (fault cs v rs s.testBit p)) g'):b7 T (k+3) 101 [.ref b,.int (s:Nat),.int (p:Nat)] g Q E:=by
 show call_of hT.EJ rfl ?_;delta GH;let#[w,l,dd,nb,h1,h2,h3,h4,h5]:=B.ex;exists u1 h1 rfl ?_;exists u4 (a7 h2) (Mn hp) ?_;show yT ?_;left;rw[Ox];cases c1:(List.range (-cs)).any λi=>s.testBit i&&mw (gU cs i) (gU cs p) with
 |true =>
  show eR rfl ?_;have:fault cs v rs s.testBit p="wear":=by unfold fault vq;rw[aM c1]
  rw[this] at h;show h _ (Ex.refl _)
 |false =>
 show eB rfl ?_;exists u1 h1 rfl ?_;exists u4 (a7 h3) (Mn hp) ?_;show yT ?_;left;rw[Ox];cases c2:(List.range (-cs)).any λi=>s.testBit i&&mE (gU cs i) (gU cs p) with
 |true =>
  show eR rfl ?_;have:fault cs v rs s.testBit p="year":=by unfold fault vq yX;rw[aI (by rw[c1];decide),aM c2]
  rw[this] at h;show h _ (Ex.refl _)
 |false =>
 show eB rfl ?_;exists aG1 hT B hz hs hp λg2 e2=>?_;exists u1 (e2.at h1) rfl ?_;exists if2 (λc3=>?_) (λc3=>?_)
 .have:fault cs v rs s.testBit p="anvil":=by unfold fault vq yX;rw[aI (by rw[c1];decide),aI (by rw[c2];decide),aM c3]
  rw[this] at h;show h _ e2
 left;let#[as,q1,q2,q3,q4,q5]:=h5.ex;let zU:p< -as:=by omega
 let DK:=aj zU;generalize as[p]=ap at DK;let#[ms,m1,m2,m3]:=q5 p ap DK;show comp_map (a8 T _) (λσ=>∃z1 z2,σ=[!.int (s:Nat),z1,z2]) (λi=>.int ((s &&& ms.getD i 0:Nat):Int)) (λg' e=>m9 (a7 ((e2.trans e).at m1))) (by simp[a9];omega) #[none,none,rfl] (λi x σ g' hx e sh=>?_) (λg' e=>?_) (rY (a8 T _) (a7 (e2.at m1)) λQ q=>?_)
 .let#[z1,z2,rfl]:=sh;rw[a9,ag,aa] at hx;let#[m,hm,rfl]:=hx;show j8 ?_;exists yT ?_;show#[?_,e,_,_,rfl];rw[HY];simp[List.getD,hm]
 .refine b91 (a7 (by rw[bC];show b0)) ?_;let en:(((List.range (a9 ms).length).map λi=>((s &&& ms.getD i 0:Nat):Int)).all λn=>n != 0)=Bu cs rs s.testBit p:=by
   rw[bp,bG];unfold Bu;rw[bG];constructor
   .intro hA r hr;cases Ds:meant cs r.w r.y p with
    |false=>rfl
    |true =>
     let hm:=(m3 (je (-cs) (meant cs r.w r.x))).mpr #[r,hr,Ds,rfl];let#[i,hi]:=cO.mp hm;let Kf:=(ak.mp hi).1;have:=hA ((s &&& je (-cs) (meant cs r.w r.x):Nat):Int) (ax.mpr #[i,bh.mpr (by simpa[a9] using Kf),by simp[List.getD,hi]]);rw[Av] at this;show this
   .intro hA x hx;let#[i,hi,rfl]:=ax.mp hx;let hi:i< -ms:=by simpa[a9] using hi
    let hm:ms.getD i 0∈ms:=by simp[List.getD,hi]
    let#[r,hr,Ds,em]:=(m3 _).mp hm;have:=hA r hr;rw[Ds,Bool.not_true,Bool.false_or] at this;rw[em,Av];show this
  rw[en];left;cases c4:Bu cs rs s.testBit p with
  |true =>
   have:fault cs v rs s.testBit p="":=by unfold fault vq yX;rw[aI (by rw[c1];decide),aI (by rw[c2];decide),aI c3,aM c4]
   rw[this] at h;show h _ (e2.trans (e.trans (Ex.snoc _ _)))
  |false =>
   have:fault cs v rs s.testBit p="rule":=by unfold fault vq yX;rw[aI (by rw[c1];decide),aI (by rw[c2];decide),aI c3,aI (by rw[c4];decide)]
   rw[this] at h;show h _ (e2.trans (e.trans (Ex.snoc _ _)))
 .exists u1 (e2.at h1) rfl ?_;left;show u4 (a7 (e2.at q1)) (D9 (by rw[ag,DK];rfl)) q
end
def AK:aQ:=#[3,3,(bN (.dZ (bV (.cmp .NotEq) (dq 91 aN aV) aN) (bV (.cmp .Is) (gh 101 ay aN aV) (.lit .bq))))]
def Qn:aQ:=#[2,2,(bN (.comp [0,1] 4 (.one 3) (.fo (bZ (.fld "size") ay)) (.eP (gh 115 ay aN bz)) bz))]
def qH(cs:@&b9)(v:Int)(rs:@&gn)(s p:Nat):Bool:= ~~~s.testBit p&&decide (fault cs v rs s.testBit p="")
abbrev v8(cs:@&b9)(v:Int)(rs:@&gn)(s:Nat):@&Nat:=(List.range (-cs)).filter (qH cs v rs s)
def Xy(x:Str):V2 (Ai x)=decide (x=""):=by
 unfold Ai;by_cases h:x=""
 .rw[aM h,aG h];rfl
 .rw[aI h,aA h];rfl
def b35{s}:decide (((s |||2 ^ p:Nat):Int)=(s:Nat))=s.testBit p:=by
 rw[bp,ft];constructor
 .intro h;let h:s |||2 ^ p=s:=by omega
  have:=yM s p p;rw[h] at this;rw[this];simp
 .intro h;have:s |||2 ^ p=s:=Cc λi=>by
   rw[yM];by_cases hi:i=p
   .subst hi;rw[h];rfl
   .rw[aA hi,Bool.or_false]
  rw[this]
structure TF(T:Nat->Option aQ):Prop where
 tX:T 115=!AK
 EH:T 116=!Qn
section
variable{T:Nat->Option aQ}{d:Nat}
def a84(hT:TB0 T)(tX:T 115=!AK)(B:Bd g b cs v rs)(hz:-cs<=9)(hr:-rs<=900){s}(hs:s<2 ^ (-cs))(hp:p< -cs)(h:∀g',Ex g g'->Q (.bl (qH cs v rs s p)) g'):b7 T (k+4) 115 [.ref b,.int (s:Nat),.int (p:Nat)] g Q E:=by
 show call_of tX rfl ?_;delta AK;exists F6 hT.ql () ?_;left;rw[b35];cases hb:s.testBit p with
 |true =>
  show eB rfl ?_;have:qH cs v rs s p=false:=by unfold qH;rw[hb];rfl
  rw[this] at h;show h _ (Ex.refl _)
 |false =>
  show eR rfl ?_;exists aL4 hT B hz hr hs hp λg1 e1=>?_;left;have:qH cs v rs s p=V2 (Ai (fault cs v rs s.testBit p)):=by unfold qH;rw[hb,Xy];rfl
  rw[this] at h;show h _ e1
def Ha(hT:TB0 T)(hF:TF T)(B:Bd g b cs v rs)(hz:-cs<=9)(hr:-rs<=900){s}(hs:s<2 ^ (-cs))(h:∀g' l,Ex g g'->-g<=l->g'[l]?=!(.lst (a9 (v8 cs v rs s)))->Q (.ref l) g'):b7 T (k+5) 116 [.ref b,.int (s:Nat)] g Q E:=by
 show call_of hF.EH rfl ?_;let#[w,l,dd,nb,h1,h2,h3,h4,h5]:=B.ex;show P7 (a8 T _) (λσ=>∃z2 z3,σ=[!.ref b,!.int (s:Nat),z2,z3]) (qH cs v rs s) (λi=>.int (i:Nat)) (λg' e=>L4) (by rw[N8];omega) #[none,none,rfl] (λi d σ g' hx e sh=>?_) (λg' e=>?_) (FA (a8 T _) (by omega:-cs<=1000) λQ q=>?_)
 .let#[z2,z3,rfl]:=sh;let#[hi,rfl]:=T4 hx;rw[gE];show j8 ?_;exists a84 hT hF.tX (B.at e) hz hr hs hi λg2 e2=>?_;exists#[rfl,e.trans e2,?_];cases qH cs v rs s i with
  |true =>
   show eR rfl ?_;left;show#[rfl,e.trans e2,_,_,rfl]
  |false=>show eB rfl #[_,_,rfl]
 .rw[N8];show h _ _ (e.trans (Ex.snoc _ _)) e.len b0
 .left;show u1 h1 rfl q
end
def FG(n:Nat)(F:Nat->@&Nat):Prop:=∀s p,p∈F s->p<n/\s.testBit p=false
abbrev qS(n:Nat)(F:Nat->@&Nat):Nat->Nat->@&(@&Nat)
 |0,s=>if s=2 ^ n-1 then[[]] else[]
 |f+1,s=>if s=2 ^ n-1 then[[]] else(F s).flatMap λp=>(qS n F f (s |||2 ^ p)).map (p::·)
abbrev o8(n:Nat)(F:Nat->@&Nat)(s:Nat):@&(@&Nat):=qS n F (2 ^ n) s
def Bv{s}(h:s.testBit p=false):s<s |||2 ^ p:=by
 let h1:s<=s |||2 ^ p:=Nat.left_le_or
 let h2:s |||2 ^ p≠s:=λe=>by
  have:=yM s p p;rw[e,h] at this;simp at this
 omega
def Q5{β:Type}{l:List α}{f g:α->List β}(h:∀x∈l,f x=g x):l.flatMap f=l.flatMap g:=by
 induction l with
 |nil=>rfl
 |cons a r ih=>rw[fA,fA,h a #[_],ih λx hx=>h x (by simp[hx])]
def Qs{n}{F}(hF:FG n F):∀(f s:Nat),s<2 ^ n->2 ^ n-1-s<=f->qS n F f s=qS n F (f+1) s
 |0,s,hs,hf=>by
  let e:s=2 ^ n-1:=by omega
  simp only[qS];rw[aM e,aM e]
 |f+1,s,hs,hf=>by
  rw[qS,qS];by_cases e:s=2 ^ n-1
  .rw[aM e,aM e]
  .rw[aI e,aI e];show Q5 λp hp=>?_;have:=hF s p hp;rw[Qs hF f (s |||2 ^ p) (vG hs this.1) (by have:=Bv this.2;omega)]
def Z7{F}{s}(h:s=2 ^ n-1):o8 n F s=[[]]:=by
 unfold o8;obtain⟨m,hm⟩:∃m,2 ^ n=m+1:=#[2 ^ n-1,by have:=gG (n:=n);omega]
 rw[hm,qS,aM h]
def yC{F}(hF:FG n F){s}(hs:s<2 ^ n)(h:s≠2 ^ n-1):o8 n F s=(F s).flatMap λp=>(o8 n F (s |||2 ^ p)).map (p::·):=by
 unfold o8;obtain⟨m,hm⟩:∃m,2 ^ n=m+1:=#[2 ^ n-1,by have:=gG (n:=n);omega]
 conv=>lhs;rw[hm,qS,aI h]
 show Q5 λp hp=>?_;have:=hF s p hp;rw[hm,<- Qs hF m (s |||2 ^ p) (vG hs this.1) ()]
def bB4{F}(hF:FG n F){s}(hs:s<2 ^ n)(h:s≠2 ^ n-1):(o8 n F s).length=((F s).map λp=>(o8 n F (s |||2 ^ p)).length).sum:=by
 rw[yC hF hs h,List.length_flatMap];simp[Function.comp_def]
inductive jy(F:Nat->@&Nat):Nat->Prop
 |zero:jy F 0
 |step {s p:Nat} (h:jy F s) (hp:p∈F s):jy F (s |||2 ^ p)
def jy.lt{F}(hF:FG n F){s}(h:jy F s):s<2 ^ n:=by
 induction h with
 |zero=>show jh _
 |step h hp ih=>show vG ih (hF _ _ hp).1
def T9(cs:@&b9)(v:Int)(rs:@&gn):FG (-cs) (v8 cs v rs):=λs p hp=>by
 let#[h1,h2]:=ba.mp hp;unfold qH at h2;rw[bj,Bool.not_eq_true'] at h2;show#[bh.mp h1,h2.1]
def a86{β:Type}{f:α->List β}{l:List α}{x:α}(hx:l[j]?=!x)(m:Nat):(l.flatMap f)[((l.take j).flatMap f).length+m]?=((l.drop j).flatMap f)[m]?/\(l.drop j).flatMap f=f x++(l.drop (j+1)).flatMap f:=by
 let e:l.flatMap f=(l.take j).flatMap f++(l.drop j).flatMap f:=by rw[<- Jh,fL]
 let hj:=(ak.mp hx).1;let ed:l.drop j=x::l.drop (j+1):=by
  rw[dz hj]
  congr 1
  show(ak.mp hx).2
 constructor
 .rw[e,br ()]
  congr 1
  omega
 .rw[ed,fA]
noncomputable abbrev kN(j:Nat):Key:=.inl (j:Int)
def Yl{c}{x}:x6 (putD kvs c x) c=!x:=by
 unfold x6 putD;by_cases h:(kvs.any λkv=>decide (kv.1=c))=true
 .rw[aM h]
  induction kvs with
  |nil=>cases h
  |cons kv r ih =>
   rw[bD,dB];by_cases hk:kv.1=c
   .rw[aM hk];simp[hk]
   .rw[aI hk];simp only[hk,decide_false];show ih ?_;rw[ik,fj] at h;show h.resolve_left (by simp[hk])
 .rw[aI h,List.find?_append];have:kvs.find? (λkv=>decide (kv.1=c))=none:=by
   rw[RB];show λkv hk hc=>h (bO.mpr #[kv,hk,hc])
  rw[this];simp
def Z'{c c'}{x}(hn:c≠c'):x6 (putD kvs c x) c'=x6 kvs c':=by
 unfold x6 putD;by_cases h:(kvs.any λkv=>decide (kv.1=c))=true
 .rw[aM h];clear h
  induction kvs with
  |nil=>rfl
  |cons kv r ih =>
   rw[bD,dB,dB];by_cases hk:kv.1=c
   .rw[aM hk];have:kv.1≠c':=λz=>hn (hk.symm.trans z);simp only[this,decide_false];show ih
   .rw[aI hk];by_cases rG:kv.1=c'
    .simp only[rG,decide_true]
    .simp only[rG,decide_false];show ih
 .rw[aI h,List.find?_append];have:[(c,x)].find? (λkv=>decide (kv.1=c'))=none:=by simp[hn]
  rw[this];simp
def Ym{c}{x}:(putD kvs c x).length<=-kvs+1:=by
 unfold putD;split<;>simp
def b51{i}(h:i≠j):kN i≠kN j:=λz=>h (by have:=dc z;omega)
def P9:aQ:=#[1,5,(dH 1 (.prim (.kL 0) .nil) (dH 2 (.prim .lst .nil) (oh (.one 3) (.fo (bV (.bin .Add) (bZ (.fld "full") ay) (aT 1))) (eE (.ifs (cK .In bz aN) (jn (.dX .append aV (gb bz)) (eE (.gL (.one 4) (.eQ (dq 116 ay bz)) (eE (.expr (.dX .kM aN (gb (dq 91 bz da)))))))) .pass)) (bN aV))))]
def Ii:aQ:=#[1,3,(dH 1 (.prim .nt .nil) (oh (.one 2) (.oO (eT 117 ay)) (eE (.ifs (cK .Eq aV (bZ (.fld "full") ay)) (eE (.df aN aV (aT 1))) (eE (.df aN aV (bZ .sum (.comp [2,1] 4 (.one 3) (.eQ (dq 116 ay aV)) .no (bw aN (dq 91 ay bz)))))))) (bN aN)))]
def AB:aQ:=#[4,7,(dH 4 (dq 116 ay aV) (dH 5 bz (dH 6 (aT 0) (gi (.jW (cK .GtE dY (bw aN (dq 91 aV (bw da fQ)))) (gi (.kh 5 .nN (bw aN (dq 91 aV (bw da fQ)))) (eE (.kh 6 .iadd (aT 1))))) (bN (bV .tup (bw da fQ) dY))))))]
def V9:aQ:=#[3,7,(dH 3 (.prim .lst .nil) (dH 4 (aT 0) (dH 5 aV (gi (.jW (cK .NotEq da (bZ (.fld "full") ay)) (gi (.nC (.many [6,5]) (CG 122 ay aN da dY)) (jn (.dX .append bz (gb fQ)) (eE (.set 4 (dq 91 da fQ)))))) (bN bz)))))]
def S3:aQ:=#[1,2,(dH 1 (eT 121 ay) (dE (cK .Eq (bw aN (aT 0)) (aT 0)) (bN (.lit .bq)) (bN (gh 123 ay aN (aT 0)))))]
def Y7:aQ:=#[3,3,(bN (eT 124 (gh 99 ay aN aV)))]
def yJ:aQ:=#[3,3,(bN (bw (eT 121 (gh 99 ay aN aV)) (aT 0)))]
def yA:∀{l m:@&Nat},l.Nodup->(∀x∈l,x∈m)->-l<=-m
 |[],m,_,_=>cj _
 |x::r,m,nd,h=>by
  rw[dA] at nd;have:=yA (m:=m.erase x) nd.2 λy hy=>(Cd λz=>nd.1 (by simp_all)).mpr (h y (by simp[hy]))
  grind
section
variable{σ:S}
inductive zh(P:eZ)(t:MT)(elt:ME)(Q:KD)(σ:S)(k:IK)(g1:G):Prop
 |mk (l:@&D) (Sh:S->Prop) (w:Nat->D) (hk:∀g',Ex g1 g'->k.Is l g') (hl:-l<=1000) (h0:Sh σ)
   (hs:∀i d σ g',l[i]?=!d->Ex g1 g'->Sh σ->ko t d σ λcE=>aY P elt cE g' (λy g4=>y=w i/\Ex g1 g4/\Sh cE) jD) (hd:∀g',Ex g1 g'->Q (.ref (-g')) (g'++[.lst ((List.range (-l)).map w)])):zh P t elt Q σ k g1
def Zg(hP:j4 P)(h:gR P it σ g (zh P t elt Q (P0 σ d8 n)) E):aY P (.comp d8 n t it .no elt) σ g Q E:=by
 show M6 hP (F5 hP it _ _ _ _ _ _ (λk g1 h=>?_) (λv v z=>z) h);let#[l,Sh,w,hk,hl,h0,hs,hd]:=h;show#[l,λi ys σ g'=>Ex g1 g'/\ys=(List.range i).map w/\Sh σ,hl,λi ys σ g' q=>#[hk _ q.1,by simp_all],#[Ex.refl _,rfl,h0],λi x ys σ g' hx q=>?_,λys σ g' q=>?_]
 .let#[e1,rfl,sh]:=q;show E0 (λcE q=>O6 (jv (c9 hP elt _ _ _ _ _ _ (λy g4 q=>?_) (λv v z=>z) q))) (hs i x σ g' hx e1 sh);let#[rfl,e4,sh]:=q;show#[e4,by rw[ji,bB];rfl,sh]
 .let#[e1,rfl,sh]:=q;show hd g' e1
end
def qz(g:G)(sd n:Nat)(K:@&Nat):Prop:=∃S m,g[sd]?=!.set S m/\m=-K/\K.Nodup/\(∀j∈K,j<2 ^ n)/\∀k:Int,S k=true↔∃j∈K,k=(j:Nat)
def qz.at{g g'}{sd n}{K}(h:qz g sd n K)(e:Ex g g'):qz g' sd n K:=let ⟨S,m,h1,h2⟩:=h;#[S,m,e.at h1,h2]
def qz.size{sd}{K}(h:qz g sd n K):-K<=2 ^ n:=by
 let#[S,m,_,_,nd,lt,_]:=h;have:=yA nd λx hx=>bh.mpr (lt x hx)
 simp_all
structure TW(T:Nat->Option aQ):Prop where
 qt:T 117=!P9
 EG:T 121=!Ii
structure Wy(g:G)(w:Nat)(cs:@&b9)(v:Int)(rs:@&gn):Prop where
 ex:∃kvs,g[w]?=!.cy kvs/\∀s,jy (v8 cs v rs) s->x6 kvs (kN s)=!(.int ((o8 (-cs) (v8 cs v rs) s).length:Nat))
def Wy.at{g g'}{w}{cs}{v}{rs}(h:Wy g w cs v rs)(e:Ex g g'):Wy g' w cs v rs:=let ⟨kvs,h1,h2⟩:=h.ex;#[#[kvs,e.at h1,h2]]
def a67(hl:l.Pairwise (· > ·)){s x}(hi:l[i]?=!s)(hx:x∈l)(h:s<x):x∈l.take i:=by
 let#[j,hj,rfl]:=cS.mp hx;let#[gT,rfl]:=ak.mp hi;let TL:j<i:=by
  rcases fu j i with z|z|z
  .exact z
  .subst z;omega
  .have:=cJ.mp hl i j gT hj z;omega
 show cO.mpr #[j,by rw[cR TL,aj hj]]
def FF(h:n<=9):1<=2 ^ n/\2 ^ n<=512:=#[gG,Cb () h]
section
variable{T:Nat->Option aQ}{d:Nat}
def Qt(hT:TB0 T)(hF:TF T)(qt:T 117=!P9)(B:Bd g b cs v rs)(hz:-cs<=9)(hr:-rs<=900)(h:∀(L:@&Nat) l g',Ex g g'->-g<=l->g'[l]?=!.lst (a9 L)->L.Pairwise (· < ·)->(∀s,s∈L↔jy (v8 cs v rs) s)->-L<=512->Q (.ref l) g'):b7 T (k+6) 117 [.ref b] g Q E:=by
 show call_of qt rfl ?_;let lY:=T9 cs v rs;generalize rK:v8 cs v rs=F at *;let#[w0,l0,dd,nb,f1,f2,f3,f4,f5]:=B.ex;let p2:=FF hz;show bG9 ?_;let s1:qz (g++[O.set (λk=>decide (k=0)) 1]) (-g) (-cs) [0]:=#[_,_,b0,rfl,by simp,by simp;omega,λk=>by simp]
 let e1:=Ex.snoc g (O.set (λk=>decide (k=0)) 1);generalize g++[O.set (λk=>decide (k=0)) 1]=g1 at *;left;let e2:=e1.trans (Ex.snoc g1 (O.lst []));let s2:=s1.at (Ex.snoc g1 (O.lst []));let t2:=b0 (g:=g1) (o:=O.lst []);let l1:-g< -g1:=by let#[_,_,z,_]:=s1;show i0 z
 generalize (-g1)=tl at *;show L9 (a8 T _) (yP (a8 T _) ?_);exists u1 (e2.at f1) rfl ?_;left;let en:((2 ^ (-cs)-1:Nat):Int)+1=((2 ^ (-cs):Nat):Int):=by omega
 rw[en];show#[by omega,by omega,E1 0 (2 ^ (-cs)),λt σ g'=>Ex g g'/\(∃K,qz g' (-g) (-cs) K/\∀j,j∈K↔j=0\/∃s p,s<t/\jy F s/\p∈F s/\j=s |||2 ^ p)/\(∃L,g'[tl]?=!.lst (a9 L)/\L.Pairwise (· < ·)/\(∀s,s∈L↔s<t/\jy F s)/\-L<=t)/\∃z3 z4,σ=[!.ref b,!.ref (-g),!.ref tl,z3,z4],λw w w w=>by show L4,#[e2,#[[0],s2,λj=>by simp],#[[],t2,by simp,by simp,by simp],none,none,rfl],λt x σ g' hx q=>?_,λσ g' q=>?_]
 .let#[e3,#[K,s3,hK],#[L,t3,pw,hL,xC],z3,z4,rfl]:=q;let#[ht,rfl]:=T4 hx;rw[gE];let nU:t∈K↔jy F t:=by
   rw[hK];constructor
   .rintro(rfl|⟨s,p,_,h2,h3,rfl⟩)
    .exact .zero
    .exact .step h2 h3
   .intro h;cases h with
    |zero=>show .inl rfl
    |step h hp=>show .inr #[_,_,Bv (lY _ _ hp).2,h,hp,rfl]
  show j8 ?_;left;let#[S,m,sg,sm,snd,slt,sS]:=id s3;show b84 sg ?_;left;let Kt:S (t:Nat)=true↔jy F t:=by
   rw[sS,<- nU];show#[(by rintro ⟨j,hj,e⟩;rw[show t=j by omega];show hj),λz=>#[t,z,rfl]]
  cases hb:S (t:Nat) with
  |false =>
   let nh:¬jy F t:=λz=>by rw[Kt.mpr z] at hb;cases hb
   show eB rfl ?_;show#[e3,#[K,s3,λj=>(hK j).trans #[?_,?_]],#[L,t3,pw,λs=>(hL s).trans #[λz=>#[by omega,z.2],λz=>#[?_,z.2]],by omega],_,_,rfl]
   .rintro(z|⟨s,p,h1,h2⟩)
    .exact .inl z
    .exact .inr #[s,p,by omega,h2]
   .rintro(z|⟨s,p,h1,h2,h3⟩)
    .exact .inl z
    .refine .inr #[s,p,?_,h2,h3];rcases fz s t with y|y
     .exact y
     .exact absurd (show jy F t by rw[show t=s by omega];show h2) nh
   .rcases fz s t with y|y
    .exact y
    .exact absurd (show jy F t by rw[show t=s by omega];show z.2) nh
  |true =>
   let hR:=Kt.mp hb;show eR rfl ?_;exists yY t3 (by simp[a9];omega) ?_;let RT:tl≠-g:=by omega
   let s4:qz (g'.set tl (.lst (a9 L++[D.int (t:Nat)]))) (-g) (-cs) K:=#[S,m,c7 sg RT,sm,snd,slt,sS]
   let t4:(g'.set tl (.lst (a9 L++[D.int (t:Nat)])))[tl]?=!(.lst (a9 (L++[t]))):=by rw[get_set t3];simp[a9]
   let e4:Ex g (g'.set tl (.lst (a9 L++[D.int (t:Nat)]))):=#[by simp;show e3.len,λi hi=>by rw[aH ()];show e3.old i hi]
   generalize g'.set tl (.lst (a9 L++[D.int (t:Nat)]))=g4 at *;exists L9 (a8 T _) (iV (a8 T _) ?_);exists Ha hT hF (B.at e4) hz hr ht λg5 fl e5 TU h5=>?_;rw[rK] at h5;let l4:=i0 t4;show#[fl,_,rfl,a7 h5,a9 (F t),λj σ g'=>Ex g g'/\g'[fl]?=!(.lst (a9 (F t)))/\g'[tl]?=!(.lst (a9 (L++[t])))/\(∃K',qz g' (-g) (-cs) K'/\∀x,x∈K'↔x∈K\/∃p∈(F t).take j,x=t |||2 ^ p)/\∃z4,σ=[!.ref b,!.ref (-g),!.ref tl,!.int (t:Nat),z4],λj σ g' q=>m9 (a7 q.2.1),#[e4.trans e5,h5,e5.at t4,#[K,s4.at e5,λx=>by simp],z4,rfl],λj x σ g' hx q=>?_,λσ g' q=>?_]
   .let#[e6,h6,t6,#[K',s6,vf],z4,rfl]:=q;rw[a9,ag,aa] at hx;let#[p,hp,rfl]:=hx;let rE:=aE hp;let ng:=(lY _ _ rE)
    let tk:(F t).take (j+1)=(F t).take j++[p]:=by rw[bg,hp];rfl
    let#[S6,m6,zE,Jv,wm,wo,uQ]:=id s6;show j8 ?_;exists#[bI0 zE,?_];exists F6 hT.ql () ?_;let hsz:=s6.size;show bV1 zE () ?_;let dP:=vG ht ng.1;show#[#[by simp;show e6.len,λi hi=>by rw[aH ()];show e6.old i hi],c7 h6 (),c7 t6 (),?_,_,rfl];by_cases nW:S6 ((t |||2 ^ p:Nat):Int)=true
    .refine#[K',#[_,_,get_set zE,by rw[aM nW];show Jv,wm,wo,λk=>?_],λx=>?_]
     .rw[fj,ft];constructor
      .rintro(z|z)
       .exact(uQ k).mp z
       .subst z;show(uQ _).mp nW
      .exact λz=>.inl ((uQ k).mpr z)
     .rw[vf x,tk];simp only[List.mem_append,List.mem_singleton];constructor
      .rintro(z|⟨q,z1,z2⟩)
       .exact .inl z
       .exact .inr #[q,.inl z1,z2]
      .rintro(z|⟨q,z1|z1,z2⟩)
       .exact .inl z
       .exact .inr #[q,z1,z2]
       .subst z1 z2;let#[y,y1,y2]:=(uQ _).mp nW;rw[<- vf,show(t |||2 ^ q)=y by omega];show y1
    .let Dr:(t |||2 ^ p)∉K':=λz=>nW ((uQ _).mpr #[_,z,rfl]);show#[K'++[t |||2 ^ p],#[_,_,get_set zE,by rw[aI nW];simp[Jv],?_,λy hy=>?_,λk=>?_],λx=>?_]
     .rw[cV];show#[wm,by simp,λx hx y hy=>by cases aU.mp hy;show λz=>Dr (z▸hx)]
     .rcases bA.mp hy with z|z
      .exact wo y z
      .cases aU.mp z;show dP
     .rw[fj,ft,uQ];simp only[List.mem_append,List.mem_singleton];constructor
      .rintro(⟨y,y1,y2⟩|z)
       .exact#[y,.inl y1,y2]
       .exact#[_,.inr rfl,z]
      .rintro⟨y,y1|y1,y2⟩
       .exact .inl #[y,y1,y2]
       .subst y1;show .inr y2
     .rw[bA,aU,vf x,tk];simp only[List.mem_append,List.mem_singleton];constructor
      .rintro((z|⟨q,z1,z2⟩)|z)
       .exact .inl z
       .exact .inr #[q,.inl z1,z2]
       .exact .inr #[p,.inr rfl,z]
      .rintro(z|⟨q,z1|z1,z2⟩)
       .exact .inl (.inl z)
       .exact .inl (.inr #[q,z1,z2])
       .subst z1;show .inr z2
   .let#[e6,h6,t6,#[K',s6,vf],z4,rfl]:=q;rw[a9,ao,bt] at vf;show#[e6,#[K',s6,λj=>(vf j).trans ?_],#[L++[t],t6,?_,λs=>?_,by simp;omega],_,_,rfl]
    .rw[hK j];constructor
     .rintro((z|⟨s,p,h1,h2⟩)|⟨p,h1,h2⟩)
      .exact .inl z
      .exact .inr #[s,p,by omega,h2]
      .exact .inr #[t,p,by omega,hR,h1,h2]
     .rintro(z|⟨s,p,h1,h2,h3,h4⟩)
      .exact .inl (.inl z)
      .rcases fz s t with y|y
       .exact .inl (.inr #[s,p,y,h2,h3,h4])
       .have:s=t:=by omega
        subst this;show .inr #[p,h3,h4]
    .rw[fZ];show#[pw,by simp,λx hx y hy=>by cases aU.mp hy;show((hL x).mp hx).1]
    .rw[bA,aU,hL s];constructor
     .rintro(z|z)
      .exact#[by omega,z.2]
      .subst z;show#[by omega,hR]
     .rintro⟨z1,z2⟩;rcases fz s t with y|y
      .exact .inl #[y,z2]
      .exact .inr ()
 .let#[e3,#[K,s3,hK],#[L,t3,pw,hL,xC],z3,z4,rfl]:=q;rw[N8] at hL xC;left;show h L tl g' e3 () t3 pw (λs=>(hL s).trans #[λz=>z.2,λz=>#[z.lt lY,z]]) ()
def Ou(hT:TB0 T)(hF:TF T)(hW:TW T)(B:Bd g b cs v rs)(hz:-cs<=9)(hr:-rs<=900)(h:∀w g',Ex g g'->-g<=w->Wy g' w cs v rs->Q (.ref w) g'):b7 T (k+7) 121 [.ref b] g Q E:=by
 show call_of hW.EG rfl ?_;delta Ii;let lY:=T9 cs v rs;generalize rK:v8 cs v rs=F at *;let#[w0,l0,dd,nb,f1,f2,f3,f4,f5]:=B.ex;let p2:=FF hz;left;let e1:=Ex.snoc g (O.cy []);let w1:=b0 (g:=g) (o:=O.cy []);generalize g++[O.cy []]=g1 at *;show L9 (a8 T _) (SN ?_);exists Qt hT hF hW.qt (B.at e1) hz hr λL l g2 e2 hl h2 pw hL xC=>?_;rw[rK] at hL;let lw:=i0 w1;let Sn:=List.pairwise_reverse.mpr pw;let CS:(a9 L).length=-L:=by simp[a9]
 show#[l,_,rfl,a7 h2,(a9 L).reverse,λi σ g'=>Ex g g'/\g'[l]?=!.lst (a9 L)/\(∃kvs,g'[(-g)]?=!.cy kvs/\-kvs<=i/\∀s∈L.reverse.take i,x6 kvs (kN s)=!(.int ((o8 (-cs) F s).length:Nat)))/\∃z2,σ=[!.ref b,!.ref (-g),z2],λi σ g' q=>bW5 (a7 q.2.1),#[e1.trans e2,h2,#[[],e2.at w1,by simp,by simp],none,rfl],λi x σ g' hx q=>?_,λσ g' q=>?_]
 .let#[e3,h3,#[kvs,w3,hk,xg],z2,rfl]:=q;rw[a9,<- List.map_reverse,ag,aa] at hx;let#[s,hs,rfl]:=hx;let Kf:i< -L:=by have:=(ak.mp hs).1;simpa using this
  let JV:=(hL s).mp (mx.mp (aE hs));let kz:=JV.lt lY;let tk:L.reverse.take (i+1)=L.reverse.take i++[s]:=by rw[bg,hs];rfl
  let fin:∀(N:Ends) g4 z2,Ex g' g4->(∀g5,(Ex g g5/\g5[l]?=!.lst (a9 L)/\(∃kvs,g5[(-g)]?=!.cy kvs/\-kvs<=i+1/\∀s∈L.reverse.take (i+1),x6 kvs (kN s)=!(.int ((o8 (-cs) F s).length:Nat)))/\∃z2,([!.ref b,!.ref (-g),z2]:S)=[!.ref b,!.ref (-g),z2])->N.nx [!.ref b,!.ref (-g),z2] g5)->pv (.ref (-g)) (.int (s:Nat)) (.int ((o8 (-cs) F s).length:Nat)) g4 λg5=>N.nx [!.ref b,!.ref (-g),z2] g5:=λN g4 z2 e4 hN=>by
   show U3 (e4.at w3) rfl () ?_;show hN _ #[#[by simp;show(e3.trans e4).len,λj hj=>by rw[aH ()];show(e3.trans e4).old j hj],c7 (e4.at h3) (),#[_,get_set (e4.at w3),aC Ym (),λs' JX=>?_],z2,rfl];rw[tk] at JX;by_cases Dh:s'=s
   .subst Dh;show Yl
   .refine(Z' (b51 (aX Dh))).trans (xg s' ?_);rcases bA.mp JX with z|z
    .exact z
    .exact absurd (aU.mp z) Dh
  show j8 ?_;exists u1 (e3.at f1) rfl ?_;left;let ed:decide (((s:Nat):Int)=((2 ^ (-cs)-1:Nat):Int))=decide (s=2 ^ (-cs)-1):=de.mpr ();rw[ed];show if2 (λc1=>?_) (λc1=>?_)
  .left;let e1:(1:Int)=((o8 (-cs) F s).length:Nat):=by rw[Z7 c1];rfl
   rw[e1];show fin _ _ _ (Ex.refl _) λg5 z=>#[z.1,z.2.1,z.2.2.1,_,rfl]
  .exists Zg (a8 T _) (iV (a8 T _) ?_);exists Ha hT hF (B.at e3) hz hr kz λg4 fl e4 TU h4=>?_;rw[rK] at h4;show#[fl,_,rfl,a7 h4,a9 (F s),λσ=>∃z2 z3,σ=[!.int (s:Nat),!.ref (-g),z2,z3],λi=>.int ((o8 (-cs) F (s |||2 ^ ((F s).getD i 0))).length:Nat),λg' e=>m9 (a7 (e.at h4)),?_,#[none,none,rfl],λj d σ g5 hx e5 sh=>?_,λg5 e5=>?_]
   .have:(F s).length<=-cs:=by rw[<- rK];show yH
    simp[a9];omega
   .let#[z2,z3,rfl]:=sh;rw[a9,ag,aa] at hx;let#[p,hp,rfl]:=hx;let rE:=aE hp;let ng:=lY _ _ rE;show j8 ?_;exists F6 hT.ql () ?_;let hv:x6 kvs (kN (s |||2 ^ p))=!(.int ((o8 (-cs) F (s |||2 ^ p)).length:Nat)):=by
     show xg _ (a67 Sn hs (mx.mpr ((hL _).mpr (.step JV rE))) (Bv ng.2))
    show j5 ((e4.trans e5).at w3) rfl hv ?_;show#[by simp[List.getD,hp],e5,_,_,rfl]
   .let el:(List.range (a9 (F s)).length).map (λi=>D.int ((o8 (-cs) F (s |||2 ^ ((F s).getD i 0))).length:Nat))=(((F s).map λp=>(o8 (-cs) F (s |||2 ^ p)).length).map λ(n:Nat)=>(n:Int)).map D.int:=by
     show fB λi=>?_;rw[ag,ag,ag,ag];by_cases hi:i<(F s).length
     .rw[dI (by simpa[a9] using hi),aj hi];simp[List.getD,hi]
     .rw[bc (by simpa[a9] using hi),bc ()]
      rfl
    rw[el];show Ly (a7 b0) ?_;let es:(((F s).map λp=>(o8 (-cs) F (s |||2 ^ p)).length).map λ(n:Nat)=>(n:Int)).sum=((o8 (-cs) F s).length:Nat):=by
     rw[bB4 lY kz c1];generalize (F s).map (λp=>(o8 (-cs) F (s |||2 ^ p)).length)=m
     induction m with
     |nil=>rfl
     |cons x r ih=>simp[ih]
    rw[es];left;show fin _ _ _ (e4.trans (e5.trans (Ex.snoc _ _))) λg6 z=>#[z.1,z.2.1,z.2.2.1,_,rfl]
 .let#[e3,h3,#[kvs,w3,hk,xg],z2,rfl]:=q;rw[List.length_reverse,CS,vX #[_]] at xg;exists h _ _ e3 (av _) #[#[kvs,w3,λs hs=>?_]];rw[rK] at hs ⊢;show xg s (mx.mpr ((hL s).mpr hs))
end
structure TN(T:Nat->Option aQ):Prop where
 tW:T 122=!AB
 EF:T 123=!V9
section
variable{T:Nat->Option aQ}{d:Nat}{w:Nat}
def NG(hT:TB T)(hF:TF T)(hW:TW T)(mO:T 126=!yJ)(ha:g[a]?=!.lst (cs.map b9.d))(hz:-cs<=9)(hg:cs.all j7=true)(hB:∀c∈cs,CB c)(hv:1<=v/\v<=9)(hc:g[c]?=!.lst (O3 rs))(hr:-rs<=900)(hR:rs.all (C0 cs)=true)(h:∀g',Ex g g'->Q (.int ((o8 (-cs) (v8 cs v rs) 0).length:Nat)) g'):b7 T (k+11) 126 [.ref a,.int v,.ref c] g Q E:=by
 show call_of mO rfl ?_;delta yJ;exists GO hT ha hz hg hB hv hc hr hR λg1 b e1 x B=>?_;exists Ou hT hF hW B hz hr λw g2 e2 x W=>?_;left;let#[kvs,w1,w2]:=W.ex;show j5 w1 rfl (w2 0 .zero) (h _ (e1.trans e2))
def a50(hT:TB0 T)(hF:TF T)(tW:T 122=!AB)(B:Bd g b cs v rs)(W:Wy g w cs v rs)(hz:-cs<=9)(hr:-rs<=900){s}(hs:jy (v8 cs v rs) s)(fE:s≠2 ^ (-cs)-1)(hm:m<(o8 (-cs) (v8 cs v rs) s).length)(h:∀(p l:Nat) g',Ex g g'->p∈v8 cs v rs s->l<(o8 (-cs) (v8 cs v rs) (s |||2 ^ p)).length->(o8 (-cs) (v8 cs v rs) s)[m]?=((o8 (-cs) (v8 cs v rs) (s |||2 ^ p))[l]?).map (p::·)->Q (.tup [.int (p:Nat),.int (l:Nat)]) g'):b7 T (k+6) 122 [.ref b,.ref w,.int (s:Nat),.int (m:Nat)] g Q E:=by
 show call_of tW rfl ?_;delta AB;let lY:=T9 cs v rs;let kz:=hs.lt lY;let eo:=yC lY kz fE;exists Ha hT hF B hz hr kz λg1 ch e1 x lW=>?_;generalize rK:v8 cs v rs=F at *;let#[kvs,w1,w2]:=W.ex;rw[rK] at w2;left;generalize Kj:(λp=>(o8 (-cs) F (s |||2 ^ p)).map (p::·))=f at *;let xP:∀p,(f p).length=(o8 (-cs) F (s |||2 ^ p)).length:=λp=>by rw[<- Kj];simp
 rw[eo] at hm;let Ss:0<(F s).length:=by
  cases hl:F s with
  |nil=>rw[hl] at hm;simp at hm
  |cons _ _=>simp
 show Ip (λmm σ g'=>Ex g1 g'/\∃j lf:Nat,σ=[!.ref b,!.ref w,!.int (s:Nat),!.int (m:Nat),!.ref ch,!.int (lf:Nat),!.int (j:Nat)]/\j<(F s).length/\mm=(F s).length-j/\m=(((F s).take j).flatMap f).length+lf/\lf<(((F s).drop j).flatMap f).length) _ #[Ex.refl _,0,m,rfl,Ss,rfl,by simp,by simpa using hm] (λmm σ g' q=>?_) (a8 T _);let#[e2,j,lf,rfl,hj,rfl,nT,tK]:=q;let hx:=aj hj;generalize (F s)[j]=p at hx;let rE:=aE hx;let ng:=lY _ _ rE;let hv:x6 kvs (kN (s |||2 ^ p))=!(.int ((f p).length:Nat)):=by rw[xP];show w2 _ (.step hs rE)
 let Gh:iX (a9 (F s)) (j:Int)=!.int (p:Nat):=D9 (by rw[a9,ag,hx];rfl);let sp:=a86 (f:=f) hx lf;let iD:=e1.trans e2;exists u4 (a7 (e2.at lW)) Gh ?_;exists F6 hT.ql () ?_;show j5 (iD.at w1) rfl hv ?_;left;by_cases hc:(f p).length<=lf
 .refine eR (aG ()) ?_;show HL rfl ?_;exists u4 (a7 (e2.at lW)) Gh ?_;exists F6 hT.ql () ?_;show j5 (iD.at w1) rfl hv ?_;show bW6 ?_;exists HL rfl ?_;exists BD ?_;let tk:(F s).take (j+1)=(F s).take j++[p]:=by rw[bg,hx];rfl
  rw[sp.2,cq] at tK;let TM:j+1<(F s).length:=by
   rcases fz (j+1) (F s).length with z|z
   .exact z
   .rw[wa z] at tK;simp at tK;omega
  show#[_,?_,e2,j+1,lf-(f p).length,?_,TM,rfl,?_,by omega]
  .omega
  .let e1:((lf:Nat):Int)-((f p).length:Nat)=((lf-(f p).length:Nat):Int):=by omega
   let e2:((j:Nat):Int)+1=((j+1:Nat):Int):=by omega
   rw[e1,e2]
   rfl
  .rw[tk,Jh,cq,fA,List.flatMap_nil,fh];omega
 .refine eB (aA ()) ?_;exists u4 (a7 (e2.at lW)) Gh ?_;exists h p lf g' iD rE (by rw[xP] at hc;omega) ?_;rw[eo,nT,sp.1,sp.2,aF (),<- Kj];simp
def aX1(hT:TB0 T)(hF:TF T)(hN:TN T)(B:Bd g b cs v rs)(W:Wy g w cs v rs)(hz:-cs<=9)(hr:-rs<=900){o}(hm:(o8 (-cs) (v8 cs v rs) 0)[m]?=!o)(h:∀l g',Ex g g'->-g<=l->g'[l]?=!.lst (a9 o)->Q (.ref l) g'):b7 T (k+7) 123 [.ref b,.ref w,.int (m:Nat)] g Q E:=by
 show call_of hN.EF rfl ?_;delta V9;let lY:=T9 cs v rs;let#[w0,l0,dd,nb,f1,f2,f3,f4,f5]:=B.ex;let p2:=FF hz;left;let e1:=Ex.snoc g (O.lst []);let h1:=b0 (g:=g) (o:=O.lst []);show Ip (λmm σ g'=>Ex g g'/\∃(s lf:Nat) (p:@&Nat) (z6:Option D),σ=[!.ref b,!.ref w,!.int (m:Nat),!.ref (-g),!.int (s:Nat),!.int (lf:Nat),z6]/\mm=2 ^ (-cs)-s/\jy (v8 cs v rs) s/\lf<(o8 (-cs) (v8 cs v rs) s).length/\some o=((o8 (-cs) (v8 cs v rs) s)[lf]?).map (p++·)/\g'[(-g)]?=!.lst (a9 p)/\-p<=s) _ #[e1,0,m,[],none,rfl,rfl,.zero,(ak.mp hm).1,by rw[hm];rfl,h1,by simp] (λmm σ g' q=>?_) (a8 T _);let#[e2,s,lf,p,z6,rfl,rfl,hs,tK,ho,hp,gK]:=q;let kz:=hs.lt lY;exists u1 (e2.at f1) rfl ?_;left;let ed:decide (((s:Nat):Int)=((2 ^ (-cs)-1:Nat):Int))=decide (s=2 ^ (-cs)-1):=de.mpr ();rw[ed];by_cases fE:s=2 ^ (-cs)-1
 .refine eB (by rw[aG fE];rfl) ?_;left;rw[Z7 fE] at tK ho;have:lf=0:=by simp at tK;omega
  subst this;have:o=p:=by simpa using ho
  subst this;show h _ _ e2 (av _) hp
 .refine eR (by rw[aA fE];rfl) ?_;exists a50 hT hF hN.tW (B.at e2) (W.at e2) hz hr hs fE tK λq l g3 e3 hq hl Tf=>?_;show N6 rfl ?_;let JY:=lY _ _ hq;let Ka:=e3.at hp;exists yY Ka (by simp[a9];omega) ?_;exists F6 hT.ql () ?_;let hgt:=Bv JY.2;let KQ:=e2.trans e3;show#[_,?_,#[by simp;show KQ.len,λi hi=>by rw[aH ()];show KQ.old i hi],s |||2 ^ q,l,p++[q],_,rfl,rfl,.step hs hq,hl,?_,?_,by simp;omega]
  .omega
  .rw[ho,Tf];simp[Option.map_map,Function.comp_def]
  .rw[get_set Ka];simp[a9]
def aF8(hT:TB0 T)(hF:TF T)(hW:TW T)(hN:TN T)(mP:T 124=!S3)(B:Bd g b cs v rs)(hz:-cs<=9)(hr:-rs<=900)(h1:o8 (-cs) (v8 cs v rs) 0=[]->∀g',Ex g g'->Q .bq g')(h2:∀o l g',(o8 (-cs) (v8 cs v rs) 0)[0]?=!o->Ex g g'->-g<=l->g'[l]?=!.lst (a9 o)->Q (.ref l) g'):b7 T (k+8) 124 [.ref b] g Q E:=by
 show call_of mP rfl ?_;delta S3;exists Ou hT hF hW B hz hr λw g1 e1 hw W=>?_;left;let#[kvs,w1,w2]:=W.ex;show j5 w1 rfl (w2 0 .zero) ?_;left;cases ho:o8 (-cs) (v8 cs v rs) 0 with
 |nil =>
  show eR #[_] ?_;show h1 ho _ e1
 |cons o r =>
  show eB (by simp;omega) ?_;left;show aX1 hT hF hN (B.at e1) W hz hr (by rw[ho];rfl) λl g2 e2 hl h=>h2 o l g2 (by rw[ho];rfl) (e1.trans e2) (aC e1.len hl) h
def NY(hT:TB T)(hF:TF T)(hW:TW T)(hN:TN T)(mP:T 124=!S3)(qr:T 125=!Y7)(ha:g[a]?=!.lst (cs.map b9.d))(hz:-cs<=9)(hg:cs.all j7=true)(hB:∀c∈cs,CB c)(hv:1<=v/\v<=9)(hc:g[c]?=!.lst (O3 rs))(hr:-rs<=900)(hR:rs.all (C0 cs)=true)(h1:o8 (-cs) (v8 cs v rs) 0=[]->∀g',Ex g g'->Q .bq g')(h2:∀o l g',(o8 (-cs) (v8 cs v rs) 0)[0]?=!o->Ex g g'->-g<=l->g'[l]?=!.lst (a9 o)->Q (.ref l) g'):b7 T (k+11) 125 [.ref a,.int v,.ref c] g Q E:=by
 show call_of qr rfl ?_;delta Y7;exists GO hT ha hz hg hB hv hc hr hR λg1 b e1 x B=>?_;show aF8 hT hF hW hN mP B hz hr (λho g2 e2=>h1 ho g2 (e1.trans e2)) λo l g2 ho e2 hl h=>h2 o l g2 ho (e1.trans e2) (aC e1.len hl) h
end
def E2:aQ:=#[1,2,(dH 1 (bZ .mS (.bJ "numbers" [("Cabinet",221)] ay .nil)) (bN (.comp [1] 5 (.many [2,3,4]) (.eQ (.bJ "facts" [("Cabinet",224)] ay .nil)) .no (.prim .tup (mD (bY "coin") (bw ay bz) (bw ay da))))))]
def U7:aQ:=#[2,2,(bN (gh 126 (.bJ "coins" [("Cabinet",223)] ay .nil) aN (.bJ "fact_rules" [("Cabinet",213)] ay .nil)))]
def AX:aQ:=#[1,2,(dH 1 (bZ .eA (bZ .list (bw ay (bY "coins")))) (bN (.comp [0,1] 4 (.one 3) (.eQ (bZ .eA (bZ .list (bw ay (bY "facts"))))) .no (.prim .tup (mD (bY "coin") (.dX .index aN (gb (bw (bw (bw ay (bY "facts")) bz) (aT 0)))) (.dX .index aN (gb (bw (bw (bw ay (bY "facts")) bz) (aT 1)))))))))]
def kq(hs:Hs)(v:Int):Nat:=(nums hs).findIdx λn:Nat=>decide ((n:Int)=v)
abbrev H9(hs:Hs)(fs:Fs):@&gn:=fs.map λf=>#[.eL,(kq hs f.2.1:Nat),(kq hs f.2.2:Nat)]
def Oo:∀(l:@&Int) (v:Int) (s:Nat),v∈l->x6 ((l.zipIdx s).map λp=>((.inl p.1:Key),D.int p.2)) (.inl v)=!(.int ((s+l.findIdx λn=>decide (n=v):Nat):Int))
 |x::l,v,s,h=>by
  rw[List.zipIdx_cons,bD,List.findIdx_cons];unfold x6;rw[dB];by_cases e:x=v
  .subst e;simp
  .let hv:v∈l:=by
    rcases aJ.mp h with z|z
    .exact absurd z.symm e
    .exact z
   let ih:=Oo l v (s+1) hv;unfold x6 at ih;rw[aA (by intro z;show e (dc z)),aA e];dsimp only[cond];rw[ih]
   congr 2
   omega
def Om(h:n∈nums hs):x6 (uo ((nums hs).map λn:Nat=>(n:Int))) (.inl (n:Int))=!(.int ((kq hs n:Nat):Int)):=by
 have:=Oo ((nums hs).map λn:Nat=>(n:Int)) n 0 (ax.mpr #[n,h,rfl]);unfold uo kq;rw[this,List.findIdx_map,Nat.zero_add]
 rfl
section
variable{T:Nat->Option aQ}{d:Nat}{lc lf:Int}
def Hf(hT:TC T)(lI:T 213=!E2)(C:fV g m hd cl lc lf hs fs)(inc:fT (nums hs))(jK:fT (nums fs))(hz:-hs<=50)(pV:-fs<=50)(hI:mn hs fs)(h:∀g' r,Ex g g'->-g<=r->g'[r]?=!(.lst (O3 (H9 hs fs)))->Q (.ref r) g'):b7 T (k+3) 213 [.ref m] g Q E:=by
 show call_of lI rfl ?_;delta E2;exists i7 C.o rfl rfl ?_;exists P8 hT C inc hz ?_;let e1:=Ex.snoc g (O.lst (a9 (nums hs)));rw[Q3] at e1 ⊢;show bT0 b0 (by simp[nums];omega) (Mb inc) ?_;let e2:=e1.trans (Ex.snoc _ (O.cy (uo ((nums hs).map λn:Nat=>(n:Int)))));let hd2:=b0 (g:=g++[O.lst (((nums hs).map λn:Nat=>(n:Int)).map D.int)]) (o:=O.cy (uo ((nums hs).map λn:Nat=>(n:Int))));generalize (g++[O.lst (((nums hs).map λn:Nat=>(n:Int)).map D.int)]).length=pd at *;generalize g++[O.lst (((nums hs).map λn:Nat=>(n:Int)).map D.int)]++[O.cy (uo ((nums hs).map λn:Nat=>(n:Int)))]=g2 at *;exists M9 (α:=Nat×Int×Int) (a8 T _) (iV (a8 T _) ?_);exists i7 (C.at e2).o rfl rfl ?_;exists FQ hT (C.at e2) jK pV λg3 r e3 x hr=>?_;show#[_,_,rfl,a7 hr,fs,λf=>.tup [.int (f.1:Nat),.int f.2.1,.int f.2.2],λσ=>∃z1 z2 z3 z4,σ=[!.ref pd,z1,z2,z3,z4],λx=>true,λf=>.tup [.str "coin",.int (kq hs f.2.1:Nat),.int (kq hs f.2.2:Nat)],λg' e=>m9 (a7 (e.at hr)),by omega,#[none,none,none,none,rfl],λf σ g' hf e sh=>?_,λg' e=>?_]
 .let#[z1,z2,z3,z4,rfl]:=sh;let#[_,#[n1,h1,xT],n2,h2,EY]:=hI f hf;show N6 rfl (O6 #[rfl,e,jv ?_]);left;let Kn:=(e3.trans e).at hd2;rw[xT,EY];show j5 Kn rfl (Om h1) ?_;exists j5 Kn rfl (Om h2) ?_;left;show#[rfl,e,_,_,_,_,rfl]
 .rw[Q6];show h _ _ ((e2.trans (e3.trans e)).trans (Ex.snoc _ _)) (e2.trans (e3.trans e)).len ?_;rw[b0];simp[O3,H9,gn.d,RW.s]
end
section
variable{T:Nat->Option aQ}{lc lf:Int}
def Mg(h:n∈nums hs):kq hs n< -hs:=by
 have:=List.findIdx_lt_length_of_exists (p:=λm:Nat=>decide ((m:Int)=(n:Int))) #[n,h,by simp]
 rwa [A5] at this
def HC(h:n∈nums hs):(nums hs)[kq hs n]?=!n:=by
 let h1:kq hs n<(nums hs).length:=by rw[A5];show Mg h
 let h2:=List.findIdx_getElem (w:=h1);rw[aj h1];have:=aP h2
 congr 1
 show Int.ofNat.inj this
def bH0{n'}(h:n∈nums hs)(h':n'∈nums hs)(e:kq hs n=kq hs n'):n=n':=by
 let h1:=HC h;let h2:=HC h';rw[e,h2] at h1;show(aO h1).symm
def Z5(hI:mn hs fs):(H9 hs fs).all (C0 (d0 hs))=true:=by
 rw[bG];intro r hr;let#[f,hf,rfl]:=ax.mp hr;let#[hd,#[n1,h1,e1],n2,h2,e2]:=hI f hf;let fE:∀{n:Nat},n∈nums hs->(jg (d0 hs) .eL ((kq hs n:Nat):Int)).isEmpty=false:=λ{n} h=>by
  have:kq hs n∈jg (d0 hs) .eL ((kq hs n:Nat):Int):=by
   unfold jg;rw[ba,bh];show#[by simp[d0];show Mg h,by simp[meant]]
  cases e:jg (d0 hs) .eL ((kq hs n:Nat):Int) with
  |nil=>rw[e] at this;cases this
  |cons _ _=>rfl
 unfold C0;rw[e1,e2,fE h1,fE h2,aA]
 .rfl
 .intro z;have:=bH0 h1 h2 (Int.ofNat.inj z);show hd (by rw[e1,e2,this])
def aD1(hT:TC T)(hB:TB T)(hF:TF T)(hW:TW T)(mO:T 126=!yJ)(lI:T 213=!E2)(tS:T 226=!U7)(C:fV g m hd cl lc lf hs fs)(O1:iF hs)(xD:∀c∈d0 hs,CB c)(jK:fT (nums fs))(pV:-fs<=50)(hI:mn hs fs)(hv:1<=v/\v<=9)(h:∀g',Ex g g'->Q (.int ((o8 (-hs) (v8 (d0 hs) v (H9 hs fs)) 0).length:Nat)) g'):b7 T (k+12) 226 [.ref m,.int v] g Q E:=by
 show call_of tS rfl ?_;delta U7;exists i7 C.o rfl rfl ?_;exists u2 hT C O1.inc (by have:=O1.len;omega) λg1 r1 e1 x lU=>?_;exists i7 (C.at e1).o rfl rfl ?_;exists Hf hT lI (C.at e1) O1.inc jK (by have:=O1.len;omega) pV hI λg2 r2 e2 x jL=>?_;let hl:(d0 hs).length=-hs:=by simp[d0]
 show NG hB hF hW mO (e2.at lU) (by rw[hl];show O1.len) (N9 O1) xD hv jL (by simp[H9];omega) (Z5 hI) λg3 e3=>?_;rw[hl];show h _ (e1.trans (e2.trans e3))
end
section
variable{T:Nat->Option aQ}{d:Nat}
def Pp(h:n∈nums hs):Bz (a9 (nums hs)) (.int (n:Nat)) (kq hs n):=by
 show#[?_,rfl,#[.int (n:Nat),by rw[a9,ag,HC h];rfl,by simp[toV,lM]],λm z hm hz=>?_]
 .rw[bG];intro y hy;let#[i,_,rfl]:=ax.mp hy
  rfl
 .rw[a9,ag,aa] at hz;let#[i,hi,rfl]:=hz;have:=List.not_of_lt_findIdx hm;rw[(ak.mp hi).2] at this;simp[toV,lM] at this ⊢;omega
def NQ(qp:T 231=!AX)(B:ie g q qc qf gv lr hs fs)(inc:fT (nums hs))(jK:fT (nums fs))(hz:-hs<=50)(pV:-fs<=50)(hI:mn hs fs)(h:∀g' r,Ex g g'->-g<=r->g'[r]?=!(.lst (O3 (H9 hs fs)))->Q (.ref r) g'):b7 T (k+1) 231 [.ref q] g Q E:=by
 show call_of qp rfl ?_;delta AX;exists j5 B.b rfl K0 ?_;show Y9 B.c (by simp[gz];omega) ?_;rw[T8];show A2 b0 inc (by rw[A5];show hz) ?_;let e1:=(Ex.snoc g (O.lst (a9 (nums hs)))).trans (Ex.snoc _ (O.lst (a9 (nums hs))));let Te:=b0 (g:=g++[O.lst (a9 (nums hs))]) (o:=O.lst (a9 (nums hs)));generalize (g++[O.lst (a9 (nums hs))]).length=pd at *;generalize g++[O.lst (a9 (nums hs))]++[O.lst (a9 (nums hs))]=g1 at *;exists M9 (α:=Nat×Int×Int) (a8 T _) (iV (a8 T _) ?_);exists j5 (B.at e1).b rfl V7 ?_;exists Y9 (B.at e1).f (by simp[iC];omega) ?_;rw[Bf];exists A2 b0 jK (by rw[A5];show pV) ?_;let e2:=(Ex.snoc g1 (O.lst (a9 (nums fs)))).trans (Ex.snoc _ (O.lst (a9 (nums fs))));show#[_,_,rfl,a7 b0,fs,λp=>.int (p.1:Nat),λσ=>∃z1 z2,σ=[!.ref q,!.ref pd,z1,z2],λy=>true,λf=>.tup [.str "coin",.int (kq hs f.2.1:Nat),.int (kq hs f.2.2:Nat)],λg' e=>m9 (a7 ?_),by omega,#[none,none,rfl],λf σ g' hf e sh=>?_,λg' e=>?_]
 .rw[show fs.map (λp=>D.int (p.1:Nat))=a9 (nums fs) by simp[a9,nums]];show e.at b0
 .let#[z1,z2,rfl]:=sh;let#[_,#[n1,h1,xT],n2,h2,EY]:=hI f hf;let hv:=p8 (f:=λx:Int×Int=>D.tup [.int x.1,.int x.2]) jK hf;let B':=((B.at e1).at e2).at e;let mH:=(e2.trans e).at Te;let zQ:(a9 (nums hs)).length<=100000:=by simp[a9,nums];omega
  show j8 (O6 #[rfl,e,jv ?_]);exists#[Md (a7 mH),?_];exists j5 B'.b rfl V7 ?_;exists j5 B'.f rfl hv ?_;left;rw[xT];show Ll (a7 mH) (Pp h1) zQ ?_;exists#[Md (a7 mH),?_];exists j5 B'.b rfl V7 ?_;exists j5 B'.f rfl hv ?_;left;rw[EY];show Ll (a7 mH) (Pp h2) zQ ?_;left;show#[rfl,e,_,_,rfl]
 .rw[Q6];show h _ _ ((e1.trans (e2.trans e)).trans (Ex.snoc _ _)) (e1.trans (e2.trans e)).len ?_;rw[b0];simp[O3,H9,gn.d,RW.s]
end
def mW(r:@&Nat):Nat:=r.foldl (λs p=>s |||2 ^ p) 0
def YE(r:@&Nat)(p:Nat):mW (r++[p])=mW r |||2 ^ p:=by simp[mW,List.foldl_append]
def Im(r:@&Nat)(i:Nat):(mW r).testBit i=decide (i∈r):=by
 have:∀(r:@&Nat) (s:Nat),(r.foldl (λs p=>s |||2 ^ p) s).testBit i=(s.testBit i||decide (i∈r)):=by
  intro r
  induction r with
  |nil=>intro s;simp
  |cons p r ih =>
   intro s;rw[List.foldl_cons,ih,yM,Bool.or_assoc,bp];simp
 rw[mW,this];simp
def bN9:∀{r:@&Nat},(∀i∈r,i<n)->mW r<2 ^ n:=λ{r} h=>by
 have:∀(r:@&Nat) (s:Nat),(∀i∈r,i<n)->s<2 ^ n->r.foldl (λs p=>s |||2 ^ p) s<2 ^ n:=by
  intro r
  induction r with
  |nil=>intro s _ hs;show hs
  |cons p r ih=>intro s h hs;show ih _ (λi hi=>h i (by simp[hi])) (vG hs (h p #[_]))
 show this r 0 h (jh _)
abbrev uD(F:Nat->@&Nat):Nat->@&(@&Nat)
 |0=>[[]]
 |t+1=>(uD F t).flatMap λr=>(F (mW r)).map λp=>r++[p]
def AZ{n}{F}(hF:FG n F):∀{t:Nat} {r:@&Nat},r∈uD F t->-r=t/\r.Nodup/\∀i∈r,i<n
 |0,r,h=>by
  cases aU.mp h;simp
 |t+1,r,h=>by
  let#[r0,h0,h1]:=my.mp h;let#[p,hp,rfl]:=ax.mp h1;let#[g1,g2,g3]:=AZ hF h0;let ng:=hF _ _ hp;rw[Im] at ng;show#[by simp[g1],?_,λi hi=>?_]
  .rw[cV];show#[g2,by simp,λx hx y hy=>by cases aU.mp hy;show λz=>(by simpa using ng.2:p∉r0) (z▸hx)]
  .rcases bA.mp hi with z|z
   .exact g3 i z
   .cases aU.mp z;show ng.1
def bZ2{r:@&Nat}(h:r.Nodup)(hl:-r=n)(hr:∀i∈r,i<n)(hi:i<n):i∈r:=by
 show qY λhn=>?_;have:=yA (l:=i::r) (m:=List.range n) (dA.mpr #[hn,h]) λx hx=>by
  rcases aJ.mp hx with rfl|hx
  .exact bh.mpr hi
  .exact bh.mpr (hr x hx)
 simp at this;omega
def OX{r}(h:r.Nodup)(hr:∀i∈r,i<n):mW r=2 ^ n-1↔(-r)=n:=by
 constructor
 .intro e;have:∀i,i<n->i∈r:=λi hi=>by
   have:=Im r i;rw[e,oG,aG hi] at this;show aP this.symm
  let h1:=yA (l:=List.range n) (m:=r) iK λi hi=>this i (bh.mp hi);let h2:=yA (l:=r) (m:=List.range n) h λi hi=>bh.mpr (hr i hi);simp at h1 h2;omega
 .intro hl;show Cc λi=>?_;rw[Im,oG];show de.mpr #[hr i,λhi=>bZ2 h hl hr hi]
def PZ{n}{F}(hF:FG n F):∀{t:Nat},t<=n->(uD F t).flatMap (λr=>(o8 n F (mW r)).map (r++·))=o8 n F 0
 |0,_=>by simp[uD,mW]
 |t+1,ht=>by
  rw[<- PZ hF (show t<=n by omega),uD,List.flatMap_assoc];show Q5 λr hr=>?_;let#[g1,g2,g3]:=AZ hF hr;let fE:mW r≠2 ^ n-1:=λz=>by have:=(OX g2 g3).mp z;omega
  rw[yC hF (bN9 g3) fE,List.map_flatMap,List.flatMap_map];show Q5 λp hp=>?_;rw[YE,bC];show cY λo x=>?_;simp
def Yp{F}(hF:FG n F):uD F n=o8 n F 0:=by
 rw[<- PZ hF (av n)];have:∀(l:@&(@&Nat)),(∀r∈l,r∈uD F n)->l.flatMap (λr=>(o8 n F (mW r)).map (r++·))=l:=by
  intro l
  induction l with
  |nil=>intro _;rfl
  |cons r l ih =>
   intro h;let#[g1,g2,g3]:=AZ hF (h r #[_]);rw[fA,ih λx hx=>h x (by simp[hx]),Z7 ((OX g2 g3).mpr g1)];simp
 show(this _ λy h=>h).symm
def PV{F}(hF:FG n F){o}(h:o∈o8 n F 0):-o=n/\o.Nodup/\∀i∈o,i<n:=by
 rw[<- Yp hF] at h;show AZ hF h
def many(cs:@&b9)(v:Int)(rs:@&gn):Nat:=(o8 (-cs) (v8 cs v rs) 0).length
def Y6:aQ:=#[1,2,(dH 1 (eT 117 ay) (dE (cK .Eq (bw aN (bZ (.un .USub) (aT 1))) (bZ (.fld "full") ay)) (bN (.lit .bq)) (bN aN)))]
section
variable{T:Nat->Option aQ}
def aE5(hT:TB0 T)(hF:TF T)(hW:T 117=!P9)(tV:T 129=!Y6)(B:Bd g b cs v rs)(hz:-cs<=9)(hr:-rs<=900)(h:∀(L:@&Nat) l g',Ex g g'->-g<=l->g'[l]?=!.lst (a9 L)->L.Pairwise (· < ·)->(∀s,s∈L↔jy (v8 cs v rs) s)->-L<=512->(jy (v8 cs v rs) (2 ^ (-cs)-1)->Q .bq g')/\(¬jy (v8 cs v rs) (2 ^ (-cs)-1)->Q (.ref l) g')):b7 T (k+7) 129 [.ref b] g Q E:=by
 show call_of tV rfl ?_;delta Y6;let#[w0,l0,dd,nb,f1,f2,f3,f4,f5]:=B.ex;exists Qt hT hF hW B hz hr λL l g1 e1 hl h1 pw hL xC=>?_;let#[Tc,Dk]:=h L l g1 e1 hl h1 pw hL xC;let h0:=(hL 0).mpr .zero;let Td:=vZ h0;let nV:=aj (show (-L)-1< -L by omega);generalize tD:L[(-L)-1]=z at nV;let atl:iX (a9 L) (-1)=!.int (z:Nat):=by
  unfold iX nM;let il:(a9 L).length=-L:=by simp[a9]
  rw[aI ∅,il,aM (by(clear hz hr hl tD;omega))];show(a9 L)[(-1+(-L:Int)).toNat]?=_;rw[show(-1+(-L:Int)).toNat=-L-1 by(clear hz hr hl tD;omega),a9,ag,nV]
  rfl
 let JQ:=aE nV;let Dt:∀x∈L,x<=z:=λx hx=>by
  let#[i,hi,rfl]:=cS.mp hx;rcases fz i (-L-1) with y|y
  .have:=cJ.mp pw i (-L-1) hi () y;omega
  .have:i=-L-1:=by(clear hz hr hl tD;omega)
   subst this;omega
 let hzl:=((hL z).mp JQ).lt (T9 cs v rs);exists u4 (a7 h1) atl ?_;exists u1 (e1.at f1) rfl ?_;left;let ed:decide (((z:Nat):Int)=((2 ^ (-cs)-1:Nat):Int))=decide (z=2 ^ (-cs)-1):=de.mpr (by(clear hz hr hl tD;omega));rw[ed];show if2 (λc1=>?_) (λc1=>?_)
 .exact Tc (c1▸(hL z).mp JQ)
 .exists Dk λhR=>c1 ?_;have:=Dt _ ((hL _).mpr hR);omega
end
def bT2{s}(h:s.testBit p=false):s |||2 ^ p=s+2 ^ p:=by
 induction p generalizing s with
 |zero =>
  rw[Nat.testBit_zero,iH] at h;let h1:=Nat.or_div_two (a:=s) (b:=1);let h2:(s |||1) % 2=1:=zt.mpr (.inr rfl);rw[show(1:Nat) / 2=0 from rfl,Nat.or_zero] at h1;change s |||1=s+1
  omega
 |succ p ih =>
  let h0:(s / 2).testBit p=false:=by rw[Nat.testBit_succ] at h;show h
  let h1:=Nat.or_div_two (a:=s) (b:=2 ^ (p+1));let h2:=zt (a:=s) (b:=2 ^ (p+1));let e:2 ^ (p+1)=2*2 ^ p:=by rw[Nat.pow_succ,Nat.mul_comm]
  rw[e,Nat.mul_div_cancel_left _ ∅,ih h0] at h1;rw[e] at h2 ⊢;omega
def OM{n}{F}(hF:FG n F):∀(m s:Nat),2 ^ n-s<=m->s<2 ^ n->jy F s->o8 n F s≠[]->jy F (2 ^ n-1)
 |0,s,hm,hs,_,_=>by omega
 |m+1,s,hm,hs,hr,ho=>by
  by_cases e:s=2 ^ n-1
  .exact e▸hr
  .rw[yC hF hs e] at ho;let#[o,ho]:=qW _ ho;let#[p,hp,hq]:=my.mp ho;let#[q,hq,_]:=ax.mp hq;let hb:=hF s p hp;let lt:=vG hs hb.1;have:s<s |||2 ^ p:=by rw[bT2 hb.2];have:=jh p;omega
   show OM hF m _ () lt (.step hr hp) (Rz hq)
set_option tactic.hygienic true in
def Yo{F}(hF:FG n F){s}(h:jy F s):o8 n F s≠[]->o8 n F 0≠[]:=by
 induction h with
 |zero=>show id
 |step h hp ih =>
  rename_i s p;intro z;show ih ?_;let hs:=h.lt hF;by_cases e:s=2 ^ n-1
  .rw[Z7 e];show List.cons_ne_nil _ _
  .rw[yC hF hs e];let#[o,ho]:=qW _ z;show Rz (my.mpr #[p,hp,ax.mpr #[o,ho,rfl]])
def OS:jy (v8 cs v rs) (2 ^ (-cs)-1)↔many cs v rs≠0:=by
 let hF:=T9 cs v rs;unfold many;rw[Ne,fm];constructor
 .intro h;show Yo hF h ?_;rw[Z7 rfl];show List.cons_ne_nil _ _
 .exact OM hF _ 0 (av _) (jh _) .zero
def FY:aQ:=#[3,3,(bN (eT 129 (gh 99 ay aN aV)))]
def AJ:aQ:=#[1,1,(bN (.oq (.cons (bY "coins") (Ck (bZ .iW (bw ay (bY "coins"))) (bY "facts") (bZ .iW (bw ay (bY "facts"))) (bY "given") (bw ay (bY "given")) (bY "learnt") (bw ay (bY "learnt"))))))]
def M0:aQ:=#[2,4,(dH 2 (bZ .eA (bZ .list (bw aN (bY "coins")))) (dH 3 (gh 125 (eT 196 aN) (aT 2) (eT 231 aN)) (dE (.du (.eP (dq 7 (.bJ "many" [("Cabinet",226)] ay (gb (aT 2))) (gh 126 (eT 196 aN) (aT 2) (eT 231 aN))))) (bN (.lit (.bl false))) (dE (cK .NotEq (bV (.cmp .Is) (.bJ "paper" [("Cabinet",227)] ay (gb (aT 2))) (.lit .bq)) (bV (.cmp .IsNot) bz (.lit .bq))) (bN (.lit (.bl false))) (bN (dq 7 (.bJ "order" [("Cabinet",225)] ay (gb (aT 2))) (.ite (cK .Is bz (.lit .bq)) (.lit .bq) (.comp [2] 3 (.one 2) (.eQ bz) .no (bw ay aV)))))))))]
def Hi:aQ:=#[2,4,(dH 2 (gh 125 (.bJ "coins" [("Cabinet",223)] ay .nil) aN (.bJ "fact_rules" [("Cabinet",213)] ay .nil)) (dE (cK .Is aV (.lit .bq)) (bN (.lit .bq)) (dH 3 (.bJ "numbers" [("Cabinet",221)] ay .nil) (bN (.comp [3] 3 (.one 2) (.eQ aV) .no (bw ay aV))))))]
def Hj:aQ:=#[2,2,(bN (gh 132 (.bJ "coins" [("Cabinet",223)] ay .nil) aN (.bJ "fact_rules" [("Cabinet",213)] ay .nil)))]
def U5:aQ:=#[1,2,(dH 1 (.make "Cabinet" 208 .nil) (gi (.fH "held" ["Cabinet"] aN (bZ .iW (bZ (.fld "held") ay))) (gi (.fH "claims" ["Cabinet"] aN (bZ .iW (bZ (.fld "claims") ay))) (gi (.fH "last_coin" ["Cabinet"] aN (bZ (.fld "last_coin") ay)) (gi (.fH "last_fact" ["Cabinet"] aN (bZ (.fld "last_fact") ay)) (bN aN))))))]
structure TJ0(T:Nat->Option aQ):Prop where
 tg:TG T
 tb:TB T
 tf:TF T
 tw:TW T
 tn:TN T
 mP:T 124=!S3
 qr:T 125=!Y7
 mO:T 126=!yJ
 tV:T 129=!Y6
 EE:T 132=!FY
 lI:T 213=!E2
 Eb:T 225=!Hi
 tS:T 226=!U7
 Ea:T 227=!Hj
 qp:T 231=!AX
structure TJ(T:Nat->Option aQ):Prop extends TJ0 T where
 tR:T 230=!U5
 tQ:T 269=!AJ
 DX:T 270=!M0
def Ce(m hd cl q qc qf x:Nat):Prop:=x=m\/x=hd\/x=cl\/x=q\/x=qc\/x=qf
structure Fc(m hd cl q qc qf:Nat)(g g':G):Prop where
 len:-g<=-g'
 old:∀i,¬Ce m hd cl q qc qf i->i< -g->g'[i]?=g[i]?
section
variable{T:Nat->Option aQ}{d:Nat}{s:Sd}
def Fc.at(F:Fc m hd cl q qc qf g g')(h:¬Ce m hd cl q qc qf i)(e:g[i]?=!o):g'[i]?=!o:=(F.old i h (i0 e)).trans e
def Fc.trans{g2}(F:Fc m hd cl q qc qf g g')(F2:Fc m hd cl q qc qf g' g2):Fc m hd cl q qc qf g g2:=#[aC F.len F2.len,λi h l=>(F2.old i h (aB l F.len)).trans (F.old i h l)]
def Fc.JE(F:Fl m hd cl g g'):Fc m hd cl q qc qf g g':=#[F.len,λi h l=>F.old i (by unfold Ce at h;omega) l]
def Fc.zI(F:Fl q qc qf g g'):Fc m hd cl q qc qf g g':=#[F.len,λi h l=>F.old i (by unfold Ce at h;omega) l]
def WT(hT:TG T)(W:Wd g d m hd cl q qc qf s)(S:Step T (k+1) g m hd cl q qc qf s (λx=>True) dd) :
  b7 T (k+12) 234 [.ref m,dd] g (λy1 g1=>Fc m hd cl q qc qf g g1/\b7 T (k+12) 204 [.ref q,dd] g1 (λy2 g2=>b7 T (k+12) 191 [y1,y2] g2 (λy g'=>y=.bl true/\∃ic s',Wd g' d m hd ic q qc qf s'/\s'.lf<=s.lf+1/\Fc m hd cl q qc qf g g'/\(ic=cl\/-g<=ic)) E) E) E:=by
 let ad:=W.A.h;let lq:=i0 W.B.f;let lm:=i0 W.C.h;let#[e,an,s',ok,K',l',_,hc,hb]:=S;by_cases he:e=""
 .refine Mu hT hc (λz=>absurd he z) λx g1 y ic F1 jo C1 A1=>?_;let e2:=Ex.snoc g1 (O.lst [D.str "",y]);let s2:=b0 (g:=g1) (o:=O.lst [D.str "",y]);let F2:=F1.trans (Ex.fl e2);let l1:=F1.len;show#[Fc.JE F2,hb _ F2 (W.box F2) _ _ (λz=>absurd he z) λx g3 y3 F3 B3 A3=>?_];let lcl:ic< -g1:=i0 C1.c;let ne:ic≠q/\ic≠qc/\ic≠qf:=by omega
  let C3:fV g3 m hd ic s'.lc s'.lf s'.hs s'.fs:=#[F3.at () (e2.at C1.o),F3.at () (e2.at C1.h),F3.at ne (e2.at C1.c)]
  let W3:Wd g3 d m hd ic q qc qf s':=#[F3.draw (F2.draw W.dr ()) (),C3,B3,K' he,#[by omega]]
  let A1':kG.at (-g) g3 y an:=by
   cases an with
   |val d=>show A1
   |lst l =>
    let#[r,rfl,lr,er]:=A1;show#[r,rfl,lr,F3.at () (e2.at er)]
  show Of hT (F3.at () s2) rfl (kG.VM ok A1' A3) λg4 e4=>#[rfl,ic,s',W3.at e4,l',(Fc.JE F2).trans ((Fc.zI F3).trans (Fc.zI (Ex.fl e4))),jo]
 .refine Mu hT hc (λx g1 e1=>?_) λz=>absurd z he;let e2:=e1.trans (Ex.snoc g1 (O.lst [D.str "refused",.bq]));let s2:=b0 (g:=g1) (o:=O.lst [D.str "refused",.bq]);show#[Fc.zI (Ex.fl e2),hb _ (Ex.fl e2) (W.B.at e2) _ _ (λx g3 e3=>?_) λz=>absurd z he];show Of hT (e3.at s2) (by rw[aA he];decide +kernel) .bq λg4 e4=>#[rfl,cl,s,W.at (e2.trans (e3.trans e4)),by omega,Fc.zI (Ex.fl (e2.trans (e3.trans e4))),.inl rfl]
def YT(hT:TC T)(tR:T 230=!U5)(C:fV g m hd cl lc lf hs fs)(h:∀g',Ex g g'->-g+4< -g'->fV g' (-g) (-g+3) (-g+4) lc lf hs fs->Q (.ref (-g)) g'):b7 T (k+2) 230 [.ref m] g Q E:=by
 let p1:∀(x y z:Nat) (i j:Int),O.ins "Cabinet" (m7 "held" (.ref z) [("held",.ref x),("claims",.ref y),("last_coin",.int i),("last_fact",.int j)])=iE z y i j:=λw w w w w=>rfl;let p2:∀(x y z:Nat) (i j:Int),O.ins "Cabinet" (m7 "claims" (.ref z) [("held",.ref x),("claims",.ref y),("last_coin",.int i),("last_fact",.int j)])=iE x z i j:=λw w w w w=>rfl;let p3:∀(x y:Nat) (i j z:Int),O.ins "Cabinet" (m7 "last_coin" (.int z) [("held",.ref x),("claims",.ref y),("last_coin",.int i),("last_fact",.int j)])=iE x y z j:=λw w w w w=>rfl;let p4:∀(x y:Nat) (i j z:Int),O.ins "Cabinet" (m7 "last_fact" (.int z) [("held",.ref x),("claims",.ref y),("last_coin",.int i),("last_fact",.int j)])=iE x y i z:=λw w w w w=>rfl;show call_of tR rfl ?_;delta U5;exists Ia hT ?_;show#[rfl,?_];let e0:∀(o:O) (l:@&O),(g++(o::l))[(-g)]?=!o:=λo l=>by simp
 let e1:∀(o o':O) (l:@&O),(g++(o::l)).set (-g) o'=g++(o'::l):=λo o' l=>by simp
 let old:∀{i:Nat} {o:O} (l:@&O),g[i]?=!o->(g++l)[i]?=!o:=λl e=>by rw[aF (i0 e)];show e
 exists u1 (old _ C.o) rfl ?_;show AE (old _ C.h) ?_;left;simp only[List.append_assoc,List.cons_append,List.nil_append,List.length_append,List.length_cons,List.length_nil,Nat.zero_add,Nat.add_assoc,Nat.reduceAdd];show K5 (e0 _ _) #[_] #[_] ?_;rw[e1,p1];exists u1 (old _ C.o) rfl ?_;show AE (old _ C.c) ?_;left;simp only[List.append_assoc,List.cons_append,List.nil_append,List.length_append,List.length_cons,List.length_nil,Nat.zero_add,Nat.add_assoc,Nat.reduceAdd];show K5 (e0 _ _) #[_] #[_] ?_;rw[e1,p2];exists u1 (old _ C.o) rfl ?_;exists K5 (e0 _ _) #[_] #[_] ?_;rw[e1,p3];exists u1 (old _ C.o) rfl ?_;exists K5 (e0 _ _) #[_] #[_] ?_;rw[e1,p4];exists h _ #[by simp,λi hi=>by rw[aF hi]] #[_] #[e0 _ _,?_,?_]
 .simp
 .simp
def aY2(tQ:T 269=!AJ)(B:ie g q qc qf gv lr hs fs)(h:∀g',Ex g g'->-g+2< -g'->ie g' (-g) (-g+1) (-g+2) gv lr hs fs->Q (.ref (-g)) g'):b7 T (k+1) 269 [.ref q] g Q E:=by
 let old:∀{i:Nat} {o:O} (l:@&O),g[i]?=!o->(g++l)[i]?=!o:=λl e=>by rw[aF (i0 e)];show e
 show call_of tQ rfl ?_;delta AJ;exists LH ?_;exists j5 (old _ B.b) rfl K0 ?_;exists AE (old _ B.c) ?_;left;simp only[List.append_assoc,List.cons_append,List.nil_append,List.length_append,List.length_cons,List.length_nil,Nat.zero_add,Nat.add_assoc,Nat.reduceAdd];show j5 (old _ B.b) rfl V7 ?_;exists AE (old _ B.f) ?_;left;simp only[List.append_assoc,List.cons_append,List.nil_append,List.length_append,List.length_cons,List.length_nil,Nat.zero_add,Nat.add_assoc,Nat.reduceAdd];show j5 (old _ B.b) rfl BN ?_;exists j5 (old _ B.b) rfl BO ?_;exists#[_,rfl,by simp,by simp,?_];let e1:∀(o o':O) (l:@&O),(g++(o::l)).set (-g) o'=g++(o'::l):=λo o' l=>by simp
 rw[e1];let e0:∀(o:O) (l:@&O),(g++(o::l))[(-g)]?=!o:=λo l=>by simp
 show h _ #[by simp,λi hi=>by rw[aF hi]] #[_] #[e0 (.cy (M3 _ _ _ _)) _,by simp,by simp]
def ay2(hJ:TJ0 T)(C:fV g m hd cl lc lf hs fs)(O1:iF hs)(xD:∀c∈d0 hs,CB c)(jK:fT (nums fs))(pV:-fs<=50)(hI:mn hs fs)(hv:1<=v/\v<=9)(h1:many (d0 hs) v (H9 hs fs)≠0->∀g',Ex g g'->Q .bq g')(h2:many (d0 hs) v (H9 hs fs)=0->∀r g',Ex g g'->Q (.ref r) g'):b7 T (k+14) 227 [.ref m,.int v] g Q E:=by
 show call_of hJ.Ea rfl ?_;delta Hj;exists i7 C.o rfl rfl ?_;exists u2 hJ.tg.te.tc C O1.inc (by have:=O1.len;omega) λg1 r1 e1 x lU=>?_;exists i7 (C.at e1).o rfl rfl ?_;exists Hf hJ.tg.te.tc hJ.lI (C.at e1) O1.inc jK (by have:=O1.len;omega) pV hI λg2 r2 e2 x jL=>?_;left;let hl:(d0 hs).length=-hs:=by simp[d0]
 let hz:(d0 hs).length<=9:=by rw[hl];show O1.len
 let hr:(H9 hs fs).length<=900:=by simp[H9];omega
 show call_of hJ.EE rfl ?_;delta FY;exists GO hJ.tb (e2.at lU) hz (N9 O1) xD hv jL hr (Z5 hI) λg3 b e3 x B3=>?_;left;let ia:=e1.trans (e2.trans e3);show aE5 hJ.tb.toTB0 hJ.tf hJ.tw.qt hJ.tV B3 hz hr λL l g4 e4 x x x x x=>#[λz=>h1 (OS.mp z) _ (ia.trans e4),λz=>h2 (qY λy=>z (OS.mpr y)) _ _ (ia.trans e4)]
noncomputable abbrev uS(ns o:@&Nat):@&D:=o.map λp=>.int (ns.getD p 0:Nat)
def QW(hP:j4 P){σ}{v l}{o ns}(hc:P0 σ [j] 3=[!.ref r,none,none])(hv:σ[v]?=!!.ref l)(hl:g[l]?=!.lst (a9 o))(hr:g[r]?=!.lst (a9 ns))(ho:∀p∈o,p< -ns)(hz:-o<=1000)(h:∀g',Ex g g'->Q (.ref (-g')) (g'++[.lst (uS ns o)])):aY P (.comp [j] 3 (.one 2) (.eQ (.var v)) .no (.prim .ix (.cons (.var 0) (.cons (.var 2) .nil)))) σ g Q E:=by
 show comp_map hP (λσ=>∃z1 z2,σ=[!.ref r,z1,z2]) (λi=>.int (ns.getD (o.getD i 0) 0:Nat)) (λg' e=>m9 (a7 (e.at hl))) (by simpa[a9] using hz) #[none,none,hc] (λi x σ g' hx e sh=>?_) (λg' e=>?_) (rY hP (a7 hl) λQ q=>w_var hv q)
 .let#[z1,z2,rfl]:=sh;rw[a9,ag,aa] at hx;let#[p,hp,rfl]:=hx;let lp:=ho p (aE hp);show j8 ?_;exists u4 (a7 (e.at hr)) (d:=.int (ns.getD p 0:Nat)) (D9 (by rw[a9,ag,pI,aj lp];rfl)) ?_;show#[by rw[pI (l:=o),hp];rfl,e,_,_,rfl]
 .have:=h g' e
  rwa [show (List.range (a9 o).length).map (λi=>D.int (ns.getD (o.getD i 0) 0:Nat))=uS ns o from fB λi=>by
   rw[ag,ag];by_cases hi:i< -o
   .rw[dI (by simpa[a9] using hi),aj hi];simp[List.getD_eq_getElem?_getD,hi]
   .rw[bc (by simpa[a9] using hi),bc ()]
    rfl]
def ay3(hJ:TJ0 T)(C:fV g m hd cl lc lf hs fs)(O1:iF hs)(xD:∀c∈d0 hs,CB c)(jK:fT (nums fs))(pV:-fs<=50)(hI:mn hs fs)(hv:1<=v/\v<=9)(h1:o8 (-hs) (v8 (d0 hs) v (H9 hs fs)) 0=[]->∀g',Ex g g'->Q .bq g')(h2:∀o r g',(o8 (-hs) (v8 (d0 hs) v (H9 hs fs)) 0)[0]?=!o->Ex g g'->g'[r]?=!(.lst (uS (nums hs) o))->Q (.ref r) g'):b7 T (k+12) 225 [.ref m,.int v] g Q E:=by
 show call_of hJ.Eb rfl ?_;delta Hi;exists i7 C.o rfl rfl ?_;exists u2 hJ.tg.te.tc C O1.inc (by have:=O1.len;omega) λg1 r1 e1 x lU=>?_;exists i7 (C.at e1).o rfl rfl ?_;exists Hf hJ.tg.te.tc hJ.lI (C.at e1) O1.inc jK (by have:=O1.len;omega) pV hI λg2 r2 e2 x jL=>?_;left;let hl:(d0 hs).length=-hs:=by simp[d0]
 let hz:(d0 hs).length<=9:=by rw[hl];show O1.len
 let hr:(H9 hs fs).length<=900:=by simp[H9];omega
 show NY hJ.tb hJ.tf hJ.tw hJ.tn hJ.mP hJ.qr (e2.at lU) hz (N9 O1) xD hv jL hr (Z5 hI) (λz g3 e3=>?_) λo l g3 z e3 x ho=>?_
 .rw[hl] at z;left;show h1 z _ (e1.trans (e2.trans e3))
 .rw[hl] at z;left;let ia:=e1.trans (e2.trans e3);show i7 (C.at ia).o rfl rfl ?_;exists P8 hJ.tg.te.tc (C.at ia) O1.inc (by have:=O1.len;omega) ?_;let n3:=b0 (g:=g3) (o:=O.lst (a9 (nums hs)));let e4:=Ex.snoc g3 (O.lst (a9 (nums hs)));let o4:=e4.at ho;generalize g3++[_]=g4 at *;generalize (-g3)=r4 at *;left;let og:=PV (T9 (d0 hs) v (H9 hs fs)) (by rw[hl];show aE z);rw[hl] at og;show QW (a8 T _) rfl rfl o4 n3 (λp hp=>by rw[A5];show og.2.2 p hp) (by have:=O1.len;omega) λg5 e5=>?_;show h2 o _ _ z (ia.trans (e4.trans (e5.trans (Ex.snoc _ _)))) b0
def XE{ns o}(ha:g[a]?=!.lst (uS ns o))(hb:g[b]?=!.lst (uS ns o))(hz:-o<=1000):u5 g 1 (.ref a) (.ref b):=by
 show .lst ha hb rfl (λi x y hx hy=>?_) (_/hz);rw[hx] at hy;cases hy;rw[ag,aa] at hx;let#[p,_,rfl]:=hx;show .int _
def VF(O1:iF hs):∀c∈d0 hs,CB c:=λc hc=>by
 let#[p,hp,rfl]:=ax.mp hc;show#[(O1.good p hp).l8,(O1.good p hp).u8]
def aL3(hJ:TJ T)(W:Wd g d m hd cl q qc qf s)(hf:-s.fs<=50)(h:∀g',Ex g g'->Q (.bl true) g'):b7 T (k+15) 270 [.ref m,.ref q] g Q E:=by
 let O1:=W.K.K;let hz:=O1.len;let hl:(d0 s.hs).length=-s.hs:=by simp[d0]
 let nl:=A5 s.hs;let wN:(d0 s.hs).length<=9:=by rw[hl];show hz
 let hr:(H9 s.hs s.fs).length<=900:=by simp[H9];omega
 let cb:=VF O1;show call_of hJ.DX rfl ?_;delta M0;exists j5 W.B.b rfl K0 ?_;exists Y9 W.B.c (by simp[gz];omega) ?_;rw[T8];exists A2 b0 O1.inc () ?_;let e1:=(Ex.snoc g (O.lst (a9 (nums s.hs)))).trans (Ex.snoc _ (O.lst (a9 (nums s.hs))));let s1:=b0 (g:=g++[O.lst (a9 (nums s.hs))]) (o:=O.lst (a9 (nums s.hs)));generalize (g++[O.lst (a9 (nums s.hs))]).length=sr at *;generalize (g++[O.lst (a9 (nums s.hs))])++[_]=g1 at *;let W1:=W.at e1;exists S7 hJ.tg.te.td W1.B O1.inc () λg2 r2 e2 w jL=>?_;let W2:=W1.at e2;exists NQ hJ.qp W2.B O1.inc W.K.inc () hf W.K.inf λg3 r3 e3 w nR=>?_;let W3:=W2.at e3;left;let fin:∀(z:D) (g3:G),Ex g1 g3->Wd g3 d m hd cl q qc qf s->((o8 (-s.hs) (v8 (d0 s.hs) 2 (H9 s.hs s.fs)) 0=[]/\z=.bq)\/∃o l,(o8 (-s.hs) (v8 (d0 s.hs) 2 (H9 s.hs s.fs)) 0)[0]?=!o/\g3[l]?=!.lst (a9 o)/\z=.ref l) ->
   wpS (b7 T (k+14)) (match M0.body with|.seq _ (.seq _ b)=>b|x=>x) #[λw g'=>Q .bq g',Q,λw w=>False,λw w=>False] [!.ref m,!.ref q,!.ref sr,!z] g3 E:=by
  intro z g3 ia W3 pW;dsimp[M0];let s3:=ia.at s1;exists i7 W3.C.o rfl rfl ?_;exists aD1 hJ.tg.te.tc hJ.tb hJ.tf hJ.tw hJ.mO hJ.lI hJ.tS W3.C O1 cb W.K.inc hf W.K.inf ∅ λg4 e4=>?_;let W4:=W3.at e4;exists S7 hJ.tg.te.td W4.B O1.inc () λg5 r5 e5 w qa=>?_;let W5:=W4.at e5;exists NQ hJ.qp W5.B O1.inc W.K.inc () hf W.K.inf λg6 r6 e6 w Di=>?_;let W6:=W5.at e6;exists NG hJ.tb hJ.tf hJ.tw hJ.mO (e6.at qa) wN (N9 O1) cb ∅ Di hr (Z5 W.K.inf) λg7 e7=>?_;let W7:=W6.at e7;rw[hl];exists L6 hJ.tg.te.h6 hJ.tg.te.h7 1 (.int _) λg8 e8=>?_;let W8:=W7.at e8;let Vb:=e4.trans (e5.trans (e6.trans (e7.trans e8)));exists i7 W8.C.o rfl rfl ?_;left;let rest:∀(g9:G),Ex g8 g9->wpS (b7 T (k+14)) (match M0.body with|.seq _ (.seq _ (.seq _ (.seq _ b)))=>b|x=>x) #[λw g'=>Q .bq g',Q,λw w=>False,λw w=>False] [!.ref m,!.ref q,!.ref sr,!z] g9 E:=by
   intro g9 e9;let W9:=W8.at e9;let Am:=Vb.trans e9;dsimp[M0];exists i7 W9.C.o rfl rfl ?_;exists ay3 hJ.toTJ0 W9.C O1 cb W.K.inc hf W.K.inf ∅ (λz0 iw rT=>?_) λo JC iw z0 rT Dj=>?_
   .rcases pW with⟨_,rfl⟩|⟨o,l,h0,_,_⟩
    .exists L6 hJ.tg.te.h6 hJ.tg.te.h7 1 .bq λmQ kX=>?_;show h _ (e1.trans (ia.trans (Am.trans (rT.trans kX))))
    .rw[z0] at h0;cases h0
   .rcases pW with⟨h0,_⟩|⟨o',l,h0,uY,rfl⟩
    .rw[h0] at z0;cases z0
    .rw[z0] at h0;cases h0;let og:=PV (T9 (d0 s.hs) 2 (H9 s.hs s.fs)) (by rw[hl];show aE z0);rw[hl] at og;exists QW (a8 T _) rfl rfl ((Am.trans rT).at uY) ((Am.trans rT).at s3) (λp hp=>by rw[A5];show og.2.2 p hp) () λmQ kX=>?_;left;let iD:=Ex.snoc mQ (O.lst (uS (nums s.hs) o));show L6 hJ.tg.te.h6 hJ.tg.te.h7 1 (XE ((kX.trans iD).at Dj) b0 ()) λg13 EZ=>?_;show h _ (e1.trans (ia.trans (Am.trans (rT.trans (kX.trans (iD.trans EZ))))))
  let hm:many (d0 s.hs) 2 (H9 s.hs s.fs)≠0↔z≠.bq:=by
   unfold many;rw[hl];rcases pW with⟨h0,rfl⟩|⟨o,l,h0,_,rfl⟩
   .simp[h0]
   .refine#[λw z=>(by cases z),λw e=>?_];rw[fm.mp e] at h0;cases h0
  show ay2 hJ.toTJ0 W8.C O1 cb W.K.inc hf W.K.inf ∅ (λz0 g9 e9=>?_) (λz0 r9 g9 e9=>?_)
  .have:V2 z=false:=by
    have:=hm.mp z0;cases z<;>first|rfl|show absurd rfl this
   left;rw[this];show eB rfl (rest g9 e9)
  .have:=gQ λy=>(hm.mpr y) z0;subst this;left;show eB rfl (rest g9 e9)
 show NY hJ.tb hJ.tf hJ.tw hJ.tn hJ.mP hJ.qr (e3.at jL) wN (N9 O1) cb ∅ nR hr (Z5 W.K.inf) (λz g4 e4=>?_) λo l g4 z e4 w ho=>?_
 .rw[hl] at z;show fin _ _ (e2.trans (e3.trans e4)) (W3.at e4) (.inl #[z,rfl])
 .rw[hl] at z;show fin _ _ (e2.trans (e3.trans e4)) (W3.at e4) (.inr #[o,l,z,ho,rfl])
structure Wg(g0 g:G)(d m hd cl q qc qf:Nat)(s:Sd):Prop extends Wd g d m hd cl q qc qf s where
 fr:Gr d g0 g
def Wg.gr{g0}(W:Wg g0 g d m hd cl q qc qf s)(D':m8 g' d)(G':Gr d g g'):Wg g0 g' d m hd cl q qc qf s:=#[W.toWd.gr D' G',W.fr.trans G']
def Wg.at{g0}(W:Wg g0 g d m hd cl q qc qf s)(e:Ex g g'):Wg g0 g' d m hd cl q qc qf s:=W.gr (e.draw W.dr) (e.gr d)
def Xg(hT:TG T)(W:Wd g d m hd cl q qc qf s)(hf:-s.fs<=50)(h:∀dd g',Wg g g' d m hd cl q qc qf s->(∀k,Step T k g' m hd cl q qc qf s (λz=>True) dd)->Q dd g'):b7 T (k+6) 235 [.ref d,.ref q] g Q E:=by
 let ad:=W.A.h;let h4:=hT.te.td.h4;let O1:=W.K.K;let hz:=O1.len;let nl:=A5 s.hs;let lf':=i0 W.B.f;show call_of hT.DY rfl ?_;delta yI;exists j5 W.B.b rfl K0 ?_;exists Y9 W.B.c (by simp[gz];omega) ?_;rw[T8];exists A2 b0 O1.inc () ?_;let e1:=(Ex.snoc g (O.lst (a9 (nums s.hs)))).trans (Ex.snoc _ (O.lst (a9 (nums s.hs))));let s1:=b0 (g:=g++[O.lst (a9 (nums s.hs))]) (o:=O.lst (a9 (nums s.hs)));let ls:-g<(g++[O.lst (a9 (nums s.hs))]).length:=by simp
 generalize (g++[O.lst (a9 (nums s.hs))]).length=sr at *;generalize (g++[O.lst (a9 (nums s.hs))])++[_]=g1 at *;rw[Q3] at s1;let W1:Wg g g1 d m hd cl q qc qf s:=#[W.at e1,e1.gr d]
 let zl:((nums s.hs).map λn:Nat=>(n:Int)).length<=100:=by rw[ao];omega
 exists m5 h4 W1.dr ∅ ∅ λt g2 z z D2 G2=>?_;let W2:=W1.gr D2 G2;let s2:=G2.at () s1;let sW:∀{g3:G} {Q:KD},Wg g g3 d m hd cl q qc qf s->(∀(c:b9) g4,CB c->Wg g g4 d m hd cl q qc qf s->Q c.d g4)->b7 T (k+5) 206 [.ref d,.ref q] g3 Q E:=λW3 H =>
  aX2 hT.te hT.tU W3.B O1 W3.dr λc g4 hc D4 G4=>H c g4 hc (W3.gr D4 G4)
 let uf:∀{g3:G} {Q:KD} {c:b9},CB c->Wg g g3 d m hd cl q qc qf s->(∀(c:b9) g4,CB c->Wg g g4 d m hd cl q qc qf s->Q c.d g4)->b7 T (k+5) 14 [.ref d,c.d] g3 Q E:=λhc W3 H =>
  aM1 h4 hT.te.td.h5 hT.ED hc W3.dr λc' g5 ni D5 G5=>H c' g5 ni (W3.gr D5 G5)
 let num:∀{g3:G} {Q:KD},Wg g g3 d m hd cl q qc qf s->g3[sr]?=!(.lst (((nums s.hs).map λn:Nat=>(n:Int)).map .int))->(∀(v:Int) g4,Wg g g4 d m hd cl q qc qf s->g4[sr]?=!(.lst (((nums s.hs).map λn:Nat=>(n:Int)).map .int))->Gr d g3 g4->Q (.int v) g4)->b7 T (k+5) 37 [.ref d,.ref sr] g3 Q E:=λ{g3 Q} W3 s3 H =>
  Il hT.te.td s3 () zl W3.dr λv g4 D4 G4=>H v g4 (W3.gr D4 G4) (G4.at () s3) G4
 left;let li:∀l:@&Nat,(a9 l).length=-l:=λl=>by simp[a9]
 show if2 (λz=>?_) (λz=>?_)
 .refine jv ?_;exists sW W2 λc g3 hc W3=>?_;exists uf hc W3 λc g4 hc W4=>?_;left;show h _ g4 W4 λk=>(Pa hT.te W4.toWd hc).any
 let rest:wpS (b7 T (k+5)) (match yI.body with|.seq _ (.seq _ (.seq _ b))=>b|x=>x) #[λz g'=>Q .bq g',Q,λz z=>False,λz z=>False] [!.ref d,!.ref q,!.ref sr,!.int t,none,none,none] g2 E:=by
  dsimp[yI];exists if2 (λz=>?_) (λz=>?_)
  .exists num W2 s2 λv g3 W3 z z=>?_;exists sW W3 λc g4 hc W4=>?_;exists uf hc W4 λc g5 hc W5=>?_;left;show h _ g5 W5 λk=>(a49 hT.te W5.toWd hc).any
  exists if2 (λz=>?_) (λz=>?_)
  .exists num W2 s2 λv g3 W3 z z=>?_;left;show h _ g3 W3 λk=>(YI hT.te W3.toWd hf).any
  exists if2 (λz=>?_) (λz=>?_)
  .exists num W2 s2 λv g3 W3 s3 z=>?_;exists num W3 s3 λu g4 W4 z z=>?_;left;show h _ g4 W4 λk=>(bc4 hT.te W4.toWd hf).any
  exists if2 (λz=>?_) (λz=>?_)
  .exists j5 W2.B.b rfl V7 ?_;exists Y9 W2.B.f (by simp[iC];omega) ?_;rw[Bf];exists A2 b0 W.K.inc (by rw[A5];show hf) ?_;let e3:=(Ex.snoc g2 (O.lst (a9 (nums s.fs)))).trans (Ex.snoc _ (O.lst (a9 (nums s.fs))));let s3:=b0 (g:=g2++[O.lst (a9 (nums s.fs))]) (o:=O.lst (a9 (nums s.fs)));rw[Q3] at s3;left;let W3:=W2.at e3;let l2:=(e1.gr d).trans G2;let l2:=l2.len;show Il hT.te.td (by rw[Q3] at *;show s3) (by simp;omega) (by simp[nums];omega) W3.dr λv g4 D4 G4=>?_;left;show h _ g4 (W3.gr D4 G4) λk=>(aW6 hT.te (W3.gr D4 G4).toWd).any
  exists bD2 h4 hT.DW W2.dr λx g3 ho D3 G3=>?_;let W3:=W2.gr D3 G3;let s3:=G3.at () s2;exists Qe hT.te hT.qo W3.B O1 W3.dr () λv g4 D4 G4=>?_;let W4:=W3.gr D4 G4;let s4:=G4.at () s3;exists if2 (λz=>?_) (λz=>?_)
  .exists Qe hT.te hT.qo W4.B O1 W4.dr () λu g5 D5 G5=>?_;left;show h _ g5 (W4.gr D5 G5) λk=>YH hT.te (W4.gr D5 G5).toWd ho
  exists M6 (a8 T _) (iV (a8 T _) ?_);exists yw hT.te.td W4.B O1.inc () λg5 r5 e5 l5 qa=>?_;let W5:=W4.at e5;let s5:=e5.at s4;let n5:(numsOf s.hs (fX x) v).length<=9:=aC (numsOf_len _ _ _) hz;let l5':d<r5:=by have:=i0 s4;omega
  show#[r5,_,rfl,a7 qa,a9 (numsOf s.hs (fX x) v),λi ys σ g'=>m8 g' d/\Gr d g5 g'/\(∃ns:@&Int,ys=ns.map .int)/\-ys<=i/\∃z1 z2,σ=[!.ref d,z1,z2],by rw[li];omega,λi ys σ g' p=>#[m9 (a7 (p.2.1.at () qa)),p.2.2.2.1],#[W5.dr,Gr.refl _ _,#[[],rfl],by simp,none,none,rfl],λi y ys σ g' hy p=>?_,λys σ g6 p=>?_]
  .let#[D6,G6,#[ns,rfl],hl,z1,z2,rfl]:=p;rw[a9,ag,aa] at hy;let#[j,_,rfl]:=hy;show j8 ?_;exists m5 h4 D6 ∅ ∅ λr g7 z z D7 G7=>?_;exists if2 (λz=>?_) (λz=>?_)
   .left;show#[D7,G6.trans G7,#[ns++[(j:Int)],by simp],by simp at hl ⊢;omega,_,_,rfl]
   .exact#[D7,G6.trans G7,#[ns,rfl],by omega,_,_,rfl]
  let#[D6,G6,#[ns,rfl],hl,z1,z2,rfl]:=p;rw[li,ao] at hl;let W6:=W5.gr D6 G6;let e7:=Ex.snoc g6 (O.lst (ns.map D.int));let s7:=b0 (g:=g6) (o:=O.lst (ns.map D.int));let W7:=W6.at e7;let t7:=e7.at (G6.at () s5);let l7:=i0 (G6.at () s5);generalize g6++[_]=g7 at *;generalize (-g6)=r7 at *;exists num W7 t7 λv2 g8 W8 z G8=>?_;let s8:=G8.at () s7;left;let e9:=Ex.snoc g8 (O.lst [D.int v2]);let s9:=b0 (g:=g8) (o:=O.lst [D.int v2]);let W9:=W8.at e9;let r9:=e9.at s8;let l9:=W8.dr.lt;generalize g8++[_]=g9 at *;generalize (-g8)=u9 at *;show m5 h4 W9.dr ∅ ∅ λr iw z z IZ IY=>?_;let IP:=W9.gr IZ IY;let wu:=IY.at () s9;let JC:=IY.at () r9;left;obtain⟨ms,tJ,fin⟩:∃ms:@&Int,(-ms)<=1/\(∀{Q:KD},Q (.ref (-iw)) (iw++[.lst (ms.map .int)])->cI (.bin .Mult) [.ref u9,.int (if decide (r=0)=true then 1 else 0)] iw Q):=by
   by_cases hr:r=0
   .refine#[[v2],by simp,λq=>?_];rw[aG hr];show Nl wu ∅ ∅ #[_] q
   .refine#[[],by simp,λq=>?_];rw[aA hr];show Nl wu ∅ ∅ #[_] q
  show fin ?_;let kX:=Ex.snoc iw (O.lst (ms.map D.int));let RX:=b0 (g:=iw) (o:=O.lst (ms.map D.int));let Sk:=kX.at JC;let IM:=IP.at kX;generalize iw++[_]=mQ at *;generalize (-iw)=u11 at *;exists b89 Sk RX (by simp;omega) ?_;let iD:=Ex.snoc mQ (O.lst (ns.map D.int++ms.map D.int));let zG:=b0 (g:=mQ) (o:=O.lst (ns.map D.int++ms.map D.int));let Rf:=IM.at iD;let k1:=i0 IM.C.c;let k2:=i0 IM.B.f;left;show h _ _ Rf λk=>YK hT.te Rf.toWd ho (by rw[bB];show zG) (by simp;omega) ()
 left;rw[ao,ao];show if2 (λz=>?_) (λz=>?_)
 .exists if2 (λz=>?_) (λz=>?_)
  .exists sW W2 λc g3 hc W3=>?_;exists uf hc W3 λc g4 hc W4=>?_;left;show h _ g4 W4 λk=>(Pa hT.te W4.toWd hc).any
  .exact rest
 .exact qK rest
end
def vM:aQ:=#[1,10,(dH 1 (eT 3 ay) (dH 2 (bV .lst (.make "Cabinet" 208 .nil) (.make "Cabinet" 208 .nil)) (dH 3 (bV .lst (.call 195 .nil) (.call 195 .nil)) (oh (.one 4) (.fo (bV (.bin .Add) (aT 12) (dq 4 aN (aT 29)))) (dH 5 (dq 4 aN (bZ .len aV)) (dH 6 (.prim .lst (mD (.bJ "numbers" [("Cabinet",221)] (bw aV dY) .nil) (.bJ "coins" [("Cabinet",223)] (bw aV dY) .nil) (.bJ "facts" [("Cabinet",224)] (bw aV dY) .nil))) (dH 8 (.comp [] 2 (.one 1) (.eQ fQ) .no (bZ .list aN)) (gi (.ifs (cK .Eq (dq 4 aN (aT 7)) (aT 0)) (jn (.dX .append aV (gb (.bJ "twin" [("Cabinet",230)] (bw aV dY) .nil))) (jn (.dX .append bz (gb (eT 269 (bw bz dY)))) (eE (.ifs (cK .Gt (bZ .len aV) (aT 3)) (jn (.dX .pop aV (gb (aT 0))) (eE (.expr (.dX .pop bz (gb (aT 0)))))) .pass)))) (dH 9 (dq 235 aN (bw bz dY)) (eE (.ifs (.du (.eP (dq 191 (dq 234 (bw aV dY) pS) (dq 204 (bw bz dY) pS)))) (bN (.lit (.bl false))) .pass)))) (dE (cK .NotEq fQ sZ) (bN (.lit (.bl false))) (oh (.one 7) (.eQ fQ) (eE (.expr (.dX .clear kR .nil))) (eE (.ifs (cK .Eq (dq 4 aN (aT 3)) (aT 0)) (eE (.ifs (.du (.eP (bZ .all (.comp [2,3] 4 (.one 3) (.fo (bZ .len aV)) .no (dq 207 (bw ay bz) (bw aN bz)))))) (bN (.lit (.bl false))) .pass)) .pass)))))))) (dE (.du (.eP (bZ .all (.comp [2,3] 4 (.one 3) (.fo (bZ .len aV)) .no (dq 207 (bw ay bz) (bw aN bz)))))) (bN (.lit (.bl false))) (bN (bZ .all (.comp [2,3] 4 (.one 3) (.fo (bZ .len aV)) .no (dq 270 (bw ay bz) (bw aN bz))))))))))]
structure Rg(T:Nat->Option aQ):Prop where
 tj:TJ T
 h3:T 3=!Bs
 UK:T 11=!vM
structure Pc where
 m:Nat
 hd:Nat
 cl:Nat
 q:Nat
 qc:Nat
 qf:Nat
 s:Sd
def Pc.ce(X:Pc)(x:Nat):Prop:=Ce X.m X.hd X.cl X.q X.qc X.qf x
noncomputable abbrev Pc.wd(X:Pc)(g:G)(d:Nat):Prop:=Wd g d X.m X.hd X.cl X.q X.qc X.qf X.s
structure gP(g:G)(d gl rl n:Nat)(ws:@&Pc):Prop where
 dr:m8 g d
 lg:g[gl]?=!.lst (ws.map λX=>.ref X.m)
 lr:g[rl]?=!.lst (ws.map λX=>.ref X.q)
 one:∀(i:Nat) X,ws[i]?=!X->X.wd g d/\X.s.lf<=n/\¬X.ce gl/\¬X.ce rl
 sep:∀(i j:Nat) X Y,ws[i]?=!X->ws[j]?=!Y->i≠j->∀x,X.ce x->¬Y.ce x
 dl:d<gl/\d<rl/\gl≠rl
 z:2<=-ws/\-ws<=4
section
variable{T:Nat->Option aQ}{d gl rl:Nat}{g1:G}{ws:@&Pc}{X:Pc}{hi:Nat}{s:Sd}
def Wd.keep(W:Wd g d m hd cl q qc qf s)(D':m8 g' d)(k:∀x o,Ce m hd cl q qc qf x->g[x]?=!o->g'[x]?=!o):Wd g' d m hd cl q qc qf s :=
 #[D',#[k _ _ (.inl rfl) W.C.o,k _ _ (.inr (.inl rfl)) W.C.h,k _ _ (.inr (.inr (.inl rfl))) W.C.c],#[k _ _ (.inr (.inr (.inr (.inl rfl)))) W.B.b,k _ _ (.inr (.inr (.inr (.inr (.inl rfl))))) W.B.c,k _ _ (.inr (.inr (.inr (.inr (.inr rfl))))) W.B.f],W.K,W.A]
def Wd.lt(W:Wd g d m hd cl q qc qf s){x}(h:Ce m hd cl q qc qf x):d<x/\x< -g:=by
 let ad:=W.A.h;let h1:=i0 W.C.o;let h2:=i0 W.C.h;let h3:=i0 W.C.c;let h4:=i0 W.B.b;let h5:=i0 W.B.c;let h6:=i0 W.B.f;unfold Ce at h;omega
def gP.keep(J:gP g d gl rl n ws)(D':m8 g' d)(k:∀x o,(x=gl\/x=rl\/∃X∈ws,X.ce x)->g[x]?=!o->g'[x]?=!o):gP g' d gl rl n ws :=
 #[D',k _ _ (.inl rfl) J.lg,k _ _ (.inr (.inl rfl)) J.lr,λi X hX=>#[(J.one i X hX).1.keep D' λx o hx e=>k x o (.inr (.inr #[X,aE hX,hx])) e,(J.one i X hX).2],J.sep,J.dl,J.z]
def gP.up(J:gP g d gl rl n ws)(h:n<=m):gP g d gl rl m ws:=#[J.dr,J.lg,J.lr,λi X hX=>let ⟨a,b,c⟩:=J.one i X hX;#[a,aC b h,c],J.sep,J.dl,J.z]
def gP.ex(J:gP g d gl rl n ws)(e:Ex g g'):gP g' d gl rl n ws:=J.keep (e.draw J.dr) λx o y h=>e.at h
def gP.cell(J:gP g d gl rl n ws){x}(h:x=gl\/x=rl\/∃X∈ws,X.ce x):d<x/\x< -g:=by
 let dl:=J.dl;rcases h with rfl|rfl|⟨X,hX,hx⟩
 .exact#[dl.1,i0 J.lg]
 .exact#[dl.2.1,i0 J.lr]
 .let#[i,hi]:=cO.mp hX;show(J.one i X hi).1.lt hx
def gP.gr(J:gP g d gl rl n ws)(D':m8 g' d)(G':Gr d g g'):gP g' d gl rl n ws:=J.keep D' λx o hx e=>G'.at (by have:=J.cell hx;omega) e
def OU{l:List α}{x:α}(h:l[i]?=!x):l.set i x=l:=fB λj=>by
 by_cases e:i=j
 .subst e;rw[aW (ak.mp h).1,h]
 .rw[aH e]
def gP.upd(J:gP g d gl rl n ws){ic}(hX:ws[i]?=!X){s'}(W:Wd g' d X.m X.hd ic X.q X.qc X.qf s')(hl:s'.lf<=n)(F:Fc X.m X.hd X.cl X.q X.qc X.qf g g')(hc:ic=X.cl\/-g<=ic):gP g' d gl rl n (ws.set i { X with cl:=ic,s:=s' }):=by
 let li:=(ak.mp hX).1;let at_:∀(j:Nat) Y,(ws.set i { X with cl:=ic,s:=s' })[j]?=!Y->(j=i/\Y={ X with cl:=ic,s:=s' })\/(j≠i/\ws[j]?=!Y):=λj Y h=>by
  by_cases e:j=i
  .subst e;rw[aW li] at h;cases h;show .inl #[rfl,rfl]
  .rw[aH (aX e)] at h;show .inr #[e,h]
 let ce:∀x,({ X with cl:=ic,s:=s' }:Pc).ce x->X.ce x\/-g<=x:=λx hx=>by
  unfold Pc.ce Ce at hx ⊢;dsimp only at hx;omega
 let lg:=i0 J.lg;let lr:=i0 J.lr;let#[_,_,o1,o2]:=J.one i X hX;show#[W.dr,?_,?_,λj Y h=>?_,λj1 j2 Y1 Y2 h1 h2 ne x zR nQ=>?_,J.dl,by rw[gk];show J.z]
 .rw[F.at o1 J.lg,List.map_set]
  congr 1
  show dJ O.lst (OU (by rw[ag,hX];rfl)).symm
 .rw[F.at o2 J.lr,List.map_set]
  congr 1
  show dJ O.lst (OU (by rw[ag,hX];rfl)).symm
 .rcases at_ j Y h with⟨rfl,rfl⟩|⟨ne,h⟩
  .exact#[W,hl,λz=>by rcases ce _ z with z|z;show o1 z;omega,λz=>by rcases ce _ z with z|z;show o2 z;omega]
  .let#[W2,r]:=J.one j Y h;show#[W2.keep W.dr λx o hx e=>F.at (λz=>J.sep j i Y X h hX ne x hx z) e,r]
 .rcases at_ _ _ h1 with⟨rfl,rfl⟩|⟨n1,k1⟩<;>rcases at_ _ _ h2 with⟨rfl,rfl⟩|⟨n2,k2⟩
  .exact ne rfl
  .rcases ce x zR with z|z
   .exact J.sep _ _ X Y2 hX k2 ne x z nQ
   .have:=(J.one _ Y2 k2).1.lt nQ;omega
  .rcases ce x nQ with z|z
   .exact J.sep _ _ Y1 X k1 hX ne x zR z
   .have:=(J.one _ Y1 k1).1.lt zR;omega
  .exact J.sep _ _ Y1 Y2 k1 k2 ne x zR nQ
def Hl(g:G)(lo hi:Nat)(as:@&Nat)(ls:@&(@&D)):Prop:=-as=-ls/\∀(i:Nat) a l,as[i]?=!a->ls[i]?=!l->lo<=a/\a<hi/\g[a]?=!.lst l
def vI(l:@&D):Prop:=∀g:G,∃ps,l.mapM (rd g 4)=!ps/\PyData.canLayAll0 ps=true
def Hl.keep(h:Hl g lo hi as ls)(k:∀x o,lo<=x->x<hi->g[x]?=!o->g'[x]?=!o):Hl g' lo hi as ls:=#[h.1,λi a l ha hl=>let ⟨h1,h2,h3⟩:=h.2 i a l ha hl;#[h1,h2,k _ _ h1 h2 h3]]
def Zh(hP:j4 P){σ}{e v}(hv:σ[v]?=!!.ref e)(he:g[e]?=!.lst (as.map .ref))(hs:Hl g lo hi as ls)(hz:-ls<=100)(h:∀iY g',Ex g g'->Hl g' (-g) (-g') iY ls->Q (.ref (-g')) (g'++[.lst (iY.map .ref)])):aY P (.comp [] 2 (.one 1) (.eQ (.var v)) .no (.prim .list (.cons (.var 1) .nil))) σ g Q E:=by
 show M6 hP (iV hP ?_);show w_var hv ?_;show#[e,_,rfl,a7 he,as.map .ref,λi ys σ g'=>(∃z0 z1,σ=[z0,z1])/\Ex g g'/\∃iY,ys=iY.map .ref/\Hl g' (-g) (-g') iY (ls.take i)/\i<=-ls,by rw[ao,hs.1];omega,λi ys σ g' p=>?_,#[#[_,_,rfl],Ex.refl _,[],rfl,#[rfl,λi a l z=>by simp at z],cj _],λi y ys σ g' hy p=>?_,λys σ g' p=>?_]
 .let#[_,e1,iY,rfl,hh,gT]:=p;show#[m9 (a7 (e1.at he)),?_];rw[ao,hh.1,bE];omega
 .let#[#[z0,z1,rfl],e1,iY,rfl,hh,gT]:=p;rw[ag,aa] at hy;let#[a,ha,rfl]:=hy;let li:i< -ls:=by rw[<- hs.1];show(ak.mp ha).1
  obtain⟨l,hl⟩:∃l,ls[i]?=!l:=#[ls[i],aj li]
  let q:=(hs.2 i a l ha hl).2.2;show j8 ?_;exists Iz (a7 (e1.at q)) ?_;let l1:=e1.len;show#[#[_,_,rfl],e1.trans (Ex.snoc _ _),iY++[(-g')],by simp,#[by rw[cq,hh.1,bE,bE];simp;omega,λj b m hb hm=>?_],by omega];let la:-iY=i:=by rw[hh.1,bE];omega
  rw[cq];by_cases c:j<i
  .rw[aF ()] at hb;rw[cR ()] at hm;let#[h1,h2,h3]:=hh.2 j b m hb (by rw[cR c];show hm);show#[h1,by omega,(Ex.snoc _ _).at h3]
  .have:j=i:=by
    have:=(ak.mp hb).1;simp at this;omega
   subst this;rw[<- la,br (av _),Nat.sub_self] at hb;cases hb;rw[cR (),hl] at hm;cases hm;show#[l1,by simp,b0]
 .let#[_,e1,iY,rfl,hh,_]:=p;rw[ao,hs.1,bt] at hh;show h iY g' e1 hh
def Lh:∀{as:@&Nat} {ls:@&(@&D)},Hl g lo hi as ls->(∀l∈ls,vI l)->∃ps,(as.map D.ref).mapM (rd g 5)=!ps/\PyData.canLayAll0 ps=true/\(∀sY gT (bs:@&Nat),Hl g sY gT bs ls->(bs.map D.ref).mapM (rd g 5)=!ps)
 |[],ls,h,_=>by
  have:=fm.mp h.1.symm;subst this;show#[[],rfl,rfl,λx x bs hb=>by rw[fm.mp hb.1];rfl]
 |a::as,[],h,_=>by cases h.1
 |a::as,l::ls,h,hy=>by
  let tl:∀{lo hi:Nat} {a:Nat} {as:@&Nat},Hl g lo hi (a::as) (l::ls)->Hl g lo hi as ls:=λh=>#[Nat.succ.inj h.1,λi b m hb hm=>h.2 (i+1) b m hb hm]
  let#[ps,h1,h2,h3]:=Lh (tl h) λl hl=>hy l (by simp[hl]);let#[p,q1,q2]:=hy l #[_] g;let rr:∀{a:Nat},g[a]?=!.lst l->rd g 5 (.ref a)=!.list p:=λha=>by
   simp only[rd];rw[a7 ha];dsimp only;rw[q1]
   rfl
  show#[.list p::ps,?_,by simp[PyData.canLayAll0,PyData.canLay0,q2,h2],λsY gT bs hb=>?_]
  .rw[bD,eJ,rr (h.2 0 a l rfl rfl).2.2,h1]
   rfl
  .cases bs with
   |nil=>cases hb.1
   |cons b bs =>
    rw[bD,eJ,rr (hb.2 0 b l rfl rfl).2.2,h3 _ _ bs (tl hb)]
    rfl
def FW{e e' sY gT}{iY}(he:g[e]?=!.lst (as.map .ref))(qg:g[e']?=!.lst (iY.map .ref))(h1:Hl g lo hi as ls)(h2:Hl g sY gT iY ls)(hy:∀l∈ls,vI l)(h:Q (.bl false) g):cI (.cmp .NotEq) [.ref e,.ref e'] g Q:=by
 let#[ps,p1,p2,p3]:=Lh h1 hy;let hl:(PyData.list ps).canLay0=true:=by simpa[PyData.canLay0] using p2
 let f1:rd g 6 (.ref e)=!.list ps:=by
  simp only[rd];rw[a7 he];dsimp only;rw[p1]
  rfl
 let f2:rd g 6 (.ref e')=!.list ps:=by
  simp only[rd];rw[a7 qg];dsimp only;rw[p3 _ _ iY h2]
  rfl
 show BJ #[true,.inr (.inr (.inr #[_,_,f1,f2,hl,hl,(PySem.SeqAt.eqv_refl _ hl).symm])),h]
def gP.add(J:gP g d gl rl n ws){Y}(k:∀x o,x≠gl->x≠rl->g[x]?=!o->g'[x]?=!o)(D':m8 g' d)(Tw:g'[gl]?=!(.lst ((ws++[Y]).map λX=>.ref X.m)))(Tu:g'[rl]?=!(.lst ((ws++[Y]).map λX=>.ref X.q)))(W:Y.wd g' d)(hn:Y.s.lf<=n)(hY:∀x,Y.ce x->-g<=x)(hz:-ws<=3):gP g' d gl rl n (ws++[Y]):=by
 let at_:∀(j:Nat) Z,(ws++[Y])[j]?=!Z->(ws[j]?=!Z/\j< -ws)\/(j=-ws/\Z=Y):=λj Z h=>by
  by_cases c:j< -ws
  .rw[aF c] at h;show .inl #[h,c]
  .have:j=-ws:=by
    have:=(ak.mp h).1;simp at this;omega
   subst this;rw[br (av _),Nat.sub_self] at h;cases h;show .inr #[rfl,rfl]
 let l1:=i0 J.lg;let l2:=i0 J.lr;show#[D',Tw,Tu,λj Z h=>?_,λi j A B hi hj ne x hx nQ=>?_,J.dl,by have:=J.z;simp;omega]
 .rcases at_ j Z h with⟨h,_⟩|⟨rfl,rfl⟩
  .let#[W1,h1,h2,h3]:=J.one j Z h;show#[W1.keep D' λx o hx e=>k x o (λz=>h2 (z▸hx)) (λz=>h3 (z▸hx)) e,h1,h2,h3]
  .exact#[W,hn,λz=>by have:=hY _ z;omega,λz=>by have:=hY _ z;omega]
 .rcases at_ i A hi with⟨ki,_⟩|⟨rfl,rfl⟩<;>rcases at_ j B hj with⟨kj,_⟩|⟨rfl,rfl⟩
  .exact J.sep i j A B ki kj ne x hx nQ
  .have:=(J.one i A ki).1.lt hx;have:=hY x nQ;omega
  .have:=(J.one j B kj).1.lt nQ;have:=hY x hx;omega
  .exact ne rfl
def gP.tl(J:gP g d gl rl n (X::ws))(hz:-ws=3):gP ((g.set gl (.lst (ws.map λX=>.ref X.m))).set rl (.lst (ws.map λX=>.ref X.q))) d gl rl n ws:=by
 let#[d1,d2,d3]:=J.dl;let D':m8 ((g.set gl (.lst (ws.map λX=>.ref X.m))).set rl (.lst (ws.map λX=>.ref X.q))) d:=by
  let#[u,v,w,x,xs,e1,e2,e3,e4]:=J.dr.ex;show#[u,v,w,x,xs,c7 (c7 e1 ()) (),c7 (c7 e2 ()) (),e3,e4]
 show#[D',c7 (get_set J.lg) (aX d3),get_set (c7 J.lr d3),λj Z h=>?_,λi j A B hi hj ne=>J.sep (i+1) (j+1) A B hi hj (),J.dl,by omega];let#[W1,h1,h2,h3]:=J.one (j+1) Z h;show#[W1.keep D' λx o hx e=>c7 (c7 e λz=>h2 (z▸hx)) λz=>h3 (z▸hx),h1,h2,h3]
def Hl.mem(h:Hl g lo hi as ls)(ha:a∈as):lo<=a/\a<hi:=by
 let#[j,hj]:=cO.mp ha;let#[h1,h2,_]:=h.2 j a (ls[j]'(by rw[<- h.1];show(ak.mp hj).1)) hj (aj _);show#[h1,h2]
def Ze(hP:j4 P){σ0:@&(Option D)}{z7 z8 z9:Option D}{e:Nat}(h6:σ0.length=6)(he:g[e]?=!.lst (as.map .ref))(hs:Hl g lo hi as ls)(ne:e∉as)(hz:-ls<=100)(h:∀z7 g',(∀x o,x∉as->g[x]?=!o->g'[x]?=!o)->N.nx (σ0++[!.ref e,z7,z8,z9]) g') :
  wpS P (.gL (.one 7) (.eQ (.var 6)) (.seq (.expr (.dX .clear (.var 7) .nil)) .pass)) N (σ0++[!.ref e,z7,z8,z9]) g E:=by
 let v6:∀z7,(σ0++[!.ref e,z7,z8,z9])[6]?=!!.ref e:=λz7=>by rw[br (),h6];rfl
 show L9 hP (iV hP (w_var (v6 _) ?_));show#[e,_,rfl,a7 he,as.map .ref,λi σ g'=>(∃z7,σ=σ0++[!.ref e,z7,z8,z9])/\(∀x o,x∉as->g[x]?=!o->g'[x]?=!o)/\∀(j:Nat) a,as[j]?=!a->∃l,g'[a]?=!.lst l,λi σ g' p=>m9 (a7 (p.2.1 _ _ ne he)),#[#[_,rfl],λw w w h=>h,λj a ha=>?_],λi y σ g' hy p=>?_,λσ g' p=>?_]
 .obtain⟨l,hl⟩:∃l,ls[j]?=!l:=#[ls[j]'(by rw[<- hs.1];show(ak.mp ha).1),aj _]
  show#[l,(hs.2 j a l ha hl).2.2]
 .let#[#[z7,rfl],h2,h3]:=p;rw[ag,aa] at hy;let#[a,ha,rfl]:=hy;let#[l,hl]:=h3 i a ha;let ma:=aE ha;let e7:(σ0++[!.ref e,z7,z8,z9]).set 7 (!.ref a)=σ0++[!.ref e,!.ref a,z8,z9]:=by
   rw[List.set_append_right _ _ (),h6]
   rfl
  show j8 ?_;rw[e7];show II (Mx (My (w_var (by rw[br (),h6];rfl) #[XG hl,By (bI2 hl ?_)])));show#[#[_,rfl],λx o hx e=>c7 (h2 x o hx e) λz=>hx (z▸ma),λj b hb=>?_];by_cases c:b=a
  .subst c;show#[[],get_set hl]
  .let#[m,hm]:=h3 j b hb;show#[m,c7 hm (aX c)]
 .let#[#[z7,rfl],h2,_]:=p;show h z7 g' h2
def HX{f}(hP:j4 P){σ}(hc:P0 σ [2,3] 4=[!.ref gl,!.ref rl,none,none])(h2:σ[2]?=!!.ref gl)(J:gP g d gl rl n ws)(hf:∀(i:Nat) X g' Q,ws[i]?=!X->X.wd g' d->X.s.lf<=n->(∀KJ,Ex g' KJ->Q (.bl true) KJ)->P f [.ref X.m,.ref X.q] g' Q jD)(h:∀g',Ex g g'->Q (.bl true) g'):aY P (.prim .all (.cons (.comp [2,3] 4 (.one 3) (.fo (.prim .len (.cons (.var 2) .nil))) .no (.call f (.cons (.prim .ix (.cons (.var 0) (.cons (.var 3) .nil))) (.cons (.prim .ix (.cons (.var 1) (.cons (.var 3) .nil))) .nil)))) .nil)) σ g Q E:=by
 let jz:=J.z;show vS ?_;show comp_map hP (λσ=>∃z2 z3,σ=[!.ref gl,!.ref rl,z2,z3]) (λy=>.bl true) (k:=.fix (E1 0 (-ws))) (λg' e=>L4) (by rw[N8];omega) #[none,none,hc] (λi x σ g' hx e sh=>?_) (λg' e=>?_) (FA hP () λQ q=>?_)
 .let#[z2,z3,rfl]:=sh;let#[hi,rfl]:=T4 hx;obtain⟨X,hX⟩:∃X,ws[i]?=!X:=#[ws[i],aj hi]
  let J1:=J.ex e;let#[W,hl,_]:=J1.one i X hX;rw[gE];show j8 ?_;exists u4 (a7 J1.lg) (D9 (by rw[ag,hX];rfl)) ?_;exists u4 (a7 J1.lr) (D9 (by rw[ag,hX];rfl)) ?_;show hf i X g' _ hX W hl λg2 e2=>#[rfl,e.trans e2,_,_,rfl]
 .refine yU (a7 b0) ?_ (h _ (e.trans (Ex.snoc _ _)));rw[show(List.range (E1 0 (-ws)).length).map (λy=>D.bl true)=((List.range (E1 0 (-ws)).length).map λy=>true).map D.bl by simp,yN];simp
 .refine vS (w_var h2 (uB (a7 J.lg) ?_));simpa using q
def m8.kp(D0:m8 g d)(k:∀x o,x<=d->g[x]?=!o->g'[x]?=!o):m8 g' d:=by
 let#[u,v,w,x,xs,e1,e2,e3,e4]:=D0.ex;show#[u,v,w,x,xs,k _ _ (av _) e1,k _ _ () e2,e3,e4]
def Hl.mono{sY gT}(h:Hl g lo hi as ls)(h1:sY<=lo)(h2:hi<=gT):Hl g sY gT as ls:=#[h.1,λi a l ha hl=>let ⟨a1,a2,a3⟩:=h.2 i a l ha hl;#[aC h1 a1,aB a2 h2,a3]]
def ZE:vI (a9 l):=λg=>#[l.map λ(n:Nat)=>.int n,by
 induction l with
 |nil=>rfl
 |cons n r ih=>rw[a9,bD,eJ,show rd g 4 (D.int (n:Nat))=some (.int n) from rfl];rw[a9] at ih;rw[ih];rfl,by
 induction l with
 |nil=>rfl
 | cons n r ih=>simp [PyData.canLayAll0,PyData.canLay0,ih]]
def a80:vI (cs.map b9.d):=λg=>#[cs.map b9.py,by
 induction cs with
 |nil=>rfl
 |cons c r ih=>rw[bD,eJ,bE9 c,ih];rfl,by
 have:=ZC cs;simpa [PyData.canLay0] using this]
def ZD:vI (fs.map λf=>.tup [.int (f.1:Nat),.int f.2.1,.int f.2.2]):=λg=>#[fs.map λf=>.tuple [.int (f.1:Nat),.int f.2.1,.int f.2.2],by
 induction fs with
 |nil=>rfl
 |cons f r ih=>rw[bD,eJ,ih];rfl,by
 induction fs with
 |nil=>rfl
 | cons f r ih=>simp [PyData.canLayAll0,PyData.canLay0,ih]]
def bL6(hT:Rg T)(J:gP g d gl rl n ws)(hz:-ws<=3)(hn:n<=40){z4 z5 z6 z7 z8 z9}(hN:∀g' nB z5 z6 z7 z8 z9,gP g' d gl rl (n+1) nB->-nB<=3->N.nx [!.ref 0,!.ref d,!.ref gl,!.ref rl,z4,z5,z6,z7,z8,z9] g') :
  wpS (b7 T (k+16)) (match vM.body with|.seq _ (.seq _ (.seq _ (.seq (.gL _ _ b) _)))=>b|x=>x) N [!.ref 0,!.ref d,!.ref gl,!.ref rl,z4,z5,z6,z7,z8,z9] g E:=by
 let h4:=hT.tj.tg.te.td.h4;let hC:=hT.tj.tg.te.tc;let jz:=J.z;let dl:=J.dl;let lg:=J.lg;dsimp[vM];exists m5 h4 J.dr (by simp;omega) (by simp;omega) λr g1 r0 r1 D1 G1=>?_;rw[ao] at r1;obtain⟨i,rfl⟩:∃i:Nat,r=i:=#[r.toNat,by omega]
 let li:i< -ws:=by omega
 obtain⟨X,hX⟩:∃X,ws[i]?=!X:=#[ws[i],aj li]
 let J1:=J.gr D1 G1;clear lg;let#[W1,lf1,_,_]:=J1.one i X hX;let K:=W1.K;let fl:=K.fl;let hl9:=K.K.len;let aL:∀{g:G},gP g d gl rl n ws->d7 g gl=!(ws.map λX=>.ref X.m):=λJ=>a7 J.lg;let yf:iX (ws.map λX=>D.ref X.m) (i:Int)=!.ref X.m:=D9 (by rw[ag,hX];rfl);let Gi:iX (ws.map λX=>D.ref X.q) (i:Int)=!.ref X.q:=D9 (by rw[ag,hX];rfl);exists u4 (aL J1) yf ?_;exists i7 W1.C.o rfl rfl ?_;exists P8 hC W1.C K.K.inc () ?_;let e2:=Ex.snoc g1 (O.lst (a9 (nums X.s.hs)));let s2:=b0 (g:=g1) (o:=O.lst (a9 (nums X.s.hs)));let l2:(g1++[O.lst (a9 (nums X.s.hs))]).length=-g1+1:=by simp
 generalize g1++[O.lst (a9 (nums X.s.hs))]=g2 at *;let J2:=J1.ex e2;let#[W2,_]:=J2.one i X hX;exists u4 (aL J2) yf ?_;exists i7 W2.C.o rfl rfl ?_;exists u2 hC W2.C K.K.inc () λg3 b e3 lb hb=>?_;let J3:=J2.ex e3;let#[W3,_]:=J3.one i X hX;exists u4 (aL J3) yf ?_;exists i7 W3.C.o rfl rfl ?_;exists FQ hC W3.C K.inc () λg4 c e4 lc hc=>?_;let J4:=J3.ex e4;let l3:=e3.len;let l4:=e4.len;let kb:=i0 hb;let kc:=i0 hc;left;let e5:=Ex.snoc g4 (O.lst [D.ref (-g1),.ref b,.ref c]);let s5:(g4++[O.lst [D.ref (-g1),.ref b,.ref c]])[(-g4)]?=!(.lst ([(-g1),b,c].map .ref)):=b0;let l5:(g4++[O.lst [D.ref (-g1),.ref b,.ref c]]).length=-g4+1:=by simp
 let b5:=e5.at (e4.at hb);let c5:=e5.at hc;let a5:=e5.at (e4.at (e3.at s2));generalize g4++[O.lst [D.ref (-g1),.ref b,.ref c]]=g5 at *;let J5:=J4.ex e5;let hs:Hl g5 (-g1) (-g4) [(-g1),b,c] [a9 (nums X.s.hs),(d0 X.s.hs).map b9.d,X.s.fs.map λf=>.tup [.int (f.1:Nat),.int f.2.1,.int f.2.2]]:=#[rfl,λj a l ha hl=>by
  match j with
  |0=>cases ha;cases hl;show#[Nat.le_refl _,by omega,a5]
  |1=>cases ha;cases hl;show#[by omega,by omega,b5]
  |2=>cases ha;cases hl;show#[by omega,by omega,c5]
  | j + 3=>cases ha]
 let hy:∀l∈[a9 (nums X.s.hs),(d0 X.s.hs).map b9.d,X.s.fs.map λf=>.tup [.int (f.1:Nat),.int f.2.1,.int f.2.2]],vI l:=λl hl=>by
  simp only[List.mem_cons,List.mem_nil_iff,or_false] at hl;rcases hl with rfl|rfl|rfl
  .exact ZE
  .exact a80
  .exact ZD
 let pW:[a9 (nums X.s.hs),(d0 X.s.hs).map b9.d,X.s.fs.map λf=>.tup [.int (f.1:Nat),.int f.2.1,.int f.2.2]].length<=100:=by simp
 generalize [a9 (nums X.s.hs),(d0 X.s.hs).map b9.d,X.s.fs.map λf=>D.tup [.int (f.1:Nat),.int f.2.1,.int f.2.2]]=ls at *;generalize [(-g1),b,c]=as at *;show Zh (a8 T _) rfl s5 hs pW λiY g6 e6 JW=>?_;let l6:=e6.len;let e7:=Ex.snoc g6 (O.lst (iY.map D.ref));let s7:=b0 (g:=g6) (o:=O.lst (iY.map D.ref));let l7:(g6++[O.lst (iY.map D.ref)]).length=-g6+1:=by simp
 generalize g6++[O.lst (iY.map D.ref)]=g7 at *;let t7:=e7.at (e6.at s5);let wV:Hl g7 (-g1) (-g7) as ls:=(hs.mono (av _) ()).keep λx o w w h=>e7.at (e6.at h);let tH:Hl g7 (-g1) (-g7) iY ls:=(JW.mono () ()).keep λx o w w h=>e7.at h;let J7:=J5.ex (e6.trans e7);let fE:-g4∉as:=λz=>by have:=hs.mem z;omega
 let low:∀{x:Nat},(x=gl\/x=rl\/∃X∈ws,X.ce x)->d<x/\x< -g1:=λh=>J1.cell h;let lgl:=low (.inl rfl);let lrl:=low (.inr (.inl rfl));generalize (-g1)=lo at *;generalize hhi:-g7=hi at *;let lR:-g4<hi/\-g6<hi/\lo<=-g4/\lo<=-g6:=by omega
 generalize (-g4)=e at *;generalize (-g6)=e' at *;clear hs JW e7 e6 e5 e4 e3 e2 s2 hb hc a5 b5 c5 J5 J4 J3 J2 W2 W3 s5;let rest:∀(g9:G) (nB:@&Pc) (z9:Option D),gP g9 d gl rl (n+1) nB->-nB<=3->(∀Y∈nB,∀x,Y.ce x->x<lo\/hi<=x)->(∀x o,lo<=x->x<hi->g7[x]?=!o->g9[x]?=!o) ->
   wpS (b7 T (k+16)) (match vM.body with|.seq _ (.seq _ (.seq _ (.seq (.gL _ _ (.seq _ (.seq _ (.seq _ (.seq _ (.seq _ b)))))) _)))=>b|x=>x) N [!.ref 0,!.ref d,!.ref gl,!.ref rl,z4,!.int i,!.ref e,z7,!.ref e',z9] g9 E:=by
  intro g9 nB z9 J9 wN aw kp;exists Ze (a8 T _) (σ0:=[!.ref 0,!.ref d,!.ref gl,!.ref rl,z4,!.int i]) rfl (kp _ _ lR.2.2.1 lR.1 t7) (wV.keep kp) fE pW λz7 iw mF=>?_;let mF:∀x o,x<lo\/hi<=x->g9[x]?=!o->iw[x]?=!o:=λx o hx h=>mF x o (λz=>by have:=wV.mem z;omega) h;let Rj:=J9.keep (J9.dr.kp λx o hx h=>mF x o (.inl ()) h) λx o hx h=>mF x o (by
   rcases hx with rfl|rfl|⟨Y,hY,hx⟩
   .exact .inl ()
   .exact .inl ()
   .exact aw Y hY x hx) h
  dsimp;exists m5 h4 Rj.dr ∅ ∅ λr mQ w w D11 G11=>?_;let IS:=Rj.gr D11 G11;exists if2 (λw=>?_) (λw=>?_)
  .exists HX (a8 T _) rfl rfl IS (λj Y g' Q hY W hl h=>?_) λtZ iD=>?_
   .have:=W.K.fl;show Nx hT.tj.tg.te W.C W.B W.K.K W.K.inc () h
   .left;show hN _ nB _ _ _ _ _ (IS.ex iD) wN
  .exact hN _ nB _ _ _ _ _ IS wN
 exists m5 h4 J7.dr ∅ ∅ λr g8 w w D8 G8=>?_;let J8:=J7.gr D8 G8;let k8:∀x o,lo<=x->g7[x]?=!o->g8[x]?=!o:=λx o h e=>G8.at () e;let l8:=G8.len;let#[W8,SF,Sr,nr8]:=J8.one i X hX;let Fe:=J8.dl;exists if2 (λw=>?_) (λw=>?_)
 .left
  try show#[HA J8.lg,?_]
  exists u4 (aL J8) yf ?_;exists i7 W8.C.o rfl rfl ?_;exists YT hC hT.tj.tR W8.C λg9 e9 n9 C9=>?_;exists yY (e9.at J8.lg) (by simp;omega) ?_;let lg8:=i0 J8.lg;let lr8:=i0 J8.lr;let wu:(g9.set gl (.lst ((ws.map λX=>D.ref X.m)++[.ref (-g8)])))[gl]?=!(.lst ((ws.map λX=>D.ref X.m)++[.ref (-g8)])):=get_set (e9.at J8.lg);let mF:∀x o,x≠gl->g9[x]?=!o->(g9.set gl (.lst ((ws.map λX=>D.ref X.m)++[.ref (-g8)])))[x]?=!o:=λx o h e=>c7 e (aX h);let l10:(g9.set gl (.lst ((ws.map λX=>D.ref X.m)++[.ref (-g8)]))).length=-g9:=gk;generalize g9.set gl (.lst ((ws.map λX=>D.ref X.m)++[.ref (-g8)]))=iw at *;let IZ:=(e9.draw J8.dr).kp λx o h e=>mF x o () e;let IP:X.wd iw d:=W8.keep IZ λx o h e=>mF x o (λz=>Sr (z▸h)) (e9.at e);let pR:=mF rl _ (aX Fe.2.2) (e9.at J8.lr);left
  try show#[HA pR,?_]
  exists u4 (a7 pR) Gi ?_;exists aY2 hT.tj.tQ IP.B λmQ kX n11 Jb=>?_;exists yY (kX.at pR) (by simp;omega) ?_;let zG:(mQ.set rl (.lst ((ws.map λX=>D.ref X.q)++[.ref (-iw)])))[rl]?=!(.lst ((ws.map λX=>D.ref X.q)++[.ref (-iw)])):=get_set (kX.at pR);let pT:∀x o,x≠rl->mQ[x]?=!o->(mQ.set rl (.lst ((ws.map λX=>D.ref X.q)++[.ref (-iw)])))[x]?=!o:=λx o h e=>c7 e (aX h);generalize mQ.set rl (.lst ((ws.map λX=>D.ref X.q)++[.ref (-iw)]))=tZ at *;let tu:∀x o,x≠gl->x≠rl->g8[x]?=!o->tZ[x]?=!o:=λx o h1 h2 e=>pT x o h2 (kX.at (mF x o h1 (e9.at e)));let Rp:=J8.dr.kp λx o h e=>tu x o () () e;let vT:gP tZ d gl rl (n+1) (ws++[#[(-g8),(-g8)+3,(-g8)+4,(-iw),(-iw)+1,(-iw)+2,X.s]]):=J8.up (eG n) |>.add tu Rp (by rw[bB];show pT gl _ Fe.2.2 (kX.at wu)) (by rw[bB];show zG)
   #[Rp,#[pT _ _ (by dsimp;omega) (kX.at (mF _ _ (by dsimp;omega) C9.o)),pT _ _ (by dsimp;omega) (kX.at (mF _ _ (by dsimp;omega) C9.h)),pT _ _ (by dsimp;omega) (kX.at (mF _ _ (by dsimp;omega) C9.c))],#[pT _ _ (by dsimp;omega) Jb.b,pT _ _ (by dsimp;omega) Jb.c,pT _ _ (by dsimp;omega) Jb.f],W8.K,#[by have:=J8.dr.lt;dsimp;omega]] (gZ SF) (λx hx=>by unfold Pc.ce Ce at hx;dsimp at hx;omega) hz
  let aw:∀Y∈ws++[#[(-g8),(-g8)+3,(-g8)+4,(-iw),(-iw)+1,(-iw)+2,X.s]],∀x,Pc.ce Y x->x<lo\/hi<=x:=λY hY x hx=>by
   rcases bA.mp hY with hY|hY
   .exact .inl (low (.inr (.inr #[Y,hY,hx]))).2
   .rw[aU.mp hY] at hx;unfold Pc.ce Ce at hx;dsimp at hx;omega
  let tm:∀x o,lo<=x->x<hi->g7[x]?=!o->tZ[x]?=!o:=λx o h1 h2 e=>tu x o () () (k8 x o h1 e);let tL:(ws++[(#[(-g8),(-g8)+3,(-g8)+4,(-iw),(-iw)+1,(-iw)+2,X.s]:Pc)]).length=-ws+1:=by simp
  clear wu zG mF pT;generalize ws++[(#[(-g8),(-g8)+3,(-g8)+4,(-iw),(-iw)+1,(-iw)+2,X.s]:Pc)]=Cr at *;exists uB (a7 vT.lg) ?_;left;rw[ao];show if2 (λc=>?_) (λc=>?_)
  .obtain⟨X0,oI,rfl⟩:∃X0 oI,Cr=X0::oI:=by
    cases Cr with
    |nil=>simp at c
    |cons X0 oI=>show#[X0,oI,rfl]
   let hl3:-oI=-ws:=by simpa using tL
   left
   try show#[HB vT.lg,?_]
   exists Lm vT.lg rfl rfl (by rw[ao,tL];omega) ?_;left;let JO:(tZ.set gl (.lst (((X0::oI).map λX=>D.ref X.m).eraseIdx 0)))[rl]?=!(.lst ((X0::oI).map λX=>D.ref X.q)):=c7 vT.lr Fe.2.2
   try show#[HB JO,?_]
   exists Lm JO rfl rfl (by rw[ao,tL];omega) ?_;left;let kp:∀x o,lo<=x->x<hi->g7[x]?=!o->((tZ.set gl (.lst (((X0::oI).map λX=>D.ref X.m).eraseIdx 0))).set rl (.lst (((X0::oI).map λX=>D.ref X.q).eraseIdx 0)))[x]?=!o:=λx o h1 h2 e=>c7 (c7 (tm x o h1 h2 e) ()) ();show FW (kp _ _ lR.2.2.1 lR.1 t7) (kp _ _ lR.2.2.2 lR.2.1 s7) (wV.keep kp) (tH.keep kp) hy ?_;left;show rest _ oI _ (vT.tl (by simp at c;omega)) () (λY hY=>aw Y (bP _ hY)) kp
  .left;let kp:=tm;show FW (kp _ _ lR.2.2.1 lR.1 t7) (kp _ _ lR.2.2.2 lR.2.1 s7) (wV.keep kp) (tH.keep kp) hy ?_;left;show rest _ Cr _ vT () aw tm
 .exists u4 (a7 J8.lr) Gi ?_;exists Xg hT.tj.tg W8 () λdd g9 W9 S=>?_;let J9:=J8.gr W9.dr W9.fr;let#[_,_,ng9,Sq]:=J9.one i X hX;exists u4 (a7 J9.lg) yf ?_;exists a8 T _ _ _ _ _ _ _ _ (λy1 h1 z1=>?_) (λw w z=>z) (WT hT.tj.tg W9.toWd (S _));let#[F1,z1]:=z1;exists u4 (a7 (F1.at Sq J9.lr)) Gi ?_;exists a8 T _ _ _ _ _ _ _ _ (λy2 h2 z2=>?_) (λw w z=>z) z1;exists a8 T _ _ _ _ _ _ _ _ (λy h3 z=>?_) (λw w z=>z) z2;let#[rfl,ic,s',W',xf,F,hc]:=z;let lt9:=W9.fr.len;left;let kp:∀ x o,lo <= x->x < hi->g7[x]?=!o->h3[x]?=!o:=λx o h1 h2 e=>F.at (λz=>by
   have:=(low (.inr (.inr #[X,aE hX,z]))).2;omega) (W9.fr.at () (k8 x o h1 e))
  show FW (kp _ _ lR.2.2.1 lR.1 t7) (kp _ _ lR.2.2.2 lR.2.1 s7) (wV.keep kp) (tH.keep kp) hy ?_;exists rest _ _ _ ((J9.up (eG n)).upd hX W' () F hc) (by rw[gk];show hz) (λY hY x hx=>?_) kp
  .let#[j,hj]:=cO.mp hY;by_cases ej:j=i
   .subst ej;rw[aW li] at hj;cases hj;have:X.ce x\/-g9<=x:=by
     unfold Pc.ce Ce at hx ⊢;dsimp only at hx;omega
    rcases this with z|z
    .exact .inl (low (.inr (.inr #[X,aE hX,z]))).2
    .omega
   .rw[aH (aX ej)] at hj;show .inl (low (.inr (.inr #[Y,aE hj,hx]))).2
def MQ:kF #[0,0,[],[]]:=#[#[List.Pairwise.nil,by decide,λp hp=>by cases hp],λj hj=>(by cases hj),List.Pairwise.nil,λj hj=>(by cases hj),by decide,λf hf=>(by cases hf)]
def bC9(D0:m8 g d):gP (g++[iE (-g+1) (-g+2) 0 0,.cy [],.cy [],iE (-g+4) (-g+5) 0 0,.cy [],.cy [],.lst [.ref (-g),.ref (-g+3)],.cy (M3 (-g+8) (-g+9) 0 0),.cy [],.cy [],.cy (M3 (-g+11) (-g+12) 0 0),.cy [],.cy [],.lst [.ref (-g+7),.ref (-g+10)]]) d (-g+6) (-g+13) 0 [(#[(-g),(-g)+1,(-g)+2,(-g)+7,(-g)+8,(-g)+9,#[0,0,[],[]]]:Pc),#[(-g)+3,(-g)+4,(-g)+5,(-g)+10,(-g)+11,(-g)+12,#[0,0,[],[]]]]:=by
 let dl:=D0.lt;let D1:=(show Ex g (g++[iE (-g+1) (-g+2) 0 0,.cy [],.cy [],iE (-g+4) (-g+5) 0 0,.cy [],.cy [],.lst [.ref (-g),.ref (-g+3)],.cy (M3 (-g+8) (-g+9) 0 0),.cy [],.cy [],.cy (M3 (-g+11) (-g+12) 0 0),.cy [],.cy [],.lst [.ref (-g+7),.ref (-g+10)]]) from#[by simp,λi hi=>by rw[aF hi]]).draw D0;let at_:∀(i:Nat) (l:G),(g++l)[(-g)+i]?=l[i]?:=λi l=>by rw[br (),Nat.add_sub_cancel_left]
 show#[D1,at_ 6 _,at_ 13 _,λi X hX=>?_,λi j X Y hX hY ne x hx hy=>?_,by omega,by simp]
 .match i with
  |0=>cases hX;show#[#[D1,#[at_ 0 _,at_ 1 _,at_ 2 _],#[at_ 7 _,at_ 8 _,at_ 9 _],MQ,#[by dsimp;omega]],Nat.le_refl _,λz=>by unfold Pc.ce Ce at z;dsimp at z;omega,λz=>by unfold Pc.ce Ce at z;dsimp at z;omega]
  |1=>cases hX;show#[#[D1,#[at_ 3 _,at_ 4 _,at_ 5 _],#[at_ 10 _,at_ 11 _,at_ 12 _],MQ,#[by dsimp;omega]],Nat.le_refl _,λz=>by unfold Pc.ce Ce at z;dsimp at z;omega,λz=>by unfold Pc.ce Ce at z;dsimp at z;omega]
  |i+2=>cases hX
 .match i,j with
  |0,0=>show ne rfl
  |1,1=>show ne rfl
  |0,1=>cases hX;cases hY;unfold Pc.ce Ce at hx hy;dsimp at hx hy;omega
  |1,0=>cases hX;cases hY;unfold Pc.ce Ce at hx hy;dsimp at hx hy;omega
  |i+2,_=>cases hX
  |_,j+2=>cases hY
def XA(hT:Rg T):b7 T (k+17) 11 [.ref 0] [.qv (ns.map .int)] (λd x=>d=.bl true) jD:=by
 let h4:=hT.tj.tg.te.td.h4;let hC:=hT.tj.tg.te.tc;show call_of hT.UK rfl ?_;delta vM;exists bH1 hT.h3 rfl λd g D0 x x=>?_;exists Ia hC #[rfl,?_];exists Ia hC #[rfl,?_];exists Qy hT.tj.tg.te.td ?_;exists Qy hT.tj.tg.te.td ?_;left;simp only[List.append_assoc,List.cons_append,List.nil_append,List.length_append,List.length_cons,List.length_nil,Nat.zero_add,Nat.add_assoc,Nat.reduceAdd];let J:=bC9 D0;let hz:[(#[(-g),(-g)+1,(-g)+2,(-g)+7,(-g)+8,(-g)+9,#[0,0,[],[]]]:Pc),#[(-g)+3,(-g)+4,(-g)+5,(-g)+10,(-g)+11,(-g)+12,#[0,0,[],[]]]].length<=3:=by simp
 generalize [(#[(-g),(-g)+1,(-g)+2,(-g)+7,(-g)+8,(-g)+9,#[0,0,[],[]]]:Pc),#[(-g)+3,(-g)+4,(-g)+5,(-g)+10,(-g)+11,(-g)+12,#[0,0,[],[]]]]=ws at *;generalize (-g)+6=gl at *;generalize (-g)+13=rl at *;show L9 (a8 T _) (yP (a8 T _) ?_);exists m5 h4 J.dr ∅ ∅ λr g2 r0 r1 D2 G2=>?_;exists#[by omega,by omega,_,λi σ g'=>(∃ws,gP g' d gl rl i ws/\-ws<=3)/\∃z4 z5 z6 z7 z8 z9,σ=[!.ref 0,!.ref d,!.ref gl,!.ref rl,z4,z5,z6,z7,z8,z9],λx x x x=>L4,#[#[ws,J.gr D2 G2,hz],none,none,none,none,none,none,rfl],λi y σ g3 hy p=>?_,λσ g3 p=>?_]
 .let#[#[ws,J3,pW],z4,z5,z6,z7,z8,z9,rfl]:=p;let#[hi,rfl]:=T4 hy;show j8 ?_;show bL6 hT J3 pW () λg' nB x x x x x J' h'=>#[#[nB,J',h'],_,_,_,_,_,_,rfl]
 let#[#[ws,J3,pW],z4,z5,z6,z7,z8,z9,rfl]:=p;rw[N8] at J3;let J4:gP g3 d gl rl 40 ws:=J3.up ();show HX (a8 T _) rfl rfl J4 (λj Y g' Q hY W hl h=>?_) λg4 e4=>?_
 .have:=W.K.fl;show Nx hT.tj.tg.te W.C W.B W.K.K W.K.inc () h
 exists HX (a8 T _) rfl rfl (J4.ex e4) (λj Y g' Q hY W hl h=>?_) λg5 e5=>rfl;have:=W.K.fl;show aL3 hT.tj W () h
end
end M
namespace Lk
open PySem L2 M
abbrev top(i:Nat):Stmt:=PySem.Challenge.pw_trussel_k46_twins_of_cabinets.main.body.getD i (.Pass #[0,0,0,0])
abbrev bK1:Stmt->@&Stmt
 |.ClassDef (body:=b) ..=>b
 |_=>[]
abbrev MO(i j:Nat):Stmt:=(bK1 (top i)).getD j (.Pass #[0,0,0,0])
abbrev F:@&RF:=[#[38,"is_number",["thing"],1,18,Gu],#[1,"number_from",["number","least","most"],3,19,GW],#[2,"good_marks",["marks","least","spot"],1,20,Q1],#[15,"within",["one","other"],2,21,AD],#[12,"good_coin",["coin","lower","lower_marks","upper","upper_marks","year","good_lower","good_upper"],1,28,E9],#[39,"check_coin",["coin"],1,29,U4],#[18,"check_coins",["coins","coin"],1,30,GU],#[40,"check_side",["side"],1,32,Bg],#[19,"die_field",["side"],1,33,Gq],#[177,"with_thing",["things","at","thing"],3,34,Bh],#[74,"places_of",["coins","word","thing","field"],3,35,Z8],#[75,"check_die",["coins","side","die"],3,36,Gp],#[20,"dies_of",["coins","side","field"],2,37,yy],#[42,"check_anvils",["anvils"],1,42,P5],#[88,"good_rule",["coins","rule","word","one","other"],2,43,Gs],#[89,"check_rules",["coins","rules","at","rule"],2,44,GV],#[90,"stand_of",["places"],1,45,AM],#[91,"with_coin",["stand","place"],2,46,AY],#[92,"more_worn",["one","other","side","field"],2,47,PK],#[93,"later",["one","other"],2,48,Hx],#[94,"worn_stands",["coins"],1,49,NJ],#[95,"later_stands",["coins"],1,50,NS],#[96,"die_stands",["coins"],1,51,GF],#[97,"needed_stands",["coins","rules","needed","word","one","other","first","place"],2,52,Hm],#[98,"check_asked",["coins","anvils","rules"],3,54,Y8],#[99,"bounds_of",["coins","anvils","rules"],3,55,Gn],#[100,"dies_in_use",["bounds","stand","place","struck","left"],3,56,GG],#[101,"next_fault",["bounds","stand","place"],3,57,GH],#[115,"follows",["bounds","stand","place"],3,59,AK],#[116,"followers",["bounds","stand"],2,60,Qn],#[117,"reached_stands",["bounds","led_to","told","stand","place"],1,61,P9],#[121,"ways_on",["bounds","ways","stand"],1,63,Ii],#[122,"step_on",["bounds","ways","stand","number","choices","left","at"],4,64,AB],#[123,"numbered_order",["bounds","ways","number","order","stand","left","place"],3,65,V9],#[124,"first_order",["bounds","ways"],1,66,S3],#[125,"least_order",["coins","anvils","rules"],3,67,Y7],#[126,"how_many",["coins","anvils","rules"],3,68,yJ],#[129,"shown_paper",["bounds","stands"],1,70,Y6],#[132,"paper_of",["coins","anvils","rules"],3,71,FY],#[194,"least_free",["dies","number"],1,78,Qo],#[3,"_law_open",["_law_script"],1,81,Bs],#[4,"_law_pull",["_law_draw","_law_total_of","_law_cell","_law_got","_law_seed"],2,82,T1],#[5,"_law_far",["_law_draw","_law_number"],1,83,uu],#[36,"_law_near",["_law_draw","_law_total_of"],2,84,IC],#[6,"_law_num",["_law_found"],1,85,yQ],#[7,"_law_like",["_law_found","_law_due"],2,86,O7],#[8,"_law_marks_ok",["_law_marks"],1,87,yK],#[13,"_law_coin_ok",["_law_coin"],1,88,W0],#[22,"_law_any_coin",["_law_draw","_law_menu","_law_lower","_law_upper","_law_year"],1,89,AI],#[14,"_law_bent_coin",["_law_draw","_law_coin","_law_way","_law_lower","_law_lower_marks","_law_upper","_law_upper_marks","_law_year","_law_odd","_law_number"],2,90,AW],#[37,"_law_number_of",["_law_draw","_law_numbers"],2,91,Gv],#[29,"_law_side",["_law_draw"],1,92,Bt],#[191,"_law_same_end",["_law_found","_law_due"],2,93,FZ],#[195,"_law_box",[],0,94,FD],#[269,"_law_box_copy",["_law_b"],1,95,AJ],#[196,"_law_box_list",["_law_b"],1,96,FX],#[231,"_law_box_rules",["_law_b","_law_places"],1,97,AX],#[197,"_law_b_put",["_law_b","_law_coin"],2,98,IB],#[198,"_law_b_out",["_law_b","_law_number","_law_fact"],2,99,IA],#[199,"_law_b_tell",["_law_b","_law_one","_law_other"],3,100,Hw],#[200,"_law_other_die",["_law_coin","_law_side_here","_law_die","_law_row"],3,101,Gw],#[201,"_law_b_of",["_law_b","_law_side_here","_law_die","_law_at"],3,102,FC],#[202,"_law_b_one",["_law_b","_law_side_here","_law_die","_law_other","_law_found","_law_number"],4,103,Bq],#[203,"_law_b_two",["_law_b","_law_side_here","_law_die","_law_numbers","_law_found","_law_number","_law_fresh"],4,104,Br],#[204,"_law_b_do",["_law_b","_law_deed","_law_word","_law_old"],2,105,qL],#[205,"_law_cabinet_do",["_law_cabinet","_law_deed","_law_word"],2,106,E6],#[234,"_law_cabinet_try",["_law_cabinet","_law_deed"],2,107,GS],#[206,"_law_new_coin",["_law_draw","_law_b","_law_some","_law_coin","_law_other","_law_grown"],2,108,AL],#[232,"_law_box_die",["_law_draw","_law_b","_law_side_here","_law_at"],3,109,AA],#[235,"_law_box_deed",["_law_draw","_law_b","_law_numbers","_law_turn","_law_side_here","_law_die","_law_some"],2,110,yI],#[207,"_law_box_stands",["_law_cabinet","_law_b","_law_numbers"],2,111,GD],#[270,"_law_order_same",["_law_cabinet","_law_b","_law_numbers","_law_row"],2,112,M0],#[11,"law",["_law_script","_law_draw","_law_cabinets","_law_stands","_law_turn","_law_at","_law_lists","_law_one","_law_copies","_law_deed"],1,113,vM]]
abbrev Ms:@&RM:=[#[113,"Bounds","__init__","Bounds.__init__",["self","coins","anvils","rules"],4,53,0,GQ],#[208,"Cabinet","__init__","Cabinet.__init__",["self"],1,79,0,Hc],#[209,"Cabinet","check_number","Cabinet.check_number",["self","number"],2,79,1,G9],#[210,"Cabinet","check_pair","Cabinet.check_pair",["self","one","other"],3,79,2,R6],#[211,"Cabinet","numbers_of","Cabinet.numbers_of",["self","side","die","field"],3,79,3,R0],#[212,"Cabinet","give_die","Cabinet.give_die",["self","side","numbers","die","field","number"],4,79,4,U8],#[213,"Cabinet","fact_rules","Cabinet.fact_rules",["self","places"],1,79,5,E2],#[214,"Cabinet","put","Cabinet.put",["self","coin"],2,79,6,S5],#[215,"Cabinet","right","Cabinet.right",["self","number","coin","old"],3,79,7,Hk],#[216,"Cabinet","out","Cabinet.out",["self","number"],2,79,8,GR],#[217,"Cabinet","tell","Cabinet.tell",["self","one","other"],3,79,9,Hd],#[218,"Cabinet","untell","Cabinet.untell",["self","number"],2,79,10,X2],#[219,"Cabinet","one_die","Cabinet.one_die",["self","side","die","other","numbers"],4,79,11,Q2],#[220,"Cabinet","two_dies","Cabinet.two_dies",["self","side","die","numbers","all_of_die","number","new_die"],4,79,12,O8],#[221,"Cabinet","numbers","Cabinet.numbers",["self"],1,79,13,U6],#[222,"Cabinet","coin","Cabinet.coin",["self","number"],2,79,14,U9],#[223,"Cabinet","coins","Cabinet.coins",["self"],1,79,15,Hg],#[224,"Cabinet","facts","Cabinet.facts",["self"],1,79,16,Hh],#[225,"Cabinet","order","Cabinet.order",["self","anvils","places","numbers"],2,79,17,Hi],#[226,"Cabinet","many","Cabinet.many",["self","anvils"],2,79,18,U7],#[227,"Cabinet","paper","Cabinet.paper",["self","anvils"],2,79,19,Hj],#[230,"Cabinet","twin","Cabinet.twin",["self","other"],1,79,22,U5]]
abbrev con:@&(Str×D):=[("LAST_SPOT",.int 7),("MOST_COINS",.int 9),("LAST_DIE",.int 99),("LAST_YEAR",.int 9999),("SIDES",.tup [(.str "lower"),(.str "upper")]),("MOST_ANVILS",.int 9),("RULE_WORDS",.tup [(.str "coin"),(.str "lower"),(.str "upper")]),("YEAR_FIELD",.int 4)]
abbrev gd:@&(Str×@&D):=[("DIE_FIELDS",[.tup [.str "lower",.int 0],.tup [.str "upper",.int 2]])]
abbrev exc:@&Str:=["BadAnvils","BadCoin","BadList","BadRule","BadSide","Full","MintError","NoCoin","NoDie","NoFact","NoOrder","NoPlace","SameOne","TooMany"]
def c0:j6:=#[[],[],true,F.map λr=>(r.nm,r.id),con,["len","enumerate","list","tuple","isinstance","all","range","int","bool","str","sorted","set","dict","sum","reversed"],exc,gd,[("Bounds",113),("Cabinet",208)],Ms.map λr=>(r.nm,r.cl,r.id),[("size","Bounds"),("full","Bounds"),("room","Bounds"),("worn_by_place","Bounds"),("later_by_place","Bounds"),("lower_dies","Bounds"),("needed_by_place","Bounds"),("held","Cabinet"),("claims","Cabinet"),("last_coin","Cabinet"),("last_fact","Cabinet")],true,true,true]
noncomputable abbrev T:Nat->Option aQ:=vR F Ms
def tx:mf c0 F Ms top MO:=by
 show#[rfl,rfl,by decide +kernel,by decide +kernel,by decide +kernel,by decide +kernel,?_,?_,?_,?_]
 all_goals
  repeat first
   |show BF.nil
   |show BM.nil
   |show YF.nil
   |show YM.nil
   |show YF.cons (by kernel_rfl) ?_
   |show YM.cons (by kernel_rfl) ?_
   |show BF.cons (λx x x x x x=>(by(repeat show Jq λx=>?_);show Jp rfl)) ?_
   |show BM.cons (λx x x x x x=>(by(repeat show Jq λx=>?_);show Jp rfl)) ?_
inductive vH:@&DictEntry->@&(Str×V)->Prop
 |nil:vH [] []
 |cons {h:Int} {x:Str} {t:Tok} {u:Value} {v:V} {es:@&DictEntry} {vs:@&(Str×V)} (r:RelV v u) (q:vH es vs):vH (#[h,.str x t,u]::es) ((x,v)::vs)
set_option tactic.hygienic true in
def vH.find{es vs}(x:Str)(h:vH es vs):K4 (vs.lookup x) (findBy Value.isStrOf es.toArray x):=by
 induction h with
 |nil=>trivial
 |cons r q ih =>
  rename_i h y t u v es vs;unfold findBy at ih ⊢;rw[List.find?_toArray] at ih ⊢;rw[dB,dM];by_cases e:x=y
  .rw[show(x==y)=true from by simp[e],show Value.isStrOf x (.str y t)=true from by simp[Value.isStrOf,e]];show r
  .rw[show(x==y)=false from by simpa using e,show Value.isStrOf x (.str y t)=false from by simp[Value.isStrOf];show λz=>e (z.symm)];show ih
def all_mk{l:PySem.W.OpenLaw}{w:World}{K:PySem.W.Frag}{h:Heap}{mg:Str->Option Value}{fa:Addr}{Fn Fm Ah:Addr}{t0 t1 t2 t3 xY xX t5 xW xV xU t7 rR rQ rP rO:Tok}{Fg:Array (Option Value)}{Fi:Nat}{Ff:Array (Option Value)}{Fh:Nat}{UO:Nat}{oj oi:Int}(X:K.In h)(G:h.Ns mainGlobals mg)(TX:mg "law"=!.ref fa)(I:mh K c0 F Ms top MO)(e0:PySem.W.nsIn K mainGlobals "LAST_SPOT"=!!Value.int 7 t0)(e1:PySem.W.nsIn K mainGlobals "MOST_COINS"=!!Value.int 9 t1)(e2:PySem.W.nsIn K mainGlobals "LAST_DIE"=!!Value.int 99 t2)(e3:PySem.W.nsIn K mainGlobals "LAST_YEAR"=!!Value.int 9999 t3)(e4:PySem.W.nsIn K mainGlobals "SIDES"=!!.ref Fn)(VR:K.lookup Fn=!#[.type "tuple",none,.seq (List.toArray [Value.str "lower" xY,Value.str "upper" xX]) Fi,Fg])(e5:PySem.W.nsIn K mainGlobals "MOST_ANVILS"=!!Value.int 9 t5)(e6:PySem.W.nsIn K mainGlobals "RULE_WORDS"=!!.ref Fm)(VP:K.lookup Fm=!#[.type "tuple",none,.seq (List.toArray [Value.str "coin" xW,Value.str "lower" xV,Value.str "upper" xU]) Fh,Ff])(e7:PySem.W.nsIn K mainGlobals "YEAR_FIELD"=!!Value.int 4 t7)(g0:PySem.W.nsIn K mainGlobals "DIE_FIELDS"=!!.ref Ah)(UQ:K.lookup Ah=!#[.type "dict",none,.dict (List.toArray [#[oj,Value.str "lower" rR,Value.int 0 rQ],#[oi,Value.str "upper" rP,Value.int 2 rO]]) UO,(List.toArray [])])(sU:oj=PyData.keyHash w.params "lower")(sT:oi=PyData.keyHash w.params "upper")(UN:(Ah==sysModules)=false)
  : ∃fd:FuncData,(∀(s:Shared) (v:Value),BindsTo s fd #[[v],[]] [("_law_script",v)])/\∀base:Heap,K.In base->base.Ns mainGlobals mg->gW l.prog w K mg base (iz l.prog w) 80 fa fd ["_law_script"] (rA exc K 1 (b7 T 40 11)):=by
 let A:oB w K mg c0 T:=by
  show bM2 I tx X G (λx d hx=>?_) (λx kvs hx=>?_)
  .let hm:=aR hx;simp only[c0,con,List.mem_cons,List.mem_nil_iff,or_false] at hm;rcases hm with z|z|z|z|z|z|z|z
   .cases z;show#[(.int 7),_,cv X G e0,#[_,rfl],λy y=>.int _]
   .cases z;show#[(.int 9),_,cv X G e1,#[_,rfl],λy y=>.int _]
   .cases z;show#[(.int 99),_,cv X G e2,#[_,rfl],λy y=>.int _]
   .cases z;show#[(.int 9999),_,cv X G e3,#[_,rfl],λy y=>.int _]
   .cases z;show#[.ref Fn,_,cv X G e4,rfl,λy y=>.tup (vs:=[.str "lower",.str "upper"]) (.inr #[_,_,_,VR,rfl,rfl,rfl,(by change 2<=sizeLine;decide),.cons #[_,rfl] (.cons #[_,rfl] (.nil))]) (.cons (.str _) (.cons (.str _) (.nil)))]
   .cases z;show#[(.int 9),_,cv X G e5,#[_,rfl],λy y=>.int _]
   .cases z;show#[.ref Fm,_,cv X G e6,rfl,λy y=>.tup (vs:=[.str "coin",.str "lower",.str "upper"]) (.inr #[_,_,_,VP,rfl,rfl,rfl,(by change 3<=sizeLine;decide),.cons #[_,rfl] (.cons #[_,rfl] (.cons #[_,rfl] (.nil)))]) (.cons (.str _) (.cons (.str _) (.cons (.str _) (.nil))))]
   .cases z;show#[(.int 4),_,cv X G e7,#[_,rfl],λy y=>.int _]
  .let hm:=aR hx;simp only[c0,gd,List.mem_cons,List.mem_nil_iff,or_false] at hm;let z:=hm
   .cases z;let er:vH [#[oj,Value.str "lower" rR,Value.int 0 rQ],#[oi,Value.str "upper" rP,Value.int 2 rO]] [("lower",.int 0),("upper",.int 2)]:=.cons (v:=.int 0) #[_,rfl] (.cons (v:=.int 2) #[_,rfl] (.nil));show#[Ah,_,cv X G g0,#[_,_,UQ,#[#[_,_,rfl,sU],#[#[_,_,rfl,sT],True.intro]],UN,λx=>er.find x],.cons (λy y=>.int _) (.cons (λy y=>.int _) (.nil))]
 let#[f,fd,O,a,t]:=Od I tx _ (aE (i:=72) rfl);cases TX.symm.trans (cv X G a);let#[oc,od,kV,doc,pm,an,gf,ct,mZ,rfl,lk,mL]:=O.fn.ex;show#[_,λs v=>.of_eq rfl,λbase nL xN=>bZ3 nL xN A 40 11 _ _ fa _ rfl O]
def walk{l:PySem.W.OpenLaw}{q:Program}{loose:@&Str}{XP:(Str->Option Value)->Heap->Prop}{YP:World->Heap->Prop}{d:DefRec}{K:Params->PySem.W.Frag}(hn:l.most=!63)(xp:d.params.defaults=[])(hY:∀(w:World) (h:Heap),YP w h->(K w.params).In h)(F:∀ (w:World) (mg:Str->Option Value) (fa:Addr) (h:Heap),(K w.params).In h->h.Ns mainGlobals mg->mg d.name=!.ref fa ->
   ∃ fd:FuncData,(∀ (s:Shared) (u:Value),BindsTo s fd #[[u],[]] [("_law_script",u)])/\∀ base:Heap,(K w.params).In base->base.Ns mainGlobals mg->gW l.prog w (K w.params) mg base (iz l.prog w) 80 fa fd ["_law_script"] (rA exc (K w.params) 1 (b7 T 40 11))) :
  PySem.W.WalkO q loose XP YP l.row.toRowW d [] (λf vs=>PySem.call f vs) :=
 L2.bB5 (n:=63) (k:=80) (x:="_law_script") (CX:=λw=>iz l.prog w) (sp:=λw=>rA exc (K w.params) 1 (b7 T 40 11)) hn ∅ xp #[rfl,by decide,by decide] hY F (λw H a ns hl hO hS=>bV8 hO hS (XA (k:=23) #[#[#[#[#[#[#[rfl,rfl],rfl,rfl,#[rfl,rfl],#[rfl,rfl],rfl,rfl,rfl,rfl,rfl,rfl,rfl,rfl,rfl,rfl,rfl,rfl,rfl,rfl,rfl,rfl],#[rfl,rfl,rfl,rfl,rfl,rfl,rfl,rfl,rfl,rfl,rfl,rfl,rfl],rfl,rfl,rfl,rfl,rfl,rfl,rfl,rfl,rfl,rfl,rfl,rfl,rfl],rfl,rfl,rfl,rfl,rfl,rfl,rfl],#[#[#[rfl,rfl],rfl,rfl,#[rfl,rfl],#[rfl,rfl],rfl,rfl,rfl,rfl,rfl,rfl,rfl,rfl,rfl,rfl,rfl,rfl,rfl,rfl,rfl,rfl],rfl,rfl,rfl],#[rfl,rfl],#[rfl,rfl],#[rfl,rfl],rfl,rfl,rfl,rfl,rfl,rfl,rfl,rfl,rfl,rfl],rfl,rfl,rfl],rfl,rfl])) (by rintro _ _ _ _ _ ⟨_,_,_,_,_,_,_,z⟩;show z)
end Lk
end _X
open _X
open PySem PySem.W PyProof.Rows
set_option maxRecDepth 100000 in
set_option maxHeartbeats 0 in
theorem PySem.Challenge.cw_trussel_k46_twins_of_cabinets_holds : PySem.Challenge.rw_trussel_k46_twins_of_cabinets.Holds := by
 w_on;o_law;k_head;(case hw=>w_witness2)
 k_fill
 refine Lk.walk (l:=PySem.Challenge.rw_trussel_k46_twins_of_cabinets) rfl rfl (fun w h Y=>PySem.W.kIn_of Y) ?F
 case F =>
  intro w mg fa h KX G hmg
  refine' Lk.all_mk KX G hmg ⟨?zz1,?zz2,?zz3,?zz4,?zz5,?zz6,?zz7⟩ ?_ ?_ ?_ ?_ ?_ ?_ ?_ ?_ ?_ ?_ ?_ ?_ ?_ ?_ ?_
  (case zz1=>repeat' first | (with_reducible show _=_;k_is) | exact M.PF.nil | apply M.PF.cons)
  (case zz2=>repeat' first | (with_reducible show _=_;k_is) | exact M.PM.nil | apply M.PM.cons)
  (case zz3=>repeat' first | (with_reducible show _=_;k_is) | exact M.PC.nil | apply M.PC.cons)
  (case zz4=>repeat' first | (with_reducible show _=_;k_is) | exact M.PA.nil | apply M.PA.cons)
  (case zz5=>repeat' first | (with_reducible show _=_;k_is) | exact M.PB.nil | apply M.PB.cons)
  (case zz6=>repeat' first | (with_reducible show _=_;first | (with_reducible show PySem.W.excIn _ _ _ _=true;k_exc) | k_is) | exact M.PX.nil | apply M.PX.cons)
  (case zz7=>kernel_rfl)
  all_goals try (with_reducible show _=_;k_is)
  all_goals try ((with_reducible show _=_);rfl)
#print axioms PySem.Challenge.cw_trussel_k46_twins_of_cabinets_holds
