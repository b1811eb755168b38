import PyProof.Rows.All
import Wide.All
import OpenK.AllK
import Wide.FinOn
import Lean
import PyProof.EqAt
import PyProof.EqKinds
import PyProof.TupleCall
import PySem.Challenge.RW_trussel_k40_whole_hoards_have_their_orde
set_option Elab.async false
set_option linter.all false
set_option maxRecDepth 100000
set_option maxHeartbeats 4000000
set_option genInjectivity false
set_option bootstrap.genMatcherCode false
set_option genSizeOf false
set_option compiler.extract_closed false
set_option compiler.reuse false
local macro_rules|`(def $i:declId $s:optDeclSig $v:declVal)=>`(noncomputable def $i:declId $s:optDeclSig $v:declVal)
open Lean in
local macro_rules|`(universe $i)=>do
 let t<-`(theorem x:True:=⟨⟩)
 let f:=fun (n:Name)=>t.raw.setArg 1 ((t.raw.getArg 1).setArg 1 ((t.raw[1][1]).setArg 0 (mkIdent (.mkStr `PySem.W.Fast s!"tw{Name.hash n}"))))
 return mkNullNode (((`PySem.Challenge.rw_trussel_k40_whole_hoards_have_their_orde::`PySem.Challenge.pw_trussel_k40_whole_hoards_have_their_orde::[("o",List.range 1088),("env",[41]),("heap",[39,46,1088]),("sts",[49,71,86,101,116,131,146,161,176,191,206,221,236,251,266,281,296,311,326,374,447,516,570,650,708,935,1024]),("tree",[47,70,85,100,115,130,145,160,175,190,205,220,235,250,265,280,295,310,325,373,444,515,569,649,707,847,931,1023,1087]),("view",[39])].flatMap fun (x,l)=>l.map fun i=>.mkStr `PySem.Challenge.cw_trussel_k40_whole_hoards_have_their_orde_holds s!"{x}_{i}").map f).toArray)
universe x
namespace _X
set_option tactic.hygienic false
local macro_rules|`(#[$xs,*])=>`(⟨$xs,*⟩)
local macro_rules|`(_/$x)=>`(by simpa using $x)
local macro_rules|`(tactic|show $t)=>`(tactic|refine $t)
open Lean in
@[reducible]def pw_:Nat->Term->MacroM (TSyntax `rcasesPat)
 |0,_=>Macro.throwUnsupported
 |n+1,t=>do match t with
  |`(#[$xs,*])=>do let ys<-xs.getElems.mapM (pw_ n);`(rcasesPat|⟨$[$ys:rcasesPat],*⟩)
  |`(⟨$xs,*⟩)=>do let ys<-xs.getElems.mapM (pw_ n);`(rcasesPat|⟨$[$ys:rcasesPat],*⟩)
  |`(_)=>`(rcasesPat|_)
  |`($i:ident)=>`(rcasesPat|$i:ident)
  |_=>Macro.throwUnsupported
open Lean in
@[reducible]def ex_(e:Term)(xs:Array (TSyntax `rcasesPat))(t:TSyntax `tactic):MacroM (TSyntax `tactic):=do
 let n:=xs.size
 let mut t:=t
 if n>1&&n<13 then
  let r<-xs.mapM fun p=>`(rintroPat|$p:rcasesPat)
  let c:TSyntax `tactic<-if e.raw.isIdent then`(tactic|try clear $(⟨e.raw⟩):ident)else`(tactic|skip)
  for i in[0:n]do
   let k:=n-1-i
   let f:=mkIdent (.mkSimple s!"E{k}_{n-k}")
   t<-`(tactic|first|(refine $f ($e :) ?_;$c;rintro $r*)|($t:tactic))
 return t
local macro_rules|`(tactic|let $p:term:=$e)=>do
 let q<-pw_ 9 p
 let x:Array Lean.Term:=match p with|`(#[$xs,*])=>xs.getElems|_=>.empty
 ex_ e (<-x.mapM (pw_ 9)) (<-`(tactic|obtain $q:rcasesPat:=$e))
open Lean in
local macro_rules|`(tactic|rintro $ps*)=>do
 let mut o:Array (TSyntax `tactic):=.empty
 let mut c:=false
 for p in ps do
  let mut d:TSyntax `tactic<-`(tactic|rintro $p)
  let mut q:=p.raw
  -- (p) is p
  for _ in [0:9] do
   if q.isOfKind ``Parser.Tactic.rintroPat.one then q:=q[0]
   if q.isOfKind ``Parser.Tactic.rcasesPat.paren&&q[1][1].isNone&&q[1][0][0].getNumArgs==1 then q:=q[1][0][0][0]
  if q.isOfKind ``Parser.Tactic.rcasesPat.tuple then
   let xs:Array Syntax:=q[1].getSepArgs
   if xs.size>1 then
    c:=true
    let ys<-xs.mapM fun x=>`(rcasesPat|($(⟨x⟩):rcasesPatLo))
    let z<-`(z)
    d<-`(tactic|(intro $z:term;$(<-ex_ z ys (<-`(tactic|obtain $(⟨q⟩):rcasesPat:=$z))):tactic))
  o:=o.push d
 if !c then Macro.throwUnsupported
 `(tactic|($[$o:tactic];*))
local macro_rules|`(#[])=>`(by decide +kernel)
local macro_rules|`(#[_])=>`(by simp)
local macro_rules|`(-$x:ident)=>`(($x).length)
local macro_rules|`(!$x)=>`(some $x)
local macro_rules|`(~~~$x)=>`(not $x)
open Lean in
local macro_rules|`(tactic|let $d:letDecl)=>if d.raw[0].isOfKind ``Parser.Term.letIdDecl then`(tactic|have $d:letDecl)else Macro.throwUnsupported
local macro_rules|`(@&$x)=>`(List $x)
local macro_rules|`($s⁻¹)=>`(($s).heap.objs.size)
local macro_rules|`(tactic|exists $t:term)=>`(tactic|(walk_at"";refine $t))
local macro_rules|`(abbrev $i:declId $s:optDeclSig $v:declVal)=>`(noncomputable def $i:declId $s:optDeclSig $v:declVal)
local macro_rules|`(def $i:declId $[$b:bracketedBinder]* :$t $v:declVal)=>if t.raw.isOfKind `Lean.Parser.Term.prop||[`TE,`TT,`TS,`TG,`rX,`TI,`R2,`TA,`St,`TO,`Bool,`Cx,`Nat,`DR,`S,`d8,`qK,`aP,`D,`O,`dM,`Rs,`Str].contains t.raw.getId then`(noncomputable def $i:declId $[$b:bracketedBinder]* :$t $v:declVal)else`(theorem $i:declId $[$b:bracketedBinder]* :$t $v:declVal)
section
variable{A0:Sort _}{p q r s t u:Prop}{G:Prop}
def E0_2(h:p/\q)(k:p->q->G):G:=k h.1 h.2
def E0_3(h:p/\q/\r)(k:p->q->r->G):G:=k h.1 h.2.1 h.2.2
def E0_4(h:p/\q/\r/\s)(k:p->q->r->s->G):G:=k h.1 h.2.1 h.2.2.1 h.2.2.2
def E0_5(h:p/\q/\r/\s/\t)(k:p->q->r->s->t->G):G:=k h.1 h.2.1 h.2.2.1 h.2.2.2.1 h.2.2.2.2
def E0_6(h:p/\q/\r/\s/\t/\u)(k:p->q->r->s->t->u->G):G:=k h.1 h.2.1 h.2.2.1 h.2.2.2.1 h.2.2.2.2.1 h.2.2.2.2.2
end
section
variable{A0:Sort _}{p q r s t:A0->Prop}{G:Prop}
def E1_1(h:∃x,p x)(k:∀x,p x->G):G:=h.elim λx h=>k x h
def E1_2(h:∃x,p x/\q x)(k:∀x,p x->q x->G):G:=h.elim λx h=>k x h.1 h.2
def E1_3(h:∃x,p x/\q x/\r x)(k:∀x,p x->q x->r x->G):G:=h.elim λx h=>k x h.1 h.2.1 h.2.2
def E1_4(h:∃x,p x/\q x/\r x/\s x)(k:∀x,p x->q x->r x->s x->G):G:=h.elim λx h=>k x h.1 h.2.1 h.2.2.1 h.2.2.2
def E1_5(h:∃x,p x/\q x/\r x/\s x/\t x)(k:∀x,p x->q x->r x->s x->t x->G):G:=h.elim λx h=>k x h.1 h.2.1 h.2.2.1 h.2.2.2.1 h.2.2.2.2
end
section
variable{A0 A1:Sort _}{p q r s t u:A0->A1->Prop}{G:Prop}
def E2_1(h:∃x y,p x y)(k:∀x y,p x y->G):G:=h.elim λx h=>h.elim λy h=>k x y h
def E2_2(h:∃x y,p x y/\q x y)(k:∀x y,p x y->q x y->G):G:=h.elim λx h=>h.elim λy h=>k x y h.1 h.2
def E2_3(h:∃x y,p x y/\q x y/\r x y)(k:∀x y,p x y->q x y->r x y->G):G:=h.elim λx h=>h.elim λy h=>k x y h.1 h.2.1 h.2.2
def E2_4(h:∃x y,p x y/\q x y/\r x y/\s x y)(k:∀x y,p x y->q x y->r x y->s x y->G):G:=h.elim λx h=>h.elim λy h=>k x y h.1 h.2.1 h.2.2.1 h.2.2.2
def E2_5(h:∃x y,p x y/\q x y/\r x y/\s x y/\t x y)(k:∀x y,p x y->q x y->r x y->s x y->t x y->G):G:=h.elim λx h=>h.elim λy h=>k x y h.1 h.2.1 h.2.2.1 h.2.2.2.1 h.2.2.2.2
def E2_6(h:∃x y,p x y/\q x y/\r x y/\s x y/\t x y/\u x y)(k:∀x y,p x y->q x y->r x y->s x y->t x y->u x y->G):G:=h.elim λx h=>h.elim λy h=>k x y h.1 h.2.1 h.2.2.1 h.2.2.2.1 h.2.2.2.2.1 h.2.2.2.2.2
end
section
variable{A0 A1 A2:Sort _}{p q r s t u v:A0->A1->A2->Prop}{G:Prop}
def E3_1(h:∃x y z,p x y z)(k:∀x y z,p x y z->G):G:=h.elim λx h=>h.elim λy h=>h.elim λz h=>k x y z h
def E3_2(h:∃x y z,p x y z/\q x y z)(k:∀x y z,p x y z->q x y z->G):G:=h.elim λx h=>h.elim λy h=>h.elim λz h=>k x y z h.1 h.2
def E3_3(h:∃x y z,p x y z/\q x y z/\r x y z)(k:∀x y z,p x y z->q x y z->r x y z->G):G:=h.elim λx h=>h.elim λy h=>h.elim λz h=>k x y z h.1 h.2.1 h.2.2
def E3_4(h:∃x y z,p x y z/\q x y z/\r x y z/\s x y z)(k:∀x y z,p x y z->q x y z->r x y z->s x y z->G):G:=h.elim λx h=>h.elim λy h=>h.elim λz h=>k x y z h.1 h.2.1 h.2.2.1 h.2.2.2
def E3_5(h:∃x y z,p x y z/\q x y z/\r x y z/\s x y z/\t x y z)(k:∀x y z,p x y z->q x y z->r x y z->s x y z->t x y z->G):G:=h.elim λx h=>h.elim λy h=>h.elim λz h=>k x y z h.1 h.2.1 h.2.2.1 h.2.2.2.1 h.2.2.2.2
def E3_6(h:∃x y z,p x y z/\q x y z/\r x y z/\s x y z/\t x y z/\u x y z)(k:∀x y z,p x y z->q x y z->r x y z->s x y z->t x y z->u x y z->G):G:=h.elim λx h=>h.elim λy h=>h.elim λz h=>k x y z h.1 h.2.1 h.2.2.1 h.2.2.2.1 h.2.2.2.2.1 h.2.2.2.2.2
def E3_7(h:∃x y z,p x y z/\q x y z/\r x y z/\s x y z/\t x y z/\u x y z/\v x y z)(k:∀x y z,p x y z->q x y z->r x y z->s x y z->t x y z->u x y z->v x y z->G):G:=h.elim λx h=>h.elim λy h=>h.elim λz h=>k x y z h.1 h.2.1 h.2.2.1 h.2.2.2.1 h.2.2.2.2.1 h.2.2.2.2.2.1 h.2.2.2.2.2.2
end
section
variable{A0 A1 A2 A3:Sort _}{p q r s t u v:A0->A1->A2->A3->Prop}{G:Prop}
def E4_2(h:∃x y z w,p x y z w/\q x y z w)(k:∀x y z w,p x y z w->q x y z w->G):G:=h.elim λx h=>h.elim λy h=>h.elim λz h=>h.elim λw h=>k x y z w h.1 h.2
def E4_3(h:∃x y z w,p x y z w/\q x y z w/\r x y z w)(k:∀x y z w,p x y z w->q x y z w->r x y z w->G):G:=h.elim λx h=>h.elim λy h=>h.elim λz h=>h.elim λw h=>k x y z w h.1 h.2.1 h.2.2
def E4_4(h:∃x y z w,p x y z w/\q x y z w/\r x y z w/\s x y z w)(k:∀x y z w,p x y z w->q x y z w->r x y z w->s x y z w->G):G:=h.elim λx h=>h.elim λy h=>h.elim λz h=>h.elim λw h=>k x y z w h.1 h.2.1 h.2.2.1 h.2.2.2
def E4_5(h:∃x y z w,p x y z w/\q x y z w/\r x y z w/\s x y z w/\t x y z w)(k:∀x y z w,p x y z w->q x y z w->r x y z w->s x y z w->t x y z w->G):G:=h.elim λx h=>h.elim λy h=>h.elim λz h=>h.elim λw h=>k x y z w h.1 h.2.1 h.2.2.1 h.2.2.2.1 h.2.2.2.2
def E4_6(h:∃x y z w,p x y z w/\q x y z w/\r x y z w/\s x y z w/\t x y z w/\u x y z w)(k:∀x y z w,p x y z w->q x y z w->r x y z w->s x y z w->t x y z w->u x y z w->G):G:=h.elim λx h=>h.elim λy h=>h.elim λz h=>h.elim λw h=>k x y z w h.1 h.2.1 h.2.2.1 h.2.2.2.1 h.2.2.2.2.1 h.2.2.2.2.2
def E4_7(h:∃x y z w,p x y z w/\q x y z w/\r x y z w/\s x y z w/\t x y z w/\u x y z w/\v x y z w)(k:∀x y z w,p x y z w->q x y z w->r x y z w->s x y z w->t x y z w->u x y z w->v x y z w->G):G:=h.elim λx h=>h.elim λy h=>h.elim λz h=>h.elim λw h=>k x y z w h.1 h.2.1 h.2.2.1 h.2.2.2.1 h.2.2.2.2.1 h.2.2.2.2.2.1 h.2.2.2.2.2.2
end
section
variable{A0 A1 A2 A3 A4:Sort _}{p q r s t u v:A0->A1->A2->A3->A4->Prop}{G:Prop}
def E5_2(h:∃x y z w i,p x y z w i/\q x y z w i)(k:∀x y z w i,p x y z w i->q x y z w i->G):G:=h.elim λx h=>h.elim λy h=>h.elim λz h=>h.elim λw h=>h.elim λi h=>k x y z w i h.1 h.2
def E5_3(h:∃x y z w i,p x y z w i/\q x y z w i/\r x y z w i)(k:∀x y z w i,p x y z w i->q x y z w i->r x y z w i->G):G:=h.elim λx h=>h.elim λy h=>h.elim λz h=>h.elim λw h=>h.elim λi h=>k x y z w i h.1 h.2.1 h.2.2
def E5_4(h:∃x y z w i,p x y z w i/\q x y z w i/\r x y z w i/\s x y z w i)(k:∀x y z w i,p x y z w i->q x y z w i->r x y z w i->s x y z w i->G):G:=h.elim λx h=>h.elim λy h=>h.elim λz h=>h.elim λw h=>h.elim λi h=>k x y z w i h.1 h.2.1 h.2.2.1 h.2.2.2
def E5_6(h:∃x y z w i,p x y z w i/\q x y z w i/\r x y z w i/\s x y z w i/\t x y z w i/\u x y z w i)(k:∀x y z w i,p x y z w i->q x y z w i->r x y z w i->s x y z w i->t x y z w i->u x y z w i->G):G:=h.elim λx h=>h.elim λy h=>h.elim λz h=>h.elim λw h=>h.elim λi h=>k x y z w i h.1 h.2.1 h.2.2.1 h.2.2.2.1 h.2.2.2.2.1 h.2.2.2.2.2
def E5_7(h:∃x y z w i,p x y z w i/\q x y z w i/\r x y z w i/\s x y z w i/\t x y z w i/\u x y z w i/\v x y z w i)(k:∀x y z w i,p x y z w i->q x y z w i->r x y z w i->s x y z w i->t x y z w i->u x y z w i->v x y z w i->G):G:=h.elim λx h=>h.elim λy h=>h.elim λz h=>h.elim λw h=>h.elim λi h=>k x y z w i h.1 h.2.1 h.2.2.1 h.2.2.2.1 h.2.2.2.2.1 h.2.2.2.2.2.1 h.2.2.2.2.2.2
end
local macro_rules|`(tactic|left)=>`(tactic|walk_at"")
local macro_rules|`(())=>`(by omega)
local macro_rules|`(∅)=>`(by decide)
local macro_rules|`(tactic|omega)=>`(tactic|lia)
open Lean in
local macro_rules|`(universe $n $a*)=>do
 let mut r:=Array.empty
 for k in[0:a.size/2]do r:=r.push (<-`(noncomputable def $(a[2*k]!):ident:=@$(mkIdent (n.getId++a[2*k+1]!.getId))))
 return mkNullNode r
universe PySem BJ entryFor_alias BS Calls.Name_function_global Ih wpAny_binaryOp_repeat_ref Ii W.hideAll_get Ip Calls.call_function_entry QV wpAny_attempt QX W.of_hideAll QY W.kitx_tuple aF Heap.lt_size aJ Heap.get?_push_size aS mem_of_lookup aa wpAny_bind ao wpAny_pure av Heap.get?_push_of_some bB wpAny_holding bC Obj.data_mapFields bE wpAny_mono bS W.mg_of bT Heap.get?_update_other bc wpAny_setState_of bh Heap.get?_update_self bx Heap.SameBut.update cQ wpAny_truthy_bool cR wpAny_newObj_type cW Obj.isFreed_of_fields cY wpAny_Call_Name_kw cj W.kia_one cz wpAny_call_entry dE wpAny_setField dR wpAny_of_eq eB W.cellsFrom_some eN call_meets eO wpAny_passesOwn eR wpAny_standAt eX wpAny_storeSet_of eY fits_of_scanBound fA wpAny_isInstance fN codeAny_builtin fR wpAny_callSpecial?_slot fX codeAny_mono fY Heap.size_push fZ Calls.callWith_builtin fz wpAny_typeOf gK wpAny_rule gL intKind_is gW wpAny_field hX Calls.evalArgs_plain iC F.args_tuple_add_2 iN tupleKind_room_in1 iP F.entry_tuple_add jC wpAny_comprehension_free jU wpAny_askSetting jV noFill_tuple_add ji F.slot_tuple_add jw wpAny_pyIter_list jx Heap.SameBut.refl kG wpAny_execs_nil kH F.slot_int_rmul kP W.callWith_K ki W.plainGet_of kj W.callWith_K0 lD isSubtype_type nA seq_tuple_add nB plainId_quiet nC Paired.length nS typeIs_int nV F.args_tuple_add_2 pT Obj.cls_mapFields pV F.entry_tuple_add sj F.slot_tuple_add uv sizeLine_eq uw F.plainAttrs_list vZ codeAny_of_tree zj W.methodCall_KW
universe Nat BK pow_le_pow_right BL eq_of_testBit_eq QZ not_lt aG le_trans aI lt_of_lt_of_le aT ne_of_lt aw le_refl cK ne_of_gt cq lt_irrefl cw zero_le dG lt_trichotomy dH lt_trans dI le_of_lt eW lt_or_ge gM testBit_two_pow_sub_one gX one_le_two_pow gY lt_of_le_of_lt gx two_pow_pos iQ le_of_not_lt jD eq_of_beq_eq_true lF mul_comm mS lt_succ_self nD le_succ wb le_of_eq zm or_mod_two_eq_one
universe List BN pairwise_append BO mem_erase_of_ne BP getElem_toArray BQ getElem?_of_mem BR findIdx_getElem Ij toList_toArray Ik mergeSort_perm Il mem_map_of_mem Im flatMap_append Ra ne_nil_of_mem Rb map_filterMap Rc find?_eq_none Rf Nodup.sublist aB getElem?_set_ne aC mem_of_getElem? aH getElem?_append_left aM mem_cons aN mem_range aQ mem_map aU getElem?_set_self aV size_toArray aX mem_singleton aY length_append aZ getElem?_eq_none ag getElem?_eq_getElem ah length_map aj getElem?_map ak getElem?_eq_some_iff bD mem_iff_getElem? bH length_filter_le bI map_map bJ take_succ bK all_eq_true bW mem_append_right bZ mem_cons_of_mem bf getD_eq_getElem?_getD bg mem_filter br any_eq_true bt mem_append bw map_append cA map_cons cB getElem?_take_of_lt cG take_length cH getElem_mem cL nodup_append cO mem_or_eq_of_mem_set cU length_take cX mem_iff_getElem cc getElem?_append_right dA getElem?_eq_none_iff dC nodup_cons dO filterMap_cons dS lookup_cons dU getElem?_replicate dW filter_cons da getElem?_range df set_set dh perm_ext_iff_of_nodup dz pairwise_iff_getElem eE filter_append eK find?_cons eP mem_append_left eZ drop_eq_getElem_cons et eq_nil_of_length_eq_zero fB pairwise_cons fC mem_filterMap fI take_of_length_le fJ flatMap_cons fK ext_getElem? fL drop_eq_nil_of_le fT nodup_range fe map_congr_left ff filter_sublist fo any_cons ft length_set fu append_nil gF replicate_succ gZ length_eraseIdx_of_lt gy range_succ hJ findSome?_eq_none_iff iD all_cons iR mem_reverse iS mem_flatMap iT length_eq_zero_iff ij exists_mem_of_ne_nil ir reverse_cons iu length_range iw append_assoc jE take_append_drop jW Perm.refl jj range_succ_eq_map jk pairwise_lt_range jm not_of_lt_findIdx jn length_pos_of_mem kQ mem_cons_self km filter_eq_self lA findIdx?_eq_some_iff_getElem lG getElem?_set lH flatten_replicate_singleton lI findIdx_lt_length_of_exists mT getElem_inj mf eraseIdx_eq_take_drop_succ nE map_id nT of_mem_zip nU foldl_cons pU mapM_cons sf map_take si eq_of_mem_replicate uA filter_cons_of_neg uy pairwise_mergeSort uz filter_cons_of_pos wc any_map zo length_singleton zp length_replicate zq findSome?_append
universe Int Io toNat_of_nonneg bL toNat_natCast fE emod_lt_of_pos gz emod_nonneg jo zero_add lJ emod_eq_of_lt
universe _root_ QW of_decide_eq_false aA if_neg aD decide_eq_false aK decide_eq_false_iff_not au decide_eq_true az if_pos bp of_decide_eq_true bz decide_eq_true_iff dF decide_eq_true_eq eA beq_iff_eq eV decide_eq_decide fc beq_eq_false_iff_ne iO congrArg
universe Option aO some.inj ae map_eq_some_iff ai bind_eq_some_iff fm isSome_iff_exists lE isSome_map pS ne_none_iff_exists'
universe Bool aW and_eq_true bq eq_iff_iff cS and_eq_false_iff cg false_ne_true dD or_eq_true eM not_eq_true' jX or_eq_false_iff kI false_or kR not_eq_false'
universe PyProof bX Rows.callWith_type1 bY Rows.slot_tuple_getitem kl Rows.F.entry_set_update_loop ux Rows.boot_tuple wa Rows.boot_list zk Rows.boot_int
universe Array dB getElem?_eq_getElem dc length_toList fS getElem_eq_getD jO getElem?_setIfInBounds_self_of_lt pW getElem?_eq_some_iff ph getD_eq_getD_getElem? we getElem?_eq_none zr getElem?_toList
def bR:=@Ne.symm
def cM:=@Classical.not_and_iff_not_or_not
namespace L2
open PySem PySem.Spec PyProof.Rows
variable{xs vs:@&V}{us:@&Value}{H H':Hp}{a b f C dx:Addr}{o:HO}{u:Value}{P:Program}{w:World}{h h' base:Heap}{α:Type}{x m:Str}{e c tg:Expr}{X:Cx}{pi:@&(Addr×Obj)}{U:St}{s:Shared}{t' i k:Nat}{ch fp:@&Addr}{N ps:@&Str}{M:Model}{A:Around}{E Q:Value->Shared->Prop}{v:V}{t:TA}{ta tb te:TE}{pos pos' p:Pos}{K:PySem.W.Frag}{es:@&Expr}{op:CmpOp}{body:@&Stmt}{r:R2}{fd:FuncData}{CX:pb}{sp:Sp}
noncomputable abbrev Key:=Sum Int Str
abbrev Z4:Key->Value->Bool
 |.inl k,v=>Value.isInt k v
 |.inr x,v=>Value.isStrOf x v
abbrev Vz(w:World):Key->Int
 |.inl k=>hashInt k
 |.inr x=>hashStr w x
def v8:∀{k:Key} {v:Value},Z4 k v=true->(∃i t,k=Sum.inl i/\v=Value.int i t)\/(∃x t,k=Sum.inr x/\v=Value.str x t)
 |.inl i,v,h=>by
  let#[t,e]:=Value.isInt_shape h;show .inl #[i,t,rfl,e]
 |.inr x,v,h=>by
  let#[t,e]:=Value.isStrOf_shape h;show .inr #[x,t,rfl,e]
def Zc(i:Int)(t:Tok):Z4 (.inl i) (.int i t)=true:=by simp[Z4,Value.isInt]
def Zd(x:Str)(t:Tok):Z4 (.inr x) (.str x t)=true:=by simp[Z4,Value.isStrOf]
def bQ5(a b:Int):decide ((Sum.inl a:Key)=Sum.inl b)=(a==b):=by
 by_cases e:a=b
 .subst e;simp
 .let h:¬(Sum.inl a:Key)=Sum.inl b:=λq=>e (Sum.inl.inj q);rw[aD h];show(fc.mpr e).symm
def bQ2(a b:Str):decide ((Sum.inr a:Key)=Sum.inr b)=decide (a=b):=by
 simp
def bQ4(a:Int)(b:Str):decide ((Sum.inl a:Key)=Sum.inr b)=false:=aD (λq=>nomatch q)
def bQ3(a:Str)(b:Int):decide ((Sum.inr a:Key)=Sum.inl b)=false:=aD (λq=>nomatch q)
abbrev y4(prog:Program)(w:World):PySem.KeyKind prog w Key where
 is:=Z4
 hash:=Vz w
 inj:=λv a b ha hb=>by
  rcases v8 ha with⟨i,t,rfl,rfl⟩|⟨x,t,rfl,rfl⟩
  .rcases v8 hb with⟨j,u,rfl,e⟩|⟨y,u,rfl,e⟩
   .injection e with e1 _;rw[e1]
   .exact nomatch e
  .rcases v8 hb with⟨j,u,rfl,e⟩|⟨y,u,rfl,e⟩
   .exact nomatch e
   .injection e with e1 _;rw[e1]
 byValue:=λk v h=>by
  rcases v8 h with⟨i,t,rfl,rfl⟩|⟨x,t,rfl,rfl⟩<;>rfl
 pyHash:=λhv h=>by
  rcases v8 hv with⟨i,t,rfl,rfl⟩|⟨x,t,rfl,rfl⟩
  .exact wpAny_pyHash_int h
  .exact wpAny_pyHash_str h
 eqBool:=λhu hv h=>by
  rcases v8 hu with⟨i,t,rfl,rfl⟩|⟨x,t,rfl,rfl⟩
  .rcases v8 hv with⟨j,u,rfl,rfl⟩|⟨y,u,rfl,rfl⟩
   .rw[bQ5] at h;show wpAny_eqBool_int h
   .rw[bQ4] at h;show SeqAt.EqAt.int_str i t y u _ _ _ _ h
  .rcases v8 hv with⟨j,u,rfl,rfl⟩|⟨y,u,rfl,rfl⟩
   .rw[bQ3] at h;show SeqAt.EqAt.str_int x t j u _ _ _ _ h
   .rw[bQ2] at h;show wpAny_eqBool_str h
 «strs»:=λk x t v h=>by
  rcases v8 h with⟨i,u,rfl,e⟩|⟨y,u,rfl,e⟩
  .exact nomatch e
  .injection e with e1 _;subst e1;cases v<;>rfl
def a12(prog:Program)(w:World)(k:Key)(v:Value):(y4 prog w).is k v=Z4 k v:=rfl
def aS1(prog:Program)(w:World)(i:Int)(t:Tok):(y4 prog w).is (.inl i) (.int i t)=true:=Zc i t
def aS0(prog:Program)(w:World)(x:Str)(t:Tok):(y4 prog w).is (.inr x) (.str x t)=true:=Zd x t
set_option genInjectivity true in
inductive V where
 |aR|bl (b:Bool)|int (i:Int)|str (x:Str)|mO (b:Array UInt8)|tU (b:UInt64)|ref (a:Addr)|ty (n:String)
 deriving DecidableEq
abbrev RelV:V->Value->Prop
 |.aR,u=>u=Value.none
 |.bl b,u=>u=Value.bool b
 |.int i,u=>∃t,u=Value.int i t
 |.str x,u=>∃t,u=Value.str x t
 |.mO b,u=>∃t,u=Value.bytes b t
 |.tU b,u=>∃t,u=Value.float b t
 |.ref a,u=>u=Value.ref a
 |.ty n,u=>u=Value.type n
noncomputable abbrev Vals:@&V->@&Value->Prop:=Paired RelV
def Vals.length{xs:@&V}{us:@&Value}(r:Vals xs us):-xs=-us:=nC r
def Vals.get:∀{xs:@&V} {us:@&Value} {i:Nat} {x:V},Vals xs us->xs[i]?=!x->∃u,us[i]?=!u/\RelV x u
 |_,_,_,_,.nil,e=>by simp at e
 |_,_,0,_,.cons r _,e=>by simp at e;subst e;show#[_,rfl,r]
 |_,_,i+1,x,.cons _ t,e=>by
  let#[u,h1,h2]:=Vals.get t (_/e);show#[u,by simpa using h1,h2]
def Vals.set{x:V}{u:Value}(r:RelV x u):∀{xs:@&V} {us:@&Value} (i:Nat),Vals xs us->Vals (xs.set i x) (us.set i u)
 |_,_,_,.nil=>.nil
 |_,_,0,.cons _ t=>.cons r t
 |_,_,i+1,.cons q t=>.cons q (Vals.set r i t)
def Vals.append{ys:@&V}{ws:@&Value}(h:Vals xs us)(s:Vals ys ws):Vals (xs++ys) (us++ws):=by
 induction h with
 |nil=>show s
 |cons r t ih=>show .cons r ih
def Vals.take:∀{xs:@&V} {us:@&Value} (n:Nat),Vals xs us->Vals (xs.take n) (us.take n)
 |_,_,0,_=>.nil
 |_,_,_+1,.nil=>.nil
 |_,_,n+1,.cons r t=>.cons r (Vals.take n t)
def Vals.drop:∀{xs:@&V} {us:@&Value} (n:Nat),Vals xs us->Vals (xs.drop n) (us.drop n)
 |_,_,0,r=>r
 |_,_,_+1,.nil=>.nil
 |_,_,n+1,.cons _ t=>Vals.drop n t
abbrev F3:Option V->Option Value->Prop
 |some v,!u=>RelV v u
 |none,none=>True
 |_,_=>False
abbrev KV{κ:Type}:@&(κ×V)->@&(κ×Value)->Prop:=Paired λ(p:κ×V) (q:κ×Value)=>p.1=q.1/\RelV p.2 q.2
abbrev kV:Key->V
 |.inl i=>.int i
 |.inr x=>.str x
inductive HO where
 |lst (xs:@&V)
 |tup (xs:@&V)
 |dK (kvs:@&(Key×V))|dT (kvs:@&(List Key×V))
 |set (S:Int->Bool) (n:Nat)
 |ins (C dx:Addr) (fs:@&(Str×V))
 |own (x:Addr)
 |xd (fs:@&(Str×V))
 |met (f x:Addr)
 |nG (lo hi:Int)
 |kC (o:Obj) (u:HO)
 |qT (ps:Array Value)
 |ext (φ:Heap->Prop)
noncomputable abbrev Hp:=Addr->Option HO
abbrev upd(H:Hp)(a:Addr)(o:HO):Hp:=λb=>if b=a then some o else H b
def l6:upd H a o a=!o:=by unfold upd;rw[az rfl]
def d4(h:b≠a):upd H a o b=H b:=by unfold upd;rw[aA h]
def Zv{u:HO}(h:H a=!o)(h':H b=!u)(d:o≠u):a≠b:=by
 intro e;subst e;rw[h] at h';show d (aO h')
def j8(h:H a=!o)(h':H b=none):a≠b:=by
 intro e;simp_all
def O5(h:Heap)(a:Addr)(items:Array Value):Prop:=∃o,h.get? a=!o/\o.cls=.type "tuple"/\(∃n,o.data=.seq items n)/\o.dict=none
def O5.tup{h:Heap}{a:Addr}{items:Array Value}(x:O5 h a items):IsTup h a items:=let ⟨o,e,c,d,_⟩:=x;#[o,e,c,d]
def O5.new(h:Heap)(items:Array Value):O5 (h.push { cls:=.type "tuple",data:=.seq items }) h.objs.size items:=#[_,aJ _ rfl,rfl,#[_,rfl],rfl]
section
variable(P:Program)(w:World)
abbrev m8(H:Hp)(h:Heap)(a:Addr):HO->Prop
 |.lst xs=>-xs<=sizeLine/\∃(bo:@&Value) (n:Nat),Vals xs bo/\h.get? a=some { cls:=.type "list",data:=.seq bo.toArray n }
 |.tup xs=>-xs<=sizeLine/\∃bo:@&Value,Vals xs bo/\O5 h a bo.toArray
 |.dK kvs=>-kvs<=sizeLine/\(a==sysModules)=false/\∃vs,KV kvs vs/\h.DictOf (y4 P w) a vs
 |.dT kvs=>-kvs<=sizeLine/\(a==sysModules)=false/\∃xs:@&(List Key×Addr×Value),
   Paired (λ(p:@&Key×V) (q:@&Key×Addr×Value)=>p.1=q.1/\H q.2.1=!.tup (p.1.map kV)/\RelV p.2 q.2.2) kvs xs /\
   ∃o es ep,h.get? a=!o/\o.ExactDict/\o.data=.dict es ep/\es.toList=xs.map (entryOfKey (tupleKind (y4 P w)))/\(xs.map (·.1)).Nodup
 |.set S n=>h.SetOf (intKind P w) a S n
 |.ins C dx fs=>H dx=!.own a/\-fs<=1000/\dx≠a/\h.get? a=!PySem.W.instObj C dx /\
   ∃mA,h.Ns1 dx mA/\(∀f,F3 (fs.lookup f) (mA f))/\PySem.Within mA (fs.map (·.1))
 |.own _=>∃o,h.get? a=!o
 |.xd fs=>∃mA,h.Ns1 a mA/\∀f,F3 (fs.lookup f) (mA f)
 |.nG lo hi=>∃t u v,h.get? a=some { cls:=.type "range",data:=.fields (List.toArray [.int lo t,.int hi u,.int 1 v]) }
 |.kC o u=>h.get? a=!o/\m8 H h a u
 |.qT ps=>h.get? a=some { cls:=.none,data:=.fields ps }
 |.met f x=>h.get? a=!PySem.W.methodObj (.ref f) (.ref x)
 |.ext φ=>φ h/\(∃o,h.get? a=!o)/\∀h1 h2:Heap,φ h1->(∀o,h1.get? a=!o->h2.get? a=!o)->φ h2
def gR(H:Hp)(h:Heap):Prop:=∀a o,H a=!o->m8 P w H h a o
end
def m8.lt(x:m8 P w H h a o):a<h.objs.size:=by
 cases o with
 |lst xs=>let#[_,_,_,_,e]:=x;show aF e
 |tup xs=>let#[_,_,_,p]:=x;show p.tup.lt
 |dK kvs=>let#[_,_,_,_,o,_,_,e,_]:=x;show aF e
 |dT kvs=>let#[_,_,_,_,o,_,_,e,_]:=x;show aF e
 |set S n=>let#[o,_,_,_,e,_]:=x;show aF e
 |ins C dx fs=>let#[_,_,_,e,_]:=x;show aF e
 |own y=>let#[_,e]:=x;show aF e
 |xd fs=>let#[_,#[_,_,_,e,_],_]:=x;show aF e
 |nG lo hi=>let#[_,_,_,e]:=x;show aF e
 |kC ob u=>let#[e,_]:=x;show aF e
 |qT ps=>show aF (show h.get? a=some _ from x)
 |met f y=>show aF (show h.get? a=some _ from x)
 |ext φ=>let#[_,#[_,e],_]:=x;show aF e
def Paired.Mm{β:Type}{F G:α->β->Prop}{wQ:List α}{wO:List β}(h:Paired F wQ wO)(f:∀a b,F a b->G a b):Paired G wQ wO:=by
 induction h with
 |nil=>show .nil
 |cons r t ih=>show .cons (f _ _ r) ih
def m8.K0(x:m8 P w H h a o)(k:∀b u,(b=a\/H b=!.own a)->h.get? b=!u->h'.get? b=!u)(ho:∀b,H b=!.own a->H' b=!.own a)(ht:∀b xs,H b=!.tup xs->H' b=!.tup xs):m8 P w H' h' a o:=by
 induction o with
 |lst xs=>let#[z,bo,n,r,e]:=x;show#[z,bo,n,r,k _ _ (.inl rfl) e]
 |tup xs=>let#[z,bo,r,ob,e,c]:=x;show#[z,bo,r,ob,k _ _ (.inl rfl) e,c]
 |dK kvs=>let#[z,y,vs,r,ob,es,ep,e,c]:=x;show#[z,y,vs,r,ob,es,ep,k _ _ (.inl rfl) e,c]
 |dT kvs =>
  let#[z,y,xs,r,ob,es,ep,e,c]:=x;show#[z,y,xs,Paired.Mm r λp q z=>#[z.1,ht _ _ z.2.1,z.2.2],ob,es,ep,k _ _ (.inl rfl) e,c]
 |set S n=>let#[ob,es,ep,t,e,c]:=x;show#[ob,es,ep,t,k _ _ (.inl rfl) e,c]
 |ins C dx fs =>
  let#[d,z,ne,e,mA,#[od,es,ep,e2,c],r]:=x;show#[ho _ d,z,ne,k _ _ (.inl rfl) e,mA,#[od,es,ep,k _ _ (.inr d) e2,c],r]
 |own y=>let#[ob,e]:=x;show#[ob,k _ _ (.inl rfl) e]
 |xd fs=>let#[mA,#[od,es,ep,e,c],r]:=x;show#[mA,#[od,es,ep,k _ _ (.inl rfl) e,c],r]
 |nG lo hi=>let#[t,u,v,e]:=x;show#[t,u,v,k _ _ (.inl rfl) e]
 |kC ob u ih=>let#[e,q]:=x;show#[k _ _ (.inl rfl) e,ih q]
 |qT ps =>
  let e:=x;show k a _ (.inl rfl) e
 |met f y =>
  let e:=x;show k a _ (.inl rfl) e
 |ext φ=>let#[p,#[o,e],st]:=x;show#[st _ _ p λo q=>k _ _ (.inl rfl) q,#[o,k _ _ (.inl rfl) e],st]
def gR.lt(x:gR P w H h)(e:H a=!o):a<h.objs.size:=(x a o e).lt
def gR.fresh(x:gR P w H h)(e:h.objs.size<=a):H a=none:=by
 cases q:H a with
 |none=>rfl
 |some u=>show absurd (aI (x.lt q) e) (cq _)
def gR.kept(x:gR P w H h)(k:∀b u,h.get? b=!u->h'.get? b=!u):gR P w H h':=λa o e =>
 (x a o e).K0 (λb u y q=>k b u q) (λy q=>q) λy y q=>q
def gR.laid(x:gR P w H h)(k:∀b u,h.get? b=!u->h'.get? b=!u)(hp:h.objs.size<=a)(new:m8 P w (upd H a o) h' a o):gR P w (upd H a o) h':=λb u e=>by
 let hn:=x.fresh hp;by_cases hb:b=a
 .subst hb;rw[l6] at e;simp_all
 .rw[d4 hb] at e;show(x b u e).K0 (λc v y q=>k c v q) (λc q=>by rw[d4 (j8 q hn)];show q) λc xs q=>by rw[d4 (j8 q hn)];show q
def Rd(H:Hp)(a:Addr)(u:HO):Prop:=H a=!u\/∃o,H a=!.kC o u
def Rd.ok{u:HO}(r:Rd H a u)(x:gR P w H h):m8 P w H h a u:=by
 rcases r with r|⟨o,r⟩
 .exact x a u r
 .let#[_,q]:=x a _ r;show q
abbrev zf:Option HO->Prop
 |some (.lst _)=>True
 |some (.dK _)=>True
 |some (.dT _)=>True
 |some (.set _ _)=>True
 |some (.ins _ _ _)=>True
 |some (.ext _)=>True
 |_=>False
section
variable{x e:Addr}{o':HO}
def gR.write(ok:gR P w H h)(mu:zf (H x))(he:e=x\/H e=!.own x)(k:∀b u,b≠e->h.get? b=!u->h'.get? b=!u)(sZ:∃u,h'.get? e=!u)(new:m8 P w (upd H x o') h' x o'):gR P w (upd H x o') h':=λb u q=>by
 let wG:∀c y,H c=!.own y->c≠x:=λc y r z=>by subst z;rw[r] at mu;show mu
 let Cq:∀c xs,H c=!.tup xs->c≠x:=λc xs r z=>by subst z;rw[r] at mu;show mu
 by_cases hb:b=x
 .subst hb;rw[l6] at q;cases q;show new
 .rw[d4 hb] at q;by_cases vb:b=e
  .let q':H b=!.own x:=by
    rcases he with z|z
    .exact absurd (vb.trans z) hb
    .rw[vb];show z
   rw[q] at q';cases q';let#[v,hv]:=sZ;show#[v,by rw[vb];show hv]
  .refine(ok b u q).K0 (λc v hc r=>k c v ?_ r) (λc r=>by rw[d4 (wG c b r)];show r) λc xs r=>by rw[d4 (Cq c xs r)];show r
   rcases hc with rfl|hc
   .exact vb
   .rintro rfl;rcases he with z|z
    .exact wG c b hc z
    .rw[hc] at z;cases z;show hb rfl
end
structure Un(fs ex:@&Addr)(H H':Hp)(h h':Heap):Prop where
 keep:∀b o,h.get? b=!o->H b=none->b∉fs->b∉ex->h'.get? b=!o
 slot:∀b o,h.get? b=!o->H b=none->b∈fs->b∉ex->∃sl,h'.get? b=some { o with slots:=sl }
 free:∀b o,h.get? b=!o->H b=none->b∉ex->H' b=none
 there:∀b o,h.get? b=!o->b∉ex->∃o',h'.get? b=!o'
 iV:∀b xs,H b=!.tup xs->H' b=!.tup xs
 iH:∀b o u,H b=!.kC o u->H' b=!.kC o u
 iW:∀b ps,H b=!.qT ps->∃more,H' b=!.qT (ps++more)
section
variable{fs ex:@&Addr}{H1:Hp}{h1:Heap}{x e:Addr}
def Un.any(u:Un fs ex H H1 h h1){ob:Obj}(q:h.get? b=!ob)(n:H b=none)(hx:b∉ex):∃sl,h1.get? b=some { ob with slots:=sl }:=by
 by_cases hb:b∈fs
 .exact u.slot b ob q n hb hx
 .exact#[ob.slots,u.keep b ob q n hb hx]
def Un.kept(k:∀b u,h.get? b=!u->h'.get? b=!u):Un fs ex H H h h' :=
 #[λb ob q x x x=>k b ob q,λb ob q x x x=>#[ob.slots,k b ob q],λx x x n x=>n,λb ob q x=>#[ob,k b ob q],λx x q=>q,λx x x q=>q,λx ps q=>#[(List.toArray []),by rw[q];simp]]
def Un.refl:Un fs ex H H h h:=Un.kept λx x q=>q
def Un.laid(k:∀b u,h.get? b=!u->h'.get? b=!u)(hp:h.objs.size<=a)(hn:H a=none):Un fs ex H (upd H a o) h h' where
 keep:=λb u q x x x=>k b u q
 slot:=λb u q x x x=>#[u.slots,k b u q]
 free:=λb u q n x=>by rw[d4 (aT (aI (aF q) hp))];show n
 there:=λb u q x=>#[u,k b u q]
 iV:=λb xs q=>by rw[d4 (j8 q hn)];show q
 iH:=λb u xs q=>by rw[d4 (j8 q hn)];show q
 iW:=λb ps q=>#[(List.toArray []),by rw[d4 (j8 q hn),q];simp]
def Un.write(mu:zf (H x))(he:e=x\/H e=!.own x)(k:∀b u,b≠e->h.get? b=!u->h'.get? b=!u)(sZ:∃u,h'.get? e=!u):Un fs ex H (upd H x o) h h':=by
 let hx:∀b,H b=none->b≠x:=λb n z=>by subst z;rw[n] at mu;show mu
 let hb:∀b,H b=none->b≠e:=λb n z=>by
  simp_all
 let hm:∀b u,H b=!u->¬zf (!u)->b≠x:=λb u q nm z=>by simp_all
 show #[λb u q n y y=>k b u (hb b n) q,λb u q n y y=>#[u.slots,k b u (hb b n) q],λb u q n y=>by rw [d4 (hx b n)];show n,λb u q y=>?_,
  λb xs q=>by rw [d4 (hm b _ q λz=>z)];show q,λb u xs q=>by rw [d4 (hm b _ q λz=>z)];show q,λb ps q=>#[(List.toArray []),by rw [d4 (hm b _ q λz=>z),q];simp]]
 by_cases vb:b=e
 .simp_all
 .exact#[u,k b u vb q]
end
abbrev pZ(h:Heap)(H:Hp):@&Addr:=(List.range h.objs.size).filter λa=>(H a).isSome
abbrev qD(h:Heap)(H:Hp):Heap:=PySem.W.hideAll h (pZ h H)
def YY(h:Heap)(H:Hp):(qD h H).objs.size=h.objs.size:=PySem.W.hideAll_size _ _
def Xc{o:Obj}(e:h.get? b=!o)(n:H b=none):(qD h H).get? b=!o :=
 Ii _ e λhm=>by
  let q:=(bg.mp hm).2;rw[n] at q;simp at q
def bB3{o:Obj}(e:(qD h H).get? b=!o):h.get? b=!o/\H b=none:=by
 let e':=QX (pZ h H) e;show#[e',?_];cases q:H b with
 |none=>rfl
 |some x =>
  let hm:b∈pZ h H:=bg.mpr #[aN.mpr (aF e'),by simp[q]];let z:(qD h H).get? b=none:=PySem.W.hideAll_none (pZ h H) hm
  simp_all
structure Mod(K:PySem.W.Frag)(mg:Str->Option Value)(base:Heap):Prop where
 ow:K.In base
 glob:base.Ns mainGlobals mg
 blt:∃mb,base.Ns builtinsNs mb/\∀x:Str,x≠"__name__"->mb x=bootBuiltins x
 nolimit:base.NoLimit
structure Cx where
 prog:Program
 w:World
 K:PySem.W.Frag
 mg:Str->Option Value
 base:Heap
 A:Around
 N:@&Str
 dJ:Shared
 ka:Hp
 env:Env
 outer:@&Env
 stack:@&Env
 ex:@&Addr
 fn:Str->Bool
 calm:Bool
 pn:@&(Addr×Obj)
 xe:Value->Shared->Prop
 sg:Option (List (Option V)):=none
def Cx.Nd(X:Cx):Prop:=X.N.Nodup/\X.sg=none
abbrev gu(l:@&Env):@&Addr:=l.filterMap (·.frame)
noncomputable abbrev Cx.fs(X:Cx):@&Addr:=gu X.outer
def uu(sc:Scope)(x:Str):Prop:=sc.names.lookup x=!.local\/sc.names.lookup x=!.cell\/sc.names.lookup x=!.free
def Loc(sc:Scope)(x:Str):Prop:=sc.names.lookup x=!.local\/sc.names.lookup x=!.cell
abbrev Look(env:Env)(h:Heap)(m:Str->Option Value)(x:Str)(u:Value):Prop :=
 (env.kindOf x=!.local/\m x=!u)\/((env.kindOf x=!.cell\/env.kindOf x=!.free)/\∃c,env.cells.lookup x=!c/\h.IsCell c (!u))
structure Cx.Ok(X:Cx):Prop where
 mod:Mod X.K X.mg X.base
 kind:X.env.scope.kind=.function
 glob:X.env.globals=mainGlobals
 blt:X.env.builtins=builtinsNs
 above:X.dJ.heap.objs.size<=X.env.locals
 inj:∀x y c,X.env.cells.lookup x=!c->X.env.cells.lookup y=!c->x=y
 has:∀x,(X.env.kindOf x=!.cell\/X.env.kindOf x=!.free)->∃c,X.env.cells.lookup x=!c
 rQ:∀x c,X.fn x=true->X.env.cells.lookup x=!c->X.dJ.heap.objs.size<=c
 hd:X.calm=true->X.A.handled=none
 frames:X.A.frames=!X.stack
 sv:X.stack=X.outer\/(X.stack=X.env::X.outer/\X.env.frame=!X.env.locals)
 xO:∀b∈X.ex,b≠X.env.locals/\∀x c,X.env.cells.lookup x=!c->c≠b
 bs:∀b o,X.base.get? b=!o->X.dJ.heap.get? b=!o/\X.ka b=none
 oX:X.base.objs.size<=X.dJ.heap.objs.size
 kX:∀b o,X.base.get? b=!o->b∉X.ex
 lZ:∀b∈X.ex,b∉X.fs
 O8:X.dJ.heap.FunFrames X.base X.outer
 pH:∀b∈X.fs,X.ka b=none
structure Inv(X:Cx)(pi:@&(Addr×Obj))(U:@&(Option V))(H:Hp)(s:Shared):Prop where
 ok:X.Ok
 os:s.os=X.dJ.os
 bare:AllBare s.gens
 base:Un X.fs X.ex X.ka H X.dJ.heap s.heap
 loc:∃m,s.heap.Ns X.env.locals m/\∀(i:Nat) (x:Str) (v:V),X.N[i]?=!x->U[i]?=!!v->uu X.env.scope x->∃u,RelV v u/\Look X.env s.heap m x u
 cell:∀x c,X.env.cells.lookup x=!c->∃v,s.heap.IsCell c v
 free:H X.env.locals=none
 fj:∀x c,X.env.cells.lookup x=!c->H c=none
 pin:∀p∈X.pn++pi,s.heap.get? p.1=!p.2/\H p.1=none/\p.1≠X.env.locals/\p.1∉X.fs/\∀v,p.2.data≠.cell v
 bV:gR X.prog X.w H s.heap
 len:-U=-X.N
 sg:∀dn,X.sg=!dn->U=dn
section
variable{U:@&(Option V)}
def Cx.Ok.b93(ok:X.Ok){o:Obj}(e:X.base.get? b=!o):b∉X.fs:=λhb=>by
 have:=(ok.O8.mem hb).1
 simp_all
def Inv.bs(I:Inv X pi U H s):∀b o,X.base.get? b=!o->s.heap.get? b=!o/\H b=none:=λb o e =>
 #[I.base.keep b o (I.ok.bs b o e).1 (I.ok.bs b o e).2 (I.ok.b93 e) (I.ok.kX b o e),I.base.free b o (I.ok.bs b o e).1 (I.ok.bs b o e).2 (I.ok.kX b o e)]
def Inv.bk(I:Inv X pi U H s):∀b o,X.base.get? b=!o->s.heap.get? b=!o:=λb o e=>(I.bs b o e).1
def Inv.mod(I:Inv X pi U H s):Mod X.K X.mg X.base:=I.ok.mod
def Inv.gT(I:Inv X pi U H s):X.K.In s.heap:=I.ok.mod.ow.keeps I.bk
def Inv.lt(I:Inv X pi U H s):X.env.locals<s⁻¹:=let ⟨_,hn,_⟩:=I.loc;hn.lt
def Inv.sz(I:Inv X pi U H s):X.dJ.heap.objs.size<=s⁻¹:=aG I.ok.above (dI I.lt)
def Inv.BE(I:Inv X pi U H s)(h:s⁻¹<=a):a∉X.fs:=λhb=>by
 let#[_,o,ho,_]:=I.ok.O8.mem hb;show absurd (aI (aF ho) (aG I.sz h)) (cq _)
def Inv.tZ(I:Inv X pi U H s):∀x c,X.env.cells.lookup x=!c->c≠X.env.locals:=λx c e z=>by
 let#[v,o,ho,hd]:=I.cell x c e;let#[m,#[o',es,ep,lT,tB,_],_]:=I.loc
 simp_all
def Inv.O8(I:Inv X pi U H s):s.heap.FunFrames X.base X.outer:=by
 let all:∀(l:@&Env),(∀b∈gu l,b∈X.fs)->X.dJ.heap.FunFrames X.base l->s.heap.FunFrames X.base l:=by
  intro l
  induction l with
  |nil=>intro _ _;trivial
  |cons env r ih =>
   intro hs hl;let#[hk,#[L,o,hf,hn,ho,hd],hr]:=hl;let hL:=hs L (by unfold gu;rw[dO,hf];show kQ);let#[sl,e]:=I.base.slot L o ho (I.ok.pH L hL) hL λz=>I.ok.lZ L z hL;show#[hk,#[L,_,hf,hn,e,hd],ih (λb hb=>hs b (by unfold gu;rw[dO,hf];show bZ _ hb)) hr]
 show all X.outer (λx hb=>hb) I.ok.O8
def Inv.stack(I:Inv X pi U H s):s.heap.FunFrames X.base X.stack:=by
 rcases I.ok.sv with e|⟨e,hf⟩
 .rw[e];show I.O8
 .rw[e];let#[m,hn,_]:=I.loc;show .cons (by rw[I.ok.kind];decide) hf hn ?_ I.O8;show Heap.get?_none_of_le (aG I.ok.oX I.ok.above)
def Inv.U4(I:Inv X pi U H s):∀b∈gu X.stack,b∈X.env.locals::X.fs:=λb hb=>by
 rcases I.ok.sv with e|⟨e,hf⟩
 .rw[e] at hb;show bZ _ hb
 .rw[e] at hb;unfold gu at hb;rw[dO,hf] at hb;show hb
def Inv.AS(I:Inv X pi U H s):∀b∈gu X.stack,H b=none:=λb hb=>by
 rcases aM.mp (I.U4 b hb) with e|hb
 .rw[e];show I.free
 .let#[_,o,ho,_]:=I.ok.O8.mem hb;show I.base.free b o ho (I.ok.pH b hb) λz=>I.ok.lZ b z hb
def Inv.step{g':Array GenState}{t':Nat}{d':Drawn}{ch:@&Addr}(I:Inv X pi U H s)(mL:∀b∈ch,(b∈X.ex\/X.dJ.heap.objs.size<=b)/\b≠X.env.locals/\(∀x c,X.env.cells.lookup x=!c->c≠b)/\∀p∈X.pn++pi,p.1≠b)(keep:∀b o,b≠X.env.locals->b∉X.fs->b∉ch->s.heap.get? b=!o->H b=none->h'.get? b=!o)(slot:∀b o,b≠X.env.locals->b∈X.fs->b∉ch->s.heap.get? b=!o->H b=none->∃sl,h'.get? b=some { o with slots:=sl })(free:∀b o,b∉ch->s.heap.get? b=!o->H b=none->H' b=none)(there:∀b o,b∉ch->s.heap.get? b=!o->∃o',h'.get? b=!o')(iV:∀b xs,H b=!.tup xs->H' b=!.tup xs)(iH:∀b o u,H b=!.kC o u->H' b=!.kC o u)(iW:∀b ps,H b=!.qT ps->∃more,H' b=!.qT (ps++more))(ns:∀m,s.heap.Ns X.env.locals m->h'.Ns X.env.locals m)(bV:gR X.prog X.w H' h')(hg:AllBare g') :
  Inv X pi U H' { s with heap:=h',gens:=g',drawn:=d',toks:=t' }:=by
 let IZ:∀b o,X.dJ.heap.get? b=!o->b≠X.env.locals:=λb o e=>aT (aI (aF e) I.ok.above);let uK:∀b o,X.dJ.heap.get? b=!o->b∉X.ex->b∉ch:=λb o e hx hb=>by
  rcases(mL b hb).1 with z|z
  .exact hx z
  .exact absurd (aI (aF e) z) (cq _)
 let cellK:∀x c,X.env.cells.lookup x=!c->∀v,s.heap.IsCell c v->h'.IsCell c v:=λx c e v bA=>by
  let#[o,ho,hd]:=bA;let wL:c∉ch:=λz=>(mL c z).2.2.1 x c e rfl;by_cases hc:c∈X.fs
  .let#[sl,q]:=slot c o (I.tZ x c e) hc wL ho (I.fj x c e);show#[_,q,hd]
  .exact#[o,keep c o (I.tZ x c e) hc wL ho (I.fj x c e),hd]
 show#[I.ok,I.os,hg,#[λb o e n hb hx=>?_,λb o e n hb hx=>?_,λb o e n hx=>?_,λb o e hx=>?_,λb xs e=>iV b xs (I.base.iV b xs e),λb o xs e=>iH b o xs (I.base.iH b o xs e),λb ps e=>?_],?_,λx c e=>?_,?_,λx c e=>?_,λp hp=>?_,bV,I.len,I.sg]
 .exact keep b o (IZ b o e) hb (uK b o e hx) (I.base.keep b o e n hb hx) (I.base.free b o e n hx)
 .let#[sl,e1]:=I.base.slot b o e n hb hx;let#[Rz,e2]:=slot b _ (IZ b o e) hb (uK b o e hx) e1 (I.base.free b o e n hx);show#[Rz,e2]
 .let#[o',e1]:=I.base.there b o e hx;show free b o' (uK b o e hx) e1 (I.base.free b o e n hx)
 .let#[o',e1]:=I.base.there b o e hx;show there b o' (uK b o e hx) e1
 .let#[m1,e1]:=I.base.iW b ps e;let#[m2,e2]:=iW b _ e1;show#[m1++m2,by rw[e2,Array.append_assoc]]
 .let#[m,hn,hl]:=I.loc;show#[m,ns m hn,λi x v e1 e2 e3=>?_];let#[u,r,l]:=hl i x v e1 e2 e3;show#[u,r,?_];rcases l with l|⟨k,c,e,z⟩
  .exact .inl l
  .exact .inr #[k,c,e,cellK x c e _ z]
 .let#[v,z]:=I.cell x c e;show#[v,cellK x c e v z]
 .let#[m,#[o,_,_,ho,_],_]:=I.loc;show free _ o (λz=>(mL _ z).2.1 rfl) ho I.free
 .let#[v,o,ho,hd]:=I.cell x c e;show free c o (λz=>(mL c z).2.2.1 x c e rfl) ho (I.fj x c e)
 .let#[e,n,ne,nf,d]:=I.pin p hp;let wL:p.1∉ch:=λz=>(mL p.1 z).2.2.2 p hp rfl;show#[keep p.1 p.2 ne nf wL e n,free p.1 p.2 wL e n,ne,nf,d]
def Inv.un{t':Nat}(I:Inv X pi U H s)(u:Un X.fs [] H H' s.heap h')(bV:gR X.prog X.w H' h'):Inv X pi U H' { s with heap:=h',toks:=t' }:=by
 let#[m,#[o,es,ep,ho,r],_]:=id I.loc;let#[sl,hL]:=u.any ho I.free #[_];show I.step (g':=s.gens) (d':=s.drawn) (ch:=[]) (λx z=>nomatch z) (λb o x hb x e n=>u.keep b o e n hb #[_]) (λb o x hb x e n=>u.slot b o e n hb #[_]) (λb o x e n=>u.free b o e n #[_]) (λb o x e=>u.there b o e #[_]) u.iV u.iH u.iW (λm' hm=>by
  let#[o',nt,Ai,lT,r']:=hm;rw[ho] at lT;cases lT;show #[_,nt,Ai,hL,r']) bV I.bare
def Inv.call{g':Array GenState}{t':Nat}{d':Drawn}(I:Inv X pi U H s)(u:Un (gu X.stack) ch H H' s.heap h')(bV:gR X.prog X.w H' h')(hg:AllBare g')(mL:∀b∈ch,(b∈X.ex\/X.dJ.heap.objs.size<=b)/\b≠X.env.locals/\(∀x c,X.env.cells.lookup x=!c->c≠b)/\∀p∈X.pn++pi,p.1≠b) :
  Inv X pi U H' { s with heap:=h',gens:=g',drawn:=d',toks:=t' }:=by
 let#[m,#[o,es,ep,ho,r],_]:=id I.loc;let#[sl,hL]:=u.any ho I.free λz=>(mL _ z).2.1 rfl;show I.step mL (λb o hL hb hc e n=>u.keep b o e n (λz=>(aM.mp (I.U4 b z)).elim hL hb) hc) (λb o y y hc e n=>u.any e n hc) (λb o hc e n=>u.free b o e n hc) (λb o hc e=>u.there b o e hc) u.iV u.iH u.iW (λm' hm=>by
  let#[o',nt,Ai,lT,r']:=hm;rw[ho] at lT;cases lT;show #[_,nt,Ai,hL,r']) bV hg
def Inv.turned{t':Nat}{it:Addr}(I:Inv X pi U H s)(k:∀b o,b≠it->s.heap.get? b=!o->h'.get? b=!o)(hn:H it=none)(hL:it≠X.env.locals)(h1:it∈X.ex\/X.dJ.heap.objs.size<=it)(h2:∀x c,X.env.cells.lookup x=!c->c≠it)(h3:∀p∈X.pn++pi,p.1≠it):Inv X pi U H { s with heap:=h',toks:=t' }:=by
 let IY:∀b u,H b=!u->b≠it:=λb u e z=>by simp_all
 show I.step (g':=s.gens) (d':=s.drawn) (ch:=[it]) (λb hb=>?_) (λb o y y hc e y=>k b o (λz=>hc (by simp[z])) e) (λb o y y hc e y=>#[o.slots,k b o (λz=>hc (by simp[z])) e]) (λy y y y n=>n)
  (λb o hc e=>#[o,k b o (λz=>hc (by simp[z])) e]) (λy y e=>e) (λy y y e=>e) (λb ps e=>#[(List.toArray []),by rw[e];simp]) (λm hm=>?_) (λb u e=>?_) I.bare
 .let e:b=it:=by simpa using hb
  subst e;show#[h1,hL,h2,h3]
 .let#[o,es,ep,ho,r]:=hm;show#[o,es,ep,k _ o (bR hL) ho,r]
 .refine(I.bV b u e).K0 (λc v hc q=>k c v ?_ q) (λy q=>q) λy y q=>q;rcases hc with z|z
  .rw[z];show IY b u e
  .exact IY c _ z
def Inv.tok(I:Inv X pi U H s)(t:Nat):Inv X pi U H { s with toks:=t }:=I.un (h':=s.heap) (t':=t) Un.refl I.bV
def Inv.kept{t':Nat}(I:Inv X pi U H s)(k:∀b u,s.heap.get? b=!u->h'.get? b=!u):Inv X pi U H { s with heap:=h',toks:=t' }:=I.un (Un.kept k) (I.bV.kept k)
def Inv.laid{a:Addr}{o:HO}{t':Nat}(I:Inv X pi U H s)(k:∀b u,s.heap.get? b=!u->h'.get? b=!u)(hp:s⁻¹<=a)(new:m8 X.prog X.w (upd H a o) h' a o) :
  Inv X pi U (upd H a o) { s with heap:=h',toks:=t' }:=I.un (Un.laid k hp (I.bV.fresh hp)) (I.bV.laid k hp new)
def Inv.write{x e:Addr}{o:HO}{t':Nat}(I:Inv X pi U H s)(mu:zf (H x))(he:e=x\/H e=!.own x)(k:∀b u,b≠e->s.heap.get? b=!u->h'.get? b=!u)(sZ:∃u,h'.get? e=!u)(new:m8 X.prog X.w (upd H x o) h' x o):Inv X pi U (upd H x o) { s with heap:=h',toks:=t' }:=I.un (Un.write mu he k sZ) (I.bV.write mu he k sZ new)
def Inv.weak{cv:@&(Option V)}(hs:X.sg=none)(I:Inv X pi U H s)(hl:-cv=-U)(w:∀(i:Nat) v,cv[i]?=!!v->U[i]?=!!v):Inv X pi cv H s :=
 #[I.ok,I.os,I.bare,I.base,let ⟨m,hn,SV⟩:=I.loc;#[m,hn,λi x v e1 e2 e3=>SV i x v e1 (w i v e2) e3],I.cell,I.free,I.fj,I.pin,I.bV,hl.trans I.len,λy z=>by simp_all]
def Inv.yK{fV:@&(Addr×Obj)}(I:Inv X pi U H s)(h:∀p∈fV,s.heap.get? p.1=!p.2/\H p.1=none/\p.1≠X.env.locals/\p.1∉X.fs/\∀v,p.2.data≠.cell v):Inv X fV U H s :=
 #[I.ok,I.os,I.bare,I.base,I.loc,I.cell,I.free,I.fj,λp hp=>(bt.mp hp).elim (λz=>I.pin p (eP _ z)) (h p),I.bV,I.len,I.sg]
def OV(hN:N.Nodup){j:Nat}(a:N[i]?=!x)(b:N[j]?=!x):i=j:=by
 let#[h1,e1]:=ak.mp a;let#[h2,e2]:=ak.mp b;show(mT hN).mp (e1.trans e2.symm)
def Qm{Q:Unit->Shared->Prop}(I:Inv X pi U H s)(hN:X.Nd)(hi:X.N[i]?=!x)(hx:Loc X.env.scope x)(r:RelV v u)(h:∀s',Inv X pi (U.set i (!v)) H s'->(∃a,Heap.SameBut a s.heap s'.heap/\(a=X.env.locals\/X.env.cells.lookup x=!a))->Q Unit.unit s')(hf:X.fn x=true\/X.env.scope.names.lookup x=!.local:=by first|show .inl rfl|show .inr rfl|assumption):wpAny M A (storeName X.env x u) Q E s:=by
 let#[m,hn,hl]:=id I.loc;let ky:(X.env.scope.kind==.class||(X.env.scope.kind==.module&&X.env.locals != X.env.globals))=false:=by rw[I.ok.kind];rfl
 let xq:i< -U:=by rw[I.len];show(ak.mp hi).1
 let tZ:=I.tZ;let tracked:∀{a:Addr} {h':Heap},(∃o,s.heap.get? a=!o/\H a=none)->Heap.SameBut a s.heap h'->gR X.prog X.w H h':=λ{a h'} ha hs b ob e=>by
  let#[_,_,mK]:=ha;show(I.bV b ob e).K0 (λc w' hc q=>(hs.2 c ?_).trans q) (λt q=>q) λt t q=>q;rintro rfl;rcases hc with rfl|hc
  .rw[mK] at e;cases e
  .rw[mK] at hc;cases hc
 rcases hx with hk|hk
 .refine wpAny_storeName_local hk hn (λh' uU hs=>?_) ky;let#[oL,_,_,qj,_]:=id hn;show h _ #[I.ok,I.os,I.bare,#[λb o e n hb hx=>?_,λb o e n hb hx=>?_,I.base.free,λb o e hx=>?_,I.base.iV,I.base.iH,I.base.iW],#[_,uU,λj y v' e1 e2 e3=>?_],λy c e=>?_,I.free,I.fj,λp hp=>?_,tracked #[oL,qj,I.free] hs,by simpa using I.len,λt z=>by rw[hN.2] at z;cases z] #[_,hs,.inl rfl]
  .exact(hs.2 b (aT (aI (aF e) I.ok.above))).trans (I.base.keep b o e n hb hx)
  .let#[sl,e1]:=I.base.slot b o e n hb hx;show#[sl,(hs.2 b (aT (aI (aF e) I.ok.above))).trans e1]
  .let#[o',e1]:=I.base.there b o e hx;show#[o',(hs.2 b (aT (aI (aF e) I.ok.above))).trans e1]
  .by_cases hj:j=i
   .subst hj;rw[hi] at e1;cases e1;rw[aU xq] at e2;cases e2;show#[u,r,.inl #[hk,by simp]]
   .rw[aB (bR hj)] at e2;let#[u',r',q]:=hl j y v' e1 e2 e3;show#[u',r',?_];rcases q with⟨k,e⟩|⟨k,c,e,z⟩
    .refine .inl #[k,?_];have:y≠x:=λe=>hj (OV hN.1 e1 (e▸hi));simp[this,e]
    .exact .inr #[k,c,e,z.sameBut hs (tZ y c e)]
  .let#[w',z]:=I.cell y c e;show#[w',z.sameBut hs (tZ y c e)]
  .let#[e,n,ne,nf,d]:=I.pin p hp;show#[(hs.2 p.1 ne).trans e,n,ne,nf,d]
 .let uZ:X.fn x=true:=by
   simp_all
  let#[c,hc]:=I.ok.has x (.inl hk);let#[w',z]:=I.cell x c hc;show wpAny_storeName_cell I.ok.kind hk hc z (λh' pD hs=>?_);let#[oc,CU,CT]:=id z;show h { s with heap:=h' } #[I.ok,I.os,I.bare,#[λb o e n hb hx=>?_,λb o e n hb hx=>?_,I.base.free,λb o e hx=>?_,I.base.iV,I.base.iH,I.base.iW],#[m,hn.sameBut hs (bR (tZ x c hc)),λj y v' e1 e2 e3=>?_],λy c' e=>?_,I.free,I.fj,λp hp=>?_,tracked #[oc,CU,I.fj x c hc] hs,by simpa using I.len,λt z=>by rw[hN.2] at z;cases z] #[c,hs,.inr hc]
  .exact(hs.2 b (aT (aI (aF e) (I.ok.rQ x c uZ hc)))).trans (I.base.keep b o e n hb hx)
  .let#[sl,e1]:=I.base.slot b o e n hb hx;show#[sl,(hs.2 b (aT (aI (aF e) (I.ok.rQ x c uZ hc)))).trans e1]
  .let#[o',e1]:=I.base.there b o e hx;show#[o',(hs.2 b (aT (aI (aF e) (I.ok.rQ x c uZ hc)))).trans e1]
  .by_cases hj:j=i
   .subst hj;rw[hi] at e1;cases e1;rw[aU xq] at e2;cases e2;show#[u,r,.inr #[.inl hk,c,hc,pD]]
   .rw[aB (bR hj)] at e2;let#[u',r',q]:=hl j y v' e1 e2 e3;show#[u',r',?_];rcases q with q|⟨k,c',e,z'⟩
    .exact .inl q
    .refine .inr #[k,c',e,z'.sameBut hs ?_];rintro rfl;show hj (OV hN.1 e1 (I.ok.inj _ _ _ e hc▸hi))
  .by_cases va:c'=c
   .subst va;show#[_,pD]
   .let#[w2,z2]:=I.cell y c' e;show#[w2,z2.sameBut hs va]
  .let#[e,n,ne,nf,d]:=I.pin p hp;show#[(hs.2 p.1 ?_).trans e,n,ne,nf,d];intro q;rw[q,CU] at e;let q':=aO e;show d w' (by rw[<- q'];show CT)
def FE{Q:Unit->Shared->Prop}(I:Inv X pi U H s)(hN:X.Nd)(hi:X.N[i]?=!x)(hx:Loc X.env.scope x)(r:RelV v u)(h:∀s',Inv X pi (U.set i (!v)) H s'->Q Unit.unit s')(hf:X.fn x=true\/X.env.scope.names.lookup x=!.local:=by first|show .inl rfl|show .inr rfl|assumption):wpAny M A (storeName X.env x u) Q E s :=
 Qm I hN hi hx r (λs' I' y=>h s' I') hf
def Inv.HJ{s':Shared}(I:Inv X pi U H s)(ho:s'.os=s.os)(u:Un (gu X.stack) ch H H' s.heap s'.heap)(bV:gR X.prog X.w H' s'.heap)(hg:AllBare s'.gens)(mL:∀b∈ch,(b∈X.ex\/X.dJ.heap.objs.size<=b)/\b≠X.env.locals/\(∀x c,X.env.cells.lookup x=!c->c≠b)/\∀p∈X.pn++pi,p.1≠b):Inv X pi U H' s':=by
 let#[h',g',d',t',o']:=s';let e:o'=s.os:=ho;subst e;show I.call (g':=g') (t':=t') (d':=d') u bV hg mL
end
noncomputable abbrev XK:=Value->Option Addr->Hp->Prop
noncomputable abbrev St:=@&(Option V)
noncomputable abbrev VK:=V->Hp->Prop
noncomputable abbrev TE:=St->Hp->VK->Prop
noncomputable abbrev TT:=St->Hp->(Bool->Hp->Prop)->Prop
noncomputable abbrev TA:=St->Hp->(List V->Hp->Prop)->Prop
structure Ends where
 nx:St->Hp->Prop
 rt:VK
 bk:St->Hp->Prop:=λ_ _=>False
 ct:St->Hp->Prop:=λ_ _=>False
noncomputable abbrev TS:=Ends->St->Hp->Prop
def EP(X:Cx)(pi:@&(Addr×Obj))(U:St)(Q:VK)(u:Value)(s':Shared):Prop:=∃v H',Inv X pi U H' s'/\RelV v u/\Q v H'
def TP(X:Cx)(pi:@&(Addr×Obj))(U:St)(Q:Bool->Hp->Prop)(b:Bool)(s':Shared):Prop:=∃H',Inv X pi U H' s'/\Q b H'
def AP(X:Cx)(pi:@&(Addr×Obj))(U:St)(Q:@&V->Hp->Prop)(us:@&Value)(s':Shared):Prop:=∃vs H',Inv X pi U H' s'/\Vals vs us/\Q vs H'
abbrev SP(X:Cx)(pi:@&(Addr×Obj))(D:Ends)(f:Flow)(s':Shared):Prop :=
 match f with
 |.next=>∃cv H',Inv X pi cv H' s'/\D.nx cv H'
 |.brk=>∃cv H',Inv X pi cv H' s'/\D.bk cv H'
 |.cont=>∃cv H',Inv X pi cv H' s'/\D.ct cv H'
 |.ret u=>∃v cv H',Inv X pi cv H' s'/\RelV v u/\D.rt v H'
abbrev PE(X:Cx)(e:Expr)(t:TE):Prop :=
 ∀(pi:@&(Addr×Obj)) (s:Shared) (U:St) (H:Hp) (Q:VK),Inv X pi U H s->t U H Q->wpAny (model X.prog X.w) X.A (eval e X.env) (EP X pi U Q) X.xe s
abbrev PT(X:Cx)(e:Expr)(t:TT):Prop :=
 ∀(pi:@&(Addr×Obj)) (s:Shared) (U:St) (H:Hp) (Q:Bool->Hp->Prop),Inv X pi U H s->t U H Q->wpAny (model X.prog X.w) X.A (isTrue e X.env (eval e X.env)) (TP X pi U Q) X.xe s
abbrev PW(X:Cx)(e:Expr)(t:TT):Prop :=
 ∀(whole:Sem Value) (pi:@&(Addr×Obj)) (s:Shared) (U:St) (H:Hp) (Q:Bool->Hp->Prop),Inv X pi U H s->t U H Q->wpAny (model X.prog X.w) X.A (isTrue e X.env whole) (TP X pi U Q) X.xe s
def PW.pt{t:TT}(h:PW X e t):PT X e t:=h _
abbrev PA(X:Cx)(es:@&Expr)(t:TA):Prop :=
 ∀(pos:Pos) (pi:@&(Addr×Obj)) (s:Shared) (U:St) (H:Hp) (Q:@&V->Hp->Prop),Inv X pi U H s->t U H Q->wpAny (model X.prog X.w) X.A (spliced (backTo pos (starEach es X.env))) (AP X pi U Q) X.xe s
abbrev PS(X:Cx)(st:Stmt)(t:TS):Prop :=
 ∀(pi:@&(Addr×Obj)) (s:Shared) (U:St) (H:Hp) (D:Ends),Inv X pi U H s->t D U H->wpAny (model X.prog X.w) X.A (exec st X.env) (SP X pi D) X.xe s
abbrev jR(X:Cx)(st:@&Stmt)(t:TS):Prop :=
 ∀(pi:@&(Addr×Obj)) (s:Shared) (U:St) (H:Hp) (D:Ends),Inv X pi U H s->t D U H->wpAny (model X.prog X.w) X.A (execs st X.env) (SP X pi D) X.xe s
def cN{t:Sem α}{Q Q':α->Shared->Prop}(h:wpAny M A t Q E s)(hQ:∀a s,Q a s->Q' a s):wpAny M A t Q' E s:=bE h hQ λy y x=>x
section
def bin{a b:Expr}(ha:PE X a ta)(hb:PE X b tb){R:V->V->Hp->Prop}(I:Inv X pi U H s)(h:ta U H λx H1=>tb U H1 λy H2=>R x y H2){Q:α->Shared->Prop}{f:Value->Value->Sem α}(hf:∀v u s2 x y H2,Inv X pi U H2 s2->RelV x v->RelV y u->R x y H2->wpAny (model X.prog X.w) X.A (f v u) Q X.xe s2) :
  wpAny (model X.prog X.w) X.A (eval a X.env) (λv bU=>wpAny (model X.prog X.w) X.A (eval b X.env) (λu fU=>wpAny (model X.prog X.w) X.A (f v u) Q X.xe fU) X.xe bU) X.xe s:=by
 show cN (ha pi s U H _ I h) λv s1 bA=>?_;let#[x,H1,I1,r1,q1]:=bA;show cN (hb pi s1 U H1 _ I1 q1) λu s2 bA=>?_;let#[y,H2,I2,r2,q2]:=bA;show hf v u s2 x y H2 I2 r1 r2 q2
def b58(i:Nat):TE:=λU H Q=>∃v,U[i]?=!!v/\Q v H
def tC(v:V):TE:=λx H Q=>Q v H
def Hc(hN:X.N[i]?=!x)(hv:uu X.env.scope x)(hd:(x==("__debug__":Str))=false:=by decide)(nh:(x==("__classdict__":Str))=false:=by decide):PE X (.Name x pos) (b58 i):=by
 intro pi s U H Q I h;let#[v,e,h]:=h;let#[m,hn,hl]:=I.loc;let#[u,r,l]:=hl i x v hN e hv;let fin:EP X pi U Q u s:=#[v,H,I,r,h]
 rcases l with⟨hk,hm⟩|⟨hk,c,hc,mM⟩
 .exact wpAny_Name (wpAny_loadName_local I.ok.kind hk hn hm fin) hd
 .rcases hk with hk|hk
  .exact wpAny_Name (wpAny_loadName_cell I.ok.kind hk hc mM fin) hd
  .exact wpAny_Name (wpAny_loadName_free I.ok.kind hk hc mM fin nh) hd
def bN2{i j pos}:PE X (.Constant (.int i) j pos) (tC (.int i)):=λx x x H x I h=>wpAny_Constant_int #[.int i,H,I.tok _,#[_,rfl],h]
def ZG{b j pos}:PE X (.Constant (.bool b) j pos) (tC (.bl b)):=λx x x H x I h=>Constant_bool #[.bl b,H,I,rfl,h]
def bN0{j pos}:PE X (.Constant .none j pos) (tC .aR):=λx x x H x I h=>Constant_none #[.aR,H,I,rfl,h]
def bM7{x j pos}:PE X (.Constant (.str x) j pos) (tC (.str x)):=λy y y H y I h=>Calls.Constant_str #[.str x,H,I.tok _,#[_,rfl],h]
def Gl(X:Cx)(x:Str):Prop:=X.env.kindOf x=!.globalImplicit
def T4(I:Inv X pi U H s)(hg:Gl X x)(hm:X.mg x=!u)(h:Q u s)(hd:(x==("__debug__":Str))=false:=by decide):wpAny (model X.prog X.w) X.A (eval (.Name x pos) X.env) Q E s :=
 BS I.ok.kind hg (Calls.loadGlobal_global (by rw[I.ok.glob];show I.mod.glob.keeps I.bk) hm h) hd
def Q5(I:Inv X pi U H s)(hg:Gl X x)(hm:X.mg x=none)(hv:bootBuiltins x=!u)(h:Q u s)(hn:x≠"__name__":=by decide)(hd:(x==("__debug__":Str))=false:=by decide):wpAny (model X.prog X.w) X.A (eval (.Name x pos) X.env) Q E s:=by
 let#[mb,h1,h2]:=I.mod.blt;show BS I.ok.kind hg (Calls.loadGlobal_builtin (by rw[I.ok.glob];show I.mod.glob.keeps I.bk) hm (by rw[I.ok.blt];show h1.keeps I.bk) ((h2 x hn).trans hv) h) hd
def Ob(hg:Gl X x)(hm:X.mg x=!u)(r:RelV v u)(hd:(x==("__debug__":Str))=false:=by decide):PE X (.Name x pos) (tC v) :=
 λy y y H y I h=>T4 I hg hm #[v,H,I,r,h] hd
def bA1(hg:Gl X x)(hm:X.mg x=none)(hv:bootBuiltins x=!u)(r:RelV v u)(hn:x≠"__name__":=by decide)(hd:(x==("__debug__":Str))=false:=by decide):PE X (.Name x pos) (tC v) :=
 λy y y H y I h=>Q5 I hg hm hv #[v,H,I,r,h] hn hd
variable{a b:Expr}
variable{tA zx:TT}{rest:@&Expr}
def b70(t u:TT):TT:=λU H Q=>t U H λc H1=>if c=true then u U H1 Q else Q false H1
def Rt(t u:TT):TT:=λU H Q=>t U H λc H1=>if c=true then Q true H1 else u U H1 Q
def b63(t:TT):TT:=λU H Q=>t U H λc H1=>Q (~~~c) H1
def VS(ha:PT X a tA):PW X (.BoolOp .And [a] pos) tA:=by
 intro wh pi s U H Q I h;show isTrue_and (cN (ha pi s U H Q I h) λc s1 e=>?_);cases c with
 |true=>show isTrue_and_nil e
 |false=>show e
def bL4(ha:PT X a tA):PW X (.BoolOp .Or [a] pos) tA:=by
 intro wh pi s U H Q I h;show isTrue_or (cN (ha pi s U H Q I h) λc s1 e=>?_);cases c with
 |false=>show isTrue_or_nil e
 |true=>show e
def bL5(ha:PT X a tA)(hb:PW X (.BoolOp .And (b::rest) pos) zx):PW X (.BoolOp .And (a::b::rest) pos) (b70 tA zx):=by
 intro wh pi s U H Q I h;show isTrue_and (cN (ha pi s U H _ I h) ?_);rintro c s1 ⟨H1,I1,q1⟩;cases c with
 |true=>show hb wh pi s1 U H1 Q I1 q1
 |false=>show#[H1,I1,q1]
def ZN(ha:PT X a tA)(hb:PW X (.BoolOp .Or (b::rest) pos) zx):PW X (.BoolOp .Or (a::b::rest) pos) (Rt tA zx):=by
 intro wh pi s U H Q I h;show isTrue_or (cN (ha pi s U H _ I h) ?_);rintro c s1 ⟨H1,I1,q1⟩;cases c with
 |true=>show#[H1,I1,q1]
 |false=>show hb wh pi s1 U H1 Q I1 q1
def bL6(ha:PT X a tA):PT X (.UnaryOp .Not a pos) (b63 tA):=by
 intro pi s U H Q I h;show isTrue_not (ha pi s U H (λc H1=>Q (~~~c) H1) I h)
def Z'(ta tb:TE):TE:=λU H Q=>ta U H λx H1=>∃c,x=.bl c/\if c=true then tb U H1 Q else Q (.bl false) H1
def b62(ta tb:TE):TE:=λU H Q=>ta U H λx H1=>∃c,x=.bl c/\if c=true then Q (.bl true) H1 else tb U H1 Q
def bW1(ta:TE):TE:=λU H Q=>ta U H λx H1=>∃c,x=.bl c/\Q (.bl (~~~c)) H1
def bM8{op}{t:TE}(h:PE X a t):PE X (.BoolOp op [a] pos) t:=λpi s U H Q I hw=>BoolOp_one (h pi s U H Q I hw)
def bN5(ha:PE X a ta)(hb:PE X (.BoolOp .And (b::rest) pos) tb):PE X (.BoolOp .And (a::b::rest) pos) (Z' ta tb):=by
 intro pi s U H Q I h;show BoolOp_and (cN (ha pi s U H _ I h) λv s1 bA=>?_);let#[x,H1,I1,r1,q1]:=bA;let#[c,rfl,q1]:=q1;cases r1;show cQ ?_;cases c with
 |true=>show hb pi s1 U H1 Q I1 q1
 |false=>show#[.bl false,H1,I1,rfl,q1]
def ZI(ha:PE X a ta)(hb:PE X (.BoolOp .Or (b::rest) pos) tb):PE X (.BoolOp .Or (a::b::rest) pos) (b62 ta tb):=by
 intro pi s U H Q I h;show BoolOp_or (cN (ha pi s U H _ I h) λv s1 bA=>?_);let#[x,H1,I1,r1,q1]:=bA;let#[c,rfl,q1]:=q1;cases r1;show cQ ?_;cases c with
 |false=>show hb pi s1 U H1 Q I1 q1
 |true=>show#[.bl true,H1,I1,rfl,q1]
def bM9(ha:PE X a ta):PE X (.UnaryOp .Not a pos) (bW1 ta):=by
 intro pi s U H Q I h;show UnaryOp_ (cN (ha pi s U H _ I h) λv s1 bA=>?_);let#[x,H1,I1,r1,q1]:=bA;let#[c,rfl,q1]:=q1;cases r1;show not_of (cQ #[.bl (~~~c),H1,I1,rfl,q1])
def Ru(t:TT)(ta tb:TE):TE:=λU H Q=>t U H λc H1=>if c=true then ta U H1 Q else tb U H1 Q
def XD(hc:PT X c tA)(ha:PE X a ta)(hb:PE X b tb):PE X (.IfExp c a b pos) (Ru tA ta tb):=by
 intro pi s U H Q I h;show wpAny_IfExp (cN (hc pi s U H _ I h) ?_);rintro d s1 ⟨H1,I1,q1⟩;cases d with
 |true=>show ha pi s1 U H1 Q I1 q1
 |false=>show hb pi s1 U H1 Q I1 q1
end
abbrev gw(K:PySem.W.Frag)(H:Hp)(a:Addr)(xs:@&V):Prop :=
 Rd H a (.lst xs) \/
  ∃(o:Obj) (bo:Array Value) (n:Nat),K.lookup a=!o/\o.cls=.type "list"/\o.dict=none/\o.data=.seq bo n/\bo.size<=sizeLine/\Vals xs bo.toList
abbrev ja(K:PySem.W.Frag)(H:Hp)(a:Addr)(xs:@&V):Prop :=
 Rd H a (.tup xs) \/
  ∃(o:Obj) (bo:Array Value) (n:Nat),K.lookup a=!o/\o.cls=.type "tuple"/\o.data=.seq bo n/\bo.size<=sizeLine/\Vals xs bo.toList
abbrev Vh:Value->Option V
 |.none=>!.aR
 |.bool b=>!.bl b
 |.int i _=>!.int i
 |.str x _=>!.str x
 |.bytes b _=>!.mO b
 |.float b _=>!.tU b
 |.ref a=>!.ref a
 |.type n=>!.ty n
 |_=>none
def RelV.abs{x:V}(r:RelV x u):Vh u=!x:=by
 cases x with
 |aR=>cases r;rfl
 |bl _=>cases r;rfl
 |int _=>let#[t,rfl]:=r;rfl
 |str _=>let#[t,rfl]:=r;rfl
 |mO _=>let#[t,rfl]:=r;rfl
 |tU _=>let#[t,rfl]:=r;rfl
 |ref _=>cases r;rfl
 |ty _=>cases r;rfl
def RelV.inj{x y:V}{u:Value}(r:RelV x u)(q:RelV y u):x=y:=aO (r.abs.symm.trans q.abs)
def Vals.inj{xs ys:@&V}{us:@&Value}(h:Vals xs us)(h':Vals ys us):xs=ys:=by
 induction h generalizing ys with
 |nil=>cases h';rfl
 |cons r t ih =>
  cases h' with
  |cons r' t'=>rw[r.inj r',ih t']
section
variable{ys:@&V}
def gw.of(h:H a=!.lst xs):gw K H a xs:=.inl (.inl h)
def Inv.list(I:Inv X pi U H s)(h:gw X.K H a xs):∃bo:@&Value,Vals xs bo/\PlainL s.heap a bo.toArray/\-xs<=sizeLine:=by
 rcases h with h|⟨o,bo,n,hk,hc,hd,hs,hz,r⟩
 .let#[z,bo,n,r,e]:=h.ok I.bV;show#[bo,r,#[_,n,e,rfl,rfl,rfl],z]
 .refine#[bo.toList,r,#[o,n,I.gT a o hk,hc,hd,by simpa using hs],?_];let e:=-r
  grind
def Inv.tuple(I:Inv X pi U H s)(h:ja X.K H a xs):∃bo:@&Value,Vals xs bo/\IsTup s.heap a bo.toArray/\-xs<=sizeLine:=by
 rcases h with h|⟨o,bo,n,hk,hc,hs,hz,r⟩
 .let#[z,bo,r,p]:=h.ok I.bV;show#[bo,r,p.tup,z]
 .refine#[bo.toList,r,#[o,I.gT a o hk,hc,n,by simpa using hs],?_];let e:=-r;simp only[Array.length_toList] at e;omega
def Inv.Fp(I:Inv X pi U H s)(h:gw X.K H a xs)(h':gw X.K H a ys):xs=ys:=by
 let#[bo,r,#[o,n,e,_,_,d],_]:=I.list h;let#[its',r',#[o',n',e',_,_,d'],_]:=I.list h';rw[e] at e';cases e';rw[d] at d';injection d' with d1 _;have:bo=its':=by simpa using iO Array.toList d1
 subst this;show r.inj r'
def Inv.a63(I:Inv X pi U H s)(h:ja X.K H a xs)(h':ja X.K H a ys):xs=ys:=by
 let#[bo,r,#[o,e,_,n,d],_]:=I.tuple h;let#[its',r',#[o',e',_,n',d'],_]:=I.tuple h';rw[e] at e';cases e';rw[d] at d';injection d' with d1 _;have:bo=its':=by simpa using iO Array.toList d1
 subst this;show r.inj r'
end
noncomputable abbrev Cx.V1(X:Cx)(E:Value->Shared->Prop):Cx:={ X with xe:=E }
def Cx.Ok.V1{X:Cx}(ok:X.Ok)(E:Value->Shared->Prop):(X.V1 E).Ok :=
 #[ok.mod,ok.kind,ok.glob,ok.blt,ok.above,ok.inj,ok.has,ok.rQ,ok.hd,ok.frames,ok.sv,ok.xO,ok.bs,ok.oX,ok.kX,ok.lZ,ok.O8,ok.pH]
def Cx.Ok.Az(ok:(X.V1 E).Ok):X.Ok :=
 #[ok.mod,ok.kind,ok.glob,ok.blt,ok.above,ok.inj,ok.has,ok.rQ,ok.hd,ok.frames,ok.sv,ok.xO,ok.bs,ok.oX,ok.kX,ok.lZ,ok.O8,ok.pH]
def Inv.V1(I:Inv X pi U H s)(E:Value->Shared->Prop):Inv (X.V1 E) pi U H s:=#[I.ok.V1 E,I.os,I.bare,I.base,I.loc,I.cell,I.free,I.fj,I.pin,I.bV,I.len,I.sg]
def Inv.Az(I:Inv (X.V1 E) pi U H s):Inv X pi U H s:=#[I.ok.Az,I.os,I.bare,I.base,I.loc,I.cell,I.free,I.fj,I.pin,I.bV,I.len,I.sg]
section
variable{st:Stmt}{rest:@&Stmt}{t u:TS}
def Lr:TS:=λD U H=>D.nx U H
def b60(t u:TS):TS:=λD U H=>t { D with nx:=u D } U H
def VO:jR X [] Lr:=λx x U H x I h=>kG #[U,H,I,h]
def XT(h1:PS X st t)(h2:jR X rest u):jR X (st::rest) (b60 t u):=by
 intro pi s U H D I h;show wpAny_execs_cons (cN (h1 pi s U H { D with nx:=u D } I h) λf s1 q=>?_);cases f with
 |next =>
  let#[cv,H',I',q]:=q;show h2 pi s1 cv H' D I' q
 |ret v=>show q
 |brk=>show q
 |cont=>show q
def VM:PS X (.Pass pos) Lr:=λx x U H x I h=>wpAny_Pass #[U,H,I,h]
def Inv.quiet(I:Inv X pi U H s):interactive X.env=false:=by simp[interactive,I.ok.kind]
def bW2(te:TE):TS:=λD U H=>te U H λx H1=>D.nx U H1
def VL(he:PE X e te)(hs:swapsWith e none pos.line X.env=pure false:=by rfl):PS X (.Expr e pos) (bW2 te):=by
 intro pi s U H D I h;show wpAny_Expr_any (cN (he pi s U H _ I h) (by rintro v s1 ⟨x,H1,I1,r1,q1⟩;show #[U,H1,I1,q1])) I.quiet hs
def b61(te:TE):TS:=λD U H=>te U H D.rt
def bL8(he:PE X e te):PS X (.Return (!e) pos) (b61 te):=by
 intro pi s U H D I h;show wpAny_Return_some (cN (he pi s U H _ I h) (by rintro v s1 ⟨x,H1,I1,r1,q1⟩;show #[x,U,H1,I1,r1,q1]))
def bV9:TS:=λD x H=>D.rt .aR H
def VN:PS X (.Return none pos) bV9:=λx x U H x I h=>wpAny_Return_none #[.aR,U,H,I,rfl,h]
def b65(c:TT)(t u:TS):TS:=λD U H=>c U H λb H1=>if b=true then t D U H1 else u D U H1
def ZM{a b:@&Stmt}{tc:TT}(hc:PT X c tc)(ha:jR X a t)(hb:jR X b u):PS X (.If c a b pos) (b65 tc t u):=by
 intro pi s U H D I h;show wpAny_If (cN (hc pi s U H _ I h) ?_);rintro d s1 ⟨H1,I1,q1⟩;cases d with
 |true=>show ha pi s1 U H1 D I1 q1
 |false=>show hb pi s1 U H1 D I1 q1
end
noncomputable abbrev TG:=V->St->Hp->(St->Hp->Prop)->Prop
noncomputable abbrev rX:=@&V->St->Hp->(St->Hp->Prop)->Prop
abbrev PG(X:Cx)(target:Expr)(t:TG):Prop :=
 ∀(pi:@&(Addr×Obj)) (s:Shared) (U:St) (H:Hp) (v:V) (u:Value) (Q:St->Hp->Prop),Inv X pi U H s->RelV v u->t v U H Q ->
  wpAny (model X.prog X.w) X.A (assign target X.env u) (λx s'=>∃cv H',Inv X pi cv H' s'/\Q cv H') X.xe s
abbrev ze(X:Cx)(ts:@&Expr)(t:rX):Prop :=
 ∀(pi:@&(Addr×Obj)) (s:Shared) (U:St) (H:Hp) (vs:@&V) (us:@&Value) (Q:St->Hp->Prop),Inv X pi U H s->Vals vs us->t vs U H Q ->
  wpAny (model X.prog X.w) X.A (assignInOrder ((assignEach ts X.env).map (·.2)) us) (λx s'=>∃cv H',Inv X pi cv H' s'/\Q cv H') X.xe s
noncomputable abbrev EK:=V->V->V->Hp->(Hp->Prop)->Prop
abbrev EJ(X:Cx)(t:EK):Prop :=
 ∀(pi:@&(Addr×Obj)) (s:Shared) (U:St) (H:Hp) (o i v:V) (ov iv u:Value) (Q:Hp->Prop),Inv X pi U H s->RelV o ov->RelV i iv->RelV v u->t o i v H Q ->
  wpAny (model X.prog X.w) X.A (setItem ov iv u) (λx s'=>∃H',Inv X pi U H' s'/\Q H') X.xe s
noncomputable abbrev HW:=V->V->Hp->VK->Prop
abbrev QG(X:Cx)(op:Operator)(t:HW):Prop :=
 ∀(pi:@&(Addr×Obj)) (s:Shared) (U:St) (H:Hp) (x y:V) (v u:Value) (Q:VK),Inv X pi U H s->RelV x v->RelV y u->t x y H Q ->
  wpAny (model X.prog X.w) X.A (inplaceOp op v u) (EP X pi U Q) X.xe s
def vF(i:Nat):TG:=λv U H Q=>Q (U.set i (!v)) H
def Oc(hN:X.Nd)(hi:X.N[i]?=!x)(hx:Loc X.env.scope x)(hf:X.fn x=true\/X.env.scope.names.lookup x=!.local:=by first|show .inl rfl|show .inr rfl|assumption):PG X (.Name x pos) (vF i):=by
 intro pi s U H v u Q I r h;show wpAny_assign_Name (FE I hN hi hx r (λs' I'=>#[_,H,I',h]) hf)
def Md:rX:=λvs U H Q=>vs=[]/\Q U H
def KO(t:TG)(u:rX):rX:=λvs U H Q=>∃v r,vs=v::r/\t v U H λcv H'=>u r cv H' Q
def VH:ze X [] Md:=by
 intro pi s U H vs us Q I r h;let#[e,h]:=h;show assignInOrder_nil #[U,H,I,h]
def XM{t:TG}{u:rX}(h1:PG X e t)(h2:ze X es u)(hs:(assignEach (e::es) X.env).map (·.2)=assign e X.env::(assignEach es X.env).map (·.2):=by rfl):ze X (e::es) (KO t u):=by
 intro pi s U H vs us Q I r h;let#[v,vr,e1,h]:=h;subst e1;cases r with
 |cons r rr =>
  rw[hs];show assignInOrder_cons (cN (h1 pi s U H _ _ _ I r h) λx s1 bA=>?_);let#[iU,H1,I1,q1]:=bA;show h2 pi s1 iU H1 _ _ Q I1 rr q1
def Vv(K:PySem.W.Frag)(n:Nat)(t:rX):TG:=λv U H Q=>∃a xs,v=.ref a/\ja K H a xs/\-xs=n/\t xs U H Q
def bM4{t:rX}{n:Nat}(hc:X.calm=true)(h:ze X es t)(hn:(assignEach es X.env).length=n:=by rfl)(fF:(assignEach es X.env).findIdx? (·.1)=none:=by rfl):PG X (.Tuple es k pos) (Vv X.K n t):=by
 intro pi s U H v u Q I r hw;let#[a,xs,e1,hq,hl,hw]:=hw;subst e1;cases r;let#[bo,rv,ht,hz]:=I.tuple hq;show assign_Tuple_tuple (I.ok.hd hc) ht (by simp[hn,<- hl,(-rv)]) fF λh' hx=>?_;let I1:=I.kept (t':=s.toks) λb o e=>hx b o (aT (aF e)) e;show h pi _ U H xs _ Q I1 (_/rv) hw
def Vt(to ti:TE)(t:EK):TG:=λv U H Q=>to U H λo H1=>ti U H1 λi H2=>t o i v H2 λH3=>Q U H3
def bM5{o i:Expr}{to ti:TE}{t:EK}(ho:PE X o to)(hi:PE X i ti)(hs:EJ X t)(ha:∀ v,assign (.Subscript o i pos) X.env v=(do
   let ov <- holding [v] (eval o X.env)
   let iv <- holding [v,ov] (eval i X.env)
   standAt pos
   holding [v,ov,iv] (setItem ov iv v)
   release [v,ov,iv] []):=by intro _;rfl):PG X (.Subscript o i pos) (Vt to ti t):=by
 intro pi s U H v u Q I r h;rw[ha];show aa (bB (cN (ho pi s U H _ I h) λov s1 bA=>?_));let#[x,H1,I1,r1,q1]:=bA;show aa (bB (cN (hi pi s1 U H1 _ I1 q1) λiv s2 bA=>?_));let#[y,H2,I2,r2,q2]:=bA;show aa (eR (aa (bB (cN (hs pi s2 U H2 x y v ov iv u _ I2 r1 r2 r q2) ?_))));rintro _ s3 ⟨H3,I3,q3⟩;show wpAny_release #[U,H3,I3,q3]
def yV(te:TE)(g:TG):TS:=λD U H=>te U H λx H1=>g x U H1 D.nx
def Qs{g:TG}(he:PE X e te)(hg:PG X tg g)(hs:swapsWithSole [tg] e pos.line X.env=pure false:=by rfl)(hw:swappedStores [tg] e X.env=pure none:=by rfl)(h1:(assignEach [tg] X.env).map (·.2)=[assign tg X.env]:=by rfl):PS X (.Assign [tg] e pos) (yV te g):=by
 intro pi s U H D I h;show wpAny_Assign_stores (cN (he pi s U H _ I h) λv s1 bA=>?_) hs hw;let#[x,H1,I1,r1,q1]:=bA;rw[h1];show cN (hg pi s1 U H1 x v _ I1 r1 q1) λy s2 q=>q
def Qt(hN:X.Nd)(hi:X.N[i]?=!x)(hx:Loc X.env.scope x)(he:PE X e te)(hs:swapsWith e (!.Name x pos') pos.line X.env=pure false:=by rfl)(hf:X.fn x=true\/X.env.scope.names.lookup x=!.local:=by first|show .inl rfl|show .inr rfl|assumption) :
  PS X (.Assign [.Name x pos'] e pos) (yV te (vF i)):=by
 intro pi s U H D I h;show wpAny_Assign_Name (cN (he pi s U H _ I h) λv s1 bA=>?_) hs;let#[y,H1,I1,r1,q1]:=bA;show FE I1 hN hi hx r1 (λs2 I2=>#[_,H1,I2,q1]) hf
def b69(i:Nat)(te:TE)(ti:HW):TS:=λD U H=>∃x,U[i]?=!!x/\te U H λy H1=>ti x y H1 λz H2=>D.nx (U.set i (!z)) H2
def bM1{op:Operator}{ti:HW}(hN:X.Nd)(hi:X.N[i]?=!x)(hx:Loc X.env.scope x)(he:PE X e te)(ho:QG X op ti)(hf:X.fn x=true\/X.env.scope.names.lookup x=!.local:=by first|show .inl rfl|show .inr rfl|assumption) :
  PS X (.AugAssign (.Name x pos') op e pos) (b69 i te ti):=by
 intro pi s U H D I h;let#[v,e1,h]:=h;let#[m,hn,hl]:=I.loc;let so:uu X.env.scope x:=by rcases hx with k|k;show .inl k;show .inr (.inl k)
 let#[u,r,l]:=hl i x v hi e1 so;show wpAny_AugAssign_Name ?_;let go:wpAny (model X.prog X.w) X.A (eval e X.env) (λw fU=>wpAny (model X.prog X.w) X.A (inplaceOp op u w) (λr fM=>wpAny (model X.prog X.w) X.A (storeName X.env x r) (λt=>SP X pi D .next) X.xe fM) X.xe fU) X.xe s:=by
  show cN (he pi s U H _ I h) λw s1 bA=>?_;let#[y,H1,I1,r1,q1]:=bA;show cN (ho pi s1 U H1 v y u w _ I1 r r1 q1) λz s2 bA=>?_;let#[zv,H2,I2,r2,q2]:=bA;show FE I2 hN hi hx r2 (λs3 I3=>#[_,H2,I3,q2]) hf
 rcases l with⟨hk,hm⟩|⟨hk,c,hc,mM⟩
 .exact wpAny_loadName_local I.ok.kind hk hn hm go
 .rcases hk with hk|hk
  .exact wpAny_loadName_cell I.ok.kind hk hc mM go
  .rcases hx with k|k
   .have:X.env.scope.names.lookup x=!.free:=hk;rw[k] at this;cases this
   .have:X.env.scope.names.lookup x=!.free:=hk;rw[k] at this;cases this
def bG9(c:TT)(tb:TS):TS:=λD U H=>∃W:Nat->St->Hp->Prop,(∃m,W m U H)/\∀m U H,W m U H ->
 c U H λb H1=>if b=true then ∃N:St->Hp->Prop,(∀cv H',N cv H'->∃m',m'<m/\W m' cv H')/\tb { D with nx:=N,ct:=N,bk:=D.nx } U H1 else D.nx U H1
def XS{tc:TT}{tb:TS}(hp:PassesOwn (model X.prog X.w) X.A X.env X.xe)(hc:PT X c tc)(hb:jR X body tb):PS X (.While c body [] pos) (bG9 tc tb):=by
 intro pi s U H D I h;let#[W,#[m0,w0],turn]:=h;show wpAny_While (codeAny_whileLoop (λn s'=>∃cv H',Inv X pi cv H' s'/\W n cv H') ?_ m0 #[U,H,I,w0]);rintro n s1 ⟨iU,H1,I1,w1⟩;show eO hp (cN (hc pi s1 iU H1 _ I1 (turn n iU H1 w1)) ?_);rintro b s2 ⟨H2,I2,q2⟩;cases b with
 |true =>
  let#[N,hN,q2]:=q2;show eO hp (cN (hb pi s2 iU H2 _ I2 q2) λf s3 q3=>?_);cases f with
  |next =>
   let#[jy,H3,I3,n3]:=q3;let#[m',hm,w3]:=hN jy H3 n3;show#[m',hm,jy,H3,I3,w3]
  |cont =>
   let#[jy,H3,I3,n3]:=q3;let#[m',hm,w3]:=hN jy H3 n3;show#[m',hm,jy,H3,I3,w3]
  |brk=>show q3
  |ret v=>show q3
 |false =>
  show kG #[iU,H2,I2,q2]
structure It where
 go:Nat->Hp->Prop
 qR:Nat->Hp->V->Hp->Prop
 stop:Nat->Hp->Prop
abbrev K3(X:Cx)(pi:@&(Addr×Obj))(H:Hp)(b:Addr):Prop :=
 H b=none/\b≠X.env.locals/\b∉X.fs/\(b∈X.ex\/X.dJ.heap.objs.size<=b)/\(∀x c,X.env.cells.lookup x=!c->c≠b)/\∀p∈X.pn++pi,p.1≠b
def Inv.rV(I:Inv X pi U H s)(hb:s⁻¹<=b)(hn:H' b=none):K3 X pi H' b:=by
 show#[hn,cK (aI I.lt hb),I.BE hb,.inr (aG I.sz hb),λx c e z=>?_,λp hp z=>?_]
 .let#[v,q]:=I.cell x c e;show absurd (aI q.lt (by simp_all)) (cq _)
 .exact absurd (aI (aF (I.pin p hp).1) (by simp_all)) (cq _)
structure Turn(P:Program)(w:World)(K:PySem.W.Frag)(tg:Expr)(J:It)(fp:@&Addr)(it:Addr)(tn:Nat->Heap->Prop):Prop where
 mem:it∈fp
 obj:∀i h,tn i h->∀b∈fp,∃o,h.get? b=!o/\∀v,o.data≠.cell v
 keep:∀i h h',tn i h->(∀b∈fp,∀o,h.get? b=!o->h'.get? b=!o)->tn i h'
 item:∀(X:Cx),X.prog=P->X.w=w->X.K=K->X.calm=true->∀(i:Nat) (pi:@&(Addr×Obj)) (s:Shared) (U:St) (H:Hp) (E:Value->Shared->Prop),Inv X pi U H s->(∀b∈fp,K3 X pi H b)->tn i s.heap->J.go i H ->
  wpAny (model P w) X.A (pyNext (.ref it)) (λr s1=>∃ u,r=!u /\
   wpAny (model P w) X.A (letOwnedTupleGo tg (.ref it) u) (λ_ s2=>∃ x H',Inv X pi U H' s2/\RelV x u/\J.qR i H x H'/\tn (i + 1) s2.heap/\∀ b ∈ fp,H' b=none) E s1) E s
 done:∀(X:Cx),X.prog=P->X.w=w->X.K=K->X.calm=true->∀(i:Nat) (pi:@&(Addr×Obj)) (s:Shared) (U:St) (H:Hp) (E:Value->Shared->Prop),Inv X pi U H s->(∀b∈fp,K3 X pi H b)->tn i s.heap->J.stop i H ->
  wpAny (model P w) X.A (pyNext (.ref it)) (λr s1=>r=none/\Inv X pi U H s1) E s
 self:∀(A:Around) (i:Nat) (s:Shared) (Q:Value->Shared->Prop) (E:Value->Shared->Prop),tn i s.heap->Q (.ref it) s->wpAny (model P w) A (pyIter (.ref it)) Q E s
noncomputable abbrev TI:=St->Hp->(It->Hp->Prop)->Prop
abbrev QH(X:Cx)(pi:@&(Addr×Obj))(U:St)(tg:Expr)(R:It->Hp->Prop)(uN:Value)(s2:Shared):Prop :=
 ∃(it:Addr) (fp:@&Addr) (tn:Nat->Heap->Prop) (J:It) (H':Hp),uN=.ref it/\Inv X pi U H' s2/\Turn X.prog X.w X.K tg J fp it tn/\tn 0 s2.heap/\(∀b∈fp,K3 X pi H' b)/\R J H'
abbrev PI(X:Cx)(tg iter:Expr)(wi:TI):Prop :=
 ∀(pi:@&(Addr×Obj)) (s:Shared) (U:St) (H:Hp) (R:It->Hp->Prop),Inv X pi U H s->wi U H R ->
  wpAny (model X.prog X.w) X.A (eval iter X.env) (λv s1=>wpAny (model X.prog X.w) X.A (pyIter v) (QH X pi U tg R) X.xe s1) X.xe s
def Bo{it:Addr}{o:Obj}{n:String}{vs:Array Value}{Q:Unit->Shared->Prop}(ho:s.heap.get? it=!o)(hc:o.cls=.type n)(hd:o.data=.fields vs)(hn:["enumerate","zip","dict_itemiterator","dict_reverseitemiterator","odict_iterator","itertools.zip_longest","itertools.pairwise"].contains n=false)(hQ:Q Unit.unit s):wpAny M A (letOwnedTupleGo tg (.ref it) u) Q E s:=by
  cases tg<;>first
    |show ao hQ
    | (cases u <;> first
        |show ao hQ
        | (show aa (wpAny_load ho ?_)
           rw[hc,hd];change wpAny M A (if(["enumerate","zip","dict_itemiterator","dict_reverseitemiterator","odict_iterator","itertools.zip_longest","itertools.pairwise"].contains n&&vs[0]?==!rawInt _)=true then _ else _) Q E s;rw[aA (by intro h;rw[hn,Bool.false_and] at h;cases h)];show ao hQ))
abbrev HZ(K:PySem.W.Frag)(a:Addr):It :=
 #[λi H=>∃xs x,gw K H a xs/\xs[i]?=!x,λi H x H'=>H'=H/\∀xs,gw K H a xs->xs[i]?=!x,λi H=>∃xs,gw K H a xs/\-xs<=i]
abbrev HY(K:PySem.W.Frag)(a:Addr):It :=
 #[λi H=>∃xs x,ja K H a xs/\xs[i]?=!x,λi H x H'=>H'=H/\∀xs,ja K H a xs->xs[i]?=!x,λi H=>∃xs,ja K H a xs/\-xs<=i]
abbrev zh(lo:Int)(n:Nat):It:=#[λi y=>i<n,λi H x H'=>H'=H/\x=.int (lo+i),λi y=>n<=i]
def a60(a it:Addr):Turn P w K tg (HZ K a) [it] it (λi h=>h.IsListIter it a i) where
 mem:=by simp
 obj:=λi h st b hb=>by
  let e:b=it:=by simpa using hb
  subst e;let#[o,e,c,d]:=st;show#[o,e,λv z=>by simp_all]
 keep:=λi h h' st k=>st.at λo e=>k it #[_] o e
 item:=by
  intro X hP hw hK hc i pi s U H E I hf st hg;subst hP hw hK;let#[xs,x,hq,hx]:=hg;let#[bo,rv,p,hz]:=I.list hq;let#[u,hu,ru]:=rv.get hx;let#[f0,f1,f2,f3,f4,f5]:=hf it #[_];show wpAny_pyNext_list_item st p.isList (_/hu) λh' nF sb=>?_;let I1:=I.turned (t':=s.toks) (λb o hb e=>(sb.2 b hb).trans e) f0 f1 f3 f4 f5;let#[o,e,c,d]:=id nF;show#[u,rfl,Bo e c d ∅ #[x,H,I1,ru,#[rfl,λys hy=>by rw[I.Fp hy hq];show hx],nF,λb hb=>(hf b hb).1]]
 done:=by
  intro X hP hw hK hc i pi s U H E I hf st hg;subst hP hw hK;let#[xs,hq,hx]:=hg;let#[bo,rv,p,hz]:=I.list hq;let#[f0,f1,f2,f3,f4,f5]:=hf it #[_];let hl:=-rv;show wpAny_pyNext_list_end (I.ok.hd hc) st p.isList (by simp;omega) λh' eb=>#[rfl,I.turned (t':=s.toks) (λb o hb e=>eb b o hb e) f0 f1 f3 f4 f5]
 self:=λy y y y y st h=>wpAny_pyIter_listiter st h
def aY5(a it:Addr):Turn P w K tg (HY K a) [it] it (λi h=>h.IsTupleIter it a i) where
 mem:=by simp
 obj:=λi h st b hb=>by
  let e:b=it:=by simpa using hb
  subst e;let#[o,e,c,d]:=st;show#[o,e,λv z=>by simp_all]
 keep:=λi h h' st k=>st.at λo e=>k it #[_] o e
 item:=by
  intro X hP hw hK hc i pi s U H E I hf st hg;subst hP hw hK;let#[xs,x,hq,hx]:=hg;let#[bo,rv,p,hz]:=I.tuple hq;let#[u,hu,ru]:=rv.get hx;let#[f0,f1,f2,f3,f4,f5]:=hf it #[_];show wpAny_pyNext_tuple_item st (show s.heap.IsTuple a bo.toArray from p) (_/hu) λh' nF sb=>?_;let I1:=I.turned (t':=s.toks) (λb o hb e=>(sb.2 b hb).trans e) f0 f1 f3 f4 f5;let#[o,e,c,d]:=id nF;show#[u,rfl,Bo e c d ∅ #[x,H,I1,ru,#[rfl,λys hy=>by rw[I.a63 hy hq];show hx],nF,λb hb=>(hf b hb).1]]
 done:=by
  intro X hP hw hK hc i pi s U H E I hf st hg;subst hP hw hK;let#[xs,hq,hx]:=hg;let#[bo,rv,p,hz]:=I.tuple hq;let#[f0,f1,f2,f3,f4,f5]:=hf it #[_];let hl:=-rv;show wpAny_pyNext_tuple_end (I.ok.hd hc) st (show s.heap.IsTuple a bo.toArray from p) (by simp;omega) λh' eb=>#[rfl,I.turned (t':=s.toks) (λb o hb e=>eb b o hb e) f0 f1 f3 f4 f5]
 self:=λy y y y y st h=>wpAny_pyIter_tupleiter st h
def aY7(it:Addr)(lo:Int)(n:Nat):Turn P w K tg (zh lo n) [it] it (λi h=>IsRangeIter h it (lo+(i:Nat)*1) ((n:Int)-(i:Nat)) 1) where
 mem:=by simp
 obj:=λi h st b hb=>by
  let e:b=it:=by simpa using hb
  subst e;show #[_,st,λv z=>by
   let z':Data.fields _=Data.cell v:=z;cases z']
 keep:=λi h h' st k=>k it #[_] _ st
 item:=by
  intro X hP hw hK hc i pi s U H E I hf st hg;subst hP hw hK;let#[f0,f1,f2,f3,f4,f5]:=hf it #[_];let W:=Walks.range (prog:=X.prog) (w:=X.w) (I.ok.hd hc) it lo 1 n;show W.item i s _ _ hg st λv h' tk hv nF kk=>?_;let#[t,rfl]:=hv;let I1:Inv X pi U H { s with heap:=h',toks:=tk }:=I.turned (λb o hb e=>kk b o (_/hb) e) f0 f1 f3 f4 f5;show#[_,rfl,Bo nF rfl rfl ∅ #[.int (lo+i),H,I1,#[t,?_],#[rfl,rfl],nF,λb hb=>(hf b hb).1]];rw[Int.mul_one]
 done:=by
  intro X hP hw hK hc i pi s U H E I hf st hg;subst hP hw hK;let#[f0,f1,f2,f3,f4,f5]:=hf it #[_];show wpAny_pyNext_range_end (I.ok.hd hc) st (by have:n<=i:=hg;omega) λh' eb=>#[rfl,I.turned (t':=s.toks) (λb o hb e=>eb b o hb e) f0 f1 f3 f4 f5]
 self:=λx x x x x st h=>wpAny_pyIter_rangeiter st h
def OZ{R:It->Hp->Prop}{lo hi:Int}{t u v:Tok}{tk:Nat}(I:Inv X pi U H s)(h1:-(2 ^ 62)<=lo)(h2:lo<2 ^ 62)(h3:-(2 ^ 62)<=hi)(h4:hi<2 ^ 62)(q:R (zh lo (hi-lo).toNat) H):wpAny (model X.prog X.w) X.A (pyIter (.ref s⁻¹)) (QH X pi U tg R) E { s with heap:=s.heap.push { cls:=.type "range",data:=.fields (List.toArray [.int lo t,.int hi u,.int 1 v]) },toks:=tk }:=by
 show wpAny_pyIter_range (IsRange.new ..) (small_one h1 h2 h3 h4) ?_;let I1:Inv X pi U H { s with heap:=s.heap.push { cls:=.type "range",data:=.fields (List.toArray [.int lo t,.int hi u,.int 1 v]) },toks:=tk }:=I.kept λb o e=>av _ e;show #[(s.heap.push { cls:=.type "range",data:=.fields (List.toArray [.int lo t,.int hi u,.int 1 v]) }).objs.size,[(s.heap.push { cls:=.type "range",data:=.fields (List.toArray [.int lo t,.int hi u,.int 1 v]) }).objs.size],_,_,H,rfl,
  I1.kept (t':=tk) λb o e=>av _ e,aY7 _ lo (hi - lo).toNat,?_,λb hb=>?_,q]
 .let e1:lo+((0:Nat):Int)*1=lo:=by simp
  let e2:(((hi-lo).toNat:Nat):Int)-((0:Nat):Int)=Builtin.Range.rangeSize lo hi 1:=by rw[rangeSize_one];split<;>omega
  rw[e1,e2];show aJ _ rfl
 .let e:b=(s.heap.push { cls:=.type "range",data:=.fields (List.toArray [.int lo t,.int hi u,.int 1 v]) }).objs.size:=by simpa using hb
  subst e;show I1.rV (aw _) (I1.bV.fresh (aw _))
def b17(ta:TA):TI:=λU H R=>ta U H λvs H1=>∃j:Int,vs=[.int j]/\-(2 ^ 62)<=j/\j<2 ^ 62/\R (zh 0 j.toNat) H1
def b16(ta:TA):TI:=λU H R=>ta U H λvs H1=>∃i j:Int,vs=[.int i,.int j]/\(-(2 ^ 62)<=i/\i<2 ^ 62/\-(2 ^ 62)<=j/\j<2 ^ 62)/\R (zh i (j-i).toNat) H1
def a89{a:Expr}{ta:TA}(hg:Gl X "range")(hm:X.mg "range"=none)(ha:PA X [a] ta)(hs:starEach [a] X.env=[(false,eval a X.env)]:=by rfl):PI X tg (.Call (.Name "range" p) [a] [] pos) (b17 ta):=by
 intro pi s U H R I h;show Call_ (Q5 I hg hm boot_range (bX (cN (ha pos pi s U H _ I h) λus s1 bA=>?_) hs rfl));let#[vs,H1,I1,r1,q1]:=bA;let#[j,e,q1,q2,q]:=q1;subst e;cases r1 with
 |cons r rr =>
  cases rr;let#[t,rfl]:=r;show call_range_1 (OZ I1 () () q1 q2 (_/q))
def a88{a b:Expr}{ta:TA}(hg:Gl X "range")(hm:X.mg "range"=none)(ha:PA X [a,b] ta)(hs:starEach [a,b] X.env=[(false,eval a X.env),(false,eval b X.env)]:=by rfl)(jP:starEach [b] X.env=[(false,eval b X.env)]:=by rfl) :
  PI X tg (.Call (.Name "range" p) [a,b] [] pos) (b16 ta):=by
 intro pi s U H R I h;show Call_ (Q5 I hg hm boot_range (bX (cN (ha pos pi s U H _ I h) λus s1 bA=>?_) (by rw[hs,jP]) (by rw[jP];rfl)));let#[vs,H1,I1,r1,q1]:=bA;let#[i,j,e,#[q1,q2,q3,q4],q]:=q1;subst e;cases r1 with
 |cons r rr =>
  cases rr with
  |cons r' rr =>
   cases rr;let#[t,rfl]:=r;let#[t',rfl]:=r';show call_range_2 (OZ I1 q1 q2 q3 q4 q)
def b66(wi:TI)(g:TG)(tb:TS):TS:=λD U H=>wi U H λJ H1=>∃W:Nat->Nat->St->Hp->Prop,(∃m,W 0 m U H1)/\∀i m U H,W i m U H ->
 (J.stop i H/\D.nx U H)\/(J.go i H/\∃N:St->Hp->Prop,(∀cv H',N cv H'->∃m',m'<m/\W (i+1) m' cv H')/\∀x H',J.qR i H x H'->g x U H' λcE H2=>tb { D with nx:=N,ct:=N,bk:=D.nx } cE H2)
abbrev yy(fp:@&Addr)(h:Heap):@&(Addr×Obj):=fp.filterMap λb=>(h.get? b).map λo=>(b,o)
def Gs{o:Obj}(hb:b∈fp)(e:h.get? b=!o):(b,o)∈yy fp h:=fC.mpr #[b,hb,by rw[e];rfl]
def Zp{p:Addr×Obj}(hp:p∈yy fp h):p.1∈fp/\h.get? p.1=!p.2:=by
 let#[b,hb,e]:=fC.mp hp;cases q:h.get? b with
 |none=>simp_all
 |some o =>
  rw[q] at e;let e':=aO e;subst e';show#[hb,q]
def Inv.pinned(I:Inv X pi U H s)(hf:∀b∈fp,K3 X pi H b)(ho:∀b∈fp,∃o,s.heap.get? b=!o/\∀v,o.data≠.cell v):Inv X (pi++yy fp s.heap) U H s :=
 I.yK λp hp=>(bt.mp hp).elim (λz=>I.pin p (bW _ z)) λz=>by
  let#[hb,e]:=Zp z;let#[f0,f1,f2,_]:=hf p.1 hb;let#[o,e',d]:=ho p.1 hb;rw[e] at e';cases e';show#[e,f0,f1,f2,d]
def Inv.FH{pl:@&(Addr×Obj)}(I:Inv X (pi++pl) U H s):Inv X pi U H s:=I.yK λp hp=>I.pin p (bW _ (eP _ hp))
def bL9{iter:Expr}{wi:TI}{g:TG}{tb:TS}(hp:PassesOwn (model X.prog X.w) X.A X.env X.xe)(hc:X.calm=true)(hi:PI X tg iter wi)(hg:PG X tg g)(hb:jR X body tb)(hs:∀x,foldedSetIterable iter X.env x=pure x:=by intro _;rfl):PS X (.For tg iter body [] pos) (b66 wi g tb):=by
 intro pi s U H D I h;show wpAny_For (cN (hi pi s U H _ I h) λv s1 h1=>cN h1 λuN s2 h2=>?_) hs;let#[it,fp,tn,J,H2,e,I2,T,kT,f2,W,#[m0,w0],turn]:=h2;subst e;let sx:∀{H':Hp},(∀b∈fp,H' b=none)->∀b∈fp,K3 X pi H' b:=λhn b hb=>#[hn b hb,(f2 b hb).2]
 show codeAny_forLoop_any (λn s'=>∃i cv H',Inv X pi cv H' s'/\tn i s'.heap/\(∀b∈fp,H' b=none)/\W i n cv H') ?_ m0 #[0,U,H2,I2,kT,λb hb=>(f2 b hb).1,w0];rintro n s3 ⟨i,jy,H3,I3,wq,xK,w3⟩;rcases turn i n jy H3 w3 with⟨stop,qn⟩|⟨go,N,hN,step⟩
 .refine eO hp (cN (T.done X rfl rfl rfl hc i pi s3 jy H3 X.xe I3 (sx xK) wq stop) ?_);rintro r s4 ⟨hr,I4⟩;subst hr;show kG #[jy,H3,I4,qn]
 .refine eO hp (cN (T.item X rfl rfl rfl hc i pi s3 jy H3 X.xe I3 (sx xK) wq go) ?_);rintro r s4 ⟨u,hr,h4⟩;subst hr;show eO hp (cN h4 λy s5 bA=>?_);let#[x,H5,I5,r5,y5,sy,Er]:=bA;let Ib:=I5.pinned (sx Er) (T.obj _ _ sy);show eO hp (cN (hg _ s5 jy H5 x u _ Ib r5 (step x H5 y5)) λy s6 bA=>?_);let#[sk,H6,I6,q6]:=bA;show eO hp (cN (hb _ s6 sk H6 _ I6 q6) λf s7 q7=>?_);let again:∀{nW:St} {H7:Hp},Inv X (pi++yy fp s5.heap) nW H7 s7->N nW H7->∃m,m<n/\∃i cv H',Inv X pi cv H' s7/\tn i s7.heap/\(∀b∈fp,H' b=none)/\W i m cv H':=λ{nW H7} I7 n7=>by
   let#[m',hm,w7]:=hN nW H7 n7;show#[m',hm,i+1,nW,H7,I7.FH,T.keep _ _ _ sy λb hb o e=>(I7.pin (b,o) (bW _ (bW _ (Gs hb e)))).1,λb hb=>?_,w7];let#[o,e,d]:=T.obj _ _ sy b hb;show(I7.pin (b,o) (bW _ (bW _ (Gs hb e)))).2.1
  cases f with
  |next=>let#[nW,H7,I7,n7]:=q7;show again I7 n7
  |cont=>let#[nW,H7,I7,n7]:=q7;show again I7 n7
  |brk=>let#[nW,H7,I7,q7]:=q7;show#[nW,H7,I7.FH,q7]
  |ret v=>let#[x7,nW,H7,I7,r7,q7]:=q7;show#[x7,nW,H7,I7.FH,r7,q7]
noncomputable abbrev R2:=V->V->Hp->VK->Prop
abbrev gk(X:Cx)(f:Value->Value->Sem Value)(r:R2):Prop :=
 ∀(pi:@&(Addr×Obj)) (s:Shared) (U:St) (H:Hp) (x y:V) (v u:Value) (Q:VK),Inv X pi U H s->RelV x v->RelV y u->r x y H Q ->
  wpAny (model X.prog X.w) X.A (f v u) (EP X pi U Q) X.xe s
abbrev BH(X:Cx)(f:Value->Sem Value)(r:V->Hp->VK->Prop):Prop :=
 ∀(pi:@&(Addr×Obj)) (s:Shared) (U:St) (H:Hp) (x:V) (v:Value) (Q:VK),Inv X pi U H s->RelV x v->r x H Q ->
  wpAny (model X.prog X.w) X.A (f v) (EP X pi U Q) X.xe s
abbrev u4(X:Cx)(f:Value)(r:@&V->Hp->VK->Prop):Prop :=
 ∀(pi:@&(Addr×Obj)) (s:Shared) (U:St) (H:Hp) (xs:@&V) (us:@&Value) (Q:VK),Inv X pi U H s->Vals xs us->r xs H Q ->
  wpAny (model X.prog X.w) X.A (call f us) (EP X pi U Q) X.xe s
abbrev Ve(X:Cx)(r:V->Hp->(Bool->Hp->Prop)->Prop):Prop :=
 ∀(pi:@&(Addr×Obj)) (s:Shared) (U:St) (H:Hp) (x:V) (v:Value) (Q:Bool->Hp->Prop),Inv X pi U H s->RelV x v->r x H Q ->
  wpAny (model X.prog X.w) X.A (truthy v) (TP X pi U Q) X.xe s
def uD(r:R2)(ta tb:TE):TE:=λU H Q=>ta U H λx H1=>tb U H1 λy H2=>r x y H2 Q
def Rp(r:V->Hp->VK->Prop)(ta:TE):TE:=λU H Q=>ta U H λx H1=>r x H1 Q
def rI(C:Int->Int->Prop)(g:Int->Int->V):R2:=λx y H Q=>∃i j,x=.int i/\y=.int j/\C i j/\Q (g i j) H
def nH(g:Int->Int->V):R2:=λx y H Q=>∃i j,x=.int i/\y=.int j/\Q (g i j) H
abbrev rU(g:Int->V):V->Hp->VK->Prop:=λx H Q=>∃i,x=.int i/\Q (g i) H
section
variable{a b:Expr}
def EN(ha:PE X a ta)(hb:PE X b tb){R:V->V->Hp->Prop}(I:Inv X pi U H s)(h:ta U H λx H1=>tb U H1 λy H2=>R x y H2){f:Value->Value->Sem Value}(hf:∀v u s2 x y H2,Inv X pi U H2 s2->RelV x v->RelV y u->R x y H2->wpAny (model X.prog X.w) X.A (f v u) Q X.xe s2) :
  wpAny (model X.prog X.w) X.A (eval a X.env) (λv bU=>wpAny (model X.prog X.w) X.A (eval b X.env) (λu fU=>wpAny (model X.prog X.w) X.A (f v u) Q X.xe fU) X.xe bU) X.xe s:=by
 show cN (ha pi s U H _ I h) λv s1 bA=>?_;let#[x,H1,I1,r1,q1]:=bA;show cN (hb pi s1 U H1 _ I1 q1) λu s2 bA=>?_;let#[y,H2,I2,r2,q2]:=bA;show hf v u s2 x y H2 I2 r1 r2 q2
def Le{op:Operator}(ho:gk X (binaryOp op) r)(ha:PE X a ta)(hb:PE X b tb):PE X (.BinOp a op b pos) (uD r ta tb):=by
 intro pi s U H Q I h;show wpAny_BinOp (EN ha hb I h λv u s2 x y H2 I2 rx ry q=>ho pi s2 U H2 x y v u Q I2 rx ry q)
def ZJ{op:UnaryOp}{r:V->Hp->VK->Prop}(ho:BH X (unaryOp op) r)(ha:PE X a ta):PE X (.UnaryOp op a pos) (Rp r ta):=by
 intro pi s U H Q I h;show UnaryOp_ (cN (ha pi s U H _ I h) (by rintro v s1 ⟨x,H1,I1,r1,q1⟩;show ho pi s1 U H1 x v Q I1 r1 q1))
def wD{f:Value->Value->Sem Value}{C:Int->Int->Prop}{g:Int->Int->Int}(rule:∀(i j:Int) (t u:Tok) (s:Shared) (Q:Value->Shared->Prop) (E:Value->Shared->Prop),C i j->Q (.int (g i j) s.toks) { s with toks:=s.toks+1 }->wpAny (model X.prog X.w) X.A (f (.int i t) (.int j u)) Q E s) :
  gk X f (rI C λi j=>.int (g i j)):=by
 intro pi s U H x y v u Q I rx ry h;let#[i,j,rfl,rfl,hc,q]:=h;let#[t,rfl]:=rx;let#[t',rfl]:=ry;show rule i j t t' s _ _ hc #[.int (g i j),H,I.tok _,#[_,rfl],q]
def vz{f:Value->Value->Sem Value}{g:Int->Int->Int}(rule:∀(i j:Int) (t u:Tok) (s:Shared) (Q:Value->Shared->Prop) (E:Value->Shared->Prop),Q (.int (g i j) s.toks) { s with toks:=s.toks+1 }->wpAny (model X.prog X.w) X.A (f (.int i t) (.int j u)) Q E s) :
  gk X f (nH λi j=>.int (g i j)):=by
 intro pi s U H x y v u Q I rx ry h;let#[i,j,rfl,rfl,q]:=h;let#[t,rfl]:=rx;let#[t',rfl]:=ry;show rule i j t t' s _ _ #[.int (g i j),H,I.tok _,#[_,rfl],q]
def BG{f:Value->Value->Sem Value}{g:Int->Int->Bool}(rule:∀(i j:Int) (t u:Tok) (s:Shared) (Q:Value->Shared->Prop) (E:Value->Shared->Prop),Q (.bool (g i j)) s->wpAny (model X.prog X.w) X.A (f (.int i t) (.int j u)) Q E s) :
  gk X f (nH λi j=>.bl (g i j)):=by
 intro pi s U H x y v u Q I rx ry h;let#[i,j,rfl,rfl,q]:=h;let#[t,rfl]:=rx;let#[t',rfl]:=ry;show rule i j t t' s _ _ #[.bl (g i j),H,I,rfl,q]
def EH(i j:Int):Prop:=0<j/\j<1073741824
def pK(i j:Int):Prop:=0<=j/\j<=1000000/\i.natAbs<2 ^ 64
def ub(i j:Int):Prop:=(-(2 ^ 64)<i/\i<2 ^ 64)\/(-(2 ^ 64)<j/\j<2 ^ 64)
def ub.ok{i j:Int}(h:ub i j):IntMulOk i j:=by
 rcases h with⟨h1,h2⟩|⟨h1,h2⟩
 .exact .of_left (intBits_le_64 h1 h2)
 .exact .of_right (intBits_le_64 h1 h2)
def bO9:gk X (binaryOp .Add) (nH λi j=>.int (i+j)):=vz λx x x x x x x q=>add_int q
def bN9:gk X (binaryOp .Sub) (nH λi j=>.int (i-j)):=vz λx x x x x x x q=>sub_int q
def bO3:gk X (binaryOp .Mult) (rI ub λi j=>.int (i*j)):=wD λx x x x x x x hc q=>mul_int q hc.ok
def bA8:gk X (binaryOp .FloorDiv) (rI EH λi j=>.int (i / j)):=wD λi j x x x x x hc q=>by
 let h1:=hc.1;let h2:=hc.2;show floordiv_int () (by rw[Int.fdiv_eq_ediv_of_nonneg i ()];show q) (.inl (PyProof.noPylong_small ()))
def bO4:gk X (binaryOp .Mod) (rI (λx j=>0<j) λi j=>.int (i % j)):=wD λi j x x x x x hc q=>by
 show mod_int' () (by rw[Int.fmod_eq_emod_of_nonneg i ()];show q)
def bO2:gk X (binaryOp .Pow) (rI pK λi j=>.int (i ^ j.toNat)):=wD λx x x x x x x hc q=>pow_int_small hc.1 hc.2.1 hc.2.2 q
def bO0:gk X (binaryOp .LShift) (rI pK λi j=>.int (i*2 ^ j.toNat)):=wD λx x x x x x x hc q=>lshift_int_small hc.1 hc.2.1 hc.2.2 q
def bO8:gk X (binaryOp .BitAnd) (nH λi j=>.int (Builtin.bitAnd i j)):=vz λx x x x x x x q=>and_int q
def ZC:gk X (binaryOp .BitOr) (nH λi j=>.int (Builtin.bitOr i j)):=vz λx x x x x x x q=>or_int q
def bC7:gk X (inplaceOp .Add) (nH λi j=>.int (i+j)):=vz λx x x x x x x q=>iadd_int q
def bC6:gk X (inplaceOp .Sub) (nH λi j=>.int (i-j)):=vz λx x x x x x x q=>isub_int q
def Rn{f:Value->Sem Value}{g:Int->Int}(rule:∀(i:Int) (t:Tok) (s:Shared) (Q:Value->Shared->Prop) (E:Value->Shared->Prop),Q (.int (g i) s.toks) { s with toks:=s.toks+1 }->wpAny (model X.prog X.w) X.A (f (.int i t)) Q E s) :
  BH X f (rU λi=>.int (g i)):=by
 intro pi s U H x v Q I rx h;let#[i,rfl,q]:=h;let#[t,rfl]:=rx;show rule i t s _ _ #[.int (g i),H,I.tok _,#[_,rfl],q]
def bG0:BH X (unaryOp .USub) (rU λi=>.int (-(i))):=Rn λx x x x x q=>neg_int q
end
abbrev Mq:V->V->Bool
 |.aR,.aR=>true|.aR,.int _=>true|.int _,.aR=>true|.aR,.bl _=>true|.bl _,.aR=>true|.aR,.str _=>true|.str _,.aR=>true
 |.int _,.int _=>true|.bl _,.bl _=>true|.str _,.str _=>true|.mO _,.mO _=>true
 |.int _,.str _=>true|.str _,.int _=>true|.bl _,.str _=>true|.str _,.bl _=>true
 |_,_=>false
def RD:R2:=λx y H Q=>Mq x y=true/\Q (.bl (decide (x=y))) H
def RC:R2:=λx y H Q=>Mq x y=true/\Q (.bl (~~~decide (x=y))) H
def NM{i j:Int}:decide (V.int i=V.int j)=(i==j):=by
 rw[bq];simp
def Ap{i j:Bool}:decide (V.bl i=V.bl j)=(i==j):=by
 rw[bq];simp
def NN{i j:Str}:decide (V.str i=V.str j)=(i==j):=by
 rw[bq];simp
def NL{i j:Array UInt8}:decide (V.mO i=V.mO j)=(i.toList==j.toList):=by
 rw[bq];simp
section
variable{a b:Expr}{tc:TE}
def j0{Q:VK}{k k':Bool}(I:Inv X pi U H s)(q:Q (.bl k) H)(e:k=k'):EP X pi U Q (.bool k') s:=by
 subst e;show#[.bl k,H,I,rfl,q]
def HR:gk X (compareOp .Eq) RD:=by
 intro pi s U H x y v u Q I rx ry h;let#[hs,q]:=h;cases x with
 |aR =>
  cases rx;cases y with
  |aR=>cases ry;show PySem.EqNone.eq_none_none (j0 I q #[_])
  |bl j=>cases ry;show PySem.EqNone.eq_none_bool (j0 I q #[_])
  |int j=>let#[t',rfl]:=ry;show PySem.EqNone.eq_none_int (j0 I q #[_])
  |str j=>let#[t',rfl]:=ry;show PySem.EqNone.eq_none_str (j0 I q #[_])
  |_=>show absurd (show false=true from hs) Bool.false_ne_true
 |bl i =>
  cases rx;cases y with
  |aR=>cases ry;show PySem.EqNone.eq_bool_none (j0 I q #[_])
  |bl j=>cases ry;show eq_bool (j0 I q Ap)
  |str j=>let#[t',rfl]:=ry;show PySem.EqMixed.eq_bool_str (j0 I q #[_])
  |_=>show absurd (show false=true from hs) Bool.false_ne_true
 |int i =>
  let#[t,rfl]:=rx;cases y with
  |aR=>cases ry;show PySem.EqNone.eq_int_none (j0 I q #[_])
  |int j=>let#[t',rfl]:=ry;show eq_int (j0 I q NM)
  |str j=>let#[t',rfl]:=ry;show PySem.EqMixed.eq_int_str (j0 I q #[_])
  |_=>show absurd (show false=true from hs) Bool.false_ne_true
 |str i =>
  let#[t,rfl]:=rx;cases y with
  |aR=>cases ry;show PySem.EqNone.eq_str_none (j0 I q #[_])
  |bl j=>cases ry;show PySem.EqMixed.eq_str_bool (j0 I q #[_])
  |int j=>let#[t',rfl]:=ry;show PySem.EqMixed.eq_str_int (j0 I q #[_])
  |str j=>let#[t',rfl]:=ry;show eq_str (j0 I q NN)
  |_=>show absurd (show false=true from hs) Bool.false_ne_true
 |mO i =>
  let#[t,rfl]:=rx;cases y with
  |mO j=>let#[t',rfl]:=ry;show PySem.W.eq_bytes (j0 I q NL)
  |_=>show absurd (show false=true from hs) Bool.false_ne_true
 |_=>cases y<;>show absurd (show false=true from hs) cg
def HS:gk X (compareOp .NotEq) RC:=by
 intro pi s U H x y v u Q I rx ry h;let#[hs,q]:=h;cases x with
 |aR =>
  cases rx;cases y with
  |aR=>cases ry;show PySem.EqNone.ne_none_none (j0 I q #[_])
  |bl j=>cases ry;show PySem.EqNone.ne_none_bool (j0 I q #[_])
  |int j=>let#[t',rfl]:=ry;show PySem.EqNone.ne_none_int (j0 I q #[_])
  |str j=>let#[t',rfl]:=ry;show PySem.EqNone.ne_none_str (j0 I q #[_])
  |_=>show absurd (show false=true from hs) Bool.false_ne_true
 |bl i =>
  cases rx;cases y with
  |aR=>cases ry;show PySem.EqNone.ne_bool_none (j0 I q #[_])
  |bl j=>cases ry;show ne_bool (j0 I q (congrArg not Ap))
  |str j=>let#[t',rfl]:=ry;show PySem.EqMixed.ne_bool_str (j0 I q #[_])
  |_=>show absurd (show false=true from hs) Bool.false_ne_true
 |int i =>
  let#[t,rfl]:=rx;cases y with
  |aR=>cases ry;show PySem.EqNone.ne_int_none (j0 I q #[_])
  |int j=>let#[t',rfl]:=ry;show ne_int (j0 I q (congrArg not NM))
  |str j=>let#[t',rfl]:=ry;show PySem.EqMixed.ne_int_str (j0 I q #[_])
  |_=>show absurd (show false=true from hs) Bool.false_ne_true
 |str i =>
  let#[t,rfl]:=rx;cases y with
  |aR=>cases ry;show PySem.EqNone.ne_str_none (j0 I q #[_])
  |bl j=>cases ry;show PySem.EqMixed.ne_str_bool (j0 I q #[_])
  |int j=>let#[t',rfl]:=ry;show PySem.EqMixed.ne_str_int (j0 I q #[_])
  |str j=>let#[t',rfl]:=ry;show ne_str (j0 I q (congrArg not NN))
  |_=>show absurd (show false=true from hs) Bool.false_ne_true
 |mO i =>
  let#[t,rfl]:=rx;cases y with
  |mO j=>let#[t',rfl]:=ry;show PySem.W.ne_bytes (j0 I q (congrArg not NL))
  |_=>show absurd (show false=true from hs) Bool.false_ne_true
 |_=>cases y<;>show absurd (show false=true from hs) cg
def ZA:gk X (compareOp .Lt) (nH λi j=>.bl (decide (i<j))):=BG λx x x x x x x q=>lt_int q
def Zz:gk X (compareOp .LtE) (nH λi j=>.bl (decide (i<=j))):=BG λx x x x x x x q=>le_int q
def Zy:gk X (compareOp .Gt) (nH λi j=>.bl (decide (j<i))):=BG λx x x x x x x q=>gt_int q
def Zx:gk X (compareOp .GtE) (nH λi j=>.bl (decide (j<=i))):=BG λx x x x x x x q=>ge_int q
def bO5:gk X (compareOp .Is) (λx y H Q=>y=.aR/\Q (.bl (decide (x=.aR))) H):=by
 intro pi s U H x y v u Q I rx ry h;let#[rfl,q]:=h;cases ry;show is_none_gen (j0 I q ?_);cases x<;>first
  |(cases rx;rfl)
  |(let#[t,rfl]:=rx;rfl)
def bA7:gk X (compareOp .IsNot) (λx y H Q=>y=.aR/\Q (.bl (~~~decide (x=.aR))) H):=by
 intro pi s U H x y v u Q I rx ry h;let#[rfl,q]:=h;cases ry;show isnot_none_gen (j0 I q ?_);cases x<;>first
  |(cases rx;rfl)
  |(let#[t,rfl]:=rx;rfl)
def VD(ho:gk X (compareOp op) r)(ha:PE X a ta)(hb:PE X b tb)(hm:behindInMarks op b=false):PE X (.Compare a [op] [b] pos) (uD r ta tb):=by
 intro pi s U H Q I h;show wpAny_Compare1 (EN ha hb I h λv u s2 x y H2 I2 rx ry q=>ho pi s2 U H2 x y v u Q I2 rx ry q) hm
def GJ(t:TE):TT:=λU H Q=>t U H λx H'=>∃k,x=.bl k/\Q k H'
def VP(ho:gk X (compareOp op) r)(ha:PE X a ta)(hb:PE X b tb)(hm:behindInMarks op b=false):PT X (.Compare a [op] [b] pos) (GJ (uD r ta tb)):=by
 intro pi s U H Q I h;show wpAny_isTrue_Compare1 (cN (ha pi s U H _ I h) λv s1 ⟨x,H1,I1,r1,q1⟩=>cN (hb pi s1 U H1 _ I1 q1) λu s2 ⟨y,H2,I2,r2,q2⟩ =>
  cN (ho pi s2 U H2 x y v u _ I2 r1 r2 q2) λc s3 ⟨z,H3,I3,r3,k,e,q3⟩=>?_) hm
 subst e;cases r3;show cQ #[H3,I3,q3]
def Hh(r r':R2)(ta tb tc:TE):TE:=λU H Q=>ta U H λx H1=>tb U H1 λy H2=>r x y H2 λz H3=>∃k,z=.bl k /\
 (if k=true then tc U H3 λw' H4=>r' y w' H4 Q else Q (.bl false) H3)
def XB{jf:CmpOp}{r':R2}(ho:gk X (compareOp op) r)(lT:gk X (compareOp jf) r')(ha:PE X a ta)(hb:PE X b tb)(hc:PE X c tc)(hm:lastMarks [op,jf] [b,c]=false:=by with_unfolding_all rfl):PE X (.Compare a [op,jf] [b,c] pos) (Hh r r' ta tb tc):=by
 intro pi s U H Q I h;show Compare_chain (cN (ha pi s U H _ I h) λv s1 ⟨x,H1,I1,r1,q1⟩=>chain_link (cN (hb pi s1 U H1 _ I1 q1) λu s2 ⟨y,H2,I2,r2,q2⟩ =>
  cN (ho pi s2 U H2 x y v u _ I2 r1 r2 q2) λd s3 ⟨z,H3,I3,r3,k,e,q3⟩=>?_)) hm
 subst e;cases r3;show cQ ?_;cases k with
 |false=>show ite_ff #[.bl false,H3,I3,rfl,q3]
 |true=>show ite_tt (chain_last (cN (hc pi s3 U H3 _ I3 q3) (by rintro w' s4 ⟨z',H4,I4,r4,q4⟩;show lT pi s4 U H4 y z' u w' Q I4 r2 r4 q4)))
def XU{jf:CmpOp}{r':R2}(ho:gk X (compareOp op) r)(lT:gk X (compareOp jf) r')(ha:PE X a ta)(hb:PE X b tb)(hc:PE X c tc)(hm:lastMarks [op,jf] [b,c]=false:=by with_unfolding_all rfl):PT X (.Compare a [op,jf] [b,c] pos) (GJ (Hh r r' ta tb tc)):=by
 intro pi s U H Q I h;show isTrue_chain (cN (ha pi s U H _ I h) λv s1 ⟨x,H1,I1,r1,q1⟩=>test_link (cN (hb pi s1 U H1 _ I1 q1) λu s2 ⟨y,H2,I2,r2,q2⟩ =>
  cN (ho pi s2 U H2 x y v u _ I2 r1 r2 q2) λd s3 ⟨z,H3,I3,r3,k,e,q3⟩=>?_)) hm
 subst e;cases r3;show cQ ?_;cases k with
 |false =>
  let#[k',e',q']:=q3;cases e';show ite_ff #[H3,I3,q']
 |true =>
  show ite_tt (test_last (cN (hc pi s3 U H3 _ I3 q3) ?_));rintro w' s4 ⟨z',H4,I4,r4,q4⟩;show cN (lT pi s4 U H4 y z' u w' _ I4 r2 r4 q4) λd' s5 bA=>?_;let#[z2,H5,I5,r5,k2,e2,q5]:=bA;subst e2;cases r5;show cQ #[H5,I5,q5]
abbrev EL(K:PySem.W.Frag)(x:V)(H:Hp)(k:Bool):Prop :=
 match x with
 |.aR=>k=false
 |.bl b=>k=b
 |.int i=>k=(i != 0)
 |.str y=>-y<=sizeLine/\k=((-y:Int) != 0)
 |.mO y=>y.size<=sizeLine/\k=((y.size:Int) != 0)
 |.ref p=>(∃xs,gw K H p xs/\k= ~~~xs.isEmpty)\/(∃xs,ja K H p xs/\k= ~~~xs.isEmpty)\/∃kvs,H p=!.dK kvs/\k= ~~~kvs.isEmpty
 |_=>False
def a23{κ:Type}{kvs:@&(κ×V)}{vs:@&(κ×Value)}(r:KV kvs vs):(~~~vs.isEmpty)= ~~~kvs.isEmpty:=by
 cases r<;>rfl
def MH{bo:@&Value}(r:Vals xs bo):(~~~bo.toArray.isEmpty)= ~~~xs.isEmpty:=by
 cases r<;>simp
def Aq:(sizeLine:Nat)<2 ^ 63:=by rw[uv];decide
def bG3:Ve X (λx H Q=>∃k,EL X.K x H k/\Q k H):=by
 intro pi s U H x v Q I rx h;let#[k,e,q]:=h;let hs:=uv;cases x with
 |aR =>
  cases rx;let e':=e;subst e';show truthy_none #[H,I,q]
 |bl b =>
  cases rx;let e':=e;subst e';show cQ #[H,I,q]
 |int i =>
  let#[t,rfl]:=rx;let e':=e;subst e';show PySem.P.truthy_int #[H,I,q]
 |str y =>
  let#[t,rfl]:=rx;let#[hy,e']:=e;subst e';show PySem.P.truthy_str () #[H,I.tok _,q]
 |mO y =>
  let#[t,rfl]:=rx;let#[hy,e']:=e;subst e';show PySem.W.truthy_bytes () #[H,I.tok _,q]
 |ref p =>
  cases rx;let e':=e;rcases e' with⟨xs,hx,e'⟩|⟨xs,hx,e'⟩|⟨kvs,hx,e'⟩
  .subst e';let#[bo,r,pl,hz]:=I.list hx;let hlen:=-r;show wpAny_truthy_list pl.isList (by simp only[List.size_toArray];omega) #[H,I.tok _,by rw[MH r];show q]
  .subst e';let#[bo,r,pl,hz]:=I.tuple hx;let hlen:=-r;show truthy_tuple pl (by simp only[List.size_toArray];omega) #[H,I.tok _,by rw[MH r];show q]
  .subst e';let#[hz,hS,vs,r,m]:=I.bV p _ hx;let hlen:=nC r;show wpAny_truthy_dict hS m () #[H,I.tok _,by rw[a23 r];show q]
 |_=>show(show False from e).elim
def XW(ha:PE X a ta)(he:∀whole,isTrue a X.env whole=(do let v <- whole;standAt a.pos;holding [v] (truthy v))) :
  PT X a (λU H Q=>ta U H λx H'=>∃k,EL X.K x H' k/\Q k H'):=by
 intro pi s U H Q I h;show isTrue_plain (cN (ha pi s U H _ I h) (by rintro v s1 ⟨x,H1,I1,r1,q1⟩;show bG3 pi s1 U H1 x v Q I1 r1 q1)) (he _)
def vals1{x:V}(r:Vals [x] us):∃u,us=[u]/\RelV x u:=by
 cases r with
 |cons r1 r2=>cases r2;show#[_,rfl,r1]
def vals2{x y:V}(r:Vals [x,y] us):∃u w',us=[u,w']/\RelV x u/\RelV y w':=by
 cases r with
 |cons r1 r2 =>
  cases r2 with
  |cons r3 r4=>cases r4;show#[_,_,rfl,r1,r3]
def Px:u4 X (.type "int") (λxs H Q=>(∃i,xs=[.int i]/\Q (.int i) H)\/∃k,xs=[.bl k]/\Q (.int (if k then 1 else 0)) H):=by
 intro pi s U H xs us Q I r h;rcases h with⟨i,rfl,q⟩|⟨k,rfl,q⟩
 .let#[u,rfl,t,rfl]:=vals1 r;show call_int_int #[.int i,H,I,#[_,rfl],q]
 .let#[u,rfl,r1]:=vals1 r;cases r1;show call_int_bool #[.int (if k then 1 else 0),H,I.tok _,#[_,rfl],q]
end
structure ud(h:Heap)(x dx C:Addr)(mA:Str->Option Value):Prop where
 obj:h.get? x=!PySem.W.instObj C dx
 ns:h.Ns1 dx mA
 ne:dx≠x
set_option tactic.hygienic true in
def PY{mA:Str->Option Value}(n:h.Ns1 dx mA):∃od,h.get? dx=!od/\∀name,PySem.W.lookIn name od=!mA name:=by
 let#[o,es,ep,ho,hd,hk,_,hm]:=n;show#[o,ho,λname=>?_];let e:=hm name;unfold nsFind findBy at e;rw[<- Array.find?_toList] at e;unfold PySem.W.lookIn;rw[hd];dsimp only;split
 .rename_i y q;rw[q] at e;show iO some e
 .rename_i q;rw[q] at e;let a:es.toList.any (·.refKey)=false:=by
   rw[List.any_eq_false];intro y hy;let#[z,t,qk]:=hk y (Array.mem_toList_iff.mp hy);simp[DictEntry.refKey,qk]
  let a':¬es.toList.any (·.refKey)=true:=by rw[a];show cg
  rw[aA a'];show iO some e
def ud.look{x:Addr}{mA:Str->Option Value}(I:ud h x dx C mA):∃od,PySem.W.InstAt h x (PySem.W.instObj C dx) C (!od)/\∀name,PySem.W.lookIn name od=!mA name :=
 let ⟨od,ho,hl⟩:=PY I.ns
 #[od,#[I.obj,rfl,rfl,ho],hl]
section
variable{prog:Program}{x:Addr}{mA:Str->Option Value}{name:Str}{v:Value}
def get_map{expr:Bool}(X:K.In s.heap)(I:ud s.heap x dx C mA)(hg:PySem.W.plainGet K C name=true)(hh:PySem.W.hasDictIn K C=true)(ha:PySem.W.findIn K (.ref C) name=!none)(hv:mA name=!v)(CK:PySem.W.handedIn v=true)(h:Q v { s with toks:=s.toks+1 }) :
  wpAny (model prog w) A (getAttr (.ref x) name expr) Q E s:=by
 let#[od,J,hl]:=I.look;show PySem.W.get_value X J (ki hg).1 (PySem.W.findObj_own hh ha rfl (by rw[hl,hv])) CK h
def Xb{pl:Sem Bool}{Q:Value×@&Value->Shared->Prop}(X:K.In s.heap)(I:ud s.heap x dx C mA)(hg:PySem.W.plainGet K C name=true)(hf:PySem.W.findIn K (.ref C) name=!!.ref f)(ht:PySem.W.isFn K (.ref f)=true)(hv:mA name=none)(h:Q (.ref f,[.ref x]) s) :
  wpAny (model prog w) A (getMethod (.ref x) name pl) Q E s:=by
 let#[od,J,hl]:=I.look;show PySem.W.method_fn X J (ki hg).1 (ki hg).2 hf (eA.mp ht) (by show(PySem.W.lookIn name od).map (·.isSome)=!false;simp_all) h
def Wh{ns:@&Str}{Q:Unit->Shared->Prop}(X:K.In s.heap)(I:ud s.heap x dx C mA)(hs:PySem.W.findIn K (.ref C) "__setattr__"=!!(.builtin "object.__setattr__"))(hp:PySem.W.plainOver K C=true)(ht:PySem.W.takerIn K C name=!none)(hh:PySem.W.hasDictIn K C=true)(hw:PySem.Within mA ns)(ia:-ns<=sizeLine)(h:∀h',ud h' x dx C (λy=>if y=name then some v else mA y)->Heap.SameBut dx s.heap h'->Q Unit.unit { s with heap:=h',toks:=s.toks+2 }) :
  wpAny (model prog w) A (setAttr (.ref x) name v) Q E s:=by
 let#[od,J,hl]:=I.look;show PySem.W.set_plain X J hs (PySem.W.osa_open X J hp ht λb=>?_);let#[cd,hc,tB]:=PySem.W.any_some hh;let hx:=I.obj;show aa (ao (aa (aa (wpAny_loadPart hx (aa (PySem.W.Looks.here (PySem.W.looks_clsIn X hc) ?_))))));rw[tB];show ao (aa (ao (aa ?_)));show wpAny_nsSet1 I.ns λh' oJ jP=>?_;let#[oD,esD,epD,SH,To,Tq]:=oJ.count (PySem.Within.cons name v hw);show aa (wpAny_lookBehind SH (by rw[To];show pastItsLine_dict (aG Tq (by grind))) ?_);show ao (h _ #[(jP.2 _ (bR I.ne)).trans I.obj,oJ,I.ne] jP)
def Xl{R:Result->Shared->Prop}{vs:@&Value}{kw:@&(Str×Value)}(X:K.In s.heap)(hm:PySem.W.makesIn K C=true)(hi:PySem.W.findIn K (.ref C) "__init__"=!!.ref f)(hf:PySem.W.typeIn K (.ref f)=!(.type "function"))(h:codeAny (model prog w) (A.under (.builtin "type.__call__" #[.ref C :: vs,kw])) (.call (.ref f) #[.ref (s⁻¹ + 1) :: vs,kw]) (PySem.W.InitBack (s⁻¹ + 1) R)
   { s with heap:=(s.heap.push PySem.W.emptyDict).push (PySem.W.instObj C s⁻¹) }) :
  codeAny (model prog w) A (.call (.ref C) #[vs,kw]) R s:=by
 show PySem.W.make_core (PySem.W.makes_of X hm) (PySem.W.looks_findIn X hi) (λself=>PySem.W.bind_fn X self hf) (.inl rfl) h
end
abbrev A3(f:Str)(v:V):@&(Str×V)->@&(Str×V)
 |[]=>[(f,v)]
 |(g,x)::r=>if g=f then(g,v)::r else(g,x)::A3 f v r
def Nf(f g:Str)(v:V):∀fs:@&(Str×V),(A3 f v fs).lookup g=if g=f then some v else fs.lookup g
 |[]=>by
  change List.lookup g [(f,v)]=_;by_cases h:g=f
  .let hb:=eA.mpr h;simp only[List.lookup,hb,if_pos h]
  .let hb:=fc.mpr h;simp only[List.lookup,hb,if_neg h]
 |(k,x)::r=>by
  let ih:=Nf f g v r;rw[show A3 f v ((k,x)::r)=(if k=f then(k,v)::r else(k,x)::A3 f v r) from rfl];by_cases hk:k=f
  .rw[az hk];by_cases h:g=k
   .let hb:=eA.mpr h;simp only[List.lookup,hb,if_pos (h.trans hk)]
   .let hb:=fc.mpr h;simp only[List.lookup,hb,if_neg (λe:g=f=>h (e.trans hk.symm))]
  .rw[aA hk];by_cases h:g=k
   .let hb:=eA.mpr h;simp only[List.lookup,hb,if_neg (λe:g=f=>hk (h.symm.trans e))]
   .let hb:=fc.mpr h;simp only[List.lookup,hb];show ih
def FO(f:Str)(v:V):∀fs:@&(Str×V),f∈(A3 f v fs).map (·.1)/\∀g,g∈fs.map (·.1)->g∈(A3 f v fs).map (·.1)
 |[]=>#[by simp[A3],λg h=>by simp at h]
 |(k,x)::r=>by
  let#[i1,i2]:=FO f v r;rw[show A3 f v ((k,x)::r)=(if k=f then(k,v)::r else(k,x)::A3 f v r) from rfl];by_cases hk:k=f
  .rw[az hk]
   grind
  .rw[aA hk];show#[?_,λg h=>?_]
   .exact bZ _ i1
   .rcases aM.mp h with e|e
    .exact aM.mpr (.inl e)
    .exact bZ _ (i2 g e)
def Nc(f:Str)(v:V):∀fs:@&(Str×V),(A3 f v fs).length<=-fs+1
 |[]=>by simp[A3]
 |(k,x)::r=>by
  let ih:=Nc f v r;rw[show A3 f v ((k,x)::r)=(if k=f then(k,v)::r else(k,x)::A3 f v r) from rfl]
  grind
def F3.some_of{o:Option Value}(r:F3 (!v) o):∃u,o=!u/\RelV v u:=by
 cases o with
 |none=>show(show False from r).elim
 |some u=>show#[u,rfl,r]
def F3.none_of{o:Option Value}(r:F3 none o):o=none:=by
 cases o with
 |none=>rfl
 |some u=>show(show False from r).elim
def YW(r:RelV v u):PySem.W.handedIn u=true:=by
 cases v with
 |aR=>cases (show u=Value.none from r);rfl
 |bl b=>cases (show u=Value.bool b from r);rfl
 |int i=>let#[t,e]:=(show ∃t,u=Value.int i t from r);cases e;rfl
 |str x=>let#[t,e]:=(show ∃t,u=Value.str x t from r);cases e;rfl
 |mO b=>let#[t,e]:=(show ∃t,u=Value.bytes b t from r);cases e;rfl
 |tU b=>let#[t,e]:=(show ∃t,u=Value.float b t from r);cases e;rfl
 |ref a=>cases (show u=Value.ref a from r);rfl
 |ty n=>cases (show u=Value.type n from r);rfl
section
variable{fs:@&(Str×V)}
def AH(bV:gR P w H h)(e:H a=!.ins C dx fs):∃mA,ud h a dx C mA/\(∀f,F3 (fs.lookup f) (mA f))/\PySem.Within mA (fs.map (·.1))/\-fs<=1000/\H dx=!.own a:=by
 let#[d,z,ne,ob,mA,n,r,q]:=(show m8 P w H h a (.ins C dx fs) from bV a _ e)
 show#[mA,#[ob,n,ne],r,q,z,d]
end
structure jT(K:PySem.W.Frag)(C:Addr):Prop where
 pg:PySem.W.plainGet K C Str.empty=true
 hd:PySem.W.hasDictIn K C=true
 po:PySem.W.plainOver K C=true
 sa:PySem.W.findIn K (.ref C) "__setattr__"=!!(.builtin "object.__setattr__")
def jT.get(c:jT K C)(f:Str):PySem.W.plainGet K C f=true:=c.pg
def E4(K:PySem.W.Frag)(C:Addr)(f:Str):Prop:=PySem.W.findIn K (.ref C) f=!none
def E4.bV6{f:Str}(n:E4 K C f):PySem.W.takerIn K C f=!none:=by
 unfold PySem.W.takerIn;rw[show PySem.W.findIn K (.ref C) f=some none from n]
 rfl
structure Meth(K:PySem.W.Frag)(C:Addr)(m:Str)(f:Addr):Prop where
 at_:PySem.W.findIn K (.ref C) m=!!.ref f
 fn:PySem.W.isFn K (.ref f)=true
 kp:PySem.W.keepIn K (.ref f)=true
section
variable{fs:@&(Str×V)}{f:Str}
def MF{b:Bool}(I:Inv X pi U H s)(e:H a=!.ins C dx fs)(c:jT X.K C)(n:E4 X.K C f)(l:fs.lookup f=!v)(h:∀u s',Inv X pi U H s'->RelV v u->Q u s'):wpAny (model X.prog X.w) A (getAttr (.ref a) f b) Q E s:=by
 let#[mA,O,r,_,_,_]:=AH I.bV e;let#[u,hu,ru]:=F3.some_of (by rw[<- l];show r f);show get_map I.gT O (c.get f) c.hd n hu (YW ru) (h u _ (I.tok _) ru)
def MG{g:Addr}{pl:Sem Bool}{Q:Value×@&Value->Shared->Prop}(I:Inv X pi U H s)(e:H a=!.ins C dx fs)(c:jT X.K C)(k:Meth X.K C m g)(l:fs.lookup m=none)(h:Q (.ref g,[.ref a]) s):wpAny (model X.prog X.w) A (getMethod (.ref a) m pl) Q E s:=by
 let#[mA,O,r,_,_,_]:=AH I.bV e;let hn:=F3.none_of (by rw[<- l];show r m);show Xb I.gT O (c.get m) k.at_ k.fn hn h
def MP{y:V}{Q:Unit->Shared->Prop}(I:Inv X pi U H s)(e:H a=!.ins C dx fs)(c:jT X.K C)(n:E4 X.K C f)(hl:-fs<1000)(ry:RelV y u)(h:∀s',Inv X pi U (upd H a (.ins C dx (A3 f y fs))) s'->Q Unit.unit s'):wpAny (model X.prog X.w) A (setAttr (.ref a) f u) Q E s:=by
 let#[mA,O,r,wi,_,ho]:=AH I.bV e;let hz:(fs.map (·.1)).length<=sizeLine:=by rw[ah,uv];omega
 show Wh I.gT O c.sa c.po n.bV6 c.hd wi hz λh' O' sb=>h _ ?_;let hd:∃o,h'.get? dx=!o:=let ⟨o,_,_,e',_⟩:=O'.ns;#[o,e']
 show I.write (by rw[e];show True.intro) (.inr ho) (λb q hb z=>(sb.2 b hb).trans z) hd ?_;show#[by rw[d4 O.ne];show ho,?_,O.ne,O'.obj,_,O'.ns,λg=>?_,λg hg=>?_]
 .have:=Nc f y fs;omega
 .change F3 ((A3 f y fs).lookup g) (if g=f then some u else mA g);rw[Nf];by_cases q:g=f
  .rw[az q,az q];show ry
  .rw[aA q,aA q];show r g
 .by_cases q:g=f
  .rw[q];show(FO f y fs).1
  .refine(FO f y fs).2 g (wi g λz=>hg ?_);show(if g=f then some u else mA g)=none;rw[aA q];show z
def Inv.made(I:Inv X pi U H s):Inv X pi U (upd (upd H s⁻¹ (.own (s⁻¹+1))) (s⁻¹+1) (.ins C s⁻¹ []))
  { s with heap:=(s.heap.push PySem.W.emptyDict).push (PySem.W.instObj C s⁻¹) }:=by
 let e1:(s.heap.push PySem.W.emptyDict).get? s⁻¹=!PySem.W.emptyDict:=aJ s.heap rfl;let e2:((s.heap.push PySem.W.emptyDict).push (PySem.W.instObj C s⁻¹)).get? (s⁻¹+1)=!(PySem.W.instObj C s⁻¹):=by
  have:=aJ (s.heap.push PySem.W.emptyDict) (o:=PySem.W.instObj C s⁻¹) rfl
  rwa [fY] at this
 let e3:(s.heap.push PySem.W.emptyDict).Ns s⁻¹ (λx=>none):=#[PySem.W.emptyDict,(List.toArray []),_,e1,rfl,(λe he=>absurd he #[_]),λx=>rfl]
 let I1:=I.laid (o:=.own (s⁻¹+1)) (h':=s.heap.push PySem.W.emptyDict) (t':=s.toks) (λb u q=>av _ q) (aw _) #[_,e1];show I1.laid (t':=s.toks) (λb u q=>av _ q) (wb (fY _ _)) ?_;let ne:s⁻¹≠s⁻¹+1:=aT (mS _);show#[by rw[d4 ne,l6],cw _,ne,e2,λx=>none,(Heap.Ns1.of_empty e3).at λo q=>av _ q,λx=>True.intro,λy hy=>absurd rfl hy]
def bE4{prog:Program}{env:Env}(hb:attributeBase e f env (eval e env)=eval e env)(h:wpAny (model prog w) A (eval e env) (λo bU=>wpAny (model prog w) A (getAttr o f true) Q E bU) E s):wpAny (model prog w) A (eval (.Attribute e f pos) env) Q E s :=
 Attribute_any_ h (by rw[arm_eval_Attribute,hb])
end
def b67(K:PySem.W.Frag)(ta:TE)(f:Str):TE:=λU H Q=>ta U H λx H1=>∃a C dx fs v,x=.ref a/\H1 a=!.ins C dx fs/\jT K C/\E4 K C f/\fs.lookup f=!v/\Q v H1
def b80(K:PySem.W.Frag)(ta tv:TE)(f:Str):TS:=λD U H=>tv U H λy H1=>ta U H1 λx H2=>∃a C dx fs,x=.ref a/\H2 a=!.ins C dx fs/\jT K C/\E4 K C f/\-fs<1000 /\
 D.nx U (upd H2 a (.ins C dx (A3 f y fs)))
abbrev EI(X:Cx)(op:Operator)(rd:V->V->Hp->VK->Prop):Prop :=
 ∀(pi:@&(Addr×Obj)) (s:Shared) (U:St) (H:Hp) (x y:V) (u v:Value) (Q:VK),Inv X pi U H s->RelV x u->RelV y v->rd x y H Q->wpAny (model X.prog X.w) X.A (inplaceOp op u v) (EP X pi U Q) X.xe s
def VX(K:PySem.W.Frag)(ta tv:TE)(rd:V->V->Hp->VK->Prop)(f:Str):TS:=λD U H=>ta U H λx H1=>∃a C dx fs v,x=.ref a/\H1 a=!.ins C dx fs/\jT K C/\E4 K C f/\fs.lookup f=!v /\
 tv U H1 λy H2=>rd v y H2 λz H3=>∃vp jQ,H3 a=!.ins C vp jQ/\-jQ<1000/\D.nx U (upd H3 a (.ins C vp (A3 f z jQ)))
section
variable{o value:Expr}{f:Str}{wj:Pos}{tv:TE}
def bN3(he:PE X e ta)(hb:attributeBase e f X.env (eval e X.env)=eval e X.env):PE X (.Attribute e f pos) (b67 X.K ta f):=by
 intro pi s U H Q I h;show bE4 hb (cN (he pi s U H _ I h) λu s1 bA=>?_);let#[x,H1,I1,rx,a,C,dx,fs,v,ex,ea,c,n,l,q]:=bA;subst ex;obtain rfl:u=Value.ref a:=rx;show MF I1 ea c n l λu' s2 I2 ru=>#[v,H1,I2,ru,q]
def bM0(ha:PE X o ta)(hv:PE X value tv)(hs:swapsWith value (!.Attribute o f pos') pos.line X.env=pure false):PS X (.Assign [.Attribute o f pos'] value pos) (b80 X.K ta tv f):=by
 intro pi s U H D I h;show plainObj_wpAny_Assign_Attribute (cN (hv pi s U H _ I h) ?_) hs;rintro u s1 ⟨y,H1,I1,ry,q⟩;show cN (ha pi s1 U H1 _ I1 q) λov s2 bA=>?_;let#[x,H2,I2,rx,a,C,dx,fs,ex,ea,c,n,l,q2]:=bA;subst ex;obtain rfl:ov=Value.ref a:=rx;show MP I2 ea c n l ry λs3 I3=>#[U,_,I3,q2]
def a82{op:Operator}{rd:V->V->Hp->VK->Prop}(ha:PE X o ta)(hv:PE X value tv)(qi:EI X op rd):PS X (.AugAssign (.Attribute o f wj) op value pos) (VX X.K ta tv rd f):=by
 intro pi s U H D I h;show wpAny_AugAssign_AttributeAny (cN (ha pi s U H _ I h) λov s1 bA=>?_);let#[x,H1,I1,rx,a,C,dx,fs,v,ex,ea,c,n,l,q]:=bA;subst ex;obtain rfl:ov=Value.ref a:=rx;show MF I1 ea c n l λu s2 I2 ru=>cN (hv pi s2 U H1 _ I2 q) ?_;rintro w3 s3 ⟨y,H2,I3,ry,q3⟩;show cN (qi pi s3 U H2 v y u w3 _ I3 ru ry q3) λw4 s4 bA=>?_;let#[z,H3,I4,rz,vp,jQ,UR,l',q4]:=bA;show MP I4 UR c n l' rz λs5 I5=>#[U,_,I5,q4]
abbrev b89:V->V->Hp->VK->Prop:=λx y H Q=>∃i j,x=.int i/\y=.int j/\Q (.int (i+j)) H
def bR6:EI X .Add b89:=by
 rintro pi s U H x y u v Q I rx ry ⟨i,j,rfl,rfl,q⟩;let#[t,rfl]:=(show ∃t,u=Value.int i t from rx)
 let#[t',rfl]:=(show ∃t',v=Value.int j t' from ry)
 show PyProof.Rows.iadd_int #[.int (i+j),H,I.tok _,#[_,rfl],q]
end
section
variable{c:Value}{b:Bool}
inductive iK(K:PySem.W.Frag)(H:Hp):V->Value->Prop where
 |aR:iK K H .aR (.type "NoneType")
 |bl (x:Bool):iK K H (.bl x) (.type "bool")
 |int (i:Int):iK K H (.int i) (.type "int")
 |str (x:Str):iK K H (.str x) (.type "str")
 |tU (x:UInt64):iK K H (.tU x) (.type "float")
 |lst {a:Addr} {xs:@&V} (e:H a=!.lst xs):iK K H (.ref a) (.type "list")
 |kC {a:Addr} {o:Obj} {xs:@&V} (e:H a=!.kC o (.lst xs)):iK K H (.ref a) (.type "list")
 |tup {a:Addr} {xs:@&V} (e:H a=!.tup xs):iK K H (.ref a) (.type "tuple")
 |dK {a:Addr} {kvs:@&(Key×V)} (e:H a=!.dK kvs):iK K H (.ref a) (.type "dict")
 |dT {a:Addr} {kvs:@&(List Key×V)} (e:H a=!.dT kvs):iK K H (.ref a) (.type "dict")
 |ins {a C dx:Addr} {fs:@&(Str×V)} (e:H a=!.ins C dx fs) (cl:jT K C) (ha:PySem.W.findIn K (.ref C) "__class__"=!!(.builtin "object.__class__"))
   (hn:PySem.W.specialIn K (.builtin "object.__class__") "__get__"=!!(.builtin "getset_descriptor.__get__")) (zJ:PySem.W.takesIn K (.builtin "object.__class__")=!true)
   (hm:PySem.W.mroIn K C (.type "object")=!true):iK K H (.ref a) (.ref C)
def Za{x:V}{t:Value}(I:Inv X pi U H s)(rx:RelV x u)(ty:iK X.K H x t)(e:PySem.W.kitOne X.K t c=!b)(h:∀tk,Q (.bool b) { s with toks:=tk }) :
  wpAny (model X.prog X.w) A (call (.builtin "isinstance") [u,c]) Q E s:=by
 cases ty with
 |aR=>cases (show u=Value.none from rx);show cj PySem.W.kitx_none I.gT True.intro e (λz=>nomatch z) h
 |bl y=>cases (show u=Value.bool y from rx);show cj PySem.W.kitx_bool I.gT True.intro e (λz=>nomatch z) h
 |int i=>let#[t,q]:=(show ∃t,u=Value.int i t from rx);cases q;show cj PySem.W.kitx_int I.gT True.intro e (λz=>nomatch z) h
 |str y=>let#[t,q]:=(show ∃t,u=Value.str y t from rx);cases q;show cj PySem.W.kitx_str I.gT True.intro e (λz=>nomatch z) h
 |tU y=>let#[t,q]:=(show ∃t,u=Value.float y t from rx);cases q;show cj PySem.W.kitx_float I.gT True.intro e (λz=>nomatch z) h
 |@lst a xs ea =>
  cases (show u=Value.ref a from rx);let#[_,_,n,_,h1]:=(show m8 X.prog X.w H s.heap a (.lst xs) from I.bV a _ ea)
  show cj PySem.W.kitx_list I.gT #[_,h1,rfl] e (λz=>nomatch z) h
 |@kC a ob xs ea =>
  cases (show u=Value.ref a from rx);let#[_,_,_,n,_,h1]:=(show m8 X.prog X.w H s.heap a (.kC ob (.lst xs)) from I.bV a _ ea)
  show cj PySem.W.kitx_list I.gT #[_,h1,rfl] e (λz=>nomatch z) h
 |@tup a xs ea =>
  cases (show u=Value.ref a from rx);let#[_,_,_,p]:=(show m8 X.prog X.w H s.heap a (.tup xs) from I.bV a _ ea)
  let#[o,h1,h2,_]:=p;show cj QY I.gT #[o,h1,h2] e (λz=>nomatch z) h
 |@dK a kvs ea =>
  cases (show u=Value.ref a from rx);let#[_,_,vs,_,p]:=(show m8 X.prog X.w H s.heap a (.dK kvs) from I.bV a _ ea)
  let#[o,es,ep,h1,h2,_]:=p;show cj PySem.W.kitx_dict I.gT #[o,h1,h2.1] e (λz=>nomatch z) h
 |@dT a kvs ea =>
  cases (show u=Value.ref a from rx);let#[_,_,xs,_,o,es,ep,h1,h2,_]:=(show m8 X.prog X.w H s.heap a (.dT kvs) from I.bV a _ ea)
  show cj PySem.W.kitx_dict I.gT #[o,h1,h2.1] e (λz=>nomatch z) h
 |@ins a C dx fs ea cl ha hn zJ hm =>
  cases (show u=Value.ref a from rx);let#[mA,O,_]:=AH I.bV ea;let#[od,J,_]:=O.look;show cj (PySem.W.kitx_own (cl.get _) cl.hd ha hn zJ hm) I.gT J e (λz=>nomatch z) h
end
structure x8(k:Nat)(A:Around):Prop where
 hd:A.handled=none
 dp:A.depth+3*k+5<recursionLimit
 un:A.units+16*k+200<cLine
def x8.mono{j:Nat}(r:x8 k A)(h:j<=k):x8 j A:=#[r.hd,by have:=r.dp;omega,by have:=r.un;omega]
def x8.deeper{k:Nat}{A:Around}(r:x8 (k+1) A)(env:Env):x8 k (A.deeper env) :=
 #[r.hd,by have:=r.dp;change A.depth+1+3*k+5<_;omega,by have:=r.un;change A.units+3+16*k+200<_;omega]
def a18{kw:@&(Str×Value)}:(A.under (.builtin "type.__call__" #[.ref C::us,kw])).depth=A.depth+1:=by
 rfl
def a17{kw:@&(Str×Value)}:(A.under (.builtin "type.__call__" #[.ref C::us,kw])).units=A.units+1:=by
 rfl
def x8.make(r:x8 (k+1) A)(C:Addr)(us:@&Value)(kw:@&(Str×Value)):x8 k (A.under (.builtin "type.__call__" #[.ref C::us,kw])) :=
 #[r.hd,by have:=r.dp;rw[a18];omega,by have:=r.un;rw[a17];omega]
def x8.depth{k:Nat}{A:Around}(r:x8 k A):A.depth<recursionLimit:=by have:=r.dp;omega
def EW:TA:=λx H Q=>Q [] H
def bW4(ta:TE)(tr:TA):TA:=λU H Q=>ta U H λx H1=>tr U H1 λxs H2=>Q (x::xs) H2
def P7:PA X [] EW:=λx x x x H Q I h=>Calls.spliced_nil #[[],H,I,.nil,h]
def L8(ha:PE X e te)(hr:PA X es t)(hs:starEach (e::es) X.env=(false,eval e X.env)::starEach es X.env:=by rfl):PA X (e::es) (bW4 te t):=by
 intro pos pi s U H Q I h;rw[hs];change wpAny _ _ (spliced ((false,eval e X.env)::backTo pos (starEach es X.env))) _ _ s;show Calls.spliced_cons (cN (ha pi s U H _ I h) λu s1 bA=>?_);let#[x,H1,I1,r1,q1]:=bA;show cN (hr pos pi s1 U H1 _ I1 q1) (by rintro us s2 ⟨xs,H2,I2,r2,q2⟩;show #[x::xs,H2,I2,.cons r1 r2,q2])
def b59(t:TA):TE:=λU H Q=>t U H λxs H1=>-xs<=sizeLine/\∀p,H1 p=none->Q (.ref p) (upd H1 p (.tup xs))
def b64(t:TA):TE:=λU H Q=>t U H λxs H1=>-xs<=sizeLine/\∀p,H1 p=none->Q (.ref p) (upd H1 p (.lst xs))
def bM6{x1}(h:PA X es t):PE X (.Tuple es x1 pos) (b59 t):=by
 intro pi s U H Q I hq;show wpAny_Tuple_spliced (cN (h pos pi s U H _ I hq) ?_);rintro us s1 ⟨xs,H1,I1,r,z,q⟩;show #[by rw[<- -r];show z,?_];let hf:=I1.bV.fresh (aw _);show#[.ref s1⁻¹,upd H1 s1⁻¹ (.tup xs),I1.laid (t':=s1.toks) (λb u e=>av _ e) (aw _) ?_,rfl,q _ hf];show#[z,us,r,#[_,aJ _ rfl,rfl,#[_,rfl],rfl]]
def bN1(h:PA X es t):PE X (.List es pos) (b64 t):=by
 intro pi s U H Q I hq;show wpAny_List_spliced (cN (h pos pi s U H _ I hq) ?_);rintro us s1 ⟨xs,H1,I1,r,z,q⟩;show #[by rw[<- -r];show z,?_];let hf:=I1.bV.fresh (aw _);show#[.ref s1⁻¹,upd H1 s1⁻¹ (.lst xs),I1.laid (t':=s1.toks) (λb u e=>av _ e) (aw _) ?_,rfl,q _ hf];show#[z,us,0,r,aJ _ rfl]
noncomputable abbrev Sp:=@&V->Hp->VK->XK->Prop
noncomputable abbrev pb:=@&Env->Hp->Shared->XK->Value->Shared->Prop
structure uc(P:Program)(w:World)(K:PySem.W.Frag)(mg:Str->Option Value)(base:Heap)(A:Around)(outer:@&Env)(s:Shared)(H:Hp):Prop where
 frames:A.frames=!outer
 mod:Mod K mg base
 bs:∀b o,base.get? b=!o->s.heap.get? b=!o/\H b=none
 oX:base.objs.size<=s⁻¹
 O8:s.heap.FunFrames base outer
 pH:∀b∈gu outer,H b=none
 bV:gR P w H s.heap
 bare:AllBare s.gens
abbrev CE(outer:@&Env)(P:Program)(w:World)(H:Hp)(s:Shared)(Q:VK)(u:Value)(s':Shared):Prop :=
 ∃v H',s'.os=s.os/\AllBare s'.gens/\Un (gu outer) [] H H' s.heap s'.heap/\gR P w H' s'.heap/\RelV v u/\Q v H'
abbrev CR(CX:pb)(outer:@&Env)(P:Program)(w:World)(H:Hp)(s:Shared)(Q:VK)(E:XK)(r:Result)(s':Shared):Prop :=
 match r with
 |.ok (.ret u)=>CE outer P w H s Q u s'
 |.ok _=>False
 |.error e=>CX outer H s E e s'
structure iq(P:Program)(w:World)(K:PySem.W.Frag)(mg:Str->Option Value)(base:Heap)(CX:pb)(k:Nat)(f:Addr)(fd:FuncData)(ps:@&Str)(sp:Sp):Prop where
 len:∀vs H Q E,sp vs H Q E->-vs=-ps
 run:∀(A:Around) (outer:@&Env) (s:Shared) (H:Hp) (args:Args) (us:@&Value) (vs:@&V) (Q:VK) (E:XK),x8 k A->uc P w K mg base A outer s H->BindsTo s fd args (ps.zip us)->Vals vs us->sp vs H Q E ->
  codeAny (model P w) A (.call (.ref f) args) (CR CX outer P w H s Q E) s
def uc.make{mg:Str->Option Value}{outer:@&Env}(e:uc P w K mg base A outer s H)(C:Addr)(us:@&Value)(kw:@&(Str×Value)) :
  uc P w K mg base (A.under (.builtin "type.__call__" #[.ref C::us,kw])) outer s H:=#[by first|show e.frames|(simpa[Around.under,Code.envs,Code.isFrame,pushEnvs] using e.frames),e.mod,e.bs,e.oX,e.O8,e.pH,e.bV,e.bare]
section
variable{s':Shared}
def Inv.Mc(I:Inv X pi U H s):uc X.prog X.w X.K X.mg X.base X.A X.stack s H :=
 #[I.ok.frames,I.ok.mod,I.bs,aG I.ok.oX I.sz,I.stack,I.AS,I.bV,I.bare]
def Inv.after{Q:VK}(I:Inv X pi U H s)(h:CE X.stack X.prog X.w H s Q u s'):EP X pi U Q u s':=by
 let#[v,H',os,bare,un,bV,r,q]:=h;let#[hh,g,d,t,wC]:=s';obtain rfl:wC=s.os:=os;show#[v,H',I.call (h':=hh) (g':=g) (d':=d) (t':=t) un bV bare (λb z=>absurd z #[_]),r,q]
end
def Lp(sp:Sp)(kM:@&V)(E:XK)(t:TA):TE:=λU H Q=>t U H λvs H1=>sp (vs++kM) H1 Q E
def Lq(C:Addr)(sp:Sp)(kM:@&V)(E:XK)(t:TA):TE:=λU H Q=>t U H λvs H1=>∀x dx,H1 x=none->H1 dx=none->dx≠x ->
 sp (.ref x::(vs++kM)) (upd (upd H1 dx (.own x)) x (.ins C dx [])) (λv H2=>v=.aR/\Q (.ref x) H2) E
abbrev Binds(K:PySem.W.Frag)(fd:FuncData)(ps:@&Str)(ds:@&Value):Prop :=
 ∀(s:Shared) (us:@&Value),K.In s.heap->(us++ds).length=-ps->BindsTo s fd #[us,[]] (ps.zip (us++ds))
def Binds.all(h:∀us:@&Value,(-us)=-ps->bindArgs fd #[us,[]]=pure (ps.zip us)):Binds K fd ps []:=λs us x hl=>by
 rw[fu] at hl ⊢;show .of_eq (h us hl)
def Passes(CX:pb)(X:Cx)(E:XK):Prop:=∀(pi:@&(Addr×Obj)) (U:St) (H:Hp) (s:Shared) (e:Value) (s':Shared),Inv X pi U H s->CX X.stack H s E e s'->X.xe e s'
section
variable{kM:@&V}{ds:@&Value}{E:XK}
def Aw{Q:VK}(F:iq X.prog X.w X.K X.mg X.base CX k f fd ps sp)(hr:x8 k X.A)(hb:Binds X.K fd ps ds)(hd:Vals kM ds)(hx:Passes CX X E)(I:Inv X pi U H s)(r:Vals vs us)(h:sp (vs++kM) H Q E):wpAny (model X.prog X.w) X.A (call (.ref f) us) (EP X pi U Q) X.xe s:=by
 let r2:=r.append hd;let hl:(us++ds).length=-ps:=by rw[<- -r2];show F.len _ _ _ _ h
 show wpAny_call (fX (F.run X.A X.stack s H #[us,[]] (us++ds) (vs++kM) Q E hr I.Mc (hb s us I.gT hl) r2 h) λr s' hq=>?_);cases r with
 |error e=>show hx pi U H s e s' I hq
 |ok fl =>
  cases fl with
  |ret u=>show I.after hq
  |next=>show False.elim hq
  |brk=>show False.elim hq
  |cont=>show False.elim hq
def bA0(F:iq X.prog X.w X.K X.mg X.base CX k f fd ps sp)(hr:x8 k X.A)(hg:Gl X x)(hm:X.mg x=!.ref f)(hk:PySem.W.keepIn X.K (.ref f)=true)(hb:Binds X.K fd ps ds)(hd:Vals kM ds)(hx:Passes CX X E)(ha:PA X (e::es) t)(iL:(x==("__debug__":Str))=false:=by decide)(he:starEach (e::es) X.env=(false,eval e X.env)::starEach es X.env:=by rfl)(gU:(backTo pos (starEach es X.env)).any (·.1)=false:=by rfl) :
  PE X (.Call (.Name x p) (e::es) [] pos) (Lp sp kM E t):=by
 intro pi s U H Q I h;show cY (T4 I hg hm ?_ iL);show kP I.ok.mod.ow hk (cN (ha pos pi s U H _ I h) ?_) he gU;rintro us s1 ⟨vs,H1,I1,r,q⟩;show #[I1.gT,?_];show Aw F hr hb hd hx I1 r q
def XA(F:iq X.prog X.w X.K X.mg X.base CX k f fd ps sp)(hr:x8 k X.A)(hg:Gl X x)(hm:X.mg x=!.ref f)(hk:PySem.W.keepIn X.K (.ref f)=true)(hb:Binds X.K fd ps ds)(hd:Vals kM ds)(hx:Passes CX X E)(iL:(x==("__debug__":Str))=false:=by decide):PE X (.Call (.Name x p) [] [] pos) (Lp sp kM E EW):=by
 intro pi s U H Q I h;show cY (T4 I hg hm ?_ iL);show kj I.gT hk (Aw (us:=[]) F hr hb hd hx I .nil h)
structure Mk(K:PySem.W.Frag)(C f:Addr):Prop where
 makes:PySem.W.makesIn K C=true
 init:PySem.W.findIn K (.ref C) "__init__"=!!.ref f
 fn:PySem.W.isFn K (.ref f)=true
 kp:PySem.W.keepIn K (.ref C)=true
def Pc{Q:VK}(M:Mk X.K C f)(F:iq X.prog X.w X.K X.mg X.base CX k f fd ps sp)(hr:x8 (k+1) X.A)(hb:Binds X.K fd ps ds)(hd:Vals kM ds)(hx:Passes CX X E)(I:Inv X pi U H s)(r:Vals vs us)(h:∀x dx,H x=none->H dx=none->dx≠x->sp (.ref x::(vs++kM)) (upd (upd H dx (.own x)) x (.ins C dx [])) (λv H2=>v=.aR/\Q (.ref x) H2) E) :
  wpAny (model X.prog X.w) X.A (call (.ref C) us) (EP X pi U Q) X.xe s:=by
 let hq:=h (s⁻¹+1) s⁻¹ (I.bV.fresh (nD _)) (I.bV.fresh (aw _)) (aT (mS _));let I2:=Inv.made (C:=C) I;let r2:Vals (V.ref (s⁻¹+1)::(vs++kM)) (Value.ref (s⁻¹+1)::(us++ds)):=.cons rfl (r.append hd);let hl:(Value.ref (s⁻¹+1)::us++ds).length=-ps:=by
  let e:=-r2;rw[F.len _ _ _ _ hq] at e;show e.symm
 show wpAny_call (Xl I.gT M.makes M.init (eA.mp M.fn) (fX (F.run _ X.stack _ _ #[Value.ref (s⁻¹ + 1) :: us,[]] (Value.ref (s⁻¹ + 1) :: (us ++ ds)) _ _ E (hr.make C us [])
  (I2.Mc.make C us []) (hb _ (Value.ref (s⁻¹ + 1) :: us) I2.gT hl) r2 hq) λr s' oG=>?_))
 cases r with
 |error e=>show hx pi U _ _ e s' I2 oG
 |ok fl =>
  cases fl with
  |ret u =>
   let#[v,H',I3,rv,ev,q3]:=I2.after oG;subst ev;show#[rv,#[V.ref (s⁻¹+1),H',I3,rfl,q3]]
  |next=>show False.elim oG
  |brk=>show False.elim oG
  |cont=>show False.elim oG
def VF(M:Mk X.K C f)(F:iq X.prog X.w X.K X.mg X.base CX k f fd ps sp)(hr:x8 (k+1) X.A)(hg:Gl X x)(hm:X.mg x=!.ref C)(hb:Binds X.K fd ps ds)(hd:Vals kM ds)(hx:Passes CX X E)(ha:PA X (e::es) t)(iL:(x==("__debug__":Str))=false:=by decide)(he:starEach (e::es) X.env=(false,eval e X.env)::starEach es X.env:=by rfl)(gU:(backTo pos (starEach es X.env)).any (·.1)=false:=by rfl) :
  PE X (.Call (.Name x p) (e::es) [] pos) (Lq C sp kM E t):=by
 intro pi s U H Q I h;show cY (T4 I hg hm ?_ iL);show kP I.ok.mod.ow M.kp (cN (ha pos pi s U H _ I h) ?_) he gU;rintro us s1 ⟨vs,H1,I1,r,q⟩;show #[I1.gT,?_];show Pc M F hr hb hd hx I1 r q
def XF(M:Mk X.K C f)(F:iq X.prog X.w X.K X.mg X.base CX k f fd ps sp)(hr:x8 (k+1) X.A)(hg:Gl X x)(hm:X.mg x=!.ref C)(hb:Binds X.K fd ps ds)(hd:Vals kM ds)(hx:Passes CX X E)(iL:(x==("__debug__":Str))=false:=by decide):PE X (.Call (.Name x p) [] [] pos) (Lq C sp kM E EW):=by
 intro pi s U H Q I h;show cY (T4 I hg hm ?_ iL);show kj I.gT M.kp (Pc (us:=[]) M F hr hb hd hx I .nil h)
end
structure jB(N P:@&Str)(sc:Scope):Prop where
 kind:sc.kind=.function
 co:sc.isCoroutine=false
 gen:sc.isGenerator=false
 nd:N.Nodup
 pre:N.take (-P)=P
 par:∀x∈P,sc.names.lookup x=!.local\/sc.names.lookup x=!.cell
 oi:∀y∈sc.names,y.2≠.free
def Pw{kindOf:Str->Option NameKind}{x:Str}:∀{binds:@&(Str×Value)} {m:Str->Option Value},(∀v,(x,v)∉binds)->bindL kindOf binds m x=m x
 |[],_,_=>rfl
 |(n,v)::r,m,h=>by
  unfold bindL;rw[Pw λw hw=>h w (bZ _ hw)];split
  .have:x≠n:=by rintro rfl;show h v kQ
   simp[this]
  .rfl
def Pt{kindOf:Str->Option NameKind}{x:Str}:∀{binds:@&(Str×Value)} {m:Str->Option Value},(∀v,(x,v)∉binds)->bindC kindOf binds m x=m x
 |[],_,_=>rfl
 |(n,v)::r,m,h=>by
  unfold bindC;rw[Pt λw hw=>h w (bZ _ hw)];split
  .rfl
  .have:x≠n:=by rintro rfl;show h v kQ
   simp[this]
def Pu{kindOf:Str->Option NameKind}{x:Str}{v:Value}:∀{P:@&Str} {vs:@&Value} {i:Nat} {m:Str->Option Value},P.Nodup->P[i]?=!x->vs[i]?=!v->kindOf x=!.local ->
  bindL kindOf (P.zip vs) m x=!v
 |[],_,_,_,_,h,_,_=>by simp at h
 |_::_,[],_,_,_,_,h,_=>by simp at h
 |p::P,w::vs,0,m,nd,h1,h2,hk=>by
  simp at h1 h2;subst h1;subst h2;change bindL kindOf ((p,w)::P.zip vs) m p=_;unfold bindL;rw[Pw λv hv=>(dC.mp nd).1 (nT hv).1,az hk];simp
 |p::P,w::vs,i+1,m,nd,h1,h2,hk=>by
  unfold bindL;show Pu (dC.mp nd).2 (_/h1) (_/h2) hk
def Pq{kindOf:Str->Option NameKind}{x:Str}{v:Value}:∀{P:@&Str} {vs:@&Value} {i:Nat} {m:Str->Option Value},P.Nodup->P[i]?=!x->vs[i]?=!v->kindOf x≠!.local ->
  bindC kindOf (P.zip vs) m x=!v
 |[],_,_,_,_,h,_,_=>by simp at h
 |_::_,[],_,_,_,_,h,_=>by simp at h
 |p::P,w::vs,0,m,nd,h1,h2,hk=>by
  simp at h1 h2;subst h1;subst h2;change bindC kindOf ((p,w)::P.zip vs) m p=_;unfold bindC;rw[Pt λv hv=>(dC.mp nd).1 (nT hv).1,aA hk];simp
 |p::P,w::vs,i+1,m,nd,h1,h2,hk=>by
  unfold bindC;show Pq (dC.mp nd).2 (_/h1) (_/h2) hk
def start(N:@&Str)(vs:@&V):St:=vs.map some++List.replicate (-N- -vs) none
abbrev qy(CX:pb)(P:Program)(w:World)(K:PySem.W.Frag)(mg:Str->Option Value)(base:Heap)(N:@&Str)(qual:Str)(scope:Scope)(f:Addr)(cd:Value)(A:Around)(outer:@&Env)(s:Shared)(H:Hp)(E:XK):Cx where
 prog:=P
 w:=w
 K:=K
 mg:=mg
 base:=base
 A:=A.deeper (envOfC qual scope s⁻¹ f cd)
 N:=N
 dJ:=s
 ka:=H
 env:=envOfC qual scope s⁻¹ f cd
 outer:=outer
 stack:=envOfC qual scope s⁻¹ f cd::outer
 ex:=[]
 calm:=true
 fn:=λx=>true
 pn:=[]
 xe:=λe s'=>wpAny (model P w) (A.deeper (envOfC qual scope s⁻¹ f cd)) (leaving (envOfC qual scope s⁻¹ f cd) e) (λx qa=>CX outer H s E e qa) (λe' qa=>CX outer H s E e' qa) s'
def Fj{sc:Scope}{n:Nat}(h:sc.names.lookup x=!.cell):∃c,(cellsFrom n sc.names []).lookup x=!c:=by
 let q:=eB sc.names n [] (.inl h);show fm.mp q
def Y'{mg:Str->Option Value}{qual:Str}{scope:Scope}{cd:Value}{outer:@&Env}{s1:Shared}{E:XK}(S:jB N ps scope)(hd:A.handled=none)(e0:uc P w K mg base A outer s H)(hl:-vs=-ps)(r:Vals vs us)(x:InCallC s s⁻¹ (bindL (envOfC qual scope s⁻¹ f cd).kindOf (ps.zip us) λt=>none) (cellsFrom (s⁻¹+1) scope.names []) (bindC (envOfC qual scope s⁻¹ f cd).kindOf (ps.zip us) λt=>none) s1) :
  Inv (qy CX P w K mg base N qual scope f cd A outer s H E) [] (start N vs) H s1:=by
 let gU:-ps<=-N:=by have:=iO List.length S.pre;grind
 let#[h1,tk,rfl,hk]:=x.done;let wI:∀b:Addr,b∉(qy CX P w K mg base N qual scope f cd A outer s H E).ex:=λb z=>absurd (show b∈([]:@&Addr) from z) #[_];show #[#[e0.mod,S.kind,rfl,rfl,aw _,λy z c h1 h2=>?_,λy hy=>?_,λy c t h=>?_,λt=>hd,Around.frames_deeper e0.frames,.inr #[rfl,rfl],λb z=>absurd z (wI b),e0.bs,e0.oX,λb t t=>wI b,λb z=>absurd z (wI b),e0.O8,e0.pH],
  rfl,e0.bare,Un.kept hk,#[_,x.toInCall.ns,λi y v h1 h2 h3=>?_],λy c h=>#[_,x.cell y c h],e0.bV.fresh (aw _),λy c h=>?_,λp hp=>absurd (show p ∈ ([]:@&(Addr × Obj)) from hp) #[_],e0.bV.kept hk,?_,λdn z=>absurd (show (none:Option (List (Option V)))=some dn from z) #[_]]
 .exact name_of_addr x.apart (aS h1) (aS h2)
 .rcases hy with hy|hy
  .exact Fj hy
  .exact absurd rfl (S.oi _ (aS hy))
 .exact dI (x.above y c (aS h))
 .let hi:i< -vs:=by
   unfold start at h2;by_cases hi:i< -vs
   .exact hi
   .rw[cc (_/hi)] at h2;rw[dU] at h2
    simp_all
  let ha:vs[i]?=!v:=by
   unfold start at h2;rw[aH (_/hi),aj] at h2;cases e:vs[i]? with
   |none=>rw[e] at h2;cases h2
   |some a=>rw[e] at h2;cases h2;rfl
  let#[u,hu,rv]:=r.get ha;let hp:ps[i]?=!y:=by
   rw[<- S.pre,cB ()];show h1
  let Ja:ps.Nodup:=by rw[<- S.pre];show S.nd.sublist (List.take_sublist _ _)
  show#[u,rv,?_];rcases S.par y (aC hp) with k|k
  .exact .inl #[k,Pu Ja hp hu k]
  .let#[c,e]:=Fj k;show .inr #[.inl k,c,e,?_];let q:=x.cell y c e;rw[Pq Ja hp hu (by change scope.names.lookup y≠_;rw[k];decide)] at q;show q
 .exact e0.bV.fresh (dI (x.above y c (aS h)))
 .unfold start;change _=-N
  simp_all
def b21{mg:Str->Option Value}{name qual:Str}{params:Arguments}{scope:Scope}{dV kV doc pm gi ct oc:Value}{an od:Option Addr}{nJ:Array (Option Value)}(lk:K.lookup f=!#[oc,od,.func (PySem.W.fnOf name qual params body scope dV kV doc pm an gi ct),nJ])(nh:PySem.W.codeIn K gi qual=true)(S:jB N ps scope)(len:∀vs H Q E,sp vs H Q E->-vs=-ps)(xE:∀ (A:Around) (outer:@&Env) (s:Shared) (H:Hp) (vs:@&V) (Q:VK) (E:XK),x8 k (A.deeper (envOfC qual scope s⁻¹ f gi))->sp vs H Q E ->
   ∃ t,jR (qy CX P w K mg base N qual scope f gi A outer s H E) body t/\t { nx:=λz H'=>Q .aR H',rt:=Q } (start N vs) H) :
  iq P w K mg base CX (k+1) f (PySem.W.fnOf name qual params body scope dV kV doc pm an gi ct) ps sp:=by
 show#[len,λA outer s H args us vs Q E hr e0 hb r uP=>?_];let hl:=len _ _ _ _ uP;let KX:=e0.mod.ow.keeps λb o e=>(e0.bs b o e).1;let lim:=e0.mod.nolimit.keeps λb o e=>(e0.bs b o e).1;let mI:∀y∈ps.zip us,scope.names.lookup y.1=!.local\/(scope.names.lookup y.1=!.cell/\((cellsFrom (s⁻¹+1) scope.names []).lookup y.1).isSome=true):=λ⟨n,v⟩ hy=>by
  rcases S.par n (nT hy).1 with q|q
  .exact .inl q
  .exact .inr #[q,eB _ _ _ (.inl q)]
 show codeAny_call_function hr.depth (KX _ _ lk) rfl S.co S.gen rfl (PySem.W.codeRec_of KX nh) (hb _ _ _ _ ?_);show wpAny_newFunctionEnv_cells S.kind mI λenv he s1 x=>?_;subst he;show#[lim.keeps x.toInCall.keep,codeAny_func ?_];let#[t,ht,hq]:=xE A outer s H vs Q E (hr.deeper _) uP;let I:Inv (qy CX P w K mg base N qual scope f gi A outer s H E) [] (start N vs) H s1:=Y' S hr.hd e0 hl r x;show bE (ht [] s1 (start N vs) H _ I hq) (λfl s' hs=>?_) λe s' hs=>hs;let fin:∀{cv:St} {H':Hp} {v:V} {u:Value},Inv (qy CX P w K mg base N qual scope f gi A outer s H E) [] cv H' s'->RelV v u->Q v H'->CE outer P w H s Q u s' :=
  λ{cv H' v u} J rv q=>#[v,H',J.os,J.bare,J.base,J.bV,rv,q]
 cases fl with
 |ret u =>
  let#[v,cv,H',J,rv,q]:=hs;show fin J rv q
 |next =>
  let#[cv,H',J,q]:=hs;show fin (v:=V.aR) J rfl q
 |brk =>
  let#[_,_,_,q]:=hs
  simp_all
 |cont =>
  let#[_,_,_,q]:=hs
  simp_all
section
variable{id T:String}{r:@&V->Hp->VK->Prop}
def Cd(r:@&V->Hp->VK->Prop)(t:TA):TE:=λU H Q=>t U H λvs H1=>r vs H1 Q
def X6(hc:u4 X (.builtin id) r)(hg:Gl X x)(hm:X.mg x=none)(hv:bootBuiltins x=!.builtin id)(ha:PA X (e::es) t)(hn:x≠"__name__":=by decide)(iL:(x==("__debug__":Str))=false:=by decide)(he:starEach (e::es) X.env=(false,eval e X.env)::starEach es X.env:=by rfl)(gU:(backTo pos (starEach es X.env)).any (·.1)=false:=by rfl):PE X (.Call (.Name x p) (e::es) [] pos) (Cd r t):=by
 intro pi s U H Q I h;show cY (Q5 I hg hm hv ?_ hn iL);show PyProof.Rows.callWith_builtin1 (cN (ha pos pi s U H _ I h) (by rintro us s1 ⟨vs,H1,I1,r1,q1⟩;show hc pi s1 U H1 vs us Q I1 r1 q1)) he gU
def K7(hc:u4 X (.type T) r)(hg:Gl X x)(hm:X.mg x=none)(hv:bootBuiltins x=!.type T)(ha:PA X (e::es) t)(hn:x≠"__name__":=by decide)(iL:(x==("__debug__":Str))=false:=by decide)(he:starEach (e::es) X.env=(false,eval e X.env)::starEach es X.env:=by rfl)(gU:(backTo pos (starEach es X.env)).any (·.1)=false:=by rfl):PE X (.Call (.Name x p) (e::es) [] pos) (Cd r t):=by
 intro pi s U H Q I h;show cY (Q5 I hg hm hv ?_ hn iL);show bX (cN (ha pos pi s U H _ I h) (by rintro us s1 ⟨vs,H1,I1,r1,q1⟩;show hc pi s1 U H1 vs us Q I1 r1 q1)) he gU
end
end L2
namespace HT
open PySem PyProof.Rows
section
variable{prog:Program}{w:World}{A:Around}{E:Value->Shared->Prop}{s:Shared}
def bE2{t b:Addr}{vs ws:@&Value}{Q:Value->Shared->Prop}(ht:IsTup s.heap t vs.toArray)(hb:IsTup s.heap b ws.toArray)(hv:vs≠[])(h1:ws=[]->Q (.ref t) s)(h2:ws≠[]->Q (.ref s⁻¹) { s with heap:=s.heap.push { cls:=.type "tuple",data:=.seq (vs++ws).toArray } })(ia:-vs+-ws<=sizeLine):wpAny (model prog w) A (binaryOp .Add (.ref t) (.ref b)) Q E s:=by
 let#[#[cls,dd,data,sl],ho,hc,n,hd]:=id ht;let#[#[ya,rP,data2,mh],jN,rB,n2,hd2]:=id hb;subst hc hd rB hd2;let e:vs.toArray++ws.toArray=(vs++ws).toArray:=by simp
 by_cases hw:ws=[]
 .exact concat_meets #[_,ho,rfl] #[_,jN,rfl] jV nA ji iP (iC _ _)
   (tuple_addW1 t b vs.toArray ws.toArray n n2 dd rP sl mh (_/hv) (by simp[hw])) #[ho,jN,h1 hw]
 .refine concat_meets #[_,ho,rfl] #[_,jN,rfl] jV nA ji iP (iC _ _)
   (tuple_addW2 t b vs.toArray ws.toArray n n2 dd rP sl mh (_/hv) (_/hw) ()) #[ho,jN,?_]
  rw[e];show h2 hw
abbrev eL(n d:Nat):Option Int->Nat
 |none=>d
 |some v=>if v<0 then(v+(n:Int)).toNat else min v.toNat n
def NK(v:Int)(n d:Nat):(if v<0 then max (v+(n:Int)) 0 else min v (n:Int))=((eL n d (!v):Nat):Int):=by
 show(if v<0 then max (v+(n:Int)) 0 else min v (n:Int))=(((if v<0 then(v+(n:Int)).toNat else min v.toNat n):Nat):Int)
 grind
def a49(lo hi:Option Int)(n:Nat):Builtin.Slice.sliceAdjust lo hi 1 (n:Int)=(((eL n 0 lo:Nat):Int),((eL n n hi:Nat):Int)):=by
 show Prod.ext ?_ ?_
 .cases lo with
  |none=>rfl
  |some v=>show NK v n 0
 .cases hi with
  |none=>rfl
  |some v=>show NK v n n
def a01(i j:Nat):Builtin.Slice.slicePlaces (i:Int) (j:Int) 1=j-i:=by
 unfold Builtin.Slice.slicePlaces;let h1:(1:Int)>0:=by omega
 simp only[h1,if_true,Int.ediv_one];split<;>omega
def MQ{v:Value}{o:Option Int}{Q:Option Int->Shared->Prop}(p:IsPart v o)(h:Q o s):wpAny (model prog w) A (Builtin.Slice.slicePartIndex v) Q E s:=by
 cases p with
 |none=>show slicePart_none h
 |int i t=>show slicePart_int h
def X2{sl:Addr}{vl vu:Value}{lo hi:Option Int}{n:Nat}{Q:Int×Int×Nat->Shared->Prop}(hs:s.heap.IsSliceOf sl vl vu .none)(pl:IsPart vl lo)(pu:IsPart vu hi)(h:Q (((eL n 0 lo:Nat):Int),1,eL n n hi-eL n 0 lo) s):wpAny (model prog w) A (Builtin.Slice.sliceApplied (.ref sl) (pure (n:Int))) Q E s:=by
 let#[os,sT,rA,xy]:=id hs;show aa (aa (gW sT xy (x:=vl) rfl (aa (gW sT xy (x:=vu) rfl (aa (gW sT xy (x:=.none) rfl (ao ?_)))))));show aa (slicePart_none ?_);show aa (MQ pl (aa (MQ pu (aa (ao ?_)))));change wpAny _ _ (match Builtin.Slice.sliceAdjust lo hi 1 (n:Int) with|(lo,hi)=>pure (lo,(1:Int),Builtin.Slice.slicePlaces lo hi 1)) _ _ s;rw[a49 lo hi n];change wpAny _ _ (pure (((eL n 0 lo:Nat):Int),(1:Int),Builtin.Slice.slicePlaces ((eL n 0 lo:Nat):Int) ((eL n n hi:Nat):Int) 1)) _ _ s;rw[a01];show ao h
def XN(xs:Array Value)(i k:Nat):((List.range k).filterMap λ(m:Nat)=>xs[((i:Int)+(m:Int)*1).toNat]?).toArray=((xs.toList.drop i).take k).toArray:=by
 let e:(λ(m:Nat)=>xs[((i:Int)+(m:Int)*1).toNat]?)=λm=>xs[i+m]?:=by
  funext m
  have:((i:Int)+(m:Int)*1).toNat=i+m:=by omega
  rw[this]
 rw[e];have:=pick_run xs i k;rw[List.filterMap_map] at this;let e2:((λx=>xs[x]?) ∘ λx=>i+x)=λm=>xs[i+m]?:=rfl;rw[e2] at this;rw[this]
def ap0{t sl:Addr}{items:Array Value}{vl vu:Value}{lo hi:Option Int}{Q:Value->Shared->Prop}(ht:IsTup s.heap t items)(hs:s.heap.IsSliceOf sl vl vu .none)(pl:IsPart vl lo)(pu:IsPart vu hi)(hw:¬(eL items.size 0 lo=0/\eL items.size items.size hi=items.size))(h:Q (.ref s⁻¹) { s with heap:=s.heap.push { cls:=.type "tuple",data:=.seq ((items.toList.drop (eL items.size 0 lo)).take (eL items.size items.size hi-eL items.size 0 lo)).toArray } })(ia:items.size<=sizeLine):wpAny (model prog w) A (getItem (.ref t) (.ref sl)) Q E s:=by
 let mF:sizeOk (.seq ((items.toList.drop (eL items.size 0 lo)).take (eL items.size items.size hi-eL items.size 0 lo)).toArray):=by
  show((items.toList.drop (eL items.size 0 lo)).take (eL items.size items.size hi-eL items.size 0 lo)).toArray.size<=sizeLine;rw[aV,cU,List.length_drop,dc];omega
 let#[os,sT,rA,xy]:=id hs;let DF:s.TypeIs (.ref sl) "slice":=#[os,sT,rA]
 unfold getItem
 try with_reducible show bB ?_
 show aa (wpAny_sequenceKey ht.typeIs ∅ ?_);show aa (fR ht.typeIs bY
  (cz bY ht.typeIs entry_tuple_getitem ?_ (args_tuple_getitem _ _)))
 change wpAny _ _ (Builtin.Tuple.tupleItemsOf (.ref t) >>= _) _ _ s;show aa (tupleItemsOf_ ht ?_);show aa (fz DF ?_);show aa (X2 hs pl pu ?_);let jZ:¬((((eL items.size 0 lo:Nat):Int)==0&&(1:Int)==1&&(eL items.size items.size hi-eL items.size 0 lo)==items.size)=true):=by
  grind
 change wpAny _ _ (if(((eL items.size 0 lo:Nat):Int)==0&&(1:Int)==1&&(eL items.size items.size hi-eL items.size 0 lo)==items.size)=true then _ else _) _ _ s;rw[aA jZ,XN]
 first
  |show wpAny_bind (wpAny_newObj_type (wpAny_pure #[_,rfl,wpAny_pure h]) mF)
  |show wpAny_bind (wpAny_newObj_type (wpAny_bind (wpAny_pure (wpAny_pure #[_,rfl,wpAny_pure h]))) mF)
  |show wpAny_bind (wpAny_bind (wpAny_newObj_type (wpAny_pure (wpAny_pure #[_,rfl,wpAny_pure h])) mF))
  |show wpAny_bind (wpAny_bind (wpAny_newObj_type (wpAny_pure #[_,rfl,wpAny_pure h]) mF))
end
end HT
namespace L2
open PySem PySem.Spec PyProof.Rows
variable{X:Cx}{e:Expr}{pos:Pos}{n t':Nat}{α:Type}{a:Addr}{pi:@&(Addr×Obj)}{U:St}{H H':Hp}{s:Shared}{bo:@&Value}{A:Around}{y x:V}{u:Value}{o:Option V}{w:World}{E:Value->Shared->Prop}{kvs:@&(List Key×V)}{P:Program}
noncomputable abbrev TO:=St->Hp->(Option Int->Hp->Prop)->Prop
abbrev PO(X:Cx)(e:Option Expr)(t:TO):Prop :=
 ∀(pi:@&(Addr×Obj)) (s:Shared) (U:St) (H:Hp) (Q:Option Int->Hp->Prop),Inv X pi U H s->t U H Q ->
  wpAny (model X.prog X.w) X.A (evalPart e X.env) (λu s'=>∃o H',Inv X pi U H' s'/\IsPart u o/\Q o H') X.xe s
def Ww:TO:=λx H Q=>Q none H
def bW0(t:TE):TO:=λU H Q=>t U H λx H1=>∃i,x=.int i/\Q (!i) H1
section
variable{te:TE}{lo hi:Option Expr}{tl th:TO}{p2:Pos}
def Od:PO X none Ww:=by
 intro pi s U H Q I h;show ao #[none,H,I,.none,h]
def Oe(h:PE X e te):PO X (!e) (bW0 te):=by
 intro pi s U H Q I hw;show cN (h pi s U H _ I hw) λu s1 bA=>?_;let#[x,H1,I1,r1,q1]:=bA;let#[i,rfl,q]:=q1;let#[t,rfl]:=r1;show#[!i,H1,I1,.int i t,q]
abbrev yZ(X:Cx)(r:V->Option Int->Option Int->Hp->VK->Prop):Prop :=
 ∀(pi:@&(Addr×Obj)) (s:Shared) (U:St) (H:Hp) (x:V) (v vl vu:Value) (lo hi:Option Int) (sl:Addr) (Q:VK),Inv X pi U H s->RelV x v->s.heap.IsSliceOf sl vl vu .none->IsPart vl lo->IsPart vu hi->r x lo hi H Q ->
  ∃T id,typeLookup (.type T) "__getitem__"=pure (!.builtin id)/\s.TypeIs v T/\wpAny (model X.prog X.w) X.A (getItem v (.ref sl)) (EP X pi U Q) X.xe s
def Rq(r:V->Option Int->Option Int->Hp->VK->Prop)(te:TE)(tl th:TO):TE:=λU H Q=>te U H λx H1=>tl U H1 λl H2=>th U H2 λu H3=>r x l u H3 Q
def OY{r:V->Option Int->Option Int->Hp->VK->Prop}(hr:yZ X r)(he:PE X e te)(hl:PO X lo tl)(hu:PO X hi th):PE X (.Subscript e (.Slice lo hi none p2) pos) (Rq r te tl th):=by
 intro pi s U H Q I h;show Subscript_ (cN (he pi s U H _ I h) λv s1 bA=>?_);let#[x,H1,I1,r1,q1]:=bA;show wpAny_Slice (cN (hl pi s1 U H1 _ I1 q1) ?_);rintro vl s2 ⟨l,H2,I2,pl,q2⟩;show cN (hu pi s2 U H2 _ I2 q2) λvu s3 bA=>?_;let#[u,H3,I3,pu,q3]:=bA;show ao ?_;let I4:Inv X pi U H3 { s3 with heap:=s3.heap.push { cls:=.type "slice",data:=.fields (List.toArray [vl,vu,.none]) } }:=I3.kept (t':=s3.toks) λb ob q=>av _ q;let#[T,id,hT,ht,hg]:=hr pi { s3 with heap:=s3.heap.push { cls:=.type "slice",data:=.fields (List.toArray [vl,vu,.none]) } } U H3 x v vl vu l u s3⁻¹ Q I4 r1 (Heap.IsSliceOf.new ..) pl pu q3;show tail_any ht hT hg (by rfl)
abbrev qx(xs:@&V)(lo hi:Option Int):@&V:=(xs.drop (HT.eL (-xs) 0 lo)).take (HT.eL (-xs) (-xs) hi-HT.eL (-xs) 0 lo)
def MZ(xs:@&V)(lo hi:Option Int):(qx xs lo hi).length<=-xs:=by
 unfold qx;rw[cU,List.length_drop];omega
abbrev b82(K:PySem.W.Frag):V->Option Int->Option Int->Hp->VK->Prop:=λx lo hi H Q=>∃a xs,x=.ref a/\ja K H a xs /\
 ¬(HT.eL (-xs) 0 lo=0/\HT.eL (-xs) (-xs) hi=-xs)/\∀p,H p=none->Q (.ref p) (upd H p (.tup (qx xs lo hi)))
def bI7:yZ X (b82 X.K):=by
 intro pi s U H x v vl vu lo hi sl Q I rx hs pl pu h;let#[a,xs,rfl,hx,hw,q]:=h;cases rx;let#[bo,r,ht,hz]:=I.tuple hx;let hlen:bo.toArray.size=-xs:=by show r.length.symm
 show#["tuple",_,bY.lookup,ht.typeIs,?_];show HT.ap0 ht hs pl pu (by rw[hlen];show hw) ?_ (by rw[hlen];show hz);rw[hlen];show#[.ref s⁻¹,_,I.laid (t':=s.toks) (λb ob q=>av _ q) (aw _) ?_,rfl,q _ (I.bV.fresh (aw _))];show#[aG (MZ xs lo hi) hz,_,(r.drop (HT.eL (-xs) 0 lo)).take (HT.eL (-xs) (-xs) hi-HT.eL (-xs) 0 lo),O5.new _ _]
def ZO(K:PySem.W.Frag):R2:=λx y H Q=>∃a b xs ys,x=.ref a/\y=.ref b/\ja K H a xs/\ja K H b ys/\xs≠[]/\-xs+-ys<=sizeLine /\
 (ys=[]->Q (.ref a) H)/\(ys≠[]->∀p,H p=none->Q (.ref p) (upd H p (.tup (xs++ys))))
def Vals.W5{xs:@&V}{us:@&Value}(r:Vals xs us):us=[]↔xs=[]:=by
 cases r with
 |nil=>simp
 |cons _ _=>simp
def bA9:gk X (binaryOp .Add) (ZO X.K):=by
 intro pi s U H x y v u Q I rx ry h;let#[a,b,xs,ys,rfl,rfl,ha,hb,hx,hz,q1,q2]:=h;cases rx;cases ry;let#[bo,r1,p1,_]:=I.tuple ha;let#[ox,r2,p2,_]:=I.tuple hb;show HT.bE2 p1 p2 (λz=>hx (r1.W5.mp z)) (λz=>#[.ref a,H,I,rfl,q1 (r2.W5.mp z)]) (λz=>?_) (by rw[<- -r1,<- -r2];show hz);show#[.ref s⁻¹,_,I.laid (t':=s.toks) (λb ob q=>av _ q) (aw _) ?_,rfl,q2 (λw=>z (r2.W5.mpr w)) _ (I.bV.fresh (aw _))];show#[by rw[aY];show hz,_,r1.append r2,O5.new _ _]
end
abbrev mD(n:Nat)(i:Int):Option Nat:=if 0<=i then(if i<n then some i.toNat else none) else if -(n:Int)<=i then some (i+n).toNat else none
abbrev jA{α:Type}(xs:List α)(i:Int):Option α:=(mD (-xs) i).bind λj=>xs[j]?
def NT{i:Int}{j:Nat}(h:mD n i=!j):seqIndex? i n=!j/\j<n/\-(n:Int)<=i/\i<n:=by
 unfold mD at h;by_cases h0:0<=i
 .rw[az h0] at h;by_cases h1:i<n
  .rw[az h1] at h;let e:=aO h;show#[by rw[seqIndex_of h0 h1,e],by omega,by omega,h1]
  simp_all
 .rw[aA h0] at h;by_cases h1:-(n:Int)<=i
  .rw[az h1] at h;let e:=aO h;show#[by rw[seqIndex_neg () h1,e],by omega,h1,by omega]
  simp_all
def NJ{xs:List α}{i:Int}{v:α}(h:jA xs i=!v):∃j,seqIndex? i (-xs)=!j/\xs[j]?=!v/\j< -xs/\-(-xs:Int)<=i/\i< -xs:=by
 unfold jA at h;cases e:mD (-xs) i with
 |none=>simp_all
 |some j =>
  rw[e] at h;let#[h1,h2,h3,h4]:=NT e;show#[j,h1,h,h2,h3,h4]
def C7{xs:List α}{j:Nat}{v:α}(h:xs[j]?=!v):jA xs (j:Int)=!v:=by
 let hj:=(ak.mp h).1;let e:mD (-xs) (j:Int)=!j:=by
  unfold mD
  simp_all
 unfold jA;rw[e];show h
def Hq(b:Expr):Prop:=∀o i,subscripted b false o i=operate [o,i] (getItem o i)
abbrev vY(X:Cx)(r:R2):Prop :=
 ∀(value slice:Expr) (pi:@&(Addr×Obj)) (s:Shared) (U:St) (H:Hp) (x y:V) (v u:Value) (Q:VK),Inv X pi U H s->RelV x v->RelV y u->r x y H Q ->
  subscripted slice false v u=operate [v,u] (getItem v u)->wpAny (model X.prog X.w) X.A (subscriptTail value slice v u) (EP X pi U Q) X.xe s
abbrev nQ(X:Cx)(id:String)(r:V->@&V->Hp->VK->Prop):Prop :=
 ∀(pi:@&(Addr×Obj)) (s:Shared) (U:St) (H:Hp) (x:V) (xs:@&V) (v:Value) (us:@&Value) (Q:VK),Inv X pi U H s->RelV x v->Vals xs us->r x xs H Q ->
  wpAny (model X.prog X.w) X.A (call (.builtin id) (v::us)) (EP X pi U Q) X.xe s
section
variable{a b:Expr}{ta tb:TE}
def Ld{r:R2}(hr:vY X r)(ha:PE X a ta)(hb:PE X b tb)(hs:Hq b):PE X (.Subscript a b pos) (uD r ta tb):=by
 intro pi s U H Q I h;show Subscript_ (EN ha hb I h λv u s2 x y H2 I2 rx ry q=>hr a b pi s2 U H2 x y v u Q I2 rx ry q (hs _ _))
def b87(K:PySem.W.Frag):R2:=λx y H Q=>∃p xs i v,x=.ref p/\y=.int i/\gw K H p xs/\jA xs i=!v/\Q v H
def b86(K:PySem.W.Frag):R2:=λx y H Q=>∃p xs i v,x=.ref p/\y=.int i/\ja K H p xs/\jA xs i=!v/\Q v H
def bC3:vY X (b87 X.K):=by
 intro value slice pi s U H x y v u Q I rx ry h hs;let#[p,xs,i,z,rfl,rfl,hq,he,q]:=h;cases rx;let#[t,rfl]:=ry;let#[bo,r,pl,hz]:=I.list hq;let#[j,h1,h2,h3,h4,h5]:=NJ he;let#[w,ew,gI]:=r.get h2;let hl:=-r;let hn:=Aq;let fin:EP X pi U Q w s:=#[z,H,I,gI,q]
 by_cases h0:0<=i
 .let hj:i.toNat=j:=by
   rw[seqIndex_of h0 h5] at h1;show aO h1
  show item_listR pl.isList h0 () (by rw[hj];simpa using ew) fin hs
 .let hj:(i+(bo.toArray.size:Int)).toNat=j:=by
   rw[seqIndex_neg () h4] at h1;rw[aV,<- hl];show aO h1
  show subscriptTail_builtinR pl.isList.typeIs slot_list_getitem.lookup
   (wpAny_getItem_list_neg pl.isList () (by rw[aV]<;>omega) () (by rw[hj];simpa using ew) #[rfl,fin]) hs
def bQ7:vY X (b86 X.K):=by
 intro value slice pi s U H x y v u Q I rx ry h hs;let#[p,xs,i,z,rfl,rfl,hq,he,q]:=h;cases rx;let#[t,rfl]:=ry;let#[bo,r,pl,hz]:=I.tuple hq;let#[j,h1,h2,h3,h4,h5]:=NJ he;let#[w,ew,gI]:=r.get h2;let hl:=-r;let hn:=Aq;let fin:EP X pi U Q w s:=#[z,H,I,gI,q]
 show subscriptTail_builtinR pl.typeIs slot_tuple_getitem.lookup
  (getItem_tuple pl () () (by rw[aV,<- hl];show h1) (_/ew) #[rfl,fin]) hs
def a16(bo:@&Value)(n j:Nat)(u:Value):Obj.mapSeq (·.setIfInBounds j u) { cls:=.type "list",data:=.seq bo.toArray n }={ cls:=.type "list",data:=.seq (bo.set j u).toArray n }:=by
 simp[Obj.mapSeq]
def Inv.lst{pi:@&(Addr×Obj)}{U:St}{H:Hp}{s:Shared}{p:Addr}{xs:@&V}(I:Inv X pi U H s)(h:H p=!.lst xs) :
  ∃(bo:@&Value) (n:Nat),Vals xs bo/\s.heap.get? p=some { cls:=.type "list",data:=.seq bo.toArray n }/\-xs<=sizeLine:=by
 let#[z,bo,n,r,e]:=I.bV p _ h;show#[bo,n,r,e,z]
def Inv.bP5{p:Addr}{xs ys:@&V}{its':@&Value}{n':Nat}{f:Obj->Obj}(I:Inv X pi U H s)(h:H p=!.lst xs)(ho:s.heap.get? p=some { cls:=.type "list",data:=.seq bo.toArray n })(hf:f { cls:=.type "list",data:=.seq bo.toArray n }={ cls:=.type "list",data:=.seq its'.toArray n' })(r:Vals ys its')(hz:-ys<=sizeLine)(t:Nat) :
  Inv X pi U (upd H p (.lst ys)) { s with heap:=s.heap.update p f,toks:=t }:=by
 let e:(s.heap.update p f).get? p=some { cls:=.type "list",data:=.seq its'.toArray n' }:=by
  rw[bh f ho (by rw[hf]<;>rfl),hf]
 show I.write (by rw[h];trivial) (.inl rfl) (λb u hb q=>(bT _ _ (bR hb)).trans q) #[_,e] ?_;show#[hz,its',n',r,e]
abbrev ZR:V->V->V->Hp->(Hp->Prop)->Prop:=λo i v H Q=>∃p xs k j,o=.ref p/\i=.int k/\H p=!.lst xs/\mD (-xs) k=!j/\Q (upd H p (.lst (xs.set j v)))
def set_list:EJ X ZR:=by
 intro pi s U H o i v ov iv u Q I ro ri rv h;let#[p,xs,k,j,rfl,rfl,hp,hj,q]:=h;cases ro;let#[t,rfl]:=ri;let#[bo,n,r,ho,hz]:=I.lst hp;let#[h1,h2,h3,h4]:=NT hj;let hl:=-r;let hn:=Aq;let I':Inv X pi U (upd H p (.lst (xs.set j v))) { s with heap:=s.heap.update p (Obj.mapSeq (·.setIfInBounds j u)) } :=
  I.bP5 hp ho (a16 bo n j u) (r.set rv j) (by rw[ft];show hz) s.toks
 by_cases h0:0<=k
 .let hk:k.toNat=j:=by
   rw[seqIndex_of h0 h4] at h1;show aO h1
  show PySem.W.ki_setAt ho h0 () (by rw[aV,<- hl];show h4) (by rw[hk];show#[_,I',q])
 .let hk:(k+(bo.toArray.size:Int)).toNat=j:=by
   rw[seqIndex_neg () h3] at h1;rw[aV,<- hl];show aO h1
  show PySem.W.ki_setBack ho () (by rw[aV,<- hl];show h3) () (by rw[hk];show#[_,I',q])
def aK4(lo hi:Option Int)(n:Nat):(sliceBounds lo hi none n).1=((HT.eL n 0 lo:Nat):Int)/\(sliceBounds lo hi none n).2.1=((HT.eL n n hi:Nat):Int)/\(sliceBounds lo hi none n).2.2=1:=by
 show#[?_,?_,rfl]
 .cases lo with
  |none=>rfl
  |some i =>
   simp only[sliceBounds,HT.eL,Option.getD_none,show(1:Int)>0 by decide,if_true]
   grind
 .cases hi with
  |none=>rfl
  |some i =>
   simp only[sliceBounds,HT.eL,Option.getD_none,show(1:Int)>0 by decide,if_true]
   grind
def aF8(bo:@&Value)(lo hi:Option Int):slicePick bo.toArray lo hi none=((bo.drop (HT.eL (-bo) 0 lo)).take (HT.eL (-bo) (-bo) hi-HT.eL (-bo) 0 lo)).toArray:=by
 let#[h1,h2,h3]:=aK4 lo hi bo.toArray.size;unfold slicePick;rw[h1,h2,h3];simp only[sliceRange_one,pick_run,List.size_toArray]<;>rfl
abbrev b83(K:PySem.W.Frag):V->Option Int->Option Int->Hp->VK->Prop:=λx lo hi H Q=>∃a xs,x=.ref a/\gw K H a xs/\∀p,H p=none->Q (.ref p) (upd H p (.lst (qx xs lo hi)))
def Wn:yZ X (b83 X.K):=by
 intro pi s U H x v vl vu lo hi sl Q I rx hs pl pu h;let#[a,xs,rfl,hx,q]:=h;cases rx;let#[bo,r,ht,hz]:=I.list hx;let hlen:=-r;show#["list",_,slot_list_getitem.lookup,ht.isList.typeIs,?_];show wpAny_getItem_list_slice ht.isList hs pl pu .none #[_] ?_ (by grind);rw[aF8,<- hlen];show#[.ref s⁻¹,_,I.laid (t':=s.toks) (λb ob q=>av _ q) (aw _) ?_,rfl,q _ (I.bV.fresh (aw _))];show#[aG (MZ xs lo hi) hz,_,0,(r.drop (HT.eL (-xs) 0 lo)).take (HT.eL (-xs) (-xs) hi-HT.eL (-xs) 0 lo),aJ _ rfl]
abbrev R6:V->Bool
 |.aR=>true
 |.bl _=>true
 |.int _=>true
 |.str _=>true
 |_=>false
abbrev lq:V->V->Bool
 |.aR,.aR=>true
 |.bl a,.bl b=>a==b
 |.bl a,.int b=>(if a then 1 else 0)==b
 |.int a,.bl b=>a==(if b then 1 else 0)
 |.int a,.int b=>a==b
 |.str a,.str b=>a==b
 |_,_=>false
def bS4{v:Value}(ry:RelV y u)(rx:RelV x v)(fy:R6 y=true)(fx:R6 x=true):SeqAt.EqAt A s u v (lq y x):=by
 cases y with
 |aR =>
  cases ry;cases x with
  |aR=>cases rx;show SeqAt.EqAt.same _
  |bl b=>cases rx;show SeqAt.EqAt.none_bool b
  |int b=>let#[t,rfl]:=rx;show SeqAt.EqAt.none_int b t
  |str b=>let#[t,rfl]:=rx;show SeqAt.EqAt.none_str b t
  |_=>show absurd (show false=true from fx) Bool.false_ne_true
 |bl a =>
  cases ry;cases x with
  |aR=>cases rx;show SeqAt.EqAt.bool_none a
  |bl b=>cases rx;show SeqAt.EqAt.bool_bool a b
  |int b=>let#[t,rfl]:=rx;show SeqAt.EqAt.bool_int a b t
  |str b=>let#[t,rfl]:=rx;show SeqAt.EqAt.bool_str a b t
  |_=>show absurd (show false=true from fx) Bool.false_ne_true
 |int a =>
  let#[t',rfl]:=ry;cases x with
  |aR=>cases rx;show SeqAt.EqAt.int_none a t'
  |bl b=>cases rx;show SeqAt.EqAt.int_bool a t' b
  |int b=>let#[t,rfl]:=rx;show SeqAt.EqAt.int_int a t' b t
  |str b=>let#[t,rfl]:=rx;show SeqAt.EqAt.int_str a t' b t
  |_=>show absurd (show false=true from fx) Bool.false_ne_true
 |str a =>
  let#[t',rfl]:=ry;cases x with
  |aR=>cases rx;show SeqAt.EqAt.str_none a t'
  |bl b=>cases rx;show SeqAt.EqAt.str_bool a t' b
  |int b=>let#[t,rfl]:=rx;show SeqAt.EqAt.str_int a t' b t
  |str b=>let#[t,rfl]:=rx;show SeqAt.EqAt.str_str a t' b t
  |_=>show absurd (show false=true from fx) Bool.false_ne_true
 |_=>show absurd (show false=true from fy) cg
def vk(x:V)(u:Value):Bool:=match u with
 |.none=>lq .aR x
 |.bool b=>lq (.bl b) x
 |.int i _=>lq (.int i) x
 |.str z _=>lq (.str z) x
 |_=>false
def GV(r:RelV y u)(f:R6 y=true):vk x u=lq y x:=by
 cases y with
 |aR=>cases r;rfl
 |bl b=>cases r;rfl
 |int i=>let#[t,rfl]:=r;rfl
 |str z=>let#[t,rfl]:=r;rfl
 |_=>show absurd (show false=true from f) cg
def Fv{A:Around}{s:Shared}{x:V}{v:Value}(rx:RelV x v)(fx:R6 x=true):∀{xs:@&V} {us:@&Value},Vals xs us->xs.all R6=true->∀u∈us,SeqAt.EqAt A s u v (vk x u)
 |_,_,.nil,_=>λu hu=>by cases hu
 |y::xs,u::us,.cons r t,f=>λu' hu=>by
  rw[iD,aW] at f;rcases aM.mp hu with rfl|hu
  .rw[GV r f.1];show bS4 r rx f.1 fx
  .exact Fv rx fx t f.2 u' hu
def aQ1:u4 X (.builtin "len") (λxs H Q=>∃p ys,xs=[.ref p]/\(gw X.K H p ys\/ja X.K H p ys)/\Q (.int (-ys)) H):=by
 intro pi s U H xs us Q I r h;let#[p,ys,rfl,hq,q]:=h;let#[u,rfl,rx]:=vals1 r;cases rx;let hn:=Aq;rcases hq with hq|hq
 .let#[bo,r',pl,hz]:=I.list hq;let hlen:=-r';show Calls.call_len_list pl.isList (by simp only[List.size_toArray]<;>omega) #[.int (-ys),H,I.tok _,#[s.toks+1,by rw[aV,hlen]],q]
 .let#[bo,r',pl,hz]:=I.tuple hq;let hlen:=-r';show len_tuple pl (by simp only[List.size_toArray]<;>omega) #[.int (-ys),H,I.tok _,#[s.toks+1,by rw[aV,hlen]],q]
def aQ0:u4 X (.type "list") (λxs H Q=>∃p ys,xs=[.ref p]/\(gw X.K H p ys\/ja X.K H p ys)/\∀l,H l=none->Q (.ref l) (upd H l (.lst ys))):=by
 intro pi s U H xs us Q I r h;let#[p,ys,rfl,hq,q]:=h;let#[u,rfl,rx]:=vals1 r;cases rx;let fin:∀(bo:@&Value),Vals ys bo->-ys<=sizeLine->∀(h':Heap) (c':Nat),(∀b o',s.heap.get? b=!o'->h'.get? b=!o') ->
   h'.get? s⁻¹=some { cls:=.type "list",dict:=none,data:=.seq bo.toArray c',slots:=(List.toArray []) }->EP X pi U Q (.ref s⁻¹) { s with heap:=h' }:=λbo r' hz h' c' kp e =>
  #[.ref s⁻¹,_,I.laid (t':=s.toks) kp (aw _) (show m8 X.prog X.w _ h' _ (.lst ys) from#[hz,bo,c',r',e]),rfl,q _ (I.bV.fresh (aw _))]
 rcases hq with hq|hq
 .let#[bo,r',pl,hz]:=I.list hq;let hlen:=-r';let#[o,ho,hc,n,hd]:=pl.isList;show call_list_seq p (.inl rfl) ho hc hd (λh' c' kp e=>fin bo r' hz h' c' kp e) (by simp_all)
 .let#[bo,r',pl,hz]:=I.tuple hq;let hlen:=-r';let#[o,ho,hc,n,hd]:=pl;show call_list_seq p (.inr rfl) ho hc hd (λh' c' kp e=>fin bo r' hz h' c' kp e) (by simp_all)
def aG4:u4 X (.type "tuple") (λxs H Q=>∃p ys,xs=[.ref p]/\((gw X.K H p ys/\∀l,H l=none->Q (.ref l) (upd H l (.tup ys)))\/(ja X.K H p ys/\Q (.ref p) H))):=by
 intro pi s U H xs us Q I r h;let#[p,ys,rfl,h]:=h;let#[u,rfl,rx]:=vals1 r;cases rx;rcases h with⟨hq,q⟩|⟨hq,q⟩
 .let#[bo,r',pl,hz]:=I.list hq;let hlen:=-r';show call_tuple_list pl.isList (λh' kp=>?_) (by simp_all);let I1:=I.kept (t':=s.toks) kp;let I2:Inv X pi U (upd H h'.objs.size (.tup ys)) { s with heap:=h'.push { cls:=.type "tuple",data:=.seq bo.toArray } } :=
   I1.laid (t':=s.toks) (λb o e=>av _ e) (aw _) (show m8 X.prog X.w _ _ _ (.tup ys) from#[hz,bo,r',O5.new _ _])
  show#[.ref h'.objs.size,_,I2,rfl,q _ (I1.bV.fresh (aw _))]
 .let#[bo,r',pl,hz]:=I.tuple hq;show call_tuple_same pl #[.ref p,H,I,rfl,q]
def pY(K:PySem.W.Frag)(T:String)(x:V)(H:Hp):Prop:=match x with
 |.str _=>T="str"
 |.int _=>T="int"
 |.ref p=>(T="list"/\∃xs,gw K H p xs)\/(T="tuple"/\∃o,K.lookup p=!o/\o.cls=.type "tuple"/\o.dict=none) \/
   (T="dict"/\((∃kvs,H p=!.dK kvs)\/∃kvs,H p=!.dT kvs))\/(T="set"/\∃S n,H p=!.set S n)
 |_=>False
def QB{T:String}{v:Value}(I:Inv X pi U H s)(r:RelV x v)(ty:pY X.K T x H) :
  s.TypeIs v T/\∀a,v=.ref a->∃ob,s.heap.get? a=!ob/\ob.dict=none:=by
 cases x with
 |str z =>
  let#[t,rfl]:=r;cases (show T="str" from ty);show#[typeIs_str s z t,λy e=>nomatch e]
 |int i =>
  let#[t,rfl]:=r;cases (show T="int" from ty);show#[nS s i t,λy e=>nomatch e]
 |ref p =>
  cases r;rcases ty with⟨rfl,xs,hq⟩|⟨rfl,o,hk,hc,hd⟩|⟨rfl,hk⟩|⟨rfl,S,n,hk⟩
  .let#[bo,_,pl,_]:=I.list hq;show#[pl.isList.typeIs,λa e=>?_];cases e;let#[o,n,e,c,hd,_]:=pl;show#[o,e,hd]
  .refine#[#[o,I.gT p o hk,hc],λa e=>?_];cases e;show#[o,I.gT _ o hk,hd]
  .let z:∃o,s.heap.get? p=!o/\o.ExactDict:=by
    rcases hk with⟨kvs,hk⟩|⟨kvs,hk⟩
    .let#[_,_,_,_,o,_,_,e,ex,_]:=I.bV p _ hk;show#[o,e,ex]
    .let#[_,_,_,_,o,_,_,e,ex,_]:=I.bV p _ hk;show#[o,e,ex]
   let#[o,e,ex]:=z;show#[#[o,e,ex.1],λa e2=>?_];cases e2;show#[o,e,ex.2.1]
  .let#[o,_,_,_,e,ex,_]:=I.bV p _ hk;show#[#[o,e,ex.1],λa e2=>?_];cases e2;show#[o,e,ex.2.1]
 |_=>show False.elim ty
def b68(K:PySem.W.Frag)(T:String)(r:V->@&V->Hp->VK->Prop)(to:TE):TE:=λU H Q=>to U H λx H1=>pY K T x H1/\r x [] H1 Q
def Rv(K:PySem.W.Frag)(T:String)(r:V->@&V->Hp->VK->Prop)(to:TE)(t:TA):TE:=λU H Q=>to U H λx H1=>pY K T x H1/\t U H1 λxs H2=>r x xs H2 Q
variable{o:Expr}{es:@&Expr}{to:TE}{t:TA}{name:Str}{apos eQ:Pos}{T id:String}{r:V->@&V->Hp->VK->Prop}
def bN4(pa:PlainAttrs T)(slot:Slot T name id)(sP:typeOf (.builtin id)=pure (.type "method_descriptor"))(hm:nQ X id r)(ho:PE X o to)(gQ:attributeBase o name X.env (eval o X.env)=eval o X.env:=by rfl)(gP:(apos.endLine==eQ.line)=true:=by rfl):PE X (.Call (.Attribute o name apos) [] [] eQ) (b68 X.K T r to):=by
 intro pi s U H Q I h;show wpAny_Call_method0_late gQ gP (cN (ho pi s U H _ I h) λv s1 bA=>?_);let#[x,H1,I1,r1,ty,q1]:=bA;let#[h1,h2]:=QB I1 r1 ty;show#[T,id,pa,slot,sP,h1,h2,fZ rfl (PySem.evalArgs_none (hm pi s1 U H1 x [] v [] Q I1 r1 .nil q1))]
def ZH(pa:PlainAttrs T)(slot:Slot T name id)(sP:typeOf (.builtin id)=pure (.type "method_descriptor"))(hm:nQ X id r)(ho:PE X o to)(ha:PA X (e::es) t)(gQ:attributeBase o name X.env (eval o X.env)=eval o X.env:=by rfl)(lW:((backTo eQ (starEach (e :: es) X.env)).all (λx=>~~~x.1) && (backToKw eQ (keywordEach [] X.env)).all (λx=>x.1.isSome)
   && decide ((e :: es).length + ([]:@&Keyword).length + (if ([]:@&Keyword).isEmpty then 0 else 1) < 30))=true:=by rfl)(gP:(apos.endLine==eQ.line)=true:=by rfl)(hs:starEach (e::es) X.env=(false,eval e X.env)::starEach es X.env:=by rfl)(fq:(backTo eQ (starEach es X.env)).any (·.1)=false:=by rfl) :
  PE X (.Call (.Attribute o name apos) (e::es) [] eQ) (Rv X.K T r to t):=by
 intro pi s U H Q I h;show wpAny_Call_method_late gQ lW gP rfl (cN (ho pi s U H _ I h) λv s1 bA=>?_);let#[x,H1,I1,r1,ty,q1]:=bA;let#[h1,h2]:=QB I1 r1 ty;show#[T,id,pa,slot,sP,h1,h2,?_];let hA:=ha eQ pi s1 U H1 _ I1 q1;rw[hs] at hA ⊢;show fZ (by show(false||(backTo eQ (starEach es X.env)).any (·.1))=false;rw[fq]<;>rfl) (hX ?_);show cN hA (by rintro us s2 ⟨vs,H2,I2,r2,q2⟩;show hm pi s2 U H2 x vs v us Q I2 r1 r2 q2)
end
abbrev QI(X:Cx)(id:String)(r:V->@&V->Hp->VK->Prop):Prop :=
 ∀(pi:@&(Addr×Obj)) (s:Shared) (U:St) (H:Hp) (x:V) (xs:@&V) (v:Value) (us:@&Value) (Q:VK),Inv X pi U H s->RelV x v->Vals xs us->r x xs H Q ->
  wpAny (model X.prog X.w) X.A (call (.builtin id) (v::us)) (EP X pi U Q) X.xe s
def Vals.one{us:@&Value}(h:Vals [x] us):∃u,us=[u]/\RelV x u:=by
 cases h with
 |cons r h =>
  cases h;show#[_,rfl,r]
def Vals.zero:∀{us:@&Value},Vals [] us->us=[]
 |_,.nil=>rfl
def Vals.eraseIdx:∀{xs:@&V} {us:@&Value} (i:Nat),Vals xs us->Vals (xs.eraseIdx i) (us.eraseIdx i)
 |_,_,_,.nil=>.nil
 |_,_,0,.cons _ t=>t
 |_,_,i+1,.cons r t=>.cons r (Vals.eraseIdx i t)
def Vals.reverse{xs:@&V}{us:@&Value}(h:Vals xs us):Vals xs.reverse us.reverse:=by
 induction h with
 |nil=>show .nil
 |cons r t ih=>rw[ir,ir];show Vals.append ih (.cons r .nil)
def Vals.rep{xs:@&V}{us:@&Value}(h:Vals xs us):∀k:Nat,Vals (List.replicate k xs).flatten (List.replicate k us).flatten
 |0=>.nil
 |k+1=>by
  show Vals.append h (Vals.rep h k)
def PV{α:Type}:∀(l:List α) (i:Nat),(l.eraseIdx i).length<=-l
 |[],_=>aw _
 |_::_,0=>nD _
 |_::r,i+1=>Nat.succ_le_succ (PV r i)
def foldl_rep(bo:@&Value):∀(k:Nat) (acc:@&Value),
  List.foldl (λx1 x2=>x1++x2) acc.toArray (List.replicate k bo.toArray)=(acc++(List.replicate k bo).flatten).toArray
 |0,acc=>by simp
 |k+1,acc=>by
  let e:acc.toArray++bo.toArray=(acc++bo).toArray:=by simp
  let e2:(acc++bo)++(List.replicate k bo).flatten=acc++(List.replicate (k+1) bo).flatten:=by
   rw[gF,List.flatten_cons,iw]
  rw[<- e2,<- foldl_rep bo k (acc++bo),<- e,gF,nU]
section
variable{l:Addr}{xs ys:@&V}
def Inv.vq{its':@&Value}{f:Array Value->Array Value}{t':Nat}(I:Inv X pi U H s)(hH:H l=!.lst xs)(e:s.heap.get? l=some { cls:=.type "list",data:=.seq bo.toArray n })(hf:f bo.toArray=its'.toArray)(hv:Vals ys its')(hz:-ys<=sizeLine) :
  Inv X pi U (upd H l (.lst ys)) { s with heap:=s.heap.update l (Obj.mapSeq f),toks:=t' }:=by
 let q:=PySem.IsL.update e f;rw[hf] at q;show I.write (by rw[hH];show trivial) (.inl rfl) (λb' u hb hu=>(bT s.heap (Obj.mapSeq f) (bR hb)).trans hu) #[_,q] ?_;show#[hz,its',_,hv,q]
def Inv.Ml{t':Nat}(I:Inv X pi U H s)(hv:Vals ys bo)(hz:-ys<=sizeLine) :
  Inv X pi U (upd H s⁻¹ (.lst ys)) { s with heap:=s.heap.push { cls:=.type "list",data:=.seq bo.toArray },toks:=t' } :=
 I.laid (λx x q=>av _ q) (aw _) #[hz,bo,0,hv,aJ _ rfl]
def Inv.fresh(I:Inv X pi U H s):H s⁻¹=none:=I.bV.fresh (aw _)
def Inv.yR(I:Inv X pi U H s)(hH:H l=!.lst xs):-xs<=sizeLine/\∃(bo:@&Value) (n:Nat),Vals xs bo/\-xs=-bo/\s.heap.get? l=some { cls:=.type "list",data:=.seq bo.toArray n }:=by
 let#[z,bo,n,r,e]:=I.bV l _ hH;show#[z,bo,n,r,(-r),e]
def Xw(h:n<=sizeLine):Builtin.List.listTooLong n=false:=by
 unfold Builtin.List.listTooLong
 simp_all
end
abbrev VU:V->@&V->Hp->VK->Prop:=λx vs H Q=>∃l xs y,x=.ref l/\vs=[y]/\H l=!.lst xs/\-xs<sizeLine/\Q .aR (upd H l (.lst (xs++[y])))
def Zk:QI X "list.append" VU:=by
 intro pi s U H x vs v us Q I rx rv h;let#[l,xs,y,rfl,rfl,hH,hz,q]:=h;cases rx;let#[u,rfl,ru]:=rv.one;let#[z,bo,n,r,hl,e]:=I.yR hH;show eN F.slot_list_append #[_,e,rfl] F.entry_list_append (F.args_list_append_2 _ _) (PySem.list_append l bo.toArray n u (by grind)) #[e,?_];show#[.aR,_,I.vq (its':=bo++[u]) hH e #[_] (r.append (.cons ru .nil)) ?_,rfl,q]
 grind
abbrev bL1:V->@&V->Hp->VK->Prop:=λx vs H Q=>∃l xs i k y,x=.ref l/\vs=[.int i]/\H l=!.lst xs/\-(2 ^ 63)<=i/\i<2 ^ 63/\seqIndex? i (-xs)=!k/\xs[k]?=!y/\Q y (upd H l (.lst (xs.eraseIdx k)))
def Xt:QI X "list.pop" bL1:=by
 intro pi s U H x vs v us Q I rx rv h;let#[l,xs,i,k,y,rfl,rfl,hH,h1,h2,hk,hy,q]:=h;cases rx;let#[u,rfl,ru]:=rv.one;let#[t,rfl]:=ru;let#[z,bo,n,r,hl,e]:=I.yR hH;let#[w,hw,gI]:=r.get hy;show eN F.slot_list_pop #[_,e,rfl] F.entry_list_pop (F.args_list_pop_2 _ _)
  (MeetsSeq.list_pop_at l bo.toArray n i t k w (fitsIndex_both h1 h2) (by rw[aV,<- hl];show hk) (by simp_all) (by rw[aV];omega)) #[e,?_]
 show#[y,_,I.vq (its':=bo.eraseIdx k) hH e ?_ (r.eraseIdx k) ?_,gI,q]
 .simp
 .have:=PV xs k;omega
def b88:R2:=λx y H Q=>∃l b xs zs,x=.ref l/\y=.ref b/\H l=!.lst xs/\H b=!.lst zs/\-xs+-zs<=sizeLine/\∀p,H p=none->Q (.ref p) (upd H p (.lst (xs++zs)))
def bO6:gk X (binaryOp .Add) b88:=by
 intro pi s U H x y v u Q I rx ry h;let#[l,b,xs,zs,rfl,rfl,hH,hB,hz,q]:=h;cases rx;cases ry;let#[z,bo,n,r,hl,e]:=I.yR hH;let#[z2,ox,n2,r2,zO,e2]:=I.yR hB;show PySem.P.add_list e e2 ?_ (by rw[aV,aV];omega);let ea:bo.toArray++ox.toArray=(bo++ox).toArray:=by simp
 rw[ea];show#[.ref _,_,I.Ml (t':=s.toks) (r.append r2) (by rw[aY];omega),rfl,q _ I.fresh]
def b85:R2:=λx y H Q=>∃l k xs,x=.ref l/\y=.int k/\H l=!.lst xs/\-(2 ^ 63)<=k/\k<2 ^ 63/\-xs*k.toNat<=sizeLine /\
 ∀p,H p=none->Q (.ref p) (upd H p (.lst (List.replicate k.toNat xs).flatten))
def len_rep(xs:List α)(k:Nat):(List.replicate k xs).flatten.length=k*-xs:=by
 simp
def bO1:gk X (binaryOp .Mult) b85:=by
 intro pi s U H x y v u Q I rx ry h;let#[l,k,xs,rfl,rfl,hH,h1,h2,hz,q]:=h;cases rx;let#[t,rfl]:=ry;let#[z,bo,n,r,hl,e]:=I.yR hH;let hlen:bo.toArray.size*k.toNat<=sizeLine:=by rw[aV,<- hl];show hz
 let Du:¬bo.toArray.size*k.toNat>(2 ^ 63-1) / 8:=by
  have:(sizeLine:Nat)<=(2 ^ 63-1) / 8:=by decide
  omega
 let Dr:¬(~~~Builtin.List.listFitsIndex k)=true:=by
  rw[fitsIndex_both h1 h2];show cg
 let xn:¬Builtin.List.listTooLong (bo.toArray.size*k.toNat)=true:=by
  rw[Xw hlen];show cg
 let CW:List.foldl (λx1 x2=>x1++x2) (List.toArray []) (List.replicate (if bo.toArray.isEmpty=true then 0 else k.toNat) bo.toArray)=(List.replicate k.toNat bo).flatten.toArray:=by
  let f0:∀m:Nat,List.foldl (λx1 x2=>x1++x2) (List.toArray []) (List.replicate m bo.toArray)=(List.replicate m bo).flatten.toArray:=λm=>by
   have:=foldl_rep bo m []
   simp_all
  rw[f0];cases bo with
  |nil=>simp
  |cons a r'=>rfl
 show Ih ∅ #[_,e,rfl] (λs'=>nS s' k t) noFill_list_mul F.fills_int_mul kH repeat_list F.slot_int_index.lookup
  (eN kH (nS s k t) F.entry_int_rmul (F.args_int_rmul_2 _ _) (int___rmul___int_list k t l bo.toArray n)
   #[e,rfl,#[_,e,rfl],eN F.slot_list_mul #[_,e,rfl] F.entry_list_mul (F.args_list_mul_2 _ _) (AutoListH.list___mul___list_int_3 l bo.toArray n k t Dr Du xn) #[e,?_]])
 rw[CW];show#[.ref _,_,I.Ml (t':=s.toks) (r.rep k.toNat) (by rw[len_rep,lF];show hz),rfl,q _ I.fresh]
section
variable{κ:Type}[DecidableEq κ]
abbrev S7(kvs:@&(κ×V))(k:κ):Option V:=(kvs.find? λkv=>decide (kv.1=k)).map (·.2)
abbrev putK(kvs:@&(κ×V))(k:κ)(v:V):@&(κ×V) :=
 if(kvs.any λkv=>decide (kv.1=k))=true then kvs.map (λkv=>if kv.1=k then(kv.1,v) else kv) else kvs++[(k,v)]
abbrev Bn(kvs:@&(κ×V))(k:κ):@&(κ×V):=kvs.filter λkv=>decide (kv.1≠k)
def FJ{p:κ×V}{r:@&(κ×V)}{k:κ}(e:p.1=k):S7 (p::r) k=!p.2:=by simp[S7,List.find?_cons,e]
def FI{p:κ×V}{r:@&(κ×V)}{k:κ}(e:¬p.1=k):S7 (p::r) k=S7 r k:=by simp[S7,List.find?_cons,e]
def Pm(k:κ):∀kvs:@&(κ×V),(kvs.any λkv=>decide (kv.1=k))=(S7 kvs k).isSome
 |[]=>rfl
 |p::r=>by
  rw[fo];by_cases e:p.1=k
  .simp only[FJ e,decide_eq_true e,Bool.true_or,Option.isSome_some]
  .rw[FI e,aD e,kI];show Pm k r
def Gy(kvs:@&(κ×V))(k:κ)(v:V):(putK kvs k v).length<=-kvs+1:=by
 unfold putK;split
 .simp
 simp
def F3.U9{u:Option Value}(r:F3 o u):o.isSome=u.isSome:=by
 cases o with
 |none=>cases u with
  |none=>rfl
  |some _=>show(show False from r).elim
 |some _=>cases u with
  |none=>show(show False from r).elim
  |some _=>rfl
def F3.getD{o:Option V}{u:Option Value}{d:V}{d':Value}(r:F3 o u)(rd:RelV d d'):RelV (o.getD d) (u.getD d'):=by
 cases o with
 |none=>cases u with
  |none=>show rd
  |some _=>show(show False from r).elim
 |some _=>cases u with
  |none=>show(show False from r).elim
  |some _=>show r
def KV.val{kvs:@&(κ×V)}{vs:@&(κ×Value)}(r:KV kvs vs)(k:κ):F3 (S7 kvs k) (valueAt vs k):=by
 induction r with
 |nil=>show True.intro
 |@cons p q ps qs h t ih =>
  let#[h1,h2]:=h;by_cases e:p.1=k
  .let e':=h1.symm.trans e;let b:valueAt (q::qs) k=!q.2:=by simp[valueAt,List.find?_cons,e']
   rw[FJ e,b];show h2
  .let e':¬q.1=k:=λz=>e (h1.trans z);let b:valueAt (q::qs) k=valueAt qs k:=by simp[valueAt,List.find?_cons,e']
   rw[FI e,b];show ih
def KV.any{kvs:@&(κ×V)}{vs:@&(κ×Value)}(r:KV kvs vs)(k:κ):(kvs.any λkv=>decide (kv.1=k))=vs.any λkv=>decide (kv.1=k):=by
 induction r with
 |nil=>rfl
 |cons h t ih=>simp_all
def KV.EV{kvs:@&(κ×V)}{vs:@&(κ×Value)}(r:KV kvs vs)(k:κ)(ry:RelV y u) :
  KV (kvs.map λkv=>if kv.1=k then(kv.1,y) else kv) (vs.map λkv=>if kv.1=k then(kv.1,u) else kv):=by
 induction r with
 |nil=>show .nil
 |@cons p q ps qs h t ih =>
  rw[cA,cA];show .cons ?_ ih;let#[h1,h2]:=h;by_cases e:p.1=k
  .rw[az e,az (h1.symm.trans e)];show#[h1,ry]
  .rw[aA e,aA (λz=>e (h1.trans z))];show#[h1,h2]
def KV.put{kvs:@&(κ×V)}{vs:@&(κ×Value)}(r:KV kvs vs)(k:κ)(ry:RelV y u):KV (putK kvs k y) (stored vs k u):=by
 unfold putK stored;rw[r.any k];by_cases e:(vs.any λkv=>decide (kv.1=k))=true
 .rw[az e,az e];show r.EV k ry
 .rw[aA e,aA e];show Paired.snoc r #[rfl,ry]
def KV.drop{kvs:@&(κ×V)}{vs:@&(κ×Value)}(r:KV kvs vs)(k:κ):KV (Bn kvs k) (without vs k):=by
 unfold Bn without
 induction r with
 |nil=>show .nil
 |@cons p q ps qs h t ih =>
  let#[h1,h2]:=h;rw[dW,dW];by_cases e:p.1=k
  .let a:¬decide (p.1≠k)=true:=by simp[e]
   let b:¬decide (q.1≠k)=true:=by simp[h1.symm.trans e]
   rw[aA a,aA b];show ih
  .let e':¬q.1=k:=λz=>e (h1.trans z);let a:decide (p.1≠k)=true:=by simp[e]
   let b:decide (q.1≠k)=true:=by simp[e']
   rw[az a,az b];show .cons #[h1,h2] ih
def KV.keys{kvs:@&(κ×V)}{vs:@&(κ×Value)}(r:KV kvs vs):kvs.map (·.1)=vs.map (·.1):=by
 induction r with
 |nil=>rfl
 |cons h t ih=>simp_all
def KV.length{kvs:@&(κ×V)}{vs:@&(κ×Value)}(r:KV kvs vs):-kvs=-vs:=nC r
end
def vG{k:Key}(r:RelV (kV k) u):(y4 P w).is k u=true:=by
 cases k with
 |inl i=>let#[t,e]:=(show ∃t,u=Value.int i t from r);subst e;show aS1 P w i t
 |inr x=>let#[t,e]:=(show ∃t,u=Value.str x t from r);subst e;show aS0 P w x t
def PQ{P:Program}{w:World}:∀{ks:@&Key} {us:@&Value},Vals (ks.map kV) us->ItemsAre (y4 P w) ks us
 |[],_,r=>by cases r;show .nil
 |k::ks,_,r=>by
  cases r with
  |cons h t=>show .cons (vG h) (PQ t)
noncomputable abbrev KT(H:Hp):@&(List Key×V)->@&(List Key×Addr×Value)->Prop:=Paired λp q=>p.1=q.1/\H q.2.1=!.tup (p.1.map kV)/\RelV p.2 q.2.2
def KT.val{xs:@&(List Key×Addr×Value)}(r:KT H kvs xs)(k:@&Key):F3 (S7 kvs k) ((atKey xs k).map (·.2)):=by
 induction r with
 |nil=>show True.intro
 |@cons p q ps qs h t ih =>
  let#[h1,_,h2]:=h;by_cases e:p.1=k
  .let e':=h1.symm.trans e;let b:atKey (q::qs) k=!q.2:=by simp[atKey,List.find?_cons,e']
   rw[FJ e,b];show h2
  .let e':¬q.1=k:=λz=>e (h1.trans z);let b:atKey (q::qs) k=atKey qs k:=by simp[atKey,List.find?_cons,e']
   rw[FI e,b];show ih
def KT.EV{xs:@&(List Key×Addr×Value)}(r:KT H kvs xs)(k:@&Key)(ry:RelV y u) :
  KT H (kvs.map λkv=>if kv.1=k then(kv.1,y) else kv) (xs.map (putAt k u)):=by
 induction r with
 |nil=>show .nil
 |@cons p q ps qs h t ih =>
  rw[cA,cA];show .cons ?_ ih;let#[h1,h2,h3]:=h;unfold putAt;by_cases e:p.1=k
  .rw[az e,az (h1.symm.trans e)];show#[h1,h2,ry]
  .rw[aA e,aA (λz=>e (h1.trans z))];show#[h1,h2,h3]
def KT.put{xs:@&(List Key×Addr×Value)}(r:KT H kvs xs)(k:@&Key){b:Addr}(hb:H b=!.tup (k.map kV))(ry:RelV y u) :
  KT H (putK kvs k y) (storedH xs k b u):=by
 let e:(kvs.any λkv=>decide (kv.1=k))=(atKey xs k).isSome:=by
  rw[Pm,(r.val k).U9,lE]
 unfold putK storedH;rw[e];by_cases q:(atKey xs k).isSome=true
 .rw[az q,az q];show r.EV k ry
 .rw[aA q,aA q];show Paired.snoc r #[rfl,hb,ry]
def KT.keeps{xs:@&(List Key×Addr×Value)}(r:KT H kvs xs)(ht:∀b ys,H b=!.tup ys->H' b=!.tup ys):KT H' kvs xs :=
 Paired.Mm r λx x z=>#[z.1,ht _ _ z.2.1,z.2.2]
section
variable{h:Heap}
def Lh{u:HO}(ok:gR P w H h)(e:Rd H a u):m8 P w H h a u:=e.ok ok
def yf{kvs:@&(Key×V)}(ok:gR P w H h)(e:Rd H a (.dK kvs)):-kvs<=sizeLine/\(a==sysModules)=false/\∃vs,KV kvs vs/\h.DictOf (y4 P w) a vs :=
 show m8 P w H h a (.dK kvs) from Lh ok e
def HN{kvs:@&(Key×V)}(ok:gR P w H h)(e:H a=!.dK kvs):-kvs<=sizeLine/\(a==sysModules)=false/\∃vs,KV kvs vs/\h.DictOf (y4 P w) a vs:=yf ok (.inl e)
def yv{ks:@&Key}(ok:gR P w H h)(e:H a=!.tup (ks.map kV)):(tupleKind (y4 P w)).is h ks a:=by
 let#[_,bo,r,o,h1,h2,#[n,h3],_]:=(show m8 P w H h a (.tup (ks.map kV)) from ok a _ e)
 show#[o,bo.toArray,n,h1,h2,h3,by simpa using PQ r]
def yg(ok:gR P w H h)(e:Rd H a (.dT kvs)):-kvs<=sizeLine/\(a==sysModules)=false /\
  ∃xs,KT H kvs xs/\h.DictOfH (tupleKind (y4 P w)) a xs:=by
 let#[z,y,xs,r,o,es,ep,h1,h2,h3,h4,h5]:=(show m8 P w H h a (.dT kvs) from Lh ok e)
 show#[z,y,xs,r,o,es,ep,h1,h2,h3,h4,λx hx=>?_,h5];let all:∀{l:@&(List Key×V)} {m:@&(List Key×Addr×Value)},KT H l m->∀x∈m,(tupleKind (y4 P w)).is h x.1 x.2.1:=by
  intro l m q
  induction q with
  |nil=>simp
  |@cons p q ps qs hq t ih =>
   intro x hx;rcases aM.mp hx with e|hx
   .exact yv ok (by simp_all)
   .exact ih x hx
 show all r x hx
def b22(ok:gR P w H h)(e:H a=!.dT kvs):-kvs<=sizeLine/\(a==sysModules)=false /\
  ∃xs,KT H kvs xs/\h.DictOfH (tupleKind (y4 P w)) a xs:=yg ok (.inl e)
end
abbrev pL(H:Hp)(a:Addr)(y:V)(r:Option V):Prop :=
 (∃kvs k,Rd H a (.dK kvs)/\y=kV k/\r=S7 kvs k)\/∃kvs k b,Rd H a (.dT kvs)/\y=.ref b/\H b=!.tup (k.map kV)/\r=S7 kvs k
abbrev BA(H:Hp)(a:Addr)(y v:V)(H':Hp):Prop :=
 (∃kvs k,H a=!.dK kvs/\y=kV k/\-kvs<sizeLine/\H'=upd H a (.dK (putK kvs k v))) \/
 ∃kvs k b,H a=!.dT kvs/\y=.ref b/\H b=!.tup (k.map kV)/\-kvs<sizeLine/\H'=upd H a (.dT (putK kvs k v))
def pL.k{H:Hp}{a:Addr}{kvs:@&(Key×V)}{k:Key}(e:H a=!.dK kvs):pL H a (kV k) (S7 kvs k):=.inl #[kvs,k,.inl e,rfl,rfl]
def BA.k{H:Hp}{a:Addr}{kvs:@&(Key×V)}{k:Key}{v:V}(e:H a=!.dK kvs)(hl:-kvs<sizeLine):BA H a (kV k) v (upd H a (.dK (putK kvs k v))):=.inl #[kvs,k,e,rfl,hl,rfl]
section
variable{v:V}{r:Value}
def Inv.big(I:Inv X pi U H s):sysModules<s⁻¹:=by
 let h:=(I.mod.glob.keeps I.bk).lt;show dH ∅ h
def YQ{Q:Value->Shared->Prop}(hu:A.units+1<cLine)(I:Inv X pi U H s)(g:pL H a y (!v))(ry:RelV y u)(h:∀w' s',Inv X pi U H s'->RelV v w'->Q w' s') :
  wpAny (model X.prog X.w) A (getItem (.ref a) u) Q E s:=by
 rcases g with⟨kvs,k,e,ey,l⟩|⟨kvs,k,b,e,ey,eb,l⟩
 .subst ey;let#[z,hd,vs,rel,dd]:=yf I.bV e;let#[w',hw,gI]:=F3.some_of (by rw[l];show rel.val k);show wpAny_getItem_of (vG ry) dd.mapOf hw (h w' _ (I.tok _) gI)
 .subst ey;cases (show u=Value.ref b from ry);let#[z,hd,xs,rel,dd]:=yg I.bV e;let#[w',hw,gI]:=F3.some_of (by rw[l];show rel.val k);let#[p,hp,qh]:=ae.mp hw;show wpAny_getItem_heap (iN hu) (yv I.bV eb) dd hp ?_;rw[qh];show h w' _ (I.tok _) gI
def Vp{Q:Value->Shared->Prop}(hu:A.units+1<cLine)(I:Inv X pi U H s)(g:pL H a y o)(ry:RelV y u)(h:∀s',Inv X pi U H s'->Q (.bool o.isSome) s') :
  wpAny (model X.prog X.w) A (compareOp .In u (.ref a)) Q E s:=by
 rcases g with⟨kvs,k,e,ey,l⟩|⟨kvs,k,b,e,ey,eb,l⟩
 .subst ey;let#[z,hd,vs,rel,dd]:=yf I.bV e;show wpAny_in_of (vG ry) hd dd.mapOf ?_;rw[<- (rel.val k).U9,<- l];show h _ (I.tok _)
 .subst ey;cases (show u=Value.ref b from ry);let#[z,hd,xs,rel,dd]:=yg I.bV e;show wpAny_in_heap (iN hu) (yv I.bV eb) hd dd ?_;let q:=(rel.val k).U9;rw[lE] at q;rw[<- q,<- l];show h _ (I.tok _)
def bD9{Q:Value->Shared->Prop}(hu:A.units+1<cLine)(I:Inv X pi U H s)(g:pL H a y o)(ry:RelV y u)(h:∀s',Inv X pi U H s'->Q (.bool (~~~o.isSome)) s') :
  wpAny (model X.prog X.w) A (compareOp .NotIn u (.ref a)) Q E s:=by
 rcases g with⟨kvs,k,e,ey,l⟩|⟨kvs,k,b,e,ey,eb,l⟩
 .subst ey;let#[z,hd,vs,rel,dd]:=yf I.bV e;show wpAny_notIn_of (vG ry) hd dd.mapOf ?_;rw[<- (rel.val k).U9,<- l];show h _ (I.tok _)
 .subst ey;cases (show u=Value.ref b from ry);let#[z,hd,xs,rel,dd]:=yg I.bV e;show wpAny_notIn_heap (iN hu) (yv I.bV eb) hd dd ?_;let q:=(rel.val k).U9;rw[lE] at q;rw[<- q,<- l];show h _ (I.tok _)
def Hy{h':Heap}{t':Nat}{ob:HO}(I:Inv X pi U H s)(mu:zf (H a))(hs:Heap.SameBut a s.heap h')(he:∃q,h'.get? a=!q)(new:m8 X.prog X.w (upd H a ob) h' a ob) :
  Inv X pi U (upd H a ob) { s with heap:=h',toks:=t' } :=
 I.write mu (.inl rfl) (λb q hb z=>(hs.2 b hb).trans z) he new
def LB{h':Heap}{kvs:@&(Key×V)}{vs:@&(Key×Value)}(z:-kvs<=sizeLine)(hd:(a==sysModules)=false)(rel:KV kvs vs)(dd:h'.DictOf (y4 P w) a vs) :
  m8 P w H' h' a (.dK kvs):=#[z,hd,vs,rel,dd]
def YR{Q:Unit->Shared->Prop}(hu:A.units+1<cLine)(I:Inv X pi U H s)(g:BA H a y v H')(ry:RelV y u)(rv:RelV v r)(h:∀s',Inv X pi U H' s'->Q Unit.unit s') :
  wpAny (model X.prog X.w) A (setItem (.ref a) u r) Q E s:=by
 rcases g with⟨kvs,k,e,ey,l,eH⟩|⟨kvs,k,b,e,ey,eb,l,eH⟩
 .subst ey eH;let#[z,hd,vs,rel,dd]:=HN I.bV e;let hz:-vs<=sizeLine:=by rw[<- -rel];show z
  let hl:(putK kvs k v).length<=sizeLine:=by have:=Gy kvs k v;omega
  show wpAny_setItem_pairs (vG ry) dd λh' tX hs=>h _ ?_;let he:∃q,h'.get? a=!q:=let ⟨q,_,_,hq,_⟩:=tX;#[q,hq]
  show Hy I (by rw[e];show True.intro) hs he (LB hl hd (rel.put k rv) tX)
 .subst ey eH;cases (show u=Value.ref b from ry);let#[z,hd,xs,rel,dd]:=b22 I.bV e;let hz:-xs<=sizeLine:=by rw[<- nC rel];show z
  let hl:(putK kvs k v).length<=sizeLine:=by have:=Gy kvs k v;omega
  show wpAny_setItem_heap (iN hu) (yv I.bV eb) dd λh' tX hs=>h _ ?_;let#[q,es,ep,hq,h2,h3,h4,_,h5]:=tX;show Hy I (by rw[e];show True.intro) hs #[q,hq] #[hl,hd,_,(rel.put k eb rv).keeps λc ys ec=>?_,q,es,ep,hq,h2,h3,h4,h5];rw[d4 (Zv ec e (λz=>nomatch z))];show ec
end
def aT1(I:Inv X pi U H s)(g:pL H a y o):s.TypeIs (.ref a) "dict":=by
 rcases g with⟨kvs,k,e,_,_⟩|⟨kvs,k,b,e,_,_,_⟩
 .let#[_,_,vs,_,dd]:=yf I.bV e;show dd.typeIs
 .let#[_,_,xs,_,dd]:=yg I.bV e;show dd.typeIs
def OL(h:Heap)(hb:sysModules<h.objs.size):m8 P w H (h.push { cls:=.type "dict",data:=.dict (List.toArray []) }) h.objs.size (.dK []) :=
 #[cw _,fc.mpr (bR (aT hb)),[],.nil,Heap.DictOf.new h]
def bH4:TE:=λx H Q=>∀p,H p=none->Q (.ref p) (upd H p (.dK []))
def XC:PE X (.Dict [] [] pos) bH4:=λpi s U H Q I h =>
 wpAny_Dict_empty #[.ref s⁻¹,_,I.laid (t':=s.toks) (λx x q=>av _ q) (aw _) (OL s.heap I.big),rfl,h _ (I.bV.fresh (aw _))]
abbrev Ax:@&(TE×TE)->St->Hp->(List (V×V)->Hp->Prop)->Prop
 |[],_,H,Q=>Q [] H
 |(tk,tv)::r,U,H,Q=>tk U H λx H1=>tv U H1 λy H2=>Ax r U H2 λps H3=>Q ((x,y)::ps) H3
noncomputable abbrev VV:@&(V×V)->@&(Value×Value)->Prop:=Paired λp q=>RelV p.1 q.1/\RelV p.2 q.2
abbrev zd(X:Cx)(pos:Pos)(keys:@&(Option Expr))(values:@&Expr)(jd:@&(TE×TE)):Prop :=
 ∀(pi:@&(Addr×Obj)) (s:Shared) (U:St) (H:Hp) (Q:@&(V×V)->Hp->Prop),Inv X pi U H s->Ax jd U H Q ->
  wpAny (model X.prog X.w) X.A (evalPairs (pairTrees keys values X.env pos)) (λvs s'=>∃ps H',Inv X pi U H' s'/\VV ps vs/\Q ps H') X.xe s
def VJ:zd X pos [] [] []:=λpi s U H Q I h=>pairTrees_nil_walk #[[],H,I,.nil,h]
def XQ{k v:Expr}{ks:@&(Option Expr)}{vs:@&Expr}{tk tv:TE}{jd:@&(TE×TE)}(hk:PE X k tk)(hv:PE X v tv)(hr:zd X pos ks vs jd) :
  zd X pos (some k::ks) (v::vs) ((tk,tv)::jd):=λpi s U H Q I h =>
 pairTrees_cons_walk (cN (hk pi s U H _ I h) λu s1 ⟨x,H1,I1,rx,q1⟩=>cN (hv pi s1 U H1 _ I1 q1) λw2 s2 ⟨y,H2,I2,ry,q2⟩ =>
  cN (hr pi s2 U H2 _ I2 q2) (by rintro ws s3 ⟨ps,H3,I3,rel,q3⟩;show #[(x,y) :: ps,H3,I3,.cons #[rx,ry] rel,q3]))
abbrev X9(kvs more:@&(Key×V)):@&(Key×V):=more.foldl (λacc kv=>putK acc kv.1 kv.2) kvs
def KV.merge:∀{more:@&(Key×V)} {rs:@&(Key×Value)} {kvs:@&(Key×V)} {vs:@&(Key×Value)},KV more rs->KV kvs vs->KV (X9 kvs more) (merged vs rs):=by
 intro more rs kvs vs r
 induction r generalizing kvs vs with
 |nil=>intro q;show q
 |@cons p q ps qs h t ih =>
  intro r0;let e:KV (putK kvs p.1 p.2) (stored vs q.1 q.2):=by
   have:=r0.put p.1 h.2;rw[<- h.1];show this
  show ih e
def Nz:∀(more kvs:@&(Key×V)),(X9 kvs more).length<=-kvs+-more
 |[],kvs=>by change (-kvs)<=-kvs+0;omega
 |p::r,kvs=>by
  let h1:=Nz r (putK kvs p.1 p.2);let h2:=Gy kvs p.1 p.2;show(X9 (putK kvs p.1 p.2) r).length<=_
  grind
def MA{P:Program}{w:World}:∀{kvs:@&(Key×V)} {ws:@&(Value×Value)},VV (kvs.map λkv=>(kV kv.1,kv.2)) ws->∃rs,Carries (y4 P w) ws rs/\KV kvs rs
 |[],_,r=>by cases r;show#[[],True.intro,.nil]
 |p::kvs,_,r=>by
  cases r with
  |@cons a b as bs h t =>
   let#[rs,c,q]:=MA (P:=P) (w:=w) t;let#[b1,b2]:=b;show#[(p.1,b2)::rs,#[vG h.1,rfl,c],.cons #[rfl,h.2] q]
def bW3(jd:@&(TE×TE)):TE:=λU H Q=>∀p,H p=none->Ax jd U (upd H p (.dK [])) λps H2=>H2 p=!.dK []/\∃kvs:@&(Key×V),ps=kvs.map (λkv=>(kV kv.1,kv.2))/\-kvs<=15/\Q (.ref p) (upd H2 p (.dK (X9 [] kvs)))
def VE{keys:@&(Option Expr)}{values:@&Expr}{jd:@&(TE×TE)}(h:zd X pos keys values jd)(ni:keys.all (·.isSome)=true)(hl:-keys=-values)(h0:keys≠[])(rF:-keys<=15):PE X (.Dict keys values pos) (bW3 jd):=by
 intro pi s U H Q I q;let hn:=I.bV.fresh (aw s⁻¹);let I1:=I.laid (h':=s.heap.push { cls:=.type "dict",data:=.dict (List.toArray []) }) (t':=s.toks) (λx x q=>av _ q) (aw _) (OL s.heap I.big);show wpAny_Dict_walk (knd:=y4 X.prog X.w) ni hl h0 rF (cN (h pi _ U _ _ I1 (q _ hn)) λws s2 bA=>?_);let#[ps,H2,I2,rel,e,kvs,ep,lk,q2]:=bA;subst ep;let#[rs,c,rk]:=MA rel;let#[z,hd,vs0,r0,dd]:=HN I2.bV e;cases r0;show#[rs,c,dd,λh' tX hs=>#[.ref s⁻¹,_,?_,rfl,q2]];let hz:(X9 [] kvs).length<=sizeLine:=by
  let h1:=Nz kvs [];rw[List.length_nil] at h1;rw[uv];omega
 let he:∃q,h'.get? s⁻¹=!q:=let ⟨q,_,_,hq,_⟩:=tX;#[q,hq]
 show Hy I2 (by rw[e];show True.intro) hs he (LB hz hd (rk.merge .nil) tX)
end L2
namespace QR
open PySem PySem.W PySem.Calls PyProof.Rows
def ax0{P:Params}{h:Heap}:∀(ns:@&Int) (vs:@&Value),WellAll P h vs (ns.map WData.int)->IntsAre vs ns:=by
 intro ns
 induction ns with
 |nil =>
  intro vs w;cases w;show .nil
 |cons n ns ih =>
  intro vs w;cases w with
  |cons a b =>
   cases a;show .cons _ _ (ih _ b)
def a75{l:OpenLaw}{n:Nat}(hn:l.most=!n){P:Params}{h:Heap}{args:@&WData}{vals:@&Value}(qg:l.row.toRowW.claim.pre args=true)(CH:WellAll P h vals args) :
  ∃a vs ns,vals=[Value.ref a]/\args=[WData.list (ns.map WData.int)]/\h.get? a=some { cls:=.type "list",data:=.seq vs.toArray }/\IntsAre vs ns/\-ns<=n:=by
 let SA:WShape.hasAll [] args [.list .int]=true:=(pre_splitW qg).1;let hc:l.pre.holds [] { args:=args }=true:=(pre_splitW qg).2;let#[d,r,rfl,h1,h2]:=hasAllW_cons SA;obtain rfl:=hasAllW_nil h2;let#[xs,rfl,h3]:=hasW_list h1;let#[ns,rfl]:=items_int h3;let hlen:-ns<=n:=by
  let h4:(WTm.not (.lt (.lit (.int (n:Int))) (.len (.arg 0)))).holds [] { args:=[.list (ns.map .int)] }=true:=by
   let h4:=(holds_andW hc).1;rw[hn] at h4;show h4
  let h5:=condW_of h4 (w_not (w_lt w_lit (w_len_list (w_arg rfl))))
  simp_all
 cases CH with
 |cons w1 w2 =>
  cases w2;cases w1 with
  |list ho ni=>show#[_,_,ns,rfl,rfl,ho,ax0 ns _ ni,hlen]
def a85(l:OpenLaw)(args:@&WData):l.row.toRowW.claim.post args (.bool true) args=true :=
 postW_of
  (show WShape.has [] (.bool true) .bool=true by rfl)
  (show(WTm.eq .res (.lit (.bool true))).value [] { args:=args,res:=!.bool true,after:=args }=some (.bool (true==true)) from w_eq_bool (w_res rfl) w_lit) rfl
def aT4{l:OpenLaw}{n:Nat}{q:Program}{loose:@&Str}{XP:(Str->Option Value)->Heap->Prop}{YP:World->Heap->Prop}{d:DefRec}(hn:l.most=!n)(xA:d.params.defaults=[])(call:∀ (w:World) (dJ bU:Shared) (mg mb:Str->Option Value) (fa:Addr) (o:Obj) (pm cd doc:Value) (a:Addr) (vs:@&Value) (ns:@&Int),
   Ground q loose [] XP w dJ mg mb bU.heap->YP w bU.heap ->
   bU.heap.get? fa=!o->o.data=.func (docDef d.name d.params d.body d.scope pm cd doc)->bU.heap.CodeRec cd d.name->mg d.name=!.ref fa ->
   bU.heap.get? a=some { cls:=.type "list",data:=.seq vs.toArray }->IntsAre vs ns->-ns<=n->bU.gens=(List.toArray []) ->
   codeAny (model l.prog w) callerA (.call (.ref fa) #[[.ref a],[]]) (λr s'=>r=.ok (.ret (.bool true))/\OldK bU.heap s'.heap/\s'.os=bU.os/\AllBare s'.gens) bU) :
  WalkO q loose XP YP l.row.toRowW d [] (λf vs=>PySem.call f vs):=by
 intro w dJ bU mg mb G Y fa o pm cd doc dV kV ho hd nh hD hmg hg args vals as qg SR hrd CH rm;obtain rfl:dV=.none:=Dflts.none hD xA;obtain rfl:kV=.none:=Dflts.noKw hD;let#[a,vs,ns,rfl,rfl,lS,hints,hlen]:=a75 hn qg CH;show enter_call (fX (call w dJ bU mg mb fa o pm cd doc a vs ns G Y ho (fd_plain hd) nh hmg lS hints hlen hg) λr s' hq=>?_);let#[rfl,h2,h3,h4]:=hq;show#[.inl #[.bool true,.bool true,[],rfl,λx=>rfl,.bool true,a85 l _,λx=>#[List.Pairwise.nil,λx hm=>(nomatch hm)]],h2,h3,h4]
end QR
namespace L2
open PySem PySem.Spec PyProof.Rows
variable{w:World}{x qual:Str}{X:Cx}{A:Around}{s:Shared}{elt iter tg:Expr}{ifs:@&Expr}{scope:Scope}{pos:Pos}{cl:@&(Str×Addr)}{C:Addr}{N':@&Str}{c7:@&Nat}{fp:@&Addr}{g:TG}{tc:TT}{te:TE}
def Qn:∀{vs:@&Value} {ns:@&Int},IntsAre vs ns->Vals (ns.map V.int) vs
 |_,_,.nil=>.nil
 |_,_,.cons n t h=>.cons #[t,rfl] (Qn h)
def BB(H:Hp):Prop:=∀b,H b=none\/∃o xs,H b=!.kC o (.lst xs)
def Xj{P:Program}{K:PySem.W.Frag}{mg mb:Str->Option Value}{CX:pb}{k:Nat}{fa a:Addr}{fd:FuncData}{sp:Sp}{bU:Shared}{vs:@&Value}{ns:@&Int}(KX:K.In bU.heap)(rj:bU.heap.Ns mainGlobals mg)(hb:bU.heap.Ns builtinsNs mb)(Dw:∀x:Str,x≠"__name__"->mb x=bootBuiltins x)(Dg:bU.heap.NoLimit)(hg:bU.gens=(List.toArray []))(ha:bU.heap.get? a=some { cls:=.type "list",data:=.seq vs.toArray })(hi:IntsAre vs ns)(hl:-ns<=sizeLine)(hr:x8 k callerA)(F:∀base:Heap,K.In base->base.Ns mainGlobals mg->iq P w K mg base CX k fa fd [x] sp)(xF:∀(s:Shared) (u:Value),BindsTo s fd #[[u],[]] [(x,u)])(uP:∀H:Hp,BB H->gw K H a (ns.map V.int)->sp [.ref a] H (λv y=>v=.bl true) λy y y=>False)(DM:∀H e s',CX [] H bU (λy y y=>False) e s'->False) :
  codeAny (model P w) callerA (.call (.ref fa) #[[.ref a],[]]) (λr s'=>r=.ok (.ret (.bool true))/\OldK bU.heap s'.heap/\s'.os=bU.os/\AllBare s'.gens) bU:=by
 let rv:=Qn hi;let Sf:=-hi;let core:∀H:Hp,BB H->gw K H a (ns.map V.int)->gR P w H bU.heap->(∀b,H b≠none->b=a)->(H a≠none->K.lookup a=none) ->
   codeAny (model P w) callerA (.call (.ref fa) #[[.ref a],[]]) (λr s'=>r=.ok (.ret (.bool true))/\OldK bU.heap s'.heap/\s'.os=bU.os/\AllBare s'.gens) bU:=by
  intro H hO hS bV hA hK;let P4:∀{b:Addr} {o:Obj},bU.heap.get? b=!o->H b=none->(qD bU.heap H).get? b=!o:=λe n=>Xc e n;let wI:∀{b:Addr} {o:Obj} {es:Array DictEntry} {ep:Nat},bU.heap.get? b=!o->o.data=.dict es ep->H b=none:=λ{b o es ep} e d=>by
   grind
  let zB:∀{b:Addr} {m:Str->Option Value},bU.heap.Ns b m->(qD bU.heap H).Ns b m:=λ{b m} ⟨o,es,ep,e,d,r⟩=>#[o,es,ep,P4 e (wI e d),d,r]
  let JU:K.In (qD bU.heap H):=λb o e=>P4 (KX b o e) (by
   grind)
  let hM:Mod K mg (qD bU.heap H):=#[JU,zB rj,#[mb,zB hb,Dw],let ⟨mc,h1,h2⟩:=Dg;#[mc,zB h1,h2]]
  let e0:uc P w K mg (qD bU.heap H) callerA [] bU H:=#[rfl,hM,λb o e=>bB3 e,wb (YY _ _),trivial,λb hb=>absurd (show b∈([]:@&Addr) from hb) #[_],bV,.of_eq hg]
  show fX ((F _ JU (zB rj)).run callerA [] bU H #[[.ref a],[]] [.ref a] [.ref a] _ _ hr e0 (xF bU (.ref a)) (.cons rfl .nil) (uP H hO hS)) λr s' h=>?_;cases r with
  |error e=>show(DM H e s' h).elim
  |ok fl =>
   cases fl with
   |next=>show False.elim h
   |brk=>show False.elim h
   |cont=>show False.elim h
   |ret u =>
    let#[v,H',os,bare,un,CQ,r',q]:=h;let q':=q;subst q';obtain rfl:u=Value.bool true:=r';show#[rfl,OldK.of_keep λb o e=>?_,os,bare];cases q:H b with
    |none=>show un.keep b o e q (by intro z;show absurd (show b∈([]:@&Addr) from z) #[_]) #[_]
    |some u =>
     rcases hO b with z|⟨ob,xs,z⟩
     .simp_all
     .let z2:=un.iH b ob _ z;let#[e1,_]:=bV b _ z;let#[e2,_]:=CQ b _ z2
      simp_all
 cases hk:K.lookup a with
 |some o =>
  let e:=KX a o hk;rw[ha] at e;cases e;show core (λy=>none) (λy=>.inl rfl) (.inr #[_,vs.toArray,_,hk,rfl,rfl,rfl,by simp_all,by simpa using rv]) (λb u z=>by simp_all) (λb z=>absurd rfl z) λz=>absurd rfl z
 |none =>
  show core (λb=>if b=a then some (.kC { cls:=.type "list",data:=.seq vs.toArray } (.lst (ns.map V.int))) else none) (λb=>?_) (.inl (.inr #[{ cls:=.type "list",data:=.seq vs.toArray },az rfl])) (λb u z=>?_) (λb z=>?_) λy=>hk
  .by_cases hb:b=a
   .exact .inr #[_,_,az hb]
   .exact .inl (aA hb)
  .by_cases hb:b=a
   .let z':=(az hb).symm.trans z;cases z';subst hb;show#[ha,by rw[ah];show hl,vs,_,rv,ha]
   simp_all
  .by_cases hb:b=a
   .exact hb
   .exact absurd (aA hb) z
def WH{l:PySem.W.OpenLaw}{n k:Nat}{q:Program}{loose:@&Str}{XP:(Str->Option Value)->Heap->Prop}{YP:World->Heap->Prop}{d:DefRec}{K:Params->PySem.W.Frag}{CX:World->pb}{sp:World->Sp}(hn:l.most=!n)(oJ:n<=sizeLine)(xA:d.params.defaults=[])(hr:x8 k callerA)(hY:∀(w:World) (h:Heap),YP w h->(K w.params).In h)(F:∀ (w:World) (mg:Str->Option Value) (fa:Addr) (h:Heap),(K w.params).In h->h.Ns mainGlobals mg->mg d.name=!.ref fa ->
   ∃fd:FuncData,(∀(s:Shared) (u:Value),BindsTo s fd #[[u],[]] [(x,u)]) /\
    ∀ base:Heap,(K w.params).In base->base.Ns mainGlobals mg->iq l.prog w (K w.params) mg base (CX w) k fa fd [x] (sp w))(uP:∀(w:World) (H:Hp) (a:Addr) (ns:@&Int),(-ns)<=n->BB H->gw (K w.params) H a (ns.map V.int)->sp w [.ref a] H (λv y=>v=.bl true) λy y y=>False)(DM:∀(w:World) (H:Hp) (s:Shared) (e:Value) (s':Shared),CX w [] H s (λy y y=>False) e s'->False) :
  PySem.W.WalkO q loose XP YP l.row.toRowW d [] (λf vs=>PySem.call f vs):=by
 show QR.aT4 hn xA λw dJ bU mg mb fa o pm cd doc a vs ns G Y ho hd nh hmg lS hints hlen hg=>?_;let KX:=hY w _ Y;let#[fd,hb,hF]:=F w mg fa _ KX G.T.g hmg;show Xj KX G.T.g G.T.b G.T.builtins G.T.nolimit hg lS hints (aG hlen oJ) hr hF hb (λH hO hS=>uP w H a ns hlen hO hS) λH e s'=>DM w H bU e s'
abbrev E1(s:Stmt):Arguments:=match s with
 |.FunctionDef _ a _ _ _ _ _ _ _ _=>a
 |_=>{ posonlyargs:=[],args:=[],vararg:=none,kwonlyargs:=[],kw_defaults:=[],kwarg:=none,defaults:=[] }
abbrev u3(s:Stmt):@&Stmt:=match s with
 |.FunctionDef _ _ b _ _ _ _ _ _ _=>b
 |_=>[]
abbrev q9(s:Stmt):Scope:=match s with
 |.FunctionDef _ _ _ _ _ _ sc _ _ _=>sc
 |_=>{ kind:=.function,names:=[],isGenerator:=false,isCoroutine:=false }
structure rZ(K:PySem.W.Frag)(x qual:Str)(st:Stmt)(f:Addr)(fd:FuncData):Prop where
 ex:∃(oc:Value) (od:Option Addr) (kV doc pm:Value) (an:Option Addr) (gi ct:Value) (nJ:Array (Option Value)),
  fd=PySem.W.fnOf x qual (E1 st) (u3 st) (q9 st) .none kV doc pm an gi ct/\K.lookup f=!#[oc,od,.func fd,nJ]/\PySem.W.codeIn K gi qual=true
 kp:PySem.W.keepIn K (.ref f)=true
section
variable{K:PySem.W.Frag}
def rZ.binds{st:Stmt}{f:Addr}{fd:FuncData}{ps:@&Str}(F:rZ K x qual st f fd)(h:∀(kV doc pm:Value) (an:Option Addr) (gi ct:Value) (us:@&Value),(-us)=-ps->bindArgs (PySem.W.fnOf x qual (E1 st) (u3 st) (q9 st) .none kV doc pm an gi ct) #[us,[]]=pure (ps.zip us)):Binds K fd ps []:=by
 let#[oc,od,kV,doc,pm,an,gi,ct,nJ,rfl,lk,nh]:=F.ex;show .all (h kV doc pm an gi ct)
def LF{st:Stmt}{f:Addr}{oc:Value}{od an:Option Addr}{nJ:Array (Option Value)}{kV doc pm gi ct:Value}(l:K.lookup f=!#[oc,od,.func (PySem.W.fnOf x qual (E1 st) (u3 st) (q9 st) .none kV doc pm an gi ct),nJ])(c:PySem.W.codeIn K gi qual=true)(k:PySem.W.keepIn K (.ref f)=true):rZ K x qual st f (PySem.W.fnOf x qual (E1 st) (u3 st) (q9 st) .none kV doc pm an gi ct):=#[#[oc,od,kV,doc,pm,an,gi,ct,nJ,rfl,l,c],k]
end
section
variable{prog:Program}{R:Result->Shared->Prop}
def aP7{target:Expr}{it acc:Value}{env:Env}(I:Nat->Shared->Prop)(turn:∀ n s,I n s->wpAny (model prog w) A (pyNext it) (λr bU=>match r with
   |none=>R (.ok .next) bU
   | some v=>wpAny (model prog w) A (letOwnedTupleGo target it v) (λy bU=>wpAny (model prog w) A (assign target env v) (λ_ fU =>
     wpAny (model prog w) A (forIn ifs true λc r=>if r=true then do let ok <- isTrue c env (eval c env);pure (ForInStep.yield ok) else pure (ForInStep.yield r)) (λok fM =>
      if ok=true then wpAny (model prog w) A (eval elt env) (λx iX =>
       wpAny (model prog w) A (call (.builtin "list.append") [acc,x]) (λy jF=>∃ m,m < n/\I m jF) (λy y=>False) iX) (notedBy (model prog w) A env λe s'=>R (.error e) s') fM
      else ∃ m,m < n/\I m fM) (λy y=>False) fU) (λy y=>False) bU) (λy y=>False) bU) (λy y=>False) s)(n:Nat)(h:I n s) :
  codeAny (model prog w) A (.compLoop (.ListComp elt [#[target,iter,ifs,0]] scope pos) 0 it acc env) R s:=by
 show codeAny_loop rfl I (λn s hI=>?_) n h;change wpAny _ A ((compTurn (.ListComp elt [#[target,iter,ifs,0]] scope pos) 0 it acc env).onRaise (λx=>do noteFrame x env;theTreesLotGoes x)) _ _ s;show wpAny_noted ?_;rw[compTurn_list];show aa (eR (aa (bE (turn n s hI) (λr bU ee=>?_) λy y h'=>h'.elim)));cases r with
 |none=>show ao ee
 |some v =>
  show aa (bE ee (λy bU ee=>?_) λy y h'=>h'.elim);show aa (bE ee (λy fU jL=>aa (bE jL (λok fM oB=>?_) λy y h'=>h'.elim)) λy y h'=>h'.elim);cases ok with
  |false=>show wpAny_pure #[rfl,oB]
  |true =>
   show aa (aa (bE oB (λx iX sL=>aa (bE sL (λy jF sJ=>ao (ao #[rfl,sJ])) λy y h'=>h'.elim)) λy y h'=>h'))
end
abbrev lC(X:Cx)(es:@&Expr)(t:TT):Prop :=
 ∀(pi:@&(Addr×Obj)) (s:Shared) (U:St) (H:Hp) (Q:Bool->Hp->Prop),Inv X pi U H s->t U H Q ->
  wpAny (model X.prog X.w) X.A (forIn es true λc r=>if r=true then do let ok <- isTrue c X.env (eval c X.env);pure (ForInStep.yield ok) else pure (ForInStep.yield r)) (TP X pi U Q) X.xe s
def b57:TT:=λx H Q=>Q true H
def VQ:lC X [] b57:=λpi s U H Q I h=>ao #[H,I,h]
def VR{c:Expr}{t:TT}(h:PT X c t):lC X [c] t:=by
 intro pi s U H Q I q;show aa (aa (bE (h pi s U H Q I q) (λb s' hb=>ao (ao hb)) λy y x=>x))
abbrev N9(scope:Scope)(cl:@&(Str×Addr))(C:Addr):@&(Str×Addr):=cellsFrom (C+1) scope.names []++cl
def H9:∀(names:@&(Str×NameKind)) (n:Nat) (acc:@&(Str×Addr)),cellsFrom n names acc=cellsFrom n names []++acc
 |[],_,_=>rfl
 |(y,k)::r,n,acc=>by
  unfold cellsFrom;split
  .rw[H9 r (n+1) ((y,n)::acc),H9 r (n+1) [(y,n)],iw]
   rfl
  .exact H9 r n acc
def Y3{x:Str}{c:Addr}:∀{names:@&(Str×NameKind)} {n:Nat},(x,c)∈cellsFrom n names []->(x,NameKind.cell)∈names
 |[],_,h=>by simp[cellsFrom] at h
 |(y,k)::r,n,h=>by
  unfold cellsFrom at h;split at h
  .rw[H9] at h;rcases bt.mp h with z|z
   .exact bZ _ (Y3 z)
   grind
  .exact bZ _ (Y3 h)
def Q4{α:Type}:∀{a b:@&(Str×α)},(a++b).lookup x=(a.lookup x).or (b.lookup x)
 |[],_=>rfl
 |(y,v)::r,b=>by
  grind
def Py(h:scope.names.lookup x=!.cell\/∃c,cl.lookup x=!c):∃c,(N9 scope cl C).lookup x=!c:=by
 unfold N9;rw[Q4];cases e:(cellsFrom (C+1) scope.names []).lookup x with
 |some c=>show#[c,rfl]
 |none =>
  rcases h with h|h
  .let q:=eB scope.names (C+1) [] (.inl h);rw[e] at q;cases q
  .exact h
def S1{env:Env}:∀{names:@&(Str×NameKind)} {x:Str},names.lookup x=!.cell ->
  (names.map λ(n,k)=>if(k==NameKind.free&&env.scope.kind==.function&&env.kindOf n==!.cell) then(n,NameKind.cell) else(n,k)).lookup x=!.cell
 |[],_,h=>by simp at h
 |(n,k)::r,x,h=>by
  let ih:=@S1 env r x;change List.lookup x ((if(k==NameKind.free&&env.scope.kind==.function&&env.kindOf n==!.cell)=true then(n,NameKind.cell) else(n,k))::_)=_;cases hx:x==n with
  |true =>
   simp only[List.lookup_cons,hx] at h
   simp_all
  |false =>
   simp only[List.lookup_cons,hx] at h;by_cases hc:(k==NameKind.free&&env.scope.kind==.function&&env.kindOf n==!.cell)=true
   .rw[az hc];simp only[List.lookup_cons,hx];show ih h
   .rw[aA hc];simp only[List.lookup_cons,hx];show ih h
def OK{h:Heap}(ck:CellsOk h (C+1) (cellsFrom (C+1) scope.names [])){c:Addr}(e:(N9 scope cl C).lookup x=!c):C<c\/cl.lookup x=!c:=by
 unfold N9 at e;rw[Q4] at e;cases e2:(cellsFrom (C+1) scope.names []).lookup x with
 |some c' =>
  rw[e2] at e;cases e;show .inl (ck.empty x c (aS e2)).2
 |none =>
  rw[e2] at e;show .inr e
def NB{M:Model}{E:Value->Shared->Prop}{globals:Addr}{outer:Env}{Q:Env->Shared->Prop}(hQ:∀ ee:Heap,ee.Ns s⁻¹ (λx=>none)->(∀ b o,s.heap.get? b=!o->ee.get? b=!o)->CellsOk ee (s⁻¹ + 1) (cellsFrom (s⁻¹ + 1) scope.names []) ->
   Q (newEnv scope s⁻¹ globals (N9 scope cl s⁻¹) qual none .none (!outer) builtinsNs) { s with heap:=ee }) :
  wpAny M A (newFunctionEnv scope globals cl [] qual none .none (!outer)) Q E s:=by
 simp only[newFunctionEnv,Option.isSome_some,if_true];show aa (wpAny_alloc ?_);show aa (wpAny_layCells _ (λname kind cells=>by rfl) _ _ _ _ ?_);let ok:=cellsFrom_ok scope.names (s.heap.push { cls:=.type "dict",data:=.dict (List.toArray []) }) (s⁻¹+1) [] #[λx x hm=>(nomatch hm),List.Pairwise.nil] #[_];rw[fY] at ok;rw[show({ s with heap:=s.heap.push { cls:=.type "dict",data:=.dict (List.toArray []) } }:Shared).heap.objs.size=s⁻¹+1 from fY ..];show aa (ao (ao ?_));rw[H9];show hQ _ ((Heap.Ns.new s.heap (.type "dict")).keeps (pushCells_keeps _ _)) (λb o e=>pushCells_keeps _ _ b o (av _ e)) ok
abbrev d0(X:Cx)(pi:@&(Addr×Obj))(scope:Scope)(N':@&Str)(cl:@&(Str×Addr))(C:Addr)(s:Shared)(H:Hp)(fp:@&Addr):Cx where
 prog:=X.prog
 w:=X.w
 K:=X.K
 mg:=X.mg
 base:=X.base
 A:=X.A
 N:=N'
 dJ:=s
 ka:=H
 env:=compEnvC scope (N9 scope cl C) C X.env
 outer:=X.stack
 stack:=X.stack
 ex:=fp
 calm:=true
 fn:=λx=>decide (scope.names.lookup x=!.cell)
 pn:=X.pn++pi
 xe:=λy y=>False
structure dg(X:Cx)(scope:Scope)(N':@&Str)(c7:@&Nat)(cl:@&(Str×Addr)):Prop where
 kind:scope.kind=.function
 cells:∀y∈scope.names,y.2=.cell->scope.names.lookup y.1=!.cell
 names:∀y∈scope.names,y.2=.local->scope.names.lookup y.1=!.local
 qu:closureFor scope X.env=pure cl
 cin:∀x c,cl.lookup x=!c->X.env.cells.lookup x=!c
 yb:∀x,scope.names.lookup x=!.free->∃c,cl.lookup x=!c
 nd:N'.Nodup
 Vu:∀(i j:Nat),c7[i]?=!j->∃x,N'[i]?=!x/\X.N[j]?=!x/\scope.names.lookup x=!.free/\(X.env.kindOf x=!.cell\/X.env.kindOf x=!.free)
 EE:-c7<=-N'
def K2{env:Env}:∀{names:@&(Str×NameKind)} {x:Str},names.lookup x=!.free ->
  (names.map λ(n,k)=>if(k==NameKind.free&&env.scope.kind==.function&&env.kindOf n==!.cell) then(n,NameKind.cell) else(n,k)).lookup x=!.cell \/
  (names.map λ(n,k)=>if(k==NameKind.free&&env.scope.kind==.function&&env.kindOf n==!.cell) then(n,NameKind.cell) else(n,k)).lookup x=!.free
 |[],_,h=>by simp at h
 |(n,k)::r,x,h=>by
  let ih:=@K2 env r x;change List.lookup x ((if(k==NameKind.free&&env.scope.kind==.function&&env.kindOf n==!.cell)=true then(n,NameKind.cell) else(n,k))::_)=_\/List.lookup x ((if(k==NameKind.free&&env.scope.kind==.function&&env.kindOf n==!.cell)=true then(n,NameKind.cell) else(n,k))::_)=_;cases hx:x==n with
  |true =>
   simp only[List.lookup_cons,hx] at h;cases h;by_cases hc:(NameKind.free==NameKind.free&&env.scope.kind==.function&&env.kindOf n==!.cell)=true
   .rw[az hc];simp[List.lookup_cons,hx]
   .rw[aA hc];simp[List.lookup_cons,hx]
  |false =>
   simp only[List.lookup_cons,hx] at h;by_cases hc:(k==NameKind.free&&env.scope.kind==.function&&env.kindOf n==!.cell)=true
   .rw[az hc];simp only[List.lookup_cons,hx];show ih h
   .rw[aA hc];simp only[List.lookup_cons,hx];show ih h
def S3{env:Env}:∀{names:@&(Str×NameKind)} {x:Str},((names.map λ(n,k)=>if(k==NameKind.free&&env.scope.kind==.function&&env.kindOf n==!.cell) then(n,NameKind.cell) else(n,k)).lookup x=!.cell \/
  (names.map λ(n,k)=>if (k == NameKind.free && env.scope.kind == .function && env.kindOf n == !.cell) then (n,NameKind.cell) else (n,k)).lookup x=!.free)->names.lookup x=!.free \/ names.lookup x=!.cell
 |[],_,h=>by simp at h
 |(n,k)::r,x,h=>by
  let ih:=@S3 env r x;rw[cA] at h;cases hx:x==n with
  |true =>
   simp only[List.lookup_cons,hx];by_cases hc:(k==NameKind.free&&env.scope.kind==.function&&env.kindOf n==!.cell)=true
   .refine .inl ?_;simp only[Bool.and_eq_true,beq_iff_eq] at hc;rw[hc.1.1]
   .simp only[if_neg hc,List.lookup_cons,hx] at h;rcases h with h|h
    .exact .inr h
    .exact .inl h
  |false =>
   simp only[List.lookup_cons,hx];by_cases hc:(k==NameKind.free&&env.scope.kind==.function&&env.kindOf n==!.cell)=true
   .simp only[if_pos hc,List.lookup_cons,hx] at h;show ih h
   .simp only[if_neg hc,List.lookup_cons,hx] at h;show ih h
def F1(U:St)(c7:@&Nat)(n:Nat):St:=c7.map (λj=>(U[j]?).join)++List.replicate (n- -c7) none
section
variable{pi:@&(Addr×Obj)}{U:St}{H:Hp}
def Inv.a35{h1:Heap}{tk:Nat}(I:Inv X pi U H s)(S:dg X scope N' c7 cl)(hc:X.calm=true)(hf:∀b∈fp,K3 X pi H b)(ho:∀b∈fp,∃o,s.heap.get? b=!o)(hC:s⁻¹<=C)(hn:∃m,h1.Ns C m)(k:∀b o,s.heap.get? b=!o->h1.get? b=!o)(ck:CellsOk h1 (C+1) (cellsFrom (C+1) scope.names [])) :
  Inv (d0 X pi scope N' cl C s H fp) [] (F1 U c7 (-N')) H { s with heap:=h1,toks:=tk }:=by
 let#[m,hm]:=hn;let SX:=S.kind;let IX:∀b o,s.heap.get? b=!o->b≠C:=λb o e z=>absurd (aF e) (by simp_all);let two:∀{x:Str} {c:Addr},(N9 scope cl C).lookup x=!c->(C<c/\h1.IsCell c none/\(x,c)∈cellsFrom (C+1) scope.names [])\/(cl.lookup x=!c/\(cellsFrom (C+1) scope.names []).lookup x=none):=λ{x c} h=>by
  unfold N9 at h;rw[Q4] at h;cases e:(cellsFrom (C+1) scope.names []).lookup x with
  |some c' =>
   rw[e] at h;cases h;let hm:=aS e;show .inl #[(ck.empty x c hm).2,(ck.empty x c hm).1,hm]
  |none =>
   rw[e] at h;show .inr #[h,rfl]
 let wF:∀{x:Str} {c:Addr},cl.lookup x=!c->c<s⁻¹:=λ{x c} h=>by
  let#[v,o,e,_]:=I.cell x c (S.cin x c h);show aF e
 let frees:∀{x:Str},scope.names.lookup x=!.free->(N9 scope cl C).lookup x=cl.lookup x:=λ{x} h=>by
  unfold N9;rw[Q4];cases e:(cellsFrom (C+1) scope.names []).lookup x with
  |some c' =>
   have:=S.cells _ (Y3 (aS e)) rfl
   simp_all
  |none=>rfl
 show#[#[I.mod,SX,I.ok.glob,I.ok.blt,hC,?_,?_,?_,λw=>I.ok.hd hc,I.ok.frames,.inl rfl,?_,I.bs,?_,?_,?_,I.stack,I.AS],rfl,I.bare,Un.kept k,#[m,hm,?_],?_,?_,?_,?_,I.bV.kept k,?_,λdn z=>absurd (show(none:Option (List (Option V)))=some dn from z) #[_]]
 .intro x y c h1 h2;rcases two h1 with⟨l1,_,q1⟩|⟨q1,_⟩<;>rcases two h2 with⟨l2,_,q2⟩|⟨q2,_⟩
  .exact PySem.name_of_addr ck.apart q1 q2
  .exact absurd (dH l1 (aI (wF q2) hC)) (cq _)
  .exact absurd (dH l2 (aI (wF q1) hC)) (cq _)
  .exact I.ok.inj x y c (S.cin x c q1) (S.cin y c q2)
 .intro x hx;rcases S3 hx with z|z
  .let#[c,hc]:=S.yb x z;show#[c,(frees z).trans hc]
  .let q:=eB scope.names (C+1) [] (.inl z);let#[c,hc]:=fm.mp q;show#[c,?_];show(N9 scope cl C).lookup x=!c;unfold N9;rw[Q4,hc]
   rfl
 .intro x c hf h;let z:=bp hf;let q:=eB scope.names (C+1) [] (.inl z);rcases two h with⟨l,_⟩|⟨_,e⟩
  .exact dI (gY hC l)
  simp_all
 .intro b hb;let#[f0,f1,f2,f3,f4,f5]:=hf b hb;let#[o,e]:=ho b hb;show#[IX b o e,λx c h=>?_];rcases two h with⟨l,_⟩|⟨q,_⟩
  .intro z;subst z;show absurd (dH l (aI (aF e) hC)) (cq _)
  .exact f4 x c (S.cin x c q)
 .exact aG I.ok.oX I.sz
 .intro b o e hb;let#[f0,f1,f2,f3,f4,f5]:=hf b hb;rcases f3 with f3|f3
  .exact I.ok.kX b o e f3
  .exact absurd (aF (I.ok.bs b o e).1) (QZ.mpr f3)
 .intro b hb z;let#[f0,f1,f2,f3,f4,f5]:=hf b hb;rcases aM.mp (I.U4 b z) with z|z
  .exact f1 z
  .exact f2 z
 .intro i x v Em h2 h3;let hi:i< -c7:=by
   unfold F1 at h2;by_cases hi:i< -c7
   .exact hi
   .rw[cc (_/hi),dU] at h2
    simp_all
  obtain⟨j,hj⟩:∃j,c7[i]?=!j:=#[_,ag hi]
  let hs:U[j]?=!!v:=by
   unfold F1 at h2;rw[aH (_/hi),aj,hj] at h2;simp only[Option.map_some] at h2;cases e:U[j]? with
   |none=>rw[e] at h2;cases h2
   |some a=>rw[e] at h2;show iO some (aO h2)
  let#[y,Sr,Sq,CG,So]:=S.Vu i j hj;let ey:y=x:=by
   let xI:N'[i]?=!x:=Em;rw[Sr] at xI;show aO xI
  subst ey;let#[m0,Jv,hl]:=I.loc;let ⟨u,ru,hu⟩:=hl j y v Sq hs (by
   rcases So with z|z
   .exact .inr (.inl z)
   .exact .inr (.inr z))
  show#[u,ru,.inr #[K2 CG,?_]];rcases hu with⟨z,_⟩|⟨_,c,Dv,rB⟩
  .simp_all
  .let#[c',pD]:=S.yb y CG;let e:=S.cin y c' pD;rw[Dv] at e;cases e;let#[o,e1,e2]:=rB;show#[c,(frees CG).trans pD,o,k _ _ e1,e2]
 .intro x c h;rcases two h with⟨_,q,_⟩|⟨q,_⟩
  .exact#[none,q]
  .let#[v,o,e1,e2]:=I.cell x c (S.cin x c q);show#[v,o,k _ _ e1,e2]
 .exact I.bV.fresh hC
 .intro x c h;rcases two h with⟨l,_⟩|⟨q,_⟩
  .exact I.bV.fresh (dI (gY hC l))
  .exact I.fj x c (S.cin x c q)
 .intro p hp;let lR:p∈X.pn++pi:=by simpa[d0] using hp
  let#[p1,p2,p3,p4,p5]:=I.pin p lR;show#[k _ _ p1,p2,IX _ _ p1,λz=>?_,p5];rcases aM.mp (I.U4 _ z) with z|z
  .exact p3 z
  .exact p4 z
 .unfold F1;change _=-N';rw[aY,ah,zp];have:=S.EE;omega
def Inv.OI{fV:@&(Addr×Obj)}{cv:St}{H':Hp}{s':Shared}(I:Inv X pi U H s)(hf:∀b∈fp,K3 X pi H b)(J:Inv (d0 X pi scope N' cl C s H fp) fV cv H' s'):Inv X pi U H' s' :=
 I.HJ (ch:=fp) J.os J.base J.bV J.bare λb hb=>by
  let#[f0,f1,f2,f3,f4,f5]:=hf b hb;show#[f3,f1,f4,f5]
def Inv.bV4{D:Addr}{ys:@&V}{bo:@&Value}{n:Nat}(I:Inv X pi U H s)(f:K3 X pi H D)(hs:X.dJ.heap.objs.size<=D)(hv:Vals ys bo)(hz:-ys<=sizeLine)(ho:s.heap.get? D=some { cls:=.type "list",data:=.seq bo.toArray n }):Inv X pi U (upd H D (.lst ys)) s:=by
 let#[f0,f1,f2,f3,f4,f5]:=f;let fh:∀b o,X.dJ.heap.get? b=!o->b≠D:=λb o e z=>absurd (aF e) (by rw[z];show QZ.mpr hs);let tup:∀b u,H b=!u->upd H D (.lst ys) b=!u:=λb u e=>by rw[d4 (j8 e f0)];show e
 show#[I.ok,I.os,I.bare,#[?_,?_,?_,I.base.there,?_,?_,?_],I.loc,I.cell,?_,?_,?_,?_,I.len,I.sg]
 .exact λb o e n1 n2 n3=>I.base.keep b o e n1 n2 n3
 .exact λb o e n1 n2 n3=>I.base.slot b o e n1 n2 n3
 .exact λb o e n1 n2=>by rw[d4 (fh b o e)];show I.base.free b o e n1 n2
 .exact λb xs e=>tup _ _ (I.base.iV b xs e)
 .exact λb o u e=>tup _ _ (I.base.iH b o u e)
 .exact λb ps e=>by
   let#[more,q]:=I.base.iW b ps e;show#[more,tup _ _ q]
 .rw[d4 f1.symm];show I.free
 .exact λx c e=>by rw[d4 (f4 x c e)];show I.fj x c e
 .intro p hp;let#[p1,p2,p3]:=I.pin p hp;show#[p1,by rw[d4 (f5 p hp)];show p2,p3]
 .intro a o e;by_cases ha:a=D
  .subst ha;rw[l6] at e;cases e;show#[hz,bo,n,hv,ho]
  .rw[d4 ha] at e;let q:=I.bV a o e;show q.K0 (λb u y h=>h) (λb hb=>tup _ _ hb) (λb xs hb=>tup _ _ hb)
end
def ym(wi:TI)(c7:@&Nat)(n:Nat)(g:TG)(tc:TT)(te:TE):TE:=λU H Q=>wi U H λJ H1=>∃W:Nat->Nat->@&V->St->Hp->Prop,(∃m,W 0 m [] (F1 U c7 n) H1)/\∀i m ys U H,W i m ys U H ->
 (J.stop i H/\∀p,H p=none->Q (.ref p) (upd H p (.lst ys))) \/
 (J.go i H/\-ys < sizeLine/\∀ x H',J.qR i H x H'->g x U H' λcE H2=>tc cE H2 λb H3 =>
  if b=true then te cE H3 λy H4=>∃ m',m' < m/\W (i + 1) m' (ys ++ [y]) cE H4 else ∃ m',m' < m/\W (i + 1) m' ys cE H3)
noncomputable abbrev b92(bo:@&Value)(n:Nat):Obj:={ cls:=.type "list",data:=.seq bo.toArray n }
section
variable{pi:@&(Addr×Obj)}{U:St}{H:Hp}
structure Ie(X:Cx)(n0:Nat){α:Type}(K:Addr->α->Heap->Obj->Prop)(fin:Addr->α->HO):Prop where
 nc:∀{a y h o},K a y h o->∀v,o.data≠.cell v
 get:∀{a y h o},K a y h o->h.get? a=!o
 K0:∀{a y h h' o},K a y h o->h'.get? a=!o->K a y h' o
 done:∀{pi U H s a y o},n0<=a->Inv X pi U H s->K3 X pi H a->X.dJ.heap.objs.size<=a->K a y s.heap o->Inv X pi U (upd H a (fin a y)) s
def Po{α:Type}{K:Addr->α->Heap->Obj->Prop}{fin:Addr->α->HO}{y0:α}{o0:Obj}{Bd:α->Prop}{tb:α->St->Hp->(α->Hp->Prop)->Prop}{body:(Shared->Prop)->Shared->Prop}{LP:Shared->Prop}{it:Addr}{tn:Nat->Heap->Prop}{J:It}{R:Result->Shared->Prop}{W:Nat->Nat->α->St->Hp->Prop}{m0:Nat}{Q:VK}{ee:Heap}{env:Env}(G:Ie X s⁻¹ K fin)(S:dg X scope N' c7 cl)(hc:X.calm=true)(hg:PG (d0 X pi scope N' cl C s H fp) tg g)(ht:lC (d0 X pi scope N' cl C s H fp) ifs tc)(I:Inv X pi U H s)(T:Turn X.prog X.w X.K tg J fp it tn)(st:tn 0 s.heap)(hf:∀b∈fp,K3 X pi H b)(w0:W 0 m0 y0 (F1 U c7 (-N')) H)(turn:∀ i m y U H,W i m y U H->(J.stop i H/\∀ p,H p=none->Q (.ref p) (upd H p (fin p y))) \/
   (J.go i H/\Bd y/\∀ x H',J.qR i H x H'->g x U H' λcE H2=>tc cE H2 λb H3 =>
    if b=true then tb y cE H3 λy' H4=>∃ m',m' < m/\W (i + 1) m' y' cE H4 else ∃ m',m' < m/\W (i + 1) m' y cE H3))(xG:∀s' H' m,Inv X pi U H' s'->Q (.ref s⁻¹) H'->s'.heap.Ns C m->H' C=none->s⁻¹<=C->R (.ok .next) s')(rj:∃m,ee.Ns C m)(uQ:∀b o,(s.heap.push o0).get? b=!o->ee.get? b=!o)(tD:CellsOk ee (C+1) (cellsFrom (C+1) scope.names []))(eC:s⁻¹+1=C)(k0:K s⁻¹ y0 ee o0)(ev:(d0 X pi scope N' cl C s H fp).env=env)(DD:∀ y o fV cv H' s' (P:α->Hp->Prop) (R':Shared->Prop),Bd y->K s⁻¹ y s'.heap o->(∀ {zt H8 s8},Inv (d0 X pi scope N' cl C s H fp) fV zt H8 s8->s8.heap.get? s⁻¹=!o)->Inv (d0 X pi scope N' cl C s H fp) fV cv H' s'->tb y cv H' P ->
   (∀ s8 H8 y' h' t' o',Inv (d0 X pi scope N' cl C s H fp) fV cv H8 s8->P y' H8->(∀ b u,b ≠ s⁻¹->s8.heap.get? b=!u->h'.get? b=!u)->K s⁻¹ y' h' o'->R' { s8 with heap:=h',toks:=t' })->body R' s')(lp:∀ (I:Nat->Shared->Prop),(∀ n s,I n s->wpAny (model X.prog X.w) X.A (pyNext (.ref it)) (λr bU=>match r with
   |none=>R (.ok .next) bU
   | some v=>wpAny (model X.prog X.w) X.A (letOwnedTupleGo tg (.ref it) v) (λt bU=>wpAny (model X.prog X.w) X.A (assign tg env v) (λ_ fU =>
     wpAny (model X.prog X.w) X.A (forIn ifs true λc r=>if r=true then do let ok <- isTrue c env (eval c env);pure (ForInStep.yield ok) else pure (ForInStep.yield r)) (λok fM =>
      if ok=true then body (λjF=>∃ m,m < n/\I m jF) fM else ∃ m,m < n/\I m fM) (λt t=>False) fU) (λt t=>False) bU) (λt t=>False) bU) (λt t=>False) s)->∀ n,I n { s with heap:=ee }->LP { s with heap:=ee }) :
  tn 0 ee/\LP { s with heap:=ee }:=by
 subst ev;generalize DL:s.heap.push o0=H2 at uQ;generalize eD:s⁻¹=D at *;let JW:D≠C:=by omega
 let lt:∀b o,s.heap.get? b=!o->b<D:=λb o e=>by rw[<- eD];show aF e
 let zF:D<=C:=by omega
 let uK:∀b o,s.heap.get? b=!o->b≠C:=λb o e=>aT (aI (lt b o e) zF);let wK:∀b o,s.heap.get? b=!o->b≠D:=λb o e=>aT (lt b o e);let old:∀b o,s.heap.get? b=!o->ee.get? b=!o:=λb o e=>uQ b o (DL▸av _ e);let lS:∀b∈fp,∃o,s.heap.get? b=!o:=λb hb=>by
  let#[o,e,_]:=T.obj _ _ st b hb;show#[o,e]
 let JV:D∉fp:=λhm=>by
  let#[o,e]:=lS D hm;show wK D o e rfl
 let X1:Inv (d0 X pi scope N' cl C s H fp) [] (F1 U c7 (-N')) H { s with heap:=ee } :=
  I.a35 S hc hf lS (by rw[eD];omega) rj old tD
 let IH:=T.keep _ _ _ st λb t o e=>old b o e;let UP:∀{H':Hp},(∀b∈fp,H' b=none)->∀b∈fp,K3 (d0 X pi scope N' cl C s H fp) [] H' b:=λhn b hb=>by
  let#[f0,f1,f2,f3,f4,f5]:=hf b hb;let#[o,e]:=lS b hb;show#[hn b hb,?_,?_,.inl hb,λx c q=>(OK tD q).elim (λl z=>absurd (dH (z▸l) (aI (lt b o e) zF)) (cq _)) λq=>f4 x c (S.cin x c q),λp hp=>?_]
  .exact uK b o e
  .exact λz=>by
    rcases aM.mp (I.U4 b z) with z|z
    .exact f1 z
    .exact f2 z
  .let lR:p∈X.pn++pi:=by simpa[d0] using hp
   show f5 p lR
 let fD:∀{H':Hp},H' D=none->K3 (d0 X pi scope N' cl C s H fp) [] H' D:=λhn=>by
  show#[hn,JW,λz=>?_,.inr (by change s⁻¹<=D;omega),λx c q=>?_,λp hp=>?_]
  .exact absurd (I.BE (a:=D) ()) λjZ=>by
    rcases aM.mp (I.U4 D z) with z|z
    .exact absurd I.lt (by rw[<- z,eD];show cq _)
    .exact jZ z
  .rcases OK tD q with l|q
   .exact λz=>absurd (aI (z▸l) zF) (cq _)
   .let#[v,o,e,_]:=I.cell x c (S.cin x c q);show wK c o e
  .let lR:p∈X.pn++pi:=by simpa[d0] using hp
   show wK _ _ (I.pin p lR).1
 show#[IH,lp (λn s'=>∃(i:Nat) (y:α) (cv:St) (H':Hp) (o:Obj),Inv (d0 X pi scope N' cl C s H fp) [] cv H' s'/\tn i s'.heap/\(∀b∈fp,H' b=none)/\H' D=none/\K D y s'.heap o/\W i n y cv H') ?_ m0 #[0,y0,_,H,o0,X1,IH,λb hb=>(hf b hb).1,I.bV.fresh (),k0,w0]];rintro n s3 ⟨i,y,jy,H3,o,I3,wq,xK,d3,k3,w3⟩;let QM:Inv (d0 X pi scope N' cl C s H fp) [(D,o)] jy H3 s3:=I3.yK λp hp=>by
  let z:p=(D,o):=by simpa using hp
  subst z;let#[f0,f1,f2,_]:=fD d3;show#[G.get k3,f0,f1,f2,G.nc k3]
 let vj:∀{H':Hp},(∀b∈fp,H' b=none)->∀b∈fp,K3 (d0 X pi scope N' cl C s H fp) [(D,o)] H' b:=λ{H'} hn b hb=>by
  let#[f0,f1,f2,f3,f4,f5]:=UP hn b hb;show#[f0,f1,f2,f3,f4,λp hp=>?_];let lR:p∈(d0 X pi scope N' cl C s H fp).pn\/p=(D,o):=by simpa using hp
  rcases lR with z|z
  .exact f5 p (eP _ z)
  .subst z;show λz=>JV (by rw[show D=b from z];show hb)
 rcases turn i n y jy H3 w3 with⟨stop,q⟩|⟨go,hz,step⟩
 .refine cN (T.done (d0 X pi scope N' cl C s H fp) rfl rfl rfl rfl i _ s3 _ H3 _ QM (vj xK) wq stop) ?_;rintro r s4 ⟨hr,I4⟩;subst hr;let J4:=I.OI hf I4;let UQ:K3 X pi H3 D:=by
   show#[d3,cK (by rw[<- eD];show I.lt),I.BE (),.inr (by have:=I.sz;omega),λx c q=>?_,λp hp=>?_]
   .let#[v,o,e,_]:=I.cell x c q;show wK c o e
   .exact wK _ _ (I.pin p hp).1
  let#[mC,De,_]:=I4.loc;show xG s4 _ mC (G.done (aw _) J4 UQ (by have:=I.sz;omega) (G.K0 k3 (I4.pin (D,o) #[_]).1)) (q D d3) De (by rw[d4 JW.symm];show I4.free) zF
 .refine cN (T.item (d0 X pi scope N' cl C s H fp) rfl rfl rfl rfl i _ s3 _ H3 _ QM (vj xK) wq go) ?_;rintro r s4 ⟨u,hr,h4⟩;subst hr;show cN h4 λt s5 bA=>?_;let#[x,H5,I5,r5,y5,sy,Er]:=bA;let Ib:=I5.pinned (vj Er) (T.obj _ _ sy);show cN (hg _ s5 _ H5 x u _ Ib r5 (step x H5 y5)) λt s6 bA=>?_;let#[sk,H6,I6,q6]:=bA;show cN (ht _ s6 sk H6 _ I6 q6) ?_;rintro ok s7 ⟨H7,I7,q7⟩;let back:∀{zt:St} {H8:Hp} {s8:Shared},Inv (d0 X pi scope N' cl C s H fp) ([(D,o)]++yy fp s5.heap) zt H8 s8->(∀b∈fp,H8 b=none)/\tn (i+1) s8.heap/\H8 D=none/\s8.heap.get? D=!o :=
   λ{zt H8 s8} I8=>by
    let pf:∀b∈fp,∀o,s5.heap.get? b=!o->s8.heap.get? b=!o/\H8 b=none:=λb hb o e=>by
     have:=I8.pin (b,o) (bW _ (bW _ (Gs hb e)));show#[this.1,this.2.1]
    let pd:=I8.pin (D,o) #[_];show#[λb hb=>?_,T.keep _ _ _ sy λb hb o e=>(pf b hb o e).1,pd.2.1,pd.1];let#[o,e,_]:=T.obj _ _ sy b hb;show(pf b hb o e).2
  cases ok with
  |false =>
   let#[m',hm,w7]:=q7;let#[b1,b2,b3,b4]:=back I7;show#[m',hm,i+1,y,sk,H7,o,I7.yK λp hp=>absurd hp #[_],b2,b1,b3,G.K0 k3 b4,w7]
  |true =>
   show DD y o _ sk H7 s7 _ _ hz (G.K0 k3 (back I7).2.2.2) (λI8=>(back I8).2.2.2) I7 q7 ?_;rintro s8 H8 y' h' t' o' I8 ⟨m',hm,w8⟩ kp k8;let#[b1,b2,b3,b4]:=back I8;let I8':Inv (d0 X pi scope N' cl C s H fp) [] sk H8 s8:=I8.yK λp hp=>absurd hp #[_];let#[f0,f1,f2,f3,f4,f5]:=fD (H':=H8) b3;show#[m',hm,i+1,y',sk,H8,o',I8'.turned (t':=t') (λb o hb e=>kp b o hb e) f0 f1 f3 f4 f5,T.keep _ _ _ b2 λb hb o e=>kp b o (λz=>JV (by rw[<- z];show hb)) e,b1,b3,k8,w8]
def KL(a:Addr)(ys:@&V)(h:Heap)(o:Obj):Prop:=∃bo n,Vals ys bo/\-ys<=sizeLine/\o=b92 bo n/\h.get? a=!o
def W'{n0:Nat}:Ie X n0 KL λx ys=>.lst ys where
 nc:=λ⟨_,_,_,_,e,_⟩ v z=>by subst e;cases z
 get:=λ⟨_,_,_,_,_,e⟩=>e
 K0:=λ⟨bo,n,h1,h2,h3,_⟩ e=>#[bo,n,h1,h2,h3,e]
 done:=λ_ I f hs ⟨bo,n,h1,h2,h3,e⟩=>I.bV4 f hs h1 h2 (h3▸e)
def Gg{it:Addr}{tn:Nat->Heap->Prop}{J:It}{xx:Addr->Shared->Hp->Value->Shared->Prop}{RR:Value->Addr->Result->Shared->Prop}{E:Value->Shared->Prop}{W:Nat->Nat->@&V->St->Hp->Prop}{m0:Nat}{Q:VK}(S:dg X scope N' c7 cl)(hc:X.calm=true)(hg:∀C s H,PG (d0 X pi scope N' cl C s H fp) tg g)(ht:∀C s H,lC (d0 X pi scope N' cl C s H fp) ifs tc)(he:∀C s H,PE ((d0 X pi scope N' cl C s H fp).V1 (xx C s H)) elt te)(I:Inv X pi U H s)(T:Turn X.prog X.w X.K tg J fp it tn)(st:tn 0 s.heap)(hf:∀b∈fp,K3 X pi H b)(w0:W 0 m0 [] (F1 U c7 (-N')) H)(turn:∀ i m ys U H,W i m ys U H->(J.stop i H/\∀ p,H p=none->Q (.ref p) (upd H p (.lst ys))) \/
   (J.go i H/\-ys < sizeLine/\∀ x H',J.qR i H x H'->g x U H' λcE H2=>tc cE H2 λb H3 =>
    if b=true then te cE H3 λy H4=>∃ m',m' < m/\W (i + 1) m' (ys ++ [y]) cE H4 else ∃ m',m' < m/\W (i + 1) m' ys cE H3))(xG:∀D C s' H' m,Inv X pi U H' s'->Q (.ref D) H'->s'.heap.Ns C m->H' C=none->s⁻¹<=C->RR (.ref D) C (.ok .next) s')(TU:∀D C e s',s⁻¹<=C->xx C s H e s'->notedBy (model X.prog X.w) X.A (compEnvC scope (N9 scope cl C) C X.env) (λe s'=>RR (.ref D) C (.error e) s') e s') :
  wpAny (model X.prog X.w) X.A (newList []) (λacc fM=>wpAny (model X.prog X.w) X.A (newFunctionEnv scope X.env.globals cl [] X.env.qual none .none (!X.env)) (λcenv iX =>
   cenv.frame=X.env.frame/\codeAny (model X.prog X.w) X.A (.compStart (.ListComp elt [#[tg,iter,ifs,0]] scope pos) 0 (.ref it) acc { cenv with scope:=relabel scope X.env }) (RR acc cenv.locals) iX) E fM) E s:=by
 show cR (NB λee lU jM tD=>?_);let eC:(s.heap.push { cls:=.type "list",dict:=none,data:=.seq ([]:@&Value).toArray }).objs.size=s⁻¹+1:=fY ..
 replace eC:=eC.symm
 generalize (s.heap.push { cls:=.type "list",dict:=none,data:=.seq ([]:@&Value).toArray }).objs.size=C at *;show (λL=>#[rfl,codeAny_compStart_list L.2 (T.self _ 0 _ _ _ L.1 L.2)]) (Po (tb:=λys U H P=>te U H λy H'=>P (ys ++ [y]) H')
  (body:=λP fM=>wpAny (model X.prog X.w) X.A (eval elt (compEnvC scope (N9 scope cl C) C X.env)) (λx iX=>wpAny (model X.prog X.w) X.A (call (.builtin "list.append") [.ref s⁻¹,x]) (λz jF=>P jF) (λz z=>False) iX) (notedBy (model X.prog X.w) X.A (compEnvC scope (N9 scope cl C) C X.env) λe s'=>RR (.ref s⁻¹) C (.error e) s') fM)
  W' S hc (hg C s H) (ht C s H) I T st hf w0 turn (λs' H' m=>xG _ C s' H' m) #[_,lU] jM tD eC #[[],0,.nil,cw _,rfl,jM _ _ (aJ _ rfl)] rfl (λys o fV cv H' s' P R' hz k hb I' q hR=>?_) (λI turn n h=>aP7 I turn n h))
 .refine bE (he C s H _ s' cv H' _ (I'.V1 _) q) (λxv s8 bA=>?_) λe s' hx=>TU _ C e s' () hx;let#[y,H8,I8,r8,q8]:=bA;let I8:=I8.Az;let#[bo,nn,v3,z3,rfl,_]:=k;let b4:=hb I8;show eN F.slot_list_append #[_,b4,rfl] F.entry_list_append (F.args_list_append_2 _ _) (PySem.list_append _ bo.toArray nn xv (by rw[aV];have:=-v3;omega)) #[b4,?_];let q0:=PySem.IsL.update b4 (·.push xv);rw[show bo.toArray.push xv=(bo++[xv]).toArray by simp] at q0;show hR s8 H8 _ _ s8.toks _ I8 q8 (λb' u hb hu=>(bT s8.heap (Obj.mapSeq (·.push xv)) (bR hb)).trans hu) #[_,_,v3.append (.cons r8 .nil),by rw[aY,zo];omega,rfl,q0]
def Inv.vH{h':Heap}{s2:Shared}{H2:Hp}(I:Inv X pi U H s)(hC:s2⁻¹<=C)(I2:Inv X pi U H2 s2)(hn:H C=none)(sb:Heap.SameBut C s.heap h'):Inv X pi U H { s with heap:=h' }:=by
 let f:=I2.rV (H':=H) hC hn;let#[f0,f1,f2,f3,f4,f5]:=f;show I.turned (t':=s.toks) (λb o hb e=>sb.extBut b o hb e) f0 f1 f3 f4 f5
def MB{M:Model}{E:Value->Shared->Prop}{a:Sem Value}{b:Sem Env}{P:Env->Prop}{Q:Value->Env->Shared->Prop}(h:wpAny M A a (λx s1=>wpAny M A b (λy s2=>P y/\Q x y s2) E s1) E s):wpAny M A a (λx s1=>wpAny M A b (λy s2=>Q x y s2) E s1) E s :=
 bE h (λw w h=>bE h (λw w h=>h.2) λw w z=>z) λw w z=>z
def Oa{wi:TI}(S:dg X scope N' c7 cl)(hc:X.calm=true)(hi:PI X tg iter wi)(hg:∀pi C s H fp,PG (d0 X pi scope N' cl C s H fp) tg g)(ht:∀pi C s H fp,lC (d0 X pi scope N' cl C s H fp) ifs tc)(he:∀pi C s H fp,PE (d0 X pi scope N' cl C s H fp) elt te)(hs:∀x,foldedSetIterable iter X.env x=pure x):PE X (.ListComp elt [#[tg,iter,ifs,0]] scope pos) (ym wi c7 (-N') g tc te):=by
 intro pi s U H Q I h;show jC rfl hs S.qu S.kind S.names (cN (hi pi s U H _ I h) λxv bU ee=>cN ee λuN fU jL=>?_);let#[it,fp,tn,J,H2,e,I2,T,kT,f2,W,#[m0,w0],turn]:=jL;subst e;show MB (Gg S hc (λC s H=>hg pi C s H fp) (λC s H=>ht pi C s H fp) (λC s H=>he pi C s H fp) I2 T kT f2 w0 turn ?_ λy y y y y z=>z.elim);intro D C s' H' m I' q hn hC ia;show#[m,hn,λh' sb=>#[.ref D,H',I'.vH ia I2 hC sb,rfl,q]]
def aR6{wt px:Pos}{wi:TI}{i:Nat}(S:dg X scope N' c7 cl)(hc:X.calm=true)(hi:PI X tg iter wi)(hg:∀pi C s H fp,PG (d0 X pi scope N' cl C s H fp) tg g)(ht:∀pi C s H fp,lC (d0 X pi scope N' cl C s H fp) ifs tc)(he:∀pi C s H fp,PE (d0 X pi scope N' cl C s H fp) elt te)(hs:∀x,foldedSetIterable iter X.env x=pure x)(hN:X.Nd)(xr:X.N[i]?=!x)(hx:Loc X.env.scope x)(hf:X.fn x=true\/X.env.scope.names.lookup x=!.local) :
  PS X (.Assign [.Name x px] (.ListComp elt [#[tg,iter,ifs,0]] scope pos) wt) (yV (ym wi c7 (-N') g tc te) (vF i)):=by
 intro pi s U H D I h;let zK:∃b,swapsWith (.ListComp elt [#[tg,iter,ifs,0]] scope pos) (!.Name x px) wt.line X.env=pure b:=#[_,rfl]
 let#[b,zK]:=zK;cases b with
 |false=>show Qt hN xr hx (Oa S hc hi hg ht he hs) zK hf pi s U H D I h
 |true =>
  rw[exec_Assign_Name_used _ _ _ _ zK];show aa (eR (aa ?_));show aa (bE (jC rfl hs S.qu S.kind S.names
   (cN (hi pi s U H _ I h) λxv bU ee=>cN ee λuN fU jL=>?_)) (λy s' hq=>ao (ao hq)) λy y e=>e)
  let#[it,fp,tn,J,H2,e,I2,T,kT,f2,W,#[m0,w0],turn]:=jL;subst e;show MB (Gg (Q:=λv H1=>vF i v U H1 D.nx) S hc (λC s H=>hg pi C s H fp) (λC s H=>ht pi C s H fp) (λC s H=>he pi C s H fp) I2 T kT f2 w0 turn ?_ λy y y y y z=>z.elim);intro Dl C s' H' m I' q hn hC ia;show wpAny_assign_Name (Qm I' hN xr hx (v:=.ref Dl) rfl (?_) hf);rintro s3 I3 ⟨a,sb,ha⟩;let TZ:C≠a:=by
   let#[f0,f1,f2,f3,f4,f5]:=I2.rV (H':=H') ia hC;rcases ha with z|z
   .rw[z];show f1
   .exact λz'=>f4 _ _ z z'.symm
  let#[f0,f1,f2,f3,f4,f5]:=I2.rV (H':=H') ia hC;show#[m,hn.sameBut sb TZ,λh3 RA=>#[_,H',I3.turned (t':=s3.toks) (λb o hb e=>RA.extBut b o hb e) f0 f1 f3 f4 f5,q]]
end
end L2
namespace HT
open PySem PyProof.Rows
section
variable{prog:Program}{w:World}{A:Around}{E:Value->Shared->Prop}{s:Shared}
def WM{t b:Addr}{ws:@&Value}{Q:Value->Shared->Prop}(ht:IsTup s.heap t (List.toArray []))(hb:IsTup s.heap b ws.toArray)(h1:Q (.ref b) s):wpAny (model prog w) A (binaryOp .Add (.ref t) (.ref b)) Q E s:=by
 let#[#[cls,dd,data,sl],ho,hc,n,hd]:=id ht;let#[#[ya,rP,data2,mh],jN,rB,n2,hd2]:=id hb;simp only at hc hd rB hd2;subst hc hd rB hd2;show concat_meets #[_,ho,rfl] #[_,jN,rfl] jV nA ji iP (iC _ _)
   (tuple_addW0 t b (List.toArray []) ws.toArray n n2 dd rP sl mh rfl) #[ho,jN,h1]
def ai4{t sl:Addr}{items:Array Value}{vl vu:Value}{lo hi:Option Int}{Q:Value->Shared->Prop}(ht:IsTup s.heap t items)(hs:s.heap.IsSliceOf sl vl vu .none)(pl:IsPart vl lo)(pu:IsPart vu hi)(hw:eL items.size 0 lo=0/\eL items.size items.size hi=items.size)(h:Q (.ref t) s):wpAny (model prog w) A (getItem (.ref t) (.ref sl)) Q E s:=by
 let#[os,sT,rA,xy]:=id hs;let DF:s.TypeIs (.ref sl) "slice":=#[os,sT,rA]
 unfold getItem
 try with_reducible show bB ?_
 show aa (wpAny_sequenceKey ht.typeIs ∅ ?_);show aa (fR ht.typeIs bY
  (cz bY ht.typeIs entry_tuple_getitem ?_ (args_tuple_getitem _ _)))
 change wpAny _ _ (Builtin.Tuple.tupleItemsOf (.ref t) >>= _) _ _ s;show aa (tupleItemsOf_ ht ?_);show aa (fz DF ?_);show aa (X2 hs pl pu ?_);let CD:((((eL items.size 0 lo:Nat):Int)==0&&(1:Int)==1&&(eL items.size items.size hi-eL items.size 0 lo)==items.size)=true):=by
  simp_all
 change wpAny _ _ (if(((eL items.size 0 lo:Nat):Int)==0&&(1:Int)==1&&(eL items.size items.size hi-eL items.size 0 lo)==items.size)=true then _ else _) _ _ s;rw[az CD];show aa (aa (fz ht.typeIs (ao ?_)))
 first
  |show wpAny_bind (wpAny_rule (wpAny_bind (wpAny_pure #[_,rfl,wpAny_pure h])))
  |show wpAny_bind (wpAny_rule (wpAny_pure #[_,rfl,wpAny_pure h]))
  |show wpAny_bind (wpAny_rule (wpAny_bind (wpAny_pure (wpAny_pure #[_,rfl,wpAny_pure h]))))
end
end HT
namespace L2
open PySem PySem.Spec PyProof.Rows
section
variable{X:Cx}
def bL2(K:PySem.W.Frag):R2:=λx y H Q=>∃a b xs ys,x=.ref a/\y=.ref b/\ja K H a xs/\ja K H b ys/\-xs+-ys<=sizeLine /\
 (xs=[]->Q (.ref b) H)/\(ys=[]->Q (.ref a) H)/\(∀p,H p=none->Q (.ref p) (upd H p (.tup (xs++ys))))
def Xy:gk X (binaryOp .Add) (bL2 X.K):=by
 intro pi s U H x y v u Q I rx ry h;let#[a,b,xs,ys,rfl,rfl,ha,hb,hz,q0,q1,q2]:=h;by_cases hx:xs=[]
 .subst hx;cases rx;cases ry;let#[bo,r1,p1,_]:=I.tuple ha;let#[ox,r2,p2,_]:=I.tuple hb;cases r1;show HT.WM p1 p2 #[.ref b,H,I,rfl,q0 rfl]
 .exact bA9 pi s U H _ _ v u Q I rx ry #[a,b,xs,ys,rfl,rfl,ha,hb,hx,hz,q1,λz=>q2]
abbrev ZS(K:PySem.W.Frag):V->Option Int->Option Int->Hp->VK->Prop:=λx lo hi H Q=>∃a xs,x=.ref a/\ja K H a xs /\
 (qx xs lo hi=xs->Q (.ref a) H)/\∀p,H p=none->Q (.ref p) (upd H p (.tup (qx xs lo hi)))
def Wo:yZ X (ZS X.K):=by
 intro pi s U H x v vl vu lo hi sl Q I rx hs pl pu h;let#[a,xs,rfl,hx,q0,q]:=h;by_cases hw:HT.eL (-xs) 0 lo=0/\HT.eL (-xs) (-xs) hi=-xs
 .cases rx;let#[bo,r,ht,hz]:=I.tuple hx;let hlen:bo.toArray.size=-xs:=by show r.length.symm
  show#["tuple",_,bY.lookup,ht.typeIs,?_];show HT.ai4 ht hs pl pu (by rw[hlen];show hw) #[.ref a,H,I,rfl,q0 (by unfold qx;simp_all)]
 .exact bI7 pi s U H _ v vl vu lo hi sl Q I rx hs pl pu #[a,xs,rfl,hx,hw,q]
def aT3:u4 X (.builtin "isinstance") (λxs H Q=>∃x t c b,xs=[x,.ty c]/\iK X.K H x t/\PySem.W.kitOne X.K t (.type c)=!b/\Q (.bl b) H):=by
 intro pi s U H xs us Q I r h;let#[x,t,c,b,rfl,hT,hk,q]:=h;let#[u,w',rfl,ru,gI]:=vals2 r;cases (show w'=Value.type c from gI);show Za I ru hT hk λtk=>#[.bl b,H,I.tok tk,rfl,q]
def YJ(hc:X.calm=true):u4 X (.builtin "all") (λxs H Q=>∃(a:Addr) (bs:@&Bool),xs=[.ref a]/\gw X.K H a (bs.map V.bl)/\Q (.bl (bs.all id)) H):=by
 intro pi s U H xs us Q I r h;let#[a,bs,rfl,ha,q]:=h;let#[u,rfl,ru]:=vals1 r;cases ru;let#[bo,rv,p,hz]:=I.list ha;show call_all_walk ?_;show jw p.isList ?_;let fh:a≠s⁻¹:=by
  let#[o,e,_]:=id p.isList;show aT (aF e)
 let hl:=-rv;rw[ah] at hl;show#[s⁻¹,_,_,_,_,_,λi=>bs.getD i true,rfl,Walks.list (A:=X.A.in1) (I.ok.hd hc) _ a fh bo.toArray,#[#[_,aJ _ rfl,rfl,rfl],?_],?_,λh' tk k=>?_]
 .let#[o,e,q1]:=id p.isList;show#[o,av _ e,q1]
 .intro i v s' Q' E' hP hQ;let hv:bo[i]?=!v:=by simpa using hP
  let hi:i< -bs:=by rw[hl];show(ak.mp hv).1
  let#[u',xa,Ci]:=rv.get (by rw[aj,ag hi];rfl);rw[hv] at xa;cases xa;cases (show v=Value.bool bs[i] from Ci);show cQ ?_;have:bs.getD i true=bs[i]:=by simp[List.getD,hi]
  dsimp only at hQ;rw[this] at hQ;show hQ
 .let e1:(List.range bo.toArray.size).all (λi=>bs.getD i true)=bs.all id:=by
   rw[aV,<- hl];rw[bq];simp only[List.all_eq_true,List.mem_range,id];constructor
   .intro hh x hx;let#[i,hi,rfl]:=cX.mp hx;have:=hh i hi;simpa[List.getD,hi] using this
   .intro hh i hi;have:=hh bs[i] (cH hi);simpa[List.getD,hi] using this
  rw[e1];show #[.bl (bs.all id),H,I.kept (t':=tk) λb o e=>k b o (by
   intro hb;have:b=s⁻¹:=by simpa using hb
   show absurd (aF e) (by rw [this];show cq _)) (av _ e),rfl,q]
end
end L2
namespace HT
open PySem PyProof.Rows
end HT
namespace L2
open PySem PySem.Spec PyProof.Rows
variable{X:Cx}{pos p:Pos}{w:World}{H H':Hp}{U:St}{s s':Shared}{B:Heap}{ea C L:Addr}{a0:Value}{l:@&Env}{Ξ:XK}{A:Around}{M:Model}{ta:TA}
def m8.get{P:Program}{h:Heap}{a:Addr}:∀{o:HO},m8 P w H h a o->∃ob,h.get? a=!ob
 |.lst _,x=>by let#[_,_,_,_,e]:=x;show#[_,e]
 |.tup _,x=>by let#[_,_,_,o,e,_]:=x;show#[o,e]
 |.dK _,x=>by let#[_,_,_,_,o,es,ep,e,_]:=x;show#[o,e]
 |.dT _,x=>by let#[_,_,_,_,o,es,ep,e,_]:=x;show#[o,e]
 |.set _ _,x=>by let#[o,es,ep,t,e,_]:=x;show#[o,e]
 |.ins _ _ _,x=>by let#[_,_,_,e,_]:=x;show#[_,e]
 |.own _,x=>x
 |.xd _,x=>by let#[mA,n,_]:=x;let#[od,e,_]:=PY n;show#[od,e]
 |.nG _ _,x=>by let#[_,_,_,e]:=x;show#[_,e]
 |.kC _ _,x=>#[_,x.1]
 |.qT _,x=>#[_,x]
 |.met _ _,x=>#[_,x]
 |.ext _,x=>x.2.1
abbrev HD(H':Hp)(h0:Heap)(l:@&Env)(e:Value)(C:Addr)(h:Heap):Prop :=
 ∃(ea:Addr) (a0:Value) (B:Heap),e=.ref ea/\Heap.FlyingW B l ea (.ref C) a0 h/\∀b o,h.get? b=!o->b∉gu l->(H' b≠none\/∃o0,h0.get? b=!o0)->B.get? b=!o
abbrev iB(P:Program)(w:World):pb:=λouter H s E e s'=>∃(C:Addr) (H':Hp),s'.os=s.os/\AllBare s'.gens/\Un (gu outer) [] H H' s.heap s'.heap/\gR P w H' s'.heap/\HD H' s.heap outer e C s'.heap/\E (.ref C) none H'
section
variable{pi:@&(Addr×Obj)}{E:XK}{e:Value}
def Inv.flew(I:Inv X pi U H s)(h:iB X.prog X.w X.stack H s E e s'):∃C H',Inv X pi U H' s'/\HD H' s.heap X.stack e C s'.heap/\E (.ref C) none H':=by
 let#[C,H',ho,hb,hu,bV,fl,hE]:=h;show#[C,H',I.HJ ho hu bV hb #[_],fl,hE]
def AV(I:Inv X pi U H s){b:Addr}(hb:b∈gu X.stack):∃o,s.heap.get? b=!o/\∀vs,o.data≠.fields vs:=(I.stack.mem hb).2
def HM{pG:Heap}(I:Inv X pi U H s)(fF:X.stack=X.env::X.outer)(hex:X.ex=[])(hf:X.env.frame=!X.env.locals)(qd:∀b o,s.heap.get? b=!o->b∉gu X.stack->(H b≠none\/∃o0,X.dJ.heap.get? b=!o0)->B.get? b=!o)(sl:∀b∈gu X.stack,∀o,s.heap.get? b=!o->∃sl,pG.get? b=some { o with slots:=sl })(fw:Heap.FlyingW B X.outer ea (.ref C) a0 pG)(hE:E (.ref C) none H):iB X.prog X.w X.outer X.ka X.dJ E (.ref ea) { s with heap:=pG }:=by
 let lQ:∀b,b∈gu X.outer->b∈gu X.stack:=λb hb=>by rw[fF];unfold gu at hb ⊢;rw[dO,hf];show bZ _ hb
 let wH:∀b o,X.dJ.heap.get? b=!o->b∉gu X.outer->b∉gu X.stack:=λb o e hb z=>by
  rcases aM.mp (I.U4 b z) with z|z
  .exact absurd (aF e) (by rw[z];show QZ.mpr I.ok.above)
  .exact hb z
 let pZ:∀b u,H b=!u->b∉gu X.stack:=λb u e z=>by rw[I.AS b z] at e;cases e
 let kept:∀b o,s.heap.get? b=!o->b∉gu X.stack->(H b≠none\/∃o0,X.dJ.heap.get? b=!o0)->pG.get? b=!o:=λb o e n q=>fw.1 b o (qd b o e n q);let wJ:∀b,b∉X.ex:=λb=>by rw[hex];simp
 show#[C,H,I.os,I.bare,#[?_,?_,?_,?_,I.base.iV,I.base.iH,I.base.iW],?_,#[ea,a0,B,rfl,fw,?_],hE]
 .exact λb o e n1 n2 x=>kept b o (I.base.keep b o e n1 n2 (wJ b)) (wH b o e n2) (.inr #[o,e])
 .intro b o e n1 n2 _;let#[Ry,e1]:=I.base.slot b o e n1 n2 (wJ b);let#[mh,e2]:=sl b (lQ b n2) _ e1;show#[mh,e2]
 .exact λb o e n1 x=>I.base.free b o e n1 (wJ b)
 .intro b o e _;let#[o1,e1]:=I.base.there b o e (wJ b);by_cases hb:b∈gu X.stack
  .let#[mh,e2]:=sl b hb _ e1;show#[_,e2]
  .exact#[o1,kept b o1 e1 hb (.inr #[o,e])]
 .intro a o e;show (I.bV a o e).K0 (λb u hb q=>by
   let kz:∃v,H b=!v:=by
    rcases hb with rfl|hb
    .exact#[o,e]
    .exact#[_,hb]
   let#[v,hv]:=kz;show kept b u q (pZ b v hv) (.inl (by rw [hv];simp))) (λb hb=>hb) (λb xs hb=>hb)
 .intro b o e n q;rcases q with q|⟨o0,q⟩
  .let#[v,hv]:=pS.mp q;let#[o1,e1]:=(I.bV b v hv).get;let z:=qd b o1 e1 (pZ b v hv) (.inl (by rw[hv];simp));let z':=fw.1 b o1 z;have:o=o1:=by
    let e':pG.get? b=!o:=e;rw[z'] at e';show(aO e').symm
   subst this;show z
  .let#[o1,e1]:=I.base.there b o0 q (wJ b);let z:=qd b o1 e1 (wH b o0 q n) (.inr #[o0,q]);let z':=fw.1 b o1 z;have:o=o1:=by
    let e':pG.get? b=!o:=e;rw[z'] at e';show(aO e').symm
   subst this;show z
def aN4{h0:Heap}{Ex:Value->Shared->Prop}(I:Inv X pi U H s)(fl:HD H h0 X.stack e C s.heap)(UG:∀b o,X.dJ.heap.get? b=!o->∃o',h0.get? b=!o')(fF:X.stack=X.env::X.outer)(hex:X.ex=[])(hf:X.env.frame=!X.env.locals)(hE:E (.ref C) none H):wpAny (model X.prog X.w) X.A (leaving X.env e) (λx qa=>iB X.prog X.w X.outer X.ka X.dJ E e qa) Ex s:=by
 let#[ea,a0,B,rfl,fw,hB]:=fl;rw[fF] at fw;show wpAny_leaves_onW (by rw[I.ok.frames,fF]) hf fw λpG tT us=>?_;show HM I fF hex hf (λb o e n q=>hB b o e n (q.imp id (by rintro ⟨o0,q⟩;show UG b o0 q))) (λb hb o e=>?_) tT hE;let#[o1,e1,nf]:=AV I hb;rw[e] at e1;cases e1;show us b o e nf
def a20{h':Heap}{vs:@&Value}{Ex:Value->Shared->Prop}(I:Inv X pi U H s)(hx:Heap.MadeExcOf s.heap h' ea (.ref C) vs)(fF:X.stack=X.env::X.outer)(hex:X.ex=[])(hf:X.env.frame=!X.env.locals)(hE:E (.ref C) none H):wpAny (model X.prog X.w) X.A (leaving X.env (.ref ea)) (λx qa=>iB X.prog X.w X.outer X.ka X.dJ E (.ref ea) qa) Ex { s with heap:=h' }:=by
 let uZ:=I.stack;rw[fF] at uZ;let mZ:∀env∈(X.env::X.outer),∀b,env.frame=!b->b∈gu X.stack:=λenv he b hb=>by rw[fF];show fC.mpr #[env,he,hb]
 show wpAny_leaves_madeW (by rw[I.ok.frames,fF]) hf (λb o q=>QX _ q) (PySem.W.funFrames_hide uZ mZ) hx λpG t fw x x us=>?_;show(show iB X.prog X.w X.outer X.ka X.dJ E (.ref ea) { s with heap:=pG } from HM I fF hex hf (λb o e n x=>Ii _ e n) (λb hb o e=>?_) fw hE);let#[o1,e1,nf]:=AV I hb;rw[e] at e1;cases e1;show us b o (hx.keeps b o e) nf
def YA{h0 h h1:Heap}{Pg:Program}(u:Un (gu l) [] H H' h0 h)(ok:gR Pg w H' h)(hB:∀b o,h.get? b=!o->b∉gu l->(H' b≠none\/∃o0,h0.get? b=!o0)->B.get? b=!o)(st:B.StaysIn h1)(us:h.UpToSlots h1)(uY:∀b∈gu l,H' b=none/\∃o,h.get? b=!o/\∀vs,o.data≠.fields vs):Un (gu l) [] H H' h0 h1/\gR Pg w H' h1/\∀b o,h1.get? b=!o->b∉gu l->(H' b≠none\/∃o0,h0.get? b=!o0)->B.get? b=!o:=by
 let pZ:∀b u,H' b=!u->b∉gu l:=λb u e z=>by rw[(uY b z).1] at e;cases e
 let kept:∀b o,h.get? b=!o->b∉gu l->(H' b≠none\/∃o0,h0.get? b=!o0)->h1.get? b=!o:=λb o e n q=>st b o (hB b o e n q);let Ki:∀b∈gu l,∀o,h.get? b=!o->∃sl,h1.get? b=some { o with slots:=sl }:=λb hb o e=>by
  let#[_,o1,e1,nf]:=uY b hb;rw[e] at e1;cases e1;show us b o e nf
 show#[#[?_,?_,u.free,?_,u.iV,u.iH,u.iW],?_,?_]
 .exact λb o e n1 n2 n3=>kept b o (u.keep b o e n1 n2 n3) n2 (.inr #[o,e])
 .intro b o e n1 n2 n3;let#[Ry,e1]:=u.slot b o e n1 n2 n3;let#[mh,e2]:=Ki b n2 _ e1;show#[mh,e2]
 .intro b o e n;let#[o1,e1]:=u.there b o e n;by_cases hb:b∈gu l
  .let#[mh,e2]:=Ki b hb _ e1;show#[_,e2]
  .exact#[o1,kept b o1 e1 hb (.inr #[o,e])]
 .intro a o e;show (ok a o e).K0 (λb u hb q=>by
   let kz:∃v,H' b=!v:=by
    rcases hb with rfl|hb
    .exact#[o,e]
    .exact#[_,hb]
   let#[v,hv]:=kz;show kept b u q (pZ b v hv) (.inl (by rw [hv];simp))) (λb hb=>hb) (λb xs hb=>hb)
 .intro b o e n q;have:∃o1,h.get? b=!o1:=by
   rcases q with q|⟨o0,q⟩
   .let#[v,hv]:=pS.mp q;show(ok b v hv).get
   .exact u.there b o0 q #[_]
  let#[o1,e1]:=this;let z:=hB b o1 e1 n q;rw[st b o1 z] at e;cases e;show z
structure Lies(X:Cx)(H H':Hp)(s:Shared)(B:Heap)(ea C:Addr)(a0:Value)(s':Shared):Prop where
 os:s'.os=s.os
 bare:AllBare s'.gens
 un:Un (gu X.stack) [] H H' s.heap s'.heap
 bV:gR X.prog X.w H' s'.heap
 qd:∀b o,s'.heap.get? b=!o->b∉gu X.stack->(H' b≠none\/∃o0,s.heap.get? b=!o0)->B.get? b=!o
def Lies.inv(I:Inv X pi U H s)(l:Lies X H H' s B ea C a0 s'):Inv X pi U H' s':=I.HJ l.os l.un l.bV l.bare #[_]
def leave_held{Ex:Value->Shared->Prop}(I:Inv X pi U H s)(l:Lies X H H' s B ea C a0 s')(hh:Heap.HeldW B X.stack ea (.ref C) a0 X.env.locals s'.heap)(fF:X.stack=X.env::X.outer)(hex:X.ex=[])(hf:X.env.frame=!X.env.locals)(hE:E (.ref C) none H'):wpAny (model X.prog X.w) X.A (leaving X.env (.ref ea)) (λx qa=>iB X.prog X.w X.outer X.ka X.dJ E (.ref ea) qa) Ex s':=by
 let J:=l.inv I;let Dq:=hh;rw[fF] at Dq;show aa (wpAny_noteFrame_againW hf Dq.2.2.2 ?_);show wpAny_landsW Dq λpG fl us=>?_;let#[k1,k2,#[_,_,k3],k4]:=fl;show HM J fF hex hf (λb o e n q=>l.qd b o e n (q.imp id (by rintro ⟨o0,q⟩;show I.base.there b o0 q (by rw[hex];simp)))) (λb hb o e=>?_) #[k1,k2,k3,k4] hE;let#[o1,e1,nf]:=AV J hb;rw[e] at e1;cases e1;show us b o e nf
def AE(X:Cx)(Ξ:XK):Prop:=∀(pi:@&(Addr×Obj)) (U:St) (H:Hp) (s:Shared) (h':Heap) (ea C:Addr) (vs:@&Value),Inv X pi U H s->Heap.MadeExcOf s.heap h' ea (.ref C) vs->Ξ (.ref C) none H->X.xe (.ref ea) { s with heap:=h' }
def vK(X:Cx)(Ξ:XK):Prop:=∀(pi:@&(Addr×Obj)) (U:St) (H H':Hp) (s s':Shared) (B:Heap) (ea C:Addr) (a0:Value),Inv X pi U H s->Lies X H H' s B ea C a0 s'->Heap.HeldW B X.stack ea (.ref C) a0 X.env.locals s'.heap->Ξ (.ref C) none H'->X.xe (.ref ea) s'
def bH1(C:Addr)(Ξ:XK)(t:TA):TS:=λx U H=>t U H λvs H1=>-vs<=sizeLine/\Ξ (.ref C) none H1
def XR{x:Str}{B newId ip:String}{bm:@&Value}{np eQ:Pos}{kE:Expr}{rest:@&Expr}{t:TA}(hc:X.calm=true)(O:OwnCls x C bm newId X.mg X.base)(FB:ExcBaseFacts B newId ip bm)(hg:Gl X x)(ha:PA X (kE::rest) t)(hr:AE X Ξ)(he:starEach (kE::rest) X.env=(false,eval kE X.env)::starEach rest X.env)(fq:(backTo eQ (starEach rest X.env)).any (·.1)=false)(hd:(x==("__debug__":Str))=false) :
  PS X (.Raise (!.Call (.Name x np) (kE::rest) [] eQ) none pos) (bH1 C Ξ t):=by
 intro pi s U H D I h;let#[tl,N,nm,q,bs,hdct,sn,sub,ab,col,dd,k0,k1,k2,k3,k5,mN,hC,hN,zM,T]:=O.obj;show wpAny_Raise_call_subT (nm:=nm) (q:=q) (N:=N) (bs:=bs) (hdct:=hdct) (sn:=sn) (sub:=sub) (ab:=ab) (col:=col) (dd:=dd) (k0:=k0) (k1:=k1) (k2:=k2) (k3:=k3) (k5:=k5)
  FB (T.hasType FB.hasBase) (I.ok.hd hc) (by rw[he];show(false||(backTo eQ (starEach rest X.env)).any (·.1))=false;rw[fq];rfl) zM (T4 I hg O.bound #[rfl,?_] hd)
 let h':=ha eQ pi s U H _ I h;rw[he] at h' ⊢;show hX (bE h' (λvs fU jL=>?_) λz z y=>y);let#[ws,H1,I1,rv,hz,hE]:=jL;show#[rfl,by rw[<- -rv];show hz,I1.bk _ _ hC,hN.keeps I1.bk,T.keeps I1.bk,λh2 ea hm=>hr pi U H1 fU h2 ea C vs I1 hm hE]
def Y7(X:Cx)(pi:@&(Addr×Obj))(xe:Value->Shared->Prop)(o:Option St:=none):Cx:={ X with pn:=X.pn++pi,xe:=xe,sg:=o }
def O3(X:Cx)(ea:Addr):Cx:={ X with A:=X.A.mark (!.ref ea),calm:=false,xe:=λx x=>False,sg:=none }
def Inv.bV5{xe:Value->Shared->Prop}{o:Option St}(ho:∀τ,o=!τ->U=τ)(I:Inv X pi U H s):Inv (Y7 X pi xe o) [] U H s :=
 #[#[I.ok.mod,I.ok.kind,I.ok.glob,I.ok.blt,I.ok.above,I.ok.inj,I.ok.has,I.ok.rQ,I.ok.hd,I.ok.frames,I.ok.sv,I.ok.xO,I.ok.bs,I.ok.oX,I.ok.kX,I.ok.lZ,I.ok.O8,I.ok.pH],I.os,I.bare,I.base,I.loc,I.cell,I.free,I.fj,
  λp hp=>I.pin p (by simpa [Y7] using hp),I.bV,I.len,ho]
def Inv.uq{xe:Value->Shared->Prop}{o:Option St}{fV:@&(Addr×Obj)}(hs:X.sg=none)(I:Inv (Y7 X pi xe o) fV U H s):Inv X pi U H s :=
 #[#[I.ok.mod,I.ok.kind,I.ok.glob,I.ok.blt,I.ok.above,I.ok.inj,I.ok.has,I.ok.rQ,I.ok.hd,I.ok.frames,I.ok.sv,I.ok.xO,I.ok.bs,I.ok.oX,I.ok.kX,I.ok.lZ,I.ok.O8,I.ok.pH],I.os,I.bare,I.base,I.loc,I.cell,I.free,I.fj,
  λp hp=>I.pin p (eP _ hp),I.bV,I.len,λx z=>by simp_all]
def Inv.QA(I:Inv X pi U H s):Inv (O3 X ea) pi U H s :=
 #[#[I.ok.mod,I.ok.kind,I.ok.glob,I.ok.blt,I.ok.above,I.ok.inj,I.ok.has,I.ok.rQ,λz=>(by cases z),I.ok.frames,I.ok.sv,I.ok.xO,I.ok.bs,I.ok.oX,I.ok.kX,I.ok.lZ,I.ok.O8,I.ok.pH],I.os,I.bare,I.base,I.loc,I.cell,I.free,I.fj,I.pin,I.bV,I.len,λdn z=>absurd (show(none:Option St)=some dn from z) #[_]]
def Inv.vQ(hs:X.sg=none)(J:X.Ok)(I:Inv (O3 X ea) pi U H s):Inv X pi U H s :=
 #[J,I.os,I.bare,I.base,I.loc,I.cell,I.free,I.fj,I.pin,I.bV,I.len,λx z=>by simp_all]
def SP.uq{xe:Value->Shared->Prop}{o:Option St}{D:Ends}{f:Flow}(hs:X.sg=none)(h:SP (Y7 X pi xe o) [] D f s):SP X pi D f s:=by
 cases f with
 |next=>let#[a,b,I,q]:=h;show#[a,b,I.uq hs,q]
 |brk=>let#[a,b,I,q]:=h;show#[a,b,I.uq hs,q]
 |cont=>let#[a,b,I,q]:=h;show#[a,b,I.uq hs,q]
 |ret u=>let#[v,a,b,I,r,q]:=h;show#[v,a,b,I.uq hs,r,q]
def SP.vQ{ea:Addr}{D:Ends}{f:Flow}(hs:X.sg=none)(J:X.Ok)(h:SP (O3 X ea) pi D f s):SP X pi D f s:=by
 cases f with
 |next=>let#[a,b,I,q]:=h;show#[a,b,I.vQ hs J,q]
 |brk=>let#[a,b,I,q]:=h;show#[a,b,I.vQ hs J,q]
 |cont=>let#[a,b,I,q]:=h;show#[a,b,I.vQ hs J,q]
 |ret u=>let#[v,a,b,I,r,q]:=h;show#[v,a,b,I.vQ hs J,r,q]
abbrev uj(X:Cx)(D:Ends)(dn:St)(C:Addr)(H:Hp):@&ExceptHandler->Prop
 |.ExceptHandler (!.Name x _) none (yd::qU) _::rest=>Gl X x/\(x==("__debug__":Str))=false/\∃C' b,X.mg x=!.ref C'/\PySem.W.exmOne X.K (.ref C) (.ref C')=!b /\
   (if b=true then ∃t:TS,(∀ea,jR (O3 X ea) (yd::qU) t)/\t D dn H else uj X D dn C H rest)
 |[]=>∃Ξ:XK,vK X Ξ/\Ξ (.ref C) none H
 |_=>False
end
section
variable{pi:@&(Addr×Obj)}{e:Value}{D:Ends}
abbrev Bw(X:Cx)(pi:@&(Addr×Obj))(D:Ends)(hs:@&ExceptHandler):Value->Shared->Prop:=λe bU =>
 wpAny (model X.prog X.w) X.A (noteFrame e X.env) (λx fU=>wpAny (model X.prog X.w) X.A (setFlight e none) (λx fM=>wpAny (model X.prog X.w) X.A (handleBy e X.env hs) (SP X pi D) X.xe fM) X.xe fU) X.xe bU
def Lies.step{h1:Heap}(I:Inv X pi U H s)(l:Lies X H H' s B ea C a0 s')(st:B.StaysIn h1)(us:s'.heap.UpToSlots h1):Lies X H H' s B ea C a0 { s' with heap:=h1 }:=by
 let J:=l.inv I;let#[u,ok,ib]:=YA l.un l.bV l.qd st us λb hb=>#[J.AS b hb,AV J hb]
 show#[l.os,l.bare,u,ok,ib]
def aS6{cls:Value}{E:Value->Shared->Prop}{Q:Unit->Shared->Prop}(fw:Heap.FlyingW B l ea cls a0 s.heap)(h:∀h',Heap.HeldW B l ea cls a0 L h'->(∀b o,s.heap.get? b=!o->(∀vs,o.data≠.fields vs)->h'.get? b=!o)->Q Unit.unit { s with heap:=h' }):wpAny M A (setFlight (.ref ea) (!L)) Q E s:=by
 let#[f1,f2,f3,oe,vs,T,oT,ts,he,ky,hd,h1,sV,tE,hT,pC,h3]:=fw;let xb:=(pW.mp h3).1;let other:∀b,b≠T->(s.heap.update T (Obj.mapFields (·.setIfInBounds 3 ((!L).elim Value.none λf=>rawInt f)))).get? b=s.heap.get? b :=
  λb hb=>bT _ _ (bR hb)
 let kY:∀b o,s.heap.get? b=!o->(∀vs,o.data≠.fields vs)->b≠T:=λb o hb xj q=>by
  rw[q,hT] at hb;injection hb with hb;subst hb;show xj ts pC
 show aa (gW he hd h1 ?_);show dE hT pC xb (h _ #[λb o Tw=>(other b λq=>by simp_all).trans (f1 b o Tw),f2,
  f3.of_keeps λb o hb xj=>#[o,(other b (kY b o hb xj)).trans hb,rfl],?_] λb o hb xj=>(other b (kY b o hb xj)).trans hb)
 show#[oe,vs,T,_,_,(other ea (bR tE)).trans he,ky,hd,h1,sV,tE,bh _ hT (cW (bC pC _)),bC pC _,by simp[xb]]
set_option tactic.hygienic true in
def PK{B:Heap}{ea C:Addr}{a0:Value}{dn:St}(pv:X.sg=none)(hf:X.env.frame=!X.env.locals)(zP:-dn=-U)(zH:∀(i:Nat) v,dn[i]?=!!v->U[i]?=!!v):∀(hs:@&ExceptHandler) (s':Shared),Inv X pi U H s->Lies X H H' s B ea C a0 s'->Heap.FlyingW B X.stack ea (.ref C) a0 s'.heap->uj X D dn C H' hs ->
  wpAny (model X.prog X.w) X.A (handleBy (.ref ea) X.env hs) (SP X pi D) X.xe s'
 |[],s',I,l,fw,t=>by
  let#[Ξ,hh,hE]:=t;show wpAny_handleBy_nil ?_;let#[f1,f2,f3,oe,vs,T,oT,ts,he,ky,hd,h1,_]:=id fw;show aa (gW he hd h1 ?_);rw[aA #[_],hf];show aa (aS6 fw λh2 held k=>wpAny_throw ?_);let l2:=l.step I held.1 (λb o hb hn=>#[o.slots,k b o hb hn]);show hh pi U H H' s _ B ea C a0 I l2 held hE
 |.ExceptHandler none _ _ _::_,_,_,_,_,t=>t.elim
 |.ExceptHandler (!e) nm bd pos::rest,s',I,l,fw,t=>by
  cases e
  case Name x np =>
   cases nm with
   |some y=>show t.elim
   |none =>
    cases bd with
    |nil=>show t.elim
    |cons yd qU =>
     let#[hg,iL,C',b,hm,hx,q]:=t;let J:=l.inv I;let JM:Inv (O3 X ea) pi U H' s':=J.QA;let LT:PySem.W.Looks (model X.prog X.w) s'.heap (typeOf (.ref ea)) (.ref C):=λA Q E s2 k q=>by
      let#[ob,ho,hc]:=fw.there;show wpAny_typeOf_ref (k _ _ ho) (by rw[hc];show q)
     show wpAny_handleBy_cons (codeAny_handlers_test ?_) (by intro z;cases z);show T4 JM hg hm ?_ iL;show(PySem.W.exm_one J.gT LT hx).here ?_;cases b with
     |false =>
      show PK pv hf zP zH rest s' I l fw q
     |true =>
      let#[t,ht,hq]:=q;show codeAny_handlers_suite ?_;show wpAny_setFlight_noneW fw.1 fw.2.2.1 fw.2.2.2.at λh2 k1 k2 k3 k4=>?_;let l2:=l.step I k1 (λb o hb hn=>#[o.slots,k4 b o hb hn]);let J2:=l2.inv I;let J3:Inv (O3 X ea) pi dn H' { s' with heap:=h2 }:=(Inv.weak pv J2 zP zH).QA;show bE (ht ea pi _ _ H' D J3 hq) (λf s2 hf=>hf.vQ pv I.ok) λu u z=>z.elim
  all_goals show t.elim
def Xz{hs:@&ExceptHandler}{o:Option St}{dn:St}(pv:X.sg=none)(fF:X.stack=X.env::X.outer)(hf:X.env.frame=!X.env.locals)(wY:∀U:St,(-U)=-X.N->(∀τ,o=!τ->U=τ)->-dn=-U/\∀(i:Nat) v,dn[i]?=!!v->U[i]?=!!v)(hT:∀C H',Ξ (.ref C) none H'->uj X D dn C H' hs) :
  Passes (iB X.prog X.w) (Y7 X pi (Bw X pi D hs) o) Ξ:=by
 intro fV U H s e s' I0 h;let I:=I0.uq pv;let#[zP,zH]:=wY U I.len I0.sg;let#[C,H',ho,hb,hu,bV,#[ea,a0,B,rfl,fw,hB],hE]:=h;let l:Lies X H H' s B ea C a0 s':=#[ho,hb,hu,bV,hB]
 let fw:Heap.FlyingW B X.stack ea (.ref C) a0 s'.heap:=fw;let tT:=fw;rw[fF] at tT;show wpAny_looks_onW (by rw[I.ok.frames,fF]) hf tT λh1 held us=>?_;let l1:=l.step I held.1 us;show wpAny_landsW held λh2 fl Rk=>?_;let l2:=l1.step I fl.1 Rk;rw[<- fF] at fl;show PK pv hf zP zH hs _ I l2 fl (hT C H' hE)
def bL7{hs:@&ExceptHandler}{h₀:ExceptHandler}{body:@&Stmt}{t:Ends->St->TS}{Ξ:Ends->St->XK}(f:St->Option St)(z:St->St)(hz:∀U τ,f U=!τ->U=τ)(pv:X.sg=none)(hb:∀pi D U,(∀C H',Ξ D U (.ref C) none H'->uj X D (z U) C H' (h₀::hs))->jR (Y7 X pi (Bw X pi D (h₀::hs)) (f U)) body (t D U)) :
  PS X (.Try body (h₀::hs) [] [] pos) (λD U H=>(∀C H',Ξ D U (.ref C) none H'->uj X D (z U) C H' (h₀::hs))/\t D U D U H):=by
 intro pi s U H D I ⟨hT,h⟩;show wpAny_Try_except (bE (hb pi D U hT [] s U H D (I.bV5 (hz U)) h) (λf s1 q=>?_) λe s1 q=>q);let q:=q.uq pv;cases f with
 |next =>
  let#[cv,H',I',q]:=q;show cN (kG #[cv,H',I',q]) λx x z=>z
 |brk=>show q
 |cont=>show q
 |ret u=>show q
end
section
variable{E:Value->Shared->Prop}{env:Env}
def WU{e:Expr}{scope:Scope}{oj first:Sem Value}{g:Comprehension}{gs:@&Comprehension}{cl:@&(Str×Addr)}{Q:Value->Shared->Prop}{RX:Value->Addr->Result->Shared->Prop}(ke:clausesOf e=g::gs)(hs:∀x,foldedSetIterable g.iter env x=pure x)(xC:closureFor scope env=pure cl)(mI:scope.kind=.function)(sU:∀x∈scope.names,x.2=.local->scope.names.lookup x.1=!.local)(ok:∀acc C f s',RX acc C (.ok f) s'->∃m,s'.heap.Ns C m/\∀h',Heap.SameBut C s'.heap h'->Q acc { s' with heap:=h' })(er:∀acc C x s',RX acc C (.error x) s'->∃m,s'.heap.Ns C m/\∀h' m',h'.Ns C m'->Heap.SameBut C s'.heap h'->∀cenv:Env,cenv.frame=env.frame->wpAny M A (PySem.passOn "comprehension.variables-let-go" x cenv:Sem Value) (λw w=>False) E { s' with heap:=h' })(h:wpAny M A first (λx s1=>wpAny M A (pyIter x) (λit s2=>wpAny M A oj (λacc s3=>wpAny M A (newFunctionEnv scope env.globals cl [] env.qual none .none (!env)) (λcenv s4 =>
   cenv.frame=env.frame/\codeAny M A (.compStart e 0 it acc { cenv with scope:=relabel scope env }) (RX acc cenv.locals) s4) E s3) E s2) E s1) E s):wpAny M A (comprehension e scope env pos oj false first none) Q E s:=by
 let keep:∀{α:Type} {m:Sem α} {P P':α->Shared->Prop} {t:Shared},wpAny M A m P E t->(∀a t',P a t'->P' a t')->wpAny M A m P' E t:=λa b=>bE a b λw w z=>z;unfold comprehension;rw[xC,ke];show aa (keep h λx s1 h1=>aa (eR (aa (dR (hs x) (aa (bB (keep h1 λit s2 h2=>wpAny_standIf (aa (keep h2 λacc s3 h3=>aa (ao (aa (keep h3 λcenv s4 h4=>?_))))))))))));let#[uY,h4]:=h4;dsimp only;let hv:∀x∈(scope.names.filter λx=>(x.2==.local||x.2==.cell)&&x.1 != (".0":Str)).reverse,x.2=.local->Env.kindOf { cenv with scope:=relabel scope env } x.1=!.local :=
  λx hx hl=>lookup_relabel_local (sU x (bg.mp (iR.mp hx)).1 hl)
 show bB (aa (QV (bB (wpAny_run (fX h4 λr s5 h5=>?_)))));cases r with
 |ok f =>
  let#[m,n5,q]:=ok _ _ _ _ h5;show aa (bB (wpAny_comp_letGo (cenv:={ cenv with scope:=relabel scope env }) mI _ s5 m hv n5 λh6 m6 w k6=>ao (q h6 k6)))
 |error x =>
  let#[m,n5,q]:=er _ _ _ _ h5;show aa (bB (wpAny_comp_letGo (cenv:={ cenv with scope:=relabel scope env }) mI _ s5 m hv n5 λh6 m6 n6 k6=>bE (q h6 m6 n6 k6 _ uY) (λw w f=>f.elim) λw w y=>y))
end
def Nv{B B' h h2:Heap}{C:Addr}(hB:∀b,b≠C->B'.get? b=B.get? b)(hh:∀b,b≠C->h2.get? b=h.get? b){oC:Obj}(hC:B.get? C=!oC):∀{l:@&Env},h.FunFrames B l->h2.FunFrames B' l
 |[],x=>x
 |env::r,⟨x1,⟨L,o,x2,x3,x4,x5⟩,x6⟩=>by
  let hL:L≠C:=λz=>by rw[z,hC] at x3;cases x3
  show#[x1,#[L,o,x2,(hB L hL).trans x3,(hh L hL).trans x4,x5],Nv hB hh hC x6]
section
variable{pi:@&(Addr×Obj)}
def aS7{cls:Value}{E:Value->Shared->Prop}{Q:Unit->Shared->Prop}(fw:Heap.HeldW B l ea cls a0 L s.heap)(h:∀h',Heap.HeldW B l ea cls a0 L h'->(∀b o,s.heap.get? b=!o->(∀vs,o.data≠.fields vs)->h'.get? b=!o)->Q Unit.unit { s with heap:=h' }):wpAny M A (setFlight (.ref ea) (!L)) Q E s:=by
 let#[f1,f2,f3,oe,vs,T,oT,ts,he,ky,hd,h1,sV,tE,hT,pC,h3]:=fw;let Ka:3<ts.size:=(pW.mp h3).1;let sE:∀b,b≠T->(s.heap.update T (Obj.mapFields (·.setIfInBounds 3 ((!L).elim Value.none λf=>rawInt f)))).get? b=s.heap.get? b:=λb hb=>bT _ _ (bR hb);let IW:∀b o,s.heap.get? b=!o->(∀vs,o.data≠.fields vs)->b≠T:=λb o hb hn q=>by
  simp_all
 show aa (gW he hd h1 ?_);show dE hT pC Ka (h _ #[λb o hb=>(sE b λq=>by simp_all).trans (f1 b o hb),f2,f3.of_keeps λb o hb hn=>#[o,(sE b (IW b o hb hn)).trans hb,rfl],?_] λb o hb hn=>(sE b (IW b o hb hn)).trans hb);show#[oe,vs,T,_,_,(sE ea (bR tE)).trans he,ky,hd,h1,sV,tE,bh _ hT (cW (bC pC _)),bC pC _,by simp[Ka]]
def Lies.vH{h2:Heap}{Cc:Addr}{o o2:Obj}(l:Lies X H H' s B ea Cc a0 s')(held:Heap.HeldW B X.stack ea (.ref Cc) a0 L s'.heap)(sb:Heap.SameBut C s'.heap h2)(zZ:h2.get? C=!o2)(IV:o2.isFreed=false)(hn:H C=none)(hs:s.heap.get? C=!o)(nf:C∉gu X.stack) :
  ∃B',Lies X H H' { s with heap:=s.heap.update C λx=>o2 } B' ea Cc a0 { s' with heap:=h2 }/\Heap.HeldW B' X.stack ea (.ref Cc) a0 L h2:=by
 let#[oC,eC]:=l.un.there C o hs #[_];let n':H' C=none:=l.un.free C o hs hn #[_];let hB:B.get? C=!oC:=l.qd C oC eC nf (.inr #[o,hs]);let b1:(B.update C λx=>o2).get? C=!o2:=bh _ hB IV;let b2:∀b,b≠C->(B.update C λx=>o2).get? b=B.get? b:=λb hb=>bT _ _ (bR hb);let s1:(s.heap.update C λx=>o2).get? C=!o2:=bh _ hs IV;let s2:∀b,b≠C->(s.heap.update C λx=>o2).get? b=s.heap.get? b:=λb hb=>bT _ _ (bR hb);let qo:∀b,b≠C->h2.get? b=s'.heap.get? b:=sb.2;let ne:∀{b:Addr},B.get? b=none->b≠C:=λ{b} h z=>by rw[z,hB] at h;cases h
 let#[f1,f2,f3,oe,vs,T,oT,ts,he,ky,hd,h1,sV,tE,hT,pC,h3]:=held;show#[B.update C λx=>o2,#[l.os,l.bare,#[λb u e n1 n2 n3=>?_,λb u e n1 n2 n3=>?_,λb u e n1 n2=>?_,λb u e n1=>?_,l.un.iV,l.un.iH,l.un.iW],?_,λb u e n1 q=>?_],λb u e=>?_,(b2 ea (ne f2)).trans f2,Nv b2 qo hB f3,oe,vs,T,oT,ts,(qo ea (ne f2)).trans he,ky,hd,h1,(b2 T (ne sV)).trans sV,tE,(qo T (ne sV)).trans hT,pC,h3]
 .by_cases z:b=C
  .subst z;rw[show({ s with heap:=s.heap.update b λx=>o2 }:Shared).heap.get? b=_ from s1] at e;cases e;show zZ
  .exact(qo b z).trans (l.un.keep b u ((s2 b z).symm.trans e) n1 n2 n3)
 .let z:b≠C:=λz=>nf (z▸n2);let#[sl,q]:=l.un.slot b u ((s2 b z).symm.trans e) n1 n2 n3;show#[sl,(qo b z).trans q]
 .by_cases z:b=C
  .subst z;show n'
  .exact l.un.free b u ((s2 b z).symm.trans e) n1 n2
 .by_cases z:b=C
  .subst z;show#[_,zZ]
  .let#[w,q]:=l.un.there b u ((s2 b z).symm.trans e) n1;show#[w,(qo b z).trans q]
 .intro a u e;show (l.bV a u e).K0 (λb w hb q=>by
   have:b≠C:=λz=>by
    rcases hb with rfl|hb
    .rw[z,n'] at e;cases e
    .rw[z,n'] at hb;cases hb
   show (qo b this).trans q) (λb hb=>hb) (λb xs hb=>hb)
 .by_cases z:b=C
  .subst z;rw[show({ s' with heap:=h2 }:Shared).heap.get? b=_ from zZ] at e;cases e;show b1
  .refine(b2 b z).trans (l.qd b u ((qo b z).symm.trans e) n1 ?_);rcases q with q|⟨o0,q⟩
   .exact .inl q
   .exact .inr #[o0,(s2 b z).symm.trans q]
 .by_cases z:b=C
  .subst z;rw[b1] at e;cases e;show zZ
  .exact(qo b z).trans (f1 b u ((b2 b z).symm.trans e))
abbrev Ao(X:Cx)(Ξ:XK)(pi:@&(Addr×Obj))(scope:Scope)(N':@&Str)(cl:@&(Str×Addr))(fp:@&Addr)(C:Addr)(s:Shared)(H:Hp):Value->Shared->Prop :=
 λe s'=>∃mr iU H1 s1,Inv (d0 X pi scope N' cl C s H fp) mr iU H1 s1/\iB X.prog X.w X.stack H1 s1 Ξ e s'
abbrev Mb(X:Cx)(pi:@&(Addr×Obj))(U:St)(Q:VK):Value->Addr->Result->Shared->Prop:=λacc C r s'=>match r with
 |.ok _=>∃m,s'.heap.Ns C m/\∀h',Heap.SameBut C s'.heap h'->EP X pi U Q acc { s' with heap:=h' }
 |.error x=>∃m,s'.heap.Ns C m/\∀h' m',h'.Ns C m'->Heap.SameBut C s'.heap h'->∀cenv:Env,cenv.frame=X.env.frame->wpAny (model X.prog X.w) X.A (PySem.passOn "comprehension.variables-let-go" x cenv:Sem Value) (λy y=>False) X.xe { s' with heap:=h' }
def XH{elt tg iter:Expr}{ifs:@&Expr}{scope:Scope}{N':@&Str}{c7:@&Nat}{cl:@&(Str×Addr)}{wi:TI}{g:TG}{tc:TT}{te:TE}(fF:X.stack=X.env::X.outer)(hf:X.env.frame=!X.env.locals)(hh:vK X Ξ)(S:dg X scope N' c7 cl)(hc:X.calm=true)(hi:PI X tg iter wi)(hg:∀pi C s H fp,PG (d0 X pi scope N' cl C s H fp) tg g)(ht:∀pi C s H fp,lC (d0 X pi scope N' cl C s H fp) ifs tc)(he:∀pi C s H fp,PE ((d0 X pi scope N' cl C s H fp).V1 (Ao X Ξ pi scope N' cl fp C s H)) elt te)(hs:∀x,foldedSetIterable iter X.env x=pure x):PE X (.ListComp elt [#[tg,iter,ifs,0]] scope pos) (ym wi c7 (-N') g tc te):=by
 intro pi s U H Q I h;show WU (RX:=Mb X pi U Q)
  rfl hs S.qu S.kind S.names (λy y y y z=>z) (λy y y y z=>z) (cN (hi pi s U H _ I h) λxv s1 h1=>cN h1 λuN s2 h2=>?_)
 let#[it,fp,tn,J,H2,e,I2,T,kT,f2,W,#[m0,w0],turn]:=h2;subst e;show Gg (xx:=λC s H=>Ao X Ξ pi scope N' cl fp C s H) (RR:=Mb X pi U Q) S hc (λC s H=>hg pi C s H fp) (λC s H=>ht pi C s H fp) (λC s H=>he pi C s H fp) I2 T kT f2 w0 turn ?_ ?_
 .intro D C s' H' m I' q hn hC ia;show#[m,hn,λh' sb=>#[.ref D,H',I'.vH ia I2 hC sb,rfl,q]]
 .rintro D C e s' ia ⟨mr,iU,H1,s1,K1,cx⟩;let#[Cc,H',ho,hb,hu,bV,#[ea,a0,B,rfl,fw,hB],hE]:=cx;let J1:Inv X pi U H1 s1:=I2.OI f2 K1;let l:Lies X H1 H' s1 B ea Cc a0 s':=#[ho,hb,hu,bV,hB]
  let tT:=fw;rw[fF] at tT;change wpAny (model X.prog X.w) X.A (noteFrame (.ref ea) X.env) _ _ s';show wpAny_looks_onW (by rw[J1.ok.frames,fF]) hf tT λh3 held us=>?_;rw[<- fF] at held;let l1:=l.step J1 held.1 us;let lc:Lies (d0 X pi scope N' cl C s2 H2 fp) H1 H' s1 B ea Cc a0 { s' with heap:=h3 }:=#[l1.os,l1.bare,l1.un,l1.bV,l1.qd]
  let#[mC,De,_]:=(lc.inv K1).loc;show#[mC,De,λh4 m4 n4 sb cenv uY=>?_];let#[o4,es,ep,e4,_]:=n4;let RK:o4.isFreed=false:=(Heap.get?_some_iff.mp e4).2;let#[m1,#[o1,iM,ep1,e1,_],_]:=K1.loc;let n1:H1 C=none:=K1.free;let nf:C∉gu X.stack:=λz=>by
   rcases aM.mp (I2.U4 C z) with z|z
   .exact absurd I2.lt (by simp_all)
   .exact I2.BE ia z
  let#[B2,l2,rq]:=l1.vH held sb e4 RK n1 e1 nf;let J2:Inv X pi U H1 { s1 with heap:=s1.heap.update C λy=>o4 }:=J1.vH ia I2 n1 (bx _ _ _);let#[g1,g2,g3,oe,vs,T',oT,ts,tj,ky,hd,Tb,_]:=id rq;show aa (gW tj hd Tb ?_);rw[aA #[_],uY,hf];show aa (aS7 rq λh5 rn k5=>wpAny_throw ?_);let l5:=l2.step J2 rn.1 (λb o hb hn=>#[o.slots,k5 b o hb hn]);show hh pi U H1 H' _ _ B2 ea Cc a0 J2 l5 rn hE
end
abbrev Ia(K:PySem.W.Frag)(a:Addr):It :=
 #[λi H=>∃xs x,gw K H a xs/\xs[i]?=!x,λi H v H'=>∃p x,H p=none/\v=.ref p/\(∀xs,gw K H a xs->xs[i]?=!x)/\H'=upd H p (.tup [.int i,x]),λi H=>∃xs,gw K H a xs/\-xs<=i]
def a61{P:Program}{K:PySem.W.Frag}{elts:@&Expr}{x1:Nat}{tp:Pos}(a e it:Addr)(JH:e≠it):Turn P w K (.Tuple elts x1 tp) (Ia K a) [e,it] e (λi h=>(∃old,IsEnum h e it i old)/\h.IsListIter it a i) where
 mem:=by simp
 obj:=λi h st b hb=>by
  let#[#[old,h1],o,h2,c,d]:=st;rcases aM.mp hb with z|z
  .subst z;show #[_,h1,λv z=>by
    let z':Data.fields _=Data.cell v:=z;cases z']
  .let z:b=it:=by simpa using z
   subst z;show#[o,h2,λv z=>by rw[d] at z;cases z]
 keep:=λi h h' st k=>by
  let#[#[old,h1],h2]:=st;show#[#[old,k e #[_] _ h1],h2.at λo x=>k it #[_] o x]
 item:=by
  intro X hP hw hK hc i pi s U H E I hf st hg;subst hP hw hK;let#[#[old,h1],h2]:=st;let#[xs,x,hq,hx]:=hg;let#[bo,rv,p,hz]:=I.list hq;let#[u,hu,ru]:=rv.get hx;let#[e0,e1,e2,e3,e4,e5]:=hf e #[_];let#[f0,f1,f2,f3,f4,f5]:=hf it #[_];show wpAny_pyNext_enum_item h1 h2 p.isList (_/hu) JH λh' sZ Dm sQ qe pA=>?_;show#[_,rfl,wpAny_letOwnedTupleGo_enum sZ λAb Tj jP=>?_];let jP:Heap.SameBut e h' Ab:=jP;let elt:=aF h1;let kp:∀b o,b≠e->b≠it->s.heap.get? b=!o->Ab.get? b=!o:=λb o b1 b2 q=>(jP.2 b b1).trans (pA b o b1 b2 q);let hn:=I.bV.fresh (aw _);let BZ:=(jP.2 _ (cK elt)).trans sQ;let ne:∀b u',H b=!u'->b≠e/\b≠it:=λb u' q=>And.intro (λz=>by simp_all) (λz=>by simp_all);let bV:gR X.prog X.w (upd H s⁻¹ (.tup [.int i,x])) Ab:=λb o q=>by
   by_cases hb:b=s⁻¹
   .subst hb;rw[l6] at q;cases q;show#[by change 2<=sizeLine;decide,[.int i s.toks,u],.cons #[_,rfl] (.cons ru .nil),_,BZ,rfl,#[_,rfl],rfl]
   .rw[d4 hb] at q;show(I.bV b o q).K0 (λc v hc q'=>?_) (λc q'=>by rw[d4 (j8 q' hn)];show q') λc ys q'=>by rw[d4 (j8 q' hn)];show q'
    rcases hc with z|z
    .subst z;show kp _ _ (ne _ _ q).1 (ne _ _ q).2 q'
    .exact kp _ _ (ne _ _ z).1 (ne _ _ z).2 q'
  let I2:Inv X pi U (upd H s⁻¹ (.tup [.int i,x])) { s with heap:=Ab,toks:=s.toks+1 }:=by
   show I.step (g':=s.gens) (d':=s.drawn) (t':=s.toks+1) (ch:=[e,it]) (λb hb=>?_) (λb o t t hb q t=>kp b o (λz=>hb (by simp[z])) (λz=>hb (by simp[z])) q) (λb o t t hb q t=>#[o.slots,kp b o (λz=>hb (by simp[z])) (λz=>hb (by simp[z])) q])
    (λb o t q n=>by rw[d4 (aT (aF q))];show n) (λb o hb q=>#[o,kp b o (λz=>hb (by simp[z])) (λz=>hb (by simp[z])) q])
    (λb ys q=>by rw[d4 (j8 q hn)];show q) (λb o' ys q=>by rw[d4 (j8 q hn)];show q) (λb ps q=>#[(List.toArray []),by rw[d4 (j8 q hn),q];simp]) (λm hm=>?_) bV I.bare
   .rcases aM.mp hb with z|z
    .subst z;show#[e3,e1,e4,e5]
    .let z:b=it:=by simpa using z
     subst z;show#[f3,f1,f4,f5]
   .let#[o,es,ep,ho,r]:=hm;show#[o,es,ep,kp _ o (bR e1) (bR f1) ho,r]
  show#[.ref s⁻¹,_,I2,rfl,#[s⁻¹,x,hn,rfl,λys hy=>by rw[I.Fp hy hq];show hx,rfl],#[#[u,by simpa using Tj],Dm.at λo y=>(jP.2 it JH.symm).trans y],λb hb=>?_];let kz:b<s⁻¹:=by
   rcases aM.mp hb with z|z
   .subst z;show elt
   .let z:b=it:=by simpa using z
    subst z;let#[o,h2,_]:=h2;show aF h2
  rw[d4 (aT kz)];show(hf b hb).1
 done:=by
  intro X hP hw hK hc i pi s U H E I hf st hg;subst hP hw hK;let#[#[old,h1],h2]:=st;let#[xs,hq,hx]:=hg;let#[bo,rv,p,hz]:=I.list hq;let#[f0,f1,f2,f3,f4,f5]:=hf it #[_];let hl:=-rv;show wpAny_pyNext_enum_end (I.ok.hd hc) h1 h2 p.isList (by simp;omega) λh' eb=>#[rfl,I.turned (t':=s.toks) (λb o hb e=>eb b o hb e) f0 f1 f3 f4 f5]
 self:=λt t t t t st h=>by
  let#[#[old,h1],h2]:=st;show wpAny_pyIter_enum h1 h
def VI{l:Expr}{tp:Pos}{elts:@&Expr}{x1:Nat}(hg:Gl X "enumerate")(hm:X.mg "enumerate"=none)(ha:PA X [l] ta)(hs:starEach [l] X.env=[(false,eval l X.env)]) :
  PI X (.Tuple elts x1 tp) (.Call (.Name "enumerate" p) [l] [] pos) (λU H R=>ta U H λvs H1=>∃a,vs=[.ref a]/\(∃xs,gw X.K H1 a xs)/\R (Ia X.K a) H1):=by
 intro pi s U H R I h;show Call_ (Q5 I hg hm PyProof.Rows.boot_enumerate (bX (cN (ha pos pi s U H _ I h) λus s1 bA=>?_) hs rfl));let#[vs,H1,I1,r1,q1]:=bA;let#[a,e,#[xs,hq],q]:=q1;subst e;cases r1 with
 |cons r rr =>
  cases rr;cases r;let#[bo,rv,p,hz]:=I1.list hq;show call_enumerate_list p.isList λh' he hit ia hk=>wpAny_pyIter_enum he ?_;show#[s1⁻¹+1,[s1⁻¹+1,s1⁻¹],_,_,H1,rfl,I1.kept (t':=s1.toks) hk,a61 a _ _ #[_],#[#[_,he],hit],λb hb=>?_,q];let kz:s1⁻¹<=b:=by
   rcases aM.mp hb with z|z
   .simp_all
   simp_all
  show I1.rV kz (I1.bV.fresh kz)
def a22{lo:Int}{acc:Array Value}{n:Nat}(h:ItemsOf (λi v=>∃t,v=.int (lo+i*1) t) acc n):Vals ((List.range n).map λ(k:Nat)=>V.int (lo+k)) acc.toList:=by
 let hl:-acc.toList=n:=by
  have:=h.1;omega
 let go:∀(m:Nat) (l:@&Value),(-l)<=n->m+-l=n->(∀i v,l[i]?=!v->∃t,v=Value.int (lo+((m+i:Nat):Int)) t)->Vals ((List.range' m (-l)).map λ(k:Nat)=>V.int (lo+k)) l:=by
  intro m l
  induction l generalizing m with
  |nil=>intro _ _ _;show .nil
  |cons x r ih =>
   intro h1 h2 h3;show .cons ?_ (ih (m+1) (by simp at h1;omega) (by simp at h2;omega) λi v hv=>?_)
   .let#[t,e]:=h3 0 x rfl;show#[t,by rw[e];simp]
   .let#[t,e]:=h3 (i+1) v (_/hv)
    grind
 have:=go 0 acc.toList () () λi v hv=>?_
 .rw[hl,<- List.range_eq_range'] at this;show this
 .have:acc[i]?=!v:=by rw[<- zr];show hv
  let#[t,e]:=h.2 i v this;show#[t,?_];rw[e];simp
def Nw(hc:X.calm=true):u4 X (.type "list") (λxs H Q=>∃a lo hi,xs=[.ref a]/\H a=!.nG lo hi/\(-(2 ^ 62)<=lo/\lo<2 ^ 62/\-(2 ^ 62)<=hi/\hi<2 ^ 62/\hi-lo<=100000)/\∀p,H p=none->Q (.ref p) (upd H p (.lst ((List.range (hi-lo).toNat).map λ(k:Nat)=>V.int (lo+k))))):=by
 intro pi s U H xs us Q I r h;let#[a,lo,hi,rfl,ha,#[h1,h2,h3,h4,h5],q]:=h;let#[t,u,v,ho]:=I.bV a _ ha;cases r with
 |cons r rr =>
 cases rr;cases r;let hn:Builtin.Range.rangeSize lo hi 1=((hi-lo).toNat:Nat):=by rw[rangeSize_one];split<;>omega
 show call_list_range (I.ok.hd hc) ho (small_one h1 h2 h3 h4) hn () λh' nZ acc c hk hS jz=>?_;let hp:=I.bV.fresh (aw _);show#[.ref _,_,I.laid (o:=.lst ((List.range (hi-lo).toNat).map λ(k:Nat)=>V.int (lo+k))) (t':=nZ) hk (aw _) #[?_,acc.toList,c,a22 jz,by simpa using hS],rfl,q _ hp];rw[ah,iu];have:(hi-lo).toNat<=100000:=by omega
 show aG this ∅
def a93{a:Expr}(hg:Gl X "range")(hm:X.mg "range"=none)(ha:PA X [a] ta)(hs:starEach [a] X.env=[(false,eval a X.env)]):PE X (.Call (.Name "range" p) [a] [] pos) (λU H Q=>ta U H λvs H1=>∃j:Int,vs=[.int j]/\∀q,H1 q=none->Q (.ref q) (upd H1 q (.nG 0 j))):=by
 intro pi s U H Q I h;show cY (Q5 I hg hm boot_range (bX (cN (ha pos pi s U H _ I h) λus s1 bA=>?_) hs rfl));let#[vs,H1,I1,r1,q1]:=bA;let#[j,e,q]:=q1;subst e;cases r1 with
 |cons r rr =>
  cases rr;let#[t,rfl]:=r;show call_range_1 #[.ref s1⁻¹,_,I1.laid (o:=.nG 0 j) (λb o e=>av _ e) (aw _) #[_,_,_,aJ _ rfl],rfl,q _ (I1.bV.fresh (aw _))]
def a92{a b:Expr}(hg:Gl X "range")(hm:X.mg "range"=none)(ha:PA X [a,b] ta)(hs:starEach [a,b] X.env=[(false,eval a X.env),(false,eval b X.env)])(jP:starEach [b] X.env=[(false,eval b X.env)]):PE X (.Call (.Name "range" p) [a,b] [] pos) (λU H Q=>ta U H λvs H1=>∃i j:Int,vs=[.int i,.int j]/\∀q,H1 q=none->Q (.ref q) (upd H1 q (.nG i j))):=by
 intro pi s U H Q I h;show cY (Q5 I hg hm boot_range (bX (cN (ha pos pi s U H _ I h) λus s1 bA=>?_) (by rw[hs,jP]) (by rw[jP];rfl)));let#[vs,H1,I1,r1,q1]:=bA;let#[i,j,e,q]:=q1;subst e;cases r1 with
 |cons r rr =>
  cases rr with
  |cons r' rr =>
   cases rr;let#[t,rfl]:=r;let#[t',rfl]:=r';show call_range_2 #[.ref s1⁻¹,_,I1.laid (o:=.nG i j) (λb o e=>av _ e) (aw _) #[_,_,_,aJ _ rfl],rfl,q _ (I1.bV.fresh (aw _))]
abbrev Bh(K:PySem.W.Frag)(P:Params)(a:Addr)(kvs:@&(Str×V)):Prop :=
 ∃es n,K.lookup a=!#[.type "dict",none,.dict es n,(List.toArray [])]/\PySem.W.KeysLit P es.toList/\(a==sysModules)=false/\∀x,F3 (kvs.lookup x) (findBy Value.isStrOf es x)
def b10{kvs:@&(Str×V)}:vY X (λx y H Q=>∃a z v,x=.ref a/\Bh X.K X.w.params a kvs/\y=.str z/\kvs.lookup z=!v/\Q v H):=by
 intro value slice pi s U H x y v u Q I rx ry h hs;let#[a,z,d,rfl,#[es,n,hl,hk,lo,hf],rfl,hz,q]:=h;cases rx;let#[t,rfl]:=ry;let hm:=PySem.W.mapOf_K (prog:=X.prog) I.gT hl hk;let e:=hf z;rw[hz] at e;cases h2:findBy Value.isStrOf es z with
 |none=>rw[h2] at e;show e.elim
 |some r =>
  rw[h2] at e;show tail_any hm.typeIs slot_dict_getitem.lookup (wpAny_getItem_of (strKind_is X.prog X.w z t) hm h2 #[d,H,I.tok _,e,q]) hs
def bC4(hu:X.A.units+1<cLine):vY X (λx y H Q=>∃a v,x=.ref a/\pL H a y (!v)/\Q v H):=by
 intro value slice pi s U H x y v u Q I rx ry h hs;let#[a,d,rfl,g,q]:=h;cases rx;show tail_any (aT1 I g) slot_dict_getitem.lookup (YQ hu I g ry λw' s3 I3 gI=>#[d,H,I3,gI,q]) hs
end L2
namespace ST
open PySem PyProof.Rows
variable{xs:Array Nat}{i k j n ep:Nat}{t:SetTable}{h h':Heap}{L:Bool}{es:Array (Int×Value)}{x f:Value}{prog:Program}{w:World}{a I b l:Addr}{ks ns:@&Int}{A:Around}{E Q:Value->Shared->Prop}{s:Shared}{pl:@&Nat}{α:Type}{r:Rd}{items:Array Value}
noncomputable abbrev lB(xs:Array Nat):Prop:=xs.toList.Pairwise (· < ·)
def lB.lt(h:lB xs)(xt:i<k)(hk:k<xs.size):xs.getD i 0<xs.getD k 0:=by
 have:=dz.mp h i k (_/dH xt hk) (_/hk) xt;rw[<- fS (h:=dH xt hk),<- fS (h:=hk)];show this
def lB.le(h:lB xs)(xt:i<=k)(hk:k<xs.size):xs.getD i 0<=xs.getD k 0:=by
 rcases Nat.eq_or_lt_of_le xt with e|e
 .rw[e];show aw _
 .exact dI (h.lt e hk)
def HB{xs:Array Nat}{j:Nat}(h:lB xs):∀(fuel lo hi:Nat),hi-lo<=fuel->lo<=hi->hi<=xs.size->(∀i,i<lo->xs.getD i 0<j)->(∀i,hi<=i->i<xs.size->j<=xs.getD i 0) ->
  SetTable.below.go xs j fuel lo hi<=xs.size/\(∀i,i<SetTable.below.go xs j fuel lo hi->xs.getD i 0<j)/\∀i,SetTable.below.go xs j fuel lo hi<=i->i<xs.size->j<=xs.getD i 0
 |0,lo,hi,h1,h2,h3,h4,h5=>by
  have:lo=hi:=by omega
  subst this;show#[h3,h4,h5]
 |fuel+1,lo,hi,h1,h2,h3,h4,h5=>by
  unfold SetTable.below.go;split
  .let hm:(lo+hi) / 2<xs.size:=by omega
   let em:xs.getD ((lo+hi) / 2) j=xs.getD ((lo+hi) / 2) 0:=by simp[Array.getD,hm]
   dsimp only;rw[em];by_cases hc:xs.getD ((lo+hi) / 2) 0<j
   .rw[az hc];show HB h fuel _ hi () () h3 (λi jz=>gY (h.le () hm) hc) h5
   .rw[aA hc];show HB h fuel lo _ () () () h4 λi jz hs=>aG (iQ hc) (h.le jz hs)
  .have:lo=hi:=by omega
   subst this;show#[h3,h4,h5]
def W3(j:Nat)(h:lB xs):SetTable.below xs j<=xs.size/\(∀i,i<SetTable.below xs j->xs.getD i 0<j)/\∀i,SetTable.below xs j<=i->i<xs.size->j<=xs.getD i 0 :=
 HB h _ 0 _ () () (aw _) (λi hi=>absurd hi (Nat.not_lt_zero _)) λi h1 h2=>absurd h2 ()
def below_at(h:lB xs)(hi:i<xs.size):SetTable.below xs (xs.getD i 0)=i:=by
 let#[h1,h2,h3]:=W3 (xs.getD i 0) h;rcases dG (SetTable.below xs (xs.getD i 0)) i with z|z|z
 .exact absurd (h3 _ (aw _) ()) (Nat.not_le_of_lt (h.lt z hi))
 .exact z
 .exact absurd (h2 i z) (cq _)
def a44(h:lB xs)(hi:i<xs.size):SetTable.below xs (xs.getD i 0+1)=i+1:=by
 let#[h1,h2,h3]:=W3 (xs.getD i 0+1) h;rcases dG (SetTable.below xs (xs.getD i 0+1)) (i+1) with z|z|z
 .have:=h3 i () hi;omega
 .exact z
 .have:=h2 (i+1) z;have:=h.lt (mS i) (k:=i+1) ();omega
def a43(h:lB xs):SetTable.below xs 0=0:=by
 let#[_,h2,_]:=W3 0 h;rcases Nat.eq_zero_or_pos (SetTable.below xs 0) with z|z
 .exact z
 .exact absurd (h2 0 z) (Nat.not_lt_zero _)
def getD_mem(hi:i<xs.size):xs[i]?=!xs.getD i 0:=by simp[Array.getD,hi]
def aZ6(h:lB t.place)(hs:t.slot j=.empty):j∉t.place.toList:=by
 intro hm;let#[i,hi,e]:=cX.mp hm;let jz:i<t.place.size:=by simpa using hi
 let ej:t.place.getD i 0=j:=by rw[<- fS];simpa using e
 let hb:=below_at h jz;rw[ej] at hb;unfold SetTable.slot at hs;dsimp only at hs;rw[hb,getD_mem jz,ej] at hs;simp at hs
def a00(h:lB xs)(hj:j∉xs.toList):lB (SetTable.insertAt xs (SetTable.below xs j) j):=by
 let#[h1,h2,h3]:=W3 j h;show(SetTable.insertAt xs (SetTable.below xs j) j).toList.Pairwise (· < ·);rw[SetTable.toList_insertAt,BN];let tk:∀a∈xs.toList.take (SetTable.below xs j),a<j:=λa ha=>by
  let#[i,hi,e]:=cX.mp ha;rw[cU] at hi;let hs:i<xs.size:=by omega
  have:=h2 i ()
  simp_all
 let dp:∀b∈xs.toList.drop (SetTable.below xs j),j<b:=λb hb=>by
  let#[i,hi,e]:=cX.mp hb;let hs:SetTable.below xs j+i<xs.size:=by grind
  have:=h3 (SetTable.below xs j+i) () hs;rw[<- fS (h:=hs)] at this;let fh:b≠j:=λz=>hj (by rw[<- z];show List.mem_of_mem_drop hb);simp at e;omega
 show#[h.take,fB.mpr #[dp,h.drop],λa ha b hb=>?_];let nj:=tk a ha
 grind
def a77(n:Nat):lB (Array.range n):=by
 show(Array.range n).toList.Pairwise (· < ·);rw[Array.toList_range];show jk
structure Well(L:Bool)(t:SetTable):Prop where
 uH:lB t.place
 tW:t.dummies=(List.toArray [])
 led:t.led=L
set_option tactic.hygienic true in
def Xv(hd:t.dummies=(List.toArray []))(j:Nat):t.slot j≠.dummy:=by
 unfold SetTable.slot;dsimp only;split
 .simp
 .rw[hd];split
  .rename_i z;simp[SetTable.has] at z
  simp
set_option tactic.hygienic true in
def Nj{t:SetTable}(hd:t.dummies=(List.toArray [])){hashAt:Nat->Int}{h:Int}:∀(fuel:Nat) (p:SetTable.Probe) {j:Nat} {dm:Option Nat},p.dummy=none->SetTable.probe.go t hashAt h fuel p=!.empty j dm->t.slot j=.empty/\dm=none
 |0,p,j,dm,_,e=>by simp[SetTable.probe.go] at e
 |fuel+1,p,j,dm,hp,e=>by
  unfold SetTable.probe.go at e;let ad:∀q:SetTable.Probe,q.dummy=none->(t.advance q).dummy=none:=λq hq=>by
   unfold SetTable.advance;split
   .exact hq
   .exact hq
  split at e
  .simp_all
  .rename_i hs;show absurd hs (Xv hd _)
  .split at e
   .cases e
   .exact Nj hd fuel _ (ad p hp) e
set_option tactic.hygienic true in
def YV(hd:t.dummies=(List.toArray [])){h:Int}{wd:Bool}(e:t.freeSlot h=!(j,wd)):t.slot j=.empty/\wd=false:=by
 unfold SetTable.freeSlot at e;split at e
 .rename_i j' dm hp;let#[h1,h2]:=Nj hd _ _ rfl hp;subst h2;cases e;show#[h1,rfl]
 .cases e
def P5(h:Well L t)(n:Nat):Well L (t.standIn n):=#[a77 n,rfl,h.led]
set_option tactic.hygienic true in
def aS2{h:Int}(hw:Well L t):Well L (layNew t es h x).2.1/\(layNew t es h x).2.2.1=false:=by
 unfold layNew;split
 .rename_i slot wd e;let#[h1,h2]:=YV hw.tW e;show#[?_,h2];let hd:SetTable.has t.dummies slot=false:=by rw[hw.tW];rfl
  let w2:Well L (t.put slot).1:=#[a00 hw.uH (aZ6 hw.uH h1),by simp only[SetTable.put,hd];show hw.tW,hw.led]
  dsimp only;unfold SetTable.orStandIn;split
  .exact w2
  .exact P5 w2 _
 .exact#[P5 hw _,rfl]
def PU{mask finger moves:Nat}{led plain:Bool}{hashes:Array Int}{o:Array Nat}(hl:led=L)(e:SetTable.laid mask finger moves led plain hashes=!(t,o)):Well L t:=by
 unfold SetTable.laid at e;cases ho:SetTable.layClean mask hashes with
 |none=>rw[ho] at e;cases e
 |some owner =>
  rw[ho] at e;simp only[Option.bind_eq_bind,Option.bind_some,Option.pure_def,Option.some.injEq,Prod.mk.injEq] at e;let#[rfl,_]:=e;show#[?_,rfl,hl];show(List.map _ _).toArray.toList.Pairwise (· < ·);rw[Ij];let sub:((List.range (mask+1)).filterMap λj=>(owner.getD j none).map (j,·)).map (·.1) |>.Sublist (List.range (mask+1)):=by
   generalize List.range (mask+1)=l
   induction l with
   |nil=>simp
   |cons a r ih =>
    rw[dO];cases owner.getD a none with
    |none=>show ih.cons a
    |some k=>show ih.cons_cons a
  show List.Pairwise.sublist sub jk
set_option tactic.hygienic true in
def aG0(hw:Well L t):Well L (relayAll t es n).2.1:=by
 unfold relayAll;split
 .rename_i t' order e;dsimp only;split
  .exact PU hw.led e
  .exact P5 hw _
 .exact P5 hw _
abbrev toI:Value->Int
 |.int k _=>k
 |_=>0
def Led(w:World):Bool:= ~~~(w.params.followText "set-order")
abbrev j9(prog:Program)(w:World)(h:Heap)(a:Addr)(ks:@&Int):Prop :=
 ∃o es ep t,h.get? a=!o/\o.ExactSet/\o.data=.set es ep t/\ElemsOf (intKind prog w) es.toList/\(es.toList.map λe=>toI e.2).Perm ks/\ks.Nodup/\es.size<scanBound/\t.fits es.size=true/\Well (Led w) t
def j9.at(x:j9 prog w h a ks)(k:∀o,h.get? a=!o->h'.get? a=!o):j9 prog w h' a ks:=by
 let#[o,es,ep,t,e,r]:=x;show#[o,es,ep,t,k o e,r]
def yF{e:Int×Value}{es:@&(Int×Value)}(h:ElemsOf (intKind prog w) es)(he:e∈es):∃tk,e.2=.int (toI e.2) tk/\e.1=(intKind prog w).hash (toI e.2):=by
 let#[#[k,h1,h2],_]:=h e he;let#[t,ht]:=Value.isInt_shape h1;show#[t,by rw[ht];rfl,?_];rw[h2,ht]
 rfl
def LC{e:Int×Value}{es:@&(Int×Value)}(h:ElemsOf (intKind prog w) es)(he:e∈es)(k:Int):(intKind prog w).is k e.2=decide (toI e.2=k):=by
 let#[t,ht,_]:=yF h he;rw[ht]
 rfl
def j9.mem{a:Addr}{es:@&(Int×Value)}(h:ElemsOf (intKind prog w) es)(hp:(es.map λe=>toI e.2).Perm ks)(k:Int):(es.findIdx? λe=>(intKind prog w).is k e.2).isSome=decide (k∈ks):=by
 rw[bq,bz,<- hp.mem_iff,aQ,fm];constructor
 .rintro⟨i,hi⟩;let#[h1,h2,_]:=lA.mp hi;let hm:=cH h1;rw[LC h hm] at h2;show#[_,hm,bp h2]
 .rintro⟨e,he,rfl⟩;cases hf:es.findIdx? λe'=>(intKind prog w).is (toI e.2) e'.2 with
  |some i=>show#[i,rfl]
  |none =>
   have:=List.findIdx?_eq_none_iff.mp hf e he;rw[LC h he] at this;simp at this
abbrev F2(ks:@&Int)(k:Int):@&Int:=if k∈ks then ks else ks++[k]
def OA(ks:@&Int)(k:Int):(F2 ks k).length<=-ks+1:=by unfold F2;split<;>simp
def HF{k:Int}{tk:Tok}{Q:Bool->Shared->Prop}(hS:j9 prog w s.heap a ks)(hr:-ks+1<scanBound)(h:∀h' b,Heap.SameBut a s.heap h'->j9 prog w h' a (F2 ks k)->Q b { s with heap:=h' }):wpAny (model prog w) A (setAddHashed a (.int k tk) ((intKind prog w).hash k)) Q E s:=by
 let#[o,es,ep,t,ho,hx,hd,jt,hp,hn,hb,hf,hw]:=hS;let hlen:es.size=-ks:=by rw[<- hp.length_eq];simp
 let qk:(intKind prog w).is k (.int k tk)=true:=gL _ _ _ _;let gv:∀(b:Bool) (s1:Shared) (Q':Unit->Shared->Prop),Q' Unit.unit s1->wpAny (model prog w) A (match b with|true=>rule "set.scan.the-table-gave-way"|false=>pure Unit.unit) Q' E s1:=λb s1 Q' q=>by
  cases b
  .exact ao q
  .exact gK q
 show bB (aa (bc ho hd hf ?_));dsimp only;rw[byScan_of rfl hb jt,az rfl];show aa (aa (gK (aa (wpAny_setScan_of qk ho hd hf jt ?_))));let hm:=j9.mem (a:=a) jt hp k;cases oE:es.toList.findIdx? (λe=>(intKind prog w).is k e.2) with
 |some j =>
  let hk:k∈ks:=by simp_all
  show ao (ao ?_);show h s.heap _ (jx a s.heap) ?_;unfold F2;rw[az hk];show#[o,es,ep,t,ho,hx,hd,jt,hp,hn,hb,hf,hw]
 |none =>
  rw[oE] at hm;let hk:k∉ks:=by simpa using hm.symm
  let p1:=layNew_perm t es ((intKind prog w).hash k) (.int k tk);let f1:=layNew_fits t es ((intKind prog w).hash k) (.int k tk);let#[w1,Iz]:=aS2 hw;generalize layNew t es ((intKind prog w).hash k) (.int k tk)=R1 at p1 f1 w1 Iz ⊢;let#[iM,t1,wd,UL]:=R1;subst Iz;rw[Array.toList_push] at p1;let Kl:=(jt.push qk rfl).perm p1;let sz1:iM.size=es.size+1:=by rw[<- dc,p1.length_eq];simp
  let k1:(iM.toList.map λe=>toI e.2).Perm (F2 ks k):=by
   unfold F2;rw[aA hk];show(p1.map _).trans ?_;rw[bw];show hp.append_right _
  let n1:(F2 ks k).Nodup:=by
   unfold F2;rw[aA hk,cL];show#[hn,by simp,λx hx y hy=>by grind]
  show aa (gv _ _ _ ?_);let fin:∀ (t2:SetTable),t2.fits iM.size=true->Well (Led w) t2->wpAny (model prog w) A (do
    storeSet a iM t2
    if(~~~false&&t2.tooFull)=true then do
      (match(relayAll t2 iM (SetTable.grown iM.size)).2.2 with|true=>rule "set.scan.the-table-gave-way"|false=>pure Unit.unit)
      storeSet a (relayAll t2 iM (SetTable.grown iM.size)).1 (relayAll t2 iM (SetTable.grown iM.size)).2.1
      pure (!true)
     else pure (!true)) (λr s'=>wpAny (model prog w) A (match r with | some added=>pure added | none=>setAddHashedIn a (.int k tk) ((intKind prog w).hash k) 99999) Q E s') E s:=λt2 f2 w2=>by
   let g1:(s.heap.update a (Obj.putSet iM t2)).get? a=some { o with data:=.set iM (ep+1) t2 }:=by
    have:=bh (Obj.putSet iM t2) ho (by rw[putSet_of iM t2 hd];rfl);rw[putSet_of iM t2 hd] at this;show this
   show aa (eX ho hd ?_ (eY ()));let IJ:=bx s.heap a (Obj.putSet iM t2);split
   .let p2:=relayAll_perm t2 iM (SetTable.grown iM.size);let f3:=relayAll_fits t2 iM (SetTable.grown iM.size);let w3:=aG0 (es:=iM) (n:=SetTable.grown iM.size) w2;generalize relayAll t2 iM (SetTable.grown iM.size)=R2 at p2 f3 w3 ⊢;let#[xP,t3,gv2]:=R2;dsimp only at p2 f3 w3 ⊢;let sz2:xP.size=iM.size:=by rw[<- dc,p2.length_eq,dc]
    show aa (gv _ _ _ ?_);show aa (eX g1 rfl ?_ (eY ()));show ao (ao (h _ _ (IJ.trans (bx _ a _)) ?_));let g2:((s.heap.update a (Obj.putSet iM t2)).update a (Obj.putSet xP t3)).get? a=some { o with data:=.set xP (ep+1+1) t3 }:=by
     have:=bh (Obj.putSet xP t3) g1 (by rfl);show this
    show#[_,xP,_,t3,g2,hx,rfl,Kl.perm p2,(p2.map _).trans k1,n1,by omega,f3,w3]
   .exact ao (ao (h _ _ IJ #[_,iM,_,t2,g1,hx,rfl,Kl,k1,n1,by omega,f1 |> λz=>f2,w2]))
  split
  .refine aa (dR (hashByValue_scannable 8 rfl) ?_);show fin _ f1 w1
  .refine aa (ao ?_);show fin _ f1 w1
def aP0:entryFor table "set.__iter__"=some Builtin.«frozenset.__iter__» :=
 BJ (id':="frozenset.__iter__") (by kernel_rfl) rfl #[] (by kernel_rfl)
def E8:Slot "set_iterator" "__next__" "set_iterator.__next__" :=
 .of (owner:="set_iterator") (n:="__next__") (by rw[typeLookup_type,builtinLookup_eq_fast];kernel_rfl) #[] #[] #[]
  (by first|show .inl #[]|show .inr #[]) (by rw[lD];kernel_rfl)
def M':entryFor table "set_iterator.__next__"=some Builtin.«set_iterator.__next__»:=entryFor_of_tree (by kernel_rfl)
def Nm(a:Value):argsOk "set_iterator.__next__" #[[a],[]]:=by
 unfold argsOk
 kernel_rfl
def Nu:Slot "set_iterator" "__iter__" "set_iterator.__iter__" :=
 .of (owner:="set_iterator") (n:="__iter__") (by rw[typeLookup_type,builtinLookup_eq_fast];kernel_rfl) #[] #[] #[]
  (by first|show .inl #[]|show .inr #[]) (by rw[lD];kernel_rfl)
def aT0:entryFor table "set_iterator.__iter__"=some Builtin.«dict_keyiterator.__iter__» :=
 BJ (id':="dict_keyiterator.__iter__") (by kernel_rfl) rfl #[] (by kernel_rfl)
def aQ7(a:Value):argsOk "set_iterator.__iter__" #[[a],[]]:=by
 unfold argsOk
 kernel_rfl
inductive Rd|text|plain|drawn
structure Lies(h:Heap)(a:Addr)(es:Array (Int×Value))(ep:Nat)(t:SetTable):Prop where
 at_:∃o,h.get? a=!o/\o.cls=.type "set"/\o.data=.set es ep t
 fit:t.fits es.size=true
def Lies.at(x:Lies h a es ep t)(k:∀o,h.get? a=!o->h'.get? a=!o):Lies h' a es ep t :=
 #[let ⟨o,e,r⟩:=x.at_;#[o,k o e,r],x.fit]
def G5(h:Heap)(I a:Addr)(f:Value)(i n ep:Nat):Prop:=∃o,h.get? I=!o/\o.cls=.type "set_iterator"/\o.data=.fields (List.toArray [f,rawInt i,.ref a,rawInt n,rawInt ep])
def G5.at(x:G5 h I a f i n ep)(k:∀o,h.get? I=!o->h'.get? I=!o):G5 h' I a f i n ep:=let ⟨o,e,r⟩:=x;#[o,k o e,r]
def G5.ty(x:G5 s.heap I a f i n ep):s.TypeIs (.ref I) "set_iterator":=let ⟨o,e,c,_⟩:=x;#[o,e,c]
abbrev yi(w:World)(a:Addr)(es:Array (Int×Value))(ep:Nat)(pl:@&Nat):Rd->@&Value
 |.text=>(pickOrder (w.params.setOrder a ep) es).toList.map (·.2)
 |.plain=>es.toList.map (·.2)
 |.drawn=>pl.map λj=>(es.getD j (0,.none)).2
abbrev slotAt(t:SetTable):Nat->Nat
 |0=>0
 |i+1=>t.place.getD i 0+1
abbrev T7(h:Heap)(t:SetTable)(b:Addr)(pl:@&Nat)(i:Nat)(f:Value):Rd->Prop
 |.text=>∃k:Nat,f=rawInt k
 |.plain=>f=rawInt (slotAt t i)
 |.drawn=>f=.ref b/\∃o e,h.get? b=!o/\o.cls=.type "tuple"/\o.data=.seq (pl.map λj=>rawInt (j:Nat)).toArray e
abbrev vV(w:World)(es:Array (Int×Value))(t:SetTable)(pl:@&Nat):Rd->Prop
 |.text=>w.params.followText "set-order"=true
 |.plain=>w.params.followText "set-order"=false/\(t.plain=true\/es.size<=1)/\Well true t
 |.drawn=>w.params.followText "set-order"=false/\pl.Perm (List.range es.size)
def Y6{Q:Bool->Shared->Prop}(h:Q (w.params.followText "set-order") s):wpAny (model prog w) A setsByText Q E s:=by
 show aa (jU (ao h))
def Qf(hL:Lies s.heap a es ep t)(ht:w.params.followText "set-order"=true){sl g:Nat}{Q:Option (Value×Nat)->Shared->Prop}(h:Q (((pickOrder (w.params.setOrder a ep) es)[g]?).map λe=>(e.2,sl)) s) :
  wpAny (model prog w) A (setNext a sl g ep) Q E s:=by
 let#[o,ho,_,hd]:=hL.at_;show aa (bc ho hd hL.fit ?_);show aa (Y6 ?_);rw[ht,az rfl,aA #[_]];show aa (aa (bc ho hd hL.fit ?_));show aa (Y6 ?_);rw[ht,az rfl];show aa (jU (ao (ao h)))
def MJ(hL:Lies s.heap a es ep t)(ht:w.params.followText "set-order"=false)(hp:t.plain=true\/es.size<=1)(hl:t.led=true){sl g:Nat}{Q:Option (Value×Nat)->Shared->Prop}(h:Q (match es[SetTable.below t.place sl]?,t.place[SetTable.below t.place sl]? with|some (_,x),!j=>!(x,j+1)|_,_=>none) s):wpAny (model prog w) A (setNext a sl g ep) Q E s:=by
 let#[o,ho,_,hd]:=hL.at_;show aa (bc ho hd hL.fit ?_);show aa (Y6 ?_);rw[ht,aA ∅];change wpAny _ _ (if(~~~t.plain&&decide (es.size>1))=true then _ else _) _ _ _;rw[aA (by rcases hp with e|e<;>simp[e])];show aa (dR (a:=Unit.unit) ?_ (ao h));show((if(~~~t.led&&~~~es.isEmpty)=true then unsupported "set:maker-not-led" else pure Unit.unit):Sem Unit)=pure Unit.unit;rw[hl]
 rfl
def a09(hL:Lies s.heap a es ep t)(hj:j<es.size)(h:Q (es.getD j (0,.none)).2 s):wpAny (model prog w) A (setNextDrawn a j ep) Q E s:=by
 let#[o,ho,_,hd]:=hL.at_;show aa (bc ho hd hL.fit ?_);dsimp only;rw[aA #[_]];let e:es[j]?=!es.getD j (0,.none):=by simp_all
 rw[e];show ao h
def Pk(hL:Lies s.heap a es ep t):t.place.size=es.size:=by
 have:=hL.fit;unfold SetTable.fits at this;simp at this;show this.1
def My(hw:lB t.place)(hi:i<=t.place.size):SetTable.below t.place (slotAt t i)=i:=by
 cases i with
 |zero=>show a43 hw
 |succ i=>show a44 hw ()
def entries{Q:Array (Int×Value)->Shared->Prop}(hL:Lies s.heap a es ep t)(h:Q es s):wpAny (model prog w) A (setEntries a) Q E s:=by
 let#[o,ho,_,hd]:=hL.at_;show aa (bc ho hd hL.fit (ao h))
def Vr{f':Value}(hi:G5 h I a f i n ep)(hx:x=rawInt ((i:Int)+1)):G5 ((h.update I (Obj.mapFields (·.setIfInBounds 0 f'))).update I (Obj.mapFields (·.setIfInBounds 1 x))) I a f' (i+1) n ep:=by
 let#[o,ho,hc,hd]:=hi;let h1:=bh (Obj.mapFields (·.setIfInBounds 0 f')) ho (cW (bC hd _));let d1:(Obj.mapFields (·.setIfInBounds 0 f') o).data=.fields (List.toArray [f',rawInt i,.ref a,rawInt n,rawInt ep]):=by rw[bC hd];simp
 let h2:=bh (Obj.mapFields (·.setIfInBounds 1 x)) h1 (cW (bC d1 _));show#[_,h2,(pT ..).trans ((pT ..).trans hc),?_];rw[bC d1]
 simp_all
def Vq(hi:G5 h I a f i n ep)(hx:x=rawInt ((i:Int)+1)):G5 (h.update I (Obj.mapFields (·.setIfInBounds 1 x))) I a f (i+1) n ep:=by
 let#[o,ho,hc,hd]:=hi;let h2:=bh (Obj.mapFields (·.setIfInBounds 1 x)) ho (cW (bC hd _));show#[_,h2,(pT ..).trans hc,?_];rw[bC hd];subst hx;simp[rawInt]
def Mr{f':Value}{m:Sem α}{Q':α->Shared->Prop}(hi:G5 s.heap I a f i n ep)(hx:x=rawInt ((i:Int)+1))(h:∀h',G5 h' I a f' (i+1) n ep->Heap.SameBut I s.heap h'->wpAny (model prog w) A m Q' E { s with heap:=h' }) :
  wpAny (model prog w) A (do setField (.ref I) 0 f';setField (.ref I) 1 x;m) Q' E s:=by
 let#[o,ho,hc,hd]:=id hi;show aa (dE ho hd #[_] ?_);let h1:=bh (Obj.mapFields (·.setIfInBounds 0 f')) ho (cW (bC hd _));let d1:(Obj.mapFields (·.setIfInBounds 0 f') o).data=.fields (List.toArray [f',rawInt i,.ref a,rawInt n,rawInt ep]):=by rw[bC hd];simp
 show aa (dE h1 d1 #[_] ?_);show h _ (Vr hi hx) ((bx ..).trans (bx ..))
def b79{m:Sem α}{Q':α->Shared->Prop}(hi:G5 s.heap I a f i n ep)(hx:x=rawInt ((i:Int)+1))(h:∀h',G5 h' I a f (i+1) n ep->Heap.SameBut I s.heap h'->wpAny (model prog w) A m Q' E { s with heap:=h' }) :
  wpAny (model prog w) A (do setField (.ref I) 1 x;m) Q' E s:=by
 let#[o,ho,hc,hd]:=id hi;show aa (dE ho hd #[_] ?_);show h _ (Vq hi hx) (bx ..)
def Bf(next:Nat->Nat)(xs:Array α):(pickOrder next xs).toList.Perm xs.toList:=by
 let go:∀(fuel k:Nat) (left:List α) (out:Array α),fuel=-left->(pickOrder.go next fuel k left out).toList.Perm (out.toList++left):=by
  intro fuel
  induction fuel with
  |zero =>
   intro k left out e;have:=et e.symm;subst this;simp[pickOrder.go]
  |succ n ih =>
   intro k left out e;let dQ:next k % (-left)< -left:=Nat.mod_lt _ ()
   unfold pickOrder.go;rw[ag dQ];show(ih _ _ _ (by rw[gZ dQ];omega)).trans ?_;rw[Array.toList_push,iw];show List.Perm.append_left _ ?_;have:left.Perm (left[next k % (-left)]::left.eraseIdx (next k % (-left))):=by
    rw[mf]
    conv=>lhs;rw[<- jE (next k % (-left)) left,eZ dQ]
    show List.perm_middle
   show this.symm
 have:=go xs.size 0 xs.toList (List.toArray []) #[_];simpa[pickOrder] using this
def next_item{Q:Option Value->Shared->Prop}(hL:Lies s.heap a es ep t)(hr:vV w es t pl r)(hi:G5 s.heap I a f i es.size ep)(hf:T7 s.heap t b pl i f r)(fh:b≠I)(dQ:i<es.size)(h:∀v h' f',(yi w a es ep pl r)[i]?=!v->G5 h' I a f' (i+1) es.size ep->T7 h' t b pl (i+1) f' r->Heap.SameBut I s.heap h'->Q (!v) { s with heap:=h' }):wpAny (model prog w) A (pyNext (.ref I)) Q E s:=by
 let#[o,ho,hc,hd]:=id hi;show aa (QV (fR hi.ty E8 (cz E8 hi.ty M' ?_ (Nm _))));show aa (ao ?_);show aa (wpAny_fieldsOf ho hd ?_);show aa (entries hL ?_);rw[aA #[_]];rw[bL,bL];cases r with
 |text =>
  let#[k,rfl]:=hf;show aa (Qf hL hr ?_);let hl:i<(pickOrder (w.params.setOrder a ep) es).size:=by
   have:=(Bf (w.params.setOrder a ep) es).length_eq
   simp_all
  rw[dB hl];show Mr hi rfl λh' h1 h2=>ao #[_,rfl,ao (h _ _ _ ?_ h1 #[_,rfl] h2)];show((pickOrder (w.params.setOrder a ep) es).toList.map (·.2))[i]?=_;simp[hl]
 |plain =>
  let#[r1,r2,r3]:=hr;let hs:=Pk hL;obtain rfl:=hf;dsimp only[rawInt];rw[bL];show aa (MJ hL r1 r2 r3.led ?_);rw[My r3.uH (),dB dQ,getD_mem ()];show Mr hi rfl λh' h1 h2=>ao #[_,rfl,ao (h _ _ _ ?_ h1 rfl h2)];show(es.toList.map (·.2))[i]?=_;simp[dQ]
 |drawn =>
  let#[r1,r2]:=hr;let#[rfl,ob,e,hb,JO,zU]:=hf;let gU:i< -pl:=by rw[r2.length_eq];simpa using dQ
  show aa (wpAny_seqItems hb zU ?_);let hj:pl[i]<es.size:=by
   have:=r2.mem_iff.mp (cH gU)
   simp_all
  let e1:(pl.map λj=>rawInt (j:Nat)).toArray[i]?=!rawInt (pl[i]:Nat):=by simp[gU]
  dsimp only;rw[e1];show aa (a09 hL hj ?_);show b79 hi rfl λh' h1 h2=>ao #[_,rfl,ao (h _ _ _ ?_ h1 #[rfl,ob,e,by rw[h2.2 b fh];show hb,JO,zU] h2)];show(pl.map λj=>(es.getD j (0,.none)).2)[i]?=_;simp[gU]
def FD{Q:Option Value->Shared->Prop}{h0:Heap}(hh:A.handled=none)(UE:Heap.ExtBut I h0 s.heap)(h:∀h',Heap.ExtBut I h0 h'->Q none { s with heap:=h' }) :
  wpAny (model prog w) A.in1 (newExc (.type "StopIteration") [] >>= λe=>(raiseNew e:Sem Fin)) (λfin s'=>∃v,fin=Fin.done (Flow.ret v)/\wpAny (model prog w) A (pure (!v)) Q E s')
   (λe s'=>wpAny (model prog w) A (do
     let x <- isInstance e (Value.type "StopIteration")
     if x=true then pure none else throw e) Q E s') s:=by
 show aa ?_;show aa (cR ?_ (by size_fits));show aa (dR (a:=Value.none) (by rfl) ?_);show cR ?_ (by size_fits);show aa (wpAny_handled ?_);rw[show A.in1.handled=none from hh];show aa (ao (wpAny_throw ?_));show aa (fA #[_,aJ _ rfl,rfl] isSubtype_stop ?_);show ao (h _ ((UE.push _).push _))
def next_end{Q:Option Value->Shared->Prop}(hh:A.handled=none)(hL:Lies s.heap a es ep t)(hr:vV w es t pl r)(hi:G5 s.heap I a f es.size es.size ep)(hf:T7 s.heap t b pl es.size f r)(fh:b≠I)(h:∀h',Heap.ExtBut I s.heap h'->Q none { s with heap:=h' }):wpAny (model prog w) A (pyNext (.ref I)) Q E s:=by
 let#[o,ho,hc,hd]:=id hi;show aa (QV (fR hi.ty E8 (cz E8 hi.ty M' ?_ (Nm _))));show aa (ao ?_);show aa (wpAny_fieldsOf ho hd ?_);show aa (entries hL ?_);rw[aA #[_]];rw[bL,bL];cases r with
 |text =>
  let#[k,rfl]:=hf;show aa (Qf hL hr ?_);let hl:(pickOrder (w.params.setOrder a ep) es).size<=es.size:=by
   have:=(Bf (w.params.setOrder a ep) es).length_eq
   grind
  rw[we hl];show aa (dE ho hd #[_] ?_);show FD hh (bx ..).extBut h
 |plain =>
  let#[r1,r2,r3]:=hr;let hs:=Pk hL;obtain rfl:=hf;dsimp only[rawInt];rw[bL];show aa (MJ hL r1 r2 r3.led ?_);rw[My r3.uH (),we (aw _)];show aa (dE ho hd #[_] ?_);show FD hh (bx ..).extBut h
 |drawn =>
  let#[r1,r2]:=hr;let#[rfl,ob,e,hb,JO,zU]:=hf;let gU:-pl=es.size:=by rw[r2.length_eq];simp
  show aa (wpAny_seqItems hb zU ?_);let e1:(pl.map λj=>rawInt (j:Nat)).toArray[es.size]?=none:=by simp[gU]
  dsimp only;rw[e1];show aa (dE ho hd #[_] ?_);let h1:=bh (Obj.mapFields (·.setIfInBounds 0 (Value.int 0 0))) ho (cW (bC hd _));show aa (dE h1 (bC hd _) #[_] ?_);show FD hh ((bx ..).trans (bx ..)).extBut h
def a91{l:List α}(dQ:k< -l):(l[k]::l.eraseIdx k).Perm l:=by
 rw[mf]
 conv=>rhs;rw[<- jE k l,eZ dQ]
 show List.perm_middle.symm
def Gh{α:Type}:∀(n:Nat) (xs:List α) (s:Shared) (Q:List α->Shared->Prop),n=-xs->(∀ys d,ys.Perm xs->Q ys { s with drawn:=d })->wpAny (model prog w) A (drawOrder n xs) Q E s
 |0,xs,s,Q,e,h=>by
  have:=et e.symm;subst this;show ao (h [] s.drawn (jW _))
 |n+1,[],s,Q,e,h=>by simp at e
 |n+1,x::xs,s,Q,e,h=>by
  show aa ?_;intro Γ p hΓ;show#[by simp,?_];generalize (model prog w).w.draws .order (s.drawn.get .order)=k;let dQ:k % (x::xs).length<(x::xs).length:=Nat.mod_lt _ #[_];let go:wpAny (model prog w) A (match (x :: xs)[k % (x :: xs).length]? with
   |some y=>do
    let ys <- drawOrder n ((x::xs).eraseIdx (k % (x::xs).length))
    pure (y::ys)
   | none=>unsupported "internal:drawOrder") Q E { s with drawn:=s.drawn.bump .order }:=by
   rw[ag dQ];show aa (Gh n _ _ _ (by rw[gZ dQ];omega) λys d hp=>ao ?_);show h _ d ((List.Perm.cons _ hp).trans (a91 dQ))
  show go
def OW(hr:vV w es t pl r):(yi w a es ep pl r).Perm (es.toList.map (·.2)):=by
 cases r with
 |text=>show(Bf _ es).map _
 |plain=>rfl
 |drawn =>
  show(hr.2.map _).trans ?_;have:(List.range es.size).map (λj=>(es.getD j (0,.none)).2)=es.toList.map (·.2):=by
   apply List.ext_getElem
   .simp
   simp_all
  rw[this]
def Lies.ty(hL:Lies s.heap a es ep t):s.TypeIs (.ref a) "set":=let ⟨o,e,c,_⟩:=hL.at_;#[o,e,c]
def Yo(hL:Lies s.heap a es ep t)(hw:Well (Led w) t)(hz:es.size<=10000)(h:∀r pl b f I h' d',vV w es t pl r->G5 h' I a f 0 es.size ep->T7 h' t b pl 0 f r->b≠I->(b=a\/s⁻¹<=b)->(∀c o,s.heap.get? c=!o->h'.get? c=!o)->s⁻¹<=I->s⁻¹<=h'.objs.size->Q (.ref I) { s with heap:=h',drawn:=d' }) :
  wpAny (model prog w) A (pyIter (.ref a)) Q E s:=by
 let#[o,ho,CU,hd]:=hL.at_;show wpAny_pyIter_slot hL.ty F.slot_set_iter (cz F.slot_set_iter hL.ty aP0 ?_ (F.args_set_iter_1 _));show aa (ao ?_);show aa (aa (entries hL (ao ?_)));show aa (aa (bc ho hd hL.fit ?_));show aa (Y6 (ao ?_));let dQ:=aF ho;let fin:∀(r:Rd) (f:Value) (b:Addr) (pl:@&Nat) (h1:Heap) (d1:Drawn),vV w es t pl r->(∀h',(∀c o,h1.get? c=!o->h'.get? c=!o)->T7 h' t b pl 0 f r)->b<h1.objs.size->(b=a\/s⁻¹<=b)->(∀c o,s.heap.get? c=!o->h1.get? c=!o)->s⁻¹<=h1.objs.size ->
   wpAny (model prog w) A.in1 (do
    let e <- setEpoch a
    ret (<- newFields "set_iterator" [f,rawInt 0,.ref a,rawInt es.size,rawInt e])) (λfin s'=>∃ v,fin=Fin.done (Flow.ret v)/\∃ T' r,s'.TypeIs v T'/\typeLookup (.type T') "__next__"=pure (!r)/\Q v s') E { s with heap:=h1,drawn:=d1 }:=λr f b pl h1 d1 hr hf hb Dx he ia=>by
  let ve:=hL.at λo e=>he a o e;let#[o1,SI,_,JL]:=ve.at_;show aa (aa (bc SI JL ve.fit (ao ?_)));show aa (cR (ao #[_,rfl,"set_iterator",_,#[_,aJ _ rfl,rfl],E8.lookup,?_]));show h r pl b f h1.objs.size _ d1 hr #[_,aJ _ rfl,rfl,rfl] (hf _ λc o e=>av _ e) (aT hb) Dx (λc o e=>av _ (he c o e)) ia (by rw[size_push'];show Nat.le_succ_of_le ia)
 cases hT:w.params.followText "set-order" with
 |true =>
  show aa (ao ?_);show fin .text (rawInt 0) a [] s.heap s.drawn hT (λh' x=>#[0,rfl]) dQ (.inl rfl) (λc o e=>e) (aw _)
 |false =>
  change wpAny _ _ (if(~~~false&&(~~~t.plain&&decide (es.size>1)))=true then _ else _ ) _ _ _;by_cases hp:t.plain=true\/es.size<=1
  .rw[aA (by rcases hp with e|e<;>simp[e])];show aa (ao ?_);show fin .plain (rawInt 0) a [] s.heap s.drawn #[hT,hp,?_] (λh' x=>rfl) dQ (.inl rfl) (λc o e=>e) (aw _);have:Led w=true:=by unfold Led;rw[hT];rfl
   simp_all
  .rw[az (by grind)];show aa (Gh _ _ _ _ (iu).symm λys d hy=>?_);let hl:-ys=es.size:=by rw[hy.length_eq];simp
   show aa (cR ?_ (by show(List.map _ ys).toArray.size<=sizeLine;rw[aV,ah,hl];show aG hz ∅));show fin .drawn (.ref s⁻¹) s⁻¹ ys _ d #[hT,hy] (λh' hk=>#[rfl,_,_,hk _ _ (aJ _ rfl),rfl,rfl]) #[_] (.inr (aw _)) (λc o e=>av _ e) #[_]
def a71(hh:A.handled=none)(hr:vV w es t pl r)(fh:b≠I)(SK:a≠I) :
  Walks prog w A I [I,a,b] [I] es.size (λi v=>(yi w a es ep pl r)[i]?=!v) (λi h=>Lies h a es ep t/\∃f,G5 h I a f i es.size ep/\T7 h t b pl i f r) where
 sub:=λc hc=>by simp_all
 frame:=λi h h' st hk=>by
  let#[hL,f,hi,hf]:=st;show#[hL.at λo e=>hk a #[_] o e,f,hi.at λo e=>hk I #[_] o e,?_];cases r with
  |text=>show hf
  |plain=>show hf
  |drawn =>
   let#[e1,o,e,h1,h2]:=hf;show#[e1,o,e,hk b #[_] o h1,h2]
 item:=λi s Q E hi st hQ=>by
  let#[hL,f,hI,hf]:=st;show next_item hL hr hI hf fh hi λv h' f' hv h1 h2 h3=>hQ v h' s.toks hv #[hL.at λo e=>by rw[h3.2 a SK];show e,f',h1,h2] λc o hc e=>h3.extBut c o (λz=>hc (by simp[z])) e
 done:=λs Q E st hQ=>by
  let#[hL,f,hI,hf]:=st;show next_end hh hL hr hI hf fh λh' he=>hQ h' s.toks λc o hc e=>he c o (λz=>hc (by simp[z])) e
 self:=λi s Q E st hQ=>by
  let#[hL,f,hI,hf]:=st;show wpAny_pyIter_slot hI.ty Nu (cz Nu hI.ty aT0 ?_ (aQ7 _));show aa (ao (ao #[_,rfl,"set_iterator",_,hI.ty,E8.lookup,hQ]))
def aN3:typeLookup (.type "set") "__len__"=pure (!(.builtin "set.__len__")):=by rfl
def aR4(hh:A.handled=none)(hL:Lies s.heap a es ep t)(hw:Well (Led w) t)(hz:es.size<=10000){Q:@&Value->Shared->Prop}(h:∀(vs:@&Value) h' d' nZ,vs.Perm (es.toList.map (·.2))->(∀c o,s.heap.get? c=!o->h'.get? c=!o)->s⁻¹<=h'.objs.size->s.toks<=nZ->Q vs { s with heap:=h',drawn:=d',toks:=nZ }) :
  wpAny (model prog w) A (collect (.ref a)) Q E s:=by
 let dQ:=let ⟨o,ho,_⟩:=hL.at_;aF ho
 show aa (wpAny_runValue (fN F.entry_proto_collect ?_));show aa (cR ?_);show ao #[nB F.plain_list_iadd _,fN F.entry_list_iadd ?_];let ve:Lies (s.heap.push { cls:=.type "list",data:=.seq ([]:@&Value).toArray }) a es ep t:=hL.at λo e=>av _ e;let zW:(s.heap.push { cls:=.type "list",data:=.seq ([]:@&Value).toArray }).get? s⁻¹=some { cls:=.type "list",data:=.seq ([]:@&Value).toArray }:=aJ _ rfl;let fh:=cK dQ;let h1:Builtin.List.listSameRef (.ref s⁻¹) (.ref a)=false:=by simp[Builtin.List.listSameRef,fh]
 change wpAny _ A.in1 (Builtin.List.listExtendWith (.ref s⁻¹) (.ref a) (.ref s⁻¹)) _ _ _;show aa (fz (Lies.ty ve) ?_);rw[aA (by rw[h1];decide)];show aa (Yo ve hw hz λr pl b f I h2 d2 hr hI hf hb Tu he DK h2z=>?_);let zX:=ve.at λo e=>he a o e;let tF:=he _ _ zW;show aa (bB ?_);show aa (wpAny_specialOf (Lies.ty zX) aN3 ?_);generalize JB:("set.__len__":String)=Sl;dsimp only;rw[show splitId Sl=some ("set","__len__") from by subst JB;decide +kernel];show aa (fA (b:=true) (Lies.ty zX) (by rfl) ?_);rw[aA ∅];subst JB;rw[az #[]];show aa (fz (Lies.ty zX) ?_);show ao ?_;rw[az #[]];show aa (gK ?_);show aa ?_;show aa (wpAny_updateSeq tF rfl ?_);let zV:=bh (Obj.mapSeq (·.push Value.none)) tF rfl;show wpAny_updateSeq (s:={ s with heap:=_,drawn:=d2 }) zV rfl ?_;let TJ:=bh (Obj.mapSeq (·.pop)) zV rfl;let sE:∀c o,c≠s⁻¹->h2.get? c=!o->((h2.update s⁻¹ (Obj.mapSeq (·.push Value.none))).update s⁻¹ (Obj.mapSeq (·.pop))).get? c=!o :=
  λc o hc e=>(bT _ _ (bR hc)).trans ((bT _ _ (bR hc)).trans e)
 let uO:s⁻¹<(s.heap.push { cls:=.type "list",data:=.seq ([]:@&Value).toArray }).objs.size:=by simp
 let hSI:=cK (aI uO DK);let hSb:b≠s⁻¹:=by
  rcases Tu with z|z
  .rw[z];show bR fh
  .exact cK (aI uO z)
 let W:=(a71 (prog:=prog) (A:=A.in1) (ep:=ep) hh hr hb (aT (aI (dH dQ uO) DK))).toS;let st:Lies h2 a es ep t/\∃f,G5 h2 I a f 0 es.size ep/\T7 h2 t b pl 0 f r:=#[zX,f,hI,hf]
 let kT:=W.frame 0 ({ s with heap:=h2,drawn:=d2 }:Shared) _ s.toks st (aw _) λc hc o e=>sE c o (λz=>by simp at hc;rcases hc with y|y|y<;>simp_all) e;show ao #[nB F.plain_extend_loop _,codeAny_extend_loopS W (aG hz ∅) _ (λz=>by simp at z;rcases z with y|y|y<;>simp_all) _ es.size 0 _ _ _ rfl (cw _) kT TJ (ItemsOf.nil _) λs' yE c' hm lX oO=>?_];show aa (wpAny_load lX ?_);show ao ?_;let eS:s'={ s with heap:=s'.heap,drawn:=d2,toks:=s'.toks }:=by
  let#[lR,g',d',nZ,wC]:=s';let m1:g'=s.gens:=hm.gens;let m2:d'=d2:=hm.drawn;let m3:wC=s.os:=hm.os
  grind
 let eo:yE.toList=yi w a es ep pl r:=by
  let l1:(yi w a es ep pl r).length=es.size:=by rw[(OW hr).length_eq];simp
  apply List.ext_getElem
  .rw[l1];simpa using oO.1
  .intro i h1 h2;have:=oO.2 i yE.toList[i] (by simp at h1 ⊢);dsimp only at this;rw[ag h2] at this;show(aO this).symm
 rw[eo,eS];show h _ _ d2 s'.toks (OW hr) (λc o e=>?_) (dI (aF lX)) hm.toks;let hc:=aF e;let n1:=aT hc;let n2:=aT (aI (dH hc uO) DK);show hm.heap c o (by simp[n1,n2]) (sE c o n1 (he c o (av _ e)))
def aZ4(hh:A.handled=none)(hS:j9 prog w s.heap a ks)(J':-ks<64)(h:∀(S:Addr) (vs:@&Value) (ns:@&Int) e h' d' nZ,IntsAre vs ns->ns.Perm ks->ns.Pairwise (·<=·)->h'.get? S=!(seqObj "list" vs.toArray e)->s⁻¹<=S->(∀c o,s.heap.get? c=!o->h'.get? c=!o)->s.toks<=nZ->Q (.ref S) { s with heap:=h',drawn:=d',toks:=nZ }) :
  wpAny (model prog w) A (call (.builtin "sorted") [.ref a]) Q E s:=by
 let#[o,es,ep,t,ho,hx,hd,jt,hp,hn,hb,hf,hw]:=hS;let hL:Lies s.heap a es ep t:=#[#[o,ho,hx.1,hd],hf]
 let hz:es.size=-ks:=by rw[<- hp.length_eq];simp
 show Ip kind_sorted plain_sorted entry_sorted (args_sorted1 _) ?_;unfold Builtin.«sorted»;show aa (m:=checkCount "sorted" 1 1 _) (ao ?_);show aa (aR4 (A:=A.in1) hh hL hw () λvs h1 d1 Ca hv he uO zJ=>?_);let hI:IntsAre vs (vs.map toI):=by
  let all:∀v∈vs,∃tk,v=.int (toI v) tk:=λv CK=>by
   let#[e,tj,rfl]:=aQ.mp (hv.mem_iff.mp CK);let#[tk,h1,_]:=yF jt tj;show#[tk,h1]
  clear hv
  induction vs with
  |nil=>show .nil
  |cons v r ih =>
   let#[tk,e]:=all v #[_];have:=IntsAre.cons (toI v) tk (ih λu hu=>all u (by simp[hu]));rw[<- e] at this;show this
 let hk:(vs.map toI).Perm ks:=by
  show(hv.map toI).trans ?_;rw[bI];show hp
 let hl:-vs<64:=by rw[hv.length_eq];simp;omega
 show aa (wpAny_newList (s:={ s with heap:=h1,drawn:=d1,toks:=Ca }) ?_);let qj:(h1.push (seqObj "list" vs.toArray 0)).get? h1.objs.size=!(seqObj "list" vs.toArray 0):=aJ _ rfl;show aa (bB (cz (s:={ s with heap:=h1.push (seqObj "list" vs.toArray 0),drawn:=d1,toks:=Ca }) slot_list_sort #[_,qj,rfl] entry_list_sort (list_sort_tree qj hI hl λout oh a1 a2 a3=>#[_,rfl,?_]) (args_list_sort _)));let#[e,tj]:=sortedHeap_at (vs:=vs) (out:=out) qj;show ao #[_,rfl,h h1.objs.size out.toList oh e _ d1 Ca a1 (a2.trans hk) a3 tj uO (λc o' e'=>?_) zJ];let hc:=aF (he c o' e');rw[sortedHeap_old (aT hc) (by rw[size_push'];show Nat.lt_succ_of_lt hc)];show av _ (he c o' e')
abbrev f6(ks xs:@&Int):@&Int:=xs.foldl F2 ks
def F9:∀(xs ks:@&Int),(f6 ks xs).length<=-ks+-xs
 |[],ks=>by simp[f6]
 |x::xs,ks=>by
  have:=F9 xs (F2 ks x);let h2:=OA ks x;show(f6 (F2 ks x) xs).length<=_
  grind
set_option tactic.hygienic true in
def F6:∀(xs ks:@&Int) (k:Int),k∈f6 ks xs↔k∈ks\/k∈xs
 |[],ks,k=>by simp[f6]
 |x::xs,ks,k=>by
  change k∈f6 (F2 ks x) xs↔_;rw[F6 xs];unfold F2;split
  .rename_i h;constructor
   .rintro(a|a)
    .exact .inl a
    .exact .inr (by simp[a])
   .rintro(a|a)
    .exact .inl a
    .rcases aM.mp a with rfl|b
     .exact .inl h
     .exact .inr b
  .simp[or_assoc]
set_option tactic.hygienic true in
def U6:∀(xs ks:@&Int),ks.Nodup->(f6 ks xs).Nodup
 |[],ks,h=>h
 |x::xs,ks,h=>by
  show U6 xs _ ?_;unfold F2;split
  .exact h
  .rename_i hk;rw[cL];show#[h,by simp,λa ha b hb=>by simp at hb;subst hb;show λz=>hk (z▸ha)]
def MC:Well (Led w) (SetTable.fresh 0 0 (Led w)):=#[by simp[lB,SetTable.fresh],rfl,rfl]
def FL(e:h.get? a=some { cls:=.type "set",dict:=none,data:=.set (List.toArray []) 0 (.fresh 0 0 (Led w)) }):j9 prog w h a [] :=
 #[_,(List.toArray []),0,_,e,#[rfl,rfl,rfl],rfl,(by intro e he;simp at he),by simp,by simp,by decide,by rfl,MC]
def YB{R:Result->Shared->Prop}{fp wr:@&Addr}{G:Array GenState->Array GenState->Prop}{P:Nat->Value->Prop}{St:Nat->Shared->Prop}(W:WalksS prog w A.in1 I fp wr G n P St)(JT:a∉fp)(hn:n=-ns)(hv:∀i v,P i v->∃tk,v=.int (ns.getD i 0) tk)(hb:n+1<scanBound):∀(k i:Nat) (s:Shared),i+k=n->St i s->j9 prog w s.heap a (f6 [] (ns.take i)) ->
   (∀s',Moved (a::wr) G s s'->j9 prog w s'.heap a (f6 [] ns)->R (.ok (.ret .none)) s')->codeAny (model prog w) A (.builtin "set.update.loop" #[[.ref a,.ref I],[]]) R s:=by
 let hw:a∉wr:=λh=>JT (W.sub _ h);let wo:∀b∈wr,b∈a::wr:=λb hb=>by simp[hb]
 intro k
 induction k with
 |zero =>
  intro i s e st hS hR;obtain rfl:i=n:=by omega
  show fN kl ?_;show aa (W.done s _ _ st λs' m=>ao (hR s' (m.mono wo) (j9.at ?_ λo e=>m.heap a o hw e)))
  simp_all
 |succ k ih =>
  intro i s e st hS hR;let dQ:i< -ns:=by omega
  show fN kl ?_;show aa (W.item i s _ _ () st λv s' hP nF m=>?_);let#[tk,rfl]:=hv i v hP;let lX:=j9.at hS λo e=>m.heap a o hw e;let hl:=F9 (ns.take i) [];rw[cU] at hl;simp only[List.length_nil] at hl;show aa (bB ?_);show bB (aa ((intKind prog w).pyHash (k:=ns.getD i 0) (gL _ _ _ _) ?_));show HF (s:={ s' with toks:=s'.toks+1 }) lX () λh' bb sb tF=>?_;let e2:F2 (f6 [] (ns.take i)) (ns.getD i 0)=f6 [] (ns.take (i+1)):=by
   unfold f6;rw[bJ,List.foldl_append,ag dQ];simp[List.getD,dQ]
  rw[e2] at tF;show ao #[nB PyProof.Rows.F.plain_set_update_loop _,ih (i+1) _ () (W.frame _ s' _ _ nF (nD _) λb hb o e=>by rw[sb.2 b λz=>JT (z▸hb)];show e) tF λs2 m2 h2=>?_];show hR s2 (Moved.trans W.gtrans ((m.mono wo).then_heap (nD _) λb o hb e=>by rw[sb.2 b λz=>hb (by rw[z];simp)];show e) m2) h2
noncomputable abbrev A4(w:World):Obj:={ cls:=.type "set",dict:=none,data:=.set (List.toArray []) 0 (.fresh 0 0 (Led w)) }
def Fe(h:Q (.ref s⁻¹) { s with heap:=s.heap.push (A4 w) }):wpAny (model prog w) A (newSet (.type "set")) Q E s:=by
 show aa (Y6 ?_);show cR h (cw _)
def WO(x:Value)(h:Q (.ref s⁻¹) { s with heap:=s.heap.push (A4 w) }):codeAny (model prog w) A (.call (.builtin "set.__new__") #[[.type "set",x],[]]) (wants Q E) s:=by
 show vZ (?_:wpAny _ A.in1 (do
  checkBuiltinCall "set.__new__" #[[.type "set",x],[]]
  again (.builtin "set.__new__" #[[.type "set",x],[]])) _ _ s)
 show aa (dR (F.newCall_set_1 x) (ao #[nB F.plain_set_new _,?_]));show fN F.entry_set_new ?_;let sub:=sub_set_self;show aa ?_;show aa (dR (by rfl) ?_);show aa (dR sub ?_);show ao ?_;show aa (Fe (ao h))
def L0{vs:@&Value}(h:IntsAre vs ns):-vs=-ns:=by
 induction h with
 |nil=>rfl
 |cons n t r ih=>simp[ih]
def yN(h:Heap)(l:Addr)(items:Array Value):Prop:=h.IsList l items\/h.IsTuple l items
def yN.lt(x:yN h l items):l<h.objs.size:=by
 rcases x with⟨_,e,_⟩|⟨_,e,_⟩<;>show aF e
def Xf{Q:Fin->Shared->Prop}(hh:A.handled=none)(hS:s.heap.get? a=!A4 w)(hl:yN s.heap l items)(hi:IntsAre items.toList ns)(hb:items.size+1<scanBound)(fh:a≠l)(h:∀h' tk,j9 prog w h' a (f6 [] ns)->(∀b o,b≠a->s.heap.get? b=!o->h'.get? b=!o)->s.toks<=tk->wpAny (model prog w) A (ret .none) Q E { s with heap:=h',toks:=tk }) :
  wpAny (model prog w) A (Builtin.«set.__init__» #[[.ref a,.ref l],[]]) Q E s:=by
 let hT:s.TypeIs (.ref a) "set":=#[_,hS,rfl]
 let dQ:=hl.lt;let Jt:=aT dQ;show aa (dR rfl ?_);let nm:∀{Q':String->Shared->Prop},(∀x,Q' x s)->wpAny (model prog w) A (typeNameOfCut 200 (.ref a)) Q' E s:=λ{Q'} q=>by
  show aa (aa (fz hT ?_));show ao (dR (a:="set") ?_ (q _))
  rfl
 show aa (nm λx=>?_);show aa (ao ?_);show aa (ao ?_);show aa (aa (bc hS rfl rfl (ao ?_)));rw[aA (by unfold SetTable.fill;simp[SetTable.fresh])];unfold Builtin.Frozenset.updateFrom Builtin.Frozenset.isAnySet;obtain⟨c,va,DG,it,hit,Jx,St,W,fF⟩:∃c:String,(c="list"\/c="tuple")/\s.TypeIs (.ref l) c/\∃it:Obj,(∀Q':Value->Shared->Prop,Q' (.ref s⁻¹) { s with heap:=s.heap.push it }->wpAny (model prog w) A (pyIter (.ref l)) Q' E s) /\
   (∀b o,s.heap.get? b=!o->(s.heap.push it).get? b=!o)/\∃St:Nat->Shared->Prop,WalksS prog w A.in1 s⁻¹ [s⁻¹,l] [s⁻¹] (λa b=>b=a) items.size (λi v=>items[i]?=!v) St/\St 0 { s with heap:=s.heap.push it }:=by
  rcases hl with hl|hl
  .let#[o,ho,hc,_]:=id hl;show#["list",.inl rfl,#[o,ho,hc],_,λQ' q=>jw hl q,λb o e=>av _ e,_,(Walks.list (A:=A.in1) hh _ l Jt items).toS,#[#[_,aJ _ rfl,rfl,rfl],hl.push _]]
  .let#[o,ho,hc,_]:=id hl;show#["tuple",.inr rfl,#[o,ho,hc],_,λQ' q=>wpAny_pyIter_tuple hl q,λb o e=>av _ e,_,(Walks.tuple (A:=A.in1) hh _ l Jt items).toS,#[#[_,aJ _ rfl,rfl,rfl],hl.push _]]
 show aa (aa (aa (fA (b:=false) DG (by rcases va with rfl|rfl<;>(rw[lD];kernel_rfl)) ?_)));show fA (b:=false) DG (by rcases va with rfl|rfl<;>(rw[lD];kernel_rfl)) ?_;rw[aA ∅];show aa (fz DG ?_);rw[aA (by rcases va with rfl|rfl<;>decide)];show aa (hit _ ?_);show aa (wpAny_runValue ?_);let Tz:=aF hS;let ia:items.size=-ns:=by show L0 hi
 show YB W (by simp only[List.mem_cons,List.not_mem_nil,or_false,not_or];show#[aT Tz,fh]) ia (λi v hv=>IntsAre.int_at hi i v (by rw[zr];show hv)) hb items.size 0 _ ()
  fF (FL (Jx _ _ hS)) λs' m lX=>?_
 let eS:s'={ s with heap:=s'.heap,toks:=s'.toks }:=by
  let#[lR,g',d',nZ,wC]:=s';let m1:g'=s.gens:=m.gens;let m2:d'=s.drawn:=m.drawn;let m3:wC=s.os:=m.os
  simp_all
 rw[eS];show ao (h _ _ lX (λb o hb e=>?_) m.toks);show m.heap b o (by simp only[List.mem_cons,List.not_mem_nil,or_false,not_or];show#[hb,aT (aF e)]) (Jx _ _ e)
def OE(hh:A.handled=none)(hl:yN s.heap l items)(hi:IntsAre items.toList ns)(hb:items.size+1<scanBound)(h:∀h' tk,j9 prog w h' s⁻¹ (f6 [] ns)->(∀b o,s.heap.get? b=!o->h'.get? b=!o)->s.toks<=tk->Q (.ref s⁻¹) { s with heap:=h',toks:=tk }) :
  wpAny (model prog w) A (call (.type "set") [.ref l]) Q E s:=by
 let cs:=F.called_set;let#[_,_,y1]:=cs.mro;let y2:=cs.made;let y3:=cs.sub;let y6:=F.typeCall_set_1 (.ref l);show wpAny_call (vZ (?_:wpAny _ _ (callAny (.type "set") _) _ _ _));show ao #[Code.quiet_builtin _ #[],fN F.entry_type_call ?_];rw[Around.under_plain (weight_type_call_type "set" [.ref l] []) rfl]
 repeat (any_goals (first|assumption|wp_step))
 show fX (WO (.ref l) (E:=E) (Q:=λv s1=>v=.ref s⁻¹/\s1={ s with heap:=s.heap.push (A4 w) }) #[rfl,rfl]) ?_;rintro(e|fl) s1 hr
 .exact hr
 cases fl with
 |next=>show hr
 |brk=>show hr
 |cont=>show hr
 |ret v =>
 let#[rfl,rfl]:=hr;let hS:(s.heap.push (A4 w)).get? s⁻¹=!A4 w:=aJ _ rfl;let hT:Shared.TypeIs { s with heap:=s.heap.push (A4 w) } (.ref s⁻¹) "set":=#[_,hS,rfl]
 let y7:=cs.init.lookup;let y8:=cs.init.bind (.ref s⁻¹)
 repeat (any_goals (first|assumption|wp_step))
 show fX (codeAny_call_builtin (R:=wants (λv s2=>v=.none/\∃h' tk,s2={ s with heap:=h',toks:=tk }/\j9 prog w h' s⁻¹ (f6 [] ns)/\(∀b o,s.heap.get? b=!o->h'.get? b=!o)/\s.toks<=tk) E) cs.init.plain F.entry_set_init (check_set_init_1 hT ?_)) ?_
 .let Jw:yN (s.heap.push (A4 w)) l items:=hl.imp (·.push _) (·.push _);let SQ:=hl.lt;show Xf (by simp[hh]) hS Jw hi hb (cK SQ) λh' tk h1 h2 h3=>ao #[rfl,h',tk,rfl,h1,λb o e=>h2 b o (aT (aF e)) (av _ e),h3]
 .rintro(e|fl) s2 hr
  .exact hr
  cases fl with
  |next=>show hr
  |brk=>show hr
  |cont=>show hr
  |ret v =>
  let#[rfl,h',tk,rfl,h1,h2,h3]:=hr
  repeat (any_goals (first|assumption|wp_step))
  show h _ _ h1 h2 h3
end ST
namespace L2
open PySem PySem.Spec PyProof.Rows
abbrev X3(X:Cx)(a:Addr)(ks:@&Int):HO:=.ext λh=>ST.j9 X.prog X.w h a ks
abbrev o8(ns:@&Int):@&Int:=(ST.f6 [] ns).mergeSort (λa b=>decide (a<=b))
def Z1:∀{a b:@&Int},a.Perm b->a.Pairwise (·<=·)->b.Pairwise (·<=·)->a=b
 |[],b,h,_,_=>by simp_all
 |x::a,[],h,_,_=>absurd h.length_eq #[_]
 |x::a,y::b,h,h1,h2=>by
  rw[fB] at h1 h2;let e:x=y:=by
   let m1:=h.mem_iff (a:=y);let m2:=h.mem_iff (a:=x);simp only[List.mem_cons,true_or,true_iff,iff_true] at m1 m2;rcases m1 with z|z
   .exact z.symm
   .grind
  subst e;rw[Z1 (h.cons_inv) h1.2 h2.2]
def MU(ns:@&Int):(o8 ns).Pairwise (·<=·):=by
 have:=uy (le:=λa b:Int=>decide (a<=b)) (λa b c h1 h2=>by simp at *;omega) (λa b=>by simp;omega) (ST.f6 [] ns);show this.imp λh=>by simpa using h
def P6(ns:@&Int):(o8 ns).Perm (ST.f6 [] ns):=Ik _ _
def Y8(ns:@&Int):(o8 ns).length<=-ns:=by
 rw[(P6 ns).length_eq];have:=ST.F9 ns []
 simp_all
section
variable{X:Cx}{pi:@&(Addr×Obj)}{U:St}{H:Hp}{s:Shared}
def Inv.draw(I:Inv X pi U H s)(d:Drawn):Inv X pi U H { s with drawn:=d } :=
 I.step (g':=s.gens) (t':=s.toks) (d':=d) (ch:=[]) #[_] (λb o x x x e x=>e) (λb o x x x e x=>#[o.slots,e]) (λb o x x e=>e) (λb o x e=>#[o,e]) (λx x e=>e) (λx x x e=>e) (λb ps e=>#[(List.toArray []),by simp[e]]) (λm hm=>hm) I.bV I.bare
def AQ{h:Heap}{a:Addr}{ks:@&Int}(x:ST.j9 X.prog X.w h a ks):m8 X.prog X.w H h a (X3 X a ks) :=
 #[x,by let#[o,_,_,_,e,_]:=x;show#[o,e],λh1 h2 y k=>y.at k]
def MV{ns:@&Int}{vs:@&Value}(h:IntsAre vs ns):Vals (ns.map V.int) vs:=by
 induction h with
 |nil=>show .nil
 |cons n t r ih=>show .cons #[t,rfl] ih
def Q7:∀{ns:@&Int} {vs:@&Value},Vals (ns.map V.int) vs->IntsAre vs ns
 |[],_,h=>by cases h;show .nil
 |n::ns,_,h=>by
  cases h with
  |cons r rr =>
   let#[t,rfl]:=r;show .cons n t (Q7 rr)
def Nn(hc:X.calm=true):u4 X (.type "set") (λxs H Q=>∃a ns,xs=[.ref a]/\gw X.K H a (ns.map V.int)/\-ns<60/\∀p,H p=none->Q (.ref p) (upd H p (X3 X p (ST.f6 [] ns)))):=by
 intro pi s U H xs us Q I r h;let#[a,ns,rfl,hq,hl,q]:=h;cases r with
 |cons r rr =>
 cases rr;cases r;let#[bo,rv,p,hz]:=I.list hq;let hI:=Q7 rv;let hlen:=ST.L0 hI;show ST.OE (ns:=ns) (I.ok.hd hc) (.inl p.isList) (_/hI) (by rw[aV,hlen];show aI (Nat.succ_lt_succ hl) ∅) λh' tk hS hk x=>?_;show#[.ref _,_,I.laid (a:=s⁻¹) (t':=tk) hk (aw _) (AQ hS),rfl,q _ (I.bV.fresh (aw _))]
def Np(hc:X.calm=true):u4 X (.type "set") (λxs H Q=>∃a ns,xs=[.ref a]/\ja X.K H a (ns.map V.int)/\-ns<60/\∀p,H p=none->Q (.ref p) (upd H p (X3 X p (ST.f6 [] ns)))):=by
 intro pi s U H xs us Q I r h;let#[a,ns,rfl,hq,hl,q]:=h;cases r with
 |cons r rr =>
 cases rr;cases r;let#[bo,rv,p,hz]:=I.tuple hq;let hI:=Q7 rv;let hlen:=ST.L0 hI;show ST.OE (ns:=ns) (I.ok.hd hc) (.inr (show s.heap.IsTuple a bo.toArray from p)) (_/hI) (by rw[aV,hlen];show aI (Nat.succ_lt_succ hl) ∅) λh' tk hS hk x=>?_;show#[.ref _,_,I.laid (a:=s⁻¹) (t':=tk) hk (aw _) (AQ hS),rfl,q _ (I.bV.fresh (aw _))]
def R8(hc:X.calm=true):u4 X (.builtin "sorted") (λxs H Q=>∃a ns,xs=[.ref a]/\H a=!X3 X a (ST.f6 [] ns)/\-ns<60/\∀p,H p=none->Q (.ref p) (upd H p (.lst ((o8 ns).map V.int)))):=by
 intro pi s U H xs us Q I r h;let#[a,ns,rfl,ha,hl,q]:=h;cases r with
 |cons r rr =>
 cases rr;cases r;let hS:ST.j9 X.prog X.w s.heap a (ST.f6 [] ns):=(I.bV a _ ha).1;let hn:=ST.F9 ns [];simp only[List.length_nil] at hn;show ST.aZ4 (I.ok.hd hc) hS () λS vs oh e h' d' nZ h1 h2 h3 h4 h5 h6 x=>?_;let e1:oh=o8 ns:=Z1 (h2.trans (P6 ns).symm) h3 (MU ns);subst e1;let hz:=Y8 ns;show#[.ref S,_,(I.laid (a:=S) (o:=.lst ((o8 ns).map V.int)) (t':=nZ) h6 h5 #[by rw[ah];show aG hz (aG (dI hl) ∅),vs,e,MV h1,h4]).draw d',rfl,q S (I.bV.fresh h5)]
end
end L2
namespace ST
open PySem PyProof.Rows
def WL{prog:Program}{w:World}{A:Around}{E:Value->Shared->Prop}{s:Shared}{a:Addr}{ks:@&Int}{k:Int}{tk:Tok}{Q:Value->Shared->Prop}(hS:j9 prog w s.heap a ks)(hr:-ks+1<scanBound)(h:∀h',Heap.SameBut a s.heap h'->j9 prog w h' a (F2 ks k)->Q .none { s with heap:=h',toks:=s.toks+1 }):wpAny (model prog w) A (call (.builtin "set.add") [.ref a,.int k tk]) Q E s:=by
 let hT:s.TypeIs (.ref a) "set":=let ⟨o,_,_,_,e,x,_⟩:=hS;#[o,e,x.1]
 show cz F.slot_set_add hT F.entry_set_add ?_ (F.args_set_add_2 _ _);let go:∀(Q':Fin->Shared->Prop),(∀h',Heap.SameBut a s.heap h'->j9 prog w h' a (F2 ks k)->wpAny (model prog w) A.in1 (ret .none) Q' E { s with heap:=h',toks:=s.toks+1 })->wpAny (model prog w) A.in1 (do let _ <- setAdd a (.int k tk);ret .none) Q' E s:=λQ' q=>by
  show aa (bB (aa ((intKind prog w).pyHash (gL _ _ _ _) ?_)));show HF hS hr λh' b sb S2=>q h' sb S2
 unfold Builtin.«set.add» Builtin.Frozenset.oneOther;simp only[List.isEmpty_nil,bind_assoc];show aa (ao ?_);show aa (ao ?_);show go _ λh' sb S2=>ao #[_,rfl,h h' sb S2]
end ST
namespace L2
open PySem PySem.Spec PyProof.Rows
variable{elt iter:Expr}{ifs:@&Expr}{scope:Scope}{pos:Pos}
section
variable{prog:Program}{w:World}{A:Around}{R:Result->Shared->Prop}{s:Shared}
def aY6(elt target iter:Expr)(ifs:@&Expr)(scope:Scope)(pos:Pos)(it acc:Value)(env:Env):compTurn (.SetComp elt [#[target,iter,ifs,0]] scope pos) 0 it acc env=(do
      standAt iter.pos
      match <- pyNext it with
      |none=>pure (.done .next)
      |some v =>
        letOwnedTupleGo target it v
        assign target env v
        let mut ok:=true
        for c in ifs do if ok then ok <- isTrue c env (eval c env)
        if ok then(do let x <- eval elt env;standAt elt.pos;let _ <- call (.builtin "set.add") [acc,x])
        again (.compLoop (.SetComp elt [#[target,iter,ifs,0]] scope pos) 0 it acc env)):=by rfl
def aF9{target:Expr}{it acc:Value}{env:Env}(I:Nat->Shared->Prop)(turn:∀ n s,I n s->wpAny (model prog w) A (pyNext it) (λr bU=>match r with
   |none=>R (.ok .next) bU
   | some v=>wpAny (model prog w) A (letOwnedTupleGo target it v) (λy bU=>wpAny (model prog w) A (assign target env v) (λ_ fU =>
     wpAny (model prog w) A (forIn ifs true λc r=>if r=true then do let ok <- isTrue c env (eval c env);pure (ForInStep.yield ok) else pure (ForInStep.yield r)) (λok fM =>
      if ok=true then wpAny (model prog w) A (eval elt env) (λx iX =>
       wpAny (model prog w) A (call (.builtin "set.add") [acc,x]) (λy jF=>∃ m,m < n/\I m jF) (λy y=>False) iX) (λy y=>False) fM
      else ∃ m,m < n/\I m fM) (λy y=>False) fU) (λy y=>False) bU) (λy y=>False) bU) (λy y=>False) s)(n:Nat)(h:I n s) :
  codeAny (model prog w) A (.compLoop (.SetComp elt [#[target,iter,ifs,0]] scope pos) 0 it acc env) R s:=by
 show codeAny_loop rfl I (λn s hI=>?_) n h;change wpAny _ A ((compTurn (.SetComp elt [#[target,iter,ifs,0]] scope pos) 0 it acc env).onRaise (λx=>do noteFrame x env;theTreesLotGoes x)) _ _ s;show wpAny_noted ?_;rw[aY6];show aa (eR (aa (bE (turn n s hI) (λr bU ee=>?_) λy y h'=>h'.elim)));cases r with
 |none=>show ao ee
 |some v =>
  show aa (bE ee (λy bU ee=>?_) λy y h'=>h'.elim);show aa (bE ee (λy fU jL=>aa (bE jL (λok fM oB=>?_) λy y h'=>h'.elim)) λy y h'=>h'.elim);cases ok with
  |false=>show wpAny_pure #[rfl,oB]
  |true =>
   show aa (aa (bE oB (λx iX sL=>aa (eR (aa (bE sL (λy jF sJ=>ao (ao #[rfl,sJ])) λy y h'=>h'.elim)))) λy y h'=>h'.elim))
def aZ9{target:Expr}{it acc:Value}{env:Env}(h0:codeAny (model prog w) A (.compLoop (.SetComp elt [#[target,iter,ifs,0]] scope pos) 0 it acc env) R s)(h:wpAny (model prog w) A (pyIter it) (λJg s'=>codeAny (model prog w) A (.compLoop (.SetComp elt [#[target,iter,ifs,0]] scope pos) 0 Jg acc env) R s') (notedBy (model prog w) A env λx s'=>R (.error x) s') s) :
  codeAny (model prog w) A (.compStart (.SetComp elt [#[target,iter,ifs,0]] scope pos) 0 it acc env) R s:=by
 show vZ (?_:wpAny _ _ ((compStart (.SetComp elt [#[target,iter,ifs,0]] scope pos) 0 it acc env).onRaise (λx=>do noteFrame x env;standAt theWindowsPlace)) _ _ s);show wpAny_notedAt ?_;show aa (jU (wpAny_ite ?_));split
 .first
   |show ao #[rfl,h0]
   |show aa (ao (ao #[rfl,h0]))
 .refine aa (gK ?_);show aa (eR (aa (bE h (λJg s' h'=>ao #[rfl,h']) λy y x=>x)))
end
def bU6(o:Obj):Prop:=∀v,o.data≠.cell v
def bH0(X:Cx)(wi:TI)(c7:@&Nat)(n:Nat)(g:TG)(tc:TT)(te:TE):TE:=λU H Q=>wi U H λJ H1=>∃W:Nat->Nat->@&Int->St->Hp->Prop,(∃m,W 0 m [] (F1 U c7 n) H1)/\∀i m ys U H,W i m ys U H ->
 (J.stop i H/\∀p,H p=none->Q (.ref p) (upd H p (X3 X p (ST.f6 [] ys)))) \/
 (J.go i H/\-ys < 60/\∀ x H',J.qR i H x H'->g x U H' λcE H2=>tc cE H2 λb H3 =>
  if b=true then te cE H3 λy H4=>∃ k,y=.int k/\∃ m',m' < m/\W (i + 1) m' (ys ++ [k]) cE H4 else ∃ m',m' < m/\W (i + 1) m' ys cE H3)
section
variable{X:Cx}{pi:@&(Addr×Obj)}{U:St}{H:Hp}{s:Shared}
def Inv.bG6{D:Addr}{φ:Heap->Prop}(I:Inv X pi U H s)(f:K3 X pi H D)(hs:X.dJ.heap.objs.size<=D)(ho:m8 X.prog X.w (upd H D (.ext φ)) s.heap D (.ext φ)):Inv X pi U (upd H D (.ext φ)) s:=by
 let#[f0,f1,f2,f3,f4,f5]:=f;let fh:∀b o,X.dJ.heap.get? b=!o->b≠D:=λb o e z=>absurd (aF e) (by simp_all);let tup:∀b u,H b=!u->upd H D (.ext φ) b=!u:=λb u e=>by rw[d4 (j8 e f0)];show e
 show#[I.ok,I.os,I.bare,#[?_,?_,?_,I.base.there,?_,?_,?_],I.loc,I.cell,?_,?_,?_,?_,I.len,I.sg]
 .exact λb o e n1 n2 n3=>I.base.keep b o e n1 n2 n3
 .exact λb o e n1 n2 n3=>I.base.slot b o e n1 n2 n3
 .exact λb o e n1 n2=>by rw[d4 (fh b o e)];show I.base.free b o e n1 n2
 .exact λb xs e=>tup _ _ (I.base.iV b xs e)
 .exact λb o u e=>tup _ _ (I.base.iH b o u e)
 .exact λb ps e=>by
   let#[more,q]:=I.base.iW b ps e;show#[more,tup _ _ q]
 .rw[d4 f1.symm];show I.free
 .exact λx c e=>by rw[d4 (f4 x c e)];show I.fj x c e
 .intro p hp;let#[p1,p2,p3]:=I.pin p hp;show#[p1,by rw[d4 (f5 p hp)];show p2,p3]
 .intro a o e;by_cases ha:a=D
  .subst ha;rw[l6] at e
   simp_all
  .rw[d4 ha] at e;let q:=I.bV a o e;show q.K0 (λb u y h=>h) (λb hb=>tup _ _ hb) (λb xs hb=>tup _ _ hb)
def KS(X:Cx)(a:Addr)(ys:@&Int)(h:Heap)(o:Obj):Prop:=-ys<=60/\bU6 o/\h.get? a=!o/\ST.j9 X.prog X.w h a (ST.f6 [] ys)
def NR{n0:Nat}:Ie X n0 (KS X) λa ys=>X3 X a (ST.f6 [] ys) where
 nc:=λh=>h.2.1
 get:=λh=>h.2.2.1
 K0:=λ⟨h1,h2,h3,h4⟩ e=>#[h1,h2,e,h4.at λo e'=>by rw[h3] at e';cases e';show e]
 done:=λ_ I f hs ⟨_,_,h3,h4⟩=>I.bG6 f hs (AQ h4)
def aR5{tg:Expr}{N':@&Str}{c7:@&Nat}{cl:@&(Str×Addr)}{it:Addr}{fp:@&Addr}{tn:Nat->Heap->Prop}{J:It}{g:TG}{tc:TT}{te:TE}{RR:Value->Addr->Result->Shared->Prop}{E:Value->Shared->Prop}{W:Nat->Nat->@&Int->St->Hp->Prop}{m0:Nat}{Q:VK}(S:dg X scope N' c7 cl)(hc:X.calm=true)(hg:∀C s H,PG (d0 X pi scope N' cl C s H fp) tg g)(ht:∀C s H,lC (d0 X pi scope N' cl C s H fp) ifs tc)(he:∀C s H,PE (d0 X pi scope N' cl C s H fp) elt te)(I:Inv X pi U H s)(T:Turn X.prog X.w X.K tg J fp it tn)(st:tn 0 s.heap)(hf:∀b∈fp,K3 X pi H b)(w0:W 0 m0 [] (F1 U c7 (-N')) H)(turn:∀ i m ys U H,W i m ys U H->(J.stop i H/\∀ p,H p=none->Q (.ref p) (upd H p (X3 X p (ST.f6 [] ys)))) \/
   (J.go i H/\-ys < 60/\∀ x H',J.qR i H x H'->g x U H' λcE H2=>tc cE H2 λb H3 =>
    if b=true then te cE H3 λy H4=>∃ k,y=.int k/\∃ m',m' < m/\W (i + 1) m' (ys ++ [k]) cE H4 else ∃ m',m' < m/\W (i + 1) m' ys cE H3))(xG:∀D C s' H' m,Inv X pi U H' s'->Q (.ref D) H'->s'.heap.Ns C m->H' C=none->s⁻¹<=C->RR (.ref D) C (.ok .next) s') :
  wpAny (model X.prog X.w) X.A (newSet (.type "set")) (λacc fM=>wpAny (model X.prog X.w) X.A (newFunctionEnv scope X.env.globals cl [] X.env.qual none .none (!X.env)) (λcenv iX =>
   codeAny (model X.prog X.w) X.A (.compStart (.SetComp elt [#[tg,iter,ifs,0]] scope pos) 0 (.ref it) acc { cenv with scope:=relabel scope X.env }) (RR acc cenv.locals) iX) E fM) E s:=by
 show ST.Fe (NB λee lU jM tD=>?_);let eC:(s.heap.push (ST.A4 X.w)).objs.size=s⁻¹+1:=fY ..
 replace eC:=eC.symm
 let oO:=jM _ _ (aJ _ rfl);generalize (s.heap.push (ST.A4 X.w)).objs.size=C at *;show (λL=>aZ9 L.2 (T.self _ 0 _ _ _ L.1 L.2)) (Po (tb:=λys U H P=>te U H λy H'=>∃ k,y=.int k/\P (ys ++ [k]) H')
  (body:=λP fM=>wpAny (model X.prog X.w) X.A (eval elt (compEnvC scope (N9 scope cl C) C X.env)) (λx iX=>wpAny (model X.prog X.w) X.A (call (.builtin "set.add") [.ref s⁻¹,x]) (λt jF=>P jF) (λt t=>False) iX) (λt t=>False) fM)
  NR S hc (hg C s H) (ht C s H) I T st hf w0 turn (λs' H' m=>xG _ C s' H' m) #[_,lU] jM tD eC #[cw _,(λv (z:Data.set _ _ _=_)=>by cases z),oO,ST.FL oO] rfl (λys o fV cv H' s' P R' hz k hb I' q hR=>?_) (λI turn n h=>aF9 I turn n h))
 show cN (he C s H _ s' cv H' _ I' q) λxv s8 bA=>?_;let#[y,H8,I8,r8,kk,ey,q8]:=bA;subst ey;let#[tk,rfl]:=r8;let#[_,_,_,S8]:=(NR (n0:=0)).K0 k (hb I8);let Cu:=ST.F9 ys [];simp only[List.length_nil] at Cu;show ST.WL S8 (aI (by omega:_<62) ∅) λh' sb S9=>?_;let e9:ST.F2 (ST.f6 [] ys) kk=ST.f6 [] (ys++[kk]):=by unfold ST.f6;rw[List.foldl_append];rfl
 rw[e9] at S9;let#[o9,es9,ep9,t9,g9,x9,d9,r9]:=id S9;show hR s8 H8 _ h' (s8.toks+1) o9 I8 q8 (λb' u hb hu=>by rw[sb.2 b' hb];show hu) #[by rw[aY,zo];omega,(λv z=>by rw[d9] at z;cases z),g9,S9]
def XI{tg:Expr}{N':@&Str}{c7:@&Nat}{cl:@&(Str×Addr)}{wi:TI}{g:TG}{tc:TT}{te:TE}(S:dg X scope N' c7 cl)(hc:X.calm=true)(hi:PI X tg iter wi)(hg:∀pi C s H fp,PG (d0 X pi scope N' cl C s H fp) tg g)(ht:∀pi C s H fp,lC (d0 X pi scope N' cl C s H fp) ifs tc)(he:∀pi C s H fp,PE (d0 X pi scope N' cl C s H fp) elt te)(hs:∀x,foldedSetIterable iter X.env x=pure x):PE X (.SetComp elt [#[tg,iter,ifs,0]] scope pos) (bH0 X wi c7 (-N') g tc te):=by
 intro pi s U H Q I h;show jC rfl hs S.qu S.kind S.names (cN (hi pi s U H _ I h) λxv bU ee=>cN ee λuN fU jL=>?_);let#[it,fp,tn,J,H2,e,I2,T,kT,f2,W,#[m0,w0],turn]:=jL;subst e;show aR5 S hc (λC s H=>hg pi C s H fp) (λC s H=>ht pi C s H fp) (λC s H=>he pi C s H fp) I2 T kT f2 w0 turn ?_;intro D C s' H' m I' q hn hC ia;show#[m,hn,λh' sb=>#[.ref D,H',I'.vH ia I2 hC sb,rfl,q]]
end
end L2
namespace HT
open PySem PyProof.Rows Builtin
def ar4:fillsNumberSlot (.type "tuple") "mul"=pure false :=
 PySem.fillsNumberSlot_seq F.slot_tuple_mul.lookup #[] F.slot_tuple_rmul.lookup #[]
def aL2:seqRepeat? (.type "tuple")=pure (!(.builtin "tuple.__mul__")):=by
 rfl
def aA1(a:Int)(t:Tok)(l:Addr)(items:Array Value)(n:Nat)(dd:Option Addr)(sl:Array (Option Value)) :
  Meets (Builtin.«int.__rmul__» #[[.int a t,.ref l],[]]) (λx R s=>s.heap.get? l=some { cls:=.type "tuple",dict:=dd,data:=.seq items n,slots:=sl }/\R (.ok (.ret Value.notImplemented)) s) :=
 .of_wp λprog w A R s h=>by let#[hl,h]:=h;wp_walk;show#[_,rfl,h]
section
variable{prog:Program}{w:World}{A:Around}{E:Value->Shared->Prop}{s:Shared}
def a27(bo:@&Value):∀(m:Nat) (acc:Array Value),List.foldl (λx1 x2=>x1++x2) acc (List.replicate m bo.toArray)=acc++(List.replicate m bo).flatten.toArray:=by
 intro m
 induction m with
 |zero=>intro acc;simp
 |succ m ih=>intro acc;rw[gF,nU,ih,gF,List.flatten_cons];simp
def a62{a:Addr}{bo:@&Value}{n:Int}{t:Tok}{Q:Value->Shared->Prop}(ht:IsTup s.heap a bo.toArray)(fh:bo≠[])(h1:1<=n)(h2:n<2 ^ 62)(hz:-bo*n.toNat<=sizeLine)(q1:n=1->Q (.ref a) s)(q2:Q (.ref s⁻¹) { s with heap:=s.heap.push { cls:=.type "tuple",data:=.seq (List.replicate n.toNat bo).flatten.toArray } }):wpAny (model prog w) A (binaryOp .Mult (.ref a) (.int n t)) Q E s:=by
 let#[o,ho,hc,k,hd]:=id ht;let#[cls,dict,data,slots]:=o;subst hc hd;let he:bo.toArray.isEmpty=false:=by grind
 show Ih ∅ ht.typeIs (λs'=>nS s' n t) ar4 F.fills_int_mul kH aL2 F.slot_int_index.lookup
  (eN kH (nS s n t) F.entry_int_rmul (F.args_int_rmul_2 _ _) (aA1 n t a bo.toArray k dict slots) #[ho,rfl,ht.typeIs,?_])
 show cz F.slot_tuple_mul ht.typeIs F.entry_tuple_mul ?_ (F.args_tuple_mul_2 _ _);show aa (dR (show asIndex (.int n t)=pure n from rfl) ?_);rw[aA (by simp only[Bool.or_eq_true,decide_eq_true_eq];omega)];show aa (tupleItemsOf_ ht ?_);let big:¬((bo.toArray.size:Int)*n>(2 ^ 63-1) / 8):=by
  rw[aV];have:((-bo*n.toNat:Nat):Int)=(-bo:Int)*n:=by grind
  let hs:sizeLine<2 ^ 59:=by decide
  omega
 let many:¬(Builtin.Tuple.tupleTooMany ((bo.toArray.size:Int)*n)=true):=by
  unfold Builtin.Tuple.tupleTooMany
  grind
 let ia:sizeOk (.seq (List.replicate n.toNat bo).flatten.toArray):=by
  show(List.replicate n.toNat bo).flatten.toArray.size<=sizeLine;simp only[List.size_toArray,List.length_flatten,List.map_replicate,List.sum_replicate_nat];rw[lF];show hz
 by_cases e1:n=1
 .subst e1;rw[az (by rw[he];rfl)];show aa (aa (fz ht.typeIs (ao ?_)))
  first
   |show aa (gK (aa (ao #[_,rfl,ao (q1 rfl)])))
   |show aa (gK (ao #[_,rfl,(q1 rfl)]))
   |show aa (gK (ao #[_,rfl,ao (q1 rfl)]))
 .rw[aA (by rw[he];simpa using e1)];rw[aA (by grind),aA big,aA many];rw[show List.foldl (λx1 x2=>x1++x2) (List.toArray []) (List.replicate n.toNat bo.toArray)=(List.replicate n.toNat bo).flatten.toArray by rw[a27];simp]
  first
   |show aa (cR (ao #[_,rfl,q2]) ia)
   |show aa (cR (ao #[_,rfl,ao q2]) ia)
end
end HT
namespace L2
open PySem PySem.Spec PyProof.Rows
section
variable{X:Cx}
def ZQ(K:PySem.W.Frag):R2:=λx y H Q=>∃(a:Addr) (n:Int) (xs:@&V),x=.ref a/\y=.int n/\ja K H a xs/\xs≠[]/\1<=n/\n<2 ^ 62/\-xs*n.toNat<=sizeLine /\
 (n=1->Q (.ref a) H)/\(∀p,H p=none->Q (.ref p) (upd H p (.tup (List.replicate n.toNat xs).flatten)))
def bA6:gk X (binaryOp .Mult) (ZQ X.K):=by
 intro pi s U H x y v u Q I rx ry h;let#[a,n,xs,rfl,rfl,ha,fh,h1,h2,hz,q1,q2]:=h;cases rx;let#[tk,rfl]:=ry;let#[bo,r,p,_]:=I.tuple ha;show HT.a62 p (λz=>fh (r.W5.mp z)) h1 h2 (by rw[<- -r];show hz) (λe=>#[.ref a,H,I,rfl,q1 e]) ?_;show#[.ref s⁻¹,_,I.laid (t':=s.toks) (λb ob q=>av _ q) (aw _) ?_,rfl,q2 _ (I.bV.fresh (aw _))];show#[by rw[len_rep,lF];show hz,_,r.rep _,O5.new _ _]
def bC2(sep:Str)(ys:@&Str):Nat:=ys.foldl (λn y=>n+-y+-sep) 0
end
end L2
namespace HT
open PySem PyProof.Rows Builtin PySem.SeqAt
def aF7(l:Addr)(items:Array Value)(n:Nat)(dd:Option Addr)(sl:Array (Option Value))(x:Value)(e:Value->Bool)(j:Nat)(hj:j<items.size)(hit:e items[j]=true)(jZ:∀m (hm:m<items.size),m<j->e items[m]=false) :
    Meets (Builtin.«tuple.index» #[[.ref l,x],[]])
      (λA R s=>s.heap.get? l=some { cls:=.type "tuple",dict:=dd,data:=.seq items n,slots:=sl }/\(∀y,y∈items->EqAt A.in1 s y x (e y))/\R (.ok (.ret (.int j s.toks))) { s with toks:=s.toks+1 }) :=
  .of_wp λprog w A R s h=>by
    let#[hp,g,d,tk,os]:=s;let#[hl,he,h]:=h
    wp_walk using wpAny_loadPart' hl
    change wpAny (model prog w) A.in1 (forIn ([:Min.min items.size items.size]:Std.Legacy.Range) ((none,Unit.unit):Option PySem.Fin × Unit) (λ(i:Nat) __s =>
            match items[i]? with
            |some y=>do
              let __do_lift <- eqBool y x
              if __do_lift=true then do
                  let __do_lift <- retInt (i:Nat)
                  pure (ForInStep.done (!__do_lift,Unit.unit))
                else pure (ForInStep.yield (none,Unit.unit))
            | x=>pure (ForInStep.yield (none,Unit.unit)))) _ _ _
    rw[Std.Legacy.Range.forIn_eq_forIn_range'];show wpAny_forIn_list _ (λrest b s'=>b=(none,Unit.unit)/\s'=#[hp,g,d,tk,os]/\∃i,rest=List.range' i (items.size-i)/\i<=j) _ ?_ ?_ _ _ #[rfl,rfl,0,by simp,cw _]
    . rintro y rest b s' ⟨rfl,rfl,i,hr,hi⟩;let dQ:i<items.size:=by omega
      rw[show items.size-i=(items.size-(i+1))+1 by omega,List.range'_succ] at hr;cases hr;rw[show items[y]?=some items[y] from dB dQ];show aa (he _ (Array.getElem_mem dQ) prog w _ _ ?_);by_cases jh:y=j
      . subst jh
        wp_walk
        show#[_,rfl,h]
      . rw[jZ y dQ ()]
        wp_walk
        grind
    . rintro b s' ⟨rfl,rfl,i,hr,hi⟩;exfalso;have:=iO List.length hr
      grind
section
variable{prog:Program}{w:World}{A:Around}{E:Value->Shared->Prop}{s:Shared}
def Zo:typeLookup (.type "tuple") (dunderI "add")=pure none:=by
 kernel_rfl
def Xd{t b:Addr}{vs ws:@&Value}{Q:Value->Shared->Prop}(ht:IsTup s.heap t vs.toArray)(hb:IsTup s.heap b ws.toArray)(h0:vs=[]->Q (.ref b) s)(h1:ws=[]->Q (.ref t) s)(h2:Q (.ref s⁻¹) { s with heap:=s.heap.push { cls:=.type "tuple",data:=.seq (vs++ws).toArray } })(ia:-vs+-ws<=sizeLine):wpAny (model prog w) A (inplaceOp .Add (.ref t) (.ref b)) Q E s:=by
 let#[#[cls,dd,data,sl],ho,hc,n,hd]:=id ht;let#[#[ya,rP,data2,mh],jN,rB,n2,hd2]:=id hb;subst hc hd rB hd2;let e:vs.toArray++ws.toArray=(vs++ws).toArray:=by simp
 show wpAny_inplaceOp_concat #[_,ho,rfl] #[_,jN,rfl] Zo jV nA ?_;by_cases hv:vs=[]
 .subst hv;show eN sj #[_,ho,rfl] pV (nV _ _) (tuple_addW0 t b (List.toArray []) ws.toArray n n2 dd rP sl mh rfl) #[ho,jN,h0 rfl]
 by_cases hw:ws=[]
 .exact eN sj #[_,ho,rfl] pV (nV _ _) (tuple_addW1 t b vs.toArray ws.toArray n n2 dd rP sl mh (_/hv) (by simp[hw])) #[ho,jN,h1 hw]
 .refine eN sj #[_,ho,rfl] pV (nV _ _) (tuple_addW2 t b vs.toArray ws.toArray n n2 dd rP sl mh (_/hv) (_/hw) ()) #[ho,jN,?_];rw[e];show h2
end
end HT
namespace L2
open PySem PySem.Spec PyProof.Rows
variable{xs:@&V}
section
variable{X:Cx}
def AD(ys:@&V)(y:V)(n:Nat):Prop:=ys.all R6=true/\R6 y=true/\(∃z,ys[n]?=!z/\lq z y=true)/\∀(m:Nat) z,m<n->ys[m]?=!z->lq z y=false
def Fg:∀{xs:@&V} {us:@&Value} {i:Nat} (hi:i< -us),Vals xs us->∃x,xs[i]?=!x/\RelV x us[i]
 |_,_,0,hi,.cons r _=>#[_,rfl,r]
 |_,_,i+1,hi,.cons _ t=>by
  let#[x,h1,h2]:=Fg (_/hi) t;show#[x,by simpa using h1,by simpa using h2]
def Lw(h:xs.all R6=true){i:Nat}{x:V}(e:xs[i]?=!x):R6 x=true:=bK.mp h x (aC e)
def Pz{ys:@&V}{y:V}{n:Nat}{bo:@&Value}(F:AD ys y n)(r:Vals ys bo):∃hn:n<bo.toArray.size,vk y bo.toArray[n]=true/\∀m (hm:m<bo.toArray.size),m<n->vk y bo.toArray[m]=false:=by
 let#[fs,fy,#[z,hz,he],jZ]:=F;let hl:=-r;let hn:n< -bo:=by
  grind
 show#[by simpa using hn,?_,λm hm CZ=>?_]
 .let#[x,hx,rx]:=Fg hn r;rw[hz] at hx;cases hx;rw[BP,GV rx (Lw fs hz)];show he
 .let uV:m< -bo:=by simpa using hm
  let#[x,hx,rx]:=Fg uV r;rw[BP,GV rx (Lw fs hx)];show jZ m x CZ hx
abbrev Oi(K:PySem.W.Frag):V->@&V->Hp->VK->Prop:=λx xs H Q=>∃a ys y n,x=.ref a/\xs=[y]/\ja K H a ys/\AD ys y n/\Q (.int n) H
abbrev Oh(K:PySem.W.Frag):V->@&V->Hp->VK->Prop:=λx xs H Q=>∃a ys y n,x=.ref a/\xs=[y]/\gw K H a ys/\AD ys y n/\n<2 ^ 62/\Q (.int n) H
def Zm:nQ X "tuple.index" (Oi X.K):=by
 intro pi s U H x xs v us Q I rx r h;let#[a,ys,y,n,rfl,rfl,hq,W,q]:=h;cases rx;cases r with
 |cons ry rr =>
 cases rr;let#[bo,rv,p,hz]:=I.tuple hq;let#[hn,hit,jZ]:=Pz W rv;let#[#[cls,dd,data,sl],ho,hc,k,hd]:=id p;simp only at hc hd;subst hc hd;show eN F.slot_tuple_index p.typeIs F.entry_tuple_index (F.args_tuple_index_2 _ _) (HT.aF7 a bo.toArray k dd sl _ (vk y) n hn hit jZ) #[ho,λw hw=>Fv ry W.2.1 rv W.1 w (_/hw),#[.int n,H,I.tok _,#[_,rfl],q]]
def Zl(hu:X.A.units+100<cLine):nQ X "list.index" (Oh X.K):=by
 intro pi s U H x xs v us Q I rx r h;let#[a,ys,y,n,rfl,rfl,hq,W,oJ,q]:=h;cases rx;cases r with
 |cons ry rr =>
 cases rr;let#[bo,rv,p,hz]:=I.list hq;let pt:=p.isList.typeIs;let#[#[cls,dd,data,sl],k,ho,hc,JK,hd]:=id p;simp only at hc JK hd;subst hc JK hd;let#[hn,hit,jZ]:=Pz W rv;show eN F.slot_list_index pt F.entry_list_index (F.args_list_index_2 _ _) (SeqAt.list_indexAt a bo.toArray k none sl _ (vk y) n hn () hit jZ) #[ho,λw hw=>Fv ry W.2.1 rv W.1 w (_/hw),#[.int n,H,I.tok _,#[_,rfl],q]]
abbrev yO(K:PySem.W.Frag)(H:Hp)(a:Addr)(xs:@&V):Prop :=
 H a=!.tup xs\/∃(o:Obj) (bo:Array Value) (n:Nat),K.lookup a=!o/\o.cls=.type "tuple"/\o.dict=none/\o.data=.seq bo n/\bo.size<=sizeLine/\Vals xs bo.toList
def yO.sq{K:PySem.W.Frag}{H:Hp}{a:Addr}(h:yO K H a xs):ja K H a xs:=by
 rcases h with h|⟨o,bo,n,h1,h2,_,h3,h4,h5⟩
 .exact .inl (.inl h)
 .exact .inr #[o,bo,n,h1,h2,h3,h4,h5]
def Inv.b55{pi:@&(Addr×Obj)}{U:St}{H:Hp}{s:Shared}{a:Addr}(I:Inv X pi U H s)(h:yO X.K H a xs):s.TypeIs (.ref a) "tuple"/\∀b,Value.ref a=.ref b->∃ob,s.heap.get? b=!ob/\ob.dict=none:=by
 rcases h with h|⟨o,bo,n,h1,h2,h3,_⟩
 .let#[_,bo,_,o,e,c,_,d]:=(show m8 X.prog X.w H s.heap a (.tup xs) from I.bV a _ h)
  show#[#[o,e,c],λb q=>by cases q;show#[o,e,d]]
 .exact#[#[o,I.gT a o h1,h2],λb q=>by cases q;show#[o,I.gT a o h1,h3]]
def bH3(K:PySem.W.Frag)(to:TE)(t:TA):TE:=λU H Q=>to U H λx H1=>(∃a xs,x=.ref a/\gw K H1 a xs/\t U H1 λys H2=>Oh K x ys H2 Q)\/(∃a xs,x=.ref a/\yO K H1 a xs/\t U H1 λys H2=>Oi K x ys H2 Q)
def XE{o e:Expr}{es:@&Expr}{to:TE}{t:TA}{apos eQ:Pos}(hu:X.A.units+100<cLine)(ho:PE X o to)(ha:PA X (e::es) t)(gQ:attributeBase o "index" X.env (eval o X.env)=eval o X.env)(lW:((backTo eQ (starEach (e :: es) X.env)).all (λx=>~~~x.1) && (backToKw eQ (keywordEach [] X.env)).all (λx=>x.1.isSome)
   && decide ((e :: es).length + ([]:@&Keyword).length + (if ([]:@&Keyword).isEmpty then 0 else 1) < 30))=true)(gP:(apos.endLine==eQ.line)=true)(hs:starEach (e::es) X.env=(false,eval e X.env)::starEach es X.env)(fq:(backTo eQ (starEach es X.env)).any (·.1)=false) :
  PE X (.Call (.Attribute o "index" apos) (e::es) [] eQ) (bH3 X.K to t):=by
 intro pi s U H Q I h;show wpAny_Call_method_late gQ lW gP rfl (cN (ho pi s U H _ I h) λv s1 bA=>?_);let#[x,H1,I1,r1,q1]:=bA;rcases q1 with⟨a,xs,rfl,hq,q1⟩|⟨a,xs,rfl,hq,q1⟩
 .cases r1;let#[bo,rv,pl,hz]:=I1.list hq;let pt:=pl.isList.typeIs;let#[ob,k,e1,_,e2,_]:=id pl;show#["list","list.index",F.plainAttrs_list,F.slot_list_index,F.type_list_index,pt,λb q=>by cases q;show#[ob,e1,e2],?_];let hA:=ha eQ pi s1 U H1 _ I1 q1;rw[hs] at hA ⊢;show fZ (by show(false||(backTo eQ (starEach es X.env)).any (·.1))=false;rw[fq]<;>rfl) (hX ?_);show cN hA (by rintro us s2 ⟨vs,H2,I2,r2,q2⟩;show Zl hu pi s2 U H2 (.ref a) vs (.ref a) us Q I2 rfl r2 q2)
 .cases r1;let#[pt,hd]:=I1.b55 hq;show#["tuple","tuple.index",F.plainAttrs_tuple,F.slot_tuple_index,F.type_tuple_index,pt,hd,?_];let hA:=ha eQ pi s1 U H1 _ I1 q1;rw[hs] at hA ⊢;show fZ (by show(false||(backTo eQ (starEach es X.env)).any (·.1))=false;rw[fq]<;>rfl) (hX ?_);show cN hA (by rintro us s2 ⟨vs,H2,I2,r2,q2⟩;show Zm pi s2 U H2 (.ref a) vs (.ref a) us Q I2 rfl r2 q2)
abbrev ZP(K:PySem.W.Frag):V->V->Hp->VK->Prop:=λx y H Q=>(∃i j,x=.int i/\y=.int j/\Q (.int (i+j)) H) \/
 ∃a b xs ys,x=.ref a/\y=.ref b/\ja K H a xs/\ja K H b ys/\-xs+-ys<=sizeLine/\(xs=[]->Q (.ref b) H)/\(ys=[]->Q (.ref a) H)/\(∀p,H p=none->Q (.ref p) (upd H p (.tup (xs++ys))))
def NS:EI X .Add (ZP X.K):=by
 rintro pi s U H x y u v Q I rx ry h;rcases h with h|⟨a,b,xs,ys,rfl,rfl,ha,hb,hz,q0,q1,q2⟩
 .exact bR6 pi s U H x y u v Q I rx ry h
 .cases rx;cases ry;let#[bo,r1,p1,_]:=I.tuple ha;let#[ox,r2,p2,_]:=I.tuple hb;show HT.Xd p1 p2 (λz=>#[.ref b,H,I,rfl,q0 (r1.W5.mp z)]) (λz=>#[.ref a,H,I,rfl,q1 (r2.W5.mp z)]) ?_ (by rw[<- -r1,<- -r2];show hz);show#[.ref s⁻¹,_,I.laid (t':=s.toks) (λb ob q=>av _ q) (aw _) ?_,rfl,q2 _ (I.bV.fresh (aw _))];show#[by rw[aY];show hz,_,r1.append r2,O5.new _ _]
end
end L2
namespace ST
open PySem PyProof.Rows
variable{mask ep n:Nat}{h:Heap}{ks ms:@&Int}{es:Array (Int×Value)}{t:SetTable}{o:Obj}
def bD2{i p fuel:Nat}{owner:Array (Option Nat)}(h:owner.getD i (!0)=none):SetTable.layClean.free mask owner (fuel+1) i p=!i:=by
 unfold SetTable.layClean.free;let e:SetTable.runEnd mask i+1-i=(SetTable.runEnd mask i-i)+1:=by
  unfold SetTable.runEnd;split<;>omega
 rw[e,jj,eK];rw[Nat.add_zero,h]
 rfl
def Spot(k:Int):Prop:=0<=k/\k<8
structure Own(mask:Nat)(owner:Array (Option Nat))(pre:@&Int):Prop where
 sz:owner.size=mask+1
 fwd:∀(i:Nat) (k:Int),pre[i]?=!k->owner[k.toNat]?=!!i
 bwd:∀(j i:Nat),owner[j]?=!!i->pre[i]?=!(j:Int)
def NV{mask:Nat}(hm:7<=mask):∀(hs pre:@&Int) (owner:Array (Option Nat)),(pre++hs).Nodup->(∀k∈pre++hs,Spot k)->Own mask owner pre ->
  ∃ ku,Own mask ku (pre ++ hs)/\hs.foldl (λacc h=>do
   let (owner,k) <- acc
   let j <- SetTable.layClean.free mask owner (SetTable.turns mask) (SetTable.bits h % (mask+1)) (SetTable.bits h)
   pure (owner.setIfInBounds j (!k),k + 1)) (!(owner,(-pre)))=!(ku,(pre ++ hs).length)
 |[],pre,owner,_,_,o=>#[owner,by simpa using o,by simp]
 |h::hs,pre,owner,hn,hp,o=>by
  let#[h0,h8]:=hp h #[_];let eb:SetTable.bits h % (mask+1)=h.toNat:=by
   unfold SetTable.bits;rw[lJ h0 ()];show Nat.mod_eq_of_lt ()
  let dQ:h.toNat<owner.size:=by rw[o.sz];omega
  let mK:owner[h.toNat]?=!none:=by
   rw[dB dQ];cases e:owner[h.toNat] with
   |none=>rfl
   |some i =>
    have:=o.bwd h.toNat i (by rw[dB dQ,e]);rw[Io h0] at this;let hm:=aC this;rw[cL] at hn;show absurd rfl (hn.2.2 h hm h #[_])
  let ef:SetTable.layClean.free mask owner (SetTable.turns mask) (SetTable.bits h % (mask+1)) (SetTable.bits h)=!h.toNat:=by
   rw[eb];show bD2 (by rw[ph,mK];rfl)
  let o':Own mask (owner.setIfInBounds h.toNat (!(-pre))) (pre++[h]):=by
   show#[by rw[Array.size_setIfInBounds];show o.sz,λi k hi=>?_,λj i hj=>?_]
   .rw[List.getElem?_append] at hi;split at hi
    .let hk:=o.fwd i k hi
     grind
    .have:i- -pre=0:=by
      cases e:i- -pre with
      |zero=>rfl
      |succ n=>rw[e] at hi;simp at hi
     rw[this] at hi;cases hi;have:i=-pre:=by omega
     subst this;rw[jO dQ]
   .by_cases e:h.toNat=j
    .subst e;rw[jO dQ] at hj;cases hj;rw[Io h0];simp
    .rw[Array.getElem?_setIfInBounds_ne e] at hj;have:=o.bwd j i hj;rw[aH (ak.mp this).1];show this
  let#[ku,o2,e2]:=NV hm hs (pre++[h]) _ (_/hn) (_/hp) o';show#[ku,by simpa using o2,?_]
  simp_all
def a21{finger moves:Nat}{led plain:Bool}{hashes:Array Int}(hm:7<=mask)(hn:hashes.toList.Nodup)(hs:∀k∈hashes.toList,Spot k) :
  ∃t o,SetTable.laid mask finger moves led plain hashes=!(t,o)/\o.toList.Perm (List.range hashes.size)/\t.mask=mask/\t.place.size=hashes.size:=by
 let o0:Own mask (Array.replicate (mask + 1) none) []:=#[by simp,λi k h=>by simp at h,λj i h=>by
  rw[Array.getElem?_replicate] at h
  simp_all]
 let#[owner,o,e]:=NV hm hashes.toList [] _ (_/hn) (_/hs) o0;let el:SetTable.layClean mask hashes=!owner:=by
  unfold SetTable.layClean;rw[<- Array.foldl_toList];have:=e;simp only[List.length_nil] at this;rw[this]
  rfl
 let hP:((List.range (mask+1)).filterMap λj=>owner.getD j none).Perm (List.range hashes.size):=by
  let gd:∀j i,owner.getD j none=some i↔owner[j]?=!!i:=λj i=>by
   rw[ph];cases owner[j]? with
   |none=>simp
   |some x=>simp
  show(dh ?_ fT).mpr λi=>?_
  .unfold List.Nodup;rw[List.pairwise_filterMap];show List.Pairwise.imp ?_ jk;intro a b ql x hx y hy z;subst z;let h1:=o.bwd a x ((gd _ _).mp hx);let h2:=o.bwd b x ((gd _ _).mp hy);rw[h1] at h2
   grind
  .rw[fC,aN];constructor
   .rintro⟨j,_,hj⟩;have:=(ak.mp (o.bwd j i ((gd _ _).mp hj))).1;simpa using this
   .intro hi;let jz:i< -hashes.toList:=by simpa using hi
    let hg:=ag jz;let hk:=hs _ (cH jz);show#[(hashes.toList[i]).toNat,aN.mpr ?_,(gd _ _).mpr (o.fwd i _ hg)];have:=hk.2;omega
 show#[{ mask,place:=((List.filterMap (λj=>(owner.getD j none).map (j,·)) (List.range (mask+1))).map (·.1)).toArray,dummies:=(List.toArray []),finger,led,moves,plain },((List.filterMap (λj=>(owner.getD j none).map (j,·)) (List.range (mask+1))).map (·.2)).toArray,?_,?_,rfl,?_]
 .unfold SetTable.laid;rw[el]
  rfl
 .rw[Ij,Rb];have:(λj=>Option.map (λx:Nat×Nat=>x.2) (Option.map (λx=>(j,x)) (owner.getD j none)))=λj=>owner.getD j none:=by
   funext j
   cases owner.getD j none<;>rfl
  rw[this];show hP
 .rw[aV,ah];have:=hP.length_eq;rw[iu] at this;rw[<- this];let e3:(List.range (mask+1)).filterMap (λj=>owner.getD j none)=(List.filterMap (λj=>(owner.getD j none).map (j,·)) (List.range (mask+1))).map (·.2):=by
   rw[Rb]
   congr 1
   funext j
   cases owner.getD j none<;>rfl
  rw[e3,ah]
section
variable{prog:Program}{w:World}{A:Around}{E:Value->Shared->Prop}{s:Shared}{a:Addr}
abbrev qw(prog:Program)(w:World)(h:Heap)(a:Addr)(ks:@&Int):Prop :=
 ∃o es ep t,h.get? a=!o/\o.ExactSet/\o.data=.set es ep t/\ElemsOf (intKind prog w) es.toList/\(es.toList.map λe=>toI e.2).Perm ks/\ks.Nodup/\es.size<scanBound/\t.fits es.size=true/\Well (Led w) t/\(ks=[]->7<=t.mask)
def qw.toW(x:qw prog w h a ks):j9 prog w h a ks:=by
 let#[o,es,ep,t,h1,h2,h3,h4,h5,h6,h7,h8,h9,_]:=x;show#[o,es,ep,t,h1,h2,h3,h4,h5,h6,h7,h8,h9]
def j9.toV(x:j9 prog w h a ks)(hn:ks≠[]):qw prog w h a ks:=by
 let#[o,es,ep,t,h1,h2,h3,h4,h5,h6,h7,h8,h9]:=x;show#[o,es,ep,t,h1,h2,h3,h4,h5,h6,h7,h8,h9,λz=>absurd z hn]
def j9.same{us:@&Int}(x:j9 prog w h a ks)(hp:ks.Perm us):j9 prog w h a us:=by
 let#[o,es,ep,t,h1,h2,h3,h4,h5,h6,h7]:=x;show#[o,es,ep,t,h1,h2,h3,h4,h5.trans hp,hp.nodup_iff.mp h6,h7]
def YX{k:Int}(h:Spot k):(intKind prog w).hash k=k:=by
 let#[h0,h8]:=h;change hashInt k=k;have:k=0\/k=1\/k=2\/k=3\/k=4\/k=5\/k=6\/k=7:=by omega
 rcases this with rfl|rfl|rfl|rfl|rfl|rfl|rfl|rfl<;>decide +kernel
def aO0(jt:ElemsOf (intKind prog w) es.toList)(hp:(es.toList.map λe=>toI e.2).Perm ks)(hs:∀k∈ks,Spot k):(es.map (·.1)).toList=es.toList.map λe=>toI e.2:=by
 rw[Array.toList_map];show fe λe he=>?_;let#[tk,h1,h2]:=yF jt he;rw[h2];show YX (hs _ (hp.mem_iff.mp (aQ.mpr #[e,he,rfl])))
def NU{finger moves:Nat}{led plain:Bool}(hm:7<=mask)(ia:es.size<=mask)(hl:led=Led w)(jt:ElemsOf (intKind prog w) es.toList)(hp:(es.toList.map λe=>toI e.2).Perm ks)(hn:ks.Nodup)(hs:∀k∈ks,Spot k) :
  ∃t o,SetTable.laid mask finger moves led plain (es.map (·.1))=!(t,o)/\(o.filterMap (es[·]?)).toList.Perm es.toList/\(o.filterMap (es[·]?)).size=es.size/\t.mask=mask/\t.fits es.size=true/\Well (Led w) t:=by
 let eh:=aO0 jt hp hs;let#[t,o,e,hP,h1,h2]:=a21 hm (by rw[eh];show hp.nodup_iff.mpr hn) (by rw[eh];show λk hk=>hs k (hp.mem_iff.mp hk));rw[Array.size_map] at hP h2;let e2:(o.filterMap (es[·]?)).toList.Perm es.toList:=by
  rw[Array.toList_filterMap];show(hP.filterMap _).trans ?_;have:(List.range es.size).filterMap (es[·]?)=es.toList:=by
   let gen:∀(l:@&(Int×Value)),(List.range (-l)).filterMap (λi=>l[i]?)=l:=λl=>by
    induction l with
    |nil=>rfl
    |cons x r ih =>
     rw[List.length_cons,jj,dO];simp only[List.getElem?_cons_zero,List.filterMap_map]
     congr 1
   have:=gen es.toList
   simp_all
  rw[this]
 let hw:=PU hl e;show#[t,o,e,e2,by rw[<- dc,e2.length_eq,dc],h1,?_,hw];unfold SetTable.fits SetTable.fill;rw[hw.tW,h2,h1];simp;show ia
def Li{o:Array Nat}(ia:(o.filterMap (es[·]?)).size=es.size){Q:Array (Int×Value)×SetTable->Shared->Prop}(h:Q (o.filterMap (es[·]?),t) s):wpAny (model prog w) A (do
  let some (t,order):=(some (t,o):Option (SetTable×Array Nat))|unsupported "internal:set-table-without-room"
  let nt:=order.filterMap (es[·]?)
  if nt.size != es.size then unsupported "internal:set-table-lost-an-element"
  pure (nt,t)) Q E s:=by
 dsimp only;rw[aA (by rw[ia];simp)];show ao h
def AO{nt:Array (Int×Value)}{t':SetTable}(ho:h.get? a=!o)(hd:o.data=.set es ep t):(h.update a (Obj.putSet nt t')).get? a=some { o with data:=.set nt (ep+1) t' }:=by
 have:=bh (Obj.putSet nt t') ho (by rw[putSet_of nt t' hd];rfl);rw[putSet_of nt t' hd] at this;show this
def above:∀n,n<300->7<SetTable.sizeAbove n/\n<SetTable.sizeAbove n/\SetTable.sizeAbove n<=sizeLine:=by decide +kernel
def VW{Q:Unit->Shared->Prop}(hS:j9 prog w s.heap a ks)(hs:∀k∈ks,Spot k)(hn:n<300)(hkn:-ks<=n)(h:∀h',Heap.SameBut a s.heap h'->(∃o es ep t,h'.get? a=!o/\o.ExactSet/\o.data=.set es ep t/\ElemsOf (intKind prog w) es.toList/\(es.toList.map λe=>toI e.2).Perm ks/\ks.Nodup/\es.size<scanBound/\t.fits es.size=true/\Well (Led w) t/\t.mask=SetTable.sizeAbove n-1)->Q Unit.unit { s with heap:=h' }):wpAny (model prog w) A (setRelay a n) Q E s:=by
 let#[o,es,ep,t,ho,hx,hd,jt,hp,pz,hb,hf,hw]:=hS;let#[a1,a2,a3]:=above n hn;let ia:es.size=-ks:=by rw[<- hp.length_eq];simp
 show aa (bc ho hd hf ?_);dsimp only;rw[aA ()];let#[t2,od,e1,e2,e3,e4,e5,e6]:=NU (mask:=SetTable.sizeAbove n-1) () () hw.led jt hp pz hs;unfold SetTable.relaid;rw[e1];show aa (Li e3 ?_);dsimp only;show eX ho hd (h _ (bx s.heap a _) #[_,_,_,_,AO ho hd,hx,rfl,jt.perm e2,(e2.map _).trans hp,pz,by omega,by rw[e3];show e5,e6,e4]) (eY ())
def bL0{Q:Unit->Shared->Prop}(hS:qw prog w s.heap a ks)(hs:∀k∈ks,Spot k)(hn:-ks+n<100)(h:∀h',Heap.SameBut a s.heap h'->(∃o es ep t,h'.get? a=!o/\o.ExactSet/\o.data=.set es ep t/\ElemsOf (intKind prog w) es.toList/\(es.toList.map λe=>toI e.2).Perm ks/\ks.Nodup/\es.size<scanBound/\t.fits es.size=true/\Well (Led w) t/\(ks=[]->7<=t.mask)/\(ks=[]->n<=t.mask))->Q Unit.unit { s with heap:=h' }):wpAny (model prog w) A (setRoomFor a n) Q E s:=by
 let#[o,es,ep,t,ho,hx,hd,jt,hp,pz,hb,hf,hw,hm]:=id hS;let ia:es.size=-ks:=by rw[<- hp.length_eq];simp
 let gU:t.place.size=es.size:=by
  simp only[SetTable.fits,Bool.and_eq_true,beq_iff_eq] at hf;show hf.1
 show aa (bc ho hd hf ?_);by_cases c:(t.fill+n)*5>=t.mask*3
 .let e:t.roomFor n=!((t.place.size+n)*2):=by unfold SetTable.roomFor;rw[az c]
  rw[e];show VW hS.toW hs () () λh' hk lX=>h h' hk ?_;let#[o,es,ep,t',ho,hx,hd,jt,hp,pz,hb,hf,hw,hm]:=lX;let#[a1,a2,a3]:=above ((t.place.size+n)*2) ();show#[o,es,ep,t',ho,hx,hd,jt,hp,pz,hb,hf,hw,λx=>by omega,λx=>by omega]
 .let e:t.roomFor n=none:=by unfold SetTable.roomFor;rw[aA c]
  rw[e];show ao (h s.heap (jx a s.heap) #[o,es,ep,t,ho,hx,hd,jt,hp,pz,hb,hf,hw,hm,λx=>by omega])
def bF3{Q:Array (Int×Value)->Shared->Prop}(ho:s.heap.get? a=!o)(hd:o.data=.set es ep t)(hf:t.fits es.size=true)(hw:Well (Led w) t)(h:∀l d',l.toList.Perm es.toList->Q l { s with drawn:=d' }):wpAny (model prog w) A (setWalk a) Q E s:=by
 show aa (bc ho hd hf ?_);show aa (Y6 ?_);cases hb:w.params.followText "set-order" with
 |true =>
  show aa (jU (ao (h _ s.drawn (Bf _ es))))
 |false =>
  rw[aA ∅];let hl:t.led=true:=by rw[hw.led];unfold Led;rw[hb];rfl
  split
  .refine aa (Gh _ _ _ _ #[_] λys d hp=>ao (h _ d (_/hp)))
  .refine aa (m:=(do if(~~~t.led&&decide (es.size>1))=true then unsupported "set:maker-not-led")) ?_;rw[hl];show ao (ao (h es s.drawn (jW _)))
def VT{l:@&Addr}{Q:Bool->Shared->Prop}(hl:∀a∈l,∃o es ep t,s.heap.get? a=!o/\o.data=.set es ep t/\t.fits es.size=true/\ElemsOf (intKind prog w) es.toList)(h:Q true s):wpAny (model prog w) A (setsQuiet l) Q E s:=by
 show aa (wpAny_forIn_list _ (λrest b s'=>b=(none,PUnit.unit)/\s'=s/\∀a∈rest,a∈l) _ (λx rest b s' p=>?_) (λb s' p=>?_) _ _ #[rfl,rfl,λv z=>z])
 .let#[rfl,rfl,hm]:=p;let#[o,es,ep,t,ho,hd,hf,jt]:=hl x (hm x #[_]);show aa (aa (bc ho hd hf (ao ?_)));show aa (wpAny_forIn_array' _ (λrest b s2=>b=(none,PUnit.unit)/\s2=s'/\∀e∈rest,e∈es.toList) _ (λy IQ b s2 p=>?_) (λb s2 p=>?_) _ _ #[rfl,rfl,λv z=>z])
  .let#[rfl,rfl,mH]:=p;let#[tk,e1,_]:=yF jt (mH y #[_]);dsimp only;rw[e1];show ao #[rfl,rfl,λe z=>mH e (by simp[z])]
  .let#[rfl,rfl,_]:=p;show ao #[rfl,rfl,λe z=>hm e (by simp[z])]
 .let#[rfl,rfl,_]:=p;show ao h
def WG{r:Addr}{ms:@&Int}{Q:Array (Int×Value)->Shared->Prop}(ho:s.heap.get? a=!o)(hd:o.data=.set es ep t)(hf:t.fits es.size=true)(hw:Well (Led w) t)(jt:ElemsOf (intKind prog w) es.toList)(hR:j9 prog w s.heap r ks)(h:∀l h' d',l.toList.Perm es.toList->Heap.SameBut r s.heap h'->j9 prog w h' r ks->Q l { s with heap:=h',drawn:=d' }):wpAny (model prog w) A (setWalkUnseen a [r] (!r)) Q E s:=by
 let#[o',nt,Ai,t',lT,sN,tB,xw,lR,uU,kz,Ds,CJ]:=id hR;let wk:wpAny (model prog w) A (setWalk a) Q E s:=bF3 ho hd hf hw λl d' hp=>h l s.heap d' hp (jx r s.heap) hR;show aa (bc ho hd hf ?_);show aa (Y6 ?_);split
 .exact wk
 .refine aa (VT (λb hb=>?_) ?_)
  .simp only[List.mem_cons,List.mem_nil_iff,or_false] at hb;rcases hb with rfl|rfl
   .exact#[_,_,_,_,ho,hd,hf,jt]
   .exact#[_,_,_,_,lT,tB,Ds,xw]
  .refine aa (gK ?_);show aa (bc lT tB Ds ?_);dsimp only;split
   .refine aa (eX lT tB ?_ (eY kz));show ao (h es _ s.drawn (jW _) (bx s.heap r _) #[_,_,_,_,AO lT tB,sN,rfl,xw,lR,uU,kz,Ds,#[CJ.uH,CJ.tW,?_]]);show(t'.led&&t.led)=_;rw[CJ.led,hw.led,Bool.and_self]
   .exact ao (h es s.heap s.drawn (jW _) (jx r s.heap) hR)
def Pf(hp:(es.toList.map λe=>toI e.2).Perm ks):es.size=-ks:=by rw[<- hp.length_eq];simp
def a30(hf:t.fits n=true):t.place.size=n:=by
 simp only[SetTable.fits,Bool.and_eq_true,beq_iff_eq] at hf;show hf.1
def NY{r o:Addr}{each:Sem Unit}{Q:Unit->Shared->Prop}(hR:qw prog w s.heap r ks)(hO:j9 prog w s.heap o ms)(fh:r≠o)(uW:∀k∈ks,Spot k)(mG:∀k∈ms,Spot k)(hl:-ks+-ms<100)(Ti:∀(s':Shared) (Q':Unit->Shared->Prop),s'.heap.get? o=s.heap.get? o->Q' Unit.unit s'->wpAny (model prog w) A each Q' E s')(h:∀h' d' us,(∀b o',b≠r->s.heap.get? b=!o'->h'.get? b=!o')->qw prog w h' r us->us.Nodup->(∀k,k∈us↔k∈ks\/k∈ms)->Q Unit.unit { s with heap:=h',drawn:=d' }):wpAny (model prog w) A (setMerge r o each) Q E s:=by
 let#[oo,eo,epo,to,uS,hox,CS,oI,qi,uT,Jr,zL,how]:=id hO;let ia:=Pf qi;let pz:=let ⟨_,_,_,_,_,_,_,_,_,z,_⟩:=hR;z
 unfold setMerge;rw[aA (_/fh)];show aa (bc uS CS zL ?_);dsimp only;by_cases he:eo.size=0
 .rw[az (by simpa[Array.isEmpty] using he)];let Jv:ms=[]:=et ();show ao (h s.heap s.drawn ks (λb o' y e=>e) hR pz λk=>by rw[Jv];simp)
 rw[aA (by simpa[Array.isEmpty] using he)];let xk:ms≠[]:=λz=>he (by rw[ia,z];rfl);show aa (bL0 hR uW () λh1 uX TY=>?_);let#[or',es,ep,ts,uR,hx,hd,jt,hp,_,hb,hf,hw,SN,CZ]:=id TY;let SW:h1.get? o=!oo:=by rw[<- uS];show uX.2 o (bR fh)
 let Di:∀b o',b≠r->s.heap.get? b=!o'->h1.get? b=!o':=λb o' hb e=>by rw[<- e];show uX.2 b hb
 show aa (bc uR hd hf ?_);let JE:ts.fill=-ks:=by
  unfold SetTable.fill;rw[hw.tW,a30 hf,Pf hp]
  rfl
 let xo:(ts.led&&to.led)=Led w:=by rw[hw.led,how.led,Bool.and_self]
 by_cases Jz:ks=[]
 .subst Jz;let xg:ts.road to=.slotForSlot\/ts.road to=.clean:=by
   unfold SetTable.road;rw[aA (by simp_all)];split
   .exact .inl rfl
   .exact .inr rfl
  rcases xg with hr|hr
  .rw[hr];show eX uR hd (h _ s.drawn ms (λb o' hb e=>?_) #[_,_,_,_,AO uR hd,hx,rfl,oI,qi,uT,Jr,zL,#[how.uH,how.tW,xo],λz=>absurd z xk] uT λk=>by simp) (eY Jr);rw[<- Di b o' hb e];show(bx h1 r _).2 b hb
  .rw[hr];let#[t2,od,e1,e2,e3,e4,e5,e6]:=NU (SN rfl) (CZ rfl) xo oI qi uT mG;rw[e1];show aa (Li e3 ?_);dsimp only;show eX uR hd (h _ s.drawn ms (λb o' hb e=>?_) #[_,_,_,_,AO uR hd,hx,rfl,oI.perm e2,(e2.map _).trans qi,uT,by omega,by rw[e3];show e5,e6,λz=>absurd z xk] uT λk=>by simp) (eY ());rw[<- Di b o' hb e];show(bx h1 r _).2 b hb
 .let hr:ts.road to=.oneByOne:=by
   unfold SetTable.road
   simp_all
  rw[hr];let TL:j9 prog w h1 r ks:=#[or',es,ep,ts,uR,hx,hd,jt,hp,pz,hb,hf,hw]
  show aa (WG (ms:=ms) SW CS zL how oI TL λl h2 d2 Df Dj TX=>?_);show aa (wpAny_forIn_array' _ (λrest b s'=>∃us h',s'={ s with heap:=h',drawn:=d2 }/\us.Nodup/\us≠[]/\-us+-rest<1000/\j9 prog w h' r us/\(∀b o',b≠r->s.heap.get? b=!o'->h'.get? b=!o')/\(∀k,(k∈us\/k∈rest.map λe=>toI e.2)↔(k∈ks\/k∈ms))/\∀e∈rest,e∈eo.toList) _ (λx rest b s' p=>?_) (λb s' p=>?_) _ _ #[ks,h2,rfl,pz,Jz,?_,TX,λb o' hb e=>?_,λk=>?_,λe he=>Df.mem_iff.mp he])
  .let#[us,h',rfl,CL,sO,zI,DE,mJ,kx,lQ]:=p;let#[x1,x2]:=x;let#[tk,e1,e2]:=yF oI (lQ (x1,x2) #[_]);generalize toI x2=k at e1 e2;subst e1;subst e2;show aa (bB (HF DE (by simp at zI;show dH () (show 1000<scanBound by decide)) λh3 b3 Jy zV=>?_));let Js:h3.get? o=!oo:=by
    rw[Jy.2 o (bR fh)];show mJ o oo (bR fh) uS
   show aa (Ti _ _ (by rw[uS];show Js) ?_);show aa (bc Js CS zL ?_);rw[aA #[_]];show ao #[F2 us k,h3,rfl,?_,?_,?_,zV,λb o' hb e=>?_,λj=>?_,λe he=>lQ e (by simp[he])]
   .exact U6 [k] us CL
   .unfold F2;split
    .exact sO
    .simp
   .have:=OA us k
    grind
   .rw[Jy.2 b hb];show mJ b o' hb e
   .rw[<- kx j];have:=F6 [k] us j;simp only[f6,List.foldl_cons,List.foldl_nil] at this;rw[this];simp[toI,or_assoc]
  .let#[us,h',rfl,CL,sO,zI,DE,mJ,kx,lQ]:=p;show ao (h h' d2 us mJ (DE.toV sO) CL λk=>by rw[<- kx k];simp)
  .let e1:=Df.length_eq
   grind
  .rw[Dj.2 b hb];show Di b o' hb e
  .rw[(Df.map _).mem_iff,qi.mem_iff]
def WK(hT:s.TypeIs (.ref a) "set"){Q:Value->Shared->Prop}(h:Q (.type "set") s):wpAny (model prog w) A (Builtin.Frozenset.baseOf a) Q E s:=by
 show aa (fA (b:=true) hT (by rfl) ?_);show ao h
def Ht(hT:s.TypeIs (.ref a) "set"){Q:Bool->Shared->Prop}(h:Q true s):wpAny (model prog w) A (Builtin.Frozenset.isAnySet (.ref a)) Q E s:=by
 show aa (fA (b:=true) hT (by rfl) ?_);show ao h
def He(x:j9 prog w h a ks):∃o,h.get? a=!o/\o.cls=.type "set":=by
 let#[o,_,_,_,e,hx,_]:=x;show#[o,e,hx.1]
def a32:entryFor table "set.__or__"=some Builtin.«frozenset.__or__»:=BJ (id':="frozenset.__or__") (by kernel_rfl) rfl #[] (by kernel_rfl)
def bT0{Q:Value->Shared->Prop}(hA:j9 prog w s.heap a ks)(uW:∀k∈ks,Spot k)(hl:-ks<100)(h:∀h' d' us,(∀c o',s.heap.get? c=!o'->h'.get? c=!o')->qw prog w h' s⁻¹ us->us.Nodup->(∀k,k∈us↔k∈ks)->Q (.ref s⁻¹) { s with heap:=h',drawn:=d' }):wpAny (model prog w) A (Builtin.Frozenset.copyOf a) Q E s:=by
 let#[oa,ea,ca]:=He hA;let la:=aF ea;unfold Builtin.Frozenset.copyOf;show aa (WK #[oa,ea,ca] ?_);show aa (Fe ?_);show aa (ao ?_);let hE:(s.heap.push (A4 w)).get? s⁻¹=!A4 w:=aJ _ rfl;let#[o,es,ep,t,h1,h2,h3,h4,h5,h6,h7,h8,h9]:=FL (prog:=prog) hE;let hV:qw prog w (s.heap.push (A4 w)) s⁻¹ []:=#[_,(List.toArray []),0,.fresh 0 0 (Led w),hE,#[rfl,rfl,rfl],rfl,by simp[ElemsOf],by simp,by simp,by decide,rfl,MC,λx=>aw 7]
 show aa (NY hV (hA.at λo e=>av _ e) (cK la) (λk hk=>by simp at hk) uW (_/hl) (λs' Q' x q=>ao q) λh' d' us hk hS hn hm=>?_);show ao (h h' d' us (λc o' e=>hk c o' (aT (aF e)) (av _ e)) hS hn λk=>by rw[hm k];simp)
def b91{b:Addr}{Q:Value->Shared->Prop}(hA:j9 prog w s.heap a ks)(hB:j9 prog w s.heap b ms)(ql:a≠b)(uW:∀k∈ks,Spot k)(mG:∀k∈ms,Spot k)(hl:-ks+-ms<90)(h:∀h' d' us,(∀c o',s.heap.get? c=!o'->h'.get? c=!o')->j9 prog w h' s⁻¹ us->us.Nodup->(∀k,k∈us↔k∈ks\/k∈ms)->Q (.ref s⁻¹) { s with heap:=h',drawn:=d' }):wpAny (model prog w) A (binaryOp .BitOr (.ref a) (.ref b)) Q E s:=by
 let#[oa,ea,ca]:=He hA;let#[ob,eb,cb]:=He hB;let DI:s.TypeIs (.ref a) "set":=#[oa,ea,ca]
 let JR:s.TypeIs (.ref b) "set":=#[ob,eb,cb]
 let lb:=aF eb;show wpAny_binaryOp_same DI JR F.fills_set_or F.slot_set_or (cz F.slot_set_or DI a32 ?_ (F.args_set_or_2 _ _));show aa (dR rfl ?_);show aa (aa (Ht DI ?_));show Ht JR ?_;show aa (ao ?_);let hU:∀(us:@&Int) (h':Heap),qw prog w h' s⁻¹ us->(∀k∈us,Spot k)->us.Nodup->-us<=8:=λus h' x hs hn=>by
  have:us.Sublist us:=List.Sublist.refl _;let hp:us.Perm ((List.range 8).map (λ(n:Nat)=>(n:Int)) |>.filter (·∈us)):=by
   show(dh hn ?_).mpr λk=>?_
   .exact Rf ff ∅
   .rw[bg];constructor
    .intro hk;show#[?_,by simpa using hk];let#[h0,h8]:=hs k hk;rw[aQ];show#[k.toNat,aN.mpr (),by omega]
    .rintro⟨_,hk⟩;simpa using hk
  rw[hp.length_eq];show aG (bH _ _) ∅
 show aa (aa (bT0 hA uW () λh1 d1 us uX zW Ju xl=>?_));let Jk:∀k∈us,Spot k:=λk hk=>uW k ((xl k).mp hk);let zI:=hU us h1 zW Jk Ju;dsimp only;rw[az (by simp[Ne.symm ql])];let DH:Shared.TypeIs { s with heap:=h1,drawn:=d1 } (.ref b) "set":=#[ob,uX b ob eb,cb]
 show aa (ao ?_);show aa (bB ?_);unfold Builtin.Frozenset.updateFrom;show aa (Ht DH ?_);rw[az rfl];show aa (ao ?_);unfold Builtin.Frozenset.merge;let JZ:=hB.at (uX b);let#[o,es,ep,t,ho,hx,hd,jt,hp,hn,hb,hf,hw]:=id JZ;let JG:∀(s':Shared) (Q':Nat->Shared->Prop),s'.heap.get? b=!o->Q' ep s'->wpAny (model prog w) A.in1 (setEpoch b) Q' E s':=λs' Q' e q=>by
  unfold setEpoch;show aa (bc e hd hf (ao q))
 show aa (JG _ _ ho ?_);show NY zW JZ (cK lb) Jk mG () (λs' Q' e q=>?_) λh2 d2 vs Dj tF oJ mH=>?_
 .unfold Builtin.Frozenset.unchanged;show aa (JG _ _ (e.trans ho) ?_);rw[aA #[_]];show ao q
 .refine ao (ao #[_,rfl,by simp,?_]);show h h2 d2 vs (λc o' e=>Dj c o' (aT (aF e)) (uX c o' e)) tF.toW oJ λk=>by rw[mH k,xl k]
end
end ST
namespace L2
open PySem PySem.Spec PyProof.Rows
variable{X:Cx}
def a97:gk X (binaryOp .BitOr) (λx y H Q=>∃a b ns ms,x=.ref a/\y=.ref b/\a≠b/\H a=!X3 X a (ST.f6 [] ns)/\H b=!X3 X b (ST.f6 [] ms)/\(∀k∈ns,ST.Spot k)/\(∀k∈ms,ST.Spot k)/\-ns+-ms<50 /\
  ∀ p,H p=none->Q (.ref p) (upd H p (X3 X p (ST.f6 [] (ns ++ ms))))):=by
 intro pi s U H x y v u Q I rx ry h;let#[a,b,ns,ms,rfl,rfl,ql,ha,hb,rj,mG,hl,q]:=h;cases rx;cases ry;let hA:=(I.bV a _ ha).1;let hB:=(I.bV b _ hb).1;let l1:=ST.F9 ns [];let l2:=ST.F9 ms [];let m1:=ST.F6 ns [];let m2:=ST.F6 ms [];show ST.b91 hA hB ql (λk hk=>rj k (by simpa using(m1 k).mp hk)) (λk hk=>mG k (by simpa using(m2 k).mp hk)) (by simp at l1 l2;omega) λh' d' us hk hS hn hm=>?_;let lX:ST.j9 X.prog X.w h' s⁻¹ (ST.f6 [] (ns ++ ms)):=hS.same ((dh hn (ST.U6 _ _ #[_])).mpr λk=>by
  rw[hm k,m1 k,m2 k,ST.F6];simp)
 show#[.ref _,_,(I.laid (t':=s.toks) hk (aw _) (AQ lX)).draw d',rfl,q _ (I.bV.fresh (aw _))]
end L2
namespace ST
open PySem PyProof.Rows
end ST
namespace L2
open PySem PySem.Spec PyProof.Rows
variable{X:Cx}
def aS3{bo:@&Value}{ns:@&Int}(hi:IntsAre bo ns):∃xs,bo.toArray=intItems xs/\ns=xs.toList.map (·.1):=by
 let#[xs,e]:=hi.allInts.items;show#[xs,e,by rw[<- hi.numsOf,<- nums_intItems,<- e]]
def YL(hc:X.calm=true):u4 X (.builtin "sum") (λxs H Q=>∃a,∃ns:@&Int,xs=[.ref a]/\gw X.K H a (ns.map V.int)/\Q (.int ns.sum) H):=by
 intro pi s U H xs us Q I r h;let#[a,ns,rfl,ha,q]:=h;let#[u,rfl,ru]:=vals1 r;cases ru;let#[bo,rv,p,hz]:=I.list ha;let#[xs,e,en]:=aS3 (Q7 rv);show sum_intListG (xs:=xs) (I.ok.hd hc) (by rw[<- e];show p.isList) λh' tk t' k=>#[.int ns.sum,H,I.kept k,#[t',?_],q]
 rw[preSum_eq,fI #[_],en]
def YK(hc:X.calm=true):u4 X (.builtin "all") (λxs H Q=>∃(a:Addr) (ns:@&Int),xs=[.ref a]/\gw X.K H a (ns.map V.int)/\Q (.bl (ns.all λn=>n != 0)) H):=by
 intro pi s U H xs us Q I r h;let#[a,ns,rfl,ha,q]:=h;let#[u,rfl,ru]:=vals1 r;cases ru;let#[bo,rv,p,hz]:=I.list ha;show call_all_walk ?_;show jw p.isList ?_;let fh:a≠s⁻¹:=by
  let#[o,e,_]:=id p.isList;show aT (aF e)
 let hl:=-rv;rw[ah] at hl;show#[s⁻¹,_,_,_,_,_,λi=>ns.getD i 1 != 0,rfl,Walks.list (A:=X.A.in1) (I.ok.hd hc) _ a fh bo.toArray,#[#[_,aJ _ rfl,rfl,rfl],?_],?_,λh' tk k=>?_]
 .let#[o,e,q1]:=id p.isList;show#[o,av _ e,q1]
 .intro i v s' Q' E' hP hQ;let hv:bo[i]?=!v:=by simpa using hP
  let hi:i< -ns:=by rw[hl];show(ak.mp hv).1
  let#[u',xa,Ci]:=rv.get (i:=i) (x:=V.int ns[i]) (by rw[aj,ag hi];rfl);rw[hv] at xa;cases xa;let#[t,rfl]:=Ci;show truthy_int ?_;have:ns.getD i 1=ns[i]:=by simp[List.getD,hi]
  dsimp only at hQ;rw[this] at hQ;show hQ
 .let e1:(List.range bo.toArray.size).all (λi=>ns.getD i 1 != 0)=ns.all λn=>n != 0:=by
   rw[aV,<- hl];rw[bq];simp only[List.all_eq_true,List.mem_range];constructor
   .intro hh x hx;let#[i,hi,rfl]:=cX.mp hx;have:=hh i hi;simpa[List.getD,hi] using this
   .intro hh i hi;have:=hh ns[i] (cH hi);simpa[List.getD,hi] using this
  rw[e1];show #[.bl _,H,I.kept (t':=tk) λb o e=>k b o (by
   intro hb;have:b=s⁻¹:=by simpa using hb
   show absurd (aF e) (by rw [this];show cq _)) (av _ e),rfl,q]
def aG5:u4 X (.builtin "len") (λxs H Q=>∃a,∃ks:@&Int,xs=[.ref a]/\H a=!X3 X a ks/\Q (.int (-ks)) H):=by
 intro pi s U H xs us Q I r h;let#[a,ks,rfl,ha,q]:=h;let#[u,rfl,ru]:=vals1 r;cases ru;let hS:ST.j9 X.prog X.w s.heap a ks:=(I.bV a _ ha).1;let#[o,es,ep,t,e,ex,ed,_,hp,nd,hz,hf,_]:=hS;let hl:es.size=-ks:=by have:=hp.length_eq;simpa using this
 show call_len_set e ex ed hf (by have:scanBound<2 ^ 62:=∅;omega) #[.int (-ks),H,I.tok _,#[_,by rw[hl]],q]
def VG{i:Int}{j:Nat}{p pos:Pos}(oN:PySem.W.kdsCode X.K X.env.code=true):PE X (.Set [.Constant (.int i) j p] 0 pos) (λU H Q=>∀q,H q=none->Q (.ref q) (upd H q (.set (λk=>decide (k=i)) 1))):=by
 intro pi s U H Q I h;show aa (eR ?_);show aa (PySem.W.kds_main I.gT oN λb=>?_);show PySem.W.kds_core (ts:=(evalEach [Expr.Constant (.int i) j p] X.env).map λt=>do let v <- t;standAt pos;pure v) (by rfl) (by rfl) (by change 1<=30;decide) (by rfl) λled=>?_;show PySem.W.kds_all pos _ _ _ ?_;show wpAny_Constant_int ?_;show PySem.W.kds_fill_cons ?_;let TK:(s.heap.push { cls:=.type "set",dict:=none,data:=.set (List.toArray []) 0 (.fresh 0 0 led) }).SetOf (intKind X.prog X.w) s⁻¹ (λx=>false) 0:=(setObjOf_fresh led).setOf (aJ _ rfl) ∅;show bB (aa ((intKind X.prog X.w).pyHash (gL _ _ _ _) ?_));show wpAny_setAddHashed_of (gL _ _ _ _) rfl TK ∅ λh' uQ lX=>?_;show PySem.W.kds_fill_nil (by rfl) ?_;let kp:∀b u,s.heap.get? b=!u->h'.get? b=!u:=λb u e=>(uQ.2 b (aT (aF e))).trans (av _ e);show#[.ref s⁻¹,_,I.laid kp (aw _) (by change Heap.SetOf _ _ _ _ _;simpa using lX),rfl,h _ (I.bV.fresh (aw _))]
def a98:gk X (compareOp .In) (λx y H Q=>∃i a S n,x=.int i/\y=.ref a/\H a=!.set S n/\Q (.bl (S i)) H):=by
 intro pi s U H x y v u Q I rx ry h;let#[i,a,S,n,rfl,rfl,ha,q]:=h;let#[t,rfl]:=rx;cases ry;show wpAny_inSet_of (gL _ _ _ _) rfl (I.bV a _ ha) #[.bl (S i),H,I.tok _,rfl,q]
def aM0:gk X (compareOp .NotIn) (λx y H Q=>∃i a S n,x=.int i/\y=.ref a/\H a=!.set S n/\Q (.bl (~~~S i)) H):=by
 intro pi s U H x y v u Q I rx ry h;let#[i,a,S,n,rfl,rfl,ha,q]:=h;let#[t,rfl]:=rx;cases ry;show wpAny_notInSet_of (gL _ _ _ _) rfl (I.bV a _ ha) #[.bl (~~~S i),H,I.tok _,rfl,q]
def a11:nQ X "set.add" (λx xs H Q=>∃a i S n,x=.ref a/\xs=[.int i]/\H a=!.set S n/\n+1<4096/\Q .aR (upd H a (.set (λk=>S k||decide (k=i)) (if S i then n else n+1)))):=by
 intro pi s U H x vs v us Q I rx rv h;let#[a,i,S,n,rfl,rfl,ha,hn,q]:=h;cases rx;let#[u,rfl,t,rfl]:=rv.one;show call_set_add (gL _ _ _ _) rfl (I.bV a _ ha) (show n+1<scanBound from hn) λh' uQ lX=>?_;let#[o,es,ep,tb,ho,_]:=id lX;show#[.aR,_,I.write (o:=.set (λk=>S k||decide (k=i)) (if S i then n else n+1)) (by rw[ha];trivial) (.inl rfl) (λb u hb e=>(uQ.2 b hb).trans e) #[o,ho] lX,rfl,q]
abbrev HX(K:PySem.W.Frag)(a:Addr)(n:Nat):It :=
 #[λi H=>∃xs x,gw K H a xs/\-xs=n/\i<n/\xs[n-1-i]?=!x,λi H x H'=>H'=H/\∀xs,gw K H a xs->xs[n-1-i]?=!x,λi H=>n<=i]
def Yx{P:Program}{w:World}{K:PySem.W.Frag}{tg:Expr}(a it:Addr)(n:Nat):Turn P w K tg (HX K a n) [it] it (λi h=>i<=n/\h.IsRevIter it a ((n:Int)-1-(i:Nat))) where
 mem:=by simp
 obj:=λi h st b hb=>by
  let e:b=it:=by simpa using hb
  subst e;let#[o,e,c,d]:=st.2;show#[o,e,λv z=>by simp_all]
 keep:=λi h h' st k=>#[st.1,st.2.at λo e=>k it #[_] o e]
 item:=by
  intro X hP hw hK hc i pi s U H E I hf st hg;subst hP hw hK;let#[xs,x,hq,hn,hi,hx]:=hg;let#[bo,rv,p,hz]:=I.list hq;let#[u,hu,ru]:=rv.get hx;let#[f0,f1,f2,f3,f4,f5]:=hf it #[_];let kT:=st.2;rw[show(n:Int)-1-(i:Nat)=((n-1-i:Nat):Int) by omega] at kT;show wpAny_pyNext_rev_item kT p.isList (_/hu) λh' nF sb=>?_;let I1:=I.turned (t':=s.toks) (λb o hb e=>(sb.2 b hb).trans e) f0 f1 f3 f4 f5;let#[o,e,c,d]:=id nF;show#[u,rfl,Bo e c d ∅ #[x,H,I1,ru,#[rfl,λys hy=>by rw[I.Fp hy hq];show hx],#[by omega,?_],λb hb=>(hf b hb).1]]
  grind
 done:=by
  intro X hP hw hK hc i pi s U H E I hf st hg;let#[f0,f1,f2,f3,f4,f5]:=hf it #[_];let kT:=st.2;have:n<=i:=hg;rw[show(n:Int)-1-(i:Nat)=-1 by omega] at kT;show wpAny_pyNext_rev_end (I.ok.hd hc) kT λh' eb=>#[rfl,I.turned (t':=s.toks) (λb o hb e=>eb b o hb e) f0 f1 f3 f4 f5]
 self:=λy y y y y st h=>wpAny_pyIter_revIter st.2 h
def boot_reversed:bootBuiltins "reversed"=!(.type "reversed"):=by decide +kernel
def bM3{tg l:Expr}{ta:TA}{p pos:Pos}(hg:Gl X "reversed")(hm:X.mg "reversed"=none)(ha:PA X [l] ta)(hs:starEach [l] X.env=[(false,eval l X.env)]) :
  PI X tg (.Call (.Name "reversed" p) [l] [] pos) (λU H R=>ta U H λvs H1=>∃a xs,vs=[.ref a]/\gw X.K H1 a xs/\R (HX X.K a (-xs)) H1):=by
 intro pi s U H R I h;show Call_ (Q5 I hg hm boot_reversed (bX (cN (ha pos pi s U H _ I h) λus s1 bA=>?_) hs rfl));let#[vs,H1,I1,r1,q1]:=bA;let#[a,xs,e,hq,q]:=q1;subst e;cases r1 with
 |cons r rr =>
  cases rr;cases r;let#[bo,rv,p,hz]:=I1.list hq;show call_reversed_list p.isList ?_;let hl:=-rv;let hit:(s1.heap.push (revObj a ((bo.toArray.size:Int)-1))).IsRevIter s1⁻¹ a ((-xs:Int)-1-((0:Nat):Int)):=#[_,aJ _ rfl,rfl,by simp[revObj,hl]]
  show wpAny_pyIter_revIter hit ?_;show#[s1⁻¹,[s1⁻¹],_,_,H1,rfl,I1.kept (t':=s1.toks) λb o e=>av _ e,Yx a _ (-xs),#[cw _,hit],λb hb=>?_,q];let e:b=s1⁻¹:=by simpa using hb
  subst e;show I1.rV (aw _) (I1.bV.fresh (aw _))
end L2
namespace ST
open PySem PyProof.Rows
section
variable{prog:Program}{w:World}{A:Around}{E:Value->Shared->Prop}{s:Shared}{a:Addr}
def aZ5{T:String}{o:Obj}{items:Array Value}{n:Nat}{ns:@&Int}(hT:T="list"\/T="tuple")(ho:s.heap.get? a=!o)(hc:o.cls=.type T)(hd:o.data=.seq items n)(hI:IntsAre items.toList ns)(J':-ns<60){Q:Value->Shared->Prop}(h:∀(h1:Heap) (vs:@&Value) (oh:@&Int) e h',(∀b o',s.heap.get? b=!o'->h1.get? b=!o')->IntsAre vs oh->oh.Perm ns->oh.Pairwise (·<=·)->h'.get? h1.objs.size=!(seqObj "list" vs.toArray e)->(∀c o,h1.get? c=!o->h'.get? c=!o)->Q (.ref h1.objs.size) { s with heap:=h' }) :
  wpAny (model prog w) A (call (.builtin "sorted") [.ref a]) Q E s:=by
 let hl:-items.toList=-ns:=L0 hI;show Ip kind_sorted plain_sorted entry_sorted (args_sorted1 _) ?_;unfold Builtin.«sorted»;show aa (m:=checkCount "sorted" 1 1 _) (ao ?_);show aa (wpAny_collect_seq (A:=A.in1) a hT ho hc hd (λh1 kp=>?_) (by simp at hl;unfold sizeLine;omega));let zO:-items.toList<64:=by omega
 generalize items.toList=vs at *;show aa (wpAny_newList (s:={ s with heap:=h1 }) ?_);let qj:(h1.push (seqObj "list" vs.toArray 0)).get? h1.objs.size=!(seqObj "list" vs.toArray 0):=aJ _ rfl;show aa (bB (cz (s:={ s with heap:=h1.push (seqObj "list" vs.toArray 0) }) slot_list_sort #[_,qj,rfl] entry_list_sort (list_sort_tree qj hI zO λout oh a1 a2 a3=>#[_,rfl,?_]) (args_list_sort _)));let#[e,tj]:=sortedHeap_at (vs:=vs) (out:=out) qj;show ao #[_,rfl,h h1 out.toList oh e _ kp a1 a2 a3 tj (λc o' e'=>?_)];let hc:=aF e';rw[sortedHeap_old (aT hc) (by rw[size_push'];show Nat.lt_succ_of_lt hc)];show av _ e'
end
end ST
namespace L2
open PySem PyProof.Rows
abbrev O7(ns:@&Int):@&Int:=ns.mergeSort (λa b=>decide (a<=b))
def MR(ns:@&Int):(O7 ns).Pairwise (·<=·):=by
 have:=uy (le:=λa b:Int=>decide (a<=b)) (λa b c h1 h2=>by simp at *;omega) (λa b=>by simp;omega) ns;show this.imp λh=>by simpa using h
def Gv(ns:@&Int):(O7 ns).Perm ns:=Ik _ _
section
variable{X:Cx}
def aB0:u4 X (.builtin "sorted") (λxs H Q=>∃p,∃ns:@&Int,xs=[.ref p]/\(gw X.K H p (ns.map V.int)\/ja X.K H p (ns.map V.int))/\-ns<60/\∀l,H l=none->Q (.ref l) (upd H l (.lst ((O7 ns).map V.int)))):=by
 intro pi s U H xs us Q I r h;let#[p,ns,rfl,hq,hl,q]:=h;let#[u,rfl,rx]:=vals1 r;cases rx;obtain⟨T,bo,o,n,hT,r',ho,hc,hd⟩:∃T,∃(bo:@&Value) (o:Obj) (n:Nat),(T="list"\/T="tuple")/\Vals (ns.map V.int) bo/\s.heap.get? p=!o/\o.cls=.type T/\o.data=.seq bo.toArray n:=by
  rcases hq with hq|hq
  .let#[bo,r',pl,_]:=I.list hq;let#[o,ho,hc,n,hd]:=pl.isList;show#[_,bo,o,n,.inl rfl,r',ho,hc,hd]
  .let#[bo,r',#[o,ho,hc,n,hd],_]:=I.tuple hq;show#[_,bo,o,n,.inr rfl,r',ho,hc,hd]
 show ST.aZ5 hT ho hc hd (Q7 r') hl λh1 vs oh e h' kp i1 i2 i3 i4 i5=>?_;let e1:oh=O7 ns:=Z1 (i2.trans (Gv ns).symm) i3 (MR ns);subst e1;let I1:Inv X pi U H { s with heap:=h1 }:=I.kept (t':=s.toks) kp;let hz:(O7 ns).length<=10000:=by rw[(Gv ns).length_eq];omega
 show#[.ref h1.objs.size,_,(I1.laid (a:=h1.objs.size) (o:=.lst ((O7 ns).map V.int)) (t':=s.toks) i5 (aw _) #[by rw[ah];show aG hz ∅,vs,e,MV i1,i4]),rfl,q _ (I1.bV.fresh (aw _))]
def Qo:∀{ks:@&Key} {l:@&Value},(-l)=-ks->(∀(i:Nat) v,l[i]?=!v->∃k,ks[i]?=!k/\Z4 k v=true)->Vals (ks.map kV) l
 |[],[],_,_=>.nil
 |k::ks,v::l,hl,h=>by
  let#[k',e,hk]:=h 0 v rfl;cases e;show .cons ?_ (Qo (_/hl) λi v e=>h (i+1) v e);rcases v8 hk with⟨i,t,rfl,rfl⟩|⟨x,t,rfl,rfl⟩<;>show#[t,rfl]
def aB1(hc:X.calm=true):u4 X (.type "list") (λxs H Q=>∃a kvs,xs=[.ref a]/\H a=!.dK kvs/\-kvs<=10000/\∀p,H p=none->Q (.ref p) (upd H p (.lst ((kvs.map (·.1)).map kV)))):=by
 intro pi s U H xs us Q I r h;let#[a,kvs,rfl,ha,hl,q]:=h;let#[u,rfl,rx]:=vals1 r;cases rx;let#[_,hd,vs,kv,hD]:=HN I.bV ha;let#[ep,hA]:=hD.dictAt;let zO:-vs<=10000:=by rw[<- -kv];show hl
 show PySem.W.kdl_call (PySem.W.kdl_dict (kvs:=vs) (ep:=ep) hd) (I.ok.hd hc) hA (aG zO ∅) λh' tk acc c k1 k2 k3=>?_;let hv:Vals ((kvs.map (·.1)).map kV) acc.toList:=by
  show Qo (by rw[dc,k3.1,ah,(-kv)]) λi v e=>?_;let#[k,x,e1,e2]:=k3.2 i v (_/e);show#[k,by rw[kv.keys,aj,e1];rfl,e2]
 show#[.ref s⁻¹,_,(I.laid (a:=s⁻¹) (o:=.lst ((kvs.map (·.1)).map kV)) (t':=tk) k1 (aw _) #[by rw[ah,ah];show aG hl ∅,acc.toList,c,hv,by simpa using k2]),rfl,q _ (I.bV.fresh (aw _))]
end
end L2
namespace ST
open PySem PyProof.Rows
end ST
namespace L2
open PySem PyProof.Rows
end L2
namespace L2
open PySem PySem.Spec PyProof.Rows
variable{prog:Program}{w:World}{A:Around}{s:Shared}{X:Cx}
def yG{P:Program}{k:Key}{u:Value}(h:(y4 P w).is k u=true):RelV (kV k) u:=by
 rw[a12] at h;rcases v8 h with⟨j,t,e1,e2⟩|⟨x,t,e1,e2⟩
 .subst e1 e2;show#[t,rfl]
 .subst e1 e2;show#[t,rfl]
def KV.at{kvs:@&(Key×V)}{vs:@&(Key×Value)}(r:KV kvs vs):∀{i:Nat} {k:Key} {x:V},kvs[i]?=!(k,x)->∃u,vs[i]?=!(k,u)/\RelV x u:=by
 unfold KV at r
 induction r with
 |nil=>intro i k x h;simp at h
 |cons h r ih =>
  intro i k x e;cases i with
  |zero =>
   simp at e;subst e;let#[h1,h2]:=h;show #[_,by
    change some _=!(k,_);let Em:k=_:=h1;rw [Em],h2]
  |succ i=>simpa using ih (_/e)
abbrev Mj:@&Int->@&Int->Bool
 |x::xs,y::ys=>if x=y then Mj xs ys else decide (x<y)
 |_,_=>false
end L2
namespace M
open PySem L2
set_option genInjectivity true in
inductive D where
 |aR|bl (b:Bool)|int (i:Int)|str (x:Str)|ty (n:String)|ref (i:Nat)|tup (l:@&D)
set_option genInjectivity true in
inductive O where
 |lst (l:@&D)|qq (l:@&D)
 |cV (kvs:@&(Key×D))
 |ins (c:Str) (fs:@&(Str×D))
 |set (S:Int->Bool) (n:Nat)
abbrev O.mut:O->Bool
 |.qq _=>false
 |_=>true
abbrev pO:D->Option Key
 |.int i=>!.inl i
 |.str x=>!.inr x
 |_=>none
abbrev C0(kvs:@&(Key×D))(k:Key):Option D:=(kvs.find? λkv=>decide (kv.1=k)).map (·.2)
abbrev putD(kvs:@&(Key×D))(k:Key)(v:D):@&(Key×D) :=
 if(kvs.any λkv=>decide (kv.1=k))=true then kvs.map (λkv=>if kv.1=k then(kv.1,v) else kv) else kvs++[(k,v)]
abbrev f9(f:Str)(v:D):@&(Str×D)->@&(Str×D)
 |[]=>[(f,v)]
 |(g,x)::r=>if g=f then(g,v)::r else(g,x)::f9 f v r
abbrev U3:@&D->Str->Option D
 |.tup [.str y,v]::r,x=>if x=y then some v else U3 r x
 |_::_,_=>none
 |[],_=>none
abbrev KU:@&D->Option Str
 |[]=>!Str.empty
 |.str x::r=>(KU r).map λy=>x++y
 |_=>none
structure Xn where
 cls:Str
noncomputable abbrev G:=@&O
noncomputable abbrev S:=@&(Option D)
noncomputable abbrev KD:=D->G->Prop
noncomputable abbrev KX:=Xn->G->Prop
noncomputable abbrev jS:KX:=λx x=>False
abbrev GY:Option O->Option (@&D)
 |some (.lst l)=>!l
 |some (.qq l)=>!l
 |_=>none
noncomputable abbrev c8(g:G)(a:Nat):Option (@&D):=GY g[a]?
abbrev rd(g:G):Nat->D->Option PyData
 |_,.aR=>!.none
 |_,.bl b=>!.bool b
 |_,.int i=>!.int i
 |_,.str x=>!.str x
 |_,.ty _=>none
 |0,.ref _=>none
 |0,.tup _=>none
 |n+1,.ref a=>match c8 g a with
  |some l=>(l.mapM (rd g n)).map .list
  |none=>none
 |n+1,.tup l=>(l.mapM (rd g n)).map .tuple
abbrev Ck(g:G)(l:@&D):Option (@&PyData):=l.mapM (rd g 6)
abbrev F0(g:G):D->Option (@&D)
 |.tup l=>!l
 |.ref a=>c8 g a
 |_=>none
abbrev Q6:D->Bool
 |.aR=>true
 |_=>false
abbrev cut{α:Type}(xs:List α)(lo hi:Option Int):List α:=(xs.drop (HT.eL (-xs) 0 lo)).take (HT.eL (-xs) (-xs) hi-HT.eL (-xs) 0 lo)
abbrev uf(g:G)(x:D)(c:String):Option Bool:=match x with
 |.aR=>!(c=="NoneType")
 |.bl _=>!(c=="bool"||c=="int")
 |.int _=>!(c=="int")
 |.str _=>!(c=="str")
 |.tup _=>!(c=="tuple")
 |.ref a=>match g[a]? with
  |some (.lst _)=>!(c=="list")
  |_=>none
 |.ty _=>none
abbrev p9(lo:Int)(n:Nat):@&D:=(List.range n).map λ(k:Nat)=>.int (lo+k)
abbrev Z5:@&D->Option Bool
 |[]=>!true
 |.bl b::r=>(Z5 r).map λc=>b&&c
 |_=>none
inductive Pr where
 |bin (op:Operator)|un (op:UnaryOp)|cmp (op:CmpOp)
 |ix|mU (lo hi:Bool)|rev|tup|lst|rT
 |len|list|tuple|isin|all|max|min|int|str|kd|kZ|sset|wm|xU
 |UJ|En|oU|fv|Ep|fld (f:Str)
 |append|pop|get|index|join|iadd|clear|Cm|extend|any|kc|sum|vq|oy|kW|Cz|Ez|xT|kU (i:Int)
noncomputable abbrev DR:=@&D->G->D->G->Prop
abbrev arR:Operator->Int->Int->Int->Prop
 |.Add,i,j,r=>r=i+j
 |.Sub,i,j,r=>r=i-j
 |.Mult,i,j,r=>ub i j/\r=i*j
 |.FloorDiv,i,j,r=>EH i j/\r=i / j
 |.Mod,i,j,r=>0<j/\r=i % j
 |.Pow,i,j,r=>pK i j/\r=i ^ j.toNat
 |.LShift,i,j,r=>pK i j/\r=i*2 ^ j.toNat
 |.BitAnd,i,j,r=>r=Builtin.bitAnd i j
 |.BitOr,i,j,r=>r=Builtin.bitOr i j
 |_,_,_,_=>False
def Vk(op:Operator):DR:=λxs g d g' =>
 (∃i j r,xs=[.int i,.int j]/\arR op i j r/\d=.int r/\g'=g) \/
 (op=.Add/\((∃ l m,xs=[.tup l,.tup m]/\-l + -m <= 100000/\d=.tup (l ++ m)/\g'=g) \/
  (∃a b l m,xs=[.ref a,.ref b]/\g[a]?=!.lst l/\g[b]?=!.lst m/\-l+-m<=100000/\d=.ref (-g)/\g'=g++[.lst (l++m)]) \/
  False)) \/
 (op=.Mult/\((∃ a l n,xs=[.ref a,.int n]/\g[a]?=!.lst l/\-(2 ^ 62) <= n/\n < 2 ^ 62/\-l * n.toNat <= 100000/\d=.ref (-g)/\g'=g ++ [.lst (List.replicate n.toNat l).flatten]) \/
  (∃ l n,xs=[.tup l,.int n]/\l ≠ []/\1 <= n/\n < 2 ^ 62/\-l * n.toNat <= 100000/\d=.tup (List.replicate n.toNat l).flatten/\g'=g)))
def Rm(op:UnaryOp):DR:=λxs g d g'=>op=.USub/\∃i,xs=[.int i]/\d=.int (-(i))/\g'=g
abbrev xQ(g:G)(x y:D)(b:Bool):Prop :=
 (∃i j,x=.int i/\y=.int j/\b=decide (i=j))\/(∃i j,x=.bl i/\y=.bl j/\b=(i==j))\/(∃i j,x=.str i/\y=.str j/\b=decide (i=j)) \/
 ∃p q,rd g 6 x=!p/\rd g 6 y=!q/\p.canLay0=true/\q.canLay0=true/\b=PyData.eqv p q
abbrev inR(g:G)(x y:D)(b:Bool):Prop :=
 (∃a kvs c,y=.ref a/\g[a]?=!.cV kvs/\pO x=!c/\b=(C0 kvs c).isSome) \/
 ∃l ps p,F0 g y=!l/\Ck g l=!ps/\rd g 6 x=!p/\PyData.canLayAll0 ps=true/\p.canLay0=true/\b=(ps.any λq=>PyData.eqv q p)
def Mu(g:G)(x y:D)(b:Bool):Prop:=∃a S n i,y=.ref a/\g[a]?=!.set S n/\x=.int i/\b=S i
abbrev Ma(g:G)(x y:D)(b:Bool):CmpOp->Prop
 |.Eq=>xQ g x y b
 |.NotEq=>xQ g x y (~~~b)
 |.In=>inR g x y b\/Mu g x y b
 |.NotIn=>inR g x y (~~~b)\/Mu g x y (~~~b)
 |.Lt=>∃i j,x=.int i/\y=.int j/\b=decide (i<j)
 |.LtE=>∃i j,x=.int i/\y=.int j/\b=decide (i<=j)
 |.Gt=>∃i j,x=.int i/\y=.int j/\b=decide (j<i)
 |.GtE=>∃i j,x=.int i/\y=.int j/\b=decide (j<=i)
 |.Is=>y=.aR/\b=Q6 x
 |.IsNot=>y=.aR/\b= ~~~Q6 x
def Vo(op:CmpOp):DR:=λxs g d g'=>∃x y b,xs=[x,y]/\Ma g x y b op/\d=.bl b/\g'=g
abbrev Mw(g:G)(x:D)(b:Bool):Prop :=
 (x=.aR/\b=false)\/x=.bl b\/(∃i,x=.int i/\b=(i != 0))\/(∃l,x=.tup l/\b= ~~~l.isEmpty)\/∃a l,x=.ref a/\c8 g a=!l/\b= ~~~l.isEmpty
def Sj:DR:=λxs g d g'=>g'=g/\((∃x l i,xs=[x,.int i]/\F0 g x=!l/\jA l i=!d)\/(∃a kvs y c,xs=[.ref a,y]/\g[a]?=!.cV kvs/\pO y=!c/\C0 kvs c=!d) \/
 False)
def wy(x:D)(lo hi:Option Int)(g:G)(d:D)(g':G):Prop:=(∃l,x=.tup l/\d=.tup (cut l lo hi)/\g'=g)\/∃a l,x=.ref a/\c8 g a=!l/\d=.ref (-g)/\g'=g++[.lst (cut l lo hi)]
abbrev b74:Bool->Bool->DR
 |false,false,xs,g,d,g'=>∃x,xs=[x]/\wy x none none g d g'
 |true,false,xs,g,d,g'=>∃x i,xs=[x,.int i]/\wy x (!i) none g d g'
 |false,true,xs,g,d,g'=>∃x j,xs=[x,.int j]/\wy x none (!j) g d g'
 |true,true,xs,g,d,g'=>∃x i j,xs=[x,.int i,.int j]/\wy x (!i) (!j) g d g'
def b81:DR:=λxs g d g'=>(∃l,xs=[.tup l]/\d=.tup l.reverse/\g'=g)\/∃a l,xs=[.ref a]/\c8 g a=!l/\d=.ref (-g)/\g'=g++[.lst l.reverse]
def b54:DR:=λxs g d g'=>-xs<=1000/\d=.tup xs/\g'=g
def VB:DR:=λxs g d g'=>-xs<=1000/\d=.ref (-g)/\g'=g++[.lst xs]
abbrev vW:@&D->@&(Key×D)->Option (List (Key×D))
 |[],kvs=>!kvs
 |k::v::r,kvs=>(pO k).bind λc=>vW r (putD kvs c v)
 |_,_=>none
def b24:DR:=λxs g d g'=>xs=[]/\d=.ref (-g)/\g'=g++[.cV []]
def VA:DR:=λxs g d g'=>g'=g/\((∃x l,xs=[x]/\F0 g x=!l/\d=.int (-l))\/False\/False)
abbrev kD:Key->D
 |.inl i=>.int i
 |.inr x=>.str x
def b00:DR:=λxs g d g'=>(∃x l,xs=[x]/\F0 g x=!l/\d=.ref (-g)/\g'=g++[.lst l])\/∃a kvs,xs=[.ref a]/\g[a]?=!.cV kvs/\-kvs<=10000/\d=.ref (-g)/\g'=g++[.lst ((kvs.map (·.1)).map kD)]
def bG1:DR:=λxs g d g'=>∃x l,xs=[x]/\F0 g x=!l/\d=.tup l/\g'=g
def b13:DR:=λxs g d g'=>∃x c b,xs=[x,.ty c]/\c∈["int","bool","str","tuple","list"]/\uf g x c=!b/\d=.bl b/\g'=g
def allR:DR:=λxs g d g'=>∃a l b,xs=[.ref a]/\c8 g a=!l/\(Z5 l=!b\/∃ns:@&Int,l=ns.map .int/\b=ns.all λn=>n != 0)/\d=.bl b/\g'=g
abbrev Kv:@&D->Option Bool
 |[]=>!false
 |.bl b::r=>(Kv r).map λc=>b||c
 |_=>none
def anyR:DR:=λxs g d g'=>∃a l b,xs=[.ref a]/\c8 g a=!l/\Kv l=!b/\d=.bl b/\g'=g
def bI6:DR:=λxs g d g'=>False\/∃x,∃ns:@&Int,xs=[x]/\F0 g x=!ns.map .int/\-ns<60/\d=.ref (-g)/\g'=g++[.lst ((O7 ns).map .int)]
def VC:DR:=λxs g d g'=>g'=g/\((∃i j,xs=[.int i,.int j]/\d=.int (if j>i then j else i))\/∃a,∃(ns:@&Int) (M:Int),xs=[.ref a]/\c8 g a=!ns.map .int/\M∈ns/\(∀x∈ns,x<=M)/\d=.int M)
def b99:DR:=λxs g d g'=>g'=g/\((∃i j,xs=[.int i,.int j]/\d=.int (if j<i then j else i))\/(∃a,∃(ns:@&Int) (M:Int),xs=[.ref a]/\c8 g a=!ns.map .int/\M∈ns/\(∀x∈ns,M<=x)/\d=.int M)\/∃a b,∃(ns ms:@&Int),xs=[.ref a,.ref b]/\g[a]?=!.lst (ns.map .int)/\g[b]?=!.lst (ms.map .int)/\-ms=-ns/\d=if L2.Mj ms ns then .ref b else .ref a)
def ZT:DR:=λxs g d g'=>∃a i S n,xs=[.ref a,.int i]/\g[a]?=!.set S n/\n+1<4096/\d=.aR/\g'=g.set a (.set (λk=>S k||decide (k=i)) (if S i then n else n+1))
def b02:DR:=λxs g d g'=>∃a,∃ns:@&Int,xs=[.ref a]/\c8 g a=!ns.map .int/\-ns<600/\d=.ref (-g)/\g'=g++[.set (λk=>decide (k∈ns)) (ST.f6 [] ns).length]
def bK6(i:Int):DR:=λxs g d g'=>xs=[]/\d=.ref (-g)/\g'=g++[.set (λk=>decide (k=i)) 1]
def b72:DR:=λxs g d g'=>∃a,∃ns:@&Int,xs=[.ref a]/\c8 g a=!ns.map .int/\d=.int ns.sum/\g'=g
def Zr:DR:=λxs g d g'=>∃a,∃ns:@&Int,xs=[.ref a]/\c8 g a=!ns.map .int/\-ns<60/\d=.int (ST.f6 [] ns).length/\g'=g
def b12:DR:=λxs g d g'=>∃i j,xs=[.int i,.int j]/\d=.int (i-j)/\g'=g
def Vy:DR:=λxs g d g'=>g'=g/\((∃i,xs=[.int i]/\d=.int i)\/∃b,xs=[.bl b]/\d=.int (if b then 1 else 0))
def b73:DR:=λxs g d g'=>(∃i,xs=[.int i]/\i.natAbs.log2<1920/\d=.str (toString i)/\g'=g)\/∃x,xs=[.str x]/\d=.str x/\g'=g
def bP7:DR:=λxs g d g'=>∃j,xs=[.int j]/\-(2 ^ 62)<=j/\j<=100000/\d=.ref (-g)/\g'=g++[.lst (p9 0 j.toNat)]
def bP6:DR:=λxs g d g'=>∃i j,xs=[.int i,.int j]/\(-(2 ^ 62)<=i/\i<2 ^ 62/\-(2 ^ 62)<=j/\j<2 ^ 62/\j-i<=100000)/\d=.ref (-g)/\g'=g++[.lst (p9 i (j-i).toNat)]
def ZX:DR:=λxs g d g'=>∃a ns,xs=[.ref a]/\c8 g a=!ns.map .int/\-ns<60/\d=.ref (-g)/\g'=g++[.lst ((o8 ns).map .int)]
def b71:DR:=λxs g d g'=>∃ns ms:@&Int,xs=[.tup (ns.map .int),.tup (ms.map .int)]/\(∀k∈ns,ST.Spot k)/\(∀k∈ms,ST.Spot k)/\-ns+-ms<50/\d=.ref (-g)/\g'=g++[.lst ((o8 (ns++ms)).map .int)]
def Mf(neg:Bool):DR:=λxs g d g'=>∃kvs x,xs=[.tup kvs,.str x]/\d=.bl (xor neg (U3 kvs x).isSome)/\g'=g
def b19:DR:=λxs g d g'=>∃kvs x,xs=[.tup kvs,.str x]/\U3 kvs x=!d/\g'=g
def UO:DR:=λxs g d g'=>g'=g/\((∃i,xs=[.int i]/\i.natAbs.log2<1920/\d=.str (toString i))\/∃x,xs=[.str x]/\-x<=2000/\d=.str x)
def b20:DR:=λxs g d g'=>∃x,KU xs=!x/\d=.str x/\g'=g
def Vs(f:Str):DR:=λxs g d g'=>∃a c fs,xs=[.ref a]/\g[a]?=!.ins c fs/\fs.lookup f=!d/\g'=g
def appendR:DR:=λxs g d g'=>∃a y l,xs=[.ref a,y]/\g[a]?=!.lst l/\-l<100000/\d=.aR/\g'=g.set a (.lst (l++[y]))
def b90:DR:=λxs g d g'=>∃a i l k,xs=[.ref a,.int i]/\g[a]?=!.lst l/\-(2 ^ 63)<=i/\i<2 ^ 63/\seqIndex? i (-l)=!k/\l[k]?=!d/\g'=g.set a (.lst (l.eraseIdx k))
def Vw:DR:=λxs g d g'=>∃a y z kvs c,xs=[.ref a,y,z]/\g[a]?=!.cV kvs/\pO y=!c/\d=(C0 kvs c).getD z/\g'=g
abbrev vE:D->Bool
 |.aR=>true
 |.bl _=>true
 |.int _=>true
 |.str _=>true
 |_=>false
abbrev toV:D->V
 |.bl b=>.bl b
 |.int i=>.int i
 |.str x=>.str x
 |_=>.aR
def S0(l:@&D)(y:D)(n:Nat):Prop:=l.all vE=true/\vE y=true/\(∃z,l[n]?=!z/\lq (toV z) (toV y)=true)/\∀(m:Nat) z,m<n->l[m]?=!z->lq (toV z) (toV y)=false
def bR4:DR:=λxs g d g'=>∃x y l n,xs=[x,y]/\F0 g x=!l/\S0 l y n/\-l<=100000/\d=.int n/\g'=g
def joinR:DR:=λxs g d g'=>∃sep a ys,xs=[.str sep,.ref a]/\c8 g a=!ys.map .str/\bC2 sep ys<=100000/\d=.str (Builtin.Str.glued sep ys)/\g'=g
def b15:DR:=λxs g d g'=>(∃i j,xs=[.int i,.int j]/\d=.int (i+j)/\g'=g)\/∃l m,xs=[.tup l,.tup m]/\-l+-m<=100000/\d=.tup (l++m)/\g'=g
def bT3:DR:=λxs g d g'=>∃a l,xs=[.ref a]/\g[a]?=!.lst l/\d=.aR/\g'=g.set a (.lst [])
def ZL:DR:=λxs g d g'=>∃a l,xs=[.ref a]/\g[a]?=!.lst (l++[d])/\g'=g.set a (.lst l)
def bD5:DR:=λxs g d g'=>∃a b l m,xs=[.ref a,.ref b]/\g[a]?=!.lst l/\g[b]?=!.lst m/\-l+-m<=100000/\d=.aR/\g'=g.set a (.lst (l++m))
def bS8:DR:=λxs g d g'=>(∃a kvs,xs=[.ref a]/\g[a]?=!.cV kvs/\d=.ref (-g)/\g'=g++[.cV kvs])\/∃a,∃ks:@&Int,xs=[.ref a]/\c8 g a=!(ks.map λk=>.tup [.int k,.bl true])/\-ks<=1000/\ks.Nodup/\d=.ref (-g)/\g'=g++[.cV (ks.map λk=>(.inl k,.bl true))]
abbrev vj(p:Key×Int×Int):Key×D:=(p.1,.tup [.int p.2.1,.int p.2.2])
def b03(n:Int)(p:Key×Int×Int):Bool:= ~~~(decide (p.2.1=n)||decide (p.2.2=n))
def b25:DR:=λxs g d g'=>∃a n,∃fs:@&(Key×Int×Int),xs=[.ref a,.int n]/\g[a]?=!.cV (fs.map vj)/\-fs<1000/\(fs.map (·.1)).Nodup/\d=.ref (-g)/\g'=g++[.cV ((fs.filter (b03 n)).map vj)]
abbrev delD(kvs:@&(Key×D))(k:Key):@&(Key×D):=kvs.filter λkv=>decide (kv.1≠k)
def b23:DR:=λxs g d g'=>∃a y kvs c,xs=[.ref a,y]/\g[a]?=!.cV kvs/\pO y=!c/\C0 kvs c=!d/\g'=g.set a (.cV (delD kvs c))
abbrev PR:Pr->DR
 |.Ez=>b25
 |.xT=>b23
 |.clear=>bT3
 |.any=>anyR
 |.sum=>b72
 |.kW=>ZT
 |.Cz=>b02
 |.kU i=>bK6 i
 |.vq=>Zr
 |.oy=>b12
 |.kc=>bI6
 |.extend=>bD5
 |.Cm=>ZL
 |.xU=>bS8
 |.bin op=>Vk op
 |.un op=>Rm op
 |.cmp op=>Vo op
 |.ix=>Sj
 |.mU a b=>b74 a b
 |.rev=>b81
 |.tup=>b54
 |.lst=>VB
 |.rT=>b24
 |.len=>VA
 |.list=>b00
 |.tuple=>bG1
 |.isin=>b13
 |.all=>allR
 |.max=>VC
 |.min=>b99
 |.int=>Vy
 |.str=>b73
 |.kd=>bP7
 |.kZ=>bP6
 |.sset=>ZX
 |.wm=>b71
 |.UJ=>Mf false
 |.En=>Mf true
 |.oU=>b19
 |.fv=>UO
 |.Ep=>b20
 |.fld f=>Vs f
 |.append=>appendR
 |.pop=>b90
 |.get=>Vw
 |.index=>bR4
 |.join=>joinR
 |.iadd=>b15
def cP(p:Pr)(xs:@&D)(g:G)(Q:KD):Prop:=∃d g',PR p xs g d g'/\Q d g'
def vm(g:G)(x y:D)(k:Bool->Prop):Prop:=∃b,xQ g x y b/\k b
def oz(g:G)(x y:D)(k:Bool->Prop):Prop:=∃b,inR g x y b/\k b
def qH(g:G)(x:D)(k:Bool->Prop):Prop:=∃b,Mw g x b/\k b
def b77(x y v:D)(g g':G):Prop:=(∃a i l j,x=.ref a/\y=.int i/\g[a]?=!.lst l/\mD (-l) i=!j/\g'=g.set a (.lst (l.set j v))) \/
 ∃a kvs c,x=.ref a/\g[a]?=!.cV kvs/\pO y=!c/\-kvs<100000/\g'=g.set a (.cV (putD kvs c v))
def Z7(x y v:D)(g:G)(k:G->Prop):Prop:=∃g',b77 x y v g g'/\k g'
def Ll(f:Str)(cs:@&Str)(x v:D)(g g':G):Prop:=∃a c fs,x=.ref a/\g[a]?=!.ins c fs/\c∈cs/\-fs<100/\g'=g.set a (.ins c (f9 f v fs))
def yj(f:Str)(cs:@&Str)(x v:D)(g:G)(k:G->Prop):Prop:=∃g',Ll f cs x v g g'/\k g'
abbrev nK:Pr->D->G->Prop
 |.get,x,g=>∃a kvs,x=.ref a/\g[a]?=!.cV kvs
 |.xT,x,g=>∃a kvs,x=.ref a/\g[a]?=!.cV kvs
 |.join,x,g=>∃y,x=.str y
 |.kW,x,g=>∃a S n,x=.ref a/\g[a]?=!.set S n
 |.index,x,g=>(∃l,x=.tup l)\/∃a l,x=.ref a/\c8 g a=!l
 |_,x,g=>∃a l,x=.ref a/\c8 g a=!l
inductive IK where
 |fix (l:@&D)|lst (a:Nat)|tV (a:Nat)|uG (a n:Nat)
abbrev IK.at:IK->Nat->G->Option (Option D)
 |.fix l,i,_=>some l[i]?
 |.lst a,i,g=>match c8 g a with
  |some l=>some l[i]?
  |none=>none
 |.tV a,i,g=>match c8 g a with
  |some l=>!(l[i]?.map λd=>.tup [.int i,d])
  |none=>none
 |.uG a n,i,g=>match c8 g a with
  |some l=>if (-l)=n then some (if i<n then l[n-1-i]? else none) else none
  |none=>none
inductive MT where
 |one (i:Nat)|many (is:@&Nat)
abbrev U5:@&Nat->@&D->S->Option S
 |[],[],U=>!U
 |i::is,d::ds,U=>U5 is ds (U.set i (!d))
 |_,_,_=>none
def kq(t:MT)(x:D)(U:S)(k:S->Prop):Prop:=match t with
 |.one i=>k (U.set i (!x))
 |.many is=>∃l cv,x=.tup l/\U5 is l U=!cv/\k cv
set_option genInjectivity false in
set_option genSizeOf false in
inductive ME where
 |var (i:Nat)|lit (d:D)
 |nil|cons (a b:ME)|prim (p:Pr) (es:ME)|dZ (p:Pr) (o es:ME)|pJ (es:ME)
 |chain (o1 o2:CmpOp) (a b c:ME)
 |eI (a b:ME)|jI (a b:ME)|dt (a:ME)|ite (c a b:ME)
 |call (f:Nat) (es:ME)|make (c:Str) (f:Nat) (es:ME)|cT (m:Str) (cs:@&(Str×Nat)) (o es:ME)
 |comp (c7:@&Nat) (n:Nat) (tg:MT) (it cond elt:ME)|iE (c7:@&Nat) (n:Nat) (tg:MT) (it cond elt:ME)|iF (c7:@&Nat) (n:Nat) (tg:MT) (it cond elt:ME)
 |gp (e:ME)|gE (a:ME)|jK (a b:ME)|lg (e:ME)|pq (e:ME)|fg (e:ME)|no
noncomputable abbrev fG:=Nat->@&D->G->KD->KX->Prop
def F8(U:S)(c7:@&Nat)(n:Nat):S:=c7.map (λj=>(U[j]?).join)++List.replicate (n- -c7) none
abbrev turns(k:IK)(U:S)(g:G)(fin:S->G->Prop)(turn:D->(S->G->Prop)->S->G->Prop):Prop :=
 ∃W:Nat->Nat->S->G->Prop,(∃m,W 0 m U g)/\∀i m U g,W i m U g->(k.at i g=!none/\fin U g)\/∃x,k.at i g=!!x/\∃N2:S->G->Prop,(∀cv g',N2 cv g'->∃m',m'<m/\W (i+1) m' cv g')/\turn x N2 U g
abbrev Ay(k:IK)(U:S)(g:G)(fin:@&D->G->Prop)(turn:D->(Option D->S->G->Prop)->S->G->Prop):Prop :=
 ∃W:Nat->Nat->@&D->S->G->Prop,(∃m,W 0 m [] U g)/\∀i m ys U g,W i m ys U g->(k.at i g=!none/\fin ys g) \/
  ∃x,k.at i g=!!x/\-ys<100000/\turn x (λy cv g'=>∃m',m'<m/\W (i+1) m' (ys++y.toList) cv g') U g
abbrev Hi(k:IK)(U:S)(g:G)(fin:@&Int->G->Prop)(turn:D->(Option Int->S->G->Prop)->S->G->Prop):Prop :=
 ∃W:Nat->Nat->@&Int->S->G->Prop,(∃m,W 0 m [] U g)/\∀i m ys U g,W i m ys U g->(k.at i g=!none/\-ys<60/\fin ys g) \/
  ∃x,k.at i g=!!x/\-ys<60/\turn x (λy cv g'=>∃m',m'<m/\W (i+1) m' (ys++y.toList) cv g') U g
mutual
noncomputable def bj(P:fG):ME->S->G->KD->KX->Prop
 |.var i,U,g,Q,_=>∃d,U[i]?=!!d/\Q d g
 |.lit d,_,g,Q,_=>Q d g
 |.prim p es,U,g,Q,E=>fW P es U g (λxs g1=>cP p xs g1 Q) E
 |.dZ p o es,U,g,Q,E=>bj P o U g (λx g1=>nK p x g1/\fW P es U g1 (λxs g2=>cP p (x::xs) g2 Q) E) E
 |.pJ es,U,g,Q,E=>fW P es U (g++[.cV []]) (λxs g1=>∃kvs,vW xs []=!kvs/\-xs<=30/\g1[(-g)]?=!.cV []/\Q (.ref (-g)) (g1.set (-g) (.cV kvs))) E
 |.chain o1 o2 a b c,U,g,Q,E=>bj P a U g (λx g1=>bj P b U g1 (λy g2=>cP (.cmp o1) [x,y] g2 λz g3=>∃t,z=.bl t/\if t=true then bj P c U g3 (λw g4=>cP (.cmp o2) [y,w] g4 Q) E else Q (.bl false) g3) E) E
 |.eI a b,U,g,Q,E=>bj P a U g (λx g1=>∃t,x=.bl t/\if t=true then bj P b U g1 Q E else Q (.bl false) g1) E
 |.jI a b,U,g,Q,E=>bj P a U g (λx g1=>∃t,x=.bl t/\if t=true then Q (.bl true) g1 else bj P b U g1 Q E) E
 |.dt a,U,g,Q,E=>bj P a U g (λx g1=>∃t,x=.bl t/\Q (.bl (~~~t)) g1) E
 |.ite c a b,U,g,Q,E=>eF P c U g (λt g1=>if t=true then bj P a U g1 Q E else bj P b U g1 Q E) E
 |.call f es,U,g,Q,E=>fW P es U g (λxs g1=>P f xs g1 Q E) E
 |.make c f es,U,g,Q,E=>fW P es U g (λxs g1=>P f (.ref (-g1)::xs) (g1++[.ins c []]) (λd g2=>d=.aR/\Q (.ref (-g1)) g2) E) E
 |.cT m cs o es,U,g,Q,E=>bj P o U g (λx g1=>∃a c fs f,x=.ref a/\g1[a]?=!.ins c fs/\fs.lookup m=none/\cs.lookup c=!f/\fW P es U g1 (λxs g2=>P f (x::xs) g2 Q E) E) E
 |.comp c7 n tg it cond elt,U,g,Q,E=>gS P it U g (λk g1=>Ay k (F8 U c7 n) g1 (λys g=>Q (.ref (-g)) (g++[.lst ys])) λx N U g=>kq tg x U λcE=>eF P cond cE g (λb g3=>if b=true then bj P elt cE g3 (λy g4=>N (!y) cE g4) jS else N none cE g3) jS) E
 |.iF c7 n tg it cond elt,U,g,Q,E=>gS P it U g (λk g1=>Ay k (F8 U c7 n) g1 (λys g=>Q (.ref (-g)) (g++[.lst ys])) λx N U g=>kq tg x U λcE=>eF P cond cE g (λb g3=>if b=true then bj P elt cE g3 (λy g4=>N (!y) cE g4) E else N none cE g3) jS) E
 |.iE c7 n tg it cond elt,U,g,Q,E=>gS P it U g (λk g1=>Hi k (F8 U c7 n) g1 (λys g=>Q (.ref (-g)) (g++[.lst ((o8 ys).map .int)])) λx N U g=>kq tg x U λcE=>eF P cond cE g (λb g3=>if b=true then bj P elt cE g3 (λy g4=>∃j,y=.int j/\N (!j) cE g4) jS else N none cE g3) jS) E
 |.nil,_,_,_,_=>False
 |.cons _ _,_,_,_,_=>False
 |.gp _,_,_,_,_=>False
 |.gE _,_,_,_,_=>False
 |.jK _ _,_,_,_,_=>False
 |.lg _,_,_,_,_=>False
 |.pq _,_,_,_,_=>False
 |.fg _,_,_,_,_=>False
 |.no,_,_,_,_=>False
noncomputable def fW(P:fG):ME->S->G->(List D->G->Prop)->KX->Prop
 |.nil,_,g,Q,_=>Q [] g
 |.cons a b,U,g,Q,E=>bj P a U g (λx g1=>fW P b U g1 (λxs g2=>Q (x::xs) g2) E) E
 |_,_,_,_,_=>False
noncomputable def eF(P:fG):ME->S->G->(Bool->G->Prop)->KX->Prop
 |.eI a b,U,g,Q,E=>eF P a U g (λt g1=>if t=true then eF P b U g1 Q E else Q false g1) E
 |.jI a b,U,g,Q,E=>eF P a U g (λt g1=>if t=true then Q true g1 else eF P b U g1 Q E) E
 |.dt a,U,g,Q,E=>eF P a U g (λt g1=>Q (~~~t) g1) E
 |.no,_,g,Q,_=>Q true g
 |.fg e,U,g,Q,E=>bj P e U g (λx g1=>qH g1 x λb=>Q b g1) E
 |_,_,_,_,_=>False
noncomputable def gS(P:fG):ME->S->G->(IK->G->Prop)->KX->Prop
 |.gp e,U,g,R,E=>bj P e U g (λx g1=>(∃l,x=.tup l/\R (.fix l) g1)\/∃a l,x=.ref a/\c8 g1 a=!l/\R (.lst a) g1) E
 |.gE a,U,g,R,E=>bj P a U g (λx g1=>∃j:Int,x=.int j/\-(2 ^ 62)<=j/\j<2 ^ 62/\R (.fix (p9 0 j.toNat)) g1) E
 |.jK a b,U,g,R,E=>bj P a U g (λx g1=>bj P b U g1 (λy g2=>∃i j:Int,x=.int i/\y=.int j/\(-(2 ^ 62)<=i/\i<2 ^ 62/\-(2 ^ 62)<=j/\j<2 ^ 62)/\R (.fix (p9 i (j-i).toNat)) g2) E) E
 |.lg e,U,g,R,E=>bj P e U g (λx g1=>∃a l,x=.ref a/\c8 g1 a=!l/\R (.tV a) g1) E
 |.pq e,U,g,R,E=>bj P e U g (λx g1=>∃a l,x=.ref a/\c8 g1 a=!l/\R (.uG a (-l)) g1) E
 |_,_,_,_,_=>False
end
set_option genInjectivity false in
set_option genSizeOf false in
inductive MS where
 |pass|seq (a b:MS)|expr (e:ME)|set (i:Nat) (e:ME)|pk (t:MT) (e:ME)|eT (o i v:ME)|fH (f:Str) (cs:@&Str) (o v:ME)
 |ly (f:Str) (cs:@&Str) (o v:ME)|kF (i:Nat) (p:Pr) (v:ME)|zy (o1 i1 o2 i2 e:ME)
 |ifs (c:ME) (a b:MS)|ju (t:MT) (it:ME) (b:MS)|kS (c:ME) (b:MS)|ret (e:ME)|sA|brk|cont
 |raise (x:Str) (es:ME)|qI (b:MS) (hs:@&(Str×ME))
structure Ends where
 nx:S->G->Prop
 rt:KD
 bk:S->G->Prop:=λ_ _=>False
 ct:S->G->Prop:=λ_ _=>False
abbrev pj(P:fG)(N:Ends)(U:S)(E:KX):@&(Str×ME)->KX
 |[],x,g=>E x g
 |(y,e)::r,x,g=>if x.cls=y\/y="MintError" then bj P e U g N.rt jS else pj P N U E r x g
abbrev wpS(P:fG):MS->Ends->S->G->KX->Prop
 |.pass,N,U,g,_=>N.nx U g
 |.seq a b,N,U,g,E=>wpS P a { N with nx:=λiU g1=>wpS P b N iU g1 E } U g E
 |.expr e,N,U,g,E=>bj P e U g (λs g1=>N.nx U g1) E
 |.set i e,N,U,g,E=>bj P e U g (λx g1=>N.nx (U.set i (!x)) g1) E
 |.pk t e,N,U,g,E=>bj P e U g (λx g1=>kq t x U λiU=>N.nx iU g1) E
 |.eT o i v,N,U,g,E=>bj P v U g (λx g1=>bj P o U g1 (λy g2=>bj P i U g2 (λz g3=>Z7 y z x g3 λg4=>N.nx U g4) E) E) E
 |.fH f cs o v,N,U,g,E=>bj P v U g (λx g1=>bj P o U g1 (λy g2=>yj f cs y x g2 λg3=>N.nx U g3) E) E
 |.ly f cs o v,N,U,g,E=>bj P o U g (λy g1=>∃a c fs x,y=.ref a/\g1[a]?=!.ins c fs/\c∈cs/\fs.lookup f=!x/\bj P v U g1 (λz g3=>cP .iadd [x,z] g3 λw g4=>∃jQ,g4[a]?=!.ins c jQ/\-jQ<100/\N.nx U (g4.set a (.ins c (f9 f w jQ)))) E) E
 |.zy o1 i1 o2 i2 e,N,U,g,E=>bj P e U g (λx g1=>∃u v,x=.tup [u,v]/\bj P o1 U g1 (λy1 g2=>bj P i1 U g2 (λz1 g3=>Z7 y1 z1 u g3 λg4=>bj P o2 U g4 (λy2 g5=>bj P i2 U g5 (λz2 g6=>Z7 y2 z2 v g6 λg7=>N.nx U g7) E) E) E) E) E
 |.kF i p v,N,U,g,E=>∃x,U[i]?=!!x/\bj P v U g (λz g1=>cP p [x,z] g1 λw g2=>N.nx (U.set i (!w)) g2) E
 |.ifs c a b,N,U,g,E=>eF P c U g (λt g1=>if t=true then wpS P a N U g1 E else wpS P b N U g1 E) E
 |.ju t it b,N,U,g,E=>gS P it U g (λk g1=>turns k U g1 N.nx λx N2 U g=>kq t x U λcE=>wpS P b { N with nx:=N2,ct:=N2,bk:=N.nx } cE g E) E
 |.kS c b,N,U,g,E=>∃W:Nat->S->G->Prop,(∃m,W m U g)/\∀m U g,W m U g->eF P c U g (λt g1=>if t=true then ∃N2:S->G->Prop,(∀cv g',N2 cv g'->∃m',m'<m/\W m' cv g')/\wpS P b { N with nx:=N2,ct:=N2,bk:=N.nx } U g1 E else N.nx U g1) E
 |.ret e,N,U,g,E=>bj P e U g N.rt E
 |.sA,N,_,g,_=>N.rt .aR g
 |.brk,N,U,g,_=>N.bk U g
 |.cont,N,U,g,_=>N.ct U g
 |.raise x es,_,U,g,E=>fW P es U g (λvs g1=>-vs<=1000/\E #[x] g1) E
 |.qI b hs,N,U,g,E=>wpS P b N U g (pj P N (U.map λs=>none) E hs)
structure aP where
 ar:Nat
 n:Nat
 body:MS
def b0(m:aP)(ds:@&D):S:=ds.map some++List.replicate (m.n- -ds) none
abbrev a8(T:Nat->Option aP):Nat->fG
 |0,_,_,_,_,_=>False
 |k+1,f,ds,g,Q,E=>∃m,T f=!m/\-ds=m.ar/\wpS (a8 T k) m.body #[λx g'=>Q .aR g',Q,λx x=>False,λx x=>False] (b0 m ds) g E
end M
namespace M
open PySem L2
variable{g:G}{K:PySem.W.Frag}{H:Hp}{a p:Addr}{vs:@&V}{i:Nat}{o:O}{u:HO}{l:@&D}
def w5{p xs}{Q Q':KD}(h:∀d g,Q d g->Q' d g)(q:cP p xs g Q):cP p xs g Q':=by
 let#[d,g',a,b]:=q;show#[d,g',a,h _ _ b]
def a64{x}{k k':Bool->Prop}(h:∀b,k b->k' b)(q:qH g x k):qH g x k':=by
 let#[b,a,z]:=q;show#[b,a,h _ z]
def Y9{x y v}{k k':G->Prop}(h:∀g,k g->k' g)(q:Z7 x y v g k):Z7 x y v g k':=by
 let#[b,a,z]:=q;show#[b,a,h _ z]
def aZ7{f cs x v}{k k':G->Prop}(h:∀g,k g->k' g)(q:yj f cs x v g k):yj f cs x v g k':=by
 let#[b,a,z]:=q;show#[b,a,h _ z]
def v9{t x U}{k k':S->Prop}(h:∀U,k U->k' U)(q:kq t x U k):kq t x U k':=by
 cases t with
 |one i=>show h _ q
 |many is=>let#[l,cv,a,b,c]:=q;show#[l,cv,a,b,h _ c]
def aY4{k U g}{fin lj:S->G->Prop}{turn jc:D->(S->G->Prop)->S->G->Prop}(h:∀U g,fin U g->lj U g)(h2:∀x N U g,turn x N U g->jc x N U g)(q:turns k U g fin turn):turns k U g lj jc:=by
 let#[W,w0,q]:=q;show#[W,w0,λi m U g w=>?_];rcases q i m U g w with⟨a,b⟩|⟨x,a,N2,b,c⟩
 .exact .inl #[a,h _ _ b]
 .exact .inr #[x,a,N2,b,h2 _ _ _ _ c]
def Nl{k U g}{fin lj:@&D->G->Prop}{turn jc:D->(Option D->S->G->Prop)->S->G->Prop}(h:∀ys g,fin ys g->lj ys g)(h2:∀x N U g,turn x N U g->jc x N U g)(q:Ay k U g fin turn):Ay k U g lj jc:=by
 let#[W,w0,q]:=q;show#[W,w0,λi m ys U g w=>?_];rcases q i m ys U g w with⟨a,b⟩|⟨x,a,b,c⟩
 .exact .inl #[a,h _ _ b]
 .exact .inr #[x,a,b,h2 _ _ _ _ c]
def aR3{k U g}{fin lj:@&Int->G->Prop}{turn jc:D->(Option Int->S->G->Prop)->S->G->Prop}(h:∀ys g,fin ys g->lj ys g)(h2:∀x N U g,turn x N U g->jc x N U g)(q:Hi k U g fin turn):Hi k U g lj jc:=by
 let#[W,w0,q]:=q;show#[W,w0,λi m ys U g w=>?_];rcases q i m ys U g w with⟨a,b,c⟩|⟨x,a,b,c⟩
 .exact .inl #[a,b,h _ _ c]
 .exact .inr #[x,a,b,h2 _ _ _ _ c]
def K9{t:Bool}{A B A' B':Prop}(h1:A->A')(h2:B->B')(q:if t=true then A else B):if t=true then A' else B':=by
 cases t
 .exact h2 q
 .exact h1 q
def d5(P:fG):Prop:=∀f xs g Q Q' E E',(∀d g,Q d g->Q' d g)->(∀x g,E x g->E' x g)->P f xs g Q E->P f xs g Q' E'
mutual
def c5{P:fG}(hP:d5 P):∀(e:ME) (U:S) (g:G) (Q Q':KD) (E E':KX),(∀d g,Q d g->Q' d g)->(∀x g,E x g->E' x g)->bj P e U g Q E->bj P e U g Q' E'
 |.var i,U,g,Q,Q',E,E',h,hx,q=>by
  let#[d,a,b]:=q;show#[d,a,h _ _ b]
 |.lit d,U,g,Q,Q',E,E',h,hx,q=>by show h _ _ q
 |.prim p es,U,g,Q,Q',E,E',h,hx,q=>by
  show F4 hP es _ _ _ _ _ _ (λxs g1 q=>w5 h q) hx q
 |.dZ p o es,U,g,Q,Q',E,E',h,hx,q=>by
  show c5 hP o _ _ _ _ _ _ (λx g1 q=>#[q.1,F4 hP es _ _ _ _ _ _ (λxs g2 q=>w5 h q) hx q.2]) hx q
 |.pJ es,U,g,Q,Q',E,E',h,hx,q=>by
  show F4 hP es _ _ _ _ _ _ (by rintro xs g1 ⟨kvs,a,b,c,d⟩;show #[kvs,a,b,c,h _ _ d]) hx q
 |.chain o1 o2 a b c,U,g,Q,Q',E,E',h,hx,q=>by
  show c5 hP a _ _ _ _ _ _ (λx g1 q=>c5 hP b _ _ _ _ _ _ (λy g2 q=>w5 (λz g3 q=>?_) q) hx q) hx q;let#[t,e,q]:=q;show#[t,e,K9 (λq=>c5 hP c _ _ _ _ _ _ (λw g4 q=>w5 h q) hx q) (h _ _) q]
 |.eI a b,U,g,Q,Q',E,E',h,hx,q=>by
  show c5 hP a _ _ _ _ _ _ (λx g1 q=>?_) hx q;let#[t,e,q]:=q;show#[t,e,K9 (λq=>c5 hP b _ _ _ _ _ _ h hx q) (h _ _) q]
 |.jI a b,U,g,Q,Q',E,E',h,hx,q=>by
  show c5 hP a _ _ _ _ _ _ (λx g1 q=>?_) hx q;let#[t,e,q]:=q;show#[t,e,K9 (h _ _) (λq=>c5 hP b _ _ _ _ _ _ h hx q) q]
 |.dt a,U,g,Q,Q',E,E',h,hx,q=>by
  show c5 hP a _ _ _ _ _ _ (λx g1 q=>?_) hx q;let#[t,e,q]:=q;show#[t,e,h _ _ q]
 |.ite c a b,U,g,Q,Q',E,E',h,hx,q=>by
  show n8 hP c _ _ _ _ _ _ (λt g1 q=>K9 (λq=>c5 hP a _ _ _ _ _ _ h hx q) (λq=>c5 hP b _ _ _ _ _ _ h hx q) q) hx q
 |.call f es,U,g,Q,Q',E,E',h,hx,q=>by
  show F4 hP es _ _ _ _ _ _ (λxs g1 q=>hP _ _ _ _ _ _ _ h hx q) hx q
 |.make c f es,U,g,Q,Q',E,E',h,hx,q=>by
  show F4 hP es _ _ _ _ _ _ (λxs g1 q=>hP _ _ _ _ _ _ _ (λd g2 q=>#[q.1,h _ _ q.2]) hx q) hx q
 |.cT m cs o es,U,g,Q,Q',E,E',h,hx,q=>by
  show c5 hP o _ _ _ _ _ _ (λx g1 q=>?_) hx q;let#[a,c,fs,f,q1,q2,q3,q4,q]:=q;show#[a,c,fs,f,q1,q2,q3,q4,F4 hP es _ _ _ _ _ _ (λxs g2 q=>hP _ _ _ _ _ _ _ h hx q) hx q]
 |.comp c7 n tg it cond elt,U,g,Q,Q',E,E',h,hx,q=>by
  show A1 hP it _ _ _ _ _ _ (λk g1 q=>Nl (λys g q=>h _ _ q) (λv v v v q=>q) q) hx q
 |.iF c7 n tg it cond elt,U,g,Q,Q',E,E',h,hx,q=>by
  show A1 hP it _ _ _ _ _ _ (λk g1 q=>Nl (λys g q=>h _ _ q) (λx N U g q=>v9 (λcE q=>n8 hP cond _ _ _ _ _ _ (λb g3 q=>by
   cases b
   .exact q
   .exact c5 hP elt _ _ _ _ _ _ (λv v z=>z) hx q) (λv v z=>z) q) q) q) hx q
 |.iE c7 n tg it cond elt,U,g,Q,Q',E,E',h,hx,q=>by
  show A1 hP it _ _ _ _ _ _ (λk g1 q=>aR3 (λys g q=>h _ _ q) (λv v v v q=>q) q) hx q
 |.nil,U,g,Q,Q',E,E',h,hx,q=>(show False from q).elim
 |.cons _ _,U,g,Q,Q',E,E',h,hx,q=>(show False from q).elim
 |.gp _,U,g,Q,Q',E,E',h,hx,q=>(show False from q).elim
 |.gE _,U,g,Q,Q',E,E',h,hx,q=>(show False from q).elim
 |.jK _ _,U,g,Q,Q',E,E',h,hx,q=>(show False from q).elim
 |.lg _,U,g,Q,Q',E,E',h,hx,q|.pq _,U,g,Q,Q',E,E',h,hx,q=>(show False from q).elim
 |.fg _,U,g,Q,Q',E,E',h,hx,q=>(show False from q).elim
 |.no,U,g,Q,Q',E,E',h,hx,q=>(show False from q).elim
def F4{P:fG}(hP:d5 P):∀(e:ME) (U:S) (g:G) (Q Q':@&D->G->Prop) (E E':KX),(∀d g,Q d g->Q' d g)->(∀x g,E x g->E' x g)->fW P e U g Q E->fW P e U g Q' E'
 |.nil,U,g,Q,Q',E,E',h,hx,q=>by show h _ _ q
 |.cons a b,U,g,Q,Q',E,E',h,hx,q=>by
  show c5 hP a _ _ _ _ _ _ (λx g1 q=>F4 hP b _ _ _ _ _ _ (λxs g2 q=>h _ _ q) hx q) hx q
 |.var _,U,g,Q,Q',E,E',h,hx,q|.lit _,U,g,Q,Q',E,E',h,hx,q|.prim _ _,U,g,Q,Q',E,E',h,hx,q|.dZ _ _ _,U,g,Q,Q',E,E',h,hx,q|.pJ _,U,g,Q,Q',E,E',h,hx,q|.chain _ _ _ _ _,U,g,Q,Q',E,E',h,hx,q|.eI _ _,U,g,Q,Q',E,E',h,hx,q|.jI _ _,U,g,Q,Q',E,E',h,hx,q|.dt _,U,g,Q,Q',E,E',h,hx,q|.ite _ _ _,U,g,Q,Q',E,E',h,hx,q|.call _ _,U,g,Q,Q',E,E',h,hx,q
 |.make _ _ _,U,g,Q,Q',E,E',h,hx,q|.cT _ _ _ _,U,g,Q,Q',E,E',h,hx,q|.comp _ _ _ _ _ _,U,g,Q,Q',E,E',h,hx,q|.iE _ _ _ _ _ _,U,g,Q,Q',E,E',h,hx,q|.iF _ _ _ _ _ _,U,g,Q,Q',E,E',h,hx,q|.gp _,U,g,Q,Q',E,E',h,hx,q|.gE _,U,g,Q,Q',E,E',h,hx,q|.jK _ _,U,g,Q,Q',E,E',h,hx,q|.lg _,U,g,Q,Q',E,E',h,hx,q|.pq _,U,g,Q,Q',E,E',h,hx,q|.fg _,U,g,Q,Q',E,E',h,hx,q|.no,U,g,Q,Q',E,E',h,hx,q=>(show False from q).elim
def n8{P:fG}(hP:d5 P):∀(e:ME) (U:S) (g:G) (Q Q':Bool->G->Prop) (E E':KX),(∀d g,Q d g->Q' d g)->(∀x g,E x g->E' x g)->eF P e U g Q E->eF P e U g Q' E'
 |.eI a b,U,g,Q,Q',E,E',h,hx,q=>by
  show n8 hP a _ _ _ _ _ _ (λt g1 q=>K9 (λq=>n8 hP b _ _ _ _ _ _ h hx q) (h _ _) q) hx q
 |.jI a b,U,g,Q,Q',E,E',h,hx,q=>by
  show n8 hP a _ _ _ _ _ _ (λt g1 q=>K9 (h _ _) (λq=>n8 hP b _ _ _ _ _ _ h hx q) q) hx q
 |.dt a,U,g,Q,Q',E,E',h,hx,q=>by show n8 hP a _ _ _ _ _ _ (λt g1 q=>h _ _ q) hx q
 |.no,U,g,Q,Q',E,E',h,hx,q=>by show h _ _ q
 |.fg e,U,g,Q,Q',E,E',h,hx,q=>by show c5 hP e _ _ _ _ _ _ (λx g1 q=>a64 (λb q=>h _ _ q) q) hx q
 |.var _,U,g,Q,Q',E,E',h,hx,q|.lit _,U,g,Q,Q',E,E',h,hx,q|.prim _ _,U,g,Q,Q',E,E',h,hx,q|.dZ _ _ _,U,g,Q,Q',E,E',h,hx,q|.pJ _,U,g,Q,Q',E,E',h,hx,q|.chain _ _ _ _ _,U,g,Q,Q',E,E',h,hx,q|.ite _ _ _,U,g,Q,Q',E,E',h,hx,q|.call _ _,U,g,Q,Q',E,E',h,hx,q|.nil,U,g,Q,Q',E,E',h,hx,q|.cons _ _,U,g,Q,Q',E,E',h,hx,q
 |.make _ _ _,U,g,Q,Q',E,E',h,hx,q|.cT _ _ _ _,U,g,Q,Q',E,E',h,hx,q|.comp _ _ _ _ _ _,U,g,Q,Q',E,E',h,hx,q|.iE _ _ _ _ _ _,U,g,Q,Q',E,E',h,hx,q|.iF _ _ _ _ _ _,U,g,Q,Q',E,E',h,hx,q|.gp _,U,g,Q,Q',E,E',h,hx,q|.gE _,U,g,Q,Q',E,E',h,hx,q|.jK _ _,U,g,Q,Q',E,E',h,hx,q|.lg _,U,g,Q,Q',E,E',h,hx,q|.pq _,U,g,Q,Q',E,E',h,hx,q=>(show False from q).elim
def A1{P:fG}(hP:d5 P):∀(e:ME) (U:S) (g:G) (Q Q':IK->G->Prop) (E E':KX),(∀d g,Q d g->Q' d g)->(∀x g,E x g->E' x g)->gS P e U g Q E->gS P e U g Q' E'
 |.gp e,U,g,Q,Q',E,E',h,hx,q=>by
  show c5 hP e _ _ _ _ _ _ (λx g1 q=>q.imp (by rintro ⟨l,a,b⟩;show #[l,a,h _ _ b]) (by rintro ⟨i,l,a,b,c⟩;show #[i,l,a,b,h _ _ c])) hx q
 |.gE a,U,g,Q,Q',E,E',h,hx,q=>by
  show c5 hP a _ _ _ _ _ _ (by rintro x g1 ⟨j,a,b,c,d⟩;show #[j,a,b,c,h _ _ d]) hx q
 |.jK a b,U,g,Q,Q',E,E',h,hx,q=>by
  show c5 hP a _ _ _ _ _ _ (λx g1 q=>c5 hP b _ _ _ _ _ _ (by rintro y g2 ⟨i,j,a,b,c,d⟩;show #[i,j,a,b,c,h _ _ d]) hx q) hx q
 |.lg e,U,g,Q,Q',E,E',h,hx,q=>by
  show c5 hP e _ _ _ _ _ _ (by rintro x g1 ⟨i,l,a,b,c⟩;show #[i,l,a,b,h _ _ c]) hx q
 |.pq e,U,g,Q,Q',E,E',h,hx,q=>by
  show c5 hP e _ _ _ _ _ _ (by rintro x g1 ⟨i,l,a,b,c⟩;show #[i,l,a,b,h _ _ c]) hx q
 |.var _,U,g,Q,Q',E,E',h,hx,q|.lit _,U,g,Q,Q',E,E',h,hx,q|.prim _ _,U,g,Q,Q',E,E',h,hx,q|.dZ _ _ _,U,g,Q,Q',E,E',h,hx,q|.pJ _,U,g,Q,Q',E,E',h,hx,q|.chain _ _ _ _ _,U,g,Q,Q',E,E',h,hx,q|.ite _ _ _,U,g,Q,Q',E,E',h,hx,q|.call _ _,U,g,Q,Q',E,E',h,hx,q|.nil,U,g,Q,Q',E,E',h,hx,q|.cons _ _,U,g,Q,Q',E,E',h,hx,q
 |.eI _ _,U,g,Q,Q',E,E',h,hx,q|.jI _ _,U,g,Q,Q',E,E',h,hx,q|.dt _,U,g,Q,Q',E,E',h,hx,q|.fg _,U,g,Q,Q',E,E',h,hx,q|.no,U,g,Q,Q',E,E',h,hx,q
 |.make _ _ _,U,g,Q,Q',E,E',h,hx,q|.cT _ _ _ _,U,g,Q,Q',E,E',h,hx,q|.comp _ _ _ _ _ _,U,g,Q,Q',E,E',h,hx,q|.iE _ _ _ _ _ _,U,g,Q,Q',E,E',h,hx,q|.iF _ _ _ _ _ _,U,g,Q,Q',E,E',h,hx,q=>(show False from q).elim
end
structure Ends.le(N N':Ends):Prop where
 nx:∀U g,N.nx U g->N'.nx U g
 rt:∀d g,N.rt d g->N'.rt d g
 bk:∀U g,N.bk U g->N'.bk U g
 ct:∀U g,N.ct U g->N'.ct U g
set_option tactic.hygienic true in
def Pn{P:fG}(hP:d5 P){N N':Ends}{E E':KX}(h:N.le N')(hx:∀x g,E x g->E' x g){U:S}:∀(hs:@&(Str×ME)) x g,pj P N U E hs x g->pj P N' U E' hs x g
 |[],x,g,q=>hx x g q
 |(y,e)::r,x,g,q=>by
  unfold pj at q ⊢;split
  .rename_i hh;rw[az hh] at q;show c5 hP e _ _ _ _ _ _ h.rt (λw w z=>z) q
  .rename_i hh;rw[aA hh] at q;show Pn hP h hx r x g q
def wpS_mono{P:fG}(hP:d5 P):∀(s:MS) (N N':Ends) (U:S) (g:G) (E E':KX),N.le N'->(∀x g,E x g->E' x g)->wpS P s N U g E->wpS P s N' U g E'
 |.pass,N,N',U,g,E,E',h,hx,q=>h.nx _ _ q
 |.seq a b,N,N',U,g,E,E',h,hx,q=>wpS_mono hP a { N with nx:=λiU g1=>wpS P b N iU g1 E } { N' with nx:=λiU g1=>wpS P b N' iU g1 E' } _ _ _ _ #[λiU g1 q=>wpS_mono hP b _ _ _ _ _ _ h hx q,h.rt,h.bk,h.ct] hx q
 |.expr e,N,N',U,g,E,E',h,hx,q=>c5 hP e _ _ _ _ _ _ (λx g1 q=>h.nx _ _ q) hx q
 |.set i e,N,N',U,g,E,E',h,hx,q=>c5 hP e _ _ _ _ _ _ (λx g1 q=>h.nx _ _ q) hx q
 |.pk t e,N,N',U,g,E,E',h,hx,q=>c5 hP e _ _ _ _ _ _ (λx g1 q=>v9 (λU q=>h.nx _ _ q) q) hx q
 |.eT o i v,N,N',U,g,E,E',h,hx,q=>c5 hP v _ _ _ _ _ _ (λx g1 q=>c5 hP o _ _ _ _ _ _ (λy g2 q=>c5 hP i _ _ _ _ _ _ (λz g3 q=>Y9 (λg q=>h.nx _ _ q) q) hx q) hx q) hx q
 |.fH f cs o v,N,N',U,g,E,E',h,hx,q=>c5 hP v _ _ _ _ _ _ (λx g1 q=>c5 hP o _ _ _ _ _ _ (λy g2 q=>aZ7 (λg q=>h.nx _ _ q) q) hx q) hx q
 | .ly f cs o v,N,N',U,g,E,E',h,hx,q=>c5 hP o _ _ _ _ _ _ (λy g1 q=>by
   let#[a,c,fs,x,q1,q2,q3,q4,q]:=q;show #[a,c,fs,x,q1,q2,q3,q4,c5 hP v _ _ _ _ _ _ (λz g3 q=>w5 (λw g4 q=>by
    let#[jQ,k1,k2,k3]:=q;show #[jQ,k1,k2,h.nx _ _ k3]) q) hx q]) hx q
 |.zy o1 i1 o2 i2 e,N,N',U,g,E,E',h,hx,q=>c5 hP e _ _ _ _ _ _ (λx g1 q=>let ⟨u,v,q1,q⟩:=q;#[u,v,q1,c5 hP o1 _ _ _ _ _ _ (λy g2 q=>c5 hP i1 _ _ _ _ _ _ (λz g3 q=>Y9 (λg4 q=>c5 hP o2 _ _ _ _ _ _ (λy g5 q=>c5 hP i2 _ _ _ _ _ _ (λz g6 q=>Y9 (λg q=>h.nx _ _ q) q) hx q) hx q) q) hx q) hx q]) hx q
 |.kF i p v,N,N',U,g,E,E',h,hx,q=>let ⟨x,q1,q⟩:=q;#[x,q1,c5 hP v _ _ _ _ _ _ (λz g1 q=>w5 (λw g2 q=>h.nx _ _ q) q) hx q]
 |.ifs c a b,N,N',U,g,E,E',h,hx,q=>n8 hP c _ _ _ _ _ _ (λt g1 q=>K9 (λq=>wpS_mono hP a _ _ _ _ _ _ h hx q) (λq=>wpS_mono hP b _ _ _ _ _ _ h hx q) q) hx q
 |.ju t it b,N,N',U,g,E,E',h,hx,q=>A1 hP it _ _ _ _ _ _ (λk g1 q=>aY4 h.nx (λx N2 U g q=>v9 (λcE q=>wpS_mono hP b { N with nx:=N2,ct:=N2,bk:=N.nx } { N' with nx:=N2,ct:=N2,bk:=N'.nx } _ _ _ _ #[λr r z=>z,h.rt,h.nx,λr r z=>z] hx q) q) q) hx q
 |.kS c b,N,N',U,g,E,E',h,hx,q=>by
  let#[W,w0,q]:=q;show#[W,w0,λm U g w=>n8 hP c _ _ _ _ _ _ (λt g1 q=>K9 (λq=>?_) (h.nx _ _) q) hx (q m U g w)];let#[N2,a,q]:=q;show#[N2,a,wpS_mono hP b { N with nx:=N2,ct:=N2,bk:=N.nx } { N' with nx:=N2,ct:=N2,bk:=N'.nx } _ _ _ _ #[λr r z=>z,h.rt,h.nx,λr r z=>z] hx q]
 |.ret e,N,N',U,g,E,E',h,hx,q=>c5 hP e _ _ _ _ _ _ h.rt hx q
 |.sA,N,N',U,g,E,E',h,hx,q=>h.rt _ _ q
 |.brk,N,N',U,g,E,E',h,hx,q=>h.bk _ _ q
 |.cont,N,N',U,g,E,E',h,hx,q=>h.ct _ _ q
 |.raise x es,N,N',U,g,E,E',h,hx,q=>F4 hP es _ _ _ _ _ _ (λvs g1 q=>#[q.1,hx _ _ q.2]) hx q
 |.qI b hs,N,N',U,g,E,E',h,hx,q=>wpS_mono hP b _ _ _ _ _ _ h (λx g q=>Pn hP h hx hs x g q) q
def a6(T:Nat->Option aP):∀k,d5 (a8 T k)
 |0=>λf xs g Q Q' E E' h hx q=>q.elim
 |k+1=>λf xs g Q Q' E E' h hx q=>by
  let#[m,a,b,q]:=q;show#[m,a,b,wpS_mono (a6 T k) m.body #[λx g'=>Q .aR g',Q,λx x=>False,λx x=>False] _ _ _ _ _ #[λx x z=>h _ _ z,h,λx x z=>z,λx x z=>z] hx q]
abbrev TupAt(K:PySem.W.Frag)(H:Hp)(a:Addr)(vs:@&V):Prop :=
 H a=!.tup vs\/∃(o:Obj) (bo:Array Value) (n:Nat),K.lookup a=!o/\o.cls=.type "tuple"/\o.dict=none/\o.data=.seq bo n/\bo.size<=sizeLine/\Vals vs bo.toList
def TupAt.d(h:TupAt K H a vs):yO K H a vs:=h
def TupAt.sq{K:PySem.W.Frag}{H:Hp}{a:Addr}{vs:@&V}(h:TupAt K H a vs):ja K H a vs:=h.d.sq
mutual
inductive c9(K:PySem.W.Frag)(ρ:@&Addr)(H:Hp):D->V->Prop
 |aR:c9 K ρ H .aR .aR
 |bl (b:Bool):c9 K ρ H (.bl b) (.bl b)
 |int (i:Int):c9 K ρ H (.int i) (.int i)
 |str (x:Str):c9 K ρ H (.str x) (.str x)
 |ty (n:String):c9 K ρ H (.ty n) (.ty n)
 |ref {i:Nat} {a:Addr} (h:ρ[i]?=!a):c9 K ρ H (.ref i) (.ref a)
 |tup {l:@&D} {a:Addr} {vs:@&V} (h:TupAt K H a vs) (r:b8 K ρ H l vs):c9 K ρ H (.tup l) (.ref a)
inductive b8(K:PySem.W.Frag)(ρ:@&Addr)(H:Hp):@&D->@&V->Prop
 |nil:b8 K ρ H [] []
 |cons {d:D} {v:V} {ds:@&D} {vs:@&V} (h:c9 K ρ H d v) (r:b8 K ρ H ds vs):b8 K ρ H (d::ds) (v::vs)
end
structure Ext(ρ:@&Addr)(H:Hp)(bQ:@&Addr)(H':Hp):Prop where
 pre:∃more,bQ=ρ++more
 tup:∀a xs,H a=!.tup xs->H' a=!.tup xs
def Ext.refl(ρ:@&Addr)(H:Hp):Ext ρ H ρ H:=#[#[[],by simp],λx x h=>h]
def Ext.trans{ρ H cC H1 fk H2}(a:Ext ρ H cC H1)(b:Ext cC H1 fk H2):Ext ρ H fk H2:=by
 let#[#[m,rfl],t]:=a;let#[#[m',rfl],t']:=b;show#[#[m++m',by simp],λx xs h=>t' _ _ (t _ _ h)]
def Ext.get{ρ H bQ H'}(e:Ext ρ H bQ H')(h:ρ[i]?=!a):bQ[i]?=!a:=by
 let#[#[m,rfl],_]:=e;rw[aH (ak.mp h).1];show h
def TupAt.ext{K ρ H bQ H'}(e:Ext ρ H bQ H')(h:TupAt K H a vs):TupAt K H' a vs:=h.elim (λz=>.inl (e.tup _ _ z)) .inr
mutual
def c9.ext{K ρ H bQ H'}(e:Ext ρ H bQ H'):∀{d v},c9 K ρ H d v->c9 K bQ H' d v
 |_,_,.aR=>.aR
 |_,_,.bl b=>.bl b
 |_,_,.int i=>.int i
 |_,_,.str x=>.str x
 |_,_,.ty n=>.ty n
 |_,_,.ref h=>.ref (e.get h)
 |_,_,.tup h r=>.tup (h.ext e) (b8.ext e r)
def b8.ext{K ρ H bQ H'}(e:Ext ρ H bQ H'):∀{ds vs},b8 K ρ H ds vs->b8 K bQ H' ds vs
 |_,_,.nil=>.nil
 |_,_,.cons h r=>.cons (c9.ext e h) (b8.ext e r)
end
def b8.length{K ρ H}{ds:@&D}{vs:@&V}(h:b8 K ρ H ds vs):-ds=-vs:=by
 induction ds generalizing vs with
 |nil=>cases h;rfl
 |cons d ds ih =>
  cases h with
  |cons q r=>simp[ih r]
def b8.get{K ρ H}:∀{ds vs} {i:Nat} {d:D},b8 K ρ H ds vs->ds[i]?=!d->∃v,vs[i]?=!v/\c9 K ρ H d v
 |_,_,_,_,.nil,h=>by simp at h
 |_,_,0,_,.cons h _,e=>by simp at e;subst e;show#[_,rfl,h]
 |_,_,i+1,d,.cons _ r,e=>by
  let#[v,h1,h2]:=b8.get r (_/e);show#[v,by simpa using h1,h2]
def b8.set{K ρ H}{d:D}{v:V}(h:c9 K ρ H d v):∀{ds vs} (i:Nat),b8 K ρ H ds vs->b8 K ρ H (ds.set i d) (vs.set i v)
 |_,_,_,.nil=>.nil
 |_,_,0,.cons _ r=>.cons h r
 |_,_,i+1,.cons q r=>.cons q (b8.set h i r)
def b8.append{K ρ H}{ds es:@&D}{ws:@&V}(h:b8 K ρ H ds vs)(s:b8 K ρ H es ws):b8 K ρ H (ds++es) (vs++ws):=by
 induction ds generalizing vs with
 |nil=>cases h;show s
 |cons d ds ih =>
  cases h with
  |cons q r=>show .cons q (ih r)
def b8.rep{K ρ H}{ds:@&D}{vs:@&V}(r:b8 K ρ H ds vs):∀n,b8 K ρ H (List.replicate n ds).flatten (List.replicate n vs).flatten
 |0=>.nil
 |n+1=>by
  show b8.append r (b8.rep r n)
def b8.erase{K ρ H}:∀{ds:@&D} {vs:@&V} (i:Nat),b8 K ρ H ds vs->b8 K ρ H (ds.eraseIdx i) (vs.eraseIdx i)
 |_,_,_,.nil=>.nil
 |_,_,0,.cons _ r=>r
 |_,_,i+1,.cons q r=>.cons q (b8.erase i r)
def b8.take{K ρ H}:∀{ds:@&D} {vs:@&V} (n:Nat),b8 K ρ H ds vs->b8 K ρ H (ds.take n) (vs.take n)
 |_,_,0,_=>.nil
 |_,_,_+1,.nil=>.nil
 |_,_,n+1,.cons h r=>.cons h (b8.take n r)
def b8.drop{K ρ H}:∀{ds:@&D} {vs:@&V} (n:Nat),b8 K ρ H ds vs->b8 K ρ H (ds.drop n) (vs.drop n)
 |_,_,0,r=>r
 |_,_,_+1,.nil=>.nil
 |_,_,n+1,.cons _ r=>b8.drop n r
def b8.reverse{K ρ H}:∀{ds:@&D} {vs:@&V},b8 K ρ H ds vs->b8 K ρ H ds.reverse vs.reverse
 |_,_,.nil=>.nil
 |_,_,.cons h r=>by
  rw[ir,ir];show b8.append (b8.reverse r) (.cons h .nil)
def b8.cut{K ρ H}{ds:@&D}{vs:@&V}(r:b8 K ρ H ds vs)(lo hi:Option Int):b8 K ρ H (M.cut ds lo hi) (qx vs lo hi):=by
 unfold M.cut qx;rw[(-r)];show(r.drop _).take _
def b8.ints{K ρ H}:∀{ns:@&Int} {vs:@&V},b8 K ρ H (ns.map D.int) vs->vs=ns.map V.int
 |[],_,.nil=>rfl
 |_::_,_,.cons h r=>by cases h;rw[b8.ints r];rfl
def b8.ofInts{K ρ H}:∀(ns:@&Int),b8 K ρ H (ns.map D.int) (ns.map V.int)
 |[]=>.nil
 |n::r=>.cons (.int n) (b8.ofInts r)
abbrev vC(K:PySem.W.Frag)(H:Hp)(a:Addr)(vs:@&V):Prop :=
 (∃o,H a=!.kC o (.lst vs))\/∃(o:Obj) (bo:Array Value) (n:Nat),K.lookup a=!o/\o.cls=.type "list"/\o.dict=none/\o.data=.seq bo n/\bo.size<=sizeLine/\Vals vs bo.toList
def vC.sq(h:vC K H a vs):gw K H a vs:=h.elim (by rintro ⟨o,z⟩;show .inl (.inr #[o,z])) .inr
inductive d6{α:Type}(K:PySem.W.Frag)(ρ:@&Addr)(H:Hp):@&(α×D)->@&(α×V)->Prop
 |nil:d6 K ρ H [] []
 |cons {k:α} {d:D} {v:V} {ds:@&(α×D)} {vs:@&(α×V)} (h:c9 K ρ H d v) (r:d6 K ρ H ds vs):d6 K ρ H ((k,d)::ds) ((k,v)::vs)
def d6.ext{α:Type}{K ρ H bQ H'}(e:Ext ρ H bQ H'){ds:@&(α×D)}{vs:@&(α×V)}(h:d6 K ρ H ds vs):d6 K bQ H' ds vs:=by
 induction h with
 |nil=>show .nil
 |cons h r ih=>show .cons (h.ext e) ih
def d6.drop{K ρ H}{ds:@&(Key×D)}{vs:@&(Key×V)}(k:Key)(h:d6 K ρ H ds vs):d6 K ρ H (delD ds k) (Bn vs k):=by
 unfold delD Bn
 induction h with
 |nil=>show .nil
 |cons h r ih =>
  rw[dW,dW];split
  .exact .cons h ih
  .exact ih
def d6.get{α:Type}{K ρ H}{ds:@&(α×D)}{vs:@&(α×V)}(h:d6 K ρ H ds vs):∀{i:Nat} {k:α} {d:D},ds[i]?=!(k,d)->∃v,vs[i]?=!(k,v)/\c9 K ρ H d v:=by
 induction h with
 |nil=>intro i k d e;simp at e
 |cons h r ih =>
  intro i k d e;cases i with
  |zero=>simp at e;let#[rfl,rfl]:=e;show#[_,rfl,h]
  |succ i=>simpa using ih (_/e)
def d6.length{α:Type}{K ρ H}{ds:@&(α×D)}{vs:@&(α×V)}(h:d6 K ρ H ds vs):-ds=-vs:=by
 induction h with
 |nil=>rfl
 |cons h r ih=>simp[ih]
abbrev ui(K:PySem.W.Frag)(ρ:@&Addr)(H:Hp):Option D->Option V->Prop
 |some d,!v=>c9 K ρ H d v
 |none,none=>True
 |_,_=>False
def d6.val{K ρ H}:∀{ds vs} (k:Key),d6 K ρ H ds vs->ui K ρ H (C0 ds k) (S7 vs k)
 |_,_,k,.nil=>trivial
 |_,_,k,.cons (k:=k') h r=>by
  unfold C0 S7;rw[eK,eK];by_cases e:k'=k
  .simp only[e,decide_true];show h
  .simp only[e,decide_false];show d6.val k r
def d6.Kw{K ρ H}:∀{ds vs} (k:Key),d6 K ρ H ds vs->(ds.any λkv=>decide (kv.1=k))=(vs.any λkv=>decide (kv.1=k))
 |_,_,k,.nil=>rfl
 |_,_,k,.cons h r=>by simp only[List.any_cons,d6.Kw k r]
def d6.snoc{K ρ H}{k:Key}{d:D}{v:V}(h:c9 K ρ H d v){ds vs}(t:d6 K ρ H ds vs):d6 K ρ H (ds++[(k,d)]) (vs++[(k,v)]):=by
 induction ds generalizing vs with
 |nil=>cases t;show .cons h .nil
 |cons d ds ih =>
  cases t with
  |cons q r=>show .cons q (ih r)
def d6.G'{K ρ H}{k:Key}{d:D}{v:V}(h:c9 K ρ H d v):∀{ds vs},d6 K ρ H ds vs->d6 K ρ H (ds.map λkv=>if kv.1=k then(kv.1,d) else kv) (vs.map λkv=>if kv.1=k then(kv.1,v) else kv)
 |_,_,.nil=>.nil
 |_,_,.cons (k:=k') q r=>by
  simp only[List.map_cons];by_cases e:k'=k
  .rw[az e,az e];show .cons h (d6.G' h r)
  .rw[aA e,aA e];show .cons q (d6.G' h r)
def d6.put{K ρ H}{k:Key}{d:D}{v:V}(h:c9 K ρ H d v){ds vs}(r:d6 K ρ H ds vs):d6 K ρ H (putD ds k d) (putK vs k v):=by
 unfold putD putK;rw[r.Kw k];split
 .exact r.G' h
 .exact r.snoc h
noncomputable abbrev u9(K:PySem.W.Frag)(x:Str)(C:Addr):Prop:=PySem.W.nsIn K mainGlobals x=!!.ref C
set_option tactic.hygienic true in
def d6.look{K ρ H}{ds:@&(Str×D)}{vs:@&(Str×V)}(f:Str)(h:d6 K ρ H ds vs):ui K ρ H (ds.lookup f) (vs.lookup f):=by
 induction h with
 |nil=>trivial
 |cons h r ih =>
  rename_i k d v ds vs;rw[dS,dS];cases f==k
  .exact ih
  .exact h
def d6.A3{K ρ H}{f:Str}{d:D}{v:V}(h:c9 K ρ H d v){ds:@&(Str×D)}{vs:@&(Str×V)}(r:d6 K ρ H ds vs):d6 K ρ H (f9 f d ds) (L2.A3 f v vs):=by
 induction r with
 |nil=>show .cons h .nil
 |cons q r ih =>
  unfold f9 L2.A3;split
  .exact .cons h r
  .exact .cons q ih
def Gu{f:Str}{d:D}{p:Str->Prop}(hf:p f):∀{ds:@&(Str×D)},(∀x∈ds,p x.1)->∀x∈f9 f d ds,p x.1
 |[],_,x,hx=>by
  have:x=(f,d):=by simpa[f9] using hx
  simp_all
 |(k,e)::r,h,x,hx=>by
  unfold f9 at hx;split at hx
  .rcases aM.mp hx with z|z
   .rw[z];show h (k,e) #[_]
   .exact h x (by simp[z])
  .rcases aM.mp hx with z|z
   .rw[z];show h (k,e) #[_]
   .exact Gu hf (λy hy=>h y (by simp[hy])) x z
abbrev OH(K:PySem.W.Frag)(ρ:@&Addr)(H:Hp):O->HO->Prop
 |.lst l,.lst vs=>b8 K ρ H l vs
 |.cV kvs,.dK vs=>d6 K ρ H kvs vs
 |.set S n,.set S' n'=>S=S'/\n=n'
 |.ins c fs,.ins C _ vs=>u9 K c C/\jT K C/\d6 K ρ H fs vs/\∀x∈fs,E4 K C x.1
 |_,_=>False
def OH.ext{K ρ H bQ H'}(e:Ext ρ H bQ H'){o:O}{u:HO}(h:OH K ρ H o u):OH K bQ H' o u:=by
 cases o<;>cases u<;>first|show h.elim|show b8.ext e h|show d6.ext e h|show#[h.1,h.2.1,h.2.2.1.ext e,h.2.2.2]|show h
def OH.vJ{K ρ H}{xs:@&V}(h:OH K ρ H o (.tup xs)):False:=by cases o<;>show h
def OH.Zw{K ρ H}{ob:Obj}(h:OH K ρ H o (.kC ob u)):False:=by cases o<;>show h
def O0(K:PySem.W.Frag)(ρ:@&Addr)(H:Hp)(o:O)(a:Addr):Prop:=match o with
 |.qq l=>∃vs,vC K H a vs/\b8 K ρ H l vs
 |o=>∃u,H a=!u/\OH K ρ H o u
def O0.of{K ρ H}(hu:H a=!u)(h:OH K ρ H o u):O0 K ρ H o a:=by
 cases o<;>first|show#[u,hu,h]|(cases u<;>show h.elim)
def O0.inv{K ρ H}(m:o.mut=true)(h:O0 K ρ H o a):∃u,H a=!u/\OH K ρ H o u:=by
 cases o<;>first|show h|cases m
def O0.lst{K ρ H}{l:@&D}{a:Addr}(h:O0 K ρ H (.lst l) a):∃vs,H a=!.lst vs/\b8 K ρ H l vs:=by
 let#[u,h1,h2]:=h;cases u<;>first|show#[_,h1,h2]|show h2.elim
def O0.cV{K ρ H}{l:@&(Key×D)}{a:Addr}(h:O0 K ρ H (.cV l) a):∃vs,H a=!.dK vs/\d6 K ρ H l vs:=by
 let#[u,h1,h2]:=h;cases u<;>first|show#[_,h1,h2]|show h2.elim
def O0.set{K ρ H}{S:Int->Bool}{n:Nat}{a:Addr}(h:O0 K ρ H (.set S n) a):H a=!.set S n:=by
 let#[u,h1,h2]:=h;cases u<;>first|(let#[rfl,rfl]:=(show _/\_ from h2);show h1)|show h2.elim
def O0.ins{K ρ H}{c:Str}{fs:@&(Str×D)}{a:Addr}(h:O0 K ρ H (.ins c fs) a):∃C dx vs,H a=!.ins C dx vs/\u9 K c C/\jT K C/\d6 K ρ H fs vs/\∀x∈fs,E4 K C x.1:=by
 let#[u,h1,h2]:=h;cases u<;>first|show#[_,_,_,h1,h2]|show h2.elim
structure Rl(K:PySem.W.Frag)(ρ:@&Addr)(g:G)(H:Hp):Prop where
 len:ρ.length=-g
 obj:∀(i:Nat) o a,g[i]?=!o->ρ[i]?=!a->O0 K ρ H o a
 nd:∀(i j:Nat) o o' a,g[i]?=!o->g[j]?=!o'->o.mut=true->o'.mut=true->ρ[i]?=!a->ρ[j]?=!a->i=j
section
variable{ρ:@&Addr}
def Rl.lst(R:Rl K ρ g H){i:Nat}{l:@&D}{a:Addr}(h:g[i]?=!.lst l)(ha:ρ[i]?=!a):∃vs,H a=!.lst vs/\b8 K ρ H l vs:=(R.obj _ _ _ h ha).lst
def Rl.cV(R:Rl K ρ g H){i:Nat}{l:@&(Key×D)}{a:Addr}(h:g[i]?=!.cV l)(ha:ρ[i]?=!a):∃vs,H a=!.dK vs/\d6 K ρ H l vs:=(R.obj _ _ _ h ha).cV
def Rl.set(R:Rl K ρ g H){i:Nat}{S:Int->Bool}{n:Nat}{a:Addr}(h:g[i]?=!.set S n)(ha:ρ[i]?=!a):H a=!.set S n:=(R.obj _ _ _ h ha).set
def Rl.ins(R:Rl K ρ g H){i:Nat}{c:Str}{fs:@&(Str×D)}{a:Addr}(h:g[i]?=!.ins c fs)(ha:ρ[i]?=!a):∃C dx vs,H a=!.ins C dx vs/\u9 K c C/\jT K C/\d6 K ρ H fs vs/\∀x∈fs,E4 K C x.1:=(R.obj _ _ _ h ha).ins
def Rl.items(R:Rl K ρ g H)(h:c8 g i=!l)(ha:ρ[i]?=!a):∃vs,gw K H a vs/\b8 K ρ H l vs:=by
 cases e:g[i]? with
 |none=>rw[c8,e] at h;cases h
 |some o =>
  rw[c8,e] at h;let q:=R.obj _ _ _ e ha;cases o with
  |lst m=>cases h;let#[vs,z,r]:=q.lst;show#[vs,gw.of z,r]
  |qq m=>cases h;let#[vs,z,r]:=q;show#[vs,z.sq,r]
  |_=>cases h
def v5{o:HO}(hp:H p=none):Ext ρ H ρ (upd H p o):=#[#[[],by simp],λa xs h=>by rw[d4 (j8 h hp)];show h]
def vC.upd{p a:Addr}{o:HO}{vs:@&V}(h:vC K H a vs)(hp:∀ob u,H p≠!.kC ob u):vC K (upd H p o) a vs:=by
 rcases h with⟨ob,z⟩|z
 .refine .inl #[ob,?_];rw[d4 ?_]
  .exact z
  .intro e;subst e;show hp _ _ z
 .exact .inr z
def O0.upd{p a:Addr}{o:O}{u:HO}{bQ:@&Addr}(h:O0 K ρ H o a)(fh:o.mut=true->a≠p)(hp:∀ob u,H p≠!.kC ob u)(e:Ext ρ H bQ (L2.upd H p u)):O0 K bQ (L2.upd H p u) o a:=by
 cases hm:o.mut with
 |true =>
  let#[u',h1,h2]:=h.inv hm;show .of (by rw[d4 (fh hm)];show h1) (h2.ext e)
 |false =>
  cases o<;>first|cases hm|skip
  let#[vs,z,r]:=h;show#[vs,z.upd hp,r.ext e]
def Rl.grow{o:HO}(R:Rl K ρ g H)(hp:H p=none):Rl K ρ g (upd H p o):=by
 let e:Ext ρ H ρ (upd H p o):=v5 hp;show#[R.len,λi ob a h1 h2=>?_,R.nd];let q:=R.obj _ _ _ h1 h2;show q.upd (λhm=>?_) (λob u z=>by simp_all) e;let#[u,h1,_]:=q.inv hm;show j8 h1 hp
def Rl.C9(R:Rl K ρ g H)(p:Addr):(ρ++[p])[(-g)]?=!p:=by rw[<- R.len];simp
def L1{o:HO}(hp:H p=none):Ext ρ H (ρ++[p]) (upd H p o):=#[#[[p],rfl],(v5 (ρ:=ρ) hp).tup]
def Rl.new(R:Rl K ρ g H)(hp:H p=none)(r:OH K ρ H o u):Rl K (ρ++[p]) (g++[o]) (upd H p u):=by
 let e:Ext ρ H (ρ++[p]) (upd H p u):=L1 hp;let old:∀{i:Nat} {ob:O} {a:Addr},g[i]?=!ob->(ρ++[p])[i]?=!a->ρ[i]?=!a:=λ{i ob a} h1 h2=>by
  rw[aH (by rw[R.len];show(ak.mp h1).1)] at h2;show h2
 let split:∀{i:Nat} {ob:O},(g++[o])[i]?=!ob->g[i]?=!ob\/(i=-g/\ob=o):=λ{i ob} h=>by
  rcases dG i (-g) with q|q|q
  .rw[aH q] at h;show .inl h
  .subst q;simp at h;show .inr #[rfl,h.symm]
  .rw[aZ (by simp;omega)] at h;cases h
 show#[by simp[R.len],λi ob a h1 h2=>?_,λi j o1 o2 a h1 h2 m1 m2 h3 h4=>?_]
 .rcases split h1 with q|⟨rfl,rfl⟩
  .let z:=R.obj _ _ _ q (old q h2);show z.upd (λhm=>?_) (λob u z=>by simp_all) e;let#[u,h1,_]:=z.inv hm;show j8 h1 hp
  .rw[R.C9] at h2;cases h2;show .of l6 (r.ext e)
 .let nq:∀{i:Nat} {o:O} {a:Addr},g[i]?=!o->o.mut=true->ρ[i]?=!a->a≠p:=λ{i o a} h1 hm h2=>by
   let#[u,z,_]:=(R.obj _ _ _ h1 h2).inv hm;show j8 z hp
  rcases split h1 with q|⟨rfl,_⟩
  .rcases split h2 with q'|⟨rfl,_⟩
   .exact R.nd _ _ _ _ _ q q' m1 m2 (old q h3) (old q' h4)
   .rw[R.C9] at h4;cases h4;show absurd rfl (nq q m1 (old q h3))
  .rcases split h2 with q'|⟨rfl,_⟩
   .rw[R.C9] at h3;cases h3;show absurd rfl (nq q' m2 (old q' h4))
   .rfl
def Rl.alloc(R:Rl K ρ g H)(hp:H p=none)(r:b8 K ρ H l vs):Rl K (ρ++[p]) (g++[.lst l]) (upd H p (.lst vs)):=R.new hp r
def Rl.put{o':O}(R:Rl K ρ g H)(h:g[i]?=!o)(hm:o.mut=true)(ha:ρ[i]?=!a)(r:OH K ρ H o' u) :
  Rl K ρ (g.set i o') (upd H a u)/\Ext ρ H ρ (upd H a u):=by
 let#[u0,z0,IU]:=(R.obj _ _ _ h ha).inv hm;let e:Ext ρ H ρ (upd H a u):=#[#[[],by simp],λb xs q=>by rw[d4];show q;intro z;subst z;rw[z0] at q;cases q;show IU.vJ]
 show#[#[by simp[R.len],λj ob b h1 h2=>?_,λj k o1 o2 b h1 h2 m1 m2 h3 h4=>?_],e]
 .by_cases jh:i=j
  .subst jh;rw[ha] at h2;cases h2;let hi:=(ak.mp h).1;rw[aU hi] at h1;cases h1;show .of l6 (r.ext e)
  .rw[aB jh] at h1;show(R.obj _ _ _ h1 h2).upd (λuV ez=>?_) (λob u z=>by rw[z0] at z;cases z;show IU.Zw) e;subst ez;show jh (R.nd _ _ _ _ _ h h1 hm uV ha h2)
 .let back:∀{j:Nat} {m:O},(g.set i o')[j]?=!m->m.mut=true->∃m',g[j]?=!m'/\m'.mut=true:=λ{j m} q uV=>by
   by_cases jh:i=j
   .subst jh;show#[o,h,hm]
   .rw[aB jh] at q;show#[m,q,uV]
  let#[_,q1,n1]:=back h1 m1;let#[_,q2,n2]:=back h2 m2;show R.nd _ _ _ _ _ q1 q2 n1 n2 h3 h4
def Rl.write{l':@&D}(R:Rl K ρ g H)(h:g[i]?=!.lst l)(ha:ρ[i]?=!a)(r:b8 K ρ H l' vs) :
  Rl K ρ (g.set i (.lst l')) (upd H a (.lst vs))/\Ext ρ H ρ (upd H a (.lst vs)):=R.put h rfl ha r
end
structure p6(K:PySem.W.Frag)(ρ:@&Addr)(H:Hp)(U:S)(cu:St):Prop where
 len:-U=-cu
 val:∀(i:Nat) d,U[i]?=!!d->∃v,cu[i]?=!!v/\c9 K ρ H d v
section
variable{ρ bQ:@&Addr}{H':Hp}
def p6.ext{U cu}(e:Ext ρ H bQ H')(r:p6 K ρ H U cu):p6 K bQ H' U cu:=#[r.len,λi d h=>let ⟨v,a,b⟩:=r.val i d h;#[v,a,b.ext e]]
def p6.set{U cu d v}(r:p6 K ρ H U cu)(i:Nat)(h:c9 K ρ H d v):p6 K ρ H (U.set i (!d)) (cu.set i (!v)):=by
 show#[by simp[r.len],λj e q=>?_];by_cases jh:i=j
 .subst jh;let hi:i< -U:=by
   have:=(ak.mp q).1
   simp_all
  rw[aU hi] at q;cases q;show#[v,by rw[aU (by rw[<- r.len];show hi)],h]
 .rw[aB jh] at q ⊢;show r.val j e q
def p6.start{ds vs}{n:Nat}(r:b8 K ρ H ds vs):p6 K ρ H (ds.map some++List.replicate (n- -ds) none) (vs.map some++List.replicate (n- -vs) none):=by
 show#[by simp[(-r)],λi d h=>?_];by_cases hi:i< -ds
 .rw[aH (_/hi),aj] at h;cases e:ds[i]? with
  |none=>rw[e] at h;cases h
  |some x =>
   rw[e] at h;cases h;let#[v,h1,h2]:=r.get e;show#[v,?_,h2];rw[aH (by rw[ah,<- -r];show hi),aj,h1]
   rfl
 .rw[cc (_/hi),dU] at h;split at h<;>cases h
def p6.c7{U cu}(r:p6 K ρ H U cu)(c7:@&Nat)(n:Nat):p6 K ρ H (F8 U c7 n) (F1 cu c7 n):=by
 show#[by simp[F8,F1],λi d h=>?_];unfold F8 at h;unfold F1;by_cases hi:i< -c7
 .rw[aH (_/hi),aj,ag hi] at h;rw[aH (_/hi),aj,ag hi];simp only[Option.map_some] at h ⊢;cases e:U[c7[i]]? with
  |none=>simp_all
  |some x =>
   rw[e] at h;let hx:=aO h;subst hx;let#[v,h1,h2]:=r.val _ _ e;show#[v,by rw[h1];rfl,h2]
 .rw[cc (_/hi),dU] at h;split at h<;>cases h
end
end M
namespace M
open PySem L2 PySem.Spec PyProof.Rows
variable{g:G}{l:@&D}{vs:@&V}{b:Bool}{d:D}{X:Cx}{ρ:@&Addr}{H:Hp}{U:L2.St}{s:Shared}{v x:V}
abbrev LQ(K:PySem.W.Frag)(ρ:@&Addr)(H:Hp)(Q:VK):KD:=λd g'=>∀bQ H' v,Ext ρ H bQ H'->Rl K bQ g' H'->c9 K bQ H' d v->Q v H'
def LQ.ext{K ρ H cC H1 Q d g}(e:Ext ρ H cC H1)(h:LQ K ρ H Q d g):LQ K cC H1 Q d g:=λbQ H' v e' R r=>h bQ H' v (e.trans e') R r
def LQ.now{K ρ H Q d g v}(h:LQ K ρ H Q d g)(R:Rl K ρ g H)(r:c9 K ρ H d v):Q v H:=h ρ H v (.refl _ _) R r
def LQ.new{K ρ H Q}{p:Addr}(h:LQ K ρ H Q (.ref (-g)) (g++[.lst l]))(R:Rl K ρ g H)(hp:H p=none)(r:b8 K ρ H l vs):Q (.ref p) (upd H p (.lst vs)) :=
 h (ρ++[p]) _ _ (L1 hp) (R.alloc hp r) (.ref (R.C9 p))
def LQ.tup{K ρ H Q}{g:G}{l:@&D}{vs:@&V}{p:Addr}(h:LQ K ρ H Q (.tup l) g)(R:Rl K ρ g H)(hp:H p=none)(r:b8 K ρ H l vs):Q (.ref p) (upd H p (.tup vs)) :=
 h ρ _ _ (v5 hp) (R.grow hp) (.tup (.inl l6) (r.ext (v5 hp)))
def r2(K:PySem.W.Frag)(p:Pr):R2:=λx y H Q=>∃d e g ρ,Rl K ρ g H/\c9 K ρ H d x/\c9 K ρ H e y/\cP p [d,e] g (LQ K ρ H Q)
abbrev r1(K:PySem.W.Frag)(p:Pr):V->Hp->VK->Prop:=λx H Q=>∃d g ρ,Rl K ρ g H/\c9 K ρ H d x/\cP p [d] g (LQ K ρ H Q)
abbrev rN(K:PySem.W.Frag)(p:Pr):@&V->Hp->VK->Prop:=λxs H Q=>∃ds g ρ,Rl K ρ g H/\b8 K ρ H ds xs/\cP p ds g (LQ K ρ H Q)
def C5{n:Nat}(h:n<=100000):n<=sizeLine:=aG h ∅
def AI{n:Nat}(h:n<100000):n<sizeLine:=aI h ∅
def c9.i9{K ρ H i v}(h:c9 K ρ H (.int i) v):v=.int i:=by cases h;rfl
def c9.Hg{K ρ H i v}(h:c9 K ρ H (.str i) v):v=.str i:=by cases h;rfl
def c9.R9{K ρ H i v}(h:c9 K ρ H (.bl i) v):v=.bl i:=by cases h;rfl
def c9.Av{K ρ H v}(h:c9 K ρ H .aR v):v=.aR:=by cases h;rfl
def c9.bV3{K ρ H n v}(h:c9 K ρ H (.ty n) v):v=.ty n:=by cases h;rfl
def c9.j6{K ρ H i v}(h:c9 K ρ H (.ref i) v):∃a,v=.ref a/\ρ[i]?=!a:=by cases h;show#[_,rfl,by assumption]
def c9.E2{K ρ H l v}(h:c9 K ρ H (.tup l) v):∃a vs,v=.ref a/\TupAt K H a vs/\b8 K ρ H l vs:=by cases h;show#[_,_,rfl,by assumption,by assumption]
def b8.one{K ρ H d vs}(h:b8 K ρ H [d] vs):∃v,vs=[v]/\c9 K ρ H d v:=by
 cases h with
 |cons r rr=>cases rr;show#[_,rfl,r]
def b8.two{K ρ H d e vs}(h:b8 K ρ H [d,e] vs):∃v w,vs=[v,w]/\c9 K ρ H d v/\c9 K ρ H e w:=by
 cases h with
 |cons r rr=>let#[w,rfl,q]:=rr.one;show#[_,_,rfl,r,q]
def C6{a b c:D}(h:[a,b]=[c,d]):a=c/\b=d:=by cases h;show#[rfl,rfl]
section
def bO7(op:Operator):gk X (binaryOp op) (r2 X.K (.bin op)):=by
 intro pi s U H x y v u Q I rx ry h;let#[d,e,g,ρ,R,rd,re,d',g',h,q]:=h;rcases h with⟨i,j,r,ex,ha,rfl,rfl⟩|⟨rfl,h⟩|⟨rfl,h⟩
 .let#[rfl,rfl]:=C6 ex;obtain rfl:=rd.i9;obtain rfl:=re.i9;let fin:=q.now R (.int r);cases op<;>first|show(show False from ha).elim|skip
  .cases ha;show bO9 pi s U H _ _ v u Q I rx ry #[i,j,rfl,rfl,fin]
  .cases ha;show bN9 pi s U H _ _ v u Q I rx ry #[i,j,rfl,rfl,fin]
  .let#[hc,rfl]:=ha;show bO3 pi s U H _ _ v u Q I rx ry #[i,j,rfl,rfl,hc,fin]
  .let#[hc,rfl]:=ha;show bO4 pi s U H _ _ v u Q I rx ry #[i,j,rfl,rfl,hc,fin]
  .let#[hc,rfl]:=ha;show bO2 pi s U H _ _ v u Q I rx ry #[i,j,rfl,rfl,hc,fin]
  .let#[hc,rfl]:=ha;show bO0 pi s U H _ _ v u Q I rx ry #[i,j,rfl,rfl,hc,fin]
  .cases ha;show ZC pi s U H _ _ v u Q I rx ry #[i,j,rfl,rfl,fin]
  .cases ha;show bO8 pi s U H _ _ v u Q I rx ry #[i,j,rfl,rfl,fin]
  .let#[hc,rfl]:=ha;show bA8 pi s U H _ _ v u Q I rx ry #[i,j,rfl,rfl,hc,fin]
 .rcases h with⟨l,m,ex,hz,rfl,rfl⟩|⟨a,b,l,m,ex,ha,hb,hz,rfl,rfl⟩|z
  .let#[rfl,rfl]:=C6 ex;let#[a,vs,rfl,ta,rs]:=rd.E2;let#[b,ws,rfl,tb,rt]:=re.E2;show Xy pi s U H _ _ v u Q I rx ry #[a,b,vs,ws,rfl,rfl,ta.sq,tb.sq,?_,λz=>?_,λz=>?_,λp hp=>q.tup R hp (rs.append rt)]
   .rw[<- -rs,<- -rt];show C5 hz
   .subst z;cases rs;show q.now R (.tup tb rt)
   .subst z;cases rt;rw[fu] at q;show q.now R (.tup ta rs)
  .let#[rfl,rfl]:=C6 ex;let#[a',rfl,ra]:=rd.j6;let#[b',rfl,rb]:=re.j6;let#[vs,z1,rs]:=R.lst ha ra;let#[ws,z2,rt]:=R.lst hb rb;show bO6 pi s U H _ _ v u Q I rx ry #[_,_,vs,ws,rfl,rfl,z1,z2,by rw[<- -rs,<- -rt];show C5 hz,λp hp=>q.new R hp (rs.append rt)]
  .exact z.elim
 .rcases h with⟨a,l,n,ex,ha,h1,h2,hz,rfl,rfl⟩|⟨l,n,ex,fh,h1,h2,hz,rfl,rfl⟩
  rotate_left
  .let#[rfl,rfl]:=C6 ex;let#[a',vs,rfl,ta,rs]:=rd.E2;obtain rfl:=re.i9;show bA6 pi s U H _ _ v u Q I rx ry #[_,_,vs,rfl,rfl,ta.sq,λz=>?_,h1,h2,by rw[<- -rs];show C5 hz,λz=>?_,λp hp=>q.tup R hp (rs.rep _)]
   .subst z;cases rs;show fh rfl
   .subst z;have:(List.replicate (Int.toNat 1) l).flatten=l:=by simp
    rw[this] at q;show q.now R (.tup ta rs)
  let#[rfl,rfl]:=C6 ex;let#[a',rfl,ra]:=rd.j6;obtain rfl:=re.i9;let#[vs,z1,rs]:=R.lst ha ra;show bO1 pi s U H _ _ v u Q I rx ry #[_,_,vs,rfl,rfl,z1,by omega,by omega,by rw[<- -rs];show C5 hz,λp hp=>q.new R hp (rs.rep _)]
def ZD(op:UnaryOp):BH X (unaryOp op) (r1 X.K (.un op)):=by
 intro pi s U H x v Q I rx h;let#[d,g,ρ,R,rd,d',g',#[rfl,i,ex,rfl,rfl],q]:=h;cases ex;obtain rfl:=rd.i9;show bG0 pi s U H _ v Q I rx #[_,rfl,q.now R (.int _)]
section
variable{pi:@&(Addr×Obj)}
def Nk(I:Inv X pi U H s)(R:Rl X.K ρ g H)(n:Nat)(ih:∀{d:D} {v:V} {u:Value} {p:PyData},rd g n d=!p->c9 X.K ρ H d v->RelV v u->∃as,Reads s.heap u p as/\p.depth<=n):∀{vs:@&V} {us:@&Value} {ps:@&PyData},l.mapM (rd g n)=!ps->b8 X.K ρ H l vs->Vals vs us->∃as,ReadsAll s.heap us ps as/\PyData.depthAll ps<=n:=by
 induction l with
 |nil =>
  intro vs us ps h rs rv;cases rs;cases rv;simp at h;subst h;show#[_,.nil,cw _]
 |cons d l il =>
  intro vs us ps h rs rv;cases rs with
  |cons js rs =>
   cases rv with
   |cons ru rv =>
    rw[pU] at h;cases e:rd g n d with
    |none=>simp_all
    |some p =>
     rw[e] at h;cases e2:l.mapM (rd g n) with
     |none=>rw[e2] at h;cases h
     |some qs =>
      rw[e2] at h;cases h;let#[as,q1,d1]:=ih e js ru;let#[bs,q2,d2]:=il e2 rs rv;show#[_,.cons q1 q2,?_];simp only[PyData.depthAll];omega
set_option tactic.hygienic true in
def X5(I:Inv X pi U H s)(R:Rl X.K ρ g H)(n:Nat):∀{d:D} {v:V} {u:Value} {p:PyData},rd g n d=!p->c9 X.K ρ H d v->RelV v u->∃as,Reads s.heap u p as/\p.depth<=n:=by
 induction n with
 |zero =>
  intro d v u p h r ru;cases r with
  |aR=>simp only[rd] at h;cases h;cases ru;show#[_,.none,Nat.zero_le _]
  |bl b=>simp only[rd] at h;cases h;cases ru;show#[_,.bool b,Nat.zero_le _]
  |int i=>simp only[rd] at h;cases h;let#[t,rfl]:=ru;show#[_,.int i t,Nat.zero_le _]
  |str x=>simp only[rd] at h;cases h;let#[t,rfl]:=ru;show#[_,.str x t,Nat.zero_le _]
  |_=>simp only[rd] at h;cases h
 |succ n ih =>
  intro d v u p h r ru;cases r with
  |aR=>simp only[rd] at h;cases h;cases ru;show#[_,.none,Nat.zero_le _]
  |bl b=>simp only[rd] at h;cases h;cases ru;show#[_,.bool b,Nat.zero_le _]
  |int i=>simp only[rd] at h;cases h;let#[t,rfl]:=ru;show#[_,.int i t,Nat.zero_le _]
  |str x=>simp only[rd] at h;cases h;let#[t,rfl]:=ru;show#[_,.str x t,Nat.zero_le _]
  |ty x=>simp only[rd] at h;cases h
  |ref ha =>
   rename_i i a;simp only[rd] at h;cases e:c8 g i with
   |none=>simp_all
   |some l =>
    rw[e] at h;dsimp only at h;cases e2:l.mapM (rd g n) with
    |none=>simp_all
    |some ps =>
     rw[e2] at h;cases h;cases ru;let#[vs,hq,rs]:=R.items e ha;let#[bo,rv,p,hz]:=I.list hq;let#[as,q,hd]:=Nk I R n ih e2 rs rv;let#[o,ho,hc,k,tu]:=p.isList;show#[_,.list ho hc tu (_/q),?_];simp only[PyData.depth];omega
  |tup ht rs =>
   rename_i l a vs;simp only[rd] at h;cases e2:l.mapM (rd g n) with
   |none=>simp_all
   |some ps =>
    rw[e2] at h;cases h;cases ru;let#[bo,rv,pt,hz]:=I.tuple ht.sq;let#[as,q,hd]:=Nk I R n ih e2 rs rv;let#[o,ho,hc,k,tu]:=id pt;show#[_,.tuple ho hc tu (_/q),?_];simp only[PyData.depth];omega
end
end
def yG{K ρ H}{c:Key}(h:pO d=!c)(r:c9 K ρ H d v):v=kV c:=by
 cases r<;>first|(cases h;rfl)|cases h
def ui.some{K ρ H}{o:Option V}{d:D}(h:ui K ρ H (!d) o):∃v,o=!v/\c9 K ρ H d v:=by
 cases o with
 |none=>show h.elim
 |some v=>show#[v,rfl,h]
def ui.isSome{K ρ H}{o:Option V}{d:Option D}(h:ui K ρ H d o):d.isSome=o.isSome:=by
 cases o<;>cases d<;>first|rfl|show h.elim
def KN{pi:@&(Addr×Obj)}{e:D}{y:V}{v u:Value}{Q:VK}(hu:X.A.units+100<cLine)(I:Inv X pi U H s)(rx:RelV x v)(ry:RelV y u)(R:Rl X.K ρ g H)(js:c9 X.K ρ H d x)(re:c9 X.K ρ H e y)(h:xQ g d e b)(neg:Bool)(q:Q (.bl (xor neg b)) H):wpAny (model X.prog X.w) X.A (compareOp (if neg then .NotEq else .Eq) v u) (EP X pi U Q) X.xe s:=by
 rcases h with⟨i,j,rfl,rfl,rfl⟩|⟨i,j,rfl,rfl,rfl⟩|⟨i,j,rfl,rfl,rfl⟩|⟨p,p',h1,h2,c1,c2,rfl⟩
 .obtain rfl:=js.i9;obtain rfl:=re.i9;cases neg
  .exact HR pi s U H _ _ v u Q I rx ry #[rfl,by simp_all]
  .exact HS pi s U H _ _ v u Q I rx ry #[rfl,by simp_all]
 .obtain rfl:=js.R9;obtain rfl:=re.R9;cases neg
  .exact HR pi s U H _ _ v u Q I rx ry #[rfl,by rw[Ap];simpa using q]
  .exact HS pi s U H _ _ v u Q I rx ry #[rfl,by rw[Ap];simpa using q]
 .obtain rfl:=js.Hg;obtain rfl:=re.Hg;cases neg
  .exact HR pi s U H _ _ v u Q I rx ry #[rfl,by simp_all]
  .exact HS pi s U H _ _ v u Q I rx ry #[rfl,by simp_all]
 .let#[as,q1,d1]:=X5 I R 6 h1 js rx;let#[bs,q2,d2]:=X5 I R 6 h2 re ry;let hr:X.A.units+min p.depth p'.depth<cLine:=by omega
  cases neg
  .exact SeqAt.compareEq_reads q1 q2 c1 c2 hr #[.bl _,H,I,rfl,by simpa using q]
  .exact SeqAt.compareNe_reads q1 q2 c1 c2 hr #[.bl _,H,I,rfl,by simpa using q]
def in_of{pi:@&(Addr×Obj)}{e:D}{y:V}{v u:Value}{Q:VK}(hu:X.A.units+100<cLine)(I:Inv X pi U H s)(rx:RelV x v)(ry:RelV y u)(R:Rl X.K ρ g H)(js:c9 X.K ρ H d x)(re:c9 X.K ρ H e y)(h:inR g d e b)(neg:Bool)(q:Q (.bl (xor neg b)) H):wpAny (model X.prog X.w) X.A (compareOp (if neg then .NotIn else .In) v u) (EP X pi U Q) X.xe s:=by
 rcases h with⟨a,kvs,c,rfl,ha,hc,rfl⟩|⟨l,ps,p,h0,h1,h2,c1,c2,rfl⟩
 .let#[a',rfl,ra]:=re.j6;let#[vs,z,rs]:=R.cV ha ra;have:=yG hc js;subst this;cases ry;rw[(rs.val c).isSome] at q;cases neg
  .exact Vp () I (pL.k z) rx λs' I'=>#[.bl _,H,I',rfl,by simpa using q]
  .exact bD9 () I (pL.k z) rx λs' I'=>#[.bl _,H,I',rfl,by simpa using q]
 .let#[as,q1,d1]:=X5 I R 6 h2 js rx;cases e with
  |tup m =>
   cases h0;let h3:rd g 7 (.tup l)=!.tuple ps:=by simp only[rd];rw[show l.mapM (rd g 6)=some ps from h1];rfl
   let#[bs,q2,d2]:=X5 I R 7 h3 re ry;let hr:X.A.units+1+min (PyData.depthAll ps) p.depth<cLine:=by omega
   cases neg
   .exact SeqAt.in_tuple_reads q2 q1 c1 c2 hr #[.bl _,H,I,rfl,by simpa using q]
   .exact SeqAt.notIn_tuple_reads q2 q1 c1 c2 hr #[.bl _,H,I,rfl,by simpa using q]
  |ref a =>
   let h3:rd g 7 (.ref a)=!.list ps:=by
    simp only[rd];rw[show c8 g a=some l from h0];dsimp only;rw[show l.mapM (rd g 6)=some ps from h1]
    rfl
   let#[bs,q2,d2]:=X5 I R 7 h3 re ry;let hr:X.A.units+1+min (PyData.depthAll ps) p.depth<cLine:=by omega
   cases neg
   .exact SeqAt.in_list_reads q2 q1 c1 c2 hr #[.bl _,H,I,rfl,by simpa using q]
   .exact SeqAt.notIn_list_reads q2 q1 c1 c2 hr #[.bl _,H,I,rfl,by simpa using q]
  |_=>cases h0
def vR(hu:X.A.units+100<cLine)(op:CmpOp):gk X (compareOp op) (r2 X.K (.cmp op)):=by
 intro pi s U H x y v u Q I rx ry h;let#[d,e,g,ρ,R,js,re,d',g',#[x',y',b,ex,h,rfl,rfl],q]:=h;let#[rfl,rfl]:=C6 ex;let fin:=q.now R (.bl b);let qc:∀{P:Int->Int->Bool},(∃i j,d=.int i/\e=.int j/\b=P i j)->∃i j,x=.int i/\y=.int j/\b=P i j:=λhh=>by
  let#[i,j,z1,z2,z3]:=hh;show#[i,j,(z1▸js).i9,(z2▸re).i9,z3]
 cases op
 .exact KN hu I rx ry R js re h false (_/fin)
 .exact KN hu I rx ry R js re h true (_/fin)
 .let#[i,j,e1,e2,e3]:=qc (P:=λi j=>decide (i<j)) h;show ZA pi s U H _ _ v u Q I rx ry #[i,j,e1,e2,by subst e3;show fin]
 .let#[i,j,e1,e2,e3]:=qc (P:=λi j=>decide (i<=j)) h;show Zz pi s U H _ _ v u Q I rx ry #[i,j,e1,e2,by subst e3;show fin]
 .let#[i,j,e1,e2,e3]:=qc (P:=λi j=>decide (j<i)) h;show Zy pi s U H _ _ v u Q I rx ry #[i,j,e1,e2,by subst e3;show fin]
 .let#[i,j,e1,e2,e3]:=qc (P:=λi j=>decide (j<=i)) h;show Zx pi s U H _ _ v u Q I rx ry #[i,j,e1,e2,by subst e3;show fin]
 .let#[rfl,rfl]:=(show _/\_ from h)
  obtain rfl:=re.Av;show bO5 pi s U H _ _ v u Q I rx ry #[rfl,?_];let e:Q6 d=decide (x=V.aR):=by cases js<;>simp[Q6]
  rw[<- e];show fin
 .let#[rfl,rfl]:=(show _/\_ from h)
  obtain rfl:=re.Av;show bA7 pi s U H _ _ v u Q I rx ry #[rfl,?_];let e:Q6 d=decide (x=V.aR):=by cases js<;>simp[Q6]
  rw[<- e];show fin
 .rcases h with h|⟨a,S,n,i,rfl,ha,rfl,rfl⟩
  .exact in_of hu I rx ry R js re h false (_/fin)
  .let#[a',rfl,ra]:=re.j6;obtain rfl:=js.i9;show a98 pi s U H _ _ v u Q I rx ry #[i,a',S,n,rfl,rfl,R.set ha ra,fin]
 .rcases h with h|⟨a,S,n,i,rfl,ha,rfl,hb⟩
  .exact in_of hu I rx ry R js re h true (_/fin)
  .let#[a',rfl,ra]:=re.j6;obtain rfl:=js.i9;show aM0 pi s U H _ _ v u Q I rx ry #[i,a',S,n,rfl,rfl,R.set ha ra,by rw[<- hb,Bool.not_not];show fin]
def empty_eq{K ρ H}(r:b8 K ρ H l vs):l.isEmpty=vs.isEmpty:=by cases r<;>rfl
def bG4{K:PySem.W.Frag}(R:Rl K ρ g H)(r:c9 K ρ H d x)(h:Mw g d b):EL K x H b:=by
 rcases h with⟨rfl,rfl⟩|rfl|⟨i,rfl,rfl⟩|⟨l,rfl,rfl⟩|⟨a,l,rfl,hl,rfl⟩
 .obtain rfl:=r.Av;rfl
 .obtain rfl:=r.R9;rfl
 .obtain rfl:=r.i9;rfl
 .let#[a,vs,rfl,ht,rs]:=r.E2;show .inr (.inl #[_,ht.sq,by rw[empty_eq rs]])
 .let#[a',rfl,ha]:=r.j6;let#[vs,hq,rs]:=R.items hl ha;show .inl #[_,hq,by rw[empty_eq rs]]
def bE5{K ρ H}{i:Int}(r:b8 K ρ H l vs)(h:jA l i=!d):∃v,jA vs i=!v/\c9 K ρ H d v:=by
 unfold jA at h ⊢;rw[<- -r];cases e:mD (-l) i with
 |none=>simp_all
 |some j =>
  rw[e] at h;show r.get h
def yB{K ρ H}{x:D}(R:Rl K ρ g H)(r:c9 K ρ H x v)(h:F0 g x=!l):∃a vs,v=.ref a/\b8 K ρ H l vs/\((∃i,x=.ref i/\ρ[i]?=!a)/\gw K H a vs\/x=.tup l/\TupAt K H a vs):=by
 cases r with
 |tup ht rs=>cases h;show#[_,_,rfl,rs,.inr #[rfl,ht]]
 |ref ha=>let#[vs,hq,rs]:=R.items h ha;show#[_,_,rfl,rs,.inl #[#[_,rfl,ha],hq]]
 |_=>cases h
def b09(hu:X.A.units+100<cLine):vY X (r2 X.K .ix):=by
 intro value slice pi s U H x y v u Q I rx ry h hs;let#[d,e,g,ρ,R,js,re,d',g',#[rfl,h],q]:=h;rcases h with⟨x',l,i,ex,hl,ha⟩|⟨a,kvs,y',c,ex,ha,hc,hv⟩|z
 .let#[rfl,rfl]:=C6 ex;obtain rfl:=re.i9;let#[a,vs,rfl,rs,h]:=yB R js hl;let#[w,hw,gI]:=bE5 rs ha;rcases h with⟨_,hq⟩|⟨_,ht⟩
  .exact bC3 value slice pi s U H _ _ v u Q I rx ry #[_,_,i,w,rfl,rfl,hq,hw,q.now R gI] hs
  .exact bQ7 value slice pi s U H _ _ v u Q I rx ry #[_,_,i,w,rfl,rfl,ht.sq,hw,q.now R gI] hs
 .let#[rfl,rfl]:=C6 ex;let#[a',rfl,ra]:=js.j6;let#[vs,z,rs]:=R.cV ha ra;have:=yG hc re;subst this;let q2:=rs.val c;rw[hv] at q2;let#[w,hw,gI]:=q2.some;show bC4 () value slice pi s U H _ _ v u Q I rx ry #[_,w,rfl,by have:=pL.k (k:=c) z;rw[hw] at this;show this,q.now R gI] hs
 .exact z.elim
abbrev RB(K:PySem.W.Frag):V->Option Int->Option Int->Hp->VK->Prop:=λx lo hi H Q=>∃d g ρ d' g',Rl K ρ g H/\c9 K ρ H d x/\wy d lo hi g d' g'/\LQ K ρ H Q d' g'
def Lm:yZ X (RB X.K):=by
 intro pi s U H x v vl vu lo hi sl Q I rx hs pl pu h;let#[d,g,ρ,d',g',R,js,h,q]:=h;rcases h with⟨l,rfl,rfl,rfl⟩|⟨a,l,rfl,hl,rfl,rfl⟩
 .let#[a,vs,rfl,ht,rs]:=js.E2;show Wo pi s U H _ v vl vu lo hi sl Q I rx hs pl pu #[_,_,rfl,ht.sq,λz=>?_,λp hp=>q.tup R hp (rs.cut lo hi)];show q.now R (.tup ht ?_);have:=rs.cut lo hi
  simp_all
 .let#[a',rfl,ha]:=js.j6;let#[vs,hq,rs]:=R.items hl ha;show Wn pi s U H _ v vl vu lo hi sl Q I rx hs pl pu #[_,_,rfl,hq,λp hp=>q.new R hp (rs.cut lo hi)]
abbrev b84(K:PySem.W.Frag):V->V->V->Hp->(Hp->Prop)->Prop:=λo i v H Q=>∃Ey di dv g ρ,Rl K ρ g H/\c9 K ρ H Ey o/\c9 K ρ H di i/\c9 K ρ H dv v/\Z7 Ey di dv g (λg'=>∀bQ H',Ext ρ H bQ H'->Rl K bQ g' H'->Q H')
def bJ4(hu:X.A.units+100<cLine):EJ X (b84 X.K):=by
 intro pi s U H o i v ov iv u Q I ro ri rv h;let#[Ey,di,dv,g,ρ,R,r1,r2,r3,g',h,q]:=h;rcases h with⟨a,i',l,j,rfl,rfl,hl,hj,rfl⟩|⟨a,kvs,c,rfl,ha,hc,hz,rfl⟩
 .let#[a',rfl,ha]:=r1.j6;obtain rfl:=r2.i9;let#[vs,z,rs]:=R.lst hl ha;let#[R',e']:=R.write hl ha (rs.set r3 j);show set_list pi s U H _ _ _ ov iv u Q I ro ri rv #[_,vs,_,j,rfl,rfl,z,by rw[<- -rs];show hj,q ρ _ e' R']
 .let#[a',rfl,ra]:=r1.j6;let#[vs,z,rs]:=R.cV ha ra;have:=yG hc r2;subst this;let#[R',e']:=R.put (o':=.cV (putD kvs c dv)) (u:=.dK (putK vs c v)) ha rfl ra (rs.put r3);cases ro;show YR () I (BA.k z (by rw[<- -rs];show AI hz)) ri rv λs' I'=>#[_,I',q ρ _ e' R']
def bQ0:u4 X (.builtin "len") (rN X.K .len):=by
 intro pi s U H xs us Q I r h;let#[ds,g,ρ,R,rs,d',g',#[rfl,h],q]:=h;rcases h with⟨x,l,rfl,hl,rfl⟩|z|z
 .let#[v,rfl,rv]:=rs.one;let#[a,vs,rfl,rl,h]:=yB R rv hl;show aQ1 pi s U H _ us Q I r #[_,_,rfl,?_,by rw[<- -rl];show q.now R (.int _)];show h.imp (λz=>z.2) (λz=>z.2.sq)
 .exact z.elim
 .exact z.elim
def Fo{K ρ H}:∀(ks:@&Key),b8 K ρ H (ks.map kD) (ks.map kV)
 |[]=>.nil
 |.inl _::r=>.cons (.int _) (Fo r)
 |.inr _::r=>.cons (.str _) (Fo r)
def d6.keys{α:Type}{K ρ H}{ds:@&(α×D)}{vs:@&(α×V)}(h:d6 K ρ H ds vs):ds.map (·.1)=vs.map (·.1):=by
 induction h with
 |nil=>rfl
 |cons _ _ ih=>simp_all
def bC0(hc:X.calm=true):u4 X (.type "list") (rN X.K .list):=by
 intro pi s U H xs us Q I r h;obtain⟨ds,g,ρ,R,rs,d',g',⟨x,l,rfl,hl,rfl,rfl⟩|⟨a,kvs,rfl,ha,hn,rfl,rfl⟩,q⟩:=h
 rotate_left
 .let#[v,rfl,rv]:=rs.one;let#[a',rfl,ra]:=rv.j6;let#[vs,z,rk]:=R.cV ha ra;show aB1 hc pi s U H _ us Q I r #[_,vs,rfl,z,by rw[<- -rk];show hn,λp hp=>q (ρ++[p]) _ _ (L1 hp) (R.new hp (by rw[rk.keys];show Fo _)) (.ref (R.C9 p))]
 let#[v,rfl,rv]:=rs.one;let#[a,vs,rfl,rl,h]:=yB R rv hl;show aQ0 pi s U H _ us Q I r #[_,_,rfl,h.imp (λz=>z.2) (λz=>z.2.sq),λp hp=>q.new R hp rl]
def Yw:u4 X (.type "tuple") (rN X.K .tuple):=by
 intro pi s U H xs us Q I r h;let#[ds,g,ρ,R,rs,d',g',#[x,l,rfl,hl,rfl,rfl],q]:=h;let#[v,rfl,rv]:=rs.one;let#[a,vs,rfl,rl,h]:=yB R rv hl;show aG4 pi s U H _ us Q I r #[a,vs,rfl,?_];show h.imp (λz=>#[z.2,λp hp=>q.tup R hp rl]) (λz=>#[z.2.sq,q.now R (.tup z.2 rl)])
def bC5:u4 X (.builtin "isinstance") (rN X.K .isin):=by
 intro pi s U H xs us Q I r h;let#[ds,g,ρ,R,rs,d',g',#[x,c,b,rfl,hc,hb,rfl,rfl],q]:=h;let#[v,w,rfl,r1,r2]:=rs.two;obtain rfl:=r2.bV3;let fin:=q.now R (.bl b);let go:∀(t:Value) (v:V),iK X.K H v t->PySem.W.kitOne X.K t (.type c)=!b->Vals [v,V.ty c] us->wpAny (model X.prog X.w) X.A (call (.builtin "isinstance") us) (EP X pi U Q) X.xe s :=
  λt v ht hk r=>aT3 pi s U H _ us Q I r #[v,t,c,b,rfl,ht,hk,fin]
 simp only[List.mem_cons,List.mem_nil_iff,or_false] at hc;cases r1 with
 |aR=>show go _ _ .aR ?_ r;cases hb;rcases hc with rfl|rfl|rfl|rfl|rfl<;>rfl
 |bl y=>show go _ _ (.bl y) ?_ r;cases hb;rcases hc with rfl|rfl|rfl|rfl|rfl<;>rfl
 |int y=>show go _ _ (.int y) ?_ r;cases hb;rcases hc with rfl|rfl|rfl|rfl|rfl<;>rfl
 |str y=>show go _ _ (.str y) ?_ r;cases hb;rcases hc with rfl|rfl|rfl|rfl|rfl<;>rfl
 |ty _=>cases hb
 |tup ht rs =>
  cases hb;rcases ht with ht|ht
  .refine go _ _ (.tup ht) ?_ r;rcases hc with rfl|rfl|rfl|rfl|rfl<;>rfl
  .let#[o,bo,n,lk,ke,_]:=ht;let#[u,w',rfl,ru,gI]:=vals2 r;cases (show w'=Value.type c from gI);cases ru;let hk:PySem.W.kitOne X.K (.type "tuple") (.type c)=!(c=="tuple"):=by rcases hc with rfl|rfl|rfl|rfl|rfl<;>rfl
   show cj QY I.gT #[o,I.gT _ _ lk,ke] hk (λz=>nomatch z) λtk=>#[.bl _,H,I.tok tk,rfl,fin]
 |@ref i a ha =>
  let pE:∃m,g'[i]?=!.lst m/\b=(c=="list"):=by
   simp only[uf] at hb;split at hb
   .exact#[_,by assumption,(aO hb).symm]
   .cases hb
  let#[m,e,rfl]:=pE;let#[vs,z,_]:=R.lst e ha;show go _ _ (.lst z) ?_ r;rcases hc with rfl|rfl|rfl|rfl|rfl<;>rfl
set_option tactic.hygienic true in
def a48:∀{l:@&D} {b:Bool},Z5 l=!b->∃bs:@&Bool,l=bs.map D.bl/\b=bs.all id:=by
 intro l
 induction l with
 |nil=>intro b h;cases h;show#[[],rfl,rfl]
 |cons d r ih =>
  intro b h;cases d<;>first|(cases h;done)|skip
  rename_i c;simp only[Z5] at h;cases e:Z5 r with
  |none=>simp_all
  |some b' =>
   rw[e] at h;cases h;let#[bs,rfl,rfl]:=ih e;show#[c::bs,rfl,by simp]
def b8.Xr{K ρ H}:∀{bs:@&Bool} {vs:@&V},b8 K ρ H (bs.map D.bl) vs->vs=bs.map V.bl:=by
 intro bs
 induction bs with
 |nil=>intro vs h;cases h;rfl
 |cons b r ih =>
  intro vs h;cases h with
  |cons h rr=>rw[ih rr,h.R9];rfl
def bU1(hc:X.calm=true):u4 X (.builtin "all") (rN X.K .all):=by
 intro pi s U H xs us Q I r h;let#[ds,g,ρ,R,rs,d',g',#[a,l,b,rfl,hl,hb,rfl,rfl],q]:=h;let#[v,rfl,rv]:=rs.one;let#[a',rfl,ra]:=rv.j6;let#[vs,hq,rs]:=R.items hl ra;rcases hb with hb|⟨ns,rfl,rfl⟩
 rotate_left
 .have:=rs.ints;subst this;show YK hc pi s U H _ us Q I r #[_,ns,rfl,hq,q.now R (.bl _)]
 let#[bs,rfl,rfl]:=a48 hb;have:=rs.Xr;subst this;show YJ hc pi s U H _ us Q I r #[_,bs,rfl,hq,q.now R (.bl _)]
def OP{K ρ H}:∀(ns:@&Int),b8 K ρ H (ns.map D.int) (ns.map V.int)
 |[]=>.nil
 |_::r=>.cons (.int _) (OP r)
def Yp(hc:X.calm=true):u4 X (.builtin "sorted") (rN X.K .kc):=by
 intro pi s U H xs us Q I r h;obtain⟨ds,g,ρ,R,rs,d',g',z|⟨x,ns,rfl,hx,hn,rfl,rfl⟩,q⟩:=h
 rotate_left
 .let#[v,rfl,rv]:=rs.one;let#[a,vs,rfl,rl,h]:=yB R rv hx;have:=rl.ints;subst this;show aB0 pi s U H _ us Q I r #[_,ns,rfl,h.imp (λz=>z.2) (λz=>z.2.sq),hn,λp hp=>q (ρ++[p]) _ _ (L1 hp) (R.new hp (o:=.lst ((O7 ns).map .int)) (u:=.lst ((O7 ns).map V.int)) (OP _)) (.ref (R.C9 p))]
 show z.elim
def bH9(hc:X.calm=true):u4 X (.builtin "sum") (rN X.K .sum):=by
 intro pi s U H xs us Q I r h;let#[ds,g,ρ,R,rs,d',g',h,q]:=h;let#[a,ns,rfl,hl,rfl,rfl]:=h;let#[v,rfl,rv]:=rs.one;let#[a',rfl,ra]:=rv.j6;let#[vs,hq,rs]:=R.items hl ra;have:=rs.ints;subst this;show YL hc pi s U H _ us Q I r #[_,ns,rfl,hq,q.now R (.int _)]
def bR2:u4 X (.type "int") (rN X.K .int):=by
 intro pi s U H xs us Q I r h;let#[ds,g,ρ,R,rs,d',g',#[rfl,h],q]:=h;rcases h with⟨i,rfl,rfl⟩|⟨b,rfl,rfl⟩
 .let#[v,rfl,rv]:=rs.one;obtain rfl:=rv.i9;show Px pi s U H _ us Q I r (.inl #[i,rfl,q.now R (.int _)])
 .let#[v,rfl,rv]:=rs.one;obtain rfl:=rv.R9;show Px pi s U H _ us Q I r (.inr #[b,rfl,q.now R (.int _)])
abbrev rM(K:PySem.W.Frag)(p:Pr):V->@&V->Hp->VK->Prop:=λx xs H Q=>∃d ds g ρ,Rl K ρ g H/\c9 K ρ H d x/\b8 K ρ H ds xs/\cP p (d::ds) g (LQ K ρ H Q)
def Fm{a b:D}{m:@&D}(h:a::l=b::m):a=b/\l=m:=by cases h;show#[rfl,rfl]
def YG:nQ X "list.append" (rM X.K .append):=by
 intro pi s U H x xs v us Q I rx r h;let#[d,ds,g,ρ,R,rd,rs,d',g',#[a,y,l,ex,ha,hz,rfl,rfl],q]:=h;let#[rfl,rfl]:=Fm ex;let#[a',rfl,ra]:=rd.j6;let#[w,rfl,gI]:=rs.one;let#[vs,z1,rv]:=R.lst ha ra;let#[R2,e2]:=R.write ha ra (rv.append (.cons gI .nil));show Zk pi s U H _ _ v us Q I rx r #[_,vs,_,rfl,rfl,z1,by rw[<- -rv];show AI hz,q ρ _ _ e2 R2 .aR]
def XO:nQ X "list.pop" (rM X.K .pop):=by
 intro pi s U H x xs v us Q I rx r h;let#[d,ds,g,ρ,R,rd,rs,y,g',#[a,i,l,k,ex,ha,h1,h2,hk,hy,rfl],q]:=h;let#[rfl,rfl]:=Fm ex;let#[a',rfl,ra]:=rd.j6;let#[w,rfl,gI]:=rs.one;obtain rfl:=gI.i9;let#[vs,z1,rv]:=R.lst ha ra;let#[w,hw,gI]:=rv.get hy;let#[R2,e2]:=R.write ha ra (rv.erase k);show Xt pi s U H _ _ v us Q I rx r #[_,vs,i,k,w,rfl,rfl,z1,h1,h2,by rw[<- -rv];show hk,hw,q ρ _ _ e2 R2 (gI.ext e2)]
def b8.strs{K ρ H}{ys:@&Str}(h:b8 K ρ H (ys.map D.str) vs):vs=ys.map V.str:=by
 induction ys generalizing vs with
 |nil=>cases h;rfl
 |cons y ys ih =>
  cases h with
  |cons q r=>cases q;rw[ih r];rfl
def ty_list(R:Rl X.K ρ g H)(r:c9 X.K ρ H d v)(h:∃a l,d=.ref a/\c8 g a=!l):pY X.K "list" v H:=by
 let#[a,l,rfl,hl]:=h;let#[a',rfl,ra]:=r.j6;let#[vs,hq,_]:=R.items hl ra;show .inl #[rfl,vs,hq]
def VY:nQ X "set.add" (rM X.K .kW):=by
 intro pi s U H x xs v us Q I rx r h;let#[d,ds,g,ρ,R,rd,rs,d',g',#[a,i,S,n,ex,ha,hn,rfl,rfl],q]:=h;let#[rfl,rfl]:=Fm ex;let#[a',rfl,ra]:=rd.j6;let#[w,rfl,gI]:=rs.one;obtain rfl:=gI.i9;let#[R2,e2]:=R.put (o':=.set (λk=>S k||decide (k=i)) (if S i then n else n+1)) (u:=.set (λk=>S k||decide (k=i)) (if S i then n else n+1)) ha rfl ra #[rfl,rfl];show a11 pi s U H _ _ v us Q I rx r #[_,i,S,n,rfl,rfl,R.set ha ra,hn,q ρ _ _ e2 R2 .aR]
def ty_set(R:Rl X.K ρ g H)(r:c9 X.K ρ H d v)(h:nK .kW d g):pY X.K "set" v H:=by
 let#[a,S,n,rfl,hl]:=h;let#[a',rfl,ra]:=r.j6;show .inr (.inr (.inr #[rfl,S,n,R.set hl ra]))
noncomputable abbrev iZ:=@&Str×XK
abbrev LX(K:PySem.W.Frag)(ρ:@&Addr)(H:Hp)(Ξ:iZ):KX:=λx g'=>∀bQ H' C,Ext ρ H bQ H'->Rl K bQ g' H'->x.cls∈Ξ.1->u9 K x.cls C->Ξ.2 (.ref C) none H'
def LX.ext{K:PySem.W.Frag}{cC:@&Addr}{H1:Hp}{Ξ:iZ}(e:Ext ρ H cC H1){x:Xn}(h:LX K ρ H Ξ x g):LX K cC H1 Ξ x g:=λbQ H' C e' R hm c=>h bQ H' C (e.trans e') R hm c
noncomputable abbrev nP(ex:@&Str):iZ:=(ex,λx x x=>False)
def LE(K:PySem.W.Frag)(Ξ:iZ)(t:S->G->KD->KX->Prop):TE:=λcu H Q=>∃U g ρ,p6 K ρ H U cu/\Rl K ρ g H/\t U g (LQ K ρ H Q) (LX K ρ H Ξ)
def LT(K:PySem.W.Frag)(Ξ:iZ)(t:S->G->(Bool->G->Prop)->KX->Prop):TT:=λcu H Q=>∃U g ρ,p6 K ρ H U cu/\Rl K ρ g H/\t U g (λb g'=>∀bQ H',Ext ρ H bQ H'->Rl K bQ g' H'->Q b H') (LX K ρ H Ξ)
def LA(K:PySem.W.Frag)(Ξ:iZ)(t:S->G->(List D->G->Prop)->KX->Prop):TA:=λcu H Q=>∃U g ρ,p6 K ρ H U cu/\Rl K ρ g H/\t U g (λds g'=>∀bQ H' vs,Ext ρ H bQ H'->Rl K bQ g' H'->b8 K bQ H' ds vs->Q vs H') (LX K ρ H Ξ)
def pM(K:PySem.W.Frag)(gH:@&Addr)(H0:Hp)(k:IK)(J:It):Prop:=∀ρ g H,Ext gH H0 ρ H->Rl K ρ g H->∀i,(k.at i g=!none->J.stop i H) /\
 ∀d,k.at i g=!!d->J.go i H/\∀v H',J.qR i H v H'->Ext ρ H ρ H'/\Rl K ρ g H'/\c9 K ρ H' d v
def LI(K:PySem.W.Frag)(Ξ:iZ)(t:S->G->(IK->G->Prop)->KX->Prop):TI:=λcu H R=>∃U g ρ,p6 K ρ H U cu/\Rl K ρ g H/\t U g (λk g'=>∀bQ H' J,Ext ρ H bQ H'->Rl K bQ g' H'->pM K bQ H' k J->R J H') (LX K ρ H Ξ)
def LG(K:PySem.W.Frag)(t:MT):TG:=λv cu H Q=>∃d U g ρ,p6 K ρ H U cu/\Rl K ρ g H/\c9 K ρ H d v/\kq t d U (λcv=>∀dk,p6 K ρ H cv dk->Q dk H)
abbrev LN(K:PySem.W.Frag)(ρ:@&Addr)(H:Hp)(N:L2.Ends):Ends where
 nx:=λcv g'=>∀bQ H' dk,Ext ρ H bQ H'->Rl K bQ g' H'->p6 K bQ H' cv dk->N.nx dk H'
 rt:=LQ K ρ H N.rt
 bk:=λcv g'=>∀bQ H' dk,Ext ρ H bQ H'->Rl K bQ g' H'->p6 K bQ H' cv dk->N.bk dk H'
 ct:=λcv g'=>∀bQ H' dk,Ext ρ H bQ H'->Rl K bQ g' H'->p6 K bQ H' cv dk->N.ct dk H'
def LS(K:PySem.W.Frag)(Ξ:iZ)(t:Ends->S->G->KX->Prop):TS:=λN cu H=>∃U g ρ,p6 K ρ H U cu/\Rl K ρ g H/\t (LN K ρ H N) U g (LX K ρ H Ξ)
end M
namespace L2
open PySem PySem.Spec PyProof.Rows
variable{t t':TT}
section
variable{X:Cx}{e:Expr}
def PE.imp{t t':TE}(h:PE X e t)(i:∀U H Q,t' U H Q->t U H Q):PE X e t':=λpi s U H Q I q=>h pi s U H Q I (i U H Q q)
def PT.imp(h:PT X e t)(i:∀U H Q,t' U H Q->t U H Q):PT X e t':=λpi s U H Q I q=>h pi s U H Q I (i U H Q q)
def PW.imp(h:PW X e t)(i:∀U H Q,t' U H Q->t U H Q):PW X e t':=λw pi s U H Q I q=>h w pi s U H Q I (i U H Q q)
def PA.imp{es:@&Expr}{t t':TA}(h:PA X es t)(i:∀U H Q,t' U H Q->t U H Q):PA X es t':=λp pi s U H Q I q=>h p pi s U H Q I (i U H Q q)
def lC.imp{es:@&Expr}(h:lC X es t)(i:∀U H Q,t' U H Q->t U H Q):lC X es t':=λpi s U H Q I q=>h pi s U H Q I (i U H Q q)
def PI.imp{tg:Expr}{t t':TI}(h:PI X tg e t)(i:∀U H Q,t' U H Q->t U H Q):PI X tg e t':=λpi s U H Q I q=>h pi s U H Q I (i U H Q q)
def PG.imp{t t':TG}(h:PG X e t)(i:∀v U H Q,t' v U H Q->t v U H Q):PG X e t':=λpi s U H v u Q I r q=>h pi s U H v u Q I r (i v U H Q q)
def PS.imp{st:Stmt}{t t':TS}(h:PS X st t)(i:∀N U H,t' N U H->t N U H):PS X st t':=λpi s U H N I q=>h pi s U H N I (i N U H q)
def jR.imp{st:@&Stmt}{t t':TS}(h:jR X st t)(i:∀N U H,t' N U H->t N U H):jR X st t':=λpi s U H N I q=>h pi s U H N I (i N U H q)
end
end L2
namespace M
open PySem L2 PySem.Spec PyProof.Rows
variable{Ξ:iZ}{P:fG}{op jf:CmpOp}{rest es:@&Expr}{iy mo:ME}{p2 q apos jH:Pos}{x:Str}{o:Expr}
section
variable{K:PySem.W.Frag}(hP:d5 P){ρ gH:@&Addr}{H H0:Hp}{U:S}{cu:L2.St}{g:G}{m:ME}
include hP
def fP{Q0:KD}{Q:VK}(s:p6 K ρ H U cu)(R:Rl K ρ g H)(e0:Ext gH H0 ρ H)(h:bj P m U g Q0 (LX K gH H0 Ξ))(k:∀x g1 cC H1 v1,Ext ρ H cC H1->Rl K cC g1 H1->c9 K cC H1 x v1->Q0 x g1->Q v1 H1):LE K Ξ (bj P m) cu H Q :=
 #[U,g,ρ,s,R,c5 hP m _ _ _ _ _ _ (λx g1 h cC H1 v1 e1 R1 r1=>k x g1 cC H1 v1 e1 R1 r1 h) (λy y z=>LX.ext e0 z) h]
def ko{Q0:@&D->G->Prop}{Q:@&V->Hp->Prop}(s:p6 K ρ H U cu)(R:Rl K ρ g H)(e0:Ext gH H0 ρ H)(h:fW P m U g Q0 (LX K gH H0 Ξ))(k:∀x g1 cC H1 v1,Ext ρ H cC H1->Rl K cC g1 H1->b8 K cC H1 x v1->Q0 x g1->Q v1 H1):LA K Ξ (fW P m) cu H Q :=
 #[U,g,ρ,s,R,F4 hP m _ _ _ _ _ _ (λx g1 h cC H1 v1 e1 R1 r1=>k x g1 cC H1 v1 e1 R1 r1 h) (λy y z=>LX.ext e0 z) h]
def qS{Q0:Bool->G->Prop}{Q:Bool->Hp->Prop}(s:p6 K ρ H U cu)(R:Rl K ρ g H)(e0:Ext gH H0 ρ H)(h:eF P m U g Q0 (LX K gH H0 Ξ))(k:∀t g1 cC H1,Ext ρ H cC H1->Rl K cC g1 H1->Q0 t g1->Q t H1):LT K Ξ (eF P m) cu H Q :=
 #[U,g,ρ,s,R,n8 hP m _ _ _ _ _ _ (λt g1 h cC H1 e1 R1=>k t g1 cC H1 e1 R1 h) (λx x z=>LX.ext e0 z) h]
def uC{ms:MS}{N:L2.Ends}{N0:Ends}(s:p6 K ρ H U cu)(R:Rl K ρ g H)(e0:Ext gH H0 ρ H)(h:wpS P ms N0 U g (LX K gH H0 Ξ))(k:N0.le (LN K ρ H N)):LS K Ξ (wpS P ms) N cu H :=
 #[U,g,ρ,s,R,wpS_mono hP ms _ _ _ _ _ _ k (λx x z=>LX.ext e0 z) h]
end
def b8.nG{K ρ H}(lo:Int)(n:Nat):b8 K ρ H (p9 lo n) ((List.range n).map λ(k:Nat)=>V.int (lo+k)):=by
 have:∀l:@&Nat,b8 K ρ H (l.map λ(k:Nat)=>D.int (lo+k)) (l.map λ(k:Nat)=>V.int (lo+k)):=by
  intro l
  induction l with
  |nil=>show .nil
  |cons x r ih=>show .cons (.int _) ih
 show this _
section
variable{X:Cx}(hP:d5 P){a b c e:Expr}{ma mb mc:ME}{pos:Pos}{p:Pr}
include hP
def Hd(h:PE X e (uD (r2 X.K p) (LE X.K Ξ (bj P ma)) (LE X.K Ξ (bj P mb)))):PE X e (LE X.K Ξ (bj P (.prim p (.cons ma (.cons mb .nil))))) :=
 h.imp λcu H Q bA=>by
  let#[U,g,ρ,s,R,h]:=bA;show fP hP s R (.refl _ _) h λx g1 cC H1 v1 e1 R1 r1 h=>fP hP (s.ext e1) R1 e1 h λy g2 fk H2 v2 e2 R2 r2 h =>
   #[x,y,g2,fk,R2,r1.ext e2,r2,w5 (λd g' h=>h.ext (e1.trans e2)) h]
def bI1(h:PT X e (GJ (uD (r2 X.K (.cmp op)) (LE X.K Ξ (bj P ma)) (LE X.K Ξ (bj P mb))))):PT X e (LT X.K Ξ (eF P (.fg (.prim (.cmp op) (.cons ma (.cons mb .nil)))))) :=
 h.imp λcu H Q bA=>by
  let#[U,g,ρ,s,R,h]:=bA;show fP hP s R (.refl _ _) h λx g1 cC H1 v1 e1 R1 r1 h=>fP hP (s.ext e1) R1 e1 h λy g2 fk H2 v2 e2 R2 r2 h=>?_;let#[d',g',h,q]:=h;let#[x',y',t,ex,hc,rfl,rfl]:=id h;show#[x,y,g',fk,R2,r1.ext e2,r2,_,_,h,λbQ H' v e' R' r'=>?_];let#[t',ht,q]:=q;rcases ht with⟨z,_⟩|z|⟨i,z,_⟩|⟨l,z,_⟩|⟨a,l,z,_⟩<;>cases z
  show#[_,r'.R9,q bQ H' (e1.trans (e2.trans e')) R']
def ZV{op:UnaryOp}(ha:PE X a (LE X.K Ξ (bj P ma))):PE X (.UnaryOp op a pos) (LE X.K Ξ (bj P (.prim (.un op) (.cons ma .nil)))) :=
 (ZJ (ZD op) ha).imp λcu H Q bA=>by
  let#[U,g,ρ,s,R,h]:=bA;show fP hP s R (.refl _ _) h λx g1 cC H1 v1 e1 R1 r1 h=>#[x,g1,cC,R1,r1,w5 (λd g' h=>h.ext e1) h]
def OF:∀cu H Q,LE X.K Ξ (bj P (.chain op jf ma mb mc)) cu H Q->Hh (r2 X.K (.cmp op)) (r2 X.K (.cmp jf)) (LE X.K Ξ (bj P ma)) (LE X.K Ξ (bj P mb)) (LE X.K Ξ (bj P mc)) cu H Q:=λcu H Q bA=>by
 let#[U,g,ρ,s,R,h]:=bA;show fP hP s R (.refl _ _) h λx g1 cC H1 v1 e1 R1 r1 h=>fP hP (s.ext e1) R1 e1 h λy g2 fk H2 v2 e2 R2 r2 h=>?_;show#[x,y,g2,fk,R2,r1.ext e2,r2,w5 (λd g3 h jb H3 v3 e3 R3 r3=>?_) h];let#[t,rfl,h]:=h;obtain rfl:=r3.R9;show#[t,rfl,?_];cases t
 .exact h jb H3 _ (e1.trans (e2.trans e3)) R3 (.bl _)
 .exact fP hP (s.ext (e1.trans (e2.trans e3))) R3 (e1.trans (e2.trans e3)) h λz g4 lL H4 v4 e4 R4 r4 h =>
   #[y,z,g4,lL,R4,r2.ext (e3.trans e4),r4,w5 (λd g' h=>h.ext (e1.trans (e2.trans (e3.trans e4)))) h]
def Yc(hu:X.A.units+100<cLine)(ha:PE X a (LE X.K Ξ (bj P ma)))(hb:PE X b (LE X.K Ξ (bj P mb)))(hc:PE X c (LE X.K Ξ (bj P mc)))(hm:lastMarks [op,jf] [b,c]=false) :
  PE X (.Compare a [op,jf] [b,c] pos) (LE X.K Ξ (bj P (.chain op jf ma mb mc))):=(XB (vR hu op) (vR hu jf) ha hb hc hm).imp (OF hP)
def WN{U:S}{g:G}{Q:Bool->G->Prop}{E:KX}(h:eF P (.fg (.chain op jf ma mb mc)) U g Q E):bj P (.chain op jf ma mb mc) U g (λd g'=>∃t,d=.bl t/\Q t g') E:=by
 let one:∀{o:CmpOp} {xs:@&D} {g:G},cP (.cmp o) xs g (λd g1=>qH g1 d λb=>Q b g1)->cP (.cmp o) xs g λd g'=>∃t,d=.bl t/\Q t g':=by
  intro o xs g h;let#[d',g',h,t',ht,q]:=h;let#[x',y',t,ex,hc,rfl,rfl]:=id h;show#[_,_,h,t',?_,q];rcases ht with⟨z,_⟩|z|⟨i,z,_⟩|⟨l,z,_⟩|⟨a,l,z,_⟩<;>first|show z|cases z
 show c5 hP ma _ _ _ _ _ _ (λx g1 h=>c5 hP mb _ _ _ _ _ _ (λy g2 h=>w5 (λz g3 h=>?_) h) (λv v z=>z) h) (λv v z=>z) h;let#[t,rfl,h]:=h;show#[t,rfl,?_];cases t
 .let#[b,hb,q]:=(show qH g3 (.bl false) λb=>Q b g3 from h)
  rcases hb with⟨z,_⟩|z|⟨i,z,_⟩|⟨l,z,_⟩|⟨a,l,z,_⟩<;>first|(cases z;show#[_,rfl,q])|cases z
 .exact c5 hP mc _ _ _ _ _ _ (λw g4 h=>one h) (λv v z=>z) h
def Yq(hu:X.A.units+100<cLine)(ha:PE X a (LE X.K Ξ (bj P ma)))(hb:PE X b (LE X.K Ξ (bj P mb)))(hc:PE X c (LE X.K Ξ (bj P mc)))(hm:lastMarks [op,jf] [b,c]=false) :
  PT X (.Compare a [op,jf] [b,c] pos) (LT X.K Ξ (eF P (.fg (.chain op jf ma mb mc)))) :=
 (XU (vR hu op) (vR hu jf) ha hb hc hm).imp λcu H Q ⟨U,g,ρ,s,R,h⟩ =>
  OF hP cu H _ (fP hP s R (.refl _ _) (WN hP h) λx g1 cC H1 v1 e1 R1 r1 h=>by
   let#[t,rfl,h]:=h;show #[t,r1.R9,h cC H1 e1 R1])
def bK5(ha:PE X a (LE X.K Ξ (bj P ma)))(hb:PE X (.BoolOp .And (b::rest) pos) (LE X.K Ξ (bj P mb))):PE X (.BoolOp .And (a::b::rest) pos) (LE X.K Ξ (bj P (.eI ma mb))) :=
 (bN5 ha hb).imp λcu H Q bA=>by
  let#[U,g,ρ,s,R,h]:=bA;show fP hP s R (.refl _ _) h λx g1 cC H1 v1 e1 R1 r1 h=>?_;let#[t,rfl,h]:=h;show#[t,r1.R9,?_];cases t
  .exact h cC H1 _ e1 R1 (.bl _)
  .exact fP hP (s.ext e1) R1 e1 h λy g2 fk H2 v2 e2 R2 r2 h=>h fk H2 v2 (e1.trans e2) R2 r2
def ZU(ha:PE X a (LE X.K Ξ (bj P ma)))(hb:PE X (.BoolOp .Or (b::rest) pos) (LE X.K Ξ (bj P mb))):PE X (.BoolOp .Or (a::b::rest) pos) (LE X.K Ξ (bj P (.jI ma mb))) :=
 (ZI ha hb).imp λcu H Q bA=>by
  let#[U,g,ρ,s,R,h]:=bA;show fP hP s R (.refl _ _) h λx g1 cC H1 v1 e1 R1 r1 h=>?_;let#[t,rfl,h]:=h;show#[t,r1.R9,?_];cases t
  .exact fP hP (s.ext e1) R1 e1 h λy g2 fk H2 v2 e2 R2 r2 h=>h fk H2 v2 (e1.trans e2) R2 r2
  .exact h cC H1 _ e1 R1 (.bl _)
def bK0(ha:PE X a (LE X.K Ξ (bj P ma))):PE X (.UnaryOp .Not a pos) (LE X.K Ξ (bj P (.dt ma))) :=
 (bM9 ha).imp λcu H Q bA=>by
  let#[U,g,ρ,s,R,h]:=bA;show fP hP s R (.refl _ _) h λx g1 cC H1 v1 e1 R1 r1 h=>?_;let#[t,rfl,h]:=h;show#[t,r1.R9,h cC H1 _ e1 R1 (.bl _)]
def bK1(hc:PT X c (LT X.K Ξ (eF P mc)))(ha:PE X a (LE X.K Ξ (bj P ma)))(hb:PE X b (LE X.K Ξ (bj P mb))):PE X (.IfExp c a b pos) (LE X.K Ξ (bj P (.ite mc ma mb))) :=
 (XD hc ha hb).imp λcu H Q bA=>by
  let#[U,g,ρ,s,R,h]:=bA;show qS hP s R (.refl _ _) h λt g1 cC H1 e1 R1 h=>?_;cases t
  .exact fP hP (s.ext e1) R1 e1 h λy g2 fk H2 v2 e2 R2 r2 h=>h fk H2 v2 (e1.trans e2) R2 r2
  .exact fP hP (s.ext e1) R1 e1 h λy g2 fk H2 v2 e2 R2 r2 h=>h fk H2 v2 (e1.trans e2) R2 r2
def bJ8{k:Nat}(h:PA X es (LA X.K Ξ (fW P iy))):PE X (.Tuple es k pos) (LE X.K Ξ (bj P (.prim .tup iy))) :=
 (bM6 h).imp λcu H Q bA=>by
  let#[U,g,ρ,s,R,h]:=bA;show ko hP s R (.refl _ _) h λds g1 cC H1 vs e1 R1 r1 h=>?_;let#[d',g',#[hz,rfl,rfl],q]:=h;show#[by rw[<- -r1];show C5 (aG hz ∅),λp hp=>(q.ext e1).tup R1 hp r1]
def Qv(h:PA X es (LA X.K Ξ (fW P iy))):PE X (.List es pos) (LE X.K Ξ (bj P (.prim .lst iy))) :=
 (bN1 h).imp λcu H Q bA=>by
  let#[U,g,ρ,s,R,h]:=bA;show ko hP s R (.refl _ _) h λds g1 cC H1 vs e1 R1 r1 h=>?_;let#[d',g',#[hz,rfl,rfl],q]:=h;show#[by rw[<- -r1];show C5 (aG hz ∅),λp hp=>(q.ext e1).new R1 hp r1]
def O2:PA X [] (LA X.K Ξ (fW P .nil)) :=
 (P7).imp λcu H Q bA=>by
  let#[U,g,ρ,s,R,h]:=bA;show h ρ H [] (.refl _ _) R .nil
def D9(ha:PE X a (LE X.K Ξ (bj P ma)))(h:PA X es (LA X.K Ξ (fW P iy)))(hs:starEach (a::es) X.env=(false,eval a X.env)::starEach es X.env):PA X (a::es) (LA X.K Ξ (fW P (.cons ma iy))) :=
 (L8 ha h hs).imp λcu H Q bA=>by
  let#[U,g,ρ,s,R,h]:=bA;show fP hP s R (.refl _ _) h λx g1 cC H1 v1 e1 R1 r1 h=>ko hP (s.ext e1) R1 e1 h λxs g2 fk H2 vs e2 R2 r2 h=>h fk H2 _ (e1.trans e2) R2 (.cons (r1.ext e2) r2)
def Yl(ha:PE X a (LE X.K Ξ (bj P ma)))(hb:PE X b (LE X.K Ξ (bj P mb))):PE X (.Subscript a (.Slice (!b) none none p2) pos) (LE X.K Ξ (bj P (.prim (.mU true false) (.cons ma (.cons mb .nil))))) :=
 (OY Lm ha (Oe hb) Od).imp λcu H Q bA=>by
  let#[U,g,ρ,s,R,h]:=bA;show fP hP s R (.refl _ _) h λx g1 cC H1 v1 e1 R1 r1 h=>fP hP (s.ext e1) R1 e1 h λy g2 fk H2 v2 e2 R2 r2 h=>?_;let#[d',g',#[x',i,ex,h],q]:=h;cases ex;show#[i,r2.i9,x,g2,fk,d',g',R2,r1.ext e2,h,q.ext (e1.trans e2)]
def Yk(ha:PE X a (LE X.K Ξ (bj P ma)))(hb:PE X b (LE X.K Ξ (bj P mb))):PE X (.Subscript a (.Slice none (!b) none p2) pos) (LE X.K Ξ (bj P (.prim (.mU false true) (.cons ma (.cons mb .nil))))) :=
 (OY Lm ha Od (Oe hb)).imp λcu H Q bA=>by
  let#[U,g,ρ,s,R,h]:=bA;show fP hP s R (.refl _ _) h λx g1 cC H1 v1 e1 R1 r1 h=>fP hP (s.ext e1) R1 e1 h λy g2 fk H2 v2 e2 R2 r2 h=>?_;let#[d',g',#[x',i,ex,h],q]:=h;cases ex;show#[i,r2.i9,x,g2,fk,d',g',R2,r1.ext e2,h,q.ext (e1.trans e2)]
def bI0(ha:PE X a (LE X.K Ξ (bj P ma)))(he:∀whole,isTrue a X.env whole=(do let v <- whole;standAt a.pos;holding [v] (truthy v))):PT X a (LT X.K Ξ (eF P (.fg ma))) :=
 (XW ha he).imp λcu H Q bA=>by
  let#[U,g,ρ,s,R,h]:=bA;show fP hP s R (.refl _ _) h λx g1 cC H1 v1 e1 R1 r1 h=>?_;let#[b,h1,h2]:=h;show#[b,bG4 R1 r1 h1,h2 cC H1 e1 R1]
def bI2(ha:PT X a (LT X.K Ξ (eF P ma))):PT X (.UnaryOp .Not a pos) (LT X.K Ξ (eF P (.dt ma))) :=
 (bL6 ha).imp λcu H Q bA=>by
  let#[U,g,ρ,s,R,h]:=bA;show qS hP s R (.refl _ _) h λt g1 cC H1 e1 R1 h=>h cC H1 e1 R1
def bH8(ha:PT X a (LT X.K Ξ (eF P ma)))(hb:PW X (.BoolOp .And (b::rest) pos) (LT X.K Ξ (eF P mb))):PW X (.BoolOp .And (a::b::rest) pos) (LT X.K Ξ (eF P (.eI ma mb))) :=
 (bL5 ha hb).imp λcu H Q bA=>by
  let#[U,g,ρ,s,R,h]:=bA;show qS hP s R (.refl _ _) h λt g1 cC H1 e1 R1 h=>?_;cases t
  .exact h cC H1 e1 R1
  .exact qS hP (s.ext e1) R1 e1 h λt g2 fk H2 e2 R2 h=>h fk H2 (e1.trans e2) R2
def ZY(ha:PT X a (LT X.K Ξ (eF P ma)))(hb:PW X (.BoolOp .Or (b::rest) pos) (LT X.K Ξ (eF P mb))):PW X (.BoolOp .Or (a::b::rest) pos) (LT X.K Ξ (eF P (.jI ma mb))) :=
 (ZN ha hb).imp λcu H Q bA=>by
  let#[U,g,ρ,s,R,h]:=bA;show qS hP s R (.refl _ _) h λt g1 cC H1 e1 R1 h=>?_;cases t
  .exact qS hP (s.ext e1) R1 e1 h λt g2 fk H2 e2 R2 h=>h fk H2 (e1.trans e2) R2
  .exact h cC H1 e1 R1
def Wq:lC X [] (LT X.K Ξ (eF P .no)) :=
 (VQ).imp λcu H Q bA=>by
  let#[U,g,ρ,s,R,h]:=bA;show h ρ H (.refl _ _) R
def bK4{v:Value}(hv:(∃id,v=.builtin id)\/∃T,v=.type T)(hc:u4 X v (rN X.K p))(hg:Gl X x)(hm:X.mg x=none)(hb:bootBuiltins x=!v)(ha:PA X (e::es) (LA X.K Ξ (fW P iy)))(hn:x≠"__name__")(hd:(x==("__debug__":Str))=false)(fF:starEach (e::es) X.env=(false,eval e X.env)::starEach es X.env)(gU:(backTo pos (starEach es X.env)).any (·.1)=false):PE X (.Call (.Name x q) (e::es) [] pos) (LE X.K Ξ (bj P (.prim p iy))):=by
 let base:PE X (.Call (.Name x q) (e::es) [] pos) (Cd (rN X.K p) (LA X.K Ξ (fW P iy))):=by
  rcases hv with⟨id,rfl⟩|⟨T,rfl⟩
  .exact X6 hc hg hm hb ha hn hd fF gU
  .exact K7 hc hg hm hb ha hn hd fF gU
 show base.imp λcu H Q bA=>?_;let#[U,g,ρ,s,R,h]:=bA;show ko hP s R (.refl _ _) h λxs g1 cC H1 vs e1 R1 r1 h=>#[xs,g1,cC,R1,r1,w5 (λd g' h=>h.ext e1) h]
def We{T:String}{name:Str}{id:String}(pa:PlainAttrs T)(slot:Slot T name id)(sP:typeOf (.builtin id)=pure (.type "method_descriptor"))(hm:nQ X id (rM X.K p))(hk:∀{d:D} {v:V} {g:G} {ρ:@&Addr} {H:Hp},Rl X.K ρ g H->c9 X.K ρ H d v->nK p d g->pY X.K T v H)(ho:PE X o (LE X.K Ξ (bj P mo)))(ha:PA X (e::es) (LA X.K Ξ (fW P iy)))(gQ:attributeBase o name X.env (eval o X.env)=eval o X.env)(lW:((backTo pos (starEach (e::es) X.env)).all (λx=>~~~x.1)&&(backToKw pos (keywordEach [] X.env)).all (λx=>x.1.isSome)&&decide ((e::es).length+([]:@&Keyword).length+(if([]:@&Keyword).isEmpty then 0 else 1)<30))=true)(gP:(apos.endLine==pos.line)=true)(hs:starEach (e::es) X.env=(false,eval e X.env)::starEach es X.env)(fq:(backTo pos (starEach es X.env)).any (·.1)=false) :
  PE X (.Call (.Attribute o name apos) (e::es) [] pos) (LE X.K Ξ (bj P (.dZ p mo iy))) :=
 (ZH pa slot sP hm ho ha gQ lW gP hs fq).imp λcu H Q bA=>by
  let#[U,g,ρ,s,R,h]:=bA;show fP hP s R (.refl _ _) h λx g1 cC H1 v1 e1 R1 r1 h=>#[hk R1 r1 h.1,ko hP (s.ext e1) R1 e1 h.2 λxs g2 fk H2 ws e2 R2 r2 h =>
   #[x,xs,g2,fk,R2,r1.ext e2,r2,w5 (λd g' h=>h.ext (e1.trans e2)) h]]
def Yh{T:String}{name:Str}{id:String}(pa:PlainAttrs T)(slot:Slot T name id)(sP:typeOf (.builtin id)=pure (.type "method_descriptor"))(hm:nQ X id (rM X.K p))(hk:∀{d:D} {v:V} {g:G} {ρ:@&Addr} {H:Hp},Rl X.K ρ g H->c9 X.K ρ H d v->nK p d g->pY X.K T v H)(ho:PE X o (LE X.K Ξ (bj P mo)))(gQ:attributeBase o name X.env (eval o X.env)=eval o X.env)(gP:(apos.endLine==pos.line)=true) :
  PE X (.Call (.Attribute o name apos) [] [] pos) (LE X.K Ξ (bj P (.dZ p mo .nil))) :=
 (bN4 pa slot sP hm ho gQ gP).imp λcu H Q bA=>by
  let#[U,g,ρ,s,R,h]:=bA;show fP hP s R (.refl _ _) h λx g1 cC H1 v1 e1 R1 r1 h=>#[hk R1 r1 h.1,x,[],g1,cC,R1,r1,.nil,w5 (λd g' h=>h.ext e1) h.2]
omit hP in
def ON{K ρ H}{d:D}{v:V}(r:c9 K ρ H d v)(h:vE d=true):v=toV d/\R6 v=true:=by
 cases r with
 |aR=>show#[rfl,rfl]
 |bl _=>show#[rfl,rfl]
 |int _=>show#[rfl,rfl]
 |str _=>show#[rfl,rfl]
 |ty _=>show absurd h cg
 |ref _=>show absurd h cg
 |tup _ _=>show absurd h cg
omit hP in
def YU{K ρ H}{l:@&D}{vs:@&V}(r:b8 K ρ H l vs)(h:l.all vE=true):vs=l.map toV/\vs.all R6=true:=by
 induction l generalizing vs with
 |nil=>cases r;show#[rfl,rfl]
 |cons d l ih =>
  cases r with
  |cons rd rs =>
   rw[iD,aW] at h;let#[e1,f1]:=ON rd h.1;let#[e2,f2]:=ih rs h.2;subst e1 e2;show#[rfl,by rw[iD,f1,f2];rfl]
omit hP in
def PH{K ρ H}{l:@&D}{vs:@&V}{y:D}{w:V}{n:Nat}(r:b8 K ρ H l vs)(ry:c9 K ρ H y w)(h:S0 l y n):AD vs w n:=by
 let#[h1,h2,#[z,h3,h4],h5]:=h;let#[e1,f1]:=YU r h1;let#[e2,f2]:=ON ry h2;subst e1 e2;show#[f1,f2,#[toV z,by rw[aj,h3];rfl,h4],λm z' hm hz=>?_];rw[aj,ae] at hz;let#[Ri,hz,rfl]:=hz;show h5 m Ri hm hz
def Yd(hu:X.A.units+100<cLine)(ho:PE X o (LE X.K Ξ (bj P mo)))(ha:PA X (e::es) (LA X.K Ξ (fW P iy)))(gQ:attributeBase o "index" X.env (eval o X.env)=eval o X.env)(lW:((backTo pos (starEach (e::es) X.env)).all (λx=>~~~x.1)&&(backToKw pos (keywordEach [] X.env)).all (λx=>x.1.isSome)&&decide ((e::es).length+([]:@&Keyword).length+(if([]:@&Keyword).isEmpty then 0 else 1)<30))=true)(gP:(apos.endLine==pos.line)=true)(hs:starEach (e::es) X.env=(false,eval e X.env)::starEach es X.env)(fq:(backTo pos (starEach es X.env)).any (·.1)=false) :
  PE X (.Call (.Attribute o "index" apos) (e::es) [] pos) (LE X.K Ξ (bj P (.dZ .index mo iy))) :=
 (XE hu ho ha gQ lW gP hs fq).imp λcu H Q bA=>by
  let#[U,g,ρ,s,R,h]:=bA;show fP hP s R (.refl _ _) h λx g1 cC H1 v1 e1 R1 r1 h=>?_;let#[hk,h]:=h;rcases hk with⟨l,rfl⟩|⟨a,l,rfl,hl⟩
  .let#[a',vs,rfl,ta,rs]:=r1.E2;show .inr #[a',vs,rfl,ta.d,ko hP (s.ext e1) R1 e1 h λxs g2 fk H2 ws e2 R2 r2 h=>?_];let#[d',g',#[x,y,l',n,ex,hi,W,hz,rfl,rfl],q]:=h;cases ex;cases hi;let#[w,rfl,gI]:=r2.one;show#[a',vs,w,n,rfl,rfl,(ta.ext e2).sq,PH (rs.ext e2) gI W,(q.ext (e1.trans e2)).now R2 (.int n)]
  .let#[a',rfl,ra]:=r1.j6;let#[vs,hq,_]:=R1.items hl ra;show .inl #[a',vs,rfl,hq,ko hP (s.ext e1) R1 e1 h λxs g2 fk H2 ws e2 R2 r2 h=>?_];let#[d',g',#[x,y,l',n,ex,hi,W,hz,rfl,rfl],q]:=h;cases ex;let#[w,rfl,gI]:=r2.one;let#[pX,CO,mV]:=R2.items (show c8 _ a=some l' from hi) (e2.get ra);let hn:n<2 ^ 62:=by
     let#[_,_,#[z,qe,_],_]:=W;have:=(ak.mp qe).1;omega
   show#[a',pX,w,n,rfl,rfl,CO,PH mV gI W,hn,(q.ext (e1.trans e2)).now R2 (.int n)]
def Ye(hc:X.calm=true)(ha:PE X a (LE X.K Ξ (bj P ma)))(lV:Gl X "list")(mY:X.mg "list"=none)(hg:Gl X "range")(hm:X.mg "range"=none)(hs:starEach [a] X.env=[(false,eval a X.env)]) :
  PE X (.Call (.Name "list" p2) [.Call (.Name "range" q) [a] [] pos] [] jH) (LE X.K Ξ (bj P (.prim .kd (.cons ma .nil)))) :=
 (K7 (Nw hc) lV mY (by rfl) (L8 (a93 hg hm (D9 hP ha (O2 hP) (by rw[hs];rfl)) hs) P7)).imp λcu H Q bA=>by
  let#[U,g,ρ,s,R,h]:=bA;show ko hP s R (.refl _ _) h λxs g1 cC H1 vs e1 R1 r1 h=>?_;let#[d',g',#[j,rfl,h1,h2,rfl,rfl],q]:=h;let#[v,rfl,rv]:=r1.one;obtain rfl:=rv.i9;show#[j,rfl,λq' hq=>#[q',0,j,rfl,l6,#[by omega,by omega,h1,by omega,by omega],λp hp=>?_]];rw[show(j-0).toNat=j.toNat by omega];show(q.ext (e1.trans (v5 hq))).new (R1.grow hq) hp (b8.nG 0 _)
def Yf(hc:X.calm=true)(ha:PE X a (LE X.K Ξ (bj P ma)))(hb:PE X b (LE X.K Ξ (bj P mb)))(lV:Gl X "list")(mY:X.mg "list"=none)(hg:Gl X "range")(hm:X.mg "range"=none)(hs:starEach [a,b] X.env=[(false,eval a X.env),(false,eval b X.env)])(jP:starEach [b] X.env=[(false,eval b X.env)]) :
  PE X (.Call (.Name "list" p2) [.Call (.Name "range" q) [a,b] [] pos] [] jH) (LE X.K Ξ (bj P (.prim .kZ (.cons ma (.cons mb .nil))))) :=
 (K7 (Nw hc) lV mY (by rfl) (L8 (a92 hg hm (D9 hP ha (D9 hP hb (O2 hP) (by rw[jP];rfl)) (by rw[hs,jP])) hs jP) P7)).imp λcu H Q bA=>by
  let#[U,g,ρ,s,R,h]:=bA;show ko hP s R (.refl _ _) h λxs g1 cC H1 vs e1 R1 r1 h=>?_;let#[d',g',#[i,j,rfl,hb,rfl,rfl],q]:=h;let#[v,w,rfl,rv,gI]:=r1.two;obtain rfl:=rv.i9;obtain rfl:=gI.i9;show#[i,j,rfl,λq' hq=>#[q',i,j,rfl,l6,hb,λp hp=>(q.ext (e1.trans (v5 hq))).new (R1.grow hq) hp (b8.nG i _)]]
def Wg(hc:X.calm=true)(ha:PE X a (LE X.K Ξ (bj P ma)))(lV:Gl X "sorted")(mY:X.mg "sorted"=none)(hg:Gl X "set")(hm:X.mg "set"=none)(hs:starEach [a] X.env=[(false,eval a X.env)]) :
  PE X (.Call (.Name "sorted" p2) [.Call (.Name "set" q) [a] [] pos] [] jH) (LE X.K Ξ (bj P (.prim .sset (.cons ma .nil)))) :=
 (X6 (R8 hc) lV mY (by rfl) (L8 (K7 (Nn hc) hg hm (by rfl) (D9 hP ha (O2 hP) (by rw[hs];rfl)) ∅ ∅ (by rw[hs];rfl) rfl) P7)).imp λcu H Q bA=>by
  let#[U,g,ρ,s,R,h]:=bA;show ko hP s R (.refl _ _) h λxs g1 cC H1 vs e1 R1 r1 h=>?_;let#[d',g',#[i,ns,rfl,hl,hz,rfl,rfl],q]:=h;let#[v,rfl,rv]:=r1.one;let#[a',rfl,ra]:=rv.j6;let#[ws,hq,rs]:=R1.items hl ra;obtain rfl:=rs.ints;show#[_,ns,rfl,hq,hz,λq' oG=>#[q',ns,rfl,l6,hz,λp hp=>?_]];show(q.ext (e1.trans (v5 oG))).new (R1.grow oG) hp (b8.ofInts _)
def Wc(hc:X.calm=true)(ha:PE X a (LE X.K Ξ (bj P ma)))(lV:Gl X "len")(mY:X.mg "len"=none)(hg:Gl X "set")(hm:X.mg "set"=none)(hs:starEach [a] X.env=[(false,eval a X.env)]) :
  PE X (.Call (.Name "len" p2) [.Call (.Name "set" q) [a] [] pos] [] jH) (LE X.K Ξ (bj P (.prim .vq (.cons ma .nil)))) :=
 (X6 aG5 lV mY PySem.boot_len (L8 (K7 (Nn hc) hg hm (by rfl) (D9 hP ha (O2 hP) (by rw[hs];rfl)) ∅ ∅ (by rw[hs];rfl) rfl) P7)).imp λcu H Q bA=>by
  let#[U,g,ρ,s,R,h]:=bA;show ko hP s R (.refl _ _) h λxs g1 cC H1 vs e1 R1 r1 h=>?_;let#[d',g',#[i,ns,rfl,hl,hz,rfl,rfl],q]:=h;let#[v,rfl,rv]:=r1.one;let#[a',rfl,ra]:=rv.j6;let#[ws,hq,rs]:=R1.items hl ra;obtain rfl:=rs.ints;show#[_,ns,rfl,hq,by omega,λq' oG=>#[q',_,rfl,l6,?_]];show(q.ext (e1.trans (v5 oG))).now (R1.grow oG) (.int _)
def Wf{i:Int}{j:Nat}(oN:PySem.W.kdsCode X.K X.env.code=true):PE X (.Set [.Constant (.int i) j q] 0 pos) (LE X.K Ξ (bj P (.prim (.kU i) .nil))) :=
 (VG oN).imp λcu H Q bA=>by
  let#[U,g,ρ,s,R,h]:=bA;let#[d',g',#[_,rfl,rfl],q]:=h;show λp hp=>q (ρ++[p]) _ _ (L1 hp) (R.new hp #[rfl,rfl]) (.ref (R.C9 p))
def bK2{f:Str}(ha:PE X a (LE X.K Ξ (bj P ma)))(hb:attributeBase a f X.env (eval a X.env)=eval a X.env):PE X (.Attribute a f pos) (LE X.K Ξ (bj P (.prim (.fld f) (.cons ma .nil)))) :=
 (bN3 ha hb).imp λcu H Q bA=>by
  let#[U,g,ρ,s,R,h]:=bA;show fP hP s R (.refl _ _) h λx g1 cC H1 v1 e1 R1 r1 h=>?_;let#[d',g',#[i,c,fs,ex,hi,hf,rfl],q]:=h;cases ex;let#[a',rfl,ra]:=r1.j6;let#[C,dx,vs,hH,_,hC,rk,na]:=R1.ins hi ra;let lk:=rk.look f;rw[hf] at lk;let#[v,hv,rv]:=lk.some;show#[a',C,dx,vs,v,rfl,hH,hC,na _ (aS hf),hv,q cC H1 v e1 R1 rv]
def bJ9{i j:Nat}{y:Str}{q1 q2 p1 p3 p4 px py:Pos}(hc:X.calm=true)(hi:X.N[i]?=!x)(hj:X.N[j]?=!y)(vx:uu X.env.scope x)(vy:uu X.env.scope y)(dx:(x==("__debug__":Str))=false)(cx:(x==("__classdict__":Str))=false)(dy:(y==("__debug__":Str))=false)(cy:(y==("__classdict__":Str))=false)(lV:Gl X "sorted")(mY:X.mg "sorted"=none)(hg:Gl X "set")(hm:X.mg "set"=none) :
  PE X (.Call (.Name "sorted" p2) [.BinOp (.Call (.Name "set" q1) [.Name x px] [] p1) .BitOr (.Call (.Name "set" q2) [.Name y py] [] p3) p4] [] jH) (LE X.K Ξ (bj P (.prim .wm (.cons (.var i) (.cons (.var j) .nil))))) :=
 (X6 (R8 hc) lV mY (by rfl) (L8 (Le a97 (K7 (Np hc) hg hm (by rfl) (L8 (Hc hi vx dx cx) P7)) (K7 (Np hc) hg hm (by rfl) (L8 (Hc hj vy dy cy) P7))) P7)).imp λcu H Q bA=>by
  let#[U,g,ρ,s,R,h]:=bA;let#[d1,e1,d2,e2,d',g',#[ns,ms,ex,rj,mG,hl,rfl,rfl],q]:=h;cases ex;let#[v1,s1,r1]:=s.val _ _ e1;let#[v2,s2,r2]:=s.val _ _ e2;let#[a1,zw,rfl,t1,og]:=r1.E2;obtain rfl:=og.ints;show#[.ref a1,s1,a1,ns,rfl,t1.sq,by omega,λp1 CP=>?_];let#[a2,pX,Cj,t2,mV]:=(r2.ext (v5 CP)).E2;obtain rfl:=mV.ints;show#[.ref a2,by rw[<- Cj];show s2,a2,ms,rfl,t2.sq,by omega,λp2 qh=>?_];let fh:=j8 (l6) qh;show#[p1,p2,ns,ms,rfl,rfl,fh,by rw[d4 fh];show l6,l6,rj,mG,hl,λp3 xi=>#[p3,ns++ms,rfl,l6,by rw[aY];omega,λp hp=>?_]];show(q.ext (((v5 CP).trans (v5 qh)).trans (v5 xi))).new (((R.grow CP).grow qh).grow xi) hp (b8.ofInts _)
end
section
variable{X:Cx}{pos:Pos}
def bJ7{i:Nat}(hN:X.N[i]?=!x)(hv:uu X.env.scope x)(hd:(x==("__debug__":Str))=false)(nh:(x==("__classdict__":Str))=false):PE X (.Name x pos) (LE X.K Ξ (bj P (.var i))) :=
 (Hc hN hv hd nh).imp λcu H Q bA=>by
  let#[U,g,ρ,s,R,h]:=bA;let#[d,e,h]:=h;let#[v,h1,h2]:=s.val _ _ e;show#[v,h1,h.now R h2]
def vS{e:Expr}{d:D}{v:V}(h:PE X e (tC v))(r:∀ρ H,c9 X.K ρ H d v):PE X e (LE X.K Ξ (bj P (.lit d))) :=
 h.imp λcu H Q bA=>by
  let#[U,g,ρ,s,R,h]:=bA;show LQ.now h R (r ρ H)
def Wa:PE X (.Dict [] [] pos) (LE X.K Ξ (bj P (.prim .rT .nil))) :=
 (XC).imp λcu H Q ⟨U,g,ρ,s,R,h⟩ p hp=>by
  let#[d',g',#[_,rfl,rfl],q]:=h;show q (ρ++[p]) _ _ (L1 hp) (R.new hp d6.nil) (.ref (R.C9 p))
end
end M
namespace L2
open PySem PySem.Spec PyProof.Rows
section
variable{X:Cx}{m:Str}{pos apos:Pos}{e o:Expr}{es:@&Expr}{ta:TE}{t:TA}
def bH2(X:Cx)(m:Str)(E:XK)(ta:TE)(t:TA):TE:=λU H Q=>ta U H λx H1=>∃a C dx fs f fd ps k sp,x=.ref a/\H1 a=!.ins C dx fs/\fs.lookup m=none/\jT X.K C/\Meth X.K C m f /\
 iq X.prog X.w X.K X.mg X.base (iB X.prog X.w) k f fd ps sp/\x8 k X.A/\Binds X.K fd ps []/\t U H1 λvs H2=>sp (x::(vs++[])) H2 Q E
def XG{pl:Sem Bool}{E:XK}(he:PE X o ta)(hx:Passes (iB X.prog X.w) X E)(ha:PA X (e::es) t)(fF:starEach (e::es) X.env=(false,eval e X.env)::starEach es X.env)(gU:(backTo pos (starEach es X.env)).any (·.1)=false)(ht:eval (.Call (.Attribute o m apos) (e :: es) [] pos) X.env=(do
   let ov <- eval o X.env
   standAt apos.atName
   let (f,first) <- holding [ov] (getMethod ov m pl)
   callWith pos f first (backTo pos (starEach (e :: es) X.env)) (backToKw pos (keywordEach [] X.env)))) :
  PE X (.Call (.Attribute o m apos) (e::es) [] pos) (bH2 X m E ta t):=by
 intro pi s U H Q I h;show zj (cN (he pi s U H _ I h) λu s1 bA=>?_) ht;let#[x,H1,I1,rx,a,C,dx,fs,f,fd,ps,k,sp,ex,ea,l,c,hm,F,hr,hb,q]:=bA;subst ex;obtain rfl:u=Value.ref a:=rx;show MG I1 ea c hm l ?_;show kP I.ok.mod.ow hm.kp (cN (ha pos pi s1 U H1 _ I1 q) ?_) fF gU;rintro us s2 ⟨vs,H2,I2,r,q2⟩;show #[I2.gT,?_];show Aw (vs:=.ref a::vs) F hr hb .nil hx I2 (.cons rfl r) q2
def Wv(X:Cx)(m:Str)(E:XK)(ta:TE):TE:=λU H Q=>ta U H λx H1=>∃a C dx fs f fd ps k sp,x=.ref a/\H1 a=!.ins C dx fs/\fs.lookup m=none/\jT X.K C/\Meth X.K C m f /\
 iq X.prog X.w X.K X.mg X.base (iB X.prog X.w) k f fd ps sp/\x8 k X.A/\Binds X.K fd ps []/\sp [x] H1 Q E
def a94{pl:Sem Bool}{E:XK}(he:PE X o ta)(hx:Passes (iB X.prog X.w) X E)(ht:eval (.Call (.Attribute o m apos) [] [] pos) X.env=(do
   let ov <- eval o X.env
   standAt apos.atName
   let (f,first) <- holding [ov] (getMethod ov m pl)
   callWith pos f first (backTo pos (starEach [] X.env)) (backToKw pos (keywordEach [] X.env)))) :
  PE X (.Call (.Attribute o m apos) [] [] pos) (Wv X m E ta):=by
 intro pi s U H Q I h;show zj (cN (he pi s U H _ I h) λu s1 bA=>?_) ht;let#[x,H1,I1,rx,a,C,dx,fs,f,fd,ps,k,sp,ex,ea,l,c,hm,F,hr,hb,q]:=bA;subst ex;obtain rfl:u=Value.ref a:=rx;show MG I1 ea c hm l ?_;show kj I1.gT hm.kp (Aw (us:=[.ref a]) (vs:=[.ref a]) F hr hb .nil hx I1 (.cons rfl .nil) q)
end
end L2
namespace M
open PySem L2 PySem.Spec PyProof.Rows
variable{K:PySem.W.Frag}{H H0:Hp}{a fa C:Addr}{x:Str}{p:Pos}{k f j:Nat}{fd:FuncData}{ps:@&Str}{gH:@&Addr}{xs:@&D}{vs:@&V}{es:@&Expr}{e:Expr}{iy:ME}
inductive rR(K:PySem.W.Frag):@&D->@&(Str×V)->Prop
 |nil:rR K [] []
 |cons {x:Str} {d:D} {v:V} {ds:@&D} {vs:@&(Str×V)} (h:∀ρ H,c9 K ρ H d v) (r:rR K ds vs):rR K (.tup [.str x,d]::ds) ((x,v)::vs)
set_option tactic.hygienic true in
def rR.look{ρ:@&Addr}{ds vs}(x:Str)(h:rR K ds vs):ui K ρ H (U3 ds x) (vs.lookup x):=by
 induction h with
 |nil=>trivial
 |cons h r ih =>
  rename_i y d v ds vs;unfold U3;rw[dS];by_cases e:x=y
  .rw[az e,show(x==y)=true from by simp[e]];show h ρ H
  .rw[aA e,show(x==y)=false from by simpa using e];show ih
def Ks(X:Cx)(x:Str)(kvs:@&D):Prop:=∃A vs,X.mg x=!.ref A/\Bh X.K X.w.params A vs/\rR X.K kvs vs
section
variable{X:Cx}{Ξ:iZ}{P:fG}(hP:d5 P){a c:Expr}{ma:ME}{pos:Pos}
include hP
def Wb{kvs:@&D}(hg:Gl X x)(hd:(x==("__debug__":Str))=false)(hG:Ks X x kvs)(ha:PE X a (LE X.K Ξ (bj P ma)))(hs:Hq a):PE X (.Subscript (.Name x p) a pos) (LE X.K Ξ (bj P (.prim .oU (.cons (.lit (.tup kvs)) (.cons ma .nil))))):=by
 let#[A,vs,hmg,hk,gr]:=hG;show(Ld (b10 (kvs:=vs)) (Ob (v:=.ref A) hg hmg rfl hd) ha hs).imp λcu H Q bA=>?_;let#[U,g,ρ,s,R,h]:=bA;show fP hP s R (.refl _ _) h λd g1 cC H1 v1 e1 R1 r1 h=>?_;let#[d',g',#[Sg,z,ex,hz,rfl],q]:=h;cases ex;obtain rfl:=r1.Hg;let lk:=gr.look (ρ:=cC) (H:=H1) z;rw[hz] at lk;let#[w,hw,lk]:=lk.some;show#[A,z,w,rfl,hk,rfl,hw,q cC H1 _ e1 R1 lk]
omit hP in
abbrev qW(ex:@&Str)(K:PySem.W.Frag)(n:Nat)(t:@&D->G->KD->KX->Prop):Sp:=λvs H Q E=>-vs=n/\∃ds g ρ,b8 K ρ H ds vs/\Rl K ρ g H/\t ds g (LQ K ρ H Q) (LX K ρ H (ex,E))
omit hP in
abbrev pR(X:Cx)(P:fG)(ex:@&Str)(k f:Nat)(fa:Addr)(fd:FuncData)(ps:@&Str):Prop :=
 iq X.prog X.w X.K X.mg X.base (iB X.prog X.w) k fa fd ps (qW ex X.K (-ps) (P f))/\Binds X.K fd ps []/\∀ds g Q E,P f ds g Q E->-ds=-ps
def yk{k:Nat}(F:pR X P Ξ.1 k f fa fd ps){ρ:@&Addr}{g:G}{Q0:KD}{Q:VK}(e0:Ext gH H0 ρ H)(R:Rl X.K ρ g H)(r:b8 X.K ρ H xs vs)(h:P f xs g Q0 (LX X.K gH H0 Ξ))(k:∀d g',Q0 d g'->LQ X.K ρ H Q d g'):qW Ξ.1 X.K (-ps) (P f) (vs++[]) H Q Ξ.2:=by
 rw[fu];show#[by rw[<- -r];show F.2.2 _ _ _ _ h,xs,g,ρ,r,R,hP _ _ _ _ _ _ _ k (λx x z=>LX.ext e0 z) h]
def V'(hx:Passes (iB X.prog X.w) X Ξ.2)(F:pR X P Ξ.1 k f fa fd ps)(hr:x8 k X.A)(hg:Gl X x)(hm:X.mg x=!.ref fa)(hk:PySem.W.keepIn X.K (.ref fa)=true)(ha:PA X (e::es) (LA X.K Ξ (fW P iy)))(hd:(x==("__debug__":Str))=false)(fF:starEach (e::es) X.env=(false,eval e X.env)::starEach es X.env)(gU:(backTo pos (starEach es X.env)).any (·.1)=false):PE X (.Call (.Name x p) (e::es) [] pos) (LE X.K Ξ (bj P (.call f iy))) :=
 (bA0 F.1 hr hg hm hk F.2.1 .nil hx ha hd fF gU).imp λcu H Q bA=>by
  let#[U,g,ρ,s,R,h]:=bA;show ko hP s R (.refl _ _) h λxs g1 cC H1 vs e1 R1 r1 h=>yk hP F e1 R1 r1 h λd g' h=>h.ext e1
def Yb(hx:Passes (iB X.prog X.w) X Ξ.2)(F:pR X P Ξ.1 k f fa fd ps)(hr:x8 k X.A)(hg:Gl X x)(hm:X.mg x=!.ref fa)(hk:PySem.W.keepIn X.K (.ref fa)=true)(hd:(x==("__debug__":Str))=false):PE X (.Call (.Name x p) [] [] pos) (LE X.K Ξ (bj P (.call f .nil))) :=
 (XA F.1 hr hg hm hk F.2.1 .nil hx hd).imp λcu H Q bA=>by
  let#[U,g,ρ,s,R,h]:=bA;show yk hP F (.refl _ _) R .nil h λd g' h=>h
def NX{c:Str}(F:pR X P Ξ.1 k f fa fd ps)(hC:u9 X.K c C)(hc:jT X.K C){ρ:@&Addr}{g1:G}{Q:VK}(e0:Ext gH H0 ρ H)(R:Rl X.K ρ g1 H)(r:b8 X.K ρ H xs vs)(h:P f (.ref (-g1)::xs) (g1++[.ins c []]) (λd g2=>d=.aR/\LQ X.K gH H0 Q (.ref (-g1)) g2) (LX X.K gH H0 Ξ)):∀x dx,H x=none->H dx=none->dx≠x->qW Ξ.1 X.K (-ps) (P f) (.ref x::(vs++[])) (upd (upd H dx (.own x)) x (.ins C dx [])) (λv H2=>v=.aR/\Q (.ref x) H2) Ξ.2:=by
 intro x dx hx JI fh;let rg:upd H dx (.own x) x=none:=by rw[d4 (bR fh)];show hx
 let R2:=R.grow (o:=.own x) JI;let e2:Ext ρ H ρ (upd H dx (.own x)):=v5 JI;let R3:=R2.new (o:=.ins c []) (u:=.ins C dx []) rg #[hC,hc,.nil,λx hx=>absurd hx #[_]];let e3:Ext ρ (upd H dx (.own x)) (ρ++[x]) (upd (upd H dx (.own x)) x (.ins C dx [])):=L1 rg;have:=yk hP F (e0.trans (e2.trans e3)) R3 (.cons (.ref (R.C9 x)) (r.ext (e2.trans e3))) h (Q:=λv H2=>v=.aR/\Q (.ref x) H2) λd g' q bQ H' v e' R' r'=>by
  let#[rfl,q]:=q;show#[r'.Av,q bQ H' _ (e0.trans (e2.trans (e3.trans e'))) R' (.ref (e'.get (R.C9 x)))]
 show this
def Wd(hx:Passes (iB X.prog X.w) X Ξ.2)(F:pR X P Ξ.1 k f fa fd ps)(M:Mk X.K C fa)(hC:u9 X.K x C)(hc:jT X.K C)(hr:x8 (k+1) X.A)(hg:Gl X x)(hm:X.mg x=!.ref C)(ha:PA X (e::es) (LA X.K Ξ (fW P iy)))(hd:(x==("__debug__":Str))=false)(fF:starEach (e::es) X.env=(false,eval e X.env)::starEach es X.env)(gU:(backTo pos (starEach es X.env)).any (·.1)=false):PE X (.Call (.Name x p) (e::es) [] pos) (LE X.K Ξ (bj P (.make x f iy))) :=
 (VF M F.1 hr hg hm F.2.1 .nil hx ha hd fF gU).imp λcu H Q bA=>by
  let#[U,g,ρ,s,R,h]:=bA;show ko hP s R (.refl _ _) h λxs g1 cC H1 vs e1 R1 r1 h=>NX hP F hC hc e1 R1 r1 h
def Yg(hx:Passes (iB X.prog X.w) X Ξ.2)(F:pR X P Ξ.1 k f fa fd ps)(M:Mk X.K C fa)(hC:u9 X.K x C)(hc:jT X.K C)(hr:x8 (k+1) X.A)(hg:Gl X x)(hm:X.mg x=!.ref C)(hd:(x==("__debug__":Str))=false):PE X (.Call (.Name x p) [] [] pos) (LE X.K Ξ (bj P (.make x f .nil))) :=
 (XF M F.1 hr hg hm F.2.1 .nil hx hd).imp λcu H Q bA=>by
  let#[U,g,ρ,s,R,h]:=bA;show NX hP F hC hc (.refl _ _) R .nil h
omit hP in
def Ho(X:Cx)(P:fG)(ex:@&Str)(m:Str)(cs:@&(Str×Nat)):Prop:=∀c f C,cs.lookup c=!f->u9 X.K c C->∃k fa fd ps,Meth X.K C m fa/\pR X P ex k f fa fd ps/\x8 k X.A
def Yi{m:Str}{cs:@&(Str×Nat)}{o:Expr}{mo:ME}{apos:Pos}{pl:Sem Bool}(hx:Passes (iB X.prog X.w) X Ξ.2)(hM:Ho X P Ξ.1 m cs)(ho:PE X o (LE X.K Ξ (bj P mo)))(ha:PA X (e::es) (LA X.K Ξ (fW P iy)))(fF:starEach (e::es) X.env=(false,eval e X.env)::starEach es X.env)(gU:(backTo pos (starEach es X.env)).any (·.1)=false)(ht:eval (.Call (.Attribute o m apos) (e :: es) [] pos) X.env=(do
   let ov <- eval o X.env
   standAt apos.atName
   let (f,first) <- holding [ov] (getMethod ov m pl)
   callWith pos f first (backTo pos (starEach (e :: es) X.env)) (backToKw pos (keywordEach [] X.env)))):PE X (.Call (.Attribute o m apos) (e :: es) [] pos) (LE X.K Ξ (bj P (.cT m cs mo iy))) :=
 (XG ho hx ha fF gU ht).imp λcu H Q bA=>by
  let#[U,g,ρ,s,R,h]:=bA;show fP hP s R (.refl _ _) h λx g1 cC H1 v1 e1 R1 r1 h=>?_;let#[i,c,fs,f,rfl,hi,hf,rA,h]:=h;let#[a',rfl,ra]:=r1.j6;let#[C,dx,vs,hH,hC,ke,rk,na]:=R1.ins hi ra;let#[k,fa,fd,ps,M,F,hr]:=hM c f C rA hC;let lk:=rk.look m;rw[hf] at lk;let hl:vs.lookup m=none:=by cases e:vs.lookup m with|none=>rfl|some w=>rw[e] at lk;show lk.elim
  show#[a',C,dx,vs,fa,fd,ps,k,_,rfl,hH,hl,ke,M,F.1,hr,F.2.1,?_];show ko hP (s.ext e1) R1 e1 h λxs g2 fk H2 ws e2 R2 r2 h=>yk hP F (e1.trans e2) R2 (.cons (.ref (e2.get ra)) r2) h λd g' h=>h.ext (e1.trans e2)
def a73{m:Str}{cs:@&(Str×Nat)}{o:Expr}{mo:ME}{apos:Pos}{pl:Sem Bool}(hx:Passes (iB X.prog X.w) X Ξ.2)(hM:Ho X P Ξ.1 m cs)(ho:PE X o (LE X.K Ξ (bj P mo)))(ht:eval (.Call (.Attribute o m apos) [] [] pos) X.env=(do
   let ov <- eval o X.env
   standAt apos.atName
   let (f,first) <- holding [ov] (getMethod ov m pl)
   callWith pos f first (backTo pos (starEach [] X.env)) (backToKw pos (keywordEach [] X.env)))):PE X (.Call (.Attribute o m apos) [] [] pos) (LE X.K Ξ (bj P (.cT m cs mo .nil))) :=
 (a94 ho hx ht).imp λcu H Q bA=>by
  let#[U,g,ρ,s,R,h]:=bA;show fP hP s R (.refl _ _) h λx g1 cC H1 v1 e1 R1 r1 h=>?_;let#[i,c,fs,f,rfl,hi,hf,rA,h]:=h;let#[a',rfl,ra]:=r1.j6;let#[C,dx,vs,hH,hC,ke,rk,na]:=R1.ins hi ra;let#[k,fa,fd,ps,M,F,hr]:=hM c f C rA hC;let lk:=rk.look m;rw[hf] at lk;let hl:vs.lookup m=none:=by cases e:vs.lookup m with|none=>rfl|some w=>rw[e] at lk;show lk.elim
  show#[a',C,dx,vs,fa,fd,ps,k,_,rfl,hH,hl,ke,M,F.1,hr,F.2.1,yk hP F e1 R1 (.cons (.ref ra) .nil) h λd g' h=>h.ext e1]
end
inductive lz(K:PySem.W.Frag)(ρ:@&Addr)(H:Hp):@&D->@&(V×V)->Prop
 |nil:lz K ρ H [] []
 |cons {k d:D} {x y:V} {ds:@&D} {ps:@&(V×V)} (h1:c9 K ρ H k x) (h2:c9 K ρ H d y) (r:lz K ρ H ds ps):lz K ρ H (k::d::ds) ((x,y)::ps)
set_option tactic.hygienic true in
def bS7{K ρ H}{ps:@&(V×V)}(r:lz K ρ H xs ps):∀{acc kvs:@&(Key×D)} {accV:@&(Key×V)},vW xs acc=!kvs->d6 K ρ H acc accV->∃more:@&(Key×V),ps=more.map (λkv=>(kV kv.1,kv.2))/\2*-more=-xs/\d6 K ρ H kvs (X9 accV more):=by
 induction r with
 |nil =>
  intro acc kvs accV h ra;cases h;show#[[],rfl,rfl,ra]
 |cons h1 h2 r ih =>
  rename_i k d x y ds ps;intro acc kvs accV h ra;simp only[vW] at h;cases hk:pO k with
  |none=>simp_all
  |some c =>
   rw[hk] at h;let#[more,e1,e2,r2]:=ih (show vW ds (putD acc c d)=some kvs from h) (ra.put h2);let ex:=yG hk h1;show#[(c,y)::more,by simp_all,by grind,r2]
section
variable{X:Cx}{Ξ:iZ}{P:fG}(hP:d5 P){pos:Pos}
inductive nR(X:Cx)(Ξ:iZ)(P:fG):@&(Option Expr)->@&Expr->ME->@&(TE×TE)->Prop
 |nil:nR X Ξ P [] [] .nil []
 |cons {k v:Expr} {ks:@&(Option Expr)} {vs:@&Expr} {mk mv ms:ME} {jd:@&(TE×TE)} (hk:PE X k (LE X.K Ξ (bj P mk))) (hv:PE X v (LE X.K Ξ (bj P mv))) (r:nR X Ξ P ks vs ms jd) :
   nR X Ξ P (some k::ks) (v::vs) (.cons mk (.cons mv ms)) ((LE X.K Ξ (bj P mk),LE X.K Ξ (bj P mv))::jd)
def nR.RJ{ks vs ms jd}(h:nR X Ξ P ks vs ms jd):zd X pos ks vs jd:=by
 induction h with
 |nil=>show VJ
 |cons hk hv r ih=>show XQ hk hv ih
def nR.len{ks vs ms jd}(h:nR X Ξ P ks vs ms jd):ks.all (·.isSome)=true/\-ks=-vs:=by
 induction h with
 |nil=>show#[rfl,rfl]
 |cons hk hv r ih=>show#[by simpa using ih.1,by simp[ih.2]]
include hP
def nR.pairs{ks vs ms jd}(hd:nR X Ξ P ks vs ms jd):∀{cu:L2.St} {U:S} {g:G} {ρ gH:@&Addr} {H H0:Hp} {Qd:@&D->G->Prop} {Q:@&(V×V)->Hp->Prop},p6 X.K ρ H U cu->Rl X.K ρ g H->Ext gH H0 ρ H->fW P ms U g Qd (LX X.K gH H0 Ξ) ->
  (∀ds g' bQ H' ps,Ext ρ H bQ H'->Rl X.K bQ g' H'->lz X.K bQ H' ds ps->Qd ds g'->Q ps H')->Ax jd cu H Q:=by
 induction hd with
 |nil =>
  intro cu U g ρ gH H H0 Qd Q s R e0 h k;show k [] g ρ H [] (.refl _ _) R .nil h
 |cons hk hv r ih =>
  intro cu U g ρ gH H H0 Qd Q s R e0 h k;show fP hP s R e0 h λx g1 cC H1 v1 e1 R1 r1 h=>fP hP (s.ext e1) R1 (e0.trans e1) h λy g2 fk H2 v2 e2 R2 r2 h=>?_;show ih (s.ext (e1.trans e2)) R2 (e0.trans (e1.trans e2)) h λds g' bQ H' ps e' R' rp hq=>?_;show k _ g' bQ H' _ (e1.trans (e2.trans e')) R' (.cons (r1.ext (e2.trans e')) (r2.ext e') rp) hq
def bK3{ks:@&(Option Expr)}{vs:@&Expr}{ms:ME}{jd:@&(TE×TE)}(hd:nR X Ξ P ks vs ms jd)(h0:ks≠[])(rF:-ks<=15):PE X (.Dict ks vs pos) (LE X.K Ξ (bj P (.pJ ms))) :=
 (VE hd.RJ hd.len.1 hd.len.2 h0 rF).imp λcu H Q ⟨U,g,ρ,s,R,h⟩ p hp=>by
  let e1:Ext ρ H (ρ++[p]) (upd H p (.dK [])):=L1 hp;show nR.pairs hP hd (s.ext e1) (R.new hp (o:=.cV []) (u:=.dK []) d6.nil) e1 h λds g2 fk H2 ps e2 R2 rp hq=>?_;let#[kvs,hk,hz,hg,q]:=hq;let qh:fk[(-g)]?=!p:=e2.get (R.C9 p);let#[vs',hv,rv]:=R2.cV hg qh;cases rv;let#[more,em,hl,rk]:=bS7 rp hk (accV:=[]) .nil;show#[hv,more,em,by omega,?_];let#[R3,e3]:=R2.put (o':=.cV kvs) (u:=.dK (X9 [] more)) hg rfl qh rk;show q fk _ _ (e1.trans (e2.trans e3)) R3 (.ref qh)
end
def b05{l:@&D}(ht:TupAt K H0 a vs)(rs:b8 K gH H0 l vs):pM K gH H0 (.fix l) (HY K a):=by
 intro ρ g H e R i;let sQ:=ht.ext e;let wA:=rs.ext e;show#[λh=>#[vs,sQ.sq,?_],λd h=>?_]
 .have:=dA.mp (aO h);rw[<- -wA];show this
 .let#[v,hv,rv]:=wA.get (aO h);show#[#[vs,v,sQ.sq,hv],λw H' y=>?_];let#[rfl,y]:=y;have:=y vs sQ.sq;rw[hv] at this;cases this;show#[.refl _ _,R,rv]
def b07(ha:gH[j]?=!a):pM K gH H0 (.lst j) (HZ K a):=by
 intro ρ g H e R i;let nj:=e.get ha;show#[λh=>?_,λd h=>?_]
 .simp only[IK.at] at h;cases el:c8 g j with
  |none=>simp_all
  |some l =>
   rw[el] at h;let#[vs,hq,rs]:=R.items el nj;show#[vs,hq,?_];have:=dA.mp (aO h);rw[<- -rs];show this
 .simp only[IK.at] at h;cases el:c8 g j with
  |none=>simp_all
  |some l =>
   rw[el] at h;let#[vs,hq,rs]:=R.items el nj;let#[v,hv,rv]:=rs.get (aO h);show#[#[vs,v,hq,hv],λw H' y=>?_];let#[rfl,y]:=y;have:=y vs hq;rw[hv] at this;cases this;show#[.refl _ _,R,rv]
def KR{lo:Int}{n:Nat}:pM K gH H0 (.fix (p9 lo n)) (zh lo n):=by
 unfold p9;intro ρ g H e R i;show#[λh=>?_,λd h=>?_]
 .have:=dA.mp (aO h);change n<=i;simpa using this
 .let h:=aO h;let hi:i<n:=by
   have:=(ak.mp h).1
   simp_all
  rw[aj,da hi] at h;cases h;show#[hi,λw H' y=>?_];let#[rfl,rfl]:=y;show#[.refl _ _,R,.int _]
def b06{n:Nat}(ha:gH[j]?=!a):pM K gH H0 (.uG j n) (HX K a n):=by
 intro ρ g H e R i;let nj:=e.get ha;show#[λh=>?_,λd h=>?_]
 .simp only[IK.at] at h;cases el:c8 g j with
  |none=>simp_all
  |some l =>
   rw[el] at h;dsimp only at h;by_cases hl:-l=n
   .rw[az hl] at h;let h:=aO h;by_cases hi:i<n
    .rw[az hi] at h;have:=dA.mp h;omega
    .exact iQ hi
   simp_all
 .simp only[IK.at] at h;cases el:c8 g j with
  |none=>simp_all
  |some l =>
   rw[el] at h;dsimp only at h;by_cases hl:-l=n
   .rw[az hl] at h;let h:=aO h;by_cases hi:i<n
    .rw[az hi] at h;let#[vs,hq,rs]:=R.items el nj;let#[v,hv,rv]:=rs.get h;show#[#[vs,v,hq,by rw[<- -rs];show hl,hi,hv],λw H' y=>?_];let#[rfl,y]:=y;have:=y vs hq;rw[hv] at this;cases this;show#[.refl _ _,R,rv]
    .rw[aA hi] at h;cases h
   simp_all
def b08(ha:gH[j]?=!a):pM K gH H0 (.tV j) (Ia K a):=by
 intro ρ g H e R i;let nj:=e.get ha;show#[λh=>?_,λd h=>?_]
 .simp only[IK.at] at h;cases el:c8 g j with
  |none=>rw[el] at h;cases h
  |some l =>
   rw[el] at h;let#[vs,hq,rs]:=R.items el nj;show#[vs,hq,?_];let h:=aO h;rw[Option.map_eq_none_iff] at h;have:=dA.mp h;rw[<- -rs];show this
 .simp only[IK.at] at h;cases el:c8 g j with
  |none=>simp_all
  |some l =>
   rw[el] at h;let#[vs,hq,rs]:=R.items el nj;let h:=aO h;rw[ae] at h;let#[d',hd,rfl]:=h;let#[v,hv,rv]:=rs.get hd;show#[#[vs,v,hq,hv],λw H' y=>?_];let#[p,x,hp,rfl,y,rfl]:=y;have:=y vs hq;rw[hv] at this;cases this;show#[v5 hp,R.grow hp,.tup (.inl l6) (.cons (.int _) (.cons (rv.ext (v5 hp)) .nil))]
end M
namespace L2
open PySem PySem.Spec PyProof.Rows
def bM2{X:Cx}{tg l:Expr}{tl:TE}(hl:PE X l tl):PI X tg l (λU H R=>tl U H λx H1=>(∃a,x=.ref a/\(∃xs,gw X.K H1 a xs)/\R (HZ X.K a) H1)\/(∃a,x=.ref a/\(∃xs,ja X.K H1 a xs)/\R (HY X.K a) H1)):=by
 intro pi s U H R I h;show cN (hl pi s U H _ I h) λv s1 bA=>?_;let#[x,H1,I1,r1,q1]:=bA;rcases q1 with⟨a,e,⟨xs,hq⟩,q⟩|⟨a,e,⟨xs,hq⟩,q⟩
 .subst e;cases r1;let#[bo,rv,p,hz]:=I1.list hq;show jw p.isList ?_;show#[s1⁻¹,[s1⁻¹],_,_,H1,rfl,I1.kept (t':=s1.toks) λb o e=>av _ e,a60 a _,#[_,aJ _ rfl,rfl,rfl],λb hb=>?_,q];let e:b=s1⁻¹:=by simpa using hb
  subst e;show I1.rV (aw _) (I1.bV.fresh (aw _))
 .subst e;cases r1;let#[bo,rv,p,hz]:=I1.tuple hq;show wpAny_pyIter_tuple (show s1.heap.IsTuple a bo.toArray from p) ?_;show#[s1⁻¹,[s1⁻¹],_,_,H1,rfl,I1.kept (t':=s1.toks) λb o e=>av _ e,aY5 a _,#[_,aJ _ rfl,rfl,rfl],λb hb=>?_,q];let e:b=s1⁻¹:=by simpa using hb
  subst e;show I1.rV (aw _) (I1.bV.fresh (aw _))
end L2
namespace M
open PySem L2 PySem.Spec PyProof.Rows
variable{X:Cx}{tg o:Expr}{pos p tp:Pos}{i:Nat}{x f:Str}{t:MT}{mo mi gN me:ME}{cs:@&Str}{c7:@&Nat}
section
variable{Ξ:iZ}{P:fG}(hP:d5 P){a b:Expr}{ma mb:ME}
include hP
def bJ1(ha:PE X a (LE X.K Ξ (bj P ma))):PI X tg a (LI X.K Ξ (gS P (.gp ma))) :=
 (bM2 ha).imp λcu H R bA=>by
  let#[U,g,ρ,s,Rr,h]:=bA;show fP hP s Rr (.refl _ _) h λx g1 cC H1 v1 e1 R1 r1 h=>?_;rcases h with⟨l,rfl,h⟩|⟨i,l,rfl,hl,h⟩
  .let#[a',vs,rfl,ht,rs]:=r1.E2;show .inr #[_,rfl,#[_,ht.sq],h cC H1 _ e1 R1 (b05 ht rs)]
  .let#[a',rfl,nj]:=r1.j6;let#[vs,hq,rs]:=R1.items hl nj;show .inl #[_,rfl,#[_,hq],h cC H1 _ e1 R1 (b07 nj)]
def Wk{elts:@&Expr}{x1:Nat}(ha:PE X a (LE X.K Ξ (bj P ma)))(hg:Gl X "enumerate")(hm:X.mg "enumerate"=none)(hs:starEach [a] X.env=[(false,eval a X.env)]):PI X (.Tuple elts x1 tp) (.Call (.Name "enumerate" p) [a] [] pos) (LI X.K Ξ (gS P (.lg ma))) :=
 (VI hg hm (D9 hP ha (O2 hP) (by rw[hs];rfl)) hs).imp λcu H R bA=>by
  let#[U,g,ρ,s,Rr,h]:=bA;show ko hP s Rr (.refl _ _) (Q0:=λxs g1=>∃a l,xs=[.ref a]/\c8 g1 a=!l/\∀bQ H' J,Ext ρ H bQ H'->Rl X.K bQ g1 H'->pM X.K bQ H' (.tV a) J->R J H') ?_ λxs g1 cC H1 vs e1 R1 r1 h=>?_
  .exact c5 hP ma _ _ _ _ _ _ (by rintro x g1 ⟨i,l,e,hl,h⟩;show #[i,l,by rw[e],hl,h]) (λy y z=>z) h
  .let#[j,l,rfl,hl,h]:=h;let#[v,rfl,rv]:=r1.one;let#[a',rfl,ra]:=rv.j6;let#[vs,hq,rs]:=R1.items hl ra;show#[_,rfl,#[_,hq],h cC H1 _ e1 R1 (b08 ra)]
def bJ2(ha:PE X a (LE X.K Ξ (bj P ma)))(hg:Gl X "reversed")(hm:X.mg "reversed"=none)(hs:starEach [a] X.env=[(false,eval a X.env)]):PI X tg (.Call (.Name "reversed" p) [a] [] pos) (LI X.K Ξ (gS P (.pq ma))) :=
 (bM3 hg hm (D9 hP ha (O2 hP) (by rw[hs];rfl)) hs).imp λcu H R bA=>by
  let#[U,g,ρ,s,Rr,h]:=bA;show ko hP s Rr (.refl _ _) (Q0:=λxs g1=>∃a l,xs=[.ref a]/\c8 g1 a=!l/\∀bQ H' J,Ext ρ H bQ H'->Rl X.K bQ g1 H'->pM X.K bQ H' (.uG a (-l)) J->R J H') ?_ λxs g1 cC H1 vs e1 R1 r1 h=>?_
  .exact c5 hP ma _ _ _ _ _ _ (by rintro x g1 ⟨i,l,e,hl,h⟩;show #[i,l,by rw[e],hl,h]) (λy y z=>z) h
  .let#[j,l,rfl,hl,h]:=h;let#[v,rfl,rv]:=r1.one;let#[a',rfl,ra]:=rv.j6;let#[vs,hq,rs]:=R1.items hl ra;show#[_,vs,rfl,hq,h cC H1 _ e1 R1 (by rw[(-rs)];show b06 ra)]
def Wl(ha:PE X a (LE X.K Ξ (bj P ma)))(hg:Gl X "range")(hm:X.mg "range"=none)(hs:starEach [a] X.env=[(false,eval a X.env)]):PI X tg (.Call (.Name "range" p) [a] [] pos) (LI X.K Ξ (gS P (.gE ma))) :=
 (a89 hg hm (D9 hP ha (O2 hP) (by rw[hs];rfl)) hs).imp λcu H R bA=>by
  let#[U,g,ρ,s,Rr,h]:=bA;show ko hP s Rr (.refl _ _) (Q0:=λxs g1=>∃j:Int,xs=[.int j]/\-(2 ^ 62)<=j/\j<2 ^ 62/\∀bQ H' J,Ext ρ H bQ H'->Rl X.K bQ g1 H'->pM X.K bQ H' (.fix (p9 0 j.toNat)) J->R J H') ?_ λxs g1 cC H1 vs e1 R1 r1 h=>?_
  .exact c5 hP ma _ _ _ _ _ _ (by rintro x g1 ⟨j,e,h1,h2,h⟩;show #[j,by rw[e],h1,h2,h]) (λy y z=>z) h
  .let#[j,rfl,h1,h2,h]:=h;let#[v,rfl,rv]:=r1.one;obtain rfl:=rv.i9;show#[_,rfl,h1,h2,h cC H1 _ e1 R1 KR]
def Wm(ha:PE X a (LE X.K Ξ (bj P ma)))(hb:PE X b (LE X.K Ξ (bj P mb)))(hg:Gl X "range")(hm:X.mg "range"=none)(hs:starEach [a,b] X.env=[(false,eval a X.env),(false,eval b X.env)])(jP:starEach [b] X.env=[(false,eval b X.env)]) :
  PI X tg (.Call (.Name "range" p) [a,b] [] pos) (LI X.K Ξ (gS P (.jK ma mb))) :=
 (a88 hg hm (D9 hP ha (D9 hP hb (O2 hP) (by rw[jP];rfl)) (by rw[hs,jP])) hs jP).imp λcu H R bA=>by
  let#[U,g,ρ,s,Rr,h]:=bA;show ko hP s Rr (.refl _ _) (Q0:=λxs g1=>∃i j:Int,xs=[.int i,.int j]/\(-(2 ^ 62)<=i/\i<2 ^ 62/\-(2 ^ 62)<=j/\j<2 ^ 62)/\∀bQ H' J,Ext ρ H bQ H'->Rl X.K bQ g1 H'->pM X.K bQ H' (.fix (p9 i (j-i).toNat)) J->R J H') ?_ λxs g1 cC H1 vs e1 R1 r1 h=>?_
  .exact c5 hP ma _ _ _ _ _ _ (λx g1 h=>c5 hP mb _ _ _ _ _ _ (by rintro y g2 ⟨i,j,e,e',h1,h⟩;show #[i,j,by rw[e,e'],h1,h]) (λu u z=>z) h) (λu u z=>z) h
  .let#[i,j,rfl,h1,h]:=h;let#[v,w,rfl,rv,gI]:=r1.two;obtain rfl:=rv.i9;obtain rfl:=gI.i9;show#[_,_,rfl,h1,h cC H1 _ e1 R1 KR]
end
def bJ3(hN:X.Nd)(hi:X.N[i]?=!x)(hx:Loc X.env.scope x)(hf:X.fn x=true\/X.env.scope.names.lookup x=!.local):PG X (.Name x pos) (LG X.K (.one i)) :=
 (Oc hN hi hx hf).imp λv cu H Q hq=>by
  let#[d,U,g,ρ,s,R,r,h]:=hq;show h _ (s.set i r)
inductive gj(X:Cx):@&Expr->@&Nat->Prop
 |nil:gj X [] []
 |cons {x:Str} {p:Pos} {i:Nat} {es:@&Expr} {is:@&Nat} (hi:X.N[i]?=!x) (hx:Loc X.env.scope x) (hf:X.fn x=true\/X.env.scope.names.lookup x=!.local) (r:gj X es is):gj X (.Name x p::es) (i::is)
abbrev GX:@&Nat->rX
 |[]=>Md
 |i::is=>KO (vF i) (GX is)
def a90(hN:X.Nd){es:@&Expr}{is:@&Nat}(h:gj X es is):ze X es (GX is):=by
 induction h with
 |nil=>show VH
 |cons hi hx hf r ih=>show XM (Oc hN hi hx hf) ih rfl
def Ge:∀{es:@&Expr} {is:@&Nat},gj X es is->(assignEach es X.env).length=-is/\(assignEach es X.env).findIdx? (·.1)=none
 |_,_,.nil=>#[rfl,rfl]
 |_,_,.cons (x:=x) (p:=p) (es:=es) hi hx hf r=>by
  let#[h1,h2]:=Ge r;let e:assignEach (.Name x p::es) X.env=(false,assign (.Name x p) X.env)::assignEach es X.env:=rfl;rw[e];show#[by simp[h1],?_];rw[List.findIdx?_cons,h2]
  rfl
def PJ{K:PySem.W.Frag}{ρ:@&Addr}{H:Hp}{k:S->Prop}{Q:L2.St->Hp->Prop}:∀{is:@&Nat} {l:@&D} {vs:@&V} {U cv:S} {cu:L2.St},U5 is l U=!cv->b8 K ρ H l vs->p6 K ρ H U cu->(∀dk,p6 K ρ H cv dk->Q dk H)->GX is vs cu H Q
 |[],_,_,_,_,_,h,.nil,s,q=>by
  cases h;show#[rfl,q _ s]
 |[],_,_,_,_,_,h,.cons _ _,s,q=>by cases h
 |i::is,_,_,_,_,_,h,.nil,s,q=>by cases h
 |i::is,_,_,_,_,_,h,.cons r rr,s,q=>by
  show#[_,_,rfl,PJ (k:=k) h rr (s.set i r) q]
def MO:∀{is:@&Nat} {l:@&D} {U cv:S},U5 is l U=!cv->-l=-is
 |[],[],_,_,_=>rfl
 |[],_::_,_,_,h=>by simp only[U5] at h;cases h
 |_::_,[],_,_,h=>by simp only[U5] at h;cases h
 |_::is,_::l,_,_,h=>by simp only[U5] at h;simp[MO h]
def Oq{es:@&Expr}{is:@&Nat}{k:Nat}(hc:X.calm=true)(hN:X.Nd)(hs:gj X es is):PG X (.Tuple es k pos) (LG X.K (.many is)) :=
 (bM4 hc (a90 hN hs) (Ge hs).1 (Ge hs).2).imp λv cu H Q bA=>by
  let#[d,U,g,ρ,s,R,r,h]:=bA;let#[l,cv,rfl,e,h]:=h;let#[a',vs,rfl,ht,rs]:=r.E2;show#[_,_,rfl,ht.sq,by rw[<- -rs];show MO e,PJ (k:=λx=>True) e rs s h]
def LN.ext{K ρ H N cC H1}(e:Ext ρ H cC H1):(LN K ρ H N).le (LN K cC H1 N) :=
 #[λU g h bQ H' dk e' R s=>h bQ H' dk (e.trans e') R s,λd g h=>h.ext e,λU g h bQ H' dk e' R s=>h bQ H' dk (e.trans e') R s,λU g h bQ H' dk e' R s=>h bQ H' dk (e.trans e') R s]
section
variable{Ξ:iZ}{P:fG}(hP:d5 P){a b c:Expr}{ma mb mc:ME}{st:Stmt}{rest:@&Stmt}{Ct oq:MS}
include hP
def Qw:jR X [] (LS X.K Ξ (wpS P .pass)) :=
 (VO).imp (by rintro N cu H ⟨U,g,ρ,s,R,h⟩;show h ρ H cu (.refl _ _) R s)
def Ov(h1:PS X st (LS X.K Ξ (wpS P Ct)))(h2:jR X rest (LS X.K Ξ (wpS P oq))):jR X (st::rest) (LS X.K Ξ (wpS P (.seq Ct oq))) :=
 (XT h1 h2).imp λN cu H ⟨U,g,ρ,s,R,h⟩ =>
  uC hP s R (.refl _ _) (show wpS P Ct { LN X.K ρ H N with nx:=λiU g1=>wpS P oq (LN X.K ρ H N) iU g1 (LX X.K ρ H Ξ) } U g (LX X.K ρ H Ξ) from h) #[λiU g1 h cC H1 Rg e1 R1 s1=>uC hP s1 R1 e1 h (LN.ext e1),λx x z=>z,λx x z=>z,λx x z=>z]
def Wt(ha:PE X a (LE X.K Ξ (bj P ma)))(hs:swapsWith a none pos.line X.env=pure false):PS X (.Expr a pos) (LS X.K Ξ (wpS P (.expr ma))) :=
 (VL ha hs).imp (by rintro N cu H ⟨U,g,ρ,s,R,h⟩;show fP hP s R (.refl _ _) h λx g1 cC H1 v1 e1 R1 r1 h=>h cC H1 cu e1 R1 (s.ext e1))
def Qz(h0:PS X (.Assign [.Name x p] a pos) (yV (LE X.K Ξ (bj P ma)) (vF i))):PS X (.Assign [.Name x p] a pos) (LS X.K Ξ (wpS P (.set i ma))) :=
 h0.imp (by rintro N cu H ⟨U,g,ρ,s,R,h⟩;show fP hP s R (.refl _ _) h λx g1 cC H1 v1 e1 R1 r1 h=>h cC H1 _ e1 R1 ((s.ext e1).set i r1))
def bH5(h0:PS X (.Assign [tg] a pos) (yV (LE X.K Ξ (bj P ma)) (LG X.K t))):PS X (.Assign [tg] a pos) (LS X.K Ξ (wpS P (.pk t ma))) :=
 h0.imp (by rintro N cu H ⟨U,g,ρ,s,R,h⟩;show fP hP s R (.refl _ _) h λx g1 cC H1 v1 e1 R1 r1 h=>#[x,U,g1,cC,s.ext e1,R1,r1,v9 (λcv h dk s'=>h cC H1 dk e1 R1 s') h])
def Yt(hu:X.A.units+100<cLine){i:Expr}(ha:PE X a (LE X.K Ξ (bj P ma)))(ho:PE X o (LE X.K Ξ (bj P mo)))(hi:PE X i (LE X.K Ξ (bj P mi)))(hs:swapsWithSole [.Subscript o i tp] a pos.line X.env=pure false)(nj:∀ v,assign (.Subscript o i tp) X.env v=(do
   let ov <- holding [v] (eval o X.env)
   let iv <- holding [v,ov] (eval i X.env)
   standAt tp
   holding [v,ov,iv] (setItem ov iv v)
   release [v,ov,iv] [])):PS X (.Assign [.Subscript o i tp] a pos) (LS X.K Ξ (wpS P (.eT mo mi ma))) :=
 (Qs ha (bM5 ho hi (bJ4 hu) nj) hs).imp λN cu H ⟨U,g,ρ,s,R,h⟩ =>
  fP hP s R (.refl _ _) h λx g1 cC H1 v1 e1 R1 r1 h=>fP hP (s.ext e1) R1 e1 h λy g2 fk H2 v2 e2 R2 r2 h=>fP hP (s.ext (e1.trans e2)) R2 (e1.trans e2) h λz g3 jb H3 v3 e3 R3 r3 h =>
   #[y,z,x,g3,jb,R3,r2.ext e3,r3,r1.ext (e2.trans e3),Y9 (λg4 h lL H4 e4 R4=>h lL H4 cu (e1.trans (e2.trans (e3.trans e4))) R4 (s.ext (e1.trans (e2.trans (e3.trans e4))))) h]
omit hP in
def Al(K:PySem.W.Frag)(f:Str)(cs:@&Str):Prop:=∀c C,c∈cs->u9 K c C->E4 K C f
omit hP in
def Wj(hF:Al X.K f cs){ρ:@&Addr}{H:Hp}{g g':G}{x v:D}{xv vv:V}(R:Rl X.K ρ g H)(rx:c9 X.K ρ H x xv)(rv:c9 X.K ρ H v vv)(h:Ll f cs x v g g') :
  ∃a C dx fs,xv=.ref a/\H a=!.ins C dx fs/\jT X.K C/\E4 X.K C f/\-fs<1000/\Rl X.K ρ g' (upd H a (.ins C dx (A3 f vv fs)))/\Ext ρ H ρ (upd H a (.ins C dx (A3 f vv fs))):=by
 let#[i,c,fs,rfl,hi,hc,hz,rfl]:=h;let#[a',rfl,ra]:=rx.j6;let#[C,dx,vs,hH,hC,ke,rk,na]:=R.ins hi ra;let#[R',e']:=R.put (o':=.ins c (f9 f v fs)) (u:=.ins C dx (A3 f vv vs)) hi rfl ra #[hC,ke,rk.A3 rv,Gu (hF c C hc hC) na];show#[a',C,dx,vs,rfl,hH,ke,hF c C hc hC,by rw[<- -rk];omega,R',e']
def Wu(hF:Al X.K f cs)(ho:PE X o (LE X.K Ξ (bj P mo)))(ha:PE X a (LE X.K Ξ (bj P ma)))(hs:swapsWith a (!.Attribute o f tp) pos.line X.env=pure false):PS X (.Assign [.Attribute o f tp] a pos) (LS X.K Ξ (wpS P (.fH f cs mo ma))) :=
 (bM0 ho ha hs).imp λN cu H ⟨U,g,ρ,s,R,h⟩=>fP hP s R (.refl _ _) h λx g1 cC H1 v1 e1 R1 r1 h=>fP hP (s.ext e1) R1 e1 h λy g2 fk H2 v2 e2 R2 r2 h=>by
  let#[g3,h,q]:=h;let#[a',C,dx,fs,hx,hH,ke,na,hz,R3,e3]:=Wj hF R2 r2 (r1.ext e2) h;show#[a',C,dx,fs,hx,hH,ke,na,hz,q fk _ cu (e1.trans (e2.trans e3)) R3 (s.ext (e1.trans (e2.trans e3)))]
def Ws{op:Operator}{p:Pr}(qi:(op=.Add/\p=.iadd)\/(op=.Sub/\p=.oy))(hN:X.Nd)(hi:X.N[i]?=!x)(hx:Loc X.env.scope x)(hf:X.fn x=true\/X.env.scope.names.lookup x=!.local)(ha:PE X a (LE X.K Ξ (bj P ma))):PS X (.AugAssign (.Name x tp) op a pos) (LS X.K Ξ (wpS P (.kF i p ma))):=by
 let ho:QG X op (r2 X.K p):=by
  intro pi s U H x y v u Q I rx ry h;let#[d,e,g,ρ,R,rd,re,d',g',hr,q]:=h;rcases qi with⟨rfl,rfl⟩|⟨rfl,rfl⟩
  .rcases hr with⟨i,j,ex,rfl,rfl⟩|⟨l,m,ex,hz,rfl,rfl⟩
   .let#[rfl,rfl]:=C6 ex;obtain rfl:=rd.i9;obtain rfl:=re.i9;show bC7 pi s U H _ _ v u Q I rx ry #[i,j,rfl,rfl,q.now R (.int _)]
   .let#[rfl,rfl]:=C6 ex;let#[p1,zw,rfl,t1,og]:=rd.E2;let#[p2,pX,rfl,t2,mV]:=re.E2;show NS pi s U H _ _ v u Q I rx ry (.inr #[p1,p2,zw,pX,rfl,rfl,t1.sq,t2.sq,by rw[<- -og,<- -mV];show C5 hz,λz=>?_,λz=>?_,λp hp=>q.tup R hp (og.append mV)])
    .subst z;cases og;show q.now R (.tup t2 mV)
    .subst z;cases mV;rw[fu] at q;show q.now R (.tup t1 og)
  .let#[i,j,ex,rfl,rfl]:=hr;let#[rfl,rfl]:=C6 ex;obtain rfl:=rd.i9;obtain rfl:=re.i9;show bC6 pi s U H _ _ v u Q I rx ry #[i,j,rfl,rfl,q.now R (.int _)]
 show(bM1 hN hi hx ha ho hf).imp λN cu H bA=>?_;let#[U,g,ρ,s,R,h]:=bA;let#[xd,Sv,h]:=h;let#[xv,hv,rx]:=s.val _ _ Sv;show#[xv,hv,fP hP s R (.refl _ _) h λz g1 cC H1 v1 e1 R1 r1 h=>?_];show#[xd,z,g1,cC,R1,rx.ext e1,r1,w5 (λw g2 q=>?_) h];show λfk H2 v2 e2 R2 r2=>q fk H2 _ (e1.trans e2) R2 ((s.ext (e1.trans e2)).set i r2)
def Wr(hF:Al X.K f cs)(ho:PE X o (LE X.K Ξ (bj P mo)))(ha:PE X a (LE X.K Ξ (bj P ma))):PS X (.AugAssign (.Attribute o f tp) .Add a pos) (LS X.K Ξ (wpS P (.ly f cs mo ma))) :=
 (a82 ho ha NS).imp λN cu H ⟨U,g,ρ,s,R,h⟩=>fP hP s R (.refl _ _) h λy g1 cC H1 v1 e1 R1 r1 h=>by
  let#[i,c,fs,x,rfl,hi,hc,hf,h]:=h;let#[a',rfl,ra]:=r1.j6;let#[C,dx,vs,hH,hC,ke,rk,na]:=R1.ins hi ra;let lk:=rk.look f;rw[hf] at lk;let#[v,hv,rv]:=lk.some;show#[a',C,dx,vs,v,rfl,hH,ke,hF c C hc hC,hv,fP hP (s.ext e1) R1 e1 h λz g3 jb H3 v3 e3 R3 r3 h=>?_];let#[d',g',hR,jQ,jz,hz,q]:=h;let fin:∀{lL:@&Addr} {H4:Hp} {vv:V},Ext jb H3 lL H4->Rl X.K lL g' H4->c9 X.K lL H4 d' vv->∃vp jQ,H4 a'=!.ins C vp jQ/\-jQ<1000/\N.nx cu (upd H4 a' (.ins C vp (A3 f vv jQ))):=by
   intro lL H4 vv e4 R4 r4;let#[C2,Ko,pX,DL,JX,Dt,IM,RS]:=R4.ins jz ((e3.trans e4).get ra);have:C2=C:=by grind
   subst this;let#[R5,e5]:=R4.put (o':=.ins c (f9 f d' jQ)) (u:=.ins C2 Ko (A3 f vv pX)) jz rfl ((e3.trans e4).get ra) #[JX,Dt,IM.A3 r4,Gu (hF c C2 hc JX) RS];show#[Ko,pX,DL,by rw[<- -IM];omega,q lL _ cu (e1.trans (e3.trans (e4.trans e5))) R5 (s.ext (e1.trans (e3.trans (e4.trans e5))))]
  rcases hR with⟨j,l,ex,rfl,rfl⟩|⟨l,m,ex,Sn,rfl,rfl⟩
  .let#[rfl,rfl]:=C6 ex;obtain rfl:=rv.i9;obtain rfl:=r3.i9;show .inl #[_,_,rfl,rfl,fin (.refl _ _) R3 (.int _)]
  .let#[rfl,rfl]:=C6 ex;let#[p1,zw,rfl,t1,og]:=(rv.ext e3).E2;let#[p2,pX,rfl,t2,mV]:=r3.E2;show .inr #[p1,p2,zw,pX,rfl,rfl,t1.sq,t2.sq,by rw[<- -og,<- -mV];show C5 Sn,λz=>?_,λz=>?_,λp hp=>?_]
   .subst z;cases og;show fin (.refl _ _) R3 (.tup t2 mV)
   .subst z;cases mV;rw[fu] at fin;show fin (.refl _ _) R3 (.tup t1 og)
   .exact fin (v5 hp) (R3.grow hp) (.tup (.inl l6) ((og.append mV).ext (v5 hp)))
def ZZ{sa sb:@&Stmt}{Jc msb:MS}(hc:PT X c (LT X.K Ξ (eF P mc)))(ha:jR X sa (LS X.K Ξ (wpS P Jc)))(hb:jR X sb (LS X.K Ξ (wpS P msb))):PS X (.If c sa sb pos) (LS X.K Ξ (wpS P (.ifs mc Jc msb))) :=
 (ZM hc ha hb).imp λN cu H ⟨U,g,ρ,s,R,h⟩=>qS hP s R (.refl _ _) h λt g1 cC H1 e1 R1 h=>by
  cases t
  .exact uC hP (s.ext e1) R1 e1 h (LN.ext e1)
  .exact uC hP (s.ext e1) R1 e1 h (LN.ext e1)
def Qy(ha:PE X a (LE X.K Ξ (bj P ma))):PS X (.Return (!a) pos) (LS X.K Ξ (wpS P (.ret ma))) :=
 (bL8 ha).imp (by rintro N cu H ⟨U,g,ρ,s,R,h⟩;show #[U,g,ρ,s,R,h])
def Yu{body:@&Stmt}{mb:MS}(hp:PassesOwn (model X.prog X.w) X.A X.env X.xe)(hc:PT X c (LT X.K Ξ (eF P mc)))(hb:jR X body (LS X.K Ξ (wpS P mb))):PS X (.While c body [] pos) (LS X.K Ξ (wpS P (.kS mc mb))) :=
 (XS hp hc hb).imp λN cu H bA=>by
  let#[U,g,ρ,s,R,h]:=bA;let#[W,#[m0,w0],h]:=h;show#[λm dk H'=>∃cv g' bQ,Ext ρ H bQ H'/\p6 X.K bQ H' cv dk/\Rl X.K bQ g' H'/\W m cv g',#[m0,U,g,ρ,.refl _ _,s,R,w0],?_];rintro m dk H' ⟨cv,g',bQ,e1,s',R',w'⟩;show qS hP s' R' e1 (h m cv g' w') λt g1 cC H1 e2 R1 q=>?_;cases t
  .exact q cC H1 dk (e1.trans e2) R1 (s'.ext e2)
  .let#[N2,DJ,q]:=q;show#[λkn H2=>∃cE g2 fk,Ext ρ H fk H2/\p6 X.K fk H2 cE kn/\Rl X.K fk g2 H2/\N2 cE g2,?_,?_]
   .rintro kn H2 ⟨cE,g2,fk,e3,s2,R2,n2⟩;let#[m',hm,w2]:=DJ cE g2 n2;show#[m',hm,cE,g2,fk,e3,s2,R2,w2]
   .refine uC hP (s'.ext e2) R1 (e1.trans e2) q #[?_,?_,?_,?_]
    .exact λjy g3 n3 jb H3 lK e3 R3 s3=>#[jy,g3,jb,(e1.trans e2).trans e3,s3,R3,n3]
    .exact λd g3 h=>h.ext (e1.trans e2)
    .exact λjy g3 h jb H3 lK e3 R3 s3=>h jb H3 lK ((e1.trans e2).trans e3) R3 s3
    .exact λjy g3 n3 jb H3 lK e3 R3 s3=>#[jy,g3,jb,(e1.trans e2).trans e3,s3,R3,n3]
def bH7{iter:Expr}{body:@&Stmt}{mb:MS}(hp:PassesOwn (model X.prog X.w) X.A X.env X.xe)(hc:X.calm=true)(hi:PI X tg iter (LI X.K Ξ (gS P mi)))(hg:PG X tg (LG X.K t))(hb:jR X body (LS X.K Ξ (wpS P mb)))(hs:∀x,foldedSetIterable iter X.env x=pure x):PS X (.For tg iter body [] pos) (LS X.K Ξ (wpS P (.ju t mi mb))) :=
 (bL9 hp hc hi hg hb hs).imp λN cu H bA=>by
  let#[U,g,ρ,s,R,h]:=bA;show#[U,g,ρ,s,R,A1 hP mi _ _ _ _ _ _ (λk g1 h cC H1 J e1 R1 j1=>?_) (λu u z=>z) h];let#[W,#[m0,w0],h]:=h;show#[λi m dk H'=>∃cv g' bQ,Ext cC H1 bQ H'/\p6 X.K bQ H' cv dk/\Rl X.K bQ g' H'/\W i m cv g',#[m0,U,g1,cC,.refl _ _,s.ext e1,R1,w0],?_];rintro i m dk H' ⟨cv,g',bQ,e',s',R',w'⟩;let#[sI,sH]:=j1 bQ g' H' e' R' i;rcases h i m cv g' w' with⟨ek,q⟩|⟨x,ek,N2,DJ,q⟩
  .exact .inl #[sI ek,q bQ H' dk (e1.trans e') R' s']
  .let#[go,yl]:=sH x ek;show .inr #[go,λkn H2=>∃cE g2 fk,Ext cC H1 fk H2/\p6 X.K fk H2 cE kn/\Rl X.K fk g2 H2/\N2 cE g2,?_,?_]
   .rintro kn H2 ⟨cE,g2,fk,e2,s2,R2,n2⟩;let#[m',hm,w2]:=DJ cE g2 n2;show#[m',hm,cE,g2,fk,e2,s2,R2,w2]
   .intro v H2 y;let#[e2,R2,r2]:=yl v H2 y;show#[x,cv,g',bQ,s'.ext e2,R2,r2,v9 (λcE q kn s2=>?_) q];show uC hP s2 R2 (e1.trans (e'.trans e2)) q #[?_,?_,?_,?_]
    .exact λjy g3 n3 jb H3 lK e3 R3 s3=>#[jy,g3,jb,(e'.trans e2).trans e3,s3,R3,n3]
    .exact λd g3 h=>h.ext (e1.trans (e'.trans e2))
    .exact λjy g3 h jb H3 lK e3 R3 s3=>h jb H3 lK (e1.trans ((e'.trans e2).trans e3)) R3 s3
    .exact λjy g3 n3 jb H3 lK e3 R3 s3=>#[jy,g3,jb,(e'.trans e2).trans e3,s3,R3,n3]
def OJ{n:Nat}:∀cu H Q,LE X.K Ξ (bj P (.comp c7 n t mi gN me)) cu H Q->ym (LI X.K Ξ (gS P mi)) c7 n (LG X.K t) (LT X.K (nP Ξ.1) (eF P gN)) (LE X.K (nP Ξ.1) (bj P me)) cu H Q:=λcu H Q bA=>by
 let#[U,g,ρ,s,R,h]:=bA;show#[U,g,ρ,s,R,A1 hP mi _ _ _ _ _ _ (λk g1 h cC H1 J e1 R1 j1=>?_) (λw w z=>z) h];let#[W,#[m0,w0],h]:=h;show#[λi m wg dk H'=>∃ys cv g' bQ,Ext cC H1 bQ H'/\p6 X.K bQ H' cv dk/\Rl X.K bQ g' H'/\b8 X.K bQ H' ys wg/\W i m ys cv g',#[m0,[],_,g1,cC,.refl _ _,(s.ext e1).c7 c7 n,R1,.nil,w0],?_];rintro i m wg dk H' ⟨ys,cv,g',bQ,e',s',R',ry,w'⟩;let#[sI,sH]:=j1 bQ g' H' e' R' i;rcases h i m ys cv g' w' with⟨ek,q⟩|⟨x,ek,hz,q⟩
 .exact .inl #[sI ek,λp hp=>(q.ext (e1.trans e')).new R' hp ry]
 .let#[go,yl]:=sH x ek;show .inr #[go,by rw[<- -ry];show AI hz,λv H2 y=>?_];let#[e2,R2,r2]:=yl v H2 y;show#[x,cv,g',bQ,s'.ext e2,R2,r2,v9 (λcE q kn s2=>?_) q];show#[cE,g',bQ,s2,R2,n8 hP gN _ _ _ _ _ _ (λb g3 q jb H3 e3 R3=>?_) (λw w z=>z.elim) q];cases b
  .let#[m',hm,w3]:=q;show#[m',hm,ys,cE,g3,jb,(e'.trans e2).trans e3,s2.ext e3,R3,(ry.ext e2).ext e3,by simpa using w3]
  .refine#[cE,g3,jb,s2.ext e3,R3,c5 hP me _ _ _ _ _ _ (λz g4 q lL H4 v4 e4 R4 r4=>?_) (λw w z=>z.elim) q];let#[m',hm,w4]:=q;show#[m',hm,ys++[z],cE,g4,lL,(e'.trans e2).trans (e3.trans e4),(s2.ext e3).ext e4,R4,(((ry.ext e2).ext e3).ext e4).append (.cons r4 .nil),by simpa using w4]
def a78{n:Nat}:∀cu H Q,LE X.K Ξ (bj P (.iF c7 n t mi gN me)) cu H Q->ym (LI X.K Ξ (gS P mi)) c7 n (LG X.K t) (LT X.K (nP Ξ.1) (eF P gN)) (LE X.K Ξ (bj P me)) cu H Q:=λcu H Q bA=>by
 let#[U,g,ρ,s,R,h]:=bA;show#[U,g,ρ,s,R,A1 hP mi _ _ _ _ _ _ (λk g1 h cC H1 J e1 R1 j1=>?_) (λw w z=>z) h];let#[W,#[m0,w0],h]:=h;show#[λi m wg dk H'=>∃ys cv g' bQ,Ext cC H1 bQ H'/\p6 X.K bQ H' cv dk/\Rl X.K bQ g' H'/\b8 X.K bQ H' ys wg/\W i m ys cv g',#[m0,[],_,g1,cC,.refl _ _,(s.ext e1).c7 c7 n,R1,.nil,w0],?_];rintro i m wg dk H' ⟨ys,cv,g',bQ,e',s',R',ry,w'⟩;let#[sI,sH]:=j1 bQ g' H' e' R' i;rcases h i m ys cv g' w' with⟨ek,q⟩|⟨x,ek,hz,q⟩
 .exact .inl #[sI ek,λp hp=>(q.ext (e1.trans e')).new R' hp ry]
 .let#[go,yl]:=sH x ek;show .inr #[go,by rw[<- -ry];show AI hz,λv H2 y=>?_];let#[e2,R2,r2]:=yl v H2 y;show#[x,cv,g',bQ,s'.ext e2,R2,r2,v9 (λcE q kn s2=>?_) q];show#[cE,g',bQ,s2,R2,n8 hP gN _ _ _ _ _ _ (λb g3 q jb H3 e3 R3=>?_) (λw w z=>z.elim) q];cases b
  .let#[m',hm,w3]:=q;show#[m',hm,ys,cE,g3,jb,(e'.trans e2).trans e3,s2.ext e3,R3,(ry.ext e2).ext e3,by simpa using w3]
  .refine#[cE,g3,jb,s2.ext e3,R3,c5 hP me _ _ _ _ _ _ (λz g4 q lL H4 v4 e4 R4 r4=>?_) (λw w z=>z.ext (e1.trans ((e'.trans e2).trans e3))) q];let#[m',hm,w4]:=q;show#[m',hm,ys++[z],cE,g4,lL,(e'.trans e2).trans (e3.trans e4),(s2.ext e3).ext e4,R4,(((ry.ext e2).ext e3).ext e4).append (.cons r4 .nil),by simpa using w4]
def Yj{elt iter:Expr}{ifs:@&Expr}{scope:Scope}{N':@&Str}{cl:@&(Str×Addr)}{p2 jH:Pos}(S:dg X scope N' c7 cl)(hc:X.calm=true)(hi:PI X tg iter (LI X.K Ξ (gS P mi)))(hg:∀pi C s H fp,PG (d0 X pi scope N' cl C s H fp) tg (LG X.K t))(ht:∀pi C s H fp,lC (d0 X pi scope N' cl C s H fp) ifs (LT X.K (nP Ξ.1) (eF P gN)))(he:∀pi C s H fp,PE (d0 X pi scope N' cl C s H fp) elt (LE X.K (nP Ξ.1) (bj P me)))(hs:∀x,foldedSetIterable iter X.env x=pure x)(lV:Gl X "sorted")(mY:X.mg "sorted"=none):PE X (.Call (.Name "sorted" p2) [.SetComp elt [#[tg,iter,ifs,0]] scope pos] [] jH) (LE X.K Ξ (bj P (.iE c7 (-N') t mi gN me))) :=
 (X6 (R8 hc) lV mY (by rfl) (L8 (XI S hc hi hg ht he hs) P7)).imp λcu H Q bA=>by
  let#[U,g,ρ,s,R,h]:=bA;show#[U,g,ρ,s,R,A1 hP mi _ _ _ _ _ _ (λk g1 h cC H1 J e1 R1 j1=>?_) (λw w z=>z) h];let#[W,#[m0,w0],h]:=h;show#[λi m ys dk H'=>∃cv g' bQ,Ext cC H1 bQ H'/\p6 X.K bQ H' cv dk/\Rl X.K bQ g' H'/\W i m ys cv g',#[m0,_,g1,cC,.refl _ _,(s.ext e1).c7 c7 _,R1,w0],?_];rintro i m ys dk H' ⟨cv,g',bQ,e',s',R',w'⟩;let#[sI,sH]:=j1 bQ g' H' e' R' i;rcases h i m ys cv g' w' with⟨ek,hz,q⟩|⟨x,ek,hz,q⟩
  .exact .inl #[sI ek,λp hp=>#[p,ys,rfl,l6,by omega,λp' lR=>(q.ext ((e1.trans e').trans (v5 hp))).new (R'.grow hp) lR (b8.ofInts _)]]
  .let#[go,yl]:=sH x ek;show .inr #[go,hz,λv H2 y=>?_];let#[e2,R2,r2]:=yl v H2 y;show#[x,cv,g',bQ,s'.ext e2,R2,r2,v9 (λcE q kn s2=>?_) q];show#[cE,g',bQ,s2,R2,n8 hP gN _ _ _ _ _ _ (λb g3 q jb H3 e3 R3=>?_) (λw w z=>z.elim) q];cases b
   .let#[m',hm,w3]:=q;show#[m',hm,cE,g3,jb,(e'.trans e2).trans e3,s2.ext e3,R3,by simpa using w3]
   .refine#[cE,g3,jb,s2.ext e3,R3,c5 hP me _ _ _ _ _ _ (λz g4 q lL H4 v4 e4 R4 r4=>?_) (λw w z=>z.elim) q];let#[j,rfl,m',hm,w4]:=q;obtain rfl:=r4.i9;show#[j,rfl,m',hm,cE,g4,lL,(e'.trans e2).trans (e3.trans e4),(s2.ext e3).ext e4,R4,by simpa using w4]
end
end M
namespace M
open PySem L2
section
variable{P:fG}(hP:d5 P)
include hP
end
end M
namespace M
open PySem L2 PySem.Spec PyProof.Rows
variable{X:Cx}{Ξ:iZ}{P:fG}{x qual:Str}{pos:Pos}{c:d8}{i n:Nat}{e o b:Expr}{es args:@&Expr}{env:Env}{p:Pr}{f:Addr}{sc scope:Scope}{A:Around}{s:Shared}{H:Hp}{r:CF}{m:ME}{cd:Value}{N:@&Str}{outer:@&Env}{E:XK}
section
variable(hP:d5 P)
include hP
def Ys{C:Addr}{B newId ip:String}{bm:@&Value}{np eQ:Pos}{kE:Expr}{rest:@&Expr}{iy:ME}(hc:X.calm=true)(O:OwnCls x C bm newId X.mg X.base)(FB:ExcBaseFacts B newId ip bm)(hg:Gl X x)(ha:PA X (kE::rest) (LA X.K Ξ (fW P iy)))(hr:AE X Ξ.2)(hx:x∈Ξ.1)(hC:u9 X.K x C)(he:starEach (kE::rest) X.env=(false,eval kE X.env)::starEach rest X.env)(fq:(backTo eQ (starEach rest X.env)).any (·.1)=false)(hd:(x==("__debug__":Str))=false):PS X (.Raise (!.Call (.Name x np) (kE::rest) [] eQ) none pos) (LS X.K Ξ (wpS P (.raise x iy))) :=
 (XR hc O FB hg ha hr he fq hd).imp λN cu H bA=>by
  let#[U,g,ρ,s,R,h]:=bA;show ko hP s R (.refl _ _) h λds g1 cC H1 vs e1 R1 r1 h=>?_;show#[by rw[<- -r1];show C5 (aG h.1 ∅),h.2 cC H1 C e1 R1 hx hC]
abbrev Bg(X:Cx)(ex:@&Str)(D:L2.Ends)(dn:L2.St)(hs:@&ExceptHandler):iZ:=(ex,λv x H=>∃C,v=.ref C/\uj X D dn C H hs)
inductive nu(X:Cx)(Ξ:iZ)(P:fG):@&ExceptHandler->@&(Str×ME)->Prop
 |nil (hh:vK X Ξ.2):nu X Ξ P [] []
 |cons {y:Str} {C':Addr} {p p1 p2:Pos} {e:Expr} {me:ME} {hs:@&ExceptHandler} {ms:@&(Str×ME)} (hg:Gl X y) (hd:(y==("__debug__":Str))=false) (hm:X.mg y=!.ref C')
   (hx:∀x C,x∈Ξ.1->u9 X.K x C->PySem.W.exmOne X.K (.ref C) (.ref C')=!decide (x=y\/y="MintError")) (he:∀ea,PE (O3 X ea) e (LE X.K (nP Ξ.1) (bj P me))) (r:nu X Ξ P hs ms) :
   nu X Ξ P (.ExceptHandler (!.Name y p) none [.Return (!e) p1] p2::hs) ((y,me)::ms)
set_option tactic.hygienic true in
def Pl{N:L2.Ends}{ρ bQ:@&Addr}{H H':Hp}{U:S}{g:G}{x:Xn}{C:Addr}(hl:-U=-X.N)(e:Ext ρ H bQ H')(R:Rl X.K bQ g H')(hx:x.cls∈Ξ.1)(hC:u9 X.K x.cls C) :
  ∀{hs:@&ExceptHandler} {ms:@&(Str×ME)},nu X Ξ P hs ms->pj P (LN X.K ρ H N) (U.map λy=>none) (LX X.K ρ H Ξ) ms x g->uj X N (List.replicate (-X.N) none) C H' hs
 |_,_,.nil hh,q=>#[Ξ.2,hh,q bQ H' C e R hx hC]
 |_,_,.cons (me:=me) hg hd hm Su he r,q=>by
  show#[hg,hd,_,_,hm,Su _ _ hx hC,?_];unfold pj at q;split at q
  .rename_i ex;rw[az (_/ex)];show#[LS X.K (nP Ξ.1) (wpS P (.seq (.ret me) .pass)),λea=>Ov (X:=O3 X ea) (Ξ:=nP Ξ.1) hP (Qy (X:=O3 X ea) hP (he ea)) (Qw (X:=O3 X ea) hP),?_];show#[U.map λy=>none,g,bQ,#[by simp[hl],λi d z=>?_],R,?_]
   .simp_all
   .refine c5 hP me _ _ _ _ _ _ (λd g1 h=>?_) (λy y z=>z.elim) q;show h.ext e
  .rename_i ex;rw[aA (_/ex)];show Pl hl e R hx hC r q
def bH6{h₀:ExceptHandler}{hs:@&ExceptHandler}{ms:@&(Str×ME)}{body:@&Stmt}{mb:MS}(pv:X.sg=none)(hb:∀pi D,jR (Y7 X pi (Bw X pi D (h₀::hs))) body (LS X.K (Bg X Ξ.1 D (List.replicate (-X.N) none) (h₀::hs)) (wpS P mb)))(hh:nu X Ξ P (h₀::hs) ms):PS X (.Try body (h₀::hs) [] [] pos) (LS X.K Ξ (wpS P (.qI mb ms))):=by
 intro pi s cu H N I ⟨U,g,ρ,sr,R,h⟩;show bL7 (t:=λD y=>LS X.K (Bg X Ξ.1 D (List.replicate (-X.N) none) (h₀::hs)) (wpS P mb)) (Ξ:=λD y=>(Bg X Ξ.1 D (List.replicate (-X.N) none) (h₀::hs)).2) (λy=>none) (λy=>List.replicate (-X.N) none) (λy y z=>by cases z) pv (λpi D y y=>hb pi D) pi s cu H N I #[(by rintro C H' ⟨C',e,z⟩;simp_all),?_];show#[U,g,ρ,sr,R,wpS_mono hP mb _ _ _ _ _ _ #[λy y z=>z,λy y z=>z,λy y z=>z,λy y z=>z] (λx g1 q bQ H' C e' R' hm hc=>#[C,rfl,?_]) h];show Pl (Ξ:=Ξ) hP (sr.len.trans I.len) e' R' hm hc hh q
end
structure d8 where
 N:@&Str
 nm:@&(Str×NameKind)
 nr:Bool
 fns:@&(Str×Nat)
 con:@&(Str×D)
 blt:@&Str
 exc:@&Str
 gd:@&(Str×@&D)
 cls:@&(Str×Nat)
 om:@&(Str×Str×Nat)
 oV:@&(Str×Str)
 kr:Bool
 jq:Bool
 wr:Bool:=true
abbrev ik:Expr->Bool
 |.Set ..=>false
 |.Starred ..=>false
 |.Slice ..=>false
 |_=>true
abbrev B8:Expr->Bool
 |.ListComp ..=>false
 |.SetComp ..=>false
 |.DictComp ..=>false
 |_=>true
abbrev vJ:Expr->Bool
 |.Tuple ..=>false
 |_=>true
abbrev Gd:Expr->Bool
 |.Name ..=>true
 |.Call ..=>true
 |.Subscript ..=>true
 |.Constant ..=>true
 |.Attribute ..=>true
 |.BinOp ..=>true
 |_=>false
abbrev yx:Expr->Bool
 |.Call (.Name ..) [] ..=>false
 |_=>true
abbrev d8.idx(c:d8)(x:Str):Option Nat:=c.N.findIdx? λy=>decide (y=x)
def d8.so(c:d8)(x:Str):Bool:=match c.nm.lookup x with
 |some .local=>true
 |some .cell=>true
 |some .free=>true
 |_=>false
def d8.gl(c:d8)(x:Str):Bool:=decide (c.nm.lookup x=!.globalImplicit)
def d8.C4(c:d8)(x:Str):Bool:=decide (c.nm.lookup x=!.local)||decide (c.nm.lookup x=!.cell)
def X8(x:Str):Bool:=(x==("__debug__":Str))==false&&(x==("__classdict__":Str))==false&&decide (x≠"__name__")
abbrev GK:@&(Str×String):=[("int","int"),("bool","bool"),("str","str"),("tuple","tuple"),("list","list")]
abbrev GS:@&(Str×Pr):=[("len",.len),("list",.list),("tuple",.tuple),("isinstance",.isin),("all",.all),("int",.int),("sorted",.kc),("sum",.sum)]
abbrev AM:@&(Str×Pr):=[]
abbrev Ha:@&(Str×Pr):=[("append",.append),("pop",.pop),("add",.kW)]
abbrev W9:Expr->Option (Str×@&Expr)
 |.Call (.Name x _) args [] _=>!(x,args)
 |_=>none
abbrev Kx:Expr->Bool
 |.Tuple ..=>true
 |_=>false
abbrev asName:Expr->Option Str
 |.Name x _=>!x
 |_=>none
abbrev frees(sc:Scope):@&Str:=(sc.names.filter λy=>decide (y.2=.free)).map (·.1)
abbrev locals(sc:Scope):@&Str:=(sc.names.filter λy=>decide (y.2=.local)||decide (y.2=.cell)).map (·.1)
def d8.inner(c:d8)(sc:Scope):d8:={ c with N:=frees sc++locals sc,nm:=sc.names,nr:=false,kr:=false,jq:=false,wr:=true }
abbrev d8.c7(c:d8)(sc:Scope):@&Nat:=(frees sc).map λx=>(c.idx x).getD 0
abbrev d8.Ff(c:d8)(sc:Scope):Bool :=
 decide (sc.kind=.function)&&sc.names.all (λy=>~~~decide (y.2=.cell)||decide (sc.names.lookup y.1=!.cell))&&sc.names.all (λy=>~~~decide (y.2=.local)||decide (sc.names.lookup y.1=!.local)) &&
 decide (frees sc++locals sc).Nodup&&(frees sc).all (λx=>(c.idx x).isSome&&decide (sc.names.lookup x=!.free)&&(decide (c.nm.lookup x=!.cell)||decide (c.nm.lookup x=!.free)))
abbrev d8.slot(c:d8)(e:Expr):Option Nat:=(asName e).bind λx=>if c.C4 x then c.idx x else none
abbrev d8.slots(c:d8):@&Expr->Option (@&Nat)
 |[]=>![]
 |e::r=>(c.slot e).bind λi=>(c.slots r).map λis=>i::is
abbrev d8.tg(c:d8)(e:Expr):Option MT:=((c.slot e).map .one).orElse λx=>match e with
 |.Tuple es _ _=>(c.slots es).map .many
 |_=>none
abbrev uk:Const->Option D
 |.int i=>!.int i
 |.bool b=>!.bl b
 |.none=>!.aR
 |.str x=>!.str x
 |_=>none
structure CF where
 e:d8->Expr->Option ME
 t:d8->Expr->Option ME
 s:d8->Stmt->Option MS
section
variable(r:CF)(c:d8)
abbrev c1(p:Pr)(a:Expr):Option ME:=(r.e c a).map λm=>.prim p (.cons m .nil)
abbrev c2(p:Pr)(a b:Expr):Option ME:=(r.e c a).bind λma=>(r.e c b).map λmb=>.prim p (.cons ma (.cons mb .nil))
abbrev N6:@&Expr->Option ME
 |[]=>!.nil
 |e::es=>if ik e then(r.e c e).bind λm=>(N6 es).map λms=>.cons m ms else none
abbrev Bk:@&(Option Expr)->@&Expr->Option ME
 |[],[]=>!.nil
 |some k::ks,v::vs=>(r.e c k).bind λmk=>(r.e c v).bind λmv=>(Bk ks vs).map λms=>.cons mk (.cons mv ms)
 |_,_=>none
abbrev HK(op:BoolOp):@&Expr->Option ME
 |[]=>none
 |[a]=>r.e c a
 |a::b::rs=>(r.e c a).bind λma=>(HK op (b::rs)).map λmb=>match op with
  |.And=>.eI ma mb
  |.Or=>.jI ma mb
abbrev HL(op:BoolOp):@&Expr->Option ME
 |[]=>none
 |[a]=>r.t c a
 |a::b::rs=>(r.t c a).bind λma=>(HL op (b::rs)).map λmb=>match op with
  |.And=>.eI ma mb
  |.Or=>.jI ma mb
abbrev Ly:@&Expr->Option ME
 |[]=>!.no
 |[e]=>r.t c e
 |_=>none
abbrev A7:@&Stmt->Option MS
 |[]=>!.pass
 |s::rs=>(r.s c s).bind λm=>(A7 rs).map λms=>.seq m ms
abbrev GP(x:Str):Option ME :=
 if X8 x then(if c.so x then(c.idx x).map .var else if c.gl x then((c.con.lookup x).map .lit).orElse λy=>if c.blt.contains x then(GK.lookup x).map λt=>.lit (.ty t) else none else none) else none
abbrev BW(op:UnaryOp)(a:Expr):Option ME:=if op=.Not then(r.e c a).map .dt else c1 r c (.un op) a
abbrev d8.Me(b:Expr):Option (@&D):=(asName b).bind λx=>if c.gl x&&X8 x then c.gd.lookup x else none
abbrev yX(a:Expr)(ops:@&CmpOp)(bs:@&Expr):Option ME:=match ops,bs with
 |[op],[b]=>if behindInMarks op b then none else c2 r c (.cmp op) a b
 |[op,jf],[b,d]=>if lastMarks [op,jf] [b,d] then none else(r.e c a).bind λma=>(r.e c b).bind λmb=>(r.e c d).map λmd=>.chain op jf ma mb md
 |_,_=>none
abbrev Vj:Expr->Option (Option Expr×Option Expr×Option Expr)
 |.Slice lo hi st _=>!(lo,hi,st)
 |_=>none
abbrev Iy(a:Expr):Option Expr->Option Expr->Option Expr->Option ME
 |some b,none,none=>c2 r c (.mU true false) a b
 |none,!b,none=>c2 r c (.mU false true) a b
 |_,_,_=>none
abbrev Mx(a b:Expr):Option ME:=((Vj b).bind λq=>Iy r c a q.1 q.2.1 q.2.2).orElse λx=>if ik b then((c.Me a).bind λkvs=>(r.e c b).map λmb=>.prim .oU (.cons (.lit (.tup kvs)) (.cons mb .nil))).orElse λx=>c2 r c .ix a b else none
abbrev Iw(x:Str)(e:Expr):Option ME:=(W9 e).bind λq =>
 if x="list" && q.1="range" && c.blt.contains "list" && c.blt.contains "range" && c.gl "range" then (match q.2 with
  |[a]=>if ik a then c1 r c .kd a else none
  |[a,b]=>if ik a&&ik b then c2 r c .kZ a b else none
  | _=>none)
 else if x="sorted" && q.1="set" && c.blt.contains "sorted" && c.blt.contains "set" && c.gl "set" then (match q.2 with
  |[a]=>if ik a then c1 r c .sset a else none
  | _=>none)
 else if x="len" && q.1="set" && c.blt.contains "len" && c.blt.contains "set" && c.gl "set" then (match q.2 with
  |[a]=>if ik a then c1 r c .vq a else none
  | _=>none)
 else none
abbrev b52(x:Str)(e:Expr):@&Expr->Option ME
 |[]=>Iw r c x e
 |_=>none
abbrev Hl(x:Str):Option ME:=if X8 x&&c.gl x then((c.fns.lookup x).map λf=>.call f .nil).orElse λy=>(c.cls.lookup x).map λf=>.make x f .nil else none
abbrev Hm(x:Str)(e:Expr)(es:@&Expr):Option ME:=if X8 x&&c.gl x then(b52 r c x e es).orElse λy=>(N6 r c (e::es)).bind λms=>((c.fns.lookup x).map λf=>.call f ms).orElse λy=>((c.cls.lookup x).map λf=>.make x f ms).orElse λy=>if c.blt.contains x then(GS.lookup x).map λp=>.prim p ms else none else none
abbrev QF(x:Str):@&Expr->Option ME
 |[]=>Hl c x
 |e::es=>Hm r c x e es
abbrev d8.meths(m:Str):@&(Str×Nat):=(c.om.filter λy=>decide (y.1=m)).map (·.2)
abbrev Hn(o:Expr)(m:Str)(apos pos:Pos)(args:@&Expr):Option ME :=
 if yx o && (apos.endLine == pos.line) && decide (-args < 20) then (r.e c o).bind λmo=>(N6 r c args).bind λms=>if m="index" then (if args.isEmpty then none else !.dZ .index mo ms) else if args.isEmpty && (AM.lookup m).isSome then (AM.lookup m).map λp=>.dZ p mo ms else (match Ha.lookup m with
  |some p=>if args.isEmpty then none else !.dZ p mo ms
  | none=>!.cT m (c.meths m) mo ms) else none
abbrev GO(f:Expr)(args:@&Expr)(jJ:@&Keyword)(pos:Pos):Option ME:=if jJ.isEmpty then(match f with
 |.Name x _=>QF r c x args
 |.Attribute o m apos=>Hn r c o m apos pos args
 | _=>none) else none
abbrev Bm(tg e:Expr):Option ME:=(((W9 e).bind λq =>
  if q.1="enumerate" then (match q.2 with
   |[a]=>if c.gl "enumerate"&&c.blt.contains "enumerate"&&ik a&&Kx tg then(r.e c a).map .lg else none
   | _=>none)
  else if q.1="reversed" then (match q.2 with
   |[a]=>if c.gl "reversed"&&c.blt.contains "reversed"&&ik a then(r.e c a).map .pq else none
   | _=>none)
  else if q.1="range" then (match q.2 with
   |[a]=>if c.gl "range"&&c.blt.contains "range"&&ik a then(r.e c a).map .gE else none
   |[a,b]=>if c.gl "range"&&c.blt.contains "range"&&ik a&&ik b then(r.e c a).bind λma=>(r.e c b).map λmb=>.jK ma mb else none
   | _=>none)
  else none):Option ME).orElse λx=>if ik e then (r.e c e).map .gp else none
abbrev ur(elt:Expr)(gens:@&Comprehension)(sc:Scope):Option ME:=match gens with
 |[#[tg,it,ifs,Jh]]=>if c.Ff sc&&decide (Jh=0)&&ik it then((c.inner sc).tg tg).bind λt=>(Bm r c tg it).bind λmi=>(Ly r (c.inner sc) ifs).bind λmc=>(r.e (c.inner sc) elt).map λme=>.comp (c.c7 sc) (frees sc++locals sc).length t mi mc me else none
 |_=>none
abbrev LZ:Expr->Option Str
 |.Name x _=>!x
 |_=>none
abbrev Vi:Expr->Option (Expr×@&Comprehension×Scope)
 |.SetComp elt gens sc _=>!(elt,gens,sc)
 |_=>none
abbrev b56:ME->Option ME
 |.comp a n t i k e=>!.iE a n t i k e
 |_=>none
abbrev BX(f:Expr)(args:@&Expr)(jJ:@&Keyword):Option ME:=match args with
 |[a]=>if jJ.isEmpty&&decide (LZ f=some "sorted")&&c.gl "sorted"&&c.blt.contains "sorted" then(Vi a).bind λq=>(ur r c q.1 q.2.1 q.2.2).bind b56 else none
 |_=>none
abbrev LY:Expr->Option (Expr×Expr)
 |.BinOp a .BitOr b _=>!(a,b)
 |_=>none
abbrev EM:@&Expr->Option Str
 |[.Name x _]=>!x
 |_=>none
abbrev zu(f:Expr)(args:@&Expr)(jJ:@&Keyword):Option ME:=match args with
 |[a]=>if jJ.isEmpty&&decide (LZ f=some "sorted")&&c.gl "sorted"&&c.blt.contains "sorted"&&c.gl "set"&&c.blt.contains "set" then(LY a).bind λq=>(W9 q.1).bind λu=>(W9 q.2).bind λv=>if decide (u.1="set")&&decide (v.1="set") then(EM u.2).bind λx=>(EM v.2).bind λy=>if X8 x&&X8 y&&c.so x&&c.so y then(c.idx x).bind λi=>(c.idx y).map λj=>.prim .wm (.cons (.var i) (.cons (.var j) .nil)) else none else none else none
 |_=>none
abbrev EY(es:@&Expr)(k:Nat):Option ME:=if c.nr&&decide (k=0) then(match es with
 |[.Constant (.int i) _ _]=>!.prim (.kU i) .nil
 | _=>none) else none
abbrev Ln:Expr->Option ME
 |.Name x _=>GP c x
 |.Constant k _ _=>(uk k).map .lit
 |.BinOp a op b _=>c2 r c (.bin op) a b
 |.UnaryOp op a _=>BW r c op a
 |.Compare a ops bs _=>yX r c a ops bs
 |.BoolOp op vs _=>HK r c op vs
 |.IfExp t a b _=>(r.t c t).bind λmt=>(r.e c a).bind λma=>(r.e c b).map λmb=>.ite mt ma mb
 |.Tuple es _ _=>(N6 r c es).map (.prim .tup)
 |.List es _=>(N6 r c es).map (.prim .lst)
 |.Subscript a b _=>Mx r c a b
 |.Dict ks vs _=>if ks.isEmpty&&vs.isEmpty then some (.prim .rT .nil) else if decide (-ks<=15) then(Bk r c ks vs).map .pJ else none
 |.Attribute o f _=>if yx o then c1 r c (.fld f) o else none
 |.Call f args jJ pos=>(BX r c f args jJ).orElse λy=>(zu c f args jJ).orElse λy=>GO r c f args jJ pos
 |.ListComp elt gens sc _=>ur r c elt gens sc
 |.Set es k _=>EY c es k
 |_=>none
abbrev stepT:Expr->Option ME
 |.UnaryOp op a _=>if op=.Not then(r.t c a).map .dt else none
 |.BoolOp op vs _=>HL r c op vs
 |.Compare a ops bs _=>(yX r c a ops bs).map .fg
 |e=>if Gd e then(r.e c e).map .fg else none
abbrev KG:Expr->Option ME
 |.Constant k _ _=>(uk k).map .lit
 |_=>none
abbrev GU:@&Expr->Option ME
 |[]=>!.nil
 |e::es=>(KG e).bind λm=>(GU es).map λms=>.cons m ms
abbrev KC:Expr->Option ME
 |.List es _=>(GU es).map (.prim .lst)
 |.Constant k _ _=>(uk k).map .lit
 |_=>none
abbrev b46:@&Stmt->Option Expr
 | [s]=>(match s with
  |.Return e _=>e
  | _=>none)
 |_=>none
abbrev Lx:ExceptHandler->Option (Str×Expr)
 |.ExceptHandler t n b _=>if n.isNone then t.bind λt=>(asName t).bind λy=>(b46 b).map λe=>(y,e) else none
abbrev Bl:@&ExceptHandler->Option (List (Str×ME))
 |[]=>![]
 |h::hs=>(Lx h).bind λq=>if c.exc.contains q.1&&c.gl q.1&&X8 q.1 then(KC q.2).bind λm=>(Bl hs).map λms=>(q.1,m)::ms else none
abbrev NI(e f:Option Expr):Option (Str×Expr×@&Expr):=if f.isNone then e.bind λe=>(W9 e).bind λq=>q.2.head?.map λa=>(q.1,a,q.2.tail) else none
abbrev d8.BD(f:Str):@&Str:=(c.oV.filter λy=>decide (y.1=f)).map (·.2)
abbrev GR:@&Expr->Option (Expr×Expr×Expr×Expr)
 |_=>none
abbrev Mp(tg e:Expr):Option MS:=match tg with
 |.Name x _=>if c.C4 x then(c.idx x).bind λi=>(r.e c e).map λm=>.set i m else none
 |.Tuple es _ _=>(GR es).elim (if vJ e&&B8 e then(c.slots es).bind λis=>(r.e c e).map λm=>.pk (.many is) m else none) λq=>if B8 e&&ik q.2.1&&ik q.2.2.2 then(r.e c q.1).bind λm1=>(r.e c q.2.1).bind λn1=>(r.e c q.2.2.1).bind λm2=>(r.e c q.2.2.2).bind λn2=>(r.e c e).map λm=>.zy m1 n1 m2 n2 m else none
 |.Subscript o i _=>if ik i&&B8 e then(r.e c o).bind λmo=>(r.e c i).bind λmi=>(r.e c e).map λm=>.eT mo mi m else none
 |.Attribute o f _=>(r.e c o).bind λmo=>(r.e c e).map λm=>.fH f (c.BD f) mo m
 |_=>none
abbrev Ky:Operator->Option Pr
 |.Add=>!.iadd
 |.Sub=>!.oy
 |_=>none
abbrev toR(e:Expr):ME->ME
 |.comp a n t i k (.cT x y z w)=>if ~~~B8 e&&c.jq then .iF a n t i k (.cT x y z w) else .comp a n t i k (.cT x y z w)
 |m=>m
abbrev Lo:Stmt->Option MS
 |.Expr e _=>if B8 e then(r.e c e).map .expr else none
 | .Assign Cb e _=>(match Cb with
  |[tg]=>Mp r c tg e
  | _=>none)
 | .AugAssign tg op e _=>(match tg with
  |.Attribute o f _=>if decide (op=.Add) then(r.e c o).bind λmo=>(r.e c e).map λm=>.ly f (c.BD f) mo m else none
  |.Name x _=>if c.C4 x then(Ky op).bind λp=>(c.idx x).bind λi=>(r.e c e).map λm=>.kF i p m else none
  | _=>none)
 |.If t a b _=>(r.t c t).bind λmt=>(A7 r c a).bind λma=>(A7 r c b).map λmb=>.ifs mt ma mb
 |.For tg it body qr _=>if c.nr&&(qr.isEmpty&&ik it) then(c.tg tg).bind λt=>(Bm r c tg it).bind λmi=>(A7 r c body).map λmb=>.ju t mi mb else none
 |.While t body qr _=>if c.nr&&qr.isEmpty then(r.t c t).bind λmt=>(A7 r c body).map λmb=>.kS mt mb else none
 | .Return e _=>(match e with
  |some e=>(r.e c e).map λm=>.ret (toR c e m)
  | none=>!.sA)
 |.Pass _=>!.pass
 |.Raise e f _=>(NI e f).bind λq=>if c.kr&&c.exc.contains q.1&&c.gl q.1&&X8 q.1 then(N6 r c (q.2.1::q.2.2)).map (.raise q.1) else none
 |.Try body hs el fi _=>if c.jq&&~~~hs.isEmpty&&el.isEmpty&&fi.isEmpty then(A7 r { c with kr:=false,jq:=false,wr:=true } body).bind λmb=>(Bl c hs).map λms=>.qI mb ms else none
 |_=>none
end
abbrev comp:Nat->CF
 |0=>#[λx x=>none,λx x=>none,λx x=>none]
 |n+1=>#[Ln (comp n),stepT (comp n),λc s=>(Lo (comp n) c s).orElse λx=>!.expr .no]
structure ig(X:Cx)(c:d8)(P:fG)(Ξ:iZ):Prop where
 N:X.N=c.N
 nd:c.N.Nodup
 loc:∀x,c.nm.lookup x=!.local->X.env.scope.names.lookup x=!.local
 yc:∀x,c.nm.lookup x=!.cell->X.env.scope.names.lookup x=!.cell
 Ag:∀x,c.nm.lookup x=!.free->X.env.scope.names.lookup x=!.cell\/X.env.scope.names.lookup x=!.free
 Eo:∀x,c.nm.lookup x=!.globalImplicit->X.env.scope.names.lookup x=!.globalImplicit
 cells:∀x,(c.nm.lookup x=!.cell\/c.nm.lookup x=!.free)->∃a,X.env.cells.lookup x=!a
 nr:∀x,c.nm.lookup x=!.cell->X.fn x=true
 calm:X.calm=true
 units:X.A.units+100<cLine
 own:c.nr=true->PassesOwn (model X.prog X.w) X.A X.env X.xe
 mono:d5 P
 con:∀x d,c.con.lookup x=!d->∃v u,X.mg x=!u/\RelV v u/\∀ρ H,c9 X.K ρ H d v
 blt:∀x,c.blt.contains x=true->X.mg x=none
 fns:∀x f,c.fns.lookup x=!f->∃k fa fd ps,pR X P Ξ.1 k f fa fd ps/\x8 k X.A/\X.mg x=!.ref fa/\PySem.W.keepIn X.K (.ref fa)=true
 cls:∀x f,c.cls.lookup x=!f->∃k C fa fd ps,pR X P Ξ.1 k f fa fd ps/\x8 (k+1) X.A/\X.mg x=!.ref C/\u9 X.K x C/\jT X.K C/\Mk X.K C fa
 om:∀m y f C,(m,y,f)∈c.om->u9 X.K y C->∃k fa fd ps,Meth X.K C m fa/\pR X P Ξ.1 k f fa fd ps/\x8 k X.A
 oV:∀f y C,(f,y)∈c.oV->u9 X.K y C->E4 X.K C f
 xN:Ξ.1=c.exc
 pass:Passes (iB X.prog X.w) X Ξ.2
 kr:c.kr=true->AE X Ξ.2
 jq:c.jq=true->X.stack=X.env::X.outer/\X.env.frame=!X.env.locals/\vK X Ξ.2
 exc:∀x,c.exc.contains x=true->∃C,X.mg x=!.ref C/\u9 X.K x C/\∃B newId ip bm,OwnCls x C bm newId X.mg X.base/\ExcBaseFacts B newId ip bm
 Ah:∀x y C C',c.exc.contains x=true->c.exc.contains y=true->u9 X.K x C->u9 X.K y C'->PySem.W.exmOne X.K (.ref C) (.ref C')=!decide (x=y\/y="MintError")
 Ac:∀x kvs,c.gd.lookup x=!kvs->Ks X x kvs
 code:c.nr=true->PySem.W.kdsCode X.K X.env.code=true
 sgn:c.wr=true->X.sg=none
def bD0(h:c.idx x=!i):c.N[i]?=!x:=by
 unfold d8.idx at h;rw[lA] at h;let#[h1,h2,_]:=h;rw[ag h1,bp h2]
set_option tactic.hygienic true in
def ig.GL(C:ig X c P Ξ)(h:c.so x=true):uu X.env.scope x:=by
 unfold d8.so at h;split at h
 .rename_i e;show .inl (C.loc x e)
 .rename_i e;show .inr (.inl (C.yc x e))
 .rename_i e;rcases C.Ag x e with z|z
  .exact .inr (.inl z)
  .exact .inr (.inr z)
 .cases h
def ig.B4(C:ig X c P Ξ)(h:c.gl x=true):Gl X x:=C.Eo x (bp h)
def ig.C4(C:ig X c P Ξ){x:Str}(h:c.C4 x=true):Loc X.env.scope x/\(X.fn x=true\/X.env.scope.names.lookup x=!.local):=by
 unfold d8.C4 at h;rw[dD] at h;rcases h with h|h
 .have:=C.loc x (bp h);show#[.inl this,.inr this]
 .exact#[.inr (C.yc x (bp h)),.inl (C.nr x (bp h))]
def ig.qE(C:ig X c P Ξ)(h:c.idx x=!i):X.N[i]?=!x:=by rw[C.N];show bD0 h
def ig.uL(C:ig X c P Ξ)(hw:c.wr=true):X.Nd:=#[by rw[C.N];show C.nd,C.sgn hw]
def Gf(h:asName e=!x):∃p,e=.Name x p:=by
 cases e<;>first|(cases h;show#[_,rfl])|cases h
def Pe(h:c.slot e=!i):∃x p,e=.Name x p/\c.C4 x=true/\c.idx x=!i:=by
 let#[x,hx,h2]:=ai.mp h;let#[p,rfl]:=Gf hx;split at h2
 .exact#[x,p,rfl,by assumption,h2]
 .cases h2
def ig.slots(C:ig X c P Ξ):∀{es:@&Expr} {is:@&Nat},c.slots es=!is->gj X es is:=by
 intro es
 induction es with
 |nil=>intro is h;cases h;show .nil
 |cons e r ih =>
  intro is h;let#[i,hi,h]:=ai.mp h;let#[is',hs,rfl]:=ae.mp h;let#[x,p,rfl,hl,hx]:=Pe hi;show .cons (C.qE hx) (C.C4 hl).1 (C.C4 hl).2 (ih hs)
def orElse_some{α:Type}{a:Option α}{b:Unit->Option α}{m:α}(h:a.orElse b=!m):a=!m\/b Unit.unit=!m:=by
 cases a with
 |none=>show .inr h
 |some x=>show .inl h
def ig.Mv(C:ig X c P Ξ)(hw:c.wr=true){tg:Expr}{t:MT}(h:c.tg tg=!t):PG X tg (LG X.K t):=by
 rcases orElse_some h with h|h
 .let#[i,hi,rfl]:=ae.mp h;let#[x,p,rfl,hl,hx]:=Pe hi;show bJ3 (C.uL hw) (C.qE hx) (C.C4 hl).1 (C.C4 hl).2
 .cases tg<;>first|(cases h;done)|skip
  let#[is,hs,rfl]:=ae.mp (show(c.slots _).map MT.many=some t from h);show Oq C.calm (C.uL hw) (C.slots hs)
def m5(h:ik e=true):starEach (e::es) env=(false,eval e env)::starEach es env:=by
 cases e<;>first|rfl|cases h
def X7(h:ik e=true):∀x,foldedSetIterable e env x=pure x:=by
 intro x;cases e<;>first|rfl|cases h
def Qq(h:ik e=true):Hq e:=by
 intro o i;cases e<;>first|rfl|cases h
def bB1{i:Expr}{tp:Pos}(h:ik i=true):∀v,assign (.Subscript o i tp) env v=(do
      let ov <- holding [v] (eval o env)
      let iv <- holding [v,ov] (eval i env)
      standAt tp
      holding [v,ov,iv] (setItem ov iv v)
      release [v,ov,iv] []):=by
  intro v;cases i<;>first|rfl|cases h
def Gb{t:Option Expr}(h:B8 e=true):swapsWith e t n env=pure false:=by
 cases e<;>first|rfl|cases h
def Xu{k:Nat}{p:Pos}(h:vJ e=true):swappedStores [.Tuple es k p] e env=pure none:=by
 cases e<;>first|rfl|cases h
def a87(h:Gd e=true):∀whole,isTrue e env whole=(do let v <- whole;standAt e.pos;holding [v] (truthy v)):=by
 intro w;cases e<;>first|rfl|cases h
set_option tactic.hygienic true in
def O4{q:Str×@&Expr}(h:W9 e=!q):∃p pos,e=.Call (.Name q.1 p) q.2 [] pos:=by
 cases e<;>first|(cases h;done)|skip
 rename_i f as jJ pos;cases f<;>first|(cases h;done)|skip
 cases jJ<;>first|(cases h;done)|skip
 cases h;show#[_,_,rfl]
def OC{l:@&Expr}(h:EM l=!x):∃p,l=[.Name x p]:=by
 rcases l with _|⟨e,_|⟨_,_⟩⟩
 .cases h
 .cases e<;>first|(cases h;show#[_,rfl])|cases h
 .cases e<;>cases h
set_option tactic.hygienic true in
def WJ{q:Expr×Expr}(h:LY e=!q):∃p,e=.BinOp q.1 .BitOr q.2 p:=by
 cases e<;>first|(cases h;done)|skip
 rename_i a op b p;cases op<;>first|(cases h;show#[_,rfl])|cases h
def YH(h:Kx e=true):∃es k p,e=.Tuple es k p:=by
 cases e<;>first|show#[_,_,_,rfl]|cases h
set_option tactic.hygienic true in
def Xa{kvs:@&D}(h:c.Me b=!kvs):∃x p,b=.Name x p/\c.gl x=true/\X8 x=true/\c.gd.lookup x=!kvs:=by
 let#[x,hx,h2]:=ai.mp h;let#[p,rfl]:=Gf hx;split at h2
 .rename_i hc;rw[aW] at hc;show#[x,p,rfl,hc.1,hc.2,h2]
 .cases h2
set_option tactic.hygienic true in
def P4{f:Str}(h:yx o=true):attributeBase o f env (eval o env)=eval o env:=by
 cases o<;>first|rfl|skip
 rename_i f as jJ pos;cases f<;>first|rfl|skip
 cases as with
 |nil=>cases h
 |cons=>rfl
def Hx{env:Env}:∀(names:@&(Str×NameKind)) (acc:@&(Str×Addr)),(∀y∈names,y.2=.free->∃a,env.cells.lookup y.1=!a)->(∀x a,acc.lookup x=!a->env.cells.lookup x=!a) ->
  ∃ cl,(forIn names acc λ(y:Str × NameKind) (cs:@&(Str × Addr))=>(match y with
   |(name,kind)=>if(kind==NameKind.free)=true then do
     let __do_lift <- cellOf env name
     pure (ForInStep.yield ((name,__do_lift)::cs))
    else pure (ForInStep.yield cs):Sem (ForInStep (List (Str × Addr)))))=pure cl/\(∀ x a,cl.lookup x=!a->env.cells.lookup x=!a)/\(∀ y ∈ names,y.2=.free->∃ a,cl.lookup y.1=!a)/\∀ x a,acc.lookup x=!a->∃ a',cl.lookup x=!a'
 |[],acc,_,h2=>#[acc,rfl,h2,λy hy=>absurd hy #[_],λx a h=>#[a,h]]
 |(n,k)::r,acc,h1,h2=>by
  rw[List.forIn_cons];by_cases hk:k=.free
  .subst hk;let#[a,ha]:=h1 (n,.free) #[_] rfl;let hc:cellOf env n=pure a:=by unfold cellOf;rw[ha]
   let ⟨cl,e,q1,q2,q3⟩:=Hx r ((n,a) :: acc) (λy hy=>h1 y (by simp [hy])) (λx b hb=>by
    rw[dS] at hb;cases hx:x==n with
    |true=>simp_all
    | false=>rw [hx] at hb;show h2 x b hb)
   show#[cl,?_,q1,λy hy hf=>?_,λx b hb=>?_]
   .simp only[beq_self_eq_true,if_true,hc];show e
   .rcases aM.mp hy with z|z
    .subst z;show q3 n a #[_]
    .exact q2 y z hf
   .cases hx:x==n with
    |true=>show q3 x a (by rw[dS,hx])
    |false=>show q3 x b (by rw[dS,hx];show hb)
  .let hb:(k==NameKind.free)=false:=by simpa using hk
   let#[cl,e,q1,q2,q3]:=Hx r acc (λy hy=>h1 y (by simp[hy])) h2;show#[cl,?_,q1,λy hy hf=>?_,q3]
   .simp only[hb,Bool.false_eq_true,if_false];show e
   .rcases aM.mp hy with z|z
    .simp_all
    .exact q2 y z hf
def a95{P:Program}{w:World}:Passes (iB P w) X (λx x x=>False):=λx x x x x x x h=>by
 let#[_,_,_,_,_,_,_,z]:=h;show z.elim
def V4{env:Env}:∀{names:@&(Str×NameKind)} {x:Str},names.lookup x=!.globalImplicit ->
  (names.map λ(n,k)=>if(k==NameKind.free&&env.scope.kind==.function&&env.kindOf n==!.cell) then(n,NameKind.cell) else(n,k)).lookup x=!.globalImplicit
 |[],_,h=>by simp at h
 |(n,k)::r,x,h=>by
  let ih:=@V4 env r x;change List.lookup x ((if(k==NameKind.free&&env.scope.kind==.function&&env.kindOf n==!.cell)=true then(n,NameKind.cell) else(n,k))::_)=_;cases hx:x==n with
  |true =>
   simp only[List.lookup_cons,hx] at h;cases h;simp[List.lookup_cons,hx]
  |false =>
   simp only[List.lookup_cons,hx] at h;by_cases hc:(k==NameKind.free&&env.scope.kind==.function&&env.kindOf n==!.cell)=true
   .rw[az hc];simp only[List.lookup_cons,hx];show ih h
   .rw[aA hc];simp only[List.lookup_cons,hx];show ih h
def ig.comp(C:ig X c P Ξ)(h:c.Ff sc=true):∃cl,dg X sc (frees sc++locals sc) (c.c7 sc) cl/\∀pi A s H fp,ig (d0 X pi sc (frees sc++locals sc) cl A s H fp) (c.inner sc) P (nP Ξ.1):=by
 unfold d8.Ff at h;simp only[Bool.and_eq_true,decide_eq_true_eq,List.all_eq_true] at h;let#[#[#[#[h1,h2],h3],h4],h5]:=h;let fr:∀x∈frees sc,(∃i,c.idx x=!i)/\sc.names.lookup x=!.free/\(c.nm.lookup x=!.cell\/c.nm.lookup x=!.free):=λx hx=>by
  have:=h5 x hx;rw[fm,dD] at this;simp only[decide_eq_true_eq] at this;show#[this.1.1,this.1.2,this.2]
 let ua:∀y∈sc.names,y.2=.free->∃a,X.env.cells.lookup y.1=!a:=λy hy hf=>by
  let hm:y.1∈frees sc:=aQ.mpr #[y,bg.mpr #[hy,by simp[hf]],rfl];show C.cells y.1 (fr y.1 hm).2.2
 let#[cl,e,q1,q2,_]:=Hx sc.names [] ua (λx a h=>by simp at h);let h2:∀y∈sc.names,y.2=.cell->sc.names.lookup y.1=!.cell:=λy hy hl=>by
  have:=h2 y hy
  simp_all
 show#[cl,#[h1,h2,λy hy hl=>?_,?_,q1,λx hx=>q2 (x,.free) (aS hx) rfl,h4,λi j jh=>?_,?_],λpi A s H fp=>?_]
 .grind
 .simp only[closureFor];rw[e]
  rfl
 .unfold d8.c7 at jh;rw[aj] at jh;cases ex:(frees sc)[i]? with
  |none=>simp_all
  |some x =>
   rw[ex] at jh;let hx:=aC ex;let#[#[k,hk],hl,hc]:=fr x hx;let hj:k=j:=by
    have:=aO jh;dsimp only at this;rw[hk] at this;show this
   subst hj;show#[x,?_,C.qE hk,hl,?_]
   .rw[aH (ak.mp ex).1];show ex
   .rcases hc with z|z
    .exact .inl (C.yc x z)
    .exact C.Ag x z
 .unfold d8.c7;simp
 .refine#[rfl,h4,λx hx=>lookup_relabel_local hx,λx hx=>?_,λx hx=>K2 hx,λx hx=>V4 hx,λx hx=>?_,λx w=>?_,rfl,C.units,(λw=>PassesOwn.never),C.mono,C.con,C.blt,C.fns,C.cls,C.om,C.oV,C.xN,a95,(λz=>by cases z),(λz=>by cases z),C.exc,C.Ah,C.Ac,(λz=>by cases z),λw=>rfl]
  .exact S1 hx
  .rcases hx with hx|hx
   .exact Py (.inl hx)
   .exact Py (.inr (q2 (x,.free) (aS hx) rfl))
  .exact au ‹_›
def ig.block{pi:@&(Addr×Obj)}{N':@&Str}{cl:@&(Str×Addr)}{A:Addr}{fp:@&Addr}(I:ig (d0 X pi sc N' cl A s H fp) (c.inner sc) P (nP Ξ.1)):ig ((d0 X pi sc N' cl A s H fp).V1 (Ao X Ξ.2 pi sc N' cl fp A s H)) (c.inner sc) P Ξ :=
 #[I.N,I.nd,I.loc,I.yc,I.Ag,I.Eo,I.cells,I.nr,I.calm,I.units,(λz=>by cases z),I.mono,I.con,I.blt,I.fns,I.cls,I.om,I.oV,I.xN,λmr iU H1 s1 e s' J h=>#[mr,iU,H1,s1,J.Az,h],(λz=>by cases z),(λz=>by cases z),I.exc,I.Ah,I.Ac,(λz=>by cases z),I.sgn]
def L9(h:X8 x=true):(x==("__debug__":Str))=false/\(x==("__classdict__":Str))=false/\x≠"__name__":=by
 unfold X8 at h;simp only[Bool.and_eq_true,decide_eq_true_eq,beq_iff_eq] at h;show#[h.1.1,h.1.2,h.2]
def Yz{t:String}(h:GK.lookup x=!t):bootBuiltins x=!.type t:=by
 let hm:=aS h;simp only[GK,List.mem_cons,List.mem_nil_iff,or_false] at hm;rcases hm with z|z|z|z|z<;>(cases z;first|show zk|show PyProof.Rows.boot_bool|show PyProof.Rows.boot_str|show ux|show wa|decide +kernel|rfl)
def YI(hc:X.calm=true)(hu:X.A.units+100<cLine)(h:GS.lookup x=!p):∃v,((∃id,v=.builtin id)\/∃T,v=.type T)/\bootBuiltins x=!v/\u4 X v (rN X.K p):=by
 let hm:=aS h;simp only[GS,List.mem_cons,List.mem_nil_iff,or_false] at hm;rcases hm with z|z|z|z|z|z|z|z
 .cases z;show#[.builtin "len",.inl #[_,rfl],PySem.boot_len,bQ0]
 .cases z;show#[.type "list",.inr #[_,rfl],by first|show wa|decide +kernel,bC0 hc]
 .cases z;show#[.type "tuple",.inr #[_,rfl],by first|show ux|decide +kernel,Yw]
 .cases z;show#[.builtin "isinstance",.inl #[_,rfl],by first|show PyProof.Rows.boot_isinstance|decide +kernel,bC5]
 .cases z;show#[.builtin "all",.inl #[_,rfl],by first|show PyProof.Rows.boot_all|decide +kernel,bU1 hc]
 .cases z;show#[.type "int",.inr #[_,rfl],by first|show zk|decide +kernel,bR2]
 .cases z;show#[.builtin "sorted",.inl #[_,rfl],by first|show PyProof.Rows.boot_sorted|decide +kernel,Yp hc]
 .cases z;show#[.builtin "sum",.inl #[_,rfl],by first|show PyProof.Rows.boot_sum|decide +kernel,bH9 hc]
def a14(h:AM.lookup x=!p):∃T id,PlainAttrs T/\Slot T x id/\typeOf (.builtin id)=pure (.type "method_descriptor")/\nQ X id (rM X.K p) /\
  ∀{d:D} {v:V} {g:G} {ρ:@&Addr} {H:Hp},Rl X.K ρ g H->c9 X.K ρ H d v->nK p d g->pY X.K T v H:=by
 cases h
def Zh(hu:X.A.units+100<cLine)(h:Ha.lookup x=!p):∃T id,PlainAttrs T/\Slot T x id/\typeOf (.builtin id)=pure (.type "method_descriptor")/\nQ X id (rM X.K p) /\
  ∀{d:D} {v:V} {g:G} {ρ:@&Addr} {H:Hp},Rl X.K ρ g H->c9 X.K ρ H d v->nK p d g->pY X.K T v H:=by
 let hm:=aS h;simp only[Ha,List.mem_cons,List.mem_nil_iff,or_false] at hm;rcases hm with z|z|z
 .cases z;show#[_,_,uw,PySem.F.slot_list_append,PySem.F.type_list_append,YG,λR r h=>ty_list R r h]
 .cases z;show#[_,_,uw,PySem.F.slot_list_pop,PySem.F.type_list_pop,XO,λR r h=>ty_list R r h]
 .cases z;show#[_,_,PySem.F.plainAttrs_set,PySem.F.slot_set_add,PySem.F.type_set_add,VY,λR r h=>ty_set R r h]
def Pj{pos:Pos}{env:Env}:∀{es:@&Expr},(∀e∈es,ik e=true)->(backTo pos (starEach es env)).all (λx=>~~~x.1)=true
 |[],_=>rfl
 |e::es,h=>by
  rw[m5 (h e #[_])];let ih:=Pj (pos:=pos) (env:=env) (es:=es) λx hx=>h x (by simp[hx]);unfold backTo at ih ⊢;rw[cA,iD,ih]
  rfl
def X0{pos:Pos}{env:Env}:∀{es:@&Expr},(∀e∈es,ik e=true)->(backTo pos (starEach es env)).any (·.1)=false
 |[],_=>rfl
 |e::es,h=>by
  rw[m5 (h e #[_])];let ih:=X0 (pos:=pos) (env:=env) (es:=es) λx hx=>h x (by simp[hx]);unfold backTo at ih ⊢;rw[cA,fo,ih]
  rfl
def Fl:∀{es:@&Expr} {m:ME},N6 r c es=!m->∀e∈es,ik e=true:=by
 intro es
 induction es with
 |nil=>intro m _ e he;simp_all
 |cons a es ih =>
  intro m h e he;unfold N6 at h;split at h
  .let#[m1,h1,h]:=ai.mp h;let#[m2,h2,_]:=ae.mp h;rcases aM.mp he with z|z
   .rw[z];assumption
   .exact ih h2 e z
  .cases h
structure rY(P:fG)(r:CF):Prop where
 e:∀X c Ξ,ig X c P Ξ->∀e m,r.e c e=!m->PE X e (LE X.K Ξ (bj P m))
 t:∀X c Ξ,ig X c P Ξ->∀e m,r.t c e=!m->PT X e (LT X.K Ξ (eF P m))
 s:∀X c Ξ,ig X c P Ξ->c.wr=true->∀st m,r.s c st=!m->PS X st (LS X.K Ξ (wpS P m))
section
variable(S:rY P r)(C:ig X c P Ξ){a:Expr}
include S C
def yq(h:c1 r c p a=!m):∃ma,PE X a (LE X.K Ξ (bj P ma))/\m=.prim p (.cons ma .nil):=by
 let#[ma,ha,rfl]:=ae.mp h;show#[ma,S.e X c Ξ C _ _ ha,rfl]
def vL(h:c2 r c p a b=!m):∃ma mb,PE X a (LE X.K Ξ (bj P ma))/\PE X b (LE X.K Ξ (bj P mb))/\m=.prim p (.cons ma (.cons mb .nil)):=by
 let#[ma,ha,h]:=ai.mp h;let#[mb,hb,rfl]:=ae.mp h;show#[ma,mb,S.e X c Ξ C _ _ ha,S.e X c Ξ C _ _ hb,rfl]
set_option tactic.hygienic true in
def wN:∀{es:@&Expr} {m:ME},N6 r c es=!m->PA X es (LA X.K Ξ (fW P m)):=by
 intro es
 induction es with
 |nil=>intro m h;cases h;show O2 C.mono
 |cons a es ih =>
  intro m h;unfold N6 at h;split at h
  .rename_i bV;let#[m1,h1,h]:=ai.mp h;let#[m2,h2,rfl]:=ae.mp h;show D9 C.mono (S.e X c Ξ C _ _ h1) (ih h2) (m5 bV)
  .cases h
def RZ:∀{ks:@&(Option Expr)} {vs:@&Expr} {m:ME},Bk r c ks vs=!m->∃jd,nR X Ξ P ks vs m jd:=by
 intro ks
 induction ks with
 |nil=>intro vs m h;cases vs<;>first|(cases h;show#[_,.nil])|cases h
 |cons k ks ih =>
  intro vs m h;cases k<;>first|(cases h;done)|skip
  cases vs<;>first|(cases h;done)|skip
  let#[m1,h1,h]:=ai.mp h;let#[m2,h2,h]:=ai.mp h;let#[m3,h3,rfl]:=ae.mp h;let#[jd,D]:=ih h3;show#[_,.cons (S.e X c Ξ C _ _ h1) (S.e X c Ξ C _ _ h2) D]
def Sa{op:BoolOp}:∀{vs:@&Expr} {m:ME},HK r c op vs=!m->PE X (.BoolOp op vs pos) (LE X.K Ξ (bj P m)):=by
 intro vs
 induction vs with
 |nil=>intro m h;cases h
 |cons a vs ih =>
  intro m h;cases vs with
  |nil=>show bM8 (S.e X c Ξ C _ _ h)
  |cons b vs =>
   let#[m1,h1,h]:=ai.mp h;let#[m2,h2,rfl]:=ae.mp h;cases op
   .exact bK5 C.mono (S.e X c Ξ C _ _ h1) (ih h2)
   .exact ZU C.mono (S.e X c Ξ C _ _ h1) (ih h2)
def RT{op:BoolOp}:∀{vs:@&Expr} {m:ME},HL r c op vs=!m->PW X (.BoolOp op vs pos) (LT X.K Ξ (eF P m)):=by
 intro vs
 induction vs with
 |nil=>intro m h;cases h
 |cons a vs ih =>
  intro m h;cases vs with
  |nil =>
   cases op
   .exact VS (S.t X c Ξ C _ _ h)
   .exact bL4 (S.t X c Ξ C _ _ h)
  |cons b vs =>
   let#[m1,h1,h]:=ai.mp h;let#[m2,h2,rfl]:=ae.mp h;cases op
   .exact bH8 C.mono (S.t X c Ξ C _ _ h1) (ih h2)
   .exact ZY C.mono (S.t X c Ξ C _ _ h1) (ih h2)
def b95(h:Ly r c es=!m):lC X es (LT X.K Ξ (eF P m)):=by
 rcases es with _|⟨e,_|⟨_,_⟩⟩
 .cases h;show Wq C.mono
 .exact VR (S.t X c Ξ C _ _ h)
 .cases h
def vw(hw:c.wr=true):∀{IG:@&Stmt} {m:MS},A7 r c IG=!m->jR X IG (LS X.K Ξ (wpS P m)):=by
 intro es
 induction es with
 |nil=>intro m h;cases h;show Qw C.mono
 |cons a es ih =>
  intro m h;let#[m1,h1,h]:=ai.mp h;let#[m2,h2,rfl]:=ae.mp h;show Ov C.mono (S.s X c Ξ C hw _ _ h1) (ih h2)
end
def Ni{t:Expr}(h:B8 e=true):swapsWithSole [t] e n env=pure false:=by
 show Gb h
def ig.qI(C:ig X c P Ξ)(hw:c.wr=true)(fF:X.stack=X.env::X.outer)(hf:X.env.frame=!X.env.locals)(pi:@&(Addr×Obj))(D:L2.Ends)(hs:@&ExceptHandler){o:Option L2.St}{dn:L2.St}{w:Bool}(wY:∀U:L2.St,(-U)=-X.N->(∀τ,o=!τ->U=τ)->-dn=-U/\∀(i:Nat) v,dn[i]?=!!v->U[i]?=!!v)(ho:w=true->o=none) :
  ig (Y7 X pi (Bw X pi D hs) o) { c with kr:=false,jq:=false,wr:=w } P (Bg X Ξ.1 D dn hs) :=
 #[C.N,C.nd,C.loc,C.yc,C.Ag,C.Eo,C.cells,C.nr,C.calm,C.units,(λx=>PassesOwn.looking),C.mono,C.con,C.blt,C.fns,C.cls,C.om,C.oV,C.xN,Xz (C.sgn hw) fF hf wY (by rintro C H' ⟨C',e,z⟩;show (by simp_all)),(λz=>by cases z),(λz=>by cases z),C.exc,C.Ah,C.Ac,C.code,ho]
def Qe{m:Str}{apos:Pos}(hb:yx o=true)(hl:(apos.endLine==pos.line)=true)(hf:methodCallForm (-args) (backTo pos (starEach args env)) (backToKw pos (keywordEach [] env))=true) :
  eval (.Call (.Attribute o m apos) args [] pos) env=(do
   let ov <- eval o env
   standAt apos.atName
   let (f,first) <- holding [ov] (getMethod ov m (do return (<- importBound o env).getD true))
   callWith pos f first (backTo pos (starEach args env)) (backToKw pos (keywordEach [] env))):=by
 let h1:eval (.Call (.Attribute o m apos) args [] pos) env=(do
   let ov <- attributeBase o m env (eval o env)
   standAt apos.atName
   methodCall o m apos pos env ov (-args + 0) (backTo pos (starEach args env)) (backToKw pos (keywordEach [] env))):=rfl
 rw[h1,P4 hb];let h2:∀ ov,methodCall o m apos pos env ov (-args + 0) (backTo pos (starEach args env)) (backToKw pos (keywordEach [] env))=(do
   let (f,first) <- holding [ov] (getMethod ov m (do return (<- importBound o env).getD true))
   callWith pos f first (backTo pos (starEach args env)) (backToKw pos (keywordEach [] env))):=λov=>by
  unfold methodCall calleeOf methodCallPos
  simp_all
 simp only[h2]
section
variable(S:rY P r)(C:ig X c P Ξ){a d:Expr}
include C
set_option tactic.hygienic true in
def bP0(h:GP c x=!m):PE X (.Name x pos) (LE X.K Ξ (bj P m)):=by
 unfold GP at h;split at h
 .rename_i iL;let#[d1,d2,d3]:=L9 iL;split at h
  .rename_i hv;let#[i,hi,rfl]:=ae.mp h;show bJ7 (C.qE hi) (C.GL hv) d1 d2
  .split at h
   .rename_i hg;rcases orElse_some h with h|h
    .let#[d,hd,rfl]:=ae.mp h;let#[v,u,hm,r,rr]:=C.con x d hd;show vS (Ob (C.B4 hg) hm r d1) rr
    .split at h
     .rename_i hb;let#[t,ht,rfl]:=ae.mp h;show vS (v:=.ty t) (bA1 (C.B4 hg) (C.blt x hb) (Yz ht) rfl d3 d1) λy y=>.ty t
     .cases h
   .cases h
 .cases h
omit C in
def Cr{k:Const}{j:Nat}{d:D}(h:uk k=!d):PE X (.Constant k j pos) (LE X.K Ξ (bj P (.lit d))):=by
 cases k<;>first|(cases h;done)|skip
 .cases h;show vS bN0 λx x=>.aR
 .cases h;show vS ZG λx x=>.bl _
 .cases h;show vS bN2 λx x=>.int _
 .cases h;show vS bM7 λx x=>.str _
include S
set_option tactic.hygienic true in
def b94{op:UnaryOp}(h:BW r c op a=!m):PE X (.UnaryOp op a pos) (LE X.K Ξ (bj P m)):=by
 unfold BW at h;split at h
 .rename_i ho;subst ho;let#[ma,ha,rfl]:=ae.mp h;show bK0 C.mono (S.e X c Ξ C _ _ ha)
 .let#[ma,ha,rfl]:=yq S C h;show ZV C.mono ha
set_option tactic.hygienic true in
def Lb{ops:@&CmpOp}{bs:@&Expr}(h:yX r c a ops bs=!m):PE X (.Compare a ops bs pos) (LE X.K Ξ (bj P m))/\PT X (.Compare a ops bs pos) (LT X.K Ξ (eF P (.fg m))):=by
 unfold yX at h;split at h
 .rename_i op b;split at h
  .cases h
  .rename_i hm;let hm:behindInMarks op b=false:=by simpa using hm
   let#[ma,mb,ha,hb,rfl]:=vL S C h;show#[Hd C.mono (VD (vR C.units op) ha hb hm),bI1 C.mono (VP (vR C.units op) ha hb hm)]
 .split at h
  .cases h
  .rename_i hm;let#[ma,ha,h]:=ai.mp h;let#[mb,hb,h]:=ai.mp h;let#[md,hd,rfl]:=ae.mp h;show#[Yc C.mono C.units (S.e X c Ξ C _ _ ha) (S.e X c Ξ C _ _ hb) (S.e X c Ξ C _ _ hd) (_/hm),Yq C.mono C.units (S.e X c Ξ C _ _ ha) (S.e X c Ξ C _ _ hb) (S.e X c Ξ C _ _ hd) (_/hm)]
 .cases h
def b97{lo hi st:Option Expr}{p2:Pos}(h:Iy r c a lo hi st=!m):PE X (.Subscript a (.Slice lo hi st p2) pos) (LE X.K Ξ (bj P m)):=by
 cases lo<;>cases hi<;>cases st<;>first|(cases h;done)|skip
 .let#[ma,mb,ha,hb,rfl]:=vL S C h;show Yk C.mono ha hb
 .let#[ma,mb,ha,hb,rfl]:=vL S C h;show Yl C.mono ha hb
set_option tactic.hygienic true in
def Zu(h:Mx r c a b=!m):PE X (.Subscript a b pos) (LE X.K Ξ (bj P m)):=by
 rcases orElse_some h with h|h
 .let#[q,hq,h]:=ai.mp h;let eb:∃p,b=.Slice q.1 q.2.1 q.2.2 p:=by cases b<;>first|(cases hq;show#[_,rfl])|cases hq
  let#[p,rfl]:=eb;show b97 S C h
 .split at h
  .rename_i hb;rcases orElse_some h with h|h
   .let#[kvs,hk,h]:=ai.mp h;let#[mb,kz,rfl]:=ae.mp h;let#[x,p,rfl,hg,hd,hk]:=Xa hk;show Wb C.mono (C.B4 hg) (L9 hd).1 (C.Ac x kvs hk) (S.e X c Ξ C _ _ kz) (Qq hb)
   .let#[ma,mb,ha,kz,rfl]:=vL S C h;show Hd C.mono (Ld (b09 C.units) ha kz (Qq hb))
  .cases h
set_option tactic.hygienic true in
def b96{px:Pos}(hg:c.gl x=true)(h:Iw r c x e=!m):PE X (.Call (.Name x px) [e] [] pos) (LE X.K Ξ (bj P m)):=by
 let#[q,hq,h']:=ai.mp h;clear h;let h:=h';clear h';let#[p,pos',rfl]:=O4 hq;let#[y,as]:=q;dsimp only at h ⊢;split at h
 .rename_i hc;simp only[Bool.and_eq_true,decide_eq_true_eq] at hc;let#[#[#[#[rfl,rfl],hl],hr],pB]:=hc;rcases as with _|⟨a,_|⟨b,_|⟨_,_⟩⟩⟩
  .cases h
  .dsimp only at h;split at h
   .rename_i ho;let#[ma,ha,rfl]:=yq S C h;show Ye C.mono C.calm ha (C.B4 hg) (C.blt _ hl) (C.B4 pB) (C.blt _ hr) (m5 ho)
   .cases h
  .dsimp only at h;split at h
   .rename_i ho;rw[aW] at ho;let#[ma,mb,ha,hb,rfl]:=vL S C h;show Yf C.mono C.calm ha hb (C.B4 hg) (C.blt _ hl) (C.B4 pB) (C.blt _ hr) (by rw[m5 ho.1,m5 ho.2];rfl) (m5 ho.2)
   .cases h
  .cases h
 .split at h
  .rename_i hc;simp only[Bool.and_eq_true,decide_eq_true_eq] at hc;let#[#[#[#[rfl,rfl],hl],hr],pB]:=hc;rcases as with _|⟨a,_|⟨_,_⟩⟩
   .cases h
   .dsimp only at h;split at h
    .rename_i ho;let#[ma,ha,rfl]:=yq S C h;show Wg C.mono C.calm ha (C.B4 hg) (C.blt _ hl) (C.B4 pB) (C.blt _ hr) (m5 ho)
    .cases h
   .cases h
  .split at h
   .rename_i hc;simp only[Bool.and_eq_true,decide_eq_true_eq] at hc;let#[#[#[#[rfl,rfl],hl],hr],pB]:=hc;rcases as with _|⟨a,_|⟨_,_⟩⟩
    .cases h
    .dsimp only at h;split at h
     .rename_i ho;let#[ma,ha,rfl]:=yq S C h;show Wc C.mono C.calm ha (C.B4 hg) (C.blt _ hl) (C.B4 pB) (C.blt _ hr) (m5 ho)
     .cases h
    .cases h
   .cases h
set_option tactic.hygienic true in
def bB4{px:Pos}(h:QF r c x args=!m):PE X (.Call (.Name x px) args [] pos) (LE X.K Ξ (bj P m)):=by
 cases args with
 |nil =>
  let h2:Hl c x=!m:=h;unfold Hl at h2;split at h2
  .rename_i iL;rw[aW] at iL;rcases orElse_some h2 with h2|h2
   .let#[f,hf,rfl]:=ae.mp h2;let#[k,fa,fd,ps,F,hr,hm,hk]:=C.fns x f hf;show Yb C.mono C.pass F hr (C.B4 iL.2) hm hk (L9 iL.1).1
   let#[f,hf,rfl]:=ae.mp h2;let#[k,C',fa,fd,ps,F,hr,hm,hC,ke,M]:=C.cls x f hf;show Yg C.mono C.pass F M hC ke hr (C.B4 iL.2) hm (L9 iL.1).1
  .cases h2
 |cons e es =>
  let h0:Hm r c x e es=!m:=h;clear h;let h:=h0;clear h0;unfold Hm at h;split at h
  .rename_i iL;rw[aW] at iL;let#[d1,d2,d3]:=L9 iL.1;rcases orElse_some h with h|h
   .cases es with
    |nil=>show b96 S C iL.2 h
    |cons _ _=>cases h
   .let#[ms,mG,h]:=ai.mp h;let ok:=Fl mG;let pa:=wN S C mG;let fF:=m5 (env:=X.env) (es:=es) (ok e #[_]);let gU:=X0 (pos:=pos) (env:=X.env) (es:=es) λz hz=>ok z (by simp[hz]);rcases orElse_some h with h|h
    .let#[f,hf,rfl]:=ae.mp h;let#[k,fa,fd,ps,F,hr,hm,hk]:=C.fns x f hf;show V' C.mono C.pass F hr (C.B4 iL.2) hm hk pa d1 fF gU
    .rcases orElse_some h with h|h
     .let#[f,hf,rfl]:=ae.mp h;let#[k,C',fa,fd,ps,F,hr,hm,hC,ke,M]:=C.cls x f hf;show Wd C.mono C.pass F M hC ke hr (C.B4 iL.2) hm pa d1 fF gU
     .split at h
      .rename_i hb;let#[p,hp,rfl]:=ae.mp h;let#[v,hv,Dw,hc]:=YI C.calm C.units hp;show bK4 C.mono hv hc (C.B4 iL.2) (C.blt x hb) Dw pa d3 d1 fF gU
      .cases h
  .cases h
omit S in
def OS{m:Str}:Ho X P Ξ.1 m (c.meths m):=λy f C' h hC=>by
 let hm:=aS h;unfold d8.meths at hm;let#[#[m',y',f'],h1,h2]:=aQ.mp hm;let#[h3,h4]:=bg.mp h1;cases h2;have:m'=m:=by simpa using h4
 subst this;show C.om m' y f C' h3 hC
set_option tactic.hygienic true in
def bB5{mt:Str}{apos:Pos}(h:Hn r c o mt apos pos args=!m):PE X (.Call (.Attribute o mt apos) args [] pos) (LE X.K Ξ (bj P m)):=by
 unfold Hn at h;split at h
 .rename_i hc;simp only[Bool.and_eq_true,decide_eq_true_eq] at hc;let#[#[hb,hl],hn]:=hc;let#[mo,ho,h]:=ai.mp h;let#[ms,mG,h]:=ai.mp h;let ok:=Fl mG;let pa:=wN S C mG;let po:=S.e X c Ξ C _ _ ho;let hf:methodCallForm (-args) (backTo pos (starEach args X.env)) (backToKw pos (keywordEach [] X.env))=true:=by
   unfold methodCallForm;rw[Pj ok];have:-args+0<30:=by omega
   show(true&&true&&decide (-args+0<30))=true;rw[au this]
   rfl
  by_cases xr:mt="index"
  .subst xr;rw[az rfl] at h;cases args with
   |nil=>cases h
   |cons e es =>
    cases h;show Yd C.mono C.units po pa (P4 hb) hf hl (m5 (env:=X.env) (es:=es) (ok e #[_])) (X0 (pos:=pos) (env:=X.env) (es:=es) λz hz=>ok z (by simp[hz]))
  rw[aA xr] at h;cases args with
  |nil =>
   cases mG;by_cases h0:(AM.lookup mt).isSome=true
   .rw[az (by rw[h0];rfl)] at h;let#[p,hp,rfl]:=ae.mp h;let#[T,id,Cn,sl,ty,Cs,hk]:=a14 (X:=X) hp;show Yh C.mono Cn sl ty Cs hk po (P4 hb) hl
   rw[aA (by rw[aW];show λz=>h0 z.2)] at h;split at h
   .cases h
   .cases h;show a73 C.mono C.pass (OS C) po (Qe hb hl hf)
  |cons e es =>
   let fF:=m5 (env:=X.env) (es:=es) (ok e #[_]);let gU:=X0 (pos:=pos) (env:=X.env) (es:=es) λz hz=>ok z (by simp[hz]);rw[aA #[_]] at h;split at h
   .rename_i p hp;cases h;let#[T,id,Cn,sl,ty,Cs,hk]:=Zh (X:=X) C.units hp;show We C.mono Cn sl ty Cs hk po pa (P4 hb) hf hl fF gU
   .cases h;show Yi C.mono C.pass (OS C) po pa fF gU (Qe hb hl hf)
 .cases h
set_option tactic.hygienic true in
def Jb{tg:Expr}(h:Bm r c tg e=!m):PI X tg e (LI X.K Ξ (gS P m)):=by
 rcases orElse_some h with h|h
 .let#[q,hq,h']:=ai.mp h;rename_i h0;clear h h0;let h:=h';clear h';let#[p,pos',rfl]:=O4 hq;let#[y,as]:=q;dsimp only at h ⊢;split at h
  .rename_i hy;subst hy;rcases as with _|⟨a,_|⟨_,_⟩⟩
   .cases h
   .dsimp only at h;split at h
    .rename_i hc;simp only[Bool.and_eq_true] at hc;let#[#[#[hg,hb],ho],ht]:=hc;let#[ma,ha,rfl]:=ae.mp h;let#[es,k,tp,rfl]:=YH ht;show Wk C.mono (S.e X c Ξ C _ _ ha) (C.B4 hg) (C.blt _ hb) (m5 ho)
    .cases h
   .cases h
  .split at h
   .rename_i hy;subst hy;rcases as with _|⟨a,_|⟨_,_⟩⟩
    .cases h
    .dsimp only at h;split at h
     .rename_i hc;simp only[Bool.and_eq_true] at hc;let#[#[hg,hb],ho]:=hc;let#[ma,ha,rfl]:=ae.mp h;show bJ2 C.mono (S.e X c Ξ C _ _ ha) (C.B4 hg) (C.blt _ hb) (m5 ho)
     .cases h
    .cases h
   split at h
   .rename_i hy;subst hy;rcases as with _|⟨a,_|⟨b,_|⟨_,_⟩⟩⟩
    .cases h
    .dsimp only at h;split at h
     .rename_i hc;simp only[Bool.and_eq_true] at hc;let#[#[hg,hb],ho]:=hc;let#[ma,ha,rfl]:=ae.mp h;show Wl C.mono (S.e X c Ξ C _ _ ha) (C.B4 hg) (C.blt _ hb) (m5 ho)
     .cases h
    .dsimp only at h;split at h
     .rename_i hc;simp only[Bool.and_eq_true] at hc;let#[#[#[hg,hb],ho],jN]:=hc;let#[ma,ha,h]:=ai.mp h;let#[mb,kz,rfl]:=ae.mp h;show Wm C.mono (S.e X c Ξ C _ _ ha) (S.e X c Ξ C _ _ kz) (C.B4 hg) (C.blt _ hb) (by rw[m5 ho,m5 jN];rfl) (m5 jN)
     .cases h
    .cases h
   .cases h
 .split at h
  .let#[ma,ha,rfl]:=ae.mp h;show bJ1 C.mono (S.e X c Ξ C _ _ ha)
  .cases h
set_option tactic.hygienic true in
def AN{elt:Expr}{gens:@&Comprehension}(h:ur r c elt gens sc=!m):∃tg it ifs t mi mc me cl,gens=[#[tg,it,ifs,0]]/\m=.comp (c.c7 sc) (frees sc++locals sc).length t mi mc me/\ik it=true /\
  dg X sc (frees sc++locals sc) (c.c7 sc) cl/\PI X tg it (LI X.K Ξ (gS P mi))/\(∀pi A s H fp,PG (d0 X pi sc (frees sc++locals sc) cl A s H fp) tg (LG X.K t)) /\
   (∀pi A s H fp,lC (d0 X pi sc (frees sc++locals sc) cl A s H fp) ifs (LT X.K (nP Ξ.1) (eF P mc)))/\(∀pi A s H fp,PE (d0 X pi sc (frees sc++locals sc) cl A s H fp) elt (LE X.K (nP Ξ.1) (bj P me)))/\∀pi A s H fp,PE ((d0 X pi sc (frees sc++locals sc) cl A s H fp).V1 (Ao X Ξ.2 pi sc (frees sc++locals sc) cl fp A s H)) elt (LE X.K Ξ (bj P me)):=by
 unfold ur at h;rcases gens with _|⟨⟨tg,it,ifs,Jh⟩,_|⟨_,_⟩⟩
 .cases h
 .dsimp only at h;split at h
  .rename_i hs;simp only[Bool.and_eq_true,decide_eq_true_eq] at hs;let#[#[hs,rfl],hit]:=hs;let#[t,h1,h]:=ai.mp h;let#[mi,h2,h]:=ai.mp h;let#[mc,h3,h]:=ai.mp h;let#[me,h4,rfl]:=ae.mp h;let#[cl,Sc,I]:=C.comp hs;show#[tg,it,ifs,t,mi,mc,me,cl,rfl,rfl,hit,Sc,Jb S C h2,λpi A s H fp=>(I pi A s H fp).Mv rfl h1,λpi A s H fp=>b95 S (I pi A s H fp) h3,λpi A s H fp=>S.e _ _ _ (I pi A s H fp) elt me h4,λpi A s H fp=>S.e _ _ _ (I pi A s H fp).block elt me h4]
  .cases h
 .cases h
omit S in
set_option tactic.hygienic true in
def b98{f:Expr}{jJ:@&Keyword}(h:zu c f args jJ=!m):PE X (.Call f args jJ pos) (LE X.K Ξ (bj P m)):=by
 unfold zu at h;rcases args with _|⟨a,_|⟨_,_⟩⟩
 .cases h
 .dsimp only at h;split at h
  .rename_i hk;simp only[Bool.and_eq_true,decide_eq_true_eq] at hk;let#[#[#[#[#[hk,hf],lV],hb],Tc],Tv]:=hk;cases jJ<;>first|(cases hk;done)|skip
   let#[q,hq,h]:=ai.mp h;let#[u,hu,h]:=ai.mp h;let#[v,hv,h]:=ai.mp h;split at h
   .rename_i hs;simp only[Bool.and_eq_true,decide_eq_true_eq] at hs;let#[x,hx,h]:=ai.mp h;let#[y,hy,h]:=ai.mp h;split at h
    .rename_i hw;simp only[Bool.and_eq_true] at hw;let#[#[#[nx,ny],vx],vy]:=hw;let#[i,hi,h]:=ai.mp h;let#[j,hj,rfl]:=ae.mp h;let#[x1,x2,_]:=L9 nx;let#[y1,y2,_]:=L9 ny;cases f<;>first|(cases hf;done)|skip
     cases hf;let#[p,pp,e1]:=O4 hu;let#[p',pp',e2]:=O4 hv;let#[u1,u2]:=u;let#[v1,v2]:=v;dsimp only at hs e1 e2 hx hy;let#[rfl,rfl]:=hs;let#[p1,rfl]:=OC hx;let#[p2,rfl]:=OC hy;let#[p3,rfl]:=WJ hq;rw[e1,e2];show bJ9 C.mono C.calm (C.qE hi) (C.qE hj) (C.GL vx) (C.GL vy) x1 x2 y1 y2 (C.B4 lV) (C.blt _ hb) (C.B4 Tc) (C.blt _ Tv)
    .cases h
   .cases h
  .cases h
 .cases h
set_option tactic.hygienic true in
def RY:∀e m,Ln r c e=!m->PE X e (LE X.K Ξ (bj P m)):=by
 intro e m h;cases e with
 |Name x p=>show bP0 C h
 |Constant k j p =>
  let#[d,hd,rfl]:=ae.mp (show(uk k).map ME.lit=some m from h);show Cr hd
 |BinOp a op b p =>
  let#[ma,mb,ha,hb,rfl]:=vL S C h;show Hd C.mono (Le (bO7 op) ha hb)
 |UnaryOp op a p=>show b94 S C h
 |Compare a ops bs p=>show(Lb S C h).1
 |BoolOp op vs p=>show Sa S C h
 |IfExp t a b p =>
  let#[mt,ht,h]:=ai.mp h;let#[ma,ha,h]:=ai.mp h;let#[mb,hb,rfl]:=ae.mp h;show bK1 C.mono (S.t X c Ξ C _ _ ht) (S.e X c Ξ C _ _ ha) (S.e X c Ξ C _ _ hb)
 |Tuple es k p =>
  let#[ma,ha,rfl]:=ae.mp h;show bJ8 C.mono (wN S C ha)
 |List es p =>
  let#[ma,ha,rfl]:=ae.mp h;show Qv C.mono (wN S C ha)
 |Subscript a b p=>show Zu S C h
 |Dict ks vs p =>
  let h2:(if ks.isEmpty&&vs.isEmpty then some (ME.prim .rT .nil) else if decide (-ks<=15) then(Bk r c ks vs).map .pJ else none)=!m:=h;split at h2
  .rename_i hc;cases ks<;>cases vs<;>first|(cases hc;done)|skip
   cases h2;show Wa
  .rename_i hc;split at h2
   .rename_i hl;let#[ms,hm,rfl]:=ae.mp h2;let#[jd,D]:=RZ S C hm;show bK3 C.mono D (λz=>hc ?_) (bp hl);have:=D.len.2;subst z;cases vs<;>first|rfl|cases this
   .cases h2
 |Attribute o f p =>
  let h2:(if yx o then c1 r c (.fld f) o else none)=!m:=h;split at h2
  .rename_i hb;let#[ma,ha,rfl]:=yq S C h2;show bK2 C.mono ha (P4 hb)
  .cases h2
 |Call f args jJ pos =>
  let h1:((BX r c f args jJ).orElse λy=>(zu c f args jJ).orElse λy=>GO r c f args jJ pos)=!m:=h;rcases orElse_some h1 with h2|h2
  .unfold BX at h2;rcases args with _|⟨a,_|⟨_,_⟩⟩
   .cases h2
   .dsimp only at h2;split at h2
    .rename_i hk;simp only[Bool.and_eq_true,decide_eq_true_eq] at hk;let#[#[#[hk,hf],lV],hb]:=hk;cases jJ<;>first|(cases hk;done)|skip
     let#[q,hq,h3]:=ai.mp h2;let#[m1,h4,h5]:=ai.mp h3;cases f<;>first|(cases hf;done)|skip
     cases a<;>first|(cases hq;done)|skip
     cases hf;cases hq;let#[tg,it,ifs,t,mi,mc,me,cl,eg,rfl,hit,Sc,q1,q2,q3,q4,_]:=AN S C h4;dsimp only at eg;subst eg;cases h5;show Yj C.mono Sc C.calm q1 q2 q3 q4 (X7 hit) (C.B4 lV) (C.blt _ hb)
    .cases h2
   .cases h2
  clear h h1;rcases orElse_some h2 with h3|h3
  .exact b98 C h3
  clear h2;unfold GO at h3;split at h3
  .rename_i hk;cases jJ<;>first|(cases hk;done)|skip
   cases f with
   |Name x p=>show bB4 S C h3
   |Attribute o a p=>show bB5 S C h3
   |_=>cases h3
  .cases h3
 |Set es k p =>
  let h2:EY c es k=!m:=h;unfold EY at h2;split at h2
  .rename_i hc;rw[aW] at hc;obtain rfl:=bp hc.2;split at h2
   .cases h2;show Wf C.mono (C.code hc.1)
   .cases h2
  .cases h2
 |ListComp elt gens sc p =>
  let#[tg,it,ifs,t,mi,mc,me,cl,rfl,rfl,hit,Sc,q1,q2,q3,q4,_]:=AN S C h;show(Oa Sc C.calm q1 q2 q3 q4 (X7 hit)).imp λU H Q h=>OJ C.mono U H Q h
 |_=>cases h
set_option tactic.hygienic true in
def RU:∀e m,stepT r c e=!m->PT X e (LT X.K Ξ (eF P m)):=by
 intro e m h;let plain:∀{e:Expr} {m:ME},(if Gd e then(r.e c e).map ME.fg else none)=!m->PT X e (LT X.K Ξ (eF P m)):=λ{e m} h=>by
  split at h
  .rename_i hp;let#[ma,ha,rfl]:=ae.mp h;show bI0 C.mono (S.e X c Ξ C _ _ ha) (a87 hp)
  .cases h
 cases e with
 |UnaryOp op a p =>
  let h2:(if op=.Not then(r.t c a).map ME.dt else none)=!m:=h;split at h2
  .rename_i ho;subst ho;let#[ma,ha,rfl]:=ae.mp h2;show bI2 C.mono (S.t X c Ξ C _ _ ha)
  .cases h2
 |BoolOp op vs p=>show(RT S C h).pt
 |Compare a ops bs p =>
  let#[ma,ha,rfl]:=ae.mp (show(yX r c a ops bs).map ME.fg=some m from h);show(Lb S C ha).2
 |_=>show plain h
end
section
def OG(h:KG e=!m):PE X e (LE X.K Ξ (bj P m))/\ik e=true:=by
 cases e<;>first|(cases h;done)|skip
 let#[d,hd,rfl]:=ae.mp (show(uk _).map ME.lit=some m from h);show#[Cr hd,rfl]
def YN(hP:d5 P):∀{es:@&Expr} {m:ME},GU es=!m->PA X es (LA X.K Ξ (fW P m)):=by
 intro es
 induction es with
 |nil=>intro m h;cases h;show O2 hP
 |cons e es ih =>
  intro m h;let#[m1,h1,h]:=ai.mp h;let#[m2,h2,rfl]:=ae.mp h;show D9 hP (OG h1).1 (ih h2) (m5 (OG (X:=X) (Ξ:=Ξ) (P:=P) h1).2)
def WT(hP:d5 P)(h:KC e=!m):PE X e (LE X.K Ξ (bj P m)):=by
 cases e<;>first|(cases h;done)|skip
 .let#[d,hd,rfl]:=ae.mp (show(uk _).map ME.lit=some m from h);show Cr hd
 .let#[ms,hm,rfl]:=ae.mp h;show Qv hP (YN hP hm)
def a47{h:ExceptHandler}{q:Str×Expr}(hq:Lx h=!q):∃p p1 p2,h=.ExceptHandler (!.Name q.1 p) none [.Return (!q.2) p1] p2:=by
 let#[t,n,b,p0]:=h;cases n with
 |some _=>cases hq
 |none =>
  let#[t,rfl,hq]:=ai.mp (show t.bind _=some q from hq);let#[y,hy,hq]:=ai.mp hq;let#[e,he,rfl]:=ae.mp hq;let#[p,rfl]:=Gf hy;rcases b with _|⟨s,_|⟨_,_⟩⟩
  .cases he
  .cases s<;>first|(cases he;done)|(cases he;show#[_,_,_,rfl])
  .cases he
set_option tactic.hygienic true in
def WR(C:ig X c P Ξ)(Dp:vK X Ξ.2):∀{hs:@&ExceptHandler} {ms:@&(Str×ME)},Bl c hs=!ms->nu X Ξ P hs ms:=by
 intro hs
 induction hs with
 |nil=>intro ms h;cases h;show .nil Dp
 |cons hd hs ih =>
  intro ms h;let#[q,hq,h']:=ai.mp h;clear h;let h:=h';clear h';let#[p,p1,p2,rfl]:=a47 hq;let#[y,e]:=q;dsimp only at h ⊢;split at h
  .rename_i hc;simp only[Bool.and_eq_true] at hc;let#[m,h1,h]:=ai.mp h;let#[Jd,h2,rfl]:=ae.mp h;let#[C',hm,hi,_]:=C.exc y hc.1.1;show .cons (C.B4 hc.1.2) (L9 hc.2).1 hm (λx C1 hx h1=>C.Ah x y C1 C' ?_ hc.1.1 h1 hi) (λea=>WT C.mono h1) (ih h2);rw[C.xN] at hx;simpa using hx
  .cases h
def aT5{e f:Option Expr}{q:Str×Expr×@&Expr}(h:NI e f=!q):f=none/\∃p p',e=!.Call (.Name q.1 p) (q.2.1::q.2.2) [] p':=by
 cases f with
 |some _=>cases h
 |none =>
  let#[t,rfl,h]:=ai.mp (show e.bind _=some q from h);let#[z,hz,h]:=ai.mp h;let#[p,p',rfl]:=O4 hz;let#[x,as]:=z;cases as with
  |nil=>cases h
  |cons a as=>cases h;show#[rfl,_,_,rfl]
def NP(C:ig X c P Ξ){f:Str}:Al X.K f (c.BD f):=λy C' h hC=>by
 let#[#[f',y'],h1,h2]:=aQ.mp h;let#[h3,h4]:=bg.mp h1;cases h2;have:f'=f:=by simpa using h4
 subst this;show C.oV f' y' C' h3 hC
variable(S:rY P r)(C:ig X c P Ξ)
include S C
set_option tactic.hygienic true in
def Zt{tg:Expr}{m:MS}(hw:c.wr=true)(hS:∀e m,r.e c e=!m->B8 e=false->∃elt gens sc p,e=.ListComp elt gens sc p/\∃r',rY P r'/\ur r' c elt gens sc=!m)(hT:∀a b k p m,r.e c (.Tuple [a,b] k p)=!m->∃r' ms,rY P r'/\N6 r' c [a,b]=!ms/\m=.prim .tup ms)(h:Mp r c tg e=!m):PS X (.Assign [tg] e pos) (LS X.K Ξ (wpS P m)):=by
 cases tg with
 |Name x px =>
  let h2:(if c.C4 x then(c.idx x).bind λi=>(r.e c e).map λm=>MS.set i m else none)=!m:=h;split at h2
  .rename_i hl;let#[i,hi,h2]:=ai.mp h2;let#[me,he,rfl]:=ae.mp h2;cases hn:B8 e with
   |true=>show Qz C.mono (Qt (C.uL hw) (C.qE hi) (C.C4 hl).1 (S.e X c Ξ C _ _ he) (Gb hn) (C.C4 hl).2)
   |false =>
    let#[elt,gens,sc,p,rfl,r',S',hx]:=hS e me he hn;let#[tg,it,ifs,t,mi,mc,me,cl,rfl,rfl,hit,Sc,q1,q2,q3,q4,_]:=AN S' C hx;show Qz C.mono ?_;show(aR6 Sc C.calm q1 q2 q3 q4 (X7 hit) (C.uL hw) (C.qE hi) (C.C4 hl).1 (C.C4 hl).2).imp λN U H h=>OJ C.mono U H _ h
  .cases h2
 |Tuple es k pt =>
  let h0:((GR es).elim (if vJ e&&B8 e then(c.slots es).bind λis=>(r.e c e).map λm=>MS.pk (.many is) m else none) λq=>if B8 e&&ik q.2.1&&ik q.2.2.2 then(r.e c q.1).bind λm1=>(r.e c q.2.1).bind λn1=>(r.e c q.2.2.1).bind λm2=>(r.e c q.2.2.2).bind λn2=>(r.e c e).map λm=>MS.zy m1 n1 m2 n2 m else none)=!m:=h;cases hq:GR es with
  |some q =>
   rw[hq] at h0;dsimp only[Option.elim] at h0;split at h0
   .cases hq
   .cases h0
  |none =>
  rw[hq] at h0;let h2:(if vJ e&&B8 e then(c.slots es).bind λis=>(r.e c e).map λm=>MS.pk (.many is) m else none)=!m:=h0;split at h2
  .rename_i hn;rw[aW] at hn;let#[is,hs,h2]:=ai.mp h2;let#[me,he,rfl]:=ae.mp h2;show bH5 C.mono (Qs (S.e X c Ξ C _ _ he) (Oq C.calm (C.uL hw) (C.slots hs)) (Ni hn.2) (Xu hn.1))
  .cases h2
 |Subscript o i pt =>
  let h2:(if ik i&&B8 e then(r.e c o).bind λmo=>(r.e c i).bind λmi=>(r.e c e).map λm=>MS.eT mo mi m else none)=!m:=h;split at h2
  .rename_i hn;rw[aW] at hn;let#[mo,ho,h2]:=ai.mp h2;let#[mi,hi,h2]:=ai.mp h2;let#[me,he,rfl]:=ae.mp h2;show Yt C.mono C.units (S.e X c Ξ C _ _ he) (S.e X c Ξ C _ _ ho) (S.e X c Ξ C _ _ hi) (Ni hn.2) (bB1 hn.1)
  .cases h2
 |Attribute o f pt =>
  let#[mo,ho,h]:=ai.mp h;let#[me,he,rfl]:=ae.mp h;show Wu C.mono (NP C) (S.e X c Ξ C _ _ ho) (S.e X c Ξ C _ _ he) (by cases e<;>rfl)
 |_=>cases h
set_option tactic.hygienic true in
def RV(hw:c.wr=true)(hS:∀e m,r.e c e=!m->B8 e=false->∃elt gens sc p,e=.ListComp elt gens sc p/\∃r',rY P r'/\ur r' c elt gens sc=!m)(hT:∀a b k p m,r.e c (.Tuple [a,b] k p)=!m->∃r' ms,rY P r'/\N6 r' c [a,b]=!ms/\m=.prim .tup ms) :
  ∀st m,Lo r c st=!m->PS X st (LS X.K Ξ (wpS P m)):=by
 intro st m h;let hP:=C.mono;cases st with
 |AugAssign tg op e p =>
  cases tg with
  |Attribute o f tp =>
   let h2:(if decide (op=Operator.Add) then(r.e c o).bind λmo=>(r.e c e).map λm=>MS.ly f (c.BD f) mo m else none)=!m:=h;split at h2
   .rename_i ho;obtain rfl:=bp ho;let#[mo,ho,h2]:=ai.mp h2;let#[me,he,rfl]:=ae.mp h2;show Wr C.mono (NP C) (S.e X c Ξ C _ _ ho) (S.e X c Ξ C _ _ he)
   .cases h2
  |Name x tp =>
   let h2:(if c.C4 x then(Ky op).bind λp=>(c.idx x).bind λi=>(r.e c e).map λm=>MS.kF i p m else none)=!m:=h;split at h2
   .rename_i hl;let#[p,hp,h2]:=ai.mp h2;let#[i,hi,h2]:=ai.mp h2;let#[me,he,rfl]:=ae.mp h2;show Ws C.mono ?_ (C.uL hw) (C.qE hi) (C.C4 hl).1 (C.C4 hl).2 (S.e X c Ξ C _ _ he);cases op<;>first|(cases hp;done)|skip
    .cases hp;show .inl #[rfl,rfl]
    .cases hp;show .inr #[rfl,rfl]
   .cases h2
  |_=>cases h
 |Expr e p =>
  let h2:(if B8 e then(r.e c e).map MS.expr else none)=!m:=h;split at h2
  .rename_i hn;let#[me,he,rfl]:=ae.mp h2;show Wt hP (S.e X c Ξ C _ _ he) (Gb hn)
  .cases h2
 |Assign Cb e p =>
  rcases Cb with _|⟨tg,_|⟨_,_⟩⟩
  .cases h
  .exact Zt S C hw hS hT h
  .cases h
 |If t a b p =>
  let#[mt,ht,h]:=ai.mp h;let#[ma,ha,h]:=ai.mp h;let#[mb,hb,rfl]:=ae.mp h;show ZZ hP (S.t X c Ξ C _ _ ht) (vw S C hw ha) (vw S C hw hb)
 |For tg it body qr p =>
  let h2:(if c.nr&&(qr.isEmpty&&ik it) then(c.tg tg).bind λt=>(Bm r c tg it).bind λmi=>(A7 r c body).map λmb=>MS.ju t mi mb else none)=!m:=h;split at h2
  .rename_i hc;rw[aW,aW] at hc;cases qr<;>first|(cases hc.2.1;done)|skip
   let#[t,h1,h2]:=ai.mp h2;let#[mi,h3,h2]:=ai.mp h2;let#[mb,h4,rfl]:=ae.mp h2;show bH7 hP (C.own hc.1) C.calm (Jb S C h3) (C.Mv hw h1) (vw S C hw h4) (X7 hc.2.2)
  .cases h2
 |While t body qr p =>
  let h2:(if c.nr&&qr.isEmpty then(r.t c t).bind λmt=>(A7 r c body).map λmb=>MS.kS mt mb else none)=!m:=h;split at h2
  .rename_i hc;rw[aW] at hc;cases qr<;>first|(cases hc.2;done)|skip
   let#[mt,h1,h2]:=ai.mp h2;let#[mb,h4,rfl]:=ae.mp h2;show Yu hP (C.own hc.1) (S.t X c Ξ C _ _ h1) (vw S C hw h4)
  .cases h2
 |Return e p =>
  cases e with
  |none=>cases h;show(VN (X:=X)).imp (by rintro N cu H ⟨U,g,ρ,s,R,h⟩;show LQ.now h R .aR)
  |some e =>
   let#[me,he,rfl]:=ae.mp (show(r.e c e).map (λm=>MS.ret (toR c e m))=some m from h);show Qy hP ?_;unfold toR;split
   .split
    .rename_i hc;rw[aW] at hc;let#[elt,gens,sc,p,rfl,r',S',hx]:=hS e _ he (_/hc.1);let#[tg,it,ifs,t,mi,mc,me,cl,rfl,em,hit,Sc,q1,q2,q3,_,q5]:=AN S' C hx;cases em;let#[fF,hf,hh]:=C.jq hc.2;show(XH fF hf hh Sc C.calm q1 q2 q3 q5 (X7 hit)).imp λU H Q h=>a78 C.mono U H Q h
    .exact S.e X c Ξ C _ _ he
   .exact S.e X c Ξ C _ _ he
 |Raise e f p =>
  let#[q,hq,h2]:=ai.mp h;clear h;let#[rfl,px,p2,rfl]:=aT5 hq;let#[x,e,es]:=q;dsimp only at h2 ⊢;split at h2
  .rename_i hc;simp only[Bool.and_eq_true] at hc;let#[ma,ha,rfl]:=ae.mp h2;let ok:=Fl ha;let#[C',hm,hi,B,nI,iI,bm,O,FB]:=C.exc x hc.1.1.2;show Ys hP C.calm O FB (C.B4 hc.1.2) (wN S C ha) (C.kr hc.1.1.1) (by rw[C.xN];simpa using hc.1.1.2) hi (m5 (ok e #[_])) (X0 λz hz=>ok z (by simp[hz])) (L9 hc.2).1
  .cases h2
 |Try body hs el fi p =>
  let h2:(if c.jq&&~~~hs.isEmpty&&el.isEmpty&&fi.isEmpty then(A7 r { c with kr:=false,jq:=false,wr:=true } body).bind λmb=>(Bl c hs).map λms=>MS.qI mb ms else none)=!m:=h;split at h2
  .rename_i hc;simp only[Bool.and_eq_true] at hc;let#[#[#[ht,hh],he],hf]:=hc;cases el<;>first|(cases he;done)|skip
   cases fi<;>first|(cases hf;done)|skip
   cases hs<;>first|(cases hh;done)|skip
   let#[fF,hf,Dp]:=C.jq ht
   .let#[mb,h1,h2]:=ai.mp h2;let#[ms,h3,rfl]:=ae.mp h2;show bH6 hP (C.sgn hw) (λpi D=>vw S (C.qI hw fF hf pi D _ (λU hl y=>#[by rw[zp,hl],λi v z=>?_]) λy=>rfl) rfl h1) (WR C Dp h3);rw[dU] at z;split at z<;>cases z
  .cases h2
 |Pass p=>cases h;show(VM (X:=X)).imp (by rintro N cu H ⟨U,g,ρ,s,R,h⟩;show h ρ H cu (.refl _ _) R s)
 |_=>cases h
end
def aT2(h:(comp (n+1)).e c e=!m)(hn:B8 e=false):∃elt gens sc p,e=.ListComp elt gens sc p/\ur (comp n) c elt gens sc=!m:=by
 cases e<;>first|(cases hn;done)|(cases h;done)|show#[_,_,_,_,rfl,h]
def snd:∀n,(∀k,k<=n->rY P (comp k)):=by
 intro n
 induction n with
 |zero =>
  intro k hk;obtain rfl:=Nat.le_zero.mp hk;show#[λx x x x x x h=>(by cases h),λx x x x x x h=>(by cases h),λx x x x x x x h=>(by cases h)]
 |succ n ih =>
  intro k hk;rcases eW k (n+1) with dQ|hge
  .grind
  obtain rfl:k=n+1:=by omega
  let I:=ih n (aw n);show#[λX c Ξ C e m h=>RY I C e m h,λX c Ξ C e m h=>RU I C e m h,λX c Ξ C hw st m h=>?_];rcases orElse_some h with h|h
  rotate_left
  .cases h;show λpi s U H D I q=>by let#[_,_,_,_,_,z]:=q;show(show False from z).elim
  show RV I C hw (λe m he hn=>?_) (λa b k p m he=>?_) st m h
  .cases n with
   |zero=>cases he
   |succ n =>
    let#[elt,gens,sc,p,rfl,hx]:=aT2 he hn;show#[_,_,_,_,rfl,comp n,ih n (),hx]
  .cases n with
   |zero=>cases he
   |succ n =>
    let#[ms,hm,rfl]:=ae.mp (show(N6 (comp n) c [a,b]).map (ME.prim .tup)=some m from he);show#[comp n,ms,ih n (),hm,rfl]
structure qK where
 nm:Str
 qn:Str
 N:@&Str
 ps:@&Str
 st:Stmt
def d8.at(c:d8)(d:qK):d8:={ c with N:=d.N,nm:=(q9 d.st).names,nr:=true,kr:=true,jq:=true,wr:=true }
structure kh(K:PySem.W.Frag)(c:d8)(d:qK)(m:aP)(f:Addr)(fd:FuncData):Prop where
 fn:rZ K d.nm d.qn d.st f fd
 bi:Binds K fd d.ps []
 sc:jB d.N d.ps (q9 d.st)
 co:A7 (comp 60) (c.at d) (u3 d.st)=!m.body
 ar:m.ar=-d.ps
 nn:m.n=-d.N
structure oY(w:World)(K:PySem.W.Frag)(mg:Str->Option Value)(c:d8)(T:Nat->Option aP):Prop where
 fns:∀x i,c.fns.lookup x=!i->∃d m f fd,T i=!m/\kh K c d m f fd/\mg x=!.ref f
 cls:∀x i,c.cls.lookup x=!i->∃C d m f fd,T i=!m/\kh K c d m f fd/\mg x=!.ref C/\u9 K x C/\jT K C/\Mk K C f
 om:∀x y i C,(x,y,i)∈c.om->u9 K y C->∃d m f fd,T i=!m/\kh K c d m f fd/\Meth K C x f
 oV:∀f y C,(f,y)∈c.oV->u9 K y C->E4 K C f
 con:∀x d,c.con.lookup x=!d->∃v u,mg x=!u/\RelV v u/\∀ρ H,c9 K ρ H d v
 blt:∀x,c.blt.contains x=true->mg x=none
 Et:∀x,c.exc.contains x=true->∃C,mg x=!.ref C/\u9 K x C/\∀base:Heap,K.In base->base.Ns mainGlobals mg->∃B newId ip bm,OwnCls x C bm newId mg base/\ExcBaseFacts B newId ip bm
 Es:∀x y C C',c.exc.contains x=true->c.exc.contains y=true->u9 K x C->u9 K y C'->PySem.W.exmOne K (.ref C) (.ref C')=!decide (x=y\/y="MintError")
 tS:∀x kvs,c.gd.lookup x=!kvs->∃A vs,mg x=!.ref A/\Bh K w.params A vs/\rR K kvs vs
section
variable{Pg:Program}{w:World}{K:PySem.W.Frag}{mg:Str->Option Value}{base:Heap}{T:Nat->Option aP}
set_option tactic.hygienic true in
def bQ6{q:Str}(h:PySem.W.codeIn K cd q=true):PySem.W.kdsCode K cd=true:=by
 unfold PySem.W.codeIn at h;unfold PySem.W.kdsCode;split at h
 .dsimp only;split at h
  .rename_i e;rw[e]
  .cases h
 .cases h
def bA2:Passes (iB Pg w) (qy (iB Pg w) Pg w K mg base N qual scope f cd A outer s H E) E:=λpi U H1 s1 e s' I h=>by
 let#[C,H',J,fl,hE]:=I.flew h;show aN4 J fl (λb o q=>I.base.there b o q (by intro z;cases z)) rfl rfl rfl hE
def XZ:AE (qy (iB Pg w) Pg w K mg base N qual scope f cd A outer s H E) E:=λpi U H1 s1 h' ea C vs I hm hE =>
 a20 I hm rfl rfl rfl hE
def bD1:vK (qy (iB Pg w) Pg w K mg base N qual scope f cd A outer s H E) E:=λpi U H1 H2 s1 s2 B ea C a0 I l hh hE =>
 leave_held I l hh rfl rfl rfl hE
def Hw{k:Nat}{m:aP}(hT:T i=!m){ds:@&D}{g:G}{Q:KD}{E:KX}(h:a8 T k i ds g Q E):-ds=m.ar:=by
 cases k with
 |zero=>show h.elim
 |succ k =>
  let#[m',e,h,_]:=h
  simp_all
def bU2(ow:K.In base)(xJ:base.Ns mainGlobals mg)(A:oY w K mg c T):∀(k i:Nat) d m f fd,T i=!m->kh K c d m f fd->iq Pg w K mg base (iB Pg w) (2*k) f fd d.ps (qW c.exc K (-d.ps) (a8 T k i)):=by
 intro k
 induction k with
 |zero =>
  intro i d m f fd hm O;show#[λvs H Q E h=>h.1,λA outer s H args us vs Q E v v v v h=>?_];let#[_,_,_,_,_,_,q]:=h;show q.elim
 |succ k ih =>
  intro i d m f fd hm O;let#[oc,od,kV,doc,pm,an,gi,ct,nJ,rfl,lk,nh]:=O.fn.ex;show b21 (k:=2*k+1) lk nh O.sc (λvs H Q E h=>h.1) (λA0 outer s H vs Q E hr h=>?_);let#[hl,xs,g,ρ,rs,R,q]:=h;let C:ig (qy (iB Pg w) Pg w K mg base d.N d.qn (q9 d.st) f gi A0 outer s H E) (c.at d) (a8 T k) (c.exc,E):=by
   show#[rfl,O.sc.nd,λx h=>h,λx h=>h,λx h=>.inr h,λx h=>h,λx h=>?_,λv v=>rfl,rfl,?_,(λv=>PassesOwn.leaving),a6 T k,A.con,A.blt,λx j hj=>?_,λx j hj=>?_,λx y j C' hj hC=>?_,A.oV,rfl,bA2,λv=>XZ,λv=>#[rfl,rfl,bD1],λx hx=>?_,A.Es,A.tS,λv=>bQ6 nh,λv=>rfl]
   .rcases h with h|h
    .exact Fj h
    .exact absurd rfl (O.sc.oi _ (aS h))
   .have:=hr.un;show(A0.deeper _).units+100<cLine;omega
   .let#[d',m',f',rO,hT,O',hmg]:=A.fns x j hj;show#[2*k,f',rO,d'.ps,#[ih j d' m' f' rO hT O',O'.bi,λKp g' Q' E' h'=>(Hw hT h').trans O'.ar],hr.mono (),hmg,O'.fn.kp]
   .let#[C',d',m',f',rO,hT,O',hmg,hC,ke,M]:=A.cls x j hj;show#[2*k,C',f',rO,d'.ps,#[ih j d' m' f' rO hT O',O'.bi,λKp g' Q' E' h'=>(Hw hT h').trans O'.ar],hr,hmg,hC,ke,M]
   .let#[d',m',f',rO,hT,O',M]:=A.om x y j C' hj hC;show#[2*k,f',rO,d'.ps,M,#[ih j d' m' f' rO hT O',O'.bi,λKp g' Q' E' h'=>(Hw hT h').trans O'.ar],hr.mono ()]
   .let#[C,h1,h2,h3]:=A.Et x hx;show#[C,h1,h2,h3 base ow xJ]
  show#[_,vw (snd 60 60 (aw _)) C rfl O.co,?_];let#[m',e,q1,q]:=q;rw[hm] at e;cases e;show#[b0 m xs,g,ρ,?_,R,wpS_mono (a6 T k) m.body #[λv g'=>LQ K ρ H Q .aR g',LQ K ρ H Q,λv v=>False,λv v=>False] _ _ _ _ _ #[λU g' h bQ H' dk e R' s'=>h bQ H' _ e R' .aR,λd g' h=>h,λv v h=>h.elim,λv v h=>h.elim] (λv v z=>z) q];have:=p6.start (n:=-d.N) rs;unfold b0 L2.start;rw[O.nn];show this
def bQ1{L k0:Nat}{a:Addr}{ns:@&Int}(hO:BB H)(hS:gw K H a (ns.map V.int))(h:a8 T k0 L [.ref 0] [.qq (ns.map .int)] (λd x=>d=.bl true) jS) :
  qW exc K 1 (a8 T k0 L) [.ref a] H (λv x=>v=.bl true) λx x x=>False:=by
 show#[rfl,[.ref 0],[.qq (ns.map .int)],[a],.cons (.ref rfl) .nil,#[rfl,λi o b h1 h2=>?_,λi j l m b h1 h2 m1=>?_],a6 T k0 _ _ _ _ _ _ _ (λd g' e bQ H' v x x r=>?_) (λx x z=>z.elim) h]
 .cases i with
  |zero =>
   cases h1;cases h2;show#[_,?_,b8.ofInts ns];rcases hS with(z|⟨o,z⟩)|z
   .rcases hO a with q|⟨o,xs,q⟩
    .simp_all
    simp_all
   .exact .inl #[o,z]
   .exact .inr z
  |succ i=>simp at h1
 .cases i with
  |zero=>cases h1;cases m1
  |succ i=>simp at h1
 .subst e;cases r
  rfl
end
end M
namespace M
open PySem L2
variable{P:fG}{g:G}{Q:KD}{E:KX}{N:Ends}{a i n:Nat}{b:Bool}{c f:Str}{o cond elt:ME}{x y d v:D}{cs:@&Str}{j:Int}{l:@&D}{A B:Prop}{kg:G->Prop}{ns:@&Int}{c7:@&Nat}{R:IK->G->Prop}
section
variable{U:S}{a b c:ME}{x y:MS}{p:Pr}
def E6(h:N.nx U g):wpS P .pass N U g E:=h
def yn(h:wpS P x #[λiU g1=>wpS P y N iU g1 E,N.rt,N.bk,N.ct] U g E):wpS P (.seq x y) N U g E:=h
def AA(h:wpS P x N U g E):wpS P (.seq x .pass) N U g E:=h
def bF9(h:bj P a U g (λx g1=>N.nx U g1) E):wpS P (.expr a) N U g E:=h
def yo(h:bj P a U g (λx g1=>N.nx (U.set i (!x)) g1) E):wpS P (.set i a) N U g E:=h
def bU7{t:MT}(h:bj P a U g (λx g1=>kq t x U λiU=>N.nx iU g1) E):wpS P (.pk t a) N U g E:=h
def WE{i:ME}(h:bj P a U g (λx g1=>bj P o U g1 (λy g2=>bj P i U g2 (λz g3=>Z7 y z x g3 λg4=>N.nx U g4) E) E) E):wpS P (.eT o i a) N U g E:=h
def bF6(h:bj P a U g (λx g1=>bj P o U g1 (λy g2=>yj f cs y x g2 λg3=>N.nx U g3) E) E):wpS P (.fH f cs o a) N U g E:=h
def QC(h:bj P o U g (λy g1=>∃a' c fs x,y=.ref a'/\g1[a']?=!.ins c fs/\c∈cs/\fs.lookup f=!x/\bj P a U g1 (λz g3=>cP .iadd [x,z] g3 λw g4=>∃jQ,g4[a']?=!.ins c jQ/\-jQ<100/\N.nx U (g4.set a' (.ins c (f9 f w jQ)))) E) E):wpS P (.ly f cs o a) N U g E:=h
def Lu(h:eF P c U g (λt g1=>if t=true then wpS P x N U g1 E else wpS P y N U g1 E) E):wpS P (.ifs c x y) N U g E:=h
def GN(h:bj P a U g N.rt E):wpS P (.ret a) N U g E:=h
def WB{x:Str}(h:fW P a U g (λvs g1=>-vs<=1000/\E #[x] g1) E):wpS P (.raise x a) N U g E:=h
def bU8{hs:@&(Str×ME)}(h:wpS P x N U g (pj P N (U.map λy=>none) E hs)):wpS P (.qI x hs) N U g E:=h
def b18{x:Xn}{e:ME}{r:@&(Str×ME)}(h:bj P e U g N.rt jS):pj P N U E (("MintError",e)::r) x g:=by unfold pj;rw[az (.inr rfl)];show h
def w_var(e:U[i]?=!!d)(h:Q d g):bj P (.var i) U g Q E:=by show#[d,e,h]
def w_lit(h:Q d g):bj P (.lit d) U g Q E:=h
def bF7(h:fW P a U g (λxs g1=>cP p xs g1 Q) E):bj P (.prim p a) U g Q E:=h
def b53(h:cP p [] g Q):bj P (.prim p .nil) U g Q E:=by show h
def yW(h:bj P a U g (λx g1=>cP p [x] g1 Q) E):bj P (.prim p (.cons a .nil)) U g Q E:=by show h
def qJ(h:bj P a U g (λx g1=>bj P b U g1 (λy g2=>cP p [x,y] g2 Q) E) E):bj P (.prim p (.cons a (.cons b .nil))) U g Q E:=by show h
def Wz{o1 o2:CmpOp}(h:bj P a U g (λx g1=>bj P b U g1 (λy g2=>cP (.cmp o1) [x,y] g2 λz g3=>∃t,z=.bl t/\if t=true then bj P c U g3 (λw g4=>cP (.cmp o2) [y,w] g4 Q) E else Q (.bl false) g3) E) E):bj P (.chain o1 o2 a b c) U g Q E:=h
def w_and(h:bj P a U g (λx g1=>∃t,x=.bl t/\if t=true then bj P b U g1 Q E else Q (.bl false) g1) E):bj P (.eI a b) U g Q E:=h
def w_not(h:bj P a U g (λx g1=>∃t,x=.bl t/\Q (.bl (~~~t)) g1) E):bj P (.dt a) U g Q E:=h
def w_ite(h:eF P c U g (λt g1=>if t=true then bj P a U g1 Q E else bj P b U g1 Q E) E):bj P (.ite c a b) U g Q E:=h
def QD{f:Nat}(h:fW P a U g (λxs g1=>P f xs g1 Q E) E):bj P (.call f a) U g Q E:=h
def bF8{f:Nat}{c:Str}(h:fW P a U g (λxs g1=>P f (.ref (-g1)::xs) (g1++[.ins c []]) (λd g2=>d=.aR/\Q (.ref (-g1)) g2) E) E):bj P (.make c f a) U g Q E:=h
def WA{m:Str}{cs:@&(Str×Nat)}(h:bj P o U g (λx g1=>∃a' c fs f,x=.ref a'/\g1[a']?=!.ins c fs/\fs.lookup m=none/\cs.lookup c=!f/\fW P a U g1 (λxs g2=>P f (x::xs) g2 Q E) E) E):bj P (.cT m cs o a) U g Q E:=h
def Hk(h:bj P o U g (λx g1=>nK p x g1/\fW P a U g1 (λxs g2=>cP p (x::xs) g2 Q) E) E):bj P (.dZ p o a) U g Q E:=h
def bV0(h:fW P a U (g++[.cV []]) (λxs g1=>∃kvs,vW xs []=!kvs/\-xs<=30/\g1[(-g)]?=!.cV []/\Q (.ref (-g)) (g1.set (-g) (.cV kvs))) E):bj P (.pJ a) U g Q E:=h
def Bx{Q:@&D->G->Prop}(h:Q [] g):fW P .nil U g Q E:=h
def yD{Q:@&D->G->Prop}(h:bj P a U g (λx g1=>fW P b U g1 (λxs g2=>Q (x::xs) g2) E) E):fW P (.cons a b) U g Q E:=h
def bF5{Q:Bool->G->Prop}(h:eF P a U g (λt g1=>if t=true then eF P b U g1 Q E else Q false g1) E):eF P (.eI a b) U g Q E:=h
def bU9{Q:Bool->G->Prop}(h:eF P a U g (λt g1=>if t=true then Q true g1 else eF P b U g1 Q E) E):eF P (.jI a b) U g Q E:=h
def bF4{Q:Bool->G->Prop}(h:eF P a U g (λt g1=>Q (~~~t) g1) E):eF P (.dt a) U g Q E:=h
def By{Q:Bool->G->Prop}(h:Q true g):eF P .no U g Q E:=h
def Bz{Q:Bool->G->Prop}(h:bj P a U g (λx g1=>qH g1 x λb=>Q b g1) E):eF P (.fg a) U g Q E:=h
end
section
variable{i:Int}{kb:Bool->Prop}{t s:Bool}{m:@&D}
def b49(h:Q (.int (i+j)) g):cP (.bin .Add) [.int i,.int j] g Q:=#[_,_,.inl #[i,j,_,rfl,rfl,rfl,rfl],h]
def b48(h:Q (.int (i-j)) g):cP (.bin .Sub) [.int i,.int j] g Q:=#[_,_,.inl #[i,j,_,rfl,rfl,rfl,rfl],h]
def vD(c:ub i j)(h:Q (.int (i*j)) g):cP (.bin .Mult) [.int i,.int j] g Q:=#[_,_,.inl #[i,j,_,rfl,#[c,rfl],rfl,rfl],h]
def W4(c:0<j)(h:Q (.int (i % j)) g):cP (.bin .Mod) [.int i,.int j] g Q:=#[_,_,.inl #[i,j,_,rfl,#[c,rfl],rfl,rfl],h]
def Kt(c:EH i j)(h:Q (.int (i / j)) g):cP (.bin .FloorDiv) [.int i,.int j] g Q:=#[_,_,.inl #[i,j,_,rfl,#[c,rfl],rfl,rfl],h]
def Bi(c:pK i j)(h:Q (.int (i ^ j.toNat)) g):cP (.bin .Pow) [.int i,.int j] g Q:=#[_,_,.inl #[i,j,_,rfl,#[c,rfl],rfl,rfl],h]
def HH(hl:-l+-m<=100000)(h:Q (.tup (l++m)) g):cP (.bin .Add) [.tup l,.tup m] g Q:=#[_,_,.inr (.inl #[rfl,.inl #[l,m,rfl,hl,rfl,rfl]]),h]
def HG{i j:Nat}(hi:g[i]?=!.lst l)(hj:g[j]?=!.lst m)(hl:-l+-m<=100000)(h:Q (.ref (-g)) (g++[.lst (l++m)])):cP (.bin .Add) [.ref i,.ref j] g Q:=#[_,_,.inr (.inl #[rfl,.inr (.inl #[i,j,l,m,rfl,hi,hj,hl,rfl,rfl])]),h]
def Kz{i:Nat}{n:Int}(hi:g[i]?=!.lst l)(h1:-(2 ^ 62)<=n)(h2:n<2 ^ 62)(hl:-l*n.toNat<=100000)(h:Q (.ref (-g)) (g++[.lst (List.replicate n.toNat l).flatten])):cP (.bin .Mult) [.ref i,.int n] g Q:=#[_,_,.inr (.inr #[rfl,.inl #[i,l,n,rfl,hi,h1,h2,hl,rfl,rfl]]),h]
def bT5{n:Int}(fh:l≠[])(h1:1<=n)(h2:n<2 ^ 62)(hl:-l*n.toNat<=100000)(h:Q (.tup (List.replicate n.toNat l).flatten) g):cP (.bin .Mult) [.tup l,.int n] g Q:=#[_,_,.inr (.inr #[rfl,.inr #[l,n,rfl,fh,h1,h2,hl,rfl,rfl]]),h]
def bV2(h:Q (.int (-(i))) g):cP (.un .USub) [.int i] g Q:=#[_,_,#[rfl,i,rfl,rfl,rfl],h]
def Y4{op:CmpOp}(hb:Ma g x y b op)(h:Q (.bl b) g):cP (.cmp op) [x,y] g Q:=#[_,_,#[x,y,b,rfl,hb,rfl,rfl],h]
def L'(h:Q (.bl (decide (i<j))) g):cP (.cmp .Lt) [.int i,.int j] g Q:=Y4 #[i,j,rfl,rfl,rfl] h
def Vn(h:Q (.bl (decide (i<=j))) g):cP (.cmp .LtE) [.int i,.int j] g Q:=Y4 #[i,j,rfl,rfl,rfl] h
def Vm(h:Q (.bl (decide (j<i))) g):cP (.cmp .Gt) [.int i,.int j] g Q:=Y4 #[i,j,rfl,rfl,rfl] h
def Vl(h:Q (.bl (decide (j<=i))) g):cP (.cmp .GtE) [.int i,.int j] g Q:=Y4 #[i,j,rfl,rfl,rfl] h
def EO(h:vm g x y λb=>Q (.bl b) g):cP (.cmp .Eq) [x,y] g Q:=let ⟨_,hb,h⟩:=h;Y4 hb h
def BC(h:vm g x y λb=>Q (.bl (~~~b)) g):cP (.cmp .NotEq) [x,y] g Q:=let ⟨b,hb,h⟩:=h;Y4 (show xQ g x y (~~~(~~~b)) from by simp_all) h
def Y5(h:oz g x y λb=>Q (.bl b) g):cP (.cmp .In) [x,y] g Q:=let ⟨_,hb,h⟩:=h;Y4 (.inl hb) h
def b38{S:Int->Bool}(hg:g[a]?=!.set S n)(h:Q (.bl (S i)) g):cP (.cmp .In) [.int i,.ref a] g Q:=Y4 (.inr #[a,S,n,i,rfl,hg,rfl,rfl]) h
def N8(h:oz g x y λb=>Q (.bl (~~~b)) g):cP (.cmp .NotIn) [x,y] g Q:=let ⟨b,hb,h⟩:=h;Y4 (.inl (show inR g x y (~~~(~~~b)) from by simp_all)) h
def Lf(h:kb (decide (i=j))):vm g (.int i) (.int j) kb:=#[_,.inl #[i,j,rfl,rfl,rfl],h]
def Mo(h:kb (t==s)):vm g (.bl t) (.bl s) kb:=#[_,.inr (.inl #[t,s,rfl,rfl,rfl]),h]
def Lg{x y:Str}(h:kb (decide (x=y))):vm g (.str x) (.str y) kb:=#[_,.inr (.inr (.inl #[x,y,rfl,rfl,rfl])),h]
def b42(h:Q (.bl (decide (i=j))) g):cP (.cmp .Eq) [.int i,.int j] g Q:=EO (Lf h)
def KA(h:Q (.bl (~~~decide (i=j))) g):cP (.cmp .NotEq) [.int i,.int j] g Q:=BC (Lf h)
def b43(h:Q (.bl (t==s)) g):cP (.cmp .Eq) [.bl t,.bl s] g Q:=EO (Mo h)
def b31(h:Q (.bl (~~~(t==s))) g):cP (.cmp .NotEq) [.bl t,.bl s] g Q:=BC (Mo h)
def HI{p q:Str}(h:Q (.bl (decide (p=q))) g):cP (.cmp .Eq) [.str p,.str q] g Q:=EO (Lg h)
def b30{p q:Str}(h:Q (.bl (~~~decide (p=q))) g):cP (.cmp .NotEq) [.str p,.str q] g Q:=BC (Lg h)
def ue(h:Q (.bl (Q6 d)) g):cP (.cmp .Is) [d,.aR] g Q:=Y4 #[rfl,rfl] h
def Bj(h:Q (.bl (~~~Q6 d)) g):cP (.cmp .IsNot) [d,.aR] g Q:=Y4 #[rfl,rfl] h
def b37(h:Q (.bl true) g):cP (.cmp .Is) [.aR,.aR] g Q:=ue h
def b35(h:Q (.bl false) g):cP (.cmp .Is) [.int i,.aR] g Q:=ue h
def b36(h:Q (.bl false) g):cP (.cmp .Is) [.bl t,.aR] g Q:=ue h
def b33{x:Str}(h:Q (.bl false) g):cP (.cmp .Is) [.str x,.aR] g Q:=ue h
def b32(h:Q (.bl false) g):cP (.cmp .Is) [.tup l,.aR] g Q:=ue h
def b34(h:Q (.bl false) g):cP (.cmp .Is) [.ref n,.aR] g Q:=ue h
def b41(h:Q (.bl false) g):cP (.cmp .IsNot) [.aR,.aR] g Q:=Bj h
def b40(h:Q (.bl true) g):cP (.cmp .IsNot) [.int i,.aR] g Q:=Bj h
def b39(h:Q (.bl true) g):cP (.cmp .IsNot) [.ref n,.aR] g Q:=Bj h
def EX(h:kb t):qH g (.bl t) kb:=#[t,.inr (.inl rfl),h]
def bV8(h:kb (i != 0)):qH g (.int i) kb:=#[_,.inr (.inr (.inl #[i,rfl,rfl])),h]
def bV7{i:Nat}(hl:c8 g i=!l)(h:kb (~~~l.isEmpty)):qH g (.ref i) kb:=#[_,.inr (.inr (.inr (.inr #[i,l,rfl,hl,rfl]))),h]
def Hu{p:Bool->Prop}(h:p t):∃s,D.bl t=D.bl s/\p s:=#[t,rfl,h]
def bR3{p:Int->Prop}(h:p i):∃s,D.int i=D.int s/\p s:=#[i,rfl,h]
def if2{c:Prop}[Decidable c](h1:c->A)(h2:¬c->B):if decide c=true then A else B:=by
 simp_all
def mE(h:A):if true=true then A else B:=by rw[az rfl];show h
def V3(h:B):if false=true then A else B:=by rw[aA ∅];show h
def Mh(h:A):if(~~~false)=true then A else B:=by show h
def Vx(h:B):if(~~~true)=true then A else B:=by rw[aA ∅];show h
def cZ(hb:b=false)(h:B):if b=true then A else B:=by rw[hb];show V3 h
def eU(hb:b=true)(h:A):if b=true then A else B:=by rw[hb];show mE h
def A6(hl:c8 g a=!l)(h2:jA l i=!d)(h:Q d g):cP .ix [.ref a,.int i] g Q:=#[_,_,#[rfl,.inl #[_,l,i,rfl,hl,h2]],h]
def E9(h2:jA l i=!d)(h:Q d g):cP .ix [.tup l,.int i] g Q:=#[_,_,#[rfl,.inl #[_,l,i,rfl,rfl,h2]],h]
def o3{i:Nat}{kvs:@&(Key×D)}{k:Key}(hg:g[i]?=!.cV kvs)(hk:pO y=!k)(hv:C0 kvs k=!v)(h:Q v g):cP .ix [.ref i,y] g Q:=#[_,_,#[rfl,.inr (.inl #[i,kvs,y,k,rfl,hg,hk,hv])],h]
def V5(hl:g[a]?=!.lst l)(hn:mD (-l) i=!n)(h:kg (g.set a (.lst (l.set n v)))):Z7 (.ref a) (.int i) v g kg:=#[_,.inl #[a,i,l,n,rfl,rfl,hl,hn,rfl],h]
def Lj{i:Nat}{kvs:@&(Key×D)}{k:Key}(hg:g[i]?=!.cV kvs)(hk:pO y=!k)(hl:-kvs<100000)(h:kg (g.set i (.cV (putD kvs k v)))):Z7 (.ref i) y v g kg:=#[_,.inr #[i,kvs,k,rfl,hg,hk,hl,rfl],h]
def D5{fs:@&(Str×D)}(hg:g[a]?=!.ins c fs)(hc:c∈cs)(hl:-fs<100)(h:kg (g.set a (.ins c (f9 f v fs)))):yj f cs (.ref a) v g kg:=#[_,#[a,c,fs,rfl,hg,hc,hl,rfl],h]
def w9{fs:@&(Str×D)}(hg:g[a]?=!.ins c fs)(hf:fs.lookup f=!d)(h:Q d g):cP (.fld f) [.ref a] g Q:=#[_,_,#[a,c,fs,rfl,hg,hf,rfl],h]
def a5(h:g[a]?=!.lst l):c8 g a=!l:=by simp only[c8,h,GY]
def Zb(h:g[a]?=!.qq l):c8 g a=!l:=by simp only[c8,h,GY]
def A8(hl:c8 g a=!l)(h:Q (.int (-l)) g):cP .len [.ref a] g Q:=#[_,_,#[rfl,.inl #[_,l,rfl,hl,rfl]],h]
def b01(h:Q (.int (-l)) g):cP .len [.tup l] g Q:=#[_,_,#[rfl,.inl #[_,l,rfl,rfl,rfl]],h]
def bI8(h:Q (.tup (cut l (!i) none)) g):cP (.mU true false) [.tup l,.int i] g Q:=#[_,_,#[_,i,rfl,.inl #[l,rfl,rfl,rfl]],h]
def bI9(h:Q (.tup (cut l none (!i))) g):cP (.mU false true) [.tup l,.int i] g Q:=#[_,_,#[_,i,rfl,.inl #[l,rfl,rfl,rfl]],h]
def Hf(hl:c8 g a=!l)(h:Q (.ref (-g)) (g++[.lst (cut l none (!i))])):cP (.mU false true) [.ref a,.int i] g Q:=#[_,_,#[_,i,rfl,.inr #[a,l,rfl,hl,rfl,rfl]],h]
def HV(hl:-l<=1000)(h:Q (.tup l) g):cP .tup l g Q:=#[_,_,#[hl,rfl,rfl],h]
def HU(hl:-l<=1000)(h:Q (.ref (-g)) (g++[.lst l])):cP .lst l g Q:=#[_,_,#[hl,rfl,rfl],h]
def KW(hl:c8 g a=!l)(h:Q (.ref (-g)) (g++[.lst l])):cP .list [.ref a] g Q:=#[_,_,.inl #[_,l,rfl,hl,rfl,rfl],h]
def Ls(hl:c8 g a=!l)(h:Q (.tup l) g):cP .tuple [.ref a] g Q:=#[_,_,#[_,l,rfl,hl,rfl,rfl],h]
def ie{c:String}(hc:c∈["int","bool","str","tuple","list"])(hb:uf g d c=!b)(h:Q (.bl b) g):cP .isin [d,.ty c] g Q:=#[_,_,#[d,c,b,rfl,hc,hb,rfl,rfl],h]
def uo{i:Nat}(hg:g[i]?=!.lst l)(hl:-l<100000)(h:Q .aR (g.set i (.lst (l++[y])))):cP .append [.ref i,y] g Q:=#[_,_,#[i,y,l,rfl,hg,hl,rfl,rfl],h]
def Zs{i j:Nat}{n:Int}(hg:g[i]?=!.lst l)(hn:n=j)(hj:l[j]?=!y)(hl:-l<100000)(h:Q y (g.set i (.lst (l.eraseIdx j)))):cP .pop [.ref i,.int n] g Q:=by
 let dQ:=(ak.mp hj).1;show#[_,_,#[i,n,l,j,rfl,hg,by omega,by omega,?_,hj,rfl],h];rw[hn];show PySem.StrLaws.seqIndex_nonneg () () |>.trans #[_]
def LV:nK .index (.tup l) g:=.inl #[l,rfl]
def LU(hl:c8 g a=!l):nK .index (.ref a) g:=.inr #[a,l,rfl,hl]
def KY(W:S0 l y n)(hz:-l<=100000)(h:Q (.int n) g):cP .index [.tup l,y] g Q:=#[_,_,#[_,y,l,n,rfl,rfl,W,hz,rfl,rfl],h]
def yh(hl:c8 g a=!l)(W:S0 l y n)(hz:-l<=100000)(h:Q (.int n) g):cP .index [.ref a,y] g Q:=#[_,_,#[_,y,l,n,rfl,hl,W,hz,rfl,rfl],h]
def LK(h:Q (.int (i+j)) g):cP .iadd [.int i,.int j] g Q:=#[_,_,.inl #[i,j,rfl,rfl,rfl],h]
def LL(hl:-l+-m<=100000)(h:Q (.tup (l++m)) g):cP .iadd [.tup l,.tup m] g Q:=#[_,_,.inr #[l,m,rfl,hl,rfl,rfl],h]
def bA3{i:Nat}(hl:c8 g i=!ns.map .int)(hz:-ns<60)(h:Q (.ref (-g)) (g++[.lst ((O7 ns).map .int)])):cP .kc [.ref i] g Q:=#[_,_,.inr #[_,ns,rfl,hl,hz,rfl,rfl],h]
def Au{i:Nat}(hg:g[i]?=!.lst l):nK .append (.ref i) g:=#[i,l,rfl,a5 hg]
def bP2{i:Nat}(hg:g[i]?=!.lst l):nK .pop (.ref i) g:=#[i,l,rfl,a5 hg]
def wU(h1:-(2 ^ 62)<=j)(h2:j<=100000)(h:Q (.ref (-g)) (g++[.lst (p9 0 j.toNat)])):cP .kd [.int j] g Q:=#[_,_,#[j,rfl,h1,h2,rfl,rfl],h]
def wR(h1:-(2 ^ 62)<=i/\i<2 ^ 62/\-(2 ^ 62)<=j/\j<2 ^ 62/\j-i<=100000)(h:Q (.ref (-g)) (g++[.lst (p9 i (j-i).toNat)])):cP .kZ [.int i,.int j] g Q:=#[_,_,#[i,j,rfl,h1,rfl,rfl],h]
def ZF{ms:@&Int}(h1:∀k∈ns,ST.Spot k)(h2:∀k∈ms,ST.Spot k)(hl:-ns+-ms<50)(h:Q (.ref (-g)) (g++[.lst ((o8 (ns++ms)).map .int)])):cP .wm [.tup (ns.map .int),.tup (ms.map .int)] g Q:=#[_,_,#[ns,ms,rfl,h1,h2,hl,rfl,rfl],h]
def bN6(hl:c8 g a=!ns.map .int)(hz:-ns<60)(h:Q (.ref (-g)) (g++[.lst ((o8 ns).map .int)])):cP .sset [.ref a] g Q:=#[_,_,#[a,ns,rfl,hl,hz,rfl,rfl],h]
def rT(h:Q (.ref (-g)) (g++[.cV []])):cP .rT [] g Q:=#[_,_,#[rfl,rfl,rfl],h]
def bP4{S:Int->Bool}(hg:g[a]?=!.set S n)(hn:n+1<4096)(h:Q .aR (g.set a (.set (λk=>S k||decide (k=i)) (if S i then n else n+1)))):cP .kW [.ref a,.int i] g Q:=#[_,_,#[a,i,S,n,rfl,hg,hn,rfl,rfl],h]
def bB6{S:Int->Bool}(hg:g[a]?=!.set S n):nK .kW (.ref a) g:=#[a,S,n,rfl,hg]
def bA4(h:Q (.ref (-g)) (g++[.set (λk=>decide (k=i)) 1])):cP (.kU i) [] g Q:=#[_,_,#[rfl,rfl,rfl],h]
def GI(hl:c8 g a=!ns.map .int)(h:Q (.int ns.sum) g):cP .sum [.ref a] g Q:=#[_,_,#[a,ns,rfl,hl,rfl,rfl],h]
def b47(hl:c8 g a=!ns.map .int)(h:Q (.bl (ns.all λn=>n != 0)) g):cP .all [.ref a] g Q:=#[_,_,#[a,_,_,rfl,hl,.inr #[ns,rfl,rfl],rfl,rfl],h]
def HE(c:pK i j)(h:Q (.int (i*2 ^ j.toNat)) g):cP (.bin .LShift) [.int i,.int j] g Q:=#[_,_,.inl #[i,j,_,rfl,#[c,rfl],rfl,rfl],h]
def ye(h:Q (.int (Builtin.bitAnd i j)) g):cP (.bin .BitAnd) [.int i,.int j] g Q:=#[_,_,.inl #[i,j,_,rfl,rfl,rfl,rfl],h]
def Vg(h:Q (.int (Builtin.bitOr i j)) g):cP (.bin .BitOr) [.int i,.int j] g Q:=#[_,_,.inl #[i,j,_,rfl,rfl,rfl,rfl],h]
def Hj{U:S}{i:Nat}{p:Pr}{v:ME}(e:U[i]?=!!x)(h:bj P v U g (λz g1=>cP p [x,z] g1 λw g2=>N.nx (U.set i (!w)) g2) E):wpS P (.kF i p v) N U g E:=#[x,e,h]
def bR1(h:Q (.int (i-j)) g):cP .oy [.int i,.int j] g Q:=#[_,_,#[i,j,rfl,rfl,rfl],h]
def b14{v:Bool}(h:Q (.int (if v then 1 else 0)) g):cP .int [.bl v] g Q:=#[_,_,#[rfl,.inr #[v,rfl,rfl]],h]
def KP{kvs:@&D}{x:Str}(hv:U3 kvs x=!v)(h:Q v g):cP .oU [.tup kvs,.str x] g Q:=#[_,_,#[kvs,x,rfl,hv,rfl],h]
def Ku{i:Nat}{v:Bool}(hl:c8 g i=!l)(hv:Z5 l=!v)(h:Q (.bl v) g):cP .all [.ref i] g Q:=#[_,_,#[i,l,v,rfl,hl,.inl hv,rfl,rfl],h]
def j4{i:Nat}{U:S}{k:S->Prop}(h:k (U.set i (!x))):kq (.one i) x U k:=h
def E7{is:@&Nat}{U cv:S}{k:S->Prop}(e:U5 is l U=!cv)(h:k cv):kq (.many is) (.tup l) U k:=#[l,cv,rfl,e,h]
end
def Pp:∀(bs:@&Bool),Z5 (bs.map D.bl)=!bs.all id:=by
 intro bs
 induction bs with
 |nil=>rfl
 |cons b r ih=>simp[Z5,ih]
def call_of{T:Nat->Option aP}{k f:Nat}{m:aP}{ds:@&D}(hT:T f=!m)(hl:-ds=m.ar)(h:wpS (a8 T k) m.body #[λx g'=>Q .aR g',Q,λx x=>False,λx x=>False] (b0 m ds) g E):a8 T (k+1) f ds g Q E:=#[m,hT,hl,h]
def r6{U:S}{a:ME}{f:Nat}{m:Str}{fs:@&(Str×D)}{cs:@&(Str×Nat)}(hg:g[i]?=!.ins c fs)(hf:fs.lookup m=none)(hc:cs.lookup c=!f)(h:fW P a U g (λxs g2=>P f (.ref i::xs) g2 Q E) E) :
  ∃a' c fs f,D.ref i=.ref a'/\g[a']?=!.ins c fs/\fs.lookup m=none/\cs.lookup c=!f/\fW P a U g (λxs g2=>P f (.ref i::xs) g2 Q E) E:=#[i,c,fs,f,rfl,hg,hf,hc,h]
def IK.Is(k:IK)(l:@&D)(g:G):Prop:=∀i,k.at i g=some l[i]?
def G9:(IK.fix l).Is l g:=λx=>rfl
def u5(h:c8 g a=!l):(IK.lst a).Is l g:=λi=>by simp only[IK.at,h]
abbrev oW(l:@&D):@&D:=l.mapIdx λi d=>.tup [.int i,d]
def vN(h:c8 g a=!l):(IK.tV a).Is (oW l) g:=λi=>by
 simp only[IK.at,h,oW,List.getElem?_mapIdx]
def bR0(h:c8 g a=!l):(IK.uG a (-l)).Is l.reverse g:=λi=>by
 simp only[IK.at,h,if_true];by_cases hi:i< -l
 .rw[az hi,List.getElem?_reverse hi]
 .rw[aA hi,aZ (_/hi)]
def N4(l:@&D):(oW l).length=-l:=by simp[oW]
def W7(h:(oW l)[i]?=!x):∃d,l[i]?=!d/\x=.tup [.int i,d]:=by
 rw[oW,List.getElem?_mapIdx,ae] at h;let#[d,h1,h2]:=h;show#[d,h1,h2.symm]
def O9{lo:Int}(h:(p9 lo n)[i]?=!x):i<n/\x=.int (lo+i):=by
 unfold p9 at h;let hi:i<n:=by
  have:=(ak.mp h).1;simpa using this
 rw[aj,da hi] at h;cases h;show#[hi,rfl]
def E0(lo:Int)(n:Nat):(p9 lo n).length=n:=by simp[p9]
section
variable{U:S}{it a b c:ME}{s:MS}{t:MT}
def Yy{k:IK}{fin:S->G->Prop}{turn:D->(S->G->Prop)->S->G->Prop}(I:Nat->S->G->Prop)(hk:∀i U g,I i U g->k.Is l g)(h0:I 0 U g)(hs:∀i x U g,l[i]?=!x->I i U g->turn x (I (i+1)) U g)(hd:∀U g,I (-l) U g->fin U g):turns k U g fin turn:=by
 show#[λi m U g=>m=-l-i/\i<=-l/\I i U g,#[(-l),by simp,cw _,h0],?_];rintro i m U g ⟨rfl,hi,p⟩;rw[hk i U g p i];by_cases dQ:i< -l
 .rw[ag dQ];show .inr #[_,rfl,I (i+1),λcv g' p'=>#[(-l)-(i+1),by omega,rfl,dQ,p'],hs i l[i] U g (ag dQ) p]
 .let e:i=-l:=by omega
  subst e;rw[aZ (aw _)];show .inl #[rfl,hd U g p]
inductive zi(P:fG)(t:MT)(s:MS)(N:Ends)(E:KX)(U:S)(k:IK)(g1:G):Prop
 |mk (l:@&D) (I:Nat->S->G->Prop) (hk:∀i U g,I i U g->k.Is l g) (h0:I 0 U g1)
   (hs:∀i x U g,l[i]?=!x->I i U g->kq t x U λcE=>wpS P s #[I (i+1),N.rt,N.nx,I (i+1)] cE g E) (hd:∀U g,I (-l) U g->N.nx U g):zi P t s N E U k g1
def E5(hP:d5 P)(h:gS P it U g (zi P t s N E U) E):wpS P (.ju t it s) N U g E :=
 A1 hP it _ _ _ _ _ _ (λk g1 hq=>by let#[l,I,hk,h0,hs,hd]:=hq;show Yy I hk h0 hs hd) (λx x z=>z) h
inductive CompI(P:fG)(t:MT)(cond elt:ME)(E:KX)(Q:KD)(U:S)(k:IK)(g1:G):Prop
 |mk (l:@&D) (I:Nat->@&D->S->G->Prop) (hl:-l<=1000) (hk:∀i ys U g,I i ys U g->k.Is l g/\-ys<=i) (h0:I 0 [] U g1)
   (hs:∀i x ys U g,l[i]?=!x->I i ys U g->kq t x U λcE=>eF P cond cE g (λc g3=>if c=true then bj P elt cE g3 (λy g4=>I (i+1) (ys++[y]) cE g4) E else I (i+1) ys cE g3) jS)
   (hd:∀ys U g,I (-l) ys U g->Q (.ref (-g)) (g++[.lst ys])):CompI P t cond elt E Q U k g1
def K5(hP:d5 P)(h:gS P it U g (CompI P t cond elt jS Q (F8 U c7 n)) E):bj P (.comp c7 n t it cond elt) U g Q E:=by
 show A1 hP it _ _ _ _ _ _ (λk g1 h=>?_) (λx x z=>z) h;let#[l,I,hl,hk,h0,hs,hd]:=h;show#[λi m ys U g=>m=-l-i/\i<=-l/\I i ys U g,#[(-l),by simp,cw _,h0],?_];rintro i m ys U g ⟨rfl,hi,p⟩;let#[pA,hy]:=hk i ys U g p;rw[pA i];by_cases dQ:i< -l
 .rw[ag dQ];show .inr #[_,rfl,by omega,v9 (λcE q=>n8 hP cond _ _ _ _ _ _ (λc g3 q=>?_) (λx x z=>z) q) (hs i l[i] ys U g (ag dQ) p)];cases c
  .exact#[(-l)-(i+1),by omega,rfl,dQ,by simpa using(show I (i+1) ys cE g3 from q)]
  .exact c5 hP elt _ _ _ _ _ _ (λy g4 q=>#[(-l)-(i+1),by omega,rfl,dQ,by simpa using q]) (λx x z=>z) q
 .let e:i=-l:=by omega
  subst e;rw[aZ (aw _)];show .inl #[rfl,hd ys U g p]
def WC(hP:d5 P)(h:gS P it U g (CompI P t cond elt E Q (F8 U c7 n)) E):bj P (.iF c7 n t it cond elt) U g Q E:=by
 show A1 hP it _ _ _ _ _ _ (λk g1 h=>?_) (λx x z=>z) h;let#[l,I,hl,hk,h0,hs,hd]:=h;show#[λi m ys U g=>m=-l-i/\i<=-l/\I i ys U g,#[(-l),by simp,cw _,h0],?_];rintro i m ys U g ⟨rfl,hi,p⟩;let#[pA,hy]:=hk i ys U g p;rw[pA i];by_cases dQ:i< -l
 .rw[ag dQ];show .inr #[_,rfl,by omega,v9 (λcE q=>n8 hP cond _ _ _ _ _ _ (λc g3 q=>?_) (λx x z=>z) q) (hs i l[i] ys U g (ag dQ) p)];cases c
  .exact#[(-l)-(i+1),by omega,rfl,dQ,by simpa using(show I (i+1) ys cE g3 from q)]
  .exact c5 hP elt _ _ _ _ _ _ (λy g4 q=>#[(-l)-(i+1),by omega,rfl,dQ,by simpa using q]) (λx x z=>z) q
 .let e:i=-l:=by omega
  subst e;rw[aZ (aw _)];show .inl #[rfl,hd ys U g p]
inductive za(P:fG)(t:MT)(cond elt:ME)(Q:KD)(U:S)(k:IK)(g1:G):Prop
 |mk (l:@&D) (I:Nat->@&Int->S->G->Prop) (hl:-l<60) (hk:∀i ys U g,I i ys U g->k.Is l g/\-ys<=i) (h0:I 0 [] U g1)
   (hs:∀i x ys U g,l[i]?=!x->I i ys U g->kq t x U λcE=>eF P cond cE g (λc g3=>if c=true then bj P elt cE g3 (λy g4=>∃j,y=.int j/\I (i+1) (ys++[j]) cE g4) jS else I (i+1) ys cE g3) jS)
   (hd:∀ys U g,I (-l) ys U g->Q (.ref (-g)) (g++[.lst ((o8 ys).map .int)])):za P t cond elt Q U k g1
def WD(hP:d5 P)(h:gS P it U g (za P t cond elt Q (F8 U c7 n)) E):bj P (.iE c7 n t it cond elt) U g Q E:=by
 show A1 hP it _ _ _ _ _ _ (λk g1 h=>?_) (λx x z=>z) h;let#[l,I,hl,hk,h0,hs,hd]:=h;show#[λi m ys U g=>m=-l-i/\i<=-l/\I i ys U g,#[(-l),by simp,cw _,h0],?_];rintro i m ys U g ⟨rfl,hi,p⟩;let#[pA,hy]:=hk i ys U g p;rw[pA i];by_cases dQ:i< -l
 .rw[ag dQ];show .inr #[_,rfl,by omega,v9 (λcE q=>n8 hP cond _ _ _ _ _ _ (λc g3 q=>?_) (λx x z=>z) q) (hs i l[i] ys U g (ag dQ) p)];cases c
  .exact#[(-l)-(i+1),by omega,rfl,dQ,by simpa using(show I (i+1) ys cE g3 from q)]
  .refine c5 hP elt _ _ _ _ _ _ (λy g4 q=>?_) (λx x z=>z) q;let#[j,e,q]:=q;show#[j,e,(-l)-(i+1),by omega,rfl,dQ,by simpa using q]
 .let e:i=-l:=by omega
  subst e;rw[aZ (aw _)];show .inl #[rfl,by omega,hd ys U g p]
def aY1(hP:d5 P)(h:bj P a U g (λx g1=>∃j:Nat,x=.int j/\j<=1000/\∃I:Nat->@&D->S->G->Prop,I 0 [] (F8 U c7 n) g1/\(∀i ys U g,I i ys U g->-ys<=i) /\
      (∀(i:Nat) ys U g,i<j->I i ys U g->kq t (.int i) U λcE=>eF P cond cE g (λc g3=>if c=true then bj P elt cE g3 (λy g4=>I (i+1) (ys++[y]) cE g4) jS else I (i+1) ys cE g3) jS) /\
      ∀ ys U g,I j ys U g->Q (.ref (-g)) (g ++ [.lst ys])) E):bj P (.comp c7 n t (.gE a) cond elt) U g Q E:=by
  show K5 hP ?_;show c5 hP a _ _ _ _ _ _ (λx g1 h=>?_) (λw w z=>z) h;let#[j,rfl,hj,I,h0,hz,hs,hd]:=h;show#[j,rfl,by omega,by omega,_,I,by rw[E0];simpa using hj,λi ys U g p=>#[G9,hz i ys U g p],h0,λi x ys U g hx p=>?_,λys U g p=>hd ys U g (by rw[E0] at p;simpa using p)];let#[hi,rfl]:=O9 hx;rw[show(0:Int)+(i:Int)=i by omega];show hs i ys U g (_/hi) p
def Ox(I:Nat->S->G->Prop)(m0:Nat)(h0:I m0 U g)(hs:∀m U g,I m U g->eF P c U g (λt g1=>if t=true then wpS P s #[λcv g'=>∃m',m'<m/\I m' cv g',N.rt,N.nx,λcv g'=>∃m',m'<m/\I m' cv g'] U g1 E else N.nx U g1) E)(hP:d5 P):wpS P (.kS c s) N U g E:=by
 show#[I,#[m0,h0],λm U g p=>n8 hP c _ _ _ _ _ _ (λt g1 q=>?_) (λx x z=>z) (hs m U g p)];cases t
 .exact q
 .exact#[_,λx x z=>z,q]
def yQ(hP:d5 P)(h:bj P a U g (λx g1=>∃j:Int,x=.int j/\-(2 ^ 62)<=j/\j<2 ^ 62/\R (.fix (p9 0 j.toNat)) g1) E):gS P (.gE a) U g R E:=h
def Mg(hP:d5 P)(h:bj P a U g (λx g1=>bj P b U g1 (λy g2=>∃i j:Int,x=.int i/\y=.int j/\(-(2 ^ 62)<=i/\i<2 ^ 62/\-(2 ^ 62)<=j/\j<2 ^ 62)/\R (.fix (p9 i (j-i).toNat)) g2) E) E):gS P (.jK a b) U g R E:=h
def CC(hP:d5 P)(h:bj P a U g (λx g1=>∃l,x=.tup l/\R (.fix l) g1) E):gS P (.gp a) U g R E:=by
 show c5 hP a _ _ _ _ _ _ (λx g1 h=>.inl h) (λy y z=>z) h
def lP(hP:d5 P)(h:bj P a U g (λx g1=>∃i l,x=.ref i/\c8 g1 i=!l/\R (.lst i) g1) E):gS P (.gp a) U g R E:=by
 show c5 hP a _ _ _ _ _ _ (λx g1 h=>.inr h) (λy y z=>z) h
def Sm(h:bj P a U g (λx g1=>∃i l,x=.ref i/\c8 g1 i=!l/\R (.uG i (-l)) g1) E):gS P (.pq a) U g R E:=h
def wX(h:bj P a U g (λx g1=>∃i l,x=.ref i/\c8 g1 i=!l/\R (.tV i) g1) E):gS P (.lg a) U g R E:=h
end
end M
namespace M
open PySem L2 PySem.Spec PyProof.Rows
variable{K:PySem.W.Frag}{x:Str}{C:Addr}
structure RF where
 id:Nat
 nm:Str
 N:@&Str
 k:Nat
 i:Nat
 m:aP
structure RM where
 id:Nat
 cl:Str
 nm:Str
 qn:Str
 N:@&Str
 k:Nat
 i:Nat
 j:Nat
 m:aP
def RF.d(tp:Nat->Stmt)(r:RF):qK:=#[r.nm,r.nm,r.N,r.N.take r.k,tp r.i]
def RM.d(mt:Nat->Nat->Stmt)(r:RM):qK:=#[r.nm,r.qn,r.N,r.N.take r.k,mt r.i r.j]
abbrev vA(F:@&RF)(M:@&RM)(i:Nat):Option aP:=match F.find? λr=>Nat.beq r.id i with
 |some r=>!r.m
 |none=>(M.find? λr=>Nat.beq r.id i).map (·.m)
section
variable(tp:Nat->Stmt)(mt:Nat->Nat->Stmt)(K:PySem.W.Frag)
abbrev PF:@&RF->Prop
 |[]=>True
 |r::l=>(∃f fd,PySem.W.nsIn K mainGlobals r.nm=!!.ref f/\rZ K r.nm r.nm (tp r.i) f fd)/\PF l
abbrev PM:@&RM->Prop
 |[]=>True
 |r::l=>(∃C f fd,PySem.W.nsIn K mainGlobals r.cl=!!.ref C/\Meth K C r.nm f/\rZ K r.nm r.qn (mt r.i r.j) f fd)/\PM l
abbrev PC:@&(Str×Nat)->Prop
 |[]=>True
 |r::l=>(∃C,PySem.W.nsIn K mainGlobals r.1=!!.ref C/\jT K C/\PySem.W.makesIn K C=true/\PySem.W.keepIn K (.ref C)=true)/\PC l
abbrev PA:@&(Str×Str)->Prop
 |[]=>True
 |r::l=>(∃C,PySem.W.nsIn K mainGlobals r.2=!!.ref C/\PySem.W.findIn K (.ref C) r.1=!none)/\PA l
abbrev PB:@&Str->Prop
 |[]=>True
 |r::l=>PySem.W.nsIn K mainGlobals r=!none/\PB l
abbrev PX:@&Str->Prop
 |[]=>True
 |r::l=>(∃C,PySem.W.nsIn K mainGlobals r=!!.ref C/\PySem.W.excIn K C [.type "ValueError",.type "Exception",.type "BaseException",.type "object"] "ValueError.__new__"=true)/\PX l
abbrev BF:@&RF->Prop
 |[]=>True
 |r::l=>(∀(kV doc pm:Value) (an:Option Addr) (gi ct:Value) (us:@&Value),(-us)=(r.N.take r.k).length->bindArgs (PySem.W.fnOf r.nm r.nm (E1 (tp r.i)) (u3 (tp r.i)) (q9 (tp r.i)) .none kV doc pm an gi ct) #[us,[]]=pure ((r.N.take r.k).zip us))/\BF l
abbrev BM:@&RM->Prop
 |[]=>True
 |r::l=>(∀(kV doc pm:Value) (an:Option Addr) (gi ct:Value) (us:@&Value),(-us)=(r.N.take r.k).length->bindArgs (PySem.W.fnOf r.nm r.qn (E1 (mt r.i r.j)) (u3 (mt r.i r.j)) (q9 (mt r.i r.j)) .none kV doc pm an gi ct) #[us,[]]=pure ((r.N.take r.k).zip us))/\BM l
abbrev YF(c:d8):@&RF->Prop
 |[]=>True
 |r::l=>A7 (comp 60) (c.at (r.d tp)) (u3 (tp r.i))=!r.m.body/\YF c l
abbrev YM(c:d8):@&RM->Prop
 |[]=>True
 |r::l=>A7 (comp 60) (c.at (r.d mt)) (u3 (mt r.i r.j))=!r.m.body/\YM c l
end
section
variable{tp:Nat->Stmt}{mt:Nat->Nat->Stmt}{c:d8}{id k i j:Nat}{cl nm qn:Str}{N:@&Str}{m:aP}{f:Addr}{oc kV doc pm gi ct:Value}{od an:Option Addr}{nJ:Array (Option Value)}
def PF.nil:PF tp K []:=trivial
def PF.cons{l:@&RF}(a:PySem.W.nsIn K mainGlobals nm=!!.ref f)(lk:K.lookup f=!#[oc,od,.func (PySem.W.fnOf nm nm (E1 (tp i)) (u3 (tp i)) (q9 (tp i)) .none kV doc pm an gi ct),nJ])(cd:PySem.W.codeIn K gi nm=true)(kp:PySem.W.keepIn K (.ref f)=true)(h:PF tp K l):PF tp K (#[id,nm,N,k,i,m]::l):=#[#[f,_,a,LF lk cd kp],h]
def PM.nil:PM mt K []:=trivial
def PM.cons{l:@&RM}(c0:PySem.W.nsIn K mainGlobals cl=!!.ref C)(a:PySem.W.findIn K (.ref C) nm=!!.ref f)(af:PySem.W.isFn K (.ref f)=true)(lk:K.lookup f=!#[oc,od,.func (PySem.W.fnOf nm qn (E1 (mt i j)) (u3 (mt i j)) (q9 (mt i j)) .none kV doc pm an gi ct),nJ])(cd:PySem.W.codeIn K gi qn=true)(kp:PySem.W.keepIn K (.ref f)=true)(h:PM mt K l):PM mt K (#[id,cl,nm,qn,N,k,i,j,m]::l):=#[#[C,f,_,c0,#[a,af,kp],LF lk cd kp],h]
def PC.nil:PC K []:=trivial
def PC.cons{l:@&(Str×Nat)}(cn:PySem.W.nsIn K mainGlobals x=!!.ref C)(cp:PySem.W.plainGet K C Str.empty=true)(Va:PySem.W.hasDictIn K C=true)(UY:PySem.W.plainOver K C=true)(UX:PySem.W.findIn K (.ref C) "__setattr__"=!!(.builtin "object.__setattr__"))(UZ:PySem.W.makesIn K C=true)(U':PySem.W.keepIn K (.ref C)=true)(h:PC K l):PC K ((x,i)::l):=#[#[C,cn,#[cp,Va,UY,UX],UZ,U'],h]
def PA.nil:PA K []:=trivial
def PA.cons{l:@&(Str×Str)}(cn:PySem.W.nsIn K mainGlobals x=!!.ref C)(fl:PySem.W.findIn K (.ref C) nm=!none)(h:PA K l):PA K ((nm,x)::l):=#[#[C,cn,fl],h]
def PB.nil:PB K []:=trivial
def PB.cons{l:@&Str}(cn:PySem.W.nsIn K mainGlobals x=!none)(h:PB K l):PB K (x::l):=#[cn,h]
def PX.nil:PX K []:=trivial
def PX.cons{l:@&Str}(cn:PySem.W.nsIn K mainGlobals x=!!.ref C)(q:PySem.W.excIn K C [.type "ValueError",.type "Exception",.type "BaseException",.type "object"] "ValueError.__new__"=true)(h:PX K l):PX K (x::l):=#[#[C,cn,q],h]
def IB{P:@&Value->Prop}{n:Nat}(h:∀a vs,(-vs)=n->P (a::vs))(us:@&Value)(hl:-us=n+1):P us:=by
 cases us with
 |nil=>cases hl
 |cons a vs=>show h a vs (Nat.succ.inj hl)
def IA{P:@&Value->Prop}(h:P [])(us:@&Value)(hl:-us=0):P us:=by
 simp_all
def BF.nil:BF tp []:=trivial
def BF.cons{l:@&RF}(h:∀(kV doc pm:Value) (an:Option Addr) (gi ct:Value) (us:@&Value),(-us)=(N.take k).length->bindArgs (PySem.W.fnOf nm nm (E1 (tp i)) (u3 (tp i)) (q9 (tp i)) .none kV doc pm an gi ct) #[us,[]]=pure ((N.take k).zip us))(h2:BF tp l):BF tp (#[id,nm,N,k,i,m]::l):=#[h,h2]
def BM.nil:BM mt []:=trivial
def BM.cons{l:@&RM}(h:∀(kV doc pm:Value) (an:Option Addr) (gi ct:Value) (us:@&Value),(-us)=(N.take k).length->bindArgs (PySem.W.fnOf nm qn (E1 (mt i j)) (u3 (mt i j)) (q9 (mt i j)) .none kV doc pm an gi ct) #[us,[]]=pure ((N.take k).zip us))(h2:BM mt l):BM mt (#[id,cl,nm,qn,N,k,i,j,m]::l):=#[h,h2]
def YF.nil:YF tp c []:=trivial
def YF.cons{l:@&RF}(h:A7 (comp 60) (c.at #[nm,nm,N,N.take k,tp i]) (u3 (tp i))=!m.body)(h2:YF tp c l):YF tp c (#[id,nm,N,k,i,m]::l):=#[h,h2]
def YM.nil:YM mt c []:=trivial
def YM.cons{l:@&RM}(h:A7 (comp 60) (c.at #[nm,qn,N,N.take k,mt i j]) (u3 (mt i j))=!m.body)(h2:YM mt c l):YM mt c (#[id,cl,nm,qn,N,k,i,j,m]::l):=#[h,h2]
def YF.get:∀{l:@&RF},YF tp c l->∀r∈l,A7 (comp 60) (c.at (r.d tp)) (u3 (tp r.i))=!r.m.body
 |_::_,h,r,hr=>(aM.mp hr).elim (λz=>z▸h.1) (YF.get h.2 r)
def YM.get:∀{l:@&RM},YM mt c l->∀r∈l,A7 (comp 60) (c.at (r.d mt)) (u3 (mt r.i r.j))=!r.m.body
 |_::_,h,r,hr=>(aM.mp hr).elim (λz=>z▸h.1) (YM.get h.2 r)
def PF.get:∀{l:@&RF},PF tp K l->∀r∈l,∃f fd,PySem.W.nsIn K mainGlobals r.nm=!!.ref f/\rZ K r.nm r.nm (tp r.i) f fd
 |_::_,h,r,hr=>(aM.mp hr).elim (λz=>z▸h.1) (PF.get h.2 r)
def PM.get:∀{l:@&RM},PM mt K l->∀r∈l,∃C f fd,PySem.W.nsIn K mainGlobals r.cl=!!.ref C/\Meth K C r.nm f/\rZ K r.nm r.qn (mt r.i r.j) f fd
 |_::_,h,r,hr=>(aM.mp hr).elim (λz=>z▸h.1) (PM.get h.2 r)
def PC.get:∀{l:@&(Str×Nat)},PC K l->∀r∈l,∃C,PySem.W.nsIn K mainGlobals r.1=!!.ref C/\jT K C/\PySem.W.makesIn K C=true/\PySem.W.keepIn K (.ref C)=true
 |_::_,h,r,hr=>(aM.mp hr).elim (λz=>z▸h.1) (PC.get h.2 r)
def PA.get:∀{l:@&(Str×Str)},PA K l->∀r∈l,∃C,PySem.W.nsIn K mainGlobals r.2=!!.ref C/\PySem.W.findIn K (.ref C) r.1=!none
 |_::_,h,r,hr=>(aM.mp hr).elim (λz=>z▸h.1) (PA.get h.2 r)
def PB.get:∀{l:@&Str},PB K l->∀r∈l,PySem.W.nsIn K mainGlobals r=!none
 |_::_,h,r,hr=>(aM.mp hr).elim (λz=>z▸h.1) (PB.get h.2 r)
def PX.get:∀{l:@&Str},PX K l->∀r∈l,∃C,PySem.W.nsIn K mainGlobals r=!!.ref C/\PySem.W.excIn K C [.type "ValueError",.type "Exception",.type "BaseException",.type "object"] "ValueError.__new__"=true
 |_::_,h,r,hr=>(aM.mp hr).elim (λz=>z▸h.1) (PX.get h.2 r)
def BF.get:∀{l:@&RF},BF tp l->∀r∈l,∀(kV doc pm:Value) (an:Option Addr) (gi ct:Value) (us:@&Value),(-us)=(r.N.take r.k).length->bindArgs (PySem.W.fnOf r.nm r.nm (E1 (tp r.i)) (u3 (tp r.i)) (q9 (tp r.i)) .none kV doc pm an gi ct) #[us,[]]=pure ((r.N.take r.k).zip us)
 |_::_,h,r,hr=>(aM.mp hr).elim (λz=>z▸h.1) (BF.get h.2 r)
def BM.get:∀{l:@&RM},BM mt l->∀r∈l,∀(kV doc pm:Value) (an:Option Addr) (gi ct:Value) (us:@&Value),(-us)=(r.N.take r.k).length->bindArgs (PySem.W.fnOf r.nm r.qn (E1 (mt r.i r.j)) (u3 (mt r.i r.j)) (q9 (mt r.i r.j)) .none kV doc pm an gi ct) #[us,[]]=pure ((r.N.take r.k).zip us)
 |_::_,h,r,hr=>(aM.mp hr).elim (λz=>z▸h.1) (BM.get h.2 r)
end
def zA(N P:@&Str)(sc:Scope):Bool:=decide (sc.kind=.function)&&~~~sc.isCoroutine&&~~~sc.isGenerator&&decide N.Nodup&&decide (N.take (-P)=P)&&P.all (λx=>decide (sc.names.lookup x=!.local)||decide (sc.names.lookup x=!.cell))&&sc.names.all λy=>decide (y.2≠.free)
def Qu{N P:@&Str}{sc:Scope}(h:zA N P sc=true):jB N P sc:=by
 unfold zA at h;simp only[Bool.and_eq_true,decide_eq_true_eq,Bool.not_eq_true',List.all_eq_true,Bool.or_eq_true] at h;let#[#[#[#[#[#[h1,h2],h3],h4],h5],h6],h7]:=h;show#[h1,h2,h3,h4,h5,h6,h7]
set_option tactic.hygienic true in
def a96{h₀:Heap}{mg:Str->Option Value}{Lv:@&Value}{newId:String}(X:K.In h₀)(G:h₀.Ns mainGlobals mg)(e:PySem.W.nsIn K mainGlobals x=!!.ref C)(q:PySem.W.excIn K C Lv newId=true):PyProof.Rows.OwnCls x C Lv newId mg h₀:=by
 show#[bS X G e,?_];unfold PySem.W.excIn at q;split at q
 .rename_i dd cd sl ho;split at q
  .rename_i C' bm k0 k1 k2 k3 n k5 hm hs;simp only[Bool.and_eq_true,beq_iff_eq,Bool.not_eq_true'] at q;let#[#[#[#[#[z1,z2],xB],ht],bV],zM]:=q;subst z1;subst z2;let#[nm,bs,mro,ns,qn,hd,sn,sub,ab,col,del]:=cd;dsimp only at hm xB bV zM;subst hm xB;let rh:sl=(List.toArray [k0,k1,k2,k3,!.builtin n,k5]):=by
    let#[l]:=sl;simp only at hs;rw[hs]
   subst rh;show#[bm,ns,nm,qn,bs,hd,sn,sub,ab,col,dd,k0,k1,k2,k3,k5,_,X _ _ ho,.of_isNs (PySem.W.isNs_of_in X bV),PySem.W.nsMap_none_of_in X bV zM,PySem.W.tail_of_in X ht]
  .cases q
 .cases q
abbrev W8(K:PySem.W.Frag)(x:Str):Addr:=match PySem.W.nsIn K mainGlobals x with
 |some (!.ref C)=>C
 |_=>0
def NO(K:PySem.W.Frag)(exc:@&Str):Bool:=exc.all λx=>exc.all λy=>decide (PySem.W.exmOne K (.ref (W8 K x)) (.ref (W8 K y))=!decide (x=y\/y="MintError"))
def bS3{exc:@&Str}(h:NO K exc=true){y:Str}{C':Addr}(hx:exc.contains x=true)(hy:exc.contains y=true)(hC:u9 K x C)(JY:u9 K y C'):PySem.W.exmOne K (.ref C) (.ref C')=!decide (x=y\/y="MintError"):=by
 let h1:=bK.mp h x (_/hx);let h2:=bp (bK.mp h1 y (_/hy));let e1:W8 K x=C:=by unfold W8;simp_all
 let e2:W8 K y=C':=by unfold W8;simp_all
 rw[e1,e2] at h2;show h2
def Hz{α:Type}{f:α->Nat}:∀{l:List α},(l.map f).Nodup->∀r∈l,l.find? (λx=>Nat.beq (f x) (f r))=!r
 |y::l,nd,r,hr=>by
  rw[cA,dC] at nd;rcases aM.mp hr with rfl|hr
  .rw[List.find?_cons_of_pos];show Nat.beq_refl _
  .rw[List.find?_cons_of_neg]
   .exact Hz nd.2 r hr
   .intro z;show nd.1 (aQ.mpr #[r,hr,(jD z).symm])
def bD4{α β:Type}{f:α->Nat}{g:β->Nat}{l:List α}{r:β}(h:g r∉l.map f):l.find? (λx=>Nat.beq (f x) (g r))=none:=by
 rw[Rc];intro x hx z;show h (aQ.mpr #[x,hx,jD z])
section
variable{w:World}{h₀:Heap}{mg:Str->Option Value}{c:d8}{F:@&RF}{M:@&RM}{tp:Nat->Stmt}{mt:Nat->Nat->Stmt}
structure mQ(K:PySem.W.Frag)(c:d8)(F:@&RF)(M:@&RM)(tp:Nat->Stmt)(mt:Nat->Nat->Stmt):Prop where
 qF:PF tp K F
 qM:PM mt K M
 qC:PC K c.cls
 qA:PA K c.oV
 qB:PB K c.blt
 qX:PX K c.exc
 xm:NO K c.exc=true
structure mP(c:d8)(F:@&RF)(M:@&RM)(tp:Nat->Stmt)(mt:Nat->Nat->Stmt):Prop where
 cf:c.fns=F.map λr=>(r.nm,r.id)
 cm:c.om=M.map λr=>(r.nm,r.cl,r.id)
 ci:c.cls.all (λy=>M.any λr=>decide (r.cl=y.1)&&decide (r.nm="__init__")&&Nat.beq r.id y.2)=true
 nd:(F.map (·.id)++M.map (·.id)).Nodup
 sF:F.all (λr=>zA r.N (r.N.take r.k) (q9 (tp r.i))&&decide (r.m.ar=(r.N.take r.k).length)&&decide (r.m.n=-r.N))=true
 sM:M.all (λr=>zA r.N (r.N.take r.k) (q9 (mt r.i r.j))&&decide (r.m.ar=(r.N.take r.k).length)&&decide (r.m.n=-r.N))=true
 oF:YF tp c F
 oM:YM mt c M
 bF:BF tp F
 bM:BM mt M
def Oj(I:mQ K c F M tp mt)(X:mP c F M tp mt)(r:RF)(hr:r∈F):∃f fd,kh K c (r.d tp) r.m f fd/\PySem.W.nsIn K mainGlobals r.nm=!!.ref f/\vA F M r.id=!r.m:=by
 let#[f,fd,a,q]:=I.qF.get r hr;let s:=bK.mp X.sF r hr;simp only[Bool.and_eq_true,decide_eq_true_eq] at s;let o:=X.oF.get r hr;show#[f,fd,#[q,q.binds (X.bF.get r hr),Qu s.1.1,o,s.1.2,s.2],a,?_];unfold vA;rw[Hz (cL.mp X.nd).1 r hr]
def Ol(I:mQ K c F M tp mt)(X:mP c F M tp mt)(r:RM)(hr:r∈M):∃C f fd,kh K c (r.d mt) r.m f fd/\PySem.W.nsIn K mainGlobals r.cl=!!.ref C/\Meth K C r.nm f/\vA F M r.id=!r.m:=by
 let#[C,f,fd,a,q1,q]:=I.qM.get r hr;let s:=bK.mp X.sM r hr;simp only[Bool.and_eq_true,decide_eq_true_eq] at s;let o:=X.oM.get r hr;show#[C,f,fd,#[q,q.binds (X.bM.get r hr),Qu s.1.1,o,s.1.2,s.2],a,q1,?_];let nd:=cL.mp X.nd;unfold vA;rw[bD4 (λz=>nd.2.2 _ z _ (aQ.mpr #[r,hr,rfl]) rfl),Hz nd.2.1 r hr]
 rfl
def bG8(I:mQ K c F M tp mt)(Y:mP c F M tp mt)(X:K.In h₀)(G:h₀.Ns mainGlobals mg)(con:∀x d,c.con.lookup x=!d->∃v u,mg x=!u/\RelV v u/\∀ρ H,c9 K ρ H d v)(tS:∀x kvs,c.gd.lookup x=!kvs->∃A vs,mg x=!.ref A/\Bh K w.params A vs/\rR K kvs vs):oY w K mg c (vA F M):=by
 show#[λx i hx=>?_,λx i hx=>?_,λx y i C hx hC=>?_,λf y C hx hC=>?_,con,λx hx=>?_,λx hx=>?_,λx y C C' hx hy hC JY=>bS3 I.xm hx hy hC JY,tS]
 .let hm:=aS hx;rw[Y.cf] at hm;let#[r,hr,e]:=aQ.mp hm;cases e;let#[f,fd,O,a,t]:=Oj I Y r hr;show#[_,_,f,fd,t,O,bS X G a]
 .let hm:=aS hx;let h1:=bK.mp Y.ci _ hm;let#[r,hr,e]:=br.mp h1;simp only[Bool.and_eq_true,decide_eq_true_eq] at e;let#[#[e1,e2],e3]:=e;let e3:=jD e3;let#[C,f,fd,O,a,q,t]:=Ol I Y r hr;let#[C',a',hc,mk,kp]:=I.qC.get _ hm;rw[e1] at a;cases a.symm.trans a';rw[e2] at q;rw[e3] at t;show#[C,_,_,f,fd,t,O,bS X G a,a,hc,#[mk,q.at_,q.fn,kp]]
 .rw[Y.cm] at hx;let#[r,hr,e]:=aQ.mp hx;cases e;let#[C',f,fd,O,a,q,t]:=Ol I Y r hr;cases a.symm.trans hC;show#[_,_,f,fd,t,O,q]
 .let#[C',a,q]:=I.qA.get _ hx;cases a.symm.trans hC;show q
 .exact PySem.W.mg_none_of X G (I.qB.get x (_/hx))
 .let#[C,a,q]:=I.qX.get x (_/hx);show#[_,bS X G a,a,λbase ow xJ=>#[_,_,_,_,a96 ow xJ a q,PySem.F.excBase_ValueError]]
end
end M
namespace M
open PySem L2
variable{g g':G}{i n k a b m r c q p u hl:Nat}{o o':O}{j v:Int}{P:fG}{Q:KD}{E:KX}{N:Ends}{ms ns go on iz ups L:@&Int}{l:@&D}{α:Type}{x y:D}{kb:Bool->Prop}{cs:@&a7}{f:Str}{w:RW}{t:dM}{dd:Dd}{rs:@&eJ}{it elt:ME}{c7 H:@&Nat}{kvs:@&(Key×D)}
set_option hygiene false
local macro_rules|`(tactic|delta $x:ident)=>`(tactic|dsimp[$x:ident,b0,List.replicate])
open Lean Parser.Tactic in
local macro_rules|`(tactic|walk_at"w1")=>do
 let q<-`(?_)
 let N:=fun k (l:List Syntax)=>Syntax.node .none k l.toArray
 let a:Array (TSyntax ``tacticSeq):=([`AA,`yn,`yo,`GN,`bF9,`bU7,`WE,`bF6,`Lu,`E6,`BY,`w_lit,`qJ,`yW,`b53,`bF7,`Wz,`w_and,`w_or,`w_not,`w_ite,`QD,`bF8,`WA,`Bx,`yD,`bF5,`bU9,`bF4,`By,`Bz,`b49,`b48,`bV2,`L',`Vn,`Vm,`Vl,`b42,`KA,`b43,`b31,`HI,`b37,`b35,`b36,`b33,`b32,`b34,`ue,`b41,`b40,`Kr,`b39,`Bj,`EX,`Hu,`bR3,`mE,`V3,`Mh,`Vx,`b01,`Ce,`bI8,`bI9,`IP,`Jf,`ID].map fun n=>⟨N ``tacticSeq [N ``tacticSeq1Indented [mkNullNode [N ``refine [mkAtom "refine",Syntax.mkApp (mkIdent n) [q].toArray]].toArray]]⟩).toArray
 `(tactic|with_reducible first|(refine w_var (d:=?_) ?_ ?_;rotate_left;·with_unfolding_all rfl)$[|$a]*)
local macro_rules|`(tactic|walk_at"w2")=>`(tactic|repeat(with_reducible first|walk_at "w1"|refine HV (by simp) ?_|refine HU (by simp) ?_|refine A6 (a5 (by assumption)) (by with_unfolding_all rfl) ?_|refine A8 (a5 (by assumption)) ?_|refine Bi (by unfold pK;decide) ?_))
local macro_rules|`(tactic|walk_at"w3")=>`(tactic|repeat(with_reducible first|walk_at "w1"|refine HV (by simp) ?_|refine HU (by simp) ?_|refine A6 (a5 (by assumption)) (by with_unfolding_all rfl) ?_|refine A8 (a5 (by assumption)) ?_|refine Bi (by unfold pK;decide) ?_|refine And.intro (show List.length _ <= 1000 from by simp) ?_|refine E7 (by with_unfolding_all rfl) ?_|refine j4 ?_|refine E9 (by with_unfolding_all rfl) ?_))
open Lean Parser.Tactic in
local macro_rules|`(tactic|walk_at"")=>do
 let q<-`(?_)
 let N:=fun k (l:List Syntax)=>Syntax.node .none k l.toArray
 let a:Array (TSyntax ``tacticSeq):=([`WB,`bU8,`Hk,`b30,`bV8,`IE,`max2,`min2,`b14,`rT,`UM,`Kc,`j4,`wX].map fun n=>⟨N ``tacticSeq [N ``tacticSeq1Indented [mkNullNode [N ``refine [mkAtom "refine",Syntax.mkApp (mkIdent n) [q].toArray]].toArray]]⟩).toArray
 `(tactic|repeat(with_reducible first|walk_at "w1"|refine HV (by simp) ?_|refine HU (by simp) ?_|refine A6 (a5 (by assumption)) (by with_unfolding_all rfl) ?_|refine A8 (a5 (by assumption)) ?_|refine Bi (by unfold pK;decide) ?_|refine And.intro (show List.length _ <= 1000 from by simp) ?_|refine E7 (by with_unfolding_all rfl) ?_|refine E9 (by with_unfolding_all rfl) ?_|refine And.intro (Au (by assumption)) ?_|refine And.intro (bP2 (by assumption)) ?_|refine And.intro (Sb (by assumption)) ?_|refine W4 (by decide) ?_|refine GH (by decide) (by decide) ?_$[|$a]*))
set_option hygiene true
@[inline]abbrev fb(a:ME):ME:=.cons a .nil
@[inline]abbrev uB(a b:ME):ME:=.cons a (.cons b .nil)
@[inline]abbrev nX(a b c:ME):ME:=.cons a (.cons b (.cons c .nil))
@[inline]abbrev BV(a b c d:ME):ME:=.cons a (.cons b (.cons c (.cons d .nil)))
@[inline]abbrev Iv(a b c d e:ME):ME:=.cons a (.cons b (.cons c (.cons d (.cons e .nil))))
@[inline]abbrev Iq(a b c d e f:ME):ME:=.cons a (.cons b (.cons c (.cons d (.cons e (.cons f .nil)))))
@[inline]abbrev Ir(a b c d e f g:ME):ME:=.cons a (.cons b (.cons c (.cons d (.cons e (.cons f (.cons g .nil))))))
@[inline]abbrev fQ(f:Nat)(a:ME):ME:=.call f (.cons a .nil)
@[inline]abbrev dP(f:Nat)(a b:ME):ME:=.call f (.cons a (.cons b .nil))
@[inline]abbrev gA(f:Nat)(a b c:ME):ME:=.call f (.cons a (.cons b (.cons c .nil)))
@[inline]abbrev wB(f:Nat)(a b c d:ME):ME:=.call f (.cons a (.cons b (.cons c (.cons d .nil))))
@[inline]abbrev Rj(f:Nat)(a b c d e:ME):ME:=.call f (.cons a (.cons b (.cons c (.cons d (.cons e .nil)))))
@[inline]abbrev cI(o:PySem.CmpOp)(a b:ME):ME:=.fg (.prim (.cmp o) (.cons a (.cons b .nil)))
@[inline]abbrev de(a:ME)(b c:MS):MS:=.seq (.ifs a b .pass) c
@[inline]abbrev nO(t:MT)(a:ME)(b c:MS):MS:=.seq (.ju t a b) c
@[inline]abbrev cF(a b:ME):ME:=.prim .ix (.cons a (.cons b .nil))
@[inline]abbrev bu(a:Int):ME:=.lit (.int a)
@[inline]abbrev bO(a:PySem.Str):ME:=.lit (.str a)
@[inline]abbrev cJ(p:Pr)(a:ME):ME:=.prim p (.cons a .nil)
@[inline]abbrev bG(p:Pr)(a b:ME):ME:=.prim p (.cons a (.cons b .nil))
@[inline]abbrev bN(a:ME):MS:=.seq (.ret a) .pass
@[inline]abbrev dN(a:MS):MS:=.seq a .pass
@[inline]abbrev iA(a b:MS):MS:=.seq a b
@[inline]abbrev du(n:Nat)(a:ME)(b:MS):MS:=.seq (.set n a) b
@[inline]abbrev aE:ME:=.var 0
@[inline]abbrev aL:ME:=.var 1
@[inline]abbrev rf:ME:=.var 10
@[inline]abbrev ou:ME:=.var 11
@[inline]abbrev jg:ME:=.var 12
@[inline]abbrev ot:ME:=.var 13
@[inline]abbrev qZ:ME:=.var 14
@[inline]abbrev wW:ME:=.var 15
@[inline]abbrev wV:ME:=.var 16
@[inline]abbrev ba:ME:=.var 2
@[inline]abbrev bP:ME:=.var 3
@[inline]abbrev dX:ME:=.var 4
@[inline]abbrev gO:ME:=.var 5
@[inline]abbrev gf:ME:=.var 6
@[inline]abbrev iG:ME:=.var 7
@[inline]abbrev iY:ME:=.var 8
@[inline]abbrev lN:ME:=.var 9
@[inline]abbrev jY(a:ME)(b:MS):MS:=.seq (.expr a) b
def P9:aP:=#[2,5,(de (.eI (cI .Lt (cF aE (bu 2)) aL) (cI .Lt (cF aE (bu 1)) (cJ .len (cF aE (bu 0))))) (du 2 (cF (cF aE (bu 0)) (cF aE (bu 1))) (iA (.eT aE (bu 1) (bG (.bin .Add) (cF aE (bu 1)) (bu 1))) (iA (.eT aE (bu 2) (bu 0)) (dN (.ifs (cI .GtE ba (bG (.bin .Pow) (bu 10) (bu 18))) (dN (.eT aE (bu 2) ba)) (dN (.eT aE (bu 3) (bG (.bin .Mod) (bG (.bin .Add) (bG (.bin .Add) (bG (.bin .Mult) (cF aE (bu 3)) (bu 48271)) (bG (.bin .Mult) (bG (.bin .Mod) ba (bu 2147483629)) (bu 69621))) (bu 12345)) (bu 2147483647))))))))) (de (cI .GtE (cF aE (bu 2)) aL) (du 3 (bG (.bin .Mod) (cF aE (bu 2)) aL) (iA (.eT aE (bu 2) (bG (.bin .FloorDiv) (cF aE (bu 2)) aL)) (bN bP))) (du 4 (cF aE (bu 3)) (iA (.eT aE (bu 3) (bG (.bin .Mod) (bG (.bin .Add) (bG (.bin .Add) (bG (.bin .Mult) (bG (.bin .Mod) (bG (.bin .Mult) dX dX) (bu 2147483629)) (bu 5)) (bG (.bin .Mult) dX (bu 16811))) (bu 2531011)) (bu 2147483647))) (bN (bG (.bin .Mod) (bG (.bin .Add) (bG (.bin .FloorDiv) (cF aE (bu 3)) (bu 59)) (bG (.bin .Mult) (bG (.bin .Mod) (cF aE (bu 3)) (bu 8191)) (bu 31))) aL))))))]
def ug:aP:=#[1,2,(du 1 (dP 4 aE (bG (.bin .Pow) (bu 10) (bu 9))) (de (cI .Eq (dP 4 aE (bu 2)) (bu 0)) (dN (.set 1 (bG (.bin .Add) aL (bG (.bin .Pow) (bu 10) (bu 25))))) (de (cI .Eq (dP 4 aE (bu 2)) (bu 0)) (bN (bG (.bin .Sub) (cJ (.un .USub) (bu 1)) aL)) (bN aL))))]
structure j5(g:G)(d:Nat):Prop where
 ex:∃(s:Nat) (p b r:Int) (xs:@&Int),g[d]?=!.lst [.ref s,.int p,.int b,.int r]/\g[s]?=!.lst (xs.map .int)/\s<d/\0<=p/\0<=b/\0<=r/\r<2147483647
structure Gr(d:Nat)(g g':G):Prop where
 len:-g<=-g'
 old:∀i,i≠d->i< -g->g'[i]?=g[i]?
def Gr.refl(d:Nat)(g:G):Gr d g g:=#[aw _,λx x x=>rfl]
def Gr.trans{d:Nat}{g g1 g2:G}(a:Gr d g g1)(b:Gr d g1 g2):Gr d g g2:=#[aG a.len b.len,λi h1 h2=>(b.old i h1 (aI h2 a.len)).trans (a.old i h1 h2)]
def Gr.set(d:Nat)(g:G)(o:O):Gr d g (g.set d o):=#[by simp,λi h1 h2=>aB (bR h1)]
def Gr.snoc(d:Nat)(g:G)(o:O):Gr d g (g++[o]):=#[by simp,λi h1 h2=>aH h2]
def Gr.at{d:Nat}(h:Gr d g g')(hi:i≠d)(e:g[i]?=!o):g'[i]?=!o:=(h.old i hi (ak.mp e).1).trans e
def u6(h:g[i]?=!o):i< -g:=(ak.mp h).1
def j5.lt{d:Nat}(h:j5 g d):d< -g:=by
 let#[_,_,_,_,_,e,_]:=h.ex;show u6 e
def j5.snoc{d:Nat}(h:j5 g d)(o:O):j5 (g++[o]) d:=by
 let#[s,p,b,r,xs,e1,e2,q]:=h.ex;show#[s,p,b,r,xs,by rw[aH (u6 e1)];show e1,by rw[aH (u6 e2)];show e2,q]
abbrev L6:MS->MS
 |.seq _ b=>b
 |x=>x
def bT1{i:Int}(h1:-(2 ^ 64)<i)(h2:i<2 ^ 64):ub i j:=.inl #[h1,h2]
def yt{i:Int}(h1:-(2 ^ 64)<j)(h2:j<2 ^ 64):ub i j:=.inr #[h1,h2]
def a80{d:Nat}{n:Int}{c2:Option D}(hN:N.rt=Q)(D0:j5 g d)(hn:0<n)(oJ:n<1073741824)(h:∀r g',0<=r->r<n->j5 g' d->Gr d g g'->Q (.int r) g'):wpS P (L6 P9.body) N [!.ref d,!.int n,c2,none,none] g E:=by
 let#[s,p,b,r,xs,e1,e2,qf,hp,hb,hr,xh]:=D0.ex;let dQ:=u6 e1;subst hN;dsimp[P9,L6];walk_at "w2";show if2 (λc=>?_) (λc=>?_)
 .walk_at "w2";show W4 hn ?_;walk_at "w2";show Kt #[hn,oJ] ?_;walk_at "w2";show V5 e1 (by rfl) ?_;walk_at "w2";show h _ _ (gz _ ()) (fE _ hn) #[s,p,b / n,r,xs,?_,?_,qf,hp,Int.ediv_nonneg hb (),hr,xh] (Gr.set d g _)
  .rw[aU dQ];rfl
  .rw[aB (cK qf)];show e2
 .walk_at "w2";let IT:-(2 ^ 64)<r/\r<2 ^ 64:=#[by omega,by omega]
  show vD (bT1 IT.1 IT.2) ?_;show W4 ∅ ?_;show vD (yt ∅ ∅) ?_;walk_at "w2";show vD (yt ∅ ∅) ?_;walk_at "w2";show W4 ∅ ?_;walk_at "w2";show V5 e1 (by rfl) ?_;generalize oE:(r*r % 2147483629*5+r*16811+2531011) % 2147483647=r';let q0:0<=r':=by rw[<- oE];show gz _ ∅
  let q1:r'<2147483647:=by rw[<- oE];show fE _ ∅
  let Ew:(g.set d (.lst [.ref s,.int p,.int b,.int r']))[d]?=!.lst [.ref s,.int p,.int b,.int r']:=aU dQ;change wpS P _ _ _ (g.set d (.lst [.ref s,.int p,.int b,.int r'])) E;walk_at "w2";show Kt #[by decide,by decide] ?_;walk_at "w2";show W4 ∅ ?_;show vD (yt ∅ ∅) ?_;walk_at "w2";show W4 hn ?_;show h _ _ (gz _ ()) (fE _ hn) #[s,p,b,r',xs,Ew,?_,qf,hp,hb,q0,q1] (Gr.set d g _);rw[aB (cK qf)];show e2
def m9{T:Nat->Option aP}(hT:T 4=!P9){d:Nat}{n:Int}(D0:j5 g d)(hn:0<n)(oJ:n<1073741824)(h:∀r g',0<=r->r<n->j5 g' d->Gr d g g'->Q (.int r) g'):a8 T (k+1) 4 [.ref d,.int n] g Q E:=by
 let#[s,p,b,r,xs,e1,e2,qf,hp,hb,hr,xh]:=D0.ex;let dQ:=u6 e1;show call_of hT rfl ?_;let tail:∀(g':G) (c2:Option D),j5 g' d->Gr d g g'->wpS (a8 T k) (L6 P9.body) #[λx g'=>Q .aR g',Q,λx x=>False,λx x=>False] [!.ref d,!.int n,c2,none,none] g' E :=
  λg' c2 D1 gr=>a80 rfl D1 hn oJ λr g2 a b c e=>h r g2 a b c (gr.trans e)
 delta P9;walk_at "w2";show if2 (λc=>?_) (λc=>?_)
 .walk_at "w2";show if2 (λc'=>?_) (λc'=>?_)
  .walk_at "w2";let lR:p.toNat< -xs:=by
    rw[ah] at c';omega
   let ea:jA (xs.map D.int) p=!.int xs[p.toNat]:=by
    have:=C7 (xs:=xs.map D.int) (by rw[aj,ag lR];rfl)
    rwa [show((p.toNat:Nat):Int)=p by omega] at this
   show A6 (a5 e2) ea ?_;generalize xs[p.toNat]=cell;walk_at "w2";show V5 e1 (by rfl) ?_;let f1:(g.set d (.lst [.ref s,.int (p+1),.int b,.int r]))[d]?=!.lst [.ref s,.int (p+1),.int b,.int r]:=aU dQ;walk_at "w2";show V5 f1 (by rfl) ?_;rw[df];let f2:(g.set d (.lst [.ref s,.int (p+1),.int 0,.int r]))[d]?=!.lst [.ref s,.int (p+1),.int 0,.int r]:=aU dQ;change wpS (a8 T k) _ _ _ (g.set d (.lst [.ref s,.int (p+1),.int 0,.int r])) E;walk_at "w2";show if2 (λc2=>?_) (λc2=>?_)
   .walk_at "w2";show V5 f2 (by rfl) ?_;rw[df];show tail _ _ #[s,p+1,cell,r,xs,aU dQ,by rw[aB (cK qf)];show e2,qf,by omega,?_,hr,xh] (Gr.set d g _);let h10:(0:Int)<=10 ^ (18:Int).toNat:=by decide
    omega
   .walk_at "w2";show vD (yt ∅ ∅) ?_;walk_at "w2";show W4 ∅ ?_;show vD (yt ∅ ∅) ?_;walk_at "w2";show W4 ∅ ?_;walk_at "w2";show V5 f2 (by rfl) ?_;rw[df];show tail _ _ #[s,p+1,0,_,xs,aU dQ,by rw[aB (cK qf)];show e2,qf,by omega,by decide,gz _ ∅,fE _ ∅] (Gr.set d g _)
  .exact tail _ _ D0 (Gr.refl _ _)
 .exact tail _ _ D0 (Gr.refl _ _)
def LD{T:Nat->Option aP}(hT:T 4=!P9)(TH:T 5=!ug){d:Nat}(D0:j5 g d)(h:∀r g',j5 g' d->Gr d g g'->Q (.int r) g'):a8 T (k+2) 5 [.ref d] g Q E:=by
 show call_of TH rfl ?_;delta ug;walk_at "w2";show m9 hT D0 ∅ ∅ λr1 g1 y y D1 G1=>?_;walk_at "w2";show m9 hT D1 ∅ ∅ λr2 g2 y y D2 G2=>?_;walk_at "w2";let QO:=G1.trans G2;let last:∀(x:Int),wpS (a8 T (k+1)) (L6 (L6 ug.body)) #[λy g'=>Q .aR g',Q,λy y=>False,λy y=>False] [!.ref d,!.int x] g2 E:=λx=>by
  dsimp[ug,L6];walk_at "w2";show m9 hT D2 ∅ ∅ λr3 g3 y y D3 G3=>?_;walk_at "w2";show if2 (λc=>?_) (λc=>?_)
  .walk_at "w2";show h _ _ D3 (QO.trans G3)
  .walk_at "w2";show h _ _ D3 (QO.trans G3)
 show if2 (λc=>?_) (λc=>?_)
 .refine AA ?_;show yo ?_;show qJ ?_;walk_at "w1";show qJ ?_;walk_at "w1";walk_at "w1";show Bi (by unfold pK;decide) ?_;walk_at "w1";show last _
 .exact last _
def FW:aP:=#[1,1,(bN (.eI (bG .isin aE (.lit (.ty "int"))) (.dt (bG .isin aE (.lit (.ty "bool"))))))]
def Z8:aP:=#[3,3,(bN (.eI (fQ 38 aE) (.chain .LtE .LtE aL aE ba)))]
structure NF(T:Nat->Option aP):Prop where
 nf:T 1=!Z8
 is:T 38=!FW
def Q2:aP:=#[1,3,(du 1 (bu 0) (nO (.one 2) (.gp aE) (de (.dt (.fg (gA 1 ba aL (bu 7)))) (bN (.lit (.bl false))) (dN (.set 1 (bG (.bin .Add) ba (bu 1))))) (bN (.lit (.bl true)))))]
def Bt:aP:=#[1,1,(bN (.prim .lst (BV (cJ .list (bG (.mU false true) aE (bu 63))) (bu 0) (bu 0) (bu 29))))]
def vt:aP:=#[1,1,(bN (.eI (bG .isin aE (.lit (.ty "int"))) (.dt (bG .isin aE (.lit (.ty "bool"))))))]
def F7:aP:=#[2,2,(de (cI .Is aL (.lit .aR)) (bN (bG (.cmp .Is) aE (.lit .aR))) (de (.fg (bG .isin aL (.lit (.ty "bool")))) (bN (.eI (bG .isin aE (.lit (.ty "bool"))) (bG (.cmp .Eq) aE aL))) (de (.fg (bG .isin aL (.lit (.ty "int")))) (bN (.eI (fQ 6 aE) (bG (.cmp .Eq) aE aL))) (de (.fg (bG .isin aL (.lit (.ty "str")))) (bN (.eI (bG .isin aE (.lit (.ty "str"))) (bG (.cmp .Eq) aE aL))) (de (.jI (cI .NotEq (bG .isin aL (.lit (.ty "tuple"))) (bG .isin aE (.lit (.ty "tuple")))) (cI .NotEq (bG .isin aL (.lit (.ty "list"))) (bG .isin aE (.lit (.ty "list"))))) (bN (.lit (.bl false))) (de (cI .NotEq (cJ .len aE) (cJ .len aL)) (bN (.lit (.bl false))) (bN (cJ .all (.comp [1,0] 4 (.one 3) (.gE (cJ .len aL)) .no (dP 7 (cF aL bP) (cF aE bP)))))))))))]
def U7{g:G}{n:Nat}:∀ms:@&Int,(ms.map D.int).mapM (rd g n)=!ms.map PyData.int
 |[]=>rfl
 |m::r=>by
  rw[cA,pU,U7 r];cases n<;>rfl
def lay_ints:∀ms:@&Int,PyData.canLayAll0 (ms.map PyData.int)=true
 |[]=>by rfl
 |m::r=>by simp[PyData.canLayAll0,PyData.canLay0,lay_ints r]
def Na:∀ms ns:@&Int,PyData.eqvAll (ms.map PyData.int) (ns.map PyData.int)=decide (ms=ns)
 |[],[]=>by rfl
 |[],_::_=>by rfl
 |_::_,[]=>by rfl
 |m::r,n::q=>by
  simp only[List.map_cons,PyData.eqvAll,PyData.eqv,Na r q];by_cases h:m=n
  .subst h;simp
  .simp[h]
def YZ{i:Int}{k:Bool->Prop}(h:k (ms.any λm=>m==i)):oz g (.int i) (.tup (ms.map .int)) k:=by
 show#[_,.inr #[_,_,_,rfl,U7 ms,rfl,lay_ints ms,by rfl,rfl],?_];rw[wc];show h
def YS{k:Bool->Prop}(ha:c8 g a=!ms.map .int)(hb:c8 g b=!ns.map .int)(h:k (decide (ms=ns))):vm g (.ref a) (.ref b) k:=by
 show#[_,.inr (.inr (.inr #[.list (ms.map .int),.list (ns.map .int),?_,?_,?_,?_,rfl])),?_]
 .simp only[rd];rw[ha];dsimp only;rw[U7];rfl
 .simp only[rd];rw[hb];dsimp only;rw[U7];rfl
 .simp[PyData.canLay0,lay_ints]
 .simp[PyData.canLay0,lay_ints]
 .simp only[PyData.eqv,Na];show h
section
variable{T:Nat->Option aP}{d:Nat}
def Nr(h1:NF T){i:Int}(h:Q (.bl true) g):a8 T (k+1) 38 [.int i] g Q E:=by
 show call_of h1.is rfl ?_;delta FW;walk_at "w2";show ie (b:=true) ∅ rfl ?_;walk_at "w2";show ie ∅ rfl ?_;walk_at "w2";show h
def j7(h1:NF T){i l m:Int}(h:Q (.bl (decide (l<=i)&&decide (i<=m))) g):a8 T (k+2) 1 [.int i,.int l,.int m] g Q E:=by
 show call_of h1.nf rfl ?_;delta Z8;walk_at "w2";show Nr h1 ?_;walk_at "w2";show if2 (λc=>?_) (λc=>?_)
 .rw[au c] at h;walk_at "w2";show h
 .rw[aD c] at h;show h
abbrev gm:Int->@&Int->Bool
 |_,[]=>true
 |l,x::r=>(decide (l<=x)&&decide (x<=7))&&gm (x+1) r
def Ny(h1:NF T)(h2:T 2=!Q2)(h:Q (.bl (gm 0 ms)) g):a8 T (k+3) 2 [.tup (ms.map .int)] g Q E:=by
 show call_of h2 rfl ?_;show E5 (a6 T _) (CC (a6 T _) ?_);walk_at "w2";show#[_,rfl,_,λi U g'=>g'=g/\∃(l:Int) (z:Option D),U=[!.tup (ms.map .int),!.int l,z]/\gm 0 ms=gm l (ms.drop i),λy y y y=>G9,#[rfl,0,none,rfl,rfl],λi x U g' hx p=>?_,λU g' p=>?_]
 .let#[rfl,l,z,rfl,e]:=p;rw[aj] at hx;cases em:ms[i]? with
  |none=>rw[em] at hx;cases hx
  |some m =>
   rw[em] at hx;cases hx;let hi:=(ak.mp em).1;let ed:ms.drop i=m::ms.drop (i+1):=by
    rw[eZ hi]
    congr 1
    show(ak.mp em).2
   rw[ed] at e;simp only[gm] at e;change wpS _ _ _ _ _ _;walk_at "w2";show j7 h1 ?_;walk_at "w2";cases hc:(decide (l<=m)&&decide (m<=7)) with
   |true =>
    rw[hc,Bool.true_and] at e;walk_at "w2";show#[rfl,m+1,!.int m,rfl,e]
   |false =>
    rw[hc,Bool.false_and] at e;rw[e] at h;show h
 .let#[rfl,l,z,rfl,e]:=p;rw[fL #[_]] at e;rw[e] at h;show h
def bA5(h3:T 3=!Bt)(hg:g[a]?=!.qq (ns.map .int))(h:∀d g',j5 g' d->-g<=d->(∀i,i< -g->g'[i]?=g[i]?)->Q (.ref d) g'):a8 T (k+1) 3 [.ref a] g Q E:=by
 show call_of h3 rfl ?_;delta Bt;walk_at "w2";show Hf (Zb hg) ?_;show KW (l:=cut (ns.map D.int) none (!63)) (a5 #[_]) ?_;walk_at "w2";let ec:cut (ns.map D.int) none (!63)=(cut ns none (!63)).map D.int:=by
  unfold cut;simp[List.map_take,List.map_drop]
 show h _ _ #[(-g)+1,0,0,29,cut ns none (!63),?_,?_,?_,by decide,by decide,by decide,by decide] #[_] (λi hi=>?_)
 .simp
 .rw[<- ec];simp
 .simp
 .simp[List.getElem?_append,hi,Nat.lt_of_lt_of_le hi (by omega:-g<=-g+1),Nat.lt_of_lt_of_le hi (by omega:-g<=-g+1+1)]
end
def KQ:∀{ms:@&Int} {l:Int},ms.Pairwise (· < ·)->(∀m∈ms,l<=m/\m<=7)->gm l ms=true
 |[],_,_,_=>rfl
 |m::r,l,hp,h=>by
  let#[h1,h2]:=fB.mp hp;let hm:=h m #[_];simp only[gm];rw[au hm.1,au hm.2,KQ h2 λx hx=>#[by have:=h1 x hx;omega,(h x (by simp[hx])).2]]
  rfl
def AU{l:List α}{r:Int}(h0:0<=r)(h1:r< -l):∃v,jA l r=!v/\v∈l:=by
 let hi:r.toNat< -l:=by omega
 show#[l[r.toNat],?_,cH hi];have:=C7 (ag hi)
 rwa [show((r.toNat:Nat):Int)=r by omega] at this
section
variable{T:Nat->Option aP}
def NW(h7:T 7=!F7){a b:Bool}(h:Q (.bl (a==b)) g):a8 T (k+1) 7 [.bl a,.bl b] g Q E:=by
 show call_of h7 rfl ?_;delta F7;walk_at "w2";walk_at "w2";show ie (c:="bool") (b:=true) ∅ rfl ?_;walk_at "w2";show ie (c:="bool") (b:=true) ∅ rfl ?_;walk_at "w2";show h
end
def E3:aP:=#[1,8,(iA (.pk (.many [1,2,3,4,5]) aE) (du 6 (.eI (gA 1 aL (bu 1) (bu 99)) (fQ 2 ba)) (du 7 (.eI (gA 1 bP (bu 1) (bu 99)) (fQ 2 dX)) (bN (.eI gf (.eI iG (gA 1 gO (bu 0) (bu 9999))))))))]
structure a7 where
 lo:Int
 lm:@&Int
 up:Int
 um:@&Int
 yr:Int
def a7.d(c:a7):D:=.tup [.int c.lo,.tup (c.lm.map .int),.int c.up,.tup (c.um.map .int),.int c.yr]
def k9(c:a7):Bool:=((decide (1<=c.lo)&&decide (c.lo<=99))&&gm 0 c.lm)&&(((decide (1<=c.up)&&decide (c.up<=99))&&gm 0 c.um)&&(decide (0<=c.yr)&&decide (c.yr<=9999)))
section
variable{T:Nat->Option aP}{d:Nat}
def aO2(h1:NF T)(h2:T 2=!Q2)(tO:T 12=!E3){c:a7}(h:Q (.bl (k9 c)) g):a8 T (k+4) 12 [c.d] g Q E:=by
 show call_of tO rfl ?_;dsimp[E3,b0,List.replicate,a7.d];walk_at "w3";show j7 h1 ?_;let s1:∀b:Bool,b=((decide (1<=c.lo)&&decide (c.lo<=99))&&gm 0 c.lm)->wpS (a8 T (k+3)) (L6 (L6 E3.body)) #[λx g'=>Q .aR g',Q,λx x=>False,λx x=>False] [!c.d,!.int c.lo,!.tup (c.lm.map .int),!.int c.up,!.tup (c.um.map .int),!.int c.yr,!.bl b,none] g E:=by
  intro b hb;dsimp[E3,L6];walk_at "w3";show j7 h1 ?_;let s2:∀b':Bool,b'=((decide (1<=c.up)&&decide (c.up<=99))&&gm 0 c.um)->wpS (a8 T (k+3)) (L6 (L6 (L6 E3.body))) #[λx g'=>Q .aR g',Q,λx x=>False,λx x=>False] [!c.d,!.int c.lo,!.tup (c.lm.map .int),!.int c.up,!.tup (c.um.map .int),!.int c.yr,!.bl b,!.bl b'] g E:=by
   intro b' kz;dsimp[E3,L6];let e:k9 c=(b&&(b'&&(decide (0<=c.yr)&&decide (c.yr<=9999)))):=by unfold k9;rw[hb,kz]
   rw[e] at h;walk_at "w3";cases b
   .exact V3 h
   .refine mE ?_;walk_at "w3";cases b'
    .exact V3 h
    .refine mE ?_;walk_at "w3";show j7 h1 h
  show Hu ?_;cases hc:(decide (1<=c.up)&&decide (c.up<=99)) with
  |false=>show V3 (s2 false (by rw[hc];rfl))
  |true =>
   show mE ?_;walk_at "w1";walk_at "w1";walk_at "w1";walk_at "w1";show Ny h1 h2 (s2 _ (by rw[hc];rfl))
 show Hu ?_;cases hc:(decide (1<=c.lo)&&decide (c.lo<=99)) with
 |false=>show V3 (s1 false (by rw[hc];rfl))
 |true =>
  show mE ?_;walk_at "w1";walk_at "w1";walk_at "w1";walk_at "w1";show Ny h1 h2 (s1 _ (by rw[hc];rfl))
end
def Ba:aP:=#[2,5,(du 2 (cJ .list aL) (du 3 (.prim .lst .nil) (nO (.one 4) (.gE (cJ .len aL)) (dN (.expr (.dZ .append bP (fb (.dZ .pop ba (fb (dP 4 aE (cJ .len ba)))))))) (bN bP))))]
def ML{α:Type}:∀{l:List α} {j:Nat} (h:j< -l),(l[j]::l.eraseIdx j).Perm l
 |a::r,0,_=>by simp
 |a::r,j+1,h=>by
  simp only[List.getElem_cons_succ,List.eraseIdx_cons_succ];show(List.Perm.swap _ _ _).trans ((ML (_/h)).cons a)
def Gr.yU{d x:Nat}(h:Gr d g g')(hx:-g<=x):Gr d g (g'.set x o):=#[by simp[h.len],λi h1 h2=>by rw[aB ()];show h.old i h1 h2]
def j5.yU{d x:Nat}(h:j5 g d)(hx:d<x):j5 (g.set x o) d:=by
 let#[s,p,b,r,xs,e1,e2,hs,q]:=h.ex;show#[s,p,b,r,xs,by rw[aB ()];show e1,by rw[aB ()];show e2,hs,q]
def b9:(g++[o])[(-g)]?=!o:=by simp
def HA(h:g[i]?=!o):(g++[o'])[i]?=!o:=by rw[aH (u6 h)];show h
def get_set(h:g[i]?=!o):(g.set i o')[i]?=!o':=aU (u6 h)
def b7{j:Nat}(h:g[i]?=!o)(hn:j≠i):(g.set j o')[i]?=!o:=by rw[aB hn];show h
section
variable{T:Nat->Option aP}{d:Nat}
def aR7(h4:T 4=!P9)(DT:T 21=!Ba)(ha:g[a]?=!.lst l)(hl:-l<=1000)(hd:a≠d)(D0:j5 g d)(h:∀(l':@&D) b g',l'.Perm l->g'[b]?=!.lst l'->-g<=b->j5 g' d->Gr d g g'->Q (.ref b) g'):a8 T (k+2) 21 [.ref d,.ref a] g Q E:=by
 show call_of DT rfl ?_;delta Ba;exists KW (a5 ha) ?_;left;let dl:=D0.lt;show E5 (a6 T _) (yQ (a6 T _) ?_);left;let vd:(g++[O.lst l]++[O.lst []])[a]?=!.lst l:=HA (HA ha);show A8 (a5 vd) ?_;show #[_,rfl,by omega,by omega,p9 0 (-l),λi U g'=>∃ left found w,U=[!.ref d,!.ref a,!.ref (-g),!.ref (-g + 1),w]/\(left ++ found).Perm l/\-left + i=-l/\g'[(-g)]?=!.lst left/\g'[(-g) + 1]?=!.lst found/\j5 g' d/\Gr d g g',
  λi U g p=>G9,?_,λi x U g' hx p=>?_,λU g' p=>?_]
 .refine#[l,[],none,?_,by simp,by simp,?_,?_,(D0.snoc _).snoc _,(Gr.snoc _ _ _).trans (Gr.snoc _ _ _)]
  .simp
  .exact HA b9
  .have:=b9 (g:=g++[O.lst l]) (o:=O.lst []);simpa using this
 .let#[left,found,w,rfl,hp,hn,e1,e2,D1,G1]:=p;let#[hi,rfl]:=O9 hx;exists m9 h4 D1 () () λr g2 r0 r1 D2 G2=>?_;let f1:=G2.at () e1;let f2:=G2.at () e2;let hr:r.toNat< -left:=by omega
  exists Zs f1 () (ag hr) () ?_;exists uo (b7 f2 ()) ?_ ?_
  .have:=hp.length_eq;simp at this;omega
  exists#[_,_,_,rfl,?_,?_,b7 (get_set f1) (),get_set (b7 f2 ()),(D2.yU ()).yU (),((G1.trans G2).yU ()).yU ()]
  .refine List.Perm.trans ?_ hp;have:=ML hr;show List.Perm.trans ?_ (List.Perm.append_right found this);simp only[List.cons_append];rw[<- iw];show(List.perm_append_singleton _ _)
  .rw[gZ hr];omega
 .let#[left,found,w,rfl,hp,hn,e1,e2,D1,G1]:=p;left;rw[E0] at hn;have:left=[]:=et ();subst this;show h _ _ _ (_/hp) e2 () D1 G1
end
structure QN(c:a7):Prop where
 good:k9 c=true
 l8:-c.lm<=8
 u8:-c.um<=8
def bS9{l:List α}(h:n<=-l):cut l none (!(n:Int))=l.take n:=by
 have:¬((n:Int)<0):=by omega
 unfold cut HT.eL;simp[this]
def A2:aP:=#[1,1,(dN (.ifs (.dt (.fg (gA 1 aE (bu 1) (bu 9)))) (dN (.raise "BadAnvils" (fb (bO "there are from one to nine anvils")))) .pass))]
def Bs:aP:=#[2,2,(de (cI .Eq (dP 4 aE (bu 12)) (bu 7)) (bN (fQ 5 aE)) (bN (bG (.bin .Sub) (dP 4 aE (bG (.bin .Add) aL (bu 4))) (bu 2))))]
def AL:aP:=#[2,2,(bN (cJ .all (.comp [1] 3 (.one 2) (.gp aE) .no (bG (.cmp .In) ba aE))))]
def Gi:aP:=#[1,1,(dN (.ifs (.dt (.fg (fQ 12 aE))) (dN (.raise "BadCoin" (fb (bO "it is no coin")))) .pass))]
def GA:aP:=#[1,2,(de (cI .Gt (cJ .len aE) (bu 9)) (dN (.raise "TooMany" (fb (bO "at most nine coins are asked about at once")))) (dN (.ju (.one 1) (.gp aE) (dN (.expr (fQ 39 aL))))))]
def Q3:aP:=#[1,1,(dN (.ifs (cI .NotIn aE (.lit (.tup [(.str "lower"),(.str "upper")]))) (dN (.raise "BadSide" (fb (bO "a side is lower or upper")))) .pass))]
def FT:aP:=#[1,1,(jY (fQ 40 aE) (bN (bG .oU (.lit (.tup [(.tup [(.str "lower"),(.int 0)]),(.tup [(.str "upper"),(.int 2)])])) aE)))]
noncomputable abbrev QP(T:Nat->Option aP):Prop:=T 18=!GA/\T 39=!Gi
noncomputable abbrev Ig(T:Nat->Option aP):Prop:=T 19=!FT/\T 40=!Q3
structure Ex(g g':G):Prop where
 len:-g<=-g'
 old:∀i,i< -g->g'[i]?=g[i]?
def Ex.refl(g:G):Ex g g:=#[aw _,λx x=>rfl]
def Ex.trans{g g1 g2:G}(a:Ex g g1)(b:Ex g1 g2):Ex g g2:=#[aG a.len b.len,λi h=>(b.old i (aI h a.len)).trans (a.old i h)]
def Ex.snoc(g:G)(o:O):Ex g (g++[o]):=#[by simp,λi h=>aH h]
def Ex.at(h:Ex g g')(e:g[i]?=!o):g'[i]?=!o:=(h.old i (u6 e)).trans e
def Ex.gr(h:Ex g g')(d:Nat):Gr d g g':=#[h.len,λi x h2=>h.old i h2]
def Ex.draw{d:Nat}(h:Ex g g')(D0:j5 g d):j5 g' d:=by
 let#[s,p,b,r,xs,e1,e2,q]:=D0.ex;show#[s,p,b,r,xs,h.at e1,h.at e2,q]
inductive G0(g:G):Nat->D->D->Prop
 |aR {n:Nat}:G0 g n .aR .aR
 |bl {n:Nat} (b:Bool):G0 g n (.bl b) (.bl b)
 |int {n:Nat} (i:Int):G0 g n (.int i) (.int i)
 |str {n:Nat} (x:Str):G0 g n (.str x) (.str x)
 |tup {n:Nat} {l m:@&D} (hl:-l=-m) (h:∀(i:Nat) x y,l[i]?=!x->m[i]?=!y->G0 g n x y) (hz:-m<=1000):G0 g (n+1) (.tup l) (.tup m)
 |lst {n a b:Nat} {l m:@&D} (ha:g[a]?=!.lst l) (hb:g[b]?=!.lst m) (hl:-l=-m) (h:∀(i:Nat) x y,l[i]?=!x->m[i]?=!y->G0 g n x y) (hz:-m<=1000):G0 g (n+1) (.ref a) (.ref b)
def G0.ex(e:Ex g g')(h:G0 g n x y):G0 g' n x y:=by
 induction h with
 |aR=>show .aR
 |bl b=>show .bl b
 |int i=>show .int i
 |str x=>show .str x
 |tup hl h hz ih=>show .tup hl ih hz
 |lst ha hb hl h hz ih=>show .lst (e.at ha) (e.at hb) hl ih hz
section
variable{T:Nat->Option aP}
def Hb(h6:T 6=!vt){i:Int}(h:Q (.bl true) g):a8 T (k+1) 6 [.int i] g Q E:=by
 show call_of h6 rfl ?_;delta vt;exists ie (b:=true) ∅ rfl ?_;exists ie ∅ rfl ?_;left;show h
abbrev bC1:MS:=match F7.body with
 |.seq _ (.seq _ (.seq _ (.seq _ (.seq _ b))))=>b
 |x=>x
def Zf(h6:T 6=!vt)(h7:T 7=!F7):∀(n:Nat) {k:Nat} {g:G} {x y:D} {Q:KD} {E:KX},G0 g n x y->(∀g',Ex g g'->Q (.bl true) g')->a8 T (k+n+2) 7 [x,y] g Q E:=by
 let wz:∀(n:Nat),(∀{k:Nat} {g:G} {x y:D} {Q:KD} {E:KX},G0 g n x y->(∀g',Ex g g'->Q (.bl true) g')->a8 T (k+n+2) 7 [x,y] g Q E) ->
   ∀{k:Nat} {g:G} {x y:D} {l m:@&D} {Q:KD} {E:KX},(∀g',Ex g g'->F0 g' x=!l)->(∀g',Ex g g'->F0 g' y=!m)->-l=-m->-m<=1000->(∀(i:Nat) x y,l[i]?=!x->m[i]?=!y->G0 g n x y)->(∀g',Ex g g'->Q (.bl true) g') ->
   wpS (a8 T (k+n+2)) bC1 #[λv g'=>Q .aR g',Q,λv v=>False,λv v=>False] [!x,!y] g E:=by
  intro n ih k g x y l m Q E hx hy hl hz hs hQ;let len:∀(z:D) (l:@&D) (g':G) (Q':KD),F0 g' z=!l->Q' (.int (-l)) g'->cP .len [z] g' Q':=λz l g' Q' e q=>#[_,_,#[rfl,.inl #[z,l,rfl,e,rfl]],q]
  show yn (Lu (Bz (qJ (yW (w_var rfl (len _ _ _ _ (hx g (Ex.refl g)) ?_))))));show yW (w_var rfl (len _ _ _ _ (hy g (Ex.refl g)) ?_));show KA ?_;rw[hl,au rfl];exists K5 (a6 T _) (yQ (a6 T _) ?_);show yW (w_var rfl (len _ _ _ _ (hy g (Ex.refl g)) ?_));show#[_,rfl,by omega,by omega,p9 0 (-m),λi ys U g'=>∃z w,ys=List.replicate i (.bl true)/\U=[!y,!x,z,w]/\Ex g g',by rw[E0];show hz,λi ys U g' p=>#[G9,?_],#[none,none,rfl,rfl,Ex.refl g],λi z ys U g' hz p=>?_,λys U g' p=>?_]
  .let#[z,w,rfl,_]:=p;simp
  .let#[z,w,rfl,rfl,e]:=p;let#[hi,rfl]:=O9 hz;let h1:l[i]?=some l[i]:=ag ();let h2:=ag hi;let a1:jA l (0+(i:Int))=some l[i]:=by rw[jo];show C7 h1
   let a2:jA m (0+(i:Int))=some m[i]:=by rw[jo];show C7 h2
   change eF _ _ _ _ _ _;show By (mE (QD (yD (qJ (w_var rfl (w_var rfl #[_,_,#[rfl,.inl #[_,l,_,rfl,hx g' e,a1]],?_]))))));show yD (qJ (w_var rfl (w_var rfl #[_,_,#[rfl,.inl #[_,m,_,rfl,hy g' e,a2]],?_])));show Bx (ih ((hs i _ _ h1 h2).ex e) λg2 e2=>?_);show#[_,_,by rw[List.replicate_succ'],rfl,e.trans e2]
  .let#[z,w,rfl,rfl,e]:=p;show Ku (a5 b9) ?_ (hQ _ (e.trans (Ex.snoc _ _)));have:List.replicate (p9 0 (-m)).length (D.bl true)=(List.replicate (p9 0 (-m)).length true).map D.bl:=by simp
   rw[this,Pp];simp
 intro n
 induction n with
 |zero =>
  intro k g x y Q E h hQ;let h0:=hQ g (Ex.refl g);cases h with
  |aR =>
   show call_of h7 rfl ?_;delta F7;left;show h0
  |bl b=>show NW h7 (_/h0)
  |int i =>
   show call_of h7 rfl ?_;delta F7;exists ie (c:="bool") (b:=false) ∅ rfl ?_;exists ie (c:="int") (b:=true) ∅ rfl ?_;exists Hb h6 ?_;left;simpa using h0
  |str x =>
   show call_of h7 rfl ?_;delta F7;exists ie (c:="bool") (b:=false) ∅ rfl ?_;exists ie (c:="int") (b:=false) ∅ rfl ?_;exists ie (c:="str") (b:=true) ∅ rfl ?_;exists ie (c:="str") (b:=true) ∅ rfl ?_;left;simpa using h0
 |succ n ih =>
  intro k g x y Q E h hQ;let h0:=hQ g (Ex.refl g);cases h with
  |aR =>
   show call_of h7 rfl ?_;delta F7;left;show h0
  |bl b=>show NW h7 (_/h0)
  |int i =>
   show call_of h7 rfl ?_;delta F7;exists ie (c:="bool") (b:=false) ∅ rfl ?_;exists ie (c:="int") (b:=true) ∅ rfl ?_;exists Hb h6 ?_;left;simpa using h0
  |str x =>
   show call_of h7 rfl ?_;delta F7;exists ie (c:="bool") (b:=false) ∅ rfl ?_;exists ie (c:="int") (b:=false) ∅ rfl ?_;exists ie (c:="str") (b:=true) ∅ rfl ?_;exists ie (c:="str") (b:=true) ∅ rfl ?_;left;simpa using h0
  |@tup _ l m hl hs hz =>
   show call_of h7 rfl ?_;let body:=wz n ih (k:=k) (x:=.tup l) (y:=.tup m) (E:=E) (λv v=>rfl) (λv v=>rfl) hl hz hs hQ;delta F7;exists ie (c:="bool") (b:=false) ∅ rfl ?_;exists ie (c:="int") (b:=false) ∅ rfl ?_;exists ie (c:="str") (b:=false) ∅ rfl ?_;exists ie (c:="tuple") (b:=true) ∅ rfl ?_;exists ie (c:="tuple") (b:=true) ∅ rfl ?_;exists cZ rfl ?_;exists ie (c:="list") (b:=false) ∅ rfl ?_;exists ie (c:="list") (b:=false) ∅ rfl ?_;exists cZ rfl (E6 ?_);show body
  |@lst _ a b l m ha hb hl hs hz =>
   show call_of h7 rfl ?_;let body:=wz n ih (k:=k) (x:=.ref a) (y:=.ref b) (E:=E) (λg' e=>a5 (e.at ha)) (λg' e=>a5 (e.at hb)) hl hz hs hQ;let ta:∀c,uf g (.ref a) c=!(c=="list"):=λc=>by simp only[uf,ha]
   let tb:∀c,uf g (.ref b) c=!(c=="list"):=λc=>by simp only[uf,hb]
   delta F7;exists ie (c:="bool") (b:=false) ∅ (tb _) ?_;exists ie (c:="int") (b:=false) ∅ (tb _) ?_;exists ie (c:="str") (b:=false) ∅ (tb _) ?_;exists ie (c:="tuple") (b:=false) ∅ (tb _) ?_;exists ie (c:="tuple") (b:=false) ∅ (ta _) ?_;exists cZ rfl ?_;exists ie (c:="list") (b:=true) ∅ (tb _) ?_;exists ie (c:="list") (b:=true) ∅ (ta _) ?_;exists cZ rfl (E6 ?_);show body
end
def nY(a b:@&Int):Bool:=a.all λs=>b.any λm=>m==s
section
variable{T:Nat->Option aP}{d:Nat}
def Qp(rF:T 15=!AL){a b:@&Int}(ha:-a<=1000)(h:∀g',Ex g g'->Q (.bl (nY a b)) g'):a8 T (k+1) 15 [.tup (a.map .int),.tup (b.map .int)] g Q E:=by
 show call_of rF rfl ?_;delta AL;exists K5 (a6 T _) (CC (a6 T _) ?_);exists#[_,rfl,_,λi ys U g'=>∃z w,ys=((a.take i).map λs=>b.any λm=>m==s).map D.bl/\U=[!.tup (b.map .int),z,w]/\g'=g,by simpa using ha,λi ys U g' p=>#[G9,?_],#[none,none,rfl,rfl,rfl],λi x ys U g' hx p=>?_,λys U g' p=>?_]
 .let#[z,w,rfl,_]:=p;simp;omega
 .let#[z,w,rfl,rfl,rfl]:=p;rw[aj,ae] at hx;let#[s,hs,rfl]:=hx;exists Y5 (YZ ?_);show#[_,_,?_,rfl,rfl];rw[bJ,hs];simp
 .let#[z,w,rfl,rfl,rfl]:=p;show Ku (a5 b9) (Pp _) ?_;let e:((a.take (a.map D.int).length).map λs=>b.any λm=>m==s).all id=nY a b:=by
   simp[nY,List.all_map]
  rw[e];show h _ (Ex.snoc _ _)
def Xe{x:Str}(hx:PyData.strOk x=true)(h:kb (decide (x="lower")||decide (x="upper"))):oz g (.str x) (.tup [.str "lower",.str "upper"]) kb:=by
 show#[_,.inr #[_,[.str "lower",.str "upper"],.str x,rfl,rfl,rfl,by decide +kernel,by show hx,rfl],?_];let e:∀y:Str,PyData.eqv (.str y) (.str x)=decide (x=y):=λy=>by
  simp only[PyData.eqv];rw[bq,eA,bz];show eq_comm
 simp only[List.any_cons,List.any_nil,Bool.or_false,e];show h
def Nx(DS:T 40=!Q3){x:Str}(ho:PyData.strOk x=true)(h1:x="lower"\/x="upper"->Q .aR g)(h3:x≠"lower"->x≠"upper"->E #["BadSide"] g):a8 T (k+1) 40 [.str x] g Q E:=by
 show call_of DS rfl ?_;delta Q3;exists N8 (Xe ho ?_);left;by_cases e:x="lower"\/x="upper"
 .refine cZ (by rw[kR,dD,bz,bz];show e) ?_;show h1 e
 .refine eU (by rw[eM,jX,aK,aK];show not_or.mp e) ?_;left;show h3 (λz=>e (.inl z)) (λz=>e (.inr z))
def L3(lY:Ig T){x:Str}(ho:PyData.strOk x=true)(h1:x="lower"->Q (.int 0) g)(h2:x="upper"->Q (.int 2) g)(h3:x≠"lower"->x≠"upper"->E #["BadSide"] g):a8 T (k+2) 19 [.str x] g Q E:=by
 show call_of lY.1 rfl ?_;delta FT;exists Nx lY.2 ho (λhx=>?_) h3;left;by_cases e1:x="lower"
 .let el:U3 [.tup [.str "lower",.int 0],.tup [.str "upper",.int 2]] x=!.int 0:=by simp[U3,e1]
  show KP el ?_;show h1 e1
 .let e2:=hx.resolve_left e1;let el:U3 [.tup [.str "lower",.int 0],.tup [.str "upper",.int 2]] x=!.int 2:=by simp[U3,e1];simp[e2]
  show KP el ?_;show h2 e2
def CB(c:a7):Prop:=-c.lm<=8/\-c.um<=8
def T5(h1:NF T)(h2:T 2=!Q2)(tO:T 12=!E3)(vh:QP T)(ha:g[a]?=!.lst (cs.map a7.d))(hz:-cs<=1000)(hm:9< -cs->E #["TooMany"] g)(hb:-cs<=9->cs.all k9=false->E #["BadCoin"] g)(h:-cs<=9->cs.all k9=true->Q .aR g):a8 T (k+6) 18 [.ref a] g Q E:=by
 show call_of vh.1 rfl ?_;delta GA;left;rw[ah];show if2 (λc=>?_) (λc=>?_)
 .left;show hm ()
 let h9:-cs<=9:=by omega
 exists E5 (a6 T _) (lP (a6 T _) ?_);exists#[a,_,rfl,a5 ha,cs.map a7.d,λi U g'=>∃z,U=[!.ref a,z]/\g'=g/\(cs.take i).all k9=true,λi U g' p=>?_,#[none,rfl,rfl,by simp],λi x U g' hx p=>?_,λU g' p=>?_]
 .let#[z,rfl,rfl,_]:=p;show u5 (a5 ha)
 .let#[z,rfl,rfl,hg]:=p;rw[aj,ae] at hx;let#[c,hc,rfl]:=hx;show j4 ?_;exists call_of vh.2 rfl ?_;delta Gi;exists aO2 h1 h2 tO ?_;left;cases e:k9 c with
  |true =>
   show#[_,rfl,rfl,?_];rw[bJ,hc];simp[hg,e]
  |false =>
   show Mh ?_;exists hb h9 ?_;rw[List.all_eq_false];show#[c,aC hc,by rw[e];decide]
 .let#[z,rfl,rfl,hg]:=p;rw[ah,cG] at hg;show h h9 hg
end
def Bu:aP:=#[1,1,(de (cI .Eq (dP 4 aE (bu 14)) (bu 9)) (bN (cF (.prim .lst (BV (bO "") (bO "Lower") (bO "both") (bO "upper "))) (dP 4 aE (bu 4)))) (bN (cF (bG .lst (bO "lower") (bO "upper")) (dP 4 aE (bu 2)))))]
section
variable{T:Nat->Option aP}{d:Nat}
def Ou(h4:T 4=!P9)(Aa:T 29=!Bu)(D0:j5 g d)(h:∀x g',PyData.strOk x=true->j5 g' d->Gr d g g'->Q (.str x) g'):a8 T (k+2) 29 [.ref d] g Q E:=by
 show call_of Aa rfl ?_;delta Bu;exists m9 h4 D0 ∅ ∅ λr g1 y y D1 G1=>?_;exists if2 (λc=>?_) (λc=>?_)
 .exists m9 h4 (D1.snoc _) ∅ ∅ λr g2 r0 r1 D2 G2=>?_;let e2:=G2.at (i:=-g1) (by have:=D1.lt;omega) (o:=.lst (([("":Str),("Lower":Str),("both":Str),("upper ":Str)]:@&Str).map D.str)) #[_];let#[v,hv,hm]:=AU (l:=([("":Str),("Lower":Str),("both":Str),("upper ":Str)]:@&Str).map D.str) r0 (_/r1);let#[x,hx,rfl]:=aQ.mp hm;show A6 (a5 e2) hv ?_;exists h x g2 ?_ D2 (G1.trans ((Gr.snoc _ _ _).trans G2));simp only[List.mem_cons,List.mem_nil_iff,or_false] at hx;rcases hx with rfl|rfl|rfl|rfl<;>decide +kernel
 .exists m9 h4 (D1.snoc _) ∅ ∅ λr g2 r0 r1 D2 G2=>?_;let e2:=G2.at (i:=-g1) (by have:=D1.lt;omega) (o:=.lst (([("lower":Str),("upper":Str)]:@&Str).map D.str)) #[_];let#[v,hv,hm]:=AU (l:=([("lower":Str),("upper":Str)]:@&Str).map D.str) r0 (_/r1);let#[x,hx,rfl]:=aQ.mp hm;show A6 (a5 e2) hv ?_;exists h x g2 ?_ D2 (G1.trans ((Gr.snoc _ _ _).trans G2));simp only[List.mem_cons,List.mem_nil_iff,or_false] at hx;rcases hx with rfl|rfl<;>decide +kernel
end
def PN{x:Str}(ha:g[a]?=!.lst [.str "lower",.str "upper"])(hx:PyData.strOk x=true)(h:kb (decide (x="lower")||decide (x="upper"))):oz g (.str x) (.ref a) kb:=by
 show#[_,.inr #[_,[.str "lower",.str "upper"],.str x,a5 ha,rfl,rfl,by simp only[PyData.canLayAll0,PyData.canLay0,Bool.and_true];decide +kernel,by simp only[PyData.canLay0];show hx,rfl],?_];let e:∀y:Str,PyData.eqv (.str y) (.str x)=decide (x=y):=λy=>by
  simp only[PyData.eqv];rw[bq,eA,bz];show eq_comm
 simp only[List.any_cons,List.any_nil,Bool.or_false,e];show h
def FQ:aP:=#[2,2,(dN (.ifs (.dt (.fg (gA 1 aL (bu 1) (cJ .len aE)))) (dN (.raise "NoDie" (fb (bO "no such die was cut")))) .pass))]
def As:aP:=#[1,1,(bN (.pJ (.cons (bO "seats") (.cons (bG (.bin .Mult) (cJ .lst (.lit .aR)) aE) (.cons (bO "lower") (.cons (.prim .lst .nil) (.cons (bO "upper") (Ir (.prim .lst .nil) (bO "gone") (.prim .lst .nil) (bO "year") (bu 0) (bO "coins") (.prim .lst .nil)))))))))]
def Bp:aP:=#[2,2,(de (cI .NotIn aL (bG .lst (bO "lower") (bO "upper"))) (bN (bG .tup (bO "BadSide") (.lit .aR))) (de (cI .Gt (cJ .len (cF aE aL)) (bu 98)) (bN (bG .tup (bO "Full") (.lit .aR))) (jY (.dZ .append (cF aE aL) (fb (.prim .tup .nil))) (bN (bG .tup (bO "") (cJ .len (cF aE aL)))))))]
def FY:aP:=#[2,2,(jY (fQ 42 aL) (iA (.fH "bench" ["Mint"] aE (bG (.bin .Mult) (cJ .tup (.lit .aR)) aL)) (iA (.fH "laid_off" ["Mint"] aE (.prim .tup .nil)) (iA (.fH "lower_wear" ["Mint"] aE (.prim .tup .nil)) (iA (.fH "upper_wear" ["Mint"] aE (.prim .tup .nil)) (iA (.fH "present" ["Mint"] aE (bu 0)) (dN (.fH "output" ["Mint"] aE (.prim .tup .nil)))))))))]
def Z9:aP:=#[2,2,(jY (fQ 40 aL) (de (cI .Eq aL (bO "lower")) (bN (cJ (.fld "lower_wear") aE)) (bN (cJ (.fld "upper_wear") aE))))]
def Y0:aP:=#[3,3,(dN (.ifs (cI .Eq aL (bO "lower")) (dN (.fH "lower_wear" ["Mint"] aE ba)) (dN (.fH "upper_wear" ["Mint"] aE ba))))]
def Fs:aP:=#[2,3,(du 2 (.cT "wear_of" [("Mint",52)] aE (fb aL)) (de (cI .Eq (cJ .len ba) (bu 99)) (dN (.raise "Full" (fb (bO "no more dies of that side are cut")))) (jY (.cT "put_wear" [("Mint",53)] aE (uB aL (bG (.bin .Add) ba (cJ .tup (.prim .tup .nil))))) (bN (bG (.bin .Add) (cJ .len ba) (bu 1))))))]
def Ng:aP:=#[1,1,(bN (cJ .list (cJ (.fld "bench") aE)))]
def PZ:aP:=#[2,2,(bN (cJ .len (.cT "wear_of" [("Mint",52)] aE (fb aL))))]
def Gn:aP:=#[3,4,(du 3 (.cT "wear_of" [("Mint",52)] aE (fb aL)) (jY (dP 43 bP ba) (bN (cF bP (bG (.bin .Sub) ba (bu 1))))))]
def Gp:aP:=#[2,2,(jY (dP 43 (cJ (.fld "lower_wear") aE) aL) (de (cI .In aL (cJ (.fld "bench") aE)) (bN (bO "fixed")) (de (cI .In aL (cJ (.fld "laid_off") aE)) (bN (bO "gone")) (bN (bO "new")))))]
def Qa:aP:=#[1,1,(bN (cJ (.fld "present") aE))]
def GG:aP:=#[1,1,(bN (cJ .len (cJ (.fld "output") aE)))]
def FX:aP:=#[2,2,(de (.dt (.fg (gA 1 aL (bu 0) (bG (.bin .Sub) (cJ .len (cJ (.fld "output") aE)) (bu 1))))) (dN (.raise "NoCoin" (fb (bO "no coin has that number")))) (bN (cF (cJ (.fld "output") aE) aL)))]
def W0:aP:=#[2,2,(bN (.iF [0] 3 (.one 2) (.gp aL) .no (.cT "coin" [("Mint",66)] aE (fb ba))))]
noncomputable abbrev IC(a:Nat):D:=.tup (List.replicate a (.tup []))
def La(be la:D)(a b:Nat):O:=.ins "Mint" [("bench",be),("laid_off",la),("lower_wear",IC a),("upper_wear",IC b),("present",.int 0),("output",.tup [])]
noncomputable abbrev KZ(n a b:Nat):O:=La (.tup (List.replicate n .aR)) (.tup []) a b
def yA{v:D}{fs:@&(Str×D)}(h:-fs<n):(f9 f v fs).length<n+1:=by
 induction fs generalizing n with
 |nil=>simp[f9];omega
 |cons p r ih =>
  let#[y,z]:=p;simp only[f9];split
  .simp at h ⊢;omega
  .have:=ih (n:=n-1) (by simp at h;omega);simp at h ⊢;omega
structure TM(T:Nat->Option aP):Prop where
 nf:NF T
 DS:T 40=!Q3
 nN:T 42=!A2
 Uz:T 43=!FQ
 Uy:T 51=!FY
 Ux:T 52=!Z9
 Uw:T 53=!Y0
 Uv:T 54=!Fs
 h60:T 60=!Ng
 h61:T 61=!PZ
 Up:T 62=!Gn
 Uo:T 63=!Gp
 J':T 64=!Qa
 Um:T 65=!GG
 Ul:T 66=!FX
section
variable{T:Nat->Option aP}
def a39(hT:TM T)(h1:1<=v/\v<=9->Q .aR g)(h2:¬(1<=v/\v<=9)->E #["BadAnvils"] g):a8 T (k+3) 42 [.int v] g Q E:=by
 show call_of hT.nN rfl ?_;delta A2;exists j7 hT.nf ?_;left;by_cases hv:1<=v/\v<=9
 .rw[au hv.1,au hv.2];left;show h1 hv
 .have:(decide (1<=v)&&decide (v<=9))=false:=by
   rw[cS,aK,aK];show cM.mp hv
  rw[this];left;show h2 hv
def bC8(hT:TM T)(hm:g[m]?=!(.ins "Mint" []))(h1:∀n:Nat,v=n->1<=n->n<=9->Q .aR (g.set m (KZ n 0 0)))(h2:¬(1<=v/\v<=9)->E #["BadAnvils"] g):a8 T (k+4) 51 [.ref m,.int v] g Q E:=by
 show call_of hT.Uy rfl ?_;delta FY;exists a39 hT (λhv=>?_) h2;exists bT5 #[_] hv.1 () (by simp;omega) ?_;exists D5 hm #[_] #[_] ?_;exists D5 (get_set hm) #[_] (by repeat (first|(simp;done)|show yA ?_)) ?_;rw[df];exists D5 (get_set hm) #[_] (by repeat (first|(simp;done)|show yA ?_)) ?_;rw[df];exists D5 (get_set hm) #[_] (by repeat (first|(simp;done)|show yA ?_)) ?_;rw[df];exists D5 (get_set hm) #[_] (by repeat (first|(simp;done)|show yA ?_)) ?_;rw[df];exists D5 (get_set hm) #[_] (by repeat (first|(simp;done)|show yA ?_)) ?_;rw[df];left;obtain⟨n,rfl⟩:∃n:Nat,v=n:=#[v.toNat,by omega]
 have:=h1 n rfl () ();let e:(List.replicate (Int.toNat (n:Int)) [D.aR]).flatten=List.replicate n .aR:=by
  rw[bL,lH]
 rw[e];show this
def Nq(hT:TM T)(h1:1<=v/\v<=-l->Q .aR g)(h2:¬(1<=v/\v<=-l)->E #["NoDie"] g):a8 T (k+3) 43 [.tup l,.int v] g Q E:=by
 show call_of hT.Uz rfl ?_;delta FQ;exists j7 hT.nf ?_;left;by_cases hv:1<=v/\v<=-l
 .rw[au hv.1,au hv.2];left;show h1 hv
 .have:(decide (1<=v)&&decide (v<=(-l:Int)))=false:=by
   rw[cS,aK,aK];show cM.mp hv
  rw[this];left;show h2 hv
end
def V8:aP:=#[3,3,(bN (bG (.bin .Add) (bG (.bin .Add) (bG (.mU false true) aE aL) (cJ .tup ba)) (bG (.mU true false) aE (bG (.bin .Add) aL (bu 1)))))]
def Ft:aP:=#[2,4,(du 2 (.cT "state" [("Mint",63)] aE (fb aL)) (de (cI .Eq ba (bO "fixed")) (dN (.raise "Fixed" (fb (bO "the die is on an anvil")))) (de (cI .Eq ba (bO "gone")) (dN (.raise "Gone" (fb (bO "the die was laid off")))) (de (cI .NotIn (.lit .aR) (cJ (.fld "bench") aE)) (dN (.raise "NoAnvil" (fb (bO "no anvil is free")))) (du 3 (.dZ .index (cJ (.fld "bench") aE) (fb (.lit .aR))) (iA (.fH "bench" ["Mint"] aE (gA 177 (cJ (.fld "bench") aE) bP aL)) (bN bP)))))))]
def GD:aP:=#[2,3,(de (cI .NotEq (.cT "state" [("Mint",63)] aE (fb aL)) (bO "fixed")) (dN (.raise "NotFixed" (fb (bO "the die is on no anvil")))) (du 2 (.dZ .index (cJ (.fld "bench") aE) (fb aL)) (iA (.fH "bench" ["Mint"] aE (gA 177 (cJ (.fld "bench") aE) ba (.lit .aR))) (iA (.ly "laid_off" ["Mint"] aE (cJ .tup aL)) (bN ba)))))]
def o6(x:D):Prop:=x=.aR\/∃i,x=.int i
def ic(y z:D):Bool:=lq (toV z) (toV y)
abbrev mn:D->PyData
 |.int i=>.int i
 |_=>.none
def Oo(h:o6 x):rd g n x=!mn x:=by
 rcases h with rfl|⟨i,rfl⟩<;>cases n<;>rfl
def Pd(h:o6 x):(mn x).canLay0=true:=by
 rcases h with rfl|⟨i,rfl⟩<;>simp[mn,PyData.canLay0]
def Ym(hx:o6 x)(hy:o6 y):PyData.eqv (mn x) (mn y)=ic y x:=by
 rcases hx with rfl|⟨i,rfl⟩<;>rcases hy with rfl|⟨j,rfl⟩<;>simp[mn,PyData.eqv,ic,lq,toV]
def Yn(h:∀x∈l,o6 x):Ck g l=!l.map mn:=by
 unfold Ck
 induction l with
 |nil=>rfl
 |cons x r ih =>
  rw[pU,Oo (h x #[_]),ih λz hz=>h z (by simp[hz])]
  rfl
def a72(h:∀x∈l,o6 x):PyData.canLayAll0 (l.map mn)=true:=by
 induction l with
 |nil=>rfl
 |cons x r ih =>
  rw[cA];simp only[PyData.canLayAll0,Pd (h x #[_]),ih λz hz=>h z (by simp[hz])]
  rfl
def B0(hi:F0 g x=!l)(hl:∀z∈l,o6 z)(hy:o6 y)(h:kb (l.any (ic y))):oz g y x kb:=by
 show#[_,.inr #[l,l.map mn,mn y,hi,Yn hl,Oo hy,a72 hl,Pd hy,rfl],?_];let e:((l.map mn).any λq=>PyData.eqv q (mn y))=l.any (ic y):=by
  rw[wc];clear h hi
  induction l with
  |nil=>rfl
  |cons z r ih =>
   rw[fo,fo,ih λw hw=>hl w (by simp[hw])];show(PyData.eqv (mn z) (mn y)||_)=_;rw[Ym (hl z #[_]) hy]
 rw[e];show h
def W6{z:D}(hy:o6 y)(hz:o6 z):ic y z=true↔z=y:=by
 rcases hy with rfl|⟨i,rfl⟩<;>rcases hz with rfl|⟨j,rfl⟩<;>simp[ic,lq,toV]
def Qk(h:o6 x):vE x=true:=by rcases h with rfl|⟨i,rfl⟩<;>rfl
def WZ(hl:∀z∈l,o6 z)(hy:o6 y)(h:l.any (ic y)=true):∃n,S0 l y n/\n< -l/\l[n]?=!y:=by
 let ni:l.all vE=true:=bK.mpr λx hx=>Qk (hl x hx)
 suffices ∃n,n< -l/\l[n]?=!y/\∀(m:Nat) z,m<n->l[m]?=!z->lq (toV z) (toV y)=false by
  let#[n,h1,h2,h3]:=this;show#[n,#[ni,Qk hy,#[y,h2,(W6 hy hy).mpr rfl],h3],h1,h2]
 clear ni
 induction l with
 |nil=>simp at h
 |cons x r ih =>
  cases e:ic y x with
  |true =>
   have:=(W6 hy (hl x #[_])).mp e;subst this;show#[0,by simp,rfl,λm z hm=>absurd hm ()]
  |false =>
   rw[fo,e,kI] at h;let#[n,h1,h2,h3]:=ih (λz hz=>hl z (by simp[hz])) h;show#[n+1,by simpa using h1,by simpa using h2,λm z hm hz=>?_];cases m with
   |zero=>cases hz;show e
   |succ m=>show h3 m z () (_/hz)
def b28{l:List α}:cut l (!(n:Int)) none=l.drop n:=by
 have:¬((n:Int)<0):=by omega
 unfold cut HT.eL;simp[this];by_cases h:n<=-l
 .rw[Nat.min_eq_left h,fI #[_]]
 .rw[Nat.min_eq_right (),fL (aw _),fL ()];simp
def b29{l:List α}:cut l none (!(n:Int))=l.take n:=by
 have:¬((n:Int)<0):=by omega
 unfold cut HT.eL;simp[this]
section
variable{T:Nat->Option aP}
def V0(oQ:T 177=!V8)(hn:n< -l)(hz:-l<=1000)(h:Q (.tup (l.set n x)) g):a8 T (k+1) 177 [.tup l,.int n,x] g Q E:=by
 show call_of oQ rfl ?_;delta V8;left;rw[b29];show HH (by simp;omega) ?_;left;rw[show((n:Int)+1)=((n+1:Nat):Int) by omega,b28];show HH (by simp;omega) ?_;let e:l.take n++[x]++l.drop (n+1)=l.set n x:=by
  rw[List.set_eq_take_append_cons_drop,az hn];simp
 rw[e];show h
def P2{go:@&Int}:∀z∈go.map D.int,o6 z:=λz hz=>by
 let#[i,_,rfl]:=aQ.mp hz;show .inr #[i,rfl]
end
def Bq:aP:=#[2,3,(de (.dt (.fg (.chain .LtE .LtE (bu 1) aL (cJ .len (cF aE (bO "lower")))))) (bN (bG .tup (bO "NoDie") (.lit .aR))) (de (cI .In aL (cF aE (bO "seats"))) (bN (bG .tup (bO "Fixed") (.lit .aR))) (de (cI .In aL (cF aE (bO "gone"))) (bN (bG .tup (bO "Gone") (.lit .aR))) (de (cI .NotIn (.lit .aR) (cF aE (bO "seats"))) (bN (bG .tup (bO "NoAnvil") (.lit .aR))) (du 2 (.dZ .index (cF aE (bO "seats")) (fb (.lit .aR))) (iA (.eT (cF aE (bO "seats")) ba aL) (bN (bG .tup (bO "") ba))))))))]
def Br:aP:=#[2,3,(de (.dt (.fg (.chain .LtE .LtE (bu 1) aL (cJ .len (cF aE (bO "lower")))))) (bN (bG .tup (bO "NoDie") (.lit .aR))) (de (cI .NotIn aL (cF aE (bO "seats"))) (bN (bG .tup (bO "NotFixed") (.lit .aR))) (du 2 (.dZ .index (cF aE (bO "seats")) (fb aL)) (iA (.eT (cF aE (bO "seats")) ba (.lit .aR)) (jY (.dZ .append (cF aE (bO "gone")) (fb aL)) (bN (bG .tup (bO "") ba)))))))]
def aO7{n':Nat}(h:S0 l y n)(h':S0 l y n'):n=n':=by
 let#[_,_,#[z,hz,ez],hn]:=h;let#[_,_,#[z',qe,Kj],uU]:=h';rcases dG n n' with c|c|c
 .rw[uU n z c hz] at ez;cases ez
 .exact c
 .rw[hn n' z' c qe] at Kj;cases Kj
def X4{l:@&D}(h:∀z∈l,o6 z)(hx:o6 x):∀z∈l.set n x,o6 z:=λz hz=>by
 rcases cO hz with hz|rfl
 .exact h z hz
 .exact hx
def vB(l:@&D):Prop:=∀(i j:Nat) (v:Int),l[i]?=!.int v->l[j]?=!.int v->i=j
def C8(h:∀z∈l,o6 z):l.any (ic (.int v))=true↔∃i:Nat,l[i]?=!.int v:=by
 rw[br];constructor
 .rintro⟨z,hz,e⟩;rw[(W6 (.inr #[v,rfl]) (h z hz))] at e;subst e;show BQ hz
 .rintro⟨i,hi⟩;show#[_,aC hi,(W6 (.inr #[v,rfl]) (.inr #[v,rfl])).mpr rfl]
def WY(h:∀z∈l,o6 z)(hd:vB l)(hn:l.any (ic (.int v))=false):vB (l.set n (.int v)):=by
 let no:∀i:Nat,l[i]?≠!.int v:=λi hi=>by
  rw[(C8 h).mpr #[i,hi]] at hn;cases hn
 intro i j w hi hj;by_cases ei:n=i<;>by_cases ej:n=j
 .omega
 .subst ei;rw[aB ej] at hj;rw[lG] at hi;split at hi
  .split at hi
   .cases hi;show absurd hj (no j)
   .cases hi
  .contradiction
 .subst ej;rw[aB ei] at hi;rw[lG] at hj;split at hj
  .split at hj
   .cases hj;show absurd hi (no i)
   .cases hj
  .contradiction
 .rw[aB ei] at hi;rw[aB ej] at hj;show hd i j w hi hj
def Q9(h:(l.set n x)[i]?=!y):(i=n/\y=x)\/l[i]?=!y:=by
 by_cases e:n=i
 .subst e;rw[lG] at h;split at h
  .split at h
   .cases h;show .inl #[rfl,rfl]
   .cases h
  .contradiction
 .rw[aB e] at h;show .inr h
def WX(hd:vB l):vB (l.set n .aR):=λi j v hi hj=>by
 rcases Q9 hi with⟨_,z⟩|hi
 .cases z
 .rcases Q9 hj with⟨_,z⟩|hj
  .cases z
  .exact hd i j v hi hj
def aT6{w:Int}(h:∀z∈l,o6 z)(e:(l.set n .aR).any (ic (.int w))=true):l.any (ic (.int w))=true:=by
 let#[i,hi]:=(C8 (X4 h (.inl rfl))).mp e;rcases Q9 hi with⟨_,z⟩|hi
 .cases z
 .exact(C8 h).mpr #[i,hi]
def aT7{w:Int}(h:∀z∈l,o6 z)(e:(l.set n (.int v)).any (ic (.int w))=true):w=v\/l.any (ic (.int w))=true:=by
 let#[i,hi]:=(C8 (X4 h (.inr #[v,rfl]))).mp e;rcases Q9 hi with⟨_,z⟩|hi
 .cases z;show .inl rfl
 .exact .inr ((C8 h).mpr #[i,hi])
def Xx(h:∀z∈l,o6 z)(hd:vB l)(hn:l[n]?=!.int v):(l.set n .aR).any (ic (.int v))=false:=by
 cases e:(l.set n .aR).any (ic (.int v)) with
 |false=>rfl
 |true =>
  let#[i,hi]:=(C8 (X4 h (.inl rfl))).mp e;rcases Q9 hi with⟨_,z⟩|jz
  .cases z
  .have:i=n:=hd i n v jz hn;subst this;rw[aU (ak.mp hn).1] at hi;cases hi
def HC(h:k<n):mD n (k:Int)=!k:=by
 unfold mD;rw[az (),az (),bL]
structure dM where
 bl:@&D
 go:@&Int
 lo:@&(@&Int)
 up:@&(@&Int)
 yr:Int
 co:@&D
noncomputable abbrev mk(l:@&Int):D:=.tup (l.map .int)
noncomputable abbrev gC(l:@&(@&Int)):@&D:=l.map mk
def i6(s:dM):O:=.ins "Mint" [("bench",.tup s.bl),("laid_off",.tup (s.go.map .int)),("lower_wear",.tup (gC s.lo)),("upper_wear",.tup (gC s.up)),("present",.int s.yr),("output",.tup s.co)]
abbrev dM.side(s:dM)(x:Str):@&(@&Int):=if x="lower" then s.lo else s.up
def dM.put(s:dM)(x:Str)(w:@&(@&Int)):dM:=if x="lower" then{ s with lo:=w } else{ s with up:=w }
def J5{s:dM}:s.side "lower"=s.lo:=by unfold dM.side;rw[az rfl]
def J0{s:dM}:s.side "upper"=s.up:=by unfold dM.side;rw[aA ∅]
noncomputable abbrev L5(x:Str):Prop:=x="lower"\/x="upper"
abbrev qG:@&Int:=[0,1,2,3,4,5,6,7]
abbrev markL(l:@&Int)(k:Int):@&Int:=qG.filter λi=>decide (i=k\/i∈l)
noncomputable abbrev Rs:=Str×D×dM
def B6(s:dM)(x:Str):Rs:=if L5 x then(if(s.side x).length<99 then("",.int ((s.side x).length+1),s.put x (s.side x++[[]])) else("Full",.aR,s)) else("BadSide",.aR,s)
noncomputable abbrev w6(s:dM)(v:Int):Bool:=s.bl.any (ic (.int v))
noncomputable abbrev Q8(s:dM)(v:Int):Bool:=(s.go.map D.int).any (ic (.int v))
noncomputable abbrev gJ(l:@&D)(y:D):Nat:=l.findIdx (ic y)
def u7(s:dM)(v:Int):Rs:=if 1<=v/\v<=-s.lo then(if w6 s v=true then("Fixed",.aR,s) else if Q8 s v=true then("Gone",.aR,s) else if s.bl.any (ic .aR)=true then("",.int (gJ s.bl .aR),{ s with bl:=s.bl.set (gJ s.bl .aR) (.int v) }) else("NoAnvil",.aR,s)) else("NoDie",.aR,s)
def A9(s:dM)(v:Int):Rs:=if 1<=v/\v<=-s.lo then(if w6 s v=true then("",.int (gJ s.bl (.int v)),{ s with bl:=s.bl.set (gJ s.bl (.int v)) .aR,go:=s.go++[v] }) else("NotFixed",.aR,s)) else("NoDie",.aR,s)
noncomputable abbrev dY(l:@&(@&Int))(v:Int):@&Int:=l.getD (v-1).toNat []
def i8(s:dM)(x:Str)(v k:Int):Rs:=if L5 x then(if 1<=v/\v<=(s.side x).length then(if x="lower"/\Q8 s v=true then("Gone",.aR,s) else if 0<=k/\k<=7 then(if k∈dY (s.side x) v then("Marked",.aR,s) else("",.aR,s.put x ((s.side x).set (v-1).toNat (markL (dY (s.side x) v) k)))) else("BadSpot",.aR,s)) else("NoDie",.aR,s)) else("BadSide",.aR,s)
def R7(s:dM)(a b:Int):D:=.tup [.int a,mk (dY s.lo a),.int b,mk (dY s.up b),.int s.yr]
def i7(s:dM)(a b:Int):Rs:=if(1<=a/\a<=-s.lo)/\(1<=b/\b<=-s.up) then(if w6 s a=true then(if (-s.co)<200 then("",.int (-s.co),{ s with co:=s.co++[R7 s a b] }) else("Full",.aR,s)) else("NotFixed",.aR,s)) else("NoDie",.aR,s)
def A5(s:dM)(n:Int):Rs:=if s.yr+1<=n/\n<=9999 then("",.aR,{ s with yr:=n }) else("BadYear",.aR,s)
def Mk(l:@&Int):Prop:=(∀k∈l,ST.Spot k)/\-l<=8
def b51(c:D):Prop:=∃a l b m y,c=.tup [.int a,mk l,.int b,mk m,.int y]/\-l<=8/\-m<=8
structure WS(s:dM):Prop where
 se:∀z∈s.bl,o6 z
 di:vB s.bl
 dj:∀v,w6 s v=true->Q8 s v=false
 bn:-s.bl<=9
 gn:s.go.Nodup
 gb:∀v∈s.go,1<=v/\v<=-s.lo
 ln:-s.lo<=99
 un:-s.up<=99
 lm:∀l∈s.lo,Mk l
 um:∀l∈s.up,Mk l
 y0:0<=s.yr
 cn:-s.co<=200
 cs:∀c∈s.co,b51 c
def Qi:qG.Pairwise (· < ·):=by unfold qG;decide
def Fx{k:Int}:k∈qG↔ST.Spot k:=by
 unfold qG ST.Spot;simp only[List.mem_cons,List.mem_nil_iff,or_false];omega
def Qc{l:@&Int}{k i:Int}(hl:∀j∈l,ST.Spot j)(hk:ST.Spot k):i∈markL l k↔i=k\/i∈l:=by
 unfold markL;rw[bg,bz,Fx];constructor
 .exact λh=>h.2
 .rintro(rfl|h)
  .exact#[hk,.inl rfl]
  .exact#[hl i h,.inr h]
def OR{l:@&Int}{k:Int}:Mk (markL l k):=by
 unfold markL;show#[λi hi=>Fx.mp (bg.mp hi).1,?_];show aG (bH _ _) ∅
def Yr{l:@&Int}{k:Int}(hl:∀j∈l,ST.Spot j)(hk:ST.Spot k):o8 (l++[k])=markL l k:=by
 let h1:(markL l k).Pairwise (· < ·):=Qi.sublist ff;show Z1 ?_ (MU _) (h1.imp λh=>Int.le_of_lt h);show(P6 _).trans ?_;show(dh (ST.U6 _ _ List.nodup_nil) (h1.imp λh=>Int.ne_of_lt h)).mpr λi=>?_;rw[ST.F6,Qc hl hk];simp[or_comm]
def LJ{s:dM}(W:WS s):-s.go<=99:=by
 let hp:s.go.Perm (((List.range 99).map λn:Nat=>(n:Int)+1).filter (·∈s.go)):=by
  show(dh W.gn ?_).mpr λv=>?_
  .exact Rf ff ∅
  .rw[bg];constructor
   .intro hv;show#[?_,by simpa using hv];have:=W.gb v hv;have:=W.ln;rw[aQ];show#[(v-1).toNat,aN.mpr (),by omega]
   .rintro⟨_,hv⟩;simpa using hv
 rw[hp.length_eq];show aG (bH _ _) #[_]
def K6(hl:∀z∈l,o6 z)(hy:o6 y)(h:l.any (ic y)=true):S0 l y (gJ l y)/\gJ l y< -l/\l[gJ l y]?=!y:=by
 let#[n,W,hn,e]:=WZ hl hy h;have:gJ l y=n:=by
  let dQ:gJ l y< -l:=lI (by simpa[List.any_eq_true] using h);let h1:ic y l[gJ l y]=true:=BR (w:=dQ);show aO7 #[W.1,W.2.1,#[_,ag dQ,h1],λm z hm hz=>?_] W;have:=jm hm;let#[uV,rfl]:=ak.mp hz;simpa[ic] using this
 rw[this];show#[W,hn,e]
set_option tactic.hygienic true in
def bU5{s:dM}{x:Str}(W:WS s):WS (B6 s x).2.2:=by
 unfold B6;split
 .rename_i hx;split
  .rename_i hl;rcases hx with rfl|rfl
   .rw[J5] at hl ⊢;unfold dM.put;rw[az rfl];show#[W.se,W.di,W.dj,W.bn,W.gn,λv hv=>?_,?_,W.un,λl h=>?_,W.um,W.y0,W.cn,W.cs]
    .have:=W.gb v hv;rw[aY];simp;omega
    .rw[aY];simp;omega
    .rcases bt.mp h with h|h
     .exact W.lm l h
     .simp at h;subst h;show#[λk hk=>by simp at hk,by simp]
   .rw[J0] at hl ⊢;unfold dM.put;rw[aA ∅];show#[W.se,W.di,W.dj,W.bn,W.gn,W.gb,W.ln,?_,W.lm,λl h=>?_,W.y0,W.cn,W.cs]
    .rw[aY];simp;omega
    .rcases bt.mp h with h|h
     .exact W.um l h
     .simp at h;subst h;show#[λk hk=>by simp at hk,by simp]
  .exact W
 .exact W
set_option tactic.hygienic true in
def bU4{s:dM}(W:WS s):WS (u7 s v).2.2:=by
 unfold u7
 repeat' split
 all_goals first|show W|skip
 rename_i hv e1 e2 e3;let Ew:w6 s v=false:=by simpa using e1
 let UU:Q8 s v=false:=by simpa using e2
 show#[X4 W.se (.inr #[v,rfl]),WY W.se W.di Ew,λw hw=>?_,by rw[ft];show W.bn,W.gn,W.gb,W.ln,W.un,W.lm,W.um,W.y0,W.cn,W.cs];rcases aT7 W.se hw with rfl|hw
 .exact UU
 .exact W.dj w hw
set_option tactic.hygienic true in
def bU3{s:dM}(W:WS s):WS (A9 s v).2.2:=by
 unfold A9
 repeat' split
 all_goals first|show W|skip
 rename_i hv e1;let#[F,hn,e]:=K6 W.se (.inr #[v,rfl]) e1;let hg:=W.dj v e1;let Td:v∉s.go:=λhv=>by
  have:Q8 s v=true:=br.mpr #[.int v,aQ.mpr #[v,hv,rfl],(W6 (.inr #[v,rfl]) (.inr #[v,rfl])).mpr rfl];rw[hg] at this;cases this
 show#[X4 W.se (.inl rfl),WX W.di,λw hw=>?_,by rw[ft];show W.bn,?_,?_,W.ln,W.un,W.lm,W.um,W.y0,W.cn,W.cs]
 .let hb:=W.dj w (aT6 W.se hw);show((s.go++[v]).map D.int).any (ic (.int w))=false;rw[bw,List.any_append];show(Q8 s w||_)=false;rw[hb,kI];cases e5:(List.map D.int [v]).any (ic (.int w)) with
  |false=>rfl
  |true =>
   rw[cA,List.map_nil,fo,List.any_nil,Bool.or_false] at e5;have:=(W6 (.inr #[w,rfl]) (.inr #[v,rfl])).mp e5;cases this;let h1:w6 { s with bl:=s.bl.set (gJ s.bl (.int v)) .aR,go:=s.go++[v] } v=false:=Xx W.se W.di e;rw[h1] at hw;cases hw
 .show(s.go++[v]).Nodup;rw[cL];show#[W.gn,by simp,λa ha b hb=>by simp at hb;subst hb;show λz=>Td (z▸ha)]
 .intro w hw;rcases bt.mp hw with hw|hw
  .exact W.gb w hw
  .simp at hw;subst hw;show hv
set_option tactic.hygienic true in
def bE9{s:dM}{x:Str}{k:Int}(W:WS s):WS (i8 s x v k).2.2:=by
 unfold i8
 repeat' split
 all_goals first|show W|skip
 rename_i hx hv e1 hk e2;rcases hx with rfl|rfl
 .unfold dM.put;rw[az rfl,J5];show#[W.se,W.di,W.dj,W.bn,W.gn,by simpa using W.gb,by simpa using W.ln,W.un,λl h=>?_,W.um,W.y0,W.cn,W.cs];rcases cO h with h|rfl
  .exact W.lm l h
  .exact OR
 .unfold dM.put;rw[aA ∅,J0];show#[W.se,W.di,W.dj,W.bn,W.gn,W.gb,W.ln,by simpa using W.un,W.lm,λl h=>?_,W.y0,W.cn,W.cs];rcases cO h with h|rfl
  .exact W.um l h
  .exact OR
def T6{l:@&(@&Int)}(hv:1<=v/\v<=-l):l[(v-1).toNat]?=!dY l v/\dY l v∈l:=by
 let h:(v-1).toNat< -l:=by omega
 let e:l[(v-1).toNat]?=!dY l v:=by
  rw[ag h,dY,bf,ag h]
  rfl
 show#[e,aC e]
set_option tactic.hygienic true in
def YE{s:dM}{a b:Int}(W:WS s):WS (i7 s a b).2.2:=by
 unfold i7
 repeat' split
 all_goals first|show W|skip
 rename_i hv e1 hl;show#[W.se,W.di,W.dj,W.bn,W.gn,W.gb,W.ln,W.un,W.lm,W.um,W.y0,by simp;omega,λc hc=>?_];rcases bt.mp hc with hc|hc
 .exact W.cs c hc
 .simp at hc;subst hc;show#[_,_,_,_,_,rfl,(W.lm _ (T6 hv.1).2).2,(W.um _ (T6 hv.2).2).2]
set_option tactic.hygienic true in
def bE8{s:dM}{n:Int}(W:WS s):WS (A5 s n).2.2:=by
 unfold A5;split
 .rename_i h;show#[W.se,W.di,W.dj,W.bn,W.gn,W.gb,W.ln,W.un,W.lm,W.um,by have:=W.y0;change 0<=n;omega,W.cn,W.cs]
 .exact W
def HQ:aP:=#[2,2,(bN (cJ .tuple (bG .wm aE aL)))]
def U8:aP:=#[4,5,(du 4 (.cT "marks" [("Mint",62)] aE (uB aL ba)) (de (.eI (cI .Eq aL (bO "lower")) (cI .In ba (cJ (.fld "laid_off") aE))) (dN (.raise "Gone" (fb (bO "the die was laid off")))) (de (.dt (.fg (gA 1 bP (bu 0) (bu 7)))) (dN (.raise "BadSpot" (fb (bO "a die has no such spot")))) (de (cI .In bP dX) (dN (.raise "Marked" (fb (bO "the die has that mark")))) (dN (.expr (.cT "put_wear" [("Mint",53)] aE (uB aL (gA 177 (.cT "wear_of" [("Mint",52)] aE (fb aL)) (bG (.bin .Sub) ba (bu 1)) (dP 16 dX (cJ .tup bP)))))))))))]
def GF:aP:=#[3,4,(du 3 (.prim .tup (Iv aL (.cT "marks" [("Mint",62)] aE (uB (bO "lower") aL)) ba (.cT "marks" [("Mint",62)] aE (uB (bO "upper") ba)) (cJ (.fld "present") aE))) (de (cI .NotIn aL (cJ (.fld "bench") aE)) (dN (.raise "NotFixed" (fb (bO "the lower die is on no anvil")))) (de (cI .Eq (cJ .len (cJ (.fld "output") aE)) (bu 200)) (dN (.raise "Full" (fb (bO "no more coins are struck")))) (iA (.ly "output" ["Mint"] aE (cJ .tup bP)) (bN (bG (.bin .Sub) (cJ .len (cJ (.fld "output") aE)) (bu 1)))))))]
def T3:aP:=#[2,2,(de (.dt (.fg (gA 1 aL (bG (.bin .Add) (cJ (.fld "present") aE) (bu 1)) (bu 9999)))) (dN (.raise "BadYear" (fb (bO "no such year can begin")))) (dN (.fH "present" ["Mint"] aE aL)))]
structure TQ(T:Nat->Option aP):Prop where
 tm:TM T
 UC:T 16=!HQ
 Uu:T 55=!Ft
 Ut:T 56=!GD
 Us:T 57=!U8
 Ur:T 58=!GF
 Uq:T 59=!T3
 oQ:T 177=!V8
section
variable{T:Nat->Option aP}{s:dM}{x:Str}
def bE3(hT:TQ T){l:@&Int}{i:Int}(hl:Mk l)(hi:ST.Spot i)(h:∀g',Ex g g'->Q (mk (markL l i)) g'):a8 T (k+1) 16 [mk l,.tup [.int i]] g Q E:=by
 show call_of hT.UC rfl ?_;delta HQ;exists ZF (ns:=l) (ms:=[i]) hl.1 (λk hk=>by simp at hk;subst hk;show hi) (by have:=hl.2;simp;omega) ?_;rw[Yr hl.1 hi];show Ls (a5 b9) ?_;left;show h _ (Ex.snoc _ _)
def FK(hT:TQ T)(hm:g[m]?=!i6 s)(ho:PyData.strOk x=true)(h1:L5 x->Q (.tup (gC (s.side x))) g)(h3:¬L5 x->E #["BadSide"] g):a8 T (k+2) 52 [.ref m,.str x] g Q E:=by
 show call_of hT.tm.Ux rfl ?_;delta Z9;exists Nx hT.tm.DS ho (λhx=>?_) (λz1 z2=>h3 (λz=>z.elim z1 z2));exists if2 (λc=>?_) (λc=>?_)
 .left;have:=h1 hx;rw[c,J5] at this;show w9 hm rfl this
 .left;have:=h1 hx;rw[hx.resolve_left c,J0] at this;show w9 hm rfl this
def Og(hT:TQ T)(hm:g[m]?=!i6 s){w:@&(@&Int)}(h:Q .aR (g.set m (i6 (s.put x w)))):a8 T (k+1) 53 [.ref m,.str x,.tup (gC w)] g Q E:=by
 show call_of hT.tm.Uw rfl ?_;delta Y0;exists if2 (λc=>?_) (λc=>?_)
 .exists D5 hm #[_] #[_] ?_;left;unfold dM.put at h;rw[az c] at h;show h
 .exists D5 hm #[_] #[_] ?_;left;unfold dM.put at h;rw[aA c] at h;show h
def bE0(hT:TQ T)(hm:g[m]?=!i6 s)(W:WS s)(ho:PyData.strOk x=true)(h1:(B6 s x).1=""->Q (B6 s x).2.1 (g.set m (i6 (B6 s x).2.2)))(h2:(B6 s x).1≠""->E #[(B6 s x).1] g):a8 T (k+3) 54 [.ref m,.str x] g Q E:=by
 show call_of hT.tm.Uv rfl ?_;delta Fs;exists r6 hm rfl rfl ?_;exists FK (k:=k) hT hm ho (λhx=>?_) (λhx=>?_)
 .let hl:(s.side x).length<=99:=by
   rcases hx with rfl|rfl
   .rw[J5];show W.ln
   .rw[J0];show W.un
  left;rw[ah];show if2 (λc=>?_) (λc=>?_)
  .let e:B6 s x=(("Full",.aR,s):Rs):=by unfold B6;rw[az hx,aA ()]
   rw[e] at h2;left;show h2 (by dsimp only;decide)
  .let e:B6 s x=(("",.int ((s.side x).length+1),s.put x (s.side x++[[]])):Rs):=by unfold B6;rw[az hx,az ()]
   rw[e] at h1;exists r6 hm rfl rfl ?_;exists HH (by simp;omega) ?_;let e2:gC (s.side x)++[D.tup []]=gC (s.side x++[[]]):=by rw[gC,gC,bw];rfl
   rw[e2];exists Og hT hm ?_;left;rw[ah];show h1 rfl
 .let e:B6 s x=(("BadSide",.aR,s):Rs):=by unfold B6;rw[aA hx]
  rw[e] at h2;show h2 (by dsimp only;decide)
def An{l:@&(@&Int)}(hv:1<=v/\v<=-l):jA (gC l) (v-1)=!mk (dY l v):=by
 let h:=(T6 hv).1;have:=C7 (xs:=gC l) (j:=(v-1).toNat) (v:=mk (dY l v)) (by rw[aj,h];rfl)
 rwa [show(((v-1).toNat:Nat):Int)=v-1 by omega] at this
def Ga(hT:TQ T)(hm:g[m]?=!i6 s)(ho:PyData.strOk x=true)(h1:L5 x->1<=v/\v<=(s.side x).length->Q (mk (dY (s.side x) v)) g)(h2:L5 x->¬(1<=v/\v<=(s.side x).length)->E #["NoDie"] g)(h3:¬L5 x->E #["BadSide"] g):a8 T (k+4) 62 [.ref m,.str x,.int v] g Q E:=by
 show call_of hT.tm.Up rfl ?_;delta Gn;exists r6 hm rfl rfl ?_;exists FK (k:=k+1) hT hm ho (λhx=>?_) h3;exists Nq hT.tm (λhv=>?_) (λhv=>?_)
 .rw[ah] at hv;exists E9 (An hv) ?_;left;show h1 hx hv
 .rw[ah] at hv;show h2 hx hv
def Ql(hT:TQ T)(hm:g[m]?=!i6 s)(W:WS s)(h0:¬(1<=v/\v<=-s.lo)->E #["NoDie"] g)(h1:1<=v/\v<=-s.lo->w6 s v=true->Q (.str "fixed") g)(h2:1<=v/\v<=-s.lo->w6 s v=false->Q8 s v=true->Q (.str "gone") g)(h3:1<=v/\v<=-s.lo->w6 s v=false->Q8 s v=false->Q (.str "new") g) :
  a8 T (k+4) 63 [.ref m,.int v] g Q E:=by
 show call_of hT.tm.Uo rfl ?_;delta Gp;exists w9 hm rfl ?_;exists Nq hT.tm (λhv=>?_) (λz=>h0 (λy=>z #[y.1,by rw[ah];show y.2]));rw[ah] at hv;exists w9 hm rfl ?_;exists Y5 (B0 (l:=s.bl) rfl W.se (.inr #[v,rfl]) ?_);left;cases e1:w6 s v with
 |true =>
  show eU e1 ?_;left;show h1 hv e1
 |false =>
  show cZ e1 ?_;exists w9 hm rfl ?_;exists Y5 (B0 (l:=s.go.map D.int) rfl P2 (.inr #[v,rfl]) ?_);left;cases e2:Q8 s v with
  |true =>
   show eU e2 ?_;left;show h2 hv e1 e2
  |false =>
   show cZ e2 ?_;left;show h3 hv e1 e2
def kL{b:Bool}(h:b=false):¬b=true:=by rw[h];decide
def bD3(hT:TQ T)(hm:g[m]?=!i6 s)(W:WS s)(h1:(u7 s v).1=""->Q (u7 s v).2.1 (g.set m (i6 (u7 s v).2.2)))(h2:(u7 s v).1≠""->E #[(u7 s v).1] g):a8 T (k+5) 55 [.ref m,.int v] g Q E:=by
 show call_of hT.Uu rfl ?_;delta Ft;exists r6 hm rfl rfl ?_;exists Ql (k:=k) hT hm W (λhv=>?_) (λhv e1=>?_) (λhv e1 e2=>?_) (λhv e1 e2=>?_)
 .let e:u7 s v=(("NoDie",.aR,s):Rs):=by unfold u7;rw[aA hv]
  rw[e] at h2;show h2 (by dsimp only;decide)
 .let e:u7 s v=(("Fixed",.aR,s):Rs):=by unfold u7;rw[az hv,az e1]
  rw[e] at h2;exists eU #[] ?_;left;show h2 (by dsimp only;decide)
 .let e:u7 s v=(("Gone",.aR,s):Rs):=by unfold u7;rw[az hv,aA (kL e1),az e2]
  rw[e] at h2;exists cZ #[] ?_;exists eU #[] ?_;left;show h2 (by dsimp only;decide)
 .exists cZ #[] ?_;exists cZ #[] ?_;exists w9 hm rfl ?_;exists N8 (B0 (l:=s.bl) rfl W.se (.inl rfl) ?_);left;cases e3:s.bl.any (ic .aR) with
  |false =>
   let e:u7 s v=(("NoAnvil",.aR,s):Rs):=by unfold u7;rw[az hv,aA (kL e1),aA (kL e2),aA (kL e3)]
   rw[e] at h2;show eU rfl ?_;left;show h2 (by dsimp only;decide)
  |true =>
   let e:u7 s v=(("",.int (gJ s.bl .aR),{ s with bl:=s.bl.set (gJ s.bl .aR) (.int v) }):Rs):=by unfold u7;rw[az hv,aA (kL e1),aA (kL e2),az e3]
   rw[e] at h1;show cZ rfl ?_;let#[F,hn,_]:=K6 W.se (.inl rfl) e3;let bn:=W.bn;exists w9 hm rfl ?_;show#[LV,?_];exists KY F () ?_;exists w9 hm rfl ?_;exists V0 (k:=k+3) hT.oQ hn () ?_;exists D5 hm #[_] #[_] ?_;left;show h1 rfl
def bB2(hT:TQ T)(hm:g[m]?=!i6 s)(W:WS s)(h1:(A9 s v).1=""->Q (A9 s v).2.1 (g.set m (i6 (A9 s v).2.2)))(h2:(A9 s v).1≠""->E #[(A9 s v).1] g):a8 T (k+5) 56 [.ref m,.int v] g Q E:=by
 show call_of hT.Ut rfl ?_;delta GD;exists r6 hm rfl rfl ?_;left;let no:1<=v/\v<=-s.lo->w6 s v=false->E #["NotFixed"] g:=λhv e1=>by
  let e:A9 s v=(("NotFixed",.aR,s):Rs):=by unfold A9;rw[az hv,aA (kL e1)]
  rw[e] at h2;show h2 (by dsimp only;decide)
 show Ql (k:=k) hT hm W (λhv=>?_) (λhv e1=>?_) (λhv e1 e2=>?_) (λhv e1 e2=>?_)
 .let e:A9 s v=(("NoDie",.aR,s):Rs):=by unfold A9;rw[aA hv]
  rw[e] at h2;show h2 (by dsimp only;decide)
 .let e:A9 s v=(("",.int (gJ s.bl (.int v)),{ s with bl:=s.bl.set (gJ s.bl (.int v)) .aR,go:=s.go++[v] }):Rs):=by unfold A9;rw[az hv,az e1]
  rw[e] at h1;let#[F,hn,_]:=K6 W.se (.inr #[v,rfl]) e1;let bn:=W.bn;let gl:=LJ W;exists cZ #[] ?_;exists w9 hm rfl ?_;show#[LV,?_];exists KY F () ?_;exists w9 hm rfl ?_;exists V0 (k:=k+3) hT.oQ hn () ?_;exists D5 hm #[_] #[_] ?_;let e2:(O.ins "Mint" (f9 "bench" (.tup (s.bl.set (gJ s.bl (.int v)) .aR)) [("bench",.tup s.bl),("laid_off",.tup (s.go.map .int)),("lower_wear",.tup (gC s.lo)),("upper_wear",.tup (gC s.up)),("present",.int s.yr),("output",.tup s.co)]))=i6 { s with bl:=s.bl.set (gJ s.bl (.int v)) .aR }:=rfl;rw[e2];let mH:(g.set m (i6 { s with bl:=s.bl.set (gJ s.bl (.int v)) .aR }))[m]?=!(i6 { s with bl:=s.bl.set (gJ s.bl (.int v)) .aR }):=get_set hm;exists QC ?_;exists#[m,_,_,_,rfl,mH,by simp,rfl,?_];exists LL (by simp;omega) ?_;show#[_,mH,by simp,?_];rw[df];let e3:(O.ins "Mint" (f9 "laid_off" (.tup (s.go.map .int++[.int v])) [("bench",.tup (s.bl.set (gJ s.bl (.int v)) .aR)),("laid_off",.tup (s.go.map .int)),("lower_wear",.tup (gC s.lo)),("upper_wear",.tup (gC s.up)),("present",.int s.yr),("output",.tup s.co)]))=i6 { s with bl:=s.bl.set (gJ s.bl (.int v)) .aR,go:=s.go++[v] }:=by
   unfold i6;rw[bw]
   rfl
  rw[e3];left;show h1 rfl
 .exists eU #[] ?_;left;show no hv e1
 .exists eU #[] ?_;left;show no hv e1
def Ot(W:WS s)(hx:L5 x)(hv:1<=v/\v<=(s.side x).length):Mk (dY (s.side x) v):=by
 let h:=(T6 hv).2;rcases hx with rfl|rfl
 .rw[J5] at h ⊢;show W.lm _ h
 .rw[J0] at h ⊢;show W.um _ h
def Fz(W:WS s):(s.side x).length<=99:=by
 unfold dM.side;split
 .exact W.ln
 .exact W.un
def AG{l:@&Int}(hi:F0 g y=!l.map .int)(h:kb (decide (v∈l))):oz g (.int v) y kb:=by
 show B0 hi P2 (.inr #[v,rfl]) ?_;let e:(l.map D.int).any (ic (.int v))=decide (v∈l):=by
  rw[bq,C8 P2,bz];constructor
  .rintro⟨i,hi⟩;rw[aj,ae] at hi;let#[a,h1,h2]:=hi;cases h2;show aC h1
  .intro hm;let#[i,hi]:=BQ hm;show#[i,by rw[aj,hi];rfl]
 rw[e];show h
def Xo(hT:TQ T)(hm:g[m]?=!i6 s)(W:WS s)(ho:PyData.strOk x=true)(h1:(i8 s x v j).1=""->∀g',Ex g g'->Q .aR (g'.set m (i6 (i8 s x v j).2.2)))(h2:(i8 s x v j).1≠""->E #[(i8 s x v j).1] g):a8 T (k+5) 57 [.ref m,.str x,.int v,.int j] g Q E:=by
 show call_of hT.Us rfl ?_;delta U8;exists r6 hm rfl rfl ?_;exists Ga (k:=k) hT hm ho (λhx hv=>?_) (λhx hv=>?_) (λhx=>?_)
 .let Je:=Ot W hx hv;let sl:=Fz (x:=x) W;let fin:∀(N:Ends),¬(x="lower"/\Q8 s v=true)->(∀(g':G) U,(∀g1:G,Ex g g1->g'=g1.set m (i6 (i8 s x v j).2.2)->(i8 s x v j).1=""->N.nx U g'))->wpS (a8 T (k+4)) (match U8.body with|.seq _ (.seq _ b)=>b|x=>x) N [!.ref m,!.str x,!.int v,!.int j,!(mk (dY (s.side x) v))] g E:=by
   intro N sY hN;dsimp[U8];exists j7 hT.tm.nf ?_;left;by_cases hj:0<=j/\j<=7
   .rw[au hj.1,au hj.2];show cZ rfl ?_;exists Y5 (AG (l:=dY (s.side x) v) rfl ?_);left;by_cases hq:j∈dY (s.side x) v
    .let e:i8 s x v j=(("Marked",.aR,s):Rs):=by unfold i8;rw[az hx,az hv,aA sY,az hj,az hq]
     rw[e] at h2;rw[au hq];show mE ?_;left;show h2 (by dsimp only;decide)
    .let e:i8 s x v j=(("",.aR,s.put x ((s.side x).set (v-1).toNat (markL (dY (s.side x) v) j))):Rs):=by unfold i8;rw[az hx,az hv,aA sY,az hj,aA hq]
     rw[e] at hN;rw[aD hq];show V3 ?_;exists r6 hm rfl rfl ?_;exists r6 hm rfl rfl ?_;exists FK (k:=k+2) hT hm ho (λy=>?_) (λz=>absurd hx z);exists bE3 (k:=k+3) hT Je #[hj.1,by omega] λg1 e1=>?_;left;let Sy:v-1=(((v-1).toNat:Nat):Int):=by omega
     rw[Sy];show V0 (k:=k+3) hT.oQ (by rw[ah];omega) (by rw[ah];omega) ?_;let es:(gC (s.side x)).set (v-1).toNat (mk (markL (dY (s.side x) v) j))=gC ((s.side x).set (v-1).toNat (markL (dY (s.side x) v) j)):=by rw[gC,gC,List.map_set]
     rw[es];exists Og (k:=k+3) hT (e1.at hm) ?_;left;show hN _ _ g1 e1 rfl rfl
   .let e:i8 s x v j=(("BadSpot",.aR,s):Rs):=by unfold i8;rw[az hx,az hv,aA sY,aA hj]
    rw[e] at h2;have:(decide (0<=j)&&decide (j<=7))=false:=by
     rw[cS,aK,aK];show cM.mp hj
    rw[this];show eU rfl ?_;left;show h2 (by dsimp only;decide)
  exists if2 (λrm=>?_) (λrm=>?_)
  .exists w9 hm rfl ?_;exists Y5 (B0 (l:=s.go.map D.int) rfl P2 (.inr #[v,rfl]) ?_);left;cases e2:Q8 s v with
   |true =>
    let e:i8 s x v j=(("Gone",.aR,s):Rs):=by unfold i8;rw[az hx,az hv,az #[rm,e2]]
    rw[e] at h2;show eU e2 ?_;left;show h2 (by dsimp only;decide)
   |false =>
    show cZ e2 ?_;show E6 ?_;show fin _ (λz=>kL e2 z.2) (λg' U g1 e1 eg er=>by subst eg;show h1 er g1 e1)
  .try show V3 ?_
   try with_reducible show E6 ?_
   show fin _ (λz=>rm z.1) (λg' U g1 e1 eg er=>by subst eg;show h1 er g1 e1)
 .let e:i8 s x v j=(("NoDie",.aR,s):Rs):=by unfold i8;rw[az hx,aA hv]
  rw[e] at h2;show h2 (by dsimp only;decide)
 .let e:i8 s x v j=(("BadSide",.aR,s):Rs):=by unfold i8;rw[aA hx]
  rw[e] at h2;show h2 (by dsimp only;decide)
def aZ2(hT:TQ T)(hm:g[m]?=!i6 s)(W:WS s){a b:Int}(h1:(i7 s a b).1=""->Q (i7 s a b).2.1 (g.set m (i6 (i7 s a b).2.2)))(h2:(i7 s a b).1≠""->E #[(i7 s a b).1] g):a8 T (k+5) 58 [.ref m,.int a,.int b] g Q E:=by
 show call_of hT.Ur rfl ?_;delta GF;let no:¬((1<=a/\a<=-s.lo)/\(1<=b/\b<=-s.up))->E #["NoDie"] g:=λhv=>by
  let e:i7 s a b=(("NoDie",.aR,s):Rs):=by unfold i7;rw[aA hv]
  rw[e] at h2;show h2 (by dsimp only;decide)
 exists r6 hm rfl rfl ?_;exists Ga (k:=k) hT hm #[] (λx ha=>?_) (λx ha=>no (λz=>ha (by rw[J5];show z.1))) (λz=>absurd (.inl rfl) z);rw[J5] at ha ⊢;exists r6 hm rfl rfl ?_;exists Ga (k:=k) hT hm #[] (λx hb=>?_) (λx hb=>no (λz=>hb (by rw[J0];show z.2))) (λz=>absurd (.inr rfl) z);rw[J0] at hb ⊢;exists w9 hm rfl ?_;exists w9 hm rfl ?_;exists N8 (B0 (l:=s.bl) rfl W.se (.inr #[a,rfl]) ?_);left;cases e1:w6 s a with
 |false =>
  let e:i7 s a b=(("NotFixed",.aR,s):Rs):=by unfold i7;rw[az #[ha,hb],aA (kL e1)]
  rw[e] at h2;show eU (show(~~~w6 s a)=true by rw[e1];rfl) ?_;left;show h2 (by dsimp only;decide)
 |true =>
  show cZ (show(~~~w6 s a)=false by rw[e1];rfl) ?_;let cn:=W.cn;exists w9 hm rfl ?_;exists if2 (λhl=>?_) (λhl=>?_)
  .let e:i7 s a b=(("Full",.aR,s):Rs):=by unfold i7;rw[az #[ha,hb],az e1,aA ()]
   rw[e] at h2;left;show h2 (by dsimp only;decide)
  .let e:i7 s a b=(("",.int (-s.co),{ s with co:=s.co++[R7 s a b] }):Rs):=by unfold i7;rw[az #[ha,hb],az e1,az ()]
   rw[e] at h1;exists QC ?_;exists#[m,_,_,_,rfl,hm,by simp,rfl,?_];exists LL (by simp;omega) ?_;show#[_,hm,by simp,?_];let e3:(O.ins "Mint" (f9 "output" (.tup (s.co++[.tup [.int a,mk (dY s.lo a),.int b,mk (dY s.up b),.int s.yr]])) [("bench",.tup s.bl),("laid_off",.tup (s.go.map .int)),("lower_wear",.tup (gC s.lo)),("upper_wear",.tup (gC s.up)),("present",.int s.yr),("output",.tup s.co)]))=i6 { s with co:=s.co++[R7 s a b] }:=rfl;rw[e3];let mH:(g.set m (i6 { s with co:=s.co++[R7 s a b] }))[m]?=!(i6 { s with co:=s.co++[R7 s a b] }):=get_set hm;exists w9 mH rfl ?_;left;have:=h1 rfl;rw[show((s.co++[R7 s a b]).length:Int)-1=-s.co by rw[aY];simp];show this
def YD(hT:TQ T)(hm:g[m]?=!i6 s){n:Int}(h1:(A5 s n).1=""->Q .aR (g.set m (i6 (A5 s n).2.2)))(h2:(A5 s n).1≠""->E #[(A5 s n).1] g):a8 T (k+3) 59 [.ref m,.int n] g Q E:=by
 show call_of hT.Uq rfl ?_;delta T3;exists w9 hm rfl ?_;exists j7 hT.tm.nf ?_;left;by_cases hv:s.yr+1<=n/\n<=9999
 .let e:A5 s n=(("",.aR,{ s with yr:=n }):Rs):=by unfold A5;rw[az hv]
  rw[e] at h1;rw[au hv.1,au hv.2];show cZ rfl ?_;exists D5 hm #[_] #[_] ?_;left;show h1 rfl
 .let e:A5 s n=(("BadYear",.aR,s):Rs):=by unfold A5;rw[aA hv]
  rw[e] at h2;have:(decide (s.yr+1<=n)&&decide (n<=9999))=false:=by
   rw[cS,aK,aK];show cM.mp hv
  rw[this];show eU rfl ?_;left;show h2 (by dsimp only;decide)
def aZ1(hT:TQ T)(hm:g[m]?=!i6 s)(h:Q (.int (-s.co)) g):a8 T (k+1) 65 [.ref m] g Q E:=by
 show call_of hT.tm.Um rfl ?_;delta GG;exists w9 hm rfl ?_;left;show h
def WQ(hT:TQ T)(hm:g[m]?=!i6 s){i:Int}(h1:∀c,0<=i->i< -s.co->s.co[i.toNat]?=!c->Q c g)(h2:¬(0<=i/\i< -s.co)->E #["NoCoin"] g):a8 T (k+3) 66 [.ref m,.int i] g Q E:=by
 show call_of hT.tm.Ul rfl ?_;delta FX;exists w9 hm rfl ?_;exists j7 hT.tm.nf ?_;left;by_cases hv:0<=i/\i< -s.co
 .rw[au hv.1,au (show i<=(-s.co:Int)-1 by omega)];show cZ rfl ?_;exists w9 hm rfl ?_;left;let hi:i.toNat< -s.co:=by omega
  let e:=ag hi;let e2:=C7 (xs:=s.co) (j:=i.toNat) e;rw[show((i.toNat:Nat):Int)=i by omega] at e2;show E9 e2 ?_;left;show h1 _ hv.1 hv.2 e
 .have:(decide (0<=i)&&decide (i<=(-s.co:Int)-1))=false:=by
   rw[cS,aK,aK];rcases cM.mp hv with z|z
   .exact .inl z
   .exact .inr ()
  rw[this];show eU rfl ?_;left;show h2 hv
end
def vO:aP:=#[4,5,(de (cI .NotIn aL (bG .lst (bO "lower") (bO "upper"))) (bN (bG .tup (bO "BadSide") (.lit .aR))) (de (.dt (.fg (.chain .LtE .LtE (bu 1) ba (cJ .len (cF aE aL))))) (bN (bG .tup (bO "NoDie") (.lit .aR))) (de (.eI (cI .Eq aL (bO "lower")) (cI .In ba (cF aE (bO "gone")))) (bN (bG .tup (bO "Gone") (.lit .aR))) (de (.dt (.fg (.chain .LtE .LtE (bu 0) bP (bu 7)))) (bN (bG .tup (bO "BadSpot") (.lit .aR))) (du 4 (cF (cF aE aL) (bG (.bin .Sub) ba (bu 1))) (de (cI .In bP dX) (bN (bG .tup (bO "Marked") (.lit .aR))) (iA (.eT (cF aE aL) (bG (.bin .Sub) ba (bu 1)) (cJ .tuple (.comp [4,3] 4 (.one 3) (.gE (bu 8)) (.jI (cI .Eq bP aL) (cI .In bP aE)) bP))) (bN (bG .tup (bO "") (.lit .aR))))))))))]
def AY:aP:=#[3,3,(de (.jI (.dt (.fg (.chain .LtE .LtE (bu 1) aL (cJ .len (cF aE (bO "lower")))))) (.dt (.fg (.chain .LtE .LtE (bu 1) ba (cJ .len (cF aE (bO "upper"))))))) (bN (bG .tup (bO "NoDie") (.lit .aR))) (de (cI .NotIn aL (cF aE (bO "seats"))) (bN (bG .tup (bO "NotFixed") (.lit .aR))) (de (cI .Gt (cJ .len (cF aE (bO "coins"))) (bu 199)) (bN (bG .tup (bO "Full") (.lit .aR))) (jY (.dZ .append (cF aE (bO "coins")) (fb (.prim .tup (Iv aL (cF (cF aE (bO "lower")) (bG (.bin .Sub) aL (bu 1))) ba (cF (cF aE (bO "upper")) (bG (.bin .Sub) ba (bu 1))) (cF aE (bO "year")))))) (bN (bG .tup (bO "") (bG (.bin .Sub) (cJ .len (cF aE (bO "coins"))) (bu 1))))))))]
abbrev mB(q:Nat)(y:Int):@&(Key×D):=[(.inr "seats",.ref (q+2)),(.inr "lower",.ref (q+3)),(.inr "upper",.ref (q+4)),(.inr "gone",.ref (q+5)),(.inr "year",.int y),(.inr "coins",.ref (q+6))]
structure MD(g:G)(q:Nat)(t:dM):Prop where
 cV:g[q]?=!.cV (mB q t.yr)
 eG:g[q+2]?=!.lst t.bl
 lower:g[q+3]?=!.lst (gC t.lo)
 upper:g[q+4]?=!.lst (gC t.up)
 gone:g[q+5]?=!.lst (t.go.map .int)
 fO:g[q+6]?=!.lst t.co
structure Kq(q:Nat)(g g':G):Prop where
 len:-g<=-g'
 old:∀i,(i<q\/q+7<=i)->i< -g->g'[i]?=g[i]?
def Kq.at(h:Kq q g g')(hi:i<q\/q+7<=i)(e:g[i]?=!o):g'[i]?=!o:=(h.old i hi (u6 e)).trans e
def Kq.refl{q:Nat}{g:G}:Kq q g g:=#[aw _,λx x x=>rfl]
def Kq.trans{q:Nat}{g g1 g2:G}(a:Kq q g g1)(b:Kq q g1 g2):Kq q g g2:=#[aG a.len b.len,λi h hi=>(b.old i h (aI hi a.len)).trans (a.old i h hi)]
def Kq.ex(h:Ex g g'):Kq q g g':=#[h.len,λi x hi=>h.old i hi]
def Kq.set{q i:Nat}{g:G}{o:O}(h:q<=i/\i<q+7):Kq q g (g.set i o):=#[by simp,λj hj x=>by rw[aB ()]]
def Kq.draw{d:Nat}(h:Kq q g g')(hd:d<q)(D0:j5 g d):j5 g' d:=by
 let#[s,p,b,r,xs,h1,h2,h3,h4]:=D0.ex;show#[s,p,b,r,xs,h.at () h1,h.at () h2,h3,h4]
def MD.ex(h:MD g q t)(x:Ex g g'):MD g' q t:=#[x.at h.cV,x.at h.eG,x.at h.lower,x.at h.upper,x.at h.gone,x.at h.fO]
def MD.gr{d:Nat}(h:MD g q t)(x:Gr d g g')(hd:d<q):MD g' q t:=#[x.at () h.cV,x.at () h.eG,x.at () h.lower,x.at () h.upper,x.at () h.gone,x.at () h.fO]
def MD.Mt(h:MD g q t)(w:@&D):MD (g.set (q+2) (.lst w)) q { t with bl:=w }:=#[b7 h.cV (),get_set h.eG,b7 h.lower (),b7 h.upper (),b7 h.gone (),b7 h.fO ()]
def MD.b78(h:MD g q t)(w:@&(@&Int)):MD (g.set (q+3) (.lst (gC w))) q { t with lo:=w }:=#[b7 h.cV (),b7 h.eG (),get_set h.lower,b7 h.upper (),b7 h.gone (),b7 h.fO ()]
def MD.b76(h:MD g q t)(w:@&(@&Int)):MD (g.set (q+4) (.lst (gC w))) q { t with up:=w }:=#[b7 h.cV (),b7 h.eG (),b7 h.lower (),get_set h.upper,b7 h.gone (),b7 h.fO ()]
def MD.setG(h:MD g q t)(w:@&Int):MD (g.set (q+5) (.lst (w.map .int))) q { t with go:=w }:=#[b7 h.cV (),b7 h.eG (),b7 h.lower (),b7 h.upper (),get_set h.gone,b7 h.fO ()]
def MD.setC(h:MD g q t)(w:@&D):MD (g.set (q+6) (.lst w)) q { t with co:=w }:=#[b7 h.cV (),b7 h.eG (),b7 h.lower (),b7 h.upper (),b7 h.gone (),get_set h.fO]
def MD.b75(h:MD g q t)(n:Int):MD (g.set q (.cV (mB q n))) q { t with yr:=n }:=#[get_set h.cV,b7 h.eG (),b7 h.lower (),b7 h.upper (),b7 h.gone (),b7 h.fO ()]
def qb{y:Int}:C0 (mB q y) (.inr "seats")=!.ref (q+2):=rfl
def uM{y:Int}:C0 (mB q y) (.inr "lower")=!.ref (q+3):=rfl
def zG{y:Int}:C0 (mB q y) (.inr "upper")=!.ref (q+4):=rfl
def Cw{y:Int}:C0 (mB q y) (.inr "gone")=!.ref (q+5):=rfl
def Cv{y:Int}:C0 (mB q y) (.inr "year")=!.int y:=rfl
def Cy{y:Int}:C0 (mB q y) (.inr "coins")=!.ref (q+6):=rfl
def MD.side{g:G}{q:Nat}{t:dM}{x:Str}(h:MD g q t)(hx:L5 x):∃r,(r=q+3\/r=q+4)/\C0 (mB q t.yr) (.inr x)=!.ref r/\g[r]?=!(.lst (gC (t.side x)))/\∀w,MD (g.set r (.lst (gC w))) q (t.put x w):=by
 rcases hx with rfl|rfl
 .refine#[q+3,.inl rfl,uM,by rw[J5];show h.lower,λw=>?_];unfold dM.put;rw[az rfl];show h.b78 w
 .refine#[q+4,.inr rfl,zG,by rw[J0];show h.upper,λw=>?_];unfold dM.put;rw[aA ∅];show h.b76 w
section
variable{T:Nat->Option aP}{s:dM}{x:Str}
noncomputable abbrev vU(q:Nat)(g:G)(r:Rs)(Q:KD):Prop:=∀g',Kq q g g'->MD g' q r.2.2->Q (.tup [.str r.1,r.2.1]) g'
def Xp(DP:T 46=!Bp)(M0:MD g q s)(W:WS s)(ho:PyData.strOk x=true)(h:vU q g (B6 s x) Q):a8 T (k+1) 46 [.ref q,.str x] g Q E:=by
 show call_of DP rfl ?_;delta Bp;left;let e1:Ex g (g++[O.lst [.str "lower",.str "upper"]]):=Ex.snoc _ _;show N8 (PN b9 ho ?_);let M1:=M0.ex e1;let k1:=Kq.ex (q:=q) e1;let sl:=Fz (x:=x) W;generalize g++[O.lst [.str "lower",.str "upper"]]=g1 at *;left;by_cases hx:L5 x
 .refine cZ (by rw[kR,dD,bz,bz];show hx) ?_;let#[r,hr,nL,sR,xf]:=M1.side hx;exists o3 M1.cV rfl nL ?_;show A8 (a5 sR) ?_;left;rw[ah];show if2 (λc=>?_) (λc=>?_)
  .let e:B6 s x=(("Full",.aR,s):Rs):=by unfold B6;rw[az hx,aA ()]
   rw[e] at h;left;show h _ k1 M1
  .let e:B6 s x=(("",.int ((s.side x).length+1),s.put x (s.side x++[[]])):Rs):=by unfold B6;rw[az hx,az ()]
   rw[e] at h;exists o3 M1.cV rfl nL ?_;show#[Au sR,?_];exists uo sR (by simp;omega) ?_;let e2:gC (s.side x)++[D.tup []]=gC (s.side x++[[]]):=by rw[gC,gC,bw];rfl
   rw[e2];let M2:=xf (s.side x++[[]]);let xh:(g1.set r (.lst (gC (s.side x++[[]]))))[r]?=!(.lst (gC (s.side x++[[]]))):=get_set sR;let hd2:(g1.set r (.lst (gC (s.side x++[[]]))))[q]?=!.cV (mB q s.yr):=b7 M1.cV ();exists o3 hd2 rfl nL ?_;show A8 (a5 xh) ?_;left;rw[ah,aY];have:=h _ (k1.trans (Kq.set (i:=r) ())) M2;show this
 .refine eU (by rw[eM,jX,aK,aK];show not_or.mp hx) ?_;let e:B6 s x=(("BadSide",.aR,s):Rs):=by unfold B6;rw[aA hx]
  rw[e] at h;left;show h _ k1 M1
def Xq(hi:T 178=!Bq)(M0:MD g q s)(W:WS s)(h:vU q g (u7 s v) Q):a8 T (k+1) 178 [.ref q,.int v] g Q E:=by
 show call_of hi rfl ?_;delta Bq;left;let no:¬(1<=v/\v<=-s.lo)->Q (.tup [.str "NoDie",.aR]) g:=λhv=>by
  let e:u7 s v=(("NoDie",.aR,s):Rs):=by unfold u7;rw[aA hv]
  rw[e] at h;show h _ Kq.refl M0
 by_cases kK:1<=v
 .rw[au kK];exists o3 M0.cV rfl uM ?_;show A8 (a5 M0.lower) ?_;left;rw[ah];by_cases kJ:v<=(-s.lo:Int)
  .rw[au kJ];exists o3 M0.cV rfl qb ?_;show Y5 (B0 (l:=s.bl) (a5 M0.eG) W.se (.inr #[v,rfl]) ?_);left;cases e1:w6 s v with
   |true =>
    let e:u7 s v=(("Fixed",.aR,s):Rs):=by unfold u7;rw[az #[kK,kJ],az e1]
    rw[e] at h;show eU e1 ?_;left;show h _ Kq.refl M0
   |false =>
    show cZ e1 ?_;exists o3 M0.cV rfl Cw ?_;show Y5 (B0 (l:=s.go.map D.int) (a5 M0.gone) P2 (.inr #[v,rfl]) ?_);left;cases e2:Q8 s v with
    |true =>
     let e:u7 s v=(("Gone",.aR,s):Rs):=by unfold u7;rw[az #[kK,kJ],aA (kL e1),az e2]
     rw[e] at h;show eU e2 ?_;left;show h _ Kq.refl M0
    |false =>
     show cZ e2 ?_;exists o3 M0.cV rfl qb ?_;show N8 (B0 (l:=s.bl) (a5 M0.eG) W.se (.inl rfl) ?_);left;cases e3:s.bl.any (ic .aR) with
     |false =>
      let e:u7 s v=(("NoAnvil",.aR,s):Rs):=by unfold u7;rw[az #[kK,kJ],aA (kL e1),aA (kL e2),aA (kL e3)]
      rw[e] at h;show eU rfl ?_;left;show h _ Kq.refl M0
     |true =>
      let e:u7 s v=(("",.int (gJ s.bl .aR),{ s with bl:=s.bl.set (gJ s.bl .aR) (.int v) }):Rs):=by unfold u7;rw[az #[kK,kJ],aA (kL e1),aA (kL e2),az e3]
      rw[e] at h;show cZ rfl ?_;let#[F,hn,_]:=K6 W.se (.inl rfl) e3;let bn:=W.bn;exists o3 M0.cV rfl qb ?_;show#[LU (a5 M0.eG),?_];exists yh (a5 M0.eG) F () ?_;exists o3 M0.cV rfl qb ?_;exists V5 M0.eG (HC hn) ?_;left;show h _ (Kq.set (i:=q+2) ()) (M0.Mt _)
  .rw[aD kJ];left;show no λz=>kJ z.2
 .rw[aD kK];left;show no λz=>kK z.1
def Xs(hi:T 179=!Br)(M0:MD g q s)(W:WS s)(h:vU q g (A9 s v) Q):a8 T (k+1) 179 [.ref q,.int v] g Q E:=by
 show call_of hi rfl ?_;delta Br;left;let no:¬(1<=v/\v<=-s.lo)->Q (.tup [.str "NoDie",.aR]) g:=λhv=>by
  let e:A9 s v=(("NoDie",.aR,s):Rs):=by unfold A9;rw[aA hv]
  rw[e] at h;show h _ Kq.refl M0
 by_cases kK:1<=v
 .rw[au kK];exists o3 M0.cV rfl uM ?_;show A8 (a5 M0.lower) ?_;left;rw[ah];by_cases kJ:v<=(-s.lo:Int)
  .rw[au kJ];exists o3 M0.cV rfl qb ?_;show N8 (B0 (l:=s.bl) (a5 M0.eG) W.se (.inr #[v,rfl]) ?_);left;cases e1:w6 s v with
   |false =>
    let e:A9 s v=(("NotFixed",.aR,s):Rs):=by unfold A9;rw[az #[kK,kJ],aA (kL e1)]
    rw[e] at h;show eU (show(~~~w6 s v)=true by rw[e1];rfl) ?_;left;show h _ Kq.refl M0
   |true =>
    let e:A9 s v=(("",.int (gJ s.bl (.int v)),{ s with bl:=s.bl.set (gJ s.bl (.int v)) .aR,go:=s.go++[v] }):Rs):=by unfold A9;rw[az #[kK,kJ],az e1]
    rw[e] at h;show cZ (show(~~~w6 s v)=false by rw[e1];rfl) ?_;let#[F,hn,_]:=K6 W.se (.inr #[v,rfl]) e1;let bn:=W.bn;let gl:=LJ W;exists o3 M0.cV rfl qb ?_;show#[LU (a5 M0.eG),?_];exists yh (a5 M0.eG) F () ?_;exists o3 M0.cV rfl qb ?_;exists V5 M0.eG (HC hn) ?_;let M1:=M0.Mt (s.bl.set (gJ s.bl (.int v)) .aR);exists o3 M1.cV rfl Cw ?_;show#[Au M1.gone,?_];exists uo M1.gone (by simp;omega) ?_;let M2:=M1.setG (s.go++[v]);rw[bw] at M2;left;show h _ ((Kq.set (i:=q+2) ()).trans (Kq.set (i:=q+5) ())) M2
  .rw[aD kJ];left;show no λz=>kJ z.2
 .rw[aD kK];left;show no λz=>kK z.1
def Wi{l:@&(@&Int)}{w:@&Int}:(gC l).set (v-1).toNat (mk w)=gC (l.set (v-1).toNat w):=by rw[gC,gC,List.map_set]
def b11(hv:1<=v/\v<=n):mD n (v-1)=!(v-1).toNat:=by
 have:=HC (n:=n) (k:=(v-1).toNat) ()
 rwa [show(((v-1).toNat:Nat):Int)=v-1 by omega] at this
def Zi(hi:T 181=!vO)(M0:MD g q s)(W:WS s)(ho:PyData.strOk x=true)(h:vU q g (i8 s x v j) Q):a8 T (k+1) 181 [.ref q,.str x,.int v,.int j] g Q E:=by
 show call_of hi rfl ?_;delta vO;left;let e1:Ex g (g++[O.lst [.str "lower",.str "upper"]]):=Ex.snoc _ _;show N8 (PN b9 ho ?_);let M1:=M0.ex e1;let k1:=Kq.ex (q:=q) e1;let sl:=Fz (x:=x) W;generalize g++[O.lst [.str "lower",.str "upper"]]=g1 at *;left;by_cases hx:L5 x
 .refine cZ (by rw[kR,dD,bz,bz];show hx) ?_;let#[r,hr,nL,sR,xf]:=M1.side hx;let no:¬(1<=v/\v<=(s.side x).length)->Q (.tup [.str "NoDie",.aR]) g1:=λhv=>by
   let e:i8 s x v j=(("NoDie",.aR,s):Rs):=by unfold i8;rw[az hx,aA hv]
   rw[e] at h;show h _ k1 M1
  left;by_cases kK:1<=v
  .rw[au kK];exists o3 M1.cV rfl nL ?_;show A8 (a5 sR) ?_;left;rw[ah];by_cases kJ:v<=((s.side x).length:Int)
   .rw[au kJ];let hv:1<=v/\v<=(s.side x).length:=#[kK,kJ]
    let Je:=Ot W hx hv;let fin:∀(N:Ends),N.rt=Q->¬(x="lower"/\Q8 s v=true)->wpS (a8 T k) (match vO.body with|.seq _ (.seq _ (.seq _ b))=>b|x=>x) N [!.ref q,!.str x,!.int v,!.int j,none] g1 E:=by
     intro N hN sY;dsimp[vO];let bad:¬(0<=j/\j<=7)->N.rt (.tup [.str "BadSpot",.aR]) g1:=λhj=>by
      let e:i8 s x v j=(("BadSpot",.aR,s):Rs):=by unfold i8;rw[az hx,az hv,aA sY,aA hj]
      rw[e] at h;rw[hN];show h _ k1 M1
     left;by_cases sX:0<=j
     .rw[au sX];left;by_cases xp:j<=7
      .rw[au xp];exists o3 M1.cV rfl nL ?_;exists A6 (a5 sR) (An hv) ?_;exists Y5 (AG (l:=dY (s.side x) v) rfl ?_);left;by_cases hq:j∈dY (s.side x) v
       .let e:i8 s x v j=(("Marked",.aR,s):Rs):=by unfold i8;rw[az hx,az hv,aA sY,az #[sX,xp],az hq]
        rw[e] at h;rw[au hq];show mE ?_;left;rw[hN];show h _ k1 M1
       .let e:i8 s x v j=(("",.aR,s.put x ((s.side x).set (v-1).toNat (markL (dY (s.side x) v) j))):Rs):=by unfold i8;rw[az hx,az hv,aA sY,az #[sX,xp],aA hq]
        rw[e] at h;rw[aD hq];show V3 ?_;exists aY1 (a6 T _) ?_;exists#[8,rfl,by omega,λi ys U g2=>∃z2 z3,ys=((qG.take i).filter λi=>decide (i=j\/i∈dY (s.side x) v)).map .int/\U=[!(mk (dY (s.side x) v)),!.int j,z2,z3]/\g2=g1,#[none,none,rfl,rfl,rfl],λi ys U g2 p=>?_,λi ys U g2 hi p=>?_,λys U g2 p=>?_]
        .let#[_,_,rfl,_]:=p;rw[ah];show aG (bH _ _) (by rw[cU];omega)
        .let#[z2,z3,rfl,rfl,rfl]:=p;show j4 ?_
         try show eF _ _ _ _ _ _
         let tk:qG.take (i+1)=qG.take i++[(i:Int)]:=by
          have:i=0\/i=1\/i=2\/i=3\/i=4\/i=5\/i=6\/i=7:=by omega
          rcases this with rfl|rfl|rfl|rfl|rfl|rfl|rfl|rfl<;>rfl
         left;by_cases jh:(i:Int)=j
         .rw[au jh];exists#[_,_,?_,rfl,rfl];rw[tk,eE,bw,show List.filter (λi=>decide (i=j\/i∈dY (s.side x) v)) [(i:Int)]=[(i:Int)] by rw[dW,az (au (Or.inl jh))];rfl]
          rfl
         .rw[aD jh];exists Y5 (AG (l:=dY (s.side x) v) rfl ?_);left;by_cases zS:(i:Int)∈dY (s.side x) v
          .rw[au zS];exists#[_,_,?_,rfl,rfl];rw[tk,eE,bw,show List.filter (λi=>decide (i=j\/i∈dY (s.side x) v)) [(i:Int)]=[(i:Int)] by rw[dW,az (au (Or.inr zS))];rfl]
           rfl
          .rw[aD zS];exists#[_,_,?_,rfl,rfl];rw[tk,eE,bw,show List.filter (λi=>decide (i=j\/i∈dY (s.side x) v)) [(i:Int)]=[] by rw[dW,aA (by rw[bz];show not_or.mpr #[jh,zS])];rfl];simp
        .let#[z2,z3,rfl,rfl,rfl]:=p;let e2:(qG.take 8).filter (λi=>decide (i=j\/i∈dY (s.side x) v))=markL (dY (s.side x) v) j:=rfl;rw[e2];let e3:Ex g2 (g2++[O.lst ((markL (dY (s.side x) v) j).map .int)]):=Ex.snoc _ _;show Ls (a5 b9) ?_;let M3:=M1.ex e3;let#[r',oE,Dh,CN,xc]:=M3.side hx;generalize g2++[O.lst ((markL (dY (s.side x) v) j).map .int)]=g3 at *;exists o3 M3.cV rfl Dh ?_;exists V5 CN (by rw[ah];show b11 hv) ?_;let es:=Wi (l:=s.side x) (v:=v) (w:=markL (dY (s.side x) v) j);rw[show D.tup ((markL (dY (s.side x) v) j).map .int)=mk (markL (dY (s.side x) v) j) from rfl,es];left;rw[hN];show h _ (k1.trans ((Kq.ex e3).trans (Kq.set (i:=r') ()))) (xc _)
      .rw[aD xp];left;show bad λz=>xp z.2
     .rw[aD sX];left;show bad λz=>sX z.1
    exists if2 (λrm=>?_) (λrm=>?_)
    .exists o3 M1.cV rfl Cw ?_;show Y5 (B0 (l:=s.go.map D.int) (a5 M1.gone) P2 (.inr #[v,rfl]) ?_);left;cases e2:Q8 s v with
     |true =>
      let e:i8 s x v j=(("Gone",.aR,s):Rs):=by unfold i8;rw[az hx,az hv,az #[rm,e2]]
      rw[e] at h;show eU e2 ?_;left;show h _ k1 M1
     |false =>
      show cZ e2 ?_;show E6 ?_;show fin _ rfl (λz=>kL e2 z.2)
    .try show V3 ?_
     try with_reducible show E6 ?_
     show fin _ rfl (λz=>rm z.1)
   .rw[aD kJ];left;show no λz=>kJ z.2
  .rw[aD kK];left;show no λz=>kK z.1
 .refine eU (by rw[eM,jX,aK,aK];show not_or.mp hx) ?_;let e:i8 s x v j=(("BadSide",.aR,s):Rs):=by unfold i8;rw[aA hx]
  rw[e] at h;left;show h _ k1 M1
def aR9(hi:T 182=!AY)(M0:MD g q s)(W:WS s){a b:Int}(h:vU q g (i7 s a b) Q):a8 T (k+1) 182 [.ref q,.int a,.int b] g Q E:=by
 show call_of hi rfl ?_;delta AY;let no:¬((1<=a/\a<=-s.lo)/\(1<=b/\b<=-s.up))->Q (.tup [.str "NoDie",.aR]) g:=λhv=>by
  let e:i7 s a b=(("NoDie",.aR,s):Rs):=by unfold i7;rw[aA hv]
  rw[e] at h;show h _ Kq.refl M0
 left;by_cases qm:1<=a
 .rw[au qm];exists o3 M0.cV rfl uM ?_;show A8 (a5 M0.lower) ?_;left;rw[ah];by_cases vd:a<=(-s.lo:Int)
  .rw[au vd];left;by_cases pF:1<=b
   .rw[au pF];exists o3 M0.cV rfl zG ?_;show A8 (a5 M0.upper) ?_;left;rw[ah];by_cases pE:b<=(-s.up:Int)
    .rw[au pE];let ha:1<=a/\a<=-s.lo:=#[qm,vd]
     let hb:1<=b/\b<=-s.up:=#[pF,pE]
     exists o3 M0.cV rfl qb ?_;show N8 (B0 (l:=s.bl) (a5 M0.eG) W.se (.inr #[a,rfl]) ?_);left;cases e1:w6 s a with
     |false =>
      let e:i7 s a b=(("NotFixed",.aR,s):Rs):=by unfold i7;rw[az #[ha,hb],aA (kL e1)]
      rw[e] at h;show eU (show(~~~w6 s a)=true by rw[e1];rfl) ?_;left;show h _ Kq.refl M0
     |true =>
      show cZ (show(~~~w6 s a)=false by rw[e1];rfl) ?_;let cn:=W.cn;exists o3 M0.cV rfl Cy ?_;show A8 (a5 M0.fO) ?_;exists if2 (λhl=>?_) (λhl=>?_)
      .let e:i7 s a b=(("Full",.aR,s):Rs):=by unfold i7;rw[az #[ha,hb],az e1,aA ()]
       rw[e] at h;left;show h _ Kq.refl M0
      .let e:i7 s a b=(("",.int (-s.co),{ s with co:=s.co++[R7 s a b] }):Rs):=by unfold i7;rw[az #[ha,hb],az e1,az ()]
       rw[e] at h;exists o3 M0.cV rfl Cy ?_;show#[Au M0.fO,?_];exists o3 M0.cV rfl uM ?_;exists A6 (a5 M0.lower) (An ha) ?_;exists o3 M0.cV rfl zG ?_;exists A6 (a5 M0.upper) (An hb) ?_;exists o3 M0.cV rfl Cv ?_;exists uo M0.fO () ?_;let M1:=M0.setC (s.co++[R7 s a b]);let e3:s.co++[D.tup [.int a,mk (dY s.lo a),.int b,mk (dY s.up b),.int s.yr]]=s.co++[R7 s a b]:=rfl;rw[e3];exists o3 M1.cV rfl Cy ?_;show A8 (a5 M1.fO) ?_;left;have:=h _ (Kq.set (i:=q+6) ()) M1;dsimp only;rw[show((s.co++[R7 s a b]).length:Int)-1=-s.co by rw[aY];simp];show this
    .rw[aD pE];left;show no λz=>pE z.2.2
   .rw[aD pF];left;show no λz=>pF z.2.1
  .rw[aD vd];left;show no λz=>vd z.1.2
 .rw[aD qm];left;show no λz=>qm z.1.1
end
def ET:aP:=#[2,3,(du 2 (cF aL (bu 0)) (de (cI .Eq ba (bO "cut")) (bN (dP 46 aE (cF aL (bu 1)))) (de (cI .Eq ba (bO "fix")) (bN (dP 178 aE (cF aL (bu 1)))) (de (cI .Eq ba (bO "off")) (bN (dP 179 aE (cF aL (bu 1)))) (de (cI .Eq ba (bO "mark")) (bN (wB 181 aE (cF aL (bu 1)) (cF aL (bu 2)) (cF aL (bu 3)))) (de (cI .Eq ba (bO "strike")) (bN (gA 182 aE (cF aL (bu 1)) (cF aL (bu 2)))) (de (.jI (.dt (.fg (.chain .LtE .LtE (bu 1) (cF aL (bu 1)) (bu 9999)))) (cI .LtE (cF aL (bu 1)) (cF aE (bO "year")))) (bN (bG .tup (bO "BadYear") (.lit .aR))) (iA (.eT aE (bO "year") (cF aL (bu 1))) (bN (bG .tup (bO "") (.lit .aR)))))))))))]
def yH:aP:=#[2,3,(du 2 (cF aL (bu 0)) (de (cI .Eq ba (bO "cut")) (bN (.cT "cut" [("Mint",54)] aE (fb (cF aL (bu 1))))) (de (cI .Eq ba (bO "fix")) (bN (.cT "fix" [("Mint",55)] aE (fb (cF aL (bu 1))))) (de (cI .Eq ba (bO "off")) (bN (.cT "lay_off" [("Mint",56)] aE (fb (cF aL (bu 1))))) (de (cI .Eq ba (bO "mark")) (bN (.cT "mark" [("Mint",57)] aE (nX (cF aL (bu 1)) (cF aL (bu 2)) (cF aL (bu 3))))) (de (cI .Eq ba (bO "strike")) (bN (.cT "strike" [("Mint",58)] aE (uB (cF aL (bu 1)) (cF aL (bu 2))))) (bN (.cT "begin_year" [("Mint",59)] aE (fb (cF aL (bu 1)))))))))))]
inductive Dd where
 |cut (x:Str)|fix (v:Int)|off (v:Int)|mark (x:Str) (v j:Int)|yC (a b:Int)|year (n:Int)
abbrev Dd.d:Dd->D
 |.cut x=>.tup [.str "cut",.str x]
 |.fix v=>.tup [.str "fix",.int v]
 |.off v=>.tup [.str "off",.int v]
 |.mark x v j=>.tup [.str "mark",.str x,.int v,.int j]
 |.yC a b=>.tup [.str "strike",.int a,.int b]
 |.year n=>.tup [.str "year",.int n]
abbrev Dd.ok:Dd->Prop
 |.cut x=>PyData.strOk x=true
 |.mark x _ _=>PyData.strOk x=true
 |_=>True
abbrev kf(s:dM):Dd->Rs
 |.cut x=>B6 s x
 |.fix v=>u7 s v
 |.off v=>A9 s v
 |.mark x v j=>i8 s x v j
 |.yC a b=>i7 s a b
 |.year n=>A5 s n
def b50{s:dM}(W:WS s):WS (kf s dd).2.2:=by
 cases dd
 .exact bU5 W
 .exact bU4 W
 .exact bU3 W
 .exact bE9 W
 .exact YE W
 .exact bE8 W
def Xm{s:dM}{x:Str}:(i8 s x v j).2.1=.aR:=by unfold i8;(repeat' split)<;>rfl
def YC{s:dM}{n:Int}:(A5 s n).2.1=.aR:=by unfold A5;(repeat' split)<;>rfl
abbrev Lz:@&Str:=["NotFixed","BadSpot","Marked","BadYear","Full","BadSide","NoDie","Fixed","Gone","NoAnvil"]
def bD6{s:dM}:(kf s dd).1=""\/((kf s dd).1∈Lz/\(kf s dd).2=(D.aR,s)):=by
 cases dd<;>(simp only[kf];first|unfold B6|unfold u7|unfold A9|unfold i8|unfold i7|unfold A5)<;>(repeat' split)<;>first|show .inl rfl|show .inr #[by simp[Lz],rfl]
def bD7{s:dM}:o6 (kf s dd).2.1:=by
 cases dd<;>(simp only[kf];first|unfold B6|unfold u7|unfold A9|unfold i8|unfold i7|unfold A5)<;>(repeat' split)<;>first|show .inl rfl|show .inr #[_,rfl]
structure TR(T:Nat->Option aP):Prop where
 tq:TQ T
 DP:T 46=!Bp
 DZ:T 178=!Bq
 DY:T 179=!Br
 DX:T 181=!vO
 DW:T 182=!AY
 DV:T 183=!ET
section
variable{T:Nat->Option aP}{d:Nat}{s:dM}
def a13{f:Nat}(hT:TQ T)(oP:T f=!yH)(hm:g[m]?=!i6 s)(W:WS s)(ho:dd.ok)(h1:(kf s dd).1=""->∀g',Ex g g'->Q (kf s dd).2.1 (g'.set m (i6 (kf s dd).2.2)))(h2:(kf s dd).1≠""->E #[(kf s dd).1] g):a8 T (k+6) f [.ref m,dd.d] g Q E:=by
 show call_of oP rfl ?_;cases dd<;>dsimp[yH,b0,List.replicate,Dd.d,kf] at h1 h2 ⊢
 .exists eU #[] ?_;exists r6 hm rfl rfl ?_;left;show bE0 (k:=k+2) hT hm W ho (λe=>h1 e g (Ex.refl _)) h2
 .exists cZ #[] ?_;exists eU #[] ?_;exists r6 hm rfl rfl ?_;left;show bD3 (k:=k) hT hm W (λe=>h1 e g (Ex.refl _)) h2
 .exists cZ #[] ?_;exists cZ #[] ?_;exists eU #[] ?_;exists r6 hm rfl rfl ?_;left;show bB2 (k:=k) hT hm W (λe=>h1 e g (Ex.refl _)) h2
 .exists cZ #[] ?_;exists cZ #[] ?_;exists cZ #[] ?_;exists eU #[] ?_;exists r6 hm rfl rfl ?_;left;rw[Xm] at h1;show Xo (k:=k) hT hm W ho h1 h2
 .exists cZ #[] ?_;exists cZ #[] ?_;exists cZ #[] ?_;exists cZ #[] ?_;exists eU #[] ?_;exists r6 hm rfl rfl ?_;left;show aZ2 (k:=k) hT hm W (λe=>h1 e g (Ex.refl _)) h2
 .exists cZ #[] ?_;exists cZ #[] ?_;exists cZ #[] ?_;exists cZ #[] ?_;exists cZ #[] ?_;exists r6 hm rfl rfl ?_;left;rw[YC] at h1;show YD (k:=k+2) hT hm (λe=>h1 e g (Ex.refl _)) h2
set_option tactic.hygienic true in
def bB9(hT:TR T)(M0:MD g q s)(W:WS s)(ho:dd.ok)(h:vU q g (kf s dd) Q):a8 T (k+2) 183 [.ref q,dd.d] g Q E:=by
 show call_of hT.DV rfl ?_;cases dd<;>dsimp[ET,b0,List.replicate,Dd.d,kf] at h ⊢
 .exists eU #[] ?_;left;show Xp (k:=k) hT.DP M0 W ho h
 .exists cZ #[] ?_;exists eU #[] ?_;left;show Xq (k:=k) hT.DZ M0 W h
 .exists cZ #[] ?_;exists cZ #[] ?_;exists eU #[] ?_;left;show Xs (k:=k) hT.DY M0 W h
 .exists cZ #[] ?_;exists cZ #[] ?_;exists cZ #[] ?_;exists eU #[] ?_;left;show Zi (k:=k) hT.DX M0 W ho h
 .exists cZ #[] ?_;exists cZ #[] ?_;exists cZ #[] ?_;exists cZ #[] ?_;exists eU #[] ?_;left;show aR9 (k:=k) hT.DW M0 W h
 .rename_i n;let no:¬(s.yr+1<=n/\n<=9999)->Q (.tup [.str "BadYear",.aR]) g:=λhv=>by
   let e:A5 s n=(("BadYear",.aR,s):Rs):=by unfold A5;rw[aA hv]
   rw[e] at h;show h _ Kq.refl M0
  let y0:=W.y0;exists cZ #[] ?_;exists cZ #[] ?_;exists cZ #[] ?_;exists cZ #[] ?_;exists cZ #[] ?_;left;by_cases h1:1<=n
  .rw[au h1];left;by_cases h2:n<=9999
   .rw[au h2];exists o3 M0.cV rfl Cv ?_;exists if2 (λc=>?_) (λc=>?_)
    .left;show no ()
    .let e:A5 s n=(("",.aR,{ s with yr:=n }):Rs):=by unfold A5;rw[az ()]
     rw[e] at h;exists Lj M0.cV rfl (by simp[mB]) ?_;let e2:(O.cV (putD (mB q s.yr) (.inr "year") (.int n)))=.cV (mB q n):=rfl;rw[e2];left;show h _ (Kq.set (i:=q) ()) (M0.b75 n)
   .rw[aD h2];left;show no ()
  .rw[aD h1];left;show no ()
def aZ8(h:o6 y):G0 g n y y:=by
 rcases h with rfl|⟨i,rfl⟩
 .exact .aR
 .exact .int _
end
def FZ:aP:=#[2,2,(de (.jI (cI .Eq (cJ .len aL) (bu 0)) (cI .Eq (dP 4 aE (bu 10)) (bu 4))) (bN (dP 36 aE (bG (.bin .Add) (bu 3) (cJ .len aL)))) (bN (cF aL (dP 4 aE (cJ .len aL)))))]
def U1:aP:=#[2,9,(du 2 (dP 4 aE (bu 20)) (du 3 (.comp [] 2 (.one 1) (.gp (cF aL (bO "seats"))) (cI .IsNot aL (.lit .aR)) aL) (du 4 (.comp [3] 3 (.one 2) (.jK (bu 1) (bG (.bin .Add) (cJ .len (cF aL (bO "lower"))) (bu 1))) (cI .NotIn ba aE) ba) (du 5 (bG .kZ (bu 1) (bG (.bin .Add) (cJ .len (cF aL (bO "upper"))) (bu 1))) (de (.jI (cI .Lt ba (bu 2)) (.eI (cI .Eq (cJ .len gO) (bu 0)) (cI .Lt ba (bu 6)))) (bN (bG .tup (bO "cut") (.ite (cI .Eq (cJ .len gO) (bu 0)) (bO "upper") (fQ 29 aE)))) (de (.jI (cI .Lt ba (bu 5)) (cI .Eq (cJ .len bP) (bu 0))) (de (.jI (cI .Eq (cJ .len dX) (bu 0)) (cI .Eq (dP 4 aE (bu 4)) (bu 0))) (bN (bG .tup (bO "cut") (bO "lower"))) (bN (bG .tup (bO "fix") (dP 37 aE (bG (.bin .Add) dX (bG (.bin .Mult) bP (cJ .int (bG (.cmp .Eq) (dP 4 aE (bu 5)) (bu 0))))))))) (de (cI .Lt ba (bu 6)) (bN (bG .tup (bO "off") (dP 37 aE bP))) (de (cI .Lt ba (bu 10)) (du 6 (fQ 29 aE) (bN (.prim .tup (BV (bO "mark") gf (dP 37 aE (.ite (cI .Eq gf (bO "lower")) bP gO)) (bG (.bin .Sub) (dP 4 aE (bu 10)) (bu 1)))))) (de (cI .Lt ba (bu 18)) (bN (.prim .tup (nX (bO "strike") (dP 37 aE bP) (dP 37 aE gO)))) (du 7 (cF aL (bO "year")) (du 8 (.prim .lst (.cons (bG (.bin .Add) iG (bu 1)) (.cons (bG (.bin .Add) iG (bu 7)) (.cons (bG (.bin .Add) iG (bu 1)) (Ir iG (bG (.bin .Sub) iG (bu 3)) (bu 1350) (bu 1412) (bu 9999) (bu 10000) (fQ 5 aE)))))) (bN (bG .tup (bO "year") (cF iY (dP 4 aE (bu 10))))))))))))))))]
def Ya{a:Int}:∃ns:@&Int,p9 a n=ns.map .int/\-ns=n:=#[(List.range n).map λk:Nat=>a+k,by unfold p9;rw[bI];rfl,by simp]
structure TV(T:Nat->Option aP):Prop where
 h4:T 4=!P9
 h5:T 5=!ug
 Aa:T 29=!Bu
 zY:T 36=!Bs
 UA:T 37=!FZ
 DU:T 188=!U1
section
variable{T:Nat->Option aP}{d:Nat}{s:dM}{x:Str}
def OU(h4:T 4=!P9)(h5:T 5=!ug)(zY:T 36=!Bs)(hj:0<=j/\j<=1000)(D0:j5 g d)(h:∀(v:Int) g',j5 g' d->Gr d g g'->Q (.int v) g'):a8 T (k+3) 36 [.ref d,.int j] g Q E:=by
 show call_of zY rfl ?_;delta Bs;exists m9 h4 D0 ∅ ∅ λr g1 x x D1 G1=>?_;exists if2 (λx=>?_) (λx=>?_)
 .left;show LD h4 h5 D1 λf g2 D2 G2=>h _ _ D2 (G1.trans G2)
 .exists m9 h4 D1 () () λr g2 x x D2 G2=>?_;left;show h _ _ D2 (G1.trans G2)
def P8(hT:TV T)(hi:g[i]?=!.lst (ns.map .int))(hd:d<i)(hz:-ns<=900)(D0:j5 g d)(h:∀(v:Int) g',j5 g' d->Gr d g g'->Q (.int v) g'):a8 T (k+4) 37 [.ref d,.ref i] g Q E:=by
 show call_of hT.UA rfl ?_;delta FZ;left;rw[ah];show if2 (λc=>?_) (λc=>?_)
 .exists OU (k:=k) hT.h4 hT.h5 hT.zY (by rw[ah];omega) D0 λv g2 D2 G2=>?_;show h v g2 D2 G2
 .exists m9 hT.h4 D0 ∅ ∅ λr g1 x x D1 G1=>?_;let Ta:=G1.at () hi;exists if2 (λx=>?_) (λx=>?_)
  .exists OU (k:=k) hT.h4 hT.h5 hT.zY (by rw[ah];omega) D1 λv g2 D2 G2=>?_;show h v g2 D2 (G1.trans G2)
  .left;rw[ah];show m9 hT.h4 D1 () () λr2 g2 r0 r1 D2 G2=>?_;let#[y,hy,hm]:=AU (l:=ns.map D.int) r0 (by rw[ah];show r1);let#[v,_,rfl]:=aQ.mp hm;show A6 (a5 (G2.at () Ta)) hy ?_;left;show h v g2 D2 (G1.trans G2)
noncomputable abbrev LM:MS:=match U1.body with|.seq _ (.seq _ (.seq _ (.seq _ (.seq (.ifs _ a _) _))))=>a|x=>x
noncomputable abbrev Y1:MS:=match U1.body with|.seq _ (.seq _ (.seq _ (.seq _ (.seq _ b))))=>b|x=>x
noncomputable abbrev LO:MS:=match Y1 with|.seq _ c=>c|x=>x
noncomputable abbrev Ar:MS:=match Y1 with|.seq (.ifs _ i _) _=>i|x=>x
noncomputable abbrev LR:MS:=match Ar with|.seq _ j=>j|x=>x
structure DC(g:G)(d q o p u:Nat)(s:dM)(on iz ups:@&Int):Prop where
 dr:j5 g d
 md:MD g q s
 ho:g[o]?=!.lst (on.map .int)
 hp:g[p]?=!.lst (iz.map .int)
 hu:g[u]?=!.lst (ups.map .int)
 dq:d<q
 lo:d<o
 lp:d<p
 lu:d<u
 n1:-on<=9
 n2:-iz<=99
 n3:-ups<=99
def DC.gr{g':G}{o p u:Nat}{on iz ups:@&Int}(h:DC g d q o p u s on iz ups)(x:Gr d g g')(D:j5 g' d):DC g' d q o p u s on iz ups:=by
 let h1:=h.lo;let h2:=h.lp;let h3:=h.lu;show#[D,h.md.gr x h.dq,x.at () h.ho,x.at () h.hp,x.at () h.hu,h.dq,h1,h2,h3,h.n1,h.n2,h.n3]
def KH(hT:TV T){o:Nat}{r:Int}(C:DC g d q o p u s on iz ups)(hN:N.rt=Q)(h:∀(dd:Dd) g',dd.ok->j5 g' d->Gr d g g'->Q dd.d g') :
  wpS (a8 T (k+4)) LM N [!.ref d,!.ref q,!.int r,!.ref o,!.ref p,!.ref u,none,none,none] g E:=by
 dsimp[LM,U1];exists A8 (a5 C.hu) ?_;exists if2 (λc=>?_) (λc=>?_)
 .left;rw[hN];show h (.cut "upper") _ (by change PyData.strOk _=true;decide +kernel) C.dr (Gr.refl _ _)
 .exists Ou (k:=k+2) hT.h4 hT.Aa C.dr λx g1 ho D1 G1=>?_;left;rw[hN];show h (.cut x) _ ho D1 G1
def b26(hT:TV T){o:Nat}{r:Int}(C:DC g d q o p u s on iz ups)(hN:N.rt=Q)(h:∀(dd:Dd) g',dd.ok->j5 g' d->Gr d g g'->Q dd.d g') :
  wpS (a8 T (k+4)) LR N [!.ref d,!.ref q,!.int r,!.ref o,!.ref p,!.ref u,none,none,none] g E:=by
 let n1:=C.n1;let n2:=C.n2;dsimp[LR,Ar,Y1,U1];exists m9 hT.h4 C.dr ∅ ∅ λr1 g1 x x D1 G1=>?_;let C1:=C.gr G1 D1;left;obtain⟨w,hw,CI⟩:∃w:Int,(if decide (r1=0)=true then(1:Int) else 0)=w/\(w=0\/w=1):=by
  show#[_,rfl,?_];split
  .exact .inr rfl
  .exact .inl rfl
 rw[hw];obtain⟨ns,en,hnl⟩:∃ns:@&Int,(List.replicate w.toNat (on.map D.int)).flatten=ns.map .int/\-ns<=9:=by
  rcases CI with rfl|rfl
  .exact#[[],rfl,by simp]
  .exact#[on,by show(List.replicate 1 _).flatten=_;simp,n1]
 show Kz C1.ho () () (by rw[ah];rcases CI with rfl|rfl<;>(simp;try omega)) ?_;rw[en];let e2:Ex g1 (g1++[O.lst (ns.map .int)]):=Ex.snoc _ _;let D2:=D1.snoc (O.lst (ns.map .int));let C2:=C1.gr (e2.gr d) D2;show HG C2.hp b9 (by simp;omega) ?_;let l2:d<(g1++[O.lst (ns.map .int)]).length:=D2.lt;let x2:=G1.trans (e2.gr d);generalize g1++[O.lst (ns.map .int)]=g2 at *;let D3:=D2.snoc (O.lst (iz.map .int++ns.map .int));let e3:Ex g2 (g2++[O.lst (iz.map .int++ns.map .int)]):=Ex.snoc _ _;let h3:(g2++[O.lst (iz.map .int++ns.map .int)])[(-g2)]?=!(.lst ((iz++ns).map .int)):=by rw[bw];show b9
 generalize g2++[O.lst (iz.map .int++ns.map .int)]=g3 at *;exists P8 (k:=k) hT h3 l2 (by simp;omega) D3 λv g4 D4 G4=>?_;left;rw[hN];show h (.fix v) _ trivial D4 (x2.trans ((e3.gr d).trans G4))
def KJ(hT:TV T){o:Nat}{r:Int}(C:DC g d q o p u s on iz ups)(hN:N.rt=Q)(h:∀(dd:Dd) g',dd.ok->j5 g' d->Gr d g g'->Q dd.d g') :
  wpS (a8 T (k+4)) Ar N [!.ref d,!.ref q,!.int r,!.ref o,!.ref p,!.ref u,none,none,none] g E:=by
 let lw:∀g',j5 g' d->Gr d g g'->Q (.tup [.str "cut",.str "lower"]) g':=λg' D G=>h (.cut "lower") g' (by change PyData.strOk _=true;decide +kernel) D G;dsimp[Ar,Y1,U1];exists A8 (a5 C.hp) ?_;exists if2 (λc=>?_) (λc=>?_)
 .left;rw[hN];show lw _ C.dr (Gr.refl _ _)
 .exists m9 hT.h4 C.dr ∅ ∅ λr1 g1 x x D1 G1=>?_;exists if2 (λc=>?_) (λc=>?_)
  .left;rw[hN];show lw _ D1 G1
  .try with_reducible show E6 ?_
   show b26 hT (C.gr G1 D1) hN λdd g' ok D G=>h dd g' ok D (G1.trans G)
def b27(hT:TV T){o:Nat}{r:Int}(C:DC g d q o p u s on iz ups)(hN:N.rt=Q)(h:∀(dd:Dd) g',dd.ok->j5 g' d->Gr d g g'->Q dd.d g') :
  wpS (a8 T (k+4)) LO N [!.ref d,!.ref q,!.int r,!.ref o,!.ref p,!.ref u,none,none,none] g E:=by
 let n1:=C.n1;let n3:=C.n3;dsimp[LO,Y1,U1];exists if2 (λc=>?_) (λc=>?_)
 .exists P8 (k:=k) hT C.ho C.lo () C.dr λv g1 D1 G1=>?_;left;rw[hN];show h (.off v) _ trivial D1 G1
 .exists if2 (λc=>?_) (λc=>?_)
  .exists Ou (k:=k+2) hT.h4 hT.Aa C.dr λx g1 ho D1 G1=>?_;let C1:=C.gr G1 D1;let fin:∀(i:Nat) (ns:@&Int) (Q':KD) (E':KX),g1[i]?=!.lst (ns.map .int)->d<i->-ns<=99->(∀v g2,j5 g2 d->Gr d g g2->Q' (.int v) g2)->a8 T (k+4) 37 [.ref d,.ref i] g1 Q' E':=λi ns Q' E' hi hd hz q=>P8 (k:=k) hT hi hd () D1 λv g2 D2 G2=>q v g2 D2 (G1.trans G2);exists if2 (λc=>?_) (λc=>?_)
   .exists fin _ _ _ _ C1.ho C1.lo () λv g2 D2 G2=>?_;exists m9 hT.h4 D2 ∅ ∅ λr3 g3 z z D3 G3=>?_;left;rw[hN];show h (.mark x v (r3-1)) _ ho D3 (G2.trans G3)
   .exists fin _ _ _ _ C1.hu C1.lu () λv g2 D2 G2=>?_;exists m9 hT.h4 D2 ∅ ∅ λr3 g3 z z D3 G3=>?_;left;rw[hN];show h (.mark x v (r3-1)) _ ho D3 (G2.trans G3)
  .exists if2 (λc=>?_) (λc=>?_)
   .exists P8 (k:=k) hT C.ho C.lo () C.dr λv g1 D1 G1=>?_;let C1:=C.gr G1 D1;exists P8 (k:=k) hT C1.hu C1.lu () D1 λw g2 D2 G2=>?_;left;rw[hN];show h (.yC v w) _ trivial D2 (G1.trans G2)
   .exists o3 C.md.cV rfl Cv ?_;exists LD hT.h4 hT.h5 C.dr λf g1 D1 G1=>?_;left;let e2:∀l:@&Int,Ex g1 (g1++[O.lst (l.map .int)]):=λl=>Ex.snoc _ _;obtain⟨l,el,hl⟩:∃l:@&Int,[D.int (s.yr+1),.int (s.yr+7),.int (s.yr+1),.int s.yr,.int (s.yr-3),.int 1350,.int 1412,.int 9999,.int 10000,.int f]=l.map .int/\-l=10:=#[[s.yr+1,s.yr+7,s.yr+1,s.yr,s.yr-3,1350,1412,9999,10000,f],rfl,rfl]
    rw[el];show m9 hT.h4 (D1.snoc _) ∅ ∅ λr3 g3 RG RE D3 G3=>?_;let h3:=G3.at (i:=-g1) (by have:=D1.lt;omega) (o:=.lst (l.map .int)) b9;let#[y,hy,hm]:=AU (l:=l.map D.int) RG (by rw[ah,hl];show RE);let#[n,_,rfl]:=aQ.mp hm;show A6 (a5 h3) hy ?_;left;rw[hN];show h (.year n) _ trivial D3 ((G1.trans (Gr.snoc _ _ _)).trans G3)
def KI(hT:TV T){o:Nat}{r:Int}(C:DC g d q o p u s on iz ups)(hN:N.rt=Q)(h:∀(dd:Dd) g',dd.ok->j5 g' d->Gr d g g'->Q dd.d g') :
  wpS (a8 T (k+4)) Y1 N [!.ref d,!.ref q,!.int r,!.ref o,!.ref p,!.ref u,none,none,none] g E:=by
 dsimp[Y1,U1];exists if2 (λc=>?_) (λc=>?_)
 .try show mE ?_
  show KJ hT C hN h
 .exists A8 (a5 C.ho) ?_;exists if2 (λc=>?_) (λc=>?_)
  .exact KJ hT C hN h
  .try with_reducible show E6 ?_
   show b27 hT C hN h
def bD8(hT:TV T)(M0:MD g q s)(W:WS s)(D0:j5 g d)(JJ:d<q)(h:∀(dd:Dd) g',dd.ok->j5 g' d->Gr d g g'->Q dd.d g'):a8 T (k+5) 188 [.ref d,.ref q] g Q E:=by
 let ln:=W.ln;let un:=W.un;let bn:=W.bn;show call_of hT.DU rfl ?_;delta U1;exists m9 hT.h4 D0 ∅ ∅ λr g1 r0 r1 D1 G1=>?_;let M1:=M0.gr G1 JJ;exists K5 (a6 T _) (lP (a6 T _) ?_);exists o3 M1.cV rfl qb ?_;show#[q+2,_,rfl,a5 M1.eG,s.bl,λi ys U g'=>∃ns:@&Int,ys=ns.map .int/\-ns<=i/\g'=g1/\∃z0 z1,U=[z0,z1],by omega,λi ys U g' p=>?_,#[[],rfl,by simp,rfl,none,none,rfl],λi y ys U g' hy p=>?_,λys U g' p=>?_]
 .let#[ns,rfl,h1,rfl,_]:=p;show#[u5 (a5 M1.eG),by rw[ah];show h1]
 .let#[ns,rfl,h1,rfl,z0,z1,rfl]:=p;show j4 ?_
  try show eF _ _ _ _ _ _
  rcases W.se y (aC hy) with rfl|⟨v,rfl⟩
  .left;show#[ns,rfl,by omega,rfl,_,_,rfl]
  .left;show#[ns++[v],by rw[bw];rfl,by rw[aY];simp;omega,rfl,_,_,rfl]
 let#[on,rfl,uT,rfl,_]:=p;let G2:=G1.trans (Gr.snoc d g' (O.lst (on.map .int)));let D2:=D1.snoc (O.lst (on.map .int));let M2:=M1.ex (Ex.snoc _ (O.lst (on.map .int)));let a2:(g'++[O.lst (on.map .int)])[(-g')]?=!.lst (on.map .int):=b9;let l2:d< -g':=D1.lt;generalize (-g')=o at *;generalize g'++[O.lst (on.map .int)]=g2 at *;clear M1 D1 G1;exists K5 (a6 T _) (Mg (a6 T _) ?_);exists o3 M2.cV rfl uM ?_;show A8 (a5 M2.lower) ?_;left;rw[ah];show#[1,(-s.lo:Int)+1,rfl,rfl,by omega,p9 1 (-s.lo),λi ys U g3=>∃ns:@&Int,ys=ns.map .int/\-ns<=i/\g3=g2/\∃z1 z2,U=[!.ref o,z1,z2],by rw[E0];omega,λi ys U g3 p=>?_,#[[],rfl,by simp,rfl,none,none,rfl],λi y ys U g3 hy p=>?_,λys U g3 p=>?_]
 .let#[ns,rfl,h1,rfl,_]:=p;rw[show((-s.lo:Int)+1-1).toNat=-s.lo by omega];show#[G9,by rw[ah];show h1]
 .let#[ns,rfl,h1,rfl,z1,z2,rfl]:=p;let#[hi,rfl]:=O9 hy;show j4 ?_
  try show eF _ _ _ _ _ _
  exists N8 (AG (l:=on) (a5 a2) ?_);left;by_cases hm:(1+(i:Int))∈on
  .rw[au hm];show V3 ?_;show#[ns,rfl,by omega,rfl,_,_,rfl]
  .rw[aD hm];show mE ?_;left;show#[ns++[1+(i:Int)],by rw[bw];rfl,by rw[aY];simp;omega,rfl,_,_,rfl]
 let#[iz,rfl,Dn,rfl,_]:=p;rw[E0] at Dn;let G3:=G2.trans (Gr.snoc d g3 (O.lst (iz.map .int)));let D3:=D2.snoc (O.lst (iz.map .int));let M3:=M2.ex (Ex.snoc _ (O.lst (iz.map .int)));let a3:(g3++[O.lst (iz.map .int)])[o]?=!.lst (on.map .int):=(Ex.snoc _ _).at a2;let b3:(g3++[O.lst (iz.map .int)])[(-g3)]?=!.lst (iz.map .int):=b9;let l3:d< -g3:=D2.lt;generalize (-g3)=p at *;generalize g3++[O.lst (iz.map .int)]=g4 at *;clear M2 D2 G2 a2;exists o3 M3.cV rfl zG ?_;show A8 (a5 M3.upper) ?_;left;rw[ah];show wR () ?_;rw[show((-s.up:Int)+1-1).toNat=-s.up by omega];let#[ups,eu,zI]:=Ya (a:=1) (n:=-s.up);rw[eu];let G4:=G3.trans (Gr.snoc d g4 (O.lst (ups.map .int)));let D4:=D3.snoc (O.lst (ups.map .int));let M4:=M3.ex (Ex.snoc _ (O.lst (ups.map .int)));let a4:(g4++[O.lst (ups.map .int)])[o]?=!.lst (on.map .int):=(Ex.snoc _ _).at a3;let b4:(g4++[O.lst (ups.map .int)])[p]?=!.lst (iz.map .int):=(Ex.snoc _ _).at b3;let c4:(g4++[O.lst (ups.map .int)])[(-g4)]?=!.lst (ups.map .int):=b9;let l4:d< -g4:=D3.lt;generalize (-g4)=u at *;generalize g4++[O.lst (ups.map .int)]=g5 at *;clear M3 D3 G3 a3 b3;let C:DC g5 d q o p u s on iz ups:=#[D4,M4,a4,b4,c4,JJ,l2,l3,l4,by omega,by omega,by omega]
 let h':∀(dd:Dd) g',dd.ok->j5 g' d->Gr d g5 g'->Q dd.d g':=λdd g' ok D G=>h dd g' ok D (G4.trans G);exists if2 (λc=>?_) (λc=>?_)
 .try show mE ?_
  show KH hT C rfl h'
 .exists if2 (λc=>?_) (λc=>?_)
  .exists if2 (λc=>?_) (λc=>?_)
   .exact KH hT C rfl h'
   .try with_reducible show E6 ?_
    show KI hT C rfl h'
  .try show V3 ?_
   try with_reducible show E6 ?_
   show KI hT C rfl h'
end
def s0(n:Nat):dM:=#[List.replicate n .aR,[],[],[],0,[]]
def Vf(h:n<=9):WS (s0 n):=by
 show#[λz hz=>.inl (si hz),λi j v hi=>?_,λv x=>rfl,by unfold s0;simpa using h,by unfold s0;simp,λv hv=>?_,by unfold s0;simp,by unfold s0;simp,λl hl=>?_,λl hl=>?_,Int.le_refl 0,by unfold s0;simp,λc hc=>?_]
 .have:=si (aC hi);cases this
 .unfold s0 at hv;simp at hv
 .unfold s0 at hl;simp at hl
 .unfold s0 at hl;simp at hl
 .unfold s0 at hc;simp at hc
section
variable{T:Nat->Option aP}
def yP{g l:@&O}:(g++l)[(-g)+i]?=l[i]?:=by rw[cc ()];congr 1;omega
def Zj(DQ:T 45=!As)(hn:n<=9)(h:∀g',Ex g g'->MD g' (-g) (s0 n)->Q (.ref (-g)) g'):a8 T (k+1) 45 [.int n] g Q E:=by
 show call_of DQ rfl ?_;delta As;exists bV0 ?_;exists Kz b9 () () (by simp;omega) ?_;left;rw[show(List.replicate (Int.toNat (n:Int)) [D.aR]).flatten=List.replicate n .aR by rw[bL,lH]];simp only[List.append_assoc,List.cons_append,List.nil_append,List.length_append,List.length_cons,List.length_nil,Nat.zero_add,Nat.add_assoc,Nat.reduceAdd];let eg:∀(o:O) (r:@&O),List.set (g++(O.cV []::r)) (-g) o=g++(o::r):=λo r=>by
  rw[List.set_append_right _ _ (aw _),Nat.sub_self]
  rfl
 show#[mB (-g) 0,rfl,by simp,by simp,?_];rw[eg];show h _ #[by simp,λi hi=>aH hi] #[by simp[s0],yP,yP,yP,yP,yP]
def bB8(hT:TM T)(hn:1<=n/\n<=9)(h:Q .aR (g++[i6 (s0 n)])):a8 T (k+4) 51 [.ref (-g),.int n] (g++[.ins "Mint" []]) Q E:=by
 show bC8 (k:=k) hT b9 (λn' e1 n1 n9=>?_) (λhv=>absurd #[by omega,by omega] hv);obtain rfl:n=n':=by omega
 let es:(g++[O.ins "Mint" []]).set (-g) (KZ n 0 0)=g++[i6 (s0 n)]:=by simp[s0,i6,La]
 rw[es];show h
end
structure pQ(g:G)(d m q:Nat)(s:dM):Prop where
 dr:j5 g d
 dm:d<m
 mq:m<q
 mi:g[m]?=!i6 s
 md:MD g q s
 ws:WS s
section
variable{d:Nat}{s:dM}
def pQ.ex(h:pQ g d m q s)(e:Ex g g'):pQ g' d m q s:=#[e.draw h.dr,h.dm,h.mq,e.at h.mi,h.md.ex e,h.ws]
def pQ.gr(h:pQ g d m q s)(e:Gr d g g')(D:j5 g' d):pQ g' d m q s:=by
 let h1:=h.dm;let h2:=h.mq;show#[D,h1,h2,e.at () h.mi,h.md.gr e (),h.ws]
end
abbrev rS(f:Int)(c:a7):Int:=if f=0 then c.lo else c.up
def Am{f:Int}(hf:f=0\/f=2)(c:a7):jA [D.int c.lo,D.tup (c.lm.map .int),D.int c.up,D.tup (c.um.map .int),D.int c.yr] f=!.int (rS f c):=by
 rcases hf with rfl|rfl<;>rfl
abbrev cD:a7:=#[0,[],0,[],0]
noncomputable abbrev dw(cs:@&a7)(i:Nat):a7:=cs.getD i cD
def B9{c:a7}(h:cs[i]?=!c):dw cs i=c:=by simp[dw,List.getD,h]
inductive RW where
 |iJ|lower|upper
abbrev RW.s:RW->Str
 |.iJ=>"coin"
 |.lower=>"lower"
 |.upper=>"upper"
structure eJ where
 w:RW
 x:Int
 y:Int
def eJ.d(r:eJ):D:=.tup [.str r.w.s,.int r.x,.int r.y]
def meant(cs:@&a7)(w:RW)(x:Int)(i:Nat):Bool:=match w with
 |.iJ=>decide ((i:Int)=x)
 |.lower=>decide ((dw cs i).lo=x)
 |.upper=>decide ((dw cs i).up=x)
abbrev je(cs:@&a7)(w:RW)(x:Int):@&Nat:=(List.range (-cs)).filter (meant cs w x)
abbrev a9(l:@&Nat):@&D:=l.map λ(i:Nat)=>D.int i
def qV(l:@&Nat):Nat:=(l.map (2 ^ ·)).sum
def jr(n:Nat)(p:Nat->Bool):Nat:=qV ((List.range n).filter p)
def Ph(n:Nat)(p:Nat->Bool):jr (n+1) p=jr n p+if p n=true then 2 ^ n else 0:=by
 unfold jr qV;rw[gy,eE,bw,List.sum_append];cases h:p n<;>simp[List.filter_cons,h]
def bI4(n:Nat)(p:Nat->Bool):jr n p<2 ^ n:=by
 induction n with
 |zero=>simp[jr,qV]
 |succ n ih =>
  rw[Ph,Nat.pow_succ];split<;>omega
def Ow(n:Nat)(p:Nat->Bool)(i:Nat):(jr n p).testBit i=(decide (i<n)&&p i):=by
 induction n with
 |zero=>simp[jr,qV]
 |succ n ih =>
  let hl:=bI4 n p;rw[Ph];by_cases hp:p n=true
  .rw[az hp,Nat.add_comm];rcases dG i n with h|h|h
   .rw[Nat.testBit_two_pow_add_gt h,ih,au h,au ()]
   .subst h;rw[Nat.testBit_two_pow_add_eq,ih];simp[hp]
   .rw[Nat.testBit_lt_two_pow (aI (show 2 ^ n+jr n p<2 ^ (n+1) by omega) (BK () h)),aD ()]
    rfl
  .rw[aA hp,Nat.add_zero,ih];by_cases h:i=n
   .subst h;simp[hp]
   .rw[show decide (i<n)=decide (i<n+1) from eV.mpr ()]
def Hr(a b:Nat):Builtin.bitAnd (a:Int) (b:Int)=((a &&& b:Nat):Int):=by
 rfl
def bN7(a b:Nat):Builtin.bitOr (a:Int) (b:Int)=((a |||b:Nat):Int):=by
 unfold Builtin.bitOr Builtin.bitAnd;let h1:∀x:Nat,decide (0<=Builtin.bitNot (x:Int))=false:=λx=>by unfold Builtin.bitNot;show aD ()
 let h2:∀x:Nat,Builtin.bitNot (Builtin.bitNot (x:Int))=x:=λx=>by unfold Builtin.bitNot;omega
 rw[h1,h1];simp only[h2];simp
def bU0(a b:Nat):((a &&& b:Nat)≠0)↔∃i,a.testBit i=true/\b.testBit i=true:=by
 constructor
 .intro h;let#[i,hi]:=Nat.exists_testBit_of_ne_zero h;rw[Nat.testBit_and,aW] at hi;show#[i,hi]
 .rintro⟨i,h1,h2⟩ e;have:(a &&& b).testBit i=true:=by rw[Nat.testBit_and,h1,h2];rfl
  rw[e,Nat.zero_testBit] at this;cases this
def AF(s n:Nat)(p:Nat->Bool):((((s &&& jr n p:Nat):Int) != 0)=(List.range n).any λi=>s.testBit i&&p i):=by
 rw[bq,bne_iff_ne,br];have:(((s &&& jr n p:Nat):Int)≠0)↔((s &&& jr n p:Nat)≠0):=by omega
 rw[this,bU0];constructor
 .rintro⟨i,h1,h2⟩;rw[Ow,aW,dF] at h2;show#[i,aN.mpr h2.1,by rw[h1,h2.2];rfl]
 .rintro⟨i,h1,h2⟩;rw[aW] at h2;show#[i,h2.1,by rw[Ow,au (aN.mp h1),h2.2];rfl]
def mw(a b:a7):Bool:=(decide (a.lo=b.lo)&&~~~nY a.lm b.lm)||(decide (a.up=b.up)&&~~~nY a.um b.um)
def lM(a b:a7):Bool:=decide (0<b.yr)&&decide (b.yr<a.yr)
def T8(cs:@&a7)(S:Nat->Bool)(p:Nat):Bool:=(List.range (-cs)).any λi=>S i&&mw (dw cs i) (dw cs p)
def W2(cs:@&a7)(S:Nat->Bool)(p:Nat):Bool:=(List.range (-cs)).any λi=>S i&&lM (dw cs i) (dw cs p)
abbrev Z6(cs:@&a7)(S:Nat->Bool)(p:Nat)(d:Int):Bool :=
 ((List.range (-cs)).any λi=>(S i||decide (i=p))&&decide ((dw cs i).lo=d))&&((List.range (-cs)).any λi=>~~~S i&&decide ((dw cs i).lo=d))
def uh(cs:@&a7)(S:Nat->Bool)(p:Nat):Nat:=((o8 (cs.map a7.lo)).filter (Z6 cs S p)).length
def K4(cs:@&a7)(rs:@&eJ)(S:Nat->Bool)(p:Nat):Bool:=rs.all λr=>~~~meant cs r.w r.y p||(List.range (-cs)).any λi=>S i&&meant cs r.w r.x i
abbrev fault(cs:@&a7)(v:Int)(rs:@&eJ)(S:Nat->Bool)(p:Nat):Str :=
 if T8 cs S p=true then "wear" else if W2 cs S p=true then "year" else if v<uh cs S p then "anvil" else if K4 cs rs S p=true then "" else "rule"
def vi(x:Str):D:=if x="" then .aR else .str x
def aS9{S S':Nat->Bool}(h:∀i,i< -cs->S i=S' i):fault cs v rs S p=fault cs v rs S' p:=by
 let a:∀f:Nat->Bool->Bool,((List.range (-cs)).any λi=>f i (S i))=(List.range (-cs)).any λi=>f i (S' i):=λf=>by
  rw[bq,br,br];constructor
  .rintro⟨i,h1,h2⟩;show#[i,h1,by rw[<- h i (aN.mp h1)];show h2]
  .rintro⟨i,h1,h2⟩;show#[i,h1,by rw[h i (aN.mp h1)];show h2]
 let b1:T8 cs S p=T8 cs S' p:=a λi t=>t&&mw (dw cs i) (dw cs p);let b2:W2 cs S p=W2 cs S' p:=a λi t=>t&&lM (dw cs i) (dw cs p);let b3:Z6 cs S p=Z6 cs S' p:=by
  funext d
  unfold Z6;rw[a λi t=>(t||decide (i=p))&&decide ((dw cs i).lo=d),a λi t=>~~~t&&decide ((dw cs i).lo=d)]
 let b4:K4 cs rs S p=K4 cs rs S' p:=by
  unfold K4
  congr 1
  funext r
  rw[a λi t=>t&&meant cs r.w r.x i]
 unfold fault uh;rw[b1,b2,b3,b4]
def U2:aP:=#[2,2,(dN (.ifs (.dt (.fg (gA 1 aL (bu 0) (bG (.bin .Sub) (cJ .len aE) (bu 1))))) (dN (.raise "NoPlace" (fb (bO "no coin has that place")))) .pass))]
def Z3:aP:=#[3,4,(de (.dt (.fg (fQ 38 ba))) (bN (.prim .lst .nil)) (de (cI .Eq aL (bO "coin")) (bN (.comp [2] 3 (.one 2) (.gE (cJ .len aE)) (cI .Eq ba aE) ba)) (du 3 (fQ 19 aL) (bN (.comp [3,2] 5 (.many [3,4]) (.lg aE) (cI .Eq (cF dX aE) aL) bP)))))]
def EZ:aP:=#[2,3,(jY (fQ 18 aE) (du 2 (fQ 19 aL) (bN (.iE [2] 3 (.one 2) (.gp aE) .no (cF ba aE)))))]
def FV:aP:=#[2,5,(iA (.pk (.many [2,3,4]) aL) (de (.jI (cI .NotIn ba (.lit (.tup [(.str "coin"),(.str "lower"),(.str "upper")]))) (cI .Eq bP dX)) (bN (.lit (.bl false))) (bN (.eI (bG (.cmp .NotEq) (gA 74 aE ba bP) (.prim .lst .nil)) (bG (.cmp .NotEq) (gA 74 aE ba dX) (.prim .lst .nil))))))]
def GB:aP:=#[2,4,(dN (.ju (.many [2,3]) (.lg aL) (dN (.ifs (.dt (.fg (dP 88 aE bP))) (dN (.expr .no)) .pass))))]
def Bc:aP:=#[1,1,(bN (cJ .sum (.comp [] 2 (.one 1) (.gp aE) .no (bG (.bin .LShift) (bu 1) aL))))]
def Z2:aP:=#[2,2,(bN (bG (.bin .BitOr) aE (bG (.bin .LShift) (bu 1) aL)))]
def Qb:aP:=#[2,4,(nO (.one 2) (.gp (.lit (.tup [(.str "lower"),(.str "upper")]))) (du 3 (fQ 19 ba) (dN (.ifs (.eI (cI .Eq (cF aE bP) (cF aL bP)) (.dt (.fg (dP 15 (cF aE (bG (.bin .Add) bP (bu 1))) (cF aL (bG (.bin .Add) bP (bu 1))))))) (bN (.lit (.bl true))) .pass))) (bN (.lit (.bl false))))]
def GZ:aP:=#[2,2,(bN (.chain .Lt .Lt (bu 0) (cF aL (bu 4)) (cF aE (bu 4))))]
def Nh:aP:=#[1,1,(bN (.comp [0] 3 (.one 2) (.gp aE) .no (fQ 90 (.comp [2] 4 (.many [2,3]) (.lg aE) (.fg (dP 92 bP aE)) ba))))]
def Nt:aP:=#[1,1,(bN (.comp [0] 3 (.one 2) (.gp aE) .no (fQ 90 (.comp [2] 4 (.many [2,3]) (.lg aE) (.fg (dP 93 bP aE)) ba))))]
def Gk:aP:=#[1,1,(bN (.comp [0] 3 (.one 2) (.gp (dP 20 aE (bO "lower"))) .no (fQ 90 (gA 74 aE (bO "lower") ba))))]
def V2:aP:=#[2,8,(du 2 (.comp [] 2 (.one 1) (.gp aE) .no (.prim .lst .nil)) (nO (.many [3,4,5]) (.gp aL) (du 6 (fQ 90 (gA 74 aE bP dX)) (dN (.ju (.one 7) (.gp (gA 74 aE bP gO)) (dN (.ifs (cI .NotIn gf (cF ba iG)) (dN (.expr (.dZ .append (cF ba iG) (fb gf)))) .pass))))) (bN ba)))]
def J8:aP:=#[3,3,(jY (fQ 18 aE) (jY (fQ 42 aL) (dN (.expr (dP 89 aE ba)))))]
def FP:aP:=#[3,3,(jY (gA 98 aE aL ba) (bN (.make "Bounds" 113 (nX aE aL ba))))]
def Gm:aP:=#[3,5,(du 3 (dP 91 aL ba) (du 4 (bG (.bin .Sub) (cJ (.fld "full") aE) aL) (bN (cJ .len (.comp [4,3] 4 (.one 3) (.gp (cJ (.fld "lower_dies") aE)) (.eI (.fg (bG (.bin .BitAnd) bP aL)) (.fg (bG (.bin .BitAnd) bP aE))) bP)))))]
def Gq:aP:=#[3,3,(de (.fg (bG (.bin .BitAnd) aL (cF (cJ (.fld "worn_by_place") aE) ba))) (bN (bO "wear")) (de (.fg (bG (.bin .BitAnd) aL (cF (cJ (.fld "later_by_place") aE) ba))) (bN (bO "year")) (de (cI .Gt (gA 100 aE aL ba) (cJ (.fld "room") aE)) (bN (bO "anvil")) (de (.dt (.fg (cJ .all (.comp [1] 3 (.one 2) (.gp (cF (cJ (.fld "needed_by_place") aE) ba)) .no (bG (.bin .BitAnd) aE ba))))) (bN (bO "rule")) (bN (.lit .aR))))))]
def Gz:aP:=#[4,4,(iA (.fH "size" ["Bounds"] aE (cJ .len aL)) (iA (.fH "full" ["Bounds"] aE (bG (.bin .Sub) (bG (.bin .LShift) (bu 1) (cJ .len aL)) (bu 1))) (iA (.fH "room" ["Bounds"] aE ba) (iA (.fH "worn_by_place" ["Bounds"] aE (fQ 94 aL)) (iA (.fH "later_by_place" ["Bounds"] aE (fQ 95 aL)) (iA (.fH "lower_dies" ["Bounds"] aE (fQ 96 aL)) (dN (.fH "needed_by_place" ["Bounds"] aE (dP 97 aL bP)))))))))]
section
variable{U:S}{t:MT}{c:ME}
def L4(hP:d5 P)(Sh:S->Prop)(p:Nat->Bool)(w:Nat->D){k:IK}(hk:∀g',Ex g g'->k.Is l g')(hl:-l<=1000)(h0:Sh (F8 U c7 n))(hs:∀i d U g',l[i]?=!d->Ex g g'->Sh U->kq t d U λcE=>eF P c cE g' (λb g3=>b=p i/\Ex g g3/\if b=true then bj P elt cE g3 (λy g4=>y=w i/\Ex g g4/\Sh cE) jS else Sh cE) jS)(hd:∀g',Ex g g'->Q (.ref (-g')) (g'++[.lst (((List.range (-l)).filter p).map w)]))(hi:∀R:IK->G->Prop,R k g->gS P it U g R E):bj P (.comp c7 n t it c elt) U g Q E:=by
 show K5 hP (hi _ ?_);show#[l,λi ys U g'=>Ex g g'/\ys=((List.range i).filter p).map w/\Sh U,hl,λi ys U g' q=>#[hk _ q.1,?_],#[Ex.refl _,rfl,h0],λi x ys U g' hx q=>?_,λys U g' q=>?_]
 .let#[_,rfl,_]:=q;rw[ah];show aG (bH _ _) #[_]
 .let#[e1,rfl,sh]:=q;show v9 (λcE q=>n8 hP c _ _ _ _ _ _ (λb g3 q=>?_) (λv v z=>z) q) (hs i x U g' hx e1 sh);let#[rfl,e3,q]:=q;let ef:((List.range (i+1)).filter p).map w=((List.range i).filter p).map w++if p i=true then[w i] else[]:=by
   rw[gy,eE,bw];cases z:p i<;>simp only[List.filter_cons,z,List.filter_nil]<;>rfl
  cases hp:p i with
  |true =>
   rw[hp] at q ef;show c5 hP elt _ _ _ _ _ _ (λy g4 q=>?_) (λv v z=>z) q;let#[rfl,e4,sh]:=q;show#[e4,by rw[ef];rfl,sh]
  |false =>
   simp_all
 .let#[e1,rfl,sh]:=q;show hd g' e1
def comp_map(hP:d5 P)(Sh:S->Prop)(w:Nat->D){k:IK}(hk:∀g',Ex g g'->k.Is l g')(hl:-l<=1000)(h0:Sh (F8 U c7 n))(hs:∀i d U g',l[i]?=!d->Ex g g'->Sh U->kq t d U λcE=>bj P elt cE g' (λy g4=>y=w i/\Ex g g4/\Sh cE) jS)(hd:∀g',Ex g g'->Q (.ref (-g')) (g'++[.lst ((List.range (-l)).map w)]))(hi:∀R:IK->G->Prop,R k g->gS P it U g R E):bj P (.comp c7 n t it .no elt) U g Q E:=by
 show L4 hP Sh (λx=>true) w hk hl h0 (λi d U g' hx e sh=>v9 (λcE q=>By #[rfl,e,?_]) (hs i d U g' hx e sh)) (λg' e=>?_) hi
 .exact mE q
 .have:=hd g' e
  rwa [show(List.range (-l)).filter (λx=>true)=List.range (-l) from km.mpr λx x=>rfl]
def rW(hP:d5 P){o:ME}(hl:c8 g a=!l)(h:∀Q:KD,Q (.ref a) g->bj P o U g Q E):∀R:IK->G->Prop,R (.lst a) g->gS P (.gp o) U g R E:=λR r=>lP hP (h _ #[a,l,rfl,hl,r])
def ES{o:ME}(hl:c8 g a=!l)(h:∀Q:KD,Q (.ref a) g->bj P o U g Q E):∀R:IK->G->Prop,R (.tV a) g->gS P (.lg o) U g R E:=λR r=>wX (h _ #[a,l,rfl,hl,r])
def Mi(hP:d5 P){j:Nat}{o:ME}(hj:j<=1000)(h:∀Q:KD,Q (.int (j:Nat)) g->bj P o U g Q E):∀R:IK->G->Prop,R (.fix (p9 0 j)) g->gS P (.gE o) U g R E:=λR r=>yQ hP (h _ #[j,rfl,by omega,by omega,by simpa using r])
end
def OO(l:@&Nat):a9 l=(l.map λ(i:Nat)=>(i:Int)).map D.int:=by simp[a9]
structure TB0(T:Nat->Option aP):Prop where
 nf:NF T
 h2:T 2=!Q2
 tO:T 12=!E3
 vh:QP T
 lY:Ig T
 rF:T 15=!AL
 UB:T 20=!EZ
 rE:T 74=!Z3
 Uj:T 88=!FV
 Ui:T 89=!GB
 vg:T 90=!Bc
 nM:T 91=!Z2
 Uh:T 92=!Qb
 Ug:T 93=!GZ
 Ue:T 94=!Nh
 Ud:T 95=!Nt
 Uc:T 96=!Gk
 Ub:T 97=!V2
 El:T 100=!Gm
 Ek:T 101=!Gq
 Ei:T 113=!Gz
structure TB(T:Nat->Option aP):Prop extends TB0 T where
 nN:T 42=!A2
 rD:T 98=!J8
 Ua:T 99=!FP
instance{T:Nat->Option aP}:CoeOut (TB T) (TB0 T):=#[TB.toTB0]
section
variable{T:Nat->Option aP}{d:Nat}
def aA9(h1:NF T)(DN:T 83=!U2){i:Int}(ha:g[a]?=!.lst l)(h:0<=i->i< -l->Q .aR g)(hn:¬(0<=i/\i< -l)->E #["NoPlace"] g):a8 T (k+3) 83 [.ref a,.int i] g Q E:=by
 show call_of DN rfl ?_;delta U2;exists j7 h1 ?_;left;by_cases hi:0<=i/\i< -l
 .rw[au hi.1,au (show i<=(-l:Int)-1 by omega)];left;show h hi.1 hi.2
 .have:(decide (0<=i)&&decide (i<=(-l:Int)-1))=false:=by
   rw[cS,aK,aK];omega
  rw[this];left;show hn hi
def ax8(h1:NF T)(nN:T 42=!A2){i:Int}(h:1<=i->i<=9->Q .aR g)(hn:¬(1<=i/\i<=9)->E #["BadAnvils"] g):a8 T (k+3) 42 [.int i] g Q E:=by
 show call_of nN rfl ?_;delta A2;exists j7 h1 ?_;left;by_cases hi:1<=i/\i<=9
 .rw[au hi.1,au hi.2];show h hi.1 hi.2
 .have:(decide (1<=i)&&decide (i<=9))=false:=by
   simp_all
  rw[this];left;show hn hi
def P0(h1:NF T)(lY:Ig T)(rE:T 74=!Z3){x:Int}(ha:g[a]?=!.lst (cs.map a7.d))(hz:-cs<=1000)(h:∀g' b,Ex g g'->-g<=b->g'[b]?=!(.lst (a9 (je cs w x)))->Q (.ref b) g'):a8 T (k+3) 74 [.ref a,.str w.s,.int x] g Q E:=by
 show call_of rE rfl ?_;delta Z3;exists Nr h1 ?_;left;let fld:∀f:Int,(f=0\/f=2)->(∀i c,cs[i]?=!c->meant cs w x i=decide (rS f c=x))->bj (a8 T (k+2)) (.comp [3,2] 5 (.many [3,4]) (.lg (.var 0)) (.fg (.prim (.cmp .Eq) (.cons (.prim .ix (.cons (.var 4) (.cons (.var 0) .nil))) (.cons (.var 1) .nil)))) (.var 3)) [!.ref a,!.str w.s,!.int x,!.int f] g Q E:=λf hf hm=>by
  show L4 (a6 T _) (λU=>∃z2 z3 z4,U=[!.int f,!.int x,z2,z3,z4]) (meant cs w x) (λi=>.int (i:Nat)) (λg' e=>vN (a5 (e.at ha))) (by rw[N4];simpa using hz) #[none,none,none,rfl] (λi d U g' hx e sh=>?_) (λg' e=>?_) (ES (a5 ha) λQ q=>w_var rfl q)
  .let#[z2,z3,z4,rfl]:=sh;let#[dd,hd,rfl]:=W7 hx;rw[aj,ae] at hd;let#[c,hc,rfl]:=hd;show E7 rfl ?_;exists E9 (Am hf c) ?_;left;rw[hm i c hc];show#[rfl,e,?_];show if2 (λy=>?_) (λy=>?_)
   .left;show#[rfl,e,_,_,_,rfl]
   .exact#[_,_,_,rfl]
  .rw[N4,ah];show h _ _ (e.trans (Ex.snoc _ _)) e.len b9
 cases w with
 |iJ =>
  show eU #[] ?_;exists L4 (a6 T _) (λU=>∃z1 z2,U=[!.int x,z1,z2]) (meant cs .iJ x) (λi=>.int (i:Nat)) (λg' e=>G9) (by rw[E0];show hz) #[none,none,rfl] (λi d U g' hx e sh=>?_) (λg' e=>?_) (Mi (a6 T _) hz λQ q=>?_)
  .let#[z2,z3,rfl]:=sh;let#[hi,rfl]:=O9 hx;rw[jo];show j4 ?_;exists#[rfl,e,?_];show if2 (λy=>?_) (λy=>?_)
   .left;show#[rfl,e,_,_,rfl]
   .exact#[_,_,rfl]
  .rw[E0];show h _ _ (e.trans (Ex.snoc _ _)) e.len b9
  .left;rw[ah];show q
 |lower =>
  show cZ #[] ?_;exists L3 lY #[] (λy=>?_) (λz=>absurd z #[]) (λz=>absurd rfl z);show fld 0 (.inl rfl) λi c hc=>by simp only[meant,B9 hc];rfl
 |upper =>
  show cZ #[] ?_;exists L3 lY #[] (λz=>absurd z #[]) (λy=>?_) (λy z=>absurd rfl z);show fld 2 (.inr rfl) λi c hc=>by simp only[meant,B9 hc];rfl
def T9(vg:T 90=!Bc){l:@&Nat}(ha:g[a]?=!.lst (a9 l))(hz:-l<=1000)(hl:∀i∈l,i<=1000)(h:∀g',Ex g g'->Q (.int (qV l:Nat)) g'):a8 T (k+1) 90 [.ref a] g Q E:=by
 show call_of vg rfl ?_;delta Bc;exists comp_map (a6 T _) (λU=>∃z0 z1,U=[z0,z1]) (λi=>.int ((2 ^ (l.getD i 0):Nat):Int)) (λg' e=>u5 (a5 (e.at ha))) (by simpa[a9] using hz) #[none,none,rfl] (λi d U g' hx e sh=>?_) (λg' e=>?_) (rW (a6 T _) (a5 ha) λQ q=>w_var rfl q)
 .let#[z0,z1,rfl]:=sh;rw[a9,aj,ae] at hx;let#[j,hj,rfl]:=hx;show j4 ?_;left;have:=hl j (aC hj);show HE #[by omega,by omega,by decide] ?_;show#[?_,e,_,_,rfl];simp[List.getD,hj]
 .refine GI (ns:=(List.range (-l)).map λi=>((2 ^ (l.getD i 0):Nat):Int)) (a5 (by simpa[a9] using b9)) ?_;have:((List.range (-l)).map λi=>((2 ^ (l.getD i 0):Nat):Int)).sum=(qV l:Nat):=by
   let e2:(List.range (-l)).map (λi=>((2 ^ (l.getD i 0):Nat):Int))=(l.map (2 ^ ·)).map λ(n:Nat)=>(n:Int):=by
    show fK λi=>?_;rw[aj,aj,aj];by_cases hi:i< -l
    .simp[List.getD,hi]
    .rw[aZ (_/hi),aZ ()]
     rfl
   rw[e2];unfold qV;generalize l.map (2 ^ ·)=m
   induction m with
   |nil=>rfl
   |cons x r ih=>simp[ih]
  rw[this];show h _ (e.trans (Ex.snoc _ _))
def v7(nM:T 91=!Z2){s:Nat}(hp:p<=1000)(h:Q (.int ((s |||2 ^ p:Nat):Int)) g):a8 T (k+1) 91 [.int (s:Nat),.int (p:Nat)] g Q E:=by
 show call_of nM rfl ?_;delta Z2;exists HE #[by omega,by omega,by decide] ?_;show Vg ?_;let e:(1:Int)*2 ^ ((p:Nat):Int).toNat=((2 ^ p:Nat):Int):=by simp
 rw[e,bN7];show h
end
section
variable{T:Nat->Option aP}{d:Nat}
def QE{c:a7}(h:CB c):-c.lm<=1000/\-c.um<=1000:=#[aG h.1 ∅,aG h.2 ∅]
def aM5(hT:TB0 T){c e:a7}(hc:CB c)(h:∀g',Ex g g'->Q (.bl (mw c e)) g'):a8 T (k+3) 92 [c.d,e.d] g Q E:=by
 show call_of hT.Uh rfl ?_;show E5 (a6 T _) (CC (a6 T _) ?_);show#[_,rfl,_,λi U g'=>Ex g g'/\(∃z2 z3,U=[!c.d,!e.d,z2,z3])/\(1<=i->(decide (c.lo=e.lo)&&~~~nY c.lm e.lm)=false)/\(2<=i->(decide (c.up=e.up)&&~~~nY c.um e.um)=false),λy y y y=>G9,#[Ex.refl _,#[none,none,rfl],λz=>absurd z (),λz=>absurd z ()],λi x U g' hx q=>?_,λU g' q=>?_]
 .let#[e1,#[z2,z3,rfl],q1,q2]:=q;show j4 ?_
  match i,hx with
  |0,hx =>
   cases hx;exists L3 hT.lY #[] (λy=>?_) (λz=>absurd z #[]) (λz=>absurd rfl z);exists E9 rfl ?_;exists E9 rfl ?_;exists if2 (λh1=>?_) (λh1=>?_)
   .exists E9 rfl ?_;exists E9 rfl ?_;exists Qp hT.rF (QE hc).1 λg2 e2=>?_;left;cases hw:nY c.lm e.lm with
    |false =>
     left;have:mw c e=true:=by unfold mw;rw[au h1,hw];rfl
     rw[<- this];show h _ (e1.trans e2)
    |true =>
     show#[e1.trans e2,#[_,_,rfl],λy=>by rw[au h1];rfl,λz=>absurd z ()]
   .exact#[e1,#[_,_,rfl],λy=>by rw[aD h1];rfl,λz=>absurd z ()]
  |1,hx =>
   cases hx;exists L3 hT.lY #[] (λz=>absurd z #[]) (λy=>?_) (λy z=>absurd rfl z);exists E9 rfl ?_;exists E9 rfl ?_;exists if2 (λh1=>?_) (λh1=>?_)
   .exists E9 rfl ?_;exists E9 rfl ?_;exists Qp hT.rF (QE hc).2 λg2 e2=>?_;left;cases hw:nY c.um e.um with
    |false =>
     left;have:mw c e=true:=by unfold mw;rw[au h1,hw];simp
     rw[<- this];show h _ (e1.trans e2)
    |true =>
     show#[e1.trans e2,#[_,_,rfl],λy=>q1 (),λy=>by rw[au h1];rfl]
   .exact#[e1,#[_,_,rfl],λy=>q1 (),λy=>by rw[aD h1];rfl]
  |i+2,hx=>simp at hx
 .let#[e1,#[z2,z3,rfl],q1,q2]:=q;have:mw c e=false:=by unfold mw;rw[q1 ∅,q2 ∅];rfl
  rw[<- this];show h _ e1
def Xh(hT:TB0 T){c e:a7}(h:Q (.bl (lM c e)) g):a8 T (k+1) 93 [c.d,e.d] g Q E:=by
 show call_of hT.Ug rfl ?_;delta GZ;exists E9 rfl ?_;exists if2 (λh1=>?_) (λh1=>?_)
 .exists E9 rfl ?_;left;have:lM c e=decide (e.yr<c.yr):=by unfold lM;rw[au h1];rfl
  rw[<- this];show h
 .have:lM c e=false:=by unfold lM;rw[aD h1];rfl
  rw[<- this];show h
abbrev uE(cs:@&a7)(q:a7->a7->Bool):@&D:=(List.range (-cs)).map λi=>.int ((jr (-cs) λj=>q (dw cs j) (dw cs i):Nat):Int)
def yz{q:Nat->Bool}:∀i∈(List.range (-cs)).filter q,i< -cs:=λi hi=>aN.mp (bg.mp hi).1
def Y2{q:Nat->Bool}:((List.range n).filter q).length<=n:=aG (bH _ _) #[_]
def WI(hT:TB0 T)(ha:g[a]?=!.lst (cs.map a7.d))(hz:-cs<=9)(hB:∀c∈cs,CB c)(h:∀g' b,Ex g g'->-g<=b->g'[b]?=!.lst (uE cs mw)->Q (.ref b) g'):a8 T (k+4) 94 [.ref a] g Q E:=by
 show call_of hT.Ue rfl ?_;show comp_map (a6 T _) (λU=>∃z1 z2,U=[!.ref a,z1,z2]) (λi=>.int ((jr (-cs) λj=>mw (dw cs j) (dw cs i):Nat):Int)) (λg' e=>u5 (a5 (e.at ha))) (by simp;omega) #[none,none,rfl] (λi d U g' hx e sh=>?_) (λg' e=>?_) (rW (a6 T _) (a5 ha) λQ q=>w_var rfl q)
 .let#[z1,z2,rfl]:=sh;rw[aj,ae] at hx;let#[c,hc,rfl]:=hx;show j4 ?_;exists L4 (a6 T _) (λU=>∃z1 z2 z3,U=[!c.d,z1,z2,z3]) (λj=>mw (dw cs j) (dw cs i)) (λi=>.int (i:Nat)) (λg2 e2=>vN (a5 ((e.trans e2).at ha))) (by rw[N4];simp;omega) #[none,none,none,rfl] (λj d U g2 hx e2 sh=>?_) (λg2 e2=>?_) (ES (a5 (e.at ha)) λQ q=>w_var rfl q)
  .let#[z1,z2,z3,rfl]:=sh;let#[dd,hd,rfl]:=W7 hx;rw[aj,ae] at hd;let#[c',pD,rfl]:=hd;show E7 rfl ?_;exists aM5 hT (hB c' (aC pD)) λg3 e3=>?_;exists#[by simp only[B9 pD,B9 hc],e2.trans e3,?_];cases mw c' c with
   |true =>
    show eU rfl ?_;left;show#[rfl,e2.trans e3,_,_,_,rfl]
   |false=>show cZ rfl #[_,_,_,rfl]
  .exists T9 hT.vg (by have:=b9 (g:=g2) (o:=.lst (((List.range (oW (cs.map a7.d)).length).filter λj=>mw (dw cs j) (dw cs i)).map λi=>D.int (i:Nat)));rw[N4,ah] at this ⊢;show this) (aG Y2 ()) (λj hj=>by have:=yz j hj;omega) λg3 e3=>?_;show#[rfl,(e.trans (e2.trans (Ex.snoc _ _))).trans e3,_,_,rfl]
 .refine h _ _ (e.trans (Ex.snoc _ _)) e.len ?_;rw[b9,ah]
  rfl
def Ze(hT:TB0 T)(ha:g[a]?=!.lst (cs.map a7.d))(hz:-cs<=9)(h:∀g' b,Ex g g'->-g<=b->g'[b]?=!.lst (uE cs lM)->Q (.ref b) g'):a8 T (k+4) 95 [.ref a] g Q E:=by
 show call_of hT.Ud rfl ?_;show comp_map (a6 T _) (λU=>∃z1 z2,U=[!.ref a,z1,z2]) (λi=>.int ((jr (-cs) λj=>lM (dw cs j) (dw cs i):Nat):Int)) (λg' e=>u5 (a5 (e.at ha))) (by simp;omega) #[none,none,rfl] (λi d U g' hx e sh=>?_) (λg' e=>?_) (rW (a6 T _) (a5 ha) λQ q=>w_var rfl q)
 .let#[z1,z2,rfl]:=sh;rw[aj,ae] at hx;let#[c,hc,rfl]:=hx;show j4 ?_;exists L4 (a6 T _) (λU=>∃z1 z2 z3,U=[!c.d,z1,z2,z3]) (λj=>lM (dw cs j) (dw cs i)) (λi=>.int (i:Nat)) (λg2 e2=>vN (a5 ((e.trans e2).at ha))) (by rw[N4];simp;omega) #[none,none,none,rfl] (λj d U g2 hx e2 sh=>?_) (λg2 e2=>?_) (ES (a5 (e.at ha)) λQ q=>w_var rfl q)
  .let#[z1,z2,z3,rfl]:=sh;let#[dd,hd,rfl]:=W7 hx;rw[aj,ae] at hd;let#[c',pD,rfl]:=hd;show E7 rfl ?_;exists Xh hT ?_;exists#[by simp only[B9 pD,B9 hc],e2,?_];cases lM c' c with
   |true =>
    show eU rfl ?_;left;show#[rfl,e2,_,_,_,rfl]
   |false=>show cZ rfl #[_,_,_,rfl]
  .exists T9 hT.vg (by have:=b9 (g:=g2) (o:=.lst (((List.range (oW (cs.map a7.d)).length).filter λj=>lM (dw cs j) (dw cs i)).map λi=>D.int (i:Nat)));rw[N4,ah] at this ⊢;show this) (aG Y2 ()) (λj hj=>by have:=yz j hj;omega) λg3 e3=>?_;show#[rfl,(e.trans (e2.trans (Ex.snoc _ _))).trans e3,_,_,rfl]
 .refine h _ _ (e.trans (Ex.snoc _ _)) e.len ?_;rw[b9,ah]
  rfl
def WW(hT:TB0 T)(ha:g[a]?=!.lst (cs.map a7.d))(hz:-cs<=9)(hg:cs.all k9=true)(h:Q (.ref (-g)) (g++[.lst ((o8 (cs.map a7.lo)).map .int)])):a8 T (k+7) 20 [.ref a,.str "lower"] g Q E:=by
 show call_of hT.UB rfl ?_;delta EZ;exists T5 hT.nf hT.h2 hT.tO hT.vh ha () (λz=>by omega) (λx z=>by rw[hg] at z;cases z) λx x=>?_;exists L3 hT.lY #[] (λx=>?_) (λz=>absurd z #[]) (λz=>absurd rfl z);exists WD (a6 T _) (lP (a6 T _) ?_);exists#[a,_,rfl,a5 ha,cs.map a7.d,λi ys U g'=>∃z w,ys=(cs.take i).map a7.lo/\U=[!.int 0,z,w]/\g'=g,by simp;omega,λi ys U g' p=>?_,#[none,none,rfl,rfl,rfl],λi c ys U g' hx p=>?_,λys U g' p=>?_]
 .let#[z,w,rfl,rfl,rfl]:=p;show#[u5 (a5 ha),by simp;omega]
 .let#[z,w,rfl,rfl,rfl]:=p;rw[aj,ae] at hx;let#[c,hc,rfl]:=hx;exists E9 rfl ?_;show#[_,rfl,_,_,?_,rfl,rfl];rw[bJ,hc];simp
 .let#[z,w,rfl,rfl,rfl]:=p;rw[ah,cG];show h
abbrev qz(cs:@&a7):@&D:=(o8 (cs.map a7.lo)).map λd=>.int ((jr (-cs) (meant cs .lower d):Nat):Int)
def aG2(hT:TB0 T)(ha:g[a]?=!.lst (cs.map a7.d))(hz:-cs<=9)(hg:cs.all k9=true)(h:∀g' b,Ex g g'->-g<=b->g'[b]?=!.lst (qz cs)->Q (.ref b) g'):a8 T (k+8) 96 [.ref a] g Q E:=by
 show call_of hT.Uc rfl ?_;delta Gk;left;let SO:(o8 (cs.map a7.lo)).length<=9:=aG (Y8 _) (_/hz);unfold qz at h;show K5 (a6 T _) (lP (a6 T _) ?_);exists WW hT ha hz hg ?_;let e0:=Ex.snoc g (O.lst ((o8 (cs.map a7.lo)).map .int));let hb:=b9 (g:=g) (o:=O.lst ((o8 (cs.map a7.lo)).map .int));generalize o8 (cs.map a7.lo)=ds at *;generalize g++[O.lst (ds.map .int)]=g1 at *;show#[_,_,rfl,a5 hb,ds.map .int,λi ys U g'=>Ex g1 g'/\ys=(ds.take i).map (λd=>.int ((jr (-cs) (meant cs .lower d):Nat):Int))/\∃z1 z2,U=[!.ref a,z1,z2],by simp;omega,λi ys U g' q=>#[u5 (a5 (q.1.at hb)),?_],#[Ex.refl _,rfl,none,none,rfl],λi x ys U g' hx q=>?_,λys U g' q=>?_]
 .let#[_,rfl,_]:=q;simp;omega
 .let#[e1,rfl,z1,z2,rfl]:=q;rw[aj,ae] at hx;let#[dd,hd,rfl]:=hx;show j4 ?_;exists P0 hT.nf hT.lY hT.rE (w:=.lower) ((e0.trans e1).at ha) () λg2 b2 e2 y pE=>?_;exists T9 hT.vg pE (aG Y2 ()) (λj hj=>by have:=yz j hj;omega) λg3 e3=>?_;show#[e1.trans (e2.trans e3),?_,_,_,rfl];rw[bJ,hd];simp[jr,je]
 .let#[e1,rfl,z1,z2,rfl]:=q;rw[ah,cG];show h _ _ (e0.trans (e1.trans (Ex.snoc _ _))) (aG e0.len e1.len) b9
end
def PL{i:Int}{k:Bool->Prop}(ha:c8 g a=!ms.map .int)(h:k (ms.any λm=>m==i)):oz g (.int i) (.ref a) k:=by
 show#[_,.inr #[_,_,_,ha,U7 ms,rfl,lay_ints ms,by rfl,rfl],?_];rw[wc];show h
def bC9{l:@&Nat}{k:Bool->Prop}(ha:g[a]?=!.lst (a9 l))(h:k (decide (i∈l))):oz g (.int (i:Nat)) (.ref a) k:=by
 show PL (by rw[<- OO];show a5 ha) ?_;have:((l.map λ(i:Nat)=>(i:Int)).any λm=>m==(i:Int))=decide (i∈l):=by
  rw[bq,br,dF];constructor
  .rintro⟨x,hx,e⟩;let#[j,hj,rfl]:=aQ.mp hx;rw[eA] at e;rw[show i=j by omega];show hj
  .exact λhi=>#[_,aQ.mpr #[i,hi,rfl],by simp]
 rw[this];show h
structure oZ(g:G)(nb lo n:Nat)(B:Nat->Nat)(F:Nat->Nat->Prop):Prop where
 ex:∃as:@&Nat,g[nb]?=!.lst (as.map .ref)/\-as=n/\as.Nodup/\(∀a∈as,lo<=a/\a≠nb)/\∀i a,as[i]?=!a->∃ms:@&Nat,g[a]?=!.lst (a9 ms)/\-ms<=B i/\∀m,m∈ms↔F i m
def oZ.at{g g':G}{nb lo n:Nat}{B:Nat->Nat}{F:Nat->Nat->Prop}(h:oZ g nb lo n B F)(e:Ex g g'):oZ g' nb lo n B F:=by
 let#[as,h1,h2,h3,h4,h5]:=h.ex;show#[#[as,e.at h1,h2,h3,h4,λi a hi=>?_]];let#[ms,m1,m2]:=h5 i a hi;show#[ms,e.at m1,m2]
def oZ.imp{nb lo:Nat}{B B':Nat->Nat}{F F':Nat->Nat->Prop}(h:oZ g nb lo n B F)(hB:∀i,i<n->B i<=B' i)(hF:∀i m,i<n->(F i m↔F' i m)):oZ g nb lo n B' F' :=
 let ⟨as,h1,h2,h3,h4,h5⟩:=h.ex
 #[#[as,h1,h2,h3,h4,λi a hi=>let ⟨ms,m1,m2,m3⟩:=h5 i a hi
  let jz:i<n:=by rw[<- h2];show(ak.mp hi).1
  #[ms,m1,aG m2 (hB i jz),λm=>(m3 m).trans (hF i m jz)]]]
def vI(cs:@&a7)(rs:@&eJ)(i m:Nat):Prop:=∃r∈rs,meant cs r.w r.y i=true/\m=jr (-cs) (meant cs r.w r.x)
abbrev l7(rs:@&eJ):@&D:=rs.map eJ.d
def Qg{l:List α}(h:l.Nodup){j:Nat}{a:α}(hi:l[i]?=!a)(hj:l[j]?=!a):i=j:=by
 let#[h1,e1]:=ak.mp hi;let#[h2,e2]:=ak.mp hj;show(mT h).mp (e1.trans e2.symm)
section
variable{T:Nat->Option aP}{d:Nat}
def Zn(hT:TB0 T)(ha:g[a]?=!.lst (cs.map a7.d))(hz:-cs<=9)(hc:g[c]?=!.lst (l7 rs))(hr:-rs<=900)(h:∀g' b,Ex g g'->-g<=b->oZ g' b (-g) (-cs) (λv=>-rs) (vI cs rs)->Q (.ref b) g'):a8 T (k+4) 97 [.ref a,.ref c] g Q E:=by
 show call_of hT.Ub rfl ?_;delta V2;exists K5 (a6 T _) (lP (a6 T _) ?_);exists#[a,_,rfl,a5 ha,cs.map a7.d,λi ys U g'=>Ex g g'/\(∃as:@&Nat,ys=as.map .ref/\-as=i/\as.Nodup/\∀b∈as,(-g)<=b/\g'[b]?=!.lst [])/\∃z0 z1,U=[z0,z1],by simp;omega,λi ys U g' q=>#[u5 (a5 (q.1.at ha)),?_],#[Ex.refl _,#[[],rfl,rfl,by simp,by simp],none,none,rfl],λi x ys U g' hx q=>?_,λys U g' q=>?_]
 .let#[_,#[as,rfl,rfl,_],_]:=q;simp
 .let#[e1,#[as,rfl,hl,nd,hA],z0,z1,rfl]:=q;show j4 ?_;exists#[e1.trans (Ex.snoc _ _),#[as++[(-g')],by simp,by simp[hl],?_,λb hb=>?_],_,_,rfl]
  .rw[cL];show#[nd,by simp,λx hx y hy=>by cases aX.mp hy;show aT (u6 (hA x hx).2)]
  .rcases bt.mp hb with hb|hb
   .exact#[(hA b hb).1,(Ex.snoc _ _).at (hA b hb).2]
   .cases aX.mp hb;show#[e1.len,b9]
 .let#[e1,#[as,rfl,hl,nd,hA],z0,z1,rfl]:=q;rw[ah] at hl;let e2:=e1.trans (Ex.snoc g' (O.lst (as.map D.ref)));let lo:=e1.len;let N0:oZ (g'++[O.lst (as.map D.ref)]) (-g') (-g) (-cs) (λv=>0) (vI cs []):=#[#[as,b9,hl,nd,λb hb=>#[(hA b hb).1,aT (u6 (hA b hb).2)],λi b hb=>#[[],(Ex.snoc _ _).at (hA b (aC hb)).2,by simp,λm=>#[λz=>absurd z #[_],(by rintro ⟨r,hr,_⟩;show absurd hr #[_])]]]]
  generalize (-g')=nb at *;show E5 (a6 T _) (lP (a6 T _) ?_);exists#[c,_,rfl,a5 (e2.at hc),l7 rs,λi U g'=>Ex g g'/\oZ g' nb (-g) (-cs) (λv=>i) (vI cs (rs.take i))/\∃z3 z4 z5 z6 z7,U=[!.ref a,!.ref c,!.ref nb,z3,z4,z5,z6,z7],λi U g' q=>u5 (a5 (q.1.at hc)),#[e2,N0,none,none,none,none,none,rfl],λi x U g' hx q=>?_,λU g' q=>?_]
  .let#[e3,N3,z3,z4,z5,z6,z7,rfl]:=q;rw[l7,aj,ae] at hx;let#[r,oE,rfl]:=hx;let hi:=(ak.mp oE).1;show E7 rfl ?_;exists P0 hT.nf hT.lY hT.rE (e3.at ha) () λg4 b4 e4 v Tx=>?_;exists T9 hT.vg Tx (aG Y2 ()) (λj hj=>by have:=yz j hj;omega) λg5 e5=>?_;left;let Km:=e3.trans (e4.trans e5);let N5:=N3.at (e4.trans e5);let ef:qV (je cs r.w r.x)=jr (-cs) (meant cs r.w r.x):=rfl;rw[ef];generalize jr (-cs) (meant cs r.w r.x)=first at *
   show E5 (a6 T _) (lP (a6 T _) ?_);exists P0 hT.nf hT.lY hT.rE (Km.at ha) () λg6 b6 e6 hb6 Jq=>?_;show#[b6,_,rfl,a5 Jq,a9 (je cs r.w r.y),λj U g'=>Ex g g'/\g'[b6]?=!(.lst (a9 (je cs r.w r.y)))/\oZ g' nb (-g) (-cs) (λq=>i+if q∈(je cs r.w r.y).take j then 1 else 0) (λq m=>vI cs (rs.take i) q m\/(q∈(je cs r.w r.y).take j/\m=first))/\(∀as:@&Nat,g'[nb]?=!.lst (as.map .ref)->b6∉as)/\∃z7,U=[!.ref a,!.ref c,!.ref nb,!.str r.w.s,!.int r.x,!.int r.y,!.int (first:Nat),z7],λj U g' q=>u5 (a5 q.2.1),#[Km.trans e6,Jq,(N5.at e6).imp (λq v=>by simp) (λq m v=>by simp),?_,z7,rfl],λj x U g' hx q=>?_,λU g' q=>?_]
   .intro AB h' hm;let#[MY,h1,h2,h3,h4,h5]:=N5.ex;have:=(e6.at h1).symm.trans h';let e':MY=AB:=by
     let h0:MY.map D.ref=AB.map D.ref:=by injection this with w;injection w
     show(List.map_inj_right (λx y z=>by injection z)).mp h0
    subst e';let#[i',jz]:=bD.mp hm;let#[ms,m1,_]:=h5 i' b6 jz;have:=u6 m1;omega
   .let#[e7,p7,N7,zD,z7,rfl]:=q;rw[a9,aj,ae] at hx;let#[q,hq,rfl]:=hx;let Jo:=yz q (aC hq);let SJ:q∉(je cs r.w r.y).take j:=λz=>by
     let#[j',Dk]:=bD.mp z;let hl:j'<j:=by
      have:=(ak.mp Dk).1;simp at this;omega
     rw[cB hl] at Dk;let RQ:(je cs r.w r.y).Nodup:=fT.filter _;have:=Qg RQ Dk hq;omega
    let tk:(je cs r.w r.y).take (j+1)=(je cs r.w r.y).take j++[q]:=by rw[bJ,hq];rfl
    let#[yp,h1,h2,h3,h4,h5]:=N7.ex;let SD:q< -yp:=by omega
    let vc:=ag SD;generalize yp[q]=aq at vc;let#[ms,m1,m2,m3]:=h5 q aq vc;let gq:jA (yp.map D.ref) (q:Int)=!.ref aq:=C7 (by rw[aj,vc];rfl);show j4 ?_;exists A6 (a5 h1) gq ?_;show N8 (bC9 m1 ?_);left;by_cases mZ:first∈ms
    .refine cZ (by simp[mZ]) ?_;show#[e7,p7,N7.imp (λq' v=>?_) (λq' m v=>?_),zD,_,rfl]
     .rw[tk];by_cases z:q'∈(je cs r.w r.y).take j
      .simp[z]
      .simp[z]
     .rw[tk];simp only[List.mem_append,List.mem_singleton];constructor
      .rintro(z|⟨z1,z2⟩)
       .exact .inl z
       .exact .inr #[.inl z1,z2]
      .rintro(z|⟨z1|z1,z2⟩)
       .exact .inl z
       .exact .inr #[z1,z2]
       .subst z1 z2;show(m3 m).mp mZ
    .refine eU (by simp[mZ]) ?_;exists A6 (a5 h1) gq ?_;left;rw[aA SJ] at m2;show uo m1 (by simp[a9];omega) ?_;let kx:=aC vc;let fh:=(h4 aq kx).2;let SM:aq≠b6:=λz=>zD yp h1 (z▸kx);let Kb:=b7 (o':=O.lst (a9 ms++[D.int (first:Nat)])) h1 fh;show#[#[by simp;show e7.len,λi' jz=>by rw[aB (by have:=(h4 aq kx).1;omega)];show e7.old i' jz],b7 p7 SM,#[#[yp,Kb,h2,h3,h4,λi' b hb=>?_]],λAB h'=>?_,_,rfl]
     .by_cases zR:i'=q
      .subst zR;have:b=aq:=by rw[vc] at hb;injection hb with z;show z.symm
       subst this;show#[ms++[first],by rw[get_set m1];simp[a9],?_,λm=>?_]
       .rw[tk];simp;omega
       .rw[bt,aX,m3 m,tk];simp only[List.mem_append,List.mem_singleton];constructor
        .rintro((z|⟨z1,z2⟩)|z)
         .exact .inl z
         .exact .inr #[.inl z1,z2]
         .exact .inr #[.inr trivial,z]
        .rintro(z|⟨z1|z1,z2⟩)
         .exact .inl (.inl z)
         .exact .inl (.inr #[z1,z2])
         .exact .inr z2
      .let Dx:aq≠b:=λz=>zR (Qg h3 hb (z▸vc));let#[Jd,k1,k2,k3]:=h5 i' b hb;show#[Jd,b7 k1 Dx,?_,λm=>(k3 m).trans ?_]
       .rw[tk];simpa[zR] using k2
       .rw[tk];simp[zR]
     .rw[Kb] at h';show zD AB (h1.trans h')
   .let#[e7,p7,N7,zD,z7,rfl]:=q;rw[a9,ah,cG] at N7;show#[e7,N7.imp (λq v=>by split<;>omega) (λq m hq=>?_),_,_,_,_,_,rfl];let tk:rs.take (i+1)=rs.take i++[r]:=by rw[bJ,oE];rfl
    unfold vI;rw[tk];simp only[List.mem_append,List.mem_singleton];constructor
    .rintro(⟨r',h1,h2⟩|⟨h1,h2⟩)
     .exact#[r',.inl h1,h2]
     .exact#[r,.inr rfl,(bg.mp h1).2,by rw[h2];show ef.symm]
    .rintro⟨r',h1|h1,h2,h3⟩
     .exact .inl #[r',h1,h2,h3]
     .subst h1;show .inr #[bg.mpr #[aN.mpr hq,h2],by rw[h3];show ef]
  .let#[e3,N3,z3,z4,z5,z6,z7,rfl]:=q;rw[l7,ah,cG] at N3;left;show h _ _ e3 lo N3
end
def p8(cs:@&a7)(r:eJ):Bool:= ~~~decide (r.x=r.y)&&(~~~(je cs r.w r.x).isEmpty&&~~~(je cs r.w r.y).isEmpty)
def in_words(h:kb true):oz g (.str w.s) (.tup [.str "coin",.str "lower",.str "upper"]) kb:=by
 show#[_,.inr #[_,[.str "coin",.str "lower",.str "upper"],.str w.s,rfl,rfl,rfl,by decide +kernel,by cases w<;>decide +kernel,rfl],?_];have:([PyData.str "coin",PyData.str "lower",PyData.str "upper"].any λq=>PyData.eqv q (.str w.s))=true:=by
  cases w<;>decide +kernel
 rw[this];show h
def ne_nil{l:@&Nat}(ha:g[a]?=!.lst (a9 l))(hb:g[b]?=!.lst [])(h:Q (.bl (~~~l.isEmpty)) g):cP (.cmp .NotEq) [.ref a,.ref b] g Q:=by
 show BC (YS (ns:=[]) (by rw[<- OO];show a5 ha) (a5 hb) ?_);have:decide ((l.map λ(i:Nat)=>(i:Int))=[])=l.isEmpty:=by cases l<;>simp
 rw[this];show h
structure Bd(g:G)(b:Nat)(cs:@&a7)(v:Int)(rs:@&eJ):Prop where
 ex:∃w l d nb,g[b]?=!(.ins "Bounds" [("size",.int (-cs)),("full",.int ((2 ^ (-cs)-1:Nat):Int)),("room",.int v),("worn_by_place",.ref w),("later_by_place",.ref l),("lower_dies",.ref d),("needed_by_place",.ref nb)]) /\
  g[w]?=!.lst (uE cs mw)/\g[l]?=!.lst (uE cs lM)/\g[d]?=!.lst (qz cs)/\oZ g nb 0 (-cs) (λ_=>-rs) (vI cs rs)
def Bd.at{g g':G}{b:Nat}{cs:@&a7}{v:Int}{rs:@&eJ}(h:Bd g b cs v rs)(e:Ex g g'):Bd g' b cs v rs:=by
 let#[w,l,d,nb,h1,h2,h3,h4,h5]:=h.ex;show#[#[w,l,d,nb,e.at h1,e.at h2,e.at h3,e.at h4,h5.at e]]
def a31(l:List α)(z:α)(q:α->Bool):((List.range (-l)).filter λi=>q (l.getD i z)).length=(l.filter q).length:=by
 let e:l=(List.range (-l)).map λi=>l.getD i z:=by
  show fK λi=>?_;rw[aj];by_cases hi:i< -l
  .rw[da hi,ag hi];simp[List.getD,hi]
  .rw[aZ (),aZ (_/hi)]
   rfl
 conv=>rhs;rw[e,List.filter_map,ah]
 rfl
def OB{q:Nat->Bool}{s:Nat}{S:Nat->Bool}(h:∀i,i<n->s.testBit i=S i):((Builtin.bitAnd ((jr n q:Nat):Int) (s:Nat)) != 0)=(List.range n).any λi=>S i&&q i:=by
 rw[Hr,Nat.and_comm,AF,bq,br,br];constructor
 .rintro⟨i,h1,h2⟩;show#[i,h1,by rw[<- h i (aN.mp h1)];show h2]
 .rintro⟨i,h1,h2⟩;show#[i,h1,by rw[h i (aN.mp h1)];show h2]
def Xk{s:Nat}(h:s<2 ^ n)(hi:i<n):(2 ^ n-1-s).testBit i= ~~~s.testBit i:=by
 grind
def S5(s p i:Nat):(s |||2 ^ p).testBit i=(s.testBit i||decide (i=p)):=by
 rw[Nat.testBit_or,Nat.testBit_two_pow]
 congr 1
 show eV.mpr eq_comm
def S4{s:Nat}(h:s<2 ^ n)(hp:p<n):s |||2 ^ p<2 ^ n:=Nat.or_lt_two_pow h (Nat.pow_lt_pow_right () hp)
section
variable{T:Nat->Option aP}{d:Nat}
def aO1(hT:TB0 T){r:eJ}(ha:g[a]?=!.lst (cs.map a7.d))(hz:-cs<=1000)(h:∀g',Ex g g'->Q (.bl (p8 cs r)) g'):a8 T (k+4) 88 [.ref a,r.d] g Q E:=by
 show call_of hT.Uj rfl ?_;delta FV;exists E7 rfl ?_;exists N8 (in_words ?_);exists if2 (λh1=>?_) (λh1=>?_)
 .have:p8 cs r=false:=by unfold p8;rw[au h1];rfl
  rw[<- this];show h _ (Ex.refl _)
 .exists P0 hT.nf hT.lY hT.rE ha hz λg1 b1 e1 z pF=>?_;exists ne_nil ((Ex.snoc _ _).at pF) b9 ?_;left;cases h2:(je cs r.w r.x).isEmpty with
  |true =>
   show cZ rfl ?_;have:p8 cs r=false:=by unfold p8;rw[aD h1,h2];rfl
   rw[<- this];show h _ (e1.trans (Ex.snoc _ _))
  |false =>
   show eU rfl ?_;exists P0 hT.nf hT.lY hT.rE ((e1.trans (Ex.snoc _ _)).at ha) hz λg2 b2 e2 z pE=>?_;exists ne_nil ((Ex.snoc _ _).at pE) b9 ?_;have:p8 cs r= ~~~(je cs r.w r.y).isEmpty:=by unfold p8;rw[aD h1,h2];rfl
   rw[<- this];show h _ ((e1.trans (Ex.snoc _ _)).trans (e2.trans (Ex.snoc _ _)))
def NG(hT:TB0 T)(ha:g[a]?=!.lst (cs.map a7.d))(hz:-cs<=1000)(hc:g[c]?=!.lst (l7 rs))(hr:-rs<=900)(h:rs.all (p8 cs)=true->∀g',Ex g g'->Q .aR g')(hn:rs.all (p8 cs)=false->∀g',Ex g g'->False):a8 T (k+5) 89 [.ref a,.ref c] g Q E:=by
 show call_of hT.Ui rfl ?_;delta GB;exists E5 (a6 T _) (wX ?_);exists#[c,_,rfl,a5 hc,oW (l7 rs),λi U g'=>Ex g g'/\(∃z2 z3,U=[!.ref a,!.ref c,z2,z3])/\(rs.take i).all (p8 cs)=true,λi U g' q=>vN (a5 (q.1.at hc)),#[Ex.refl _,#[none,none,rfl],rfl],λi x U g' hx q=>?_,λU g' q=>?_]
 .let#[e1,#[z2,z3,rfl],q]:=q;let#[dd,hd,rfl]:=W7 hx;rw[l7,aj,ae] at hd;let#[r,oE,rfl]:=hd;let tk:rs.take (i+1)=rs.take i++[r]:=by rw[bJ,oE];rfl
  show E7 rfl ?_
  try show wpS _ _ _ _ _ _
  exists aO1 (k:=k) hT (e1.at ha) hz λg2 e2=>?_;left;cases hg:p8 cs r with
  |true =>
   left;show#[e1.trans e2,#[_,_,rfl],by rw[tk,List.all_append,q];simp[hg]]
  |false =>
   exists hn ?_ _ (e1.trans e2);rw[List.all_eq_false];show#[r,aC oE,by rw[hg];decide]
 .let#[e1,#[z2,z3,rfl],q]:=q;rw[N4,l7,ah,cG] at q;show h q _ e1
def ND(hT:TB0 T)(nN:T 42=!A2)(rD:T 98=!J8)(ha:g[a]?=!.lst (cs.map a7.d))(hz:-cs<=1000)(hc:g[c]?=!.lst (l7 rs))(hr:-rs<=900)(hm:9< -cs->E #["TooMany"] g)(hb:-cs<=9->cs.all k9=false->E #["BadCoin"] g)(hv:-cs<=9->cs.all k9=true->¬(1<=v/\v<=9)->E #["BadAnvils"] g)(hw:-cs<=9->cs.all k9=true->1<=v/\v<=9->rs.all (p8 cs)=false->∀g',Ex g g'->False)(h:-cs<=9->cs.all k9=true->1<=v/\v<=9->rs.all (p8 cs)=true->∀g',Ex g g'->Q .aR g'):a8 T (k+7) 98 [.ref a,.int v,.ref c] g Q E:=by
 show call_of rD rfl ?_;delta J8;exists T5 (k:=k) hT.nf hT.h2 hT.tO hT.vh ha hz hm hb λh9 hg=>?_;exists ax8 (k:=k+3) hT.nf nN (λv1 v2=>?_) (hv h9 hg);left;show NG (k:=k+1) hT ha hz hc hr (h h9 hg #[v1,v2]) (hw h9 hg #[v1,v2])
def Of(fs:@&(Str×D)):(f9 f x fs).length<=-fs+1:=by
 induction fs with
 |nil=>simp[f9]
 |cons y r ih =>
  unfold f9;split<;>simp
  show ih
def yL{fs:@&(Str×D)}(h:-fs+1<n):(f9 f x fs).length<n:=gY (Of fs) h
def yM{fs:@&(Str×D)}(h:-fs+(m+1)<n):(f9 f x fs).length+m<n:=by
 have:=Of (f:=f) (x:=x) fs;omega
abbrev f3(n:Nat)(v:Int):@&(Str×D):=[("size",.int n),("full",.int ((2 ^ n-1:Nat):Int)),("room",.int v)]
def vM(n:Nat)(v:Int):(f3 n v).length=3:=rfl
def NC(hT:TB0 T)(ha:g[a]?=!.lst (cs.map a7.d))(hz:-cs<=9)(hg:cs.all k9=true)(hB:∀c∈cs,CB c)(hc:g[c]?=!.lst (l7 rs))(hr:-rs<=900)(hb:g[b]?=!(.ins "Bounds" []))(h:∀g',(-g)<=-g'->(∀i,i< -g->i≠b->g'[i]?=g[i]?)->Bd g' b cs v rs->Q .aR g'):a8 T (k+9) 113 [.ref b,.ref a,.int v,.ref c] g Q E:=by
 show call_of hT.Ei rfl ?_;delta Gz;let wM:b≠a:=λz=>by subst z;rw[ha] at hb;cases hb
 let zC:b≠c:=λz=>by subst z;rw[hc] at hb;cases hb
 exists D5 hb #[_] #[_] ?_;left;let qm:=b7 (o':=O.ins "Bounds" (f9 "size" (.int (cs.map a7.d).length) [])) ha wM;show A8 (a5 qm) ?_;show HE #[by omega,by simp;omega,by decide] ?_;exists D5 (get_set hb) #[_] (by first|(simp;done)|(show yL ?_;repeat (first|(rw[vM];omega)|(simp;done)|show yM ?_))) ?_;rw[df];exists D5 (get_set hb) #[_] (by first|(simp;done)|(show yL ?_;repeat (first|(rw[vM];omega)|(simp;done)|show yM ?_))) ?_;rw[df];let e0:f9 "room" (.int v) (f9 "full" (.int (1*2 ^ Int.toNat ((cs.map a7.d).length:Int)-1)) (f9 "size" (.int (cs.map a7.d).length) []))=(f3 (-cs) v):=by
  have:(1*2 ^ Int.toNat ((cs.map a7.d).length:Int)-1:Int)=((2 ^ (-cs)-1:Nat):Int):=by
   have:=gX (n:=-cs);rw[Int.natCast_sub this];simp
  rw[this,ah]
  rfl
 simp only[e0];let kp:∀(g1:G) (o:O),Ex (g.set b o) g1->(∀i,i< -g->i≠b->g1[i]?=g[i]?)/\-g<=-g1:=λg1 o e=>#[λi hi hn=>by rw[e.old i (_/hi),aB (bR hn)],by have:=e.len;simpa using this]
 generalize ho:O.ins "Bounds" (f3 (-cs) v)=o1;let pF:=get_set (o':=o1) hb;let qm:=b7 (o':=o1) ha wM;let Dv:=b7 (o':=o1) hc zC;let k1:=kp _ o1 (Ex.refl _);generalize g.set b o1=g1 at *;subst ho;exists WI hT qm hz hB λg2 w e2 CI hw=>?_;exists D5 (e2.at pF) #[_] (by rw[vM];omega) ?_;let lw:w≠b:=λz=>by have:=u6 pF;omega
 let DA:=get_set (o':=O.ins "Bounds" (f9 "worn_by_place" (.ref w) (f3 (-cs) v))) (e2.at pF);let Jj:=b7 (o':=O.ins "Bounds" (f9 "worn_by_place" (.ref w) (f3 (-cs) v))) hw lw.symm;let JQ:=b7 (o':=O.ins "Bounds" (f9 "worn_by_place" (.ref w) (f3 (-cs) v))) (e2.at qm) wM;let Tt:=b7 (o':=O.ins "Bounds" (f9 "worn_by_place" (.ref w) (f3 (-cs) v))) (e2.at Dv) zC;let k3:(∀i,i< -g->i≠b->(g2.set b (O.ins "Bounds" (f9 "worn_by_place" (.ref w) (f3 (-cs) v))))[i]?=g[i]?)/\-g<=(g2.set b (O.ins "Bounds" (f9 "worn_by_place" (.ref w) (f3 (-cs) v)))).length:=#[λi hi hn=>by rw[aB (bR hn),e2.old i ()];show k1.1 i hi hn,by simp;have:=e2.len;omega]
 generalize g2.set b (O.ins "Bounds" (f9 "worn_by_place" (.ref w) (f3 (-cs) v)))=g3 at *;exists Ze hT JQ hz λg4 l e4 Jw hl=>?_;exists D5 (e4.at DA) #[_] (by first|(simp;done)|(show yL ?_;repeat (first|(rw[vM];omega)|(simp;done)|show yM ?_))) ?_;let ll:l≠b:=λz=>by have:=u6 DA;omega
 generalize ho:O.ins "Bounds" (f9 "later_by_place" (.ref l) (f9 "worn_by_place" (.ref w) (f3 (-cs) v)))=o5;let Dz:=get_set (o':=o5) (e4.at DA);let Sx:=b7 (o':=o5) (e4.at Jj) lw.symm;let SU:=b7 (o':=o5) hl ll.symm;let JP:=b7 (o':=o5) (e4.at JQ) wM;let Ts:=b7 (o':=o5) (e4.at Tt) zC;let k5:(∀i,i< -g->i≠b->(g4.set b o5)[i]?=g[i]?)/\-g<=(g4.set b o5).length:=#[λi hi hn=>by rw[aB (bR hn),e4.old i ()];show k3.1 i hi hn,by simp;have:=e4.len;omega]
 generalize g4.set b o5=g5 at *;subst ho;exists aG2 hT JP hz hg λg6 dd e6 JL hd=>?_;exists D5 (e6.at Dz) #[_] (by first|(simp;done)|(show yL ?_;repeat (first|(rw[vM];omega)|(simp;done)|show yM ?_))) ?_;let ld:dd≠b:=λz=>by have:=u6 Dz;omega
 generalize ho:O.ins "Bounds" (f9 "lower_dies" (.ref dd) (f9 "later_by_place" (.ref l) (f9 "worn_by_place" (.ref w) (f3 (-cs) v))))=o7;let Dy:=get_set (o':=o7) (e6.at Dz);let Sw:=b7 (o':=o7) (e6.at Sx) lw.symm;let SS:=b7 (o':=o7) (e6.at SU) ll.symm;let Tp:=b7 (o':=o7) hd ld.symm;let TC:=b7 (o':=o7) (e6.at JP) wM;let Tr:=b7 (o':=o7) (e6.at Ts) zC;let k7:(∀i,i< -g->i≠b->(g6.set b o7)[i]?=g[i]?)/\-g<=(g6.set b o7).length:=#[λi hi hn=>by rw[aB (bR hn),e6.old i ()];show k5.1 i hi hn,by simp;have:=e6.len;omega]
 generalize g6.set b o7=g7 at *;subst ho;exists Zn hT TC hz Tr hr λg8 nb e8 Ju hn=>?_;exists D5 (e8.at Dy) #[_] (by first|(simp;done)|(show yL ?_;repeat (first|(rw[vM];omega)|(simp;done)|show yM ?_))) ?_;let lb7:=u6 Dy;let ln:nb≠b:=λz=>by omega
 generalize ho:O.ins "Bounds" (f9 "needed_by_place" (.ref nb) (f9 "lower_dies" (.ref dd) (f9 "later_by_place" (.ref l) (f9 "worn_by_place" (.ref w) (f3 (-cs) v)))))=o9;show h _ (by simp;have:=e8.len;omega) (λi hi hn=>by rw[aB (bR hn),e8.old i ()];show k7.1 i hi hn) #[#[w,l,dd,nb,?_,b7 (e8.at Sw) lw.symm,b7 (e8.at SS) ll.symm,b7 (e8.at Tp) ld.symm,?_]]
 .rw[get_set (e8.at Dy),<- ho]
  rfl
 .let#[as,q1,q2,q3,q4,q5]:=hn.ex;show#[#[as,b7 q1 ln.symm,q2,q3,λx hx=>#[by omega,(q4 x hx).2],λi x hx=>let ⟨ms,m1,m2⟩:=q5 i x hx;#[ms,b7 m1 (λz=>by have:=(q4 x (aC hx)).1;omega),m2]]]
end
section
variable{T:Nat->Option aP}{d:Nat}
def aQ2(hT:TB T)(ha:g[a]?=!.lst (cs.map a7.d))(hz:-cs<=1000)(hB:∀c∈cs,CB c)(hc:g[c]?=!.lst (l7 rs))(hr:-rs<=900)(hm:9< -cs->E #["TooMany"] g)(hb:-cs<=9->cs.all k9=false->E #["BadCoin"] g)(hv:-cs<=9->cs.all k9=true->¬(1<=v/\v<=9)->E #["BadAnvils"] g)(hw:-cs<=9->cs.all k9=true->1<=v/\v<=9->rs.all (p8 cs)=false->∀g',Ex g g'->False)(h:-cs<=9->cs.all k9=true->1<=v/\v<=9->rs.all (p8 cs)=true->∀g' b,Ex g g'->-g<=b->Bd g' b cs v rs->Q (.ref b) g'):a8 T (k+10) 99 [.ref a,.int v,.ref c] g Q E:=by
 show call_of hT.Ua rfl ?_;delta FP;exists ND (k:=k+2) hT.toTB0 hT.nN hT.rD ha hz hc hr hm hb hv hw λh9 hg hv hR g1 e1=>?_;left;let x1:=Ex.snoc g1 (O.ins "Bounds" []);show NC (k:=k) hT (x1.at (e1.at ha)) h9 hg hB (x1.at (e1.at hc)) hr b9 λg2 l2 o2 B2=>?_;show#[rfl,h h9 hg hv hR g2 _ #[by have:=e1.len;simp at l2;omega,λi hi=>?_] e1.len B2];have:=e1.len;rw[o2 i (by simp;omega) (),x1.old i ()];show e1.old i hi
def Gw(hT:TB T)(ha:g[a]?=!.lst (cs.map a7.d))(hz:-cs<=9)(hg:cs.all k9=true)(hB:∀c∈cs,CB c)(hv:1<=v/\v<=9)(hc:g[c]?=!.lst (l7 rs))(hr:-rs<=900)(hR:rs.all (p8 cs)=true)(h:∀g' b,Ex g g'->-g<=b->Bd g' b cs v rs->Q (.ref b) g'):a8 T (k+10) 99 [.ref a,.int v,.ref c] g Q E :=
 aQ2 hT ha () hB hc hr (λz=>by omega) (λx z=>by rw[hg] at z;cases z) (λx x z=>absurd hv z) (λx x x z=>by rw[hR] at z;cases z) λx x x x=>h
def aA5(hT:TB0 T)(B:Bd g b cs v rs)(hz:-cs<=9){s:Nat}(hs:s<2 ^ (-cs))(hp:p< -cs)(h:∀g',Ex g g'->Q (.int (uh cs s.testBit p:Nat)) g'):a8 T (k+2) 100 [.ref b,.int (s:Nat),.int (p:Nat)] g Q E:=by
 show call_of hT.El rfl ?_;delta Gm;let#[w,l,dd,nb,h1,h2,h3,h4,h5]:=B.ex;exists v7 hT.nM () ?_;exists w9 h1 rfl ?_;left;let e1:((2 ^ (-cs)-1:Nat):Int)-(s:Nat)=((2 ^ (-cs)-1-s:Nat):Int):=by omega
 rw[e1];let SO:(o8 (cs.map a7.lo)).length<=9:=aG (Y8 _) (_/hz);let Tn:(qz cs).length=(o8 (cs.map a7.lo)).length:=by simp[qz]
 show L4 (a6 T _) (λU=>∃z2 z3,U=[!(.int ((2 ^ (-cs)-1-s:Nat):Int)),!(.int ((s |||2 ^ p:Nat):Int)),z2,z3]) (λi=>Z6 cs s.testBit p ((o8 (cs.map a7.lo)).getD i 0)) (λi=>(qz cs).getD i .aR) (λg' e=>u5 (a5 (e.at h4))) () #[none,none,rfl] (λi x U g' hx e sh=>?_) (λg' e=>?_) (rW (a6 T _) (a5 h4) λQ q=>?_)
 .let#[z2,z3,rfl]:=sh;let sN:=hx;rw[qz,aj,ae] at sN;let#[lx,hd,rfl]:=sN;let eg:(o8 (cs.map a7.lo)).getD i 0=lx:=by simp[List.getD,hd]
  show j4 ?_;exists ye ?_;left;let b1:=OB (n:=-cs) (q:=meant cs .lower lx) (λi y=>S5 s p i);let b2:=OB (q:=meant cs .lower lx) (λi hi=>Xk hs hi);rw[b1,eg];let hu:Z6 cs s.testBit p lx=(((List.range (-cs)).any λi=>(s.testBit i||decide (i=p))&&meant cs .lower lx i)&&(List.range (-cs)).any λi=>~~~s.testBit i&&meant cs .lower lx i):=rfl;rw[hu];cases (List.range (-cs)).any λi=>(s.testBit i||decide (i=p))&&meant cs .lower lx i with
  |false =>
   show cZ rfl ?_;show#[rfl,e,cZ rfl #[_,_,rfl]]
  |true =>
   show eU rfl ?_;exists ye ?_;left;rw[b2,Bool.true_and];show#[rfl,e,?_];cases (List.range (-cs)).any λi=>~~~s.testBit i&&meant cs .lower lx i with
   |false=>show cZ rfl #[_,_,rfl]
   |true =>
    show eU rfl ?_;exists#[?_,e,_,_,rfl];simp[List.getD,hx]
 .refine A8 (a5 b9) ?_;have:(((List.range (qz cs).length).filter λi=>Z6 cs s.testBit p ((o8 (cs.map a7.lo)).getD i 0)).map λi=>(qz cs).getD i .aR).length=uh cs s.testBit p:=by
   rw[ah,Tn,a31 (o8 (cs.map a7.lo)) 0 (Z6 cs s.testBit p)]
   rfl
  rw[this];show h _ (e.trans (Ex.snoc _ _))
 .left;show w9 h1 rfl q
def Qx{q:a7->a7->Bool}(hp:p< -cs):jA (uE cs q) (p:Int)=!(.int ((jr (-cs) λj=>q (dw cs j) (dw cs p):Nat):Int)):=C7 (by rw[uE,aj,da hp];rfl)
def OD{s:Nat}{q:Nat->Bool}:((Builtin.bitAnd (s:Nat) ((jr n q:Nat):Int)) != 0)=(List.range n).any λi=>s.testBit i&&q i:=by rw[Hr,AF]
def NA(hT:TB0 T)(B:Bd g b cs v rs)(hz:-cs<=9)(hr:-rs<=900){s:Nat}(hs:s<2 ^ (-cs))(hp:p< -cs)(h:∀g',Ex g g'->Q (vi (fault cs v rs s.testBit p)) g'):a8 T (k+3) 101 [.ref b,.int (s:Nat),.int (p:Nat)] g Q E:=by
 show call_of hT.Ek rfl ?_;delta Gq;let#[w,l,dd,nb,h1,h2,h3,h4,h5]:=B.ex;exists w9 h1 rfl ?_;exists A6 (a5 h2) (Qx hp) ?_;show ye ?_;left;rw[OD];cases c1:(List.range (-cs)).any λi=>s.testBit i&&mw (dw cs i) (dw cs p) with
 |true =>
  show eU rfl ?_;have:fault cs v rs s.testBit p="wear":=by unfold fault T8;rw[az c1]
  rw[this] at h;show h _ (Ex.refl _)
 |false =>
 show cZ rfl ?_;exists w9 h1 rfl ?_;exists A6 (a5 h3) (Qx hp) ?_;show ye ?_;left;rw[OD];cases c2:(List.range (-cs)).any λi=>s.testBit i&&lM (dw cs i) (dw cs p) with
 |true =>
  show eU rfl ?_;have:fault cs v rs s.testBit p="year":=by unfold fault T8 W2;rw[aA (by rw[c1];decide),az c2]
  rw[this] at h;show h _ (Ex.refl _)
 |false =>
 show cZ rfl ?_;exists aA5 hT B hz hs hp λg2 e2=>?_;exists w9 (e2.at h1) rfl ?_;exists if2 (λc3=>?_) (λc3=>?_)
 .have:fault cs v rs s.testBit p="anvil":=by unfold fault T8 W2;rw[aA (by rw[c1];decide),aA (by rw[c2];decide),az c3]
  rw[this] at h;show h _ e2
 left;let#[as,q1,q2,q3,q4,q5]:=h5.ex;let SG:p< -as:=by omega
 let DB:=ag SG;generalize as[p]=ap at DB;let#[ms,m1,m2,m3]:=q5 p ap DB;show comp_map (a6 T _) (λU=>∃z1 z2,U=[!.int (s:Nat),z1,z2]) (λi=>.int ((s &&& ms.getD i 0:Nat):Int)) (λg' e=>u5 (a5 ((e2.trans e).at m1))) (by simp[a9];omega) #[none,none,rfl] (λi x U g' hx e sh=>?_) (λg' e=>?_) (rW (a6 T _) (a5 (e2.at m1)) λQ q=>?_)
 .let#[z1,z2,rfl]:=sh;rw[a9,aj,ae] at hx;let#[m,hm,rfl]:=hx;show j4 ?_;exists ye ?_;show#[?_,e,_,_,rfl];rw[Hr];simp[List.getD,hm]
 .refine b47 (a5 (by rw[bI];show b9)) ?_;let en:(((List.range (a9 ms).length).map λi=>((s &&& ms.getD i 0:Nat):Int)).all λn=>n != 0)=K4 cs rs s.testBit p:=by
   rw[bq,bK];unfold K4;rw[bK];constructor
   .intro hA r hr;cases CY:meant cs r.w r.y p with
    |false=>rfl
    |true =>
     let hm:=(m3 (jr (-cs) (meant cs r.w r.x))).mpr #[r,hr,CY,rfl];let#[i,hi]:=bD.mp hm;let zT:=(ak.mp hi).1;have:=hA ((s &&& jr (-cs) (meant cs r.w r.x):Nat):Int) (aQ.mpr #[i,aN.mpr (by simpa[a9] using zT),by simp[List.getD,hi]]);rw[AF] at this;show this
   .intro hA x hx;let#[i,hi,rfl]:=aQ.mp hx;let hi:i< -ms:=by simpa[a9] using hi
    let hm:ms.getD i 0∈ms:=by simp[List.getD,hi]
    let#[r,hr,CY,em]:=(m3 _).mp hm;have:=hA r hr;rw[CY,Bool.not_true,kI] at this;rw[em,AF];show this
  rw[en];left;cases c4:K4 cs rs s.testBit p with
  |true =>
   have:fault cs v rs s.testBit p="":=by unfold fault T8 W2;rw[aA (by rw[c1];decide),aA (by rw[c2];decide),aA c3,az c4]
   rw[this] at h;show h _ (e2.trans (e.trans (Ex.snoc _ _)))
  |false =>
   have:fault cs v rs s.testBit p="rule":=by unfold fault T8 W2;rw[aA (by rw[c1];decide),aA (by rw[c2];decide),aA c3,aA (by rw[c4];decide)]
   rw[this] at h;show h _ (e2.trans (e.trans (Ex.snoc _ _)))
 .exists w9 (e2.at h1) rfl ?_;left;show A6 (a5 (e2.at q1)) (C7 (by rw[aj,DB];rfl)) q
end
def Qr{x:Int}(hi:i< -cs)(h:meant cs w x i=true):(je cs w x).isEmpty=false:=by
 cases e:je cs w x with
 |nil =>
  have:i∈je cs w x:=bg.mpr #[aN.mpr hi,h]
  simp_all
 |cons _ _=>rfl
def Zg{ns:@&Int}{x:Int}:x∈o8 ns↔x∈ns:=by
 rw[(P6 ns).mem_iff,ST.F6];simp
def OT(ns:@&Int):(o8 ns).Nodup:=(P6 ns).nodup_iff.mpr (ST.U6 _ _ #[_])
noncomputable abbrev lO(H:@&Nat):Nat->Bool:=λi=>decide (i∈H)
def AW:aP:=#[3,3,(bN (.eI (bG (.cmp .NotEq) (dP 91 aL ba) aL) (bG (.cmp .Is) (gA 101 aE aL ba) (.lit .aR))))]
def MI:aP:=#[2,2,(bN (.comp [0,1] 4 (.one 3) (.gE (cJ (.fld "size") aE)) (.fg (gA 115 aE aL bP)) bP))]
def pN(cs:@&a7)(v:Int)(rs:@&eJ)(s p:Nat):Bool:= ~~~s.testBit p&&decide (fault cs v rs s.testBit p="")
abbrev d7(cs:@&a7)(v:Int)(rs:@&eJ)(s:Nat):@&Nat:=(List.range (-cs)).filter (pN cs v rs s)
def OQ(x:Str):Q6 (vi x)=decide (x=""):=by
 unfold vi;by_cases h:x=""
 .rw[az h,au h];rfl
 .rw[aA h,aD h];rfl
def ZE{s:Nat}:decide (((s |||2 ^ p:Nat):Int)=(s:Nat))=s.testBit p:=by
 rw[bq,dF];constructor
 .intro h;let h:s |||2 ^ p=s:=by omega
  have:=S5 s p p;rw[h] at this;rw[this];simp
 .intro h;have:s |||2 ^ p=s:=BL λi=>by
   rw[S5];by_cases hi:i=p
   .subst hi;rw[h];rfl
   .rw[aD hi,Bool.or_false]
  rw[this]
structure TF(T:Nat->Option aP):Prop where
 tP:T 115=!AW
 Eh:T 116=!MI
section
variable{T:Nat->Option aP}{d:Nat}
def a26(hT:TB0 T)(tP:T 115=!AW)(B:Bd g b cs v rs)(hz:-cs<=9)(hr:-rs<=900){s:Nat}(hs:s<2 ^ (-cs))(hp:p< -cs)(h:∀g',Ex g g'->Q (.bl (pN cs v rs s p)) g'):a8 T (k+4) 115 [.ref b,.int (s:Nat),.int (p:Nat)] g Q E:=by
 show call_of tP rfl ?_;delta AW;exists v7 hT.nM () ?_;left;rw[ZE];cases hb:s.testBit p with
 |true =>
  show cZ rfl ?_;have:pN cs v rs s p=false:=by unfold pN;rw[hb];rfl
  rw[this] at h;show h _ (Ex.refl _)
 |false =>
  show eU rfl ?_;exists NA hT B hz hr hs hp λg1 e1=>?_;left;have:pN cs v rs s p=Q6 (vi (fault cs v rs s.testBit p)):=by unfold pN;rw[hb,OQ];rfl
  rw[this] at h;show h _ e1
def R0(hT:TB0 T)(hF:TF T)(B:Bd g b cs v rs)(hz:-cs<=9)(hr:-rs<=900){s:Nat}(hs:s<2 ^ (-cs))(h:∀g' l,Ex g g'->-g<=l->g'[l]?=!(.lst (a9 (d7 cs v rs s)))->Q (.ref l) g'):a8 T (k+5) 116 [.ref b,.int (s:Nat)] g Q E:=by
 show call_of hF.Eh rfl ?_;let#[w,l,dd,nb,h1,h2,h3,h4,h5]:=B.ex;show L4 (a6 T _) (λU=>∃z2 z3,U=[!.ref b,!.int (s:Nat),z2,z3]) (pN cs v rs s) (λi=>.int (i:Nat)) (λg' e=>G9) (by rw[E0];omega) #[none,none,rfl] (λi d U g' hx e sh=>?_) (λg' e=>?_) (Mi (a6 T _) (by omega:-cs<=1000) λQ q=>?_)
 .let#[z2,z3,rfl]:=sh;let#[hi,rfl]:=O9 hx;rw[jo];show j4 ?_;exists a26 hT hF.tP (B.at e) hz hr hs hi λg2 e2=>?_;exists#[rfl,e.trans e2,?_];cases pN cs v rs s i with
  |true =>
   show eU rfl ?_;left;show#[rfl,e.trans e2,_,_,rfl]
  |false=>show cZ rfl #[_,_,rfl]
 .rw[E0];show h _ _ (e.trans (Ex.snoc _ _)) e.len b9
 .left;show w9 h1 rfl q
end
def FG(n:Nat)(F:Nat->@&Nat):Prop:=∀s p,p∈F s->p<n/\s.testBit p=false
abbrev V7(n:Nat)(F:Nat->@&Nat):Nat->Nat->@&(@&Nat)
 |0,s=>if s=2 ^ n-1 then[[]] else[]
 |f+1,s=>if s=2 ^ n-1 then[[]] else(F s).flatMap λp=>(V7 n F f (s |||2 ^ p)).map (p::·)
abbrev i0(n:Nat)(F:Nat->@&Nat)(s:Nat):@&(@&Nat):=V7 n F (2 ^ n) s
def Bv{s:Nat}(h:s.testBit p=false):s<s |||2 ^ p:=by
 let h1:s<=s |||2 ^ p:=Nat.left_le_or
 let h2:s |||2 ^ p≠s:=λe=>by
  have:=S5 s p p;rw[e,h] at this;simp at this
 omega
def M9{β:Type}{l:List α}{f g:α->List β}(h:∀x∈l,f x=g x):l.flatMap f=l.flatMap g:=by
 induction l with
 |nil=>rfl
 |cons a r ih=>rw[fJ,fJ,h a #[_],ih λx hx=>h x (by simp[hx])]
def MK{n:Nat}{F:Nat->@&Nat}(hF:FG n F):∀(f s:Nat),s<2 ^ n->2 ^ n-1-s<=f->V7 n F f s=V7 n F (f+1) s
 |0,s,hs,hf=>by
  let e:s=2 ^ n-1:=by omega
  simp only[V7];rw[az e,az e]
 |f+1,s,hs,hf=>by
  rw[V7,V7];by_cases e:s=2 ^ n-1
  .rw[az e,az e]
  .rw[aA e,aA e];show M9 λp hp=>?_;have:=hF s p hp;rw[MK hF f (s |||2 ^ p) (S4 hs this.1) (by have:=Bv this.2;omega)]
def P1{F:Nat->@&Nat}{s:Nat}(h:s=2 ^ n-1):i0 n F s=[[]]:=by
 unfold i0;obtain⟨m,hm⟩:∃m,2 ^ n=m+1:=#[2 ^ n-1,by have:=gX (n:=n);omega]
 rw[hm,V7,az h]
def yJ{F:Nat->@&Nat}(hF:FG n F){s:Nat}(hs:s<2 ^ n)(h:s≠2 ^ n-1):i0 n F s=(F s).flatMap λp=>(i0 n F (s |||2 ^ p)).map (p::·):=by
 unfold i0;obtain⟨m,hm⟩:∃m,2 ^ n=m+1:=#[2 ^ n-1,by have:=gX (n:=n);omega]
 conv=>lhs;rw[hm,V7,aA h]
 show M9 λp hp=>?_;have:=hF s p hp;rw[hm,<- MK hF m (s |||2 ^ p) (S4 hs this.1) ()]
def Oy{F:Nat->@&Nat}(hF:FG n F){s:Nat}(hs:s<2 ^ n)(h:s≠2 ^ n-1):(i0 n F s).length=((F s).map λp=>(i0 n F (s |||2 ^ p)).length).sum:=by
 rw[yJ hF hs h,List.length_flatMap];simp[Function.comp_def]
inductive jv(F:Nat->@&Nat):Nat->Prop
 |zero:jv F 0
 |step {s p:Nat} (h:jv F s) (hp:p∈F s):jv F (s |||2 ^ p)
def jv.lt{F:Nat->@&Nat}(hF:FG n F){s:Nat}(h:jv F s):s<2 ^ n:=by
 induction h with
 |zero=>show gx _
 |step h hp ih=>show S4 ih (hF _ _ hp).1
def J9(cs:@&a7)(v:Int)(rs:@&eJ):FG (-cs) (d7 cs v rs):=λs p hp=>by
 let#[h1,h2]:=bg.mp hp;unfold pN at h2;rw[aW,eM] at h2;show#[aN.mp h1,h2.1]
def a29{β:Type}{f:α->List β}{l:List α}{j:Nat}{x:α}(hx:l[j]?=!x)(m:Nat):(l.flatMap f)[((l.take j).flatMap f).length+m]?=((l.drop j).flatMap f)[m]?/\(l.drop j).flatMap f=f x++(l.drop (j+1)).flatMap f:=by
 let e:l.flatMap f=(l.take j).flatMap f++(l.drop j).flatMap f:=by rw[<- Im,jE]
 let hj:=(ak.mp hx).1;let ed:l.drop j=x::l.drop (j+1):=by
  rw[eZ hj]
  congr 1
  show(ak.mp hx).2
 constructor
 .rw[e,cc ()]
  congr 1
  omega
 .rw[ed,fJ]
noncomputable abbrev kN(j:Nat):Key:=.inl (j:Int)
def XX{c:Key}:C0 (putD kvs c x) c=!x:=by
 unfold C0 putD;by_cases h:(kvs.any λkv=>decide (kv.1=c))=true
 .rw[az h]
  induction kvs with
  |nil=>cases h
  |cons kv r ih =>
   rw[cA,eK];by_cases hk:kv.1=c
   .rw[az hk];simp[hk]
   .rw[aA hk];simp only[hk,decide_false];show ih ?_;rw[fo,dD] at h;show h.resolve_left (by simp[hk])
 .rw[aA h,List.find?_append];have:kvs.find? (λkv=>decide (kv.1=c))=none:=by
   rw[Rc];show λkv hk hc=>h (br.mpr #[kv,hk,hc])
  rw[this];simp
def a79{c c':Key}(hn:c≠c'):C0 (putD kvs c x) c'=C0 kvs c':=by
 unfold C0 putD;by_cases h:(kvs.any λkv=>decide (kv.1=c))=true
 .rw[az h];clear h
  induction kvs with
  |nil=>rfl
  |cons kv r ih =>
   rw[cA,eK,eK];by_cases hk:kv.1=c
   .rw[az hk];have:kv.1≠c':=λz=>hn (hk.symm.trans z);simp only[this,decide_false];show ih
   .rw[aA hk];by_cases pA:kv.1=c'
    .simp only[pA,decide_true]
    .simp only[pA,decide_false];show ih
 .rw[aA h,List.find?_append];have:[(c,x)].find? (λkv=>decide (kv.1=c'))=none:=by simp[hn]
  rw[this];simp
def XY{c:Key}:(putD kvs c x).length<=-kvs+1:=by
 unfold putD;split<;>simp
def b04{i j:Nat}(h:i≠j):kN i≠kN j:=λz=>h (by have:=Sum.inl.inj z;omega)
def M5:aP:=#[1,5,(du 1 (.prim (.kU 0) .nil) (du 2 (.prim .lst .nil) (nO (.one 3) (.gE (bG (.bin .Add) (cJ (.fld "full") aE) (bu 1))) (dN (.ifs (cI .In bP aL) (jY (.dZ .append ba (fb bP)) (dN (.ju (.one 4) (.gp (dP 116 aE bP)) (dN (.expr (.dZ .kW aL (fb (dP 91 bP dX)))))))) .pass)) (bN ba))))]
def Fd:aP:=#[1,3,(du 1 (.prim .rT .nil) (nO (.one 2) (.pq (fQ 117 aE)) (dN (.ifs (cI .Eq ba (cJ (.fld "full") aE)) (dN (.eT aL ba (bu 1))) (dN (.eT aL ba (cJ .sum (.comp [2,1] 4 (.one 3) (.gp (dP 116 aE ba)) .no (cF aL (dP 91 aE bP)))))))) (bN aL)))]
def AJ:aP:=#[4,7,(du 4 (dP 116 aE ba) (du 5 bP (du 6 (bu 0) (iA (.kS (cI .GtE gO (cF aL (dP 91 ba (cF dX gf)))) (iA (.kF 5 .oy (cF aL (dP 91 ba (cF dX gf)))) (dN (.kF 6 .iadd (bu 1))))) (bN (bG .tup (cF dX gf) gO))))))]
def T2:aP:=#[3,7,(du 3 (.prim .lst .nil) (du 4 (bu 0) (du 5 ba (iA (.kS (cI .NotEq dX (cJ (.fld "full") aE)) (iA (.pk (.many [6,5]) (wB 122 aE aL dX gO)) (jY (.dZ .append bP (fb gf)) (dN (.set 4 (dP 91 dX gf)))))) (bN bP)))))]
def J7:aP:=#[1,2,(du 1 (fQ 121 aE) (de (cI .Eq (cF aL (bu 0)) (bu 0)) (bN (.lit .aR)) (bN (gA 123 aE aL (bu 0)))))]
def AX:aP:=#[3,3,(bN (cF (fQ 121 (gA 99 aE aL ba)) (bu 0)))]
def yI:∀{l m:@&Nat},l.Nodup->(∀x∈l,x∈m)->-l<=-m
 |[],m,_,_=>cw _
 |x::r,m,nd,h=>by
  rw[dC] at nd;have:=yI (m:=m.erase x) nd.2 λy hy=>(BO λz=>nd.1 (by simp_all)).mpr (h y (by simp[hy]))
  grind
section
variable{U:S}{t:MT}
inductive zg(P:fG)(t:MT)(elt:ME)(Q:KD)(U:S)(k:IK)(g1:G):Prop
 |mk (l:@&D) (Sh:S->Prop) (w:Nat->D) (hk:∀g',Ex g1 g'->k.Is l g') (hl:-l<=1000) (h0:Sh U)
   (hs:∀i d U g',l[i]?=!d->Ex g1 g'->Sh U->kq t d U λcE=>bj P elt cE g' (λy g4=>y=w i/\Ex g1 g4/\Sh cE) jS) (hd:∀g',Ex g1 g'->Q (.ref (-g')) (g'++[.lst ((List.range (-l)).map w)])):zg P t elt Q U k g1
def YO(hP:d5 P)(h:gS P it U g (zg P t elt Q (F8 U c7 n)) E):bj P (.comp c7 n t it .no elt) U g Q E:=by
 show K5 hP (A1 hP it _ _ _ _ _ _ (λk g1 h=>?_) (λv v z=>z) h);let#[l,Sh,w,hk,hl,h0,hs,hd]:=h;show#[l,λi ys U g'=>Ex g1 g'/\ys=(List.range i).map w/\Sh U,hl,λi ys U g' q=>#[hk _ q.1,by simp_all],#[Ex.refl _,rfl,h0],λi x ys U g' hx q=>?_,λys U g' q=>?_]
 .let#[e1,rfl,sh]:=q;show v9 (λcE q=>By (mE (c5 hP elt _ _ _ _ _ _ (λy g4 q=>?_) (λv v z=>z) q))) (hs i x U g' hx e1 sh);let#[rfl,e4,sh]:=q;show#[e4,by rw[gy,bw];rfl,sh]
 .let#[e1,rfl,sh]:=q;show hd g' e1
end
def qv(g:G)(sd n:Nat)(K:@&Nat):Prop:=∃S m,g[sd]?=!.set S m/\m=-K/\K.Nodup/\(∀j∈K,j<2 ^ n)/\∀k:Int,S k=true↔∃j∈K,k=(j:Nat)
def qv.at{g g':G}{sd n:Nat}{K:@&Nat}(h:qv g sd n K)(e:Ex g g'):qv g' sd n K:=let ⟨S,m,h1,h2⟩:=h;#[S,m,e.at h1,h2]
def qv.size{sd:Nat}{K:@&Nat}(h:qv g sd n K):-K<=2 ^ n:=by
 let#[S,m,_,_,nd,lt,_]:=h;have:=yI nd λx hx=>aN.mpr (lt x hx)
 simp_all
structure TW(T:Nat->Option aP):Prop where
 nk:T 117=!M5
 Eg:T 121=!Fd
structure Wy(g:G)(w:Nat)(cs:@&a7)(v:Int)(rs:@&eJ):Prop where
 ex:∃kvs,g[w]?=!.cV kvs/\∀s,jv (d7 cs v rs) s->C0 kvs (kN s)=!(.int ((i0 (-cs) (d7 cs v rs) s).length:Nat))
def Wy.at{g g':G}{w:Nat}{cs:@&a7}{v:Int}{rs:@&eJ}(h:Wy g w cs v rs)(e:Ex g g'):Wy g' w cs v rs:=let ⟨kvs,h1,h2⟩:=h.ex;#[#[kvs,e.at h1,h2]]
def a15{l:@&Nat}(hl:l.Pairwise (· > ·)){s x:Nat}(hi:l[i]?=!s)(hx:x∈l)(h:s<x):x∈l.take i:=by
 let#[j,hj,rfl]:=cX.mp hx;let#[jz,rfl]:=ak.mp hi;let zQ:j<i:=by
  rcases dG j i with z|z|z
  .exact z
  .subst z;omega
  .have:=dz.mp hl i j jz hj z;omega
 show bD.mpr #[j,by rw[cB zQ,ag hj]]
def EU(h:n<=9):1<=2 ^ n/\2 ^ n<=512:=#[gX,BK () h]
section
variable{T:Nat->Option aP}{d:Nat}
def MM(hT:TB0 T)(hF:TF T)(nk:T 117=!M5)(B:Bd g b cs v rs)(hz:-cs<=9)(hr:-rs<=900)(h:∀(L:@&Nat) l g',Ex g g'->-g<=l->g'[l]?=!.lst (a9 L)->L.Pairwise (· < ·)->(∀s,s∈L↔jv (d7 cs v rs) s)->-L<=512->Q (.ref l) g'):a8 T (k+6) 117 [.ref b] g Q E:=by
 show call_of nk rfl ?_;let kA:=J9 cs v rs;generalize rC:d7 cs v rs=F at *;let#[w0,l0,dd,nb,f1,f2,f3,f4,f5]:=B.ex;let p2:=EU hz;show bA4 ?_;let s1:qv (g++[O.set (λk=>decide (k=0)) 1]) (-g) (-cs) [0]:=#[_,_,b9,rfl,by simp,by simp;omega,λk=>by simp]
 let e1:=Ex.snoc g (O.set (λk=>decide (k=0)) 1);generalize g++[O.set (λk=>decide (k=0)) 1]=g1 at *;left;let e2:=e1.trans (Ex.snoc g1 (O.lst []));let s2:=s1.at (Ex.snoc g1 (O.lst []));let t2:=b9 (g:=g1) (o:=O.lst []);let l1:-g< -g1:=by let#[_,_,z,_]:=s1;show u6 z
 generalize (-g1)=tl at *;show E5 (a6 T _) (yQ (a6 T _) ?_);exists w9 (e2.at f1) rfl ?_;left;let en:((2 ^ (-cs)-1:Nat):Int)+1=((2 ^ (-cs):Nat):Int):=by omega
 rw[en];show#[by omega,by omega,p9 0 (2 ^ (-cs)),λt U g'=>Ex g g'/\(∃K,qv g' (-g) (-cs) K/\∀j,j∈K↔j=0\/∃s p,s<t/\jv F s/\p∈F s/\j=s |||2 ^ p)/\(∃L,g'[tl]?=!.lst (a9 L)/\L.Pairwise (· < ·)/\(∀s,s∈L↔s<t/\jv F s)/\-L<=t)/\∃z3 z4,U=[!.ref b,!.ref (-g),!.ref tl,z3,z4],λw w w w=>by show G9,#[e2,#[[0],s2,λj=>by simp],#[[],t2,by simp,by simp,by simp],none,none,rfl],λt x U g' hx q=>?_,λU g' q=>?_]
 .let#[e3,#[K,s3,hK],#[L,t3,pw,hL,xH],z3,z4,rfl]:=q;let#[ht,rfl]:=O9 hx;rw[jo];let kx:t∈K↔jv F t:=by
   rw[hK];constructor
   .rintro(rfl|⟨s,p,_,h2,h3,rfl⟩)
    .exact .zero
    .exact .step h2 h3
   .intro h;cases h with
    |zero=>show .inl rfl
    |step h hp=>show .inr #[_,_,Bv (kA _ _ hp).2,h,hp,rfl]
  show j4 ?_;left;let#[S,m,sg,sm,snd,slt,sS]:=id s3;show b38 sg ?_;left;let JS:S (t:Nat)=true↔jv F t:=by
   rw[sS,<- kx];show#[(by rintro ⟨j,hj,e⟩;rw[show t=j by omega];show hj),λz=>#[t,z,rfl]]
  cases hb:S (t:Nat) with
  |false =>
   let jZ:¬jv F t:=λz=>by rw[JS.mpr z] at hb;cases hb
   show cZ rfl ?_;show#[e3,#[K,s3,λj=>(hK j).trans #[?_,?_]],#[L,t3,pw,λs=>(hL s).trans #[λz=>#[by omega,z.2],λz=>#[?_,z.2]],by omega],_,_,rfl]
   .rintro(z|⟨s,p,h1,h2⟩)
    .exact .inl z
    .exact .inr #[s,p,by omega,h2]
   .rintro(z|⟨s,p,h1,h2,h3⟩)
    .exact .inl z
    .refine .inr #[s,p,?_,h2,h3];rcases eW s t with y|y
     .exact y
     .exact absurd (show jv F t by rw[show t=s by omega];show h2) jZ
   .rcases eW s t with y|y
    .exact y
    .exact absurd (show jv F t by rw[show t=s by omega];show z.2) jZ
  |true =>
   let hR:=JS.mp hb;show eU rfl ?_;exists uo t3 (by simp[a9];omega) ?_;let Rx:tl≠-g:=by omega
   let s4:qv (g'.set tl (.lst (a9 L++[D.int (t:Nat)]))) (-g) (-cs) K:=#[S,m,b7 sg Rx,sm,snd,slt,sS]
   let t4:(g'.set tl (.lst (a9 L++[D.int (t:Nat)])))[tl]?=!(.lst (a9 (L++[t]))):=by rw[get_set t3];simp[a9]
   let e4:Ex g (g'.set tl (.lst (a9 L++[D.int (t:Nat)]))):=#[by simp;show e3.len,λi hi=>by rw[aB ()];show e3.old i hi]
   generalize g'.set tl (.lst (a9 L++[D.int (t:Nat)]))=g4 at *;exists E5 (a6 T _) (lP (a6 T _) ?_);exists R0 hT hF (B.at e4) hz hr ht λg5 fl e5 JD h5=>?_;rw[rC] at h5;let l4:=u6 t4;show#[fl,_,rfl,a5 h5,a9 (F t),λj U g'=>Ex g g'/\g'[fl]?=!(.lst (a9 (F t)))/\g'[tl]?=!(.lst (a9 (L++[t])))/\(∃K',qv g' (-g) (-cs) K'/\∀x,x∈K'↔x∈K\/∃p∈(F t).take j,x=t |||2 ^ p)/\∃z4,U=[!.ref b,!.ref (-g),!.ref tl,!.int (t:Nat),z4],λj U g' q=>u5 (a5 q.2.1),#[e4.trans e5,h5,e5.at t4,#[K,s4.at e5,λx=>by simp],z4,rfl],λj x U g' hx q=>?_,λU g' q=>?_]
   .let#[e6,h6,t6,#[K',s6,vf],z4,rfl]:=q;rw[a9,aj,ae] at hx;let#[p,hp,rfl]:=hx;let oH:=aC hp;let mX:=(kA _ _ oH)
    let tk:(F t).take (j+1)=(F t).take j++[p]:=by rw[bJ,hp];rfl
    let#[S6,m6,zz,II,wu,wx,uF]:=id s6;show j4 ?_;exists#[bB6 zz,?_];exists v7 hT.nM () ?_;let ia:=s6.size;show bP4 zz () ?_;let dQ:=S4 ht mX.1;show#[#[by simp;show e6.len,λi hi=>by rw[aB ()];show e6.old i hi],b7 h6 (),b7 t6 (),?_,_,rfl];by_cases mZ:S6 ((t |||2 ^ p:Nat):Int)=true
    .refine#[K',#[_,_,get_set zz,by rw[az mZ];show II,wu,wx,λk=>?_],λx=>?_]
     .rw[dD,dF];constructor
      .rintro(z|z)
       .exact(uF k).mp z
       .subst z;show(uF _).mp mZ
      .exact λz=>.inl ((uF k).mpr z)
     .rw[vf x,tk];simp only[List.mem_append,List.mem_singleton];constructor
      .rintro(z|⟨q,z1,z2⟩)
       .exact .inl z
       .exact .inr #[q,.inl z1,z2]
      .rintro(z|⟨q,z1|z1,z2⟩)
       .exact .inl z
       .exact .inr #[q,z1,z2]
       .subst z1 z2;let#[y,y1,y2]:=(uF _).mp mZ;rw[<- vf,show(t |||2 ^ q)=y by omega];show y1
    .let CV:(t |||2 ^ p)∉K':=λz=>mZ ((uF _).mpr #[_,z,rfl]);show#[K'++[t |||2 ^ p],#[_,_,get_set zz,by rw[aA mZ];simp[II],?_,λy hy=>?_,λk=>?_],λx=>?_]
     .rw[cL];show#[wu,by simp,λx hx y hy=>by cases aX.mp hy;show λz=>CV (z▸hx)]
     .rcases bt.mp hy with z|z
      .exact wx y z
      .cases aX.mp z;show dQ
     .rw[dD,dF,uF];simp only[List.mem_append,List.mem_singleton];constructor
      .rintro(⟨y,y1,y2⟩|z)
       .exact#[y,.inl y1,y2]
       .exact#[_,.inr rfl,z]
      .rintro⟨y,y1|y1,y2⟩
       .exact .inl #[y,y1,y2]
       .subst y1;show .inr y2
     .rw[bt,aX,vf x,tk];simp only[List.mem_append,List.mem_singleton];constructor
      .rintro((z|⟨q,z1,z2⟩)|z)
       .exact .inl z
       .exact .inr #[q,.inl z1,z2]
       .exact .inr #[p,.inr rfl,z]
      .rintro(z|⟨q,z1|z1,z2⟩)
       .exact .inl (.inl z)
       .exact .inl (.inr #[q,z1,z2])
       .subst z1;show .inr z2
   .let#[e6,h6,t6,#[K',s6,vf],z4,rfl]:=q;rw[a9,ah,cG] at vf;show#[e6,#[K',s6,λj=>(vf j).trans ?_],#[L++[t],t6,?_,λs=>?_,by simp;omega],_,_,rfl]
    .rw[hK j];constructor
     .rintro((z|⟨s,p,h1,h2⟩)|⟨p,h1,h2⟩)
      .exact .inl z
      .exact .inr #[s,p,by omega,h2]
      .exact .inr #[t,p,by omega,hR,h1,h2]
     .rintro(z|⟨s,p,h1,h2,h3,h4⟩)
      .exact .inl (.inl z)
      .rcases eW s t with y|y
       .exact .inl (.inr #[s,p,y,h2,h3,h4])
       .have:s=t:=by omega
        subst this;show .inr #[p,h3,h4]
    .rw[BN];show#[pw,by simp,λx hx y hy=>by cases aX.mp hy;show((hL x).mp hx).1]
    .rw[bt,aX,hL s];constructor
     .rintro(z|z)
      .exact#[by omega,z.2]
      .subst z;show#[by omega,hR]
     .rintro⟨z1,z2⟩;rcases eW s t with y|y
      .exact .inl #[y,z2]
      .exact .inr ()
 .let#[e3,#[K,s3,hK],#[L,t3,pw,hL,xH],z3,z4,rfl]:=q;rw[E0] at hL xH;left;show h L tl g' e3 () t3 pw (λs=>(hL s).trans #[λz=>z.2,λz=>#[z.lt kA,z]]) ()
def Fh(hT:TB0 T)(hF:TF T)(hW:TW T)(B:Bd g b cs v rs)(hz:-cs<=9)(hr:-rs<=900)(h:∀w g',Ex g g'->-g<=w->Wy g' w cs v rs->Q (.ref w) g'):a8 T (k+7) 121 [.ref b] g Q E:=by
 show call_of hW.Eg rfl ?_;delta Fd;let kA:=J9 cs v rs;generalize rC:d7 cs v rs=F at *;let#[w0,l0,dd,nb,f1,f2,f3,f4,f5]:=B.ex;let p2:=EU hz;left;let e1:=Ex.snoc g (O.cV []);let w1:=b9 (g:=g) (o:=O.cV []);generalize g++[O.cV []]=g1 at *;show E5 (a6 T _) (Sm ?_);exists MM hT hF hW.nk (B.at e1) hz hr λL l g2 e2 hl h2 pw hL xH=>?_;rw[rC] at hL;let lw:=u6 w1;let RI:=List.pairwise_reverse.mpr pw;let CA:(a9 L).length=-L:=by simp[a9]
 show#[l,_,rfl,a5 h2,(a9 L).reverse,λi U g'=>Ex g g'/\g'[l]?=!.lst (a9 L)/\(∃kvs,g'[(-g)]?=!.cV kvs/\-kvs<=i/\∀s∈L.reverse.take i,C0 kvs (kN s)=!(.int ((i0 (-cs) F s).length:Nat)))/\∃z2,U=[!.ref b,!.ref (-g),z2],λi U g' q=>bR0 (a5 q.2.1),#[e1.trans e2,h2,#[[],e2.at w1,by simp,by simp],none,rfl],λi x U g' hx q=>?_,λU g' q=>?_]
 .let#[e3,h3,#[kvs,w3,hk,nL],z2,rfl]:=q;rw[a9,<- List.map_reverse,aj,ae] at hx;let#[s,hs,rfl]:=hx;let zT:i< -L:=by have:=(ak.mp hs).1;simpa using this
  let Jm:=(hL s).mp (iR.mp (aC hs));let rh:=Jm.lt kA;let tk:L.reverse.take (i+1)=L.reverse.take i++[s]:=by rw[bJ,hs];rfl
  let fin:∀(N:Ends) g4 z2,Ex g' g4->(∀g5,(Ex g g5/\g5[l]?=!.lst (a9 L)/\(∃kvs,g5[(-g)]?=!.cV kvs/\-kvs<=i+1/\∀s∈L.reverse.take (i+1),C0 kvs (kN s)=!(.int ((i0 (-cs) F s).length:Nat)))/\∃z2,([!.ref b,!.ref (-g),z2]:S)=[!.ref b,!.ref (-g),z2])->N.nx [!.ref b,!.ref (-g),z2] g5)->Z7 (.ref (-g)) (.int (s:Nat)) (.int ((i0 (-cs) F s).length:Nat)) g4 λg5=>N.nx [!.ref b,!.ref (-g),z2] g5:=λN g4 z2 e4 hN=>by
   show Lj (e4.at w3) rfl () ?_;show hN _ #[#[by simp;show(e3.trans e4).len,λj hj=>by rw[aB ()];show(e3.trans e4).old j hj],b7 (e4.at h3) (),#[_,get_set (e4.at w3),aG XY (),λs' Jn=>?_],z2,rfl];rw[tk] at Jn;by_cases CM:s'=s
   .subst CM;show XX
   .refine(a79 (b04 (bR CM))).trans (nL s' ?_);rcases bt.mp Jn with z|z
    .exact z
    .exact absurd (aX.mp z) CM
  show j4 ?_;exists w9 (e3.at f1) rfl ?_;left;let ed:decide (((s:Nat):Int)=((2 ^ (-cs)-1:Nat):Int))=decide (s=2 ^ (-cs)-1):=eV.mpr ();rw[ed];show if2 (λc1=>?_) (λc1=>?_)
  .left;let e1:(1:Int)=((i0 (-cs) F s).length:Nat):=by rw[P1 c1];rfl
   rw[e1];show fin _ _ _ (Ex.refl _) λg5 z=>#[z.1,z.2.1,z.2.2.1,_,rfl]
  .exists YO (a6 T _) (lP (a6 T _) ?_);exists R0 hT hF (B.at e3) hz hr rh λg4 fl e4 JD h4=>?_;rw[rC] at h4;show#[fl,_,rfl,a5 h4,a9 (F s),λU=>∃z2 z3,U=[!.int (s:Nat),!.ref (-g),z2,z3],λi=>.int ((i0 (-cs) F (s |||2 ^ ((F s).getD i 0))).length:Nat),λg' e=>u5 (a5 (e.at h4)),?_,#[none,none,rfl],λj d U g5 hx e5 sh=>?_,λg5 e5=>?_]
   .have:(F s).length<=-cs:=by rw[<- rC];show Y2
    simp[a9];omega
   .let#[z2,z3,rfl]:=sh;rw[a9,aj,ae] at hx;let#[p,hp,rfl]:=hx;let oH:=aC hp;let mX:=kA _ _ oH;show j4 ?_;exists v7 hT.nM () ?_;let hv:C0 kvs (kN (s |||2 ^ p))=!(.int ((i0 (-cs) F (s |||2 ^ p)).length:Nat)):=by
     show nL _ (a15 RI hs (iR.mpr ((hL _).mpr (.step Jm oH))) (Bv mX.2))
    show o3 ((e4.trans e5).at w3) rfl hv ?_;show#[by simp[List.getD,hp],e5,_,_,rfl]
   .let el:(List.range (a9 (F s)).length).map (λi=>D.int ((i0 (-cs) F (s |||2 ^ ((F s).getD i 0))).length:Nat))=(((F s).map λp=>(i0 (-cs) F (s |||2 ^ p)).length).map λ(n:Nat)=>(n:Int)).map D.int:=by
     show fK λi=>?_;rw[aj,aj,aj,aj];by_cases hi:i<(F s).length
     .rw[da (by simpa[a9] using hi),ag hi];simp[List.getD,hi]
     .rw[aZ (by simpa[a9] using hi),aZ ()]
      rfl
    rw[el];show GI (a5 b9) ?_;let es:(((F s).map λp=>(i0 (-cs) F (s |||2 ^ p)).length).map λ(n:Nat)=>(n:Int)).sum=((i0 (-cs) F s).length:Nat):=by
     rw[Oy kA rh c1];generalize (F s).map (λp=>(i0 (-cs) F (s |||2 ^ p)).length)=m
     induction m with
     |nil=>rfl
     |cons x r ih=>simp[ih]
    rw[es];left;show fin _ _ _ (e4.trans (e5.trans (Ex.snoc _ _))) λg6 z=>#[z.1,z.2.1,z.2.2.1,_,rfl]
 .let#[e3,h3,#[kvs,w3,hk,nL],z2,rfl]:=q;rw[List.length_reverse,CA,fI #[_]] at nL;exists h _ _ e3 (aw _) #[#[kvs,w3,λs hs=>?_]];rw[rC] at hs ⊢;show nL s (iR.mpr ((hL s).mpr hs))
end
structure TN(T:Nat->Option aP):Prop where
 tN:T 122=!AJ
 Ef:T 123=!T2
section
variable{T:Nat->Option aP}{d:Nat}{w:Nat}
def aS4(hT:TB T)(hF:TF T)(hW:TW T)(tM:T 126=!AX)(ha:g[a]?=!.lst (cs.map a7.d))(hz:-cs<=9)(hg:cs.all k9=true)(hB:∀c∈cs,CB c)(hv:1<=v/\v<=9)(hc:g[c]?=!.lst (l7 rs))(hr:-rs<=900)(hR:rs.all (p8 cs)=true)(h:∀g',Ex g g'->Q (.int ((i0 (-cs) (d7 cs v rs) 0).length:Nat)) g'):a8 T (k+11) 126 [.ref a,.int v,.ref c] g Q E:=by
 show call_of tM rfl ?_;delta AX;exists Gw hT ha hz hg hB hv hc hr hR λg1 b e1 x B=>?_;exists Fh hT hF hW B hz hr λw g2 e2 x W=>?_;left;let#[kvs,w1,w2]:=W.ex;show o3 w1 rfl (w2 0 .zero) (h _ (e1.trans e2))
def aZ3(hT:TB0 T)(hF:TF T)(tN:T 122=!AJ)(B:Bd g b cs v rs)(W:Wy g w cs v rs)(hz:-cs<=9)(hr:-rs<=900){s:Nat}(hs:jv (d7 cs v rs) s)(fh:s≠2 ^ (-cs)-1)(hm:m<(i0 (-cs) (d7 cs v rs) s).length)(h:∀(p l:Nat) g',Ex g g'->p∈d7 cs v rs s->l<(i0 (-cs) (d7 cs v rs) (s |||2 ^ p)).length->(i0 (-cs) (d7 cs v rs) s)[m]?=((i0 (-cs) (d7 cs v rs) (s |||2 ^ p))[l]?).map (p::·)->Q (.tup [.int (p:Nat),.int (l:Nat)]) g'):a8 T (k+6) 122 [.ref b,.ref w,.int (s:Nat),.int (m:Nat)] g Q E:=by
 show call_of tN rfl ?_;delta AJ;let kA:=J9 cs v rs;let rh:=hs.lt kA;let eo:=yJ kA rh fh;exists R0 hT hF B hz hr rh λg1 ch e1 x mL=>?_;generalize rC:d7 cs v rs=F at *;let#[kvs,w1,w2]:=W.ex;rw[rC] at w2;left;generalize JF:(λp=>(i0 (-cs) F (s |||2 ^ p)).map (p::·))=f at *;let xM:∀p,(f p).length=(i0 (-cs) F (s |||2 ^ p)).length:=λp=>by rw[<- JF];simp
 rw[eo] at hm;let RN:0<(F s).length:=by
  cases hl:F s with
  |nil=>rw[hl] at hm;simp at hm
  |cons _ _=>simp
 show Ox (λmm U g'=>Ex g1 g'/\∃j lf:Nat,U=[!.ref b,!.ref w,!.int (s:Nat),!.int (m:Nat),!.ref ch,!.int (lf:Nat),!.int (j:Nat)]/\j<(F s).length/\mm=(F s).length-j/\m=(((F s).take j).flatMap f).length+lf/\lf<(((F s).drop j).flatMap f).length) _ #[Ex.refl _,0,m,rfl,RN,rfl,by simp,by simpa using hm] (λmm U g' q=>?_) (a6 T _);let#[e2,j,lf,rfl,hj,rfl,mY,sW]:=q;let hx:=ag hj;generalize (F s)[j]=p at hx;let oH:=aC hx;let mX:=kA _ _ oH;let hv:C0 kvs (kN (s |||2 ^ p))=!(.int ((f p).length:Nat)):=by rw[xM];show w2 _ (.step hs oH)
 let Fi:jA (a9 (F s)) (j:Int)=!.int (p:Nat):=C7 (by rw[a9,aj,hx];rfl);let sp:=a29 (f:=f) hx lf;let pI:=e1.trans e2;exists A6 (a5 (e2.at mL)) Fi ?_;exists v7 hT.nM () ?_;show o3 (pI.at w1) rfl hv ?_;left;by_cases hc:(f p).length<=lf
 .refine eU (au ()) ?_;show Hj rfl ?_;exists A6 (a5 (e2.at mL)) Fi ?_;exists v7 hT.nM () ?_;show o3 (pI.at w1) rfl hv ?_;show bR1 ?_;exists Hj rfl ?_;exists LK ?_;let tk:(F s).take (j+1)=(F s).take j++[p]:=by rw[bJ,hx];rfl
  rw[sp.2,aY] at sW;let sX:j+1<(F s).length:=by
   rcases eW (j+1) (F s).length with z|z
   .exact z
   .rw[fL z] at sW;simp at sW;omega
  show#[_,?_,e2,j+1,lf-(f p).length,?_,sX,rfl,?_,by omega]
  .omega
  .let e1:((lf:Nat):Int)-((f p).length:Nat)=((lf-(f p).length:Nat):Int):=by omega
   let e2:((j:Nat):Int)+1=((j+1:Nat):Int):=by omega
   rw[e1,e2]
   rfl
  .rw[tk,Im,aY,fJ,List.flatMap_nil,fu];omega
 .refine cZ (aD ()) ?_;exists A6 (a5 (e2.at mL)) Fi ?_;exists h p lf g' pI oH (by rw[xM] at hc;omega) ?_;rw[eo,mY,sp.1,sp.2,aH (),<- JF];simp
def aR8(hT:TB0 T)(hF:TF T)(hN:TN T)(B:Bd g b cs v rs)(W:Wy g w cs v rs)(hz:-cs<=9)(hr:-rs<=900){o:@&Nat}(hm:(i0 (-cs) (d7 cs v rs) 0)[m]?=!o)(h:∀l g',Ex g g'->-g<=l->g'[l]?=!.lst (a9 o)->Q (.ref l) g'):a8 T (k+7) 123 [.ref b,.ref w,.int (m:Nat)] g Q E:=by
 show call_of hN.Ef rfl ?_;delta T2;let kA:=J9 cs v rs;let#[w0,l0,dd,nb,f1,f2,f3,f4,f5]:=B.ex;let p2:=EU hz;left;let e1:=Ex.snoc g (O.lst []);let h1:=b9 (g:=g) (o:=O.lst []);show Ox (λmm U g'=>Ex g g'/\∃(s lf:Nat) (p:@&Nat) (z6:Option D),U=[!.ref b,!.ref w,!.int (m:Nat),!.ref (-g),!.int (s:Nat),!.int (lf:Nat),z6]/\mm=2 ^ (-cs)-s/\jv (d7 cs v rs) s/\lf<(i0 (-cs) (d7 cs v rs) s).length/\some o=((i0 (-cs) (d7 cs v rs) s)[lf]?).map (p++·)/\g'[(-g)]?=!.lst (a9 p)/\-p<=s) _ #[e1,0,m,[],none,rfl,rfl,.zero,(ak.mp hm).1,by rw[hm];rfl,h1,by simp] (λmm U g' q=>?_) (a6 T _);let#[e2,s,lf,p,z6,rfl,rfl,hs,sW,ho,hp,gU]:=q;let rh:=hs.lt kA;exists w9 (e2.at f1) rfl ?_;left;let ed:decide (((s:Nat):Int)=((2 ^ (-cs)-1:Nat):Int))=decide (s=2 ^ (-cs)-1):=eV.mpr ();rw[ed];by_cases fh:s=2 ^ (-cs)-1
 .refine cZ (by rw[au fh];rfl) ?_;left;rw[P1 fh] at sW ho;have:lf=0:=by simp at sW;omega
  subst this;have:o=p:=by simpa using ho
  subst this;show h _ _ e2 (aw _) hp
 .refine eU (by rw[aD fh];rfl) ?_;exists aZ3 hT hF hN.tN (B.at e2) (W.at e2) hz hr hs fh sW λq l g3 e3 hq hl uS=>?_;show E7 rfl ?_;let Jo:=kA _ _ hq;let xi:=e3.at hp;exists uo xi (by simp[a9];omega) ?_;exists v7 hT.nM () ?_;let hgt:=Bv Jo.2;let qt:=e2.trans e3;show#[_,?_,#[by simp;show qt.len,λi hi=>by rw[aB ()];show qt.old i hi],s |||2 ^ q,l,p++[q],_,rfl,rfl,.step hs hq,hl,?_,?_,by simp;omega]
  .omega
  .rw[ho,uS];simp[Option.map_map,Function.comp_def]
  .rw[get_set xi];simp[a9]
def N1(hT:TB0 T)(hF:TF T)(hW:TW T)(hN:TN T)(kB:T 124=!J7)(B:Bd g b cs v rs)(hz:-cs<=9)(hr:-rs<=900)(h1:i0 (-cs) (d7 cs v rs) 0=[]->∀g',Ex g g'->Q .aR g')(h2:∀o l g',(i0 (-cs) (d7 cs v rs) 0)[0]?=!o->Ex g g'->-g<=l->g'[l]?=!.lst (a9 o)->Q (.ref l) g'):a8 T (k+8) 124 [.ref b] g Q E:=by
 show call_of kB rfl ?_;delta J7;exists Fh hT hF hW B hz hr λw g1 e1 hw W=>?_;left;let#[kvs,w1,w2]:=W.ex;show o3 w1 rfl (w2 0 .zero) ?_;left;cases ho:i0 (-cs) (d7 cs v rs) 0 with
 |nil =>
  show eU #[_] ?_;show h1 ho _ e1
 |cons o r =>
  show cZ (by simp;omega) ?_;left;show aR8 hT hF hN (B.at e1) W hz hr (by rw[ho];rfl) λl g2 e2 hl h=>h2 o l g2 (by rw[ho];rfl) (e1.trans e2) (aG e1.len hl) h
end
def jG(r:@&Nat):Nat:=r.foldl (λs p=>s |||2 ^ p) 0
def FC(r:@&Nat)(p:Nat):jG (r++[p])=jG r |||2 ^ p:=by simp[jG,List.foldl_append]
def AR(r:@&Nat)(i:Nat):(jG r).testBit i=decide (i∈r):=by
 have:∀(r:@&Nat) (s:Nat),(r.foldl (λs p=>s |||2 ^ p) s).testBit i=(s.testBit i||decide (i∈r)):=by
  intro r
  induction r with
  |nil=>intro s;simp
  |cons p r ih =>
   intro s;rw[nU,ih,S5,Bool.or_assoc,bq];simp
 rw[jG,this];simp
def bI5:∀{r:@&Nat},(∀i∈r,i<n)->jG r<2 ^ n:=λ{r} h=>by
 have:∀(r:@&Nat) (s:Nat),(∀i∈r,i<n)->s<2 ^ n->r.foldl (λs p=>s |||2 ^ p) s<2 ^ n:=by
  intro r
  induction r with
  |nil=>intro s _ hs;show hs
  |cons p r ih=>intro s h hs;show ih _ (λi hi=>h i (by simp[hi])) (S4 hs (h p #[_]))
 show this r 0 h (gx _)
abbrev V6(F:Nat->@&Nat):Nat->@&(@&Nat)
 |0=>[[]]
 |t+1=>(V6 F t).flatMap λr=>(F (jG r)).map λp=>r++[p]
def Z0{n:Nat}{F:Nat->@&Nat}(hF:FG n F):∀{t:Nat} {r:@&Nat},r∈V6 F t->-r=t/\r.Nodup/\∀i∈r,i<n
 |0,r,h=>by
  cases aX.mp h;simp
 |t+1,r,h=>by
  let#[r0,h0,h1]:=iS.mp h;let#[p,hp,rfl]:=aQ.mp h1;let#[g1,g2,g3]:=Z0 hF h0;let mX:=hF _ _ hp;rw[AR] at mX;show#[by simp[g1],?_,λi hi=>?_]
  .rw[cL];show#[g2,by simp,λx hx y hy=>by cases aX.mp hy;show λz=>(by simpa using mX.2:p∉r0) (z▸hx)]
  .rcases bt.mp hi with z|z
   .exact g3 i z
   .cases aX.mp z;show mX.1
def GQ{r:@&Nat}(h:r.Nodup)(hl:-r=n)(hr:∀i∈r,i<n)(hi:i<n):i∈r:=by
 show Decidable.byContradiction λhn=>?_;have:=yI (l:=i::r) (m:=List.range n) (dC.mpr #[hn,h]) λx hx=>by
  rcases aM.mp hx with rfl|hx
  .exact aN.mpr hi
  .exact aN.mpr (hr x hx)
 simp at this;omega
def FA{r:@&Nat}(h:r.Nodup)(hr:∀i∈r,i<n):jG r=2 ^ n-1↔(-r)=n:=by
 constructor
 .intro e;have:∀i,i<n->i∈r:=λi hi=>by
   have:=AR r i;rw[e,gM,au hi] at this;show bp this.symm
  let h1:=yI (l:=List.range n) (m:=r) fT λi hi=>this i (aN.mp hi);let h2:=yI (l:=r) (m:=List.range n) h λi hi=>aN.mpr (hr i hi);simp at h1 h2;omega
 .intro hl;show BL λi=>?_;rw[AR,gM];show eV.mpr #[hr i,λhi=>GQ h hl hr hi]
def Qj{n:Nat}{F:Nat->@&Nat}(hF:FG n F):∀{t:Nat},t<=n->(V6 F t).flatMap (λr=>(i0 n F (jG r)).map (r++·))=i0 n F 0
 |0,_=>by simp[V6,jG]
 |t+1,ht=>by
  rw[<- Qj hF (show t<=n by omega),V6,List.flatMap_assoc];show M9 λr hr=>?_;let#[g1,g2,g3]:=Z0 hF hr;let fh:jG r≠2 ^ n-1:=λz=>by have:=(FA g2 g3).mp z;omega
  rw[yJ hF (bI5 g3) fh,List.map_flatMap,List.flatMap_map];show M9 λp hp=>?_;rw[FC,bI];show fe λo x=>?_;simp
def Pb{F:Nat->@&Nat}(hF:FG n F):V6 F n=i0 n F 0:=by
 rw[<- Qj hF (aw n)];have:∀(l:@&(@&Nat)),(∀r∈l,r∈V6 F n)->l.flatMap (λr=>(i0 n F (jG r)).map (r++·))=l:=by
  intro l
  induction l with
  |nil=>intro _;rfl
  |cons r l ih =>
   intro h;let#[g1,g2,g3]:=Z0 hF (h r #[_]);rw[fJ,ih λx hx=>h x (by simp[hx]),P1 ((FA g2 g3).mpr g1)];simp
 show(this _ λy h=>h).symm
def Qh{F:Nat->@&Nat}(hF:FG n F){o:@&Nat}(h:o∈i0 n F 0):-o=n/\o.Nodup/\∀i∈o,i<n:=by
 rw[<- Pb hF] at h;show Z0 hF h
abbrev C3(r:eJ):eJ:=#[r.w,r.y,r.x]
def many(cs:@&a7)(v:Int)(rs:@&eJ):Nat:=(i0 (-cs) (d7 cs v rs) 0).length
def Q1:aP:=#[2,4,(de (cI .NotEq (cJ .len aL) aE) (bN (bG .tup (bO "many") (cJ .len aL))) (nO (.many [2,3]) (.lg aL) (de (.dt (.fg (gA 1 bP (bu 0) (bG (.bin .Sub) aE (bu 1))))) (bN (bG .tup (bO "stranger") ba)) (dN (.ifs (cI .In bP (bG (.mU false true) aL ba)) (bN (bG .tup (bO "twice") ba)) .pass))) (bN (.lit .aR))))]
def Fq:aP:=#[2,7,(du 2 (dP 102 (cJ (.fld "size") aE) aL) (de (cI .IsNot ba (.lit .aR)) (bN ba) (du 3 (bu 0) (nO (.many [4,5]) (.lg aL) (du 6 (gA 101 aE bP gO) (de (cI .IsNot gf (.lit .aR)) (bN (bG .tup gf dX)) (dN (.set 3 (dP 91 bP gO))))) (bN (.lit .aR))))))]
def U0:aP:=#[4,4,(bN (dP 103 (gA 99 aE aL ba) bP))]
def NQ{f:Nat->Option α}:(List.range (i+1)).findSome? f=none↔(List.range i).findSome? f=none/\f i=none:=by
 rw[gy,zq];cases (List.range i).findSome? f<;>simp
def GW{f:Nat->Option α}{r:α}(h:(List.range i).findSome? f=none)(hi:i<n)(hr:f i=!r):(List.range n).findSome? f=!r:=by
 let e:List.range n=List.range i++(List.range (n-i)).map (i+·):=by
  rw[<- List.range_add]
  congr 1
  omega
 obtain⟨m,hm⟩:∃m,n-i=m+1:=#[n-i-1,by omega]
 rw[e,zq,h,hm,jj];simp[hr]
abbrev mW(n:Nat)(ns:@&Int)(i:Nat):Option (Str×Nat):=if 0<=ns.getD i 0/\ns.getD i 0<n then(if ns.getD i 0∈ns.take i then some ("twice",i) else none) else !("stranger",i)
abbrev L7(ns:@&Int)(i:Nat):@&Nat:=(ns.take i).map Int.toNat
abbrev qp(cs:@&a7)(v:Int)(rs:@&eJ)(ns:@&Int)(i:Nat):Option (Str×Nat):=if fault cs v rs (lO (L7 ns i)) (ns.getD i 0).toNat="" then none else !(fault cs v rs (lO (L7 ns i)) (ns.getD i 0).toNat,i)
abbrev pairF:Option (Str×Nat)->D
 |some (w,i)=>.tup [.str w,.int i]
 |none=>.aR
abbrev yT(cs:@&a7)(v:Int)(rs:@&eJ)(ns:@&Int):Option (Str×Nat) :=
 if (-ns)=-cs then((List.range (-ns)).findSome? (mW (-cs) ns)).orElse λx=>(List.range (-ns)).findSome? (qp cs v rs ns) else !("many",(-ns))
def getD_at{x:Int}(h:ns[i]?=!x):ns.getD i 0=x:=by simp[List.getD,h]
set_option tactic.hygienic true in
def ZK(h:(List.range (-ns)).findSome? (mW n ns)=none)(hi:i< -ns):(0<=ns.getD i 0/\ns.getD i 0<n)/\ns.getD i 0∉ns.take i:=by
 have:=hJ.mp h i (aN.mpr hi);unfold mW at this;split at this
 .rename_i h1;split at this
  .cases this
  .rename_i h2;show#[h1,h2]
 .cases this
def a84(hi:i< -ns):L7 ns (i+1)=L7 ns i++[(ns.getD i 0).toNat]:=by
 unfold L7;rw[bJ,ag hi,getD_at (ag hi),bw]
 rfl
def bB7{l:@&Int}{x:Int}:(l.any λm=>m==x)=decide (x∈l):=by
 rw[bq,br,dF];show#[(by rintro ⟨y,hy,e⟩;show (eA.mp e)▸hy),λhy=>#[x,hy,by simp]]
structure TO(T:Nat->Option aP):Prop where
 tR:T 102=!Q1
 Ej:T 103=!Fq
section
variable{T:Nat->Option aP}
def av7(h1:NF T)(tR:T 102=!Q1)(hr:g[r]?=!.lst (ns.map .int))(hz:-ns<=100)(h:∀g',Ex g g'->Q (pairF (if (-ns)=n then(List.range (-ns)).findSome? (mW n ns) else !("many",(-ns)))) g'):a8 T (k+3) 102 [.int (n:Nat),.ref r] g Q E:=by
 show call_of tR rfl ?_;delta Q1;left;rw[ah];by_cases hn:-ns=n
 .rw[az hn] at h;show cZ (by rw[au ()];rfl) ?_;exists E5 (a6 T _) (wX ?_);exists#[r,_,rfl,a5 hr,oW (ns.map .int),λi U g'=>Ex g g'/\(List.range i).findSome? (mW n ns)=none/\∃z2 z3,U=[!.int (n:Nat),!.ref r,z2,z3],λi U g' q=>vN (a5 (q.1.at hr)),#[Ex.refl _,rfl,none,none,rfl],λi x U g' hx q=>?_,λU g' q=>?_]
  .let#[e1,q,z2,z3,rfl]:=q;let#[dd,hd,rfl]:=W7 hx;rw[aj,ae] at hd;let#[x,rg,rfl]:=hd;let hi:i< -ns:=(ak.mp rg).1;let hg:=getD_at rg;show E7 rfl ?_
   try show wpS _ _ _ _ _ _
   exists j7 (k:=k) h1 ?_;left;by_cases hs:0<=x/\x<n
   .rw[au hs.1,au (show x<=(n:Int)-1 by omega)];show cZ rfl ?_;exists Hf (a5 (e1.at hr)) ?_;rw[bS9 (by rw[ah];omega),<- sf];show Y5 (PL (a5 b9) ?_);rw[bB7];exists if2 (λht=>?_) (λht=>?_)
    .left;rw[GW q hi (show mW n ns i=some (("twice":Str),i) by unfold mW;rw[hg,az hs,az ht])] at h;show h _ (e1.trans (Ex.snoc _ _))
    .left;show#[e1.trans (Ex.snoc _ _),NQ.mpr #[q,by unfold mW;rw[hg,az hs,aA ht]],_,_,rfl]
   .have:(decide (0<=x)&&decide (x<=(n:Int)-1))=false:=by
     rw[cS,aK,aK];omega
    rw[this];left;rw[GW q hi (show mW n ns i=some (("stranger":Str),i) by unfold mW;rw[hg,aA hs])] at h;show h _ e1
  .let#[e1,q,z2,z3,rfl]:=q;rw[N4,ah] at q;rw[q] at h
   try show wpS _ _ _ _ _ _
   left;show h _ e1
 .rw[aA hn] at h;show eU (by rw[aD ()];rfl) ?_;left;rw[ah];show h _ (Ex.refl _)
def Xg{o:Option (Str×Nat)}:Q6 (pairF o)=o.isNone:=by cases o<;>rfl
def Nb(hT:TB0 T)(hO:TO T)(B:Bd g b cs v rs)(hz:-cs<=9)(hR:-rs<=900)(hr:g[r]?=!.lst (ns.map .int))(hl:-ns<=100)(h:∀g',Ex g g'->Q (pairF (yT cs v rs ns)) g'):a8 T (k+4) 103 [.ref b,.ref r] g Q E:=by
 show call_of hO.Ej rfl ?_;delta Fq;let#[w0,l0,dd,nb,f1,f2,f3,f4,f5]:=B.ex;exists w9 f1 rfl ?_;exists av7 (k:=k) hT.nf hO.tR hr hl λg1 e1=>?_;left;rw[Xg];unfold yT at h;by_cases hn:-ns=-cs
 .rw[az hn] at h ⊢;cases hp:(List.range (-ns)).findSome? (mW (-cs) ns) with
  |some x =>
   show eU rfl ?_;left;rw[hp] at h;show h _ e1
  |none =>
   show cZ rfl ?_;left;rw[hp] at h;let B1:=B.at e1;show E5 (a6 T _) (wX ?_);exists#[r,_,rfl,a5 (e1.at hr),oW (ns.map .int),λi U g'=>Ex g1 g'/\(List.range i).findSome? (qp cs v rs ns)=none/\∃(s:Nat) (z4 z5 z6:Option D),s<2 ^ (-cs)/\(∀j,s.testBit j=lO (L7 ns i) j)/\U=[!.ref b,!.ref r,!.aR,!.int (s:Nat),z4,z5,z6],λi U g' q=>vN (a5 ((e1.trans q.1).at hr)),#[Ex.refl _,rfl,0,none,none,none,gx _,λj=>by simp[L7],rfl],λi x U g' hx q=>?_,λU g' q=>?_]
   .let#[e2,q,s,z4,z5,z6,hs,hb,rfl]:=q;let#[d2,hd,rfl]:=W7 hx;rw[aj,ae] at hd;let#[x,rg,rfl]:=hd;let hi:i< -ns:=(ak.mp rg).1;let hg:=getD_at rg;let mZ:=ZK hp hi;rw[hg] at mZ;obtain⟨p,rfl⟩:∃p:Nat,x=p:=#[x.toNat,by omega]
    let mX:p< -cs:=by omega
    show E7 rfl ?_
    try show wpS _ _ _ _ _ _
    exists NA (k:=k) hT (B1.at e2) hz hR hs mX λg3 e3=>?_;left;let ef:fault cs v rs s.testBit p=fault cs v rs (lO (L7 ns i)) p:=aS9 λj y=>hb j;rw[ef];let JC:qp cs v rs ns i=if fault cs v rs (lO (L7 ns i)) p="" then none else !(fault cs v rs (lO (L7 ns i)) p,i):=by unfold qp;rw[hg];rfl
    generalize fault cs v rs (lO (L7 ns i)) p=fx at *;rw[OQ];by_cases wZ:fx=""
    .refine cZ (by rw[au wZ];rfl) ?_;exists v7 (k:=k+2) hT.nM () ?_;exists#[e2.trans e3,NQ.mpr #[q,by rw[JC,az wZ]],_,_,_,_,S4 hs mX,λj=>?_,rfl];rw[S5,hb,a84 hi,hg];rw[bq];simp only[Bool.or_eq_true,decide_eq_true_eq,List.mem_append,List.mem_singleton,Int.toNat_natCast]
    .refine eU (by rw[aD wZ];rfl) ?_;left;let h2:=GW q hi (show qp cs v rs ns i=some (fx,i) by rw[JC,aA wZ]);let ew:vi fx=.str fx:=by unfold vi;rw[aA wZ]
     rw[ew];rw[show(Option.none.orElse λ_:Unit=>(List.range (-ns)).findSome? (qp cs v rs ns))=some (fx,i) from h2] at h;show h _ (e1.trans (e2.trans e3))
   .let#[e2,q,s,z4,z5,z6,hs,hb,rfl]:=q;rw[N4,ah] at q;rw[show(Option.none.orElse λ_:Unit=>(List.range (-ns)).findSome? (qp cs v rs ns))=none from q] at h
    try show wpS _ _ _ _ _ _
    left;show h _ (e1.trans e2)
 .rw[aA hn] at h ⊢;show eU rfl ?_;left;show h _ e1
end
structure Ask(g:G)(a c:Nat)(cs:@&a7)(v:Int)(rs:@&eJ):Prop where
 ha:g[a]?=!.lst (cs.map a7.d)
 hz:-cs<=9
 hG:∀c∈cs,QN c
 hv:1<=v/\v<=9
 hc:g[c]?=!.lst (l7 rs)
 hr:-rs<=900
 hR:rs.all (p8 cs)=true
section
variable{T:Nat->Option aP}
def Ask.hB(h:Ask g a c cs v rs):∀c∈cs,CB c:=λc hc=>#[(h.hG c hc).l8,(h.hG c hc).u8]
def Ask.good(h:Ask g a c cs v rs):cs.all k9=true:=bK.mpr λc hc=>(h.hG c hc).good
def Mz(hT:TB T)(A:Ask g a c cs v rs)(h:∀g' b,Ex g g'->-g<=b->Bd g' b cs v rs->Q (.ref b) g'):a8 T (k+10) 99 [.ref a,.int v,.ref c] g Q E:=Gw hT A.ha A.hz A.good A.hB A.hv A.hc A.hr A.hR h
end
def bI3(l:@&Nat):(jG l).testBit=lO l:=funext λi=>AR l i
def Fy{F:Nat->@&Nat}:∀{t:Nat} {r:@&Nat},r∈V6 F t↔(-r)=t/\∀i p,r[i]?=!p->p∈F (jG (r.take i))
 |0,r=>by
  constructor
  .intro h;cases aX.mp h;show#[rfl,λi p e=>by simp at e]
  .rintro⟨h,_⟩;cases iT.mp h;show aX.mpr rfl
 |t+1,r=>by
  change r∈(V6 F t).flatMap (λr=>(F (jG r)).map λp=>r++[p])↔_;rw[iS];constructor
  .rintro⟨r0,h0,h1⟩;let#[p,hp,rfl]:=aQ.mp h1;let#[hl,hs]:=Fy.mp h0;show#[by simp[hl],λi q e=>?_];by_cases hi:i< -r0
   .rw[aH hi] at e;rw[List.take_append_of_le_length ()];show hs i q e
   .let SY:i=-r0:=by
     have:=(ak.mp e).1;simp at this;omega
    subst SY;rw[cc (aw _),Nat.sub_self] at e;cases e;rw[List.take_left' rfl];show hp
  .rintro⟨hl,hs⟩;let ht:t< -r:=by omega
   show#[r.take t,Fy.mpr #[by simp;omega,λi p e=>?_],?_]
   .let hi:i<t:=by
     have:=(ak.mp e).1;simp at this;omega
    rw[cB hi] at e;rw[List.take_take,Nat.min_eq_left ()];show hs i p e
   .refine aQ.mpr #[r[t],hs t _ (ag ht),?_];let e:=bJ (l:=r) (i:=t);rw[ag ht,fI ()] at e;show e.symm
structure kO(cs:@&a7)(v:Int)(rs:@&eJ)(o:@&Nat):Prop where
 len:-o=-cs
 st:∀i p,o[i]?=!p->p< -cs/\p∉o.take i/\fault cs v rs (lO (o.take i)) p=""
def Be{l:@&Nat}:p∈d7 cs v rs (jG l)↔p< -cs/\p∉l/\fault cs v rs (lO l) p="":=by
 unfold d7 pN;rw[bg,aN,bI3,aW,dF,eM,aK]
def Fw{o:@&Nat}:o∈i0 (-cs) (d7 cs v rs) 0↔kO cs v rs o:=by
 rw[<- Pb (J9 cs v rs),Fy];show#[λh=>#[h.1,λi p e=>Be.mp (h.2 i p e)],λh=>#[h.len,λi p e=>Be.mpr (h.st i p e)]]
def bS2{S:Nat->Bool}:fault cs v rs S p=""↔T8 cs S p=false/\W2 cs S p=false/\(uh cs S p:Int)<=v/\K4 cs rs S p=true:=by
 unfold fault;cases T8 cs S p
 .cases W2 cs S p
  .rw[aA ∅,aA ∅];by_cases h:v<uh cs S p
   .rw[az h];show#[λz=>absurd z ∅,λz=>absurd z.2.2.1 ()]
   .rw[aA h];cases K4 cs rs S p
    .exact#[λz=>absurd z ∅,λz=>absurd z.2.2.2 ∅]
    .exact#[λx=>#[rfl,rfl,by omega,rfl],λx=>rfl]
  .rw[aA ∅,az rfl];show#[λz=>absurd z ∅,λz=>absurd z.2.1 ∅]
 .rw[az rfl];show#[λz=>absurd z ∅,λz=>absurd z.1 ∅]
def LW{f:Nat->Bool}:(List.range n).any f=true↔∃i,i<n/\f i=true:=by
 rw[br];show#[(by rintro ⟨i,h,e⟩;show #[i,aN.mp h,e]),(by rintro ⟨i,h,e⟩;show #[i,aN.mpr h,e])]
def Lc{α:Type}[DecidableEq α]:∀{l m:List α},l.Nodup->(∀x∈l,x∈m)->-l<=-m
 |[],m,_,_=>cw _
 |x::l,m,nd,h=>by
  let#[h1,h2]:=dC.mp nd;let hx:=h x #[_];have:=Lc (m:=m.erase x) h2 λy hy=>(BO λz=>h1 (by rw[<- z];show hy)).mpr (h y (by simp[hy]));rw[List.length_erase_of_mem hx] at this;have:0< -m:=jn hx;simp only[List.length_cons];omega
def bV1{S:Nat->Bool}{d:Int}:Z6 cs S p d=true↔(∃i,i< -cs/\(S i=true\/i=p)/\(dw cs i).lo=d)/\∃i,i< -cs/\S i=false/\(dw cs i).lo=d:=by
 unfold Z6;rw[aW,LW,LW];simp only[Bool.and_eq_true,Bool.or_eq_true,decide_eq_true_eq,Bool.not_eq_true']
section
variable{o:@&Nat}
def kO.nd(h:kO cs v rs o):o.Nodup:=(Qh (J9 cs v rs) (Fw.mpr h)).2.1
def kO.lt(h:kO cs v rs o):∀i∈o,i< -cs:=(Qh (J9 cs v rs) (Fw.mpr h)).2.2
def kO.all(h:kO cs v rs o)(hi:i< -cs):i∈o:=GQ h.nd h.len h.lt hi
def b45{c:a7}(h:i< -cs):dw (cs++[c]) i=dw cs i:=by
 unfold dw;rw[bf,bf,aH h]
def b44{c:a7}:dw (cs++[c]) (-cs)=c:=B9 #[_]
def kO.none(h:kO cs v rs o):yT cs v rs (o.map λ(i:Nat)=>(i:Int))=none:=by
 let gD:∀i,i< -o->∃p,o[i]?=!p/\(o.map λ(i:Nat)=>(i:Int)).getD i 0=(p:Nat):=λi hi=>#[o[i],ag hi,getD_at (by rw[aj,ag hi];rfl)]
 unfold yT;rw[az (by rw[ah,h.len])];let p1:(List.range (o.map λ(i:Nat)=>(i:Int)).length).findSome? (mW (-cs) (o.map λ(i:Nat)=>(i:Int)))=Option.none:=by
  rw[hJ];intro i hi;rw[aN,ah] at hi;let#[p,e1,e2]:=gD i hi;let#[h1,h2,_]:=h.st i p e1;unfold mW;rw[e2,az #[by omega,by omega],aA];rw[<- sf];intro z;let#[q,hq,e]:=aQ.mp z;show h2 ((by omega:q=p)▸hq)
 let p2:(List.range (o.map λ(i:Nat)=>(i:Int)).length).findSome? (qp cs v rs (o.map λ(i:Nat)=>(i:Int)))=Option.none:=by
  rw[hJ];intro i hi;rw[aN,ah] at hi;let#[p,e1,e2]:=gD i hi;let#[_,_,h3]:=h.st i p e1;unfold qp;have:L7 (o.map λ(i:Nat)=>(i:Int)) i=o.take i:=by
   unfold L7;rw[<- sf,bI];show(fe λx x=>rfl).trans (nE _)
  rw[e2,this,bL,az h3]
 rw[p1,p2]
 rfl
end
def Oz{a b:@&Int}:nY a b=true↔∀x∈a,x∈b:=by
 unfold nY;rw[bK];show forall_congr' λx=>#[λh hx=>?_,λh hx=>?_]
 .let#[y,hy,e]:=br.mp (h hx);show eA.mp e▸hy
 .exact br.mpr #[x,h hx,by simp]
def HP:∀{ms:@&Int} {l:Int},gm l ms=true->ms.Pairwise (· < ·)/\∀m∈ms,l<=m/\m<=7
 |[],_,_=>by simp
 |x::r,l,h=>by
  simp only[gm,Bool.and_eq_true,decide_eq_true_eq] at h;let#[h1,h2]:=HP h.2;show#[fB.mpr #[λy hy=>by have:=h2 y hy;omega,h1],λm hm=>?_];rcases aM.mp hm with rfl|hm
  .exact h.1
  .have:=h2 m hm;omega
def LH(h:gm 0 ms=true):-ms<=8:=by
 let#[p1,p2]:=HP h;have:∀(l:@&Int) (b:Int),l.Pairwise (· < ·)->(∀m∈l,b<=m/\m<=7)->(-l:Int)<=8-b\/l=[]:=by
  intro l
  induction l with
  |nil=>intro b _ _;show .inr rfl
  |cons x r ih =>
   intro b hp hb;let#[h1,h2]:=fB.mp hp;let hx:=hb x #[_];show .inl ?_;rcases ih (x+1) h2 (λm hm=>#[by have:=h1 m hm;omega,(hb m (by simp[hm])).2]) with z|z
   .simp;omega
   .subst z;simp;omega
 rcases this ms 0 p1 p2 with z|z
 .omega
 .subst z;simp
def bE7{w:@&(@&Int)}{x:@&Int}(h:1<=v/\v<=-w):dY (w++[x]) v=dY w v:=by
 unfold dY;rw[bf,bf,aH ()]
def bE6{w:@&(@&Int)}{l:@&Int}(h:1<=v/\v<=-w):dY (w.set (v-1).toNat l) v=l:=by
 unfold dY;rw[bf,aU ()]
 rfl
def bT6{w:@&(@&Int)}{l:@&Int}{u:Int}(hu:1<=u)(hv:1<=v)(h:u≠v):dY (w.set (v-1).toNat l) u=dY w u:=by
 unfold dY;rw[bf,bf,aB ()]
abbrev Co(l:@&D):@&Int:=l.filterMap λz=>match z with
 |.int v=>!v
 |_=>none
def bB0(l:@&D):(Co l).length<=-l:=List.length_filterMap_le _ _
def NZ(h:l[i]?=!.int v):v∈Co l:=fC.mpr #[_,aC h,rfl]
structure pP(cs:@&a7)(w:@&(@&Int))(f:a7->Int)(g:a7->@&Int):Prop where
 gm:∀l∈w,gm 0 l=true
 at_:∀c∈cs,(1<=f c/\f c<=-w)/\∀x∈g c,x∈dY w (f c)
structure Hs(n:Nat)(s:dM)(cs:@&a7)(B:Nat->@&Int):Prop where
 co:s.co=cs.map a7.d
 bn:-s.bl<=n
 bb:∀p,(B p).length<=n
 cur:∀v,w6 s v=true->∀q p,q<=p->p< -cs->(dw cs q).lo=v->v∈B p
 old:∀c∈cs,w6 s c.lo=true\/c.lo∈s.go
 use:∀q p r,q<=p->p<=r->r< -cs->(dw cs q).lo=(dw cs r).lo->(dw cs q).lo∈B p
 sl:pP cs s.lo a7.lo a7.lm
 su:pP cs s.up a7.up a7.um
 mono:∀q r,q<r->r< -cs->((dw cs q).lo=(dw cs r).lo->∀x∈(dw cs q).lm,x∈(dw cs r).lm)/\((dw cs q).up=(dw cs r).up->∀x∈(dw cs q).um,x∈(dw cs r).um)/\(dw cs q).yr<=(dw cs r).yr
 yr:∀c∈cs,c.yr<=s.yr
 y9:s.yr<=9999
 gc:∀c∈cs,k9 c=true
def Vd:Hs n (s0 n) [] λx=>[]:=by
 show#[rfl,by simp[s0],λx=>cw _,λv x q p x h=>(by simp at h),λc h=>(by cases h),λq p r x x h=>(by simp at h),#[λl h=>(by cases h),λc h=>(by cases h)],#[λl h=>(by cases h),λc h=>(by cases h)],λq r x h=>(by simp at h),λc h=>(by cases h),(show(0:Int)<=9999 by decide),λc h=>(by cases h)]
def Hv(h:p< -cs):dw cs p∈cs:=by
 rw[B9 (ag h)];show cH h
def pP.cut{w:@&(@&Int)}{f:a7->Int}{g:a7->@&Int}(h:pP cs w f g):pP cs (w++[[]]) f g:=by
 show#[λl hl=>?_,λc hc=>?_]
 .rcases bt.mp hl with hl|hl
  .exact h.gm l hl
  .rw[aX.mp hl]
   rfl
 .let#[h1,h2]:=h.at_ c hc;rw[bE7 h1];show#[by rw[aY];simp;omega,h2]
def pP.mark{w:@&(@&Int)}{f:a7->Int}{g:a7->@&Int}{k:Int}(h:pP cs w f g)(hv:1<=v/\v<=-w)(hk:0<=k/\k<=7):pP cs (w.set (v-1).toNat (markL (dY w v) k)) f g:=by
 let g1:=h.gm _ (T6 hv).2;show#[λl hl=>?_,λc hc=>?_]
 .rcases cO hl with hl|rfl
  .exact h.gm l hl
  .exact KQ (Qi.sublist ff) λm hm=>by
    have:=Fx.mp (bg.mp hm).1;unfold ST.Spot at this;omega
 .let#[h1,h2]:=h.at_ c hc;show#[by rw[ft];show h1,λx hx=>?_];by_cases e:f c=v
  .rw[e,bE6 hv];let q:=h2 x hx;rw[e] at q;let sp:∀j∈dY w v,ST.Spot j:=λj hj=>by
    have:=(HP g1).2 j hj;unfold ST.Spot;omega
   show(Qc sp (by unfold ST.Spot;omega)).mpr (.inr q)
  .rw[bT6 h1.1 hv.1 e];show h2 x hx
section
variable{s:dM}{B:Nat->@&Int}
set_option tactic.hygienic true in
def Hs.cut{x:Str}(h:Hs n s cs B):Hs n (B6 s x).2.2 cs B:=by
 unfold B6;split
 .rename_i hx;split
  .rcases hx with rfl|rfl
   .rw[J5];unfold dM.put;rw[az rfl];show#[h.co,h.bn,h.bb,h.cur,h.old,h.use,h.sl.cut,h.su,h.mono,h.yr,h.y9,h.gc]
   .rw[J0];unfold dM.put;rw[aA ∅];show#[h.co,h.bn,h.bb,h.cur,h.old,h.use,h.sl,h.su.cut,h.mono,h.yr,h.y9,h.gc]
  .exact h
 .exact h
set_option tactic.hygienic true in
def Hs.mark{x:Str}{v k:Int}(h:Hs n s cs B):Hs n (i8 s x v k).2.2 cs B:=by
 unfold i8;split
 .rename_i hx;split
  .rename_i hv;split
   .exact h
   .split
    .rename_i hk;split
     .exact h
     .rcases hx with rfl|rfl
      .rw[J5] at hv ⊢;unfold dM.put;rw[az rfl];show#[h.co,h.bn,h.bb,h.cur,h.old,h.use,h.sl.mark hv hk,h.su,h.mono,h.yr,h.y9,h.gc]
      .rw[J0] at hv ⊢;unfold dM.put;rw[aA ∅];show#[h.co,h.bn,h.bb,h.cur,h.old,h.use,h.sl,h.su.mark hv hk,h.mono,h.yr,h.y9,h.gc]
    .exact h
  .exact h
 .exact h
def Hs.year{m:Int}(h:Hs n s cs B):Hs n (A5 s m).2.2 cs B:=by
 unfold A5;split
 .exact#[h.co,h.bn,h.bb,h.cur,h.old,h.use,h.sl,h.su,h.mono,λc hc=>by have:=h.yr c hc;change c.yr<=m;omega,by change m<=9999;omega,h.gc]
 .exact h
set_option tactic.hygienic true in
def Hs.fix(W:WS s)(h:Hs n s cs B):Hs n (u7 s v).2.2 cs B:=by
 unfold u7;split
 .split
  .exact h
  .rename_i nb;split
   .exact h
   .rename_i ng;split
    .rename_i hb;let#[_,pl,pe]:=K6 W.se (.inl rfl) hb;let Cf:∀z∈s.bl.set (gJ s.bl .aR) (.int v),o6 z:=λz hz=>by
      rcases cO hz with hz|rfl
      .exact W.se z hz
      .exact .inr #[v,rfl]
     let oA:∀u,w6 { s with bl:=s.bl.set (gJ s.bl .aR) (.int v) } u=true↔u=v\/w6 s u=true:=λu=>by
      rw[show w6 { s with bl:=s.bl.set (gJ s.bl .aR) (.int v) } u=(s.bl.set (gJ s.bl .aR) (.int v)).any (ic (.int u)) from rfl,C8 Cf,show w6 s u=s.bl.any (ic (.int u)) from rfl,C8 W.se];constructor
      .rintro⟨i,hi⟩;by_cases e:gJ s.bl .aR=i
       .subst e;rw[aU pl] at hi;cases hi;show .inl rfl
       .rw[aB e] at hi;show .inr #[i,hi]
      .rintro(rfl|⟨i,hi⟩)
       .exact#[_,aU pl]
       .refine#[i,?_];rw[aB λe=>?_]
        .exact hi
        .rw[<- e,pe] at hi;cases hi
     let no:∀c∈cs,c.lo≠v:=λc hc e=>by
      rcases h.old c hc with z|z
      .exact nb (e▸z)
      .refine ng ?_;rw[br];show#[.int v,aQ.mpr #[v,e▸z,rfl],by simp[ic,lq,toV]]
     show#[h.co,by rw[ft];show h.bn,h.bb,λu hu q p hq hp e=>?_,λc hc=>?_,h.use,h.sl,h.su,h.mono,h.yr,h.y9,h.gc]
     .rcases(oA u).mp hu with rfl|hu
      .exact absurd e (no _ (Hv ()))
      .exact h.cur u hu q p hq hp e
     .rcases h.old c hc with z|z
      .exact .inl ((oA _).mpr (.inr z))
      .exact .inr z
    .exact h
 .exact h
set_option tactic.hygienic true in
def Hs.off(W:WS s)(h:Hs n s cs B):Hs n (A9 s v).2.2 cs B:=by
 unfold A9;split
 .split
  .rename_i hb;let#[_,pl,pe]:=K6 W.se (.inr #[v,rfl]) hb;let Cf:∀z∈s.bl.set (gJ s.bl (.int v)) .aR,o6 z:=λz hz=>by
    rcases cO hz with hz|rfl
    .exact W.se z hz
    .exact .inl rfl
   let oA:∀u,w6 { s with bl:=s.bl.set (gJ s.bl (.int v)) .aR,go:=s.go++[v] } u=true↔u≠v/\w6 s u=true:=λu=>by
    rw[show w6 { s with bl:=s.bl.set (gJ s.bl (.int v)) .aR,go:=s.go++[v] } u=(s.bl.set (gJ s.bl (.int v)) .aR).any (ic (.int u)) from rfl,C8 Cf,show w6 s u=s.bl.any (ic (.int u)) from rfl,C8 W.se];constructor
    .rintro⟨i,hi⟩;by_cases e:gJ s.bl (.int v)=i
     .subst e;rw[aU pl] at hi;cases hi
     .rw[aB e] at hi;show#[λz=>e (W.di _ _ v pe (z▸hi)),i,hi]
    .rintro⟨ne,i,hi⟩;show#[i,?_];rw[aB λe=>?_]
     .exact hi
     .rw[<- e,pe] at hi;cases hi;show ne rfl
   show#[h.co,by rw[ft];show h.bn,h.bb,λu hu q p hq hp e=>h.cur u ((oA u).mp hu).2 q p hq hp e,λc hc=>?_,h.use,h.sl,h.su,h.mono,h.yr,h.y9,h.gc];by_cases e:c.lo=v
   .exact .inr (bW _ (by simp[e]))
   .rcases h.old c hc with z|z
    .exact .inl ((oA _).mpr #[e,z])
    .exact .inr (eP _ z)
  .exact h
 .exact h
set_option tactic.hygienic true in
def Hs.yC{a b:Int}(W:WS s)(h:Hs n s cs B):∃tY B',Hs n (i7 s a b).2.2 tY B':=by
 unfold i7;split
 .rename_i ql;split
  .rename_i hb;split
   .let ga:=h.sl.gm _ (T6 ql.1).2;let gb:=h.su.gm _ (T6 ql.2).2;let y0:=W.y0;let y9:=h.y9;let ln:=W.ln;let un:=W.un;let#[i,hi]:=(C8 W.se).mp hb;let lt:∀{p:Nat},p<(cs++[a7.mk a (dY s.lo a) b (dY s.up b) s.yr]).length->p< -cs\/p=-cs:=λ{p} z=>by
     rw[aY] at z;simp at z;omega
    let at_:=λ{p:Nat} (z:p< -cs)=>b45 (cs:=cs) (c:=a7.mk a (dY s.lo a) b (dY s.up b) s.yr) z;let MW:=b44 (cs:=cs) (c:=a7.mk a (dY s.lo a) b (dY s.up b) s.yr);let sd:∀ {w:@&(@&Int)} {f:a7->Int} {g:a7->@&Int},pP cs w f g->(1 <= f #[a,dY s.lo a,b,dY s.up b,s.yr]/\f #[a,dY s.lo a,b,dY s.up b,s.yr] <= -w)->g #[a,dY s.lo a,b,dY s.up b,s.yr]=dY w (f #[a,dY s.lo a,b,dY s.up b,s.yr])->pP (cs ++ [#[a,dY s.lo a,b,dY s.up b,s.yr]]) w f g:=λS h1 h2=>#[S.gm,λc hc=>by
     rcases bt.mp hc with hc|hc
     .exact S.at_ c hc
     .rw[aX.mp hc];show #[h1,λx hx=>h2 ▸ hx]]
    show#[cs++[#[a,dY s.lo a,b,dY s.up b,s.yr]],λp=>if p=-cs then Co s.bl else B p,?_,h.bn,λp=>?_,λv hv q p hq hp e=>?_,λc hc=>?_,λq p r hq hr hl e=>?_,sd h.sl ql.1 rfl,sd h.su ql.2 rfl,λq r hq hr=>?_,λc hc=>?_,y9,λc hc=>?_]
    .change s.co++[R7 s a b]=_;rw[h.co,bw]
     rfl
    .split
     .exact aG (bB0 _) h.bn
     .exact h.bb p
    .let#[j,hj]:=(C8 W.se).mp hv;rcases lt hp with hp|rfl
     .rw[aA ()];rw[at_ ()] at e;show h.cur v hv q p hq hp e
     .rw[az rfl];show NZ hj
    .rcases bt.mp hc with hc|hc
     .exact h.old c hc
     .rw[aX.mp hc];show .inl hb
    .rcases lt hl with hl|rfl
     .rw[aA ()];rw[at_ (show q< -cs by omega),at_ hl] at e;rw[at_ ()];show h.use q p r hq hr hl e
     .rw[MW] at e;rw[e];by_cases c1:p=-cs
      .rw[az c1];show NZ hi
      .rw[aA c1];rw[at_ (show q< -cs by omega)] at e;show h.cur a hb q p hq () e
    .rcases lt hr with hr|rfl
     .rw[at_ (show q< -cs by omega),at_ hr];show h.mono q r hq hr
     .rw[at_ hq,MW];let m:=Hv hq;show#[λe x hx=>?_,λe x hx=>?_,h.yr _ m]
      .let z:=(h.sl.at_ _ m).2 x hx;rw[e] at z;show z
      .let z:=(h.su.at_ _ m).2 x hx;rw[e] at z;show z
    .rcases bt.mp hc with hc|hc
     .exact h.yr c hc
     .rw[aX.mp hc];show Int.le_refl _
    .rcases bt.mp hc with hc|hc
     .exact h.gc c hc
     .rw[aX.mp hc];unfold k9;dsimp only;rw[ga,gb];simp only[Bool.and_eq_true,decide_eq_true_eq,and_true];omega
   .exact#[cs,B,h]
  .exact#[cs,B,h]
 .exact#[cs,B,h]
def Hs.do(W:WS s)(h:Hs n s cs B):∃tY B',Hs n (kf s dd).2.2 tY B':=by
 cases dd
 .exact#[cs,B,h.cut]
 .exact#[cs,B,h.fix W]
 .exact#[cs,B,h.off W]
 .exact#[cs,B,h.mark]
 .exact h.yC W
 .exact#[cs,B,h.year]
end
def FR:aP:=#[3,3,(dN (.ifs (.dt (.fg (gA 74 aE aL ba))) (dN (.raise "NoDie" (fb (bO "no coin is of that die")))) .pass))]
def J6:aP:=#[1,2,(du 1 (fQ 117 aE) (de (cI .Eq (cF aL (cJ (.un .USub) (bu 1))) (cJ (.fld "full") aE)) (bN (.lit .aR)) (bN aL)))]
def GC:aP:=#[3,3,(dN (.ifs (cI .Eq aL (bO "coin")) (dN (.expr (dP 83 aE ba))) (dN (.expr (gA 75 aE aL ba)))))]
def Gj:aP:=#[4,4,(de (cI .NotIn aL (.lit (.tup [(.str "coin"),(.str "lower"),(.str "upper")]))) (dN (.raise "BadSide" (fb (bO "asked about are coins, lower dies or upper dies")))) (jY (gA 136 aE aL ba) (jY (gA 136 aE aL bP) (dN (.ifs (cI .Eq ba bP) (dN (.raise "SameOne" (fb (bO "two unlike ones are asked about")))) .pass)))))]
def yw:aP:=#[6,10,(jY (gA 98 aE aL ba) (jY (wB 137 aE bP dX gO) (du 6 (.make "Bounds" 113 (nX aE aL (bG (.bin .Add) ba (cJ .lst (.prim .tup (nX bP dX gO)))))) (du 7 (.make "Bounds" 113 (nX aE aL (bG (.bin .Add) ba (cJ .lst (.prim .tup (nX bP gO dX)))))) (du 8 (fQ 124 gf) (du 9 (fQ 124 iG) (de (.eI (cI .Is iY (.lit .aR)) (cI .Is lN (.lit .aR))) (dN (.raise "NoOrder" (fb (bO "there is no order")))) (de (cI .Is lN (.lit .aR)) (bN (bG .tup (bO "first") (fQ 129 iG))) (de (cI .Is iY (.lit .aR)) (bN (bG .tup (bO "later") (fQ 129 gf))) (bN (.prim .tup (nX (bO "either") iY lN))))))))))))]
def Fc:aP:=#[6,6,(bN (cF (.call 138 (Iq aE aL ba bP dX gO)) (bu 0)))]
structure yY(T:Nat->Option aP):Prop where
 Uk:T 75=!FR
 DN:T 83=!U2
 kB:T 124=!J7
 lh:T 129=!J6
 Ec:T 136=!GC
 Eb:T 137=!Gj
 Ea:T 138=!yw
 D':T 139=!Fc
section
variable{T:Nat->Option aP}{d:Nat}
def Gx{K:G->Prop}(hT:TB0 T)(ha:g[a]?=!.lst (cs.map a7.d))(hz:-cs<=9)(hg:cs.all k9=true)(hB:∀c∈cs,CB c)(hc:g[c]?=!.lst (l7 rs))(hr:-rs<=900)(h:∀g',Ex g g'->Bd g' (-g) cs v rs->K g'):a8 T (k+9) 113 [.ref (-g),.ref a,.int v,.ref c] (g++[.ins "Bounds" []]) (λd g2=>d=.aR/\K g2) E:=by
 let x1:=Ex.snoc g (O.ins "Bounds" []);show NC hT (x1.at ha) hz hg hB (x1.at hc) hr b9 λg2 l2 o2 B2=>?_;show#[rfl,h g2 #[by simp at l2;omega,λi hi=>?_] B2];rw[o2 i (by simp;omega) (),x1.old i hi]
def F5(cs:@&a7)(w:RW)(x:Int):Bool:= ~~~(je cs w x).isEmpty
def aY8{x:Int}(h:F5 cs .iJ x=true):0<=x/\x< -cs:=by
 unfold F5 at h;cases e:je cs .iJ x with
 |nil=>rw[e] at h;cases h
 |cons p _ =>
  let hp:p∈je cs .iJ x:=by rw[e];simp
  let#[h1,h2]:=bg.mp hp;have:=aN.mp h1;have:=bp h2;omega
def NH(hT:TB0 T)(hF:yY T){x:Int}(ha:g[a]?=!.lst (cs.map a7.d))(hz:-cs<=9)(ht:F5 cs w x=true)(h:∀g',Ex g g'->Q .aR g'):a8 T (k+5) 136 [.ref a,.str w.s,.int x] g Q E:=by
 show call_of hF.Ec rfl ?_;delta GC;left;let lx:w≠.iJ->a8 T (k+4) 75 [.ref a,.str w.s,.int x] g (λy g1=>Q .aR g1) E:=λhw=>by
  show call_of hF.Uk rfl ?_;delta FR;exists P0 hT.nf hT.lY hT.rE ha () λg1 b e1 y hb=>?_;exists bV7 (a5 hb) ?_;have:(a9 (je cs w x)).isEmpty=(je cs w x).isEmpty:=by unfold a9;cases je cs w x<;>rfl
  rw[this];let sQ:(je cs w x).isEmpty=false:=by unfold F5 at ht;simpa using ht
  rw[sQ];left;show h _ e1
 cases w with
 |iJ =>
  show eU #[] ?_;left;have:=aY8 ht;show aA9 hT.nf hF.DN ha (λy y=>h _ (Ex.refl _)) (λz=>absurd #[this.1,by rw[ah];show this.2] z)
 |lower =>
  show cZ #[] ?_;left;show lx (λz=>by cases z)
 |upper =>
  show cZ #[] ?_;left;show lx (λz=>by cases z)
def aG3(hT:TB0 T)(hF:yY T){x y:Int}(ha:g[a]?=!.lst (cs.map a7.d))(hz:-cs<=9)(hx:F5 cs w x=true)(hy:F5 cs w y=true)(hn:x≠y)(h:∀g',Ex g g'->Q .aR g'):a8 T (k+6) 137 [.ref a,.str w.s,.int x,.int y] g Q E:=by
 show call_of hF.Eb rfl ?_;delta Gj;exists N8 (in_words ?_);exists NH hT hF ha hz hx λg1 e1=>?_;exists NH hT hF (e1.at ha) hz hy λg2 e2=>?_;exists cZ (aD hn) ?_;left;show h _ (e1.trans e2)
def T1(hT:TB0 T)(hF:TF T)(hW:T 117=!M5)(lh:T 129=!J6)(B:Bd g b cs v rs)(hz:-cs<=9)(hr:-rs<=900)(h:∀(L:@&Nat) l g',Ex g g'->-g<=l->g'[l]?=!.lst (a9 L)->L.Pairwise (· < ·)->(∀s,s∈L↔jv (d7 cs v rs) s)->-L<=512->(jv (d7 cs v rs) (2 ^ (-cs)-1)->Q .aR g')/\(¬jv (d7 cs v rs) (2 ^ (-cs)-1)->Q (.ref l) g')):a8 T (k+7) 129 [.ref b] g Q E:=by
 show call_of lh rfl ?_;delta J6;let#[w0,l0,dd,nb,f1,f2,f3,f4,f5]:=B.ex;exists MM hT hF hW B hz hr λL l g1 e1 hl h1 pw hL xH=>?_;let#[SE,CO]:=h L l g1 e1 hl h1 pw hL xH;let h0:=(hL 0).mpr .zero;let SF:=jn h0;let oK:=ag (show (-L)-1< -L by omega);generalize qe:L[(-L)-1]=z at oK;let atl:jA (a9 L) (-1)=!.int (z:Nat):=by
  unfold jA mD;let il:(a9 L).length=-L:=by simp[a9]
  rw[aA ∅,il,az (by(clear hz hr hl qe;omega))];show(a9 L)[(-1+(-L:Int)).toNat]?=_;rw[show(-1+(-L:Int)).toNat=-L-1 by(clear hz hr hl qe;omega),a9,aj,oK]
  rfl
 let Ji:=aC oK;let Dc:∀x∈L,x<=z:=λx hx=>by
  let#[i,hi,rfl]:=cX.mp hx;rcases eW i (-L-1) with y|y
  .have:=dz.mp pw i (-L-1) hi () y;omega
  .have:i=-L-1:=by(clear hz hr hl qe;omega)
   subst this;omega
 let hzl:=((hL z).mp Ji).lt (J9 cs v rs);exists A6 (a5 h1) atl ?_;exists w9 (e1.at f1) rfl ?_;left;let ed:decide (((z:Nat):Int)=((2 ^ (-cs)-1:Nat):Int))=decide (z=2 ^ (-cs)-1):=eV.mpr (by(clear hz hr hl qe;omega));rw[ed];show if2 (λc1=>?_) (λc1=>?_)
 .exact SE (c1▸(hL z).mp Ji)
 .exists CO λhR=>c1 ?_;have:=Dc _ ((hL _).mpr hR);omega
def aS5{r:eJ}(h:p8 cs r=true):F5 cs r.w r.x=true/\F5 cs r.w r.y=true/\r.x≠r.y:=by
 unfold p8 at h;simp only[Bool.and_eq_true,Bool.not_eq_true',decide_eq_false_iff_not] at h;unfold F5;rw[h.2.1,h.2.2];show#[rfl,rfl,h.1]
def O6(m1 m2:Nat):Str:=if m2=0 then "first" else if m1=0 then "later" else "either"
def bF2(hT:TB0 T)(nN:T 42=!A2)(rD:T 98=!J8)(hF:TF T)(hW:TW T)(hN:TN T)(hI:yY T){r:eJ}(ha:g[a]?=!.lst (cs.map a7.d))(hz:-cs<=9)(hg:cs.all k9=true)(hB:∀c∈cs,CB c)(hv:1<=v/\v<=9)(hc:g[c]?=!.lst (l7 rs))(hr:-rs<=800)(hR:rs.all (p8 cs)=true)(pB:p8 cs r=true)(h1:many cs v (rs++[r])=0->many cs v (rs++[C3 r])=0->∀g',Ex g g'->E #["NoOrder"] g')(h2:¬(many cs v (rs++[r])=0/\many cs v (rs++[C3 r])=0)->∀g' l,Ex g g'->l≠[]->l.head?=!(.str (O6 (many cs v (rs++[r])) (many cs v (rs++[C3 r]))))->Q (.tup l) g'):a8 T (k+12) 138 [.ref a,.int v,.ref c,.str r.w.s,.int r.x,.int r.y] g Q E:=by
 show call_of hI.Ea rfl ?_;delta yw;exists ND hT nN rD ha () hc () (λz=>by omega) (λu z=>by rw[hg] at z;cases z) (λu u z=>absurd hv z) (λu u u z=>by rw[hR] at z;cases z) λu u u u g1 e1=>?_;left;let#[tx,ty,RL]:=aS5 pB;show aG3 hT hI (e1.at ha) hz tx ty RL λg2 e2=>?_;let pI:=e1.trans e2;left;let xD:∀r:eJ,l7 rs++l7 [r]=l7 (rs++[r]):=λr=>by simp[l7]
 show HG ((Ex.snoc _ _).at (pI.at hc)) b9 (by simp[l7];omega) ?_;rw[show[D.tup [D.str r.w.s,D.int r.x,D.int r.y]]=l7 [r] from rfl,xD];left;let e4:=(Ex.snoc g2 (O.lst (l7 [r]))).trans (Ex.snoc _ (O.lst (l7 (rs++[r]))));let c4:=b9 (g:=g2++[O.lst (l7 [r])]) (o:=O.lst (l7 (rs++[r])));generalize (g2++[O.lst (l7 [r])])++[O.lst (l7 (rs++[r]))]=g4 at *;let vo:=pI.trans e4;show Gx hT (vo.at ha) hz hg hB c4 (by simp;omega) λg5 e5 B5=>?_;let Kn:=vo.trans e5;generalize (-g4)=b1 at *;exists HG ((Ex.snoc _ _).at (Kn.at hc)) b9 (by simp[l7];omega) ?_;rw[show[D.tup [D.str r.w.s,D.int r.y,D.int r.x]]=l7 [C3 r] from rfl,xD];left;let e6:=(Ex.snoc g5 (O.lst (l7 [C3 r]))).trans (Ex.snoc _ (O.lst (l7 (rs++[C3 r]))));let c6:=b9 (g:=g5++[O.lst (l7 [C3 r])]) (o:=O.lst (l7 (rs++[C3 r])));generalize (g5++[O.lst (l7 [C3 r])])++[O.lst (l7 (rs++[C3 r]))]=g6 at *;let Aj:=Kn.trans e6;show Gx hT (Aj.at ha) hz hg hB c6 (by simp;omega) λg7 e7 B7=>?_;let UW:=Aj.trans e7;let QQ:=B5.at (e6.trans e7);generalize (-g6)=b2 at *;left;let wU:(rs++[r]).length<=900:=by simp;omega
 let wR:(rs++[C3 r]).length<=900:=by simp;omega
 let mz:∀{rs:@&eJ},i0 (-cs) (d7 cs v rs) 0=[]↔many cs v rs=0:=λ{rs}=>by unfold many;show iT.symm
 let nz:∀{rs:@&eJ} {o:@&Nat},(i0 (-cs) (d7 cs v rs) 0)[0]?=!o->many cs v rs≠0:=λ{rs o} h z=>by rw[mz.mpr z] at h;cases h
 generalize xl:many cs v (rs++[r])=m1 at *;generalize mH:many cs v (rs++[C3 r])=m2 at *;let rest:∀(N:Ends) (E:KX) (x y:D) g8,Ex g7 g8->((m1=0/\x=.aR)\/(m1≠0/\∃i,x=.ref i))->((m2=0/\y=.aR)\/(m2≠0/\∃i,y=.ref i))->(m1=0->m2=0->∀g',Ex g g'->E #["NoOrder"] g')->(¬(m1=0/\m2=0)->∀g' l,Ex g g'->l≠[]->l.head?=!.str (O6 m1 m2)->N.rt (.tup l) g')->wpS (a8 T (k+11)) (match yw.body with|.seq _ (.seq _ (.seq _ (.seq _ (.seq _ (.seq _ b)))))=>b|x=>x) N [!.ref a,!.int v,!.ref c,!.str r.w.s,!.int r.x,!.int r.y,!.ref b1,!.ref b2,!x,!y] g8 E:=by
  intro N E x y g8 e8 hx hy h1 h2;let vn:=UW.trans e8;dsimp[yw];let qY:∀{b wA} {Q:KD} {E:KX} {g8:G},Ex g g8->Bd g8 b cs v wA->-wA<=900->(∀g' x,Ex g g'->Q x g')->a8 T (k+11) 129 [.ref b] g8 Q E:=λe8 B hl hN =>
   T1 hT hF hW.nk hI.lh B hz hl λL l g9 e9 u u u u u=>#[λu=>hN _ _ (e8.trans e9),λu=>hN _ _ (e8.trans e9)]
  rcases hx with⟨z1,rfl⟩|⟨z1,i1,rfl⟩
  .rcases hy with⟨z2,rfl⟩|⟨z2,i2,rfl⟩
   .left;show h1 z1 z2 _ vn
   .exists qY vn (QQ.at e8) wU λg' x e'=>?_;left;show h2 (λz=>z2 z.2) _ _ e' #[_] (by unfold O6;rw[aA z2,az z1];rfl)
  .rcases hy with⟨z2,rfl⟩|⟨z2,i2,rfl⟩
   .exists qY vn (B7.at e8) wR λg' x e'=>?_;left;show h2 (λz=>z1 z.1) _ _ e' #[_] (by unfold O6;rw[az z2];rfl)
   .left;show h2 (λz=>z1 z.1) _ _ vn #[_] (by unfold O6;rw[aA z2,aA z1];rfl)
 show N1 hT hF hW hN hI.kB QQ hz wU (λho g8 e8=>?_) (λo i g8 ho e8 u u=>?_)
 .let z1:=xl▸mz.mp ho;exists N1 hT hF hW hN hI.kB (B7.at e8) hz wR (λjN g9 e9=>?_) (λo2 i2 g9 jN e9 u u=>?_)
  .exact rest _ _ _ _ g9 (e8.trans e9) (.inl #[z1,rfl]) (.inl #[mH▸mz.mp jN,rfl]) h1 h2
  .exact rest _ _ _ _ g9 (e8.trans e9) (.inl #[z1,rfl]) (.inr #[mH▸nz jN,_,rfl]) h1 h2
 .let z1:=xl▸nz ho;exists N1 hT hF hW hN hI.kB (B7.at e8) hz wR (λjN g9 e9=>?_) (λo2 i2 g9 jN e9 u u=>?_)
  .exact rest _ _ _ _ g9 (e8.trans e9) (.inr #[z1,_,rfl]) (.inl #[mH▸mz.mp jN,rfl]) h1 h2
  .exact rest _ _ _ _ g9 (e8.trans e9) (.inr #[z1,_,rfl]) (.inr #[mH▸nz jN,_,rfl]) h1 h2
def Wx(hT:TB0 T)(nN:T 42=!A2)(rD:T 98=!J8)(hF:TF T)(hW:TW T)(hN:TN T)(hI:yY T){r:eJ}(ha:g[a]?=!.lst (cs.map a7.d))(hz:-cs<=9)(hg:cs.all k9=true)(hB:∀c∈cs,CB c)(hv:1<=v/\v<=9)(hc:g[c]?=!.lst (l7 rs))(hr:-rs<=800)(hR:rs.all (p8 cs)=true)(pB:p8 cs r=true)(h1:many cs v (rs++[r])=0->many cs v (rs++[C3 r])=0->∀g',Ex g g'->E #["NoOrder"] g')(h2:¬(many cs v (rs++[r])=0/\many cs v (rs++[C3 r])=0)->∀g',Ex g g'->Q (.str (O6 (many cs v (rs++[r])) (many cs v (rs++[C3 r])))) g'):a8 T (k+13) 139 [.ref a,.int v,.ref c,.str r.w.s,.int r.x,.int r.y] g Q E:=by
 show call_of hI.D' rfl ?_;delta Fc;exists bF2 hT nN rD hF hW hN hI ha hz hg hB hv hc hr hR pB h1 λfh g' l e' hl hh=>?_;exists E9 (C7 (by cases l with|nil=>show absurd rfl hl|cons x _=>simpa using hh)) ?_;show h2 fh _ e'
end
def V9:aP:=#[4,10,(du 4 (gA 99 aE aL ba) (de (cI .IsNot (dP 103 dX bP) (.lit .aR)) (bN (.lit .aR)) (du 5 (fQ 121 dX) (du 6 (bu 0) (du 7 (bu 0) (nO (.one 8) (.gp bP) (du 9 (.comp [8] 3 (.one 2) (.gp (dP 116 dX iG)) (cI .Lt ba aE) ba) (iA (.kF 6 .iadd (cJ .sum (.comp [7,5] 4 (.one 3) (.gp lN) .no (cF aL (dP 91 aE bP))))) (dN (.set 7 (dP 91 iG iY))))) (bN gf)))))))]
section
variable{U:S}{t:MT}{c:ME}
def a36(hP:d5 P)(h:gS P it U g (λk g1=>∃(l:@&D) (Sh:S->Prop) (p:Nat->Bool) (w:Nat->D),(∀g',Ex g1 g'->k.Is l g')/\-l<=1000/\Sh (F8 U c7 n) /\
      (∀ i d U g',l[i]?=!d->Ex g1 g'->Sh U->kq t d U λcE=>eF P c cE g' (λb g3=>b=p i/\Ex g1 g3/\if b=true then bj P elt cE g3 (λy g4=>y=w i/\Ex g1 g4/\Sh cE) jS else Sh cE) jS)/\∀ g',Ex g1 g'->Q (.ref (-g')) (g' ++ [.lst (((List.range (-l)).filter p).map w)])) E):bj P (.comp c7 n t it c elt) U g Q E:=by
  show K5 hP (A1 hP it _ _ _ _ _ _ (λk g1 h=>?_) (λv v z=>z) h);let#[l,Sh,p,w,hk,hl,h0,hs,hd]:=h;show#[l,λi ys U g'=>Ex g1 g'/\ys=((List.range i).filter p).map w/\Sh U,hl,λi ys U g' q=>#[hk _ q.1,?_],#[Ex.refl _,rfl,h0],λi x ys U g' hx q=>?_,λys U g' q=>?_]
  . let#[_,rfl,_]:=q;rw[ah];show aG (bH _ _) #[_]
  . let#[e1,rfl,sh]:=q;show v9 (λcE q=>n8 hP c _ _ _ _ _ _ (λb g3 q=>?_) (λv v z=>z) q) (hs i x U g' hx e1 sh);let#[rfl,e3,q]:=q;let ef:((List.range (i+1)).filter p).map w=((List.range i).filter p).map w++if p i=true then[w i] else[]:=by
      rw[gy,eE,bw]
      congr 1
      cases z:p i<;>simp only[List.filter_cons,z,List.filter_nil]<;>rfl
    cases hp:p i with
    |true =>
      rw[hp] at q ef;rw[az rfl] at q ⊢;show c5 hP elt _ _ _ _ _ _ (λy g4 q=>?_) (λv v z=>z) q;let#[rfl,e4,sh]:=q;show#[e4,by rw[ef];rfl,sh]
    |false =>
      rw[hp] at q ef;rw[aA ∅] at q ⊢;show#[e3,by rw[ef];simp,q]
  . let#[e1,rfl,sh]:=q;show hd g' e1
end
def OM(q:α->Bool)(f:α->D)(d:α)(l:List α):((List.range (-l)).filter λi=>q (l.getD i d)).map (λi=>f (l.getD i d))=(l.filter q).map f:=by
 let e:(List.range (-l)).map (λi=>l.getD i d)=l:=by
  show fK λi=>?_;rw[aj];by_cases hi:i< -l
  .rw[da hi,Option.map_some,bf,ag hi]
   rfl
  .rw[aZ (_/hi),aZ ()]
   rfl
 let h:(((List.range (-l)).map λi=>l.getD i d).filter q).map f=(l.filter q).map f:=by rw[e]
 rw[List.filter_map,bI] at h;show h
def Sk{b:Bool}{A B:Prop}(h1:b=true->A)(h2:b=false->B):if b=true then A else B:=by
 cases b
 .exact h2 rfl
 .exact h1 rfl
def L0(o:@&Nat):(a9 o).length=-o:=by unfold a9;simp
def ints_map(o:@&Nat):a9 o=(o.map λ(i:Nat)=>(i:Int)).map D.int:=by unfold a9;rw[bI];rfl
def FF{f:Nat->Nat}{p:Nat}:∀{l:@&Nat},p∈l->((l.filter λx=>decide (x<p)).map f).sum+f p<=(l.map f).sum
 |[],h=>by cases h
 |x::l,h=>by
  let tail:((l.filter λx=>decide (x<p)).map f).sum<=(l.map f).sum:=by
   clear h
   induction l with
   |nil=>show aw _
   |cons y l ih =>
    by_cases hy:y<p
    .rw[uz (_/hy)];simp only[List.map_cons,List.sum_cons];omega
    .rw[uA (_/hy)];simp only[List.map_cons,List.sum_cons];omega
  by_cases hx:x<p
  .let hm:p∈l:=by
    rcases aM.mp h with z|z
    .omega
    .exact z
   have:=FF (f:=f) hm;rw[uz (_/hx)];simp only[List.map_cons,List.sum_cons];omega
  .rw[uA (_/hx)];simp only[List.map_cons,List.sum_cons];rcases aM.mp h with z|z
   .subst z;omega
   .have:=FF (f:=f) z;omega
def kO.IS{cs:@&a7}{v:Int}{rs:@&eJ}{o:@&Nat}(h:kO cs v rs o):∀i,i<=-o->jv (d7 cs v rs) (jG (o.take i))
 |0,_=>by
  rw[List.take_zero];show .zero
 |i+1,hi=>by
  let hl:i< -o:=by omega
  let e:=bJ (l:=o) (i:=i);rw[ag hl] at e;rw[e,show(some o[i]).toList=[o[i]] from rfl,FC];show .step (h.IS i ()) (Be.mpr (h.st i _ (ag hl)))
section
variable{T:Nat->Option aP}{d:Nat}
def Zq(hT:TB T)(hO:TO T)(tQ:T 104=!U0)(A:Ask g a c cs v rs)(hr:g[r]?=!.lst (ns.map .int))(hl:-ns<=100)(h:∀g',Ex g g'->Q (pairF (yT cs v rs ns)) g'):a8 T (k+11) 104 [.ref a,.int v,.ref c,.ref r] g Q E:=by
 show call_of tQ rfl ?_;delta U0;exists Mz (k:=k) hT A λg1 b e1 x B=>?_;left;show Nb (k:=k+6) hT hO B A.hz A.hr (e1.at hr) hl λg2 e2=>h g2 (e1.trans e2)
def aG1(hT:TB T)(hF:TF T)(hW:TW T)(hO:TO T)(tL:T 128=!V9)(A:Ask g a c cs v rs){o:@&Nat}(ho:kO cs v rs o)(hr:g[r]?=!.lst (a9 o))(h:∀(n:Nat) g',n<many cs v rs->Ex g g'->Q (.int (n:Nat)) g'):a8 T (k+11) 128 [.ref a,.int v,.ref c,.ref r] g Q E:=by
 show call_of tL rfl ?_;delta V9;let hz:=A.hz;exists Mz (k:=k) hT A λg1 b e1 u B=>?_;left;let r1:=e1.at hr;rw[ints_map] at r1;show Nb (k:=k+6) hT hO B A.hz A.hr r1 (by rw[ah,ho.len];omega) λg2 e2=>?_;rw[ho.none];exists cZ rfl ?_;exists Fh (k:=k+3) hT hF hW (B.at e2) A.hz A.hr λw g3 e3 Jj W=>?_;left;let xR:=e1.trans (e2.trans e3);let r3:=xR.at hr;let B3:=B.at (e2.trans e3);let#[kvs,w1,w2]:=W.ex;let kA:=J9 cs v rs;show E5 (a6 T _) (lP (a6 T _) ?_);exists#[r,_,rfl,a5 r3,a9 o,λi U g'=>Ex g3 g'/\∃z8 z9,∃n:Nat,n+(i0 (-cs) (d7 cs v rs) (jG (o.take i))).length<=many cs v rs/\U=[!.ref a,!.int v,!.ref c,!.ref r,!.ref b,!.ref w,!.int (n:Nat),!(.int ((jG (o.take i):Nat):Int)),z8,z9],λi U g' q=>u5 (a5 (q.1.at r3)),#[Ex.refl _,_,_,0,by rw[List.take_zero];show wb (by rw[Nat.zero_add];rfl),rfl],λi x U g' hx q=>?_,λU g' q=>?_]
 .let#[e4,z8,z9,n,hn,rfl]:=q;rw[a9,aj,ae] at hx;let#[p,hp,rfl]:=hx;let hi:i< -o:=(ak.mp hp).1;let hR:=ho.IS i ();let oH:=Be.mpr (ho.st i p hp);let mX:=(ho.st i p hp).1;let hs:=hR.lt kA;let Kk:jG (o.take (i+1))=jG (o.take i) |||2 ^ p:=by
   rw[bJ,hp,show(!p).toList=[p] from rfl,FC]
  let hlen:=ho.len;generalize hsx:jG (o.take i)=s at *;show j4 ?_
  try show wpS _ _ _ _ _ _
  exists a36 (a6 T _) (lP (a6 T _) ?_);exists R0 (k:=k+5) hT hF (B3.at e4) hz A.hr hs λg5 fl e5 JD h5=>?_;show#[fl,_,rfl,a5 h5,a9 (d7 cs v rs s),λU=>∃z1 z2,U=[!.int (p:Nat),z1,z2],λi=>decide ((d7 cs v rs s).getD i 0<p),λi=>.int (((d7 cs v rs s).getD i 0:Nat):Int),λg' e=>u5 (a5 (e.at h5)),?_,#[none,none,rfl],λj y U g6 hy e6 sh=>?_,λg6 e6=>?_]
  .rw[L0];have:(d7 cs v rs s).length<=-cs:=by unfold d7;show aG (bH _ _) #[_]
   omega
  .let#[z1,z2,rfl]:=sh;rw[a9,aj,ae] at hy;let#[q,hq,rfl]:=hy;let eq:(d7 cs v rs s).getD j 0=q:=by rw[bf,hq];rfl
   dsimp only;rw[eq];show j4 ?_
   try show eF _ _ _ _ _ _
   exists#[by simp,e6,?_];show Sk (λu=>?_) (λu=>#[_,_,rfl]);left;show#[rfl,e6,_,_,rfl]
  rw[L0,OM (λq=>decide (q<p)) (λq=>D.int ((q:Nat):Int)) 0];let e7:=e4.trans (e5.trans (e6.trans (Ex.snoc g6 (O.lst (((d7 cs v rs s).filter λq=>decide (q<p)).map λq=>D.int ((q:Nat):Int))))));let h7:=b9 (g:=g6) (o:=O.lst (((d7 cs v rs s).filter λq=>decide (q<p)).map λq=>D.int ((q:Nat):Int)));generalize g6++[O.lst (((d7 cs v rs s).filter λq=>decide (q<p)).map λq=>D.int ((q:Nat):Int))]=g7 at *;generalize (-g6)=lf at *;let lQ:∀q∈(d7 cs v rs s).filter (λq=>decide (q<p)),q∈d7 cs v rs s:=λq hq=>(bg.mp hq).1;let Sz:=FF (f:=λq=>(i0 (-cs) (d7 cs v rs) (s |||2 ^ q)).length) oH;let Te:((d7 cs v rs s).filter λq=>decide (q<p)).length<=9:=by
   have:(d7 cs v rs s).length<=-cs:=by unfold d7;show aG (bH _ _) #[_]
   show aG (bH _ _) ()
  let fh:s≠2 ^ (-cs)-1:=λz=>by
   let hb:=(kA _ _ oH).2;rw[z,gM,au mX] at hb;cases hb
  rw[Oy kA hs fh] at hn;generalize (d7 cs v rs s).filter (λq=>decide (q<p))=L at *;exists Hj rfl ?_;exists comp_map (a6 T _) (λU=>∃z2 z3,U=[!.int (s:Nat),!.ref w,z2,z3]) (λj=>.int ((i0 (-cs) (d7 cs v rs) (s |||2 ^ (L.getD j 0))).length:Nat)) (l:=L.map λq=>D.int ((q:Nat):Int)) (k:=.lst lf) (λg' e=>u5 (a5 (e.at h7))) (by rw[ah];omega) #[none,none,rfl] (λj x U g' hx e sh=>?_) (λg8 e8=>?_) (rW (a6 T _) (a5 h7) λQ q=>w_var (d:=.ref lf) rfl q)
  .let#[z2,z3,rfl]:=sh;rw[aj,ae] at hx;let#[q,hq,rfl]:=hx;let eq:L.getD j 0=q:=by rw[bf,hq];rfl
   rw[eq];let Jp:=lQ q (aC hq);show j4 ?_
   try show bj _ _ _ _ _ _
   exists v7 (k:=k+9) hT.nM (by have:=(kA _ _ Jp).1;omega) ?_;show o3 ((e7.trans e).at w1) rfl (w2 _ (.step hR Jp)) ?_;show#[rfl,e,_,_,rfl]
  let el:(List.range (L.map λq=>D.int ((q:Nat):Int)).length).map (λj=>D.int ((i0 (-cs) (d7 cs v rs) (s |||2 ^ (L.getD j 0))).length:Nat))=((L.map λq=>(i0 (-cs) (d7 cs v rs) (s |||2 ^ q)).length).map λ(n:Nat)=>(n:Int)).map D.int:=by
   have:=OM (λ_:Nat=>true) (λq=>D.int ((i0 (-cs) (d7 cs v rs) (s |||2 ^ q)).length:Nat)) 0 L;rw[ah,bI,bI];rw[km.mpr (λu u=>rfl),km.mpr (λu u=>rfl)] at this;show this
  rw[el];show GI (a5 b9) ?_;let es:∀m:@&Nat,(m.map λ(n:Nat)=>(n:Int)).sum=((m.sum:Nat):Int):=λm=>by
   induction m with
   |nil=>rfl
   |cons x r ih=>simp[ih]
  rw[es];show LK ?_;exists v7 (k:=k+9) hT.nM () ?_;exists#[e7.trans (e8.trans (Ex.snoc _ _)),!.int (p:Nat),!.ref lf,n+(L.map λq=>(i0 (-cs) (d7 cs v rs) (s |||2 ^ q)).length).sum,?_,?_]
  .rw[Kk];omega
  .rw[Kk]
   rfl
 .let#[e4,z8,z9,n,hn,rfl]:=q;rw[L0,cG] at hn;let xu:jG o=2 ^ (-cs)-1:=(FA ho.nd ho.lt).mpr ho.len;rw[P1 xu] at hn
  try show wpS _ _ _ _ _ _
  left;show h n _ (show n<many cs v rs from hn) (xR.trans e4)
end
section
variable{s:dM}{B:Nat->@&Int}{ns o:@&Nat}
structure Rw(ns o:@&Nat):Prop where
 len:-o=-ns
 lt:∀(i p:Nat),o[i]?=!p->p< -ns
 up:∀(i j p q:Nat),i<j->o[i]?=!p->o[j]?=!q->ns.getD p 0<ns.getD q 0
def Rw.nd(h:Rw ns o):o.Nodup:=by
 rw[List.nodup_iff_pairwise_ne,dz];intro i j hi hj jh e;have:=h.up i j _ _ jh (ag hi) (ag hj);rw[e] at this;omega
def Rw.all(h:Rw ns o)(hp:p< -ns):∃i:Nat,o[i]?=!p:=by
 show bD.mp (GQ h.nd h.len (λi hi=>?_) hp);let#[j,hj]:=bD.mp hi;show h.lt j i hj
def Hs.Cp(h:Hs n s cs B)(hl:∀x∈ns,x< -cs)(R:Rw ns o)(hN:∀(i p:Nat),o[i]?=!p->K4 (ns.map (dw cs)) rs (lO (o.take i)) p=true):kO (ns.map (dw cs)) n rs o:=by
 let at2:∀{p:Nat},p< -ns->dw (ns.map (dw cs)) p=dw cs (ns.getD p 0)/\ns.getD p 0< -cs:=λ{p} hp=>by
  let e:ns[p]?=some ns[p]:=ag hp;let g:ns.getD p 0=ns[p]:=by simp[List.getD,e]
  rw[g];show#[B9 (by rw[aj,e];rfl),hl _ (cH hp)]
 show#[by rw[ah];show R.len,λi p e=>?_];let hp:=R.lt i p e;let Ak:∀{q:Nat},q∈o.take i->q< -ns/\ns.getD q 0<ns.getD p 0:=λ{q} hq=>by
  let#[j,hj]:=bD.mp hq;let zQ:j<i:=by
   have:=(ak.mp hj).1;rw[cU] at this;omega
  rw[cB zQ] at hj;show#[R.lt j q hj,R.up j i q p zQ hj e]
 let aft:∀{q:Nat},q< -ns->q∉o.take i->ns.getD p 0<=ns.getD q 0:=λ{q} hq hn=>by
  let#[j,hj]:=R.all hq;rcases dG j i with c|rfl|c
  .exact absurd (bD.mpr #[j,by rw[cB c];show hj]) hn
  .rw[e] at hj;cases hj;show aw _
  .exact dI (R.up i j p q c e hj)
 show#[by rw[ah];show hp,λz=>?_,bS2.mpr #[?_,?_,?_,hN i p e]]
 .have:=(Ak z).2;omega
 .rw[Bool.eq_false_iff];intro z;let#[q,_,hq]:=br.mp z;rw[aW] at hq;let#[b1,b2]:=Ak (bp hq.1);let#[m1,m2,_]:=h.mono _ _ b2 (at2 hp).2;let hq:=hq.2;rw[(at2 b1).1,(at2 hp).1] at hq;unfold mw at hq;simp only[Bool.or_eq_true,Bool.and_eq_true,decide_eq_true_eq,Bool.not_eq_true'] at hq;rcases hq with⟨e1,w⟩|⟨e1,w⟩
  .rw[Oz.mpr (m1 e1)] at w;cases w
  .rw[Oz.mpr (m2 e1)] at w;cases w
 .rw[Bool.eq_false_iff];intro z;let#[q,_,hq]:=br.mp z;rw[aW] at hq;let#[b1,b2]:=Ak (bp hq.1);let#[_,_,m3]:=h.mono _ _ b2 (at2 hp).2;let hq:=hq.2;rw[(at2 b1).1,(at2 hp).1] at hq;unfold lM at hq;simp only[Bool.and_eq_true,decide_eq_true_eq] at hq;omega
 .let le:uh (ns.map (dw cs)) (lO (o.take i)) p<=(B (ns.getD p 0)).length:=by
   show Lc ((OT _).sublist ff) λd hd=>?_;let#[#[q,q1,q2,q3],r,r1,r2,r3]:=bV1.mp (bg.mp hd).2;rw[ah] at q1 r1;rw[(at2 q1).1] at q3;rw[(at2 r1).1] at r3;let h1:ns.getD q 0<=ns.getD p 0:=by
    rcases q2 with q2|rfl
    .exact dI (Ak (bp q2)).2
    .exact aw _
   let h2:=aft r1 (QW r2);rw[<- q3];show h.use _ _ _ h1 h2 (at2 r1).2 (q3.trans r3.symm)
  have:=h.bb (ns.getD p 0);omega
def kO.many{cs:@&a7}{v:Int}{rs:@&eJ}{o:@&Nat}(h:kO cs v rs o):many cs v rs≠0:=by
 have:=jn (Fw.mpr h);unfold M.many;omega
def a10{r:eJ}{j:Nat}(dQ:∀(k p:Nat),o[k]?=!p->p< -cs)(hL:∀(k p:Nat),o[k]?=!p->∃x,L[k]?=!x/\(∀y,meant cs r.w y p=true↔x=y))(hi:L[i]?=!r.x)(hj:∀k:Nat,L[k]?=!r.y->j<=k)(jh:i<j)(zT:i< -o):∀(k p:Nat),o[k]?=!p->K4 cs [r] (lO (o.take k)) p=true:=by
 intro k p e;unfold K4;rw[iD,List.all_nil,Bool.and_true];cases hm:meant cs r.w r.y p with
 |false=>rfl
 |true =>
  let#[x,hx,hy]:=hL k p e;have:=(hy _).mp hm;subst this;let hk:=hj k hx;obtain⟨q,hq⟩:∃q,o[i]?=!q:=#[o[i],ag zT]
  let#[x',sN,Ss]:=hL i q hq;rw[hi] at sN;cases sN;show br.mpr #[q,aN.mpr (dQ i q hq),?_];rw[aW];show#[au (bD.mpr #[i,by rw[cB ()];show hq]),(Ss _).mpr rfl]
end
def AK:aP:=#[2,2,(de (cI .Eq aL (bO "coin")) (bN (cJ .kd (cJ .len aE))) (bN (cJ .sset (.comp [1] 3 (.one 2) (.gp aE) .no (cF ba (.ite (cI .Eq aE (bO "lower")) (bu 0) (bu 2)))))))]
def FU:aP:=#[2,6,(du 2 (.lit .aR) (nO (.one 3) (.jK (bu 1) (bG (.bin .Add) (bu 9) (bu 1))) (du 4 (.make "Bounds" 113 (nX aE bP aL)) (du 5 (fQ 124 dX) (de (cI .IsNot gO (.lit .aR)) (bN (.prim .tup (nX bP gO ba))) (dN (.set 2 (fQ 129 dX)))))) (bN (.lit .aR))))]
def Fb:aP:=#[2,3,(jY (fQ 18 aE) (jY (dP 89 aE aL) (du 2 (dP 134 aE aL) (de (cI .Is ba (.lit .aR)) (dN (.raise "NoOrder" (fb (bO "there is no order with any count of anvils")))) (bN ba)))))]
def bN8{s:Nat}(h:s.testBit p=false):s |||2 ^ p=s+2 ^ p:=by
 induction p generalizing s with
 |zero =>
  rw[Nat.testBit_zero,aK] at h;let h1:=Nat.or_div_two (a:=s) (b:=1);let h2:(s |||1) % 2=1:=zm.mpr (.inr rfl);rw[show(1:Nat) / 2=0 from rfl,Nat.or_zero] at h1;change s |||1=s+1
  omega
 |succ p ih =>
  let h0:(s / 2).testBit p=false:=by rw[Nat.testBit_succ] at h;show h
  let h1:=Nat.or_div_two (a:=s) (b:=2 ^ (p+1));let h2:=zm (a:=s) (b:=2 ^ (p+1));let e:2 ^ (p+1)=2*2 ^ p:=by rw[Nat.pow_succ,lF]
  rw[e,Nat.mul_div_cancel_left _ ∅,ih h0] at h1;rw[e] at h2 ⊢;omega
def ZW{L:@&Nat}(hn:L.Nodup):∃S:@&Nat,(O7 (L.map λj:Nat=>(j:Int))).map D.int=a9 S/\S.Pairwise (· < ·)/\(∀s,s∈S↔s∈L)/\-S=-L:=by
 let hp:=Gv (L.map λj:Nat=>(j:Int));let hr:=MR (L.map λj:Nat=>(j:Int));generalize O7 (L.map λj:Nat=>(j:Int))=Z at *;let hZ:(Z.map Int.toNat).Perm L:=by
  have:=hp.map Int.toNat;rw[bI] at this;let e:(Int.toNat ∘ λj:Nat=>(j:Int))=id:=by funext j;simp
  rw[e,nE] at this;show this
 let hE:(Z.map Int.toNat).map (λj:Nat=>(j:Int))=Z:=by
  rw[bI];have:∀x∈Z,((λj:Nat=>(j:Int)) ∘ Int.toNat) x=x:=λx hx=>by
   let#[j,_,rfl]:=aQ.mp (hp.mem_iff.mp hx);simp
  rw[fe this,List.map_id']
 show#[Z.map Int.toNat,?_,?_,λs=>hZ.mem_iff,hZ.length_eq]
 .rw[a9,<- hE,bI,bI,bI,hE]
  rfl
 .let nd:=hZ.nodup_iff.mpr hn;let h2:(Z.map Int.toNat).Pairwise (·<=·):=by
   rw[List.pairwise_map];show hr.imp λh=>Int.toNat_le_toNat h
  show(h2.and nd).imp λh=>Nat.lt_of_le_of_ne h.1 h.2
def Fn{L:@&Nat}(h:(a9 L)[i]?=!x):∃j,L[i]?=!j/\x=.int (j:Nat):=by
 rw[a9,aj,ae] at h;let#[j,h1,h2]:=h;show#[j,h1,h2.symm]
def OX{n:Nat}{F:Nat->@&Nat}(hF:FG n F):∀(m s:Nat),2 ^ n-s<=m->s<2 ^ n->jv F s->i0 n F s≠[]->jv F (2 ^ n-1)
 |0,s,hm,hs,_,_=>by omega
 |m+1,s,hm,hs,hr,ho=>by
  by_cases e:s=2 ^ n-1
  .exact e▸hr
  .rw[yJ hF hs e] at ho;let#[o,ho]:=ij _ ho;let#[p,hp,hq]:=iS.mp ho;let#[q,hq,_]:=aQ.mp hq;let hb:=hF s p hp;let lt:=S4 hs hb.1;have:s<s |||2 ^ p:=by rw[bN8 hb.2];have:=gx p;omega
   show OX hF m _ () lt (.step hr hp) (Ra hq)
set_option tactic.hygienic true in
def X'{F:Nat->@&Nat}(hF:FG n F){s:Nat}(h:jv F s):i0 n F s≠[]->i0 n F 0≠[]:=by
 induction h with
 |zero=>show id
 |step h hp ih =>
  rename_i s p;intro z;show ih ?_;let hs:=h.lt hF;by_cases e:s=2 ^ n-1
  .rw[P1 e];show List.cons_ne_nil _ _
  .rw[yJ hF hs e];let#[o,ho]:=ij _ z;show Ra (iS.mpr #[p,hp,aQ.mpr #[o,ho,rfl]])
def Pa:jv (d7 cs v rs) (2 ^ (-cs)-1)↔many cs v rs≠0:=by
 let hF:=J9 cs v rs;unfold many;rw[Ne,iT];constructor
 .intro h;show X' hF h ?_;rw[P1 rfl];show List.cons_ne_nil _ _
 .exact OX hF _ 0 (aw _) (gx _) .zero
structure zb(g:G)(lo:Nat)(cs:@&a7)(rs:@&eJ)(n:Int)(y:D):Prop where
 ex:∃(f:Nat) (L:@&Nat),y=.ref f/\lo<=f/\g[f]?=!.lst (a9 L)/\L.Pairwise (· < ·)/\(∀s,s∈L↔jv (d7 cs n rs) s)/\-L<=512
def zb.at{g g':G}{lo:Nat}{cs:@&a7}{rs:@&eJ}{n:Int}{y:D}(h:zb g lo cs rs n y)(e:Ex g g'):zb g' lo cs rs n y :=
 let ⟨f,L,h1,h2,h3,h4⟩:=h.ex
 #[#[f,L,h1,h2,e.at h3,h4]]
section
variable{T:Nat->Option aP}{d:Nat}{l:Nat}{L:@&Nat}
def aS8(hT:TB0 T)(hF:TF T)(hW:TW T)(hN:TN T)(kB:T 124=!J7)(lh:T 129=!J6)(tK:T 134=!FU)(ha:g[a]?=!.lst (cs.map a7.d))(hz:-cs<=9)(hg:cs.all k9=true)(hB:∀c∈cs,CB c)(hc:g[c]?=!.lst (l7 rs))(hr:-rs<=900)(h1:∀(n:Nat) l y o g',Ex g g'->1<=n->n<=9->(∀j:Nat,1<=j->j<n->many cs j rs=0)->(i0 (-cs) (d7 cs n rs) 0)[0]?=!o->-g<=l->g'[l]?=!.lst (a9 o)->(n=1/\y=.aR\/1<n/\zb g' (-g) cs rs ((n:Int)-1) y/\y≠.ref l)->Q (.tup [.int n,.ref l,y]) g')(h2:(∀j:Nat,1<=j->j<=9->many cs j rs=0)->∀g',Ex g g'->Q .aR g'):a8 T (k+10) 134 [.ref a,.ref c] g Q E:=by
 show call_of tK rfl ?_;show E5 (a6 T _) (Mg (a6 T _) ?_);exists#[_,_,rfl,rfl,#[by decide,by decide,by decide,by decide],p9 1 9,λt U g'=>Ex g g'/\(∀j:Nat,1<=j->j<=t->many cs j rs=0)/\∃y z3 z4 z5,U=[!.ref a,!.ref c,!y,z3,z4,z5]/\(t=0/\y=.aR\/0<t/\zb g' (-g) cs rs (t:Nat) y),λw w w w=>G9,#[Ex.refl _,λj w w=>by omega,.aR,none,none,none,rfl,.inl #[rfl,rfl]],λt x U g1 hx q=>?_,λU g1 q=>?_]
 .let#[e1,jZ,y,z3,z4,z5,rfl,hy]:=q;let#[ht,rfl]:=O9 hx;rw[show(1:Int)+((t:Nat):Int)=((t+1:Nat):Int) by omega];show j4 ?_;exists Gx hT (e1.at ha) hz hg hB (e1.at hc) hr λg2 e2 B2=>?_;exists N1 hT hF hW hN kB B2 hz hr (λho g3 e3=>?_) (λo l g3 ho e3 hl h3=>?_)
  .exists T1 hT hF hW.nk lh (B2.at e3) hz hr λL l g4 e4 hl q1 q2 q3 q4=>?_;let xR:=e1.trans (e2.trans e3);let vo:=xR.trans e4;let mt:many cs ((t+1:Nat):Int) rs=0:=by unfold many;rw[ho];rfl
   let m0:∀j:Nat,1<=j->j<=t+1->many cs j rs=0:=λj j1 j2=>by
    rcases eW j (t+1) with z|z
    .exact jZ j j1 ()
    .have:j=t+1:=by omega
     subst this;show mt
   show#[λhR=>absurd mt (Pa.mp hR),λw=>?_];show#[vo,m0,_,_,_,_,rfl,.inr #[by omega,#[l,L,rfl,aG xR.len hl,q1,q2,q3,q4]]]
  .left;let qt:=e2.trans e3;show h1 (t+1) l y o _ (e1.trans qt) () () (λj j1 j2=>jZ j j1 ()) ho (aG (e1.trans e2).len hl) h3 ?_;rcases hy with⟨rfl,rfl⟩|⟨t0,hy⟩
   .exact .inl #[rfl,rfl]
   .let#[f,L,rfl,p1,p2,p3]:=hy.ex;show .inr #[by omega,?_,λz=>?_]
    .rw[show((t+1:Nat):Int)-1=(t:Nat) by omega];show hy.at qt
    .cases z;have:=u6 p2;have:=e2.len;omega
 .let#[e1,jZ,y,z3,z4,z5,rfl,_]:=q;show h2 jZ _ e1
end
def AZ:aP:=#[2,2,(dN (.qI (bN (bG .lst (bO "") (dP 184 aE aL))) [("MintError",(.prim .lst (.cons (.lit (.str "refused")) (.cons (.lit .aR) .nil))))]))]
def Bb:aP:=#[2,2,(bN (.eI (bG (.cmp .Eq) (bG (.cmp .Eq) (cF aE (bu 0)) (bO "")) (bG (.cmp .Eq) (cF aL (bu 0)) (bO ""))) (dP 7 (cF aE (bu 1)) (cF aL (bu 1)))))]
section
variable{T:Nat->Option aP}{d:Nat}{s:dM}
def uI(r:Rs):Str:=if r.1="" then "" else "refused"
def bG2(hT:TQ T)(oP:T 184=!yH)(tI:T 186=!AZ)(hm:g[m]?=!i6 s)(W:WS s)(ho:dd.ok)(h:∀g' j,Gr m g g'->-g<=j->g'[m]?=!i6 (kf s dd).2.2->g'[j]?=!.lst [.str (uI (kf s dd)),(kf s dd).2.1]->Q (.ref j) g'):a8 T (k+7) 186 [.ref m,dd.d] g Q E:=by
 show call_of tI rfl ?_;delta AZ;exists a13 (k:=k) hT oP hm W ho (λe g1 e1=>?_) (λe=>?_)
 .left;let hlen:-g<=-g1:=e1.len;show h _ _ #[by simp;omega,λi hi hl=>?_] (by simp;omega) ?_ (by unfold uI;rw[az e];simp)
  .rw[aH (by simp;omega),aB (bR hi)];show e1.old i hl
  .rw[aH (by simp;show u6 (e1.at hm))];show get_set (e1.at hm)
 .let#[_,h2]:=(bD6 (s:=s) (dd:=dd)).resolve_left e;show b18 ?_;left;show h _ _ (Gr.snoc _ _ _) (aw _) (by rw[h2];show(Ex.snoc _ _).at hm) (by unfold uI;rw[aA e,h2];show b9)
set_option tactic.hygienic true in
def VZ(h6:T 6=!vt)(h7:T 7=!F7)(tH:T 191=!Bb){r:Rs}{j:Nat}(hj:g[j]?=!.lst [.str (uI r),r.2.1])(hs:o6 r.2.1)(h:∀g',Ex g g'->Q (.bl true) g'):a8 T (k+3) 191 [.ref j,.tup [.str r.1,r.2.1]] g Q E:=by
 show call_of tH rfl ?_;delta Bb;left;let ew:decide (uI r="")=decide (r.1=""):=by
  unfold uI;split
  .rename_i e;rw[au rfl,au e]
  .rename_i e;rw[aD e];decide +kernel
 show eU (by rw[ew];simp) ?_;left;show Zf h6 h7 0 (k:=k) (aZ8 hs) h
end
section
variable{T:Nat->Option aP}{d:Nat}{s:dM}{ns:@&Nat}
def a24(hT:TQ T)(DO:T 67=!W0)(hm:g[m]?=!i6 s)(hc:g[c]?=!.lst (a9 ns))(hl:∀x∈ns,x< -cs)(JN:s.co=cs.map a7.d)(hz:-ns<=1000)(h:Q (.ref (-g)) (g++[.lst ((ns.map (dw cs)).map a7.d)])):a8 T (k+4) 67 [.ref m,.ref c] g Q E:=by
 show call_of DO rfl ?_;delta W0;exists WC (a6 T _) (lP (a6 T _) ?_);left;let li:(a9 ns).length=-ns:=by simp[a9]
 show#[c,_,rfl,a5 hc,a9 ns,λi ys U g'=>ys=((ns.map (dw cs)).map a7.d).take i/\g'=g/\∃z1 z2,U=[!.ref m,z1,z2],by rw[li];show hz,λi ys U g' p=>?_,#[by simp,rfl,_,_,rfl],λi y ys U g' hy p=>?_,λys U g' p=>?_]
 .let#[rfl,rfl,_]:=p;show#[u5 (a5 hc),by rw[cU];omega]
 .let#[rfl,rfl,z1,z2,rfl]:=p;let#[j,hj,rfl]:=Fn hy;let JA:=hl j (aC hj);show j4 ?_
  try show eF _ _ _ _ _ _
  exists r6 hm rfl rfl ?_;exists WQ (k:=k) hT hm (λc' w w e=>?_) (λz=>absurd #[by omega,by rw[JN];simp;omega] z);show#[?_,rfl,_,_,rfl];rw[JN,bL,aj,ag JA] at e;cases e;rw[List.take_add_one,aj,aj,hj,<- B9 (ag JA)]
  rfl
 .let#[rfl,rfl,_]:=p;rw[li,show (-ns)=((ns.map (dw cs)).map a7.d).length by simp,cG];show h
def gh(L:@&Int)(x:Int):Nat:=L.findIdx λn=>decide (n=x)
def yu{x:Int}(h:x∈L):L[gh L x]?=!x:=by
 let hl:gh L x< -L:=lI #[x,h,au rfl];rw[ag hl];have:=BR (xs:=L) (p:=λn=>decide (n=x)) (w:=hl);show iO some (bp this)
def bQ8{x:Int}(h:L[k]?=!x):gh L x<=k:=iQ λz=>by
 have:=jm (p:=λn=>decide (n=x)) z;rw[(ak.mp h).2] at this;simp at this
def FN{x:Int}(h:x∈L):S0 (L.map .int) (.int x) (gh L x):=by
 show#[?_,rfl,#[.int x,by rw[aj,yu h];rfl,by simp[toV,lq]],λm z hm hz=>?_]
 .rw[bK];intro y hy;let#[i,_,rfl]:=aQ.mp hy
  rfl
 .rw[aj,ae] at hz;let#[i,hi,rfl]:=hz;have:=jm (p:=λn=>decide (n=x)) hm;rw[(ak.mp hi).2] at this;simp[toV,lq] at this ⊢;show this
def a66(tJ:T 163=!AK)(ha:g[a]?=!.lst (cs.map a7.d))(hz:-cs<=9)(h:∀(L:@&Int) b g',Ex g g'->-g<=b->g'[b]?=!.lst (L.map .int)->-L<=9->L.Nodup->(∀x∈L,F5 cs w x=true)->Q (.ref b) g'):a8 T (k+1) 163 [.ref a,.str w.s] g Q E:=by
 show call_of tJ rfl ?_;delta AK;left;let lx:∀(f:Int),(f=0\/f=2)->decide (w.s="lower")=decide (f=0)->(∀i c,cs[i]?=!c->∀x,meant cs w x i=decide (rS f c=x))->bj (a8 T k) (.prim .sset (.cons (.comp [1] 3 (.one 2) (.gp (.var 0)) .no (.prim .ix (.cons (.var 2) (.cons (.ite (.fg (.prim (.cmp .Eq) (.cons (.var 0) (.cons (.lit (.str "lower")) .nil)))) (.lit (.int 0)) (.lit (.int 2))) .nil)))) .nil)) [!.ref a,!.str w.s] g Q E:=λf hf hw hm=>by
  exists comp_map (a6 T _) (λU=>∃z1 z2,U=[!.str w.s,z1,z2]) (λi=>.int (rS f (dw cs i))) (l:=cs.map a7.d) (k:=.lst a) (λg' e=>u5 (a5 (e.at ha))) (by simp;omega) #[none,none,rfl] (λi x U g' hx e sh=>?_) (λg' e=>?_) (rW (a6 T _) (a5 ha) λQ q=>w_var (d:=.ref a) rfl q)
  .let#[z1,z2,rfl]:=sh;rw[aj,ae] at hx;let#[c,hc,rfl]:=hx;show j4 ?_
   try show bj _ _ _ _ _ _
   exists if2 (λc1=>?_) (λc1=>?_)
   .rw[au c1] at hw;let Th:f=0:=bp hw.symm;subst Th;left;show E9 (Am hf c) #[by rw[B9 hc],e,z1,_,rfl]
   .rw[aD c1] at hw;let Tg:f=2:=by
     rcases hf with z|z
     .exact absurd z (QW hw.symm)
     .exact z
    subst Tg;left;show E9 (Am hf c) #[by rw[B9 hc],e,z1,_,rfl]
  .refine bN6 (ns:=(List.range (-cs)).map λi=>rS f (dw cs i)) (a5 (by rw[bI];rw[b9,ah];rfl)) (by simp;omega) ?_;let e3:=(e.trans (Ex.snoc g' (O.lst ((List.range (cs.map a7.d).length).map λi=>D.int (rS f (dw cs i)))))).trans (Ex.snoc _ (O.lst ((o8 ((List.range (-cs)).map λi=>rS f (dw cs i))).map .int)));show h _ _ _ e3 (by have:=e.len;simp;omega) b9 (aG (Y8 _) (_/hz)) (OT _) λx hx=>?_;rw[Zg] at hx;let#[i,hi,rfl]:=aQ.mp hx;let hi:=aN.mp hi;let hc:=ag hi;unfold F5;rw[Qr hi (by rw[hm i _ hc,B9 hc];show au rfl)]
   rfl
 cases w with
 |iJ =>
  show eU #[] ?_;exists wU () (by simp;omega) ?_;let er:p9 0 (Int.toNat ((cs.map a7.d).length:Nat))=((List.range (-cs)).map λ(i:Nat)=>(i:Int)).map D.int:=by
   simp[p9]
  rw[er];show h _ _ _ (Ex.snoc _ _) (aw _) b9 (_/hz) (List.Pairwise.map _ (λa b (z:a≠b) (e:(a:Int)=b)=>z ()) fT) λx hx=>?_;let#[i,hi,rfl]:=aQ.mp hx;unfold F5;rw[Qr (w:=.iJ) (x:=(i:Int)) (aN.mp hi) (au rfl)]
  rfl
 |lower =>
  show cZ #[] ?_;left;show lx 0 (.inl rfl) #[] λi c hc x=>by unfold meant;rw[B9 hc];rfl
 |upper =>
  show cZ #[] ?_;left;show lx 2 (.inr rfl) #[] λi c hc x=>by unfold meant;rw[B9 hc];rfl
end
def Fu:aP:=#[3,3,(bN (fQ 129 (gA 99 aE aL ba)))]
def vP:aP:=#[5,7,(de (cI .Eq ba (bO "coin")) (bN (bG (.cmp .Lt) (.dZ .index aL (fb bP)) (.dZ .index aL (fb dX)))) (du 5 (.ite (cI .Eq ba (bO "lower")) (bu 0) (bu 2)) (du 6 (.comp [5,0] 4 (.one 3) (.gp aL) .no (cF (cF aL bP) aE)) (bN (bG (.cmp .Lt) (.dZ .index gf (fb bP)) (.dZ .index gf (fb dX)))))))]
def yS:aP:=#[1,17,(du 1 (fQ 3 aE) (du 2 (bG (.bin .Add) (bu 1) (dP 4 aL (bu 4))) (du 3 (.make "Mint" 51 (fb ba)) (du 4 (fQ 45 ba) (nO (.one 5) (.gE (bG (.bin .Add) (bu 15) (dP 4 aL (bu 46)))) (du 6 (dP 188 aL dX) (dN (.ifs (.dt (.fg (dP 191 (dP 186 bP gf) (dP 183 dX gf)))) (bN (.lit (.bl false))) .pass))) (du 7 (bG (.mU false true) (dP 21 aL (cJ .kd (.cT "struck" [("Mint",65)] bP .nil))) (bG (.bin .Add) (bu 1) (dP 4 aL (bu 9)))) (du 8 (.cT "hoard" [("Mint",67)] bP (fb iG)) (du 9 (.comp [7] 3 (.one 2) (.gp (cJ .kc iG)) .no (.dZ .index aE (fb ba))) (de (.jI (cI .IsNot (wB 104 iY ba (.prim .lst .nil) lN) (.lit .aR)) (cI .IsNot (gA 132 iY ba (.prim .lst .nil)) (.lit .aR))) (bN (.lit (.bl false))) (du 10 (wB 128 iY ba (.prim .lst .nil) lN) (de (.jI (.dt (.fg (fQ 6 rf))) (.jI (.dt (.fg (.chain .LtE .Lt (bu 0) rf (gA 126 iY ba (.prim .lst .nil))))) (cI .Gt (cF (dP 135 iY (.prim .lst .nil)) (bu 0)) ba))) (bN (.lit (.bl false))) (nO (.one 11) (.gp (.prim .lst (nX (bO "coin") (bO "lower") (bO "upper")))) (du 12 (dP 163 iY ou) (dN (.ifs (cI .Gt (cJ .len jg) (bu 1)) (du 13 (dP 4 aL (cJ .len jg)) (du 14 (bG (.bin .Mod) (bG (.bin .Add) (bG (.bin .Add) ot (bu 1)) (dP 4 aL (bG (.bin .Sub) (cJ .len jg) (bu 1)))) (cJ .len jg)) (du 15 (.call 139 (Iq iY ba (.prim .lst .nil) ou (cF jg ot) (cF jg qZ))) (du 16 (cF (bG .lst (bO "later") (bO "first")) (cJ .int (Rj 193 iY lN ou (cF jg ot) (cF jg qZ)))) (dN (.ifs (cI .NotIn wW (bG .lst (bO "either") wV)) (bN (.lit (.bl false))) .pass)))))) .pass))) (bN (.lit (.bl true)))))))))))))))]
structure BI(T:Nat->Option aP):Prop where
 tr:TR T
 tv:TV T
 tb:TB T
 tf:TF T
 tw:TW T
 tn:TN T
 to:TO T
 fi:yY T
 h3:T 3=!Bt
 h6:T 6=!vt
 h7:T 7=!F7
 UD:T 11=!yS
 DT:T 21=!Ba
 DQ:T 45=!As
 DO:T 67=!W0
 tQ:T 104=!U0
 kB:T 124=!J7
 tM:T 126=!AX
 tL:T 128=!V9
 lh:T 129=!J6
 Ee:T 132=!Fu
 tK:T 134=!FU
 Ed:T 135=!Fb
 tJ:T 163=!AK
 oP:T 184=!yH
 tI:T 186=!AZ
 tH:T 191=!Bb
 tG:T 193=!vP
section
variable{T:Nat->Option aP}{d:Nat}{s:dM}{ns o:@&Nat}{x y:Int}
def ER(l:@&Nat):(l.map λn:Nat=>(n:Int)).map D.int=a9 l:=by rw[a9,bI];rfl
def bK9(hP:d5 P){U:S}{v:Nat}(hc:F8 U [v] 3=[!.ref r,none,none])(hv:U[v]?=!!.ref r)(hr:g[r]?=!.lst (a9 ns))(nd:ns.Nodup)(hz:-ns<=50)(h:∀o g',Rw ns o->Ex g g'->Q (.ref (-g')) (g'++[.lst (a9 o)])) :
  bj P (.comp [v] 3 (.one 2) (.gp (.prim .kc (.cons (.var v) .nil))) .no (.dZ .index (.var 0) (.cons (.var 2) .nil))) U g Q E:=by
 let#[S,hS,up,mem,ln]:=ZW nd;show K5 hP (lP hP (yW (w_var hv ?_)));let im:(ns.map λn:Nat=>(n:Int)).map D.int=a9 ns:=(ER _)
 show bA3 (ns:=ns.map λn:Nat=>(n:Int)) (a5 (by rw[im];show hr)) (by rw[ah];omega) ?_;rw[hS];let e1:=Ex.snoc g (O.lst (a9 S));let s1:=b9 (g:=g) (o:=O.lst (a9 S));let r1:=e1.at hr;generalize g++[_]=g1 at *;generalize (-g)=t at *;let li:∀l:@&Nat,(a9 l).length=-l:=λl=>by simp[a9]
 let tk:∀(l:@&Nat) i,(a9 l).take i=a9 (l.take i):=λl i=>by simp[a9,List.map_take]
 show#[t,_,rfl,a5 s1,a9 S,λi ys U g'=>(∃z1 z2,U=[!.ref r,z1,z2])/\Ex g1 g'/\ys=(a9 (S.map λx:Nat=>gh (ns.map λn:Nat=>(n:Int)) (x:Int))).take i,by rw[li];omega,λi ys U g' p=>?_,#[#[_,_,hc],Ex.refl _,rfl],λi y ys U g' hy p=>?_,λys U g' p=>?_]
 .let#[_,e2,rfl]:=p;show#[u5 (a5 (e2.at s1)),by rw[cU,li,ah];omega]
 .let#[#[z1,z2,rfl],e2,rfl]:=p;let#[j,hj,rfl]:=Fn hy;let mj:(j:Int)∈ns.map λn:Nat=>(n:Int):=Il ((mem j).mp (aC hj));show j4 ?_
  try show bj _ _ _ _ _ _
  exists#[.inr #[r,_,rfl,a5 (e2.at r1)],?_];exists yh (a5 (e2.at r1)) (by rw[<- im];show FN mj) (by rw[li];omega) ?_;show#[#[_,_,rfl],e2,?_];rw[List.take_add_one,a9,aj,aj,hj]
  rfl
 .let#[_,e2,rfl]:=p;rw[li,show (-S)=(a9 (S.map λx:Nat=>gh (ns.map λn:Nat=>(n:Int)) (x:Int))).length by simp[a9],cG];let at_:∀{x:Nat},x∈S->ns[gh (ns.map λn:Nat=>(n:Int)) (x:Int)]?=!x:=λ{x} hx=>by
   have:=yu (L:=ns.map λn:Nat=>(n:Int)) (x:=(x:Int)) (Il ((mem x).mp hx));rw[aj,ae] at this;let#[n,hn,e]:=this;rw[hn,show n=x by omega]
  show h _ _ #[by rw[ah];show ln,λi p hp=>?_,λi j p q jh hp hq=>?_] (e1.trans e2)
  .rw[aj,ae] at hp;let#[x,hx,rfl]:=hp;show(ak.mp (at_ (aC hx))).1
  .rw[aj,ae] at hp hq;let#[x,hx,rfl]:=hp;let#[y,hy,rfl]:=hq;let ax:=at_ (aC hx);let ay:=at_ (aC hy);let gd:∀{p z:Nat},ns[p]?=!z->ns.getD p 0=z:=λe=>by simp[List.getD,e]
   rw[gd ax,gd ay];let#[hi,rfl]:=ak.mp hx;let#[hj,rfl]:=ak.mp hy;show dz.mp up i j hi hj jh
abbrev j3(cs:@&a7)(w:RW)(o:@&Nat):@&Int:=o.map λ(p:Nat)=>match w with
 |.iJ=>(p:Int)
 |.lower=>(dw cs p).lo
 |.upper=>(dw cs p).up
def MN:∀(k p:Nat),o[k]?=!p->∃z,(j3 cs w o)[k]?=!z/\∀y,meant cs w y p=true↔z=y:=λk p e=>by
 show#[_,by rw[j3,aj,e];rfl,λy=>?_];cases w<;>show bz
def Yv(tG:T 193=!vP)(ha:g[a]?=!.lst (cs.map a7.d))(hr:g[r]?=!.lst (a9 o))(ho:∀p∈o,p< -cs)(hz:-o<=100)(hx:x∈j3 cs w o)(hy:y∈j3 cs w o)(h:∀g',Ex g g'->Q (.bl (decide (gh (j3 cs w o) x<gh (j3 cs w o) y))) g'):a8 T (k+1) 193 [.ref a,.ref r,.str w.s,.int x,.int y] g Q E:=by
 let li:∀l:@&Nat,(a9 l).length=-l:=λl=>by simp[a9]
 let fin:∀{i:Nat} {g1:G} (Q':KD),g1[i]?=!(.lst ((j3 cs w o).map .int))->Ex g g1->(Q' (.bl (decide (gh (j3 cs w o) x<gh (j3 cs w o) y))) g1)->∀{U:S} {v:Nat},U[v]?=!!.ref i->U[3]?=!!.int x->U[4]?=!!.int y->bj (a8 T k) (.prim (.cmp .Lt) (.cons (.dZ .index (.var v) (.cons (.var 3) .nil)) (.cons (.dZ .index (.var v) (.cons (.var 4) .nil)) .nil))) U g1 Q' E:=λ{i g1} Q' hi e q {U v} hv h3 h4=>by
  let zl:((j3 cs w o).map D.int).length<=100000:=by rw[ah,j3,ah];omega
  show qJ (Hk (w_var hv #[.inr #[i,_,rfl,a5 hi],?_]));show yD (w_var h3 (Bx (yh (a5 hi) (FN hx) zl ?_)));show Hk (w_var hv #[.inr #[i,_,rfl,a5 hi],?_]);show yD (w_var h4 (Bx (yh (a5 hi) (FN hy) zl ?_)));show L' ?_
  rwa [show decide (((gh (j3 cs w o) x:Nat):Int)<(gh (j3 cs w o) y:Nat))=decide (gh (j3 cs w o) x<gh (j3 cs w o) y) by simp]
 let lx:∀(f:Int),(f=0\/f=2)->j3 cs w o=o.map (λp=>rS f (dw cs p))->∀(N:Ends) U,N.rt=Q->U=[!.ref a,!.ref r,!.str w.s,!.int x,!.int y,!.int f,none]->wpS (a8 T k) (match vP.body with|.seq _ (.seq _ b)=>b|x=>x) N U g E:=λf hf hw N U hN wY=>by
  subst wY;dsimp[vP];show yn (yo ?_);show comp_map (a6 T _) (λU=>∃z2 z3,U=[!.int f,!.ref a,z2,z3]) (λi=>.int ((j3 cs w o).getD i 0)) (l:=a9 o) (k:=.lst r) (λg' e=>u5 (a5 (e.at hr))) (by rw[li];omega) #[none,none,rfl] (λi z U g' hx e sh=>?_) (λg' e=>?_) (rW (a6 T _) (a5 hr) λQ q=>w_var rfl q)
  .let#[z2,z3,rfl]:=sh;let#[p,hp,rfl]:=Fn hx;let lp:=ho p (aC hp);show j4 ?_
   try show bj _ _ _ _ _ _
   left;let ec:=ag lp;show A6 (a5 (e.at ha)) (d:=(dw cs p).d) (C7 (by rw[aj,ec,B9 ec];rfl)) ?_;exists E9 (Am hf (dw cs p)) #[?_,e,_,_,rfl];rw[hw,bf,aj,hp]
   rfl
  .let e2:=Ex.snoc g' (O.lst ((List.range (a9 o).length).map λi=>D.int ((j3 cs w o).getD i 0)));let e3:=e.trans e2;show AA (GN ?_);rw[hN];show fin _ (i:=-g') ?_ e3 (h _ e3) rfl rfl rfl;rw[b9,li]
   congr 2
   show fK λi=>?_;rw[aj,aj];let ll:(j3 cs w o).length=-o:=by rw[j3,ah]
   by_cases hi:i< -o
   .rw[da hi,ag ()];simp[List.getD_eq_getElem?_getD,ll,hi]
   .rw[aZ (_/hi),aZ ()]
    rfl
 show call_of tG rfl ?_;delta vP;left;cases w with
 |iJ =>
  show eU #[] ?_;show AA (GN ?_);show fin _ (by rw[hr,<- ER];rfl) (Ex.refl g) (h g (Ex.refl g)) rfl rfl rfl
 |lower =>
  show cZ #[] ?_;show E6 (yn (yo (w_ite (Bz (qJ (w_var rfl (w_lit (HI (EX ?_)))))))));show eU #[] (w_lit ?_);show lx 0 (.inl rfl) rfl _ _ rfl rfl
 |upper =>
  show cZ #[] ?_;show E6 (yn (yo (w_ite (Bz (qJ (w_var rfl (w_lit (HI (EX ?_)))))))));show cZ #[] (w_lit ?_);show lx 2 (.inr rfl) rfl _ _ rfl rfl
def a02(hT:BI T)(ha:g[a]?=!.lst (cs.map a7.d))(hz:-cs<=9)(hg:cs.all k9=true)(hB:∀c∈cs,CB c)(hv:1<=v/\v<=9)(hc:g[c]?=!.lst (l7 rs))(hr:-rs<=900)(hR:rs.all (p8 cs)=true)(hm:many cs v rs≠0)(h:∀g',Ex g g'->Q .aR g'):a8 T (k+13) 132 [.ref a,.int v,.ref c] g Q E:=by
 show call_of hT.Ee rfl ?_;delta Fu;exists Gw (k:=k+2) hT.tb ha hz hg hB hv hc hr hR λg3 b e3 x B3=>?_;left;show T1 (k:=k+5) hT.tb.toTB0 hT.tf hT.tw.nk hT.lh B3 hz hr λL l g4 e4 x x x x x=>#[λx=>h _ (e3.trans e4),λz=>absurd (Pa.mpr hm) z]
def YT(hT:BI T)(ha:g[a]?=!.lst (cs.map a7.d))(hz:-cs<=9)(hg:cs.all k9=true)(hB:∀c∈cs,CB c)(hv:1<=u/\u<=9)(hc:g[c]?=!.lst (l7 rs))(hr:-rs<=900)(hR:rs.all (p8 cs)=true)(hm:many cs u rs≠0)(h:∀(n:Nat) x y g',n<=u->Ex g g'->Q (.tup [.int (n:Nat),x,y]) g'):a8 T (k+11) 135 [.ref a,.ref c] g Q E:=by
 show call_of hT.Ed rfl ?_;delta Fb;exists T5 (k:=k+4) hT.tb.nf hT.tb.h2 hT.tb.tO hT.tb.vh ha () (λz=>by omega) (λw z=>by rw[hg] at z;cases z) λw w=>?_;exists NG (k:=k+5) hT.tb ha () hc hr (λw g1 e1=>?_) (λz=>by rw[hR] at z;cases z);exists aS8 (k:=k) hT.tb hT.tf hT.tw hT.tn hT.kB hT.lh hT.tK (e1.at ha) hz hg hB (e1.at hc) hr (λn l y o g2 e2 n1 n2 n3 n4 n5 n6 n7=>?_) (λjZ g2 e2=>?_)
 .left
  try show cZ rfl ?_
  left;show h n _ _ _ (iQ λz=>hm (n3 u hv.1 z)) (e1.trans e2)
 .exact absurd (jZ u hv.1 hv.2) hm
structure mR(g:G)(d r e:Nat)(cs:@&a7)(o:@&Nat)(u:Nat)(l:@&D):Prop where
 dr:j5 g d
 co:g[e]?=!.lst (cs.map a7.d)
 ro:g[r]?=!.lst (a9 o)
 li:g[u]?=!.lst l
 ne:d<r/\d<e/\d<u
def mR.ex(h:mR g d r b cs o u l)(e:Ex g g'):mR g' d r b cs o u l:=#[e.draw h.dr,e.at h.co,e.at h.ro,e.at h.li,h.ne]
def mR.gr{l:@&D}(h:mR g d r b cs o u l)(D:j5 g' d)(e:Gr d g g'):mR g' d r b cs o u l:=#[D,e.at (by have:=h.ne;omega) h.co,e.at (by have:=h.ne;omega) h.ro,e.at (by have:=h.ne;omega) h.li,h.ne]
def bR5{x w:Str}(ha:g[a]?=!.lst [.str "either",.str w])(hw:PyData.strOk w=true)(hx:PyData.strOk x=true)(h:kb (decide (x="either")||decide (x=w))):oz g (.str x) (.ref a) kb:=by
 show#[_,.inr #[_,[.str "either",.str w],.str x,a5 ha,rfl,rfl,by simp only[PyData.canLayAll0,PyData.canLay0,Bool.and_true,hw];decide +kernel,by simp only[PyData.canLay0];show hx,rfl],?_];let e:∀y:Str,PyData.eqv (.str y) (.str x)=decide (x=y):=λy=>by
  simp only[PyData.eqv];rw[bq,eA,bz];show eq_comm
 simp only[List.any_cons,List.any_nil,Bool.or_false,e];show h
def Om(h:kO cs v [] o)(hx:F5 cs w x=true):x∈j3 cs w o:=by
 unfold F5 at hx;rw[eM,List.isEmpty_eq_false_iff] at hx;let#[p,hp]:=ij _ hx;let#[p1,p2]:=bg.mp hp;let#[i,hi]:=bD.mp (h.all (aN.mp p1));let#[z,hz,hy]:=MN (cs:=cs) (w:=w) i p hi;show bD.mpr #[i,by rw[hz,(hy x).mp p2]]
def PD(hO:∀rs,(∀(i p:Nat),o[i]?=!p->K4 cs rs (lO (o.take i)) p=true)->kO cs v rs o)(hx:x∈j3 cs w o)(h:gh (j3 cs w o) x<gh (j3 cs w o) y):many cs v [#[w,x,y]]≠0:=by
 let H0:=hO [] λi p z=>rfl;let ax:=yu hx;show(hO _ (a10 (r:=#[w,x,y]) (L:=j3 cs w o) (i:=gh (j3 cs w o) x) (j:=gh (j3 cs w o) y) (λk p e=>H0.lt p (aC e)) MN ax (λk e=>bQ8 e) h ?_)).many;have:=(ak.mp ax).1
 rwa [j3,ah] at this
def bF1(hT:BI T){e:Nat}{z3 z4 z5 z6 z7 Iu qQ qP qO qN qL:Option D}(I:mR g d r e cs o u l)(hz:-cs<=9)(hg:cs.all k9=true)(hB:∀c∈cs,CB c)(hv:1<=v/\v<=9)(hO:∀rs,(∀(i p:Nat),o[i]?=!p->K4 cs rs (lO (o.take i)) p=true)->kO cs v rs o)(hN:∀g' qQ qP qO qN qL,mR g' d r e cs o u l->N.nx [!.ref 0,!.ref d,!.int v,z3,z4,z5,z6,z7,!.ref e,!.ref r,Iu,!.str w.s,qQ,qP,qO,qN,qL] g') :
  wpS (a8 T (k+13)) (match yS.body with|.seq _ (.seq _ (.seq _ (.seq _ (.seq _ (.seq _ (.seq _ (.seq _ (.seq _ (.seq _ (.seq _ (.seq (.ju _ _ b) _)))))))))))=>b|x=>x) N [!.ref 0,!.ref d,!.int v,z3,z4,z5,z6,z7,!.ref e,!.ref r,Iu,!.str w.s,qQ,qP,qO,qN,qL] g jS:=by
 let h4:=hT.tv.h4;let H0:=hO [] λi p t=>rfl;let ol:=H0.len;dsimp[yS];exists a66 (k:=k+12) hT.tJ I.co hz λL b g1 e1 gb hb hL nd Jl=>?_;let I1:=I.ex e1;let nb:=I1.ne;let db:d<b:=by have:=I.dr.lt;omega
 left;rw[ah];show if2 (λc1=>?_) (λc1=>?_)
 rotate_left
 .left;show hN _ _ _ _ _ _ I1
 left;rw[ah];show m9 (k:=k+12) h4 I1.dr () () λr2 g2 t0 t1 D2 G2=>?_;let I2:=I1.gr D2 G2;let b2:=G2.at () hb;left;rw[ah];show m9 (k:=k+12) h4 D2 () () λr3 g3 t2 t3 D3 G3=>?_;let I3:=I2.gr D3 G3;let b3:=G3.at () b2;left;rw[ah];show W4 () ?_;obtain⟨i,rfl⟩:∃i:Nat,r2=i:=#[r2.toNat,by omega]
 obtain⟨j,hj⟩:∃j:Nat,((i:Int)+1+r3) % (-L:Nat)=j:=#[(((i:Int)+1+r3) % (-L:Nat)).toNat,by have:=gz ((i:Int)+1+r3) (b:=(-L:Nat)) ();omega]
 let jl:j< -L:=by have:=fE ((i:Int)+1+r3) (b:=(-L:Nat)) ();omega
 let ne:i≠j:=λz=>by
  subst z;by_cases q:(i:Int)+1+r3<(-L:Nat)
  .rw[lJ () q] at hj;omega
  .have:((i:Int)+1+r3-(-L:Nat)) % (-L:Nat)=i:=by rw[Int.sub_emod_right];show hj
   rw[lJ () ()] at this;omega
 rw[hj];let il:i< -L:=by omega
 let MX:∀{i:Nat} (hi:i< -L),jA (L.map D.int) (i:Int)=!.int L[i]:=λ{i} hi=>C7 (by rw[aj,ag hi];rfl);let nv:L[i]≠L[j]:=λz=>ne ((mT nd).mp z);let mx:=Jl _ (cH il);let my:=Jl _ (cH jl);let ax:=MX il;let ay:=MX jl;generalize L[i]=x at *;generalize L[j]=y at *;let rx:=Om H0 mx;let ry:=Om H0 my;let gr:p8 cs #[w,x,y]=true:=by
  unfold p8;unfold F5 at mx my;rw[aD nv,mx,my]
  rfl
 let tr:(gh (j3 cs w o) x<gh (j3 cs w o) y->many cs v [#[w,x,y]]≠0)/\(¬gh (j3 cs w o) x<gh (j3 cs w o) y->many cs v [#[w,y,x]]≠0):=by
  show#[λz=>PD hO rx z,λz=>PD hO ry ?_];have:gh (j3 cs w o) x≠gh (j3 cs w o) y:=λe=>nv (aO ((yu rx).symm.trans (by rw[e];show yu ry)));omega
 left;let e4:=Ex.snoc g3 (O.lst []);let s4:=b9 (g:=g3) (o:=O.lst []);let I4:=I3.ex e4;let b4:=e4.at b3;generalize g3++[_]=g4 at *;generalize (-g3)=c at *;show A6 (a5 b4) ax ?_;exists A6 (a5 b4) ay ?_;exists Wx (k:=k) hT.tb.toTB0 hT.tb.nN hT.tb.rD hT.tf hT.tw hT.tn hT.fi (r:=#[w,x,y]) (rs:=[]) I4.co hz hg hB hv s4 ∅ rfl gr (λq1 q2=>?_) λt g5 e5=>?_
 .by_cases z:gh (j3 cs w o) x<gh (j3 cs w o) y
  .exact absurd q1 (tr.1 z)
  .exact absurd q2 (tr.2 z)
 let I5:=I4.ex e5;let b5:=e5.at b4;left;let e6:=Ex.snoc g5 (O.lst [.str "later",.str "first"]);let s6:=b9 (g:=g5) (o:=O.lst [.str "later",.str "first"]);let I6:=I5.ex e6;let b6:=e6.at b5;generalize g5++[_]=g6 at *;generalize (-g5)=f at *;show A6 (a5 b6) ax ?_;exists A6 (a5 b6) ay ?_;exists Yv (k:=k+12) hT.tG I6.co I6.ro (λp hp=>H0.lt p hp) () rx ry λg7 e7=>?_;let I7:=I6.ex e7;let s7:=e7.at s6;left;let st:PyData.strOk (O6 (many cs v ([]++[#[w,x,y]])) (many cs v ([]++[C3 #[w,x,y]])))=true:=by
  unfold O6
  repeat' split
  all_goals decide +kernel
 let tell:∀z:Str,(z=if gh (j3 cs w o) x<gh (j3 cs w o) y then("first":Str) else("later":Str))->(decide (O6 (many cs v ([]++[#[w,x,y]])) (many cs v ([]++[C3 #[w,x,y]]))=("either":Str))||decide (O6 (many cs v ([]++[#[w,x,y]])) (many cs v ([]++[C3 #[w,x,y]]))=z))=true:=λz hz=>by
  unfold O6;by_cases c:gh (j3 cs w o) x<gh (j3 cs w o) y
  .rw[az c] at hz;subst hz;have:many cs v ([]++[#[w,x,y]])≠0:=tr.1 c;rw[aA this];split<;>decide +kernel
  .rw[aA c] at hz;subst hz;have:many cs v ([]++[C3 #[w,x,y]])≠0:=tr.2 c;rw[aA this];split<;>decide +kernel
 generalize O6 _ _=tw at *;let Ro:=tell _ rfl;let Rh:PyData.strOk (if gh (j3 cs w o) x<gh (j3 cs w o) y then("first":Str) else("later":Str))=true:=by split<;>decide +kernel
 show A6 (a5 s7) (d:=.str (if gh (j3 cs w o) x < gh (j3 cs w o) y then ("first":Str) else ("later":Str))) (by
  by_cases c:gh (j3 cs w o) x<gh (j3 cs w o) y
  .rw[au c,az c]
   rfl
  .rw[aD c,aA c]
   rfl) ?_
 generalize (if gh (j3 cs w o) x<gh (j3 cs w o) y then("first":Str) else("later":Str))=z at *;exists N8 (bR5 b9 Rh st ?_);rw[Ro];left;show hN _ _ _ _ _ _ (I7.ex (Ex.snoc _ _))
def WV{l:List α}(h:0<=j):cut l none (!j)=l.take j.toNat:=by
 have:¬(j<0):=by omega
 unfold cut HT.eL;simp[this]
def XJ(h:l.Perm (p9 0 n)):∃ns:@&Nat,l=a9 ns/\ns.Nodup/\-ns=n/\∀x∈ns,x<n:=by
 let e:p9 0 n=a9 (List.range n):=by unfold p9 a9;simp
 rw[e] at h;let h2:=h.map (λz:D=>match z with
  |.int i=>i.toNat
  | _=>0)
 let e2:(a9 (List.range n)).map (λz:D=>match z with
  |.int i=>i.toNat
  | _=>0)=List.range n:=by
  rw[a9,bI];simp only[Function.comp_def,Int.toNat_natCast];show nE _
 rw[e2] at h2;show#[_,?_,h2.nodup_iff.mpr fT,by rw[h2.length_eq,iu],λx hx=>aN.mp (h2.mem_iff.mp hx)];rw[a9,bI];show((fe λx hx=>?_).trans (nE _)).symm;let#[i,_,rfl]:=aQ.mp (h.mem_iff.mp hx);simp
def Xi(hT:BI T){ns:@&Int}:a8 T (k+14) 11 [.ref 0] [.qq (ns.map .int)] (λd z=>d=.bl true) jS:=by
 let h4:=hT.tv.h4;show call_of hT.UD rfl ?_;delta yS;exists bA5 (k:=k+12) hT.h3 (a:=0) (ns:=ns) rfl λd g D0 z z=>?_;exists m9 (k:=k+12) h4 D0 ∅ ∅ λr g1 r0 r1 D1 G1=>?_;left;obtain⟨n,hn⟩:∃n:Nat,1+r=n:=#[(1+r).toNat,by omega]
 rw[hn];let zN:1<=n/\n<=9:=by omega
 show bB8 (k:=k+9) hT.tr.tq.tm zN ?_;show#[rfl,?_];left;let em:(g1++[i6 (s0 n)])[(-g1)]?=!i6 (s0 n):=b9;let D2:=D1.snoc (i6 (s0 n));let dl:=D1.lt;let ml:-g1<(g1++[i6 (s0 n)]).length:=by simp
 generalize (-g1)=m at *;generalize g1++[i6 (s0 n)]=g2 at *;show Zj (k:=k+12) hT.DQ zN.2 λg3 e3 M3=>?_;let I3:pQ g3 d m (-g2) (s0 n):=#[e3.draw D2,dl,ml,e3.at em,M3,Vf zN.2]
 generalize (-g2)=q at *;exists E5 (a6 T _) (yQ (a6 T _) ?_);exists m9 (k:=k+12) h4 I3.dr ∅ ∅ λr4 g4 r40 r41 D4 G4=>?_;let I4:pQ g4 d m q (s0 n):=#[D4,dl,ml,G4.at () I3.mi,I3.md.gr G4 (),I3.ws]
 exists#[by omega,by omega,p9 0 (15+r4).toNat,λi U g=>(∃s,pQ g d m q s/\∃cs B,Hs n s cs B)/\∃z5 z6,U=[!.ref 0,!.ref d,!.int n,!.ref m,!.ref q,z5,z6,none,none,none,none,none,none,none,none,none,none],λi U g p=>G9,#[#[_,I4,_,_,Vd],none,none,rfl],λi y U g hy p=>?_,λU g p=>?_]
 .let#[#[s,I5,cs,B,H],z5,z6,rfl]:=p;show j4 ?_
  try show wpS _ _ _ _ _ _
  exists bD8 (k:=k+8) hT.tv I5.md I5.ws I5.dr (by have:=I5.dm;have:=I5.mq;omega) λdd g6 ok D6 G6=>?_;let m6:=G6.at () I5.mi;let M6:=I5.md.gr G6 ();exists bG2 (k:=k+6) hT.tr.tq hT.oP hT.tI m6 I5.ws ok λg7 j G7 hj m7 f7=>?_;let RH:q+6< -g6:=u6 M6.fO;let D7:j5 g7 d:=by
   let#[s,p,b,r,xs,h1,h2,h3,h4]:=D6.ex;show#[s,p,b,r,xs,G7.at () h1,G7.at () h2,h3,h4]
  let M7:MD g7 q s:=#[G7.at () M6.cV,G7.at () M6.eG,G7.at () M6.lower,G7.at () M6.upper,G7.at () M6.gone,G7.at () M6.fO]
  exists bB9 (k:=k+11) hT.tr M7 I5.ws ok λg8 K8 M8=>?_;let I8:pQ g8 d m q (kf s dd).2.2:=#[K8.draw () D7,dl,ml,K8.at () m7,M8,b50 I5.ws]
  let f8:=K8.at () f7;exists VZ (k:=k+10) hT.h6 hT.h7 hT.tH f8 bD7 λUN xS=>?_;left;let#[tY,B',H']:=H.do (dd:=dd) I5.ws;show#[#[_,I8.ex xS,tY,B',H'],_,_,rfl]
 let#[#[s,I5,cs,B,H],z5,z6,rfl]:=p
 try show wpS _ _ _ _ _ _
 let cl:-s.co=-cs:=by rw[H.co,ah]
 let cn:=I5.ws.cn;let hd5:=I5.dr.lt;exists r6 I5.mi rfl rfl ?_;exists aZ1 (k:=k+12) hT.tr.tq I5.mi ?_;exists wU () () ?_;rw[bL];let e6:=Ex.snoc g (O.lst (p9 0 (-s.co)));let s6:=b9 (g:=g) (o:=O.lst (p9 0 (-s.co)));let I6:=I5.ex e6;generalize g++[_]=g6 at *;exists aR7 (k:=k+11) h4 hT.DT s6 (by rw[E0];omega) () I6.dr λl' b g7 pm hb lb D7 G7=>?_;let#[uJ,rfl,RP,ln0,Sd]:=XJ pm;let I7:=I6.gr G7 D7;let nb:b≠d:=by have:=I6.dr.lt;omega
 exists m9 (k:=k+12) h4 D7 ∅ ∅ λr8 g8 p0 p1 D8 G8=>?_;let I8:=I7.gr G8 D8;exists Hf (a5 (G8.at nb hb)) ?_;rw[WV (),show(a9 uJ).take (1+r8).toNat=a9 (uJ.take (1+r8).toNat) by simp[a9,List.map_take]];let RO:(uJ.take (1+r8).toNat).Nodup:=RP.sublist (List.take_sublist _ _);let zE:∀x∈uJ.take (1+r8).toNat,x< -cs:=λx hx=>by
  have:=Sd x (List.mem_of_mem_take hx);omega
 let Se:(uJ.take (1+r8).toNat).length<=9:=by
  rw[cU];omega
 generalize uJ.take (1+r8).toNat=sG at *;let e9:=Ex.snoc g8 (O.lst (a9 sG));let s9:=b9 (g:=g8) (o:=O.lst (a9 sG));let I9:=I8.ex e9;let l8:=D8.lt;generalize g8++[_]=g9 at *;generalize (-g8)=t at *;exists r6 I9.mi rfl rfl ?_;exists a24 (k:=k+9) hT.tr.tq hT.DO I9.mi s9 zE H.co () ?_;let zc:((sG.map (dw cs))).length<=9:=by rw[ah];show Se
 let Ad:∀c∈sG.map (dw cs),QN c:=λc hc=>by
  let#[x,hx,rfl]:=aQ.mp hc;have:=H.gc _ (Hv (zE x hx));let gg:=this;unfold k9 at gg;simp only[Bool.and_eq_true] at gg;show#[this,LH gg.1.2,LH gg.2.1.2]
 let Cp:=λ{o:@&Nat} (R:Rw sG o) (rs:@&eJ)=>H.Cp (rs:=rs) zE R;let dQ:∀{x:Nat},x∈sG->x< -cs:=λhx=>zE _ hx;generalize sG.map (dw cs)=c2 at *;let xS:=Ex.snoc g9 (O.lst (c2.map a7.d));let IL:=b9 (g:=g9) (o:=O.lst (c2.map a7.d));let Ic:=I9.ex xS;let IF:=xS.at s9;let l9:=I9.dr.lt;generalize g9++[_]=UN at *;generalize (-g9)=e at *;exists bK9 (a6 T _) rfl rfl IF RO () λo rL R Eu=>?_;let pI:=Eu.trans (Ex.snoc rL (O.lst (a9 o)));let Cg:=b9 (g:=rL) (o:=O.lst (a9 o));let lr:d< -rL:=(Eu.draw Ic.dr).lt;let K12:mR (rL++[O.lst (a9 o)]) d (-rL) e c2 o (-rL) (a9 o):=#[pI.draw Ic.dr,pI.at IL,Cg,Cg,lr,l9,lr]
 generalize rL++[_]=Kh at *;generalize (-rL)=w at *;clear e6 s6 I6 pm hb lb D7 G7 I7 D8 G8 I8 e9 s9 I9 xS IL Ic IF Eu pI Cg I5 I3 I4 D1 G1 D4 G4 M3 e3 em D2;let O1:=Cp R;let H0:=O1 [] λi p z=>rfl;let gG:c2.all k9=true:=bK.mpr λc hc=>(Ad c hc).good;let gB:∀c∈c2,CB c:=λc hc=>#[(Ad c hc).l8,(Ad c hc).u8]
 let hv:1<=(n:Int)/\(n:Int)<=9:=by omega
 let ask:∀{g:G} {c:Nat},mR g d w e c2 o w (a9 o)->g[c]?=!.lst (l7 [])->Ask g e c c2 (n:Int) []:=λK hc=>#[K.co,zc,Ad,hv,hc,by decide,rfl]
 let nil:∀{g:G},mR g d w e c2 o w (a9 o)->mR (g++[O.lst []]) d w e c2 o w (a9 o)/\Ask (g++[O.lst []]) e (-g) c2 (n:Int) []:=λK=>#[K.ex (Ex.snoc _ _),ask (K.ex (Ex.snoc _ _)) b9]
 left;let#[QL,A13]:=nil K12;generalize Kh++[O.lst []]=g13 at *;generalize (-Kh)=c13 at *;show Zq (k:=k+2) hT.tb hT.to hT.tQ (ns:=o.map λx:Nat=>(x:Int)) A13 (by rw[ER];show QL.ro) (by rw[ah,R.len];omega) λKg vo=>?_;rw[H0.none];exists cZ rfl ?_;left;let#[K15,QU]:=nil (QL.ex vo);generalize Kg++[O.lst []]=g15 at *;generalize (-Kg)=c15 at *;show a02 (k:=k) hT QU.ha zc gG gB hv QU.hc ∅ rfl H0.many λKf Aj=>?_;left;let#[QK,A17]:=nil (K15.ex Aj);generalize Kf++[O.lst []]=g17 at *;generalize (-Kf)=c17 at *;show aG1 (k:=k+2) hT.tb hT.tf hT.tw hT.to hT.tL A17 H0 QK.ro λf Ke hf vn=>?_;exists Hb (k:=k+12) hT.h6 ?_;exists eU (au ()) ?_;left;let#[K19,QT]:=nil (QK.ex vn);generalize Ke++[O.lst []]=g19 at *;generalize (-Ke)=c19 at *;show aS4 (k:=k+2) hT.tb hT.tf hT.tw hT.tM QT.ha zc gG gB hv QT.hc ∅ rfl λKd UT=>?_;left;rw[au (show((f:Nat):Int)<((i0 (-c2) (d7 c2 (n:Int) []) 0).length:Nat) from by unfold many at hf;omega)];left;let#[K21,QS]:=nil (K19.ex UT);generalize Kd++[O.lst []]=g21 at *;generalize (-Kd)=c21 at *;show YT (k:=k+2) hT QS.ha zc gG gB (u:=n) zN QS.hc ∅ rfl H0.many λn' x y Af uU US=>?_;let vX:=K21.ex US;exists cZ (aD ()) ?_;exists E5 (a6 T _) (lP (a6 T _) ?_);left;let qt:=Ex.snoc Af (O.lst [.str "coin",.str "lower",.str "upper"]);let QJ:mR (Af++[O.lst [.str "coin",.str "lower",.str "upper"]]) d w e c2 o (-Af) [.str "coin",.str "lower",.str "upper"]:=#[qt.draw vX.dr,qt.at vX.co,qt.at vX.ro,b9,vX.ne.1,vX.ne.2.1,vX.dr.lt]
 show#[_,_,rfl,a5 QJ.li,[.str "coin",.str "lower",.str "upper"],λi U g'=>mR g' d w e c2 o (-Af) [.str "coin",.str "lower",.str "upper"]/\∃BU qQ qP qO qN qL,U=[!.ref 0,!.ref d,!.int n,!.ref m,!.ref q,z5,z6,!.ref t,!.ref e,!.ref w,!.int (f:Nat),BU,qQ,qP,qO,qN,qL],λi U g' p=>u5 (a5 p.1.li),#[QJ,none,none,none,none,none,none,rfl],λi y U g' hy p=>?_,λU g' p=>?_]
 .let#[K,BU,qQ,qP,qO,qN,qL,rfl]:=p;obtain⟨rw,rfl⟩:∃rw:RW,y=.str rw.s:=by
   match i,hy with
   |0,hy=>cases hy;show#[.iJ,rfl]
   |1,hy=>cases hy;show#[.lower,rfl]
   |2,hy=>cases hy;show#[.upper,rfl]
   |i+3,hy=>simp at hy
  show j4 ?_;show bF1 hT K zc gG gB hv O1 λg' qQ qP qO qN qL K'=>#[K',_,_,_,_,_,_,rfl]
 .let#[K,BU,qQ,qP,qO,qN,qL,rfl]:=p
  try show wpS _ _ _ _ _ _
  left
  rfl
end
end M
namespace Lk
open PySem L2 M
abbrev top(i:Nat):Stmt:=PySem.Challenge.pw_trussel_k40_whole_hoards_have_their_orde.main.body.getD i (.Pass #[0,0,0,0])
abbrev bE1:Stmt->@&Stmt
 |.ClassDef (body:=b) ..=>b
 |_=>[]
abbrev Mn(i j:Nat):Stmt:=(bE1 (top i)).getD j (.Pass #[0,0,0,0])
abbrev F:@&RF:=[#[38,"is_number",["thing"],1,23,FW],#[1,"number_from",["number","least","most"],3,24,Z8],#[2,"good_marks",["marks","least","spot"],1,25,Q2],#[15,"within",["one","other"],2,26,AL],#[16,"both",["one","other"],2,27,HQ],#[12,"good_coin",["coin","lower","lower_marks","upper","upper_marks","year","good_lower","good_upper"],1,34,E3],#[39,"check_coin",["coin"],1,35,Gi],#[18,"check_coins",["coins","coin"],1,36,GA],#[83,"check_place",["coins","place"],2,37,U2],#[40,"check_side",["side"],1,38,Q3],#[19,"die_field",["side"],1,39,FT],#[177,"with_thing",["things","at","thing"],3,40,V8],#[74,"places_of",["coins","word","thing","field"],3,41,Z3],#[75,"check_die",["coins","side","die"],3,42,FR],#[20,"dies_of",["coins","side","field"],2,43,EZ],#[42,"check_anvils",["anvils"],1,48,A2],#[88,"good_rule",["coins","rule","word","one","other"],2,49,FV],#[89,"check_rules",["coins","rules","at","rule"],2,50,GB],#[90,"stand_of",["places"],1,51,Bc],#[91,"with_coin",["stand","place"],2,52,Z2],#[92,"more_worn",["one","other","side","field"],2,53,Qb],#[93,"later",["one","other"],2,54,GZ],#[94,"worn_stands",["coins"],1,55,Nh],#[95,"later_stands",["coins"],1,56,Nt],#[96,"die_stands",["coins"],1,57,Gk],#[97,"needed_stands",["coins","rules","needed","word","one","other","first","place"],2,58,V2],#[98,"check_asked",["coins","anvils","rules"],3,60,J8],#[99,"bounds_of",["coins","anvils","rules"],3,61,FP],#[100,"dies_in_use",["bounds","stand","place","struck","left"],3,62,Gm],#[101,"next_fault",["bounds","stand","place"],3,63,Gq],#[102,"places_fault",["many","order","at","place"],2,64,Q1],#[103,"fault_of",["bounds","order","fault","stand","at","place","word"],2,65,Fq],#[104,"order_fault",["coins","anvils","rules","order"],4,66,U0],#[115,"follows",["bounds","stand","place"],3,68,AW],#[116,"followers",["bounds","stand"],2,69,MI],#[117,"reached_stands",["bounds","led_to","told","stand","place"],1,70,M5],#[121,"ways_on",["bounds","ways","stand"],1,72,Fd],#[122,"step_on",["bounds","ways","stand","number","choices","left","at"],4,73,AJ],#[123,"numbered_order",["bounds","ways","number","order","stand","left","place"],3,74,T2],#[124,"first_order",["bounds","ways"],1,75,J7],#[126,"how_many",["coins","anvils","rules"],3,76,AX],#[128,"number_of",["coins","anvils","rules","order","bounds","ways","number","stand","place","lesser"],4,77,V9],#[129,"shown_paper",["bounds","stands"],1,79,J6],#[132,"paper_of",["coins","anvils","rules"],3,80,Fu],#[134,"fewest_of",["coins","rules","paper","count","bounds","order"],2,82,FU],#[135,"fewest",["coins","rules","told"],2,83,Fb],#[136,"check_thing",["coins","word","thing"],3,85,GC],#[137,"check_pair",["coins","word","one","other"],4,86,Gj],#[138,"why_of",["coins","anvils","rules","word","one","other","one_ahead","other_ahead","one_order","other_order"],6,87,yw],#[139,"told_of",["coins","anvils","rules","word","one","other"],6,88,Fc],#[43,"check_cut",["wear","die"],2,91,FQ],#[3,"_law_open",["_law_script"],1,94,Bt],#[4,"_law_pull",["_law_draw","_law_total_of","_law_cell","_law_got","_law_seed"],2,95,P9],#[5,"_law_far",["_law_draw","_law_number"],1,96,ug],#[36,"_law_near",["_law_draw","_law_total_of"],2,97,Bs],#[6,"_law_num",["_law_found"],1,98,vt],#[7,"_law_like",["_law_found","_law_due"],2,99,F7],#[21,"_law_order_of",["_law_draw","_law_numbers","_law_left","_law_found","_law_step"],2,100,Ba],#[45,"_law_model",["_law_anvils"],1,101,As],#[46,"_law_m_cut",["_law_m","_law_side_here"],2,102,Bp],#[178,"_law_m_fix",["_law_m","_law_die","_law_seat"],2,103,Bq],#[179,"_law_m_off",["_law_m","_law_die","_law_seat"],2,104,Br],#[181,"_law_m_mark",["_law_m","_law_side_here","_law_die","_law_spot","_law_marks"],4,105,vO],#[182,"_law_m_strike",["_law_m","_law_lower","_law_upper"],3,106,AY],#[183,"_law_m_do",["_law_m","_law_deed_here","_law_word"],2,107,ET],#[37,"_law_number_of",["_law_draw","_law_numbers"],2,108,FZ],#[29,"_law_side",["_law_draw"],1,109,Bu],#[188,"_law_deed",["_law_draw","_law_m","_law_turn","_law_on","_law_idle","_law_uppers","_law_side_here","_law_year","_law_years"],2,110,U1],#[184,"_law_mint_do",["_law_mint","_law_deed_here","_law_word"],2,111,yH],#[186,"_law_mint_try",["_law_mint","_law_deed_here"],2,112,AZ],#[191,"_law_same_end",["_law_found","_law_due"],2,113,Bb],#[163,"_law_things",["_law_coins","_law_word"],2,114,AK],#[193,"_law_truth",["_law_coins","_law_row","_law_word","_law_one","_law_other","_law_at","_law_used"],5,115,vP],#[11,"law",["_law_script","_law_draw","_law_anvils","_law_mint","_law_m","_law_turn","_law_deed_here","_law_numbers","_law_coins","_law_row","_law_found","_law_word","_law_things_here","_law_one","_law_other","_law_told","_law_due"],1,116,yS]]
abbrev Ms:@&RM:=[#[113,"Bounds","__init__","Bounds.__init__",["self","coins","anvils","rules"],4,59,0,Gz],#[51,"Mint","__init__","Mint.__init__",["self","anvils"],2,92,0,FY],#[52,"Mint","wear_of","Mint.wear_of",["self","side"],2,92,1,Z9],#[53,"Mint","put_wear","Mint.put_wear",["self","side","wear"],3,92,2,Y0],#[54,"Mint","cut","Mint.cut",["self","side","wear"],2,92,3,Fs],#[55,"Mint","fix","Mint.fix",["self","die","state","anvil"],2,92,4,Ft],#[56,"Mint","lay_off","Mint.lay_off",["self","die","anvil"],2,92,5,GD],#[57,"Mint","mark","Mint.mark",["self","side","die","spot","marks"],4,92,6,U8],#[58,"Mint","strike","Mint.strike",["self","lower","upper","coin"],3,92,7,GF],#[59,"Mint","begin_year","Mint.begin_year",["self","number"],2,92,8,T3],#[60,"Mint","anvils","Mint.anvils",["self"],1,92,9,Ng],#[61,"Mint","dies","Mint.dies",["self","side"],2,92,10,PZ],#[62,"Mint","marks","Mint.marks",["self","side","die","wear"],3,92,11,Gn],#[63,"Mint","state","Mint.state",["self","die"],2,92,12,Gp],#[64,"Mint","year","Mint.year",["self"],1,92,13,Qa],#[65,"Mint","struck","Mint.struck",["self"],1,92,14,GG],#[66,"Mint","coin","Mint.coin",["self","number"],2,92,15,FX],#[67,"Mint","hoard","Mint.hoard",["self","numbers"],2,92,16,W0]]
abbrev con:@&(Str×D):=[("LAST_SPOT",.int 7),("MOST_COINS",.int 9),("LAST_DIE",.int 99),("LAST_YEAR",.int 9999),("SIDES",.tup [(.str "lower"),(.str "upper")]),("MOST_ANVILS",.int 9),("RULE_WORDS",.tup [(.str "coin"),(.str "lower"),(.str "upper")]),("YEAR_FIELD",.int 4),("MOST_STRUCK",.int 200)]
abbrev gd:@&(Str×@&D):=[("DIE_FIELDS",[.tup [.str "lower",.int 0],.tup [.str "upper",.int 2]])]
abbrev exc:@&Str:=["BadAnvils","BadCoin","BadRule","BadSide","BadSpot","BadYear","Fixed","Full","Gone","Marked","MintError","NoAnvil","NoCoin","NoDie","NoOrder","NoPlace","NotFixed","SameOne","TooMany"]
def c0:d8:=#[[],[],true,F.map λr=>(r.nm,r.id),con,["len","enumerate","list","tuple","isinstance","all","range","int","bool","str","sorted","set","any","sum","reversed"],exc,gd,[("Bounds",113),("Mint",51)],Ms.map λr=>(r.nm,r.cl,r.id),[("size","Bounds"),("full","Bounds"),("room","Bounds"),("worn_by_place","Bounds"),("later_by_place","Bounds"),("lower_dies","Bounds"),("needed_by_place","Bounds"),("bench","Mint"),("laid_off","Mint"),("lower_wear","Mint"),("upper_wear","Mint"),("present","Mint"),("output","Mint")],true,true,true]
noncomputable abbrev T:Nat->Option aP:=vA F Ms
def tx:mP c0 F Ms top Mn:=by
 show#[rfl,rfl,by decide +kernel,by decide +kernel,by decide +kernel,by decide +kernel,?_,?_,?_,?_]
 all_goals
  repeat first
   |show BF.nil
   |show BM.nil
   |show YF.nil
   |show YM.nil
   |show YF.cons (by kernel_rfl) ?_
   |show YM.cons (by kernel_rfl) ?_
   |show BF.cons (λx x x x x x=>(by(repeat show IB λx=>?_);show IA rfl)) ?_
   |show BM.cons (λx x x x x x=>(by(repeat show IB λx=>?_);show IA rfl)) ?_
inductive vT:@&DictEntry->@&(Str×V)->Prop
 |nil:vT [] []
 |cons {h:Int} {x:Str} {t:Tok} {u:Value} {v:V} {es:@&DictEntry} {vs:@&(Str×V)} (r:RelV v u) (q:vT es vs):vT (#[h,.str x t,u]::es) ((x,v)::vs)
set_option tactic.hygienic true in
def vT.find{es vs}(x:Str)(h:vT es vs):F3 (vs.lookup x) (findBy Value.isStrOf es.toArray x):=by
 induction h with
 |nil=>trivial
 |cons r q ih =>
  rename_i h y t u v es vs;unfold findBy at ih ⊢;rw[List.find?_toArray] at ih ⊢;rw[eK,dS];by_cases e:x=y
  .rw[show(x==y)=true from by simp[e],show Value.isStrOf x (.str y t)=true from by simp[Value.isStrOf,e]];show r
  .rw[show(x==y)=false from by simpa using e,show Value.isStrOf x (.str y t)=false from by simp[Value.isStrOf];show λz=>e (z.symm)];show ih
def all_mk{l:PySem.W.OpenLaw}{w:World}{K:PySem.W.Frag}{h:Heap}{mg:Str->Option Value}{fa:Addr}{EG EF Ae:Addr}{t0 t1 t2 t3 xZ xY t5 xX xW xV t7 t8 rK rJ rH rG:Tok}{EB:Array (Option Value)}{ED:Nat}{EA:Array (Option Value)}{EC:Nat}{UI:Nat}{oS oR:Int}(X:K.In h)(G:h.Ns mainGlobals mg)(Tf:mg "law"=!.ref fa)(I:mQ K c0 F Ms top Mn)(e0:PySem.W.nsIn K mainGlobals "LAST_SPOT"=!!Value.int 7 t0)(e1:PySem.W.nsIn K mainGlobals "MOST_COINS"=!!Value.int 9 t1)(e2:PySem.W.nsIn K mainGlobals "LAST_DIE"=!!Value.int 99 t2)(e3:PySem.W.nsIn K mainGlobals "LAST_YEAR"=!!Value.int 9999 t3)(e4:PySem.W.nsIn K mainGlobals "SIDES"=!!.ref EG)(Vc:K.lookup EG=!#[.type "tuple",none,.seq (List.toArray [Value.str "lower" xZ,Value.str "upper" xY]) ED,EB])(e5:PySem.W.nsIn K mainGlobals "MOST_ANVILS"=!!Value.int 9 t5)(e6:PySem.W.nsIn K mainGlobals "RULE_WORDS"=!!.ref EF)(Vb:K.lookup EF=!#[.type "tuple",none,.seq (List.toArray [Value.str "coin" xX,Value.str "lower" xW,Value.str "upper" xV]) EC,EA])(e7:PySem.W.nsIn K mainGlobals "YEAR_FIELD"=!!Value.int 4 t7)(e8:PySem.W.nsIn K mainGlobals "MOST_STRUCK"=!!Value.int 200 t8)(g0:PySem.W.nsIn K mainGlobals "DIE_FIELDS"=!!.ref Ae)(UK:K.lookup Ae=!#[.type "dict",none,.dict (List.toArray [#[oS,Value.str "lower" rK,Value.int 0 rJ],#[oR,Value.str "upper" rH,Value.int 2 rG]]) UI,(List.toArray [])])(sD:oS=PyData.keyHash w.params "lower")(sC:oR=PyData.keyHash w.params "upper")(UH:(Ae==sysModules)=false)
  : ∃fd:FuncData,(∀(s:Shared) (v:Value),BindsTo s fd #[[v],[]] [("_law_script",v)])/\∀base:Heap,K.In base->base.Ns mainGlobals mg->iq l.prog w K mg base (iB l.prog w) 80 fa fd ["_law_script"] (qW exc K 1 (a8 T 40 11)):=by
 let A:oY w K mg c0 T:=by
  show bG8 I tx X G (λx d hx=>?_) (λx kvs hx=>?_)
  .let hm:=aS hx;simp only[c0,con,List.mem_cons,List.mem_nil_iff,or_false] at hm;rcases hm with z|z|z|z|z|z|z|z|z
   .cases z;show#[(.int 7),_,bS X G e0,#[_,rfl],λy y=>.int _]
   .cases z;show#[(.int 9),_,bS X G e1,#[_,rfl],λy y=>.int _]
   .cases z;show#[(.int 99),_,bS X G e2,#[_,rfl],λy y=>.int _]
   .cases z;show#[(.int 9999),_,bS X G e3,#[_,rfl],λy y=>.int _]
   .cases z;show#[.ref EG,_,bS X G e4,rfl,λy y=>.tup (vs:=[.str "lower",.str "upper"]) (.inr #[_,_,_,Vc,rfl,rfl,rfl,(by change 2<=sizeLine;decide),.cons #[_,rfl] (.cons #[_,rfl] (.nil))]) (.cons (.str _) (.cons (.str _) (.nil)))]
   .cases z;show#[(.int 9),_,bS X G e5,#[_,rfl],λy y=>.int _]
   .cases z;show#[.ref EF,_,bS X G e6,rfl,λy y=>.tup (vs:=[.str "coin",.str "lower",.str "upper"]) (.inr #[_,_,_,Vb,rfl,rfl,rfl,(by change 3<=sizeLine;decide),.cons #[_,rfl] (.cons #[_,rfl] (.cons #[_,rfl] (.nil)))]) (.cons (.str _) (.cons (.str _) (.cons (.str _) (.nil))))]
   .cases z;show#[(.int 4),_,bS X G e7,#[_,rfl],λy y=>.int _]
   .cases z;show#[(.int 200),_,bS X G e8,#[_,rfl],λy y=>.int _]
  .let hm:=aS hx;simp only[c0,gd,List.mem_cons,List.mem_nil_iff,or_false] at hm;let z:=hm
   .cases z;let er:vT [#[oS,Value.str "lower" rK,Value.int 0 rJ],#[oR,Value.str "upper" rH,Value.int 2 rG]] [("lower",.int 0),("upper",.int 2)]:=.cons (v:=.int 0) #[_,rfl] (.cons (v:=.int 2) #[_,rfl] (.nil));show#[Ae,_,bS X G g0,#[_,_,UK,#[#[_,_,rfl,sD],#[#[_,_,rfl,sC],True.intro]],UH,λx=>er.find x],.cons (λy y=>.int _) (.cons (λy y=>.int _) (.nil))]
 let#[f,fd,O,a,t]:=Oj I tx _ (aC (i:=73) rfl);cases Tf.symm.trans (bS X G a);let#[oc,od,kV,doc,pm,an,gi,ct,nJ,rfl,lk,nh]:=O.fn.ex;show#[_,λs v=>.of_eq rfl,λbase ow xJ=>bU2 ow xJ A 40 11 _ _ fa _ rfl O]
def walk{l:PySem.W.OpenLaw}{q:Program}{loose:@&Str}{XP:(Str->Option Value)->Heap->Prop}{YP:World->Heap->Prop}{d:DefRec}{K:Params->PySem.W.Frag}(hn:l.most=!63)(xA:d.params.defaults=[])(hY:∀(w:World) (h:Heap),YP w h->(K w.params).In h)(F:∀ (w:World) (mg:Str->Option Value) (fa:Addr) (h:Heap),(K w.params).In h->h.Ns mainGlobals mg->mg d.name=!.ref fa ->
   ∃ fd:FuncData,(∀ (s:Shared) (u:Value),BindsTo s fd #[[u],[]] [("_law_script",u)])/\∀ base:Heap,(K w.params).In base->base.Ns mainGlobals mg->iq l.prog w (K w.params) mg base (iB l.prog w) 80 fa fd ["_law_script"] (qW exc (K w.params) 1 (a8 T 40 11))) :
  PySem.W.WalkO q loose XP YP l.row.toRowW d [] (λf vs=>PySem.call f vs) :=
 L2.WH (n:=63) (k:=80) (x:="_law_script") (CX:=λw=>iB l.prog w) (sp:=λw=>qW exc (K w.params) 1 (a8 T 40 11)) hn ∅ xA #[rfl,by decide,by decide] hY F (λw H a ns hl hO hS=>bQ1 hO hS (Xi (k:=26) #[#[#[#[#[rfl,rfl],rfl,rfl,rfl,rfl,rfl,rfl,rfl,rfl,rfl,rfl,rfl,rfl,rfl,rfl],rfl,rfl,rfl,rfl,rfl,rfl,rfl],rfl,rfl,rfl,rfl,rfl,rfl],#[rfl,rfl,rfl,rfl,rfl,rfl],#[#[#[rfl,rfl],rfl,rfl,#[rfl,rfl],#[rfl,rfl],rfl,rfl,rfl,rfl,rfl,rfl,rfl,rfl,rfl,rfl,rfl,rfl,rfl,rfl,rfl,rfl],rfl,rfl,rfl],#[rfl,rfl],#[rfl,rfl],#[rfl,rfl],#[rfl,rfl],#[rfl,rfl,rfl,rfl,rfl,rfl,rfl,rfl],rfl,rfl,rfl,rfl,rfl,rfl,rfl,rfl,rfl,rfl,rfl,rfl,rfl,rfl,rfl,rfl,rfl,rfl,rfl,rfl])) (by rintro _ _ _ _ _ ⟨_,_,_,_,_,_,_,z⟩;show z)
end Lk
end _X
open _X
open PySem PySem.W PyProof.Rows
set_option maxRecDepth 100000 in
set_option maxHeartbeats 0 in
theorem PySem.Challenge.cw_trussel_k40_whole_hoards_have_their_orde_holds : PySem.Challenge.rw_trussel_k40_whole_hoards_have_their_orde.Holds := by
 w_on;o_law;k_head;(case hw=>w_witness2)
 k_fill
 refine Lk.walk (l:=PySem.Challenge.rw_trussel_k40_whole_hoards_have_their_orde) rfl rfl (fun w h Y=>PySem.W.kIn_of Y) ?F
 case F =>
  intro w mg fa h KX G hmg
  refine' Lk.all_mk KX G hmg ⟨?zz1,?zz2,?zz3,?zz4,?zz5,?zz6,?zz7⟩ ?_ ?_ ?_ ?_ ?_ ?_ ?_ ?_ ?_ ?_ ?_ ?_ ?_ ?_ ?_ ?_
  (case zz1=>repeat' first | (with_reducible show _=_;k_is) | exact M.PF.nil | apply M.PF.cons)
  (case zz2=>repeat' first | (with_reducible show _=_;k_is) | exact M.PM.nil | apply M.PM.cons)
  (case zz3=>repeat' first | (with_reducible show _=_;k_is) | exact M.PC.nil | apply M.PC.cons)
  (case zz4=>repeat' first | (with_reducible show _=_;k_is) | exact M.PA.nil | apply M.PA.cons)
  (case zz5=>repeat' first | (with_reducible show _=_;k_is) | exact M.PB.nil | apply M.PB.cons)
  (case zz6=>repeat' first | (with_reducible show _=_;first | (with_reducible show PySem.W.excIn _ _ _ _=true;k_exc) | k_is) | exact M.PX.nil | apply M.PX.cons)
  (case zz7=>kernel_rfl)
  all_goals try (with_reducible show _=_;k_is)
  all_goals try ((with_reducible show _=_);rfl)
#print axioms PySem.Challenge.cw_trussel_k40_whole_hoards_have_their_orde_holds
