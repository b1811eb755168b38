import PyProof.Rows.All
import Wide.All
import OpenK.AllK
import Wide.FinOn
import Lean
import PyProof.EqAt
import PyProof.EqKinds
import PyProof.TupleCall
import PySem.Challenge.RW_trussel_k51_whole_texts_there_and_back
set_option Elab.async false
set_option linter.all false
set_option maxRecDepth 100000
set_option maxHeartbeats 4000000
set_option genInjectivity false
set_option bootstrap.genMatcherCode false
set_option genSizeOf false
set_option compiler.extract_closed false
set_option compiler.reuse false
local macro_rules|`(def $i:declId $s:optDeclSig $v:declVal)=>`(noncomputable def $i:declId $s:optDeclSig $v:declVal)
open Lean in
local macro_rules|`(universe $i)=>do
 let t<-`(theorem x:True:=⟨⟩)
 let f:=fun (n:Name)=>t.raw.setArg 1 ((t.raw.getArg 1).setArg 1 ((t.raw[1][1]).setArg 0 (mkIdent (.mkStr `PySem.W.Fast s!"tw{Name.hash n}"))))
 return mkNullNode (((`PySem.Challenge.rw_trussel_k51_whole_texts_there_and_back::`PySem.Challenge.pw_trussel_k51_whole_texts_there_and_back::[("o",List.range 879),("env",[41]),("heap",[39,46,879]),("sts",[49,64,79,94,109,124,139,154,169,184,199,214,229,244,259,274,318,348,575,605,682,771,858]),("tree",[47,63,78,93,108,123,138,153,168,183,198,213,228,243,258,273,317,347,487,571,602,681,770,857,878]),("view",[39])].flatMap fun (x,l)=>l.map fun i=>.mkStr `PySem.Challenge.cw_trussel_k51_whole_texts_there_and_back_holds s!"{x}_{i}").map f).toArray)
universe x
namespace _X
set_option tactic.hygienic false
local macro_rules|`(#[$xs,*])=>`(⟨$xs,*⟩)
local macro_rules|`(_/$x)=>`(by simpa using $x)
local macro_rules|`(tactic|show $t)=>`(tactic|refine $t)
open Lean in
@[reducible]def pw_:Nat->Term->MacroM (TSyntax `rcasesPat)
 |0,_=>Macro.throwUnsupported
 |n+1,t=>do match t with
  |`(#[$xs,*])=>do let ys<-xs.getElems.mapM (pw_ n);`(rcasesPat|⟨$[$ys:rcasesPat],*⟩)
  |`(⟨$xs,*⟩)=>do let ys<-xs.getElems.mapM (pw_ n);`(rcasesPat|⟨$[$ys:rcasesPat],*⟩)
  |`(_)=>`(rcasesPat|_)
  |`($i:ident)=>`(rcasesPat|$i:ident)
  |_=>Macro.throwUnsupported
open Lean in
@[reducible]def ex_(e:Term)(xs:Array (TSyntax `rcasesPat))(t:TSyntax `tactic):MacroM (TSyntax `tactic):=do
 let n:=xs.size
 let mut t:=t
 if n>1&&n<13 then
  let r<-xs.mapM fun p=>`(rintroPat|$p:rcasesPat)
  let c:TSyntax `tactic<-if e.raw.isIdent then`(tactic|try clear $(⟨e.raw⟩):ident)else`(tactic|skip)
  for i in[0:n]do
   let k:=n-1-i
   let f:=mkIdent (.mkSimple s!"E{k}_{n-k}")
   t<-`(tactic|first|(refine $f ($e :) ?_;$c;rintro $r*)|($t:tactic))
 return t
local macro_rules|`(tactic|let $p:term:=$e)=>do
 let q<-pw_ 9 p
 let x:Array Lean.Term:=match p with|`(#[$xs,*])=>xs.getElems|_=>.empty
 ex_ e (<-x.mapM (pw_ 9)) (<-`(tactic|obtain $q:rcasesPat:=$e))
open Lean in
local macro_rules|`(tactic|rintro $ps*)=>do
 let mut o:Array (TSyntax `tactic):=.empty
 let mut c:=false
 for p in ps do
  let mut d:TSyntax `tactic<-`(tactic|rintro $p)
  let mut q:=p.raw
  -- (p) is p
  for _ in [0:9] do
   if q.isOfKind ``Parser.Tactic.rintroPat.one then q:=q[0]
   if q.isOfKind ``Parser.Tactic.rcasesPat.paren&&q[1][1].isNone&&q[1][0][0].getNumArgs==1 then q:=q[1][0][0][0]
  if q.isOfKind ``Parser.Tactic.rcasesPat.tuple then
   let xs:Array Syntax:=q[1].getSepArgs
   if xs.size>1 then
    c:=true
    let ys<-xs.mapM fun x=>`(rcasesPat|($(⟨x⟩):rcasesPatLo))
    let z<-`(z)
    d<-`(tactic|(intro $z:term;$(<-ex_ z ys (<-`(tactic|obtain $(⟨q⟩):rcasesPat:=$z))):tactic))
  o:=o.push d
 if !c then Macro.throwUnsupported
 `(tactic|($[$o:tactic];*))
local macro_rules|`(#[])=>`(by decide +kernel)
local macro_rules|`(#[_])=>`(by simp)
local macro_rules|`(-$x:ident)=>`(($x).length)
local macro_rules|`(!$x)=>`(some $x)
local macro_rules|`(~~~$x)=>`(not $x)
open Lean in
local macro_rules|`(tactic|let $d:letDecl)=>if d.raw[0].isOfKind ``Parser.Term.letIdDecl then`(tactic|have $d:letDecl)else Macro.throwUnsupported
local macro_rules|`(@&$x)=>`(List $x)
local macro_rules|`($s⁻¹)=>`(($s).heap.objs.size)
local macro_rules|`(tactic|exists $t:term)=>`(tactic|(walk_at"";refine $t))
local macro_rules|`(abbrev $i:declId $s:optDeclSig $v:declVal)=>`(noncomputable def $i:declId $s:optDeclSig $v:declVal)
local macro_rules|`(def $i:declId $[$b:bracketedBinder]* :$t $v:declVal)=>if t.raw.isOfKind `Lean.Parser.Term.prop||[`TE,`TT,`TS,`TG,`oG,`It,`TI,`R2,`TA,`St,`TO,`Bool,`Cx,`DR,`S,`d5,`qc,`aW,`O,`bW,`Rs,`D,`Str].contains t.raw.getId then`(noncomputable def $i:declId $[$b:bracketedBinder]* :$t $v:declVal)else`(theorem $i:declId $[$b:bracketedBinder]* :$t $v:declVal)
section
variable{A0:Sort _}{p q r s t u:Prop}{G:Prop}
def E0_2(h:p/\q)(k:p->q->G):G:=k h.1 h.2
def E0_3(h:p/\q/\r)(k:p->q->r->G):G:=k h.1 h.2.1 h.2.2
def E0_4(h:p/\q/\r/\s)(k:p->q->r->s->G):G:=k h.1 h.2.1 h.2.2.1 h.2.2.2
def E0_5(h:p/\q/\r/\s/\t)(k:p->q->r->s->t->G):G:=k h.1 h.2.1 h.2.2.1 h.2.2.2.1 h.2.2.2.2
def E0_6(h:p/\q/\r/\s/\t/\u)(k:p->q->r->s->t->u->G):G:=k h.1 h.2.1 h.2.2.1 h.2.2.2.1 h.2.2.2.2.1 h.2.2.2.2.2
end
section
variable{A0:Sort _}{p q r s t:A0->Prop}{G:Prop}
def E1_1(h:∃x,p x)(k:∀x,p x->G):G:=h.elim λx h=>k x h
def E1_2(h:∃x,p x/\q x)(k:∀x,p x->q x->G):G:=h.elim λx h=>k x h.1 h.2
def E1_3(h:∃x,p x/\q x/\r x)(k:∀x,p x->q x->r x->G):G:=h.elim λx h=>k x h.1 h.2.1 h.2.2
def E1_4(h:∃x,p x/\q x/\r x/\s x)(k:∀x,p x->q x->r x->s x->G):G:=h.elim λx h=>k x h.1 h.2.1 h.2.2.1 h.2.2.2
def E1_5(h:∃x,p x/\q x/\r x/\s x/\t x)(k:∀x,p x->q x->r x->s x->t x->G):G:=h.elim λx h=>k x h.1 h.2.1 h.2.2.1 h.2.2.2.1 h.2.2.2.2
end
section
variable{A0 A1:Sort _}{p q r s t u:A0->A1->Prop}{G:Prop}
def E2_1(h:∃x y,p x y)(k:∀x y,p x y->G):G:=h.elim λx h=>h.elim λy h=>k x y h
def E2_2(h:∃x y,p x y/\q x y)(k:∀x y,p x y->q x y->G):G:=h.elim λx h=>h.elim λy h=>k x y h.1 h.2
def E2_3(h:∃x y,p x y/\q x y/\r x y)(k:∀x y,p x y->q x y->r x y->G):G:=h.elim λx h=>h.elim λy h=>k x y h.1 h.2.1 h.2.2
def E2_4(h:∃x y,p x y/\q x y/\r x y/\s x y)(k:∀x y,p x y->q x y->r x y->s x y->G):G:=h.elim λx h=>h.elim λy h=>k x y h.1 h.2.1 h.2.2.1 h.2.2.2
def E2_5(h:∃x y,p x y/\q x y/\r x y/\s x y/\t x y)(k:∀x y,p x y->q x y->r x y->s x y->t x y->G):G:=h.elim λx h=>h.elim λy h=>k x y h.1 h.2.1 h.2.2.1 h.2.2.2.1 h.2.2.2.2
def E2_6(h:∃x y,p x y/\q x y/\r x y/\s x y/\t x y/\u x y)(k:∀x y,p x y->q x y->r x y->s x y->t x y->u x y->G):G:=h.elim λx h=>h.elim λy h=>k x y h.1 h.2.1 h.2.2.1 h.2.2.2.1 h.2.2.2.2.1 h.2.2.2.2.2
end
section
variable{A0 A1 A2:Sort _}{p q r s t u v:A0->A1->A2->Prop}{G:Prop}
def E3_1(h:∃x y z,p x y z)(k:∀x y z,p x y z->G):G:=h.elim λx h=>h.elim λy h=>h.elim λz h=>k x y z h
def E3_2(h:∃x y z,p x y z/\q x y z)(k:∀x y z,p x y z->q x y z->G):G:=h.elim λx h=>h.elim λy h=>h.elim λz h=>k x y z h.1 h.2
def E3_3(h:∃x y z,p x y z/\q x y z/\r x y z)(k:∀x y z,p x y z->q x y z->r x y z->G):G:=h.elim λx h=>h.elim λy h=>h.elim λz h=>k x y z h.1 h.2.1 h.2.2
def E3_4(h:∃x y z,p x y z/\q x y z/\r x y z/\s x y z)(k:∀x y z,p x y z->q x y z->r x y z->s x y z->G):G:=h.elim λx h=>h.elim λy h=>h.elim λz h=>k x y z h.1 h.2.1 h.2.2.1 h.2.2.2
def E3_5(h:∃x y z,p x y z/\q x y z/\r x y z/\s x y z/\t x y z)(k:∀x y z,p x y z->q x y z->r x y z->s x y z->t x y z->G):G:=h.elim λx h=>h.elim λy h=>h.elim λz h=>k x y z h.1 h.2.1 h.2.2.1 h.2.2.2.1 h.2.2.2.2
def E3_6(h:∃x y z,p x y z/\q x y z/\r x y z/\s x y z/\t x y z/\u x y z)(k:∀x y z,p x y z->q x y z->r x y z->s x y z->t x y z->u x y z->G):G:=h.elim λx h=>h.elim λy h=>h.elim λz h=>k x y z h.1 h.2.1 h.2.2.1 h.2.2.2.1 h.2.2.2.2.1 h.2.2.2.2.2
def E3_7(h:∃x y z,p x y z/\q x y z/\r x y z/\s x y z/\t x y z/\u x y z/\v x y z)(k:∀x y z,p x y z->q x y z->r x y z->s x y z->t x y z->u x y z->v x y z->G):G:=h.elim λx h=>h.elim λy h=>h.elim λz h=>k x y z h.1 h.2.1 h.2.2.1 h.2.2.2.1 h.2.2.2.2.1 h.2.2.2.2.2.1 h.2.2.2.2.2.2
end
section
variable{A0 A1 A2 A3:Sort _}{p q r s t u v:A0->A1->A2->A3->Prop}{G:Prop}
def E4_2(h:∃x y z w,p x y z w/\q x y z w)(k:∀x y z w,p x y z w->q x y z w->G):G:=h.elim λx h=>h.elim λy h=>h.elim λz h=>h.elim λw h=>k x y z w h.1 h.2
def E4_3(h:∃x y z w,p x y z w/\q x y z w/\r x y z w)(k:∀x y z w,p x y z w->q x y z w->r x y z w->G):G:=h.elim λx h=>h.elim λy h=>h.elim λz h=>h.elim λw h=>k x y z w h.1 h.2.1 h.2.2
def E4_4(h:∃x y z w,p x y z w/\q x y z w/\r x y z w/\s x y z w)(k:∀x y z w,p x y z w->q x y z w->r x y z w->s x y z w->G):G:=h.elim λx h=>h.elim λy h=>h.elim λz h=>h.elim λw h=>k x y z w h.1 h.2.1 h.2.2.1 h.2.2.2
def E4_5(h:∃x y z w,p x y z w/\q x y z w/\r x y z w/\s x y z w/\t x y z w)(k:∀x y z w,p x y z w->q x y z w->r x y z w->s x y z w->t x y z w->G):G:=h.elim λx h=>h.elim λy h=>h.elim λz h=>h.elim λw h=>k x y z w h.1 h.2.1 h.2.2.1 h.2.2.2.1 h.2.2.2.2
def E4_6(h:∃x y z w,p x y z w/\q x y z w/\r x y z w/\s x y z w/\t x y z w/\u x y z w)(k:∀x y z w,p x y z w->q x y z w->r x y z w->s x y z w->t x y z w->u x y z w->G):G:=h.elim λx h=>h.elim λy h=>h.elim λz h=>h.elim λw h=>k x y z w h.1 h.2.1 h.2.2.1 h.2.2.2.1 h.2.2.2.2.1 h.2.2.2.2.2
def E4_7(h:∃x y z w,p x y z w/\q x y z w/\r x y z w/\s x y z w/\t x y z w/\u x y z w/\v x y z w)(k:∀x y z w,p x y z w->q x y z w->r x y z w->s x y z w->t x y z w->u x y z w->v x y z w->G):G:=h.elim λx h=>h.elim λy h=>h.elim λz h=>h.elim λw h=>k x y z w h.1 h.2.1 h.2.2.1 h.2.2.2.1 h.2.2.2.2.1 h.2.2.2.2.2.1 h.2.2.2.2.2.2
end
section
variable{A0 A1 A2 A3 A4:Sort _}{p q r s t u v:A0->A1->A2->A3->A4->Prop}{G:Prop}
def E5_2(h:∃x y z w i,p x y z w i/\q x y z w i)(k:∀x y z w i,p x y z w i->q x y z w i->G):G:=h.elim λx h=>h.elim λy h=>h.elim λz h=>h.elim λw h=>h.elim λi h=>k x y z w i h.1 h.2
def E5_3(h:∃x y z w i,p x y z w i/\q x y z w i/\r x y z w i)(k:∀x y z w i,p x y z w i->q x y z w i->r x y z w i->G):G:=h.elim λx h=>h.elim λy h=>h.elim λz h=>h.elim λw h=>h.elim λi h=>k x y z w i h.1 h.2.1 h.2.2
def E5_4(h:∃x y z w i,p x y z w i/\q x y z w i/\r x y z w i/\s x y z w i)(k:∀x y z w i,p x y z w i->q x y z w i->r x y z w i->s x y z w i->G):G:=h.elim λx h=>h.elim λy h=>h.elim λz h=>h.elim λw h=>h.elim λi h=>k x y z w i h.1 h.2.1 h.2.2.1 h.2.2.2
def E5_6(h:∃x y z w i,p x y z w i/\q x y z w i/\r x y z w i/\s x y z w i/\t x y z w i/\u x y z w i)(k:∀x y z w i,p x y z w i->q x y z w i->r x y z w i->s x y z w i->t x y z w i->u x y z w i->G):G:=h.elim λx h=>h.elim λy h=>h.elim λz h=>h.elim λw h=>h.elim λi h=>k x y z w i h.1 h.2.1 h.2.2.1 h.2.2.2.1 h.2.2.2.2.1 h.2.2.2.2.2
def E5_7(h:∃x y z w i,p x y z w i/\q x y z w i/\r x y z w i/\s x y z w i/\t x y z w i/\u x y z w i/\v x y z w i)(k:∀x y z w i,p x y z w i->q x y z w i->r x y z w i->s x y z w i->t x y z w i->u x y z w i->v x y z w i->G):G:=h.elim λx h=>h.elim λy h=>h.elim λz h=>h.elim λw h=>h.elim λi h=>k x y z w i h.1 h.2.1 h.2.2.1 h.2.2.2.1 h.2.2.2.2.1 h.2.2.2.2.2.1 h.2.2.2.2.2.2
end
local macro_rules|`(tactic|left)=>`(tactic|walk_at"")
local macro_rules|`(())=>`(by omega)
local macro_rules|`(∅)=>`(by decide)
local macro_rules|`(tactic|omega)=>`(tactic|lia)
open Lean in
local macro_rules|`(universe $n $a*)=>do
 let mut r:=Array.empty
 for k in[0:a.size/2]do r:=r.push (<-`(noncomputable def $(a[2*k]!):ident:=@$(mkIdent (n.getId++a[2*k+1]!.getId))))
 return mkNullNode r
universe PySem AW intKind_is AX entryFor_alias AY Str.cps_append Bb Calls.Name_function_global Gg wpAny_binaryOp_repeat_ref Gh W.hideAll_get Ov wpAny_onRaise Ow wpAny_comprehension_free Ox W.of_hideAll Oy W.kitx_tuple aL mem_of_lookup aR Heap.get?_update_self aS Heap.SameBut.update aT wpAny_setState_of aY wpAny_holding aZ Obj.data_mapFields aa wpAny_bind ah Heap.get?_push_of_some ai wpAny_pure ao Heap.lt_size au Heap.get?_push_size bJ wpAny_newObj_type bN W.mg_of bO W.kia_one bR wpAny_callSpecial?_slot bX wpAny_mono bu wpAny_call_entry bx wpAny_field bz Heap.get?_update_other cC wpAny_truthy_bool cD wpAny_setField cE call_meets cJ wpAny_isInstance cK wpAny_Call_Name_kw cM wpAny_of_eq cO Heap.size_push cY wpAny_seqItems cZ F.slot_tuple_iterator_next cg Obj.isFreed_of_fields dC wpAny_typeOf dD wpAny_pyIter_list dH wpAny_rule dJ W.cellsFrom_some dz codeAny_builtin eE wpAny_storeSet_of eF fits_of_scanBound eW F.slot_list_getattribute eY wpAny_setField_rec fS wpAny_attempt fT plainId_quiet fZ Calls.evalArgs_plain fe F.slot_zip_next fm isSubtype_type fo codeAny_mono fu Calls.callWith_builtin gO F.args_tuple_add_2 gX tupleKind_room_in1 gZ F.plainAttrs_list gx wpAny_passesOwn hJ F.entry_tuple_add iF Obj.cls_mapFields iJ Heap.SameBut.refl iL wpAny_standAt iZ noFill_tuple_add iq F.slot_tuple_add jK F.slot_int_rmul jQ W.callWith_K jR F.args_tuple_iterator_next_1 jw W.plainGet_of jx W.callWith_K0 kA F.entry_tuple_iterator_next mM wpAny_pyIter_tuple mO typeIs_str mP typeIs_int mQ Walks.list mV F.args_tuple_add_2 mW F.args_str_split_2 mr strLen_append mw seq_tuple_add mx Paired.length oO F.entry_tuple_add oP F.entry_str_split qR wpAny_askSetting qU F.slot_tuple_add qV F.slot_str_split tB sizeLine_eq tD F.args_zip_next_1 tw wpAny_throw vb wpAny_execs_nil vc F.plainAttrs_str vd F.entry_zip_next yH ofString_length yI W.methodCall_KW
universe List AZ getElem_toArray Ba getElem?_of_mem Gi toList_toArray Gj getElem?_range OA map_filterMap OB Nodup.sublist Oz pairwise_cons aA getElem?_append_left aE mem_cons aG getElem?_map aH getElem?_set_ne aK size_toArray aP mem_map aQ mem_of_getElem? aU getElem?_set_self aj length_map aq getElem?_eq_getElem ay map_append az getElem?_eq_some_iff bK mem_cons_of_mem bQ map_cons bU mem_append_right bY set_set ba length_append bh mem_append cA mem_filter cG length_take cH length_cons cR all_eq_true cS perm_ext_iff_of_nodup cT getElem?_append_right cW getElem?_eq_none_iff cc mem_singleton dA replicate_succ dB filterMap_cons dE lookup_cons dF getElem?_replicate dG filter_cons dW take_succ dX mem_iff_getElem da nodup_append eA take_length eB getElem_mem eL any_cons fG nodup_cons fH foldl_cons fI append_nil fW mem_range fX mem_filterMap ff length_filter_le fg getElem?_eq_none fq mem_append_left ft eq_nil_of_length_eq_zero gA drop_eq_getElem_cons gF reverse_cons gG append_assoc gy mem_or_eq_of_mem_set hW cons_append hZ any_eq_true iG find?_cons iN take_append_drop iO eq_nil_or_concat iP concat_eq_append ir take_of_length_le iu pairwise_lt_range jJ all_cons jT mem_cons_self jU filter_append jb replicate_succ' jc Perm.refl jz filter_sublist kB findIdx?_eq_some_iff_getElem kH map_map kI length_range kJ getElem?_set kK flatten_replicate_singleton kW eraseIdx_eq_take_drop_succ mS of_mem_zip mT length_zip mU length_set oK mapM_cons oN length_eraseIdx_of_lt qS eq_of_mem_replicate qT cons.inj vg range_succ_eq_map vh drop_eq_nil_of_le yL length_replicate
universe Int Gk toNat_of_nonneg cq toNat_natCast fY emod_lt_of_pos iH emod_nonneg tF eq_ofNat_of_zero_le
universe Array OC append_assoc bS length_toList cX getElem?_eq_getElem fh getElem_eq_getD gg getElem?_eq_some_iff iQ getElem?_toList iW getElem?_setIfInBounds_self_of_lt jA toList_append nY getD_eq_getD_getElem? vi getElem?_eq_none
universe _root_ aB decide_eq_true aM decide_eq_false_iff_not aN decide_eq_false av if_pos aw if_neg bC of_decide_eq_true bj decide_eq_true_iff cN beq_eq_false_iff_ne fV beq_iff_eq gY congrArg
universe Nat aD ne_of_lt aF le_trans ak le_refl ax lt_of_lt_of_le bD ne_of_gt bP lt_irrefl cI lt_trans cQ zero_le dZ le_of_lt gE lt_trichotomy iM eq_of_beq_eq_true jS lt_of_le_of_lt ja le_succ lI lt_succ_self oJ not_lt vf mul_comm
universe Option aJ some.inj ae map_eq_some_iff ag bind_eq_some_iff dg isSome_iff_exists kG isSome_map oI ne_none_iff_exists'
universe PyProof bI Rows.slot_tuple_getitem cj Rows.callWith_type1 jy Rows.F.entry_set_update_loop mR Rows.boot_isinstance qd Rows.Fr.set tE Rows.boot_tuple ve Rows.boot_list yJ Rows.boot_str yK Rows.boot_int
universe Bool bo false_ne_true br and_eq_true cB eq_iff_iff dQ and_eq_false_iff fJ or_eq_true gf not_eq_false' jd or_eq_false_iff kL not_eq_true' qW false_or
def bq:=@Ne.symm
def cu:=@Classical.not_and_iff_not_or_not
namespace L2
open PySem PySem.Spec PyProof.Rows
variable{xs vs:@&V}{us:@&Value}{H H':Hp}{a b f C dx:Addr}{o:HO}{u:Value}{P:Program}{w:World}{h h' base:Heap}{α:Type}{x m:Str}{e c tg:Expr}{X:Cx}{pi:@&(Addr×Obj)}{σ:St}{s:Shared}{t' i k:Nat}{ch fp:@&Addr}{N ps:@&Str}{M:Model}{A:Around}{E Q:Value->Shared->Prop}{v:V}{t:TA}{ta tb te:TE}{pos pos' p:Pos}{K:PySem.W.Frag}{es:@&Expr}{op:CmpOp}{r:R2}{fd:FuncData}{CX:nX}{sp:Sp}
noncomputable abbrev Key:=Sum Int Str
abbrev Y4:Key->Value->Bool
 |.inl k,v=>Value.isInt k v
 |.inr x,v=>Value.isStrOf x v
abbrev b42(w:World):Key->Int
 |.inl k=>hashInt k
 |.inr x=>hashStr w x
def p8:∀{k:Key} {v:Value},Y4 k v=true->(∃i t,k=Sum.inl i/\v=Value.int i t)\/(∃x t,k=Sum.inr x/\v=Value.str x t)
 |.inl i,v,h=>by
  let#[t,e]:=Value.isInt_shape h;show .inl #[i,t,rfl,e]
 |.inr x,v,h=>by
  let#[t,e]:=Value.isStrOf_shape h;show .inr #[x,t,rfl,e]
def a68(i:Int)(t:Tok):Y4 (.inl i) (.int i t)=true:=by simp[Y4,Value.isInt]
def a67(x:Str)(t:Tok):Y4 (.inr x) (.str x t)=true:=by simp[Y4,Value.isStrOf]
def Yn(a b:Int):decide ((Sum.inl a:Key)=Sum.inl b)=(a==b):=by
 by_cases e:a=b
 .subst e;simp
 .let h:¬(Sum.inl a:Key)=Sum.inl b:=λq=>e (Sum.inl.inj q);rw[aN h];show(cN.mpr e).symm
def Yq(a b:Str):decide ((Sum.inr a:Key)=Sum.inr b)=decide (a=b):=by
 simp
def Yo(a:Int)(b:Str):decide ((Sum.inl a:Key)=Sum.inr b)=false:=aN (λq=>nomatch q)
def Yp(a:Str)(b:Int):decide ((Sum.inr a:Key)=Sum.inl b)=false:=aN (λq=>nomatch q)
abbrev j3(prog:Program)(w:World):PySem.KeyKind prog w Key where
 is:=Y4
 hash:=b42 w
 inj:=λv a b ha hb=>by
  rcases p8 ha with⟨i,t,rfl,rfl⟩|⟨x,t,rfl,rfl⟩
  .rcases p8 hb with⟨j,u,rfl,e⟩|⟨y,u,rfl,e⟩
   .injection e with e1 _;rw[e1]
   .exact nomatch e
  .rcases p8 hb with⟨j,u,rfl,e⟩|⟨y,u,rfl,e⟩
   .exact nomatch e
   .injection e with e1 _;rw[e1]
 byValue:=λk v h=>by
  rcases p8 h with⟨i,t,rfl,rfl⟩|⟨x,t,rfl,rfl⟩<;>rfl
 pyHash:=λhv h=>by
  rcases p8 hv with⟨i,t,rfl,rfl⟩|⟨x,t,rfl,rfl⟩
  .exact wpAny_pyHash_int h
  .exact wpAny_pyHash_str h
 eqBool:=λhu hv h=>by
  rcases p8 hu with⟨i,t,rfl,rfl⟩|⟨x,t,rfl,rfl⟩
  .rcases p8 hv with⟨j,u,rfl,rfl⟩|⟨y,u,rfl,rfl⟩
   .rw[Yn] at h;show wpAny_eqBool_int h
   .rw[Yo] at h;show SeqAt.EqAt.int_str i t y u _ _ _ _ h
  .rcases p8 hv with⟨j,u,rfl,rfl⟩|⟨y,u,rfl,rfl⟩
   .rw[Yp] at h;show SeqAt.EqAt.str_int x t j u _ _ _ _ h
   .rw[Yq] at h;show wpAny_eqBool_str h
 «strs»:=λk x t v h=>by
  rcases p8 h with⟨i,u,rfl,e⟩|⟨y,u,rfl,e⟩
  .exact nomatch e
  .injection e with e1 _;subst e1;cases v<;>rfl
def aU8(prog:Program)(w:World)(k:Key)(v:Value):(j3 prog w).is k v=Y4 k v:=rfl
def Y9(prog:Program)(w:World)(i:Int)(t:Tok):(j3 prog w).is (.inl i) (.int i t)=true:=a68 i t
def aL0(prog:Program)(w:World)(x:Str)(t:Tok):(j3 prog w).is (.inr x) (.str x t)=true:=a67 x t
set_option genInjectivity true in
inductive V where
 |aO|bl (b:Bool)|int (i:Int)|str (x:Str)|lE (b:Array UInt8)|sD (b:UInt64)|ref (a:Addr)|ty (n:String)
 deriving DecidableEq
abbrev RelV:V->Value->Prop
 |.aO,u=>u=Value.none
 |.bl b,u=>u=Value.bool b
 |.int i,u=>∃t,u=Value.int i t
 |.str x,u=>∃t,u=Value.str x t
 |.lE b,u=>∃t,u=Value.bytes b t
 |.sD b,u=>∃t,u=Value.float b t
 |.ref a,u=>u=Value.ref a
 |.ty n,u=>u=Value.type n
noncomputable abbrev Vals:@&V->@&Value->Prop:=Paired RelV
def Vals.length{xs:@&V}{us:@&Value}(r:Vals xs us):-xs=-us:=mx r
def Vals.get:∀{xs:@&V} {us:@&Value} {i:Nat} {x:V},Vals xs us->xs[i]?=!x->∃u,us[i]?=!u/\RelV x u
 |_,_,_,_,.nil,e=>by simp at e
 |_,_,0,_,.cons r _,e=>by simp at e;subst e;show#[_,rfl,r]
 |_,_,i+1,x,.cons _ t,e=>by
  let#[u,h1,h2]:=Vals.get t (_/e);show#[u,by simpa using h1,h2]
def Vals.set{x:V}{u:Value}(r:RelV x u):∀{xs:@&V} {us:@&Value} (i:Nat),Vals xs us->Vals (xs.set i x) (us.set i u)
 |_,_,_,.nil=>.nil
 |_,_,0,.cons _ t=>.cons r t
 |_,_,i+1,.cons q t=>.cons q (Vals.set r i t)
def Vals.append{ys:@&V}{ws:@&Value}(h:Vals xs us)(s:Vals ys ws):Vals (xs++ys) (us++ws):=by
 induction h with
 |nil=>show s
 |cons r t ih=>show .cons r ih
def Vals.take:∀{xs:@&V} {us:@&Value} (n:Nat),Vals xs us->Vals (xs.take n) (us.take n)
 |_,_,0,_=>.nil
 |_,_,_+1,.nil=>.nil
 |_,_,n+1,.cons r t=>.cons r (Vals.take n t)
def Vals.drop:∀{xs:@&V} {us:@&Value} (n:Nat),Vals xs us->Vals (xs.drop n) (us.drop n)
 |_,_,0,r=>r
 |_,_,_+1,.nil=>.nil
 |_,_,n+1,.cons _ t=>Vals.drop n t
abbrev E0:Option V->Option Value->Prop
 |some v,!u=>RelV v u
 |none,none=>True
 |_,_=>False
abbrev KV{κ:Type}:@&(κ×V)->@&(κ×Value)->Prop:=Paired λ(p:κ×V) (q:κ×Value)=>p.1=q.1/\RelV p.2 q.2
abbrev kV:Key->V
 |.inl i=>.int i
 |.inr x=>.str x
inductive HO where
 |lst (xs:@&V)
 |tup (xs:@&V)
 |dK (kvs:@&(Key×V))|dT (kvs:@&(List Key×V))
 |set (S:Int->Bool) (n:Nat)
 |ins (C dx:Addr) (fs:@&(Str×V))
 |own (x:Addr)
 |xd (fs:@&(Str×V))
 |met (f x:Addr)
 |my (lo hi:Int)
 |jH (o:Obj) (u:HO)
 |qe (ps:Array Value)
 |ext (φ:Heap->Prop)
noncomputable abbrev Hp:=Addr->Option HO
abbrev upd(H:Hp)(a:Addr)(o:HO):Hp:=λb=>if b=a then some o else H b
def k9:upd H a o a=!o:=by unfold upd;rw[av rfl]
def d6(h:b≠a):upd H a o b=H b:=by unfold upd;rw[aw h]
def WQ{u:HO}(h:H a=!o)(h':H b=!u)(d:o≠u):a≠b:=by
 intro e;subst e;rw[h] at h';show d (aJ h')
def j0(h:H a=!o)(h':H b=none):a≠b:=by
 intro e;simp_all
def K0(h:Heap)(a:Addr)(items:Array Value):Prop:=∃o,h.get? a=!o/\o.cls=.type "tuple"/\(∃n,o.data=.seq items n)/\o.dict=none
def K0.tup{h:Heap}{a:Addr}{items:Array Value}(x:K0 h a items):IsTup h a items:=let ⟨o,e,c,d,_⟩:=x;#[o,e,c,d]
def K0.new(h:Heap)(items:Array Value):K0 (h.push { cls:=.type "tuple",data:=.seq items }) h.objs.size items:=#[_,au _ rfl,rfl,#[_,rfl],rfl]
section
variable(P:Program)(w:World)
abbrev j5(H:Hp)(h:Heap)(a:Addr):HO->Prop
 |.lst xs=>-xs<=sizeLine/\∃(aX:@&Value) (n:Nat),Vals xs aX/\h.get? a=some { cls:=.type "list",data:=.seq aX.toArray n }
 |.tup xs=>-xs<=sizeLine/\∃aX:@&Value,Vals xs aX/\K0 h a aX.toArray
 |.dK kvs=>-kvs<=sizeLine/\(a==sysModules)=false/\∃vs,KV kvs vs/\h.DictOf (j3 P w) a vs
 |.dT kvs=>-kvs<=sizeLine/\(a==sysModules)=false/\∃xs:@&(List Key×Addr×Value),
   Paired (λ(p:@&Key×V) (q:@&Key×Addr×Value)=>p.1=q.1/\H q.2.1=!.tup (p.1.map kV)/\RelV p.2 q.2.2) kvs xs /\
   ∃o es ep,h.get? a=!o/\o.ExactDict/\o.data=.dict es ep/\es.toList=xs.map (entryOfKey (tupleKind (j3 P w)))/\(xs.map (·.1)).Nodup
 |.set S n=>h.SetOf (intKind P w) a S n
 |.ins C dx fs=>H dx=!.own a/\-fs<=1000/\dx≠a/\h.get? a=!PySem.W.instObj C dx /\
   ∃mA,h.Ns1 dx mA/\(∀f,E0 (fs.lookup f) (mA f))/\PySem.Within mA (fs.map (·.1))
 |.own _=>∃o,h.get? a=!o
 |.xd fs=>∃mA,h.Ns1 a mA/\∀f,E0 (fs.lookup f) (mA f)
 |.my lo hi=>∃t u v,h.get? a=some { cls:=.type "range",data:=.fields (List.toArray [.int lo t,.int hi u,.int 1 v]) }
 |.jH o u=>h.get? a=!o/\j5 H h a u
 |.qe ps=>h.get? a=some { cls:=.none,data:=.fields ps }
 |.met f x=>h.get? a=!PySem.W.methodObj (.ref f) (.ref x)
 |.ext φ=>φ h/\(∃o,h.get? a=!o)/\∀h1 h2:Heap,φ h1->(∀o,h1.get? a=!o->h2.get? a=!o)->φ h2
def fN(H:Hp)(h:Heap):Prop:=∀a o,H a=!o->j5 P w H h a o
end
def j5.lt(x:j5 P w H h a o):a<h.objs.size:=by
 cases o with
 |lst xs=>let#[_,_,_,_,e]:=x;show ao e
 |tup xs=>let#[_,_,_,p]:=x;show p.tup.lt
 |dK kvs=>let#[_,_,_,_,o,_,_,e,_]:=x;show ao e
 |dT kvs=>let#[_,_,_,_,o,_,_,e,_]:=x;show ao e
 |set S n=>let#[o,_,_,_,e,_]:=x;show ao e
 |ins C dx fs=>let#[_,_,_,e,_]:=x;show ao e
 |own y=>let#[_,e]:=x;show ao e
 |xd fs=>let#[_,#[_,_,_,e,_],_]:=x;show ao e
 |my lo hi=>let#[_,_,_,e]:=x;show ao e
 |jH ob u=>let#[e,_]:=x;show ao e
 |qe ps=>show ao (show h.get? a=some _ from x)
 |met f y=>show ao (show h.get? a=some _ from x)
 |ext φ=>let#[_,#[_,e],_]:=x;show ao e
def Paired.JB{β:Type}{F G:α->β->Prop}{l₁:List α}{vS:List β}(h:Paired F l₁ vS)(f:∀a b,F a b->G a b):Paired G l₁ vS:=by
 induction h with
 |nil=>show .nil
 |cons r t ih=>show .cons (f _ _ r) ih
def j5.J5(x:j5 P w H h a o)(k:∀b u,(b=a\/H b=!.own a)->h.get? b=!u->h'.get? b=!u)(ho:∀b,H b=!.own a->H' b=!.own a)(ht:∀b xs,H b=!.tup xs->H' b=!.tup xs):j5 P w H' h' a o:=by
 induction o with
 |lst xs=>let#[z,aX,n,r,e]:=x;show#[z,aX,n,r,k _ _ (.inl rfl) e]
 |tup xs=>let#[z,aX,r,ob,e,c]:=x;show#[z,aX,r,ob,k _ _ (.inl rfl) e,c]
 |dK kvs=>let#[z,y,vs,r,ob,es,ep,e,c]:=x;show#[z,y,vs,r,ob,es,ep,k _ _ (.inl rfl) e,c]
 |dT kvs =>
  let#[z,y,xs,r,ob,es,ep,e,c]:=x;show#[z,y,xs,Paired.JB r λp q z=>#[z.1,ht _ _ z.2.1,z.2.2],ob,es,ep,k _ _ (.inl rfl) e,c]
 |set S n=>let#[ob,es,ep,t,e,c]:=x;show#[ob,es,ep,t,k _ _ (.inl rfl) e,c]
 |ins C dx fs =>
  let#[d,z,ne,e,mA,#[od,es,ep,e2,c],r]:=x;show#[ho _ d,z,ne,k _ _ (.inl rfl) e,mA,#[od,es,ep,k _ _ (.inr d) e2,c],r]
 |own y=>let#[ob,e]:=x;show#[ob,k _ _ (.inl rfl) e]
 |xd fs=>let#[mA,#[od,es,ep,e,c],r]:=x;show#[mA,#[od,es,ep,k _ _ (.inl rfl) e,c],r]
 |my lo hi=>let#[t,u,v,e]:=x;show#[t,u,v,k _ _ (.inl rfl) e]
 |jH ob u ih=>let#[e,q]:=x;show#[k _ _ (.inl rfl) e,ih q]
 |qe ps =>
  let e:=x;show k a _ (.inl rfl) e
 |met f y =>
  let e:=x;show k a _ (.inl rfl) e
 |ext φ=>let#[p,#[o,e],st]:=x;show#[st _ _ p λo q=>k _ _ (.inl rfl) q,#[o,k _ _ (.inl rfl) e],st]
def fN.lt(x:fN P w H h)(e:H a=!o):a<h.objs.size:=(x a o e).lt
def fN.fresh(x:fN P w H h)(e:h.objs.size<=a):H a=none:=by
 cases q:H a with
 |none=>rfl
 |some u=>show absurd (ax (x.lt q) e) (bP _)
def fN.kept(x:fN P w H h)(k:∀b u,h.get? b=!u->h'.get? b=!u):fN P w H h':=λa o e =>
 (x a o e).J5 (λb u y q=>k b u q) (λy q=>q) λy y q=>q
def fN.laid(x:fN P w H h)(k:∀b u,h.get? b=!u->h'.get? b=!u)(hp:h.objs.size<=a)(new:j5 P w (upd H a o) h' a o):fN P w (upd H a o) h':=λb u e=>by
 let hn:=x.fresh hp;by_cases hb:b=a
 .subst hb;rw[k9] at e;simp_all
 .rw[d6 hb] at e;show(x b u e).J5 (λc v y q=>k c v q) (λc q=>by rw[d6 (j0 q hn)];show q) λc xs q=>by rw[d6 (j0 q hn)];show q
def Rd(H:Hp)(a:Addr)(u:HO):Prop:=H a=!u\/∃o,H a=!.jH o u
def Rd.ok{u:HO}(r:Rd H a u)(x:fN P w H h):j5 P w H h a u:=by
 rcases r with r|⟨o,r⟩
 .exact x a u r
 .let#[_,q]:=x a _ r;show q
abbrev yE:Option HO->Prop
 |some (.lst _)=>True
 |some (.dK _)=>True
 |some (.dT _)=>True
 |some (.set _ _)=>True
 |some (.ins _ _ _)=>True
 |some (.ext _)=>True
 |_=>False
section
variable{x e:Addr}{o':HO}
def fN.write(ok:fN P w H h)(mu:yE (H x))(he:e=x\/H e=!.own x)(k:∀b u,b≠e->h.get? b=!u->h'.get? b=!u)(wJ:∃u,h'.get? e=!u)(new:j5 P w (upd H x o') h' x o'):fN P w (upd H x o') h':=λb u q=>by
 let vL:∀c y,H c=!.own y->c≠x:=λc y r z=>by subst z;rw[r] at mu;show mu
 let Bn:∀c xs,H c=!.tup xs->c≠x:=λc xs r z=>by subst z;rw[r] at mu;show mu
 by_cases hb:b=x
 .subst hb;rw[k9] at q;cases q;show new
 .rw[d6 hb] at q;by_cases ug:b=e
  .let q':H b=!.own x:=by
    rcases he with z|z
    .exact absurd (ug.trans z) hb
    .rw[ug];show z
   rw[q] at q';cases q';let#[v,hv]:=wJ;show#[v,by rw[ug];show hv]
  .refine(ok b u q).J5 (λc v hc r=>k c v ?_ r) (λc r=>by rw[d6 (vL c b r)];show r) λc xs r=>by rw[d6 (Bn c xs r)];show r
   rcases hc with rfl|hc
   .exact ug
   .rintro rfl;rcases he with z|z
    .exact vL c b hc z
    .rw[hc] at z;cases z;show hb rfl
end
structure Un(fs ex:@&Addr)(H H':Hp)(h h':Heap):Prop where
 keep:∀b o,h.get? b=!o->H b=none->b∉fs->b∉ex->h'.get? b=!o
 slot:∀b o,h.get? b=!o->H b=none->b∈fs->b∉ex->∃sl,h'.get? b=some { o with slots:=sl }
 free:∀b o,h.get? b=!o->H b=none->b∉ex->H' b=none
 there:∀b o,h.get? b=!o->b∉ex->∃o',h'.get? b=!o'
 iz:∀b xs,H b=!.tup xs->H' b=!.tup xs
 ie:∀b o u,H b=!.jH o u->H' b=!.jH o u
 iB:∀b ps,H b=!.qe ps->∃more,H' b=!.qe (ps++more)
section
variable{fs ex:@&Addr}{H1:Hp}{h1:Heap}{x e:Addr}
def Un.any(u:Un fs ex H H1 h h1){ob:Obj}(q:h.get? b=!ob)(n:H b=none)(hx:b∉ex):∃sl,h1.get? b=some { ob with slots:=sl }:=by
 by_cases hb:b∈fs
 .exact u.slot b ob q n hb hx
 .exact#[ob.slots,u.keep b ob q n hb hx]
def Un.kept(k:∀b u,h.get? b=!u->h'.get? b=!u):Un fs ex H H h h' :=
 #[λb ob q x x x=>k b ob q,λb ob q x x x=>#[ob.slots,k b ob q],λx x x n x=>n,λb ob q x=>#[ob,k b ob q],λx x q=>q,λx x x q=>q,λx ps q=>#[(List.toArray []),by rw[q];simp]]
def Un.refl:Un fs ex H H h h:=Un.kept λx x q=>q
def Un.laid(k:∀b u,h.get? b=!u->h'.get? b=!u)(hp:h.objs.size<=a)(hn:H a=none):Un fs ex H (upd H a o) h h' where
 keep:=λb u q x x x=>k b u q
 slot:=λb u q x x x=>#[u.slots,k b u q]
 free:=λb u q n x=>by rw[d6 (aD (ax (ao q) hp))];show n
 there:=λb u q x=>#[u,k b u q]
 iz:=λb xs q=>by rw[d6 (j0 q hn)];show q
 ie:=λb u xs q=>by rw[d6 (j0 q hn)];show q
 iB:=λb ps q=>#[(List.toArray []),by rw[d6 (j0 q hn),q];simp]
def Un.write(mu:yE (H x))(he:e=x\/H e=!.own x)(k:∀b u,b≠e->h.get? b=!u->h'.get? b=!u)(wJ:∃u,h'.get? e=!u):Un fs ex H (upd H x o) h h':=by
 let hx:∀b,H b=none->b≠x:=λb n z=>by subst z;rw[n] at mu;show mu
 let hb:∀b,H b=none->b≠e:=λb n z=>by
  simp_all
 let hm:∀b u,H b=!u->¬yE (!u)->b≠x:=λb u q nm z=>by simp_all
 show #[λb u q n y y=>k b u (hb b n) q,λb u q n y y=>#[u.slots,k b u (hb b n) q],λb u q n y=>by rw [d6 (hx b n)];show n,λb u q y=>?_,
  λb xs q=>by rw [d6 (hm b _ q λz=>z)];show q,λb u xs q=>by rw [d6 (hm b _ q λz=>z)];show q,λb ps q=>#[(List.toArray []),by rw [d6 (hm b _ q λz=>z),q];simp]]
 by_cases ug:b=e
 .simp_all
 .exact#[u,k b u ug q]
end
abbrev oS(h:Heap)(H:Hp):@&Addr:=(List.range h.objs.size).filter λa=>(H a).isSome
abbrev pX(h:Heap)(H:Hp):Heap:=PySem.W.hideAll h (oS h H)
def a77(h:Heap)(H:Hp):(pX h H).objs.size=h.objs.size:=PySem.W.hideAll_size _ _
def Us{o:Obj}(e:h.get? b=!o)(n:H b=none):(pX h H).get? b=!o :=
 Gh _ e λhm=>by
  let q:=(cA.mp hm).2;rw[n] at q;simp at q
def Si{o:Obj}(e:(pX h H).get? b=!o):h.get? b=!o/\H b=none:=by
 let e':=Ox (oS h H) e;show#[e',?_];cases q:H b with
 |none=>rfl
 |some x =>
  let hm:b∈oS h H:=cA.mpr #[fW.mpr (ao e'),by simp[q]];let z:(pX h H).get? b=none:=PySem.W.hideAll_none (oS h H) hm
  simp_all
structure Mod(K:PySem.W.Frag)(mg:Str->Option Value)(base:Heap):Prop where
 nB:K.In base
 glob:base.Ns mainGlobals mg
 blt:∃mb,base.Ns builtinsNs mb/\∀x:Str,x≠"__name__"->mb x=bootBuiltins x
 nolimit:base.NoLimit
structure Cx where
 prog:Program
 w:World
 K:PySem.W.Frag
 mg:Str->Option Value
 base:Heap
 A:Around
 N:@&Str
 du:Shared
 jo:Hp
 env:Env
 outer:@&Env
 stack:@&Env
 ex:@&Addr
 fn:Str->Bool
 calm:Bool
 pn:@&(Addr×Obj)
 xe:Value->Shared->Prop
 sg:Option (List (Option V)):=none
def Cx.Nd(X:Cx):Prop:=X.N.Nodup/\X.sg=none
abbrev fF(l:@&Env):@&Addr:=l.filterMap (·.frame)
noncomputable abbrev Cx.fs(X:Cx):@&Addr:=fF X.outer
def tu(sc:Scope)(x:Str):Prop:=sc.names.lookup x=!.local\/sc.names.lookup x=!.cell\/sc.names.lookup x=!.free
def Loc(sc:Scope)(x:Str):Prop:=sc.names.lookup x=!.local\/sc.names.lookup x=!.cell
abbrev Look(env:Env)(h:Heap)(m:Str->Option Value)(x:Str)(u:Value):Prop :=
 (env.kindOf x=!.local/\m x=!u)\/((env.kindOf x=!.cell\/env.kindOf x=!.free)/\∃c,env.cells.lookup x=!c/\h.IsCell c (!u))
structure Cx.Ok(X:Cx):Prop where
 mod:Mod X.K X.mg X.base
 kind:X.env.scope.kind=.function
 glob:X.env.globals=mainGlobals
 blt:X.env.builtins=builtinsNs
 above:X.du.heap.objs.size<=X.env.locals
 inj:∀x y c,X.env.cells.lookup x=!c->X.env.cells.lookup y=!c->x=y
 has:∀x,(X.env.kindOf x=!.cell\/X.env.kindOf x=!.free)->∃c,X.env.cells.lookup x=!c
 qI:∀x c,X.fn x=true->X.env.cells.lookup x=!c->X.du.heap.objs.size<=c
 hd:X.calm=true->X.A.handled=none
 frames:X.A.frames=!X.stack
 rn:X.stack=X.outer\/(X.stack=X.env::X.outer/\X.env.frame=!X.env.locals)
 xD:∀b∈X.ex,b≠X.env.locals/\∀x c,X.env.cells.lookup x=!c->c≠b
 bs:∀b o,X.base.get? b=!o->X.du.heap.get? b=!o/\X.jo b=none
 nU:X.base.objs.size<=X.du.heap.objs.size
 jX:∀b o,X.base.get? b=!o->b∉X.ex
 kT:∀b∈X.ex,b∉X.fs
 N5:X.du.heap.FunFrames X.base X.outer
 ow:∀b∈X.fs,X.jo b=none
structure Inv(X:Cx)(pi:@&(Addr×Obj))(σ:@&(Option V))(H:Hp)(s:Shared):Prop where
 ok:X.Ok
 os:s.os=X.du.os
 bare:AllBare s.gens
 base:Un X.fs X.ex X.jo H X.du.heap s.heap
 loc:∃m,s.heap.Ns X.env.locals m/\∀(i:Nat) (x:Str) (v:V),X.N[i]?=!x->σ[i]?=!!v->tu X.env.scope x->∃u,RelV v u/\Look X.env s.heap m x u
 cell:∀x c,X.env.cells.lookup x=!c->∃v,s.heap.IsCell c v
 free:H X.env.locals=none
 eP:∀x c,X.env.cells.lookup x=!c->H c=none
 pin:∀p∈X.pn++pi,s.heap.get? p.1=!p.2/\H p.1=none/\p.1≠X.env.locals/\p.1∉X.fs/\∀v,p.2.data≠.cell v
 bw:fN X.prog X.w H s.heap
 len:σ.length=-X.N
 sg:∀cU,X.sg=!cU->σ=cU
section
variable{σ:@&(Option V)}
def Cx.Ok.b30(ok:X.Ok){o:Obj}(e:X.base.get? b=!o):b∉X.fs:=λhb=>by
 have:=(ok.N5.mem hb).1
 simp_all
def Inv.bs(I:Inv X pi σ H s):∀b o,X.base.get? b=!o->s.heap.get? b=!o/\H b=none:=λb o e =>
 #[I.base.keep b o (I.ok.bs b o e).1 (I.ok.bs b o e).2 (I.ok.b30 e) (I.ok.jX b o e),I.base.free b o (I.ok.bs b o e).1 (I.ok.bs b o e).2 (I.ok.jX b o e)]
def Inv.bk(I:Inv X pi σ H s):∀b o,X.base.get? b=!o->s.heap.get? b=!o:=λb o e=>(I.bs b o e).1
def Inv.mod(I:Inv X pi σ H s):Mod X.K X.mg X.base:=I.ok.mod
def Inv.fU(I:Inv X pi σ H s):X.K.In s.heap:=I.ok.mod.nB.keeps I.bk
def Inv.lt(I:Inv X pi σ H s):X.env.locals<s⁻¹:=let ⟨_,hn,_⟩:=I.loc;hn.lt
def Inv.sz(I:Inv X pi σ H s):X.du.heap.objs.size<=s⁻¹:=aF I.ok.above (dZ I.lt)
def Inv.Ax(I:Inv X pi σ H s)(h:s⁻¹<=a):a∉X.fs:=λhb=>by
 let#[_,o,ho,_]:=I.ok.N5.mem hb;show absurd (ax (ao ho) (aF I.sz h)) (bP _)
def Inv.sI(I:Inv X pi σ H s):∀x c,X.env.cells.lookup x=!c->c≠X.env.locals:=λx c e z=>by
 let#[v,o,ho,hd]:=I.cell x c e;let#[m,#[o',es,ep,kP,sj,_],_]:=I.loc
 simp_all
def Inv.N5(I:Inv X pi σ H s):s.heap.FunFrames X.base X.outer:=by
 let all:∀(l:@&Env),(∀b∈fF l,b∈X.fs)->X.du.heap.FunFrames X.base l->s.heap.FunFrames X.base l:=by
  intro l
  induction l with
  |nil=>intro _ _;trivial
  |cons env r ih =>
   intro hs hl;let#[hk,#[L,o,hf,hn,ho,hd],hr]:=hl;let hL:=hs L (by unfold fF;rw[dB,hf];show jT);let#[sl,e]:=I.base.slot L o ho (I.ok.ow L hL) hL λz=>I.ok.kT L z hL;show#[hk,#[L,_,hf,hn,e,hd],ih (λb hb=>hs b (by unfold fF;rw[dB,hf];show bK _ hb)) hr]
 show all X.outer (λx hb=>hb) I.ok.N5
def Inv.stack(I:Inv X pi σ H s):s.heap.FunFrames X.base X.stack:=by
 rcases I.ok.rn with e|⟨e,hf⟩
 .rw[e];show I.N5
 .rw[e];let#[m,hn,_]:=I.loc;show .cons (by rw[I.ok.kind];decide) hf hn ?_ I.N5;show Heap.get?_none_of_le (aF I.ok.nU I.ok.above)
def Inv.S1(I:Inv X pi σ H s):∀b∈fF X.stack,b∈X.env.locals::X.fs:=λb hb=>by
 rcases I.ok.rn with e|⟨e,hf⟩
 .rw[e] at hb;show bK _ hb
 .rw[e] at hb;unfold fF at hb;rw[dB,hf] at hb;show hb
def Inv.Ah(I:Inv X pi σ H s):∀b∈fF X.stack,H b=none:=λb hb=>by
 rcases aE.mp (I.S1 b hb) with e|hb
 .rw[e];show I.free
 .let#[_,o,ho,_]:=I.ok.N5.mem hb;show I.base.free b o ho (I.ok.ow b hb) λz=>I.ok.kT b z hb
def Inv.step{g':Array GenState}{t':Nat}{d':Drawn}{ch:@&Addr}(I:Inv X pi σ H s)(om:∀b∈ch,(b∈X.ex\/X.du.heap.objs.size<=b)/\b≠X.env.locals/\(∀x c,X.env.cells.lookup x=!c->c≠b)/\∀p∈X.pn++pi,p.1≠b)(keep:∀b o,b≠X.env.locals->b∉X.fs->b∉ch->s.heap.get? b=!o->H b=none->h'.get? b=!o)(slot:∀b o,b≠X.env.locals->b∈X.fs->b∉ch->s.heap.get? b=!o->H b=none->∃sl,h'.get? b=some { o with slots:=sl })(free:∀b o,b∉ch->s.heap.get? b=!o->H b=none->H' b=none)(there:∀b o,b∉ch->s.heap.get? b=!o->∃o',h'.get? b=!o')(iz:∀b xs,H b=!.tup xs->H' b=!.tup xs)(ie:∀b o u,H b=!.jH o u->H' b=!.jH o u)(iB:∀b ps,H b=!.qe ps->∃more,H' b=!.qe (ps++more))(ns:∀m,s.heap.Ns X.env.locals m->h'.Ns X.env.locals m)(bw:fN X.prog X.w H' h')(hg:AllBare g') :
  Inv X pi σ H' { s with heap:=h',gens:=g',drawn:=d',toks:=t' }:=by
 let GK:∀b o,X.du.heap.get? b=!o->b≠X.env.locals:=λb o e=>aD (ax (ao e) I.ok.above);let tO:∀b o,X.du.heap.get? b=!o->b∉X.ex->b∉ch:=λb o e hx hb=>by
  rcases(om b hb).1 with z|z
  .exact hx z
  .exact absurd (ax (ao e) z) (bP _)
 let cellK:∀x c,X.env.cells.lookup x=!c->∀v,s.heap.IsCell c v->h'.IsCell c v:=λx c e v bf=>by
  let#[o,ho,hd]:=bf;let vQ:c∉ch:=λz=>(om c z).2.2.1 x c e rfl;by_cases hc:c∈X.fs
  .let#[sl,q]:=slot c o (I.sI x c e) hc vQ ho (I.eP x c e);show#[_,q,hd]
  .exact#[o,keep c o (I.sI x c e) hc vQ ho (I.eP x c e),hd]
 show#[I.ok,I.os,hg,#[λb o e n hb hx=>?_,λb o e n hb hx=>?_,λb o e n hx=>?_,λb o e hx=>?_,λb xs e=>iz b xs (I.base.iz b xs e),λb o xs e=>ie b o xs (I.base.ie b o xs e),λb ps e=>?_],?_,λx c e=>?_,?_,λx c e=>?_,λp hp=>?_,bw,I.len,I.sg]
 .exact keep b o (GK b o e) hb (tO b o e hx) (I.base.keep b o e n hb hx) (I.base.free b o e n hx)
 .let#[sl,e1]:=I.base.slot b o e n hb hx;let#[OQ,e2]:=slot b _ (GK b o e) hb (tO b o e hx) e1 (I.base.free b o e n hx);show#[OQ,e2]
 .let#[o',e1]:=I.base.there b o e hx;show free b o' (tO b o e hx) e1 (I.base.free b o e n hx)
 .let#[o',e1]:=I.base.there b o e hx;show there b o' (tO b o e hx) e1
 .let#[m1,e1]:=I.base.iB b ps e;let#[m2,e2]:=iB b _ e1;show#[m1++m2,by rw[e2,OC]]
 .let#[m,hn,hl]:=I.loc;show#[m,ns m hn,λi x v e1 e2 e3=>?_];let#[u,r,l]:=hl i x v e1 e2 e3;show#[u,r,?_];rcases l with l|⟨k,c,e,z⟩
  .exact .inl l
  .exact .inr #[k,c,e,cellK x c e _ z]
 .let#[v,z]:=I.cell x c e;show#[v,cellK x c e v z]
 .let#[m,#[o,_,_,ho,_],_]:=I.loc;show free _ o (λz=>(om _ z).2.1 rfl) ho I.free
 .let#[v,o,ho,hd]:=I.cell x c e;show free c o (λz=>(om c z).2.2.1 x c e rfl) ho (I.eP x c e)
 .let#[e,n,ne,nf,d]:=I.pin p hp;let vQ:p.1∉ch:=λz=>(om p.1 z).2.2.2 p hp rfl;show#[keep p.1 p.2 ne nf vQ e n,free p.1 p.2 vQ e n,ne,nf,d]
def Inv.un{t':Nat}(I:Inv X pi σ H s)(u:Un X.fs [] H H' s.heap h')(bw:fN X.prog X.w H' h'):Inv X pi σ H' { s with heap:=h',toks:=t' }:=by
 let#[m,#[o,es,ep,ho,r],_]:=id I.loc;let#[sl,hL]:=u.any ho I.free #[_];show I.step (g':=s.gens) (d':=s.drawn) (ch:=[]) (λx z=>nomatch z) (λb o x hb x e n=>u.keep b o e n hb #[_]) (λb o x hb x e n=>u.slot b o e n hb #[_]) (λb o x e n=>u.free b o e n #[_]) (λb o x e=>u.there b o e #[_]) u.iz u.ie u.iB (λm' hm=>by
  let#[o',mm,zF,kP,r']:=hm;rw[ho] at kP;cases kP;show #[_,mm,zF,hL,r']) bw I.bare
def Inv.call{g':Array GenState}{t':Nat}{d':Drawn}(I:Inv X pi σ H s)(u:Un (fF X.stack) ch H H' s.heap h')(bw:fN X.prog X.w H' h')(hg:AllBare g')(om:∀b∈ch,(b∈X.ex\/X.du.heap.objs.size<=b)/\b≠X.env.locals/\(∀x c,X.env.cells.lookup x=!c->c≠b)/\∀p∈X.pn++pi,p.1≠b) :
  Inv X pi σ H' { s with heap:=h',gens:=g',drawn:=d',toks:=t' }:=by
 let#[m,#[o,es,ep,ho,r],_]:=id I.loc;let#[sl,hL]:=u.any ho I.free λz=>(om _ z).2.1 rfl;show I.step om (λb o hL hb hc e n=>u.keep b o e n (λz=>(aE.mp (I.S1 b z)).elim hL hb) hc) (λb o y y hc e n=>u.any e n hc) (λb o hc e n=>u.free b o e n hc) (λb o hc e=>u.there b o e hc) u.iz u.ie u.iB (λm' hm=>by
  let#[o',mm,zF,kP,r']:=hm;rw[ho] at kP;cases kP;show #[_,mm,zF,hL,r']) bw hg
def Inv.turned{t':Nat}{it:Addr}(I:Inv X pi σ H s)(k:∀b o,b≠it->s.heap.get? b=!o->h'.get? b=!o)(hn:H it=none)(hL:it≠X.env.locals)(h1:it∈X.ex\/X.du.heap.objs.size<=it)(h2:∀x c,X.env.cells.lookup x=!c->c≠it)(h3:∀p∈X.pn++pi,p.1≠it):Inv X pi σ H { s with heap:=h',toks:=t' }:=by
 let GJ:∀b u,H b=!u->b≠it:=λb u e z=>by simp_all
 show I.step (g':=s.gens) (d':=s.drawn) (ch:=[it]) (λb hb=>?_) (λb o y y hc e y=>k b o (λz=>hc (by simp[z])) e) (λb o y y hc e y=>#[o.slots,k b o (λz=>hc (by simp[z])) e]) (λy y y y n=>n)
  (λb o hc e=>#[o,k b o (λz=>hc (by simp[z])) e]) (λy y e=>e) (λy y y e=>e) (λb ps e=>#[(List.toArray []),by rw[e];simp]) (λm hm=>?_) (λb u e=>?_) I.bare
 .let e:b=it:=by simpa using hb
  subst e;show#[h1,hL,h2,h3]
 .let#[o,es,ep,ho,r]:=hm;show#[o,es,ep,k _ o (bq hL) ho,r]
 .refine(I.bw b u e).J5 (λc v hc q=>k c v ?_ q) (λy q=>q) λy y q=>q;rcases hc with z|z
  .rw[z];show GJ b u e
  .exact GJ c _ z
def Inv.tok(I:Inv X pi σ H s)(t:Nat):Inv X pi σ H { s with toks:=t }:=I.un (h':=s.heap) (t':=t) Un.refl I.bw
def Inv.kept{t':Nat}(I:Inv X pi σ H s)(k:∀b u,s.heap.get? b=!u->h'.get? b=!u):Inv X pi σ H { s with heap:=h',toks:=t' }:=I.un (Un.kept k) (I.bw.kept k)
def Inv.laid{a:Addr}{o:HO}{t':Nat}(I:Inv X pi σ H s)(k:∀b u,s.heap.get? b=!u->h'.get? b=!u)(hp:s⁻¹<=a)(new:j5 X.prog X.w (upd H a o) h' a o) :
  Inv X pi σ (upd H a o) { s with heap:=h',toks:=t' }:=I.un (Un.laid k hp (I.bw.fresh hp)) (I.bw.laid k hp new)
def Inv.write{x e:Addr}{o:HO}{t':Nat}(I:Inv X pi σ H s)(mu:yE (H x))(he:e=x\/H e=!.own x)(k:∀b u,b≠e->s.heap.get? b=!u->h'.get? b=!u)(wJ:∃u,h'.get? e=!u)(new:j5 X.prog X.w (upd H x o) h' x o):Inv X pi σ (upd H x o) { s with heap:=h',toks:=t' }:=I.un (Un.write mu he k wJ) (I.bw.write mu he k wJ new)
def Inv.weak{cv:@&(Option V)}(hs:X.sg=none)(I:Inv X pi σ H s)(hl:-cv=σ.length)(w:∀(i:Nat) v,cv[i]?=!!v->σ[i]?=!!v):Inv X pi cv H s :=
 #[I.ok,I.os,I.bare,I.base,let ⟨m,hn,kE⟩:=I.loc;#[m,hn,λi x v e1 e2 e3=>kE i x v e1 (w i v e2) e3],I.cell,I.free,I.eP,I.pin,I.bw,hl.trans I.len,λy z=>by simp_all]
def Inv.yq{fC:@&(Addr×Obj)}(I:Inv X pi σ H s)(h:∀p∈fC,s.heap.get? p.1=!p.2/\H p.1=none/\p.1≠X.env.locals/\p.1∉X.fs/\∀v,p.2.data≠.cell v):Inv X fC σ H s :=
 #[I.ok,I.os,I.bare,I.base,I.loc,I.cell,I.free,I.eP,λp hp=>(bh.mp hp).elim (λz=>I.pin p (fq _ z)) (h p),I.bw,I.len,I.sg]
def Ng(hN:N.Nodup){j:Nat}(a:N[i]?=!x)(b:N[j]?=!x):i=j:=by
 let#[h1,e1]:=az.mp a;let#[h2,e2]:=az.mp b;show(List.getElem_inj hN).mp (e1.trans e2.symm)
def Km{Q:Unit->Shared->Prop}(I:Inv X pi σ H s)(hN:X.Nd)(hi:X.N[i]?=!x)(hx:Loc X.env.scope x)(r:RelV v u)(h:∀s',Inv X pi (σ.set i (!v)) H s'->(∃a,Heap.SameBut a s.heap s'.heap/\(a=X.env.locals\/X.env.cells.lookup x=!a))->Q Unit.unit s')(hf:X.fn x=true\/X.env.scope.names.lookup x=!.local:=by first|show .inl rfl|show .inr rfl|assumption):wpAny M A (storeName X.env x u) Q E s:=by
 let#[m,hn,hl]:=id I.loc;let jE:(X.env.scope.kind==.class||(X.env.scope.kind==.module&&X.env.locals != X.env.globals))=false:=by rw[I.ok.kind];rfl
 let wG:i<σ.length:=by rw[I.len];show(az.mp hi).1
 let sI:=I.sI;let tracked:∀{a:Addr} {h':Heap},(∃o,s.heap.get? a=!o/\H a=none)->Heap.SameBut a s.heap h'->fN X.prog X.w H h':=λ{a h'} ha hs b ob e=>by
  let#[_,_,lA]:=ha;show(I.bw b ob e).J5 (λc w' hc q=>(hs.2 c ?_).trans q) (λt q=>q) λt t q=>q;rintro rfl;rcases hc with rfl|hc
  .rw[lA] at e;cases e
  .rw[lA] at hc;cases hc
 rcases hx with hk|hk
 .refine wpAny_storeName_local hk hn (λh' wA hs=>?_) jE;let#[oL,_,_,wx,_]:=id hn;show h _ #[I.ok,I.os,I.bare,#[λb o e n hb hx=>?_,λb o e n hb hx=>?_,I.base.free,λb o e hx=>?_,I.base.iz,I.base.ie,I.base.iB],#[_,wA,λj y v' e1 e2 e3=>?_],λy c e=>?_,I.free,I.eP,λp hp=>?_,tracked #[oL,wx,I.free] hs,by simpa using I.len,λt z=>by rw[hN.2] at z;cases z] #[_,hs,.inl rfl]
  .exact(hs.2 b (aD (ax (ao e) I.ok.above))).trans (I.base.keep b o e n hb hx)
  .let#[sl,e1]:=I.base.slot b o e n hb hx;show#[sl,(hs.2 b (aD (ax (ao e) I.ok.above))).trans e1]
  .let#[o',e1]:=I.base.there b o e hx;show#[o',(hs.2 b (aD (ax (ao e) I.ok.above))).trans e1]
  .by_cases hj:j=i
   .subst hj;rw[hi] at e1;cases e1;rw[aU wG] at e2;cases e2;show#[u,r,.inl #[hk,by simp]]
   .rw[aH (bq hj)] at e2;let#[u',r',q]:=hl j y v' e1 e2 e3;show#[u',r',?_];rcases q with⟨k,e⟩|⟨k,c,e,z⟩
    .refine .inl #[k,?_];have:y≠x:=λe=>hj (Ng hN.1 e1 (e▸hi));simp[this,e]
    .exact .inr #[k,c,e,z.sameBut hs (sI y c e)]
  .let#[w',z]:=I.cell y c e;show#[w',z.sameBut hs (sI y c e)]
  .let#[e,n,ne,nf,d]:=I.pin p hp;show#[(hs.2 p.1 ne).trans e,n,ne,nf,d]
 .let ue:X.fn x=true:=by
   simp_all
  let#[c,hc]:=I.ok.has x (.inl hk);let#[w',z]:=I.cell x c hc;show wpAny_storeName_cell I.ok.kind hk hc z (λh' wU hs=>?_);let#[oc,BK,BJ]:=id z;show h { s with heap:=h' } #[I.ok,I.os,I.bare,#[λb o e n hb hx=>?_,λb o e n hb hx=>?_,I.base.free,λb o e hx=>?_,I.base.iz,I.base.ie,I.base.iB],#[m,hn.sameBut hs (bq (sI x c hc)),λj y v' e1 e2 e3=>?_],λy c' e=>?_,I.free,I.eP,λp hp=>?_,tracked #[oc,BK,I.eP x c hc] hs,by simpa using I.len,λt z=>by rw[hN.2] at z;cases z] #[c,hs,.inr hc]
  .exact(hs.2 b (aD (ax (ao e) (I.ok.qI x c ue hc)))).trans (I.base.keep b o e n hb hx)
  .let#[sl,e1]:=I.base.slot b o e n hb hx;show#[sl,(hs.2 b (aD (ax (ao e) (I.ok.qI x c ue hc)))).trans e1]
  .let#[o',e1]:=I.base.there b o e hx;show#[o',(hs.2 b (aD (ax (ao e) (I.ok.qI x c ue hc)))).trans e1]
  .by_cases hj:j=i
   .subst hj;rw[hi] at e1;cases e1;rw[aU wG] at e2;cases e2;show#[u,r,.inr #[.inl hk,c,hc,wU]]
   .rw[aH (bq hj)] at e2;let#[u',r',q]:=hl j y v' e1 e2 e3;show#[u',r',?_];rcases q with q|⟨k,c',e,z'⟩
    .exact .inl q
    .refine .inr #[k,c',e,z'.sameBut hs ?_];rintro rfl;show hj (Ng hN.1 e1 (I.ok.inj _ _ _ e hc▸hi))
  .by_cases uf:c'=c
   .subst uf;show#[_,wU]
   .let#[w2,z2]:=I.cell y c' e;show#[w2,z2.sameBut hs uf]
  .let#[e,n,ne,nf,d]:=I.pin p hp;show#[(hs.2 p.1 ?_).trans e,n,ne,nf,d];intro q;rw[q,BK] at e;let q':=aJ e;show d w' (by rw[<- q'];show BJ)
def El{Q:Unit->Shared->Prop}(I:Inv X pi σ H s)(hN:X.Nd)(hi:X.N[i]?=!x)(hx:Loc X.env.scope x)(r:RelV v u)(h:∀s',Inv X pi (σ.set i (!v)) H s'->Q Unit.unit s')(hf:X.fn x=true\/X.env.scope.names.lookup x=!.local:=by first|show .inl rfl|show .inr rfl|assumption):wpAny M A (storeName X.env x u) Q E s :=
 Km I hN hi hx r (λs' I' y=>h s' I') hf
def Inv.EY{s':Shared}(I:Inv X pi σ H s)(ho:s'.os=s.os)(u:Un (fF X.stack) ch H H' s.heap s'.heap)(bw:fN X.prog X.w H' s'.heap)(hg:AllBare s'.gens)(om:∀b∈ch,(b∈X.ex\/X.du.heap.objs.size<=b)/\b≠X.env.locals/\(∀x c,X.env.cells.lookup x=!c->c≠b)/\∀p∈X.pn++pi,p.1≠b):Inv X pi σ H' s':=by
 let#[h',g',d',t',o']:=s';let e:o'=s.os:=ho;subst e;show I.call (g':=g') (t':=t') (d':=d') u bw hg om
end
noncomputable abbrev XK:=Value->Option Addr->Hp->Prop
noncomputable abbrev St:=@&(Option V)
noncomputable abbrev VK:=V->Hp->Prop
noncomputable abbrev TE:=St->Hp->VK->Prop
noncomputable abbrev TT:=St->Hp->(Bool->Hp->Prop)->Prop
noncomputable abbrev TA:=St->Hp->(List V->Hp->Prop)->Prop
structure Ends where
 nx:St->Hp->Prop
 rt:VK
 bk:St->Hp->Prop:=λ_ _=>False
 ct:St->Hp->Prop:=λ_ _=>False
noncomputable abbrev TS:=Ends->St->Hp->Prop
def EP(X:Cx)(pi:@&(Addr×Obj))(σ:St)(Q:VK)(u:Value)(s':Shared):Prop:=∃v H',Inv X pi σ H' s'/\RelV v u/\Q v H'
def TP(X:Cx)(pi:@&(Addr×Obj))(σ:St)(Q:Bool->Hp->Prop)(b:Bool)(s':Shared):Prop:=∃H',Inv X pi σ H' s'/\Q b H'
def AP(X:Cx)(pi:@&(Addr×Obj))(σ:St)(Q:@&V->Hp->Prop)(us:@&Value)(s':Shared):Prop:=∃vs H',Inv X pi σ H' s'/\Vals vs us/\Q vs H'
abbrev SP(X:Cx)(pi:@&(Addr×Obj))(D:Ends)(f:Flow)(s':Shared):Prop :=
 match f with
 |.next=>∃cv H',Inv X pi cv H' s'/\D.nx cv H'
 |.brk=>∃cv H',Inv X pi cv H' s'/\D.bk cv H'
 |.cont=>∃cv H',Inv X pi cv H' s'/\D.ct cv H'
 |.ret u=>∃v cv H',Inv X pi cv H' s'/\RelV v u/\D.rt v H'
abbrev PE(X:Cx)(e:Expr)(t:TE):Prop :=
 ∀(pi:@&(Addr×Obj)) (s:Shared) (σ:St) (H:Hp) (Q:VK),Inv X pi σ H s->t σ H Q->wpAny (model X.prog X.w) X.A (eval e X.env) (EP X pi σ Q) X.xe s
abbrev PT(X:Cx)(e:Expr)(t:TT):Prop :=
 ∀(pi:@&(Addr×Obj)) (s:Shared) (σ:St) (H:Hp) (Q:Bool->Hp->Prop),Inv X pi σ H s->t σ H Q->wpAny (model X.prog X.w) X.A (isTrue e X.env (eval e X.env)) (TP X pi σ Q) X.xe s
abbrev PW(X:Cx)(e:Expr)(t:TT):Prop :=
 ∀(whole:Sem Value) (pi:@&(Addr×Obj)) (s:Shared) (σ:St) (H:Hp) (Q:Bool->Hp->Prop),Inv X pi σ H s->t σ H Q->wpAny (model X.prog X.w) X.A (isTrue e X.env whole) (TP X pi σ Q) X.xe s
def PW.pt{t:TT}(h:PW X e t):PT X e t:=h _
abbrev PA(X:Cx)(es:@&Expr)(t:TA):Prop :=
 ∀(pos:Pos) (pi:@&(Addr×Obj)) (s:Shared) (σ:St) (H:Hp) (Q:@&V->Hp->Prop),Inv X pi σ H s->t σ H Q->wpAny (model X.prog X.w) X.A (spliced (backTo pos (starEach es X.env))) (AP X pi σ Q) X.xe s
abbrev PS(X:Cx)(st:Stmt)(t:TS):Prop :=
 ∀(pi:@&(Addr×Obj)) (s:Shared) (σ:St) (H:Hp) (D:Ends),Inv X pi σ H s->t D σ H->wpAny (model X.prog X.w) X.A (exec st X.env) (SP X pi D) X.xe s
abbrev jt(X:Cx)(st:@&Stmt)(t:TS):Prop :=
 ∀(pi:@&(Addr×Obj)) (s:Shared) (σ:St) (H:Hp) (D:Ends),Inv X pi σ H s->t D σ H->wpAny (model X.prog X.w) X.A (execs st X.env) (SP X pi D) X.xe s
def cF{t:Sem α}{Q Q':α->Shared->Prop}(h:wpAny M A t Q E s)(hQ:∀a s,Q a s->Q' a s):wpAny M A t Q' E s:=bX h hQ λy y x=>x
section
def bin{a b:Expr}(ha:PE X a ta)(hb:PE X b tb){R:V->V->Hp->Prop}(I:Inv X pi σ H s)(h:ta σ H λx H1=>tb σ H1 λy H2=>R x y H2){Q:α->Shared->Prop}{f:Value->Value->Sem α}(hf:∀v u s2 x y H2,Inv X pi σ H2 s2->RelV x v->RelV y u->R x y H2->wpAny (model X.prog X.w) X.A (f v u) Q X.xe s2) :
  wpAny (model X.prog X.w) X.A (eval a X.env) (λv bL=>wpAny (model X.prog X.w) X.A (eval b X.env) (λu gh=>wpAny (model X.prog X.w) X.A (f v u) Q X.xe gh) X.xe bL) X.xe s:=by
 show cF (ha pi s σ H _ I h) λv s1 bf=>?_;let#[x,H1,I1,r1,q1]:=bf;show cF (hb pi s1 σ H1 _ I1 q1) λu s2 bf=>?_;let#[y,H2,I2,r2,q2]:=bf;show hf v u s2 x y H2 I2 r1 r2 q2
def VY(i:Nat):TE:=λσ H Q=>∃v,σ[i]?=!!v/\Q v H
def tC(v:V):TE:=λx H Q=>Q v H
def FK(hN:X.N[i]?=!x)(hv:tu X.env.scope x)(hd:(x==("__debug__":Str))=false:=by decide)(lZ:(x==("__classdict__":Str))=false:=by decide):PE X (.Name x pos) (VY i):=by
 intro pi s σ H Q I h;let#[v,e,h]:=h;let#[m,hn,hl]:=I.loc;let#[u,r,l]:=hl i x v hN e hv;let fin:EP X pi σ Q u s:=#[v,H,I,r,h]
 rcases l with⟨hk,hm⟩|⟨hk,c,hc,lB⟩
 .exact wpAny_Name (wpAny_loadName_local I.ok.kind hk hn hm fin) hd
 .rcases hk with hk|hk
  .exact wpAny_Name (wpAny_loadName_cell I.ok.kind hk hc lB fin) hd
  .exact wpAny_Name (wpAny_loadName_free I.ok.kind hk hc lB fin lZ) hd
def YW{i j pos}:PE X (.Constant (.int i) j pos) (tC (.int i)):=λx x x H x I h=>wpAny_Constant_int #[.int i,H,I.tok _,#[_,rfl],h]
def Xb{b j pos}:PE X (.Constant (.bool b) j pos) (tC (.bl b)):=λx x x H x I h=>Constant_bool #[.bl b,H,I,rfl,h]
def YY{j pos}:PE X (.Constant .none j pos) (tC .aO):=λx x x H x I h=>Constant_none #[.aO,H,I,rfl,h]
def NX{x j pos}:PE X (.Constant (.str x) j pos) (tC (.str x)):=λy y y H y I h=>Calls.Constant_str #[.str x,H,I.tok _,#[_,rfl],h]
def Gl(X:Cx)(x:Str):Prop:=X.env.kindOf x=!.globalImplicit
def Q2(I:Inv X pi σ H s)(hg:Gl X x)(hm:X.mg x=!u)(h:Q u s)(hd:(x==("__debug__":Str))=false:=by decide):wpAny (model X.prog X.w) X.A (eval (.Name x pos) X.env) Q E s :=
 Bb I.ok.kind hg (Calls.loadGlobal_global (by rw[I.ok.glob];show I.mod.glob.keeps I.bk) hm h) hd
def S7(I:Inv X pi σ H s)(hg:Gl X x)(hm:X.mg x=none)(hv:bootBuiltins x=!u)(h:Q u s)(hn:x≠"__name__":=by decide)(hd:(x==("__debug__":Str))=false:=by decide):wpAny (model X.prog X.w) X.A (eval (.Name x pos) X.env) Q E s:=by
 let#[mb,h1,h2]:=I.mod.blt;show Bb I.ok.kind hg (Calls.loadGlobal_builtin (by rw[I.ok.glob];show I.mod.glob.keeps I.bk) hm (by rw[I.ok.blt];show h1.keeps I.bk) ((h2 x hn).trans hv) h) hd
def yp(hg:Gl X x)(hm:X.mg x=!u)(r:RelV v u)(hd:(x==("__debug__":Str))=false:=by decide):PE X (.Name x pos) (tC v) :=
 λy y y H y I h=>Q2 I hg hm #[v,H,I,r,h] hd
def Su(hg:Gl X x)(hm:X.mg x=none)(hv:bootBuiltins x=!u)(r:RelV v u)(hn:x≠"__name__":=by decide)(hd:(x==("__debug__":Str))=false:=by decide):PE X (.Name x pos) (tC v) :=
 λy y y H y I h=>S7 I hg hm hv #[v,H,I,r,h] hn hd
variable{a b:Expr}
variable{tA yT:TT}{rest:@&Expr}
def b04(t u:TT):TT:=λσ H Q=>t σ H λc H1=>if c=true then u σ H1 Q else Q false H1
def OM(t u:TT):TT:=λσ H Q=>t σ H λc H1=>if c=true then Q true H1 else u σ H1 Q
def VS(t:TT):TT:=λσ H Q=>t σ H λc H1=>Q (~~~c) H1
def SN(ha:PT X a tA):PW X (.BoolOp .And [a] pos) tA:=by
 intro wh pi s σ H Q I h;show isTrue_and (cF (ha pi s σ H Q I h) λc s1 e=>?_);cases c with
 |true=>show isTrue_and_nil e
 |false=>show e
def Zn(ha:PT X a tA):PW X (.BoolOp .Or [a] pos) tA:=by
 intro wh pi s σ H Q I h;show isTrue_or (cF (ha pi s σ H Q I h) λc s1 e=>?_);cases c with
 |false=>show isTrue_or_nil e
 |true=>show e
def Zm(ha:PT X a tA)(hb:PW X (.BoolOp .And (b::rest) pos) yT):PW X (.BoolOp .And (a::b::rest) pos) (b04 tA yT):=by
 intro wh pi s σ H Q I h;show isTrue_and (cF (ha pi s σ H _ I h) ?_);rintro c s1 ⟨H1,I1,q1⟩;cases c with
 |true=>show hb wh pi s1 σ H1 Q I1 q1
 |false=>show#[H1,I1,q1]
def Xi(ha:PT X a tA)(hb:PW X (.BoolOp .Or (b::rest) pos) yT):PW X (.BoolOp .Or (a::b::rest) pos) (OM tA yT):=by
 intro wh pi s σ H Q I h;show isTrue_or (cF (ha pi s σ H _ I h) ?_);rintro c s1 ⟨H1,I1,q1⟩;cases c with
 |true=>show#[H1,I1,q1]
 |false=>show hb wh pi s1 σ H1 Q I1 q1
def Zl(ha:PT X a tA):PT X (.UnaryOp .Not a pos) (VS tA):=by
 intro pi s σ H Q I h;show isTrue_not (ha pi s σ H (λc H1=>Q (~~~c) H1) I h)
def Xy(ta tb:TE):TE:=λσ H Q=>ta σ H λx H1=>∃c,x=.bl c/\if c=true then tb σ H1 Q else Q (.bl false) H1
def VT(ta tb:TE):TE:=λσ H Q=>ta σ H λx H1=>∃c,x=.bl c/\if c=true then Q (.bl true) H1 else tb σ H1 Q
def XC(ta:TE):TE:=λσ H Q=>ta σ H λx H1=>∃c,x=.bl c/\Q (.bl (~~~c)) H1
def Y'{op}{t:TE}(h:PE X a t):PE X (.BoolOp op [a] pos) t:=λpi s σ H Q I hw=>BoolOp_one (h pi s σ H Q I hw)
def YT(ha:PE X a ta)(hb:PE X (.BoolOp .And (b::rest) pos) tb):PE X (.BoolOp .And (a::b::rest) pos) (Xy ta tb):=by
 intro pi s σ H Q I h;show BoolOp_and (cF (ha pi s σ H _ I h) λv s1 bf=>?_);let#[x,H1,I1,r1,q1]:=bf;let#[c,rfl,q1]:=q1;cases r1;show cC ?_;cases c with
 |true=>show hb pi s1 σ H1 Q I1 q1
 |false=>show#[.bl false,H1,I1,rfl,q1]
def Xe(ha:PE X a ta)(hb:PE X (.BoolOp .Or (b::rest) pos) tb):PE X (.BoolOp .Or (a::b::rest) pos) (VT ta tb):=by
 intro pi s σ H Q I h;show BoolOp_or (cF (ha pi s σ H _ I h) λv s1 bf=>?_);let#[x,H1,I1,r1,q1]:=bf;let#[c,rfl,q1]:=q1;cases r1;show cC ?_;cases c with
 |false=>show hb pi s1 σ H1 Q I1 q1
 |true=>show#[.bl true,H1,I1,rfl,q1]
def YZ(ha:PE X a ta):PE X (.UnaryOp .Not a pos) (XC ta):=by
 intro pi s σ H Q I h;show UnaryOp_ (cF (ha pi s σ H _ I h) λv s1 bf=>?_);let#[x,H1,I1,r1,q1]:=bf;let#[c,rfl,q1]:=q1;cases r1;show not_of (cC #[.bl (~~~c),H1,I1,rfl,q1])
def ON(t:TT)(ta tb:TE):TE:=λσ H Q=>t σ H λc H1=>if c=true then ta σ H1 Q else tb σ H1 Q
def US(hc:PT X c tA)(ha:PE X a ta)(hb:PE X b tb):PE X (.IfExp c a b pos) (ON tA ta tb):=by
 intro pi s σ H Q I h;show wpAny_IfExp (cF (hc pi s σ H _ I h) ?_);rintro d s1 ⟨H1,I1,q1⟩;cases d with
 |true=>show ha pi s1 σ H1 Q I1 q1
 |false=>show hb pi s1 σ H1 Q I1 q1
end
abbrev fR(K:PySem.W.Frag)(H:Hp)(a:Addr)(xs:@&V):Prop :=
 Rd H a (.lst xs) \/
  ∃(o:Obj) (aX:Array Value) (n:Nat),K.lookup a=!o/\o.cls=.type "list"/\o.dict=none/\o.data=.seq aX n/\aX.size<=sizeLine/\Vals xs aX.toList
abbrev gm(K:PySem.W.Frag)(H:Hp)(a:Addr)(xs:@&V):Prop :=
 Rd H a (.tup xs) \/
  ∃(o:Obj) (aX:Array Value) (n:Nat),K.lookup a=!o/\o.cls=.type "tuple"/\o.data=.seq aX n/\aX.size<=sizeLine/\Vals xs aX.toList
abbrev b59:Value->Option V
 |.none=>!.aO
 |.bool b=>!.bl b
 |.int i _=>!.int i
 |.str x _=>!.str x
 |.bytes b _=>!.lE b
 |.float b _=>!.sD b
 |.ref a=>!.ref a
 |.type n=>!.ty n
 |_=>none
def RelV.abs{x:V}(r:RelV x u):b59 u=!x:=by
 cases x with
 |aO=>cases r;rfl
 |bl _=>cases r;rfl
 |int _=>let#[t,rfl]:=r;rfl
 |str _=>let#[t,rfl]:=r;rfl
 |lE _=>let#[t,rfl]:=r;rfl
 |sD _=>let#[t,rfl]:=r;rfl
 |ref _=>cases r;rfl
 |ty _=>cases r;rfl
def RelV.inj{x y:V}{u:Value}(r:RelV x u)(q:RelV y u):x=y:=aJ (r.abs.symm.trans q.abs)
def Vals.inj{xs ys:@&V}{us:@&Value}(h:Vals xs us)(h':Vals ys us):xs=ys:=by
 induction h generalizing ys with
 |nil=>cases h';rfl
 |cons r t ih =>
  cases h' with
  |cons r' t'=>rw[r.inj r',ih t']
section
variable{ys:@&V}
def fR.of(h:H a=!.lst xs):fR K H a xs:=.inl (.inl h)
def Inv.list(I:Inv X pi σ H s)(h:fR X.K H a xs):∃aX:@&Value,Vals xs aX/\PlainL s.heap a aX.toArray/\-xs<=sizeLine:=by
 rcases h with h|⟨o,aX,n,hk,hc,hd,hs,hz,r⟩
 .let#[z,aX,n,r,e]:=h.ok I.bw;show#[aX,r,#[_,n,e,rfl,rfl,rfl],z]
 .refine#[aX.toList,r,#[o,n,I.fU a o hk,hc,hd,by simpa using hs],?_];let e:=-r
  grind
def Inv.tuple(I:Inv X pi σ H s)(h:gm X.K H a xs):∃aX:@&Value,Vals xs aX/\IsTup s.heap a aX.toArray/\-xs<=sizeLine:=by
 rcases h with h|⟨o,aX,n,hk,hc,hs,hz,r⟩
 .let#[z,aX,r,p]:=h.ok I.bw;show#[aX,r,p.tup,z]
 .refine#[aX.toList,r,#[o,I.fU a o hk,hc,n,by simpa using hs],?_];let e:=-r;simp only[Array.length_toList] at e;omega
def Inv.MX(I:Inv X pi σ H s)(h:fR X.K H a xs)(h':fR X.K H a ys):xs=ys:=by
 let#[aX,r,#[o,n,e,_,_,d],_]:=I.list h;let#[its',r',#[o',n',e',_,_,d'],_]:=I.list h';rw[e] at e';cases e';rw[d] at d';injection d' with d1 _;have:aX=its':=by simpa using gY Array.toList d1
 subst this;show r.inj r'
def Inv.Kn(I:Inv X pi σ H s)(h:gm X.K H a xs)(h':gm X.K H a ys):xs=ys:=by
 let#[aX,r,#[o,e,_,n,d],_]:=I.tuple h;let#[its',r',#[o',e',_,n',d'],_]:=I.tuple h';rw[e] at e';cases e';rw[d] at d';injection d' with d1 _;have:aX=its':=by simpa using gY Array.toList d1
 subst this;show r.inj r'
end
noncomputable abbrev Cx.T3(X:Cx)(E:Value->Shared->Prop):Cx:={ X with xe:=E }
def Cx.Ok.T3{X:Cx}(ok:X.Ok)(E:Value->Shared->Prop):(X.T3 E).Ok :=
 #[ok.mod,ok.kind,ok.glob,ok.blt,ok.above,ok.inj,ok.has,ok.qI,ok.hd,ok.frames,ok.rn,ok.xD,ok.bs,ok.nU,ok.jX,ok.kT,ok.N5,ok.ow]
def Cx.Ok.zU(ok:(X.T3 E).Ok):X.Ok :=
 #[ok.mod,ok.kind,ok.glob,ok.blt,ok.above,ok.inj,ok.has,ok.qI,ok.hd,ok.frames,ok.rn,ok.xD,ok.bs,ok.nU,ok.jX,ok.kT,ok.N5,ok.ow]
def Inv.T3(I:Inv X pi σ H s)(E:Value->Shared->Prop):Inv (X.T3 E) pi σ H s:=#[I.ok.T3 E,I.os,I.bare,I.base,I.loc,I.cell,I.free,I.eP,I.pin,I.bw,I.len,I.sg]
def Inv.zU(I:Inv (X.T3 E) pi σ H s):Inv X pi σ H s:=#[I.ok.zU,I.os,I.bare,I.base,I.loc,I.cell,I.free,I.eP,I.pin,I.bw,I.len,I.sg]
section
variable{st:Stmt}{rest:@&Stmt}{t u:TS}
def Jf:TS:=λD σ H=>D.nx σ H
def VW(t u:TS):TS:=λD σ H=>t { D with nx:=u D } σ H
def SJ:jt X [] Jf:=λ_ _ σ H _ I h=>vb #[σ,H,I,h]
def Vb(h1:PS X st t)(h2:jt X rest u):jt X (st::rest) (VW t u):=by
 intro pi s σ H D I h;show wpAny_execs_cons (cF (h1 pi s σ H { D with nx:=u D } I h) λf s1 q=>?_);cases f with
 |next =>
  let#[cv,H',I',q]:=q;show h2 pi s1 cv H' D I' q
 |ret v=>show q
 |brk=>show q
 |cont=>show q
def SH:PS X (.Pass pos) Jf:=λ_ _ σ H _ I h=>wpAny_Pass #[σ,H,I,h]
def Inv.quiet(I:Inv X pi σ H s):interactive X.env=false:=by simp[interactive,I.ok.kind]
def XB(te:TE):TS:=λD σ H=>te σ H λx H1=>D.nx σ H1
def SG(he:PE X e te)(hs:swapsWith e none pos.line X.env=pure false:=by rfl):PS X (.Expr e pos) (XB te):=by
 intro pi s σ H D I h;show wpAny_Expr_any (cF (he pi s σ H _ I h) (by rintro v s1 ⟨x,H1,I1,r1,q1⟩;show #[σ,H1,I1,q1])) I.quiet hs
def VU(te:TE):TS:=λD σ H=>te σ H D.rt
def Zj(he:PE X e te):PS X (.Return (!e) pos) (VU te):=by
 intro pi s σ H D I h;show wpAny_Return_some (cF (he pi s σ H _ I h) (by rintro v s1 ⟨x,H1,I1,r1,q1⟩;show #[x,σ,H1,I1,r1,q1]))
def XE:TS:=λD x H=>D.rt .aO H
def SI:PS X (.Return none pos) XE:=λ_ _ σ H _ I h=>wpAny_Return_none #[.aO,σ,H,I,rfl,h]
def VQ(c:TT)(t u:TS):TS:=λD σ H=>c σ H λb H1=>if b=true then t D σ H1 else u D σ H1
def Xh{a b:@&Stmt}{tc:TT}(hc:PT X c tc)(ha:jt X a t)(hb:jt X b u):PS X (.If c a b pos) (VQ tc t u):=by
 intro pi s σ H D I h;show wpAny_If (cF (hc pi s σ H _ I h) ?_);rintro d s1 ⟨H1,I1,q1⟩;cases d with
 |true=>show ha pi s1 σ H1 D I1 q1
 |false=>show hb pi s1 σ H1 D I1 q1
end
noncomputable abbrev TG:=V->St->Hp->(St->Hp->Prop)->Prop
noncomputable abbrev oG:=@&V->St->Hp->(St->Hp->Prop)->Prop
abbrev PG(X:Cx)(target:Expr)(t:TG):Prop :=
 ∀(pi:@&(Addr×Obj)) (s:Shared) (σ:St) (H:Hp) (v:V) (u:Value) (Q:St->Hp->Prop),Inv X pi σ H s->RelV v u->t v σ H Q ->
  wpAny (model X.prog X.w) X.A (assign target X.env u) (λx s'=>∃cv H',Inv X pi cv H' s'/\Q cv H') X.xe s
abbrev uY(X:Cx)(ts:@&Expr)(t:oG):Prop :=
 ∀(pi:@&(Addr×Obj)) (s:Shared) (σ:St) (H:Hp) (vs:@&V) (us:@&Value) (Q:St->Hp->Prop),Inv X pi σ H s->Vals vs us->t vs σ H Q ->
  wpAny (model X.prog X.w) X.A (assignInOrder ((assignEach ts X.env).map (·.2)) us) (λx s'=>∃cv H',Inv X pi cv H' s'/\Q cv H') X.xe s
noncomputable abbrev Dt:=V->V->V->Hp->(Hp->Prop)->Prop
abbrev Ds(X:Cx)(t:Dt):Prop :=
 ∀(pi:@&(Addr×Obj)) (s:Shared) (σ:St) (H:Hp) (o i v:V) (ov iv u:Value) (Q:Hp->Prop),Inv X pi σ H s->RelV o ov->RelV i iv->RelV v u->t o i v H Q ->
  wpAny (model X.prog X.w) X.A (setItem ov iv u) (λx s'=>∃H',Inv X pi σ H' s'/\Q H') X.xe s
noncomputable abbrev FX:=V->V->Hp->VK->Prop
abbrev Oi(X:Cx)(op:Operator)(t:FX):Prop :=
 ∀(pi:@&(Addr×Obj)) (s:Shared) (σ:St) (H:Hp) (x y:V) (v u:Value) (Q:VK),Inv X pi σ H s->RelV x v->RelV y u->t x y H Q ->
  wpAny (model X.prog X.w) X.A (inplaceOp op v u) (EP X pi σ Q) X.xe s
def uI(i:Nat):TG:=λv σ H Q=>Q (σ.set i (!v)) H
def Mn(hN:X.Nd)(hi:X.N[i]?=!x)(hx:Loc X.env.scope x)(hf:X.fn x=true\/X.env.scope.names.lookup x=!.local:=by first|show .inl rfl|show .inr rfl|assumption):PG X (.Name x pos) (uI i):=by
 intro pi s σ H v u Q I r h;show wpAny_assign_Name (El I hN hi hx r (λs' I'=>#[_,H,I',h]) hf)
def Jx:oG:=λvs σ H Q=>vs=[]/\Q σ H
def IB(t:TG)(u:oG):oG:=λvs σ H Q=>∃v r,vs=v::r/\t v σ H λcv H'=>u r cv H' Q
def SD:uY X [] Jx:=by
 intro pi s σ H vs us Q I r h;let#[e,h]:=h;show assignInOrder_nil #[σ,H,I,h]
def UY{t:TG}{u:oG}(h1:PG X e t)(h2:uY X es u)(hs:(assignEach (e::es) X.env).map (·.2)=assign e X.env::(assignEach es X.env).map (·.2):=by rfl):uY X (e::es) (IB t u):=by
 intro pi s σ H vs us Q I r h;let#[v,vr,e1,h]:=h;subst e1;cases r with
 |cons r rr =>
  rw[hs];show assignInOrder_cons (cF (h1 pi s σ H _ _ _ I r h) λx s1 bf=>?_);let#[jq,H1,I1,q1]:=bf;show h2 pi s1 jq H1 _ _ Q I1 rr q1
def b47(K:PySem.W.Frag)(n:Nat)(t:oG):TG:=λv σ H Q=>∃a xs,v=.ref a/\gm K H a xs/\-xs=n/\t xs σ H Q
def Zc{t:oG}{n:Nat}(hc:X.calm=true)(h:uY X es t)(hn:(assignEach es X.env).length=n:=by rfl)(eR:(assignEach es X.env).findIdx? (·.1)=none:=by rfl):PG X (.Tuple es k pos) (b47 X.K n t):=by
 intro pi s σ H v u Q I r hw;let#[a,xs,e1,hq,hl,hw]:=hw;subst e1;cases r;let#[aX,rv,ht,hz]:=I.tuple hq;show assign_Tuple_tuple (I.ok.hd hc) ht (by simp[hn,<- hl,(-rv)]) eR λh' hx=>?_;let I1:=I.kept (t':=s.toks) λb o e=>hx b o (aD (ao e)) e;show h pi _ σ H xs _ Q I1 (_/rv) hw
def b48(to ti:TE)(t:Dt):TG:=λv σ H Q=>to σ H λo H1=>ti σ H1 λi H2=>t o i v H2 λH3=>Q σ H3
def Zb{o i:Expr}{to ti:TE}{t:Dt}(ho:PE X o to)(hi:PE X i ti)(hs:Ds X t)(ha:∀ v,assign (.Subscript o i pos) X.env v=(do
   let ov <- holding [v] (eval o X.env)
   let iv <- holding [v,ov] (eval i X.env)
   standAt pos
   holding [v,ov,iv] (setItem ov iv v)
   release [v,ov,iv] []):=by intro _;rfl):PG X (.Subscript o i pos) (b48 to ti t):=by
 intro pi s σ H v u Q I r h;rw[ha];show aa (aY (cF (ho pi s σ H _ I h) λov s1 bf=>?_));let#[x,H1,I1,r1,q1]:=bf;show aa (aY (cF (hi pi s1 σ H1 _ I1 q1) λiv s2 bf=>?_));let#[y,H2,I2,r2,q2]:=bf;show aa (iL (aa (aY (cF (hs pi s2 σ H2 x y v ov iv u _ I2 r1 r2 r q2) ?_))));rintro _ s3 ⟨H3,I3,q3⟩;show wpAny_release #[σ,H3,I3,q3]
def uA(te:TE)(g:TG):TS:=λD σ H=>te σ H λx H1=>g x σ H1 D.nx
def FL{g:TG}(he:PE X e te)(hg:PG X tg g)(hs:swapsWithSole [tg] e pos.line X.env=pure false:=by rfl)(hw:swappedStores [tg] e X.env=pure none:=by rfl)(h1:(assignEach [tg] X.env).map (·.2)=[assign tg X.env]:=by rfl):PS X (.Assign [tg] e pos) (uA te g):=by
 intro pi s σ H D I h;show wpAny_Assign_stores (cF (he pi s σ H _ I h) λv s1 bf=>?_) hs hw;let#[x,H1,I1,r1,q1]:=bf;rw[h1];show cF (hg pi s1 σ H1 x v _ I1 r1 q1) λy s2 q=>q
def NY(hN:X.Nd)(hi:X.N[i]?=!x)(hx:Loc X.env.scope x)(he:PE X e te)(hs:swapsWith e (!.Name x pos') pos.line X.env=pure false:=by rfl)(hf:X.fn x=true\/X.env.scope.names.lookup x=!.local:=by first|show .inl rfl|show .inr rfl|assumption) :
  PS X (.Assign [.Name x pos'] e pos) (uA te (uI i)):=by
 intro pi s σ H D I h;show wpAny_Assign_Name (cF (he pi s σ H _ I h) λv s1 bf=>?_) hs;let#[y,H1,I1,r1,q1]:=bf;show El I1 hN hi hx r1 (λs2 I2=>#[_,H1,I2,q1]) hf
def b03(i:Nat)(te:TE)(ti:FX):TS:=λD σ H=>∃x,σ[i]?=!!x/\te σ H λy H1=>ti x y H1 λz H2=>D.nx (σ.set i (!z)) H2
def Zg{op:Operator}{ti:FX}(hN:X.Nd)(hi:X.N[i]?=!x)(hx:Loc X.env.scope x)(he:PE X e te)(ho:Oi X op ti)(hf:X.fn x=true\/X.env.scope.names.lookup x=!.local:=by first|show .inl rfl|show .inr rfl|assumption) :
  PS X (.AugAssign (.Name x pos') op e pos) (b03 i te ti):=by
 intro pi s σ H D I h;let#[v,e1,h]:=h;let#[m,hn,hl]:=I.loc;let rj:tu X.env.scope x:=by rcases hx with k|k;show .inl k;show .inr (.inl k)
 let#[u,r,l]:=hl i x v hi e1 rj;show wpAny_AugAssign_Name ?_;let go:wpAny (model X.prog X.w) X.A (eval e X.env) (λw gh=>wpAny (model X.prog X.w) X.A (inplaceOp op u w) (λr gP=>wpAny (model X.prog X.w) X.A (storeName X.env x r) (λt=>SP X pi D .next) X.xe gP) X.xe gh) X.xe s:=by
  show cF (he pi s σ H _ I h) λw s1 bf=>?_;let#[y,H1,I1,r1,q1]:=bf;show cF (ho pi s1 σ H1 v y u w _ I1 r r1 q1) λz s2 bf=>?_;let#[zv,H2,I2,r2,q2]:=bf;show El I2 hN hi hx r2 (λs3 I3=>#[_,H2,I3,q2]) hf
 rcases l with⟨hk,hm⟩|⟨hk,c,hc,lB⟩
 .exact wpAny_loadName_local I.ok.kind hk hn hm go
 .rcases hk with hk|hk
  .exact wpAny_loadName_cell I.ok.kind hk hc lB go
  .rcases hx with k|k
   .have:X.env.scope.names.lookup x=!.free:=hk;rw[k] at this;cases this
   .have:X.env.scope.names.lookup x=!.free:=hk;rw[k] at this;cases this
structure It where
 go:Nat->Hp->Prop
 tI:Nat->Hp->V->Hp->Prop
 stop:Nat->Hp->Prop
abbrev J7(X:Cx)(pi:@&(Addr×Obj))(H:Hp)(b:Addr):Prop :=
 H b=none/\b≠X.env.locals/\b∉X.fs/\(b∈X.ex\/X.du.heap.objs.size<=b)/\(∀x c,X.env.cells.lookup x=!c->c≠b)/\∀p∈X.pn++pi,p.1≠b
def Inv.qK(I:Inv X pi σ H s)(hb:s⁻¹<=b)(hn:H' b=none):J7 X pi H' b:=by
 show#[hn,bD (ax I.lt hb),I.Ax hb,.inr (aF I.sz hb),λx c e z=>?_,λp hp z=>?_]
 .let#[v,q]:=I.cell x c e;show absurd (ax q.lt (by simp_all)) (bP _)
 .exact absurd (ax (ao (I.pin p hp).1) (by simp_all)) (bP _)
structure Turn(P:Program)(w:World)(K:PySem.W.Frag)(tg:Expr)(J:It)(fp:@&Addr)(it:Addr)(tn:Nat->Heap->Prop):Prop where
 mem:it∈fp
 obj:∀i h,tn i h->∀b∈fp,∃o,h.get? b=!o/\∀v,o.data≠.cell v
 keep:∀i h h',tn i h->(∀b∈fp,∀o,h.get? b=!o->h'.get? b=!o)->tn i h'
 item:∀(X:Cx),X.prog=P->X.w=w->X.K=K->X.calm=true->∀(i:Nat) (pi:@&(Addr×Obj)) (s:Shared) (σ:St) (H:Hp) (E:Value->Shared->Prop),Inv X pi σ H s->(∀b∈fp,J7 X pi H b)->tn i s.heap->J.go i H ->
  wpAny (model P w) X.A (pyNext (.ref it)) (λr s1=>∃ u,r=!u /\
   wpAny (model P w) X.A (letOwnedTupleGo tg (.ref it) u) (λ_ s2=>∃ x H',Inv X pi σ H' s2/\RelV x u/\J.tI i H x H'/\tn (i + 1) s2.heap/\∀ b ∈ fp,H' b=none) E s1) E s
 done:∀(X:Cx),X.prog=P->X.w=w->X.K=K->X.calm=true->∀(i:Nat) (pi:@&(Addr×Obj)) (s:Shared) (σ:St) (H:Hp) (E:Value->Shared->Prop),Inv X pi σ H s->(∀b∈fp,J7 X pi H b)->tn i s.heap->J.stop i H ->
  wpAny (model P w) X.A (pyNext (.ref it)) (λr s1=>r=none/\Inv X pi σ H s1) E s
 self:∀(A:Around) (i:Nat) (s:Shared) (Q:Value->Shared->Prop) (E:Value->Shared->Prop),tn i s.heap->Q (.ref it) s->wpAny (model P w) A (pyIter (.ref it)) Q E s
noncomputable abbrev TI:=St->Hp->(It->Hp->Prop)->Prop
abbrev Oj(X:Cx)(pi:@&(Addr×Obj))(σ:St)(tg:Expr)(R:It->Hp->Prop)(vZ:Value)(s2:Shared):Prop :=
 ∃(it:Addr) (fp:@&Addr) (tn:Nat->Heap->Prop) (J:It) (H':Hp),vZ=.ref it/\Inv X pi σ H' s2/\Turn X.prog X.w X.K tg J fp it tn/\tn 0 s2.heap/\(∀b∈fp,J7 X pi H' b)/\R J H'
abbrev PI(X:Cx)(tg iter:Expr)(wi:TI):Prop :=
 ∀(pi:@&(Addr×Obj)) (s:Shared) (σ:St) (H:Hp) (R:It->Hp->Prop),Inv X pi σ H s->wi σ H R ->
  wpAny (model X.prog X.w) X.A (eval iter X.env) (λv s1=>wpAny (model X.prog X.w) X.A (pyIter v) (Oj X pi σ tg R) X.xe s1) X.xe s
def AH{it:Addr}{o:Obj}{n:String}{vs:Array Value}{Q:Unit->Shared->Prop}(ho:s.heap.get? it=!o)(hc:o.cls=.type n)(hd:o.data=.fields vs)(hn:["enumerate","zip","dict_itemiterator","dict_reverseitemiterator","odict_iterator","itertools.zip_longest","itertools.pairwise"].contains n=false)(hQ:Q Unit.unit s):wpAny M A (letOwnedTupleGo tg (.ref it) u) Q E s:=by
  cases tg<;>first
    |show ai hQ
    | (cases u <;> first
        |show ai hQ
        | (show aa (wpAny_load ho ?_)
           rw[hc,hd];change wpAny M A (if(["enumerate","zip","dict_itemiterator","dict_reverseitemiterator","odict_iterator","itertools.zip_longest","itertools.pairwise"].contains n&&vs[0]?==!rawInt _)=true then _ else _) Q E s;rw[aw (by intro h;rw[hn,Bool.false_and] at h;cases h)];show ai hQ))
abbrev Ge(K:PySem.W.Frag)(a:Addr):It :=
 #[λi H=>∃xs x,fR K H a xs/\xs[i]?=!x,λi H x H'=>H'=H/\∀xs,fR K H a xs->xs[i]?=!x,λi H=>∃xs,fR K H a xs/\-xs<=i]
abbrev Gb(K:PySem.W.Frag)(a:Addr):It :=
 #[λi H=>∃xs x,gm K H a xs/\xs[i]?=!x,λi H x H'=>H'=H/\∀xs,gm K H a xs->xs[i]?=!x,λi H=>∃xs,gm K H a xs/\-xs<=i]
def yF(lo:Int)(n:Nat):It:=#[λi y=>i<n,λi H x H'=>H'=H/\x=.int (lo+i),λi y=>n<=i]
def a01(a it:Addr):Turn P w K tg (Ge K a) [it] it (λi h=>h.IsListIter it a i) where
 mem:=by simp
 obj:=λi h st b hb=>by
  let e:b=it:=by simpa using hb
  subst e;let#[o,e,c,d]:=st;show#[o,e,λv z=>by simp_all]
 keep:=λi h h' st k=>st.at λo e=>k it #[_] o e
 item:=by
  intro X hP hw hK hc i pi s σ H E I hf st hg;subst hP hw hK;let#[xs,x,hq,hx]:=hg;let#[aX,rv,p,hz]:=I.list hq;let#[u,hu,ru]:=rv.get hx;let#[f0,f1,f2,f3,f4,f5]:=hf it #[_];show wpAny_pyNext_list_item st p.isList (_/hu) λh' kM sb=>?_;let I1:=I.turned (t':=s.toks) (λb o hb e=>(sb.2 b hb).trans e) f0 f1 f3 f4 f5;let#[o,e,c,d]:=id kM;show#[u,rfl,AH e c d ∅ #[x,H,I1,ru,#[rfl,λys hy=>by rw[I.MX hy hq];show hx],kM,λb hb=>(hf b hb).1]]
 done:=by
  intro X hP hw hK hc i pi s σ H E I hf st hg;subst hP hw hK;let#[xs,hq,hx]:=hg;let#[aX,rv,p,hz]:=I.list hq;let#[f0,f1,f2,f3,f4,f5]:=hf it #[_];let hl:=-rv;show wpAny_pyNext_list_end (I.ok.hd hc) st p.isList (by simp;omega) λh' eb=>#[rfl,I.turned (t':=s.toks) (λb o hb e=>eb b o hb e) f0 f1 f3 f4 f5]
 self:=λy y y y y st h=>wpAny_pyIter_listiter st h
def aS7(a it:Addr):Turn P w K tg (Gb K a) [it] it (λi h=>h.IsTupleIter it a i) where
 mem:=by simp
 obj:=λi h st b hb=>by
  let e:b=it:=by simpa using hb
  subst e;let#[o,e,c,d]:=st;show#[o,e,λv z=>by simp_all]
 keep:=λi h h' st k=>st.at λo e=>k it #[_] o e
 item:=by
  intro X hP hw hK hc i pi s σ H E I hf st hg;subst hP hw hK;let#[xs,x,hq,hx]:=hg;let#[aX,rv,p,hz]:=I.tuple hq;let#[u,hu,ru]:=rv.get hx;let#[f0,f1,f2,f3,f4,f5]:=hf it #[_];show wpAny_pyNext_tuple_item st (show s.heap.IsTuple a aX.toArray from p) (_/hu) λh' kM sb=>?_;let I1:=I.turned (t':=s.toks) (λb o hb e=>(sb.2 b hb).trans e) f0 f1 f3 f4 f5;let#[o,e,c,d]:=id kM;show#[u,rfl,AH e c d ∅ #[x,H,I1,ru,#[rfl,λys hy=>by rw[I.Kn hy hq];show hx],kM,λb hb=>(hf b hb).1]]
 done:=by
  intro X hP hw hK hc i pi s σ H E I hf st hg;subst hP hw hK;let#[xs,hq,hx]:=hg;let#[aX,rv,p,hz]:=I.tuple hq;let#[f0,f1,f2,f3,f4,f5]:=hf it #[_];let hl:=-rv;show wpAny_pyNext_tuple_end (I.ok.hd hc) st (show s.heap.IsTuple a aX.toArray from p) (by simp;omega) λh' eb=>#[rfl,I.turned (t':=s.toks) (λb o hb e=>eb b o hb e) f0 f1 f3 f4 f5]
 self:=λy y y y y st h=>wpAny_pyIter_tupleiter st h
def aS8(it:Addr)(lo:Int)(n:Nat):Turn P w K tg (yF lo n) [it] it (λi h=>IsRangeIter h it (lo+(i:Nat)*1) ((n:Int)-(i:Nat)) 1) where
 mem:=by simp
 obj:=λi h st b hb=>by
  let e:b=it:=by simpa using hb
  subst e;show #[_,st,λv z=>by
   let z':Data.fields _=Data.cell v:=z;cases z']
 keep:=λi h h' st k=>k it #[_] _ st
 item:=by
  intro X hP hw hK hc i pi s σ H E I hf st hg;subst hP hw hK;let#[f0,f1,f2,f3,f4,f5]:=hf it #[_];let W:=Walks.range (prog:=X.prog) (w:=X.w) (I.ok.hd hc) it lo 1 n;show W.item i s _ _ hg st λv h' tk hv kM kk=>?_;let#[t,rfl]:=hv;let I1:Inv X pi σ H { s with heap:=h',toks:=tk }:=I.turned (λb o hb e=>kk b o (_/hb) e) f0 f1 f3 f4 f5;show#[_,rfl,AH kM rfl rfl ∅ #[.int (lo+i),H,I1,#[t,?_],#[rfl,rfl],kM,λb hb=>(hf b hb).1]];rw[Int.mul_one]
 done:=by
  intro X hP hw hK hc i pi s σ H E I hf st hg;subst hP hw hK;let#[f0,f1,f2,f3,f4,f5]:=hf it #[_];show wpAny_pyNext_range_end (I.ok.hd hc) st (by have:n<=i:=hg;omega) λh' eb=>#[rfl,I.turned (t':=s.toks) (λb o hb e=>eb b o hb e) f0 f1 f3 f4 f5]
 self:=λx x x x x st h=>wpAny_pyIter_rangeiter st h
def Nk{R:It->Hp->Prop}{lo hi:Int}{t u v:Tok}{tk:Nat}(I:Inv X pi σ H s)(h1:-(2 ^ 62)<=lo)(h2:lo<2 ^ 62)(h3:-(2 ^ 62)<=hi)(h4:hi<2 ^ 62)(q:R (yF lo (hi-lo).toNat) H):wpAny (model X.prog X.w) X.A (pyIter (.ref s⁻¹)) (Oj X pi σ tg R) E { s with heap:=s.heap.push { cls:=.type "range",data:=.fields (List.toArray [.int lo t,.int hi u,.int 1 v]) },toks:=tk }:=by
 show wpAny_pyIter_range (IsRange.new ..) (small_one h1 h2 h3 h4) ?_;let I1:Inv X pi σ H { s with heap:=s.heap.push { cls:=.type "range",data:=.fields (List.toArray [.int lo t,.int hi u,.int 1 v]) },toks:=tk }:=I.kept λb o e=>ah _ e;show #[(s.heap.push { cls:=.type "range",data:=.fields (List.toArray [.int lo t,.int hi u,.int 1 v]) }).objs.size,[(s.heap.push { cls:=.type "range",data:=.fields (List.toArray [.int lo t,.int hi u,.int 1 v]) }).objs.size],_,_,H,rfl,
  I1.kept (t':=tk) λb o e=>ah _ e,aS8 _ lo (hi - lo).toNat,?_,λb hb=>?_,q]
 .let e1:lo+((0:Nat):Int)*1=lo:=by simp
  let e2:(((hi-lo).toNat:Nat):Int)-((0:Nat):Int)=Builtin.Range.rangeSize lo hi 1:=by rw[rangeSize_one];split<;>omega
  rw[e1,e2];show au _ rfl
 .let e:b=(s.heap.push { cls:=.type "range",data:=.fields (List.toArray [.int lo t,.int hi u,.int 1 v]) }).objs.size:=by simpa using hb
  subst e;show I1.qK (ak _) (I1.bw.fresh (ak _))
def Wt(ta:TA):TI:=λσ H R=>ta σ H λvs H1=>∃j:Int,vs=[.int j]/\-(2 ^ 62)<=j/\j<2 ^ 62/\R (yF 0 j.toNat) H1
def Wu(ta:TA):TI:=λσ H R=>ta σ H λvs H1=>∃i j:Int,vs=[.int i,.int j]/\(-(2 ^ 62)<=i/\i<2 ^ 62/\-(2 ^ 62)<=j/\j<2 ^ 62)/\R (yF i (j-i).toNat) H1
def a29{a:Expr}{ta:TA}(hg:Gl X "range")(hm:X.mg "range"=none)(ha:PA X [a] ta)(hs:starEach [a] X.env=[(false,eval a X.env)]:=by rfl):PI X tg (.Call (.Name "range" p) [a] [] pos) (Wt ta):=by
 intro pi s σ H R I h;show Call_ (S7 I hg hm boot_range (cj (cF (ha pos pi s σ H _ I h) λus s1 bf=>?_) hs rfl));let#[vs,H1,I1,r1,q1]:=bf;let#[j,e,q1,q2,q]:=q1;subst e;cases r1 with
 |cons r rr =>
  cases rr;let#[t,rfl]:=r;show call_range_1 (Nk I1 () () q1 q2 (_/q))
def a28{a b:Expr}{ta:TA}(hg:Gl X "range")(hm:X.mg "range"=none)(ha:PA X [a,b] ta)(hs:starEach [a,b] X.env=[(false,eval a X.env),(false,eval b X.env)]:=by rfl)(iU:starEach [b] X.env=[(false,eval b X.env)]:=by rfl) :
  PI X tg (.Call (.Name "range" p) [a,b] [] pos) (Wu ta):=by
 intro pi s σ H R I h;show Call_ (S7 I hg hm boot_range (cj (cF (ha pos pi s σ H _ I h) λus s1 bf=>?_) (by rw[hs,iU]) (by rw[iU];rfl)));let#[vs,H1,I1,r1,q1]:=bf;let#[i,j,e,#[q1,q2,q3,q4],q]:=q1;subst e;cases r1 with
 |cons r rr =>
  cases rr with
  |cons r' rr =>
   cases rr;let#[t,rfl]:=r;let#[t',rfl]:=r';show call_range_2 (Nk I1 q1 q2 q3 q4 q)
def b00(wi:TI)(g:TG)(tb:TS):TS:=λD σ H=>wi σ H λJ H1=>∃W:Nat->Nat->St->Hp->Prop,(∃m,W 0 m σ H1)/\∀i m σ H,W i m σ H ->
 (J.stop i H/\D.nx σ H)\/(J.go i H/\∃N:St->Hp->Prop,(∀cv H',N cv H'->∃m',m'<m/\W (i+1) m' cv H')/\∀x H',J.tI i H x H'->g x σ H' λdh H2=>tb { D with nx:=N,ct:=N,bk:=D.nx } dh H2)
abbrev yh(fp:@&Addr)(h:Heap):@&(Addr×Obj):=fp.filterMap λb=>(h.get? b).map λo=>(b,o)
def EO{o:Obj}(hb:b∈fp)(e:h.get? b=!o):(b,o)∈yh fp h:=fX.mpr #[b,hb,by rw[e];rfl]
def a42{p:Addr×Obj}(hp:p∈yh fp h):p.1∈fp/\h.get? p.1=!p.2:=by
 let#[b,hb,e]:=fX.mp hp;cases q:h.get? b with
 |none=>simp_all
 |some o =>
  rw[q] at e;let e':=aJ e;subst e';show#[hb,q]
def Inv.pinned(I:Inv X pi σ H s)(hf:∀b∈fp,J7 X pi H b)(ho:∀b∈fp,∃o,s.heap.get? b=!o/\∀v,o.data≠.cell v):Inv X (pi++yh fp s.heap) σ H s :=
 I.yq λp hp=>(bh.mp hp).elim (λz=>I.pin p (bU _ z)) λz=>by
  let#[hb,e]:=a42 z;let#[f0,f1,f2,_]:=hf p.1 hb;let#[o,e',d]:=ho p.1 hb;rw[e] at e';cases e';show#[e,f0,f1,f2,d]
def Inv.En{pl:@&(Addr×Obj)}(I:Inv X (pi++pl) σ H s):Inv X pi σ H s:=I.yq λp hp=>I.pin p (bU _ (fq _ hp))
def Zi{iter:Expr}{body:@&Stmt}{wi:TI}{g:TG}{tb:TS}(hp:PassesOwn (model X.prog X.w) X.A X.env X.xe)(hc:X.calm=true)(hi:PI X tg iter wi)(hg:PG X tg g)(hb:jt X body tb)(hs:∀x,foldedSetIterable iter X.env x=pure x:=by intro _;rfl):PS X (.For tg iter body [] pos) (b00 wi g tb):=by
 intro pi s σ H D I h;show wpAny_For (cF (hi pi s σ H _ I h) λv s1 h1=>cF h1 λvZ s2 h2=>?_) hs;let#[it,fp,tn,J,H2,e,I2,T,oU,f2,W,#[m0,w0],turn]:=h2;subst e;let rq:∀{H':Hp},(∀b∈fp,H' b=none)->∀b∈fp,J7 X pi H' b:=λhn b hb=>#[hn b hb,(f2 b hb).2]
 show codeAny_forLoop_any (λn s'=>∃i cv H',Inv X pi cv H' s'/\tn i s'.heap/\(∀b∈fp,H' b=none)/\W i n cv H') ?_ m0 #[0,σ,H2,I2,oU,λb hb=>(f2 b hb).1,w0];rintro n s3 ⟨i,lJ,H3,I3,vz,xB,w3⟩;rcases turn i n lJ H3 w3 with⟨stop,qn⟩|⟨go,N,hN,step⟩
 .refine gx hp (cF (T.done X rfl rfl rfl hc i pi s3 lJ H3 X.xe I3 (rq xB) vz stop) ?_);rintro r s4 ⟨hr,I4⟩;subst hr;show vb #[lJ,H3,I4,qn]
 .refine gx hp (cF (T.item X rfl rfl rfl hc i pi s3 lJ H3 X.xe I3 (rq xB) vz go) ?_);rintro r s4 ⟨u,hr,h4⟩;subst hr;show gx hp (cF h4 λy s5 bf=>?_);let#[x,H5,I5,r5,y5,rA,De]:=bf;let Gf:=I5.pinned (rq De) (T.obj _ _ rA);show gx hp (cF (hg _ s5 lJ H5 x u _ Gf r5 (step x H5 y5)) λy s6 bf=>?_);let#[qZ,H6,I6,q6]:=bf;show gx hp (cF (hb _ s6 qZ H6 _ I6 q6) λf s7 q7=>?_);let again:∀{mY:St} {H7:Hp},Inv X (pi++yh fp s5.heap) mY H7 s7->N mY H7->∃m,m<n/\∃i cv H',Inv X pi cv H' s7/\tn i s7.heap/\(∀b∈fp,H' b=none)/\W i m cv H':=λ{mY H7} I7 n7=>by
   let#[m',hm,w7]:=hN mY H7 n7;show#[m',hm,i+1,mY,H7,I7.En,T.keep _ _ _ rA λb hb o e=>(I7.pin (b,o) (bU _ (bU _ (EO hb e)))).1,λb hb=>?_,w7];let#[o,e,d]:=T.obj _ _ rA b hb;show(I7.pin (b,o) (bU _ (bU _ (EO hb e)))).2.1
  cases f with
  |next=>let#[mY,H7,I7,n7]:=q7;show again I7 n7
  |cont=>let#[mY,H7,I7,n7]:=q7;show again I7 n7
  |brk=>let#[mY,H7,I7,q7]:=q7;show#[mY,H7,I7.En,q7]
  |ret v=>let#[x7,mY,H7,I7,r7,q7]:=q7;show#[x7,mY,H7,I7.En,r7,q7]
noncomputable abbrev R2:=V->V->Hp->VK->Prop
abbrev fc(X:Cx)(f:Value->Value->Sem Value)(r:R2):Prop :=
 ∀(pi:@&(Addr×Obj)) (s:Shared) (σ:St) (H:Hp) (x y:V) (v u:Value) (Q:VK),Inv X pi σ H s->RelV x v->RelV y u->r x y H Q ->
  wpAny (model X.prog X.w) X.A (f v u) (EP X pi σ Q) X.xe s
abbrev AV(X:Cx)(f:Value->Sem Value)(r:V->Hp->VK->Prop):Prop :=
 ∀(pi:@&(Addr×Obj)) (s:Shared) (σ:St) (H:Hp) (x:V) (v:Value) (Q:VK),Inv X pi σ H s->RelV x v->r x H Q ->
  wpAny (model X.prog X.w) X.A (f v) (EP X pi σ Q) X.xe s
abbrev j7(X:Cx)(f:Value)(r:@&V->Hp->VK->Prop):Prop :=
 ∀(pi:@&(Addr×Obj)) (s:Shared) (σ:St) (H:Hp) (xs:@&V) (us:@&Value) (Q:VK),Inv X pi σ H s->Vals xs us->r xs H Q ->
  wpAny (model X.prog X.w) X.A (call f us) (EP X pi σ Q) X.xe s
abbrev b60(X:Cx)(r:V->Hp->(Bool->Hp->Prop)->Prop):Prop :=
 ∀(pi:@&(Addr×Obj)) (s:Shared) (σ:St) (H:Hp) (x:V) (v:Value) (Q:Bool->Hp->Prop),Inv X pi σ H s->RelV x v->r x H Q ->
  wpAny (model X.prog X.w) X.A (truthy v) (TP X pi σ Q) X.xe s
def tK(r:R2)(ta tb:TE):TE:=λσ H Q=>ta σ H λx H1=>tb σ H1 λy H2=>r x y H2 Q
def OK(r:V->Hp->VK->Prop)(ta:TE):TE:=λσ H Q=>ta σ H λx H1=>r x H1 Q
def rI(C:Int->Int->Prop)(g:Int->Int->V):R2:=λx y H Q=>∃i j,x=.int i/\y=.int j/\C i j/\Q (g i j) H
def mB(g:Int->Int->V):R2:=λx y H Q=>∃i j,x=.int i/\y=.int j/\Q (g i j) H
abbrev rU(g:Int->V):V->Hp->VK->Prop:=λx H Q=>∃i,x=.int i/\Q (g i) H
section
variable{a b:Expr}
def Dw(ha:PE X a ta)(hb:PE X b tb){R:V->V->Hp->Prop}(I:Inv X pi σ H s)(h:ta σ H λx H1=>tb σ H1 λy H2=>R x y H2){f:Value->Value->Sem Value}(hf:∀v u s2 x y H2,Inv X pi σ H2 s2->RelV x v->RelV y u->R x y H2->wpAny (model X.prog X.w) X.A (f v u) Q X.xe s2) :
  wpAny (model X.prog X.w) X.A (eval a X.env) (λv bL=>wpAny (model X.prog X.w) X.A (eval b X.env) (λu gh=>wpAny (model X.prog X.w) X.A (f v u) Q X.xe gh) X.xe bL) X.xe s:=by
 show cF (ha pi s σ H _ I h) λv s1 bf=>?_;let#[x,H1,I1,r1,q1]:=bf;show cF (hb pi s1 σ H1 _ I1 q1) λu s2 bf=>?_;let#[y,H2,I2,r2,q2]:=bf;show hf v u s2 x y H2 I2 r1 r2 q2
def IQ{op:Operator}(ho:fc X (binaryOp op) r)(ha:PE X a ta)(hb:PE X b tb):PE X (.BinOp a op b pos) (tK r ta tb):=by
 intro pi s σ H Q I h;show wpAny_BinOp (Dw ha hb I h λv u s2 x y H2 I2 rx ry q=>ho pi s2 σ H2 x y v u Q I2 rx ry q)
def Xf{op:UnaryOp}{r:V->Hp->VK->Prop}(ho:AV X (unaryOp op) r)(ha:PE X a ta):PE X (.UnaryOp op a pos) (OK r ta):=by
 intro pi s σ H Q I h;show UnaryOp_ (cF (ha pi s σ H _ I h) (by rintro v s1 ⟨x,H1,I1,r1,q1⟩;show ho pi s1 σ H1 x v Q I1 r1 q1))
def vJ{f:Value->Value->Sem Value}{C:Int->Int->Prop}{g:Int->Int->Int}(rule:∀(i j:Int) (t u:Tok) (s:Shared) (Q:Value->Shared->Prop) (E:Value->Shared->Prop),C i j->Q (.int (g i j) s.toks) { s with toks:=s.toks+1 }->wpAny (model X.prog X.w) X.A (f (.int i t) (.int j u)) Q E s) :
  fc X f (rI C λi j=>.int (g i j)):=by
 intro pi s σ H x y v u Q I rx ry h;let#[i,j,rfl,rfl,hc,q]:=h;let#[t,rfl]:=rx;let#[t',rfl]:=ry;show rule i j t t' s _ _ hc #[.int (g i j),H,I.tok _,#[_,rfl],q]
def uz{f:Value->Value->Sem Value}{g:Int->Int->Int}(rule:∀(i j:Int) (t u:Tok) (s:Shared) (Q:Value->Shared->Prop) (E:Value->Shared->Prop),Q (.int (g i j) s.toks) { s with toks:=s.toks+1 }->wpAny (model X.prog X.w) X.A (f (.int i t) (.int j u)) Q E s) :
  fc X f (mB λi j=>.int (g i j)):=by
 intro pi s σ H x y v u Q I rx ry h;let#[i,j,rfl,rfl,q]:=h;let#[t,rfl]:=rx;let#[t',rfl]:=ry;show rule i j t t' s _ _ #[.int (g i j),H,I.tok _,#[_,rfl],q]
def Ay{f:Value->Value->Sem Value}{g:Int->Int->Bool}(rule:∀(i j:Int) (t u:Tok) (s:Shared) (Q:Value->Shared->Prop) (E:Value->Shared->Prop),Q (.bool (g i j)) s->wpAny (model X.prog X.w) X.A (f (.int i t) (.int j u)) Q E s) :
  fc X f (mB λi j=>.bl (g i j)):=by
 intro pi s σ H x y v u Q I rx ry h;let#[i,j,rfl,rfl,q]:=h;let#[t,rfl]:=rx;let#[t',rfl]:=ry;show rule i j t t' s _ _ #[.bl (g i j),H,I,rfl,q]
def Dq(i j:Int):Prop:=0<j/\j<1073741824
def T7(i j:Int):Prop:=0<=j/\j<=1000000/\i.natAbs<2 ^ 64
def sN(i j:Int):Prop:=(-(2 ^ 64)<i/\i<2 ^ 64)\/(-(2 ^ 64)<j/\j<2 ^ 64)
def sN.ok{i j:Int}(h:sN i j):IntMulOk i j:=by
 rcases h with⟨h1,h2⟩|⟨h1,h2⟩
 .exact .of_left (intBits_le_64 h1 h2)
 .exact .of_right (intBits_le_64 h1 h2)
def YD:fc X (binaryOp .Add) (mB λi j=>.int (i+j)):=uz λx x x x x x x q=>add_int q
def YQ:fc X (binaryOp .Sub) (mB λi j=>.int (i-j)):=uz λx x x x x x x q=>sub_int q
def YK:fc X (binaryOp .Mult) (rI sN λi j=>.int (i*j)):=vJ λx x x x x x x hc q=>mul_int q hc.ok
def Sm:fc X (binaryOp .FloorDiv) (rI Dq λi j=>.int (i / j)):=vJ λi j x x x x x hc q=>by
 let h1:=hc.1;let h2:=hc.2;show floordiv_int () (by rw[Int.fdiv_eq_ediv_of_nonneg i ()];show q) (.inl (PyProof.noPylong_small ()))
def YJ:fc X (binaryOp .Mod) (rI (λx j=>0<j) λi j=>.int (i % j)):=vJ λi j x x x x x hc q=>by
 show mod_int' () (by rw[Int.fmod_eq_emod_of_nonneg i ()];show q)
def YL:fc X (binaryOp .Pow) (rI T7 λi j=>.int (i ^ j.toNat)):=vJ λx x x x x x x hc q=>pow_int_small hc.1 hc.2.1 hc.2.2 q
def YO:fc X (binaryOp .LShift) (rI T7 λi j=>.int (i*2 ^ j.toNat)):=vJ λx x x x x x x hc q=>lshift_int_small hc.1 hc.2.1 hc.2.2 q
def YE:fc X (binaryOp .BitAnd) (mB λi j=>.int (Builtin.bitAnd i j)):=uz λx x x x x x x q=>and_int q
def WY:fc X (binaryOp .BitOr) (mB λi j=>.int (Builtin.bitOr i j)):=uz λx x x x x x x q=>or_int q
def RO:fc X (inplaceOp .Add) (mB λi j=>.int (i+j)):=uz λx x x x x x x q=>iadd_int q
def RP:fc X (inplaceOp .Sub) (mB λi j=>.int (i-j)):=uz λx x x x x x x q=>isub_int q
def OI{f:Value->Sem Value}{g:Int->Int}(rule:∀(i:Int) (t:Tok) (s:Shared) (Q:Value->Shared->Prop) (E:Value->Shared->Prop),Q (.int (g i) s.toks) { s with toks:=s.toks+1 }->wpAny (model X.prog X.w) X.A (f (.int i t)) Q E s) :
  AV X f (rU λi=>.int (g i)):=by
 intro pi s σ H x v Q I rx h;let#[i,rfl,q]:=h;let#[t,rfl]:=rx;show rule i t s _ _ #[.int (g i),H,I.tok _,#[_,rfl],q]
def bC1:AV X (unaryOp .USub) (rU λi=>.int (-(i))):=OI λx x x x x q=>neg_int q
end
abbrev JF:V->V->Bool
 |.aO,.aO=>true|.aO,.int _=>true|.int _,.aO=>true|.aO,.bl _=>true|.bl _,.aO=>true|.aO,.str _=>true|.str _,.aO=>true
 |.int _,.int _=>true|.bl _,.bl _=>true|.str _,.str _=>true|.lE _,.lE _=>true
 |.int _,.str _=>true|.str _,.int _=>true|.bl _,.str _=>true|.str _,.bl _=>true
 |_,_=>false
def OW:R2:=λx y H Q=>JF x y=true/\Q (.bl (decide (x=y))) H
def OV:R2:=λx y H Q=>JF x y=true/\Q (.bl (~~~decide (x=y))) H
def LH{i j:Int}:decide (V.int i=V.int j)=(i==j):=by
 rw[cB];simp
def zK{i j:Bool}:decide (V.bl i=V.bl j)=(i==j):=by
 rw[cB];simp
def LJ{i j:Str}:decide (V.str i=V.str j)=(i==j):=by
 rw[cB];simp
def LF{i j:Array UInt8}:decide (V.lE i=V.lE j)=(i.toList==j.toList):=by
 rw[cB];simp
section
variable{a b:Expr}{tc:TE}
def f7{Q:VK}{k k':Bool}(I:Inv X pi σ H s)(q:Q (.bl k) H)(e:k=k'):EP X pi σ Q (.bool k') s:=by
 subst e;show#[.bl k,H,I,rfl,q]
def Fi:fc X (compareOp .Eq) OW:=by
 intro pi s σ H x y v u Q I rx ry h;let#[hs,q]:=h;cases x with
 |aO =>
  cases rx;cases y with
  |aO=>cases ry;show PySem.EqNone.eq_none_none (f7 I q #[_])
  |bl j=>cases ry;show PySem.EqNone.eq_none_bool (f7 I q #[_])
  |int j=>let#[t',rfl]:=ry;show PySem.EqNone.eq_none_int (f7 I q #[_])
  |str j=>let#[t',rfl]:=ry;show PySem.EqNone.eq_none_str (f7 I q #[_])
  |_=>show absurd (show false=true from hs) Bool.false_ne_true
 |bl i =>
  cases rx;cases y with
  |aO=>cases ry;show PySem.EqNone.eq_bool_none (f7 I q #[_])
  |bl j=>cases ry;show eq_bool (f7 I q zK)
  |str j=>let#[t',rfl]:=ry;show PySem.EqMixed.eq_bool_str (f7 I q #[_])
  |_=>show absurd (show false=true from hs) Bool.false_ne_true
 |int i =>
  let#[t,rfl]:=rx;cases y with
  |aO=>cases ry;show PySem.EqNone.eq_int_none (f7 I q #[_])
  |int j=>let#[t',rfl]:=ry;show eq_int (f7 I q LH)
  |str j=>let#[t',rfl]:=ry;show PySem.EqMixed.eq_int_str (f7 I q #[_])
  |_=>show absurd (show false=true from hs) Bool.false_ne_true
 |str i =>
  let#[t,rfl]:=rx;cases y with
  |aO=>cases ry;show PySem.EqNone.eq_str_none (f7 I q #[_])
  |bl j=>cases ry;show PySem.EqMixed.eq_str_bool (f7 I q #[_])
  |int j=>let#[t',rfl]:=ry;show PySem.EqMixed.eq_str_int (f7 I q #[_])
  |str j=>let#[t',rfl]:=ry;show eq_str (f7 I q LJ)
  |_=>show absurd (show false=true from hs) Bool.false_ne_true
 |lE i =>
  let#[t,rfl]:=rx;cases y with
  |lE j=>let#[t',rfl]:=ry;show PySem.W.eq_bytes (f7 I q LF)
  |_=>show absurd (show false=true from hs) Bool.false_ne_true
 |_=>cases y<;>show absurd (show false=true from hs) bo
def Fj:fc X (compareOp .NotEq) OV:=by
 intro pi s σ H x y v u Q I rx ry h;let#[hs,q]:=h;cases x with
 |aO =>
  cases rx;cases y with
  |aO=>cases ry;show PySem.EqNone.ne_none_none (f7 I q #[_])
  |bl j=>cases ry;show PySem.EqNone.ne_none_bool (f7 I q #[_])
  |int j=>let#[t',rfl]:=ry;show PySem.EqNone.ne_none_int (f7 I q #[_])
  |str j=>let#[t',rfl]:=ry;show PySem.EqNone.ne_none_str (f7 I q #[_])
  |_=>show absurd (show false=true from hs) Bool.false_ne_true
 |bl i =>
  cases rx;cases y with
  |aO=>cases ry;show PySem.EqNone.ne_bool_none (f7 I q #[_])
  |bl j=>cases ry;show ne_bool (f7 I q (congrArg not zK))
  |str j=>let#[t',rfl]:=ry;show PySem.EqMixed.ne_bool_str (f7 I q #[_])
  |_=>show absurd (show false=true from hs) Bool.false_ne_true
 |int i =>
  let#[t,rfl]:=rx;cases y with
  |aO=>cases ry;show PySem.EqNone.ne_int_none (f7 I q #[_])
  |int j=>let#[t',rfl]:=ry;show ne_int (f7 I q (congrArg not LH))
  |str j=>let#[t',rfl]:=ry;show PySem.EqMixed.ne_int_str (f7 I q #[_])
  |_=>show absurd (show false=true from hs) Bool.false_ne_true
 |str i =>
  let#[t,rfl]:=rx;cases y with
  |aO=>cases ry;show PySem.EqNone.ne_str_none (f7 I q #[_])
  |bl j=>cases ry;show PySem.EqMixed.ne_str_bool (f7 I q #[_])
  |int j=>let#[t',rfl]:=ry;show PySem.EqMixed.ne_str_int (f7 I q #[_])
  |str j=>let#[t',rfl]:=ry;show ne_str (f7 I q (congrArg not LJ))
  |_=>show absurd (show false=true from hs) Bool.false_ne_true
 |lE i =>
  let#[t,rfl]:=rx;cases y with
  |lE j=>let#[t',rfl]:=ry;show PySem.W.ne_bytes (f7 I q (congrArg not LF))
  |_=>show absurd (show false=true from hs) Bool.false_ne_true
 |_=>cases y<;>show absurd (show false=true from hs) bo
def WX:fc X (compareOp .Lt) (mB λi j=>.bl (decide (i<j))):=Ay λx x x x x x x q=>lt_int q
def WW:fc X (compareOp .LtE) (mB λi j=>.bl (decide (i<=j))):=Ay λx x x x x x x q=>le_int q
def WV:fc X (compareOp .Gt) (mB λi j=>.bl (decide (j<i))):=Ay λx x x x x x x q=>gt_int q
def WU:fc X (compareOp .GtE) (mB λi j=>.bl (decide (j<=i))):=Ay λx x x x x x x q=>ge_int q
def a39:fc X (compareOp .In) (λx y H Q=>∃i j,x=.str i/\y=.str j/\Q (.bl (~~~(Builtin.Str.occurrences j i 0 (-j) 1).isEmpty)) H):=by
 intro pi s σ H x y v u Q I rx ry h;let#[i,j,rfl,rfl,q]:=h;let#[t,rfl]:=rx;let#[t',rfl]:=ry;show in_str (f7 I q rfl)
def YI:fc X (compareOp .Is) (λx y H Q=>y=.aO/\Q (.bl (decide (x=.aO))) H):=by
 intro pi s σ H x y v u Q I rx ry h;let#[rfl,q]:=h;cases ry;show is_none_gen (f7 I q ?_);cases x<;>first
  |(cases rx;rfl)
  |(let#[t,rfl]:=rx;rfl)
def Sn:fc X (compareOp .IsNot) (λx y H Q=>y=.aO/\Q (.bl (~~~decide (x=.aO))) H):=by
 intro pi s σ H x y v u Q I rx ry h;let#[rfl,q]:=h;cases ry;show isnot_none_gen (f7 I q ?_);cases x<;>first
  |(cases rx;rfl)
  |(let#[t,rfl]:=rx;rfl)
def aF1:fc X (compareOp .NotIn) (λx y H Q=>∃i j,x=.str i/\y=.str j/\Q (.bl (~~~(~~~(Builtin.Str.occurrences j i 0 (-j) 1).isEmpty))) H):=by
 intro pi s σ H x y v u Q I rx ry h;let#[i,j,rfl,rfl,q]:=h;let#[t,rfl]:=rx;let#[t',rfl]:=ry;show notIn_str (f7 I q rfl)
def Ml(ho:fc X (compareOp op) r)(ha:PE X a ta)(hb:PE X b tb)(hm:behindInMarks op b=false):PE X (.Compare a [op] [b] pos) (tK r ta tb):=by
 intro pi s σ H Q I h;show wpAny_Compare1 (Dw ha hb I h λv u s2 x y H2 I2 rx ry q=>ho pi s2 σ H2 x y v u Q I2 rx ry q) hm
def Fl(t:TE):TT:=λσ H Q=>t σ H λx H'=>∃k,x=.bl k/\Q k H'
def Mq(ho:fc X (compareOp op) r)(ha:PE X a ta)(hb:PE X b tb)(hm:behindInMarks op b=false):PT X (.Compare a [op] [b] pos) (Fl (tK r ta tb)):=by
 intro pi s σ H Q I h;show wpAny_isTrue_Compare1 (cF (ha pi s σ H _ I h) λv s1 ⟨x,H1,I1,r1,q1⟩=>cF (hb pi s1 σ H1 _ I1 q1) λu s2 ⟨y,H2,I2,r2,q2⟩ =>
  cF (ho pi s2 σ H2 x y v u _ I2 r1 r2 q2) λc s3 ⟨z,H3,I3,r3,k,e,q3⟩=>?_) hm
 subst e;cases r3;show cC #[H3,I3,q3]
def FP(r r':R2)(ta tb tc:TE):TE:=λσ H Q=>ta σ H λx H1=>tb σ H1 λy H2=>r x y H2 λz H3=>∃k,z=.bl k /\
 (if k=true then tc σ H3 λw' H4=>r' y w' H4 Q else Q (.bl false) H3)
def UQ{ip:CmpOp}{r':R2}(ho:fc X (compareOp op) r)(kP:fc X (compareOp ip) r')(ha:PE X a ta)(hb:PE X b tb)(hc:PE X c tc)(hm:lastMarks [op,ip] [b,c]=false:=by with_unfolding_all rfl):PE X (.Compare a [op,ip] [b,c] pos) (FP r r' ta tb tc):=by
 intro pi s σ H Q I h;show Compare_chain (cF (ha pi s σ H _ I h) λv s1 ⟨x,H1,I1,r1,q1⟩=>chain_link (cF (hb pi s1 σ H1 _ I1 q1) λu s2 ⟨y,H2,I2,r2,q2⟩ =>
  cF (ho pi s2 σ H2 x y v u _ I2 r1 r2 q2) λd s3 ⟨z,H3,I3,r3,k,e,q3⟩=>?_)) hm
 subst e;cases r3;show cC ?_;cases k with
 |false=>show ite_ff #[.bl false,H3,I3,rfl,q3]
 |true=>show ite_tt (chain_last (cF (hc pi s3 σ H3 _ I3 q3) (by rintro w' s4 ⟨z',H4,I4,r4,q4⟩;show kP pi s4 σ H4 y z' u w' Q I4 r2 r4 q4)))
def Vc{ip:CmpOp}{r':R2}(ho:fc X (compareOp op) r)(kP:fc X (compareOp ip) r')(ha:PE X a ta)(hb:PE X b tb)(hc:PE X c tc)(hm:lastMarks [op,ip] [b,c]=false:=by with_unfolding_all rfl):PT X (.Compare a [op,ip] [b,c] pos) (Fl (FP r r' ta tb tc)):=by
 intro pi s σ H Q I h;show isTrue_chain (cF (ha pi s σ H _ I h) λv s1 ⟨x,H1,I1,r1,q1⟩=>test_link (cF (hb pi s1 σ H1 _ I1 q1) λu s2 ⟨y,H2,I2,r2,q2⟩ =>
  cF (ho pi s2 σ H2 x y v u _ I2 r1 r2 q2) λd s3 ⟨z,H3,I3,r3,k,e,q3⟩=>?_)) hm
 subst e;cases r3;show cC ?_;cases k with
 |false =>
  let#[k',e',q']:=q3;cases e';show ite_ff #[H3,I3,q']
 |true =>
  show ite_tt (test_last (cF (hc pi s3 σ H3 _ I3 q3) ?_));rintro w' s4 ⟨z',H4,I4,r4,q4⟩;show cF (kP pi s4 σ H4 y z' u w' _ I4 r2 r4 q4) λd' s5 bf=>?_;let#[z2,H5,I5,r5,k2,e2,q5]:=bf;subst e2;cases r5;show cC #[H5,I5,q5]
abbrev Du(K:PySem.W.Frag)(x:V)(H:Hp)(k:Bool):Prop :=
 match x with
 |.aO=>k=false
 |.bl b=>k=b
 |.int i=>k=(i != 0)
 |.str y=>-y<=sizeLine/\k=((-y:Int) != 0)
 |.lE y=>y.size<=sizeLine/\k=((y.size:Int) != 0)
 |.ref p=>(∃xs,fR K H p xs/\k= ~~~xs.isEmpty)\/(∃xs,gm K H p xs/\k= ~~~xs.isEmpty)\/∃kvs,H p=!.dK kvs/\k= ~~~kvs.isEmpty
 |_=>False
def aW3{κ:Type}{kvs:@&(κ×V)}{vs:@&(κ×Value)}(r:KV kvs vs):(~~~vs.isEmpty)= ~~~kvs.isEmpty:=by
 cases r<;>rfl
def KA{aX:@&Value}(r:Vals xs aX):(~~~aX.toArray.isEmpty)= ~~~xs.isEmpty:=by
 cases r<;>simp
def ye:(sizeLine:Nat)<2 ^ 63:=by rw[tB];decide
def bC4:b60 X (λx H Q=>∃k,Du X.K x H k/\Q k H):=by
 intro pi s σ H x v Q I rx h;let#[k,e,q]:=h;let hs:=tB;cases x with
 |aO =>
  cases rx;let e':=e;subst e';show truthy_none #[H,I,q]
 |bl b =>
  cases rx;let e':=e;subst e';show cC #[H,I,q]
 |int i =>
  let#[t,rfl]:=rx;let e':=e;subst e';show PySem.P.truthy_int #[H,I,q]
 |str y =>
  let#[t,rfl]:=rx;let#[hy,e']:=e;subst e';show PySem.P.truthy_str () #[H,I.tok _,q]
 |lE y =>
  let#[t,rfl]:=rx;let#[hy,e']:=e;subst e';show PySem.W.truthy_bytes () #[H,I.tok _,q]
 |ref p =>
  cases rx;let e':=e;rcases e' with⟨xs,hx,e'⟩|⟨xs,hx,e'⟩|⟨kvs,hx,e'⟩
  .subst e';let#[aX,r,pl,hz]:=I.list hx;let hlen:=-r;show wpAny_truthy_list pl.isList (by simp only[List.size_toArray];omega) #[H,I.tok _,by rw[KA r];show q]
  .subst e';let#[aX,r,pl,hz]:=I.tuple hx;let hlen:=-r;show truthy_tuple pl (by simp only[List.size_toArray];omega) #[H,I.tok _,by rw[KA r];show q]
  .subst e';let#[hz,hS,vs,r,m]:=I.bw p _ hx;let hlen:=mx r;show wpAny_truthy_dict hS m () #[H,I.tok _,by rw[aW3 r];show q]
 |_=>show(show False from e).elim
def Vd(ha:PE X a ta)(he:∀whole,isTrue a X.env whole=(do let v <- whole;standAt a.pos;holding [v] (truthy v))) :
  PT X a (λσ H Q=>ta σ H λx H'=>∃k,Du X.K x H' k/\Q k H'):=by
 intro pi s σ H Q I h;show isTrue_plain (cF (ha pi s σ H _ I h) (by rintro v s1 ⟨x,H1,I1,r1,q1⟩;show bC4 pi s1 σ H1 x v Q I1 r1 q1)) (he _)
def aU4:fc X (binaryOp .Add) (λx y H Q=>∃i j,x=.str i/\y=.str j/\-i+-j<=sizeLine/\Q (.str (i++j)) H):=by
 intro pi s σ H x y v u Q I rx ry h;let#[i,j,rfl,rfl,hz,q]:=h;let#[t,rfl]:=rx;let#[t',rfl]:=ry;show add_str (λt' tk=>#[.str (i++j),H,I.tok _,#[_,rfl],q]) hz
def vals1{x:V}(r:Vals [x] us):∃u,us=[u]/\RelV x u:=by
 cases r with
 |cons r1 r2=>cases r2;show#[_,rfl,r1]
def vals2{x y:V}(r:Vals [x,y] us):∃u w',us=[u,w']/\RelV x u/\RelV y w':=by
 cases r with
 |cons r1 r2 =>
  cases r2 with
  |cons r3 r4=>cases r4;show#[_,_,rfl,r1,r3]
def a94(hc:X.calm=true):j7 X (.builtin "min") (λxs H Q=>∃i j,xs=[.int i,.int j]/\Q (.int (if j<i then j else i)) H):=by
 intro pi s σ H xs us Q I r h;let#[i,j,rfl,q]:=h;let#[u,w',rfl,#[t,rfl],#[t',rfl]]:=vals2 r;show min_two_ints (I.ok.hd hc) λh' tk k=>#[_,H,I.kept k,?_,q]
 by_cases hj:j<i
 .rw[av hj,av hj];show#[_,rfl]
 .rw[aw hj,aw hj];show#[_,rfl]
def JV:j7 X (.type "int") (λxs H Q=>(∃i,xs=[.int i]/\Q (.int i) H)\/∃k,xs=[.bl k]/\Q (.int (if k then 1 else 0)) H):=by
 intro pi s σ H xs us Q I r h;rcases h with⟨i,rfl,q⟩|⟨k,rfl,q⟩
 .let#[u,rfl,t,rfl]:=vals1 r;show call_int_int #[.int i,H,I,#[_,rfl],q]
 .let#[u,rfl,r1]:=vals1 r;cases r1;show call_int_bool #[.int (if k then 1 else 0),H,I.tok _,#[_,rfl],q]
def aJ2:j7 X (.type "str") (λxs H Q=>∃i,xs=[.int i]/\i.natAbs.log2<1920/\Q (.str (toString i)) H):=by
 intro pi s σ H xs us Q I r h;let#[i,rfl,hz,q]:=h;let#[u,rfl,t,rfl]:=vals1 r;show PySem.P.str_of_int hz #[.str _,H,I.tok _,#[_,rfl],q]
end
structure sQ(h:Heap)(x dx C:Addr)(mA:Str->Option Value):Prop where
 obj:h.get? x=!PySem.W.instObj C dx
 ns:h.Ns1 dx mA
 ne:dx≠x
set_option tactic.hygienic true in
def Ke{mA:Str->Option Value}(n:h.Ns1 dx mA):∃od,h.get? dx=!od/\∀name,PySem.W.lookIn name od=!mA name:=by
 let#[o,es,ep,ho,hd,hk,_,hm]:=n;show#[o,ho,λname=>?_];let e:=hm name;unfold nsFind findBy at e;rw[<- Array.find?_toList] at e;unfold PySem.W.lookIn;rw[hd];dsimp only;split
 .rename_i y q;rw[q] at e;show gY some e
 .rename_i q;rw[q] at e;let a:es.toList.any (·.refKey)=false:=by
   rw[List.any_eq_false];intro y hy;let#[z,t,pz]:=hk y (Array.mem_toList_iff.mp hy);simp[DictEntry.refKey,pz]
  let a':¬es.toList.any (·.refKey)=true:=by rw[a];show bo
  rw[aw a'];show gY some e
def sQ.look{x:Addr}{mA:Str->Option Value}(I:sQ h x dx C mA):∃od,PySem.W.InstAt h x (PySem.W.instObj C dx) C (!od)/\∀name,PySem.W.lookIn name od=!mA name :=
 let ⟨od,ho,hl⟩:=Ke I.ns
 #[od,#[I.obj,rfl,rfl,ho],hl]
section
variable{prog:Program}{x:Addr}{mA:Str->Option Value}{name:Str}{v:Value}
def get_map{expr:Bool}(X:K.In s.heap)(I:sQ s.heap x dx C mA)(hg:PySem.W.plainGet K C name=true)(hh:PySem.W.hasDictIn K C=true)(ha:PySem.W.findIn K (.ref C) name=!none)(hv:mA name=!v)(BC:PySem.W.handedIn v=true)(h:Q v { s with toks:=s.toks+1 }) :
  wpAny (model prog w) A (getAttr (.ref x) name expr) Q E s:=by
 let#[od,J,hl]:=I.look;show PySem.W.get_value X J (jw hg).1 (PySem.W.findObj_own hh ha rfl (by rw[hl,hv])) BC h
def Ur{pl:Sem Bool}{Q:Value×@&Value->Shared->Prop}(X:K.In s.heap)(I:sQ s.heap x dx C mA)(hg:PySem.W.plainGet K C name=true)(hf:PySem.W.findIn K (.ref C) name=!!.ref f)(ht:PySem.W.isFn K (.ref f)=true)(hv:mA name=none)(h:Q (.ref f,[.ref x]) s) :
  wpAny (model prog w) A (getMethod (.ref x) name pl) Q E s:=by
 let#[od,J,hl]:=I.look;show PySem.W.method_fn X J (jw hg).1 (jw hg).2 hf (fV.mp ht) (by show(PySem.W.lookIn name od).map (·.isSome)=!false;simp_all) h
def Td{ns:@&Str}{Q:Unit->Shared->Prop}(X:K.In s.heap)(I:sQ s.heap x dx C mA)(hs:PySem.W.findIn K (.ref C) "__setattr__"=!!(.builtin "object.__setattr__"))(hp:PySem.W.plainOver K C=true)(ht:PySem.W.takerIn K C name=!none)(hh:PySem.W.hasDictIn K C=true)(hw:PySem.Within mA ns)(gC:-ns<=sizeLine)(h:∀h',sQ h' x dx C (λy=>if y=name then some v else mA y)->Heap.SameBut dx s.heap h'->Q Unit.unit { s with heap:=h',toks:=s.toks+2 }) :
  wpAny (model prog w) A (setAttr (.ref x) name v) Q E s:=by
 let#[od,J,hl]:=I.look;show PySem.W.set_plain X J hs (PySem.W.osa_open X J hp ht λb=>?_);let#[cd,hc,sj]:=PySem.W.any_some hh;let hx:=I.obj;show aa (ai (aa (aa (wpAny_loadPart hx (aa (PySem.W.Looks.here (PySem.W.looks_clsIn X hc) ?_))))));rw[sj];show ai (aa (ai (aa ?_)));show wpAny_nsSet1 I.ns λh' nF iU=>?_;let#[oD,esD,epD,Qh,QA,QC]:=nF.count (PySem.Within.cons name v hw);show aa (wpAny_lookBehind Qh (by rw[QA];show pastItsLine_dict (aF QC (by grind))) ?_);show ai (h _ #[(iU.2 _ (bq I.ne)).trans I.obj,nF,I.ne] iU)
def UA{R:Result->Shared->Prop}{vs:@&Value}{kw:@&(Str×Value)}(X:K.In s.heap)(hm:PySem.W.makesIn K C=true)(hi:PySem.W.findIn K (.ref C) "__init__"=!!.ref f)(hf:PySem.W.typeIn K (.ref f)=!(.type "function"))(h:codeAny (model prog w) (A.under (.builtin "type.__call__" #[.ref C :: vs,kw])) (.call (.ref f) #[.ref (s⁻¹ + 1) :: vs,kw]) (PySem.W.InitBack (s⁻¹ + 1) R)
   { s with heap:=(s.heap.push PySem.W.emptyDict).push (PySem.W.instObj C s⁻¹) }) :
  codeAny (model prog w) A (.call (.ref C) #[vs,kw]) R s:=by
 show PySem.W.make_core (PySem.W.makes_of X hm) (PySem.W.looks_findIn X hi) (λself=>PySem.W.bind_fn X self hf) (.inl rfl) h
end
abbrev u9(f:Str)(v:V):@&(Str×V)->@&(Str×V)
 |[]=>[(f,v)]
 |(g,x)::r=>if g=f then(g,v)::r else(g,x)::u9 f v r
def KY(f g:Str)(v:V):∀fs:@&(Str×V),(u9 f v fs).lookup g=if g=f then some v else fs.lookup g
 |[]=>by
  change List.lookup g [(f,v)]=_;by_cases h:g=f
  .let hb:=fV.mpr h;simp only[List.lookup,hb,if_pos h]
  .let hb:=cN.mpr h;simp only[List.lookup,hb,if_neg h]
 |(k,x)::r=>by
  let ih:=KY f g v r;rw[show u9 f v ((k,x)::r)=(if k=f then(k,v)::r else(k,x)::u9 f v r) from rfl];by_cases hk:k=f
  .rw[av hk];by_cases h:g=k
   .let hb:=fV.mpr h;simp only[List.lookup,hb,if_pos (h.trans hk)]
   .let hb:=cN.mpr h;simp only[List.lookup,hb,if_neg (λe:g=f=>h (e.trans hk.symm))]
  .rw[aw hk];by_cases h:g=k
   .let hb:=fV.mpr h;simp only[List.lookup,hb,if_neg (λe:g=f=>hk (h.symm.trans e))]
   .let hb:=cN.mpr h;simp only[List.lookup,hb];show ih
def Es(f:Str)(v:V):∀fs:@&(Str×V),f∈(u9 f v fs).map (·.1)/\∀g,g∈fs.map (·.1)->g∈(u9 f v fs).map (·.1)
 |[]=>#[by simp[u9],λg h=>by simp at h]
 |(k,x)::r=>by
  let#[i1,i2]:=Es f v r;rw[show u9 f v ((k,x)::r)=(if k=f then(k,v)::r else(k,x)::u9 f v r) from rfl];by_cases hk:k=f
  .rw[av hk]
   grind
  .rw[aw hk];show#[?_,λg h=>?_]
   .exact bK _ i1
   .rcases aE.mp h with e|e
    .exact aE.mpr (.inl e)
    .exact bK _ (i2 g e)
def KW(f:Str)(v:V):∀fs:@&(Str×V),(u9 f v fs).length<=-fs+1
 |[]=>by simp[u9]
 |(k,x)::r=>by
  let ih:=KW f v r;rw[show u9 f v ((k,x)::r)=(if k=f then(k,v)::r else(k,x)::u9 f v r) from rfl]
  grind
def E0.some_of{o:Option Value}(r:E0 (!v) o):∃u,o=!u/\RelV v u:=by
 cases o with
 |none=>show(show False from r).elim
 |some u=>show#[u,rfl,r]
def E0.none_of{o:Option Value}(r:E0 none o):o=none:=by
 cases o with
 |none=>rfl
 |some u=>show(show False from r).elim
def a79(r:RelV v u):PySem.W.handedIn u=true:=by
 cases v with
 |aO=>cases (show u=Value.none from r);rfl
 |bl b=>cases (show u=Value.bool b from r);rfl
 |int i=>let#[t,e]:=(show ∃t,u=Value.int i t from r);cases e;rfl
 |str x=>let#[t,e]:=(show ∃t,u=Value.str x t from r);cases e;rfl
 |lE b=>let#[t,e]:=(show ∃t,u=Value.bytes b t from r);cases e;rfl
 |sD b=>let#[t,e]:=(show ∃t,u=Value.float b t from r);cases e;rfl
 |ref a=>cases (show u=Value.ref a from r);rfl
 |ty n=>cases (show u=Value.type n from r);rfl
section
variable{fs:@&(Str×V)}
def Ab(bw:fN P w H h)(e:H a=!.ins C dx fs):∃mA,sQ h a dx C mA/\(∀f,E0 (fs.lookup f) (mA f))/\PySem.Within mA (fs.map (·.1))/\-fs<=1000/\H dx=!.own a:=by
 let#[d,z,ne,ob,mA,n,r,q]:=(show j5 P w H h a (.ins C dx fs) from bw a _ e)
 show#[mA,#[ob,n,ne],r,q,z,d]
end
structure iY(K:PySem.W.Frag)(C:Addr):Prop where
 pg:PySem.W.plainGet K C Str.empty=true
 hd:PySem.W.hasDictIn K C=true
 po:PySem.W.plainOver K C=true
 sa:PySem.W.findIn K (.ref C) "__setattr__"=!!(.builtin "object.__setattr__")
def iY.get(c:iY K C)(f:Str):PySem.W.plainGet K C f=true:=c.pg
def C0(K:PySem.W.Frag)(C:Addr)(f:Str):Prop:=PySem.W.findIn K (.ref C) f=!none
def C0.XF{f:Str}(n:C0 K C f):PySem.W.takerIn K C f=!none:=by
 unfold PySem.W.takerIn;rw[show PySem.W.findIn K (.ref C) f=some none from n]
 rfl
structure Meth(K:PySem.W.Frag)(C:Addr)(m:Str)(f:Addr):Prop where
 at_:PySem.W.findIn K (.ref C) m=!!.ref f
 fn:PySem.W.isFn K (.ref f)=true
 kp:PySem.W.keepIn K (.ref f)=true
section
variable{fs:@&(Str×V)}{f:Str}
def Ky{b:Bool}(I:Inv X pi σ H s)(e:H a=!.ins C dx fs)(c:iY X.K C)(n:C0 X.K C f)(l:fs.lookup f=!v)(h:∀u s',Inv X pi σ H s'->RelV v u->Q u s'):wpAny (model X.prog X.w) A (getAttr (.ref a) f b) Q E s:=by
 let#[mA,O,r,_,_,_]:=Ab I.bw e;let#[u,hu,ru]:=E0.some_of (by rw[<- l];show r f);show get_map I.fU O (c.get f) c.hd n hu (a79 ru) (h u _ (I.tok _) ru)
def Kz{g:Addr}{pl:Sem Bool}{Q:Value×@&Value->Shared->Prop}(I:Inv X pi σ H s)(e:H a=!.ins C dx fs)(c:iY X.K C)(k:Meth X.K C m g)(l:fs.lookup m=none)(h:Q (.ref g,[.ref a]) s):wpAny (model X.prog X.w) A (getMethod (.ref a) m pl) Q E s:=by
 let#[mA,O,r,_,_,_]:=Ab I.bw e;let hn:=E0.none_of (by rw[<- l];show r m);show Ur I.fU O (c.get m) k.at_ k.fn hn h
def KJ{y:V}{Q:Unit->Shared->Prop}(I:Inv X pi σ H s)(e:H a=!.ins C dx fs)(c:iY X.K C)(n:C0 X.K C f)(hl:-fs<1000)(ry:RelV y u)(h:∀s',Inv X pi σ (upd H a (.ins C dx (u9 f y fs))) s'->Q Unit.unit s'):wpAny (model X.prog X.w) A (setAttr (.ref a) f u) Q E s:=by
 let#[mA,O,r,wi,_,ho]:=Ab I.bw e;let hz:(fs.map (·.1)).length<=sizeLine:=by rw[aj,tB];omega
 show Td I.fU O c.sa c.po n.XF c.hd wi hz λh' O' sb=>h _ ?_;let hd:∃o,h'.get? dx=!o:=let ⟨o,_,_,e',_⟩:=O'.ns;#[o,e']
 show I.write (by rw[e];show True.intro) (.inr ho) (λb q hb z=>(sb.2 b hb).trans z) hd ?_;show#[by rw[d6 O.ne];show ho,?_,O.ne,O'.obj,_,O'.ns,λg=>?_,λg hg=>?_]
 .have:=KW f y fs;omega
 .change E0 ((u9 f y fs).lookup g) (if g=f then some u else mA g);rw[KY];by_cases q:g=f
  .rw[av q,av q];show ry
  .rw[aw q,aw q];show r g
 .by_cases q:g=f
  .rw[q];show(Es f y fs).1
  .refine(Es f y fs).2 g (wi g λz=>hg ?_);show(if g=f then some u else mA g)=none;rw[aw q];show z
def Inv.made(I:Inv X pi σ H s):Inv X pi σ (upd (upd H s⁻¹ (.own (s⁻¹+1))) (s⁻¹+1) (.ins C s⁻¹ []))
  { s with heap:=(s.heap.push PySem.W.emptyDict).push (PySem.W.instObj C s⁻¹) }:=by
 let e1:(s.heap.push PySem.W.emptyDict).get? s⁻¹=!PySem.W.emptyDict:=au s.heap rfl;let e2:((s.heap.push PySem.W.emptyDict).push (PySem.W.instObj C s⁻¹)).get? (s⁻¹+1)=!(PySem.W.instObj C s⁻¹):=by
  have:=au (s.heap.push PySem.W.emptyDict) (o:=PySem.W.instObj C s⁻¹) rfl
  rwa [cO] at this
 let e3:(s.heap.push PySem.W.emptyDict).Ns s⁻¹ (λx=>none):=#[PySem.W.emptyDict,(List.toArray []),_,e1,rfl,(λe he=>absurd he #[_]),λx=>rfl]
 let I1:=I.laid (o:=.own (s⁻¹+1)) (h':=s.heap.push PySem.W.emptyDict) (t':=s.toks) (λb u q=>ah _ q) (ak _) #[_,e1];show I1.laid (t':=s.toks) (λb u q=>ah _ q) (Nat.le_of_eq (cO _ _)) ?_;let ne:s⁻¹≠s⁻¹+1:=aD (lI _);show#[by rw[d6 ne,k9],cQ _,ne,e2,λx=>none,(Heap.Ns1.of_empty e3).at λo q=>ah _ q,λx=>True.intro,λy hy=>absurd rfl hy]
def bB0{prog:Program}{env:Env}(hb:attributeBase e f env (eval e env)=eval e env)(h:wpAny (model prog w) A (eval e env) (λo bL=>wpAny (model prog w) A (getAttr o f true) Q E bL) E s):wpAny (model prog w) A (eval (.Attribute e f pos) env) Q E s :=
 Attribute_any_ h (by rw[arm_eval_Attribute,hb])
end
def b01(K:PySem.W.Frag)(ta:TE)(f:Str):TE:=λσ H Q=>ta σ H λx H1=>∃a C dx fs v,x=.ref a/\H1 a=!.ins C dx fs/\iY K C/\C0 K C f/\fs.lookup f=!v/\Q v H1
def b16(K:PySem.W.Frag)(ta tv:TE)(f:Str):TS:=λD σ H=>tv σ H λy H1=>ta σ H1 λx H2=>∃a C dx fs,x=.ref a/\H2 a=!.ins C dx fs/\iY K C/\C0 K C f/\-fs<1000 /\
 D.nx σ (upd H2 a (.ins C dx (u9 f y fs)))
abbrev Dr(X:Cx)(op:Operator)(rd:V->V->Hp->VK->Prop):Prop :=
 ∀(pi:@&(Addr×Obj)) (s:Shared) (σ:St) (H:Hp) (x y:V) (u v:Value) (Q:VK),Inv X pi σ H s->RelV x u->RelV y v->rd x y H Q->wpAny (model X.prog X.w) X.A (inplaceOp op u v) (EP X pi σ Q) X.xe s
def SS(K:PySem.W.Frag)(ta tv:TE)(rd:V->V->Hp->VK->Prop)(f:Str):TS:=λD σ H=>ta σ H λx H1=>∃a C dx fs v,x=.ref a/\H1 a=!.ins C dx fs/\iY K C/\C0 K C f/\fs.lookup f=!v /\
 tv σ H1 λy H2=>rd v y H2 λz H3=>∃ur iX,H3 a=!.ins C ur iX/\-iX<1000/\D.nx σ (upd H3 a (.ins C ur (u9 f z iX)))
section
variable{o value:Expr}{f:Str}{vo:Pos}{tv:TE}
def YV(he:PE X e ta)(hb:attributeBase e f X.env (eval e X.env)=eval e X.env):PE X (.Attribute e f pos) (b01 X.K ta f):=by
 intro pi s σ H Q I h;show bB0 hb (cF (he pi s σ H _ I h) λu s1 bf=>?_);let#[x,H1,I1,rx,a,C,dx,fs,v,ex,ea,c,n,l,q]:=bf;subst ex;obtain rfl:u=Value.ref a:=rx;show Ky I1 ea c n l λu' s2 I2 ru=>#[v,H1,I2,ru,q]
def Zh(ha:PE X o ta)(hv:PE X value tv)(hs:swapsWith value (!.Attribute o f pos') pos.line X.env=pure false):PS X (.Assign [.Attribute o f pos'] value pos) (b16 X.K ta tv f):=by
 intro pi s σ H D I h;show plainObj_wpAny_Assign_Attribute (cF (hv pi s σ H _ I h) ?_) hs;rintro u s1 ⟨y,H1,I1,ry,q⟩;show cF (ha pi s1 σ H1 _ I1 q) λov s2 bf=>?_;let#[x,H2,I2,rx,a,C,dx,fs,ex,ea,c,n,l,q2]:=bf;subst ex;obtain rfl:ov=Value.ref a:=rx;show KJ I2 ea c n l ry λs3 I3=>#[σ,_,I3,q2]
def a25{op:Operator}{rd:V->V->Hp->VK->Prop}(ha:PE X o ta)(hv:PE X value tv)(pk:Dr X op rd):PS X (.AugAssign (.Attribute o f vo) op value pos) (SS X.K ta tv rd f):=by
 intro pi s σ H D I h;show wpAny_AugAssign_AttributeAny (cF (ha pi s σ H _ I h) λov s1 bf=>?_);let#[x,H1,I1,rx,a,C,dx,fs,v,ex,ea,c,n,l,q]:=bf;subst ex;obtain rfl:ov=Value.ref a:=rx;show Ky I1 ea c n l λu s2 I2 ru=>cF (hv pi s2 σ H1 _ I2 q) ?_;rintro w3 s3 ⟨y,H2,I3,ry,q3⟩;show cF (pk pi s3 σ H2 v y u w3 _ I3 ru ry q3) λw4 s4 bf=>?_;let#[z,H3,I4,rz,ur,iX,Rz,l',q4]:=bf;show KJ I4 Rz c n l' rz λs5 I5=>#[σ,_,I5,q4]
abbrev b26:V->V->Hp->VK->Prop:=λx y H Q=>∃i j,x=.int i/\y=.int j/\Q (.int (i+j)) H
def Yg:Dr X .Add b26:=by
 rintro pi s σ H x y u v Q I rx ry ⟨i,j,rfl,rfl,q⟩;let#[t,rfl]:=(show ∃t,u=Value.int i t from rx)
 let#[t',rfl]:=(show ∃t',v=Value.int j t' from ry)
 show PyProof.Rows.iadd_int #[.int (i+j),H,I.tok _,#[_,rfl],q]
end
section
variable{c:Value}{b:Bool}
inductive gS(K:PySem.W.Frag)(H:Hp):V->Value->Prop where
 |aO:gS K H .aO (.type "NoneType")
 |bl (x:Bool):gS K H (.bl x) (.type "bool")
 |int (i:Int):gS K H (.int i) (.type "int")
 |str (x:Str):gS K H (.str x) (.type "str")
 |sD (x:UInt64):gS K H (.sD x) (.type "float")
 |lst {a:Addr} {xs:@&V} (e:H a=!.lst xs):gS K H (.ref a) (.type "list")
 |jH {a:Addr} {o:Obj} {xs:@&V} (e:H a=!.jH o (.lst xs)):gS K H (.ref a) (.type "list")
 |tup {a:Addr} {xs:@&V} (e:H a=!.tup xs):gS K H (.ref a) (.type "tuple")
 |dK {a:Addr} {kvs:@&(Key×V)} (e:H a=!.dK kvs):gS K H (.ref a) (.type "dict")
 |dT {a:Addr} {kvs:@&(List Key×V)} (e:H a=!.dT kvs):gS K H (.ref a) (.type "dict")
 |ins {a C dx:Addr} {fs:@&(Str×V)} (e:H a=!.ins C dx fs) (cl:iY K C) (ha:PySem.W.findIn K (.ref C) "__class__"=!!(.builtin "object.__class__"))
   (hn:PySem.W.specialIn K (.builtin "object.__class__") "__get__"=!!(.builtin "getset_descriptor.__get__")) (wg:PySem.W.takesIn K (.builtin "object.__class__")=!true)
   (hm:PySem.W.mroIn K C (.type "object")=!true):gS K H (.ref a) (.ref C)
def a72{x:V}{t:Value}(I:Inv X pi σ H s)(rx:RelV x u)(ty:gS X.K H x t)(e:PySem.W.kitOne X.K t c=!b)(h:∀tk,Q (.bool b) { s with toks:=tk }) :
  wpAny (model X.prog X.w) A (call (.builtin "isinstance") [u,c]) Q E s:=by
 cases ty with
 |aO=>cases (show u=Value.none from rx);show bO PySem.W.kitx_none I.fU True.intro e (λz=>nomatch z) h
 |bl y=>cases (show u=Value.bool y from rx);show bO PySem.W.kitx_bool I.fU True.intro e (λz=>nomatch z) h
 |int i=>let#[t,q]:=(show ∃t,u=Value.int i t from rx);cases q;show bO PySem.W.kitx_int I.fU True.intro e (λz=>nomatch z) h
 |str y=>let#[t,q]:=(show ∃t,u=Value.str y t from rx);cases q;show bO PySem.W.kitx_str I.fU True.intro e (λz=>nomatch z) h
 |sD y=>let#[t,q]:=(show ∃t,u=Value.float y t from rx);cases q;show bO PySem.W.kitx_float I.fU True.intro e (λz=>nomatch z) h
 |@lst a xs ea =>
  cases (show u=Value.ref a from rx);let#[_,_,n,_,h1]:=(show j5 X.prog X.w H s.heap a (.lst xs) from I.bw a _ ea)
  show bO PySem.W.kitx_list I.fU #[_,h1,rfl] e (λz=>nomatch z) h
 |@jH a ob xs ea =>
  cases (show u=Value.ref a from rx);let#[_,_,_,n,_,h1]:=(show j5 X.prog X.w H s.heap a (.jH ob (.lst xs)) from I.bw a _ ea)
  show bO PySem.W.kitx_list I.fU #[_,h1,rfl] e (λz=>nomatch z) h
 |@tup a xs ea =>
  cases (show u=Value.ref a from rx);let#[_,_,_,p]:=(show j5 X.prog X.w H s.heap a (.tup xs) from I.bw a _ ea)
  let#[o,h1,h2,_]:=p;show bO Oy I.fU #[o,h1,h2] e (λz=>nomatch z) h
 |@dK a kvs ea =>
  cases (show u=Value.ref a from rx);let#[_,_,vs,_,p]:=(show j5 X.prog X.w H s.heap a (.dK kvs) from I.bw a _ ea)
  let#[o,es,ep,h1,h2,_]:=p;show bO PySem.W.kitx_dict I.fU #[o,h1,h2.1] e (λz=>nomatch z) h
 |@dT a kvs ea =>
  cases (show u=Value.ref a from rx);let#[_,_,xs,_,o,es,ep,h1,h2,_]:=(show j5 X.prog X.w H s.heap a (.dT kvs) from I.bw a _ ea)
  show bO PySem.W.kitx_dict I.fU #[o,h1,h2.1] e (λz=>nomatch z) h
 |@ins a C dx fs ea cl ha hn wg hm =>
  cases (show u=Value.ref a from rx);let#[mA,O,_]:=Ab I.bw ea;let#[od,J,_]:=O.look;show bO (PySem.W.kitx_own (cl.get _) cl.hd ha hn wg hm) I.fU J e (λz=>nomatch z) h
end
structure q9(k:Nat)(A:Around):Prop where
 hd:A.handled=none
 dp:A.depth+3*k+5<recursionLimit
 un:A.units+16*k+200<cLine
def q9.mono{j:Nat}(r:q9 k A)(h:j<=k):q9 j A:=#[r.hd,by have:=r.dp;omega,by have:=r.un;omega]
def q9.deeper{k:Nat}{A:Around}(r:q9 (k+1) A)(env:Env):q9 k (A.deeper env) :=
 #[r.hd,by have:=r.dp;change A.depth+1+3*k+5<_;omega,by have:=r.un;change A.units+3+16*k+200<_;omega]
def aV5{kw:@&(Str×Value)}:(A.under (.builtin "type.__call__" #[.ref C::us,kw])).depth=A.depth+1:=by
 rfl
def aV4{kw:@&(Str×Value)}:(A.under (.builtin "type.__call__" #[.ref C::us,kw])).units=A.units+1:=by
 rfl
def q9.make(r:q9 (k+1) A)(C:Addr)(us:@&Value)(kw:@&(Str×Value)):q9 k (A.under (.builtin "type.__call__" #[.ref C::us,kw])) :=
 #[r.hd,by have:=r.dp;rw[aV5];omega,by have:=r.un;rw[aV4];omega]
def q9.depth{k:Nat}{A:Around}(r:q9 k A):A.depth<recursionLimit:=by have:=r.dp;omega
def DG:TA:=λx H Q=>Q [] H
def Xz(ta:TE)(tr:TA):TA:=λσ H Q=>ta σ H λx H1=>tr σ H1 λxs H2=>Q (x::xs) H2
def O5:PA X [] DG:=λx x x x H Q I h=>Calls.spliced_nil #[[],H,I,.nil,h]
def E6(ha:PE X e te)(hr:PA X es t)(hs:starEach (e::es) X.env=(false,eval e X.env)::starEach es X.env:=by rfl):PA X (e::es) (Xz te t):=by
 intro pos pi s σ H Q I h;rw[hs];change wpAny _ _ (spliced ((false,eval e X.env)::backTo pos (starEach es X.env))) _ _ s;show Calls.spliced_cons (cF (ha pi s σ H _ I h) λu s1 bf=>?_);let#[x,H1,I1,r1,q1]:=bf;show cF (hr pos pi s1 σ H1 _ I1 q1) (by rintro us s2 ⟨xs,H2,I2,r2,q2⟩;show #[x::xs,H2,I2,.cons r1 r2,q2])
def VX(t:TA):TE:=λσ H Q=>t σ H λxs H1=>-xs<=sizeLine/\∀p,H1 p=none->Q (.ref p) (upd H1 p (.tup xs))
def VR(t:TA):TE:=λσ H Q=>t σ H λxs H1=>-xs<=sizeLine/\∀p,H1 p=none->Q (.ref p) (upd H1 p (.lst xs))
def Za{x1}(h:PA X es t):PE X (.Tuple es x1 pos) (VX t):=by
 intro pi s σ H Q I hq;show wpAny_Tuple_spliced (cF (h pos pi s σ H _ I hq) ?_);rintro us s1 ⟨xs,H1,I1,r,z,q⟩;show #[by rw[<- -r];show z,?_];let hf:=I1.bw.fresh (ak _);show#[.ref s1⁻¹,upd H1 s1⁻¹ (.tup xs),I1.laid (t':=s1.toks) (λb u e=>ah _ e) (ak _) ?_,rfl,q _ hf];show#[z,us,r,#[_,au _ rfl,rfl,#[_,rfl],rfl]]
def YX(h:PA X es t):PE X (.List es pos) (VR t):=by
 intro pi s σ H Q I hq;show wpAny_List_spliced (cF (h pos pi s σ H _ I hq) ?_);rintro us s1 ⟨xs,H1,I1,r,z,q⟩;show #[by rw[<- -r];show z,?_];let hf:=I1.bw.fresh (ak _);show#[.ref s1⁻¹,upd H1 s1⁻¹ (.lst xs),I1.laid (t':=s1.toks) (λb u e=>ah _ e) (ak _) ?_,rfl,q _ hf];show#[z,us,0,r,au _ rfl]
noncomputable abbrev Sp:=@&V->Hp->VK->XK->Prop
noncomputable abbrev nX:=@&Env->Hp->Shared->XK->Value->Shared->Prop
structure sO(P:Program)(w:World)(K:PySem.W.Frag)(mg:Str->Option Value)(base:Heap)(A:Around)(outer:@&Env)(s:Shared)(H:Hp):Prop where
 frames:A.frames=!outer
 mod:Mod K mg base
 bs:∀b o,base.get? b=!o->s.heap.get? b=!o/\H b=none
 nU:base.objs.size<=s⁻¹
 N5:s.heap.FunFrames base outer
 ow:∀b∈fF outer,H b=none
 bw:fN P w H s.heap
 bare:AllBare s.gens
abbrev CE(outer:@&Env)(P:Program)(w:World)(H:Hp)(s:Shared)(Q:VK)(u:Value)(s':Shared):Prop :=
 ∃v H',s'.os=s.os/\AllBare s'.gens/\Un (fF outer) [] H H' s.heap s'.heap/\fN P w H' s'.heap/\RelV v u/\Q v H'
abbrev CR(CX:nX)(outer:@&Env)(P:Program)(w:World)(H:Hp)(s:Shared)(Q:VK)(E:XK)(r:Result)(s':Shared):Prop :=
 match r with
 |.ok (.ret u)=>CE outer P w H s Q u s'
 |.ok _=>False
 |.error e=>CX outer H s E e s'
structure gD(P:Program)(w:World)(K:PySem.W.Frag)(mg:Str->Option Value)(base:Heap)(CX:nX)(k:Nat)(f:Addr)(fd:FuncData)(ps:@&Str)(sp:Sp):Prop where
 len:∀vs H Q E,sp vs H Q E->-vs=-ps
 run:∀(A:Around) (outer:@&Env) (s:Shared) (H:Hp) (args:Args) (us:@&Value) (vs:@&V) (Q:VK) (E:XK),q9 k A->sO P w K mg base A outer s H->BindsTo s fd args (ps.zip us)->Vals vs us->sp vs H Q E ->
  codeAny (model P w) A (.call (.ref f) args) (CR CX outer P w H s Q E) s
def sO.make{mg:Str->Option Value}{outer:@&Env}(e:sO P w K mg base A outer s H)(C:Addr)(us:@&Value)(kw:@&(Str×Value)) :
  sO P w K mg base (A.under (.builtin "type.__call__" #[.ref C::us,kw])) outer s H:=#[by first|show e.frames|(simpa[Around.under,Code.envs,Code.isFrame,pushEnvs] using e.frames),e.mod,e.bs,e.nU,e.N5,e.ow,e.bw,e.bare]
section
variable{s':Shared}
def Inv.Jw(I:Inv X pi σ H s):sO X.prog X.w X.K X.mg X.base X.A X.stack s H :=
 #[I.ok.frames,I.ok.mod,I.bs,aF I.ok.nU I.sz,I.stack,I.Ah,I.bw,I.bare]
def Inv.after{Q:VK}(I:Inv X pi σ H s)(h:CE X.stack X.prog X.w H s Q u s'):EP X pi σ Q u s':=by
 let#[v,H',os,bare,un,bw,r,q]:=h;let#[hh,g,d,t,tM]:=s';obtain rfl:tM=s.os:=os;show#[v,H',I.call (h':=hh) (g':=g) (d':=d) (t':=t) un bw bare (λb z=>absurd z #[_]),r,q]
end
def Jd(sp:Sp)(jP:@&V)(E:XK)(t:TA):TE:=λσ H Q=>t σ H λvs H1=>sp (vs++jP) H1 Q E
def Je(C:Addr)(sp:Sp)(jP:@&V)(E:XK)(t:TA):TE:=λσ H Q=>t σ H λvs H1=>∀x dx,H1 x=none->H1 dx=none->dx≠x ->
 sp (.ref x::(vs++jP)) (upd (upd H1 dx (.own x)) x (.ins C dx [])) (λv H2=>v=.aO/\Q (.ref x) H2) E
abbrev Binds(K:PySem.W.Frag)(fd:FuncData)(ps:@&Str)(ds:@&Value):Prop :=
 ∀(s:Shared) (us:@&Value),K.In s.heap->(us++ds).length=-ps->BindsTo s fd #[us,[]] (ps.zip (us++ds))
def Binds.all(h:∀us:@&Value,(-us)=-ps->bindArgs fd #[us,[]]=pure (ps.zip us)):Binds K fd ps []:=λs us x hl=>by
 rw[fI] at hl ⊢;show .of_eq (h us hl)
def Passes(CX:nX)(X:Cx)(E:XK):Prop:=∀(pi:@&(Addr×Obj)) (σ:St) (H:Hp) (s:Shared) (e:Value) (s':Shared),Inv X pi σ H s->CX X.stack H s E e s'->X.xe e s'
section
variable{jP:@&V}{ds:@&Value}{E:XK}
def zQ{Q:VK}(F:gD X.prog X.w X.K X.mg X.base CX k f fd ps sp)(hr:q9 k X.A)(hb:Binds X.K fd ps ds)(hd:Vals jP ds)(hx:Passes CX X E)(I:Inv X pi σ H s)(r:Vals vs us)(h:sp (vs++jP) H Q E):wpAny (model X.prog X.w) X.A (call (.ref f) us) (EP X pi σ Q) X.xe s:=by
 let r2:=r.append hd;let hl:(us++ds).length=-ps:=by rw[<- -r2];show F.len _ _ _ _ h
 show wpAny_call (fo (F.run X.A X.stack s H #[us,[]] (us++ds) (vs++jP) Q E hr I.Jw (hb s us I.fU hl) r2 h) λr s' hq=>?_);cases r with
 |error e=>show hx pi σ H s e s' I hq
 |ok fl =>
  cases fl with
  |ret u=>show I.after hq
  |next=>show False.elim hq
  |brk=>show False.elim hq
  |cont=>show False.elim hq
def Sv(F:gD X.prog X.w X.K X.mg X.base CX k f fd ps sp)(hr:q9 k X.A)(hg:Gl X x)(hm:X.mg x=!.ref f)(hk:PySem.W.keepIn X.K (.ref f)=true)(hb:Binds X.K fd ps ds)(hd:Vals jP ds)(hx:Passes CX X E)(ha:PA X (e::es) t)(gR:(x==("__debug__":Str))=false:=by decide)(he:starEach (e::es) X.env=(false,eval e X.env)::starEach es X.env:=by rfl)(gi:(backTo pos (starEach es X.env)).any (·.1)=false:=by rfl) :
  PE X (.Call (.Name x p) (e::es) [] pos) (Jd sp jP E t):=by
 intro pi s σ H Q I h;show cK (Q2 I hg hm ?_ gR);show jQ I.ok.mod.nB hk (cF (ha pos pi s σ H _ I h) ?_) he gi;rintro us s1 ⟨vs,H1,I1,r,q⟩;show #[I1.fU,?_];show zQ F hr hb hd hx I1 r q
def UP(F:gD X.prog X.w X.K X.mg X.base CX k f fd ps sp)(hr:q9 k X.A)(hg:Gl X x)(hm:X.mg x=!.ref f)(hk:PySem.W.keepIn X.K (.ref f)=true)(hb:Binds X.K fd ps ds)(hd:Vals jP ds)(hx:Passes CX X E)(gR:(x==("__debug__":Str))=false:=by decide):PE X (.Call (.Name x p) [] [] pos) (Jd sp jP E DG):=by
 intro pi s σ H Q I h;show cK (Q2 I hg hm ?_ gR);show jx I.fU hk (zQ (us:=[]) F hr hb hd hx I .nil h)
structure Mk(K:PySem.W.Frag)(C f:Addr):Prop where
 makes:PySem.W.makesIn K C=true
 init:PySem.W.findIn K (.ref C) "__init__"=!!.ref f
 fn:PySem.W.isFn K (.ref f)=true
 kp:PySem.W.keepIn K (.ref C)=true
def Nl{Q:VK}(M:Mk X.K C f)(F:gD X.prog X.w X.K X.mg X.base CX k f fd ps sp)(hr:q9 (k+1) X.A)(hb:Binds X.K fd ps ds)(hd:Vals jP ds)(hx:Passes CX X E)(I:Inv X pi σ H s)(r:Vals vs us)(h:∀x dx,H x=none->H dx=none->dx≠x->sp (.ref x::(vs++jP)) (upd (upd H dx (.own x)) x (.ins C dx [])) (λv H2=>v=.aO/\Q (.ref x) H2) E) :
  wpAny (model X.prog X.w) X.A (call (.ref C) us) (EP X pi σ Q) X.xe s:=by
 let hq:=h (s⁻¹+1) s⁻¹ (I.bw.fresh (ja _)) (I.bw.fresh (ak _)) (aD (lI _));let I2:=Inv.made (C:=C) I;let r2:Vals (V.ref (s⁻¹+1)::(vs++jP)) (Value.ref (s⁻¹+1)::(us++ds)):=.cons rfl (r.append hd);let hl:(Value.ref (s⁻¹+1)::us++ds).length=-ps:=by
  let e:=-r2;rw[F.len _ _ _ _ hq] at e;show e.symm
 show wpAny_call (UA I.fU M.makes M.init (fV.mp M.fn) (fo (F.run _ X.stack _ _ #[Value.ref (s⁻¹ + 1) :: us,[]] (Value.ref (s⁻¹ + 1) :: (us ++ ds)) _ _ E (hr.make C us [])
  (I2.Jw.make C us []) (hb _ (Value.ref (s⁻¹ + 1) :: us) I2.fU hl) r2 hq) λr s' nD=>?_))
 cases r with
 |error e=>show hx pi σ _ _ e s' I2 nD
 |ok fl =>
  cases fl with
  |ret u =>
   let#[v,H',I3,rv,ev,q3]:=I2.after nD;subst ev;show#[rv,#[V.ref (s⁻¹+1),H',I3,rfl,q3]]
  |next=>show False.elim nD
  |brk=>show False.elim nD
  |cont=>show False.elim nD
def Sz(M:Mk X.K C f)(F:gD X.prog X.w X.K X.mg X.base CX k f fd ps sp)(hr:q9 (k+1) X.A)(hg:Gl X x)(hm:X.mg x=!.ref C)(hb:Binds X.K fd ps ds)(hd:Vals jP ds)(hx:Passes CX X E)(ha:PA X (e::es) t)(gR:(x==("__debug__":Str))=false:=by decide)(he:starEach (e::es) X.env=(false,eval e X.env)::starEach es X.env:=by rfl)(gi:(backTo pos (starEach es X.env)).any (·.1)=false:=by rfl) :
  PE X (.Call (.Name x p) (e::es) [] pos) (Je C sp jP E t):=by
 intro pi s σ H Q I h;show cK (Q2 I hg hm ?_ gR);show jQ I.ok.mod.nB M.kp (cF (ha pos pi s σ H _ I h) ?_) he gi;rintro us s1 ⟨vs,H1,I1,r,q⟩;show #[I1.fU,?_];show Nl M F hr hb hd hx I1 r q
def UU(M:Mk X.K C f)(F:gD X.prog X.w X.K X.mg X.base CX k f fd ps sp)(hr:q9 (k+1) X.A)(hg:Gl X x)(hm:X.mg x=!.ref C)(hb:Binds X.K fd ps ds)(hd:Vals jP ds)(hx:Passes CX X E)(gR:(x==("__debug__":Str))=false:=by decide):PE X (.Call (.Name x p) [] [] pos) (Je C sp jP E DG):=by
 intro pi s σ H Q I h;show cK (Q2 I hg hm ?_ gR);show jx I.fU M.kp (Nl (us:=[]) M F hr hb hd hx I .nil h)
end
structure iK(N P:@&Str)(sc:Scope):Prop where
 kind:sc.kind=.function
 co:sc.isCoroutine=false
 gen:sc.isGenerator=false
 nd:N.Nodup
 pre:N.take (-P)=P
 par:∀x∈P,sc.names.lookup x=!.local\/sc.names.lookup x=!.cell
 nk:∀y∈sc.names,y.2≠.free
def JU{kindOf:Str->Option NameKind}{x:Str}:∀{binds:@&(Str×Value)} {m:Str->Option Value},(∀v,(x,v)∉binds)->bindL kindOf binds m x=m x
 |[],_,_=>rfl
 |(n,v)::r,m,h=>by
  unfold bindL;rw[JU λw hw=>h w (bK _ hw)];split
  .have:x≠n:=by rintro rfl;show h v jT
   simp[this]
  .rfl
def JS{kindOf:Str->Option NameKind}{x:Str}:∀{binds:@&(Str×Value)} {m:Str->Option Value},(∀v,(x,v)∉binds)->bindC kindOf binds m x=m x
 |[],_,_=>rfl
 |(n,v)::r,m,h=>by
  unfold bindC;rw[JS λw hw=>h w (bK _ hw)];split
  .rfl
  .have:x≠n:=by rintro rfl;show h v jT
   simp[this]
def JT{kindOf:Str->Option NameKind}{x:Str}{v:Value}:∀{P:@&Str} {vs:@&Value} {i:Nat} {m:Str->Option Value},P.Nodup->P[i]?=!x->vs[i]?=!v->kindOf x=!.local ->
  bindL kindOf (P.zip vs) m x=!v
 |[],_,_,_,_,h,_,_=>by simp at h
 |_::_,[],_,_,_,_,h,_=>by simp at h
 |p::P,w::vs,0,m,nd,h1,h2,hk=>by
  simp at h1 h2;subst h1;subst h2;change bindL kindOf ((p,w)::P.zip vs) m p=_;unfold bindL;rw[JU λv hv=>(fG.mp nd).1 (mS hv).1,av hk];simp
 |p::P,w::vs,i+1,m,nd,h1,h2,hk=>by
  unfold bindL;show JT (fG.mp nd).2 (_/h1) (_/h2) hk
def JR{kindOf:Str->Option NameKind}{x:Str}{v:Value}:∀{P:@&Str} {vs:@&Value} {i:Nat} {m:Str->Option Value},P.Nodup->P[i]?=!x->vs[i]?=!v->kindOf x≠!.local ->
  bindC kindOf (P.zip vs) m x=!v
 |[],_,_,_,_,h,_,_=>by simp at h
 |_::_,[],_,_,_,_,h,_=>by simp at h
 |p::P,w::vs,0,m,nd,h1,h2,hk=>by
  simp at h1 h2;subst h1;subst h2;change bindC kindOf ((p,w)::P.zip vs) m p=_;unfold bindC;rw[JS λv hv=>(fG.mp nd).1 (mS hv).1,aw hk];simp
 |p::P,w::vs,i+1,m,nd,h1,h2,hk=>by
  unfold bindC;show JR (fG.mp nd).2 (_/h1) (_/h2) hk
def start(N:@&Str)(vs:@&V):St:=vs.map some++List.replicate (-N- -vs) none
abbrev pV(CX:nX)(P:Program)(w:World)(K:PySem.W.Frag)(mg:Str->Option Value)(base:Heap)(N:@&Str)(qual:Str)(scope:Scope)(f:Addr)(cd:Value)(A:Around)(outer:@&Env)(s:Shared)(H:Hp)(E:XK):Cx where
 prog:=P
 w:=w
 K:=K
 mg:=mg
 base:=base
 A:=A.deeper (envOfC qual scope s⁻¹ f cd)
 N:=N
 du:=s
 jo:=H
 env:=envOfC qual scope s⁻¹ f cd
 outer:=outer
 stack:=envOfC qual scope s⁻¹ f cd::outer
 ex:=[]
 calm:=true
 fn:=λx=>true
 pn:=[]
 xe:=λe s'=>wpAny (model P w) (A.deeper (envOfC qual scope s⁻¹ f cd)) (leaving (envOfC qual scope s⁻¹ f cd) e) (λx oV=>CX outer H s E e oV) (λe' oV=>CX outer H s E e' oV) s'
def Ed{sc:Scope}{n:Nat}(h:sc.names.lookup x=!.cell):∃c,(cellsFrom n sc.names []).lookup x=!c:=by
 let q:=dJ sc.names n [] (.inl h);show dg.mp q
def a73{mg:Str->Option Value}{qual:Str}{scope:Scope}{cd:Value}{outer:@&Env}{s1:Shared}{E:XK}(S:iK N ps scope)(hd:A.handled=none)(e0:sO P w K mg base A outer s H)(hl:-vs=-ps)(r:Vals vs us)(x:InCallC s s⁻¹ (bindL (envOfC qual scope s⁻¹ f cd).kindOf (ps.zip us) λt=>none) (cellsFrom (s⁻¹+1) scope.names []) (bindC (envOfC qual scope s⁻¹ f cd).kindOf (ps.zip us) λt=>none) s1) :
  Inv (pV CX P w K mg base N qual scope f cd A outer s H E) [] (start N vs) H s1:=by
 let gi:-ps<=-N:=by have:=gY List.length S.pre;grind
 let#[h1,tk,rfl,hk]:=x.done;let vN:∀b:Addr,b∉(pV CX P w K mg base N qual scope f cd A outer s H E).ex:=λb z=>absurd (show b∈([]:@&Addr) from z) #[_];show #[#[e0.mod,S.kind,rfl,rfl,ak _,λy z c h1 h2=>?_,λy hy=>?_,λy c t h=>?_,λt=>hd,Around.frames_deeper e0.frames,.inr #[rfl,rfl],λb z=>absurd z (vN b),e0.bs,e0.nU,λb t t=>vN b,λb z=>absurd z (vN b),e0.N5,e0.ow],
  rfl,e0.bare,Un.kept hk,#[_,x.toInCall.ns,λi y v h1 h2 h3=>?_],λy c h=>#[_,x.cell y c h],e0.bw.fresh (ak _),λy c h=>?_,λp hp=>absurd (show p ∈ ([]:@&(Addr × Obj)) from hp) #[_],e0.bw.kept hk,?_,λcU z=>absurd (show (none:Option (List (Option V)))=some cU from z) #[_]]
 .exact name_of_addr x.apart (aL h1) (aL h2)
 .rcases hy with hy|hy
  .exact Ed hy
  .exact absurd rfl (S.nk _ (aL hy))
 .exact dZ (x.above y c (aL h))
 .let hi:i< -vs:=by
   unfold start at h2;by_cases hi:i< -vs
   .exact hi
   .rw[cT (_/hi)] at h2;rw[dF] at h2
    simp_all
  let ha:vs[i]?=!v:=by
   unfold start at h2;rw[aA (_/hi),aG] at h2;cases e:vs[i]? with
   |none=>rw[e] at h2;cases h2
   |some a=>rw[e] at h2;cases h2;rfl
  let#[u,hu,rv]:=r.get ha;let hp:ps[i]?=!y:=by
   rw[<- S.pre,List.getElem?_take_of_lt ()];show h1
  let GL:ps.Nodup:=by rw[<- S.pre];show S.nd.sublist (List.take_sublist _ _)
  show#[u,rv,?_];rcases S.par y (aQ hp) with k|k
  .exact .inl #[k,JT GL hp hu k]
  .let#[c,e]:=Ed k;show .inr #[.inl k,c,e,?_];let q:=x.cell y c e;rw[JR GL hp hu (by change scope.names.lookup y≠_;rw[k];decide)] at q;show q
 .exact e0.bw.fresh (dZ (x.above y c (aL h)))
 .unfold start;change _=-N
  simp_all
def Wm{mg:Str->Option Value}{name qual:Str}{params:Arguments}{body:@&Stmt}{scope:Scope}{dV kV doc pm fz ct oc:Value}{an od:Option Addr}{mE:Array (Option Value)}(lk:K.lookup f=!#[oc,od,.func (PySem.W.fnOf name qual params body scope dV kV doc pm an fz ct),mE])(lZ:PySem.W.codeIn K fz qual=true)(S:iK N ps scope)(len:∀vs H Q E,sp vs H Q E->-vs=-ps)(wV:∀ (A:Around) (outer:@&Env) (s:Shared) (H:Hp) (vs:@&V) (Q:VK) (E:XK),q9 k (A.deeper (envOfC qual scope s⁻¹ f fz))->sp vs H Q E ->
   ∃ t,jt (pV CX P w K mg base N qual scope f fz A outer s H E) body t/\t { nx:=λz H'=>Q .aO H',rt:=Q } (start N vs) H) :
  gD P w K mg base CX (k+1) f (PySem.W.fnOf name qual params body scope dV kV doc pm an fz ct) ps sp:=by
 show#[len,λA outer s H args us vs Q E hr e0 hb r tU=>?_];let hl:=len _ _ _ _ tU;let KX:=e0.mod.nB.keeps λb o e=>(e0.bs b o e).1;let lim:=e0.mod.nolimit.keeps λb o e=>(e0.bs b o e).1;let ly:∀y∈ps.zip us,scope.names.lookup y.1=!.local\/(scope.names.lookup y.1=!.cell/\((cellsFrom (s⁻¹+1) scope.names []).lookup y.1).isSome=true):=λ⟨n,v⟩ hy=>by
  rcases S.par n (mS hy).1 with q|q
  .exact .inl q
  .exact .inr #[q,dJ _ _ _ (.inl q)]
 show codeAny_call_function hr.depth (KX _ _ lk) rfl S.co S.gen rfl (PySem.W.codeRec_of KX lZ) (hb _ _ _ _ ?_);show wpAny_newFunctionEnv_cells S.kind ly λenv he s1 x=>?_;subst he;show#[lim.keeps x.toInCall.keep,codeAny_func ?_];let#[t,ht,hq]:=wV A outer s H vs Q E (hr.deeper _) tU;let I:Inv (pV CX P w K mg base N qual scope f fz A outer s H E) [] (start N vs) H s1:=a73 S hr.hd e0 hl r x;show bX (ht [] s1 (start N vs) H _ I hq) (λfl s' hs=>?_) λe s' hs=>hs;let fin:∀{cv:St} {H':Hp} {v:V} {u:Value},Inv (pV CX P w K mg base N qual scope f fz A outer s H E) [] cv H' s'->RelV v u->Q v H'->CE outer P w H s Q u s' :=
  λ{cv H' v u} J rv q=>#[v,H',J.os,J.bare,J.base,J.bw,rv,q]
 cases fl with
 |ret u =>
  let#[v,cv,H',J,rv,q]:=hs;show fin J rv q
 |next =>
  let#[cv,H',J,q]:=hs;show fin (v:=V.aO) J rfl q
 |brk =>
  let#[_,_,_,q]:=hs
  simp_all
 |cont =>
  let#[_,_,_,q]:=hs
  simp_all
section
variable{id T:String}{r:@&V->Hp->VK->Prop}
def Bi(r:@&V->Hp->VK->Prop)(t:TA):TE:=λσ H Q=>t σ H λvs H1=>r vs H1 Q
def W5(hc:j7 X (.builtin id) r)(hg:Gl X x)(hm:X.mg x=none)(hv:bootBuiltins x=!.builtin id)(ha:PA X (e::es) t)(hn:x≠"__name__":=by decide)(gR:(x==("__debug__":Str))=false:=by decide)(he:starEach (e::es) X.env=(false,eval e X.env)::starEach es X.env:=by rfl)(gi:(backTo pos (starEach es X.env)).any (·.1)=false:=by rfl):PE X (.Call (.Name x p) (e::es) [] pos) (Bi r t):=by
 intro pi s σ H Q I h;show cK (S7 I hg hm hv ?_ hn gR);show PyProof.Rows.callWith_builtin1 (cF (ha pos pi s σ H _ I h) (by rintro us s1 ⟨vs,H1,I1,r1,q1⟩;show hc pi s1 σ H1 vs us Q I1 r1 q1)) he gi
def F0(hc:j7 X (.type T) r)(hg:Gl X x)(hm:X.mg x=none)(hv:bootBuiltins x=!.type T)(ha:PA X (e::es) t)(hn:x≠"__name__":=by decide)(gR:(x==("__debug__":Str))=false:=by decide)(he:starEach (e::es) X.env=(false,eval e X.env)::starEach es X.env:=by rfl)(gi:(backTo pos (starEach es X.env)).any (·.1)=false:=by rfl):PE X (.Call (.Name x p) (e::es) [] pos) (Bi r t):=by
 intro pi s σ H Q I h;show cK (S7 I hg hm hv ?_ hn gR);show cj (cF (ha pos pi s σ H _ I h) (by rintro us s1 ⟨vs,H1,I1,r1,q1⟩;show hc pi s1 σ H1 vs us Q I1 r1 q1)) he gi
end
end L2
namespace HT
open PySem PyProof.Rows
section
variable{prog:Program}{w:World}{A:Around}{E:Value->Shared->Prop}{s:Shared}
def bA8{t b:Addr}{vs ws:@&Value}{Q:Value->Shared->Prop}(ht:IsTup s.heap t vs.toArray)(hb:IsTup s.heap b ws.toArray)(hv:vs≠[])(h1:ws=[]->Q (.ref t) s)(h2:ws≠[]->Q (.ref s⁻¹) { s with heap:=s.heap.push { cls:=.type "tuple",data:=.seq (vs++ws).toArray } })(gC:-vs+-ws<=sizeLine):wpAny (model prog w) A (binaryOp .Add (.ref t) (.ref b)) Q E s:=by
 let#[#[cls,dd,data,sl],ho,hc,n,hd]:=id ht;let#[#[xK,qH,data2,kZ],jj,qt,n2,hd2]:=id hb;subst hc hd qt hd2;let e:vs.toArray++ws.toArray=(vs++ws).toArray:=by simp
 by_cases hw:ws=[]
 .exact concat_meets #[_,ho,rfl] #[_,jj,rfl] iZ mw iq hJ (gO _ _)
   (tuple_addW1 t b vs.toArray ws.toArray n n2 dd qH sl kZ (_/hv) (by simp[hw])) #[ho,jj,h1 hw]
 .refine concat_meets #[_,ho,rfl] #[_,jj,rfl] iZ mw iq hJ (gO _ _)
   (tuple_addW2 t b vs.toArray ws.toArray n n2 dd qH sl kZ (_/hv) (_/hw) ()) #[ho,jj,?_]
  rw[e];show h2 hw
abbrev dU(n d:Nat):Option Int->Nat
 |none=>d
 |some v=>if v<0 then(v+(n:Int)).toNat else min v.toNat n
def LC(v:Int)(n d:Nat):(if v<0 then max (v+(n:Int)) 0 else min v (n:Int))=((dU n d (!v):Nat):Int):=by
 show(if v<0 then max (v+(n:Int)) 0 else min v (n:Int))=(((if v<0 then(v+(n:Int)).toNat else min v.toNat n):Nat):Int)
 grind
def aY6(lo hi:Option Int)(n:Nat):Builtin.Slice.sliceAdjust lo hi 1 (n:Int)=(((dU n 0 lo:Nat):Int),((dU n n hi:Nat):Int)):=by
 show Prod.ext ?_ ?_
 .cases lo with
  |none=>rfl
  |some v=>show LC v n 0
 .cases hi with
  |none=>rfl
  |some v=>show LC v n n
def aU0(i j:Nat):Builtin.Slice.slicePlaces (i:Int) (j:Int) 1=j-i:=by
 unfold Builtin.Slice.slicePlaces;let h1:(1:Int)>0:=by omega
 simp only[h1,if_true,Int.ediv_one];split<;>omega
def KN{v:Value}{o:Option Int}{Q:Option Int->Shared->Prop}(p:IsPart v o)(h:Q o s):wpAny (model prog w) A (Builtin.Slice.slicePartIndex v) Q E s:=by
 cases p with
 |none=>show slicePart_none h
 |int i t=>show slicePart_int h
def V8{sl:Addr}{vl vu:Value}{lo hi:Option Int}{n:Nat}{Q:Int×Int×Nat->Shared->Prop}(hs:s.heap.IsSliceOf sl vl vu .none)(pl:IsPart vl lo)(pu:IsPart vu hi)(h:Q (((dU n 0 lo:Nat):Int),1,dU n n hi-dU n 0 lo) s):wpAny (model prog w) A (Builtin.Slice.sliceApplied (.ref sl) (pure (n:Int))) Q E s:=by
 let#[os,rV,qr,wM]:=id hs;show aa (aa (bx rV wM (x:=vl) rfl (aa (bx rV wM (x:=vu) rfl (aa (bx rV wM (x:=.none) rfl (ai ?_)))))));show aa (slicePart_none ?_);show aa (KN pl (aa (KN pu (aa (ai ?_)))));change wpAny _ _ (match Builtin.Slice.sliceAdjust lo hi 1 (n:Int) with|(lo,hi)=>pure (lo,(1:Int),Builtin.Slice.slicePlaces lo hi 1)) _ _ s;rw[aY6 lo hi n];change wpAny _ _ (pure (((dU n 0 lo:Nat):Int),(1:Int),Builtin.Slice.slicePlaces ((dU n 0 lo:Nat):Int) ((dU n n hi:Nat):Int) 1)) _ _ s;rw[aU0];show ai h
def UZ(xs:Array Value)(i k:Nat):((List.range k).filterMap λ(m:Nat)=>xs[((i:Int)+(m:Int)*1).toNat]?).toArray=((xs.toList.drop i).take k).toArray:=by
 let e:(λ(m:Nat)=>xs[((i:Int)+(m:Int)*1).toNat]?)=λm=>xs[i+m]?:=by
  funext m
  have:((i:Int)+(m:Int)*1).toNat=i+m:=by omega
  rw[this]
 rw[e];have:=pick_run xs i k;rw[List.filterMap_map] at this;let e2:((λx=>xs[x]?) ∘ λx=>i+x)=λm=>xs[i+m]?:=rfl;rw[e2] at this;rw[this]
def al7{t sl:Addr}{items:Array Value}{vl vu:Value}{lo hi:Option Int}{Q:Value->Shared->Prop}(ht:IsTup s.heap t items)(hs:s.heap.IsSliceOf sl vl vu .none)(pl:IsPart vl lo)(pu:IsPart vu hi)(hw:¬(dU items.size 0 lo=0/\dU items.size items.size hi=items.size))(h:Q (.ref s⁻¹) { s with heap:=s.heap.push { cls:=.type "tuple",data:=.seq ((items.toList.drop (dU items.size 0 lo)).take (dU items.size items.size hi-dU items.size 0 lo)).toArray } })(gC:items.size<=sizeLine):wpAny (model prog w) A (getItem (.ref t) (.ref sl)) Q E s:=by
 let lr:sizeOk (.seq ((items.toList.drop (dU items.size 0 lo)).take (dU items.size items.size hi-dU items.size 0 lo)).toArray):=by
  show((items.toList.drop (dU items.size 0 lo)).take (dU items.size items.size hi-dU items.size 0 lo)).toArray.size<=sizeLine;rw[aK,cG,List.length_drop,bS];omega
 let#[os,rV,qr,wM]:=id hs;let Cm:s.TypeIs (.ref sl) "slice":=#[os,rV,qr]
 unfold getItem
 try with_reducible show aY ?_
 show aa (wpAny_sequenceKey ht.typeIs ∅ ?_);show aa (bR ht.typeIs bI
  (bu bI ht.typeIs entry_tuple_getitem ?_ (args_tuple_getitem _ _)))
 change wpAny _ _ (Builtin.Tuple.tupleItemsOf (.ref t) >>= _) _ _ s;show aa (tupleItemsOf_ ht ?_);show aa (dC Cm ?_);show aa (V8 hs pl pu ?_);let lW:¬((((dU items.size 0 lo:Nat):Int)==0&&(1:Int)==1&&(dU items.size items.size hi-dU items.size 0 lo)==items.size)=true):=by
  grind
 change wpAny _ _ (if(((dU items.size 0 lo:Nat):Int)==0&&(1:Int)==1&&(dU items.size items.size hi-dU items.size 0 lo)==items.size)=true then _ else _) _ _ s;rw[aw lW,UZ]
 first
  |show wpAny_bind (wpAny_newObj_type (wpAny_pure #[_,rfl,wpAny_pure h]) lr)
  |show wpAny_bind (wpAny_newObj_type (wpAny_bind (wpAny_pure (wpAny_pure #[_,rfl,wpAny_pure h]))) lr)
  |show wpAny_bind (wpAny_bind (wpAny_newObj_type (wpAny_pure (wpAny_pure #[_,rfl,wpAny_pure h])) lr))
  |show wpAny_bind (wpAny_bind (wpAny_newObj_type (wpAny_pure #[_,rfl,wpAny_pure h]) lr))
end
end HT
namespace L2
open PySem PySem.Spec PyProof.Rows
variable{X:Cx}{e:Expr}{pos:Pos}{n t':Nat}{α:Type}{a:Addr}{pi:@&(Addr×Obj)}{σ:St}{H H':Hp}{s:Shared}{aX:@&Value}{A:Around}{y x:V}{u:Value}{o:Option V}{w:World}{E:Value->Shared->Prop}{kvs:@&(List Key×V)}{P:Program}
noncomputable abbrev TO:=St->Hp->(Option Int->Hp->Prop)->Prop
abbrev PO(X:Cx)(e:Option Expr)(t:TO):Prop :=
 ∀(pi:@&(Addr×Obj)) (s:Shared) (σ:St) (H:Hp) (Q:Option Int->Hp->Prop),Inv X pi σ H s->t σ H Q ->
  wpAny (model X.prog X.w) X.A (evalPart e X.env) (λu s'=>∃o H',Inv X pi σ H' s'/\IsPart u o/\Q o H') X.xe s
def Tv:TO:=λx H Q=>Q none H
def XD(t:TE):TO:=λσ H Q=>t σ H λx H1=>∃i,x=.int i/\Q (!i) H1
section
variable{te:TE}{lo hi:Option Expr}{tl th:TO}{p2:Pos}
def Mo:PO X none Tv:=by
 intro pi s σ H Q I h;show ai #[none,H,I,.none,h]
def Mp(h:PE X e te):PO X (!e) (XD te):=by
 intro pi s σ H Q I hw;show cF (h pi s σ H _ I hw) λu s1 bf=>?_;let#[x,H1,I1,r1,q1]:=bf;let#[i,rfl,q]:=q1;let#[t,rfl]:=r1;show#[!i,H1,I1,.int i t,q]
abbrev yC(X:Cx)(r:V->Option Int->Option Int->Hp->VK->Prop):Prop :=
 ∀(pi:@&(Addr×Obj)) (s:Shared) (σ:St) (H:Hp) (x:V) (v vl vu:Value) (lo hi:Option Int) (sl:Addr) (Q:VK),Inv X pi σ H s->RelV x v->s.heap.IsSliceOf sl vl vu .none->IsPart vl lo->IsPart vu hi->r x lo hi H Q ->
  ∃T id,typeLookup (.type T) "__getitem__"=pure (!.builtin id)/\s.TypeIs v T/\wpAny (model X.prog X.w) X.A (getItem v (.ref sl)) (EP X pi σ Q) X.xe s
def OL(r:V->Option Int->Option Int->Hp->VK->Prop)(te:TE)(tl th:TO):TE:=λσ H Q=>te σ H λx H1=>tl σ H1 λl H2=>th σ H2 λu H3=>r x l u H3 Q
def Ni{r:V->Option Int->Option Int->Hp->VK->Prop}(hr:yC X r)(he:PE X e te)(hl:PO X lo tl)(hu:PO X hi th):PE X (.Subscript e (.Slice lo hi none p2) pos) (OL r te tl th):=by
 intro pi s σ H Q I h;show Subscript_ (cF (he pi s σ H _ I h) λv s1 bf=>?_);let#[x,H1,I1,r1,q1]:=bf;show wpAny_Slice (cF (hl pi s1 σ H1 _ I1 q1) ?_);rintro vl s2 ⟨l,H2,I2,pl,q2⟩;show cF (hu pi s2 σ H2 _ I2 q2) λvu s3 bf=>?_;let#[u,H3,I3,pu,q3]:=bf;show ai ?_;let I4:Inv X pi σ H3 { s3 with heap:=s3.heap.push { cls:=.type "slice",data:=.fields (List.toArray [vl,vu,.none]) } }:=I3.kept (t':=s3.toks) λb ob q=>ah _ q;let#[T,id,hT,ht,hg]:=hr pi { s3 with heap:=s3.heap.push { cls:=.type "slice",data:=.fields (List.toArray [vl,vu,.none]) } } σ H3 x v vl vu l u s3⁻¹ Q I4 r1 (Heap.IsSliceOf.new ..) pl pu q3;show tail_any ht hT hg (by rfl)
abbrev pU(xs:@&V)(lo hi:Option Int):@&V:=(xs.drop (HT.dU (-xs) 0 lo)).take (HT.dU (-xs) (-xs) hi-HT.dU (-xs) 0 lo)
def KR(xs:@&V)(lo hi:Option Int):(pU xs lo hi).length<=-xs:=by
 unfold pU;rw[cG,List.length_drop];omega
abbrev b18(K:PySem.W.Frag):V->Option Int->Option Int->Hp->VK->Prop:=λx lo hi H Q=>∃a xs,x=.ref a/\gm K H a xs /\
 ¬(HT.dU (-xs) 0 lo=0/\HT.dU (-xs) (-xs) hi=-xs)/\∀p,H p=none->Q (.ref p) (upd H p (.tup (pU xs lo hi)))
def ZM:yC X (b18 X.K):=by
 intro pi s σ H x v vl vu lo hi sl Q I rx hs pl pu h;let#[a,xs,rfl,hx,hw,q]:=h;cases rx;let#[aX,r,ht,hz]:=I.tuple hx;let hlen:aX.toArray.size=-xs:=by show r.length.symm
 show#["tuple",_,bI.lookup,ht.typeIs,?_];show HT.al7 ht hs pl pu (by rw[hlen];show hw) ?_ (by rw[hlen];show hz);rw[hlen];show#[.ref s⁻¹,_,I.laid (t':=s.toks) (λb ob q=>ah _ q) (ak _) ?_,rfl,q _ (I.bw.fresh (ak _))];show#[aF (KR xs lo hi) hz,_,(r.drop (HT.dU (-xs) 0 lo)).take (HT.dU (-xs) (-xs) hi-HT.dU (-xs) 0 lo),K0.new _ _]
def Xj(K:PySem.W.Frag):R2:=λx y H Q=>∃a b xs ys,x=.ref a/\y=.ref b/\gm K H a xs/\gm K H b ys/\xs≠[]/\-xs+-ys<=sizeLine /\
 (ys=[]->Q (.ref a) H)/\(ys≠[]->∀p,H p=none->Q (.ref p) (upd H p (.tup (xs++ys))))
def Vals.V1{xs:@&V}{us:@&Value}(r:Vals xs us):us=[]↔xs=[]:=by
 cases r with
 |nil=>simp
 |cons _ _=>simp
def Sl:fc X (binaryOp .Add) (Xj X.K):=by
 intro pi s σ H x y v u Q I rx ry h;let#[a,b,xs,ys,rfl,rfl,ha,hb,hx,hz,q1,q2]:=h;cases rx;cases ry;let#[aX,r1,p1,_]:=I.tuple ha;let#[lU,r2,p2,_]:=I.tuple hb;show HT.bA8 p1 p2 (λz=>hx (r1.V1.mp z)) (λz=>#[.ref a,H,I,rfl,q1 (r2.V1.mp z)]) (λz=>?_) (by rw[<- -r1,<- -r2];show hz);show#[.ref s⁻¹,_,I.laid (t':=s.toks) (λb ob q=>ah _ q) (ak _) ?_,rfl,q2 (λw=>z (r2.V1.mpr w)) _ (I.bw.fresh (ak _))];show#[by rw[ba];show hz,_,r1.append r2,K0.new _ _]
end
abbrev lq(n:Nat)(i:Int):Option Nat:=if 0<=i then(if i<n then some i.toNat else none) else if -(n:Int)<=i then some (i+n).toNat else none
abbrev js{α:Type}(xs:List α)(i:Int):Option α:=(lq (-xs) i).bind λj=>xs[j]?
def LV{i:Int}{j:Nat}(h:lq n i=!j):seqIndex? i n=!j/\j<n/\-(n:Int)<=i/\i<n:=by
 unfold lq at h;by_cases h0:0<=i
 .rw[av h0] at h;by_cases h1:i<n
  .rw[av h1] at h;let e:=aJ h;show#[by rw[seqIndex_of h0 h1,e],by omega,by omega,h1]
  simp_all
 .rw[aw h0] at h;by_cases h1:-(n:Int)<=i
  .rw[av h1] at h;let e:=aJ h;show#[by rw[seqIndex_neg () h1,e],by omega,h1,by omega]
  simp_all
def Lz{xs:List α}{i:Int}{v:α}(h:js xs i=!v):∃j,seqIndex? i (-xs)=!j/\xs[j]?=!v/\j< -xs/\-(-xs:Int)<=i/\i< -xs:=by
 unfold js at h;cases e:lq (-xs) i with
 |none=>simp_all
 |some j =>
  rw[e] at h;let#[h1,h2,h3,h4]:=LV e;show#[j,h1,h,h2,h3,h4]
def O1{xs:List α}{j:Nat}{v:α}(h:xs[j]?=!v):js xs (j:Int)=!v:=by
 let hj:=(az.mp h).1;let e:lq (-xs) (j:Int)=!j:=by
  unfold lq
  simp_all
 unfold js;rw[e];show h
def DI(b:Expr):Prop:=∀o i,subscripted b false o i=operate [o,i] (getItem o i)
abbrev uZ(X:Cx)(r:R2):Prop :=
 ∀(value slice:Expr) (pi:@&(Addr×Obj)) (s:Shared) (σ:St) (H:Hp) (x y:V) (v u:Value) (Q:VK),Inv X pi σ H s->RelV x v->RelV y u->r x y H Q ->
  subscripted slice false v u=operate [v,u] (getItem v u)->wpAny (model X.prog X.w) X.A (subscriptTail value slice v u) (EP X pi σ Q) X.xe s
abbrev kU(X:Cx)(id:String)(r:V->@&V->Hp->VK->Prop):Prop :=
 ∀(pi:@&(Addr×Obj)) (s:Shared) (σ:St) (H:Hp) (x:V) (xs:@&V) (v:Value) (us:@&Value) (Q:VK),Inv X pi σ H s->RelV x v->Vals xs us->r x xs H Q ->
  wpAny (model X.prog X.w) X.A (call (.builtin id) (v::us)) (EP X pi σ Q) X.xe s
section
variable{a b:Expr}{ta tb:TE}
def IP{r:R2}(hr:uZ X r)(ha:PE X a ta)(hb:PE X b tb)(hs:DI b):PE X (.Subscript a b pos) (tK r ta tb):=by
 intro pi s σ H Q I h;show Subscript_ (Dw ha hb I h λv u s2 x y H2 I2 rx ry q=>hr a b pi s2 σ H2 x y v u Q I2 rx ry q (hs _ _))
def b24(K:PySem.W.Frag):R2:=λx y H Q=>∃p xs i v,x=.ref p/\y=.int i/\fR K H p xs/\js xs i=!v/\Q v H
def b23(K:PySem.W.Frag):R2:=λx y H Q=>∃p xs i v,x=.ref p/\y=.int i/\gm K H p xs/\js xs i=!v/\Q v H
def RT:uZ X (b24 X.K):=by
 intro value slice pi s σ H x y v u Q I rx ry h hs;let#[p,xs,i,z,rfl,rfl,hq,he,q]:=h;cases rx;let#[t,rfl]:=ry;let#[aX,r,pl,hz]:=I.list hq;let#[j,h1,h2,h3,h4,h5]:=Lz he;let#[w,ew,fk]:=r.get h2;let hl:=-r;let hn:=ye;let fin:EP X pi σ Q w s:=#[z,H,I,fk,q]
 by_cases h0:0<=i
 .let hj:i.toNat=j:=by
   rw[seqIndex_of h0 h5] at h1;show aJ h1
  show item_listR pl.isList h0 () (by rw[hj];simpa using ew) fin hs
 .let hj:(i+(aX.toArray.size:Int)).toNat=j:=by
   rw[seqIndex_neg () h4] at h1;rw[aK,<- hl];show aJ h1
  show subscriptTail_builtinR pl.isList.typeIs slot_list_getitem.lookup
   (wpAny_getItem_list_neg pl.isList () (by rw[aK]<;>omega) () (by rw[hj];simpa using ew) #[rfl,fin]) hs
def Yk:uZ X (b23 X.K):=by
 intro value slice pi s σ H x y v u Q I rx ry h hs;let#[p,xs,i,z,rfl,rfl,hq,he,q]:=h;cases rx;let#[t,rfl]:=ry;let#[aX,r,pl,hz]:=I.tuple hq;let#[j,h1,h2,h3,h4,h5]:=Lz he;let#[w,ew,fk]:=r.get h2;let hl:=-r;let hn:=ye;let fin:EP X pi σ Q w s:=#[z,H,I,fk,q]
 show subscriptTail_builtinR pl.typeIs slot_tuple_getitem.lookup
  (getItem_tuple pl () () (by rw[aK,<- hl];show h1) (_/ew) #[rfl,fin]) hs
def aV3(aX:@&Value)(n j:Nat)(u:Value):Obj.mapSeq (·.setIfInBounds j u) { cls:=.type "list",data:=.seq aX.toArray n }={ cls:=.type "list",data:=.seq (aX.set j u).toArray n }:=by
 simp[Obj.mapSeq]
def Inv.lst{pi:@&(Addr×Obj)}{σ:St}{H:Hp}{s:Shared}{p:Addr}{xs:@&V}(I:Inv X pi σ H s)(h:H p=!.lst xs) :
  ∃(aX:@&Value) (n:Nat),Vals xs aX/\s.heap.get? p=some { cls:=.type "list",data:=.seq aX.toArray n }/\-xs<=sizeLine:=by
 let#[z,aX,n,r,e]:=I.bw p _ h;show#[aX,n,r,e,z]
def Inv.Yw{p:Addr}{xs ys:@&V}{its':@&Value}{n':Nat}{f:Obj->Obj}(I:Inv X pi σ H s)(h:H p=!.lst xs)(ho:s.heap.get? p=some { cls:=.type "list",data:=.seq aX.toArray n })(hf:f { cls:=.type "list",data:=.seq aX.toArray n }={ cls:=.type "list",data:=.seq its'.toArray n' })(r:Vals ys its')(hz:-ys<=sizeLine)(t:Nat) :
  Inv X pi σ (upd H p (.lst ys)) { s with heap:=s.heap.update p f,toks:=t }:=by
 let e:(s.heap.update p f).get? p=some { cls:=.type "list",data:=.seq its'.toArray n' }:=by
  rw[aR f ho (by rw[hf]<;>rfl),hf]
 show I.write (by rw[h];trivial) (.inl rfl) (λb u hb q=>(bz _ _ (bq hb)).trans q) #[_,e] ?_;show#[hz,its',n',r,e]
abbrev Xm:V->V->V->Hp->(Hp->Prop)->Prop:=λo i v H Q=>∃p xs k j,o=.ref p/\i=.int k/\H p=!.lst xs/\lq (-xs) k=!j/\Q (upd H p (.lst (xs.set j v)))
def set_list:Ds X Xm:=by
 intro pi s σ H o i v ov iv u Q I ro ri rv h;let#[p,xs,k,j,rfl,rfl,hp,hj,q]:=h;cases ro;let#[t,rfl]:=ri;let#[aX,n,r,ho,hz]:=I.lst hp;let#[h1,h2,h3,h4]:=LV hj;let hl:=-r;let hn:=ye;let I':Inv X pi σ (upd H p (.lst (xs.set j v))) { s with heap:=s.heap.update p (Obj.mapSeq (·.setIfInBounds j u)) } :=
  I.Yw hp ho (aV3 aX n j u) (r.set rv j) (by rw[mU];show hz) s.toks
 by_cases h0:0<=k
 .let hk:k.toNat=j:=by
   rw[seqIndex_of h0 h4] at h1;show aJ h1
  show PySem.W.ki_setAt ho h0 () (by rw[aK,<- hl];show h4) (by rw[hk];show#[_,I',q])
 .let hk:(k+(aX.toArray.size:Int)).toNat=j:=by
   rw[seqIndex_neg () h3] at h1;rw[aK,<- hl];show aJ h1
  show PySem.W.ki_setBack ho () (by rw[aK,<- hl];show h3) () (by rw[hk];show#[_,I',q])
def aD8(lo hi:Option Int)(n:Nat):(sliceBounds lo hi none n).1=((HT.dU n 0 lo:Nat):Int)/\(sliceBounds lo hi none n).2.1=((HT.dU n n hi:Nat):Int)/\(sliceBounds lo hi none n).2.2=1:=by
 show#[?_,?_,rfl]
 .cases lo with
  |none=>rfl
  |some i =>
   simp only[sliceBounds,HT.dU,Option.getD_none,show(1:Int)>0 by decide,if_true]
   grind
 .cases hi with
  |none=>rfl
  |some i =>
   simp only[sliceBounds,HT.dU,Option.getD_none,show(1:Int)>0 by decide,if_true]
   grind
def az9(aX:@&Value)(lo hi:Option Int):slicePick aX.toArray lo hi none=((aX.drop (HT.dU (-aX) 0 lo)).take (HT.dU (-aX) (-aX) hi-HT.dU (-aX) 0 lo)).toArray:=by
 let#[h1,h2,h3]:=aD8 lo hi aX.toArray.size;unfold slicePick;rw[h1,h2,h3];simp only[sliceRange_one,pick_run,List.size_toArray]<;>rfl
abbrev b19(K:PySem.W.Frag):V->Option Int->Option Int->Hp->VK->Prop:=λx lo hi H Q=>∃a xs,x=.ref a/\fR K H a xs/\∀p,H p=none->Q (.ref p) (upd H p (.lst (pU xs lo hi)))
def Ti:yC X (b19 X.K):=by
 intro pi s σ H x v vl vu lo hi sl Q I rx hs pl pu h;let#[a,xs,rfl,hx,q]:=h;cases rx;let#[aX,r,ht,hz]:=I.list hx;let hlen:=-r;show#["list",_,slot_list_getitem.lookup,ht.isList.typeIs,?_];show wpAny_getItem_list_slice ht.isList hs pl pu .none #[_] ?_ (by grind);rw[az9,<- hlen];show#[.ref s⁻¹,_,I.laid (t':=s.toks) (λb ob q=>ah _ q) (ak _) ?_,rfl,q _ (I.bw.fresh (ak _))];show#[aF (KR xs lo hi) hz,_,0,(r.drop (HT.dU (-xs) 0 lo)).take (HT.dU (-xs) (-xs) hi-HT.dU (-xs) 0 lo),au _ rfl]
abbrev P2:V->Bool
 |.aO=>true
 |.bl _=>true
 |.int _=>true
 |.str _=>true
 |_=>false
abbrev lD:V->V->Bool
 |.aO,.aO=>true
 |.bl a,.bl b=>a==b
 |.bl a,.int b=>(if a then 1 else 0)==b
 |.int a,.bl b=>a==(if b then 1 else 0)
 |.int a,.int b=>a==b
 |.str a,.str b=>a==b
 |_,_=>false
def Yc{v:Value}(ry:RelV y u)(rx:RelV x v)(fy:P2 y=true)(fx:P2 x=true):SeqAt.EqAt A s u v (lD y x):=by
 cases y with
 |aO =>
  cases ry;cases x with
  |aO=>cases rx;show SeqAt.EqAt.same _
  |bl b=>cases rx;show SeqAt.EqAt.none_bool b
  |int b=>let#[t,rfl]:=rx;show SeqAt.EqAt.none_int b t
  |str b=>let#[t,rfl]:=rx;show SeqAt.EqAt.none_str b t
  |_=>show absurd (show false=true from fx) Bool.false_ne_true
 |bl a =>
  cases ry;cases x with
  |aO=>cases rx;show SeqAt.EqAt.bool_none a
  |bl b=>cases rx;show SeqAt.EqAt.bool_bool a b
  |int b=>let#[t,rfl]:=rx;show SeqAt.EqAt.bool_int a b t
  |str b=>let#[t,rfl]:=rx;show SeqAt.EqAt.bool_str a b t
  |_=>show absurd (show false=true from fx) Bool.false_ne_true
 |int a =>
  let#[t',rfl]:=ry;cases x with
  |aO=>cases rx;show SeqAt.EqAt.int_none a t'
  |bl b=>cases rx;show SeqAt.EqAt.int_bool a t' b
  |int b=>let#[t,rfl]:=rx;show SeqAt.EqAt.int_int a t' b t
  |str b=>let#[t,rfl]:=rx;show SeqAt.EqAt.int_str a t' b t
  |_=>show absurd (show false=true from fx) Bool.false_ne_true
 |str a =>
  let#[t',rfl]:=ry;cases x with
  |aO=>cases rx;show SeqAt.EqAt.str_none a t'
  |bl b=>cases rx;show SeqAt.EqAt.str_bool a t' b
  |int b=>let#[t,rfl]:=rx;show SeqAt.EqAt.str_int a t' b t
  |str b=>let#[t,rfl]:=rx;show SeqAt.EqAt.str_str a t' b t
  |_=>show absurd (show false=true from fx) Bool.false_ne_true
 |_=>show absurd (show false=true from fy) bo
def uq(x:V)(u:Value):Bool:=match u with
 |.none=>lD .aO x
 |.bool b=>lD (.bl b) x
 |.int i _=>lD (.int i) x
 |.str z _=>lD (.str z) x
 |_=>false
def FE(r:RelV y u)(f:P2 y=true):uq x u=lD y x:=by
 cases y with
 |aO=>cases r;rfl
 |bl b=>cases r;rfl
 |int i=>let#[t,rfl]:=r;rfl
 |str z=>let#[t,rfl]:=r;rfl
 |_=>show absurd (show false=true from f) bo
def Ej{A:Around}{s:Shared}{x:V}{v:Value}(rx:RelV x v)(fx:P2 x=true):∀{xs:@&V} {us:@&Value},Vals xs us->xs.all P2=true->∀u∈us,SeqAt.EqAt A s u v (uq x u)
 |_,_,.nil,_=>λu hu=>by cases hu
 |y::xs,u::us,.cons r t,f=>λu' hu=>by
  rw[jJ,br] at f;rcases aE.mp hu with rfl|hu
  .rw[FE r f.1];show Yc r rx f.1 fx
  .exact Ej rx fx t f.2 u' hu
def aJ6:j7 X (.builtin "len") (λxs H Q=>∃p ys,xs=[.ref p]/\(fR X.K H p ys\/gm X.K H p ys)/\Q (.int (-ys)) H):=by
 intro pi s σ H xs us Q I r h;let#[p,ys,rfl,hq,q]:=h;let#[u,rfl,rx]:=vals1 r;cases rx;let hn:=ye;rcases hq with hq|hq
 .let#[aX,r',pl,hz]:=I.list hq;let hlen:=-r';show Calls.call_len_list pl.isList (by simp only[List.size_toArray]<;>omega) #[.int (-ys),H,I.tok _,#[s.toks+1,by rw[aK,hlen]],q]
 .let#[aX,r',pl,hz]:=I.tuple hq;let hlen:=-r';show len_tuple pl (by simp only[List.size_toArray]<;>omega) #[.int (-ys),H,I.tok _,#[s.toks+1,by rw[aK,hlen]],q]
def aJ5:j7 X (.builtin "len") (λxs H Q=>∃z,xs=[.str z]/\-z<=sizeLine/\Q (.int (-z)) H):=by
 intro pi s σ H xs us Q I r h;let#[z,rfl,hz,q]:=h;let#[u,rfl,t,rfl]:=vals1 r;let hn:=ye;show len_str () #[.int (-z),H,I.tok _,#[_,rfl],q]
def aJ4:j7 X (.type "list") (λxs H Q=>∃p ys,xs=[.ref p]/\(fR X.K H p ys\/gm X.K H p ys)/\∀l,H l=none->Q (.ref l) (upd H l (.lst ys))):=by
 intro pi s σ H xs us Q I r h;let#[p,ys,rfl,hq,q]:=h;let#[u,rfl,rx]:=vals1 r;cases rx;let fin:∀(aX:@&Value),Vals ys aX->-ys<=sizeLine->∀(h':Heap) (c':Nat),(∀b o',s.heap.get? b=!o'->h'.get? b=!o') ->
   h'.get? s⁻¹=some { cls:=.type "list",dict:=none,data:=.seq aX.toArray c',slots:=(List.toArray []) }->EP X pi σ Q (.ref s⁻¹) { s with heap:=h' }:=λaX r' hz h' c' kp e =>
  #[.ref s⁻¹,_,I.laid (t':=s.toks) kp (ak _) (show j5 X.prog X.w _ h' _ (.lst ys) from#[hz,aX,c',r',e]),rfl,q _ (I.bw.fresh (ak _))]
 rcases hq with hq|hq
 .let#[aX,r',pl,hz]:=I.list hq;let hlen:=-r';let#[o,ho,hc,n,hd]:=pl.isList;show call_list_seq p (.inl rfl) ho hc hd (λh' c' kp e=>fin aX r' hz h' c' kp e) (by simp_all)
 .let#[aX,r',pl,hz]:=I.tuple hq;let hlen:=-r';let#[o,ho,hc,n,hd]:=pl;show call_list_seq p (.inr rfl) ho hc hd (λh' c' kp e=>fin aX r' hz h' c' kp e) (by simp_all)
def aA2:j7 X (.type "tuple") (λxs H Q=>∃p ys,xs=[.ref p]/\((fR X.K H p ys/\∀l,H l=none->Q (.ref l) (upd H l (.tup ys)))\/(gm X.K H p ys/\Q (.ref p) H))):=by
 intro pi s σ H xs us Q I r h;let#[p,ys,rfl,h]:=h;let#[u,rfl,rx]:=vals1 r;cases rx;rcases h with⟨hq,q⟩|⟨hq,q⟩
 .let#[aX,r',pl,hz]:=I.list hq;let hlen:=-r';show call_tuple_list pl.isList (λh' kp=>?_) (by simp_all);let I1:=I.kept (t':=s.toks) kp;let I2:Inv X pi σ (upd H h'.objs.size (.tup ys)) { s with heap:=h'.push { cls:=.type "tuple",data:=.seq aX.toArray } } :=
   I1.laid (t':=s.toks) (λb o e=>ah _ e) (ak _) (show j5 X.prog X.w _ _ _ (.tup ys) from#[hz,aX,r',K0.new _ _])
  show#[.ref h'.objs.size,_,I2,rfl,q _ (I1.bw.fresh (ak _))]
 .let#[aX,r',pl,hz]:=I.tuple hq;show call_tuple_same pl #[.ref p,H,I,rfl,q]
def oR(K:PySem.W.Frag)(T:String)(x:V)(H:Hp):Prop:=match x with
 |.str _=>T="str"
 |.int _=>T="int"
 |.ref p=>(T="list"/\∃xs,fR K H p xs)\/(T="tuple"/\∃o,K.lookup p=!o/\o.cls=.type "tuple"/\o.dict=none) \/
   (T="dict"/\((∃kvs,H p=!.dK kvs)\/∃kvs,H p=!.dT kvs))\/(T="set"/\∃S n,H p=!.set S n)
 |_=>False
def Oh{T:String}{v:Value}(I:Inv X pi σ H s)(r:RelV x v)(ty:oR X.K T x H) :
  s.TypeIs v T/\∀a,v=.ref a->∃ob,s.heap.get? a=!ob/\ob.dict=none:=by
 cases x with
 |str z =>
  let#[t,rfl]:=r;cases (show T="str" from ty);show#[mO s z t,λy e=>nomatch e]
 |int i =>
  let#[t,rfl]:=r;cases (show T="int" from ty);show#[mP s i t,λy e=>nomatch e]
 |ref p =>
  cases r;rcases ty with⟨rfl,xs,hq⟩|⟨rfl,o,hk,hc,hd⟩|⟨rfl,hk⟩|⟨rfl,S,n,hk⟩
  .let#[aX,_,pl,_]:=I.list hq;show#[pl.isList.typeIs,λa e=>?_];cases e;let#[o,n,e,c,hd,_]:=pl;show#[o,e,hd]
  .refine#[#[o,I.fU p o hk,hc],λa e=>?_];cases e;show#[o,I.fU _ o hk,hd]
  .let z:∃o,s.heap.get? p=!o/\o.ExactDict:=by
    rcases hk with⟨kvs,hk⟩|⟨kvs,hk⟩
    .let#[_,_,_,_,o,_,_,e,ex,_]:=I.bw p _ hk;show#[o,e,ex]
    .let#[_,_,_,_,o,_,_,e,ex,_]:=I.bw p _ hk;show#[o,e,ex]
   let#[o,e,ex]:=z;show#[#[o,e,ex.1],λa e2=>?_];cases e2;show#[o,e,ex.2.1]
  .let#[o,_,_,_,e,ex,_]:=I.bw p _ hk;show#[#[o,e,ex.1],λa e2=>?_];cases e2;show#[o,e,ex.2.1]
 |_=>show False.elim ty
def b02(K:PySem.W.Frag)(T:String)(r:V->@&V->Hp->VK->Prop)(to:TE):TE:=λσ H Q=>to σ H λx H1=>oR K T x H1/\r x [] H1 Q
def OO(K:PySem.W.Frag)(T:String)(r:V->@&V->Hp->VK->Prop)(to:TE)(t:TA):TE:=λσ H Q=>to σ H λx H1=>oR K T x H1/\t σ H1 λxs H2=>r x xs H2 Q
variable{o:Expr}{es:@&Expr}{to:TE}{t:TA}{name:Str}{apos dY:Pos}{T id:String}{r:V->@&V->Hp->VK->Prop}
def YU(pa:PlainAttrs T)(slot:Slot T name id)(rS:typeOf (.builtin id)=pure (.type "method_descriptor"))(hm:kU X id r)(ho:PE X o to)(fQ:attributeBase o name X.env (eval o X.env)=eval o X.env:=by rfl)(fP:(apos.endLine==dY.line)=true:=by rfl):PE X (.Call (.Attribute o name apos) [] [] dY) (b02 X.K T r to):=by
 intro pi s σ H Q I h;show wpAny_Call_method0_late fQ fP (cF (ho pi s σ H _ I h) λv s1 bf=>?_);let#[x,H1,I1,r1,ty,q1]:=bf;let#[h1,h2]:=Oh I1 r1 ty;show#[T,id,pa,slot,rS,h1,h2,fu rfl (PySem.evalArgs_none (hm pi s1 σ H1 x [] v [] Q I1 r1 .nil q1))]
def Xc(pa:PlainAttrs T)(slot:Slot T name id)(rS:typeOf (.builtin id)=pure (.type "method_descriptor"))(hm:kU X id r)(ho:PE X o to)(ha:PA X (e::es) t)(fQ:attributeBase o name X.env (eval o X.env)=eval o X.env:=by rfl)(kR:((backTo dY (starEach (e :: es) X.env)).all (λx=>~~~x.1) && (backToKw dY (keywordEach [] X.env)).all (λx=>x.1.isSome)
   && decide ((e :: es).length + ([]:@&Keyword).length + (if ([]:@&Keyword).isEmpty then 0 else 1) < 30))=true:=by rfl)(fP:(apos.endLine==dY.line)=true:=by rfl)(hs:starEach (e::es) X.env=(false,eval e X.env)::starEach es X.env:=by rfl)(eN:(backTo dY (starEach es X.env)).any (·.1)=false:=by rfl) :
  PE X (.Call (.Attribute o name apos) (e::es) [] dY) (OO X.K T r to t):=by
 intro pi s σ H Q I h;show wpAny_Call_method_late fQ kR fP rfl (cF (ho pi s σ H _ I h) λv s1 bf=>?_);let#[x,H1,I1,r1,ty,q1]:=bf;let#[h1,h2]:=Oh I1 r1 ty;show#[T,id,pa,slot,rS,h1,h2,?_];let hA:=ha dY pi s1 σ H1 _ I1 q1;rw[hs] at hA ⊢;show fu (by show(false||(backTo dY (starEach es X.env)).any (·.1))=false;rw[eN]<;>rfl) (fZ ?_);show cF hA (by rintro us s2 ⟨vs,H2,I2,r2,q2⟩;show hm pi s2 σ H2 x vs v us Q I2 r1 r2 q2)
end
abbrev FZ(X:Cx)(id:String)(r:V->@&V->Hp->VK->Prop):Prop :=
 ∀(pi:@&(Addr×Obj)) (s:Shared) (σ:St) (H:Hp) (x:V) (xs:@&V) (v:Value) (us:@&Value) (Q:VK),Inv X pi σ H s->RelV x v->Vals xs us->r x xs H Q ->
  wpAny (model X.prog X.w) X.A (call (.builtin id) (v::us)) (EP X pi σ Q) X.xe s
def Vals.one{us:@&Value}(h:Vals [x] us):∃u,us=[u]/\RelV x u:=by
 cases h with
 |cons r h =>
  cases h;show#[_,rfl,r]
def Vals.zero:∀{us:@&Value},Vals [] us->us=[]
 |_,.nil=>rfl
def Vals.dropLast{xs:@&V}{us:@&Value}(h:Vals xs us):Vals xs.dropLast us.dropLast:=by
 induction h with
 |nil=>show .nil
 |cons r t ih =>
  cases t with
  |nil=>show .nil
  |cons q t'=>show .cons r ih
def Vals.eraseIdx:∀{xs:@&V} {us:@&Value} (i:Nat),Vals xs us->Vals (xs.eraseIdx i) (us.eraseIdx i)
 |_,_,_,.nil=>.nil
 |_,_,0,.cons _ t=>t
 |_,_,i+1,.cons r t=>.cons r (Vals.eraseIdx i t)
def Vals.reverse{xs:@&V}{us:@&Value}(h:Vals xs us):Vals xs.reverse us.reverse:=by
 induction h with
 |nil=>show .nil
 |cons r t ih=>rw[gF,gF];show Vals.append ih (.cons r .nil)
def Vals.rep{xs:@&V}{us:@&Value}(h:Vals xs us):∀k:Nat,Vals (List.replicate k xs).flatten (List.replicate k us).flatten
 |0=>.nil
 |k+1=>by
  show Vals.append h (Vals.rep h k)
def foldl_rep(aX:@&Value):∀(k:Nat) (acc:@&Value),
  List.foldl (λx1 x2=>x1++x2) acc.toArray (List.replicate k aX.toArray)=(acc++(List.replicate k aX).flatten).toArray
 |0,acc=>by simp
 |k+1,acc=>by
  let e:acc.toArray++aX.toArray=(acc++aX).toArray:=by simp
  let e2:(acc++aX)++(List.replicate k aX).flatten=acc++(List.replicate (k+1) aX).flatten:=by
   rw[dA,List.flatten_cons,gG]
  rw[<- e2,<- foldl_rep aX k (acc++aX),<- e,dA,fH]
section
variable{l:Addr}{xs ys:@&V}
def Inv.sS{its':@&Value}{f:Array Value->Array Value}{t':Nat}(I:Inv X pi σ H s)(hH:H l=!.lst xs)(e:s.heap.get? l=some { cls:=.type "list",data:=.seq aX.toArray n })(hf:f aX.toArray=its'.toArray)(hv:Vals ys its')(hz:-ys<=sizeLine) :
  Inv X pi σ (upd H l (.lst ys)) { s with heap:=s.heap.update l (Obj.mapSeq f),toks:=t' }:=by
 let q:=PySem.IsL.update e f;rw[hf] at q;show I.write (by rw[hH];show trivial) (.inl rfl) (λb' u hb hu=>(bz s.heap (Obj.mapSeq f) (bq hb)).trans hu) #[_,q] ?_;show#[hz,its',_,hv,q]
def Inv.JA{t':Nat}(I:Inv X pi σ H s)(hv:Vals ys aX)(hz:-ys<=sizeLine) :
  Inv X pi σ (upd H s⁻¹ (.lst ys)) { s with heap:=s.heap.push { cls:=.type "list",data:=.seq aX.toArray },toks:=t' } :=
 I.laid (λx x q=>ah _ q) (ak _) #[hz,aX,0,hv,au _ rfl]
def Inv.fresh(I:Inv X pi σ H s):H s⁻¹=none:=I.bw.fresh (ak _)
def Inv.uy(I:Inv X pi σ H s)(hH:H l=!.lst xs):-xs<=sizeLine/\∃(aX:@&Value) (n:Nat),Vals xs aX/\-xs=-aX/\s.heap.get? l=some { cls:=.type "list",data:=.seq aX.toArray n }:=by
 let#[z,aX,n,r,e]:=I.bw l _ hH;show#[z,aX,n,r,(-r),e]
def UK(h:n<=sizeLine):Builtin.List.listTooLong n=false:=by
 unfold Builtin.List.listTooLong
 simp_all
end
abbrev SQ:V->@&V->Hp->VK->Prop:=λx vs H Q=>∃l xs y,x=.ref l/\vs=[y]/\H l=!.lst xs/\-xs<sizeLine/\Q .aO (upd H l (.lst (xs++[y])))
def a48:FZ X "list.append" SQ:=by
 intro pi s σ H x vs v us Q I rx rv h;let#[l,xs,y,rfl,rfl,hH,hz,q]:=h;cases rx;let#[u,rfl,ru]:=rv.one;let#[z,aX,n,r,hl,e]:=I.uy hH;show cE F.slot_list_append #[_,e,rfl] F.entry_list_append (F.args_list_append_2 _ _) (PySem.list_append l aX.toArray n u (by grind)) #[e,?_];show#[.aO,_,I.sS (its':=aX++[u]) hH e #[_] (r.append (.cons ru .nil)) ?_,rfl,q]
 grind
abbrev b22:V->@&V->Hp->VK->Prop:=λx vs H Q=>∃l xs y,x=.ref l/\vs=[]/\H l=!.lst xs/\xs[(-xs)-1]?=!y/\Q y (upd H l (.lst xs.dropLast))
def Yy:FZ X "list.pop" b22:=by
 intro pi s σ H x vs v us Q I rx rv h;let#[l,xs,y,rfl,rfl,hH,hy,q]:=h;cases rx;let tT:=rv.zero;subst tT;let#[z,aX,n,r,hl,e]:=I.uy hH;let#[u,hu,ru]:=r.get hy;let wc:aX.toArray[aX.toArray.size-1]?=!u:=by
  change aX.toArray[(-aX)-1]?=!u;rw[<- iQ,<- hl];show hu
 show cE F.slot_list_pop #[_,e,rfl] F.entry_list_pop (F.args_list_pop_1 _) (MeetsSeq.list_pop_last l aX.toArray n u wc (by rw[aK];omega)) #[e,?_];show#[y,_,I.sS (its':=aX.dropLast) hH e ?_ r.dropLast ?_,ru,q]
 .simp
 .rw[List.length_dropLast];omega
abbrev Zq:V->@&V->Hp->VK->Prop:=λx vs H Q=>∃l xs,x=.ref l/\vs=[]/\H l=!.lst xs/\Q .aO (upd H l (.lst []))
def UH:FZ X "list.clear" Zq:=by
 intro pi s σ H x vs v us Q I rx rv h;let#[l,xs,rfl,rfl,hH,q]:=h;cases rx;let tT:=rv.zero;subst tT;let#[z,aX,n,r,hl,e]:=I.uy hH;show cE F.slot_list_clear #[_,e,rfl] F.entry_list_clear (F.args_list_clear_1 _) (AutoSeq1.list_clear_list_0 l aX.toArray n (by rw[aK];omega)) #[e,?_];show#[.aO,_,I.sS (its':=[]) hH e rfl .nil (cQ _),rfl,q]
def b25:R2:=λx y H Q=>∃l b xs zs,x=.ref l/\y=.ref b/\H l=!.lst xs/\H b=!.lst zs/\-xs+-zs<=sizeLine/\∀p,H p=none->Q (.ref p) (upd H p (.lst (xs++zs)))
def YH:fc X (binaryOp .Add) b25:=by
 intro pi s σ H x y v u Q I rx ry h;let#[l,b,xs,zs,rfl,rfl,hH,hB,hz,q]:=h;cases rx;cases ry;let#[z,aX,n,r,hl,e]:=I.uy hH;let#[z2,lU,n2,r2,rZ,e2]:=I.uy hB;show PySem.P.add_list e e2 ?_ (by rw[aK,aK];omega);let ea:aX.toArray++lU.toArray=(aX++lU).toArray:=by simp
 rw[ea];show#[.ref _,_,I.JA (t':=s.toks) (r.append r2) (by rw[ba];omega),rfl,q _ I.fresh]
def b21:R2:=λx y H Q=>∃l k xs,x=.ref l/\y=.int k/\H l=!.lst xs/\-(2 ^ 63)<=k/\k<2 ^ 63/\-xs*k.toNat<=sizeLine /\
 ∀p,H p=none->Q (.ref p) (upd H p (.lst (List.replicate k.toNat xs).flatten))
def len_rep(xs:List α)(k:Nat):(List.replicate k xs).flatten.length=k*-xs:=by
 simp
def YN:fc X (binaryOp .Mult) b21:=by
 intro pi s σ H x y v u Q I rx ry h;let#[l,k,xs,rfl,rfl,hH,h1,h2,hz,q]:=h;cases rx;let#[t,rfl]:=ry;let#[z,aX,n,r,hl,e]:=I.uy hH;let hlen:aX.toArray.size*k.toNat<=sizeLine:=by rw[aK,<- hl];show hz
 let Cf:¬aX.toArray.size*k.toNat>(2 ^ 63-1) / 8:=by
  have:(sizeLine:Nat)<=(2 ^ 63-1) / 8:=by decide
  omega
 let Cb:¬(~~~Builtin.List.listFitsIndex k)=true:=by
  rw[fitsIndex_both h1 h2];show bo
 let wC:¬Builtin.List.listTooLong (aX.toArray.size*k.toNat)=true:=by
  rw[UK hlen];show bo
 let lX:List.foldl (λx1 x2=>x1++x2) (List.toArray []) (List.replicate (if aX.toArray.isEmpty=true then 0 else k.toNat) aX.toArray)=(List.replicate k.toNat aX).flatten.toArray:=by
  let f0:∀m:Nat,List.foldl (λx1 x2=>x1++x2) (List.toArray []) (List.replicate m aX.toArray)=(List.replicate m aX).flatten.toArray:=λm=>by
   have:=foldl_rep aX m []
   simp_all
  rw[f0];cases aX with
  |nil=>simp
  |cons a r'=>rfl
 show Gg ∅ #[_,e,rfl] (λs'=>mP s' k t) noFill_list_mul F.fills_int_mul jK repeat_list F.slot_int_index.lookup
  (cE jK (mP s k t) F.entry_int_rmul (F.args_int_rmul_2 _ _) (int___rmul___int_list k t l aX.toArray n)
   #[e,rfl,#[_,e,rfl],cE F.slot_list_mul #[_,e,rfl] F.entry_list_mul (F.args_list_mul_2 _ _) (AutoListH.list___mul___list_int_3 l aX.toArray n k t Cb Cf wC) #[e,?_]])
 rw[lX];show#[.ref _,_,I.JA (t':=s.toks) (r.rep k.toNat) (by rw[len_rep,vf];show hz),rfl,q _ I.fresh]
section
variable{κ:Type}[DecidableEq κ]
abbrev P8(kvs:@&(κ×V))(k:κ):Option V:=(kvs.find? λkv=>decide (kv.1=k)).map (·.2)
abbrev putK(kvs:@&(κ×V))(k:κ)(v:V):@&(κ×V) :=
 if(kvs.any λkv=>decide (kv.1=k))=true then kvs.map (λkv=>if kv.1=k then(kv.1,v) else kv) else kvs++[(k,v)]
abbrev AF(kvs:@&(κ×V))(k:κ):@&(κ×V):=kvs.filter λkv=>decide (kv.1≠k)
def Ep{p:κ×V}{r:@&(κ×V)}{k:κ}(e:p.1=k):P8 (p::r) k=!p.2:=by simp[P8,List.find?_cons,e]
def Eo{p:κ×V}{r:@&(κ×V)}{k:κ}(e:¬p.1=k):P8 (p::r) k=P8 r k:=by simp[P8,List.find?_cons,e]
def Nu(k:κ):∀kvs:@&(κ×V),(kvs.any λkv=>decide (kv.1=k))=(P8 kvs k).isSome
 |[]=>rfl
 |p::r=>by
  rw[eL];by_cases e:p.1=k
  .simp only[Ep e,decide_eq_true e,Bool.true_or,Option.isSome_some]
  .rw[Eo e,aN e,qW];show Nu k r
def ET(kvs:@&(κ×V))(k:κ)(v:V):(putK kvs k v).length<=-kvs+1:=by
 unfold putK;split
 .simp
 simp
def E0.S8{u:Option Value}(r:E0 o u):o.isSome=u.isSome:=by
 cases o with
 |none=>cases u with
  |none=>rfl
  |some _=>show(show False from r).elim
 |some _=>cases u with
  |none=>show(show False from r).elim
  |some _=>rfl
def E0.getD{o:Option V}{u:Option Value}{d:V}{d':Value}(r:E0 o u)(rd:RelV d d'):RelV (o.getD d) (u.getD d'):=by
 cases o with
 |none=>cases u with
  |none=>show rd
  |some _=>show(show False from r).elim
 |some _=>cases u with
  |none=>show(show False from r).elim
  |some _=>show r
def KV.val{kvs:@&(κ×V)}{vs:@&(κ×Value)}(r:KV kvs vs)(k:κ):E0 (P8 kvs k) (valueAt vs k):=by
 induction r with
 |nil=>show True.intro
 |@cons p q ps qs h t ih =>
  let#[h1,h2]:=h;by_cases e:p.1=k
  .let e':=h1.symm.trans e;let b:valueAt (q::qs) k=!q.2:=by simp[valueAt,List.find?_cons,e']
   rw[Ep e,b];show h2
  .let e':¬q.1=k:=λz=>e (h1.trans z);let b:valueAt (q::qs) k=valueAt qs k:=by simp[valueAt,List.find?_cons,e']
   rw[Eo e,b];show ih
def KV.any{kvs:@&(κ×V)}{vs:@&(κ×Value)}(r:KV kvs vs)(k:κ):(kvs.any λkv=>decide (kv.1=k))=vs.any λkv=>decide (kv.1=k):=by
 induction r with
 |nil=>rfl
 |cons h t ih=>simp_all
def KV.DE{kvs:@&(κ×V)}{vs:@&(κ×Value)}(r:KV kvs vs)(k:κ)(ry:RelV y u) :
  KV (kvs.map λkv=>if kv.1=k then(kv.1,y) else kv) (vs.map λkv=>if kv.1=k then(kv.1,u) else kv):=by
 induction r with
 |nil=>show .nil
 |@cons p q ps qs h t ih =>
  rw[bQ,bQ];show .cons ?_ ih;let#[h1,h2]:=h;by_cases e:p.1=k
  .rw[av e,av (h1.symm.trans e)];show#[h1,ry]
  .rw[aw e,aw (λz=>e (h1.trans z))];show#[h1,h2]
def KV.put{kvs:@&(κ×V)}{vs:@&(κ×Value)}(r:KV kvs vs)(k:κ)(ry:RelV y u):KV (putK kvs k y) (stored vs k u):=by
 unfold putK stored;rw[r.any k];by_cases e:(vs.any λkv=>decide (kv.1=k))=true
 .rw[av e,av e];show r.DE k ry
 .rw[aw e,aw e];show Paired.snoc r #[rfl,ry]
def KV.drop{kvs:@&(κ×V)}{vs:@&(κ×Value)}(r:KV kvs vs)(k:κ):KV (AF kvs k) (without vs k):=by
 unfold AF without
 induction r with
 |nil=>show .nil
 |@cons p q ps qs h t ih =>
  let#[h1,h2]:=h;rw[dG,dG];by_cases e:p.1=k
  .let a:¬decide (p.1≠k)=true:=by simp[e]
   let b:¬decide (q.1≠k)=true:=by simp[h1.symm.trans e]
   rw[aw a,aw b];show ih
  .let e':¬q.1=k:=λz=>e (h1.trans z);let a:decide (p.1≠k)=true:=by simp[e]
   let b:decide (q.1≠k)=true:=by simp[e']
   rw[av a,av b];show .cons #[h1,h2] ih
def KV.keys{kvs:@&(κ×V)}{vs:@&(κ×Value)}(r:KV kvs vs):kvs.map (·.1)=vs.map (·.1):=by
 induction r with
 |nil=>rfl
 |cons h t ih=>simp_all
def KV.length{kvs:@&(κ×V)}{vs:@&(κ×Value)}(r:KV kvs vs):-kvs=-vs:=mx r
end
def uK{k:Key}(r:RelV (kV k) u):(j3 P w).is k u=true:=by
 cases k with
 |inl i=>let#[t,e]:=(show ∃t,u=Value.int i t from r);subst e;show Y9 P w i t
 |inr x=>let#[t,e]:=(show ∃t,u=Value.str x t from r);subst e;show aL0 P w x t
def Kc{P:Program}{w:World}:∀{ks:@&Key} {us:@&Value},Vals (ks.map kV) us->ItemsAre (j3 P w) ks us
 |[],_,r=>by cases r;show .nil
 |k::ks,_,r=>by
  cases r with
  |cons h t=>show .cons (uK h) (Kc t)
noncomputable abbrev KT(H:Hp):@&(List Key×V)->@&(List Key×Addr×Value)->Prop:=Paired λp q=>p.1=q.1/\H q.2.1=!.tup (p.1.map kV)/\RelV p.2 q.2.2
def KT.val{xs:@&(List Key×Addr×Value)}(r:KT H kvs xs)(k:@&Key):E0 (P8 kvs k) ((atKey xs k).map (·.2)):=by
 induction r with
 |nil=>show True.intro
 |@cons p q ps qs h t ih =>
  let#[h1,_,h2]:=h;by_cases e:p.1=k
  .let e':=h1.symm.trans e;let b:atKey (q::qs) k=!q.2:=by simp[atKey,List.find?_cons,e']
   rw[Ep e,b];show h2
  .let e':¬q.1=k:=λz=>e (h1.trans z);let b:atKey (q::qs) k=atKey qs k:=by simp[atKey,List.find?_cons,e']
   rw[Eo e,b];show ih
def KT.DE{xs:@&(List Key×Addr×Value)}(r:KT H kvs xs)(k:@&Key)(ry:RelV y u) :
  KT H (kvs.map λkv=>if kv.1=k then(kv.1,y) else kv) (xs.map (putAt k u)):=by
 induction r with
 |nil=>show .nil
 |@cons p q ps qs h t ih =>
  rw[bQ,bQ];show .cons ?_ ih;let#[h1,h2,h3]:=h;unfold putAt;by_cases e:p.1=k
  .rw[av e,av (h1.symm.trans e)];show#[h1,h2,ry]
  .rw[aw e,aw (λz=>e (h1.trans z))];show#[h1,h2,h3]
def KT.put{xs:@&(List Key×Addr×Value)}(r:KT H kvs xs)(k:@&Key){b:Addr}(hb:H b=!.tup (k.map kV))(ry:RelV y u) :
  KT H (putK kvs k y) (storedH xs k b u):=by
 let e:(kvs.any λkv=>decide (kv.1=k))=(atKey xs k).isSome:=by
  rw[Nu,(r.val k).S8,kG]
 unfold putK storedH;rw[e];by_cases q:(atKey xs k).isSome=true
 .rw[av q,av q];show r.DE k ry
 .rw[aw q,aw q];show Paired.snoc r #[rfl,hb,ry]
def KT.keeps{xs:@&(List Key×Addr×Value)}(r:KT H kvs xs)(ht:∀b ys,H b=!.tup ys->H' b=!.tup ys):KT H' kvs xs :=
 Paired.JB r λx x z=>#[z.1,ht _ _ z.2.1,z.2.2]
section
variable{h:Heap}
def IU{u:HO}(ok:fN P w H h)(e:Rd H a u):j5 P w H h a u:=e.ok ok
def uG{kvs:@&(Key×V)}(ok:fN P w H h)(e:Rd H a (.dK kvs)):-kvs<=sizeLine/\(a==sysModules)=false/\∃vs,KV kvs vs/\h.DictOf (j3 P w) a vs :=
 show j5 P w H h a (.dK kvs) from IU ok e
def Fd{kvs:@&(Key×V)}(ok:fN P w H h)(e:H a=!.dK kvs):-kvs<=sizeLine/\(a==sysModules)=false/\∃vs,KV kvs vs/\h.DictOf (j3 P w) a vs:=uG ok (.inl e)
def yd{ks:@&Key}(ok:fN P w H h)(e:H a=!.tup (ks.map kV)):(tupleKind (j3 P w)).is h ks a:=by
 let#[_,aX,r,o,h1,h2,#[n,h3],_]:=(show j5 P w H h a (.tup (ks.map kV)) from ok a _ e)
 show#[o,aX.toArray,n,h1,h2,h3,by simpa using Kc r]
def xT(ok:fN P w H h)(e:Rd H a (.dT kvs)):-kvs<=sizeLine/\(a==sysModules)=false /\
  ∃xs,KT H kvs xs/\h.DictOfH (tupleKind (j3 P w)) a xs:=by
 let#[z,y,xs,r,o,es,ep,h1,h2,h3,h4,h5]:=(show j5 P w H h a (.dT kvs) from IU ok e)
 show#[z,y,xs,r,o,es,ep,h1,h2,h3,h4,λx hx=>?_,h5];let all:∀{l:@&(List Key×V)} {m:@&(List Key×Addr×Value)},KT H l m->∀x∈m,(tupleKind (j3 P w)).is h x.1 x.2.1:=by
  intro l m q
  induction q with
  |nil=>simp
  |@cons p q ps qs hq t ih =>
   intro x hx;rcases aE.mp hx with e|hx
   .exact yd ok (by simp_all)
   .exact ih x hx
 show all r x hx
def Wl(ok:fN P w H h)(e:H a=!.dT kvs):-kvs<=sizeLine/\(a==sysModules)=false /\
  ∃xs,KT H kvs xs/\h.DictOfH (tupleKind (j3 P w)) a xs:=xT ok (.inl e)
end
abbrev oz(H:Hp)(a:Addr)(y:V)(r:Option V):Prop :=
 (∃kvs k,Rd H a (.dK kvs)/\y=kV k/\r=P8 kvs k)\/∃kvs k b,Rd H a (.dT kvs)/\y=.ref b/\H b=!.tup (k.map kV)/\r=P8 kvs k
abbrev Ar(H:Hp)(a:Addr)(y v:V)(H':Hp):Prop :=
 (∃kvs k,H a=!.dK kvs/\y=kV k/\-kvs<sizeLine/\H'=upd H a (.dK (putK kvs k v))) \/
 ∃kvs k b,H a=!.dT kvs/\y=.ref b/\H b=!.tup (k.map kV)/\-kvs<sizeLine/\H'=upd H a (.dT (putK kvs k v))
def oz.k{H:Hp}{a:Addr}{kvs:@&(Key×V)}{k:Key}(e:H a=!.dK kvs):oz H a (kV k) (P8 kvs k):=.inl #[kvs,k,.inl e,rfl,rfl]
def Ar.k{H:Hp}{a:Addr}{kvs:@&(Key×V)}{k:Key}{v:V}(e:H a=!.dK kvs)(hl:-kvs<sizeLine):Ar H a (kV k) v (upd H a (.dK (putK kvs k v))):=.inl #[kvs,k,e,rfl,hl,rfl]
section
variable{v:V}{r:Value}
def Inv.big(I:Inv X pi σ H s):sysModules<s⁻¹:=by
 let h:=(I.mod.glob.keeps I.bk).lt;show cI ∅ h
def a90{Q:Value->Shared->Prop}(hu:A.units+1<cLine)(I:Inv X pi σ H s)(g:oz H a y (!v))(ry:RelV y u)(h:∀w' s',Inv X pi σ H s'->RelV v w'->Q w' s') :
  wpAny (model X.prog X.w) A (getItem (.ref a) u) Q E s:=by
 rcases g with⟨kvs,k,e,ey,l⟩|⟨kvs,k,b,e,ey,eb,l⟩
 .subst ey;let#[z,hd,vs,rel,dd]:=uG I.bw e;let#[w',hw,fk]:=E0.some_of (by rw[l];show rel.val k);show wpAny_getItem_of (uK ry) dd.mapOf hw (h w' _ (I.tok _) fk)
 .subst ey;cases (show u=Value.ref b from ry);let#[z,hd,xs,rel,dd]:=xT I.bw e;let#[w',hw,fk]:=E0.some_of (by rw[l];show rel.val k);let#[p,hp,pj]:=ae.mp hw;show wpAny_getItem_heap (gX hu) (yd I.bw eb) dd hp ?_;rw[pj];show h w' _ (I.tok _) fk
def b53{Q:Value->Shared->Prop}(hu:A.units+1<cLine)(I:Inv X pi σ H s)(g:oz H a y o)(ry:RelV y u)(h:∀s',Inv X pi σ H s'->Q (.bool o.isSome) s') :
  wpAny (model X.prog X.w) A (compareOp .In u (.ref a)) Q E s:=by
 rcases g with⟨kvs,k,e,ey,l⟩|⟨kvs,k,b,e,ey,eb,l⟩
 .subst ey;let#[z,hd,vs,rel,dd]:=uG I.bw e;show wpAny_in_of (uK ry) hd dd.mapOf ?_;rw[<- (rel.val k).S8,<- l];show h _ (I.tok _)
 .subst ey;cases (show u=Value.ref b from ry);let#[z,hd,xs,rel,dd]:=xT I.bw e;show wpAny_in_heap (gX hu) (yd I.bw eb) hd dd ?_;let q:=(rel.val k).S8;rw[kG] at q;rw[<- q,<- l];show h _ (I.tok _)
def bA5{Q:Value->Shared->Prop}(hu:A.units+1<cLine)(I:Inv X pi σ H s)(g:oz H a y o)(ry:RelV y u)(h:∀s',Inv X pi σ H s'->Q (.bool (~~~o.isSome)) s') :
  wpAny (model X.prog X.w) A (compareOp .NotIn u (.ref a)) Q E s:=by
 rcases g with⟨kvs,k,e,ey,l⟩|⟨kvs,k,b,e,ey,eb,l⟩
 .subst ey;let#[z,hd,vs,rel,dd]:=uG I.bw e;show wpAny_notIn_of (uK ry) hd dd.mapOf ?_;rw[<- (rel.val k).S8,<- l];show h _ (I.tok _)
 .subst ey;cases (show u=Value.ref b from ry);let#[z,hd,xs,rel,dd]:=xT I.bw e;show wpAny_notIn_heap (gX hu) (yd I.bw eb) hd dd ?_;let q:=(rel.val k).S8;rw[kG] at q;rw[<- q,<- l];show h _ (I.tok _)
def DM{h':Heap}{t':Nat}{ob:HO}(I:Inv X pi σ H s)(mu:yE (H a))(hs:Heap.SameBut a s.heap h')(he:∃q,h'.get? a=!q)(new:j5 X.prog X.w (upd H a ob) h' a ob) :
  Inv X pi σ (upd H a ob) { s with heap:=h',toks:=t' } :=
 I.write mu (.inl rfl) (λb q hb z=>(hs.2 b hb).trans z) he new
def zL{h':Heap}{kvs:@&(Key×V)}{vs:@&(Key×Value)}(z:-kvs<=sizeLine)(hd:(a==sysModules)=false)(rel:KV kvs vs)(dd:h'.DictOf (j3 P w) a vs) :
  j5 P w H' h' a (.dK kvs):=#[z,hd,vs,rel,dd]
def a89{Q:Unit->Shared->Prop}(hu:A.units+1<cLine)(I:Inv X pi σ H s)(g:Ar H a y v H')(ry:RelV y u)(rv:RelV v r)(h:∀s',Inv X pi σ H' s'->Q Unit.unit s') :
  wpAny (model X.prog X.w) A (setItem (.ref a) u r) Q E s:=by
 rcases g with⟨kvs,k,e,ey,l,eH⟩|⟨kvs,k,b,e,ey,eb,l,eH⟩
 .subst ey eH;let#[z,hd,vs,rel,dd]:=Fd I.bw e;let hz:-vs<=sizeLine:=by rw[<- -rel];show z
  let hl:(putK kvs k v).length<=sizeLine:=by have:=ET kvs k v;omega
  show wpAny_setItem_pairs (uK ry) dd λh' pQ hs=>h _ ?_;let he:∃q,h'.get? a=!q:=let ⟨q,_,_,hq,_⟩:=pQ;#[q,hq]
  show DM I (by rw[e];show True.intro) hs he (zL hl hd (rel.put k rv) pQ)
 .subst ey eH;cases (show u=Value.ref b from ry);let#[z,hd,xs,rel,dd]:=Wl I.bw e;let hz:-xs<=sizeLine:=by rw[<- mx rel];show z
  let hl:(putK kvs k v).length<=sizeLine:=by have:=ET kvs k v;omega
  show wpAny_setItem_heap (gX hu) (yd I.bw eb) dd λh' pQ hs=>h _ ?_;let#[q,es,ep,hq,h2,h3,h4,_,h5]:=pQ;show DM I (by rw[e];show True.intro) hs #[q,hq] #[hl,hd,_,(rel.put k eb rv).keeps λc ys ec=>?_,q,es,ep,hq,h2,h3,h4,h5];rw[d6 (WQ ec e (λz=>nomatch z))];show ec
end
def aL7(I:Inv X pi σ H s)(g:oz H a y o):s.TypeIs (.ref a) "dict":=by
 rcases g with⟨kvs,k,e,_,_⟩|⟨kvs,k,b,e,_,_,_⟩
 .let#[_,_,vs,_,dd]:=uG I.bw e;show dd.typeIs
 .let#[_,_,xs,_,dd]:=xT I.bw e;show dd.typeIs
def MQ(h:Heap)(hb:sysModules<h.objs.size):j5 P w H (h.push { cls:=.type "dict",data:=.dict (List.toArray []) }) h.objs.size (.dK []) :=
 #[cQ _,cN.mpr (bq (aD hb)),[],.nil,Heap.DictOf.new h]
def ZY:TE:=λx H Q=>∀p,H p=none->Q (.ref p) (upd H p (.dK []))
def UR:PE X (.Dict [] [] pos) ZY:=λpi s σ H Q I h =>
 wpAny_Dict_empty #[.ref s⁻¹,_,I.laid (t':=s.toks) (λx x q=>ah _ q) (ak _) (MQ s.heap I.big),rfl,h _ (I.bw.fresh (ak _))]
abbrev zS:@&(TE×TE)->St->Hp->(List (V×V)->Hp->Prop)->Prop
 |[],_,H,Q=>Q [] H
 |(tk,tv)::r,σ,H,Q=>tk σ H λx H1=>tv σ H1 λy H2=>zS r σ H2 λps H3=>Q ((x,y)::ps) H3
noncomputable abbrev VV:@&(V×V)->@&(Value×Value)->Prop:=Paired λp q=>RelV p.1 q.1/\RelV p.2 q.2
abbrev yD(X:Cx)(pos:Pos)(keys:@&(Option Expr))(values:@&Expr)(ij:@&(TE×TE)):Prop :=
 ∀(pi:@&(Addr×Obj)) (s:Shared) (σ:St) (H:Hp) (Q:@&(V×V)->Hp->Prop),Inv X pi σ H s->zS ij σ H Q ->
  wpAny (model X.prog X.w) X.A (evalPairs (pairTrees keys values X.env pos)) (λvs s'=>∃ps H',Inv X pi σ H' s'/\VV ps vs/\Q ps H') X.xe s
def SF:yD X pos [] [] []:=λpi s σ H Q I h=>pairTrees_nil_walk #[[],H,I,.nil,h]
def U'{k v:Expr}{ks:@&(Option Expr)}{vs:@&Expr}{tk tv:TE}{ij:@&(TE×TE)}(hk:PE X k tk)(hv:PE X v tv)(hr:yD X pos ks vs ij) :
  yD X pos (some k::ks) (v::vs) ((tk,tv)::ij):=λpi s σ H Q I h =>
 pairTrees_cons_walk (cF (hk pi s σ H _ I h) λu s1 ⟨x,H1,I1,rx,q1⟩=>cF (hv pi s1 σ H1 _ I1 q1) λw2 s2 ⟨y,H2,I2,ry,q2⟩ =>
  cF (hr pi s2 σ H2 _ I2 q2) (by rintro ws s3 ⟨ps,H3,I3,rel,q3⟩;show #[(x,y) :: ps,H3,I3,.cons #[rx,ry] rel,q3]))
abbrev W7(kvs more:@&(Key×V)):@&(Key×V):=more.foldl (λacc kv=>putK acc kv.1 kv.2) kvs
def KV.merge:∀{more:@&(Key×V)} {rs:@&(Key×Value)} {kvs:@&(Key×V)} {vs:@&(Key×Value)},KV more rs->KV kvs vs->KV (W7 kvs more) (merged vs rs):=by
 intro more rs kvs vs r
 induction r generalizing kvs vs with
 |nil=>intro q;show q
 |@cons p q ps qs h t ih =>
  intro r0;let e:KV (putK kvs p.1 p.2) (stored vs q.1 q.2):=by
   have:=r0.put p.1 h.2;rw[<- h.1];show this
  show ih e
def Ll:∀(more kvs:@&(Key×V)),(W7 kvs more).length<=-kvs+-more
 |[],kvs=>by change (-kvs)<=-kvs+0;omega
 |p::r,kvs=>by
  let h1:=Ll r (putK kvs p.1 p.2);let h2:=ET kvs p.1 p.2;show(W7 (putK kvs p.1 p.2) r).length<=_
  grind
def Kv{P:Program}{w:World}:∀{kvs:@&(Key×V)} {ws:@&(Value×Value)},VV (kvs.map λkv=>(kV kv.1,kv.2)) ws->∃rs,Carries (j3 P w) ws rs/\KV kvs rs
 |[],_,r=>by cases r;show#[[],True.intro,.nil]
 |p::kvs,_,r=>by
  cases r with
  |@cons a b as bs h t =>
   let#[rs,c,q]:=Kv (P:=P) (w:=w) t;let#[b1,b2]:=b;show#[(p.1,b2)::rs,#[uK h.1,rfl,c],.cons #[rfl,h.2] q]
def XA(ij:@&(TE×TE)):TE:=λσ H Q=>∀p,H p=none->zS ij σ (upd H p (.dK [])) λps H2=>H2 p=!.dK []/\∃kvs:@&(Key×V),ps=kvs.map (λkv=>(kV kv.1,kv.2))/\-kvs<=15/\Q (.ref p) (upd H2 p (.dK (W7 [] kvs)))
def Sw{keys:@&(Option Expr)}{values:@&Expr}{ij:@&(TE×TE)}(h:yD X pos keys values ij)(mf:keys.all (·.isSome)=true)(hl:-keys=-values)(h0:keys≠[])(CW:-keys<=15):PE X (.Dict keys values pos) (XA ij):=by
 intro pi s σ H Q I q;let hn:=I.bw.fresh (ak s⁻¹);let I1:=I.laid (h':=s.heap.push { cls:=.type "dict",data:=.dict (List.toArray []) }) (t':=s.toks) (λx x q=>ah _ q) (ak _) (MQ s.heap I.big);show wpAny_Dict_walk (knd:=j3 X.prog X.w) mf hl h0 CW (cF (h pi _ σ _ _ I1 (q _ hn)) λws s2 bf=>?_);let#[ps,H2,I2,rel,e,kvs,ep,lk,q2]:=bf;subst ep;let#[rs,c,rk]:=Kv rel;let#[z,hd,vs0,r0,dd]:=Fd I2.bw e;cases r0;show#[rs,c,dd,λh' pQ hs=>#[.ref s⁻¹,_,?_,rfl,q2]];let hz:(W7 [] kvs).length<=sizeLine:=by
  let h1:=Ll kvs [];rw[List.length_nil] at h1;rw[tB];omega
 let he:∃q,h'.get? s⁻¹=!q:=let ⟨q,_,_,hq,_⟩:=pQ;#[q,hq]
 show DM I2 (by rw[e];show True.intro) hs he (zL hz hd (rk.merge .nil) pQ)
section
variable{kvs:@&(Key×V)}
def Uh{Q:Value->Shared->Prop}(I:Inv X pi σ H s)(e:Rd H a (.dK kvs))(h:∀p s',H p=none->Inv X pi σ (upd H p (.dK kvs)) s'->Q (.ref p) s'):wpAny (model X.prog X.w) A (call (.type "dict") [.ref a]) Q E s:=by
 let#[z,hd,vs,rel,dd]:=uG I.bw e;show kt_call_dict hd dd (by rw[<- -rel];show z) λh' pQ hs=>?_;show h _ _ (I.bw.fresh (ak _)) (I.laid (t':=s.toks) (λb q hq=>?_) (ak _) (zL z (cN.mpr (bq (aD I.big))) rel pQ));show(hs.2 b (aD (ao hq))).trans (ah _ hq)
end
end L2
namespace Ou
open PySem PySem.W PySem.Calls PyProof.Rows
def ar5{P:Params}{h:Heap}:∀(ns:@&Int) (vs:@&Value),WellAll P h vs (ns.map WData.int)->IntsAre vs ns:=by
 intro ns
 induction ns with
 |nil =>
  intro vs w;cases w;show .nil
 |cons n ns ih =>
  intro vs w;cases w with
  |cons a b =>
   cases a;show .cons _ _ (ih _ b)
def a17{l:OpenLaw}{n:Nat}(hn:l.most=!n){P:Params}{h:Heap}{args:@&WData}{vals:@&Value}(ph:l.row.toRowW.claim.pre args=true)(BA:WellAll P h vals args) :
  ∃a vs ns,vals=[Value.ref a]/\args=[WData.list (ns.map WData.int)]/\h.get? a=some { cls:=.type "list",data:=.seq vs.toArray }/\IntsAre vs ns/\-ns<=n:=by
 let Qe:WShape.hasAll [] args [.list .int]=true:=(pre_splitW ph).1;let hc:l.pre.holds [] { args:=args }=true:=(pre_splitW ph).2;let#[d,r,rfl,h1,h2]:=hasAllW_cons Qe;obtain rfl:=hasAllW_nil h2;let#[xs,rfl,h3]:=hasW_list h1;let#[ns,rfl]:=items_int h3;let hlen:-ns<=n:=by
  let h4:(WTm.not (.lt (.lit (.int (n:Int))) (.len (.arg 0)))).holds [] { args:=[.list (ns.map .int)] }=true:=by
   let h4:=(holds_andW hc).1;rw[hn] at h4;show h4
  let h5:=condW_of h4 (w_not (w_lt w_lit (w_len_list (w_arg rfl))))
  simp_all
 cases BA with
 |cons w1 w2 =>
  cases w2;cases w1 with
  |list ho mf=>show#[_,_,ns,rfl,rfl,ho,ar5 ns _ mf,hlen]
def a26(l:OpenLaw)(args:@&WData):l.row.toRowW.claim.post args (.bool true) args=true :=
 postW_of
  (show WShape.has [] (.bool true) .bool=true by rfl)
  (show(WTm.eq .res (.lit (.bool true))).value [] { args:=args,res:=!.bool true,after:=args }=some (.bool (true==true)) from w_eq_bool (w_res rfl) w_lit) rfl
def aM1{l:OpenLaw}{n:Nat}{q:Program}{loose:@&Str}{XP:(Str->Option Value)->Heap->Prop}{YP:World->Heap->Prop}{d:DefRec}(hn:l.most=!n)(wN:d.params.defaults=[])(call:∀ (w:World) (du bL:Shared) (mg mb:Str->Option Value) (fa:Addr) (o:Obj) (pm cd doc:Value) (a:Addr) (vs:@&Value) (ns:@&Int),
   Ground q loose [] XP w du mg mb bL.heap->YP w bL.heap ->
   bL.heap.get? fa=!o->o.data=.func (docDef d.name d.params d.body d.scope pm cd doc)->bL.heap.CodeRec cd d.name->mg d.name=!.ref fa ->
   bL.heap.get? a=some { cls:=.type "list",data:=.seq vs.toArray }->IntsAre vs ns->-ns<=n->bL.gens=(List.toArray []) ->
   codeAny (model l.prog w) callerA (.call (.ref fa) #[[.ref a],[]]) (λr s'=>r=.ok (.ret (.bool true))/\OldK bL.heap s'.heap/\s'.os=bL.os/\AllBare s'.gens) bL) :
  WalkO q loose XP YP l.row.toRowW d [] (λf vs=>PySem.call f vs):=by
 intro w du bL mg mb G Y fa o pm cd doc dV kV ho hd lZ hD hmg hg args vals as ph Qn hrd BA qo;obtain rfl:dV=.none:=Dflts.none hD wN;obtain rfl:kV=.none:=Dflts.noKw hD;let#[a,vs,ns,rfl,rfl,kO,hints,hlen]:=a17 hn ph BA;show enter_call (fo (call w du bL mg mb fa o pm cd doc a vs ns G Y ho (fd_plain hd) lZ hmg kO hints hlen hg) λr s' hq=>?_);let#[rfl,h2,h3,h4]:=hq;show#[.inl #[.bool true,.bool true,[],rfl,λx=>rfl,.bool true,a26 l _,λx=>#[List.Pairwise.nil,λx hm=>(nomatch hm)]],h2,h3,h4]
end Ou
namespace L2
open PySem PySem.Spec PyProof.Rows
variable{w:World}{x qual:Str}{X:Cx}{A:Around}{s:Shared}{elt iter tg:Expr}{ifs:@&Expr}{scope:Scope}{pos:Pos}{cl:@&(Str×Addr)}{C:Addr}{N':@&Str}{c9:@&Nat}{fp:@&Addr}{g:TG}{tc:TT}{te:TE}
def Ko:∀{vs:@&Value} {ns:@&Int},IntsAre vs ns->Vals (ns.map V.int) vs
 |_,_,.nil=>.nil
 |_,_,.cons n t h=>.cons #[t,rfl] (Ko h)
def As(H:Hp):Prop:=∀b,H b=none\/∃o xs,H b=!.jH o (.lst xs)
def Ux{P:Program}{K:PySem.W.Frag}{mg mb:Str->Option Value}{CX:nX}{k:Nat}{fa a:Addr}{fd:FuncData}{sp:Sp}{bL:Shared}{vs:@&Value}{ns:@&Int}(KX:K.In bL.heap)(qm:bL.heap.Ns mainGlobals mg)(hb:bL.heap.Ns builtinsNs mb)(Ci:∀x:Str,x≠"__name__"->mb x=bootBuiltins x)(BP:bL.heap.NoLimit)(hg:bL.gens=(List.toArray []))(ha:bL.heap.get? a=some { cls:=.type "list",data:=.seq vs.toArray })(hi:IntsAre vs ns)(hl:-ns<=sizeLine)(hr:q9 k callerA)(F:∀base:Heap,K.In base->base.Ns mainGlobals mg->gD P w K mg base CX k fa fd [x] sp)(wW:∀(s:Shared) (u:Value),BindsTo s fd #[[u],[]] [(x,u)])(tU:∀H:Hp,As H->fR K H a (ns.map V.int)->sp [.ref a] H (λv y=>v=.bl true) λy y y=>False)(Ct:∀H e s',CX [] H bL (λy y y=>False) e s'->False) :
  codeAny (model P w) callerA (.call (.ref fa) #[[.ref a],[]]) (λr s'=>r=.ok (.ret (.bool true))/\OldK bL.heap s'.heap/\s'.os=bL.os/\AllBare s'.gens) bL:=by
 let rv:=Ko hi;let Px:=-hi;let core:∀H:Hp,As H->fR K H a (ns.map V.int)->fN P w H bL.heap->(∀b,H b≠none->b=a)->(H a≠none->K.lookup a=none) ->
   codeAny (model P w) callerA (.call (.ref fa) #[[.ref a],[]]) (λr s'=>r=.ok (.ret (.bool true))/\OldK bL.heap s'.heap/\s'.os=bL.os/\AllBare s'.gens) bL:=by
  intro H hO hS bw hA hK;let O0:∀{b:Addr} {o:Obj},bL.heap.get? b=!o->H b=none->(pX bL.heap H).get? b=!o:=λe n=>Us e n;let vN:∀{b:Addr} {o:Obj} {es:Array DictEntry} {ep:Nat},bL.heap.get? b=!o->o.data=.dict es ep->H b=none:=λ{b o es ep} e d=>by
   grind
  let yX:∀{b:Addr} {m:Str->Option Value},bL.heap.Ns b m->(pX bL.heap H).Ns b m:=λ{b m} ⟨o,es,ep,e,d,r⟩=>#[o,es,ep,O0 e (vN e d),d,r]
  let Hv:K.In (pX bL.heap H):=λb o e=>O0 (KX b o e) (by
   grind)
  let hM:Mod K mg (pX bL.heap H):=#[Hv,yX qm,#[mb,yX hb,Ci],let ⟨mc,h1,h2⟩:=BP;#[mc,yX h1,h2]]
  let e0:sO P w K mg (pX bL.heap H) callerA [] bL H:=#[rfl,hM,λb o e=>Si e,Nat.le_of_eq (a77 _ _),trivial,λb hb=>absurd (show b∈([]:@&Addr) from hb) #[_],bw,.of_eq hg]
  show fo ((F _ Hv (yX qm)).run callerA [] bL H #[[.ref a],[]] [.ref a] [.ref a] _ _ hr e0 (wW bL (.ref a)) (.cons rfl .nil) (tU H hO hS)) λr s' h=>?_;cases r with
  |error e=>show(Ct H e s' h).elim
  |ok fl =>
   cases fl with
   |next=>show False.elim h
   |brk=>show False.elim h
   |cont=>show False.elim h
   |ret u =>
    let#[v,H',os,bare,un,BH,r',q]:=h;let q':=q;subst q';obtain rfl:u=Value.bool true:=r';show#[rfl,OldK.of_keep λb o e=>?_,os,bare];cases q:H b with
    |none=>show un.keep b o e q (by intro z;show absurd (show b∈([]:@&Addr) from z) #[_]) #[_]
    |some u =>
     rcases hO b with z|⟨ob,xs,z⟩
     .simp_all
     .let z2:=un.ie b ob _ z;let#[e1,_]:=bw b _ z;let#[e2,_]:=BH b _ z2
      simp_all
 cases hk:K.lookup a with
 |some o =>
  let e:=KX a o hk;rw[ha] at e;cases e;show core (λy=>none) (λy=>.inl rfl) (.inr #[_,vs.toArray,_,hk,rfl,rfl,rfl,by simp_all,by simpa using rv]) (λb u z=>by simp_all) (λb z=>absurd rfl z) λz=>absurd rfl z
 |none =>
  show core (λb=>if b=a then some (.jH { cls:=.type "list",data:=.seq vs.toArray } (.lst (ns.map V.int))) else none) (λb=>?_) (.inl (.inr #[{ cls:=.type "list",data:=.seq vs.toArray },av rfl])) (λb u z=>?_) (λb z=>?_) λy=>hk
  .by_cases hb:b=a
   .exact .inr #[_,_,av hb]
   .exact .inl (aw hb)
  .by_cases hb:b=a
   .let z':=(av hb).symm.trans z;cases z';subst hb;show#[ha,by rw[aj];show hl,vs,_,rv,ha]
   simp_all
  .by_cases hb:b=a
   .exact hb
   .exact absurd (aw hb) z
def TB{l:PySem.W.OpenLaw}{n k:Nat}{q:Program}{loose:@&Str}{XP:(Str->Option Value)->Heap->Prop}{YP:World->Heap->Prop}{d:DefRec}{K:Params->PySem.W.Frag}{CX:World->nX}{sp:World->Sp}(hn:l.most=!n)(nF:n<=sizeLine)(wN:d.params.defaults=[])(hr:q9 k callerA)(hY:∀(w:World) (h:Heap),YP w h->(K w.params).In h)(F:∀ (w:World) (mg:Str->Option Value) (fa:Addr) (h:Heap),(K w.params).In h->h.Ns mainGlobals mg->mg d.name=!.ref fa ->
   ∃fd:FuncData,(∀(s:Shared) (u:Value),BindsTo s fd #[[u],[]] [(x,u)]) /\
    ∀ base:Heap,(K w.params).In base->base.Ns mainGlobals mg->gD l.prog w (K w.params) mg base (CX w) k fa fd [x] (sp w))(tU:∀(w:World) (H:Hp) (a:Addr) (ns:@&Int),(-ns)<=n->As H->fR (K w.params) H a (ns.map V.int)->sp w [.ref a] H (λv y=>v=.bl true) λy y y=>False)(Ct:∀(w:World) (H:Hp) (s:Shared) (e:Value) (s':Shared),CX w [] H s (λy y y=>False) e s'->False) :
  PySem.W.WalkO q loose XP YP l.row.toRowW d [] (λf vs=>PySem.call f vs):=by
 show Ou.aM1 hn wN λw du bL mg mb fa o pm cd doc a vs ns G Y ho hd lZ hmg kO hints hlen hg=>?_;let KX:=hY w _ Y;let#[fd,hb,hF]:=F w mg fa _ KX G.T.g hmg;show Ux KX G.T.g G.T.b G.T.builtins G.T.nolimit hg kO hints (aF hlen nF) hr hF hb (λH hO hS=>tU w H a ns hlen hO hS) λH e s'=>Ct w H bL e s'
abbrev B0(s:Stmt):Arguments:=match s with
 |.FunctionDef _ a _ _ _ _ _ _ _ _=>a
 |_=>{ posonlyargs:=[],args:=[],vararg:=none,kwonlyargs:=[],kw_defaults:=[],kwarg:=none,defaults:=[] }
abbrev o6(s:Stmt):@&Stmt:=match s with
 |.FunctionDef _ _ b _ _ _ _ _ _ _=>b
 |_=>[]
abbrev l9(s:Stmt):Scope:=match s with
 |.FunctionDef _ _ _ _ _ _ sc _ _ _=>sc
 |_=>{ kind:=.function,names:=[],isGenerator:=false,isCoroutine:=false }
structure qQ(K:PySem.W.Frag)(x qual:Str)(st:Stmt)(f:Addr)(fd:FuncData):Prop where
 ex:∃(oc:Value) (od:Option Addr) (kV doc pm:Value) (an:Option Addr) (fz ct:Value) (mE:Array (Option Value)),
  fd=PySem.W.fnOf x qual (B0 st) (o6 st) (l9 st) .none kV doc pm an fz ct/\K.lookup f=!#[oc,od,.func fd,mE]/\PySem.W.codeIn K fz qual=true
 kp:PySem.W.keepIn K (.ref f)=true
section
variable{K:PySem.W.Frag}
def qQ.binds{st:Stmt}{f:Addr}{fd:FuncData}{ps:@&Str}(F:qQ K x qual st f fd)(h:∀(kV doc pm:Value) (an:Option Addr) (fz ct:Value) (us:@&Value),(-us)=-ps->bindArgs (PySem.W.fnOf x qual (B0 st) (o6 st) (l9 st) .none kV doc pm an fz ct) #[us,[]]=pure (ps.zip us)):Binds K fd ps []:=by
 let#[oc,od,kV,doc,pm,an,fz,ct,mE,rfl,lk,lZ]:=F.ex;show .all (h kV doc pm an fz ct)
def NC{st:Stmt}{f:Addr}{oc:Value}{od an:Option Addr}{mE:Array (Option Value)}{kV doc pm fz ct:Value}(l:K.lookup f=!#[oc,od,.func (PySem.W.fnOf x qual (B0 st) (o6 st) (l9 st) .none kV doc pm an fz ct),mE])(c:PySem.W.codeIn K fz qual=true)(k:PySem.W.keepIn K (.ref f)=true):qQ K x qual st f (PySem.W.fnOf x qual (B0 st) (o6 st) (l9 st) .none kV doc pm an fz ct):=#[#[oc,od,kV,doc,pm,an,fz,ct,mE,rfl,l,c],k]
end
section
variable{prog:Program}{R:Result->Shared->Prop}
def aJ0{target:Expr}{it acc:Value}{env:Env}(I:Nat->Shared->Prop)(turn:∀ n s,I n s->wpAny (model prog w) A (pyNext it) (λr bL=>match r with
   |none=>R (.ok .next) bL
   | some v=>wpAny (model prog w) A (letOwnedTupleGo target it v) (λy bL=>wpAny (model prog w) A (assign target env v) (λ_ gh =>
     wpAny (model prog w) A (forIn ifs true λc r=>if r=true then do let ok <- isTrue c env (eval c env);pure (ForInStep.yield ok) else pure (ForInStep.yield r)) (λok gP =>
      if ok=true then wpAny (model prog w) A (eval elt env) (λx lQ =>
       wpAny (model prog w) A (call (.builtin "list.append") [acc,x]) (λy lP=>∃ m,m < n/\I m lP) (λy y=>False) lQ) (notedBy (model prog w) A env λe s'=>R (.error e) s') gP
      else ∃ m,m < n/\I m gP) (λy y=>False) gh) (λy y=>False) bL) (λy y=>False) bL) (λy y=>False) s)(n:Nat)(h:I n s) :
  codeAny (model prog w) A (.compLoop (.ListComp elt [#[target,iter,ifs,0]] scope pos) 0 it acc env) R s:=by
 show codeAny_loop rfl I (λn s hI=>?_) n h;change wpAny _ A ((compTurn (.ListComp elt [#[target,iter,ifs,0]] scope pos) 0 it acc env).onRaise (λx=>do noteFrame x env;theTreesLotGoes x)) _ _ s;show wpAny_noted ?_;rw[compTurn_list];show aa (iL (aa (bX (turn n s hI) (λr bL eM=>?_) λy y h'=>h'.elim)));cases r with
 |none=>show ai eM
 |some v =>
  show aa (bX eM (λy bL eM=>?_) λy y h'=>h'.elim);show aa (bX eM (λy gh kN=>aa (bX kN (λok gP wb=>?_) λy y h'=>h'.elim)) λy y h'=>h'.elim);cases ok with
  |false=>show wpAny_pure #[rfl,wb]
  |true =>
   show aa (aa (bX wb (λx lQ Bv=>aa (bX Bv (λy lP Bu=>ai (ai #[rfl,Bu])) λy y h'=>h'.elim)) λy y h'=>h'))
end
abbrev mq(X:Cx)(es:@&Expr)(t:TT):Prop :=
 ∀(pi:@&(Addr×Obj)) (s:Shared) (σ:St) (H:Hp) (Q:Bool->Hp->Prop),Inv X pi σ H s->t σ H Q ->
  wpAny (model X.prog X.w) X.A (forIn es true λc r=>if r=true then do let ok <- isTrue c X.env (eval c X.env);pure (ForInStep.yield ok) else pure (ForInStep.yield r)) (TP X pi σ Q) X.xe s
def VZ:TT:=λx H Q=>Q true H
def SK:mq X [] VZ:=λpi s σ H Q I h=>ai #[H,I,h]
def SM{c:Expr}{t:TT}(h:PT X c t):mq X [c] t:=by
 intro pi s σ H Q I q;show aa (aa (bX (h pi s σ H Q I q) (λb s' hb=>ai (ai hb)) λy y x=>x))
abbrev N6(scope:Scope)(cl:@&(Str×Addr))(C:Addr):@&(Str×Addr):=cellsFrom (C+1) scope.names []++cl
def E4:∀(names:@&(Str×NameKind)) (n:Nat) (acc:@&(Str×Addr)),cellsFrom n names acc=cellsFrom n names []++acc
 |[],_,_=>rfl
 |(y,k)::r,n,acc=>by
  unfold cellsFrom;split
  .rw[E4 r (n+1) ((y,n)::acc),E4 r (n+1) [(y,n)],gG]
   rfl
  .exact E4 r n acc
def X5{x:Str}{c:Addr}:∀{names:@&(Str×NameKind)} {n:Nat},(x,c)∈cellsFrom n names []->(x,NameKind.cell)∈names
 |[],_,h=>by simp[cellsFrom] at h
 |(y,k)::r,n,h=>by
  unfold cellsFrom at h;split at h
  .rw[E4] at h;rcases bh.mp h with z|z
   .exact bK _ (X5 z)
   grind
  .exact bK _ (X5 h)
def P0{α:Type}:∀{a b:@&(Str×α)},(a++b).lookup x=(a.lookup x).or (b.lookup x)
 |[],_=>rfl
 |(y,v)::r,b=>by
  grind
def JW(h:scope.names.lookup x=!.cell\/∃c,cl.lookup x=!c):∃c,(N6 scope cl C).lookup x=!c:=by
 unfold N6;rw[P0];cases e:(cellsFrom (C+1) scope.names []).lookup x with
 |some c=>show#[c,rfl]
 |none =>
  rcases h with h|h
  .let q:=dJ scope.names (C+1) [] (.inl h);rw[e] at q;cases q
  .exact h
def P6{env:Env}:∀{names:@&(Str×NameKind)} {x:Str},names.lookup x=!.cell ->
  (names.map λ(n,k)=>if(k==NameKind.free&&env.scope.kind==.function&&env.kindOf n==!.cell) then(n,NameKind.cell) else(n,k)).lookup x=!.cell
 |[],_,h=>by simp at h
 |(n,k)::r,x,h=>by
  let ih:=@P6 env r x;change List.lookup x ((if(k==NameKind.free&&env.scope.kind==.function&&env.kindOf n==!.cell)=true then(n,NameKind.cell) else(n,k))::_)=_;cases hx:x==n with
  |true =>
   simp only[List.lookup_cons,hx] at h
   simp_all
  |false =>
   simp only[List.lookup_cons,hx] at h;by_cases hc:(k==NameKind.free&&env.scope.kind==.function&&env.kindOf n==!.cell)=true
   .rw[av hc];simp only[List.lookup_cons,hx];show ih h
   .rw[aw hc];simp only[List.lookup_cons,hx];show ih h
def MP{h:Heap}(ck:CellsOk h (C+1) (cellsFrom (C+1) scope.names [])){c:Addr}(e:(N6 scope cl C).lookup x=!c):C<c\/cl.lookup x=!c:=by
 unfold N6 at e;rw[P0] at e;cases e2:(cellsFrom (C+1) scope.names []).lookup x with
 |some c' =>
  rw[e2] at e;cases e;show .inl (ck.empty x c (aL e2)).2
 |none =>
  rw[e2] at e;show .inr e
def az7{M:Model}{E:Value->Shared->Prop}{globals:Addr}{outer:Env}{Q:Env->Shared->Prop}(hQ:∀ eM:Heap,eM.Ns s⁻¹ (λx=>none)->(∀ b o,s.heap.get? b=!o->eM.get? b=!o)->CellsOk eM (s⁻¹ + 1) (cellsFrom (s⁻¹ + 1) scope.names []) ->
   Q (newEnv scope s⁻¹ globals (N6 scope cl s⁻¹) qual none .none (!outer) builtinsNs) { s with heap:=eM }) :
  wpAny M A (newFunctionEnv scope globals cl [] qual none .none (!outer)) Q E s:=by
 simp only[newFunctionEnv,Option.isSome_some,if_true];show aa (wpAny_alloc ?_);show aa (wpAny_layCells _ (λname kind cells=>by rfl) _ _ _ _ ?_);let ok:=cellsFrom_ok scope.names (s.heap.push { cls:=.type "dict",data:=.dict (List.toArray []) }) (s⁻¹+1) [] #[λx x hm=>(nomatch hm),List.Pairwise.nil] #[_];rw[cO] at ok;rw[show({ s with heap:=s.heap.push { cls:=.type "dict",data:=.dict (List.toArray []) } }:Shared).heap.objs.size=s⁻¹+1 from cO ..];show aa (ai (ai ?_));rw[E4];show hQ _ ((Heap.Ns.new s.heap (.type "dict")).keeps (pushCells_keeps _ _)) (λb o e=>pushCells_keeps _ _ b o (ah _ e)) ok
abbrev d4(X:Cx)(pi:@&(Addr×Obj))(scope:Scope)(N':@&Str)(cl:@&(Str×Addr))(C:Addr)(s:Shared)(H:Hp)(fp:@&Addr):Cx where
 prog:=X.prog
 w:=X.w
 K:=X.K
 mg:=X.mg
 base:=X.base
 A:=X.A
 N:=N'
 du:=s
 jo:=H
 env:=compEnvC scope (N6 scope cl C) C X.env
 outer:=X.stack
 stack:=X.stack
 ex:=fp
 calm:=true
 fn:=λx=>decide (scope.names.lookup x=!.cell)
 pn:=X.pn++pi
 xe:=λy y=>False
structure dP(X:Cx)(scope:Scope)(N':@&Str)(c9:@&Nat)(cl:@&(Str×Addr)):Prop where
 kind:scope.kind=.function
 cells:∀y∈scope.names,y.2=.cell->scope.names.lookup y.1=!.cell
 names:∀y∈scope.names,y.2=.local->scope.names.lookup y.1=!.local
 sJ:closureFor scope X.env=pure cl
 cin:∀x c,cl.lookup x=!c->X.env.cells.lookup x=!c
 xM:∀x,scope.names.lookup x=!.free->∃c,cl.lookup x=!c
 nd:N'.Nodup
 RJ:∀(i j:Nat),c9[i]?=!j->∃x,N'[i]?=!x/\X.N[j]?=!x/\scope.names.lookup x=!.free/\(X.env.kindOf x=!.cell\/X.env.kindOf x=!.free)
 Dn:-c9<=-N'
def E8{env:Env}:∀{names:@&(Str×NameKind)} {x:Str},names.lookup x=!.free ->
  (names.map λ(n,k)=>if(k==NameKind.free&&env.scope.kind==.function&&env.kindOf n==!.cell) then(n,NameKind.cell) else(n,k)).lookup x=!.cell \/
  (names.map λ(n,k)=>if(k==NameKind.free&&env.scope.kind==.function&&env.kindOf n==!.cell) then(n,NameKind.cell) else(n,k)).lookup x=!.free
 |[],_,h=>by simp at h
 |(n,k)::r,x,h=>by
  let ih:=@E8 env r x;change List.lookup x ((if(k==NameKind.free&&env.scope.kind==.function&&env.kindOf n==!.cell)=true then(n,NameKind.cell) else(n,k))::_)=_\/List.lookup x ((if(k==NameKind.free&&env.scope.kind==.function&&env.kindOf n==!.cell)=true then(n,NameKind.cell) else(n,k))::_)=_;cases hx:x==n with
  |true =>
   simp only[List.lookup_cons,hx] at h;cases h;by_cases hc:(NameKind.free==NameKind.free&&env.scope.kind==.function&&env.kindOf n==!.cell)=true
   .rw[av hc];simp[List.lookup_cons,hx]
   .rw[aw hc];simp[List.lookup_cons,hx]
  |false =>
   simp only[List.lookup_cons,hx] at h;by_cases hc:(k==NameKind.free&&env.scope.kind==.function&&env.kindOf n==!.cell)=true
   .rw[av hc];simp only[List.lookup_cons,hx];show ih h
   .rw[aw hc];simp only[List.lookup_cons,hx];show ih h
def P7{env:Env}:∀{names:@&(Str×NameKind)} {x:Str},((names.map λ(n,k)=>if(k==NameKind.free&&env.scope.kind==.function&&env.kindOf n==!.cell) then(n,NameKind.cell) else(n,k)).lookup x=!.cell \/
  (names.map λ(n,k)=>if (k == NameKind.free && env.scope.kind == .function && env.kindOf n == !.cell) then (n,NameKind.cell) else (n,k)).lookup x=!.free)->names.lookup x=!.free \/ names.lookup x=!.cell
 |[],_,h=>by simp at h
 |(n,k)::r,x,h=>by
  let ih:=@P7 env r x;rw[bQ] at h;cases hx:x==n with
  |true =>
   simp only[List.lookup_cons,hx];by_cases hc:(k==NameKind.free&&env.scope.kind==.function&&env.kindOf n==!.cell)=true
   .refine .inl ?_;simp only[Bool.and_eq_true,beq_iff_eq] at hc;rw[hc.1.1]
   .simp only[if_neg hc,List.lookup_cons,hx] at h;rcases h with h|h
    .exact .inr h
    .exact .inl h
  |false =>
   simp only[List.lookup_cons,hx];by_cases hc:(k==NameKind.free&&env.scope.kind==.function&&env.kindOf n==!.cell)=true
   .simp only[if_pos hc,List.lookup_cons,hx] at h;show ih h
   .simp only[if_neg hc,List.lookup_cons,hx] at h;show ih h
def G7(σ:St)(c9:@&Nat)(n:Nat):St:=c9.map (λj=>(σ[j]?).join)++List.replicate (n- -c9) none
section
variable{pi:@&(Addr×Obj)}{σ:St}{H:Hp}
def Inv.aX1{h1:Heap}{tk:Nat}(I:Inv X pi σ H s)(S:dP X scope N' c9 cl)(hc:X.calm=true)(hf:∀b∈fp,J7 X pi H b)(ho:∀b∈fp,∃o,s.heap.get? b=!o)(hC:s⁻¹<=C)(hn:∃m,h1.Ns C m)(k:∀b o,s.heap.get? b=!o->h1.get? b=!o)(ck:CellsOk h1 (C+1) (cellsFrom (C+1) scope.names [])) :
  Inv (d4 X pi scope N' cl C s H fp) [] (G7 σ c9 (-N')) H { s with heap:=h1,toks:=tk }:=by
 let#[m,hm]:=hn;let Qq:=S.kind;let GI:∀b o,s.heap.get? b=!o->b≠C:=λb o e z=>absurd (ao e) (by simp_all);let two:∀{x:Str} {c:Addr},(N6 scope cl C).lookup x=!c->(C<c/\h1.IsCell c none/\(x,c)∈cellsFrom (C+1) scope.names [])\/(cl.lookup x=!c/\(cellsFrom (C+1) scope.names []).lookup x=none):=λ{x c} h=>by
  unfold N6 at h;rw[P0] at h;cases e:(cellsFrom (C+1) scope.names []).lookup x with
  |some c' =>
   rw[e] at h;cases h;let hm:=aL e;show .inl #[(ck.empty x c hm).2,(ck.empty x c hm).1,hm]
  |none =>
   rw[e] at h;show .inr #[h,rfl]
 let vK:∀{x:Str} {c:Addr},cl.lookup x=!c->c<s⁻¹:=λ{x c} h=>by
  let#[v,o,e,_]:=I.cell x c (S.cin x c h);show ao e
 let frees:∀{x:Str},scope.names.lookup x=!.free->(N6 scope cl C).lookup x=cl.lookup x:=λ{x} h=>by
  unfold N6;rw[P0];cases e:(cellsFrom (C+1) scope.names []).lookup x with
  |some c' =>
   have:=S.cells _ (X5 (aL e)) rfl
   simp_all
  |none=>rfl
 show#[#[I.mod,Qq,I.ok.glob,I.ok.blt,hC,?_,?_,?_,λw=>I.ok.hd hc,I.ok.frames,.inl rfl,?_,I.bs,?_,?_,?_,I.stack,I.Ah],rfl,I.bare,Un.kept k,#[m,hm,?_],?_,?_,?_,?_,I.bw.kept k,?_,λcU z=>absurd (show(none:Option (List (Option V)))=some cU from z) #[_]]
 .intro x y c h1 h2;rcases two h1 with⟨l1,_,q1⟩|⟨q1,_⟩<;>rcases two h2 with⟨l2,_,q2⟩|⟨q2,_⟩
  .exact PySem.name_of_addr ck.apart q1 q2
  .exact absurd (cI l1 (ax (vK q2) hC)) (bP _)
  .exact absurd (cI l2 (ax (vK q1) hC)) (bP _)
  .exact I.ok.inj x y c (S.cin x c q1) (S.cin y c q2)
 .intro x hx;rcases P7 hx with z|z
  .let#[c,hc]:=S.xM x z;show#[c,(frees z).trans hc]
  .let q:=dJ scope.names (C+1) [] (.inl z);let#[c,hc]:=dg.mp q;show#[c,?_];show(N6 scope cl C).lookup x=!c;unfold N6;rw[P0,hc]
   rfl
 .intro x c hf h;let z:=bC hf;let q:=dJ scope.names (C+1) [] (.inl z);rcases two h with⟨l,_⟩|⟨_,e⟩
  .exact dZ (jS hC l)
  simp_all
 .intro b hb;let#[f0,f1,f2,f3,f4,f5]:=hf b hb;let#[o,e]:=ho b hb;show#[GI b o e,λx c h=>?_];rcases two h with⟨l,_⟩|⟨q,_⟩
  .intro z;subst z;show absurd (cI l (ax (ao e) hC)) (bP _)
  .exact f4 x c (S.cin x c q)
 .exact aF I.ok.nU I.sz
 .intro b o e hb;let#[f0,f1,f2,f3,f4,f5]:=hf b hb;rcases f3 with f3|f3
  .exact I.ok.jX b o e f3
  .exact absurd (ao (I.ok.bs b o e).1) (oJ.mpr f3)
 .intro b hb z;let#[f0,f1,f2,f3,f4,f5]:=hf b hb;rcases aE.mp (I.S1 b z) with z|z
  .exact f1 z
  .exact f2 z
 .intro i x v CY h2 h3;let hi:i< -c9:=by
   unfold G7 at h2;by_cases hi:i< -c9
   .exact hi
   .rw[cT (_/hi),dF] at h2
    simp_all
  obtain⟨j,hj⟩:∃j,c9[i]?=!j:=#[_,aq hi]
  let hs:σ[j]?=!!v:=by
   unfold G7 at h2;rw[aA (_/hi),aG,hj] at h2;simp only[Option.map_some] at h2;cases e:σ[j]? with
   |none=>rw[e] at h2;cases h2
   |some a=>rw[e] at h2;show gY some (aJ h2)
  let#[y,PY,PV,By,PU]:=S.RJ i j hj;let ey:y=x:=by
   let xa:N'[i]?=!x:=CY;rw[PY] at xa;show aJ xa
  subst ey;let#[m0,tX,hl]:=I.loc;let ⟨u,ru,hu⟩:=hl j y v PV hs (by
   rcases PU with z|z
   .exact .inr (.inl z)
   .exact .inr (.inr z))
  show#[u,ru,.inr #[E8 By,?_]];rcases hu with⟨z,_⟩|⟨_,c,QD,qt⟩
  .simp_all
  .let#[c',wU]:=S.xM y By;let e:=S.cin y c' wU;rw[QD] at e;cases e;let#[o,e1,e2]:=qt;show#[c,(frees By).trans wU,o,k _ _ e1,e2]
 .intro x c h;rcases two h with⟨_,q,_⟩|⟨q,_⟩
  .exact#[none,q]
  .let#[v,o,e1,e2]:=I.cell x c (S.cin x c q);show#[v,o,k _ _ e1,e2]
 .exact I.bw.fresh hC
 .intro x c h;rcases two h with⟨l,_⟩|⟨q,_⟩
  .exact I.bw.fresh (dZ (jS hC l))
  .exact I.eP x c (S.cin x c q)
 .intro p hp;let lx:p∈X.pn++pi:=by simpa[d4] using hp
  let#[p1,p2,p3,p4,p5]:=I.pin p lx;show#[k _ _ p1,p2,GI _ _ p1,λz=>?_,p5];rcases aE.mp (I.S1 _ z) with z|z
  .exact p3 z
  .exact p4 z
 .unfold G7;change _=-N';rw[ba,aj,yL];have:=S.Dn;omega
def Inv.MN{fC:@&(Addr×Obj)}{cv:St}{H':Hp}{s':Shared}(I:Inv X pi σ H s)(hf:∀b∈fp,J7 X pi H b)(J:Inv (d4 X pi scope N' cl C s H fp) fC cv H' s'):Inv X pi σ H' s' :=
 I.EY (ch:=fp) J.os J.base J.bw J.bare λb hb=>by
  let#[f0,f1,f2,f3,f4,f5]:=hf b hb;show#[f3,f1,f4,f5]
def Inv.XH{D:Addr}{ys:@&V}{aX:@&Value}{n:Nat}(I:Inv X pi σ H s)(f:J7 X pi H D)(hs:X.du.heap.objs.size<=D)(hv:Vals ys aX)(hz:-ys<=sizeLine)(ho:s.heap.get? D=some { cls:=.type "list",data:=.seq aX.toArray n }):Inv X pi σ (upd H D (.lst ys)) s:=by
 let#[f0,f1,f2,f3,f4,f5]:=f;let fE:∀b o,X.du.heap.get? b=!o->b≠D:=λb o e z=>absurd (ao e) (by rw[z];show oJ.mpr hs);let tup:∀b u,H b=!u->upd H D (.lst ys) b=!u:=λb u e=>by rw[d6 (j0 e f0)];show e
 show#[I.ok,I.os,I.bare,#[?_,?_,?_,I.base.there,?_,?_,?_],I.loc,I.cell,?_,?_,?_,?_,I.len,I.sg]
 .exact λb o e n1 n2 n3=>I.base.keep b o e n1 n2 n3
 .exact λb o e n1 n2 n3=>I.base.slot b o e n1 n2 n3
 .exact λb o e n1 n2=>by rw[d6 (fE b o e)];show I.base.free b o e n1 n2
 .exact λb xs e=>tup _ _ (I.base.iz b xs e)
 .exact λb o u e=>tup _ _ (I.base.ie b o u e)
 .exact λb ps e=>by
   let#[more,q]:=I.base.iB b ps e;show#[more,tup _ _ q]
 .rw[d6 f1.symm];show I.free
 .exact λx c e=>by rw[d6 (f4 x c e)];show I.eP x c e
 .intro p hp;let#[p1,p2,p3]:=I.pin p hp;show#[p1,by rw[d6 (f5 p hp)];show p2,p3]
 .intro a o e;by_cases ha:a=D
  .subst ha;rw[k9] at e;cases e;show#[hz,aX,n,hv,ho]
  .rw[d6 ha] at e;let q:=I.bw a o e;show q.J5 (λb u y h=>h) (λb hb=>tup _ _ hb) (λb xs hb=>tup _ _ hb)
end
def ya(wi:TI)(c9:@&Nat)(n:Nat)(g:TG)(tc:TT)(te:TE):TE:=λσ H Q=>wi σ H λJ H1=>∃W:Nat->Nat->@&V->St->Hp->Prop,(∃m,W 0 m [] (G7 σ c9 n) H1)/\∀i m ys σ H,W i m ys σ H ->
 (J.stop i H/\∀p,H p=none->Q (.ref p) (upd H p (.lst ys))) \/
 (J.go i H/\-ys < sizeLine/\∀ x H',J.tI i H x H'->g x σ H' λdh H2=>tc dh H2 λb H3 =>
  if b=true then te dh H3 λy H4=>∃ m',m' < m/\W (i + 1) m' (ys ++ [y]) dh H4 else ∃ m',m' < m/\W (i + 1) m' ys dh H3)
noncomputable abbrev b29(aX:@&Value)(n:Nat):Obj:={ cls:=.type "list",data:=.seq aX.toArray n }
section
variable{pi:@&(Addr×Obj)}{σ:St}{H:Hp}
structure Oq(X:Cx)(n0:Nat){α:Type}(K:Addr->α->Heap->Obj->Prop)(fin:Addr->α->HO):Prop where
 nc:∀{a y h o},K a y h o->∀v,o.data≠.cell v
 get:∀{a y h o},K a y h o->h.get? a=!o
 J5:∀{a y h h' o},K a y h o->h'.get? a=!o->K a y h' o
 done:∀{pi σ H s a y o},n0<=a->Inv X pi σ H s->J7 X pi H a->X.du.heap.objs.size<=a->K a y s.heap o->Inv X pi σ (upd H a (fin a y)) s
def VN{α:Type}{K:Addr->α->Heap->Obj->Prop}{fin:Addr->α->HO}{y0:α}{o0:Obj}{Bd:α->Prop}{tb:α->St->Hp->(α->Hp->Prop)->Prop}{body:(Shared->Prop)->Shared->Prop}{LP:Shared->Prop}{it:Addr}{tn:Nat->Heap->Prop}{J:It}{R:Result->Shared->Prop}{W:Nat->Nat->α->St->Hp->Prop}{m0:Nat}{Q:VK}{eM:Heap}{env:Env}(G:Oq X s⁻¹ K fin)(S:dP X scope N' c9 cl)(hc:X.calm=true)(hg:PG (d4 X pi scope N' cl C s H fp) tg g)(ht:mq (d4 X pi scope N' cl C s H fp) ifs tc)(I:Inv X pi σ H s)(T:Turn X.prog X.w X.K tg J fp it tn)(st:tn 0 s.heap)(hf:∀b∈fp,J7 X pi H b)(w0:W 0 m0 y0 (G7 σ c9 (-N')) H)(turn:∀ i m y σ H,W i m y σ H->(J.stop i H/\∀ p,H p=none->Q (.ref p) (upd H p (fin p y))) \/
   (J.go i H/\Bd y/\∀ x H',J.tI i H x H'->g x σ H' λdh H2=>tc dh H2 λb H3 =>
    if b=true then tb y dh H3 λy' H4=>∃ m',m' < m/\W (i + 1) m' y' dh H4 else ∃ m',m' < m/\W (i + 1) m' y dh H3))(Cq:∀s' H' m,Inv X pi σ H' s'->Q (.ref s⁻¹) H'->s'.heap.Ns C m->H' C=none->s⁻¹<=C->R (.ok .next) s')(qm:∃m,eM.Ns C m)(G':∀b o,(s.heap.push o0).get? b=!o->eM.get? b=!o)(wR:CellsOk eM (C+1) (cellsFrom (C+1) scope.names []))(eC:s⁻¹+1=C)(k0:K s⁻¹ y0 eM o0)(ev:(d4 X pi scope N' cl C s H fp).env=env)(Cj:∀ y o fC cv H' s' (P:α->Hp->Prop) (R':Shared->Prop),Bd y->K s⁻¹ y s'.heap o->(∀ {yM H8 s8},Inv (d4 X pi scope N' cl C s H fp) fC yM H8 s8->s8.heap.get? s⁻¹=!o)->Inv (d4 X pi scope N' cl C s H fp) fC cv H' s'->tb y cv H' P ->
   (∀ s8 H8 y' h' t' o',Inv (d4 X pi scope N' cl C s H fp) fC cv H8 s8->P y' H8->(∀ b u,b ≠ s⁻¹->s8.heap.get? b=!u->h'.get? b=!u)->K s⁻¹ y' h' o'->R' { s8 with heap:=h',toks:=t' })->body R' s')(lp:∀ (I:Nat->Shared->Prop),(∀ n s,I n s->wpAny (model X.prog X.w) X.A (pyNext (.ref it)) (λr bL=>match r with
   |none=>R (.ok .next) bL
   | some v=>wpAny (model X.prog X.w) X.A (letOwnedTupleGo tg (.ref it) v) (λt bL=>wpAny (model X.prog X.w) X.A (assign tg env v) (λ_ gh =>
     wpAny (model X.prog X.w) X.A (forIn ifs true λc r=>if r=true then do let ok <- isTrue c env (eval c env);pure (ForInStep.yield ok) else pure (ForInStep.yield r)) (λok gP =>
      if ok=true then body (λlP=>∃ m,m < n/\I m lP) gP else ∃ m,m < n/\I m gP) (λt t=>False) gh) (λt t=>False) bL) (λt t=>False) bL) (λt t=>False) s)->∀ n,I n { s with heap:=eM }->LP { s with heap:=eM }) :
  tn 0 eM/\LP { s with heap:=eM }:=by
 subst ev;generalize Cs:s.heap.push o0=H2 at G';generalize eD:s⁻¹=D at *;let Hx:D≠C:=by omega
 let lt:∀b o,s.heap.get? b=!o->b<D:=λb o e=>by rw[<- eD];show ao e
 let yZ:D<=C:=by omega
 let tO:∀b o,s.heap.get? b=!o->b≠C:=λb o e=>aD (ax (lt b o e) yZ);let vP:∀b o,s.heap.get? b=!o->b≠D:=λb o e=>aD (lt b o e);let old:∀b o,s.heap.get? b=!o->eM.get? b=!o:=λb o e=>G' b o (Cs▸ah _ e);let kO:∀b∈fp,∃o,s.heap.get? b=!o:=λb hb=>by
  let#[o,e,_]:=T.obj _ _ st b hb;show#[o,e]
 let Hw:D∉fp:=λhm=>by
  let#[o,e]:=kO D hm;show vP D o e rfl
 let X1:Inv (d4 X pi scope N' cl C s H fp) [] (G7 σ c9 (-N')) H { s with heap:=eM } :=
  I.aX1 S hc hf kO (by rw[eD];omega) qm old wR
 let qg:=T.keep _ _ _ st λb t o e=>old b o e;let Rx:∀{H':Hp},(∀b∈fp,H' b=none)->∀b∈fp,J7 (d4 X pi scope N' cl C s H fp) [] H' b:=λhn b hb=>by
  let#[f0,f1,f2,f3,f4,f5]:=hf b hb;let#[o,e]:=kO b hb;show#[hn b hb,?_,?_,.inl hb,λx c q=>(MP wR q).elim (λl z=>absurd (cI (z▸l) (ax (lt b o e) yZ)) (bP _)) λq=>f4 x c (S.cin x c q),λp hp=>?_]
  .exact tO b o e
  .exact λz=>by
    rcases aE.mp (I.S1 b z) with z|z
    .exact f1 z
    .exact f2 z
  .let lx:p∈X.pn++pi:=by simpa[d4] using hp
   show f5 p lx
 let fD:∀{H':Hp},H' D=none->J7 (d4 X pi scope N' cl C s H fp) [] H' D:=λhn=>by
  show#[hn,Hx,λz=>?_,.inr (by change s⁻¹<=D;omega),λx c q=>?_,λp hp=>?_]
  .exact absurd (I.Ax (a:=D) ()) λlW=>by
    rcases aE.mp (I.S1 D z) with z|z
    .exact absurd I.lt (by rw[<- z,eD];show bP _)
    .exact lW z
  .rcases MP wR q with l|q
   .exact λz=>absurd (ax (z▸l) yZ) (bP _)
   .let#[v,o,e,_]:=I.cell x c (S.cin x c q);show vP c o e
  .let lx:p∈X.pn++pi:=by simpa[d4] using hp
   show vP _ _ (I.pin p lx).1
 show#[qg,lp (λn s'=>∃(i:Nat) (y:α) (cv:St) (H':Hp) (o:Obj),Inv (d4 X pi scope N' cl C s H fp) [] cv H' s'/\tn i s'.heap/\(∀b∈fp,H' b=none)/\H' D=none/\K D y s'.heap o/\W i n y cv H') ?_ m0 #[0,y0,_,H,o0,X1,qg,λb hb=>(hf b hb).1,I.bw.fresh (),k0,w0]];rintro n s3 ⟨i,y,lJ,H3,o,I3,vz,xB,d3,k3,w3⟩;let Om:Inv (d4 X pi scope N' cl C s H fp) [(D,o)] lJ H3 s3:=I3.yq λp hp=>by
  let z:p=(D,o):=by simpa using hp
  subst z;let#[f0,f1,f2,_]:=fD d3;show#[G.get k3,f0,f1,f2,G.nc k3]
 let uk:∀{H':Hp},(∀b∈fp,H' b=none)->∀b∈fp,J7 (d4 X pi scope N' cl C s H fp) [(D,o)] H' b:=λ{H'} hn b hb=>by
  let#[f0,f1,f2,f3,f4,f5]:=Rx hn b hb;show#[f0,f1,f2,f3,f4,λp hp=>?_];let lx:p∈(d4 X pi scope N' cl C s H fp).pn\/p=(D,o):=by simpa using hp
  rcases lx with z|z
  .exact f5 p (fq _ z)
  .subst z;show λz=>Hw (by rw[show D=b from z];show hb)
 rcases turn i n y lJ H3 w3 with⟨stop,q⟩|⟨go,hz,step⟩
 .refine cF (T.done (d4 X pi scope N' cl C s H fp) rfl rfl rfl rfl i _ s3 _ H3 _ Om (uk xB) vz stop) ?_;rintro r s4 ⟨hr,I4⟩;subst hr;let J4:=I.MN hf I4;let Ry:J7 X pi H3 D:=by
   show#[d3,bD (by rw[<- eD];show I.lt),I.Ax (),.inr (by have:=I.sz;omega),λx c q=>?_,λp hp=>?_]
   .let#[v,o,e,_]:=I.cell x c q;show vP c o e
   .exact vP _ _ (I.pin p hp).1
  let#[mC,BN,_]:=I4.loc;show Cq s4 _ mC (G.done (ak _) J4 Ry (by have:=I.sz;omega) (G.J5 k3 (I4.pin (D,o) #[_]).1)) (q D d3) BN (by rw[d6 Hx.symm];show I4.free) yZ
 .refine cF (T.item (d4 X pi scope N' cl C s H fp) rfl rfl rfl rfl i _ s3 _ H3 _ Om (uk xB) vz go) ?_;rintro r s4 ⟨u,hr,h4⟩;subst hr;show cF h4 λt s5 bf=>?_;let#[x,H5,I5,r5,y5,rA,De]:=bf;let Gf:=I5.pinned (uk De) (T.obj _ _ rA);show cF (hg _ s5 _ H5 x u _ Gf r5 (step x H5 y5)) λt s6 bf=>?_;let#[qZ,H6,I6,q6]:=bf;show cF (ht _ s6 qZ H6 _ I6 q6) ?_;rintro ok s7 ⟨H7,I7,q7⟩;let back:∀{yM:St} {H8:Hp} {s8:Shared},Inv (d4 X pi scope N' cl C s H fp) ([(D,o)]++yh fp s5.heap) yM H8 s8->(∀b∈fp,H8 b=none)/\tn (i+1) s8.heap/\H8 D=none/\s8.heap.get? D=!o :=
   λ{yM H8 s8} I8=>by
    let pf:∀b∈fp,∀o,s5.heap.get? b=!o->s8.heap.get? b=!o/\H8 b=none:=λb hb o e=>by
     have:=I8.pin (b,o) (bU _ (bU _ (EO hb e)));show#[this.1,this.2.1]
    let pd:=I8.pin (D,o) #[_];show#[λb hb=>?_,T.keep _ _ _ rA λb hb o e=>(pf b hb o e).1,pd.2.1,pd.1];let#[o,e,_]:=T.obj _ _ rA b hb;show(pf b hb o e).2
  cases ok with
  |false =>
   let#[m',hm,w7]:=q7;let#[b1,b2,b3,b4]:=back I7;show#[m',hm,i+1,y,qZ,H7,o,I7.yq λp hp=>absurd hp #[_],b2,b1,b3,G.J5 k3 b4,w7]
  |true =>
   show Cj y o _ qZ H7 s7 _ _ hz (G.J5 k3 (back I7).2.2.2) (λI8=>(back I8).2.2.2) I7 q7 ?_;rintro s8 H8 y' h' t' o' I8 ⟨m',hm,w8⟩ kp k8;let#[b1,b2,b3,b4]:=back I8;let I8':Inv (d4 X pi scope N' cl C s H fp) [] qZ H8 s8:=I8.yq λp hp=>absurd hp #[_];let#[f0,f1,f2,f3,f4,f5]:=fD (H':=H8) b3;show#[m',hm,i+1,y',qZ,H8,o',I8'.turned (t':=t') (λb o hb e=>kp b o hb e) f0 f1 f3 f4 f5,T.keep _ _ _ b2 λb hb o e=>kp b o (λz=>Hw (by rw[<- z];show hb)) e,b1,b3,k8,w8]
def KL(a:Addr)(ys:@&V)(h:Heap)(o:Obj):Prop:=∃aX n,Vals ys aX/\-ys<=sizeLine/\o=b29 aX n/\h.get? a=!o
def Uq{n0:Nat}:Oq X n0 KL λx ys=>.lst ys where
 nc:=λ⟨_,_,_,_,e,_⟩ v z=>by subst e;cases z
 get:=λ⟨_,_,_,_,_,e⟩=>e
 J5:=λ⟨aX,n,h1,h2,h3,_⟩ e=>#[aX,n,h1,h2,h3,e]
 done:=λ_ I f hs ⟨aX,n,h1,h2,h3,e⟩=>I.XH f hs h1 h2 (h3▸e)
def EI{it:Addr}{tn:Nat->Heap->Prop}{J:It}{xx:Addr->Shared->Hp->Value->Shared->Prop}{RR:Value->Addr->Result->Shared->Prop}{E:Value->Shared->Prop}{W:Nat->Nat->@&V->St->Hp->Prop}{m0:Nat}{Q:VK}(S:dP X scope N' c9 cl)(hc:X.calm=true)(hg:∀C s H,PG (d4 X pi scope N' cl C s H fp) tg g)(ht:∀C s H,mq (d4 X pi scope N' cl C s H fp) ifs tc)(he:∀C s H,PE ((d4 X pi scope N' cl C s H fp).T3 (xx C s H)) elt te)(I:Inv X pi σ H s)(T:Turn X.prog X.w X.K tg J fp it tn)(st:tn 0 s.heap)(hf:∀b∈fp,J7 X pi H b)(w0:W 0 m0 [] (G7 σ c9 (-N')) H)(turn:∀ i m ys σ H,W i m ys σ H->(J.stop i H/\∀ p,H p=none->Q (.ref p) (upd H p (.lst ys))) \/
   (J.go i H/\-ys < sizeLine/\∀ x H',J.tI i H x H'->g x σ H' λdh H2=>tc dh H2 λb H3 =>
    if b=true then te dh H3 λy H4=>∃ m',m' < m/\W (i + 1) m' (ys ++ [y]) dh H4 else ∃ m',m' < m/\W (i + 1) m' ys dh H3))(Cq:∀D C s' H' m,Inv X pi σ H' s'->Q (.ref D) H'->s'.heap.Ns C m->H' C=none->s⁻¹<=C->RR (.ref D) C (.ok .next) s')(QM:∀D C e s',s⁻¹<=C->xx C s H e s'->notedBy (model X.prog X.w) X.A (compEnvC scope (N6 scope cl C) C X.env) (λe s'=>RR (.ref D) C (.error e) s') e s') :
  wpAny (model X.prog X.w) X.A (newList []) (λacc gP=>wpAny (model X.prog X.w) X.A (newFunctionEnv scope X.env.globals cl [] X.env.qual none .none (!X.env)) (λcenv lQ =>
   cenv.frame=X.env.frame/\codeAny (model X.prog X.w) X.A (.compStart (.ListComp elt [#[tg,iter,ifs,0]] scope pos) 0 (.ref it) acc { cenv with scope:=relabel scope X.env }) (RR acc cenv.locals) lQ) E gP) E s:=by
 show bJ (az7 λeM rW nC wR=>?_);let eC:(s.heap.push { cls:=.type "list",dict:=none,data:=.seq ([]:@&Value).toArray }).objs.size=s⁻¹+1:=cO ..
 replace eC:=eC.symm
 generalize (s.heap.push { cls:=.type "list",dict:=none,data:=.seq ([]:@&Value).toArray }).objs.size=C at *;show (λL=>#[rfl,codeAny_compStart_list L.2 (T.self _ 0 _ _ _ L.1 L.2)]) (VN (tb:=λys σ H P=>te σ H λy H'=>P (ys ++ [y]) H')
  (body:=λP gP=>wpAny (model X.prog X.w) X.A (eval elt (compEnvC scope (N6 scope cl C) C X.env)) (λx lQ=>wpAny (model X.prog X.w) X.A (call (.builtin "list.append") [.ref s⁻¹,x]) (λz lP=>P lP) (λz z=>False) lQ) (notedBy (model X.prog X.w) X.A (compEnvC scope (N6 scope cl C) C X.env) λe s'=>RR (.ref s⁻¹) C (.error e) s') gP)
  Uq S hc (hg C s H) (ht C s H) I T st hf w0 turn (λs' H' m=>Cq _ C s' H' m) #[_,rW] nC wR eC #[[],0,.nil,cQ _,rfl,nC _ _ (au _ rfl)] rfl (λys o fC cv H' s' P R' hz k hb I' q hR=>?_) (λI turn n h=>aJ0 I turn n h))
 .refine bX (he C s H _ s' cv H' _ (I'.T3 _) q) (λxv s8 bf=>?_) λe s' hx=>QM _ C e s' () hx;let#[y,H8,I8,r8,q8]:=bf;let I8:=I8.zU;let#[aX,nn,v3,z3,rfl,_]:=k;let b4:=hb I8;show cE F.slot_list_append #[_,b4,rfl] F.entry_list_append (F.args_list_append_2 _ _) (PySem.list_append _ aX.toArray nn xv (by rw[aK];have:=-v3;omega)) #[b4,?_];let q0:=PySem.IsL.update b4 (·.push xv);rw[show aX.toArray.push xv=(aX++[xv]).toArray by simp] at q0;show hR s8 H8 _ _ s8.toks _ I8 q8 (λb' u hb hu=>(bz s8.heap (Obj.mapSeq (·.push xv)) (bq hb)).trans hu) #[_,_,v3.append (.cons r8 .nil),by rw[ba,List.length_singleton];omega,rfl,q0]
def Inv.xU{h':Heap}{s2:Shared}{H2:Hp}(I:Inv X pi σ H s)(hC:s2⁻¹<=C)(I2:Inv X pi σ H2 s2)(hn:H C=none)(sb:Heap.SameBut C s.heap h'):Inv X pi σ H { s with heap:=h' }:=by
 let f:=I2.qK (H':=H) hC hn;let#[f0,f1,f2,f3,f4,f5]:=f;show I.turned (t':=s.toks) (λb o hb e=>sb.extBut b o hb e) f0 f1 f3 f4 f5
def Kw{M:Model}{E:Value->Shared->Prop}{a:Sem Value}{b:Sem Env}{P:Env->Prop}{Q:Value->Env->Shared->Prop}(h:wpAny M A a (λx s1=>wpAny M A b (λy s2=>P y/\Q x y s2) E s1) E s):wpAny M A a (λx s1=>wpAny M A b (λy s2=>Q x y s2) E s1) E s :=
 bX h (λw w h=>bX h (λw w h=>h.2) λw w z=>z) λw w z=>z
def Mm{wi:TI}(S:dP X scope N' c9 cl)(hc:X.calm=true)(hi:PI X tg iter wi)(hg:∀pi C s H fp,PG (d4 X pi scope N' cl C s H fp) tg g)(ht:∀pi C s H fp,mq (d4 X pi scope N' cl C s H fp) ifs tc)(he:∀pi C s H fp,PE (d4 X pi scope N' cl C s H fp) elt te)(hs:∀x,foldedSetIterable iter X.env x=pure x):PE X (.ListComp elt [#[tg,iter,ifs,0]] scope pos) (ya wi c9 (-N') g tc te):=by
 intro pi s σ H Q I h;show Ow rfl hs S.sJ S.kind S.names (cF (hi pi s σ H _ I h) λxv bL eM=>cF eM λvZ gh kN=>?_);let#[it,fp,tn,J,H2,e,I2,T,oU,f2,W,#[m0,w0],turn]:=kN;subst e;show Kw (EI S hc (λC s H=>hg pi C s H fp) (λC s H=>ht pi C s H fp) (λC s H=>he pi C s H fp) I2 T oU f2 w0 turn ?_ λy y y y y z=>z.elim);intro D C s' H' m I' q hn hC gC;show#[m,hn,λh' sb=>#[.ref D,H',I'.xU gC I2 hC sb,rfl,q]]
def aK8{vA px:Pos}{wi:TI}{i:Nat}(S:dP X scope N' c9 cl)(hc:X.calm=true)(hi:PI X tg iter wi)(hg:∀pi C s H fp,PG (d4 X pi scope N' cl C s H fp) tg g)(ht:∀pi C s H fp,mq (d4 X pi scope N' cl C s H fp) ifs tc)(he:∀pi C s H fp,PE (d4 X pi scope N' cl C s H fp) elt te)(hs:∀x,foldedSetIterable iter X.env x=pure x)(hN:X.Nd)(wH:X.N[i]?=!x)(hx:Loc X.env.scope x)(hf:X.fn x=true\/X.env.scope.names.lookup x=!.local) :
  PS X (.Assign [.Name x px] (.ListComp elt [#[tg,iter,ifs,0]] scope pos) vA) (uA (ya wi c9 (-N') g tc te) (uI i)):=by
 intro pi s σ H D I h;let ze:∃b,swapsWith (.ListComp elt [#[tg,iter,ifs,0]] scope pos) (!.Name x px) vA.line X.env=pure b:=#[_,rfl]
 let#[b,ze]:=ze;cases b with
 |false=>show NY hN wH hx (Mm S hc hi hg ht he hs) ze hf pi s σ H D I h
 |true =>
  rw[exec_Assign_Name_used _ _ _ _ ze];show aa (iL (aa ?_));show aa (bX (Ow rfl hs S.sJ S.kind S.names
   (cF (hi pi s σ H _ I h) λxv bL eM=>cF eM λvZ gh kN=>?_)) (λy s' hq=>ai (ai hq)) λy y e=>e)
  let#[it,fp,tn,J,H2,e,I2,T,oU,f2,W,#[m0,w0],turn]:=kN;subst e;show Kw (EI (Q:=λv H1=>uI i v σ H1 D.nx) S hc (λC s H=>hg pi C s H fp) (λC s H=>ht pi C s H fp) (λC s H=>he pi C s H fp) I2 T oU f2 w0 turn ?_ λy y y y y z=>z.elim);intro Dl C s' H' m I' q hn hC gC;show wpAny_assign_Name (Km I' hN wH hx (v:=.ref Dl) rfl (?_) hf);rintro s3 I3 ⟨a,sb,ha⟩;let QQ:C≠a:=by
   let#[f0,f1,f2,f3,f4,f5]:=I2.qK (H':=H') gC hC;rcases ha with z|z
   .rw[z];show f1
   .exact λz'=>f4 _ _ z z'.symm
  let#[f0,f1,f2,f3,f4,f5]:=I2.qK (H':=H') gC hC;show#[m,hn.sameBut sb QQ,λh3 OR=>#[_,H',I3.turned (t':=s3.toks) (λb o hb e=>OR.extBut b o hb e) f0 f1 f3 f4 f5,q]]
end
end L2
namespace HT
open PySem PyProof.Rows
section
variable{prog:Program}{w:World}{A:Around}{E:Value->Shared->Prop}{s:Shared}
def TU{t b:Addr}{ws:@&Value}{Q:Value->Shared->Prop}(ht:IsTup s.heap t (List.toArray []))(hb:IsTup s.heap b ws.toArray)(h1:Q (.ref b) s):wpAny (model prog w) A (binaryOp .Add (.ref t) (.ref b)) Q E s:=by
 let#[#[cls,dd,data,sl],ho,hc,n,hd]:=id ht;let#[#[xK,qH,data2,kZ],jj,qt,n2,hd2]:=id hb;simp only at hc hd qt hd2;subst hc hd qt hd2;show concat_meets #[_,ho,rfl] #[_,jj,rfl] iZ mw iq hJ (gO _ _)
   (tuple_addW0 t b (List.toArray []) ws.toArray n n2 dd qH sl kZ rfl) #[ho,jj,h1]
def af7{t sl:Addr}{items:Array Value}{vl vu:Value}{lo hi:Option Int}{Q:Value->Shared->Prop}(ht:IsTup s.heap t items)(hs:s.heap.IsSliceOf sl vl vu .none)(pl:IsPart vl lo)(pu:IsPart vu hi)(hw:dU items.size 0 lo=0/\dU items.size items.size hi=items.size)(h:Q (.ref t) s):wpAny (model prog w) A (getItem (.ref t) (.ref sl)) Q E s:=by
 let#[os,rV,qr,wM]:=id hs;let Cm:s.TypeIs (.ref sl) "slice":=#[os,rV,qr]
 unfold getItem
 try with_reducible show aY ?_
 show aa (wpAny_sequenceKey ht.typeIs ∅ ?_);show aa (bR ht.typeIs bI
  (bu bI ht.typeIs entry_tuple_getitem ?_ (args_tuple_getitem _ _)))
 change wpAny _ _ (Builtin.Tuple.tupleItemsOf (.ref t) >>= _) _ _ s;show aa (tupleItemsOf_ ht ?_);show aa (dC Cm ?_);show aa (V8 hs pl pu ?_);let Bx:((((dU items.size 0 lo:Nat):Int)==0&&(1:Int)==1&&(dU items.size items.size hi-dU items.size 0 lo)==items.size)=true):=by
  simp_all
 change wpAny _ _ (if(((dU items.size 0 lo:Nat):Int)==0&&(1:Int)==1&&(dU items.size items.size hi-dU items.size 0 lo)==items.size)=true then _ else _) _ _ s;rw[av Bx];show aa (aa (dC ht.typeIs (ai ?_)))
 first
  |show wpAny_bind (wpAny_rule (wpAny_bind (wpAny_pure #[_,rfl,wpAny_pure h])))
  |show wpAny_bind (wpAny_rule (wpAny_pure #[_,rfl,wpAny_pure h]))
  |show wpAny_bind (wpAny_rule (wpAny_bind (wpAny_pure (wpAny_pure #[_,rfl,wpAny_pure h]))))
end
end HT
namespace L2
open PySem PySem.Spec PyProof.Rows
section
variable{X:Cx}
def Zo(K:PySem.W.Frag):R2:=λx y H Q=>∃a b xs ys,x=.ref a/\y=.ref b/\gm K H a xs/\gm K H b ys/\-xs+-ys<=sizeLine /\
 (xs=[]->Q (.ref b) H)/\(ys=[]->Q (.ref a) H)/\(∀p,H p=none->Q (.ref p) (upd H p (.tup (xs++ys))))
def UN:fc X (binaryOp .Add) (Zo X.K):=by
 intro pi s σ H x y v u Q I rx ry h;let#[a,b,xs,ys,rfl,rfl,ha,hb,hz,q0,q1,q2]:=h;by_cases hx:xs=[]
 .subst hx;cases rx;cases ry;let#[aX,r1,p1,_]:=I.tuple ha;let#[lU,r2,p2,_]:=I.tuple hb;cases r1;show HT.TU p1 p2 #[.ref b,H,I,rfl,q0 rfl]
 .exact Sl pi s σ H _ _ v u Q I rx ry #[a,b,xs,ys,rfl,rfl,ha,hb,hx,hz,q1,λz=>q2]
abbrev Xo(K:PySem.W.Frag):V->Option Int->Option Int->Hp->VK->Prop:=λx lo hi H Q=>∃a xs,x=.ref a/\gm K H a xs /\
 (pU xs lo hi=xs->Q (.ref a) H)/\∀p,H p=none->Q (.ref p) (upd H p (.tup (pU xs lo hi)))
def Tj:yC X (Xo X.K):=by
 intro pi s σ H x v vl vu lo hi sl Q I rx hs pl pu h;let#[a,xs,rfl,hx,q0,q]:=h;by_cases hw:HT.dU (-xs) 0 lo=0/\HT.dU (-xs) (-xs) hi=-xs
 .cases rx;let#[aX,r,ht,hz]:=I.tuple hx;let hlen:aX.toArray.size=-xs:=by show r.length.symm
  show#["tuple",_,bI.lookup,ht.typeIs,?_];show HT.af7 ht hs pl pu (by rw[hlen];show hw) #[.ref a,H,I,rfl,q0 (by unfold pU;simp_all)]
 .exact ZM pi s σ H _ v vl vu lo hi sl Q I rx hs pl pu #[a,xs,rfl,hx,hw,q]
def aM0:j7 X (.builtin "isinstance") (λxs H Q=>∃x t c b,xs=[x,.ty c]/\gS X.K H x t/\PySem.W.kitOne X.K t (.type c)=!b/\Q (.bl b) H):=by
 intro pi s σ H xs us Q I r h;let#[x,t,c,b,rfl,hT,hk,q]:=h;let#[u,w',rfl,ru,fk]:=vals2 r;cases (show w'=Value.type c from fk);show a72 I ru hT hk λtk=>#[.bl b,H,I.tok tk,rfl,q]
def a96(hc:X.calm=true):j7 X (.builtin "all") (λxs H Q=>∃(a:Addr) (bs:@&Bool),xs=[.ref a]/\fR X.K H a (bs.map V.bl)/\Q (.bl (bs.all id)) H):=by
 intro pi s σ H xs us Q I r h;let#[a,bs,rfl,ha,q]:=h;let#[u,rfl,ru]:=vals1 r;cases ru;let#[aX,rv,p,hz]:=I.list ha;show call_all_walk ?_;show dD p.isList ?_;let fE:a≠s⁻¹:=by
  let#[o,e,_]:=id p.isList;show aD (ao e)
 let hl:=-rv;rw[aj] at hl;show#[s⁻¹,_,_,_,_,_,λi=>bs.getD i true,rfl,mQ (A:=X.A.in1) (I.ok.hd hc) _ a fE aX.toArray,#[#[_,au _ rfl,rfl,rfl],?_],?_,λh' tk k=>?_]
 .let#[o,e,q1]:=id p.isList;show#[o,ah _ e,q1]
 .intro i v s' Q' E' hP hQ;let hv:aX[i]?=!v:=by simpa using hP
  let hi:i< -bs:=by rw[hl];show(az.mp hv).1
  let#[u',we,Bk]:=rv.get (by rw[aG,aq hi];rfl);rw[hv] at we;cases we;cases (show v=Value.bool bs[i] from Bk);show cC ?_;have:bs.getD i true=bs[i]:=by simp[List.getD,hi]
  dsimp only at hQ;rw[this] at hQ;show hQ
 .let e1:(List.range aX.toArray.size).all (λi=>bs.getD i true)=bs.all id:=by
   rw[aK,<- hl];rw[cB];simp only[List.all_eq_true,List.mem_range,id];constructor
   .intro hh x hx;let#[i,hi,rfl]:=dX.mp hx;have:=hh i hi;simpa[List.getD,hi] using this
   .intro hh i hi;have:=hh bs[i] (eB hi);simpa[List.getD,hi] using this
  rw[e1];show #[.bl (bs.all id),H,I.kept (t':=tk) λb o e=>k b o (by
   intro hb;have:b=s⁻¹:=by simpa using hb
   show absurd (ao e) (by rw [this];show bP _)) (ah _ e),rfl,q]
end
end L2
namespace HT
open PySem PyProof.Rows
end HT
namespace L2
open PySem PySem.Spec PyProof.Rows
variable{X:Cx}{e:Expr}{pos:Pos}{H H':Hp}{σ:St}{s s':Shared}{B:Heap}{ea C L:Addr}{a0:Value}{l:@&Env}{Ξ:XK}{A:Around}{M:Model}
def j5.get{P:Program}{w:World}{h:Heap}{a:Addr}:∀{o:HO},j5 P w H h a o->∃ob,h.get? a=!ob
 |.lst _,x=>by let#[_,_,_,_,e]:=x;show#[_,e]
 |.tup _,x=>by let#[_,_,_,o,e,_]:=x;show#[o,e]
 |.dK _,x=>by let#[_,_,_,_,o,es,ep,e,_]:=x;show#[o,e]
 |.dT _,x=>by let#[_,_,_,_,o,es,ep,e,_]:=x;show#[o,e]
 |.set _ _,x=>by let#[o,es,ep,t,e,_]:=x;show#[o,e]
 |.ins _ _ _,x=>by let#[_,_,_,e,_]:=x;show#[_,e]
 |.own _,x=>x
 |.xd _,x=>by let#[mA,n,_]:=x;let#[od,e,_]:=Ke n;show#[od,e]
 |.my _ _,x=>by let#[_,_,_,e]:=x;show#[_,e]
 |.jH _ _,x=>#[_,x.1]
 |.qe _,x=>#[_,x]
 |.met _ _,x=>#[_,x]
 |.ext _,x=>x.2.1
abbrev EU(H':Hp)(h0:Heap)(l:@&Env)(e:Value)(C:Addr)(h:Heap):Prop :=
 ∃(ea:Addr) (a0:Value) (B:Heap),e=.ref ea/\Heap.FlyingW B l ea (.ref C) a0 h/\∀b o,h.get? b=!o->b∉fF l->(H' b≠none\/∃o0,h0.get? b=!o0)->B.get? b=!o
abbrev gM(P:Program)(w:World):nX:=λouter H s E e s'=>∃(C:Addr) (H':Hp),s'.os=s.os/\AllBare s'.gens/\Un (fF outer) [] H H' s.heap s'.heap/\fN P w H' s'.heap/\EU H' s.heap outer e C s'.heap/\E (.ref C) none H'
section
variable{pi:@&(Addr×Obj)}{E:XK}{e:Value}
def Inv.flew(I:Inv X pi σ H s)(h:gM X.prog X.w X.stack H s E e s'):∃C H',Inv X pi σ H' s'/\EU H' s.heap X.stack e C s'.heap/\E (.ref C) none H':=by
 let#[C,H',ho,hb,hu,bw,fl,hE]:=h;show#[C,H',I.EY ho hu bw hb #[_],fl,hE]
def Aj(I:Inv X pi σ H s){b:Addr}(hb:b∈fF X.stack):∃o,s.heap.get? b=!o/\∀vs,o.data≠.fields vs:=(I.stack.mem hb).2
def Fc{ou:Heap}(I:Inv X pi σ H s)(eR:X.stack=X.env::X.outer)(hex:X.ex=[])(hf:X.env.frame=!X.env.locals)(oY:∀b o,s.heap.get? b=!o->b∉fF X.stack->(H b≠none\/∃o0,X.du.heap.get? b=!o0)->B.get? b=!o)(sl:∀b∈fF X.stack,∀o,s.heap.get? b=!o->∃sl,ou.get? b=some { o with slots:=sl })(fw:Heap.FlyingW B X.outer ea (.ref C) a0 ou)(hE:E (.ref C) none H):gM X.prog X.w X.outer X.jo X.du E (.ref ea) { s with heap:=ou }:=by
 let lV:∀b,b∈fF X.outer->b∈fF X.stack:=λb hb=>by rw[eR];unfold fF at hb ⊢;rw[dB,hf];show bK _ hb
 let vM:∀b o,X.du.heap.get? b=!o->b∉fF X.outer->b∉fF X.stack:=λb o e hb z=>by
  rcases aE.mp (I.S1 b z) with z|z
  .exact absurd (ao e) (by rw[z];show oJ.mpr I.ok.above)
  .exact hb z
 let oS:∀b u,H b=!u->b∉fF X.stack:=λb u e z=>by rw[I.Ah b z] at e;cases e
 let kept:∀b o,s.heap.get? b=!o->b∉fF X.stack->(H b≠none\/∃o0,X.du.heap.get? b=!o0)->ou.get? b=!o:=λb o e n q=>fw.1 b o (oY b o e n q);let vO:∀b,b∉X.ex:=λb=>by rw[hex];simp
 show#[C,H,I.os,I.bare,#[?_,?_,?_,?_,I.base.iz,I.base.ie,I.base.iB],?_,#[ea,a0,B,rfl,fw,?_],hE]
 .exact λb o e n1 n2 x=>kept b o (I.base.keep b o e n1 n2 (vO b)) (vM b o e n2) (.inr #[o,e])
 .intro b o e n1 n2 _;let#[OP,e1]:=I.base.slot b o e n1 n2 (vO b);let#[kZ,e2]:=sl b (lV b n2) _ e1;show#[kZ,e2]
 .exact λb o e n1 x=>I.base.free b o e n1 (vO b)
 .intro b o e _;let#[o1,e1]:=I.base.there b o e (vO b);by_cases hb:b∈fF X.stack
  .let#[kZ,e2]:=sl b hb _ e1;show#[_,e2]
  .exact#[o1,kept b o1 e1 hb (.inr #[o,e])]
 .intro a o e;show (I.bw a o e).J5 (λb u hb q=>by
   let jF:∃v,H b=!v:=by
    rcases hb with rfl|hb
    .exact#[o,e]
    .exact#[_,hb]
   let#[v,hv]:=jF;show kept b u q (oS b v hv) (.inl (by rw [hv];simp))) (λb hb=>hb) (λb xs hb=>hb)
 .intro b o e n q;rcases q with q|⟨o0,q⟩
  .let#[v,hv]:=oI.mp q;let#[o1,e1]:=(I.bw b v hv).get;let z:=oY b o1 e1 (oS b v hv) (.inl (by rw[hv];simp));let z':=fw.1 b o1 z;have:o=o1:=by
    let e':ou.get? b=!o:=e;rw[z'] at e';show(aJ e').symm
   subst this;show z
  .let#[o1,e1]:=I.base.there b o0 q (vO b);let z:=oY b o1 e1 (vM b o0 q n) (.inr #[o0,q]);let z':=fw.1 b o1 z;have:o=o1:=by
    let e':ou.get? b=!o:=e;rw[z'] at e';show(aJ e').symm
   subst this;show z
def aH2{h0:Heap}{Ex:Value->Shared->Prop}(I:Inv X pi σ H s)(fl:EU H h0 X.stack e C s.heap)(Rp:∀b o,X.du.heap.get? b=!o->∃o',h0.get? b=!o')(eR:X.stack=X.env::X.outer)(hex:X.ex=[])(hf:X.env.frame=!X.env.locals)(hE:E (.ref C) none H):wpAny (model X.prog X.w) X.A (leaving X.env e) (λx oV=>gM X.prog X.w X.outer X.jo X.du E e oV) Ex s:=by
 let#[ea,a0,B,rfl,fw,hB]:=fl;rw[eR] at fw;show wpAny_leaves_onW (by rw[I.ok.frames,eR]) hf fw λou sC us=>?_;show Fc I eR hex hf (λb o e n q=>hB b o e n (q.imp id (by rintro ⟨o0,q⟩;show Rp b o0 q))) (λb hb o e=>?_) sC hE;let#[o1,e1,nf]:=Aj I hb;rw[e] at e1;cases e1;show us b o e nf
def aV9{h':Heap}{vs:@&Value}{Ex:Value->Shared->Prop}(I:Inv X pi σ H s)(hx:Heap.MadeExcOf s.heap h' ea (.ref C) vs)(eR:X.stack=X.env::X.outer)(hex:X.ex=[])(hf:X.env.frame=!X.env.locals)(hE:E (.ref C) none H):wpAny (model X.prog X.w) X.A (leaving X.env (.ref ea)) (λx oV=>gM X.prog X.w X.outer X.jo X.du E (.ref ea) oV) Ex { s with heap:=h' }:=by
 let ue:=I.stack;rw[eR] at ue;let Qr:∀env∈(X.env::X.outer),∀b,env.frame=!b->b∈fF X.stack:=λenv he b hb=>by rw[eR];show fX.mpr #[env,he,hb]
 show wpAny_leaves_madeW (by rw[I.ok.frames,eR]) hf (λb o q=>Ox _ q) (PySem.W.funFrames_hide ue Qr) hx λou t fw x x us=>?_;show(show gM X.prog X.w X.outer X.jo X.du E (.ref ea) { s with heap:=ou } from Fc I eR hex hf (λb o e n x=>Gh _ e n) (λb hb o e=>?_) fw hE);let#[o1,e1,nf]:=Aj I hb;rw[e] at e1;cases e1;show us b o (hx.keeps b o e) nf
def VH{h0 h h1:Heap}{Pg:Program}{w:World}(u:Un (fF l) [] H H' h0 h)(ok:fN Pg w H' h)(hB:∀b o,h.get? b=!o->b∉fF l->(H' b≠none\/∃o0,h0.get? b=!o0)->B.get? b=!o)(st:B.StaysIn h1)(us:h.UpToSlots h1)(uc:∀b∈fF l,H' b=none/\∃o,h.get? b=!o/\∀vs,o.data≠.fields vs):Un (fF l) [] H H' h0 h1/\fN Pg w H' h1/\∀b o,h1.get? b=!o->b∉fF l->(H' b≠none\/∃o0,h0.get? b=!o0)->B.get? b=!o:=by
 let oS:∀b u,H' b=!u->b∉fF l:=λb u e z=>by rw[(uc b z).1] at e;cases e
 let kept:∀b o,h.get? b=!o->b∉fF l->(H' b≠none\/∃o0,h0.get? b=!o0)->h1.get? b=!o:=λb o e n q=>st b o (hB b o e n q);let HE:∀b∈fF l,∀o,h.get? b=!o->∃sl,h1.get? b=some { o with slots:=sl }:=λb hb o e=>by
  let#[_,o1,e1,nf]:=uc b hb;rw[e] at e1;cases e1;show us b o e nf
 show#[#[?_,?_,u.free,?_,u.iz,u.ie,u.iB],?_,?_]
 .exact λb o e n1 n2 n3=>kept b o (u.keep b o e n1 n2 n3) n2 (.inr #[o,e])
 .intro b o e n1 n2 n3;let#[OP,e1]:=u.slot b o e n1 n2 n3;let#[kZ,e2]:=HE b n2 _ e1;show#[kZ,e2]
 .intro b o e n;let#[o1,e1]:=u.there b o e n;by_cases hb:b∈fF l
  .let#[kZ,e2]:=HE b hb _ e1;show#[_,e2]
  .exact#[o1,kept b o1 e1 hb (.inr #[o,e])]
 .intro a o e;show (ok a o e).J5 (λb u hb q=>by
   let jF:∃v,H' b=!v:=by
    rcases hb with rfl|hb
    .exact#[o,e]
    .exact#[_,hb]
   let#[v,hv]:=jF;show kept b u q (oS b v hv) (.inl (by rw [hv];simp))) (λb hb=>hb) (λb xs hb=>hb)
 .intro b o e n q;have:∃o1,h.get? b=!o1:=by
   rcases q with q|⟨o0,q⟩
   .let#[v,hv]:=oI.mp q;show(ok b v hv).get
   .exact u.there b o0 q #[_]
  let#[o1,e1]:=this;let z:=hB b o1 e1 n q;rw[st b o1 z] at e;cases e;show z
structure Lies(X:Cx)(H H':Hp)(s:Shared)(B:Heap)(ea C:Addr)(a0:Value)(s':Shared):Prop where
 os:s'.os=s.os
 bare:AllBare s'.gens
 un:Un (fF X.stack) [] H H' s.heap s'.heap
 bw:fN X.prog X.w H' s'.heap
 oY:∀b o,s'.heap.get? b=!o->b∉fF X.stack->(H' b≠none\/∃o0,s.heap.get? b=!o0)->B.get? b=!o
def Lies.inv(I:Inv X pi σ H s)(l:Lies X H H' s B ea C a0 s'):Inv X pi σ H' s':=I.EY l.os l.un l.bw l.bare #[_]
def leave_held{Ex:Value->Shared->Prop}(I:Inv X pi σ H s)(l:Lies X H H' s B ea C a0 s')(hh:Heap.HeldW B X.stack ea (.ref C) a0 X.env.locals s'.heap)(eR:X.stack=X.env::X.outer)(hex:X.ex=[])(hf:X.env.frame=!X.env.locals)(hE:E (.ref C) none H'):wpAny (model X.prog X.w) X.A (leaving X.env (.ref ea)) (λx oV=>gM X.prog X.w X.outer X.jo X.du E (.ref ea) oV) Ex s':=by
 let J:=l.inv I;let BZ:=hh;rw[eR] at BZ;show aa (wpAny_noteFrame_againW hf BZ.2.2.2 ?_);show wpAny_landsW BZ λou fl us=>?_;let#[k1,k2,#[_,_,k3],k4]:=fl;show Fc J eR hex hf (λb o e n q=>l.oY b o e n (q.imp id (by rintro ⟨o0,q⟩;show I.base.there b o0 q (by rw[hex];simp)))) (λb hb o e=>?_) #[k1,k2,k3,k4] hE;let#[o1,e1,nf]:=Aj J hb;rw[e] at e1;cases e1;show us b o e nf
def zW(X:Cx)(Ξ:XK):Prop:=∀(pi:@&(Addr×Obj)) (σ:St) (H:Hp) (s:Shared) (h':Heap) (ea C:Addr) (vs:@&Value),Inv X pi σ H s->Heap.MadeExcOf s.heap h' ea (.ref C) vs->Ξ (.ref C) none H->X.xe (.ref ea) { s with heap:=h' }
def uP(X:Cx)(Ξ:XK):Prop:=∀(pi:@&(Addr×Obj)) (σ:St) (H H':Hp) (s s':Shared) (B:Heap) (ea C:Addr) (a0:Value),Inv X pi σ H s->Lies X H H' s B ea C a0 s'->Heap.HeldW B X.stack ea (.ref C) a0 X.env.locals s'.heap->Ξ (.ref C) none H'->X.xe (.ref ea) s'
def bD1(C:Addr)(Ξ:XK)(t:TA):TS:=λ_ σ H=>t σ H λvs H1=>-vs<=sizeLine/\Ξ (.ref C) none H1
def Va{x:Str}{B newId gB:String}{bm:@&Value}{np dY:Pos}{jI:Expr}{rest:@&Expr}{t:TA}(hc:X.calm=true)(O:OwnCls x C bm newId X.mg X.base)(FB:ExcBaseFacts B newId gB bm)(hg:Gl X x)(ha:PA X (jI::rest) t)(hr:zW X Ξ)(he:starEach (jI::rest) X.env=(false,eval jI X.env)::starEach rest X.env)(eN:(backTo dY (starEach rest X.env)).any (·.1)=false)(hd:(x==("__debug__":Str))=false) :
  PS X (.Raise (!.Call (.Name x np) (jI::rest) [] dY) none pos) (bD1 C Ξ t):=by
 intro pi s σ H D I h;let#[tl,N,nm,q,bs,hdct,sn,sub,ab,col,dd,k0,k1,k2,k3,k5,mN,hC,hN,zh,T]:=O.obj;show wpAny_Raise_call_subT (nm:=nm) (q:=q) (N:=N) (bs:=bs) (hdct:=hdct) (sn:=sn) (sub:=sub) (ab:=ab) (col:=col) (dd:=dd) (k0:=k0) (k1:=k1) (k2:=k2) (k3:=k3) (k5:=k5)
  FB (T.hasType FB.hasBase) (I.ok.hd hc) (by rw[he];show(false||(backTo dY (starEach rest X.env)).any (·.1))=false;rw[eN];rfl) zh (Q2 I hg O.bound #[rfl,?_] hd)
 let h':=ha dY pi s σ H _ I h;rw[he] at h' ⊢;show fZ (bX h' (λvs gh kN=>?_) λz z y=>y);let#[ws,H1,I1,rv,hz,hE]:=kN;show#[rfl,by rw[<- -rv];show hz,I1.bk _ _ hC,hN.keeps I1.bk,T.keeps I1.bk,λh2 ea hm=>hr pi σ H1 gh h2 ea C vs I1 hm hE]
def X8(X:Cx)(pi:@&(Addr×Obj))(xe:Value->Shared->Prop)(o:Option St:=none):Cx:={ X with pn:=X.pn++pi,xe:=xe,sg:=o }
def F7(X:Cx)(ea:Addr):Cx:={ X with A:=X.A.mark (!.ref ea),calm:=false,xe:=λx x=>False,sg:=none }
def Inv.XG{xe:Value->Shared->Prop}{o:Option St}(ho:∀τ,o=!τ->σ=τ)(I:Inv X pi σ H s):Inv (X8 X pi xe o) [] σ H s :=
 #[#[I.ok.mod,I.ok.kind,I.ok.glob,I.ok.blt,I.ok.above,I.ok.inj,I.ok.has,I.ok.qI,I.ok.hd,I.ok.frames,I.ok.rn,I.ok.xD,I.ok.bs,I.ok.nU,I.ok.jX,I.ok.kT,I.ok.N5,I.ok.ow],I.os,I.bare,I.base,I.loc,I.cell,I.free,I.eP,
  λp hp=>I.pin p (by simpa [X8] using hp),I.bw,I.len,ho]
def Inv.tf{xe:Value->Shared->Prop}{o:Option St}{fC:@&(Addr×Obj)}(hs:X.sg=none)(I:Inv (X8 X pi xe o) fC σ H s):Inv X pi σ H s :=
 #[#[I.ok.mod,I.ok.kind,I.ok.glob,I.ok.blt,I.ok.above,I.ok.inj,I.ok.has,I.ok.qI,I.ok.hd,I.ok.frames,I.ok.rn,I.ok.xD,I.ok.bs,I.ok.nU,I.ok.jX,I.ok.kT,I.ok.N5,I.ok.ow],I.os,I.bare,I.base,I.loc,I.cell,I.free,I.eP,
  λp hp=>I.pin p (fq _ hp),I.bw,I.len,λx z=>by simp_all]
def Inv.Og(I:Inv X pi σ H s):Inv (F7 X ea) pi σ H s :=
 #[#[I.ok.mod,I.ok.kind,I.ok.glob,I.ok.blt,I.ok.above,I.ok.inj,I.ok.has,I.ok.qI,λz=>(by cases z),I.ok.frames,I.ok.rn,I.ok.xD,I.ok.bs,I.ok.nU,I.ok.jX,I.ok.kT,I.ok.N5,I.ok.ow],I.os,I.bare,I.base,I.loc,I.cell,I.free,I.eP,I.pin,I.bw,I.len,λcU z=>absurd (show(none:Option St)=some cU from z) #[_]]
def Inv.uV(hs:X.sg=none)(J:X.Ok)(I:Inv (F7 X ea) pi σ H s):Inv X pi σ H s :=
 #[J,I.os,I.bare,I.base,I.loc,I.cell,I.free,I.eP,I.pin,I.bw,I.len,λx z=>by simp_all]
def SP.tf{xe:Value->Shared->Prop}{o:Option St}{D:Ends}{f:Flow}(hs:X.sg=none)(h:SP (X8 X pi xe o) [] D f s):SP X pi D f s:=by
 cases f with
 |next=>let#[a,b,I,q]:=h;show#[a,b,I.tf hs,q]
 |brk=>let#[a,b,I,q]:=h;show#[a,b,I.tf hs,q]
 |cont=>let#[a,b,I,q]:=h;show#[a,b,I.tf hs,q]
 |ret u=>let#[v,a,b,I,r,q]:=h;show#[v,a,b,I.tf hs,r,q]
def SP.uV{ea:Addr}{D:Ends}{f:Flow}(hs:X.sg=none)(J:X.Ok)(h:SP (F7 X ea) pi D f s):SP X pi D f s:=by
 cases f with
 |next=>let#[a,b,I,q]:=h;show#[a,b,I.uV hs J,q]
 |brk=>let#[a,b,I,q]:=h;show#[a,b,I.uV hs J,q]
 |cont=>let#[a,b,I,q]:=h;show#[a,b,I.uV hs J,q]
 |ret u=>let#[v,a,b,I,r,q]:=h;show#[v,a,b,I.uV hs J,r,q]
abbrev sW(X:Cx)(D:Ends)(cU:St)(C:Addr)(H:Hp):@&ExceptHandler->Prop
 |.ExceptHandler (!.Name x _) none (nS::qf) _::rest=>Gl X x/\(x==("__debug__":Str))=false/\∃C' b,X.mg x=!.ref C'/\PySem.W.exmOne X.K (.ref C) (.ref C')=!b /\
   (if b=true then ∃t:TS,(∀ea,jt (F7 X ea) (nS::qf) t)/\t D cU H else sW X D cU C H rest)
 |[]=>∃Ξ:XK,uP X Ξ/\Ξ (.ref C) none H
 |_=>False
end
section
variable{pi:@&(Addr×Obj)}{e:Value}{D:Ends}
abbrev AS(X:Cx)(pi:@&(Addr×Obj))(D:Ends)(hs:@&ExceptHandler):Value->Shared->Prop:=λe bL =>
 wpAny (model X.prog X.w) X.A (noteFrame e X.env) (λx gh=>wpAny (model X.prog X.w) X.A (setFlight e none) (λx gP=>wpAny (model X.prog X.w) X.A (handleBy e X.env hs) (SP X pi D) X.xe gP) X.xe gh) X.xe bL
def Lies.step{h1:Heap}(I:Inv X pi σ H s)(l:Lies X H H' s B ea C a0 s')(st:B.StaysIn h1)(us:s'.heap.UpToSlots h1):Lies X H H' s B ea C a0 { s' with heap:=h1 }:=by
 let J:=l.inv I;let#[u,ok,ib]:=VH l.un l.bw l.oY st us λb hb=>#[J.Ah b hb,Aj J hb]
 show#[l.os,l.bare,u,ok,ib]
def aL3{cls:Value}{E:Value->Shared->Prop}{Q:Unit->Shared->Prop}(fw:Heap.FlyingW B l ea cls a0 s.heap)(h:∀h',Heap.HeldW B l ea cls a0 L h'->(∀b o,s.heap.get? b=!o->(∀vs,o.data≠.fields vs)->h'.get? b=!o)->Q Unit.unit { s with heap:=h' }):wpAny M A (setFlight (.ref ea) (!L)) Q E s:=by
 let#[f1,f2,f3,oe,vs,T,oT,ts,he,jE,hd,h1,rY,pB,hT,oj,h3]:=fw;let wj:=(gg.mp h3).1;let other:∀b,b≠T->(s.heap.update T (Obj.mapFields (·.setIfInBounds 3 ((!L).elim Value.none λf=>rawInt f)))).get? b=s.heap.get? b :=
  λb hb=>bz _ _ (bq hb)
 let jY:∀b o,s.heap.get? b=!o->(∀vs,o.data≠.fields vs)->b≠T:=λb o hb wz q=>by
  rw[q,hT] at hb;injection hb with hb;subst hb;show wz ts oj
 show aa (bx he hd h1 ?_);show cD hT oj wj (h _ #[λb o QG=>(other b λq=>by simp_all).trans (f1 b o QG),f2,
  f3.of_keeps λb o hb wz=>#[o,(other b (jY b o hb wz)).trans hb,rfl],?_] λb o hb wz=>(other b (jY b o hb wz)).trans hb)
 show#[oe,vs,T,_,_,(other ea (bq pB)).trans he,jE,hd,h1,rY,pB,aR _ hT (cg (aZ oj _)),aZ oj _,by simp[wj]]
set_option tactic.hygienic true in
def Ka{B:Heap}{ea C:Addr}{a0:Value}{cU:St}(oh:X.sg=none)(hf:X.env.frame=!X.env.locals)(zj:-cU=σ.length)(zc:∀(i:Nat) v,cU[i]?=!!v->σ[i]?=!!v):∀(hs:@&ExceptHandler) (s':Shared),Inv X pi σ H s->Lies X H H' s B ea C a0 s'->Heap.FlyingW B X.stack ea (.ref C) a0 s'.heap->sW X D cU C H' hs ->
  wpAny (model X.prog X.w) X.A (handleBy (.ref ea) X.env hs) (SP X pi D) X.xe s'
 |[],s',I,l,fw,t=>by
  let#[Ξ,hh,hE]:=t;show wpAny_handleBy_nil ?_;let#[f1,f2,f3,oe,vs,T,oT,ts,he,jE,hd,h1,_]:=id fw;show aa (bx he hd h1 ?_);rw[aw #[_],hf];show aa (aL3 fw λh2 held k=>tw ?_);let l2:=l.step I held.1 (λb o hb hn=>#[o.slots,k b o hb hn]);show hh pi σ H H' s _ B ea C a0 I l2 held hE
 |.ExceptHandler none _ _ _::_,_,_,_,_,t=>t.elim
 |.ExceptHandler (!e) nm bd pos::rest,s',I,l,fw,t=>by
  cases e
  case Name x np =>
   cases nm with
   |some y=>show t.elim
   |none =>
    cases bd with
    |nil=>show t.elim
    |cons nS qf =>
     let#[hg,gR,C',b,hm,hx,q]:=t;let J:=l.inv I;let JM:Inv (F7 X ea) pi σ H' s':=J.Og;let LT:PySem.W.Looks (model X.prog X.w) s'.heap (typeOf (.ref ea)) (.ref C):=λA Q E s2 k q=>by
      let#[ob,ho,hc]:=fw.there;show wpAny_typeOf_ref (k _ _ ho) (by rw[hc];show q)
     show wpAny_handleBy_cons (codeAny_handlers_test ?_) (by intro z;cases z);show Q2 JM hg hm ?_ gR;show(PySem.W.exm_one J.fU LT hx).here ?_;cases b with
     |false =>
      show Ka oh hf zj zc rest s' I l fw q
     |true =>
      let#[t,ht,hq]:=q;show codeAny_handlers_suite ?_;show wpAny_setFlight_noneW fw.1 fw.2.2.1 fw.2.2.2.at λh2 k1 k2 k3 k4=>?_;let l2:=l.step I k1 (λb o hb hn=>#[o.slots,k4 b o hb hn]);let J2:=l2.inv I;let J3:Inv (F7 X ea) pi cU H' { s' with heap:=h2 }:=(Inv.weak oh J2 zj zc).Og;show bX (ht ea pi _ _ H' D J3 hq) (λf s2 hf=>hf.uV oh I.ok) λu u z=>z.elim
  all_goals show t.elim
def UO{hs:@&ExceptHandler}{o:Option St}{cU:St}(oh:X.sg=none)(eR:X.stack=X.env::X.outer)(hf:X.env.frame=!X.env.locals)(Bw:∀σ:St,σ.length=-X.N->(∀τ,o=!τ->σ=τ)->-cU=σ.length/\∀(i:Nat) v,cU[i]?=!!v->σ[i]?=!!v)(hT:∀C H',Ξ (.ref C) none H'->sW X D cU C H' hs) :
  Passes (gM X.prog X.w) (X8 X pi (AS X pi D hs) o) Ξ:=by
 intro fC σ H s e s' I0 h;let I:=I0.tf oh;let#[zj,zc]:=Bw σ I.len I0.sg;let#[C,H',ho,hb,hu,bw,#[ea,a0,B,rfl,fw,hB],hE]:=h;let l:Lies X H H' s B ea C a0 s':=#[ho,hb,hu,bw,hB]
 let fw:Heap.FlyingW B X.stack ea (.ref C) a0 s'.heap:=fw;let sC:=fw;rw[eR] at sC;show wpAny_looks_onW (by rw[I.ok.frames,eR]) hf sC λh1 held us=>?_;let l1:=l.step I held.1 us;show wpAny_landsW held λh2 fl gH=>?_;let l2:=l1.step I fl.1 gH;rw[<- eR] at fl;show Ka oh hf zj zc hs _ I l2 fl (hT C H' hE)
def Zk{hs:@&ExceptHandler}{h₀:ExceptHandler}{body:@&Stmt}{t:Ends->St->TS}{Ξ:Ends->St->XK}(f:St->Option St)(z:St->St)(hz:∀σ τ,f σ=!τ->σ=τ)(oh:X.sg=none)(hb:∀pi D σ,(∀C H',Ξ D σ (.ref C) none H'->sW X D (z σ) C H' (h₀::hs))->jt (X8 X pi (AS X pi D (h₀::hs)) (f σ)) body (t D σ)) :
  PS X (.Try body (h₀::hs) [] [] pos) (λD σ H=>(∀C H',Ξ D σ (.ref C) none H'->sW X D (z σ) C H' (h₀::hs))/\t D σ D σ H):=by
 intro pi s σ H D I ⟨hT,h⟩;show wpAny_Try_except (bX (hb pi D σ hT [] s σ H D (I.XG (hz σ)) h) (λf s1 q=>?_) λe s1 q=>q);let q:=q.tf oh;cases f with
 |next =>
  let#[cv,H',I',q]:=q;show cF (vb #[cv,H',I',q]) λx x z=>z
 |brk=>show q
 |cont=>show q
 |ret u=>show q
end
section
variable{E:Value->Shared->Prop}{env:Env}
def Ug{scope:Scope}{nt first:Sem Value}{g:Comprehension}{gs:@&Comprehension}{cl:@&(Str×Addr)}{Q:Value->Shared->Prop}{RX:Value->Addr->Result->Shared->Prop}(iV:clausesOf e=g::gs)(hs:∀x,foldedSetIterable g.iter env x=pure x)(wQ:closureFor scope env=pure cl)(ly:scope.kind=.function)(rX:∀x∈scope.names,x.2=.local->scope.names.lookup x.1=!.local)(ok:∀acc C f s',RX acc C (.ok f) s'->∃m,s'.heap.Ns C m/\∀h',Heap.SameBut C s'.heap h'->Q acc { s' with heap:=h' })(er:∀acc C x s',RX acc C (.error x) s'->∃m,s'.heap.Ns C m/\∀h' m',h'.Ns C m'->Heap.SameBut C s'.heap h'->∀cenv:Env,cenv.frame=env.frame->wpAny M A (PySem.passOn "comprehension.variables-let-go" x cenv:Sem Value) (λw w=>False) E { s' with heap:=h' })(h:wpAny M A first (λx s1=>wpAny M A (pyIter x) (λit s2=>wpAny M A nt (λacc s3=>wpAny M A (newFunctionEnv scope env.globals cl [] env.qual none .none (!env)) (λcenv s4 =>
   cenv.frame=env.frame/\codeAny M A (.compStart e 0 it acc { cenv with scope:=relabel scope env }) (RX acc cenv.locals) s4) E s3) E s2) E s1) E s):wpAny M A (comprehension e scope env pos nt false first none) Q E s:=by
 let keep:∀{α:Type} {m:Sem α} {P P':α->Shared->Prop} {t:Shared},wpAny M A m P E t->(∀a t',P a t'->P' a t')->wpAny M A m P' E t:=λa b=>bX a b λw w z=>z;unfold comprehension;rw[wQ,iV];show aa (keep h λx s1 h1=>aa (iL (aa (cM (hs x) (aa (aY (keep h1 λit s2 h2=>wpAny_standIf (aa (keep h2 λacc s3 h3=>aa (ai (aa (keep h3 λcenv s4 h4=>?_))))))))))));let#[uc,h4]:=h4;dsimp only;let hv:∀x∈(scope.names.filter λx=>(x.2==.local||x.2==.cell)&&x.1 != (".0":Str)).reverse,x.2=.local->Env.kindOf { cenv with scope:=relabel scope env } x.1=!.local :=
  λx hx hl=>lookup_relabel_local (rX x (cA.mp (List.mem_reverse.mp hx)).1 hl)
 show aY (aa (fS (aY (wpAny_run (fo h4 λr s5 h5=>?_)))));cases r with
 |ok f =>
  let#[m,n5,q]:=ok _ _ _ _ h5;show aa (aY (wpAny_comp_letGo (cenv:={ cenv with scope:=relabel scope env }) ly _ s5 m hv n5 λh6 m6 w k6=>ai (q h6 k6)))
 |error x =>
  let#[m,n5,q]:=er _ _ _ _ h5;show aa (aY (wpAny_comp_letGo (cenv:={ cenv with scope:=relabel scope env }) ly _ s5 m hv n5 λh6 m6 n6 k6=>bX (q h6 m6 n6 k6 _ uc) (λw w f=>f.elim) λw w y=>y))
end
def Li{B B' h h2:Heap}{C:Addr}(hB:∀b,b≠C->B'.get? b=B.get? b)(hh:∀b,b≠C->h2.get? b=h.get? b){oC:Obj}(hC:B.get? C=!oC):∀{l:@&Env},h.FunFrames B l->h2.FunFrames B' l
 |[],x=>x
 |env::r,⟨x1,⟨L,o,x2,x3,x4,x5⟩,x6⟩=>by
  let hL:L≠C:=λz=>by rw[z,hC] at x3;cases x3
  show#[x1,#[L,o,x2,(hB L hL).trans x3,(hh L hL).trans x4,x5],Li hB hh hC x6]
section
variable{pi:@&(Addr×Obj)}
def aL4{cls:Value}{E:Value->Shared->Prop}{Q:Unit->Shared->Prop}(fw:Heap.HeldW B l ea cls a0 L s.heap)(h:∀h',Heap.HeldW B l ea cls a0 L h'->(∀b o,s.heap.get? b=!o->(∀vs,o.data≠.fields vs)->h'.get? b=!o)->Q Unit.unit { s with heap:=h' }):wpAny M A (setFlight (.ref ea) (!L)) Q E s:=by
 let#[f1,f2,f3,oe,vs,T,oT,ts,he,jE,hd,h1,rY,pB,hT,oj,h3]:=fw;let HB:3<ts.size:=(gg.mp h3).1;let nZ:∀b,b≠T->(s.heap.update T (Obj.mapFields (·.setIfInBounds 3 ((!L).elim Value.none λf=>rawInt f)))).get? b=s.heap.get? b:=λb hb=>bz _ _ (bq hb);let GH:∀b o,s.heap.get? b=!o->(∀vs,o.data≠.fields vs)->b≠T:=λb o hb hn q=>by
  simp_all
 show aa (bx he hd h1 ?_);show cD hT oj HB (h _ #[λb o hb=>(nZ b λq=>by simp_all).trans (f1 b o hb),f2,f3.of_keeps λb o hb hn=>#[o,(nZ b (GH b o hb hn)).trans hb,rfl],?_] λb o hb hn=>(nZ b (GH b o hb hn)).trans hb);show#[oe,vs,T,_,_,(nZ ea (bq pB)).trans he,jE,hd,h1,rY,pB,aR _ hT (cg (aZ oj _)),aZ oj _,by simp[HB]]
def Lies.xU{h2:Heap}{Cc:Addr}{o o2:Obj}(l:Lies X H H' s B ea Cc a0 s')(held:Heap.HeldW B X.stack ea (.ref Cc) a0 L s'.heap)(sb:Heap.SameBut C s'.heap h2)(zA:h2.get? C=!o2)(GG:o2.isFreed=false)(hn:H C=none)(hs:s.heap.get? C=!o)(nf:C∉fF X.stack) :
  ∃B',Lies X H H' { s with heap:=s.heap.update C λx=>o2 } B' ea Cc a0 { s' with heap:=h2 }/\Heap.HeldW B' X.stack ea (.ref Cc) a0 L h2:=by
 let#[oC,eC]:=l.un.there C o hs #[_];let n':H' C=none:=l.un.free C o hs hn #[_];let hB:B.get? C=!oC:=l.oY C oC eC nf (.inr #[o,hs]);let b1:(B.update C λx=>o2).get? C=!o2:=aR _ hB GG;let b2:∀b,b≠C->(B.update C λx=>o2).get? b=B.get? b:=λb hb=>bz _ _ (bq hb);let s1:(s.heap.update C λx=>o2).get? C=!o2:=aR _ hs GG;let s2:∀b,b≠C->(s.heap.update C λx=>o2).get? b=s.heap.get? b:=λb hb=>bz _ _ (bq hb);let pC:∀b,b≠C->h2.get? b=s'.heap.get? b:=sb.2;let ne:∀{b:Addr},B.get? b=none->b≠C:=λ{b} h z=>by rw[z,hB] at h;cases h
 let#[f1,f2,f3,oe,vs,T,oT,ts,he,jE,hd,h1,rY,pB,hT,oj,h3]:=held;show#[B.update C λx=>o2,#[l.os,l.bare,#[λb u e n1 n2 n3=>?_,λb u e n1 n2 n3=>?_,λb u e n1 n2=>?_,λb u e n1=>?_,l.un.iz,l.un.ie,l.un.iB],?_,λb u e n1 q=>?_],λb u e=>?_,(b2 ea (ne f2)).trans f2,Li b2 pC hB f3,oe,vs,T,oT,ts,(pC ea (ne f2)).trans he,jE,hd,h1,(b2 T (ne rY)).trans rY,pB,(pC T (ne rY)).trans hT,oj,h3]
 .by_cases z:b=C
  .subst z;rw[show({ s with heap:=s.heap.update b λx=>o2 }:Shared).heap.get? b=_ from s1] at e;cases e;show zA
  .exact(pC b z).trans (l.un.keep b u ((s2 b z).symm.trans e) n1 n2 n3)
 .let z:b≠C:=λz=>nf (z▸n2);let#[sl,q]:=l.un.slot b u ((s2 b z).symm.trans e) n1 n2 n3;show#[sl,(pC b z).trans q]
 .by_cases z:b=C
  .subst z;show n'
  .exact l.un.free b u ((s2 b z).symm.trans e) n1 n2
 .by_cases z:b=C
  .subst z;show#[_,zA]
  .let#[w,q]:=l.un.there b u ((s2 b z).symm.trans e) n1;show#[w,(pC b z).trans q]
 .intro a u e;show (l.bw a u e).J5 (λb w hb q=>by
   have:b≠C:=λz=>by
    rcases hb with rfl|hb
    .rw[z,n'] at e;cases e
    .rw[z,n'] at hb;cases hb
   show (pC b this).trans q) (λb hb=>hb) (λb xs hb=>hb)
 .by_cases z:b=C
  .subst z;rw[show({ s' with heap:=h2 }:Shared).heap.get? b=_ from zA] at e;cases e;show b1
  .refine(b2 b z).trans (l.oY b u ((pC b z).symm.trans e) n1 ?_);rcases q with q|⟨o0,q⟩
   .exact .inl q
   .exact .inr #[o0,(s2 b z).symm.trans q]
 .by_cases z:b=C
  .subst z;rw[b1] at e;cases e;show zA
  .exact(pC b z).trans (f1 b u ((b2 b z).symm.trans e))
abbrev zJ(X:Cx)(Ξ:XK)(pi:@&(Addr×Obj))(scope:Scope)(N':@&Str)(cl:@&(Str×Addr))(fp:@&Addr)(C:Addr)(s:Shared)(H:Hp):Value->Shared->Prop :=
 λe s'=>∃lh jq H1 s1,Inv (d4 X pi scope N' cl C s H fp) lh jq H1 s1/\gM X.prog X.w X.stack H1 s1 Ξ e s'
abbrev Jv(X:Cx)(pi:@&(Addr×Obj))(σ:St)(Q:VK):Value->Addr->Result->Shared->Prop:=λacc C r s'=>match r with
 |.ok _=>∃m,s'.heap.Ns C m/\∀h',Heap.SameBut C s'.heap h'->EP X pi σ Q acc { s' with heap:=h' }
 |.error x=>∃m,s'.heap.Ns C m/\∀h' m',h'.Ns C m'->Heap.SameBut C s'.heap h'->∀cenv:Env,cenv.frame=X.env.frame->wpAny (model X.prog X.w) X.A (PySem.passOn "comprehension.variables-let-go" x cenv:Sem Value) (λy y=>False) X.xe { s' with heap:=h' }
def UX{elt tg iter:Expr}{ifs:@&Expr}{scope:Scope}{N':@&Str}{c9:@&Nat}{cl:@&(Str×Addr)}{wi:TI}{g:TG}{tc:TT}{te:TE}(eR:X.stack=X.env::X.outer)(hf:X.env.frame=!X.env.locals)(hh:uP X Ξ)(S:dP X scope N' c9 cl)(hc:X.calm=true)(hi:PI X tg iter wi)(hg:∀pi C s H fp,PG (d4 X pi scope N' cl C s H fp) tg g)(ht:∀pi C s H fp,mq (d4 X pi scope N' cl C s H fp) ifs tc)(he:∀pi C s H fp,PE ((d4 X pi scope N' cl C s H fp).T3 (zJ X Ξ pi scope N' cl fp C s H)) elt te)(hs:∀x,foldedSetIterable iter X.env x=pure x):PE X (.ListComp elt [#[tg,iter,ifs,0]] scope pos) (ya wi c9 (-N') g tc te):=by
 intro pi s σ H Q I h;show Ug (RX:=Jv X pi σ Q)
  rfl hs S.sJ S.kind S.names (λy y y y z=>z) (λy y y y z=>z) (cF (hi pi s σ H _ I h) λxv s1 h1=>cF h1 λvZ s2 h2=>?_)
 let#[it,fp,tn,J,H2,e,I2,T,oU,f2,W,#[m0,w0],turn]:=h2;subst e;show EI (xx:=λC s H=>zJ X Ξ pi scope N' cl fp C s H) (RR:=Jv X pi σ Q) S hc (λC s H=>hg pi C s H fp) (λC s H=>ht pi C s H fp) (λC s H=>he pi C s H fp) I2 T oU f2 w0 turn ?_ ?_
 .intro D C s' H' m I' q hn hC gC;show#[m,hn,λh' sb=>#[.ref D,H',I'.xU gC I2 hC sb,rfl,q]]
 .rintro D C e s' gC ⟨lh,jq,H1,s1,K1,cx⟩;let#[Cc,H',ho,hb,hu,bw,#[ea,a0,B,rfl,fw,hB],hE]:=cx;let J1:Inv X pi σ H1 s1:=I2.MN f2 K1;let l:Lies X H1 H' s1 B ea Cc a0 s':=#[ho,hb,hu,bw,hB]
  let sC:=fw;rw[eR] at sC;change wpAny (model X.prog X.w) X.A (noteFrame (.ref ea) X.env) _ _ s';show wpAny_looks_onW (by rw[J1.ok.frames,eR]) hf sC λh3 held us=>?_;rw[<- eR] at held;let l1:=l.step J1 held.1 us;let lc:Lies (d4 X pi scope N' cl C s2 H2 fp) H1 H' s1 B ea Cc a0 { s' with heap:=h3 }:=#[l1.os,l1.bare,l1.un,l1.bw,l1.oY]
  let#[mC,BN,_]:=(lc.inv K1).loc;show#[mC,BN,λh4 m4 n4 sb cenv uc=>?_];let#[o4,es,ep,e4,_]:=n4;let Pf:o4.isFreed=false:=(Heap.get?_some_iff.mp e4).2;let#[m1,#[o1,gT,ep1,e1,_],_]:=K1.loc;let n1:H1 C=none:=K1.free;let nf:C∉fF X.stack:=λz=>by
   rcases aE.mp (I2.S1 C z) with z|z
   .exact absurd I2.lt (by simp_all)
   .exact I2.Ax gC z
  let#[B2,l2,qq]:=l1.xU held sb e4 Pf n1 e1 nf;let J2:Inv X pi σ H1 { s1 with heap:=s1.heap.update C λy=>o4 }:=J1.xU gC I2 n1 (aS _ _ _);let#[g1,g2,g3,oe,vs,T',oT,ts,wL,jE,hd,Qt,_]:=id qq;show aa (bx wL hd Qt ?_);rw[aw #[_],uc,hf];show aa (aL4 qq λh5 qp k5=>tw ?_);let l5:=l2.step J2 qp.1 (λb o hb hn=>#[o.slots,k5 b o hb hn]);show hh pi σ H1 H' _ _ B2 ea Cc a0 J2 l5 qp hE
end
def Xd{t:TE}(he:PE X e t):PE X (.FormattedValue e (-1) none pos) (λσ H Q=>t σ H λx H1=>(∃i,x=.int i/\i.natAbs.log2<1920/\Q (.str (toString i)) H1)\/∃y,x=.str y/\-y<=sizeLine/\Q (.str y) H1):=by
 intro pi s σ H Q I h;show wpAny_FormattedValue_plain (cF (he pi s σ H _ I h) λv s1 bf=>?_);let#[x,H1,I1,r1,q1]:=bf;rcases q1 with⟨i,rfl,hd,q⟩|⟨y,rfl,hy,q⟩
 .let#[t,rfl]:=r1;show wpAny_formatField_int hd #[.str _,H1,I1.tok _,#[_,rfl],q]
 .let#[t,rfl]:=r1;show wpAny_formatField_str #[.str _,H1,I1,#[_,rfl],q] #[.str _,H1,I1.tok _,#[_,rfl],q] hy
inductive uX(X:Cx):@&Expr->@&TE->Prop
 |nil:uX X [] []
 |cons {e:Expr} {t:TE} {es:@&Expr} {ts:@&TE} (h:PE X e t) (r:uX X es ts):uX X (e::es) (t::ts)
abbrev AR:@&TE->St->Hp->Str->(Str->Hp->Prop)->Prop
 |[],_,H,acc,Q=>Q acc H
 |t::ts,σ,H,acc,Q=>t σ H λx H1=>∃y,x=.str y/\(acc++y).length<=sizeLine/\AR ts σ H1 (acc++y) Q
def MV{pi:@&(Addr×Obj)}{σ:St}{Q:Str->Hp->Prop}:∀{es:@&Expr} {ts:@&TE},uX X es ts->∀{s:Shared} {H:Hp} {acc:Str},Inv X pi σ H s->AR ts σ H acc Q ->
  Joins (model X.prog X.w) X.A X.xe (evalEach es X.env) acc (λout s1=>∃H1,Inv X pi σ H1 s1/\Q out H1) s
 |_,_,.nil,s,H,acc,I,h=>#[H,I,h]
 |_,_,.cons he r,s,H,acc,I,h=>by
  show cF (he pi s σ H _ I h) λv s1 bf=>?_;let#[x,H1,I1,r1,y,ey,hy,q1]:=bf;subst ey;let#[t,rfl]:=r1;show#[y,t,rfl,hy,MV r I1 q1]
def Ks{M:Model}{A:Around}{E:Value->Shared->Prop}{Q Q':Str->Shared->Prop}(hq:∀x s,Q x s->Q' x s):∀{l:@&(Sem Value)} {acc:Str} {s:Shared},Joins M A E l acc Q s->Joins M A E l acc Q' s
 |[],acc,s,h=>hq _ _ h
 |x::r,acc,s,h=>cF h (by rintro v s1 ⟨y,t,e,hz,h1⟩;show #[y,t,e,hz,Ks hq h1])
def Sy{lN lM:Expr}{rest:@&Expr}{ts:@&TE}(h:uX X (lN::lM::rest) ts):PE X (.JoinedStr (lN::lM::rest) pos) (λσ H Q=>AR ts σ H Str.empty λout H1=>-out<=sizeLine/\Q (.str out) H1):=by
 intro pi s σ H Q I hw;show wpAny_JoinedStr (Ks (by rintro x s1 ⟨H1,I1,hl,q⟩;show #[hl,.str x,H1,I1.tok _,#[_,rfl],q]) (MV h I hw))
def aW2{lo:Int}{acc:Array Value}{n:Nat}(h:ItemsOf (λi v=>∃t,v=.int (lo+i*1) t) acc n):Vals ((List.range n).map λ(k:Nat)=>V.int (lo+k)) acc.toList:=by
 let hl:-acc.toList=n:=by
  have:=h.1;omega
 let go:∀(m:Nat) (l:@&Value),(-l)<=n->m+-l=n->(∀i v,l[i]?=!v->∃t,v=Value.int (lo+((m+i:Nat):Int)) t)->Vals ((List.range' m (-l)).map λ(k:Nat)=>V.int (lo+k)) l:=by
  intro m l
  induction l generalizing m with
  |nil=>intro _ _ _;show .nil
  |cons x r ih =>
   intro h1 h2 h3;show .cons ?_ (ih (m+1) (by simp at h1;omega) (by simp at h2;omega) λi v hv=>?_)
   .let#[t,e]:=h3 0 x rfl;show#[t,by rw[e];simp]
   .let#[t,e]:=h3 (i+1) v (_/hv)
    grind
 have:=go 0 acc.toList () () λi v hv=>?_
 .rw[hl,<- List.range_eq_range'] at this;show this
 .have:acc[i]?=!v:=by rw[<- iQ];show hv
  let#[t,e]:=h.2 i v this;show#[t,?_];rw[e];simp
def Lj(hc:X.calm=true):j7 X (.type "list") (λxs H Q=>∃a lo hi,xs=[.ref a]/\H a=!.my lo hi/\(-(2 ^ 62)<=lo/\lo<2 ^ 62/\-(2 ^ 62)<=hi/\hi<2 ^ 62/\hi-lo<=100000)/\∀p,H p=none->Q (.ref p) (upd H p (.lst ((List.range (hi-lo).toNat).map λ(k:Nat)=>V.int (lo+k))))):=by
 intro pi s σ H xs us Q I r h;let#[a,lo,hi,rfl,ha,#[h1,h2,h3,h4,h5],q]:=h;let#[t,u,v,ho]:=I.bw a _ ha;cases r with
 |cons r rr =>
 cases rr;cases r;let hn:Builtin.Range.rangeSize lo hi 1=((hi-lo).toNat:Nat):=by rw[rangeSize_one];split<;>omega
 show call_list_range (I.ok.hd hc) ho (small_one h1 h2 h3 h4) hn () λh' jL acc c hk hS kQ=>?_;let hp:=I.bw.fresh (ak _);show#[.ref _,_,I.laid (o:=.lst ((List.range (hi-lo).toNat).map λ(k:Nat)=>V.int (lo+k))) (t':=jL) hk (ak _) #[?_,acc.toList,c,aW2 kQ,by simpa using hS],rfl,q _ hp];rw[aj,kI];have:(hi-lo).toNat<=100000:=by omega
 show aF this ∅
def a33{a:Expr}{ta:TA}{p:Pos}(hg:Gl X "range")(hm:X.mg "range"=none)(ha:PA X [a] ta)(hs:starEach [a] X.env=[(false,eval a X.env)]):PE X (.Call (.Name "range" p) [a] [] pos) (λσ H Q=>ta σ H λvs H1=>∃j:Int,vs=[.int j]/\∀q,H1 q=none->Q (.ref q) (upd H1 q (.my 0 j))):=by
 intro pi s σ H Q I h;show cK (S7 I hg hm boot_range (cj (cF (ha pos pi s σ H _ I h) λus s1 bf=>?_) hs rfl));let#[vs,H1,I1,r1,q1]:=bf;let#[j,e,q]:=q1;subst e;cases r1 with
 |cons r rr =>
  cases rr;let#[t,rfl]:=r;show call_range_1 #[.ref s1⁻¹,_,I1.laid (o:=.my 0 j) (λb o e=>ah _ e) (ak _) #[_,_,_,au _ rfl],rfl,q _ (I1.bw.fresh (ak _))]
def a32{a b:Expr}{ta:TA}{p:Pos}(hg:Gl X "range")(hm:X.mg "range"=none)(ha:PA X [a,b] ta)(hs:starEach [a,b] X.env=[(false,eval a X.env),(false,eval b X.env)])(iU:starEach [b] X.env=[(false,eval b X.env)]):PE X (.Call (.Name "range" p) [a,b] [] pos) (λσ H Q=>ta σ H λvs H1=>∃i j:Int,vs=[.int i,.int j]/\∀q,H1 q=none->Q (.ref q) (upd H1 q (.my i j))):=by
 intro pi s σ H Q I h;show cK (S7 I hg hm boot_range (cj (cF (ha pos pi s σ H _ I h) λus s1 bf=>?_) (by rw[hs,iU]) (by rw[iU];rfl)));let#[vs,H1,I1,r1,q1]:=bf;let#[i,j,e,q]:=q1;subst e;cases r1 with
 |cons r rr =>
  cases rr with
  |cons r' rr =>
   cases rr;let#[t,rfl]:=r;let#[t',rfl]:=r';show call_range_2 #[.ref s1⁻¹,_,I1.laid (o:=.my i j) (λb o e=>ah _ e) (ak _) #[_,_,_,au _ rfl],rfl,q _ (I1.bw.fresh (ak _))]
abbrev xQ(K:PySem.W.Frag)(P:Params)(a:Addr)(kvs:@&(Str×V)):Prop :=
 ∃es n,K.lookup a=!#[.type "dict",none,.dict es n,(List.toArray [])]/\PySem.W.KeysLit P es.toList/\(a==sysModules)=false/\∀x,E0 (kvs.lookup x) (findBy Value.isStrOf es x)
def NW{kvs:@&(Str×V)}(neg:Bool):fc X (compareOp (if neg then .NotIn else .In)) (λx y H Q=>∃a z,y=.ref a/\xQ X.K X.w.params a kvs/\x=.str z/\Q (.bl (xor neg (kvs.lookup z).isSome)) H):=by
 intro pi s σ H x y v u Q I rx ry h;let#[a,z,rfl,#[es,n,hl,hk,lo,hf],rfl,q]:=h;let#[t,rfl]:=rx;cases ry;let hm:=PySem.W.mapOf_K (prog:=X.prog) I.fU hl hk;let e:=hf z;let ee:(findBy Value.isStrOf es z).isSome=(kvs.lookup z).isSome:=by
  cases h1:kvs.lookup z<;>cases h2:findBy Value.isStrOf es z<;>rw[h1,h2] at e<;>first|rfl|show e.elim
 cases neg
 .exact wpAny_in_of (strKind_is X.prog X.w z t) lo hm #[.bl _,H,I.tok _,by rw[ee];rfl,by simpa using q]
 .exact wpAny_notIn_of (strKind_is X.prog X.w z t) lo hm #[.bl _,H,I.tok _,by rw[ee];rfl,by simpa using q]
def WA{kvs:@&(Str×V)}:uZ X (λx y H Q=>∃a z v,x=.ref a/\xQ X.K X.w.params a kvs/\y=.str z/\kvs.lookup z=!v/\Q v H):=by
 intro value slice pi s σ H x y v u Q I rx ry h hs;let#[a,z,d,rfl,#[es,n,hl,hk,lo,hf],rfl,hz,q]:=h;cases rx;let#[t,rfl]:=ry;let hm:=PySem.W.mapOf_K (prog:=X.prog) I.fU hl hk;let e:=hf z;rw[hz] at e;cases h2:findBy Value.isStrOf es z with
 |none=>rw[h2] at e;show e.elim
 |some r =>
  rw[h2] at e;show tail_any hm.typeIs slot_dict_getitem.lookup (wpAny_getItem_of (strKind_is X.prog X.w z t) hm h2 #[d,H,I.tok _,e,q]) hs
def RS(hu:X.A.units+1<cLine):uZ X (λx y H Q=>∃a v,x=.ref a/\oz H a y (!v)/\Q v H):=by
 intro value slice pi s σ H x y v u Q I rx ry h hs;let#[a,d,rfl,g,q]:=h;cases rx;show tail_any (aL7 I g) slot_dict_getitem.lookup (a90 hu I g ry λw' s3 I3 fk=>#[d,H,I3,fk,q]) hs
end L2
namespace ST
open PySem PyProof.Rows
variable{xs:Array Nat}{i k j n ep:Nat}{t:SetTable}{h h':Heap}{L:Bool}{es:Array (Int×Value)}{x f:Value}{prog:Program}{w:World}{a I b l:Addr}{ks ns:@&Int}{A:Around}{E Q:Value->Shared->Prop}{s:Shared}{pl:@&Nat}{α:Type}{r:Rd}{items:Array Value}
noncomputable abbrev kF(xs:Array Nat):Prop:=xs.toList.Pairwise (· < ·)
def kF.lt(h:kF xs)(wI:i<k)(hk:k<xs.size):xs.getD i 0<xs.getD k 0:=by
 have:=List.pairwise_iff_getElem.mp h i k (_/cI wI hk) (_/hk) wI;rw[<- fh (h:=cI wI hk),<- fh (h:=hk)];show this
def kF.le(h:kF xs)(wI:i<=k)(hk:k<xs.size):xs.getD i 0<=xs.getD k 0:=by
 rcases Nat.eq_or_lt_of_le wI with e|e
 .rw[e];show ak _
 .exact dZ (h.lt e hk)
def DP{xs:Array Nat}{j:Nat}(h:kF xs):∀(fuel lo hi:Nat),hi-lo<=fuel->lo<=hi->hi<=xs.size->(∀i,i<lo->xs.getD i 0<j)->(∀i,hi<=i->i<xs.size->j<=xs.getD i 0) ->
  SetTable.below.go xs j fuel lo hi<=xs.size/\(∀i,i<SetTable.below.go xs j fuel lo hi->xs.getD i 0<j)/\∀i,SetTable.below.go xs j fuel lo hi<=i->i<xs.size->j<=xs.getD i 0
 |0,lo,hi,h1,h2,h3,h4,h5=>by
  have:lo=hi:=by omega
  subst this;show#[h3,h4,h5]
 |fuel+1,lo,hi,h1,h2,h3,h4,h5=>by
  unfold SetTable.below.go;split
  .let hm:(lo+hi) / 2<xs.size:=by omega
   let em:xs.getD ((lo+hi) / 2) j=xs.getD ((lo+hi) / 2) 0:=by simp[Array.getD,hm]
   dsimp only;rw[em];by_cases hc:xs.getD ((lo+hi) / 2) 0<j
   .rw[av hc];show DP h fuel _ hi () () h3 (λi kQ=>jS (h.le () hm) hc) h5
   .rw[aw hc];show DP h fuel lo _ () () () h4 λi kQ hs=>aF (Nat.le_of_not_lt hc) (h.le kQ hs)
  .have:lo=hi:=by omega
   subst this;show#[h3,h4,h5]
def U9(j:Nat)(h:kF xs):SetTable.below xs j<=xs.size/\(∀i,i<SetTable.below xs j->xs.getD i 0<j)/\∀i,SetTable.below xs j<=i->i<xs.size->j<=xs.getD i 0 :=
 DP h _ 0 _ () () (ak _) (λi hi=>absurd hi (Nat.not_lt_zero _)) λi h1 h2=>absurd h2 ()
def below_at(h:kF xs)(hi:i<xs.size):SetTable.below xs (xs.getD i 0)=i:=by
 let#[h1,h2,h3]:=U9 (xs.getD i 0) h;rcases gE (SetTable.below xs (xs.getD i 0)) i with z|z|z
 .exact absurd (h3 _ (ak _) ()) (Nat.not_le_of_lt (h.lt z hi))
 .exact z
 .exact absurd (h2 i z) (bP _)
def aY0(h:kF xs)(hi:i<xs.size):SetTable.below xs (xs.getD i 0+1)=i+1:=by
 let#[h1,h2,h3]:=U9 (xs.getD i 0+1) h;rcases gE (SetTable.below xs (xs.getD i 0+1)) (i+1) with z|z|z
 .have:=h3 i () hi;omega
 .exact z
 .have:=h2 (i+1) z;have:=h.lt (lI i) (k:=i+1) ();omega
def aX9(h:kF xs):SetTable.below xs 0=0:=by
 let#[_,h2,_]:=U9 0 h;rcases Nat.eq_zero_or_pos (SetTable.below xs 0) with z|z
 .exact z
 .exact absurd (h2 0 z) (Nat.not_lt_zero _)
def getD_mem(hi:i<xs.size):xs[i]?=!xs.getD i 0:=by simp[Array.getD,hi]
def aT7(h:kF t.place)(hs:t.slot j=.empty):j∉t.place.toList:=by
 intro hm;let#[i,hi,e]:=dX.mp hm;let kQ:i<t.place.size:=by simpa using hi
 let ej:t.place.getD i 0=j:=by rw[<- fh];simpa using e
 let hb:=below_at h kQ;rw[ej] at hb;unfold SetTable.slot at hs;dsimp only at hs;rw[hb,getD_mem kQ,ej] at hs;simp at hs
def aT9(h:kF xs)(hj:j∉xs.toList):kF (SetTable.insertAt xs (SetTable.below xs j) j):=by
 let#[h1,h2,h3]:=U9 j h;show(SetTable.insertAt xs (SetTable.below xs j) j).toList.Pairwise (· < ·);rw[SetTable.toList_insertAt,List.pairwise_append];let tk:∀a∈xs.toList.take (SetTable.below xs j),a<j:=λa ha=>by
  let#[i,hi,e]:=dX.mp ha;rw[cG] at hi;let hs:i<xs.size:=by omega
  have:=h2 i ()
  simp_all
 let dp:∀b∈xs.toList.drop (SetTable.below xs j),j<b:=λb hb=>by
  let#[i,hi,e]:=dX.mp hb;let hs:SetTable.below xs j+i<xs.size:=by grind
  have:=h3 (SetTable.below xs j+i) () hs;rw[<- fh (h:=hs)] at this;let fE:b≠j:=λz=>hj (by rw[<- z];show List.mem_of_mem_drop hb);simp at e;omega
 show#[h.take,Oz.mpr #[dp,h.drop],λa ha b hb=>?_];let oq:=tk a ha
 grind
def a21(n:Nat):kF (Array.range n):=by
 show(Array.range n).toList.Pairwise (· < ·);rw[Array.toList_range];show iu
structure Well(L:Bool)(t:SetTable):Prop where
 tL:kF t.place
 sH:t.dummies=(List.toArray [])
 led:t.led=L
set_option tactic.hygienic true in
def UJ(hd:t.dummies=(List.toArray []))(j:Nat):t.slot j≠.dummy:=by
 unfold SetTable.slot;dsimp only;split
 .simp
 .rw[hd];split
  .rename_i z;simp[SetTable.has] at z
  simp
set_option tactic.hygienic true in
def KZ{t:SetTable}(hd:t.dummies=(List.toArray [])){hashAt:Nat->Int}{h:Int}:∀(fuel:Nat) (p:SetTable.Probe) {j:Nat} {dm:Option Nat},p.dummy=none->SetTable.probe.go t hashAt h fuel p=!.empty j dm->t.slot j=.empty/\dm=none
 |0,p,j,dm,_,e=>by simp[SetTable.probe.go] at e
 |fuel+1,p,j,dm,hp,e=>by
  unfold SetTable.probe.go at e;let ad:∀q:SetTable.Probe,q.dummy=none->(t.advance q).dummy=none:=λq hq=>by
   unfold SetTable.advance;split
   .exact hq
   .exact hq
  split at e
  .simp_all
  .rename_i hs;show absurd hs (UJ hd _)
  .split at e
   .cases e
   .exact KZ hd fuel _ (ad p hp) e
set_option tactic.hygienic true in
def a83(hd:t.dummies=(List.toArray [])){h:Int}{wd:Bool}(e:t.freeSlot h=!(j,wd)):t.slot j=.empty/\wd=false:=by
 unfold SetTable.freeSlot at e;split at e
 .rename_i j' dm hp;let#[h1,h2]:=KZ hd _ _ rfl hp;subst h2;cases e;show#[h1,rfl]
 .cases e
def O2(h:Well L t)(n:Nat):Well L (t.standIn n):=#[a21 n,rfl,h.led]
set_option tactic.hygienic true in
def aL2{h:Int}(hw:Well L t):Well L (layNew t es h x).2.1/\(layNew t es h x).2.2.1=false:=by
 unfold layNew;split
 .rename_i slot wd e;let#[h1,h2]:=a83 hw.sH e;show#[?_,h2];let hd:SetTable.has t.dummies slot=false:=by rw[hw.sH];rfl
  let w2:Well L (t.put slot).1:=#[aT9 hw.tL (aT7 hw.tL h1),by simp only[SetTable.put,hd];show hw.sH,hw.led]
  dsimp only;unfold SetTable.orStandIn;split
  .exact w2
  .exact O2 w2 _
 .exact#[O2 hw _,rfl]
def Kd{mask finger moves:Nat}{led plain:Bool}{hashes:Array Int}{o:Array Nat}(hl:led=L)(e:SetTable.laid mask finger moves led plain hashes=!(t,o)):Well L t:=by
 unfold SetTable.laid at e;cases ho:SetTable.layClean mask hashes with
 |none=>rw[ho] at e;cases e
 |some owner =>
  rw[ho] at e;simp only[Option.bind_eq_bind,Option.bind_some,Option.pure_def,Option.some.injEq,Prod.mk.injEq] at e;let#[rfl,_]:=e;show#[?_,rfl,hl];show(List.map _ _).toArray.toList.Pairwise (· < ·);rw[Gi];let sub:((List.range (mask+1)).filterMap λj=>(owner.getD j none).map (j,·)).map (·.1) |>.Sublist (List.range (mask+1)):=by
   generalize List.range (mask+1)=l
   induction l with
   |nil=>simp
   |cons a r ih =>
    rw[dB];cases owner.getD a none with
    |none=>show ih.cons a
    |some k=>show ih.cons_cons a
  show List.Pairwise.sublist sub iu
set_option tactic.hygienic true in
def aA0(hw:Well L t):Well L (relayAll t es n).2.1:=by
 unfold relayAll;split
 .rename_i t' order e;dsimp only;split
  .exact Kd hw.led e
  .exact O2 hw _
 .exact O2 hw _
abbrev toI:Value->Int
 |.int k _=>k
 |_=>0
def Led(w:World):Bool:= ~~~(w.params.followText "set-order")
abbrev j9(prog:Program)(w:World)(h:Heap)(a:Addr)(ks:@&Int):Prop :=
 ∃o es ep t,h.get? a=!o/\o.ExactSet/\o.data=.set es ep t/\ElemsOf (intKind prog w) es.toList/\(es.toList.map λe=>toI e.2).Perm ks/\ks.Nodup/\es.size<scanBound/\t.fits es.size=true/\Well (Led w) t
def j9.at(x:j9 prog w h a ks)(k:∀o,h.get? a=!o->h'.get? a=!o):j9 prog w h' a ks:=by
 let#[o,es,ep,t,e,r]:=x;show#[o,es,ep,t,k o e,r]
def yk{e:Int×Value}{es:@&(Int×Value)}(h:ElemsOf (intKind prog w) es)(he:e∈es):∃tk,e.2=.int (toI e.2) tk/\e.1=(intKind prog w).hash (toI e.2):=by
 let#[#[k,h1,h2],_]:=h e he;let#[t,ht]:=Value.isInt_shape h1;show#[t,by rw[ht];rfl,?_];rw[h2,ht]
 rfl
def Nz{e:Int×Value}{es:@&(Int×Value)}(h:ElemsOf (intKind prog w) es)(he:e∈es)(k:Int):(intKind prog w).is k e.2=decide (toI e.2=k):=by
 let#[t,ht,_]:=yk h he;rw[ht]
 rfl
def j9.mem{a:Addr}{es:@&(Int×Value)}(h:ElemsOf (intKind prog w) es)(hp:(es.map λe=>toI e.2).Perm ks)(k:Int):(es.findIdx? λe=>(intKind prog w).is k e.2).isSome=decide (k∈ks):=by
 rw[cB,bj,<- hp.mem_iff,aP,dg];constructor
 .rintro⟨i,hi⟩;let#[h1,h2,_]:=kB.mp hi;let hm:=eB h1;rw[Nz h hm] at h2;show#[_,hm,bC h2]
 .rintro⟨e,he,rfl⟩;cases hf:es.findIdx? λe'=>(intKind prog w).is (toI e.2) e'.2 with
  |some i=>show#[i,rfl]
  |none =>
   have:=List.findIdx?_eq_none_iff.mp hf e he;rw[Nz h he] at this;simp at this
abbrev G8(ks:@&Int)(k:Int):@&Int:=if k∈ks then ks else ks++[k]
def MI(ks:@&Int)(k:Int):(G8 ks k).length<=-ks+1:=by unfold G8;split<;>simp
def HQ{k:Int}{tk:Tok}{Q:Bool->Shared->Prop}(hS:j9 prog w s.heap a ks)(hr:-ks+1<scanBound)(h:∀h' b,Heap.SameBut a s.heap h'->j9 prog w h' a (G8 ks k)->Q b { s with heap:=h' }):wpAny (model prog w) A (setAddHashed a (.int k tk) ((intKind prog w).hash k)) Q E s:=by
 let#[o,es,ep,t,ho,hx,hd,iD,hp,hn,hb,hf,hw]:=hS;let hlen:es.size=-ks:=by rw[<- hp.length_eq];simp
 let pz:(intKind prog w).is k (.int k tk)=true:=AW _ _ _ _;let gv:∀(b:Bool) (s1:Shared) (Q':Unit->Shared->Prop),Q' Unit.unit s1->wpAny (model prog w) A (match b with|true=>rule "set.scan.the-table-gave-way"|false=>pure Unit.unit) Q' E s1:=λb s1 Q' q=>by
  cases b
  .exact ai q
  .exact dH q
 show aY (aa (aT ho hd hf ?_));dsimp only;rw[byScan_of rfl hb iD,av rfl];show aa (aa (dH (aa (wpAny_setScan_of pz ho hd hf iD ?_))));let hm:=j9.mem (a:=a) iD hp k;cases wu:es.toList.findIdx? (λe=>(intKind prog w).is k e.2) with
 |some j =>
  let hk:k∈ks:=by simp_all
  show ai (ai ?_);show h s.heap _ (iJ a s.heap) ?_;unfold G8;rw[av hk];show#[o,es,ep,t,ho,hx,hd,iD,hp,hn,hb,hf,hw]
 |none =>
  rw[wu] at hm;let hk:k∉ks:=by simpa using hm.symm
  let p1:=layNew_perm t es ((intKind prog w).hash k) (.int k tk);let f1:=layNew_fits t es ((intKind prog w).hash k) (.int k tk);let#[w1,Gu]:=aL2 hw;generalize layNew t es ((intKind prog w).hash k) (.int k tk)=R1 at p1 f1 w1 Gu ⊢;let#[gT,t1,wd,Rv]:=R1;subst Gu;rw[Array.toList_push] at p1;let HH:=(iD.push pz rfl).perm p1;let sz1:gT.size=es.size+1:=by rw[<- bS,p1.length_eq];simp
  let k1:(gT.toList.map λe=>toI e.2).Perm (G8 ks k):=by
   unfold G8;rw[aw hk];show(p1.map _).trans ?_;rw[ay];show hp.append_right _
  let n1:(G8 ks k).Nodup:=by
   unfold G8;rw[aw hk,da];show#[hn,by simp,λx hx y hy=>by grind]
  show aa (gv _ _ _ ?_);let fin:∀ (t2:SetTable),t2.fits gT.size=true->Well (Led w) t2->wpAny (model prog w) A (do
    storeSet a gT t2
    if(~~~false&&t2.tooFull)=true then do
      (match(relayAll t2 gT (SetTable.grown gT.size)).2.2 with|true=>rule "set.scan.the-table-gave-way"|false=>pure Unit.unit)
      storeSet a (relayAll t2 gT (SetTable.grown gT.size)).1 (relayAll t2 gT (SetTable.grown gT.size)).2.1
      pure (!true)
     else pure (!true)) (λr s'=>wpAny (model prog w) A (match r with | some added=>pure added | none=>setAddHashedIn a (.int k tk) ((intKind prog w).hash k) 99999) Q E s') E s:=λt2 f2 w2=>by
   let g1:(s.heap.update a (Obj.putSet gT t2)).get? a=some { o with data:=.set gT (ep+1) t2 }:=by
    have:=aR (Obj.putSet gT t2) ho (by rw[putSet_of gT t2 hd];rfl);rw[putSet_of gT t2 hd] at this;show this
   show aa (eE ho hd ?_ (eF ()));let vF:=aS s.heap a (Obj.putSet gT t2);split
   .let p2:=relayAll_perm t2 gT (SetTable.grown gT.size);let f3:=relayAll_fits t2 gT (SetTable.grown gT.size);let w3:=aA0 (es:=gT) (n:=SetTable.grown gT.size) w2;generalize relayAll t2 gT (SetTable.grown gT.size)=R2 at p2 f3 w3 ⊢;let#[xE,t3,gv2]:=R2;dsimp only at p2 f3 w3 ⊢;let sz2:xE.size=gT.size:=by rw[<- bS,p2.length_eq,bS]
    show aa (gv _ _ _ ?_);show aa (eE g1 rfl ?_ (eF ()));show ai (ai (h _ _ (vF.trans (aS _ a _)) ?_));let g2:((s.heap.update a (Obj.putSet gT t2)).update a (Obj.putSet xE t3)).get? a=some { o with data:=.set xE (ep+1+1) t3 }:=by
     have:=aR (Obj.putSet xE t3) g1 (by rfl);show this
    show#[_,xE,_,t3,g2,hx,rfl,HH.perm p2,(p2.map _).trans k1,n1,by omega,f3,w3]
   .exact ai (ai (h _ _ vF #[_,gT,_,t2,g1,hx,rfl,HH,k1,n1,by omega,f1 |> λz=>f2,w2]))
  split
  .refine aa (cM (hashByValue_scannable 8 rfl) ?_);show fin _ f1 w1
  .refine aa (ai ?_);show fin _ f1 w1
def aI3:entryFor table "set.__iter__"=some Builtin.«frozenset.__iter__» :=
 AX (id':="frozenset.__iter__") (by kernel_rfl) rfl #[] (by kernel_rfl)
def C7:Slot "set_iterator" "__next__" "set_iterator.__next__" :=
 .of (owner:="set_iterator") (n:="__next__") (by rw[typeLookup_type,builtinLookup_eq_fast];kernel_rfl) #[] #[] #[]
  (by first|show .inl #[]|show .inr #[]) (by rw[fm];kernel_rfl)
def KS:entryFor table "set_iterator.__next__"=some Builtin.«set_iterator.__next__»:=entryFor_of_tree (by kernel_rfl)
def Lc(a:Value):argsOk "set_iterator.__next__" #[[a],[]]:=by
 unfold argsOk
 kernel_rfl
def Lh:Slot "set_iterator" "__iter__" "set_iterator.__iter__" :=
 .of (owner:="set_iterator") (n:="__iter__") (by rw[typeLookup_type,builtinLookup_eq_fast];kernel_rfl) #[] #[] #[]
  (by first|show .inl #[]|show .inr #[]) (by rw[fm];kernel_rfl)
def aL6:entryFor table "set_iterator.__iter__"=some Builtin.«dict_keyiterator.__iter__» :=
 AX (id':="dict_keyiterator.__iter__") (by kernel_rfl) rfl #[] (by kernel_rfl)
def aK1(a:Value):argsOk "set_iterator.__iter__" #[[a],[]]:=by
 unfold argsOk
 kernel_rfl
inductive Rd|text|plain|drawn
structure Lies(h:Heap)(a:Addr)(es:Array (Int×Value))(ep:Nat)(t:SetTable):Prop where
 at_:∃o,h.get? a=!o/\o.cls=.type "set"/\o.data=.set es ep t
 fit:t.fits es.size=true
def Lies.at(x:Lies h a es ep t)(k:∀o,h.get? a=!o->h'.get? a=!o):Lies h' a es ep t :=
 #[let ⟨o,e,r⟩:=x.at_;#[o,k o e,r],x.fit]
def E2(h:Heap)(I a:Addr)(f:Value)(i n ep:Nat):Prop:=∃o,h.get? I=!o/\o.cls=.type "set_iterator"/\o.data=.fields (List.toArray [f,rawInt i,.ref a,rawInt n,rawInt ep])
def E2.at(x:E2 h I a f i n ep)(k:∀o,h.get? I=!o->h'.get? I=!o):E2 h' I a f i n ep:=let ⟨o,e,r⟩:=x;#[o,k o e,r]
def E2.ty(x:E2 s.heap I a f i n ep):s.TypeIs (.ref I) "set_iterator":=let ⟨o,e,c,_⟩:=x;#[o,e,c]
abbrev xX(w:World)(a:Addr)(es:Array (Int×Value))(ep:Nat)(pl:@&Nat):Rd->@&Value
 |.text=>(pickOrder (w.params.setOrder a ep) es).toList.map (·.2)
 |.plain=>es.toList.map (·.2)
 |.drawn=>pl.map λj=>(es.getD j (0,.none)).2
abbrev slotAt(t:SetTable):Nat->Nat
 |0=>0
 |i+1=>t.place.getD i 0+1
abbrev Q5(h:Heap)(t:SetTable)(b:Addr)(pl:@&Nat)(i:Nat)(f:Value):Rd->Prop
 |.text=>∃k:Nat,f=rawInt k
 |.plain=>f=rawInt (slotAt t i)
 |.drawn=>f=.ref b/\∃o e,h.get? b=!o/\o.cls=.type "tuple"/\o.data=.seq (pl.map λj=>rawInt (j:Nat)).toArray e
abbrev uw(w:World)(es:Array (Int×Value))(t:SetTable)(pl:@&Nat):Rd->Prop
 |.text=>w.params.followText "set-order"=true
 |.plain=>w.params.followText "set-order"=false/\(t.plain=true\/es.size<=1)/\Well true t
 |.drawn=>w.params.followText "set-order"=false/\pl.Perm (List.range es.size)
def X7{Q:Bool->Shared->Prop}(h:Q (w.params.followText "set-order") s):wpAny (model prog w) A setsByText Q E s:=by
 show aa (qR (ai h))
def Kh(hL:Lies s.heap a es ep t)(ht:w.params.followText "set-order"=true){sl g:Nat}{Q:Option (Value×Nat)->Shared->Prop}(h:Q (((pickOrder (w.params.setOrder a ep) es)[g]?).map λe=>(e.2,sl)) s) :
  wpAny (model prog w) A (setNext a sl g ep) Q E s:=by
 let#[o,ho,_,hd]:=hL.at_;show aa (aT ho hd hL.fit ?_);show aa (X7 ?_);rw[ht,av rfl,aw #[_]];show aa (aa (aT ho hd hL.fit ?_));show aa (X7 ?_);rw[ht,av rfl];show aa (qR (ai (ai h)))
def KG(hL:Lies s.heap a es ep t)(ht:w.params.followText "set-order"=false)(hp:t.plain=true\/es.size<=1)(hl:t.led=true){sl g:Nat}{Q:Option (Value×Nat)->Shared->Prop}(h:Q (match es[SetTable.below t.place sl]?,t.place[SetTable.below t.place sl]? with|some (_,x),!j=>!(x,j+1)|_,_=>none) s):wpAny (model prog w) A (setNext a sl g ep) Q E s:=by
 let#[o,ho,_,hd]:=hL.at_;show aa (aT ho hd hL.fit ?_);show aa (X7 ?_);rw[ht,aw ∅];change wpAny _ _ (if(~~~t.plain&&decide (es.size>1))=true then _ else _) _ _ _;rw[aw (by rcases hp with e|e<;>simp[e])];show aa (cM (a:=Unit.unit) ?_ (ai h));show((if(~~~t.led&&~~~es.isEmpty)=true then unsupported "set:maker-not-led" else pure Unit.unit):Sem Unit)=pure Unit.unit;rw[hl]
 rfl
def aU7(hL:Lies s.heap a es ep t)(hj:j<es.size)(h:Q (es.getD j (0,.none)).2 s):wpAny (model prog w) A (setNextDrawn a j ep) Q E s:=by
 let#[o,ho,_,hd]:=hL.at_;show aa (aT ho hd hL.fit ?_);dsimp only;rw[aw #[_]];let e:es[j]?=!es.getD j (0,.none):=by simp_all
 rw[e];show ai h
def Nt(hL:Lies s.heap a es ep t):t.place.size=es.size:=by
 have:=hL.fit;unfold SetTable.fits at this;simp at this;show this.1
def Ku(hw:kF t.place)(hi:i<=t.place.size):SetTable.below t.place (slotAt t i)=i:=by
 cases i with
 |zero=>show aX9 hw
 |succ i=>show aY0 hw ()
def entries{Q:Array (Int×Value)->Shared->Prop}(hL:Lies s.heap a es ep t)(h:Q es s):wpAny (model prog w) A (setEntries a) Q E s:=by
 let#[o,ho,_,hd]:=hL.at_;show aa (aT ho hd hL.fit (ai h))
def b50{f':Value}(hi:E2 h I a f i n ep)(hx:x=rawInt ((i:Int)+1)):E2 ((h.update I (Obj.mapFields (·.setIfInBounds 0 f'))).update I (Obj.mapFields (·.setIfInBounds 1 x))) I a f' (i+1) n ep:=by
 let#[o,ho,hc,hd]:=hi;let h1:=aR (Obj.mapFields (·.setIfInBounds 0 f')) ho (cg (aZ hd _));let d1:(Obj.mapFields (·.setIfInBounds 0 f') o).data=.fields (List.toArray [f',rawInt i,.ref a,rawInt n,rawInt ep]):=by rw[aZ hd];simp
 let h2:=aR (Obj.mapFields (·.setIfInBounds 1 x)) h1 (cg (aZ d1 _));show#[_,h2,(iF ..).trans ((iF ..).trans hc),?_];rw[aZ d1]
 simp_all
def b52(hi:E2 h I a f i n ep)(hx:x=rawInt ((i:Int)+1)):E2 (h.update I (Obj.mapFields (·.setIfInBounds 1 x))) I a f (i+1) n ep:=by
 let#[o,ho,hc,hd]:=hi;let h2:=aR (Obj.mapFields (·.setIfInBounds 1 x)) ho (cg (aZ hd _));show#[_,h2,(iF ..).trans hc,?_];rw[aZ hd];subst hx;simp[rawInt]
def JG{f':Value}{m:Sem α}{Q':α->Shared->Prop}(hi:E2 s.heap I a f i n ep)(hx:x=rawInt ((i:Int)+1))(h:∀h',E2 h' I a f' (i+1) n ep->Heap.SameBut I s.heap h'->wpAny (model prog w) A m Q' E { s with heap:=h' }) :
  wpAny (model prog w) A (do setField (.ref I) 0 f';setField (.ref I) 1 x;m) Q' E s:=by
 let#[o,ho,hc,hd]:=id hi;show aa (cD ho hd #[_] ?_);let h1:=aR (Obj.mapFields (·.setIfInBounds 0 f')) ho (cg (aZ hd _));let d1:(Obj.mapFields (·.setIfInBounds 0 f') o).data=.fields (List.toArray [f',rawInt i,.ref a,rawInt n,rawInt ep]):=by rw[aZ hd];simp
 show aa (cD h1 d1 #[_] ?_);show h _ (b50 hi hx) ((aS ..).trans (aS ..))
def b15{m:Sem α}{Q':α->Shared->Prop}(hi:E2 s.heap I a f i n ep)(hx:x=rawInt ((i:Int)+1))(h:∀h',E2 h' I a f (i+1) n ep->Heap.SameBut I s.heap h'->wpAny (model prog w) A m Q' E { s with heap:=h' }) :
  wpAny (model prog w) A (do setField (.ref I) 1 x;m) Q' E s:=by
 let#[o,ho,hc,hd]:=id hi;show aa (cD ho hd #[_] ?_);show h _ (b52 hi hx) (aS ..)
def Ao(next:Nat->Nat)(xs:Array α):(pickOrder next xs).toList.Perm xs.toList:=by
 let go:∀(fuel k:Nat) (left:List α) (out:Array α),fuel=-left->(pickOrder.go next fuel k left out).toList.Perm (out.toList++left):=by
  intro fuel
  induction fuel with
  |zero =>
   intro k left out e;have:=ft e.symm;subst this;simp[pickOrder.go]
  |succ n ih =>
   intro k left out e;let dN:next k % (-left)< -left:=Nat.mod_lt _ ()
   unfold pickOrder.go;rw[aq dN];show(ih _ _ _ (by rw[oN dN];omega)).trans ?_;rw[Array.toList_push,gG];show List.Perm.append_left _ ?_;have:left.Perm (left[next k % (-left)]::left.eraseIdx (next k % (-left))):=by
    rw[kW]
    conv=>lhs;rw[<- iN (next k % (-left)) left,gA dN]
    show List.perm_middle
   show this.symm
 have:=go xs.size 0 xs.toList (List.toArray []) #[_];simpa[pickOrder] using this
def next_item{Q:Option Value->Shared->Prop}(hL:Lies s.heap a es ep t)(hr:uw w es t pl r)(hi:E2 s.heap I a f i es.size ep)(hf:Q5 s.heap t b pl i f r)(fE:b≠I)(dN:i<es.size)(h:∀v h' f',(xX w a es ep pl r)[i]?=!v->E2 h' I a f' (i+1) es.size ep->Q5 h' t b pl (i+1) f' r->Heap.SameBut I s.heap h'->Q (!v) { s with heap:=h' }):wpAny (model prog w) A (pyNext (.ref I)) Q E s:=by
 let#[o,ho,hc,hd]:=id hi;show aa (fS (bR hi.ty C7 (bu C7 hi.ty KS ?_ (Lc _))));show aa (ai ?_);show aa (wpAny_fieldsOf ho hd ?_);show aa (entries hL ?_);rw[aw #[_]];rw[cq,cq];cases r with
 |text =>
  let#[k,rfl]:=hf;show aa (Kh hL hr ?_);let hl:i<(pickOrder (w.params.setOrder a ep) es).size:=by
   have:=(Ao (w.params.setOrder a ep) es).length_eq
   simp_all
  rw[cX hl];show JG hi rfl λh' h1 h2=>ai #[_,rfl,ai (h _ _ _ ?_ h1 #[_,rfl] h2)];show((pickOrder (w.params.setOrder a ep) es).toList.map (·.2))[i]?=_;simp[hl]
 |plain =>
  let#[r1,r2,r3]:=hr;let hs:=Nt hL;obtain rfl:=hf;dsimp only[rawInt];rw[cq];show aa (KG hL r1 r2 r3.led ?_);rw[Ku r3.tL (),cX dN,getD_mem ()];show JG hi rfl λh' h1 h2=>ai #[_,rfl,ai (h _ _ _ ?_ h1 rfl h2)];show(es.toList.map (·.2))[i]?=_;simp[dN]
 |drawn =>
  let#[r1,r2]:=hr;let#[rfl,ob,e,hb,Hr,zo]:=hf;let gi:i< -pl:=by rw[r2.length_eq];simpa using dN
  show aa (cY hb zo ?_);let hj:pl[i]<es.size:=by
   have:=r2.mem_iff.mp (eB gi)
   simp_all
  let e1:(pl.map λj=>rawInt (j:Nat)).toArray[i]?=!rawInt (pl[i]:Nat):=by simp[gi]
  dsimp only;rw[e1];show aa (aU7 hL hj ?_);show b15 hi rfl λh' h1 h2=>ai #[_,rfl,ai (h _ _ _ ?_ h1 #[rfl,ob,e,by rw[h2.2 b fE];show hb,Hr,zo] h2)];show(pl.map λj=>(es.getD j (0,.none)).2)[i]?=_;simp[gi]
def Ek{Q:Option Value->Shared->Prop}{h0:Heap}(hh:A.handled=none)(Ro:Heap.ExtBut I h0 s.heap)(h:∀h',Heap.ExtBut I h0 h'->Q none { s with heap:=h' }) :
  wpAny (model prog w) A.in1 (newExc (.type "StopIteration") [] >>= λe=>(raiseNew e:Sem Fin)) (λfin s'=>∃v,fin=Fin.done (Flow.ret v)/\wpAny (model prog w) A (pure (!v)) Q E s')
   (λe s'=>wpAny (model prog w) A (do
     let x <- isInstance e (Value.type "StopIteration")
     if x=true then pure none else throw e) Q E s') s:=by
 show aa ?_;show aa (bJ ?_ (by size_fits));show aa (cM (a:=Value.none) (by rfl) ?_);show bJ ?_ (by size_fits);show aa (wpAny_handled ?_);rw[show A.in1.handled=none from hh];show aa (ai (tw ?_));show aa (cJ #[_,au _ rfl,rfl] isSubtype_stop ?_);show ai (h _ ((Ro.push _).push _))
def next_end{Q:Option Value->Shared->Prop}(hh:A.handled=none)(hL:Lies s.heap a es ep t)(hr:uw w es t pl r)(hi:E2 s.heap I a f es.size es.size ep)(hf:Q5 s.heap t b pl es.size f r)(fE:b≠I)(h:∀h',Heap.ExtBut I s.heap h'->Q none { s with heap:=h' }):wpAny (model prog w) A (pyNext (.ref I)) Q E s:=by
 let#[o,ho,hc,hd]:=id hi;show aa (fS (bR hi.ty C7 (bu C7 hi.ty KS ?_ (Lc _))));show aa (ai ?_);show aa (wpAny_fieldsOf ho hd ?_);show aa (entries hL ?_);rw[aw #[_]];rw[cq,cq];cases r with
 |text =>
  let#[k,rfl]:=hf;show aa (Kh hL hr ?_);let hl:(pickOrder (w.params.setOrder a ep) es).size<=es.size:=by
   have:=(Ao (w.params.setOrder a ep) es).length_eq
   grind
  rw[vi hl];show aa (cD ho hd #[_] ?_);show Ek hh (aS ..).extBut h
 |plain =>
  let#[r1,r2,r3]:=hr;let hs:=Nt hL;obtain rfl:=hf;dsimp only[rawInt];rw[cq];show aa (KG hL r1 r2 r3.led ?_);rw[Ku r3.tL (),vi (ak _)];show aa (cD ho hd #[_] ?_);show Ek hh (aS ..).extBut h
 |drawn =>
  let#[r1,r2]:=hr;let#[rfl,ob,e,hb,Hr,zo]:=hf;let gi:-pl=es.size:=by rw[r2.length_eq];simp
  show aa (cY hb zo ?_);let e1:(pl.map λj=>rawInt (j:Nat)).toArray[es.size]?=none:=by simp[gi]
  dsimp only;rw[e1];show aa (cD ho hd #[_] ?_);let h1:=aR (Obj.mapFields (·.setIfInBounds 0 (Value.int 0 0))) ho (cg (aZ hd _));show aa (cD h1 (aZ hd _) #[_] ?_);show Ek hh ((aS ..).trans (aS ..)).extBut h
def a30{l:List α}(dN:k< -l):(l[k]::l.eraseIdx k).Perm l:=by
 rw[kW]
 conv=>rhs;rw[<- iN k l,gA dN]
 show List.perm_middle.symm
def EJ{α:Type}:∀(n:Nat) (xs:List α) (s:Shared) (Q:List α->Shared->Prop),n=-xs->(∀ys d,ys.Perm xs->Q ys { s with drawn:=d })->wpAny (model prog w) A (drawOrder n xs) Q E s
 |0,xs,s,Q,e,h=>by
  have:=ft e.symm;subst this;show ai (h [] s.drawn (jc _))
 |n+1,[],s,Q,e,h=>by simp at e
 |n+1,x::xs,s,Q,e,h=>by
  show aa ?_;intro Γ p hΓ;show#[by simp,?_];generalize (model prog w).w.draws .order (s.drawn.get .order)=k;let dN:k % (x::xs).length<(x::xs).length:=Nat.mod_lt _ #[_];let go:wpAny (model prog w) A (match (x :: xs)[k % (x :: xs).length]? with
   |some y=>do
    let ys <- drawOrder n ((x::xs).eraseIdx (k % (x::xs).length))
    pure (y::ys)
   | none=>unsupported "internal:drawOrder") Q E { s with drawn:=s.drawn.bump .order }:=by
   rw[aq dN];show aa (EJ n _ _ _ (by rw[oN dN];omega) λys d hp=>ai ?_);show h _ d ((List.Perm.cons _ hp).trans (a30 dN))
  show go
def Nh(hr:uw w es t pl r):(xX w a es ep pl r).Perm (es.toList.map (·.2)):=by
 cases r with
 |text=>show(Ao _ es).map _
 |plain=>rfl
 |drawn =>
  show(hr.2.map _).trans ?_;have:(List.range es.size).map (λj=>(es.getD j (0,.none)).2)=es.toList.map (·.2):=by
   apply List.ext_getElem
   .simp
   simp_all
  rw[this]
def Lies.ty(hL:Lies s.heap a es ep t):s.TypeIs (.ref a) "set":=let ⟨o,e,c,_⟩:=hL.at_;#[o,e,c]
def Vu(hL:Lies s.heap a es ep t)(hw:Well (Led w) t)(hz:es.size<=10000)(h:∀r pl b f I h' d',uw w es t pl r->E2 h' I a f 0 es.size ep->Q5 h' t b pl 0 f r->b≠I->(b=a\/s⁻¹<=b)->(∀c o,s.heap.get? c=!o->h'.get? c=!o)->s⁻¹<=I->s⁻¹<=h'.objs.size->Q (.ref I) { s with heap:=h',drawn:=d' }) :
  wpAny (model prog w) A (pyIter (.ref a)) Q E s:=by
 let#[o,ho,BK,hd]:=hL.at_;show wpAny_pyIter_slot hL.ty F.slot_set_iter (bu F.slot_set_iter hL.ty aI3 ?_ (F.args_set_iter_1 _));show aa (ai ?_);show aa (aa (entries hL (ai ?_)));show aa (aa (aT ho hd hL.fit ?_));show aa (X7 (ai ?_));let dN:=ao ho;let fin:∀(r:Rd) (f:Value) (b:Addr) (pl:@&Nat) (h1:Heap) (d1:Drawn),uw w es t pl r->(∀h',(∀c o,h1.get? c=!o->h'.get? c=!o)->Q5 h' t b pl 0 f r)->b<h1.objs.size->(b=a\/s⁻¹<=b)->(∀c o,s.heap.get? c=!o->h1.get? c=!o)->s⁻¹<=h1.objs.size ->
   wpAny (model prog w) A.in1 (do
    let e <- setEpoch a
    ret (<- newFields "set_iterator" [f,rawInt 0,.ref a,rawInt es.size,rawInt e])) (λfin s'=>∃ v,fin=Fin.done (Flow.ret v)/\∃ T' r,s'.TypeIs v T'/\typeLookup (.type T') "__next__"=pure (!r)/\Q v s') E { s with heap:=h1,drawn:=d1 }:=λr f b pl h1 d1 hr hf hb QH he gC=>by
  let uh:=hL.at λo e=>he a o e;let#[o1,wy,_,QB]:=uh.at_;show aa (aa (aT wy QB uh.fit (ai ?_)));show aa (bJ (ai #[_,rfl,"set_iterator",_,#[_,au _ rfl,rfl],C7.lookup,?_]));show h r pl b f h1.objs.size _ d1 hr #[_,au _ rfl,rfl,rfl] (hf _ λc o e=>ah _ e) (aD hb) QH (λc o e=>ah _ (he c o e)) gC (by rw[size_push'];show Nat.le_succ_of_le gC)
 cases hT:w.params.followText "set-order" with
 |true =>
  show aa (ai ?_);show fin .text (rawInt 0) a [] s.heap s.drawn hT (λh' x=>#[0,rfl]) dN (.inl rfl) (λc o e=>e) (ak _)
 |false =>
  change wpAny _ _ (if(~~~false&&(~~~t.plain&&decide (es.size>1)))=true then _ else _ ) _ _ _;by_cases hp:t.plain=true\/es.size<=1
  .rw[aw (by rcases hp with e|e<;>simp[e])];show aa (ai ?_);show fin .plain (rawInt 0) a [] s.heap s.drawn #[hT,hp,?_] (λh' x=>rfl) dN (.inl rfl) (λc o e=>e) (ak _);have:Led w=true:=by unfold Led;rw[hT];rfl
   simp_all
  .rw[av (by grind)];show aa (EJ _ _ _ _ (kI).symm λys d hy=>?_);let hl:-ys=es.size:=by rw[hy.length_eq];simp
   show aa (bJ ?_ (by show(List.map _ ys).toArray.size<=sizeLine;rw[aK,aj,hl];show aF hz ∅));show fin .drawn (.ref s⁻¹) s⁻¹ ys _ d #[hT,hy] (λh' hk=>#[rfl,_,_,hk _ _ (au _ rfl),rfl,rfl]) #[_] (.inr (ak _)) (λc o e=>ah _ e) #[_]
def a13(hh:A.handled=none)(hr:uw w es t pl r)(fE:b≠I)(Qi:a≠I) :
  Walks prog w A I [I,a,b] [I] es.size (λi v=>(xX w a es ep pl r)[i]?=!v) (λi h=>Lies h a es ep t/\∃f,E2 h I a f i es.size ep/\Q5 h t b pl i f r) where
 sub:=λc hc=>by simp_all
 frame:=λi h h' st hk=>by
  let#[hL,f,hi,hf]:=st;show#[hL.at λo e=>hk a #[_] o e,f,hi.at λo e=>hk I #[_] o e,?_];cases r with
  |text=>show hf
  |plain=>show hf
  |drawn =>
   let#[e1,o,e,h1,h2]:=hf;show#[e1,o,e,hk b #[_] o h1,h2]
 item:=λi s Q E hi st hQ=>by
  let#[hL,f,hI,hf]:=st;show next_item hL hr hI hf fE hi λv h' f' hv h1 h2 h3=>hQ v h' s.toks hv #[hL.at λo e=>by rw[h3.2 a Qi];show e,f',h1,h2] λc o hc e=>h3.extBut c o (λz=>hc (by simp[z])) e
 done:=λs Q E st hQ=>by
  let#[hL,f,hI,hf]:=st;show next_end hh hL hr hI hf fE λh' he=>hQ h' s.toks λc o hc e=>he c o (λz=>hc (by simp[z])) e
 self:=λi s Q E st hQ=>by
  let#[hL,f,hI,hf]:=st;show wpAny_pyIter_slot hI.ty Lh (bu Lh hI.ty aL6 ?_ (aK1 _));show aa (ai (ai #[_,rfl,"set_iterator",_,hI.ty,C7.lookup,hQ]))
def aG7:typeLookup (.type "set") "__len__"=pure (!(.builtin "set.__len__")):=by rfl
def aK7(hh:A.handled=none)(hL:Lies s.heap a es ep t)(hw:Well (Led w) t)(hz:es.size<=10000){Q:@&Value->Shared->Prop}(h:∀(vs:@&Value) h' d' jL,vs.Perm (es.toList.map (·.2))->(∀c o,s.heap.get? c=!o->h'.get? c=!o)->s⁻¹<=h'.objs.size->s.toks<=jL->Q vs { s with heap:=h',drawn:=d',toks:=jL }) :
  wpAny (model prog w) A (collect (.ref a)) Q E s:=by
 let dN:=let ⟨o,ho,_⟩:=hL.at_;ao ho
 show aa (wpAny_runValue (dz F.entry_proto_collect ?_));show aa (bJ ?_);show ai #[fT F.plain_list_iadd _,dz F.entry_list_iadd ?_];let uh:Lies (s.heap.push { cls:=.type "list",data:=.seq ([]:@&Value).toArray }) a es ep t:=hL.at λo e=>ah _ e;let zu:(s.heap.push { cls:=.type "list",data:=.seq ([]:@&Value).toArray }).get? s⁻¹=some { cls:=.type "list",data:=.seq ([]:@&Value).toArray }:=au _ rfl;let fE:=bD dN;let h1:Builtin.List.listSameRef (.ref s⁻¹) (.ref a)=false:=by simp[Builtin.List.listSameRef,fE]
 change wpAny _ A.in1 (Builtin.List.listExtendWith (.ref s⁻¹) (.ref a) (.ref s⁻¹)) _ _ _;show aa (dC (Lies.ty uh) ?_);rw[aw (by rw[h1];decide)];show aa (Vu uh hw hz λr pl b f I h2 d2 hr hI hf hb QE he Cr h2z=>?_);let zw:=uh.at λo e=>he a o e;let ot:=he _ _ zu;show aa (aY ?_);show aa (wpAny_specialOf (Lies.ty zw) aG7 ?_);generalize Hj:("set.__len__":String)=PK;dsimp only;rw[show splitId PK=some ("set","__len__") from by subst Hj;decide +kernel];show aa (cJ (b:=true) (Lies.ty zw) (by rfl) ?_);rw[aw ∅];subst Hj;rw[av #[]];show aa (dC (Lies.ty zw) ?_);show ai ?_;rw[av #[]];show aa (dH ?_);show aa ?_;show aa (wpAny_updateSeq ot rfl ?_);let zt:=aR (Obj.mapSeq (·.push Value.none)) ot rfl;show wpAny_updateSeq (s:={ s with heap:=_,drawn:=d2 }) zt rfl ?_;let QK:=aR (Obj.mapSeq (·.pop)) zt rfl;let nZ:∀c o,c≠s⁻¹->h2.get? c=!o->((h2.update s⁻¹ (Obj.mapSeq (·.push Value.none))).update s⁻¹ (Obj.mapSeq (·.pop))).get? c=!o :=
  λc o hc e=>(bz _ _ (bq hc)).trans ((bz _ _ (bq hc)).trans e)
 let tS:s⁻¹<(s.heap.push { cls:=.type "list",data:=.seq ([]:@&Value).toArray }).objs.size:=by simp
 let hSI:=bD (ax tS Cr);let hSb:b≠s⁻¹:=by
  rcases QE with z|z
  .rw[z];show bq fE
  .exact bD (ax tS z)
 let W:=(a13 (prog:=prog) (A:=A.in1) (ep:=ep) hh hr hb (aD (ax (cI dN tS) Cr))).toS;let st:Lies h2 a es ep t/\∃f,E2 h2 I a f 0 es.size ep/\Q5 h2 t b pl 0 f r:=#[zw,f,hI,hf]
 let oU:=W.frame 0 ({ s with heap:=h2,drawn:=d2 }:Shared) _ s.toks st (ak _) λc hc o e=>nZ c o (λz=>by simp at hc;rcases hc with y|y|y<;>simp_all) e;show ai #[fT F.plain_extend_loop _,codeAny_extend_loopS W (aF hz ∅) _ (λz=>by simp at z;rcases z with y|y|y<;>simp_all) _ es.size 0 _ _ _ rfl (cQ _) oU QK (ItemsOf.nil _) λs' yj c' hm lC wX=>?_];show aa (wpAny_load lC ?_);show ai ?_;let eS:s'={ s with heap:=s'.heap,drawn:=d2,toks:=s'.toks }:=by
  let#[lx,g',d',jL,tM]:=s';let m1:g'=s.gens:=hm.gens;let m2:d'=d2:=hm.drawn;let m3:tM=s.os:=hm.os
  grind
 let eo:yj.toList=xX w a es ep pl r:=by
  let l1:(xX w a es ep pl r).length=es.size:=by rw[(Nh hr).length_eq];simp
  apply List.ext_getElem
  .rw[l1];simpa using wX.1
  .intro i h1 h2;have:=wX.2 i yj.toList[i] (by simp at h1 ⊢);dsimp only at this;rw[aq h2] at this;show(aJ this).symm
 rw[eo,eS];show h _ _ d2 s'.toks (Nh hr) (λc o e=>?_) (dZ (ao lC)) hm.toks;let hc:=ao e;let n1:=aD hc;let n2:=aD (ax (cI hc tS) Cr);show hm.heap c o (by simp[n1,n2]) (nZ c o n1 (he c o (ah _ e)))
def aT6(hh:A.handled=none)(hS:j9 prog w s.heap a ks)(HA:-ks<64)(h:∀(S:Addr) (vs:@&Value) (ns:@&Int) e h' d' jL,IntsAre vs ns->ns.Perm ks->ns.Pairwise (·<=·)->h'.get? S=!(seqObj "list" vs.toArray e)->s⁻¹<=S->(∀c o,s.heap.get? c=!o->h'.get? c=!o)->s.toks<=jL->Q (.ref S) { s with heap:=h',drawn:=d',toks:=jL }) :
  wpAny (model prog w) A (call (.builtin "sorted") [.ref a]) Q E s:=by
 let#[o,es,ep,t,ho,hx,hd,iD,hp,hn,hb,hf,hw]:=hS;let hL:Lies s.heap a es ep t:=#[#[o,ho,hx.1,hd],hf]
 let hz:es.size=-ks:=by rw[<- hp.length_eq];simp
 show Calls.call_function_entry kind_sorted plain_sorted entry_sorted (args_sorted1 _) ?_;unfold Builtin.«sorted»;show aa (m:=checkCount "sorted" 1 1 _) (ai ?_);show aa (aK7 (A:=A.in1) hh hL hw () λvs h1 d1 yS hv he tS wg=>?_);let hI:IntsAre vs (vs.map toI):=by
  let all:∀v∈vs,∃tk,v=.int (toI v) tk:=λv BC=>by
   let#[e,wL,rfl]:=aP.mp (hv.mem_iff.mp BC);let#[tk,h1,_]:=yk iD wL;show#[tk,h1]
  clear hv
  induction vs with
  |nil=>show .nil
  |cons v r ih =>
   let#[tk,e]:=all v #[_];have:=IntsAre.cons (toI v) tk (ih λu hu=>all u (by simp[hu]));rw[<- e] at this;show this
 let hk:(vs.map toI).Perm ks:=by
  show(hv.map toI).trans ?_;rw[kH];show hp
 let hl:-vs<64:=by rw[hv.length_eq];simp;omega
 show aa (wpAny_newList (s:={ s with heap:=h1,drawn:=d1,toks:=yS }) ?_);let wx:(h1.push (seqObj "list" vs.toArray 0)).get? h1.objs.size=!(seqObj "list" vs.toArray 0):=au _ rfl;show aa (aY (bu (s:={ s with heap:=h1.push (seqObj "list" vs.toArray 0),drawn:=d1,toks:=yS }) slot_list_sort #[_,wx,rfl] entry_list_sort (list_sort_tree wx hI hl λout Bo a1 a2 a3=>#[_,rfl,?_]) (args_list_sort _)));let#[e,wL]:=sortedHeap_at (vs:=vs) (out:=out) wx;show ai #[_,rfl,h h1.objs.size out.toList Bo e _ d1 yS a1 (a2.trans hk) a3 wL tS (λc o' e'=>?_) wg];let hc:=ao (he c o' e');rw[sortedHeap_old (aD hc) (by rw[size_push'];show Nat.lt_succ_of_lt hc)];show ah _ (he c o' e')
abbrev i7(ks xs:@&Int):@&Int:=xs.foldl G8 ks
def J0:∀(xs ks:@&Int),(i7 ks xs).length<=-ks+-xs
 |[],ks=>by simp[i7]
 |x::xs,ks=>by
  have:=J0 xs (G8 ks x);let h2:=MI ks x;show(i7 (G8 ks x) xs).length<=_
  grind
set_option tactic.hygienic true in
def H9:∀(xs ks:@&Int) (k:Int),k∈i7 ks xs↔k∈ks\/k∈xs
 |[],ks,k=>by simp[i7]
 |x::xs,ks,k=>by
  change k∈i7 (G8 ks x) xs↔_;rw[H9 xs];unfold G8;split
  .rename_i h;constructor
   .rintro(a|a)
    .exact .inl a
    .exact .inr (by simp[a])
   .rintro(a|a)
    .exact .inl a
    .rcases aE.mp a with rfl|b
     .exact .inl h
     .exact .inr b
  .simp[or_assoc]
set_option tactic.hygienic true in
def Y0:∀(xs ks:@&Int),ks.Nodup->(i7 ks xs).Nodup
 |[],ks,h=>h
 |x::xs,ks,h=>by
  show Y0 xs _ ?_;unfold G8;split
  .exact h
  .rename_i hk;rw[da];show#[h,by simp,λa ha b hb=>by simp at hb;subst hb;show λz=>hk (z▸ha)]
def Kx:Well (Led w) (SetTable.fresh 0 0 (Led w)):=#[by simp[kF,SetTable.fresh],rfl,rfl]
def JZ(e:h.get? a=some { cls:=.type "set",dict:=none,data:=.set (List.toArray []) 0 (.fresh 0 0 (Led w)) }):j9 prog w h a [] :=
 #[_,(List.toArray []),0,_,e,#[rfl,rfl,rfl],rfl,(by intro e he;simp at he),by simp,by simp,by decide,by rfl,Kx]
def VI{R:Result->Shared->Prop}{fp wr:@&Addr}{G:Array GenState->Array GenState->Prop}{P:Nat->Value->Prop}{St:Nat->Shared->Prop}(W:WalksS prog w A.in1 I fp wr G n P St)(Hu:a∉fp)(hn:n=-ns)(hv:∀i v,P i v->∃tk,v=.int (ns.getD i 0) tk)(hb:n+1<scanBound):∀(k i:Nat) (s:Shared),i+k=n->St i s->j9 prog w s.heap a (i7 [] (ns.take i)) ->
   (∀s',Moved (a::wr) G s s'->j9 prog w s'.heap a (i7 [] ns)->R (.ok (.ret .none)) s')->codeAny (model prog w) A (.builtin "set.update.loop" #[[.ref a,.ref I],[]]) R s:=by
 let hw:a∉wr:=λh=>Hu (W.sub _ h);let ni:∀b∈wr,b∈a::wr:=λb hb=>by simp[hb]
 intro k
 induction k with
 |zero =>
  intro i s e st hS hR;obtain rfl:i=n:=by omega
  show dz jy ?_;show aa (W.done s _ _ st λs' m=>ai (hR s' (m.mono ni) (j9.at ?_ λo e=>m.heap a o hw e)))
  simp_all
 |succ k ih =>
  intro i s e st hS hR;let dN:i< -ns:=by omega
  show dz jy ?_;show aa (W.item i s _ _ () st λv s' hP kM m=>?_);let#[tk,rfl]:=hv i v hP;let lC:=j9.at hS λo e=>m.heap a o hw e;let hl:=J0 (ns.take i) [];rw[cG] at hl;simp only[List.length_nil] at hl;show aa (aY ?_);show aY (aa ((intKind prog w).pyHash (k:=ns.getD i 0) (AW _ _ _ _) ?_));show HQ (s:={ s' with toks:=s'.toks+1 }) lC () λh' bb sb ot=>?_;let e2:G8 (i7 [] (ns.take i)) (ns.getD i 0)=i7 [] (ns.take (i+1)):=by
   unfold i7;rw[dW,List.foldl_append,aq dN];simp[List.getD,dN]
  rw[e2] at ot;show ai #[fT PyProof.Rows.F.plain_set_update_loop _,ih (i+1) _ () (W.frame _ s' _ _ kM (ja _) λb hb o e=>by rw[sb.2 b λz=>Hu (z▸hb)];show e) ot λs2 m2 h2=>?_];show hR s2 (Moved.trans W.gtrans ((m.mono ni).then_heap (ja _) λb o hb e=>by rw[sb.2 b λz=>hb (by rw[z];simp)];show e) m2) h2
noncomputable abbrev A6(w:World):Obj:={ cls:=.type "set",dict:=none,data:=.set (List.toArray []) 0 (.fresh 0 0 (Led w)) }
def Mi(h:Q (.ref s⁻¹) { s with heap:=s.heap.push (A6 w) }):wpAny (model prog w) A (newSet (.type "set")) Q E s:=by
 show aa (X7 ?_);show bJ h (cQ _)
def Ub(x:Value)(h:Q (.ref s⁻¹) { s with heap:=s.heap.push (A6 w) }):codeAny (model prog w) A (.call (.builtin "set.__new__") #[[.type "set",x],[]]) (wants Q E) s:=by
 show codeAny_of_tree (?_:wpAny _ A.in1 (do
  checkBuiltinCall "set.__new__" #[[.type "set",x],[]]
  again (.builtin "set.__new__" #[[.type "set",x],[]])) _ _ s)
 show aa (cM (F.newCall_set_1 x) (ai #[fT F.plain_set_new _,?_]));show dz F.entry_set_new ?_;let sub:=sub_set_self;show aa ?_;show aa (cM (by rfl) ?_);show aa (cM sub ?_);show ai ?_;show aa (Mi (ai h))
def Ef{vs:@&Value}(h:IntsAre vs ns):-vs=-ns:=by
 induction h with
 |nil=>rfl
 |cons n t r ih=>simp[ih]
def yu(h:Heap)(l:Addr)(items:Array Value):Prop:=h.IsList l items\/h.IsTuple l items
def yu.lt(x:yu h l items):l<h.objs.size:=by
 rcases x with⟨_,e,_⟩|⟨_,e,_⟩<;>show ao e
def Uv{Q:Fin->Shared->Prop}(hh:A.handled=none)(hS:s.heap.get? a=!A6 w)(hl:yu s.heap l items)(hi:IntsAre items.toList ns)(hb:items.size+1<scanBound)(fE:a≠l)(h:∀h' tk,j9 prog w h' a (i7 [] ns)->(∀b o,b≠a->s.heap.get? b=!o->h'.get? b=!o)->s.toks<=tk->wpAny (model prog w) A (ret .none) Q E { s with heap:=h',toks:=tk }) :
  wpAny (model prog w) A (Builtin.«set.__init__» #[[.ref a,.ref l],[]]) Q E s:=by
 let hT:s.TypeIs (.ref a) "set":=#[_,hS,rfl]
 let dN:=hl.lt;let zi:=aD dN;show aa (cM rfl ?_);let nm:∀{Q':String->Shared->Prop},(∀x,Q' x s)->wpAny (model prog w) A (typeNameOfCut 200 (.ref a)) Q' E s:=λ{Q'} q=>by
  show aa (aa (dC hT ?_));show ai (cM (a:="set") ?_ (q _))
  rfl
 show aa (nm λx=>?_);show aa (ai ?_);show aa (ai ?_);show aa (aa (aT hS rfl rfl (ai ?_)));rw[aw (by unfold SetTable.fill;simp[SetTable.fresh])];unfold Builtin.Frozenset.updateFrom Builtin.Frozenset.isAnySet;obtain⟨c,uf,wY,it,hit,Hf,St,W,eR⟩:∃c:String,(c="list"\/c="tuple")/\s.TypeIs (.ref l) c/\∃it:Obj,(∀Q':Value->Shared->Prop,Q' (.ref s⁻¹) { s with heap:=s.heap.push it }->wpAny (model prog w) A (pyIter (.ref l)) Q' E s) /\
   (∀b o,s.heap.get? b=!o->(s.heap.push it).get? b=!o)/\∃St:Nat->Shared->Prop,WalksS prog w A.in1 s⁻¹ [s⁻¹,l] [s⁻¹] (λa b=>b=a) items.size (λi v=>items[i]?=!v) St/\St 0 { s with heap:=s.heap.push it }:=by
  rcases hl with hl|hl
  .let#[o,ho,hc,_]:=id hl;show#["list",.inl rfl,#[o,ho,hc],_,λQ' q=>dD hl q,λb o e=>ah _ e,_,(mQ (A:=A.in1) hh _ l zi items).toS,#[#[_,au _ rfl,rfl,rfl],hl.push _]]
  .let#[o,ho,hc,_]:=id hl;show#["tuple",.inr rfl,#[o,ho,hc],_,λQ' q=>mM hl q,λb o e=>ah _ e,_,(Walks.tuple (A:=A.in1) hh _ l zi items).toS,#[#[_,au _ rfl,rfl,rfl],hl.push _]]
 show aa (aa (aa (cJ (b:=false) wY (by rcases uf with rfl|rfl<;>(rw[fm];kernel_rfl)) ?_)));show cJ (b:=false) wY (by rcases uf with rfl|rfl<;>(rw[fm];kernel_rfl)) ?_;rw[aw ∅];show aa (dC wY ?_);rw[aw (by rcases uf with rfl|rfl<;>decide)];show aa (hit _ ?_);show aa (wpAny_runValue ?_);let QI:=ao hS;let gC:items.size=-ns:=by show Ef hi
 show VI W (by simp only[List.mem_cons,List.not_mem_nil,or_false,not_or];show#[aD QI,fE]) gC (λi v hv=>IntsAre.int_at hi i v (by rw[iQ];show hv)) hb items.size 0 _ ()
  eR (JZ (Hf _ _ hS)) λs' m lC=>?_
 let eS:s'={ s with heap:=s'.heap,toks:=s'.toks }:=by
  let#[lx,g',d',jL,tM]:=s';let m1:g'=s.gens:=m.gens;let m2:d'=s.drawn:=m.drawn;let m3:tM=s.os:=m.os
  simp_all
 rw[eS];show ai (h _ _ lC (λb o hb e=>?_) m.toks);show m.heap b o (by simp only[List.mem_cons,List.not_mem_nil,or_false,not_or];show#[hb,aD (ao e)]) (Hf _ _ e)
def MK(hh:A.handled=none)(hl:yu s.heap l items)(hi:IntsAre items.toList ns)(hb:items.size+1<scanBound)(h:∀h' tk,j9 prog w h' s⁻¹ (i7 [] ns)->(∀b o,s.heap.get? b=!o->h'.get? b=!o)->s.toks<=tk->Q (.ref s⁻¹) { s with heap:=h',toks:=tk }) :
  wpAny (model prog w) A (call (.type "set") [.ref l]) Q E s:=by
 let cs:=F.called_set;let#[_,_,y1]:=cs.mro;let y2:=cs.made;let y3:=cs.sub;let y6:=F.typeCall_set_1 (.ref l);show wpAny_call (codeAny_of_tree (?_:wpAny _ _ (callAny (.type "set") _) _ _ _));show ai #[Code.quiet_builtin _ #[],dz F.entry_type_call ?_];rw[Around.under_plain (weight_type_call_type "set" [.ref l] []) rfl]
 repeat (any_goals (first|assumption|wp_step))
 show fo (Ub (.ref l) (E:=E) (Q:=λv s1=>v=.ref s⁻¹/\s1={ s with heap:=s.heap.push (A6 w) }) #[rfl,rfl]) ?_;rintro(e|fl) s1 hr
 .exact hr
 cases fl with
 |next=>show hr
 |brk=>show hr
 |cont=>show hr
 |ret v =>
 let#[rfl,rfl]:=hr;let hS:(s.heap.push (A6 w)).get? s⁻¹=!A6 w:=au _ rfl;let hT:Shared.TypeIs { s with heap:=s.heap.push (A6 w) } (.ref s⁻¹) "set":=#[_,hS,rfl]
 let y7:=cs.init.lookup;let y8:=cs.init.bind (.ref s⁻¹)
 repeat (any_goals (first|assumption|wp_step))
 show fo (codeAny_call_builtin (R:=wants (λv s2=>v=.none/\∃h' tk,s2={ s with heap:=h',toks:=tk }/\j9 prog w h' s⁻¹ (i7 [] ns)/\(∀b o,s.heap.get? b=!o->h'.get? b=!o)/\s.toks<=tk) E) cs.init.plain F.entry_set_init (check_set_init_1 hT ?_)) ?_
 .let Qo:yu (s.heap.push (A6 w)) l items:=hl.imp (·.push _) (·.push _);let Qm:=hl.lt;show Uv (by simp[hh]) hS Qo hi hb (bD Qm) λh' tk h1 h2 h3=>ai #[rfl,h',tk,rfl,h1,λb o e=>h2 b o (aD (ao e)) (ah _ e),h3]
 .rintro(e|fl) s2 hr
  .exact hr
  cases fl with
  |next=>show hr
  |brk=>show hr
  |cont=>show hr
  |ret v =>
  let#[rfl,h',tk,rfl,h1,h2,h3]:=hr
  repeat (any_goals (first|assumption|wp_step))
  show h _ _ h1 h2 h3
end ST
namespace L2
open PySem PySem.Spec PyProof.Rows
abbrev qL(X:Cx)(a:Addr)(ks:@&Int):HO:=.ext λh=>ST.j9 X.prog X.w h a ks
abbrev O3(ns:@&Int):@&Int:=(ST.i7 [] ns).mergeSort (λa b=>decide (a<=b))
def EF:∀{a b:@&Int},a.Perm b->a.Pairwise (·<=·)->b.Pairwise (·<=·)->a=b
 |[],b,h,_,_=>by simp_all
 |x::a,[],h,_,_=>absurd h.length_eq #[_]
 |x::a,y::b,h,h1,h2=>by
  rw[Oz] at h1 h2;let e:x=y:=by
   let m1:=h.mem_iff (a:=y);let m2:=h.mem_iff (a:=x);simp only[List.mem_cons,true_or,true_iff,iff_true] at m1 m2;rcases m1 with z|z
   .exact z.symm
   .grind
  subst e;rw[EF (h.cons_inv) h1.2 h2.2]
def KO(ns:@&Int):(O3 ns).Pairwise (·<=·):=by
 have:=List.pairwise_mergeSort (le:=λa b:Int=>decide (a<=b)) (λa b c h1 h2=>by simp at *;omega) (λa b=>by simp;omega) (ST.i7 [] ns);show this.imp λh=>by simpa using h
def ES(ns:@&Int):(O3 ns).Perm (ST.i7 [] ns):=List.mergeSort_perm _ _
def a10(ns:@&Int):(O3 ns).length<=-ns:=by
 rw[(ES ns).length_eq];have:=ST.J0 ns []
 simp_all
section
variable{X:Cx}{pi:@&(Addr×Obj)}{σ:St}{H:Hp}{s:Shared}
def Inv.draw(I:Inv X pi σ H s)(d:Drawn):Inv X pi σ H { s with drawn:=d } :=
 I.step (g':=s.gens) (t':=s.toks) (d':=d) (ch:=[]) #[_] (λb o x x x e x=>e) (λb o x x x e x=>#[o.slots,e]) (λb o x x e=>e) (λb o x e=>#[o,e]) (λx x e=>e) (λx x x e=>e) (λb ps e=>#[(List.toArray []),by simp[e]]) (λm hm=>hm) I.bw I.bare
def Ea{h:Heap}{a:Addr}{ks:@&Int}(x:ST.j9 X.prog X.w h a ks):j5 X.prog X.w H h a (qL X a ks) :=
 #[x,by let#[o,_,_,_,e,_]:=x;show#[o,e],λh1 h2 y k=>y.at k]
def aS4{ns:@&Int}{vs:@&Value}(h:IntsAre vs ns):Vals (ns.map V.int) vs:=by
 induction h with
 |nil=>show .nil
 |cons n t r ih=>show .cons #[t,rfl] ih
def EK:∀{ns:@&Int} {vs:@&Value},Vals (ns.map V.int) vs->IntsAre vs ns
 |[],_,h=>by cases h;show .nil
 |n::ns,_,h=>by
  cases h with
  |cons r rr =>
   let#[t,rfl]:=r;show .cons n t (EK rr)
def Ld(hc:X.calm=true):j7 X (.type "set") (λxs H Q=>∃a ns,xs=[.ref a]/\fR X.K H a (ns.map V.int)/\-ns<60/\∀p,H p=none->Q (.ref p) (upd H p (qL X p (ST.i7 [] ns)))):=by
 intro pi s σ H xs us Q I r h;let#[a,ns,rfl,hq,hl,q]:=h;cases r with
 |cons r rr =>
 cases rr;cases r;let#[aX,rv,p,hz]:=I.list hq;let hI:=EK rv;let hlen:=ST.Ef hI;show ST.MK (ns:=ns) (I.ok.hd hc) (.inl p.isList) (_/hI) (by rw[aK,hlen];show ax (Nat.succ_lt_succ hl) ∅) λh' tk hS hk x=>?_;show#[.ref _,_,I.laid (a:=s⁻¹) (t':=tk) hk (ak _) (Ea hS),rfl,q _ (I.bw.fresh (ak _))]
def Le(hc:X.calm=true):j7 X (.type "set") (λxs H Q=>∃a ns,xs=[.ref a]/\gm X.K H a (ns.map V.int)/\-ns<60/\∀p,H p=none->Q (.ref p) (upd H p (qL X p (ST.i7 [] ns)))):=by
 intro pi s σ H xs us Q I r h;let#[a,ns,rfl,hq,hl,q]:=h;cases r with
 |cons r rr =>
 cases rr;cases r;let#[aX,rv,p,hz]:=I.tuple hq;let hI:=EK rv;let hlen:=ST.Ef hI;show ST.MK (ns:=ns) (I.ok.hd hc) (.inr (show s.heap.IsTuple a aX.toArray from p)) (_/hI) (by rw[aK,hlen];show ax (Nat.succ_lt_succ hl) ∅) λh' tk hS hk x=>?_;show#[.ref _,_,I.laid (a:=s⁻¹) (t':=tk) hk (ak _) (Ea hS),rfl,q _ (I.bw.fresh (ak _))]
def Y6(hc:X.calm=true):j7 X (.builtin "sorted") (λxs H Q=>∃a ns,xs=[.ref a]/\H a=!qL X a (ST.i7 [] ns)/\-ns<60/\∀p,H p=none->Q (.ref p) (upd H p (.lst ((O3 ns).map V.int)))):=by
 intro pi s σ H xs us Q I r h;let#[a,ns,rfl,ha,hl,q]:=h;cases r with
 |cons r rr =>
 cases rr;cases r;let hS:ST.j9 X.prog X.w s.heap a (ST.i7 [] ns):=(I.bw a _ ha).1;let hn:=ST.J0 ns [];simp only[List.length_nil] at hn;show ST.aT6 (I.ok.hd hc) hS () λS vs Bo e h' d' jL h1 h2 h3 h4 h5 h6 x=>?_;let e1:Bo=O3 ns:=EF (h2.trans (ES ns).symm) h3 (KO ns);subst e1;let hz:=a10 ns;show#[.ref S,_,(I.laid (a:=S) (o:=.lst ((O3 ns).map V.int)) (t':=jL) h6 h5 #[by rw[aj];show aF hz (aF (dZ hl) ∅),vs,e,aS4 h1,h4]).draw d',rfl,q S (I.bw.fresh h5)]
end
end L2
namespace ST
open PySem PyProof.Rows
end ST
namespace L2
open PySem PySem.Spec PyProof.Rows
end L2
namespace HT
open PySem PyProof.Rows Builtin
def an2:fillsNumberSlot (.type "tuple") "mul"=pure false :=
 PySem.fillsNumberSlot_seq F.slot_tuple_mul.lookup #[] F.slot_tuple_rmul.lookup #[]
def aE4:seqRepeat? (.type "tuple")=pure (!(.builtin "tuple.__mul__")):=by
 rfl
def av5(a:Int)(t:Tok)(l:Addr)(items:Array Value)(n:Nat)(dd:Option Addr)(sl:Array (Option Value)) :
  Meets (Builtin.«int.__rmul__» #[[.int a t,.ref l],[]]) (λx R s=>s.heap.get? l=some { cls:=.type "tuple",dict:=dd,data:=.seq items n,slots:=sl }/\R (.ok (.ret Value.notImplemented)) s) :=
 .of_wp λprog w A R s h=>by let#[hl,h]:=h;wp_walk;show#[_,rfl,h]
section
variable{prog:Program}{w:World}{A:Around}{E:Value->Shared->Prop}{s:Shared}
def aW4(aX:@&Value):∀(m:Nat) (acc:Array Value),List.foldl (λx1 x2=>x1++x2) acc (List.replicate m aX.toArray)=acc++(List.replicate m aX).flatten.toArray:=by
 intro m
 induction m with
 |zero=>intro acc;simp
 |succ m ih=>intro acc;rw[dA,fH,ih,dA,List.flatten_cons];simp
def a02{a:Addr}{aX:@&Value}{n:Int}{t:Tok}{Q:Value->Shared->Prop}(ht:IsTup s.heap a aX.toArray)(fE:aX≠[])(h1:1<=n)(h2:n<2 ^ 62)(hz:-aX*n.toNat<=sizeLine)(q1:n=1->Q (.ref a) s)(q2:Q (.ref s⁻¹) { s with heap:=s.heap.push { cls:=.type "tuple",data:=.seq (List.replicate n.toNat aX).flatten.toArray } }):wpAny (model prog w) A (binaryOp .Mult (.ref a) (.int n t)) Q E s:=by
 let#[o,ho,hc,k,hd]:=id ht;let#[cls,dict,data,slots]:=o;subst hc hd;let he:aX.toArray.isEmpty=false:=by grind
 show Gg ∅ ht.typeIs (λs'=>mP s' n t) an2 F.fills_int_mul jK aE4 F.slot_int_index.lookup
  (cE jK (mP s n t) F.entry_int_rmul (F.args_int_rmul_2 _ _) (av5 n t a aX.toArray k dict slots) #[ho,rfl,ht.typeIs,?_])
 show bu F.slot_tuple_mul ht.typeIs F.entry_tuple_mul ?_ (F.args_tuple_mul_2 _ _);show aa (cM (show asIndex (.int n t)=pure n from rfl) ?_);rw[aw (by simp only[Bool.or_eq_true,decide_eq_true_eq];omega)];show aa (tupleItemsOf_ ht ?_);let big:¬((aX.toArray.size:Int)*n>(2 ^ 63-1) / 8):=by
  rw[aK];have:((-aX*n.toNat:Nat):Int)=(-aX:Int)*n:=by grind
  let hs:sizeLine<2 ^ 59:=by decide
  omega
 let many:¬(Builtin.Tuple.tupleTooMany ((aX.toArray.size:Int)*n)=true):=by
  unfold Builtin.Tuple.tupleTooMany
  grind
 let gC:sizeOk (.seq (List.replicate n.toNat aX).flatten.toArray):=by
  show(List.replicate n.toNat aX).flatten.toArray.size<=sizeLine;simp only[List.size_toArray,List.length_flatten,List.map_replicate,List.sum_replicate_nat];rw[vf];show hz
 by_cases e1:n=1
 .subst e1;rw[av (by rw[he];rfl)];show aa (aa (dC ht.typeIs (ai ?_)))
  first
   |show aa (dH (aa (ai #[_,rfl,ai (q1 rfl)])))
   |show aa (dH (ai #[_,rfl,(q1 rfl)]))
   |show aa (dH (ai #[_,rfl,ai (q1 rfl)]))
 .rw[aw (by rw[he];simpa using e1)];rw[aw (by grind),aw big,aw many];rw[show List.foldl (λx1 x2=>x1++x2) (List.toArray []) (List.replicate n.toNat aX.toArray)=(List.replicate n.toNat aX).flatten.toArray by rw[aW4];simp]
  first
   |show aa (bJ (ai #[_,rfl,q2]) gC)
   |show aa (bJ (ai #[_,rfl,ai q2]) gC)
end
end HT
namespace L2
open PySem PySem.Spec PyProof.Rows
section
variable{X:Cx}
def Xl(K:PySem.W.Frag):R2:=λx y H Q=>∃(a:Addr) (n:Int) (xs:@&V),x=.ref a/\y=.int n/\gm K H a xs/\xs≠[]/\1<=n/\n<2 ^ 62/\-xs*n.toNat<=sizeLine /\
 (n=1->Q (.ref a) H)/\(∀p,H p=none->Q (.ref p) (upd H p (.tup (List.replicate n.toNat xs).flatten)))
def So:fc X (binaryOp .Mult) (Xl X.K):=by
 intro pi s σ H x y v u Q I rx ry h;let#[a,n,xs,rfl,rfl,ha,fE,h1,h2,hz,q1,q2]:=h;cases rx;let#[tk,rfl]:=ry;let#[aX,r,p,_]:=I.tuple ha;show HT.a02 p (λz=>fE (r.V1.mp z)) h1 h2 (by rw[<- -r];show hz) (λe=>#[.ref a,H,I,rfl,q1 e]) ?_;show#[.ref s⁻¹,_,I.laid (t':=s.toks) (λb ob q=>ah _ q) (ak _) ?_,rfl,q2 _ (I.bw.fresh (ak _))];show#[by rw[len_rep,vf];show hz,_,r.rep _,K0.new _ _]
abbrev E7(sep:Str)(ys:@&Str):Nat:=ys.foldl (λn y=>n+-y+-sep) 0
def a07:∀{ys:@&Str} {vs:@&Value},Vals (ys.map V.str) vs->∃l:@&(Str×Tok),vs=strValues l/\l.map (·.1)=ys:=by
 intro ys
 induction ys with
 |nil=>intro vs h;cases h;show#[[],rfl,rfl]
 |cons y ys ih =>
  intro vs h;cases h with
  |cons r rr =>
   let#[t,rfl]:=r;let#[l,rfl,e]:=ih rr;show#[(y,t)::l,rfl,by simp_all]
def a81(sep:Str):∀(ps:@&Str) (acc:Array Nat) (n:Nat),acc.size<=n->(ps.foldl (λacc p=>acc++sep.cps++p.cps) acc).size<=ps.foldl (λn y=>n+-y+-sep) n:=by
 intro ps
 induction ps with
 |nil=>intro acc n h;show h
 |cons p ps ih =>
  intro acc n h;rw[fH,fH];show ih _ _ ?_;rw[Array.size_append,Array.size_append];have:-p=p.cps.size:=rfl;have:-sep=sep.cps.size:=rfl;omega
def Er(sep:Str)(ys:@&Str):(Builtin.Str.glued sep ys).length<=E7 sep ys:=by
 cases ys with
 |nil=>show ak _
 |cons y ys =>
  show((ys.foldl (λacc p=>acc++sep.cps++p.cps) y.cps)).size<=ys.foldl (λn y=>n+-y+-sep) (0+-y+-sep);show a81 sep ys _ _ ?_;have:-y=y.cps.size:=rfl;omega
def Sb:kU X "str.join" (λx xs H Q=>∃sep a ys,x=.str sep/\xs=[.ref a]/\fR X.K H a (ys.map V.str)/\E7 sep ys<=sizeLine/\Q (.str (Builtin.Str.glued sep ys)) H):=by
 intro pi s σ H x xs v us Q I rx r h;let#[sep,a,ys,rfl,rfl,hq,hz,q]:=h;let#[t,rfl]:=rx;cases r with
 |cons r rr =>
 cases rr;cases r;let#[aX,rv,pl,_]:=I.list hq;let#[l,rfl,el]:=a07 rv;let hl:Builtin.Str.tooLong ((l.map (·.1)).toArray.foldl (·+·.length+-sep) 0)=false:=by
  unfold Builtin.Str.tooLong;rw[aM,List.foldl_toArray,el];show oJ.mpr hz
 show cE F.slot_str_join (mO s sep t) F.entry_str_join (F.args_str_join_2 _ _) (meets_str_join_list sep t a l hl) #[pl.isList,?_];let fin:wants (EP X pi σ Q) X.xe (Except.ok (Flow.ret (.str (Builtin.Str.glued sep ys) s.toks))) { s with toks:=s.toks+1 }:=#[.str _,H,I.tok _,#[_,rfl],q]
 let gen:(Made.str (Builtin.Str.glued sep (l.map (·.1)))).post (λv s'=>wants (EP X pi σ Q) X.xe (Except.ok (Flow.ret v)) s') s:=by
  rw[el];show#[aF (Er sep ys) hz,fin]
 rcases l with _|⟨p,_|⟨p2,l⟩⟩
 .exact gen
 .subst el;show#[.str p.1,H,I,#[_,rfl],q]
 .exact gen
end
end L2
namespace HT
open PySem PyProof.Rows Builtin PySem.SeqAt
def az8(l:Addr)(items:Array Value)(n:Nat)(dd:Option Addr)(sl:Array (Option Value))(x:Value)(e:Value->Bool)(j:Nat)(hj:j<items.size)(hit:e items[j]=true)(lW:∀m (hm:m<items.size),m<j->e items[m]=false) :
    Meets (Builtin.«tuple.index» #[[.ref l,x],[]])
      (λA R s=>s.heap.get? l=some { cls:=.type "tuple",dict:=dd,data:=.seq items n,slots:=sl }/\(∀y,y∈items->EqAt A.in1 s y x (e y))/\R (.ok (.ret (.int j s.toks))) { s with toks:=s.toks+1 }) :=
  .of_wp λprog w A R s h=>by
    let#[hp,g,d,tk,os]:=s;let#[hl,he,h]:=h
    wp_walk using wpAny_loadPart' hl
    change wpAny (model prog w) A.in1 (forIn ([:Min.min items.size items.size]:Std.Legacy.Range) ((none,Unit.unit):Option PySem.Fin × Unit) (λ(i:Nat) __s =>
            match items[i]? with
            |some y=>do
              let __do_lift <- eqBool y x
              if __do_lift=true then do
                  let __do_lift <- retInt (i:Nat)
                  pure (ForInStep.done (!__do_lift,Unit.unit))
                else pure (ForInStep.yield (none,Unit.unit))
            | x=>pure (ForInStep.yield (none,Unit.unit)))) _ _ _
    rw[Std.Legacy.Range.forIn_eq_forIn_range'];show wpAny_forIn_list _ (λrest b s'=>b=(none,Unit.unit)/\s'=#[hp,g,d,tk,os]/\∃i,rest=List.range' i (items.size-i)/\i<=j) _ ?_ ?_ _ _ #[rfl,rfl,0,by simp,cQ _]
    . rintro y rest b s' ⟨rfl,rfl,i,hr,hi⟩;let dN:i<items.size:=by omega
      rw[show items.size-i=(items.size-(i+1))+1 by omega,List.range'_succ] at hr;cases hr;rw[show items[y]?=some items[y] from cX dN];show aa (he _ (Array.getElem_mem dN) prog w _ _ ?_);by_cases jk:y=j
      . subst jk
        wp_walk
        show#[_,rfl,h]
      . rw[lW y dN ()]
        wp_walk
        grind
    . rintro b s' ⟨rfl,rfl,i,hr,hi⟩;exfalso;have:=gY List.length hr
      grind
section
variable{prog:Program}{w:World}{A:Around}{E:Value->Shared->Prop}{s:Shared}
def a45:typeLookup (.type "tuple") (dunderI "add")=pure none:=by
 kernel_rfl
def Ut{t b:Addr}{vs ws:@&Value}{Q:Value->Shared->Prop}(ht:IsTup s.heap t vs.toArray)(hb:IsTup s.heap b ws.toArray)(h0:vs=[]->Q (.ref b) s)(h1:ws=[]->Q (.ref t) s)(h2:Q (.ref s⁻¹) { s with heap:=s.heap.push { cls:=.type "tuple",data:=.seq (vs++ws).toArray } })(gC:-vs+-ws<=sizeLine):wpAny (model prog w) A (inplaceOp .Add (.ref t) (.ref b)) Q E s:=by
 let#[#[cls,dd,data,sl],ho,hc,n,hd]:=id ht;let#[#[xK,qH,data2,kZ],jj,qt,n2,hd2]:=id hb;subst hc hd qt hd2;let e:vs.toArray++ws.toArray=(vs++ws).toArray:=by simp
 show wpAny_inplaceOp_concat #[_,ho,rfl] #[_,jj,rfl] a45 iZ mw ?_;by_cases hv:vs=[]
 .subst hv;show cE qU #[_,ho,rfl] oO (mV _ _) (tuple_addW0 t b (List.toArray []) ws.toArray n n2 dd qH sl kZ rfl) #[ho,jj,h0 rfl]
 by_cases hw:ws=[]
 .exact cE qU #[_,ho,rfl] oO (mV _ _) (tuple_addW1 t b vs.toArray ws.toArray n n2 dd qH sl kZ (_/hv) (by simp[hw])) #[ho,jj,h1 hw]
 .refine cE qU #[_,ho,rfl] oO (mV _ _) (tuple_addW2 t b vs.toArray ws.toArray n n2 dd qH sl kZ (_/hv) (_/hw) ()) #[ho,jj,?_];rw[e];show h2
end
end HT
namespace L2
open PySem PySem.Spec PyProof.Rows
variable{xs:@&V}
section
variable{X:Cx}
def zV(ys:@&V)(y:V)(n:Nat):Prop:=ys.all P2=true/\P2 y=true/\(∃z,ys[n]?=!z/\lD z y=true)/\∀(m:Nat) z,m<n->ys[m]?=!z->lD z y=false
def Ec:∀{xs:@&V} {us:@&Value} {i:Nat} (hi:i< -us),Vals xs us->∃x,xs[i]?=!x/\RelV x us[i]
 |_,_,0,hi,.cons r _=>#[_,rfl,r]
 |_,_,i+1,hi,.cons _ t=>by
  let#[x,h1,h2]:=Ec (_/hi) t;show#[x,by simpa using h1,by simpa using h2]
def Jl(h:xs.all P2=true){i:Nat}{x:V}(e:xs[i]?=!x):P2 x=true:=cR.mp h x (aQ e)
def JX{ys:@&V}{y:V}{n:Nat}{aX:@&Value}(F:zV ys y n)(r:Vals ys aX):∃hn:n<aX.toArray.size,uq y aX.toArray[n]=true/\∀m (hm:m<aX.toArray.size),m<n->uq y aX.toArray[m]=false:=by
 let#[fs,fy,#[z,hz,he],lW]:=F;let hl:=-r;let hn:n< -aX:=by
  grind
 show#[by simpa using hn,?_,λm hm BL=>?_]
 .let#[x,hx,rx]:=Ec hn r;rw[hz] at hx;cases hx;rw[AZ,FE rx (Jl fs hz)];show he
 .let tY:m< -aX:=by simpa using hm
  let#[x,hx,rx]:=Ec tY r;rw[AZ,FE rx (Jl fs hx)];show lW m x BL hx
abbrev Mu(K:PySem.W.Frag):V->@&V->Hp->VK->Prop:=λx xs H Q=>∃a ys y n,x=.ref a/\xs=[y]/\gm K H a ys/\zV ys y n/\Q (.int n) H
abbrev Mt(K:PySem.W.Frag):V->@&V->Hp->VK->Prop:=λx xs H Q=>∃a ys y n,x=.ref a/\xs=[y]/\fR K H a ys/\zV ys y n/\n<2 ^ 62/\Q (.int n) H
def a46:kU X "tuple.index" (Mu X.K):=by
 intro pi s σ H x xs v us Q I rx r h;let#[a,ys,y,n,rfl,rfl,hq,W,q]:=h;cases rx;cases r with
 |cons ry rr =>
 cases rr;let#[aX,rv,p,hz]:=I.tuple hq;let#[hn,hit,lW]:=JX W rv;let#[#[cls,dd,data,sl],ho,hc,k,hd]:=id p;simp only at hc hd;subst hc hd;show cE F.slot_tuple_index p.typeIs F.entry_tuple_index (F.args_tuple_index_2 _ _) (HT.az8 a aX.toArray k dd sl _ (uq y) n hn hit lW) #[ho,λw hw=>Ej ry W.2.1 rv W.1 w (_/hw),#[.int n,H,I.tok _,#[_,rfl],q]]
def a47(hu:X.A.units+100<cLine):kU X "list.index" (Mt X.K):=by
 intro pi s σ H x xs v us Q I rx r h;let#[a,ys,y,n,rfl,rfl,hq,W,nF,q]:=h;cases rx;cases r with
 |cons ry rr =>
 cases rr;let#[aX,rv,p,hz]:=I.list hq;let pt:=p.isList.typeIs;let#[#[cls,dd,data,sl],k,ho,hc,Hq,hd]:=id p;simp only at hc Hq hd;subst hc Hq hd;let#[hn,hit,lW]:=JX W rv;show cE F.slot_list_index pt F.entry_list_index (F.args_list_index_2 _ _) (SeqAt.list_indexAt a aX.toArray k none sl _ (uq y) n hn () hit lW) #[ho,λw hw=>Ej ry W.2.1 rv W.1 w (_/hw),#[.int n,H,I.tok _,#[_,rfl],q]]
abbrev yv(K:PySem.W.Frag)(H:Hp)(a:Addr)(xs:@&V):Prop :=
 H a=!.tup xs\/∃(o:Obj) (aX:Array Value) (n:Nat),K.lookup a=!o/\o.cls=.type "tuple"/\o.dict=none/\o.data=.seq aX n/\aX.size<=sizeLine/\Vals xs aX.toList
def yv.sq{K:PySem.W.Frag}{H:Hp}{a:Addr}(h:yv K H a xs):gm K H a xs:=by
 rcases h with h|⟨o,aX,n,h1,h2,_,h3,h4,h5⟩
 .exact .inl (.inl h)
 .exact .inr #[o,aX,n,h1,h2,h3,h4,h5]
def Inv.V'{pi:@&(Addr×Obj)}{σ:St}{H:Hp}{s:Shared}{a:Addr}(I:Inv X pi σ H s)(h:yv X.K H a xs):s.TypeIs (.ref a) "tuple"/\∀b,Value.ref a=.ref b->∃ob,s.heap.get? b=!ob/\ob.dict=none:=by
 rcases h with h|⟨o,aX,n,h1,h2,h3,_⟩
 .let#[_,aX,_,o,e,c,_,d]:=(show j5 X.prog X.w H s.heap a (.tup xs) from I.bw a _ h)
  show#[#[o,e,c],λb q=>by cases q;show#[o,e,d]]
 .exact#[#[o,I.fU a o h1,h2],λb q=>by cases q;show#[o,I.fU a o h1,h3]]
def ZZ(K:PySem.W.Frag)(to:TE)(t:TA):TE:=λσ H Q=>to σ H λx H1=>(∃a xs,x=.ref a/\fR K H1 a xs/\t σ H1 λys H2=>Mt K x ys H2 Q)\/(∃a xs,x=.ref a/\yv K H1 a xs/\t σ H1 λys H2=>Mu K x ys H2 Q)
def UT{o e:Expr}{es:@&Expr}{to:TE}{t:TA}{apos dY:Pos}(hu:X.A.units+100<cLine)(ho:PE X o to)(ha:PA X (e::es) t)(fQ:attributeBase o "index" X.env (eval o X.env)=eval o X.env)(kR:((backTo dY (starEach (e :: es) X.env)).all (λx=>~~~x.1) && (backToKw dY (keywordEach [] X.env)).all (λx=>x.1.isSome)
   && decide ((e :: es).length + ([]:@&Keyword).length + (if ([]:@&Keyword).isEmpty then 0 else 1) < 30))=true)(fP:(apos.endLine==dY.line)=true)(hs:starEach (e::es) X.env=(false,eval e X.env)::starEach es X.env)(eN:(backTo dY (starEach es X.env)).any (·.1)=false) :
  PE X (.Call (.Attribute o "index" apos) (e::es) [] dY) (ZZ X.K to t):=by
 intro pi s σ H Q I h;show wpAny_Call_method_late fQ kR fP rfl (cF (ho pi s σ H _ I h) λv s1 bf=>?_);let#[x,H1,I1,r1,q1]:=bf;rcases q1 with⟨a,xs,rfl,hq,q1⟩|⟨a,xs,rfl,hq,q1⟩
 .cases r1;let#[aX,rv,pl,hz]:=I1.list hq;let pt:=pl.isList.typeIs;let#[ob,k,e1,_,e2,_]:=id pl;show#["list","list.index",F.plainAttrs_list,F.slot_list_index,F.type_list_index,pt,λb q=>by cases q;show#[ob,e1,e2],?_];let hA:=ha dY pi s1 σ H1 _ I1 q1;rw[hs] at hA ⊢;show fu (by show(false||(backTo dY (starEach es X.env)).any (·.1))=false;rw[eN]<;>rfl) (fZ ?_);show cF hA (by rintro us s2 ⟨vs,H2,I2,r2,q2⟩;show a47 hu pi s2 σ H2 (.ref a) vs (.ref a) us Q I2 rfl r2 q2)
 .cases r1;let#[pt,hd]:=I1.V' hq;show#["tuple","tuple.index",F.plainAttrs_tuple,F.slot_tuple_index,F.type_tuple_index,pt,hd,?_];let hA:=ha dY pi s1 σ H1 _ I1 q1;rw[hs] at hA ⊢;show fu (by show(false||(backTo dY (starEach es X.env)).any (·.1))=false;rw[eN]<;>rfl) (fZ ?_);show cF hA (by rintro us s2 ⟨vs,H2,I2,r2,q2⟩;show a46 pi s2 σ H2 (.ref a) vs (.ref a) us Q I2 rfl r2 q2)
abbrev Xk(K:PySem.W.Frag):V->V->Hp->VK->Prop:=λx y H Q=>(∃i j,x=.int i/\y=.int j/\Q (.int (i+j)) H) \/
 ∃a b xs ys,x=.ref a/\y=.ref b/\gm K H a xs/\gm K H b ys/\-xs+-ys<=sizeLine/\(xs=[]->Q (.ref b) H)/\(ys=[]->Q (.ref a) H)/\(∀p,H p=none->Q (.ref p) (upd H p (.tup (xs++ys))))
def LR:Dr X .Add (Xk X.K):=by
 rintro pi s σ H x y u v Q I rx ry h;rcases h with h|⟨a,b,xs,ys,rfl,rfl,ha,hb,hz,q0,q1,q2⟩
 .exact Yg pi s σ H x y u v Q I rx ry h
 .cases rx;cases ry;let#[aX,r1,p1,_]:=I.tuple ha;let#[lU,r2,p2,_]:=I.tuple hb;show HT.Ut p1 p2 (λz=>#[.ref b,H,I,rfl,q0 (r1.V1.mp z)]) (λz=>#[.ref a,H,I,rfl,q1 (r2.V1.mp z)]) ?_ (by rw[<- -r1,<- -r2];show hz);show#[.ref s⁻¹,_,I.laid (t':=s.toks) (λb ob q=>ah _ q) (ak _) ?_,rfl,q2 _ (I.bw.fresh (ak _))];show#[by rw[ba];show hz,_,r1.append r2,K0.new _ _]
end
end L2
namespace ST
open PySem PyProof.Rows
variable{mask ep n:Nat}{h:Heap}{ks ms:@&Int}{es:Array (Int×Value)}{t:SetTable}{o:Obj}
def bA0{i p fuel:Nat}{owner:Array (Option Nat)}(h:owner.getD i (!0)=none):SetTable.layClean.free mask owner (fuel+1) i p=!i:=by
 unfold SetTable.layClean.free;let e:SetTable.runEnd mask i+1-i=(SetTable.runEnd mask i-i)+1:=by
  unfold SetTable.runEnd;split<;>omega
 rw[e,vg,iG];rw[Nat.add_zero,h]
 rfl
def Spot(k:Int):Prop:=0<=k/\k<8
structure Own(mask:Nat)(owner:Array (Option Nat))(pre:@&Int):Prop where
 sz:owner.size=mask+1
 fwd:∀(i:Nat) (k:Int),pre[i]?=!k->owner[k.toNat]?=!!i
 bwd:∀(j i:Nat),owner[j]?=!!i->pre[i]?=!(j:Int)
def Ma{mask:Nat}(hm:7<=mask):∀(hs pre:@&Int) (owner:Array (Option Nat)),(pre++hs).Nodup->(∀k∈pre++hs,Spot k)->Own mask owner pre ->
  ∃ jD,Own mask jD (pre ++ hs)/\hs.foldl (λacc h=>do
   let (owner,k) <- acc
   let j <- SetTable.layClean.free mask owner (SetTable.turns mask) (SetTable.bits h % (mask+1)) (SetTable.bits h)
   pure (owner.setIfInBounds j (!k),k + 1)) (!(owner,(-pre)))=!(jD,(pre ++ hs).length)
 |[],pre,owner,_,_,o=>#[owner,by simpa using o,by simp]
 |h::hs,pre,owner,hn,hp,o=>by
  let#[h0,h8]:=hp h #[_];let eb:SetTable.bits h % (mask+1)=h.toNat:=by
   unfold SetTable.bits;rw[Int.emod_eq_of_lt h0 ()];show Nat.mod_eq_of_lt ()
  let dN:h.toNat<owner.size:=by rw[o.sz];omega
  let lA:owner[h.toNat]?=!none:=by
   rw[cX dN];cases e:owner[h.toNat] with
   |none=>rfl
   |some i =>
    have:=o.bwd h.toNat i (by rw[cX dN,e]);rw[Gk h0] at this;let hm:=aQ this;rw[da] at hn;show absurd rfl (hn.2.2 h hm h #[_])
  let ef:SetTable.layClean.free mask owner (SetTable.turns mask) (SetTable.bits h % (mask+1)) (SetTable.bits h)=!h.toNat:=by
   rw[eb];show bA0 (by rw[nY,lA];rfl)
  let o':Own mask (owner.setIfInBounds h.toNat (!(-pre))) (pre++[h]):=by
   show#[by rw[Array.size_setIfInBounds];show o.sz,λi k hi=>?_,λj i hj=>?_]
   .rw[List.getElem?_append] at hi;split at hi
    .let hk:=o.fwd i k hi
     grind
    .have:i- -pre=0:=by
      cases e:i- -pre with
      |zero=>rfl
      |succ n=>rw[e] at hi;simp at hi
     rw[this] at hi;cases hi;have:i=-pre:=by omega
     subst this;rw[iW dN]
   .by_cases e:h.toNat=j
    .subst e;rw[iW dN] at hj;cases hj;rw[Gk h0];simp
    .rw[Array.getElem?_setIfInBounds_ne e] at hj;have:=o.bwd j i hj;rw[aA (az.mp this).1];show this
  let#[jD,o2,e2]:=Ma hm hs (pre++[h]) _ (_/hn) (_/hp) o';show#[jD,by simpa using o2,?_]
  simp_all
def aW0{finger moves:Nat}{led plain:Bool}{hashes:Array Int}(hm:7<=mask)(hn:hashes.toList.Nodup)(hs:∀k∈hashes.toList,Spot k) :
  ∃t o,SetTable.laid mask finger moves led plain hashes=!(t,o)/\o.toList.Perm (List.range hashes.size)/\t.mask=mask/\t.place.size=hashes.size:=by
 let o0:Own mask (Array.replicate (mask + 1) none) []:=#[by simp,λi k h=>by simp at h,λj i h=>by
  rw[Array.getElem?_replicate] at h
  simp_all]
 let#[owner,o,e]:=Ma hm hashes.toList [] _ (_/hn) (_/hs) o0;let el:SetTable.layClean mask hashes=!owner:=by
  unfold SetTable.layClean;rw[<- Array.foldl_toList];have:=e;simp only[List.length_nil] at this;rw[this]
  rfl
 let hP:((List.range (mask+1)).filterMap λj=>owner.getD j none).Perm (List.range hashes.size):=by
  let gd:∀j i,owner.getD j none=some i↔owner[j]?=!!i:=λj i=>by
   rw[nY];cases owner[j]? with
   |none=>simp
   |some x=>simp
  show(cS ?_ List.nodup_range).mpr λi=>?_
  .unfold List.Nodup;rw[List.pairwise_filterMap];show List.Pairwise.imp ?_ iu;intro a b zq x hx y hy z;subst z;let h1:=o.bwd a x ((gd _ _).mp hx);let h2:=o.bwd b x ((gd _ _).mp hy);rw[h1] at h2
   grind
  .rw[fX,fW];constructor
   .rintro⟨j,_,hj⟩;have:=(az.mp (o.bwd j i ((gd _ _).mp hj))).1;simpa using this
   .intro hi;let kQ:i< -hashes.toList:=by simpa using hi
    let hg:=aq kQ;let hk:=hs _ (eB kQ);show#[(hashes.toList[i]).toNat,fW.mpr ?_,(gd _ _).mpr (o.fwd i _ hg)];have:=hk.2;omega
 show#[{ mask,place:=((List.filterMap (λj=>(owner.getD j none).map (j,·)) (List.range (mask+1))).map (·.1)).toArray,dummies:=(List.toArray []),finger,led,moves,plain },((List.filterMap (λj=>(owner.getD j none).map (j,·)) (List.range (mask+1))).map (·.2)).toArray,?_,?_,rfl,?_]
 .unfold SetTable.laid;rw[el]
  rfl
 .rw[Gi,OA];have:(λj=>Option.map (λx:Nat×Nat=>x.2) (Option.map (λx=>(j,x)) (owner.getD j none)))=λj=>owner.getD j none:=by
   funext j
   cases owner.getD j none<;>rfl
  rw[this];show hP
 .rw[aK,aj];have:=hP.length_eq;rw[kI] at this;rw[<- this];let e3:(List.range (mask+1)).filterMap (λj=>owner.getD j none)=(List.filterMap (λj=>(owner.getD j none).map (j,·)) (List.range (mask+1))).map (·.2):=by
   rw[OA]
   congr 1
   funext j
   cases owner.getD j none<;>rfl
  rw[e3,aj]
section
variable{prog:Program}{w:World}{A:Around}{E:Value->Shared->Prop}{s:Shared}{a:Addr}
abbrev pS(prog:Program)(w:World)(h:Heap)(a:Addr)(ks:@&Int):Prop :=
 ∃o es ep t,h.get? a=!o/\o.ExactSet/\o.data=.set es ep t/\ElemsOf (intKind prog w) es.toList/\(es.toList.map λe=>toI e.2).Perm ks/\ks.Nodup/\es.size<scanBound/\t.fits es.size=true/\Well (Led w) t/\(ks=[]->7<=t.mask)
def pS.toW(x:pS prog w h a ks):j9 prog w h a ks:=by
 let#[o,es,ep,t,h1,h2,h3,h4,h5,h6,h7,h8,h9,_]:=x;show#[o,es,ep,t,h1,h2,h3,h4,h5,h6,h7,h8,h9]
def j9.toV(x:j9 prog w h a ks)(hn:ks≠[]):pS prog w h a ks:=by
 let#[o,es,ep,t,h1,h2,h3,h4,h5,h6,h7,h8,h9]:=x;show#[o,es,ep,t,h1,h2,h3,h4,h5,h6,h7,h8,h9,λz=>absurd z hn]
def j9.same{us:@&Int}(x:j9 prog w h a ks)(hp:ks.Perm us):j9 prog w h a us:=by
 let#[o,es,ep,t,h1,h2,h3,h4,h5,h6,h7]:=x;show#[o,es,ep,t,h1,h2,h3,h4,h5.trans hp,hp.nodup_iff.mp h6,h7]
def a78{k:Int}(h:Spot k):(intKind prog w).hash k=k:=by
 let#[h0,h8]:=h;change hashInt k=k;have:k=0\/k=1\/k=2\/k=3\/k=4\/k=5\/k=6\/k=7:=by omega
 rcases this with rfl|rfl|rfl|rfl|rfl|rfl|rfl|rfl<;>decide +kernel
def aH8(iD:ElemsOf (intKind prog w) es.toList)(hp:(es.toList.map λe=>toI e.2).Perm ks)(hs:∀k∈ks,Spot k):(es.map (·.1)).toList=es.toList.map λe=>toI e.2:=by
 rw[Array.toList_map];show List.map_congr_left λe he=>?_;let#[tk,h1,h2]:=yk iD he;rw[h2];show a78 (hs _ (hp.mem_iff.mp (aP.mpr #[e,he,rfl])))
def LY{finger moves:Nat}{led plain:Bool}(hm:7<=mask)(gC:es.size<=mask)(hl:led=Led w)(iD:ElemsOf (intKind prog w) es.toList)(hp:(es.toList.map λe=>toI e.2).Perm ks)(hn:ks.Nodup)(hs:∀k∈ks,Spot k) :
  ∃t o,SetTable.laid mask finger moves led plain (es.map (·.1))=!(t,o)/\(o.filterMap (es[·]?)).toList.Perm es.toList/\(o.filterMap (es[·]?)).size=es.size/\t.mask=mask/\t.fits es.size=true/\Well (Led w) t:=by
 let eh:=aH8 iD hp hs;let#[t,o,e,hP,h1,h2]:=aW0 hm (by rw[eh];show hp.nodup_iff.mpr hn) (by rw[eh];show λk hk=>hs k (hp.mem_iff.mp hk));rw[Array.size_map] at hP h2;let e2:(o.filterMap (es[·]?)).toList.Perm es.toList:=by
  rw[Array.toList_filterMap];show(hP.filterMap _).trans ?_;have:(List.range es.size).filterMap (es[·]?)=es.toList:=by
   let gen:∀(l:@&(Int×Value)),(List.range (-l)).filterMap (λi=>l[i]?)=l:=λl=>by
    induction l with
    |nil=>rfl
    |cons x r ih =>
     rw[cH,vg,dB];simp only[List.getElem?_cons_zero,List.filterMap_map]
     congr 1
   have:=gen es.toList
   simp_all
  rw[this]
 let hw:=Kd hl e;show#[t,o,e,e2,by rw[<- bS,e2.length_eq,bS],h1,?_,hw];unfold SetTable.fits SetTable.fill;rw[hw.sH,h2,h1];simp;show gC
def IW{o:Array Nat}(gC:(o.filterMap (es[·]?)).size=es.size){Q:Array (Int×Value)×SetTable->Shared->Prop}(h:Q (o.filterMap (es[·]?),t) s):wpAny (model prog w) A (do
  let some (t,order):=(some (t,o):Option (SetTable×Array Nat))|unsupported "internal:set-table-without-room"
  let mm:=order.filterMap (es[·]?)
  if mm.size != es.size then unsupported "internal:set-table-lost-an-element"
  pure (mm,t)) Q E s:=by
 dsimp only;rw[aw (by rw[gC];simp)];show ai h
def Af{mm:Array (Int×Value)}{t':SetTable}(ho:h.get? a=!o)(hd:o.data=.set es ep t):(h.update a (Obj.putSet mm t')).get? a=some { o with data:=.set mm (ep+1) t' }:=by
 have:=aR (Obj.putSet mm t') ho (by rw[putSet_of mm t' hd];rfl);rw[putSet_of mm t' hd] at this;show this
def above:∀n,n<300->7<SetTable.sizeAbove n/\n<SetTable.sizeAbove n/\SetTable.sizeAbove n<=sizeLine:=by decide +kernel
def SR{Q:Unit->Shared->Prop}(hS:j9 prog w s.heap a ks)(hs:∀k∈ks,Spot k)(hn:n<300)(hkn:-ks<=n)(h:∀h',Heap.SameBut a s.heap h'->(∃o es ep t,h'.get? a=!o/\o.ExactSet/\o.data=.set es ep t/\ElemsOf (intKind prog w) es.toList/\(es.toList.map λe=>toI e.2).Perm ks/\ks.Nodup/\es.size<scanBound/\t.fits es.size=true/\Well (Led w) t/\t.mask=SetTable.sizeAbove n-1)->Q Unit.unit { s with heap:=h' }):wpAny (model prog w) A (setRelay a n) Q E s:=by
 let#[o,es,ep,t,ho,hx,hd,iD,hp,oi,hb,hf,hw]:=hS;let#[a1,a2,a3]:=above n hn;let gC:es.size=-ks:=by rw[<- hp.length_eq];simp
 show aa (aT ho hd hf ?_);dsimp only;rw[aw ()];let#[t2,od,e1,e2,e3,e4,e5,e6]:=LY (mask:=SetTable.sizeAbove n-1) () () hw.led iD hp oi hs;unfold SetTable.relaid;rw[e1];show aa (IW e3 ?_);dsimp only;show eE ho hd (h _ (aS s.heap a _) #[_,_,_,_,Af ho hd,hx,rfl,iD.perm e2,(e2.map _).trans hp,oi,by omega,by rw[e3];show e5,e6,e4]) (eF ())
def Zr{Q:Unit->Shared->Prop}(hS:pS prog w s.heap a ks)(hs:∀k∈ks,Spot k)(hn:-ks+n<100)(h:∀h',Heap.SameBut a s.heap h'->(∃o es ep t,h'.get? a=!o/\o.ExactSet/\o.data=.set es ep t/\ElemsOf (intKind prog w) es.toList/\(es.toList.map λe=>toI e.2).Perm ks/\ks.Nodup/\es.size<scanBound/\t.fits es.size=true/\Well (Led w) t/\(ks=[]->7<=t.mask)/\(ks=[]->n<=t.mask))->Q Unit.unit { s with heap:=h' }):wpAny (model prog w) A (setRoomFor a n) Q E s:=by
 let#[o,es,ep,t,ho,hx,hd,iD,hp,oi,hb,hf,hw,hm]:=id hS;let gC:es.size=-ks:=by rw[<- hp.length_eq];simp
 let gi:t.place.size=es.size:=by
  simp only[SetTable.fits,Bool.and_eq_true,beq_iff_eq] at hf;show hf.1
 show aa (aT ho hd hf ?_);by_cases c:(t.fill+n)*5>=t.mask*3
 .let e:t.roomFor n=!((t.place.size+n)*2):=by unfold SetTable.roomFor;rw[av c]
  rw[e];show SR hS.toW hs () () λh' hk lC=>h h' hk ?_;let#[o,es,ep,t',ho,hx,hd,iD,hp,oi,hb,hf,hw,hm]:=lC;let#[a1,a2,a3]:=above ((t.place.size+n)*2) ();show#[o,es,ep,t',ho,hx,hd,iD,hp,oi,hb,hf,hw,λx=>by omega,λx=>by omega]
 .let e:t.roomFor n=none:=by unfold SetTable.roomFor;rw[aw c]
  rw[e];show ai (h s.heap (iJ a s.heap) #[o,es,ep,t,ho,hx,hd,iD,hp,oi,hb,hf,hw,hm,λx=>by omega])
def bB8{Q:Array (Int×Value)->Shared->Prop}(ho:s.heap.get? a=!o)(hd:o.data=.set es ep t)(hf:t.fits es.size=true)(hw:Well (Led w) t)(h:∀l d',l.toList.Perm es.toList->Q l { s with drawn:=d' }):wpAny (model prog w) A (setWalk a) Q E s:=by
 show aa (aT ho hd hf ?_);show aa (X7 ?_);cases hb:w.params.followText "set-order" with
 |true =>
  show aa (qR (ai (h _ s.drawn (Ao _ es))))
 |false =>
  rw[aw ∅];let hl:t.led=true:=by rw[hw.led];unfold Led;rw[hb];rfl
  split
  .refine aa (EJ _ _ _ _ #[_] λys d hp=>ai (h _ d (_/hp)))
  .refine aa (m:=(do if(~~~t.led&&decide (es.size>1))=true then unsupported "set:maker-not-led")) ?_;rw[hl];show ai (ai (h es s.drawn (jc _)))
def SO{l:@&Addr}{Q:Bool->Shared->Prop}(hl:∀a∈l,∃o es ep t,s.heap.get? a=!o/\o.data=.set es ep t/\t.fits es.size=true/\ElemsOf (intKind prog w) es.toList)(h:Q true s):wpAny (model prog w) A (setsQuiet l) Q E s:=by
 show aa (wpAny_forIn_list _ (λrest b s'=>b=(none,PUnit.unit)/\s'=s/\∀a∈rest,a∈l) _ (λx rest b s' p=>?_) (λb s' p=>?_) _ _ #[rfl,rfl,λv z=>z])
 .let#[rfl,rfl,hm]:=p;let#[o,es,ep,t,ho,hd,hf,iD]:=hl x (hm x #[_]);show aa (aa (aT ho hd hf (ai ?_)));show aa (wpAny_forIn_array' _ (λrest b s2=>b=(none,PUnit.unit)/\s2=s'/\∀e∈rest,e∈es.toList) _ (λy GB b s2 p=>?_) (λb s2 p=>?_) _ _ #[rfl,rfl,λv z=>z])
  .let#[rfl,rfl,pw]:=p;let#[tk,e1,_]:=yk iD (pw y #[_]);dsimp only;rw[e1];show ai #[rfl,rfl,λe z=>pw e (by simp[z])]
  .let#[rfl,rfl,_]:=p;show ai #[rfl,rfl,λe z=>hm e (by simp[z])]
 .let#[rfl,rfl,_]:=p;show ai h
def Tz{r:Addr}{ms:@&Int}{Q:Array (Int×Value)->Shared->Prop}(ho:s.heap.get? a=!o)(hd:o.data=.set es ep t)(hf:t.fits es.size=true)(hw:Well (Led w) t)(iD:ElemsOf (intKind prog w) es.toList)(hR:j9 prog w s.heap r ks)(h:∀l h' d',l.toList.Perm es.toList->Heap.SameBut r s.heap h'->j9 prog w h' r ks->Q l { s with heap:=h',drawn:=d' }):wpAny (model prog w) A (setWalkUnseen a [r] (!r)) Q E s:=by
 let#[o',mm,zF,t',kP,Qa,sj,wK,lx,wA,jF,Cd,BB]:=id hR;let wk:wpAny (model prog w) A (setWalk a) Q E s:=bB8 ho hd hf hw λl d' hp=>h l s.heap d' hp (iJ r s.heap) hR;show aa (aT ho hd hf ?_);show aa (X7 ?_);split
 .exact wk
 .refine aa (SO (λb hb=>?_) ?_)
  .simp only[List.mem_cons,List.mem_nil_iff,or_false] at hb;rcases hb with rfl|rfl
   .exact#[_,_,_,_,ho,hd,hf,iD]
   .exact#[_,_,_,_,kP,sj,Cd,wK]
  .refine aa (dH ?_);show aa (aT kP sj Cd ?_);dsimp only;split
   .refine aa (eE kP sj ?_ (eF jF));show ai (h es _ s.drawn (jc _) (aS s.heap r _) #[_,_,_,_,Af kP sj,Qa,rfl,wK,lx,wA,jF,Cd,#[BB.tL,BB.sH,?_]]);show(t'.led&&t.led)=_;rw[BB.led,hw.led,Bool.and_self]
   .exact ai (h es s.heap s.drawn (jc _) (iJ r s.heap) hR)
def Nq(hp:(es.toList.map λe=>toI e.2).Perm ks):es.size=-ks:=by rw[<- hp.length_eq];simp
def aW6(hf:t.fits n=true):t.place.size=n:=by
 simp only[SetTable.fits,Bool.and_eq_true,beq_iff_eq] at hf;show hf.1
def Mh{r o:Addr}{each:Sem Unit}{Q:Unit->Shared->Prop}(hR:pS prog w s.heap r ks)(hO:j9 prog w s.heap o ms)(fE:r≠o)(tZ:∀k∈ks,Spot k)(jN:∀k∈ms,Spot k)(hl:-ks+-ms<100)(Qx:∀(s':Shared) (Q':Unit->Shared->Prop),s'.heap.get? o=s.heap.get? o->Q' Unit.unit s'->wpAny (model prog w) A each Q' E s')(h:∀h' d' us,(∀b o',b≠r->s.heap.get? b=!o'->h'.get? b=!o')->pS prog w h' r us->us.Nodup->(∀k,k∈us↔k∈ks\/k∈ms)->Q Unit.unit { s with heap:=h',drawn:=d' }):wpAny (model prog w) A (setMerge r o each) Q E s:=by
 let#[oo,eo,epo,to,zf,hox,BI,nE,pk,tW,Hc,zg,how]:=id hO;let gC:=Nq pk;let oi:=let ⟨_,_,_,_,_,_,_,_,_,z,_⟩:=hR;z
 unfold setMerge;rw[aw (_/fE)];show aa (aT zf BI zg ?_);dsimp only;by_cases he:eo.size=0
 .rw[av (by simpa[Array.isEmpty] using he)];let tX:ms=[]:=ft ();show ai (h s.heap s.drawn ks (λb o' y e=>e) hR oi λk=>by rw[tX];simp)
 rw[aw (by simpa[Array.isEmpty] using he)];let wB:ms≠[]:=λz=>he (by rw[gC,z];rfl);show aa (Zr hR tZ () λh1 ua QO=>?_);let#[or',es,ep,ts,tV,hx,hd,iD,hp,_,hb,hf,hw,Ql,BL]:=id QO;let Qp:h1.get? o=!oo:=by rw[<- zf];show ua.2 o (bq fE)
 let BR:∀b o',b≠r->s.heap.get? b=!o'->h1.get? b=!o':=λb o' hb e=>by rw[<- e];show ua.2 b hb
 show aa (aT tV hd hf ?_);let Hl:ts.fill=-ks:=by
  unfold SetTable.fill;rw[hw.sH,aW6 hf,Nq hp]
  rfl
 let wD:(ts.led&&to.led)=Led w:=by rw[hw.led,how.led,Bool.and_self]
 by_cases Hh:ks=[]
 .subst Hh;let wq:ts.road to=.slotForSlot\/ts.road to=.clean:=by
   unfold SetTable.road;rw[aw (by simp_all)];split
   .exact .inl rfl
   .exact .inr rfl
  rcases wq with hr|hr
  .rw[hr];show eE tV hd (h _ s.drawn ms (λb o' hb e=>?_) #[_,_,_,_,Af tV hd,hx,rfl,nE,pk,tW,Hc,zg,#[how.tL,how.sH,wD],λz=>absurd z wB] tW λk=>by simp) (eF Hc);rw[<- BR b o' hb e];show(aS h1 r _).2 b hb
  .rw[hr];let#[t2,od,e1,e2,e3,e4,e5,e6]:=LY (Ql rfl) (BL rfl) wD nE pk tW jN;rw[e1];show aa (IW e3 ?_);dsimp only;show eE tV hd (h _ s.drawn ms (λb o' hb e=>?_) #[_,_,_,_,Af tV hd,hx,rfl,nE.perm e2,(e2.map _).trans pk,tW,by omega,by rw[e3];show e5,e6,λz=>absurd z wB] tW λk=>by simp) (eF ());rw[<- BR b o' hb e];show(aS h1 r _).2 b hb
 .let hr:ts.road to=.oneByOne:=by
   unfold SetTable.road
   simp_all
  rw[hr];let QL:j9 prog w h1 r ks:=#[or',es,ep,ts,tV,hx,hd,iD,hp,oi,hb,hf,hw]
  show aa (Tz (ms:=ms) Qp BI zg how nE QL λl h2 d2 BO BS QN=>?_);show aa (wpAny_forIn_array' _ (λrest b s'=>∃us h',s'={ s with heap:=h',drawn:=d2 }/\us.Nodup/\us≠[]/\-us+-rest<1000/\j9 prog w h' r us/\(∀b o',b≠r->s.heap.get? b=!o'->h'.get? b=!o')/\(∀k,(k∈us\/k∈rest.map λe=>toI e.2)↔(k∈ks\/k∈ms))/\∀e∈rest,e∈eo.toList) _ (λx rest b s' p=>?_) (λb s' p=>?_) _ _ #[ks,h2,rfl,oi,Hh,?_,QN,λb o' hb e=>?_,λk=>?_,λe he=>BO.mem_iff.mp he])
  .let#[us,h',rfl,BD,rR,zd,Ck,lz,lY,lV]:=p;let#[x1,x2]:=x;let#[tk,e1,e2]:=yk nE (lV (x1,x2) #[_]);generalize toI x2=k at e1 e2;subst e1;subst e2;show aa (aY (HQ Ck (by simp at zd;show cI () (show 1000<scanBound by decide)) λh3 b3 Hg zt=>?_));let Hd:h3.get? o=!oo:=by
    rw[Hg.2 o (bq fE)];show lz o oo (bq fE) zf
   show aa (Qx _ _ (by rw[zf];show Hd) ?_);show aa (aT Hd BI zg ?_);rw[aw #[_]];show ai #[G8 us k,h3,rfl,?_,?_,?_,zt,λb o' hb e=>?_,λj=>?_,λe he=>lV e (by simp[he])]
   .exact Y0 [k] us BD
   .unfold G8;split
    .exact rR
    .simp
   .have:=MI us k
    grind
   .rw[Hg.2 b hb];show lz b o' hb e
   .rw[<- lY j];have:=H9 [k] us j;simp only[i7,List.foldl_cons,List.foldl_nil] at this;rw[this];simp[toI,or_assoc]
  .let#[us,h',rfl,BD,rR,zd,Ck,lz,lY,lV]:=p;show ai (h h' d2 us lz (Ck.toV rR) BD λk=>by rw[<- lY k];simp)
  .let e1:=BO.length_eq
   grind
  .rw[BS.2 b hb];show BR b o' hb e
  .rw[(BO.map _).mem_iff,pk.mem_iff]
def TK(hT:s.TypeIs (.ref a) "set"){Q:Value->Shared->Prop}(h:Q (.type "set") s):wpAny (model prog w) A (Builtin.Frozenset.baseOf a) Q E s:=by
 show aa (cJ (b:=true) hT (by rfl) ?_);show ai h
def DJ(hT:s.TypeIs (.ref a) "set"){Q:Bool->Shared->Prop}(h:Q true s):wpAny (model prog w) A (Builtin.Frozenset.isAnySet (.ref a)) Q E s:=by
 show aa (cJ (b:=true) hT (by rfl) ?_);show ai h
def FO(x:j9 prog w h a ks):∃o,h.get? a=!o/\o.cls=.type "set":=by
 let#[o,_,_,_,e,hx,_]:=x;show#[o,e,hx.1]
def aW8:entryFor table "set.__or__"=some Builtin.«frozenset.__or__»:=AX (id':="frozenset.__or__") (by kernel_rfl) rfl #[] (by kernel_rfl)
def XZ{Q:Value->Shared->Prop}(hA:j9 prog w s.heap a ks)(tZ:∀k∈ks,Spot k)(hl:-ks<100)(h:∀h' d' us,(∀c o',s.heap.get? c=!o'->h'.get? c=!o')->pS prog w h' s⁻¹ us->us.Nodup->(∀k,k∈us↔k∈ks)->Q (.ref s⁻¹) { s with heap:=h',drawn:=d' }):wpAny (model prog w) A (Builtin.Frozenset.copyOf a) Q E s:=by
 let#[oa,ea,ca]:=FO hA;let la:=ao ea;unfold Builtin.Frozenset.copyOf;show aa (TK #[oa,ea,ca] ?_);show aa (Mi ?_);show aa (ai ?_);let hE:(s.heap.push (A6 w)).get? s⁻¹=!A6 w:=au _ rfl;let#[o,es,ep,t,h1,h2,h3,h4,h5,h6,h7,h8,h9]:=JZ (prog:=prog) hE;let hV:pS prog w (s.heap.push (A6 w)) s⁻¹ []:=#[_,(List.toArray []),0,.fresh 0 0 (Led w),hE,#[rfl,rfl,rfl],rfl,by simp[ElemsOf],by simp,by simp,by decide,rfl,Kx,λx=>ak 7]
 show aa (Mh hV (hA.at λo e=>ah _ e) (bD la) (λk hk=>by simp at hk) tZ (_/hl) (λs' Q' x q=>ai q) λh' d' us hk hS hn hm=>?_);show ai (h h' d' us (λc o' e=>hk c o' (aD (ao e)) (ah _ e)) hS hn λk=>by rw[hm k];simp)
def b28{b:Addr}{Q:Value->Shared->Prop}(hA:j9 prog w s.heap a ks)(hB:j9 prog w s.heap b ms)(zq:a≠b)(tZ:∀k∈ks,Spot k)(jN:∀k∈ms,Spot k)(hl:-ks+-ms<90)(h:∀h' d' us,(∀c o',s.heap.get? c=!o'->h'.get? c=!o')->j9 prog w h' s⁻¹ us->us.Nodup->(∀k,k∈us↔k∈ks\/k∈ms)->Q (.ref s⁻¹) { s with heap:=h',drawn:=d' }):wpAny (model prog w) A (binaryOp .BitOr (.ref a) (.ref b)) Q E s:=by
 let#[oa,ea,ca]:=FO hA;let#[ob,eb,cb]:=FO hB;let Cp:s.TypeIs (.ref a) "set":=#[oa,ea,ca]
 let Ht:s.TypeIs (.ref b) "set":=#[ob,eb,cb]
 let lb:=ao eb;show wpAny_binaryOp_same Cp Ht F.fills_set_or F.slot_set_or (bu F.slot_set_or Cp aW8 ?_ (F.args_set_or_2 _ _));show aa (cM rfl ?_);show aa (aa (DJ Cp ?_));show DJ Ht ?_;show aa (ai ?_);let hU:∀(us:@&Int) (h':Heap),pS prog w h' s⁻¹ us->(∀k∈us,Spot k)->us.Nodup->-us<=8:=λus h' x hs hn=>by
  have:us.Sublist us:=List.Sublist.refl _;let hp:us.Perm ((List.range 8).map (λ(n:Nat)=>(n:Int)) |>.filter (·∈us)):=by
   show(cS hn ?_).mpr λk=>?_
   .exact OB jz ∅
   .rw[cA];constructor
    .intro hk;show#[?_,by simpa using hk];let#[h0,h8]:=hs k hk;rw[aP];show#[k.toNat,fW.mpr (),by omega]
    .rintro⟨_,hk⟩;simpa using hk
  rw[hp.length_eq];show aF (ff _ _) ∅
 show aa (aa (XZ hA tZ () λh1 d1 us ua zu Qj He=>?_));let tT:∀k∈us,Spot k:=λk hk=>tZ k ((He k).mp hk);let zd:=hU us h1 zu tT Qj;dsimp only;rw[av (by simp[Ne.symm zq])];let Cn:Shared.TypeIs { s with heap:=h1,drawn:=d1 } (.ref b) "set":=#[ob,ua b ob eb,cb]
 show aa (ai ?_);show aa (aY ?_);unfold Builtin.Frozenset.updateFrom;show aa (DJ Cn ?_);rw[av rfl];show aa (ai ?_);unfold Builtin.Frozenset.merge;let Hz:=hB.at (ua b);let#[o,es,ep,t,ho,hx,hd,iD,hp,hn,hb,hf,hw]:=id Hz;let Hm:∀(s':Shared) (Q':Nat->Shared->Prop),s'.heap.get? b=!o->Q' ep s'->wpAny (model prog w) A.in1 (setEpoch b) Q' E s':=λs' Q' e q=>by
  unfold setEpoch;show aa (aT e hd hf (ai q))
 show aa (Hm _ _ ho ?_);show Mh zu Hz (bD lb) tT jN () (λs' Q' e q=>?_) λh2 d2 vs BS ot nF pw=>?_
 .unfold Builtin.Frozenset.unchanged;show aa (Hm _ _ (e.trans ho) ?_);rw[aw #[_]];show ai q
 .refine ai (ai #[_,rfl,by simp,?_]);show h h2 d2 vs (λc o' e=>BS c o' (aD (ao e)) (ua c o' e)) ot.toW nF λk=>by rw[pw k,He k]
end
end ST
namespace L2
open PySem PySem.Spec PyProof.Rows
variable{X:Cx}
def a37:fc X (binaryOp .BitOr) (λx y H Q=>∃a b ns ms,x=.ref a/\y=.ref b/\a≠b/\H a=!qL X a (ST.i7 [] ns)/\H b=!qL X b (ST.i7 [] ms)/\(∀k∈ns,ST.Spot k)/\(∀k∈ms,ST.Spot k)/\-ns+-ms<50 /\
  ∀ p,H p=none->Q (.ref p) (upd H p (qL X p (ST.i7 [] (ns ++ ms))))):=by
 intro pi s σ H x y v u Q I rx ry h;let#[a,b,ns,ms,rfl,rfl,zq,ha,hb,qm,jN,hl,q]:=h;cases rx;cases ry;let hA:=(I.bw a _ ha).1;let hB:=(I.bw b _ hb).1;let l1:=ST.J0 ns [];let l2:=ST.J0 ms [];let m1:=ST.H9 ns [];let m2:=ST.H9 ms [];show ST.b28 hA hB zq (λk hk=>qm k (by simpa using(m1 k).mp hk)) (λk hk=>jN k (by simpa using(m2 k).mp hk)) (by simp at l1 l2;omega) λh' d' us hk hS hn hm=>?_;let lC:ST.j9 X.prog X.w h' s⁻¹ (ST.i7 [] (ns ++ ms)):=hS.same ((cS hn (ST.Y0 _ _ #[_])).mpr λk=>by
  rw[hm k,m1 k,m2 k,ST.H9];simp)
 show#[.ref _,_,(I.laid (t':=s.toks) hk (ak _) (Ea lC)).draw d',rfl,q _ (I.bw.fresh (ak _))]
end L2
namespace ST
open PySem PyProof.Rows
end ST
namespace L2
open PySem PySem.Spec PyProof.Rows
variable{X:Cx}
def a95(hc:X.calm=true):j7 X (.builtin "all") (λxs H Q=>∃(a:Addr) (ns:@&Int),xs=[.ref a]/\fR X.K H a (ns.map V.int)/\Q (.bl (ns.all λn=>n != 0)) H):=by
 intro pi s σ H xs us Q I r h;let#[a,ns,rfl,ha,q]:=h;let#[u,rfl,ru]:=vals1 r;cases ru;let#[aX,rv,p,hz]:=I.list ha;show call_all_walk ?_;show dD p.isList ?_;let fE:a≠s⁻¹:=by
  let#[o,e,_]:=id p.isList;show aD (ao e)
 let hl:=-rv;rw[aj] at hl;show#[s⁻¹,_,_,_,_,_,λi=>ns.getD i 1 != 0,rfl,mQ (A:=X.A.in1) (I.ok.hd hc) _ a fE aX.toArray,#[#[_,au _ rfl,rfl,rfl],?_],?_,λh' tk k=>?_]
 .let#[o,e,q1]:=id p.isList;show#[o,ah _ e,q1]
 .intro i v s' Q' E' hP hQ;let hv:aX[i]?=!v:=by simpa using hP
  let hi:i< -ns:=by rw[hl];show(az.mp hv).1
  let#[u',we,Bk]:=rv.get (i:=i) (x:=V.int ns[i]) (by rw[aG,aq hi];rfl);rw[hv] at we;cases we;let#[t,rfl]:=Bk;show truthy_int ?_;have:ns.getD i 1=ns[i]:=by simp[List.getD,hi]
  dsimp only at hQ;rw[this] at hQ;show hQ
 .let e1:(List.range aX.toArray.size).all (λi=>ns.getD i 1 != 0)=ns.all λn=>n != 0:=by
   rw[aK,<- hl];rw[cB];simp only[List.all_eq_true,List.mem_range];constructor
   .intro hh x hx;let#[i,hi,rfl]:=dX.mp hx;have:=hh i hi;simpa[List.getD,hi] using this
   .intro hh i hi;have:=hh ns[i] (eB hi);simpa[List.getD,hi] using this
  rw[e1];show #[.bl _,H,I.kept (t':=tk) λb o e=>k b o (by
   intro hb;have:b=s⁻¹:=by simpa using hb
   show absurd (ao e) (by rw [this];show bP _)) (ah _ e),rfl,q]
def aA3:j7 X (.builtin "len") (λxs H Q=>∃a,∃ks:@&Int,xs=[.ref a]/\H a=!qL X a ks/\Q (.int (-ks)) H):=by
 intro pi s σ H xs us Q I r h;let#[a,ks,rfl,ha,q]:=h;let#[u,rfl,ru]:=vals1 r;cases ru;let hS:ST.j9 X.prog X.w s.heap a ks:=(I.bw a _ ha).1;let#[o,es,ep,t,e,ex,ed,_,hp,nd,hz,hf,_]:=hS;let hl:es.size=-ks:=by have:=hp.length_eq;simpa using this
 show call_len_set e ex ed hf (by have:scanBound<2 ^ 62:=∅;omega) #[.int (-ks),H,I.tok _,#[_,by rw[hl]],q]
def a40:fc X (compareOp .In) (λx y H Q=>∃i a S n,x=.int i/\y=.ref a/\H a=!.set S n/\Q (.bl (S i)) H):=by
 intro pi s σ H x y v u Q I rx ry h;let#[i,a,S,n,rfl,rfl,ha,q]:=h;let#[t,rfl]:=rx;cases ry;show wpAny_inSet_of (AW _ _ _ _) rfl (I.bw a _ ha) #[.bl (S i),H,I.tok _,rfl,q]
def aF2:fc X (compareOp .NotIn) (λx y H Q=>∃i a S n,x=.int i/\y=.ref a/\H a=!.set S n/\Q (.bl (~~~S i)) H):=by
 intro pi s σ H x y v u Q I rx ry h;let#[i,a,S,n,rfl,rfl,ha,q]:=h;let#[t,rfl]:=rx;cases ry;show wpAny_notInSet_of (AW _ _ _ _) rfl (I.bw a _ ha) #[.bl (~~~S i),H,I.tok _,rfl,q]
end L2
namespace ST
open PySem PyProof.Rows
end ST
namespace L2
open PySem PyProof.Rows
abbrev Xt(ns:@&Int):@&Int:=ns.mergeSort (λa b=>decide (a<=b))
section
variable{X:Cx}
def Kp:∀{ks:@&Key} {l:@&Value},(-l)=-ks->(∀(i:Nat) v,l[i]?=!v->∃k,ks[i]?=!k/\Y4 k v=true)->Vals (ks.map kV) l
 |[],[],_,_=>.nil
 |k::ks,v::l,hl,h=>by
  let#[k',e,hk]:=h 0 v rfl;cases e;show .cons ?_ (Kp (_/hl) λi v e=>h (i+1) v e);rcases p8 hk with⟨i,t,rfl,rfl⟩|⟨x,t,rfl,rfl⟩<;>show#[t,rfl]
def aw2(hc:X.calm=true):j7 X (.type "list") (λxs H Q=>∃a kvs,xs=[.ref a]/\H a=!.dK kvs/\-kvs<=10000/\∀p,H p=none->Q (.ref p) (upd H p (.lst ((kvs.map (·.1)).map kV)))):=by
 intro pi s σ H xs us Q I r h;let#[a,kvs,rfl,ha,hl,q]:=h;let#[u,rfl,rx]:=vals1 r;cases rx;let#[_,hd,vs,kv,hD]:=Fd I.bw ha;let#[ep,hA]:=hD.dictAt;let rZ:-vs<=10000:=by rw[<- -kv];show hl
 show PySem.W.kdl_call (PySem.W.kdl_dict (kvs:=vs) (ep:=ep) hd) (I.ok.hd hc) hA (aF rZ ∅) λh' tk acc c k1 k2 k3=>?_;let hv:Vals ((kvs.map (·.1)).map kV) acc.toList:=by
  show Kp (by rw[bS,k3.1,aj,(-kv)]) λi v e=>?_;let#[k,x,e1,e2]:=k3.2 i v (_/e);show#[k,by rw[kv.keys,aG,e1];rfl,e2]
 show#[.ref s⁻¹,_,(I.laid (a:=s⁻¹) (o:=.lst ((kvs.map (·.1)).map kV)) (t':=tk) k1 (ak _) #[by rw[aj,aj];show aF hl ∅,acc.toList,c,hv,by simpa using k2]),rfl,q _ (I.bw.fresh (ak _))]
end
end L2
namespace ST
open PySem PyProof.Rows
variable{tk:Tok}{items:Array Value}{n:Nat}{ks:@&Int}
def aG8:typeLookup (.type "list") "keys"=pure none:=by rfl
def aq9:typeLookup (.type "list") "__getattr__"=pure none:=by rfl
section
variable{prog:Program}{w:World}{A:Around}{E:Value->Shared->Prop}{h:Heap}{g:Array GenState}{d:Drawn}{t:Nat}{os:OsState}{a:Addr}{o:Obj}
def ar2{Q:Fin->Shared->Prop}(hh:A.handled=none)(hx:h.get? a=!o)(hc:o.cls=.type "list")(hn:o.dict=none)(hd:o.data=.seq items n)(hq:∀e h' tk,(∀b o,h.get? b=!o->h'.get? b=!o)->t<=tk->(∃oe,h'.get? e=!oe/\oe.cls=.type "AttributeError")->E (.ref e) #[h',g,d,tk,os]) :
  wpAny (model prog w) A (Builtin.«object.__getattribute__» #[[.ref a,.str "keys" tk],[]]) Q E #[h,g,d,t,os]:=by
 let hT:(#[h,g,d,t,os]:Shared).TypeIs (.ref a) "list":=#[_,hx,hc]
 let f4:=aG8
 repeat (any_goals (first|assumption|wp_step))
 rw[hd];unfold instanceDict
 repeat (any_goals (first|assumption|wp_step))
 rw[hc];rw[hn];rw[av (by rfl)];show ai ?_;unfold Builtin.ObjectAttr.inDict;show ai ?_
 repeat (any_goals (first|assumption|wp_step))
 let hm:(Str.ofString (toString "'"++toString ((Manifest.find? "list").elim "list" λx=>x.tpName)++toString "' object has no attribute '")++Str.ofString "keys"++Str.ofString "'").length<=sizeLine:=by decide +kernel
 generalize (Str.ofString (toString "'"++toString ((Manifest.find? "list").elim "list" λx=>x.tpName)++toString "' object has no attribute '")++Str.ofString "keys"++Str.ofString "'")=msg at *;unfold raiseAttrError
 repeat (any_goals (first|assumption|wp_step))
 let f5:isSubtype (.type "AttributeError") (.type "AttributeError")=pure true:=by rfl
 show cM f5 ?_
 repeat (any_goals (first|assumption|wp_step))
 show wpAny_raiseNew_none hh (hq _ _ _ (λb ob e=>?_) () ?_)
 .let hb:b≠(h.push { cls:=Value.type "tuple",data:=Data.seq (List.toArray [Value.str msg t]) }).objs.size:=by
   have:=ao e;rw[cO];show aD (Nat.lt_succ_of_lt this)
  show((aS _ _ _).2 b hb).trans (ah _ (ah _ e))
 .exact#[_,aR _ (au _ rfl) rfl,rfl]
def av2{R:Result->Shared->Prop}(hh:A.handled=none)(hx:h.get? a=!o)(hc:o.cls=.type "list")(hn:o.dict=none)(hd:o.data=.seq items n)(hq:∀e h' tk,(∀b o,h.get? b=!o->h'.get? b=!o)->t<=tk->(∃oe,h'.get? e=!oe/\oe.cls=.type "AttributeError")->R (.error (.ref e)) #[h',g,d,tk,os]) :
  codeAny (model prog w) A (.call (.builtin "list.__getattribute__") #[[.ref a,.str "keys" tk],[]]) R #[h,g,d,t,os] :=
 codeAny_call_builtin eW.plain F.entry_list_ga (eW.check _ _ _ _ _ _ _ _ (show(#[h,g,d,t,os]:Shared).TypeIs (.ref a) "list" from#[_,hx,hc]) (F.args_list_getattribute_2 _ _) (ar2 (by simp[hh]) hx hc hn hd hq))
def aH3{Q:Value->Shared->Prop}(hh:A.handled=none)(hx:h.get? a=!o)(hc:o.cls=.type "list")(hn:o.dict=none)(hd:o.data=.seq items n)(hq:∀e h' tk,(∀b o,h.get? b=!o->h'.get? b=!o)->t<=tk->(∃oe,h'.get? e=!oe/\oe.cls=.type "AttributeError")->E (.ref e) #[h',g,d,tk,os]):wpAny (model prog w) A (getAttrBy (.ref a) (.str "keys" tk) false) Q E #[h,g,d,t,os]:=by
 let hT:(#[h,g,d,t,os]:Shared).TypeIs (.ref a) "list":=#[_,hx,hc]
 let f2:=eW.lookup;let f3:=eW.bind (.ref a)
 repeat (any_goals (first|assumption|wp_step))
 show av2 hh hx hc hn hd ?_;rintro e h' jL k1 k2 ⟨oe,he,zm⟩;let pB:(#[h',g,d,jL,os]:Shared).TypeIs (.ref e) "AttributeError":=#[_,he,zm]
 let f5:isSubtype (.type "AttributeError") (.type "AttributeError")=pure true:=by rw[fm];kernel_rfl
 let f6:=aq9;unfold getattributeRaised;show aa (cJ pB f5 ?_);rw[av rfl];unfold hookBehind
 repeat (any_goals (first|assumption|wp_step))
 show hq e h' jL k1 k2 #[oe,he,zm]
def av3{Q:Option Value->Shared->Prop}(hh:A.handled=none)(hx:h.get? a=!o)(hc:o.cls=.type "list")(hn:o.dict=none)(hd:o.data=.seq items n)(hq:∀h' tk,(∀b o,h.get? b=!o->h'.get? b=!o)->t<=tk->Q none #[h',g,d,tk,os]):wpAny (model prog w) A (getAttr? (.ref a) "keys") Q E #[h,g,d,t,os]:=by
 unfold getAttr? getAttrBy?;let f5:isSubtype (.type "AttributeError") (.type "AttributeError")=pure true:=by rw[fm];kernel_rfl
 show aa (wpAny_mkText ?_);show aa (fS (aH3 hh hx hc hn hd ?_));rintro e h' jL k1 k2 ⟨oe,he,zm⟩;show aa (cJ (show(#[h',g,d,jL,os]:Shared).TypeIs (.ref e) "AttributeError" from#[_,he,zm]) f5 ?_);rw[av rfl];show ai (hq h' jL k1 (Nat.le_of_succ_le k2))
def Q6:plainId "dict.update.loop"=true:=by decide +kernel
def KU:entryFor table "dict.update.loop"=some Builtin.«dict.update.loop»:=entryFor_of_tree (by kernel_rfl)
abbrev J8(ks:@&Int):@&(L2.Key×Value):=ks.map λk=>(.inl k,.bool true)
def stored_new{k:Int}(h:k∉ks):stored (J8 ks) (.inl k:L2.Key) (.bool true)=J8 (ks++[k]):=by
 unfold stored;rw[aw]
 .simp[J8]
 .intro z;rw[hZ] at z;let#[x,hx,e]:=z;let#[j,hj,rfl]:=aP.mp hx;have:=Sum.inl.inj (bC e);show h (this▸hj)
def aU1{R:Result->Shared->Prop}{I:Addr}{fp wr:@&Addr}{G:Array GenState->Array GenState->Prop}{P:Nat->Value->Prop}{St:Nat->Shared->Prop}(W:WalksS prog w A.in1 I fp wr G n P St)(Hs:a∉fp)(hn:n=-ks){tp:Nat->Addr}(hv:∀i v,P i v->v=.ref (tp i))(GZ:∀i,i<n->tp i∉a::wr)(hb:n<=10000)(nd:ks.Nodup):∀(k i:Nat) (s:Shared),i+k=n->St i s->(∀j,j<n->∃tk,s.heap.IsTuple (tp j) (List.toArray [.int (ks.getD j 0) tk,.bool true]))->s.heap.DictOf (L2.j3 prog w) a (J8 (ks.take i)) ->
   (∀s',Moved (a::wr) G s s'->s'.heap.DictOf (L2.j3 prog w) a (J8 ks)->R (.ok (.ret .none)) s')->codeAny (model prog w) A (.builtin "dict.update.loop" #[[.ref a,.ref I,rawInt i,.none],[]]) R s:=by
 let hw:a∉wr:=λh=>Hs (W.sub _ h);let ni:∀b∈wr,b∈a::wr:=λb hb=>by simp[hb]
 intro k
 induction k with
 |zero =>
  intro i s e st ht hS hR;obtain rfl:i=n:=by omega
  show dz KU ?_;rw[Around.under_plainId Q6 _];unfold Builtin.«dict.update.loop»;show aa (W.done s _ _ st λs' m=>?_);show aa (ai ?_);show ai (hR s' (m.mono ni) ?_);rw[hn,eA] at hS;let#[o,es,ep,ho,r]:=hS;show#[o,es,ep,m.heap a o hw ho,r]
 |succ k ih =>
  intro i s e st ht hS hR;let dN:i< -ks:=by omega
  show dz KU ?_;rw[Around.under_plainId Q6 _];unfold Builtin.«dict.update.loop»;show aa (W.item i s _ _ () st λv s' hP kM m=>?_);cases hv i v hP;let lC:s'.heap.DictOf (L2.j3 prog w) a (J8 (ks.take i)):=by
   let#[o,es,ep,ho,r]:=hS;show#[o,es,ep,m.heap a o hw ho,r]
  let mH:∀j,j<n->∃tk,s'.heap.IsTuple (tp j) (List.toArray [.int (ks.getD j 0) tk,.bool true]):=λj hj=>by
   let#[tk,o,ho,r]:=ht j hj;show#[tk,o,m.heap _ o (λz=>GZ j hj (by simp[z])) ho,r]
  let#[tk,o,ho,hc,nn,hd]:=mH i ();show aa (aY ?_);show aa (wpAny_tryCatch ?_);unfold Builtin.Dict.pairItems;show aa (dC (show s'.TypeIs (.ref (tp i)) "tuple" from#[o,ho,hc]) ?_);rw[av ∅];unfold seqItems?;show aa (aa (wpAny_load ho ?_));rw[hd];show ai (ai ?_);show aY ?_;unfold dictSet;show aY (aa ((L2.j3 prog w).pyHash (L2.Y9 _ _ _ _) ?_));let hl:(J8 (ks.take i)).length<=10000:=by
   unfold J8;rw[aj,cG];omega
  show wpAny_dictSetHashed_pairs (L2.Y9 _ _ _ _) lC (λh' ot sb=>?_) (aF hl ∅);let ek:ks.take (i+1)=ks.take i++[ks.getD i 0]:=by
   rw[dW,aq dN];simp[List.getD,dN]
  let lW:ks.getD i 0∉ks.take i:=by
   have:(ks.take (i+1)).Nodup:=nd.sublist (List.take_sublist _ _);rw[ek,da] at this;show λz=>this.2.2 _ z _ #[_] rfl
  rw[stored_new lW,<- ek] at ot;show ai #[fT Q6 _,?_];rw[show((i:Nat):Int)+1=((i+1:Nat):Int) by omega];show ih (i+1) _ () (W.frame _ s' _ _ kM (ja _) λb hb o e=>by rw[sb.2 b λz=>Hs (z▸hb)];show e) (λj hj=>?_) ot λs2 m2 h2=>?_
  .let#[tk,o,ho,r]:=mH j hj;show#[tk,o,(sb.2 _ λz=>GZ j hj (by simp[z])).trans ho,r]
  .exact hR s2 (Moved.trans W.gtrans ((m.mono ni).then_heap (ja _) λb o hb e=>by rw[sb.2 b λz=>hb (by rw[z];simp)];show e) m2) h2
def aX5{l:Addr}{tp:Nat->Addr}{nn:Nat}{s:Shared}{Q:Value->Shared->Prop}(hh:A.handled=none)(ho:s.heap.get? l=!o)(hc:o.cls=.type "list")(hn:o.dict=none)(hd:o.data=.seq items nn)(gC:items.size=-ks)(hit:∀(i:Nat) (v:Value),items[i]?=!v->v=.ref (tp i))(ht:∀j,j< -ks->∃tk,s.heap.IsTuple (tp j) (List.toArray [.int (ks.getD j 0) tk,.bool true]))(hb:-ks<=10000)(nd:ks.Nodup)(h:∀h' tk,h'.DictOf (L2.j3 prog w) s⁻¹ (J8 ks)->(∀b o,s.heap.get? b=!o->h'.get? b=!o)->s.toks<=tk->Q (.ref s⁻¹) { s with heap:=h',toks:=tk }) :
  wpAny (model prog w) A (call (.type "dict") [.ref l]) Q E s:=by
 show callType_codes (Q₁:=λobj bL=>obj=.ref s⁻¹/\bL={ s with heap:=s.heap.push { cls:=.type "dict",data:=.dict (List.toArray []) } }) F.kt_called_dict (F.kt_typeCall_dict_1 _) F.entry_dict_init (kt_code_dict_new _ #[rfl,rfl]) ?_;rintro obj bL ⟨rfl,rfl⟩;let lX:(s.heap.push { cls:=.type "dict",data:=.dict (List.toArray []) }).DictOf (L2.j3 prog w) s⁻¹ []:=Heap.DictOf.new s.heap;show#[lX.typeIs,F.args_dict_init_2 _ _,?_];let wy:(s.heap.push { cls:=.type "dict",data:=.dict (List.toArray []) }).get? l=!o:=ah _ ho;let wY:Shared.TypeIs { s with heap:=s.heap.push { cls:=.type "dict",data:=.dict (List.toArray []) } } (.ref l) "list":=#[o,wy,hc]
 unfold Builtin.«dict.__init__»;show aa ?_;unfold Builtin.Dict.selfAndRest;show aa (wpAny_notOrdered_dict lX.typeIs ?_);show ai ?_;change wpAny _ _ (Builtin.Dict.updateFrom "dict.__init__" s⁻¹ (.ref l) [] .none) _ _ _;unfold Builtin.Dict.updateFrom;show aa (dC wY ?_);rw[av ∅];show aa (av3 (by simp[hh]) wy hc hn hd λh1 yS k1 k2=>?_);rw[av (by rfl)];show aa (dH ?_);let jj:=k1 _ _ wy;let rZ:h1.IsList l items:=#[o,jj,hc,nn,hd]
 let dN:=ao jj;let zi:=aD dN;show aa (dD rZ ?_);show ai #[fT Q6 _,?_];let la:=ao ho;let#[oa,_,_,Qg,_]:=id lX;let qv:=ao (k1 _ _ Qg);let tl:∀j,j< -ks->tp j<s⁻¹:=λj hj=>by
  let#[_,o',e,_]:=ht j hj;show ao e
 show aU1 (mQ (by simp[hh]) h1.objs.size l zi items).toS (λz=>?_) gC hit (λj hj z=>?_) () nd items.size 0 _ () #[#[_,au _ rfl,rfl,rfl],rZ.push _] (λj hj=>?_) ?_ λs' m lC=>?_
 .simp only[List.mem_cons,List.not_mem_nil,or_false] at z;rcases z with z|z
  .exact aD qv z
  .exact bD la z
 .have:=tl j ();simp only[List.mem_cons,List.not_mem_nil,or_false] at z;rcases z with z|z
  .exact aD this z
  .exact aD (cI this qv) z
 .let#[tk,o',e,r]:=ht j ();show#[tk,o',ah _ (k1 _ _ (ah _ e)),r]
 .let#[o',es,ep,e,r]:=lX;show#[o',es,ep,ah _ (k1 _ _ e),r]
 .let eS:s'={ s with heap:=s'.heap,toks:=s'.toks }:=by
   let#[lx,g',d',jL,tM]:=s';let m1:=m.gens;let m2:=m.drawn;let m3:=m.os;subst m1;subst m2;subst m3
   rfl
  rw[eS];show#[rfl,h _ _ lC (λb o' e=>?_) (aF k2 m.toks)];let lb:=ao e;show m.heap b o' (λz=>?_) (ah _ (k1 _ _ (ah _ e)));simp only[List.mem_cons,List.not_mem_nil,or_false] at z;rcases z with z|z
  .exact aD lb z
  .exact aD (cI lb qv) z
end
end ST
namespace L2
open PySem PyProof.Rows
section
variable{X:Cx}
def MH:∀ks:@&Int,KV (ks.map λk=>((.inl k:Key),V.bl true)) (ST.J8 ks)
 |[]=>.nil
 |_::ks=>.cons #[rfl,rfl] (MH ks)
def as7(hc:X.calm=true):j7 X (.type "dict") (λxs H Q=>∃a,∃(ts:@&Addr) (ks:@&Int),xs=[.ref a]/\fR X.K H a (ts.map V.ref)/\-ts=-ks/\(∀(i:Nat) t k,ts[i]?=!t->ks[i]?=!k->gm X.K H t [.int k,.bl true])/\-ks<=10000/\ks.Nodup/\∀p,H p=none->Q (.ref p) (upd H p (.dK (ks.map λk=>(.inl k,.bl true))))):=by
 intro pi s σ H xs us Q I r h;let#[a,ts,ks,rfl,hq,hl,ht,hz,nd,q]:=h;let#[u,rfl,ru]:=vals1 r;cases ru;let#[aX,rv,#[o,n,ho,iV,Qz,hd],_]:=I.list hq;let hlen:-aX=-ts:=by rw[<- -rv];simp
 show ST.aX5 (tp:=λi=>ts.getD i 0) (I.ok.hd hc) ho iV Qz hd (by rw[aK];omega) (λi v hv=>?_) (λj hj=>?_) hz nd λh' tk hS hk wg=>?_
 .rw[List.getElem?_toArray] at hv;let hi:i< -ts:=by rw[<- hlen];show(az.mp hv).1
  let#[u,hu,ru]:=rv.get (by rw[aG,aq hi];rfl);rw[hv] at hu;cases hu;rw[show ts.getD i 0=ts[i] by simp[List.getD,hi]];show ru
 .let Hi:j< -ts:=by omega
  let#[lU,Bj,p2,_]:=I.tuple (ht j ts[j] ks[j] (aq Hi) (aq hj));cases Bj with
  |cons r1 r2 =>
  cases r2 with
  |cons r2 r3 =>
  cases r3;let#[tk,rfl]:=r1;cases r2;rw[show ts.getD j 0=ts[j] by simp[List.getD,Hi],show ks.getD j 0=ks[j] by simp[List.getD,hj]];show#[tk,p2]
 .exact#[.ref _,_,I.laid (t':=tk) hk (ak _) (zL (by rw[aj];show aF hz ∅) (cN.mpr (bq (aD I.big))) (MH ks) hS),rfl,q _ (I.bw.fresh (ak _))]
end
end L2
namespace L2
open PySem PySem.Spec PyProof.Rows
variable{prog P:Program}{w:World}{A:Around}{s:Shared}{X:Cx}{l t z i1 i2:Addr}{i:Nat}
def ym{k:Key}{u:Value}(h:(j3 P w).is k u=true):RelV (kV k) u:=by
 rw[aU8] at h;rcases p8 h with⟨j,t,e1,e2⟩|⟨x,t,e1,e2⟩
 .subst e1 e2;show#[t,rfl]
 .subst e1 e2;show#[t,rfl]
def KV.at{kvs:@&(Key×V)}{vs:@&(Key×Value)}(r:KV kvs vs):∀{i:Nat} {k:Key} {x:V},kvs[i]?=!(k,x)->∃u,vs[i]?=!(k,u)/\RelV x u:=by
 unfold KV at r
 induction r with
 |nil=>intro i k x h;simp at h
 |cons h r ih =>
  intro i k x e;cases i with
  |zero =>
   simp at e;subst e;let#[h1,h2]:=h;show #[_,by
    change some _=!(k,_);let CY:k=_:=h1;rw [CY],h2]
  |succ i=>simpa using ih (_/e)
def Kr:∀l:@&(Str×Tok),Vals ((l.map (·.1)).map V.str) (strValues l)
 |[]=>.nil
 |p::l=>.cons #[_,rfl] (Kr l)
def MY{pi:@&(Addr×Obj)}{σ:St}{H:Hp}{Q:VK}{l:@&(Str×Tok)}{ys:@&Str}{t':Nat}(I:Inv X pi σ H s)(hl:l.map (·.1)=ys)(hz:-ys<=sizeLine)(q:∀p,H p=none->Q (.ref p) (upd H p (.lst (ys.map V.str)))) :
  EP X pi σ Q (.ref s⁻¹) { s with heap:=s.heap.push { cls:=.type "list",data:=.seq (strValues l).toArray },toks:=t' }:=by
 subst hl;show#[.ref s⁻¹,_,I.laid (a:=s⁻¹) (o:=.lst ((l.map (·.1)).map V.str)) (t':=t') (λx x e=>ah _ e) (ak _) #[by rw[aj];show hz,strValues l,_,Kr l,au _ rfl],rfl,q _ (I.bw.fresh (ak _))]
def UI:kU X "str.split" (λx xs H Q=>∃a b:Str,x=.str a/\xs=[.str b]/\(-b==0)=false/\-a<=sizeLine/\(Txt.split a b).length<=sizeLine/\∀p,H p=none->Q (.ref p) (upd H p (.lst ((Txt.split a b).map V.str)))):=by
 intro pi s σ H x xs v us Q I rx r h;let#[a,b,rfl,rfl,hb,ha,hz,q]:=h;let#[t,rfl]:=rx;cases r with
 |cons r rr =>
 cases rr;let#[u,rfl]:=r;let one:Txt.split a b=[a]->EP X pi σ Q (.ref s⁻¹) { s with heap:=s.heap.push { cls:=.type "list",data:=.seq [Value.str a t].toArray } }:=λe=>by
  have:=MY (l:=[(a,t)]) (ys:=Txt.split a b) (t':=s.toks) I (by rw[e];rfl) hz q;show this
 cases h1:(decide (-a< -b)||decide (Builtin.Str.strKind a<Builtin.Str.strKind b))
 .cases hf:(Builtin.Str.occurrences a b 0 (-a) (-a+1)).isEmpty
  .let es:Txt.split a b=Builtin.Str.partsBetween a (Builtin.Str.occurrences a b 0 (-a) (-a+1)) (-b):=by unfold Txt.split;rw[aw (by rw[h1];decide),aw (by rw[hf];decide)]
   show cE qV (mO _ _ _) oP (mW _ _) (meets_str_split_sep a b t u h1 hb hf ha (by rw[<- es];show hz)) ?_;rw[strsFrom_eq];show MY (l:=numbered s.toks _) (ys:=Txt.split a b) I ((numbered_texts _ _).trans es.symm) hz q
  .exact cE qV (mO _ _ _) oP (mW _ _) (meets_str_split_not_found a b t u h1 hb hf) (one (by unfold Txt.split;rw[aw (by rw[h1];decide),av hf]))
 .exact cE qV (mO _ _ _) oP (mW _ _) (meets_str_split_cannot_occur a b t u h1) (one (by unfold Txt.split;rw[av h1]))
def aJ7:j7 X (.type "int") (λxs H Q=>∃a:Str,∃n,xs=[.str a]/\-a<=640/\PySem.intText? a=!n/\Q (.int n) H):=by
 intro pi s σ H xs us Q I r h;let#[a,n,rfl,hl,hn,q]:=h;let#[u,rfl,t,rfl]:=vals1 r;show PySem.W.KIN.call_text hn hl #[.int n,H,I.tok _,#[_,rfl],q]
def Gd(x:Str):It:=#[λi y=>i< -x,λi H v H'=>H'=H/\∃c,x.cps[i]?=!c/\v=.str #[(List.toArray [c])],λi y=>-x<=i]
def VD{K:PySem.W.Frag}{tg:Expr}(x:Str)(t:Tok)(it:Addr):Turn P w K tg (Gd x) [it] it (λi h=>h.IsStrIter it "str_ascii_iterator" x t i) where
 mem:=by simp
 obj:=λi h st b hb=>by
  let e:b=it:=by simpa using hb
  subst e;let#[o,e,c,d]:=st;show#[o,e,λv z=>by rw[d] at z;cases z]
 keep:=λi h h' st k=>let ⟨o,ho,r⟩:=st;#[o,k it #[_] o ho,r]
 item:=by
  intro X hP hw hK hc i pi s σ H E I hf st hg;subst hP hw hK;let#[f0,f1,f2,f3,f4,f5]:=hf it #[_];let hg:i<x.cps.size:=hg;show wpAny_pyNext_ascii_item st (c:=x.cps[i]) (by simp[hg]) λh' kM sb=>?_;let I1:Inv X pi σ H { s with heap:=h',toks:=s.toks+1 }:=I.turned (λb o hb e=>(sb.2 b hb).trans e) f0 f1 f3 f4 f5;let#[o,e,c,d]:=id kM;show#[_,rfl,AH (s:={ s with heap:=h',toks:=s.toks+1 }) e c d ∅ #[.str #[(List.toArray [x.cps[i]])],H,I1,#[_,rfl],#[rfl,_,by simp[hg],rfl],kM,λb hb=>(hf b hb).1]]
 done:=by
  intro X hP hw hK hc i pi s σ H E I hf st hg;subst hP hw hK;let#[f0,f1,f2,f3,f4,f5]:=hf it #[_];let hg:x.cps.size<=i:=hg;show wpAny_pyNext_ascii_end (I.ok.hd hc) st (by simp[hg]) λh' eb=>#[rfl,I.turned (t':=s.toks) (λb o hb e=>eb b o hb e) f0 f1 f3 f4 f5]
 self:=λy y y y y st h=>wpAny_pyIter_striter_ascii st h
section
def Vx{E:Value->Shared->Prop}{y:Value}{ys:@&Value}{Q:@&Value->Shared->Prop}(hh:A.handled=none)(hl:s.heap.IsList l (y::ys).toArray)(hz:-ys<sizeLine)(hQ:∀(h':Heap) (tk:Nat),(∀b o,s.heap.get? b=!o->h'.get? b=!o)->Q [y,.ref h'.objs.size] { s with heap:=h'.push { cls:=.type "list",data:=.seq ys.toArray },toks:=tk }):wpAny (model prog w) A (unpackItems (.ref l) 2 (!1)) Q E s:=by
 let ll:l<s⁻¹:=by let#[o,ho,_]:=hl;show ao ho
 let ne:l≠s⁻¹:=aD ll;unfold unpackItems notIterableAtAll;show aa (aa (wpAny_specialOf hl.typeIs PySem.F.slot_list_iter.lookup (ai ?_)));simp only[Bool.false_eq_true,if_false];show aa (aY (dD hl ?_));show aa (aY (PySem.W.kun_draw ne 1 0 _ _ #[_,au _ rfl,rfl,rfl] (hl.push _) #[_] λh1 GU vF=>?_));let l1:h1.IsList l (y::ys).toArray:=(hl.push _).extBut vF.extBut ne;let PJ:=GU;let#[o1,e1,_]:=PJ;let l2:=l1;let#[o2,e2,_]:=l2;change wpAny _ _ (if(1:Nat)<1 then _ else _) _ _ _;rw[aw ()];show aa (aY (PySem.W.kun_collect (s:={ s with heap:=h1 }) (T:="list_iterator") (.inr (.inr (.inl rfl))) (mQ (A:=A.in1) hh s⁻¹ l ne (y::ys).toArray) (λj u st=>st.1.typeIs) (k:=1) #[_] #[GU,l1] (ao e1) (ao e2) (λh2 tk hk=>?_) (by rw[aK,cH];omega)));change wpAny _ _ (if (-ys)<0 then _ else _) _ _ _;rw[aw ()];change wpAny _ _ (newList (ys.take (-ys-0)) >>= λd=>pure ([y]++[d]++ys.drop (-ys-0))) _ _ _;rw[Nat.sub_zero,eA,List.drop_length];show aa (wpAny_newList (s:={ s with heap:=h2,toks:=tk }) (ai (hQ h2 tk λb o e=>hk b o (aD (ao e)) (vF.extBut b o (aD (ao e)) (ah _ e)))) ())
variable{pos:Pos}
def IC(K:PySem.W.Frag)(t:oG):TG:=λv σ H Q=>∃l x xs,v=.ref l/\fR K H l (x::xs)/\∀p,H p=none->t [x,.ref p] σ (upd H p (.lst xs)) Q
def SA{a b:Expr}{pb:Pos}{k:Nat}{t:oG}(hc:X.calm=true)(h:uY X [a,b] t)(ha:∀e p,a≠.Starred e p:=by intro _ _ h;cases h)(hb:∀e p,b≠.Starred e p:=by intro _ _ h;cases h):PG X (.Tuple [a,.Starred b pb] k pos) (IC X.K t):=by
 intro pi s σ H v u Q I r hw;let#[l,x,xs,rfl,hq,hw]:=hw;cases r;let#[aX,rv,p,hz]:=I.list hq;cases rv with
 |@cons _ y _ ys r rr =>
 let e1:assignEach [a,.Starred b pb] X.env=[(false,assign a X.env),(true,assign b X.env)]:=by
  cases a<;>first|rfl|show(ha _ _ rfl).elim
 let e2:assignEach [a,b] X.env=[(false,assign a X.env),(false,assign b X.env)]:=by
  cases a<;>first|show(ha _ _ rfl).elim|(cases b<;>first|rfl|show(hb _ _ rfl).elim)
 rw[assign_Tuple];show aa (iL ?_);unfold unpack;rw[e1];show aa (aY (Vx (I.ok.hd hc) p.isList (by have:=-rr;rw[cH] at hz;omega) λh' tk hk=>?_));let I2:Inv X pi σ H { s with heap:=h',toks:=tk }:=I.kept hk;have:=h pi { s with heap:=h'.push { cls:=.type "list",data:=.seq ys.toArray },toks:=tk } σ (upd H h'.objs.size (.lst xs)) [x,.ref h'.objs.size] [y,.ref h'.objs.size] Q
  (I2.laid (t':=tk) (λc o e=>ah _ e) (ak _) #[by rw[cH] at hz;omega,ys,_,rr,au _ rfl]) (.cons r (.cons rfl .nil)) (hw _ (I2.bw.fresh (ak _)))
 rw[e2] at this;show this
end
section
variable{E:Value->Shared->Prop}
def WT{it:Addr}{items:Array Value}{x:Value}{Q:Value->Shared->Prop}(hit:s.heap.IsTupleIter it t i)(ht:s.heap.IsTuple t items)(hx:items[i]?=!x)(hQ:∀h',h'.IsTupleIter it t (i+1)->Heap.SameBut it s.heap h'->Q x { s with heap:=h' }):wpAny (model prog w) A (Builtin.SmallTypes.nextOf (.ref it)) Q E s:=by
 let#[o,e1,e2,e3]:=id hit;let#[p,e4,_,m,e5]:=ht;unfold Builtin.SmallTypes.nextOf;show aa (bR (name:=Str.ofString "__next__") hit.typeIs cZ (bu cZ hit.typeIs kA ?_ (jR _)));change wpAny _ _ (field (.ref it) 0 >>= _) _ _ s;show aa (bx e1 e3 (x:=.ref t) rfl ?_);change wpAny _ _ (if(Value.ref t==Value.none)=true then _ else _) _ _ s;rw[aw (show ¬((Value.ref t==Value.none)=true) from bo)];change wpAny _ _ (field (.ref it) 1 >>= _) _ _ s;show aa (bx e1 e3 (x:=.int i 0) rfl ?_);change wpAny _ _ (seqItems? (.ref t) >>= _) _ _ s;show aa (cY e4 e5 ?_);simp only[Int.toNat_natCast,hx];show aa (cD e1 e3 #[_] (ai #[x,rfl,ai (hQ _ ?_ (aS ..))]));show#[_,aR _ e1 (cg (aZ e3 _)),(iF ..).trans e2,by rw[aZ e3];simp[rawInt]]
def YC{it:Addr}{items:Array Value}{Q:Value->Shared->Prop}(hh:A.handled=none)(hit:s.heap.IsTupleIter it t i)(ht:s.heap.IsTuple t items)(hx:items[i]?=none)(hE:∀h' e,Heap.ExtBut it s.heap h'->(∃o,h'.get? e=!o/\o.cls=.type "StopIteration")->E (.ref e) { s with heap:=h' }):wpAny (model prog w) A (Builtin.SmallTypes.nextOf (.ref it)) Q E s:=by
 let#[o,e1,e2,e3]:=id hit;let#[p,e4,_,m,e5]:=ht;unfold Builtin.SmallTypes.nextOf;show aa (bR (name:=Str.ofString "__next__") hit.typeIs cZ (bu cZ hit.typeIs kA ?_ (jR _)));change wpAny _ _ (field (.ref it) 0 >>= _) _ _ s;show aa (bx e1 e3 (x:=.ref t) rfl ?_);change wpAny _ _ (if(Value.ref t==Value.none)=true then _ else _) _ _ s;rw[aw (show ¬((Value.ref t==Value.none)=true) from bo)];change wpAny _ _ (field (.ref it) 1 >>= _) _ _ s;show aa (bx e1 e3 (x:=.int i 0) rfl ?_);change wpAny _ _ (seqItems? (.ref t) >>= _) _ _ s;show aa (cY e4 e5 ?_);simp only[Int.toNat_natCast,hx];show aa (dH (aa (cD e1 e3 #[_] ?_)));change wpAny _ _ (newExc (.type "StopIteration") [] >>= _) _ _ _;show aa ?_;simp only[newExc,newTuple];show aa (bJ ?_ (by size_fits));show aa (m:=firstArgMember _ _) (cM (a:=Value.none) (by first|rfl|(simp only[firstArgMember];rfl)) ?_);show bJ ?_ (by size_fits);simp only[raiseNew];show aa (wpAny_handled ?_)
 first|rw[show A.in1.handled=none from hh]|rw[hh]
 show aa (ai (tw ?_));show hE _ _ (((aS ..).extBut.push _).push _) #[_,au _ rfl,rfl]
structure Zd(z TI TO i1 i2:Addr):Prop where
 TIz:TI≠z
 TOz:TO≠z
 i1z:i1≠z
 i2z:i2≠z
 TITO:TI≠TO
 TIi1:TI≠i1
 TIi2:TI≠i2
 TOi1:TO≠i1
 TOi2:TO≠i2
 i12:i1≠i2
structure Zp(h:Heap)(z TI TO i1 i2 t l:Addr)(i:Nat)(f:Value):Prop where
 z:IsZip h z TI TO f
 p:IsPair h TI (.ref i1) (.ref i2)
 o:∃a b,IsPair h TO a b
 a:h.IsTupleIter i1 t i
 b:h.IsListIter i2 l i
def XO{TI TO:Addr}{xs ys:Array Value}{x y:Value}{Q:Option Value->Shared->Prop}(D:Zd z TI TO i1 i2)(Z:Zp s.heap z TI TO i1 i2 t l i .none)(ht:s.heap.IsTuple t xs)(hl:s.heap.IsList l ys)(hx:xs[i]?=!x)(hy:ys[i]?=!y)(hQ:∀h',Zp h' z TI TO i1 i2 t l (i+1) (rawInt s⁻¹)->IsPair h' s⁻¹ x y->(∀c o,c≠z->c≠TO->c≠i1->c≠i2->s.heap.get? c=!o->h'.get? c=!o)->Q (!(.ref s⁻¹)) { s with heap:=h' }):wpAny (model prog w) A (pyNext (.ref z)) Q E s:=by
 let l1z:t≠z:=by
  rintro rfl;let#[o,e,c,_]:=ht;rw[Z.z] at e;cases e;simp at c
 let l2z:l≠z:=by
  rintro rfl;let#[o,e,c,_]:=hl;rw[Z.z] at e;cases e;simp at c
 let l2i1:l≠i1:=by
  rintro rfl;let#[o,e,c,_]:=hl;let#[o',e',c',_]:=Z.a;rw[e'] at e;cases e;rw[c'] at c;simp at c
 let l2TO:l≠TO:=by
  rintro rfl;let#[o,e,c,_]:=hl;let#[a,b,h]:=Z.o;rw[h] at e;cases e;simp at c
 let hT:s.TypeIs (.ref z) "zip":=#[_,Z.z,rfl]
 let#[a,b,ho]:=Z.o;unfold pyNext;show aa (fS (bR (name:=Str.ofString "__next__") hT fe (bu fe hT vd ?_ (tD _))));change wpAny _ _ (field (.ref z) 2 >>= _) _ _ _;show aa (bx Z.z rfl (x:=.bool false) rfl ?_);change wpAny _ _ (field (.ref z) 3 >>= _) _ _ _;show aa (bx Z.z rfl (x:=.ref TI) rfl (aa (cY Z.p rfl ?_)));change wpAny _ _ (Builtin.SmallTypes.ownedTupleIsFree (.ref z) >>= _) _ _ _;unfold Builtin.SmallTypes.ownedTupleIsFree;show aa (aa (bx Z.z rfl (x:=.none) rfl (ai ?_)));simp only[if_true];show aa (dH (aa (bx Z.z rfl (x:=.ref TO) rfl (aa (eY Z.z #[_] λh1 z1 s1=>?_)))))
 replace z1:IsZip h1 z TI TO .ellipsis:=z1
 show aa ?_;simp only[List.zipIdx_cons,List.zipIdx_nil,List.forIn_cons,List.forIn_nil];show aa (aa (Ov ?_));change wpAny _ _ (Builtin.SmallTypes.nextOf (.ref i1) >>= _) _ _ _;show aa (WT (Z.a.extBut s1.extBut D.i1z) (ht.extBut s1.extBut l1z) hx λh2 a2 s2=>ai ?_);let o2:IsPair h2 TO a b:=s2.extBut _ _ D.TOi1 (s1.extBut _ _ D.TOz ho);show aa (cY o2 rfl (aa (wpAny_updateSeq_pair o2 λh3 o3 s3=>?_)))
 replace o3:IsPair h3 TO x b:=o3
 show aa (wpAny_letGo (ai ?_));show aa (aa (Ov ?_));change wpAny _ _ (Builtin.SmallTypes.nextOf (.ref i2) >>= _) _ _ _;show aa (wpAny_nextOf_list_item (((Z.b.extBut s1.extBut D.i2z).extBut s2.extBut D.i12.symm).extBut s3.extBut D.TOi2.symm) (((hl.extBut s1.extBut l2z).extBut s2.extBut l2i1).extBut s3.extBut l2TO) hy λh4 b4 s4=>ai ?_);let o4:IsPair h4 TO x b:=s4.extBut _ _ D.TOi2 o3;show aa (cY o4 rfl (aa (wpAny_updateSeq_pair o4 λh5 o5 s5=>?_)))
 replace o5:IsPair h5 TO x y:=o5
 show aa (wpAny_letGo (ai (ai (aa (cY o5 rfl (aa (wpAny_newTuple ?_)))))));let sz:h5.objs.size=s⁻¹:=by rw[s5.1,s4.1,s3.1,s2.1,s1.1]
 let z5:IsZip h5 z TI TO .ellipsis:=s5.extBut _ _ D.TOz.symm (s4.extBut _ _ D.i2z.symm (s3.extBut _ _ D.TOz.symm (s2.extBut _ _ D.i1z.symm z1)));let k5:∀c o,c≠z->c≠TO->c≠i1->c≠i2->s.heap.get? c=!o->h5.get? c=!o:=λc o c1 c2 c3 c4 e=>s5.extBut _ _ c2 (s4.extBut _ _ c4 (s3.extBut _ _ c2 (s2.extBut _ _ c3 (s1.extBut _ _ c1 e))));let a5:=((a2.extBut s3.extBut D.TOi1.symm).extBut s4.extBut D.i12).extBut s5.extBut D.TOi1.symm;let b5:=b4.extBut s5.extBut D.TOi2.symm;let zl:z<h5.objs.size:=ao z5;change wpAny _ _ (Builtin.SmallTypes.ownedTupleHandOut (.ref z) (.ref h5.objs.size) >>= _) _ _ _;unfold Builtin.SmallTypes.ownedTupleHandOut;let z6:IsZip (h5.push { cls:=.type "tuple",data:=.seq (List.toArray [x,y]) }) z TI TO .ellipsis:=ah _ z5;show aa (aa (eY z6 #[_] λh7 z7 s7=>?_))
 replace z7:IsZip h7 z TI TO (rawInt h5.objs.size):=z7
 show eY z7 #[_] λh8 z8 s8=>?_
 replace z8:IsZip h8 z TI TO (rawInt h5.objs.size):=z8
 let up:∀c o,c≠z->h5.get? c=!o->h8.get? c=!o:=λc o c1 e=>s8.extBut _ _ c1 (s7.extBut _ _ c1 (ah _ e));let t8:IsPair h8 h5.objs.size x y:=s8.extBut _ _ (bD zl) (s7.extBut _ _ (bD zl) (au _ rfl));rw[sz] at z8 t8;show ai #[_,rfl,ai ?_];change Q (!.ref h5.objs.size) _;rw[sz];show hQ h8 #[z8,up _ _ D.TIz (k5 _ _ D.TIz D.TITO D.TIi1 D.TIi2 Z.p),#[x,y,up _ _ D.TOz o5],a5.at λo e=>up _ o D.i1z e,b5.at λo e=>up _ o D.i2z e] t8 λc o c1 c2 c3 c4 e=>up c o c1 (k5 c o c1 c2 c3 c4 e)
def bB5{TI TO:Addr}{xs:Array Value}{f:Value}{Q:Option Value->Shared->Prop}(hh:A.handled=none)(D:Zd z TI TO i1 i2)(Z:Zp s.heap z TI TO i1 i2 t l i .none)(ht:s.heap.IsTuple t xs)(hx:xs[i]?=none)(hQ:∀h',(∀c o,c≠z->c≠TO->c≠i1->c≠i2->s.heap.get? c=!o->h'.get? c=!o)->Q none { s with heap:=h' }):wpAny (model prog w) A (pyNext (.ref z)) Q E s:=by
 let l1z:t≠z:=by
  rintro rfl;let#[o,e,c,_]:=ht;rw[Z.z] at e;cases e;simp at c
 let hT:s.TypeIs (.ref z) "zip":=#[_,Z.z,rfl]
 let#[a,b,ho]:=Z.o;unfold pyNext;show aa (fS (bR (name:=Str.ofString "__next__") hT fe (bu fe hT vd ?_ (tD _))));change wpAny _ _ (field (.ref z) 2 >>= _) _ _ _;show aa (bx Z.z rfl (x:=.bool false) rfl ?_);change wpAny _ _ (field (.ref z) 3 >>= _) _ _ _;show aa (bx Z.z rfl (x:=.ref TI) rfl (aa (cY Z.p rfl ?_)));change wpAny _ _ (Builtin.SmallTypes.ownedTupleIsFree (.ref z) >>= _) _ _ _;unfold Builtin.SmallTypes.ownedTupleIsFree;show aa (aa (bx Z.z rfl (x:=.none) rfl (ai ?_)));simp only[if_true];show aa (dH (aa (bx Z.z rfl (x:=.ref TO) rfl (aa (eY Z.z #[_] λh1 z1 s1=>?_)))))
 replace z1:IsZip h1 z TI TO .ellipsis:=z1
 show aa ?_;simp only[List.zipIdx_cons,List.zipIdx_nil,List.forIn_cons,List.forIn_nil];show aa (aa (Ov ?_));change wpAny _ _ (Builtin.SmallTypes.nextOf (.ref i1) >>= _) _ _ _;show aa (YC hh (Z.a.extBut s1.extBut D.i1z) (ht.extBut s1.extBut l1z) hx λh2 e s2 he=>?_);let#[oe,e1,e2]:=he;let z2:IsZip h2 z TI TO .ellipsis:=s2 _ _ D.i1z.symm z1;let ne:e≠z:=λx=>by subst x;rw[z2] at e1;cases e1;simp at e2
 show eY z2 #[_] λh3 y s3=>?_;show aa (cJ (T:="StopIteration") (b:=true) #[oe,s3.extBut _ _ ne e1,e2] isSubtype_stop ?_);show ai (hQ _ λc o c1 y c3 y x=>s3.extBut _ _ c1 (s2 _ _ c3 (s1.extBut _ _ c1 x)))
noncomputable abbrev yP(h:Heap)(t:Addr):Heap:=h.push { cls:=.type "tuple_iterator",data:=.fields (List.toArray [.ref t,.int 0 0]) }
noncomputable abbrev yO(h:Heap)(t l:Addr):Heap:=(yP h t).push { cls:=.type "list_iterator",data:=.fields (List.toArray [.ref l,.int 0 0]) }
noncomputable abbrev yN(h:Heap)(t l:Addr):Heap:=(yO h t l).push { cls:=.type "tuple",data:=.seq (List.toArray [.ref h.objs.size,.ref (yP h t).objs.size]) }
noncomputable abbrev vj(h:Heap)(t l:Addr):Heap:=(yN h t l).push { cls:=.type "tuple",data:=.seq (List.toArray [.none,.none]) }
noncomputable abbrev tH(h:Heap)(t l:Addr):Heap:=(vj h t l).push { cls:=.type "zip",data:=.fields (List.toArray [.none,.bool false,.bool false,.ref (yO h t l).objs.size,.ref (yN h t l).objs.size]) }
def aG2(t l:Addr)(xs ys:Array Value):Meets (Builtin.«zip.__new__» #[[.type "zip",.ref t,.ref l],[]]) (λx R s=>s.heap.IsTuple t xs/\s.heap.IsList l ys/\R (.ok (.ret (.ref (vj s.heap t l).objs.size))) { s with heap:=tH s.heap t l }) :=
 .of_wp λprog w A R s h=>by
  let#[hp,g,d,tk,os]:=s;let#[a,b,h]:=h;let lV:=sub_zip;let b1:Heap.IsTuple (Shared.heap #[hp,g,d,tk,os]) t xs:=a;let b2:Heap.IsList (Shared.heap #[hp.push { cls:=.type "tuple_iterator",data:=.fields (List.toArray [.ref t,.int 0 0]) },g,d,tk,os]) l ys:=Heap.IsList.push b _
  wp_walk using mM b1,dD b2
  show#[_,rfl,h]
def aL9{xs ys:Array Value}{Q:Value->Shared->Prop}(ht:s.heap.IsTuple t xs)(hl:s.heap.IsList l ys)(h:∀h',Zp h' (s⁻¹+4) (s⁻¹+2) (s⁻¹+3) s⁻¹ (s⁻¹+1) t l 0 .none->(∀c o,s.heap.get? c=!o->h'.get? c=!o)->Q (.ref (s⁻¹+4)) { s with heap:=h' }):wpAny (model prog w) A (call (.type "zip") [.ref t,.ref l]) Q E s:=by
 show callType_new PySem.F.called_zip ∅ (PySem.F.typeCall_zip_2 _ _) (PySem.F.newCall_zip_2 _ _) (λobj=>PySem.F.args_object_init_3 obj _ _) PySem.F.entry_zip_new (aG2 t l xs ys) #[ht,hl,?_];let z1:(yP s.heap t).objs.size=s⁻¹+1:=cO ..;let z2:(yO s.heap t l).objs.size=s⁻¹+2:=by rw[cO,z1]
 let z3:(yN s.heap t l).objs.size=s⁻¹+3:=by rw[cO,z2]
 let z4:(vj s.heap t l).objs.size=s⁻¹+4:=by rw[cO,z3]
 let g5:(tH s.heap t l).get? (vj s.heap t l).objs.size=!_:=au _ rfl;let g4:(tH s.heap t l).get? (yN s.heap t l).objs.size=!_:=ah _ (au _ rfl);let g3:(tH s.heap t l).get? (yO s.heap t l).objs.size=!_:=ah _ (ah _ (au _ rfl));let g2:(tH s.heap t l).get? (yP s.heap t).objs.size=!_:=ah _ (ah _ (ah _ (au _ rfl)));let g1:(tH s.heap t l).get? s⁻¹=!_:=ah _ (ah _ (ah _ (ah _ (au _ rfl))));change _/\Q (.ref (vj s.heap t l).objs.size) _;rw[z2,z3,z4] at g5;rw[z1,z2] at g3;rw[z3] at g4;rw[z1] at g2;rw[z4];show#[#[_,g5,rfl],?_];show h _ #[g5,g3,#[_,_,g4],#[_,g1,rfl,rfl],#[_,g2,rfl,rfl]] λc o e=>ah _ (ah _ (ah _ (ah _ (ah _ e))))
abbrev Ga(K:PySem.W.Frag)(t a:Addr):It :=
 #[λi H=>∃xs ys x y,gm K H t xs/\fR K H a ys/\xs[i]?=!x/\ys[i]?=!y,λi H v H'=>∃p x y,H p=none/\v=.ref p/\(∀xs,gm K H t xs->xs[i]?=!x)/\(∀ys,fR K H a ys->ys[i]?=!y)/\H'=upd H p (.tup [x,y]),λi H=>∃xs,gm K H t xs/\-xs<=i]
def VE{K:PySem.W.Frag}{elts:@&Expr}{x1:Nat}{tp:Pos}{a TI TO:Addr}(D:Zd z TI TO i1 i2):Turn P w K (.Tuple elts x1 tp) (Ga K t a) [z,TI,TO,i1,i2] z (λi h=>Zp h z TI TO i1 i2 t a i .none) where
 mem:=by simp
 obj:=λi h st b hb=>by
  let#[a',b',ho]:=st.o;let#[o1,e1,_,d1]:=st.a;let#[o2,e2,_,d2]:=st.b;simp only[List.mem_cons,List.mem_nil_iff,or_false] at hb;rcases hb with rfl|rfl|rfl|rfl|rfl
  .exact#[_,st.z,λv z=>by cases (show Data.fields _=Data.cell v from z)]
  .exact#[_,st.p,λv z=>by cases (show Data.seq _ _=Data.cell v from z)]
  .exact#[_,ho,λv z=>by cases (show Data.seq _ _=Data.cell v from z)]
  .exact#[_,e1,λv z=>by rw[d1] at z;cases z]
  .exact#[_,e2,λv z=>by rw[d2] at z;cases z]
 keep:=λi h h' st k=>by
  let#[a',b',ho]:=st.o;show#[k z #[_] _ st.z,k TI #[_] _ st.p,#[a',b',k TO #[_] _ ho],st.a.at λo e=>k i1 #[_] o e,st.b.at λo e=>k i2 #[_] o e]
 item:=by
  intro X hP hw hK hc i pi s σ H E I hf st hg;subst hP hw hK;let#[xs,ys,x,y,hq,hr,hx,hy]:=hg;let#[aX,rv,p,hz]:=I.tuple hq;let#[u,hu,ru]:=rv.get hx;let#[PD,fk,p',zb]:=I.list hr;let#[v,hv,OT]:=fk.get hy;show XO D st (show s.heap.IsTuple t aX.toArray from p) p'.isList (x:=u) (y:=v) (_/hu) (_/hv) λh' qg pr k1=>?_;show#[_,rfl,wpAny_letOwnedTupleGo_zip qg.z λh2 z2 s2=>?_];let s2:Heap.SameBut z h' h2:=s2;let kp:∀b o,b∉[z,TI,TO,i1,i2]->s.heap.get? b=!o->h2.get? b=!o:=λb o hb q=>by
   simp only[List.mem_cons,List.mem_nil_iff,or_false,not_or] at hb;show(s2.2 b hb.1).trans (k1 b o hb.1 hb.2.2.1 hb.2.2.2.1 hb.2.2.2.2 q)
  let zl:z<s⁻¹:=ao st.z;let hn:H s⁻¹=none:=I.bw.fresh (ak _);let t2:h2.get? s⁻¹=some { cls:=.type "tuple",data:=.seq (List.toArray [u,v]) }:=(s2.2 _ (bD zl)).trans pr;let ne:∀b u',H b=!u'->b∉[z,TI,TO,i1,i2]:=λb u' q hb=>by rw[(hf b hb).1] at q;cases q
  let bw:fN X.prog X.w (upd H s⁻¹ (.tup [x,y])) h2:=λb o q=>by
   by_cases hb:b=s⁻¹
   .subst hb;rw[k9] at q;cases q;show#[by change 2<=sizeLine;decide,[u,v],.cons ru (.cons OT .nil),_,t2,rfl,#[_,rfl],rfl]
   .rw[d6 hb] at q;show(I.bw b o q).J5 (λc v hc q'=>?_) (λc q'=>by rw[d6 (j0 q' hn)];show q') λc ys q'=>by rw[d6 (j0 q' hn)];show q'
    rcases hc with z|z
    .subst z;show kp _ _ (ne _ _ q) q'
    .exact kp _ _ (ne _ _ z) q'
  let I2:Inv X pi σ (upd H s⁻¹ (.tup [x,y])) { s with heap:=h2 }:=by
   show I.step (g':=s.gens) (d':=s.drawn) (t':=s.toks) (ch:=[z,TI,TO,i1,i2]) (λb hb=>?_) (λb o l l hb q l=>kp b o hb q) (λb o l l hb q l=>#[o.slots,kp b o hb q])
    (λb o l q n=>by rw[d6 (aD (ao q))];show n) (λb o hb q=>#[o,kp b o hb q])
    (λb ys q=>by rw[d6 (j0 q hn)];show q) (λb o' ys q=>by rw[d6 (j0 q hn)];show q) (λb ps q=>#[(List.toArray []),by rw[d6 (j0 q hn),q];simp]) (λm hm=>?_) bw I.bare
   .let#[e0,e1,e2,e3,e4,e5]:=hf b hb;show#[e3,e1,e4,e5]
   .let#[o,es,ep,ho,r]:=hm;show#[o,es,ep,kp _ o (λhb=>(hf _ hb).2.1 rfl) ho,r]
  show#[.ref s⁻¹,_,I2,rfl,#[s⁻¹,x,y,hn,rfl,λzs wc=>by rw[I.Kn wc hq];show hx,λzs wc=>by rw[I.MX wc hr];show hy,rfl],?_,λb hb=>?_]
  .let#[a',b',ho]:=qg.o;show#[z2,(s2.2 _ D.TIz).trans qg.p,#[a',b',(s2.2 _ D.TOz).trans ho],qg.a.at λo e=>(s2.2 _ D.i1z).trans e,qg.b.at λo e=>(s2.2 _ D.i2z).trans e]
  let jF:b<s⁻¹:=by
   let#[a',b',ho]:=st.o;let#[o1,e1,_]:=st.a;let#[o2,e2,_]:=st.b;let pA:=hb;simp only[List.mem_cons,List.mem_nil_iff,or_false] at pA;rcases pA with rfl|rfl|rfl|rfl|rfl
   .exact zl
   .exact ao st.p
   .exact ao ho
   .exact ao e1
   .exact ao e2
  rw[d6 (aD jF)];show(hf b hb).1
 done:=by
  intro X hP hw hK hc i pi s σ H E I hf st hg;subst hP hw hK;let#[xs,hq,hx]:=hg;let#[aX,rv,p,hz]:=I.tuple hq;let hl:=-rv;show bB5 (f:=.none) (I.ok.hd hc) D st (show s.heap.IsTuple t aX.toArray from p) (by simp;omega) λh' eb=>#[rfl,?_]
  let kp:∀b o,b∉[z,TI,TO,i1,i2]->s.heap.get? b=!o->h'.get? b=!o:=λb o hb q=>by
   simp only[List.mem_cons,List.mem_nil_iff,or_false,not_or] at hb;show eb b o hb.1 hb.2.2.1 hb.2.2.2.1 hb.2.2.2.2 q
  let ne:∀b u',H b=!u'->b∉[z,TI,TO,i1,i2]:=λb u' q hb=>by rw[(hf b hb).1] at q;cases q
  let bw:fN X.prog X.w H h':=λb o q=>by
   show(I.bw b o q).J5 (λc v hc q'=>?_) (λc q'=>q') λc ys q'=>q';rcases hc with z|z
   .subst z;show kp _ _ (ne _ _ q) q'
   .exact kp _ _ (ne _ _ z) q'
  show I.step (g':=s.gens) (d':=s.drawn) (t':=s.toks) (ch:=[z,TI,TO,i1,i2]) (λb hb=>?_) (λb o l l hb q l=>kp b o hb q) (λb o l l hb q l=>#[o.slots,kp b o hb q])
   (λb o l q n=>n) (λb o hb q=>#[o,kp b o hb q]) (λb ys q=>q) (λb o' ys q=>q) (λb ps q=>#[(List.toArray []),by rw[q];simp]) (λm hm=>?_) bw I.bare
  .let#[e0,e1,e2,e3,e4,e5]:=hf b hb;show#[e3,e1,e4,e5]
  .let#[o,es,ep,ho,r]:=hm;show#[o,es,ep,kp _ o (λhb=>(hf _ hb).2.1 rfl) ho,r]
 self:=λl l l l l st h=>wpAny_pyIter_zip st.z h
def Zf{a b:Expr}{ta:TA}{p pos tp:Pos}{elts:@&Expr}{x1:Nat}(hg:Gl X "zip")(hm:X.mg "zip"=none)(ha:PA X [a,b] ta)(hs:starEach [a,b] X.env=[(false,eval a X.env),(false,eval b X.env)])(iU:starEach [b] X.env=[(false,eval b X.env)]) :
  PI X (.Tuple elts x1 tp) (.Call (.Name "zip" p) [a,b] [] pos) (λσ H R=>ta σ H λvs H1=>∃t a,vs=[.ref t,.ref a]/\(∃xs,gm X.K H1 t xs)/\(∃ys,fR X.K H1 a ys)/\R (Ga X.K t a) H1):=by
 intro pi s σ H R I h;show Call_ (S7 I hg hm PyProof.Rows.boot_zip (cj (cF (ha pos pi s σ H _ I h) λus s1 bf=>?_) (by rw[hs,iU]) (by rw[iU];rfl)));let#[vs,H1,I1,r1,q1]:=bf;let#[t,a,e,#[xs,hq],#[ys,hr],q]:=q1;subst e;cases r1 with
 |cons r rr =>
  cases rr with
  |cons r' rr =>
   cases rr;cases r;cases r';let#[aX,rv,p1,hz]:=I1.tuple hq;let#[PD,fk,p2,GW]:=I1.list hr;show aL9 (show s1.heap.IsTuple t aX.toArray from p1) p2.isList λh' Z hk=>wpAny_pyIter_zip Z.z ?_;let ne:∀n j k:Nat,j≠k->n+j≠n+k:=λn j k h=>by omega
   let le:∀n k:Nat,n<=n+k:=λn k=>by omega
   let dd:Zd (s1⁻¹+4) (s1⁻¹+2) (s1⁻¹+3) s1⁻¹ (s1⁻¹+1):=#[ne _ 2 4 ∅,ne _ 3 4 ∅,ne _ 0 4 ∅,ne _ 1 4 ∅,ne _ 2 3 ∅,ne _ 2 0 ∅,ne _ 2 1 ∅,ne _ 3 0 ∅,ne _ 3 1 ∅,ne _ 0 1 ∅]
   show#[_,[s1⁻¹+4,s1⁻¹+2,s1⁻¹+3,s1⁻¹,s1⁻¹+1],_,_,H1,rfl,I1.kept (t':=s1.toks) hk,VE (t:=t) (a:=a) dd,Z,λb hb=>?_,q];let jF:s1⁻¹<=b:=by
    simp only[List.mem_cons,List.mem_nil_iff,or_false] at hb;rcases hb with rfl|rfl|rfl|rfl|rfl
    .exact le _ 4
    .exact le _ 2
    .exact le _ 3
    .exact le _ 0
    .exact le _ 1
   show I1.qK jF (I1.bw.fresh jF)
end
def TN:j7 X (.builtin "isinstance") (λxs H Q=>∃a C dx fs,xs=[.ref a,.ref C]/\H a=!.ins C dx fs/\Q (.bl true) H):=by
 intro pi s σ H xs us Q I r h;let#[a,C,dx,fs,rfl,ha,q]:=h;let#[u,w',rfl,ru,fk]:=vals2 r;cases (show u=Value.ref a from ru);cases (show w'=Value.ref C from fk);let#[_,_,_,ob,_]:=(show j5 X.prog X.w H s.heap a (.ins C dx fs) from I.bw a _ ha)
 show PyProof.Rows.call_isinstance_of ?_;unfold Builtin.«isinstance.nested»;let L:PySem.W.Looks (model X.prog X.w) s.heap (typeOf (.ref a)) (.ref C):=(PySem.W.Looks.ld ob).andThen .now;let#[h,g,dd,tk,os]:=s;show aa (L.at ?_);rw[av #[_]]
 repeat (first|show ai ?_|show dH ?_|show aa ?_)
 show#[.bl true,H,I,rfl,q]
end L2
namespace M
open PySem L2
set_option genInjectivity true in
inductive D where
 |aO|bl (b:Bool)|int (i:Int)|str (x:Str)|ty (n:String)|ref (i:Nat)|tup (l:@&D)
set_option genInjectivity true in
inductive O where
 |lst (l:@&D)|pO (l:@&D)
 |bZ (kvs:@&(Key×D))
 |ins (c:Str) (fs:@&(Str×D))
 |set (S:Int->Bool) (n:Nat)
abbrev O.mut:O->Bool
 |.pO _=>false
 |_=>true
abbrev oB:D->Option Key
 |.int i=>!.inl i
 |.str x=>!.inr x
 |_=>none
abbrev N1(kvs:@&(Key×D))(k:Key):Option D:=(kvs.find? λkv=>decide (kv.1=k)).map (·.2)
abbrev putD(kvs:@&(Key×D))(k:Key)(v:D):@&(Key×D) :=
 if(kvs.any λkv=>decide (kv.1=k))=true then kvs.map (λkv=>if kv.1=k then(kv.1,v) else kv) else kvs++[(k,v)]
abbrev A2(f:Str)(v:D):@&(Str×D)->@&(Str×D)
 |[]=>[(f,v)]
 |(g,x)::r=>if g=f then(g,v)::r else(g,x)::A2 f v r
abbrev Y3:@&D->Str->Option D
 |.tup [.str y,v]::r,x=>if x=y then some v else Y3 r x
 |_::_,_=>none
 |[],_=>none
abbrev Y5:@&D->Option Str
 |[]=>!Str.empty
 |.str x::r=>(Y5 r).map λy=>x++y
 |_=>none
structure Xn where
 cls:Str
noncomputable abbrev G:=@&O
noncomputable abbrev S:=@&(Option D)
noncomputable abbrev KD:=D->G->Prop
noncomputable abbrev KX:=Xn->G->Prop
noncomputable abbrev ky:KX:=λx x=>False
abbrev FF:Option O->Option (@&D)
 |some (.lst l)=>!l
 |some (.pO l)=>!l
 |_=>none
noncomputable abbrev c7(g:G)(a:Nat):Option (@&D):=FF g[a]?
abbrev rd(g:G):Nat->D->Option PyData
 |_,.aO=>!.none
 |_,.bl b=>!.bool b
 |_,.int i=>!.int i
 |_,.str x=>!.str x
 |_,.ty _=>none
 |0,.ref _=>none
 |0,.tup _=>none
 |n+1,.ref a=>match c7 g a with
  |some l=>(l.mapM (rd g n)).map .list
  |none=>none
 |n+1,.tup l=>(l.mapM (rd g n)).map .tuple
abbrev qi(g:G)(l:@&D):Option (@&PyData):=l.mapM (rd g 6)
abbrev D8(g:G):D->Option (@&D)
 |.tup l=>!l
 |.ref a=>c7 g a
 |_=>none
abbrev R7:D->Bool
 |.aO=>true
 |_=>false
abbrev cut{α:Type}(xs:List α)(lo hi:Option Int):List α:=(xs.drop (HT.dU (-xs) 0 lo)).take (HT.dU (-xs) (-xs) hi-HT.dU (-xs) 0 lo)
abbrev sR(g:G)(x:D)(c:String):Option Bool:=match x with
 |.aO=>!(c=="NoneType")
 |.bl _=>!(c=="bool"||c=="int")
 |.int _=>!(c=="int")
 |.str _=>!(c=="str")
 |.tup _=>!(c=="tuple")
 |.ref a=>match g[a]? with
  |some (.lst _)=>!(c=="list")
  |_=>none
 |.ty _=>none
abbrev l0(lo:Int)(n:Nat):@&D:=(List.range n).map λ(k:Nat)=>.int (lo+k)
abbrev K7:@&D->Option Bool
 |[]=>!true
 |.bl b::r=>(K7 r).map λc=>b&&c
 |_=>none
inductive Pr where
 |bin (op:Operator)|un (op:UnaryOp)|cmp (op:CmpOp)
 |ix|kY (lo hi:Bool)|rev|tup|lst|mn
 |len|list|tuple|isin|all|max|min|int|str|ke|jZ|sset|vw|kq
 |HC|nK|kS|fv|ml|fld (f:Str)
 |append|pop|get|index|join|iadd|clear|je|extend|any|vB|sum|sS|rP|vG|Bt|Dj|xH|vE (i:Int)|split|wa (c:Str)
noncomputable abbrev DR:=@&D->G->D->G->Prop
abbrev arR:Operator->Int->Int->Int->Prop
 |.Add,i,j,r=>r=i+j
 |.Sub,i,j,r=>r=i-j
 |.Mult,i,j,r=>sN i j/\r=i*j
 |.FloorDiv,i,j,r=>Dq i j/\r=i / j
 |.Mod,i,j,r=>0<j/\r=i % j
 |.Pow,i,j,r=>T7 i j/\r=i ^ j.toNat
 |.LShift,i,j,r=>T7 i j/\r=i*2 ^ j.toNat
 |.BitAnd,i,j,r=>r=Builtin.bitAnd i j
 |.BitOr,i,j,r=>r=Builtin.bitOr i j
 |_,_,_,_=>False
def b55(op:Operator):DR:=λxs g d g' =>
 (∃i j r,xs=[.int i,.int j]/\arR op i j r/\d=.int r/\g'=g) \/
 (op=.Add/\((∃ l m,xs=[.tup l,.tup m]/\-l + -m <= 100000/\d=.tup (l ++ m)/\g'=g) \/
  (∃a b l m,xs=[.ref a,.ref b]/\g[a]?=!.lst l/\g[b]?=!.lst m/\-l+-m<=100000/\d=.ref (-g)/\g'=g++[.lst (l++m)]) \/
  (∃ x y,xs=[.str x,.str y]/\-x + -y <= 100000/\d=.str (x ++ y)/\g'=g))) \/
 (op=.Mult/\((∃ a l n,xs=[.ref a,.int n]/\g[a]?=!.lst l/\-(2 ^ 62) <= n/\n < 2 ^ 62/\-l * n.toNat <= 100000/\d=.ref (-g)/\g'=g ++ [.lst (List.replicate n.toNat l).flatten]) \/
  (∃ l n,xs=[.tup l,.int n]/\l ≠ []/\1 <= n/\n < 2 ^ 62/\-l * n.toNat <= 100000/\d=.tup (List.replicate n.toNat l).flatten/\g'=g)))
def OG(op:UnaryOp):DR:=λxs g d g'=>op=.USub/\∃i,xs=[.int i]/\d=.int (-(i))/\g'=g
abbrev xF(g:G)(x y:D)(b:Bool):Prop :=
 (∃i j,x=.int i/\y=.int j/\b=decide (i=j))\/(∃i j,x=.bl i/\y=.bl j/\b=(i==j))\/(∃i j,x=.str i/\y=.str j/\b=decide (i=j)) \/
 ∃p q,rd g 6 x=!p/\rd g 6 y=!q/\p.canLay0=true/\q.canLay0=true/\b=PyData.eqv p q
abbrev inR(g:G)(x y:D)(b:Bool):Prop :=
 (∃a kvs c,y=.ref a/\g[a]?=!.bZ kvs/\oB x=!c/\b=(N1 kvs c).isSome) \/
 ∃l ps p,D8 g y=!l/\qi g l=!ps/\rd g 6 x=!p/\PyData.canLayAll0 ps=true/\p.canLay0=true/\b=(ps.any λq=>PyData.eqv q p)
def JI(g:G)(x y:D)(b:Bool):Prop:=∃a S n i,y=.ref a/\g[a]?=!.set S n/\x=.int i/\b=S i
def JL(x y:D)(b:Bool):Prop:=∃i j,x=.str i/\y=.str j/\b= ~~~(Builtin.Str.occurrences j i 0 (-j) 1).isEmpty
abbrev sgn(a:Str):@&D:=a.cps.toList.map λc=>.str #[(List.toArray [c])]
abbrev Ju(g:G)(x y:D)(b:Bool):CmpOp->Prop
 |.Eq=>xF g x y b
 |.NotEq=>xF g x y (~~~b)
 |.In=>inR g x y b\/JI g x y b\/JL x y b
 |.NotIn=>inR g x y (~~~b)\/JI g x y (~~~b)\/JL x y (~~~b)
 |.Lt=>∃i j,x=.int i/\y=.int j/\b=decide (i<j)
 |.LtE=>∃i j,x=.int i/\y=.int j/\b=decide (i<=j)
 |.Gt=>∃i j,x=.int i/\y=.int j/\b=decide (j<i)
 |.GtE=>∃i j,x=.int i/\y=.int j/\b=decide (j<=i)
 |.Is=>y=.aO/\b=R7 x
 |.IsNot=>y=.aO/\b= ~~~R7 x
def b54(op:CmpOp):DR:=λxs g d g'=>∃x y b,xs=[x,y]/\Ju g x y b op/\d=.bl b/\g'=g
abbrev JN(g:G)(x:D)(b:Bool):Prop :=
 (x=.aO/\b=false)\/x=.bl b\/(∃i,x=.int i/\b=(i != 0))\/(∃l,x=.tup l/\b= ~~~l.isEmpty)\/∃a l,x=.ref a/\c7 g a=!l/\b= ~~~l.isEmpty
def PH:DR:=λxs g d g'=>g'=g/\((∃x l i,xs=[x,.int i]/\D8 g x=!l/\js l i=!d)\/(∃a kvs y c,xs=[.ref a,y]/\g[a]?=!.bZ kvs/\oB y=!c/\N1 kvs c=!d) \/
 False)
def vC(x:D)(lo hi:Option Int)(g:G)(d:D)(g':G):Prop:=(∃l,x=.tup l/\d=.tup (cut l lo hi)/\g'=g)\/∃a l,x=.ref a/\c7 g a=!l/\d=.ref (-g)/\g'=g++[.lst (cut l lo hi)]
abbrev b09:Bool->Bool->DR
 |false,false,xs,g,d,g'=>∃x,xs=[x]/\vC x none none g d g'
 |true,false,xs,g,d,g'=>∃x i,xs=[x,.int i]/\vC x (!i) none g d g'
 |false,true,xs,g,d,g'=>∃x j,xs=[x,.int j]/\vC x none (!j) g d g'
 |true,true,xs,g,d,g'=>∃x i j,xs=[x,.int i,.int j]/\vC x (!i) (!j) g d g'
def b17:DR:=λxs g d g'=>(∃l,xs=[.tup l]/\d=.tup l.reverse/\g'=g)\/∃a l,xs=[.ref a]/\c7 g a=!l/\d=.ref (-g)/\g'=g++[.lst l.reverse]
def Wa:DR:=λxs g d g'=>-xs<=1000/\d=.tup xs/\g'=g
def b39:DR:=λxs g d g'=>-xs<=1000/\d=.ref (-g)/\g'=g++[.lst xs]
abbrev ux:@&D->@&(Key×D)->Option (List (Key×D))
 |[],kvs=>!kvs
 |k::v::r,kvs=>(oB k).bind λc=>ux r (putD kvs c v)
 |_,_=>none
def Wj:DR:=λxs g d g'=>xs=[]/\d=.ref (-g)/\g'=g++[.bZ []]
def b40:DR:=λxs g d g'=>g'=g/\((∃x l,xs=[x]/\D8 g x=!l/\d=.int (-l))\/False\/∃x,xs=[.str x]/\-x<=100000/\d=.int (-x))
abbrev kD:Key->D
 |.inl i=>.int i
 |.inr x=>.str x
def WK:DR:=λxs g d g'=>(∃x l,xs=[x]/\D8 g x=!l/\d=.ref (-g)/\g'=g++[.lst l])\/∃a kvs,xs=[.ref a]/\g[a]?=!.bZ kvs/\-kvs<=10000/\d=.ref (-g)/\g'=g++[.lst ((kvs.map (·.1)).map kD)]
def bC3:DR:=λxs g d g'=>∃x l,xs=[x]/\D8 g x=!l/\d=.tup l/\g'=g
def Wx:DR:=λxs g d g'=>∃x c b,xs=[x,.ty c]/\c∈["int","bool","str","tuple","list"]/\sR g x c=!b/\d=.bl b/\g'=g
def allR:DR:=λxs g d g'=>∃a l b,xs=[.ref a]/\c7 g a=!l/\(K7 l=!b\/∃ns:@&Int,l=ns.map .int/\b=ns.all λn=>n != 0)/\d=.bl b/\g'=g
abbrev HR:@&D->Option Bool
 |[]=>!false
 |.bl b::r=>(HR r).map λc=>b||c
 |_=>none
def anyR:DR:=λxs g d g'=>∃a l b,xs=[.ref a]/\c7 g a=!l/\HR l=!b/\d=.bl b/\g'=g
def ZN:DR:=λxs g d g'=>False\/∃x,∃ns:@&Int,xs=[x]/\D8 g x=!ns.map .int/\-ns<60/\d=.ref (-g)/\g'=g++[.lst ((Xt ns).map .int)]
def b38:DR:=λxs g d g'=>g'=g/\((∃i j,xs=[.int i,.int j]/\d=.int (if j>i then j else i))\/∃a,∃(ns:@&Int) (M:Int),xs=[.ref a]/\c7 g a=!ns.map .int/\M∈ns/\(∀x∈ns,x<=M)/\d=.int M)
def b37:DR:=λxs g d g'=>g'=g/\((∃i j,xs=[.int i,.int j]/\d=.int (if j<i then j else i))\/False)
def Xp:DR:=λxs g d g'=>∃a i S n,xs=[.ref a,.int i]/\g[a]?=!.set S n/\n+1<4096/\d=.aO/\g'=g.set a (.set (λk=>S k||decide (k=i)) (if S i then n else n+1))
def WI:DR:=λxs g d g'=>∃a,∃ns:@&Int,xs=[.ref a]/\c7 g a=!ns.map .int/\-ns<600/\d=.ref (-g)/\g'=g++[.set (λk=>decide (k∈ns)) (ST.i7 [] ns).length]
def Zt(i:Int):DR:=λxs g d g'=>xs=[]/\d=.ref (-g)/\g'=g++[.set (λk=>decide (k=i)) 1]
def b06:DR:=λxs g d g'=>∃a,∃ns:@&Int,xs=[.ref a]/\c7 g a=!ns.map .int/\d=.int ns.sum/\g'=g
def WL:DR:=λxs g d g'=>∃a,∃ns:@&Int,xs=[.ref a]/\c7 g a=!ns.map .int/\-ns<60/\d=.int (ST.i7 [] ns).length/\g'=g
def Wy:DR:=λxs g d g'=>∃i j,xs=[.int i,.int j]/\d=.int (i-j)/\g'=g
def b44:DR:=λxs g d g'=>g'=g/\((∃i,xs=[.int i]/\d=.int i)\/(∃b,xs=[.bl b]/\d=.int (if b then 1 else 0))\/∃x n,xs=[.str x]/\-x<=640/\PySem.intText? x=!n/\d=.int n)
def ZO:DR:=λxs g d g'=>∃a b:Str,xs=[.str a,.str b]/\(-b==0)=false/\-a<=100000/\(Txt.split a b).length<=100000/\d=.ref (-g)/\g'=g++[.lst ((Txt.split a b).map .str)]
def b43(c:Str):DR:=λxs g d g'=>∃x,xs=[x]/\(∃a fs,x=.ref a/\g[a]?=!.ins c fs)/\d=.bl true/\g'=g
def b07:DR:=λxs g d g'=>(∃i,xs=[.int i]/\i.natAbs.log2<1920/\d=.str (toString i)/\g'=g)\/∃x,xs=[.str x]/\d=.str x/\g'=g
def Yu:DR:=λxs g d g'=>∃j,xs=[.int j]/\-(2 ^ 62)<=j/\j<=100000/\d=.ref (-g)/\g'=g++[.lst (l0 0 j.toNat)]
def Yv:DR:=λxs g d g'=>∃i j,xs=[.int i,.int j]/\(-(2 ^ 62)<=i/\i<2 ^ 62/\-(2 ^ 62)<=j/\j<2 ^ 62/\j-i<=100000)/\d=.ref (-g)/\g'=g++[.lst (l0 i (j-i).toNat)]
def Xu:DR:=λxs g d g'=>∃a ns,xs=[.ref a]/\c7 g a=!ns.map .int/\-ns<60/\d=.ref (-g)/\g'=g++[.lst ((O3 ns).map .int)]
def b05:DR:=λxs g d g'=>∃ns ms:@&Int,xs=[.tup (ns.map .int),.tup (ms.map .int)]/\(∀k∈ns,ST.Spot k)/\(∀k∈ms,ST.Spot k)/\-ns+-ms<50/\d=.ref (-g)/\g'=g++[.lst ((O3 (ns++ms)).map .int)]
def Dz(neg:Bool):DR:=λxs g d g'=>∃kvs x,xs=[.tup kvs,.str x]/\d=.bl (xor neg (Y3 kvs x).isSome)/\g'=g
def Wq:DR:=λxs g d g'=>∃kvs x,xs=[.tup kvs,.str x]/\Y3 kvs x=!d/\g'=g
def Rw:DR:=λxs g d g'=>g'=g/\((∃i,xs=[.int i]/\i.natAbs.log2<1920/\d=.str (toString i))\/∃x,xs=[.str x]/\-x<=2000/\d=.str x)
def Wn:DR:=λxs g d g'=>∃x,Y5 xs=!x/\d=.str x/\g'=g
def b49(f:Str):DR:=λxs g d g'=>∃a c fs,xs=[.ref a]/\g[a]?=!.ins c fs/\fs.lookup f=!d/\g'=g
def appendR:DR:=λxs g d g'=>∃a y l,xs=[.ref a,y]/\g[a]?=!.lst l/\-l<100000/\d=.aO/\g'=g.set a (.lst (l++[y]))
def b27:DR:=λxs g d g'=>∃a i l k,xs=[.ref a,.int i]/\g[a]?=!.lst l/\-(2 ^ 63)<=i/\i<2 ^ 63/\seqIndex? i (-l)=!k/\l[k]?=!d/\g'=g.set a (.lst (l.eraseIdx k))
def b46:DR:=λxs g d g'=>∃a y z kvs c,xs=[.ref a,y,z]/\g[a]?=!.bZ kvs/\oB y=!c/\d=(N1 kvs c).getD z/\g'=g
abbrev uH:D->Bool
 |.aO=>true
 |.bl _=>true
 |.int _=>true
 |.str _=>true
 |_=>false
abbrev toV:D->V
 |.bl b=>.bl b
 |.int i=>.int i
 |.str x=>.str x
 |_=>.aO
def S9(l:@&D)(y:D)(n:Nat):Prop:=l.all uH=true/\uH y=true/\(∃z,l[n]?=!z/\lD (toV z) (toV y)=true)/\∀(m:Nat) z,m<n->l[m]?=!z->lD (toV z) (toV y)=false
def Yh:DR:=λxs g d g'=>∃x y l n,xs=[x,y]/\D8 g x=!l/\S9 l y n/\-l<=100000/\d=.int n/\g'=g
def joinR:DR:=λxs g d g'=>∃sep a ys,xs=[.str sep,.ref a]/\c7 g a=!ys.map .str/\E7 sep ys<=100000/\d=.str (Builtin.Str.glued sep ys)/\g'=g
def Wv:DR:=λxs g d g'=>(∃i j,xs=[.int i,.int j]/\d=.int (i+j)/\g'=g)\/∃l m,xs=[.tup l,.tup m]/\-l+-m<=100000/\d=.tup (l++m)/\g'=g
def XX:DR:=λxs g d g'=>∃a l,xs=[.ref a]/\g[a]?=!.lst l/\d=.aO/\g'=g.set a (.lst [])
def Xg:DR:=λxs g d g'=>∃a l,xs=[.ref a]/\g[a]?=!.lst (l++[d])/\g'=g.set a (.lst l)
def bA3:DR:=λxs g d g'=>∃a b l m,xs=[.ref a,.ref b]/\g[a]?=!.lst l/\g[b]?=!.lst m/\-l+-m<=100000/\d=.aO/\g'=g.set a (.lst (l++m))
def X':DR:=λxs g d g'=>(∃a kvs,xs=[.ref a]/\g[a]?=!.bZ kvs/\d=.ref (-g)/\g'=g++[.bZ kvs])\/∃a,∃ks:@&Int,xs=[.ref a]/\c7 g a=!(ks.map λk=>.tup [.int k,.bl true])/\-ks<=1000/\ks.Nodup/\d=.ref (-g)/\g'=g++[.bZ (ks.map λk=>(.inl k,.bl true))]
abbrev uk(p:Key×Int×Int):Key×D:=(p.1,.tup [.int p.2.1,.int p.2.2])
def WH(n:Int)(p:Key×Int×Int):Bool:= ~~~(decide (p.2.1=n)||decide (p.2.2=n))
def Wh:DR:=λxs g d g'=>∃a n,∃fs:@&(Key×Int×Int),xs=[.ref a,.int n]/\g[a]?=!.bZ (fs.map uk)/\-fs<1000/\(fs.map (·.1)).Nodup/\d=.ref (-g)/\g'=g++[.bZ ((fs.filter (WH n)).map uk)]
abbrev delD(kvs:@&(Key×D))(k:Key):@&(Key×D):=kvs.filter λkv=>decide (kv.1≠k)
def Wk:DR:=λxs g d g'=>∃a y kvs c,xs=[.ref a,y]/\g[a]?=!.bZ kvs/\oB y=!c/\N1 kvs c=!d/\g'=g.set a (.bZ (delD kvs c))
abbrev PR:Pr->DR
 |.Dj=>Wh
 |.xH=>Wk
 |.split=>ZO
 |.wa c=>b43 c
 |.clear=>XX
 |.any=>anyR
 |.sum=>b06
 |.vG=>Xp
 |.Bt=>WI
 |.vE i=>Zt i
 |.sS=>WL
 |.rP=>Wy
 |.vB=>ZN
 |.extend=>bA3
 |.je=>Xg
 |.kq=>X'
 |.bin op=>b55 op
 |.un op=>OG op
 |.cmp op=>b54 op
 |.ix=>PH
 |.kY a b=>b09 a b
 |.rev=>b17
 |.tup=>Wa
 |.lst=>b39
 |.mn=>Wj
 |.len=>b40
 |.list=>WK
 |.tuple=>bC3
 |.isin=>Wx
 |.all=>allR
 |.max=>b38
 |.min=>b37
 |.int=>b44
 |.str=>b07
 |.ke=>Yu
 |.jZ=>Yv
 |.sset=>Xu
 |.vw=>b05
 |.HC=>Dz false
 |.nK=>Dz true
 |.kS=>Wq
 |.fv=>Rw
 |.ml=>Wn
 |.fld f=>b49 f
 |.append=>appendR
 |.pop=>b27
 |.get=>b46
 |.index=>Yh
 |.join=>joinR
 |.iadd=>Wv
def cw(p:Pr)(xs:@&D)(g:G)(Q:KD):Prop:=∃d g',PR p xs g d g'/\Q d g'
def xG(g:G)(x y:D)(k:Bool->Prop):Prop:=∃b,xF g x y b/\k b
def rQ(g:G)(x y:D)(k:Bool->Prop):Prop:=∃b,inR g x y b/\k b
def qN(g:G)(x:D)(k:Bool->Prop):Prop:=∃b,JN g x b/\k b
def b13(x y v:D)(g g':G):Prop:=(∃a i l j,x=.ref a/\y=.int i/\g[a]?=!.lst l/\lq (-l) i=!j/\g'=g.set a (.lst (l.set j v))) \/
 ∃a kvs c,x=.ref a/\g[a]?=!.bZ kvs/\oB y=!c/\-kvs<100000/\g'=g.set a (.bZ (putD kvs c v))
def qb(x y v:D)(g:G)(k:G->Prop):Prop:=∃g',b13 x y v g g'/\k g'
def IZ(f:Str)(cs:@&Str)(x v:D)(g g':G):Prop:=∃a c fs,x=.ref a/\g[a]?=!.ins c fs/\c∈cs/\-fs<100/\g'=g.set a (.ins c (A2 f v fs))
def xY(f:Str)(cs:@&Str)(x v:D)(g:G)(k:G->Prop):Prop:=∃g',IZ f cs x v g g'/\k g'
abbrev mF:Pr->D->G->Prop
 |.get,x,g=>∃a kvs,x=.ref a/\g[a]?=!.bZ kvs
 |.xH,x,g=>∃a kvs,x=.ref a/\g[a]?=!.bZ kvs
 |.join,x,g=>∃y,x=.str y
 |.split,x,g=>∃y,x=.str y
 |.vG,x,g=>∃a S n,x=.ref a/\g[a]?=!.set S n
 |.index,x,g=>(∃l,x=.tup l)\/∃a l,x=.ref a/\c7 g a=!l
 |_,x,g=>∃a l,x=.ref a/\c7 g a=!l
inductive IK where
 |fix (l:@&D)|lst (a:Nat)|HG (a:Nat)|Gz (a n:Nat)|tG (l:@&D) (a:Nat)
abbrev IK.at:IK->Nat->G->Option (Option D)
 |.fix l,i,_=>some l[i]?
 |.lst a,i,g=>match c7 g a with
  |some l=>some l[i]?
  |none=>none
 |.HG a,i,g=>match c7 g a with
  |some l=>!(l[i]?.map λd=>.tup [.int i,d])
  |none=>none
 |.tG l a,i,g=>match c7 g a with
  |some m=>if (-l)=-m then some ((l.zip m)[i]?.map λp=>.tup [p.1,p.2]) else none
  |none=>none
 |.Gz a n,i,g=>match c7 g a with
  |some l=>if (-l)=n then some (if i<n then l[n-1-i]? else none) else none
  |none=>none
inductive MT where
 |one (i:Nat)|many (is:@&Nat)
abbrev S3:@&Nat->@&D->S->Option S
 |[],[],σ=>!σ
 |i::is,d::ds,σ=>S3 is ds (σ.set i (!d))
 |_,_,_=>none
def kX(t:MT)(x:D)(σ:S)(k:S->Prop):Prop:=match t with
 |.one i=>k (σ.set i (!x))
 |.many is=>∃l cv,x=.tup l/\S3 is l σ=!cv/\k cv
set_option genInjectivity false in
set_option genSizeOf false in
inductive ME where
 |var (i:Nat)|lit (d:D)
 |nil|cons (a b:ME)|prim (p:Pr) (es:ME)|dk (p:Pr) (o es:ME)|oy (es:ME)
 |chain (o1 o2:CmpOp) (a b c:ME)
 |eO (a b:ME)|gI (a b:ME)|cL (a:ME)|ite (c a b:ME)
 |call (f:Nat) (es:ME)|make (c:Str) (f:Nat) (es:ME)|bg (m:Str) (cs:@&(Str×Nat)) (o es:ME)
 |comp (c9:@&Nat) (n:Nat) (tg:MT) (it cond elt:ME)|jW (c9:@&Nat) (n:Nat) (tg:MT) (it cond elt:ME)|gQ (c9:@&Nat) (n:Nat) (tg:MT) (it cond elt:ME)
 |jg (e:ME)|fO (a:ME)|iC (a b:ME)|tQ (e:ME)|tP (e:ME)|og (a b:ME)|eG (e:ME)|no
noncomputable abbrev fb:=Nat->@&D->G->KD->KX->Prop
def R9(σ:S)(c9:@&Nat)(n:Nat):S:=c9.map (λj=>(σ[j]?).join)++List.replicate (n- -c9) none
abbrev turns(k:IK)(σ:S)(g:G)(fin:S->G->Prop)(turn:D->(S->G->Prop)->S->G->Prop):Prop :=
 ∃W:Nat->Nat->S->G->Prop,(∃m,W 0 m σ g)/\∀i m σ g,W i m σ g->(k.at i g=!none/\fin σ g)\/∃x,k.at i g=!!x/\∃N2:S->G->Prop,(∀cv g',N2 cv g'->∃m',m'<m/\W (i+1) m' cv g')/\turn x N2 σ g
abbrev zT(k:IK)(σ:S)(g:G)(fin:@&D->G->Prop)(turn:D->(Option D->S->G->Prop)->S->G->Prop):Prop :=
 ∃W:Nat->Nat->@&D->S->G->Prop,(∃m,W 0 m [] σ g)/\∀i m ys σ g,W i m ys σ g->(k.at i g=!none/\fin ys g) \/
  ∃x,k.at i g=!!x/\-ys<100000/\turn x (λy cv g'=>∃m',m'<m/\W (i+1) m' (ys++y.toList) cv g') σ g
abbrev FQ(k:IK)(σ:S)(g:G)(fin:@&Int->G->Prop)(turn:D->(Option Int->S->G->Prop)->S->G->Prop):Prop :=
 ∃W:Nat->Nat->@&Int->S->G->Prop,(∃m,W 0 m [] σ g)/\∀i m ys σ g,W i m ys σ g->(k.at i g=!none/\-ys<60/\fin ys g) \/
  ∃x,k.at i g=!!x/\-ys<60/\turn x (λy cv g'=>∃m',m'<m/\W (i+1) m' (ys++y.toList) cv g') σ g
mutual
noncomputable def aV(P:fb):ME->S->G->KD->KX->Prop
 |.var i,σ,g,Q,_=>∃d,σ[i]?=!!d/\Q d g
 |.lit d,_,g,Q,_=>Q d g
 |.prim p es,σ,g,Q,E=>fj P es σ g (λxs g1=>cw p xs g1 Q) E
 |.dk p o es,σ,g,Q,E=>aV P o σ g (λx g1=>mF p x g1/\fj P es σ g1 (λxs g2=>cw p (x::xs) g2 Q) E) E
 |.oy es,σ,g,Q,E=>fj P es σ (g++[.bZ []]) (λxs g1=>∃kvs,ux xs []=!kvs/\-xs<=30/\g1[(-g)]?=!.bZ []/\Q (.ref (-g)) (g1.set (-g) (.bZ kvs))) E
 |.chain o1 o2 a b c,σ,g,Q,E=>aV P a σ g (λx g1=>aV P b σ g1 (λy g2=>cw (.cmp o1) [x,y] g2 λz g3=>∃t,z=.bl t/\if t=true then aV P c σ g3 (λw g4=>cw (.cmp o2) [y,w] g4 Q) E else Q (.bl false) g3) E) E
 |.eO a b,σ,g,Q,E=>aV P a σ g (λx g1=>∃t,x=.bl t/\if t=true then aV P b σ g1 Q E else Q (.bl false) g1) E
 |.gI a b,σ,g,Q,E=>aV P a σ g (λx g1=>∃t,x=.bl t/\if t=true then Q (.bl true) g1 else aV P b σ g1 Q E) E
 |.cL a,σ,g,Q,E=>aV P a σ g (λx g1=>∃t,x=.bl t/\Q (.bl (~~~t)) g1) E
 |.ite c a b,σ,g,Q,E=>dM P c σ g (λt g1=>if t=true then aV P a σ g1 Q E else aV P b σ g1 Q E) E
 |.call f es,σ,g,Q,E=>fj P es σ g (λxs g1=>P f xs g1 Q E) E
 |.make c f es,σ,g,Q,E=>fj P es σ g (λxs g1=>P f (.ref (-g1)::xs) (g1++[.ins c []]) (λd g2=>d=.aO/\Q (.ref (-g1)) g2) E) E
 |.bg m cs o es,σ,g,Q,E=>aV P o σ g (λx g1=>∃a c fs f,x=.ref a/\g1[a]?=!.ins c fs/\fs.lookup m=none/\cs.lookup c=!f/\fj P es σ g1 (λxs g2=>P f (x::xs) g2 Q E) E) E
 |.comp c9 n tg it cond elt,σ,g,Q,E=>iR P it σ g (λk g1=>zT k (R9 σ c9 n) g1 (λys g=>Q (.ref (-g)) (g++[.lst ys])) λx N σ g=>kX tg x σ λdh=>dM P cond dh g (λb g3=>if b=true then aV P elt dh g3 (λy g4=>N (!y) dh g4) ky else N none dh g3) ky) E
 |.gQ c9 n tg it cond elt,σ,g,Q,E=>iR P it σ g (λk g1=>zT k (R9 σ c9 n) g1 (λys g=>Q (.ref (-g)) (g++[.lst ys])) λx N σ g=>kX tg x σ λdh=>dM P cond dh g (λb g3=>if b=true then aV P elt dh g3 (λy g4=>N (!y) dh g4) E else N none dh g3) ky) E
 |.jW c9 n tg it cond elt,σ,g,Q,E=>iR P it σ g (λk g1=>FQ k (R9 σ c9 n) g1 (λys g=>Q (.ref (-g)) (g++[.lst ((O3 ys).map .int)])) λx N σ g=>kX tg x σ λdh=>dM P cond dh g (λb g3=>if b=true then aV P elt dh g3 (λy g4=>∃j,y=.int j/\N (!j) dh g4) ky else N none dh g3) ky) E
 |.nil,_,_,_,_=>False
 |.cons _ _,_,_,_,_=>False
 |.jg _,_,_,_,_=>False
 |.fO _,_,_,_,_=>False
 |.iC _ _,_,_,_,_=>False
 |.tQ _,_,_,_,_=>False
 |.tP _,_,_,_,_=>False
 |.og _ _,_,_,_,_=>False
 |.eG _,_,_,_,_=>False
 |.no,_,_,_,_=>False
noncomputable def fj(P:fb):ME->S->G->(List D->G->Prop)->KX->Prop
 |.nil,_,g,Q,_=>Q [] g
 |.cons a b,σ,g,Q,E=>aV P a σ g (λx g1=>fj P b σ g1 (λxs g2=>Q (x::xs) g2) E) E
 |_,_,_,_,_=>False
noncomputable def dM(P:fb):ME->S->G->(Bool->G->Prop)->KX->Prop
 |.eO a b,σ,g,Q,E=>dM P a σ g (λt g1=>if t=true then dM P b σ g1 Q E else Q false g1) E
 |.gI a b,σ,g,Q,E=>dM P a σ g (λt g1=>if t=true then Q true g1 else dM P b σ g1 Q E) E
 |.cL a,σ,g,Q,E=>dM P a σ g (λt g1=>Q (~~~t) g1) E
 |.no,_,g,Q,_=>Q true g
 |.eG e,σ,g,Q,E=>aV P e σ g (λx g1=>qN g1 x λb=>Q b g1) E
 |_,_,_,_,_=>False
noncomputable def iR(P:fb):ME->S->G->(IK->G->Prop)->KX->Prop
 |.jg e,σ,g,R,E=>aV P e σ g (λx g1=>(∃l,x=.tup l/\R (.fix l) g1)\/(∃a l,x=.ref a/\c7 g1 a=!l/\R (.lst a) g1)\/∃a:Str,x=.str a/\a.cps.all (·<128)=true/\R (.fix (sgn a)) g1) E
 |.fO a,σ,g,R,E=>aV P a σ g (λx g1=>∃j:Int,x=.int j/\-(2 ^ 62)<=j/\j<2 ^ 62/\R (.fix (l0 0 j.toNat)) g1) E
 |.iC a b,σ,g,R,E=>aV P a σ g (λx g1=>aV P b σ g1 (λy g2=>∃i j:Int,x=.int i/\y=.int j/\(-(2 ^ 62)<=i/\i<2 ^ 62/\-(2 ^ 62)<=j/\j<2 ^ 62)/\R (.fix (l0 i (j-i).toNat)) g2) E) E
 |.tQ e,σ,g,R,E=>aV P e σ g (λx g1=>∃a l,x=.ref a/\c7 g1 a=!l/\R (.HG a) g1) E
 |.og a b,σ,g,R,E=>aV P a σ g (λx g1=>aV P b σ g1 (λy g2=>∃l i m,x=.tup l/\y=.ref i/\c7 g2 i=!m/\R (.tG l i) g2) E) E
 |.tP e,σ,g,R,E=>aV P e σ g (λx g1=>∃a l,x=.ref a/\c7 g1 a=!l/\R (.Gz a (-l)) g1) E
 |_,_,_,_,_=>False
end
set_option genInjectivity false in
set_option genSizeOf false in
inductive MS where
 |pass|seq (a b:MS)|expr (e:ME)|set (i:Nat) (e:ME)|tJ (t:MT) (e:ME)|eJ (o i v:ME)|dS (f:Str) (cs:@&Str) (o v:ME)
 |ku (f:Str) (cs:@&Str) (o v:ME)|nV (i:Nat) (p:Pr) (v:ME)|yU (o1 i1 o2 i2 e:ME)|lO (i j:Nat) (e:ME)
 |ifs (c:ME) (a b:MS)|iE (t:MT) (it:ME) (b:MS)|vm (c:ME) (b:MS)|ret (e:ME)|rC|brk|cont
 |raise (x:Str) (es:ME)|T4 (b:MS) (hs:@&(Str×ME))
structure Ends where
 nx:S->G->Prop
 rt:KD
 bk:S->G->Prop:=λ_ _=>False
 ct:S->G->Prop:=λ_ _=>False
abbrev lL(P:fb)(N:Ends)(σ:S)(E:KX):@&(Str×ME)->KX
 |[],x,g=>E x g
 |(y,e)::r,x,g=>if x.cls=y\/y="MintError" then aV P e σ g N.rt ky else lL P N σ E r x g
abbrev wpS(P:fb):MS->Ends->S->G->KX->Prop
 |.pass,N,σ,g,_=>N.nx σ g
 |.seq a b,N,σ,g,E=>wpS P a { N with nx:=λjq g1=>wpS P b N jq g1 E } σ g E
 |.expr e,N,σ,g,E=>aV P e σ g (λs g1=>N.nx σ g1) E
 |.set i e,N,σ,g,E=>aV P e σ g (λx g1=>N.nx (σ.set i (!x)) g1) E
 |.tJ t e,N,σ,g,E=>aV P e σ g (λx g1=>kX t x σ λjq=>N.nx jq g1) E
 |.lO i j e,N,σ,g,E=>aV P e σ g (λv g1=>∃a x l,v=.ref a/\c7 g1 a=!(x::l)/\N.nx ((σ.set i (!x)).set j (!.ref (-g1))) (g1++[.lst l])) E
 |.eJ o i v,N,σ,g,E=>aV P v σ g (λx g1=>aV P o σ g1 (λy g2=>aV P i σ g2 (λz g3=>qb y z x g3 λg4=>N.nx σ g4) E) E) E
 |.dS f cs o v,N,σ,g,E=>aV P v σ g (λx g1=>aV P o σ g1 (λy g2=>xY f cs y x g2 λg3=>N.nx σ g3) E) E
 |.ku f cs o v,N,σ,g,E=>aV P o σ g (λy g1=>∃a c fs x,y=.ref a/\g1[a]?=!.ins c fs/\c∈cs/\fs.lookup f=!x/\aV P v σ g1 (λz g3=>cw .iadd [x,z] g3 λw g4=>∃iX,g4[a]?=!.ins c iX/\-iX<100/\N.nx σ (g4.set a (.ins c (A2 f w iX)))) E) E
 |.yU o1 i1 o2 i2 e,N,σ,g,E=>aV P e σ g (λx g1=>∃u v,x=.tup [u,v]/\aV P o1 σ g1 (λy1 g2=>aV P i1 σ g2 (λz1 g3=>qb y1 z1 u g3 λg4=>aV P o2 σ g4 (λy2 g5=>aV P i2 σ g5 (λz2 g6=>qb y2 z2 v g6 λg7=>N.nx σ g7) E) E) E) E) E
 |.nV i p v,N,σ,g,E=>∃x,σ[i]?=!!x/\aV P v σ g (λz g1=>cw p [x,z] g1 λw g2=>N.nx (σ.set i (!w)) g2) E
 |.ifs c a b,N,σ,g,E=>dM P c σ g (λt g1=>if t=true then wpS P a N σ g1 E else wpS P b N σ g1 E) E
 |.iE t it b,N,σ,g,E=>iR P it σ g (λk g1=>turns k σ g1 N.nx λx N2 σ g=>kX t x σ λdh=>wpS P b { N with nx:=N2,ct:=N2,bk:=N.nx } dh g E) E
 |.vm c b,N,σ,g,E=>∃W:Nat->S->G->Prop,(∃m,W m σ g)/\∀m σ g,W m σ g->dM P c σ g (λt g1=>if t=true then ∃N2:S->G->Prop,(∀cv g',N2 cv g'->∃m',m'<m/\W m' cv g')/\wpS P b { N with nx:=N2,ct:=N2,bk:=N.nx } σ g1 E else N.nx σ g1) E
 |.ret e,N,σ,g,E=>aV P e σ g N.rt E
 |.rC,N,_,g,_=>N.rt .aO g
 |.brk,N,σ,g,_=>N.bk σ g
 |.cont,N,σ,g,_=>N.ct σ g
 |.raise x es,_,σ,g,E=>fj P es σ g (λvs g1=>-vs<=1000/\E #[x] g1) E
 |.T4 b hs,N,σ,g,E=>wpS P b N σ g (lL P N (σ.map λs=>none) E hs)
structure aW where
 ar:Nat
 n:Nat
 body:MS
def b7(m:aW)(ds:@&D):S:=ds.map some++List.replicate (m.n- -ds) none
abbrev a8(T:Nat->Option aW):Nat->fb
 |0,_,_,_,_,_=>False
 |k+1,f,ds,g,Q,E=>∃m,T f=!m/\-ds=m.ar/\wpS (a8 T k) m.body #[λx g'=>Q .aO g',Q,λx x=>False,λx x=>False] (b7 m ds) g E
end M
namespace M
open PySem L2
variable{g:G}{K:PySem.W.Frag}{H:Hp}{a p:Addr}{vs:@&V}{i:Nat}{o:O}{u:HO}{l:@&D}
def p9{p xs}{Q Q':KD}(h:∀d g,Q d g->Q' d g)(q:cw p xs g Q):cw p xs g Q':=by
 let#[d,g',a,b]:=q;show#[d,g',a,h _ _ b]
def a03{x}{k k':Bool->Prop}(h:∀b,k b->k' b)(q:qN g x k):qN g x k':=by
 let#[b,a,z]:=q;show#[b,a,h _ z]
def X9{x y v}{k k':G->Prop}(h:∀g,k g->k' g)(q:qb x y v g k):qb x y v g k':=by
 let#[b,a,z]:=q;show#[b,a,h _ z]
def aT8{f cs x v}{k k':G->Prop}(h:∀g,k g->k' g)(q:xY f cs x v g k):xY f cs x v g k':=by
 let#[b,a,z]:=q;show#[b,a,h _ z]
def E1{t x σ}{k k':S->Prop}(h:∀σ,k σ->k' σ)(q:kX t x σ k):kX t x σ k':=by
 cases t with
 |one i=>show h _ q
 |many is=>let#[l,cv,a,b,c]:=q;show#[l,cv,a,b,h _ c]
def aS6{k σ g}{fin ko:S->G->Prop}{turn ig:D->(S->G->Prop)->S->G->Prop}(h:∀σ g,fin σ g->ko σ g)(h2:∀x N σ g,turn x N σ g->ig x N σ g)(q:turns k σ g fin turn):turns k σ g ko ig:=by
 let#[W,w0,q]:=q;show#[W,w0,λi m σ g w=>?_];rcases q i m σ g w with⟨a,b⟩|⟨x,a,N2,b,c⟩
 .exact .inl #[a,h _ _ b]
 .exact .inr #[x,a,N2,b,h2 _ _ _ _ c]
def Lb{k σ g}{fin ko:@&D->G->Prop}{turn ig:D->(Option D->S->G->Prop)->S->G->Prop}(h:∀ys g,fin ys g->ko ys g)(h2:∀x N σ g,turn x N σ g->ig x N σ g)(q:zT k σ g fin turn):zT k σ g ko ig:=by
 let#[W,w0,q]:=q;show#[W,w0,λi m ys σ g w=>?_];rcases q i m ys σ g w with⟨a,b⟩|⟨x,a,b,c⟩
 .exact .inl #[a,h _ _ b]
 .exact .inr #[x,a,b,h2 _ _ _ _ c]
def aK6{k σ g}{fin ko:@&Int->G->Prop}{turn ig:D->(Option Int->S->G->Prop)->S->G->Prop}(h:∀ys g,fin ys g->ko ys g)(h2:∀x N σ g,turn x N σ g->ig x N σ g)(q:FQ k σ g fin turn):FQ k σ g ko ig:=by
 let#[W,w0,q]:=q;show#[W,w0,λi m ys σ g w=>?_];rcases q i m ys σ g w with⟨a,b,c⟩|⟨x,a,b,c⟩
 .exact .inl #[a,b,h _ _ c]
 .exact .inr #[x,a,b,h2 _ _ _ _ c]
def F9{t:Bool}{A B A' B':Prop}(h1:A->A')(h2:B->B')(q:if t=true then A else B):if t=true then A' else B':=by
 cases t
 .exact h2 q
 .exact h1 q
def i3(P:fb):Prop:=∀f xs g Q Q' E E',(∀d g,Q d g->Q' d g)->(∀x g,E x g->E' x g)->P f xs g Q E->P f xs g Q' E'
mutual
def b0{P:fb}(hP:i3 P):∀(e:ME) (σ:S) (g:G) (Q Q':KD) (E E':KX),(∀d g,Q d g->Q' d g)->(∀x g,E x g->E' x g)->aV P e σ g Q E->aV P e σ g Q' E'
 |.var i,σ,g,Q,Q',E,E',h,hx,q=>by
  let#[d,a,b]:=q;show#[d,a,h _ _ b]
 |.lit d,σ,g,Q,Q',E,E',h,hx,q=>by show h _ _ q
 |.prim p es,σ,g,Q,Q',E,E',h,hx,q=>by
  show y4 hP es _ _ _ _ _ _ (λxs g1 q=>p9 h q) hx q
 |.dk p o es,σ,g,Q,Q',E,E',h,hx,q=>by
  show b0 hP o _ _ _ _ _ _ (λx g1 q=>#[q.1,y4 hP es _ _ _ _ _ _ (λxs g2 q=>p9 h q) hx q.2]) hx q
 |.oy es,σ,g,Q,Q',E,E',h,hx,q=>by
  show y4 hP es _ _ _ _ _ _ (by rintro xs g1 ⟨kvs,a,b,c,d⟩;show #[kvs,a,b,c,h _ _ d]) hx q
 |.chain o1 o2 a b c,σ,g,Q,Q',E,E',h,hx,q=>by
  show b0 hP a _ _ _ _ _ _ (λx g1 q=>b0 hP b _ _ _ _ _ _ (λy g2 q=>p9 (λz g3 q=>?_) q) hx q) hx q;let#[t,e,q]:=q;show#[t,e,F9 (λq=>b0 hP c _ _ _ _ _ _ (λw g4 q=>p9 h q) hx q) (h _ _) q]
 |.eO a b,σ,g,Q,Q',E,E',h,hx,q=>by
  show b0 hP a _ _ _ _ _ _ (λx g1 q=>?_) hx q;let#[t,e,q]:=q;show#[t,e,F9 (λq=>b0 hP b _ _ _ _ _ _ h hx q) (h _ _) q]
 |.gI a b,σ,g,Q,Q',E,E',h,hx,q=>by
  show b0 hP a _ _ _ _ _ _ (λx g1 q=>?_) hx q;let#[t,e,q]:=q;show#[t,e,F9 (h _ _) (λq=>b0 hP b _ _ _ _ _ _ h hx q) q]
 |.cL a,σ,g,Q,Q',E,E',h,hx,q=>by
  show b0 hP a _ _ _ _ _ _ (λx g1 q=>?_) hx q;let#[t,e,q]:=q;show#[t,e,h _ _ q]
 |.ite c a b,σ,g,Q,Q',E,E',h,hx,q=>by
  show t9 hP c _ _ _ _ _ _ (λt g1 q=>F9 (λq=>b0 hP a _ _ _ _ _ _ h hx q) (λq=>b0 hP b _ _ _ _ _ _ h hx q) q) hx q
 |.call f es,σ,g,Q,Q',E,E',h,hx,q=>by
  show y4 hP es _ _ _ _ _ _ (λxs g1 q=>hP _ _ _ _ _ _ _ h hx q) hx q
 |.make c f es,σ,g,Q,Q',E,E',h,hx,q=>by
  show y4 hP es _ _ _ _ _ _ (λxs g1 q=>hP _ _ _ _ _ _ _ (λd g2 q=>#[q.1,h _ _ q.2]) hx q) hx q
 |.bg m cs o es,σ,g,Q,Q',E,E',h,hx,q=>by
  show b0 hP o _ _ _ _ _ _ (λx g1 q=>?_) hx q;let#[a,c,fs,f,q1,q2,q3,q4,q]:=q;show#[a,c,fs,f,q1,q2,q3,q4,y4 hP es _ _ _ _ _ _ (λxs g2 q=>hP _ _ _ _ _ _ _ h hx q) hx q]
 |.comp c9 n tg it cond elt,σ,g,Q,Q',E,E',h,hx,q=>by
  show C3 hP it _ _ _ _ _ _ (λk g1 q=>Lb (λys g q=>h _ _ q) (λv v v v q=>q) q) hx q
 |.gQ c9 n tg it cond elt,σ,g,Q,Q',E,E',h,hx,q=>by
  show C3 hP it _ _ _ _ _ _ (λk g1 q=>Lb (λys g q=>h _ _ q) (λx N σ g q=>E1 (λdh q=>t9 hP cond _ _ _ _ _ _ (λb g3 q=>by
   cases b
   .exact q
   .exact b0 hP elt _ _ _ _ _ _ (λv v z=>z) hx q) (λv v z=>z) q) q) q) hx q
 |.jW c9 n tg it cond elt,σ,g,Q,Q',E,E',h,hx,q=>by
  show C3 hP it _ _ _ _ _ _ (λk g1 q=>aK6 (λys g q=>h _ _ q) (λv v v v q=>q) q) hx q
 |.nil,σ,g,Q,Q',E,E',h,hx,q=>(show False from q).elim
 |.cons _ _,σ,g,Q,Q',E,E',h,hx,q=>(show False from q).elim
 |.jg _,σ,g,Q,Q',E,E',h,hx,q=>(show False from q).elim
 |.fO _,σ,g,Q,Q',E,E',h,hx,q=>(show False from q).elim
 |.iC _ _,σ,g,Q,Q',E,E',h,hx,q=>(show False from q).elim
 |.tQ _,σ,g,Q,Q',E,E',h,hx,q|.tP _,σ,g,Q,Q',E,E',h,hx,q|.og _ _,σ,g,Q,Q',E,E',h,hx,q=>(show False from q).elim
 |.eG _,σ,g,Q,Q',E,E',h,hx,q=>(show False from q).elim
 |.no,σ,g,Q,Q',E,E',h,hx,q=>(show False from q).elim
def y4{P:fb}(hP:i3 P):∀(e:ME) (σ:S) (g:G) (Q Q':@&D->G->Prop) (E E':KX),(∀d g,Q d g->Q' d g)->(∀x g,E x g->E' x g)->fj P e σ g Q E->fj P e σ g Q' E'
 |.nil,σ,g,Q,Q',E,E',h,hx,q=>by show h _ _ q
 |.cons a b,σ,g,Q,Q',E,E',h,hx,q=>by
  show b0 hP a _ _ _ _ _ _ (λx g1 q=>y4 hP b _ _ _ _ _ _ (λxs g2 q=>h _ _ q) hx q) hx q
 |.var _,σ,g,Q,Q',E,E',h,hx,q|.lit _,σ,g,Q,Q',E,E',h,hx,q|.prim _ _,σ,g,Q,Q',E,E',h,hx,q|.dk _ _ _,σ,g,Q,Q',E,E',h,hx,q|.oy _,σ,g,Q,Q',E,E',h,hx,q|.chain _ _ _ _ _,σ,g,Q,Q',E,E',h,hx,q|.eO _ _,σ,g,Q,Q',E,E',h,hx,q|.gI _ _,σ,g,Q,Q',E,E',h,hx,q|.cL _,σ,g,Q,Q',E,E',h,hx,q|.ite _ _ _,σ,g,Q,Q',E,E',h,hx,q|.call _ _,σ,g,Q,Q',E,E',h,hx,q
 |.make _ _ _,σ,g,Q,Q',E,E',h,hx,q|.bg _ _ _ _,σ,g,Q,Q',E,E',h,hx,q|.comp _ _ _ _ _ _,σ,g,Q,Q',E,E',h,hx,q|.jW _ _ _ _ _ _,σ,g,Q,Q',E,E',h,hx,q|.gQ _ _ _ _ _ _,σ,g,Q,Q',E,E',h,hx,q|.jg _,σ,g,Q,Q',E,E',h,hx,q|.fO _,σ,g,Q,Q',E,E',h,hx,q|.iC _ _,σ,g,Q,Q',E,E',h,hx,q|.tQ _,σ,g,Q,Q',E,E',h,hx,q|.tP _,σ,g,Q,Q',E,E',h,hx,q|.og _ _,σ,g,Q,Q',E,E',h,hx,q|.eG _,σ,g,Q,Q',E,E',h,hx,q|.no,σ,g,Q,Q',E,E',h,hx,q=>(show False from q).elim
def t9{P:fb}(hP:i3 P):∀(e:ME) (σ:S) (g:G) (Q Q':Bool->G->Prop) (E E':KX),(∀d g,Q d g->Q' d g)->(∀x g,E x g->E' x g)->dM P e σ g Q E->dM P e σ g Q' E'
 |.eO a b,σ,g,Q,Q',E,E',h,hx,q=>by
  show t9 hP a _ _ _ _ _ _ (λt g1 q=>F9 (λq=>t9 hP b _ _ _ _ _ _ h hx q) (h _ _) q) hx q
 |.gI a b,σ,g,Q,Q',E,E',h,hx,q=>by
  show t9 hP a _ _ _ _ _ _ (λt g1 q=>F9 (h _ _) (λq=>t9 hP b _ _ _ _ _ _ h hx q) q) hx q
 |.cL a,σ,g,Q,Q',E,E',h,hx,q=>by show t9 hP a _ _ _ _ _ _ (λt g1 q=>h _ _ q) hx q
 |.no,σ,g,Q,Q',E,E',h,hx,q=>by show h _ _ q
 |.eG e,σ,g,Q,Q',E,E',h,hx,q=>by show b0 hP e _ _ _ _ _ _ (λx g1 q=>a03 (λb q=>h _ _ q) q) hx q
 |.var _,σ,g,Q,Q',E,E',h,hx,q|.lit _,σ,g,Q,Q',E,E',h,hx,q|.prim _ _,σ,g,Q,Q',E,E',h,hx,q|.dk _ _ _,σ,g,Q,Q',E,E',h,hx,q|.oy _,σ,g,Q,Q',E,E',h,hx,q|.chain _ _ _ _ _,σ,g,Q,Q',E,E',h,hx,q|.ite _ _ _,σ,g,Q,Q',E,E',h,hx,q|.call _ _,σ,g,Q,Q',E,E',h,hx,q|.nil,σ,g,Q,Q',E,E',h,hx,q|.cons _ _,σ,g,Q,Q',E,E',h,hx,q
 |.make _ _ _,σ,g,Q,Q',E,E',h,hx,q|.bg _ _ _ _,σ,g,Q,Q',E,E',h,hx,q|.comp _ _ _ _ _ _,σ,g,Q,Q',E,E',h,hx,q|.jW _ _ _ _ _ _,σ,g,Q,Q',E,E',h,hx,q|.gQ _ _ _ _ _ _,σ,g,Q,Q',E,E',h,hx,q|.jg _,σ,g,Q,Q',E,E',h,hx,q|.fO _,σ,g,Q,Q',E,E',h,hx,q|.iC _ _,σ,g,Q,Q',E,E',h,hx,q|.tQ _,σ,g,Q,Q',E,E',h,hx,q|.tP _,σ,g,Q,Q',E,E',h,hx,q|.og _ _,σ,g,Q,Q',E,E',h,hx,q=>(show False from q).elim
def C3{P:fb}(hP:i3 P):∀(e:ME) (σ:S) (g:G) (Q Q':IK->G->Prop) (E E':KX),(∀d g,Q d g->Q' d g)->(∀x g,E x g->E' x g)->iR P e σ g Q E->iR P e σ g Q' E'
 |.jg e,σ,g,Q,Q',E,E',h,hx,q=>by
  show b0 hP e _ _ _ _ _ _ (λx g1 q=>q.imp (by rintro ⟨l,a,b⟩;show #[l,a,h _ _ b]) λq=>q.imp (by rintro ⟨i,l,a,b,c⟩;show #[i,l,a,b,h _ _ c]) (by rintro ⟨a,b,c,d⟩;show #[a,b,c,h _ _ d])) hx q
 |.fO a,σ,g,Q,Q',E,E',h,hx,q=>by
  show b0 hP a _ _ _ _ _ _ (by rintro x g1 ⟨j,a,b,c,d⟩;show #[j,a,b,c,h _ _ d]) hx q
 |.iC a b,σ,g,Q,Q',E,E',h,hx,q=>by
  show b0 hP a _ _ _ _ _ _ (λx g1 q=>b0 hP b _ _ _ _ _ _ (by rintro y g2 ⟨i,j,a,b,c,d⟩;show #[i,j,a,b,c,h _ _ d]) hx q) hx q
 |.tQ e,σ,g,Q,Q',E,E',h,hx,q=>by
  show b0 hP e _ _ _ _ _ _ (by rintro x g1 ⟨i,l,a,b,c⟩;show #[i,l,a,b,h _ _ c]) hx q
 |.og a b,σ,g,Q,Q',E,E',h,hx,q=>by
  show b0 hP a _ _ _ _ _ _ (λx g1 q=>b0 hP b _ _ _ _ _ _ (by rintro y g2 ⟨l,i,m,e1,e2,e3,q⟩;show #[l,i,m,e1,e2,e3,h _ _ q]) hx q) hx q
 |.tP e,σ,g,Q,Q',E,E',h,hx,q=>by
  show b0 hP e _ _ _ _ _ _ (by rintro x g1 ⟨i,l,a,b,c⟩;show #[i,l,a,b,h _ _ c]) hx q
 |.var _,σ,g,Q,Q',E,E',h,hx,q|.lit _,σ,g,Q,Q',E,E',h,hx,q|.prim _ _,σ,g,Q,Q',E,E',h,hx,q|.dk _ _ _,σ,g,Q,Q',E,E',h,hx,q|.oy _,σ,g,Q,Q',E,E',h,hx,q|.chain _ _ _ _ _,σ,g,Q,Q',E,E',h,hx,q|.ite _ _ _,σ,g,Q,Q',E,E',h,hx,q|.call _ _,σ,g,Q,Q',E,E',h,hx,q|.nil,σ,g,Q,Q',E,E',h,hx,q|.cons _ _,σ,g,Q,Q',E,E',h,hx,q
 |.eO _ _,σ,g,Q,Q',E,E',h,hx,q|.gI _ _,σ,g,Q,Q',E,E',h,hx,q|.cL _,σ,g,Q,Q',E,E',h,hx,q|.eG _,σ,g,Q,Q',E,E',h,hx,q|.no,σ,g,Q,Q',E,E',h,hx,q
 |.make _ _ _,σ,g,Q,Q',E,E',h,hx,q|.bg _ _ _ _,σ,g,Q,Q',E,E',h,hx,q|.comp _ _ _ _ _ _,σ,g,Q,Q',E,E',h,hx,q|.jW _ _ _ _ _ _,σ,g,Q,Q',E,E',h,hx,q|.gQ _ _ _ _ _ _,σ,g,Q,Q',E,E',h,hx,q=>(show False from q).elim
end
structure Ends.le(N N':Ends):Prop where
 nx:∀σ g,N.nx σ g->N'.nx σ g
 rt:∀d g,N.rt d g->N'.rt d g
 bk:∀σ g,N.bk σ g->N'.bk σ g
 ct:∀σ g,N.ct σ g->N'.ct σ g
set_option tactic.hygienic true in
def Nv{P:fb}(hP:i3 P){N N':Ends}{E E':KX}(h:N.le N')(hx:∀x g,E x g->E' x g){σ:S}:∀(hs:@&(Str×ME)) x g,lL P N σ E hs x g->lL P N' σ E' hs x g
 |[],x,g,q=>hx x g q
 |(y,e)::r,x,g,q=>by
  unfold lL at q ⊢;split
  .rename_i hh;rw[av hh] at q;show b0 hP e _ _ _ _ _ _ h.rt (λw w z=>z) q
  .rename_i hh;rw[aw hh] at q;show Nv hP h hx r x g q
def wpS_mono{P:fb}(hP:i3 P):∀(s:MS) (N N':Ends) (σ:S) (g:G) (E E':KX),N.le N'->(∀x g,E x g->E' x g)->wpS P s N σ g E->wpS P s N' σ g E'
 |.pass,N,N',σ,g,E,E',h,hx,q=>h.nx _ _ q
 |.seq a b,N,N',σ,g,E,E',h,hx,q=>wpS_mono hP a { N with nx:=λjq g1=>wpS P b N jq g1 E } { N' with nx:=λjq g1=>wpS P b N' jq g1 E' } _ _ _ _ #[λjq g1 q=>wpS_mono hP b _ _ _ _ _ _ h hx q,h.rt,h.bk,h.ct] hx q
 |.expr e,N,N',σ,g,E,E',h,hx,q=>b0 hP e _ _ _ _ _ _ (λx g1 q=>h.nx _ _ q) hx q
 |.set i e,N,N',σ,g,E,E',h,hx,q=>b0 hP e _ _ _ _ _ _ (λx g1 q=>h.nx _ _ q) hx q
 |.tJ t e,N,N',σ,g,E,E',h,hx,q=>b0 hP e _ _ _ _ _ _ (λx g1 q=>E1 (λσ q=>h.nx _ _ q) q) hx q
 |.lO i j e,N,N',σ,g,E,E',h,hx,q=>b0 hP e _ _ _ _ _ _ (by rintro x g1 ⟨a,y,l,e1,e2,q⟩;show #[a,y,l,e1,e2,h.nx _ _ q]) hx q
 |.eJ o i v,N,N',σ,g,E,E',h,hx,q=>b0 hP v _ _ _ _ _ _ (λx g1 q=>b0 hP o _ _ _ _ _ _ (λy g2 q=>b0 hP i _ _ _ _ _ _ (λz g3 q=>X9 (λg q=>h.nx _ _ q) q) hx q) hx q) hx q
 |.dS f cs o v,N,N',σ,g,E,E',h,hx,q=>b0 hP v _ _ _ _ _ _ (λx g1 q=>b0 hP o _ _ _ _ _ _ (λy g2 q=>aT8 (λg q=>h.nx _ _ q) q) hx q) hx q
 | .ku f cs o v,N,N',σ,g,E,E',h,hx,q=>b0 hP o _ _ _ _ _ _ (λy g1 q=>by
   let#[a,c,fs,x,q1,q2,q3,q4,q]:=q;show #[a,c,fs,x,q1,q2,q3,q4,b0 hP v _ _ _ _ _ _ (λz g3 q=>p9 (λw g4 q=>by
    let#[iX,k1,k2,k3]:=q;show #[iX,k1,k2,h.nx _ _ k3]) q) hx q]) hx q
 |.yU o1 i1 o2 i2 e,N,N',σ,g,E,E',h,hx,q=>b0 hP e _ _ _ _ _ _ (λx g1 q=>let ⟨u,v,q1,q⟩:=q;#[u,v,q1,b0 hP o1 _ _ _ _ _ _ (λy g2 q=>b0 hP i1 _ _ _ _ _ _ (λz g3 q=>X9 (λg4 q=>b0 hP o2 _ _ _ _ _ _ (λy g5 q=>b0 hP i2 _ _ _ _ _ _ (λz g6 q=>X9 (λg q=>h.nx _ _ q) q) hx q) hx q) q) hx q) hx q]) hx q
 |.nV i p v,N,N',σ,g,E,E',h,hx,q=>let ⟨x,q1,q⟩:=q;#[x,q1,b0 hP v _ _ _ _ _ _ (λz g1 q=>p9 (λw g2 q=>h.nx _ _ q) q) hx q]
 |.ifs c a b,N,N',σ,g,E,E',h,hx,q=>t9 hP c _ _ _ _ _ _ (λt g1 q=>F9 (λq=>wpS_mono hP a _ _ _ _ _ _ h hx q) (λq=>wpS_mono hP b _ _ _ _ _ _ h hx q) q) hx q
 |.iE t it b,N,N',σ,g,E,E',h,hx,q=>C3 hP it _ _ _ _ _ _ (λk g1 q=>aS6 h.nx (λx N2 σ g q=>E1 (λdh q=>wpS_mono hP b { N with nx:=N2,ct:=N2,bk:=N.nx } { N' with nx:=N2,ct:=N2,bk:=N'.nx } _ _ _ _ #[λr r z=>z,h.rt,h.nx,λr r z=>z] hx q) q) q) hx q
 |.vm c b,N,N',σ,g,E,E',h,hx,q=>by
  let#[W,w0,q]:=q;show#[W,w0,λm σ g w=>t9 hP c _ _ _ _ _ _ (λt g1 q=>F9 (λq=>?_) (h.nx _ _) q) hx (q m σ g w)];let#[N2,a,q]:=q;show#[N2,a,wpS_mono hP b { N with nx:=N2,ct:=N2,bk:=N.nx } { N' with nx:=N2,ct:=N2,bk:=N'.nx } _ _ _ _ #[λr r z=>z,h.rt,h.nx,λr r z=>z] hx q]
 |.ret e,N,N',σ,g,E,E',h,hx,q=>b0 hP e _ _ _ _ _ _ h.rt hx q
 |.rC,N,N',σ,g,E,E',h,hx,q=>h.rt _ _ q
 |.brk,N,N',σ,g,E,E',h,hx,q=>h.bk _ _ q
 |.cont,N,N',σ,g,E,E',h,hx,q=>h.ct _ _ q
 |.raise x es,N,N',σ,g,E,E',h,hx,q=>y4 hP es _ _ _ _ _ _ (λvs g1 q=>#[q.1,hx _ _ q.2]) hx q
 |.T4 b hs,N,N',σ,g,E,E',h,hx,q=>wpS_mono hP b _ _ _ _ _ _ h (λx g q=>Nv hP h hx hs x g q) q
def b8(T:Nat->Option aW):∀k,i3 (a8 T k)
 |0=>λf xs g Q Q' E E' h hx q=>q.elim
 |k+1=>λf xs g Q Q' E E' h hx q=>by
  let#[m,a,b,q]:=q;show#[m,a,b,wpS_mono (b8 T k) m.body #[λx g'=>Q .aO g',Q,λx x=>False,λx x=>False] _ _ _ _ _ #[λx x z=>h _ _ z,h,λx x z=>z,λx x z=>z] hx q]
abbrev TupAt(K:PySem.W.Frag)(H:Hp)(a:Addr)(vs:@&V):Prop :=
 H a=!.tup vs\/∃(o:Obj) (aX:Array Value) (n:Nat),K.lookup a=!o/\o.cls=.type "tuple"/\o.dict=none/\o.data=.seq aX n/\aX.size<=sizeLine/\Vals vs aX.toList
def TupAt.d(h:TupAt K H a vs):yv K H a vs:=h
def TupAt.sq{K:PySem.W.Frag}{H:Hp}{a:Addr}{vs:@&V}(h:TupAt K H a vs):gm K H a vs:=h.d.sq
mutual
inductive c8(K:PySem.W.Frag)(ρ:@&Addr)(H:Hp):D->V->Prop
 |aO:c8 K ρ H .aO .aO
 |bl (b:Bool):c8 K ρ H (.bl b) (.bl b)
 |int (i:Int):c8 K ρ H (.int i) (.int i)
 |str (x:Str):c8 K ρ H (.str x) (.str x)
 |ty (n:String):c8 K ρ H (.ty n) (.ty n)
 |ref {i:Nat} {a:Addr} (h:ρ[i]?=!a):c8 K ρ H (.ref i) (.ref a)
 |tup {l:@&D} {a:Addr} {vs:@&V} (h:TupAt K H a vs) (r:a9 K ρ H l vs):c8 K ρ H (.tup l) (.ref a)
inductive a9(K:PySem.W.Frag)(ρ:@&Addr)(H:Hp):@&D->@&V->Prop
 |nil:a9 K ρ H [] []
 |cons {d:D} {v:V} {ds:@&D} {vs:@&V} (h:c8 K ρ H d v) (r:a9 K ρ H ds vs):a9 K ρ H (d::ds) (v::vs)
end
structure Ext(ρ:@&Addr)(H:Hp)(bA:@&Addr)(H':Hp):Prop where
 pre:∃more,bA=ρ++more
 tup:∀a xs,H a=!.tup xs->H' a=!.tup xs
def Ext.refl(ρ:@&Addr)(H:Hp):Ext ρ H ρ H:=#[#[[],by simp],λx x h=>h]
def Ext.trans{ρ H bG H1 eV H2}(a:Ext ρ H bG H1)(b:Ext bG H1 eV H2):Ext ρ H eV H2:=by
 let#[#[m,rfl],t]:=a;let#[#[m',rfl],t']:=b;show#[#[m++m',by simp],λx xs h=>t' _ _ (t _ _ h)]
def Ext.get{ρ H bA H'}(e:Ext ρ H bA H')(h:ρ[i]?=!a):bA[i]?=!a:=by
 let#[#[m,rfl],_]:=e;rw[aA (az.mp h).1];show h
def TupAt.ext{K ρ H bA H'}(e:Ext ρ H bA H')(h:TupAt K H a vs):TupAt K H' a vs:=h.elim (λz=>.inl (e.tup _ _ z)) .inr
mutual
def c8.ext{K ρ H bA H'}(e:Ext ρ H bA H'):∀{d v},c8 K ρ H d v->c8 K bA H' d v
 |_,_,.aO=>.aO
 |_,_,.bl b=>.bl b
 |_,_,.int i=>.int i
 |_,_,.str x=>.str x
 |_,_,.ty n=>.ty n
 |_,_,.ref h=>.ref (e.get h)
 |_,_,.tup h r=>.tup (h.ext e) (a9.ext e r)
def a9.ext{K ρ H bA H'}(e:Ext ρ H bA H'):∀{ds vs},a9 K ρ H ds vs->a9 K bA H' ds vs
 |_,_,.nil=>.nil
 |_,_,.cons h r=>.cons (c8.ext e h) (a9.ext e r)
end
def a9.length{K ρ H}{ds:@&D}{vs:@&V}(h:a9 K ρ H ds vs):-ds=-vs:=by
 induction ds generalizing vs with
 |nil=>cases h;rfl
 |cons d ds ih =>
  cases h with
  |cons q r=>simp[ih r]
def a9.get{K ρ H}:∀{ds vs} {i:Nat} {d:D},a9 K ρ H ds vs->ds[i]?=!d->∃v,vs[i]?=!v/\c8 K ρ H d v
 |_,_,_,_,.nil,h=>by simp at h
 |_,_,0,_,.cons h _,e=>by simp at e;subst e;show#[_,rfl,h]
 |_,_,i+1,d,.cons _ r,e=>by
  let#[v,h1,h2]:=a9.get r (_/e);show#[v,by simpa using h1,h2]
def a9.set{K ρ H}{d:D}{v:V}(h:c8 K ρ H d v):∀{ds vs} (i:Nat),a9 K ρ H ds vs->a9 K ρ H (ds.set i d) (vs.set i v)
 |_,_,_,.nil=>.nil
 |_,_,0,.cons _ r=>.cons h r
 |_,_,i+1,.cons q r=>.cons q (a9.set h i r)
def a9.append{K ρ H}{ds es:@&D}{ws:@&V}(h:a9 K ρ H ds vs)(s:a9 K ρ H es ws):a9 K ρ H (ds++es) (vs++ws):=by
 induction ds generalizing vs with
 |nil=>cases h;show s
 |cons d ds ih =>
  cases h with
  |cons q r=>show .cons q (ih r)
def a9.rep{K ρ H}{ds:@&D}{vs:@&V}(r:a9 K ρ H ds vs):∀n,a9 K ρ H (List.replicate n ds).flatten (List.replicate n vs).flatten
 |0=>.nil
 |n+1=>by
  show a9.append r (a9.rep r n)
def a9.erase{K ρ H}:∀{ds:@&D} {vs:@&V} (i:Nat),a9 K ρ H ds vs->a9 K ρ H (ds.eraseIdx i) (vs.eraseIdx i)
 |_,_,_,.nil=>.nil
 |_,_,0,.cons _ r=>r
 |_,_,i+1,.cons q r=>.cons q (a9.erase i r)
def a9.take{K ρ H}:∀{ds:@&D} {vs:@&V} (n:Nat),a9 K ρ H ds vs->a9 K ρ H (ds.take n) (vs.take n)
 |_,_,0,_=>.nil
 |_,_,_+1,.nil=>.nil
 |_,_,n+1,.cons h r=>.cons h (a9.take n r)
def a9.drop{K ρ H}:∀{ds:@&D} {vs:@&V} (n:Nat),a9 K ρ H ds vs->a9 K ρ H (ds.drop n) (vs.drop n)
 |_,_,0,r=>r
 |_,_,_+1,.nil=>.nil
 |_,_,n+1,.cons _ r=>a9.drop n r
def a9.reverse{K ρ H}:∀{ds:@&D} {vs:@&V},a9 K ρ H ds vs->a9 K ρ H ds.reverse vs.reverse
 |_,_,.nil=>.nil
 |_,_,.cons h r=>by
  rw[gF,gF];show a9.append (a9.reverse r) (.cons h .nil)
def a9.cut{K ρ H}{ds:@&D}{vs:@&V}(r:a9 K ρ H ds vs)(lo hi:Option Int):a9 K ρ H (M.cut ds lo hi) (pU vs lo hi):=by
 unfold M.cut pU;rw[(-r)];show(r.drop _).take _
def a9.ints{K ρ H}:∀{ns:@&Int} {vs:@&V},a9 K ρ H (ns.map D.int) vs->vs=ns.map V.int
 |[],_,.nil=>rfl
 |_::_,_,.cons h r=>by cases h;rw[a9.ints r];rfl
def a9.ofInts{K ρ H}:∀(ns:@&Int),a9 K ρ H (ns.map D.int) (ns.map V.int)
 |[]=>.nil
 |n::r=>.cons (.int n) (a9.ofInts r)
abbrev uD(K:PySem.W.Frag)(H:Hp)(a:Addr)(vs:@&V):Prop :=
 (∃o,H a=!.jH o (.lst vs))\/∃(o:Obj) (aX:Array Value) (n:Nat),K.lookup a=!o/\o.cls=.type "list"/\o.dict=none/\o.data=.seq aX n/\aX.size<=sizeLine/\Vals vs aX.toList
def uD.sq(h:uD K H a vs):fR K H a vs:=h.elim (by rintro ⟨o,z⟩;show .inl (.inr #[o,z])) .inr
inductive d0{α:Type}(K:PySem.W.Frag)(ρ:@&Addr)(H:Hp):@&(α×D)->@&(α×V)->Prop
 |nil:d0 K ρ H [] []
 |cons {k:α} {d:D} {v:V} {ds:@&(α×D)} {vs:@&(α×V)} (h:c8 K ρ H d v) (r:d0 K ρ H ds vs):d0 K ρ H ((k,d)::ds) ((k,v)::vs)
def d0.ext{α:Type}{K ρ H bA H'}(e:Ext ρ H bA H'){ds:@&(α×D)}{vs:@&(α×V)}(h:d0 K ρ H ds vs):d0 K bA H' ds vs:=by
 induction h with
 |nil=>show .nil
 |cons h r ih=>show .cons (h.ext e) ih
def d0.drop{K ρ H}{ds:@&(Key×D)}{vs:@&(Key×V)}(k:Key)(h:d0 K ρ H ds vs):d0 K ρ H (delD ds k) (AF vs k):=by
 unfold delD AF
 induction h with
 |nil=>show .nil
 |cons h r ih =>
  rw[dG,dG];split
  .exact .cons h ih
  .exact ih
def d0.get{α:Type}{K ρ H}{ds:@&(α×D)}{vs:@&(α×V)}(h:d0 K ρ H ds vs):∀{i:Nat} {k:α} {d:D},ds[i]?=!(k,d)->∃v,vs[i]?=!(k,v)/\c8 K ρ H d v:=by
 induction h with
 |nil=>intro i k d e;simp at e
 |cons h r ih =>
  intro i k d e;cases i with
  |zero=>simp at e;let#[rfl,rfl]:=e;show#[_,rfl,h]
  |succ i=>simpa using ih (_/e)
def d0.length{α:Type}{K ρ H}{ds:@&(α×D)}{vs:@&(α×V)}(h:d0 K ρ H ds vs):-ds=-vs:=by
 induction h with
 |nil=>rfl
 |cons h r ih=>simp[ih]
abbrev sV(K:PySem.W.Frag)(ρ:@&Addr)(H:Hp):Option D->Option V->Prop
 |some d,!v=>c8 K ρ H d v
 |none,none=>True
 |_,_=>False
def d0.val{K ρ H}:∀{ds vs} (k:Key),d0 K ρ H ds vs->sV K ρ H (N1 ds k) (P8 vs k)
 |_,_,k,.nil=>trivial
 |_,_,k,.cons (k:=k') h r=>by
  unfold N1 P8;rw[iG,iG];by_cases e:k'=k
  .simp only[e,decide_true];show h
  .simp only[e,decide_false];show d0.val k r
def d0.HS{K ρ H}:∀{ds vs} (k:Key),d0 K ρ H ds vs->(ds.any λkv=>decide (kv.1=k))=(vs.any λkv=>decide (kv.1=k))
 |_,_,k,.nil=>rfl
 |_,_,k,.cons h r=>by simp only[List.any_cons,d0.HS k r]
def d0.snoc{K ρ H}{k:Key}{d:D}{v:V}(h:c8 K ρ H d v){ds vs}(t:d0 K ρ H ds vs):d0 K ρ H (ds++[(k,d)]) (vs++[(k,v)]):=by
 induction ds generalizing vs with
 |nil=>cases t;show .cons h .nil
 |cons d ds ih =>
  cases t with
  |cons q r=>show .cons q (ih r)
def d0.FG{K ρ H}{k:Key}{d:D}{v:V}(h:c8 K ρ H d v):∀{ds vs},d0 K ρ H ds vs->d0 K ρ H (ds.map λkv=>if kv.1=k then(kv.1,d) else kv) (vs.map λkv=>if kv.1=k then(kv.1,v) else kv)
 |_,_,.nil=>.nil
 |_,_,.cons (k:=k') q r=>by
  simp only[List.map_cons];by_cases e:k'=k
  .rw[av e,av e];show .cons h (d0.FG h r)
  .rw[aw e,aw e];show .cons q (d0.FG h r)
def d0.put{K ρ H}{k:Key}{d:D}{v:V}(h:c8 K ρ H d v){ds vs}(r:d0 K ρ H ds vs):d0 K ρ H (putD ds k d) (putK vs k v):=by
 unfold putD putK;rw[r.HS k];split
 .exact r.FG h
 .exact r.snoc h
noncomputable abbrev l7(K:PySem.W.Frag)(x:Str)(C:Addr):Prop:=PySem.W.nsIn K mainGlobals x=!!.ref C
set_option tactic.hygienic true in
def d0.look{K ρ H}{ds:@&(Str×D)}{vs:@&(Str×V)}(f:Str)(h:d0 K ρ H ds vs):sV K ρ H (ds.lookup f) (vs.lookup f):=by
 induction h with
 |nil=>trivial
 |cons h r ih =>
  rename_i k d v ds vs;rw[dE,dE];cases f==k
  .exact ih
  .exact h
def d0.u9{K ρ H}{f:Str}{d:D}{v:V}(h:c8 K ρ H d v){ds:@&(Str×D)}{vs:@&(Str×V)}(r:d0 K ρ H ds vs):d0 K ρ H (A2 f d ds) (L2.u9 f v vs):=by
 induction r with
 |nil=>show .cons h .nil
 |cons q r ih =>
  unfold A2 L2.u9;split
  .exact .cons h r
  .exact .cons q ih
def ER{f:Str}{d:D}{p:Str->Prop}(hf:p f):∀{ds:@&(Str×D)},(∀x∈ds,p x.1)->∀x∈A2 f d ds,p x.1
 |[],_,x,hx=>by
  have:x=(f,d):=by simpa[A2] using hx
  simp_all
 |(k,e)::r,h,x,hx=>by
  unfold A2 at hx;split at hx
  .rcases aE.mp hx with z|z
   .rw[z];show h (k,e) #[_]
   .exact h x (by simp[z])
  .rcases aE.mp hx with z|z
   .rw[z];show h (k,e) #[_]
   .exact ER hf (λy hy=>h y (by simp[hy])) x z
abbrev OH(K:PySem.W.Frag)(ρ:@&Addr)(H:Hp):O->HO->Prop
 |.lst l,.lst vs=>a9 K ρ H l vs
 |.bZ kvs,.dK vs=>d0 K ρ H kvs vs
 |.set S n,.set S' n'=>S=S'/\n=n'
 |.ins c fs,.ins C _ vs=>l7 K c C/\iY K C/\d0 K ρ H fs vs/\∀x∈fs,C0 K C x.1
 |_,_=>False
def OH.ext{K ρ H bA H'}(e:Ext ρ H bA H'){o:O}{u:HO}(h:OH K ρ H o u):OH K bA H' o u:=by
 cases o<;>cases u<;>first|show h.elim|show a9.ext e h|show d0.ext e h|show#[h.1,h.2.1,h.2.2.1.ext e,h.2.2.2]|show h
def OH.sZ{K ρ H}{xs:@&V}(h:OH K ρ H o (.tup xs)):False:=by cases o<;>show h
def OH.WR{K ρ H}{ob:Obj}(h:OH K ρ H o (.jH ob u)):False:=by cases o<;>show h
def J6(K:PySem.W.Frag)(ρ:@&Addr)(H:Hp)(o:O)(a:Addr):Prop:=match o with
 |.pO l=>∃vs,uD K H a vs/\a9 K ρ H l vs
 |o=>∃u,H a=!u/\OH K ρ H o u
def J6.of{K ρ H}(hu:H a=!u)(h:OH K ρ H o u):J6 K ρ H o a:=by
 cases o<;>first|show#[u,hu,h]|(cases u<;>show h.elim)
def J6.inv{K ρ H}(m:o.mut=true)(h:J6 K ρ H o a):∃u,H a=!u/\OH K ρ H o u:=by
 cases o<;>first|show h|cases m
def J6.lst{K ρ H}{l:@&D}{a:Addr}(h:J6 K ρ H (.lst l) a):∃vs,H a=!.lst vs/\a9 K ρ H l vs:=by
 let#[u,h1,h2]:=h;cases u<;>first|show#[_,h1,h2]|show h2.elim
def J6.bZ{K ρ H}{l:@&(Key×D)}{a:Addr}(h:J6 K ρ H (.bZ l) a):∃vs,H a=!.dK vs/\d0 K ρ H l vs:=by
 let#[u,h1,h2]:=h;cases u<;>first|show#[_,h1,h2]|show h2.elim
def J6.set{K ρ H}{S:Int->Bool}{n:Nat}{a:Addr}(h:J6 K ρ H (.set S n) a):H a=!.set S n:=by
 let#[u,h1,h2]:=h;cases u<;>first|(let#[rfl,rfl]:=(show _/\_ from h2);show h1)|show h2.elim
def J6.ins{K ρ H}{c:Str}{fs:@&(Str×D)}{a:Addr}(h:J6 K ρ H (.ins c fs) a):∃C dx vs,H a=!.ins C dx vs/\l7 K c C/\iY K C/\d0 K ρ H fs vs/\∀x∈fs,C0 K C x.1:=by
 let#[u,h1,h2]:=h;cases u<;>first|show#[_,_,_,h1,h2]|show h2.elim
structure Rl(K:PySem.W.Frag)(ρ:@&Addr)(g:G)(H:Hp):Prop where
 len:ρ.length=-g
 obj:∀(i:Nat) o a,g[i]?=!o->ρ[i]?=!a->J6 K ρ H o a
 nd:∀(i j:Nat) o o' a,g[i]?=!o->g[j]?=!o'->o.mut=true->o'.mut=true->ρ[i]?=!a->ρ[j]?=!a->i=j
section
variable{ρ:@&Addr}
def Rl.lst(R:Rl K ρ g H){i:Nat}{l:@&D}{a:Addr}(h:g[i]?=!.lst l)(ha:ρ[i]?=!a):∃vs,H a=!.lst vs/\a9 K ρ H l vs:=(R.obj _ _ _ h ha).lst
def Rl.bZ(R:Rl K ρ g H){i:Nat}{l:@&(Key×D)}{a:Addr}(h:g[i]?=!.bZ l)(ha:ρ[i]?=!a):∃vs,H a=!.dK vs/\d0 K ρ H l vs:=(R.obj _ _ _ h ha).bZ
def Rl.set(R:Rl K ρ g H){i:Nat}{S:Int->Bool}{n:Nat}{a:Addr}(h:g[i]?=!.set S n)(ha:ρ[i]?=!a):H a=!.set S n:=(R.obj _ _ _ h ha).set
def Rl.ins(R:Rl K ρ g H){i:Nat}{c:Str}{fs:@&(Str×D)}{a:Addr}(h:g[i]?=!.ins c fs)(ha:ρ[i]?=!a):∃C dx vs,H a=!.ins C dx vs/\l7 K c C/\iY K C/\d0 K ρ H fs vs/\∀x∈fs,C0 K C x.1:=(R.obj _ _ _ h ha).ins
def Rl.items(R:Rl K ρ g H)(h:c7 g i=!l)(ha:ρ[i]?=!a):∃vs,fR K H a vs/\a9 K ρ H l vs:=by
 cases e:g[i]? with
 |none=>rw[c7,e] at h;cases h
 |some o =>
  rw[c7,e] at h;let q:=R.obj _ _ _ e ha;cases o with
  |lst m=>cases h;let#[vs,z,r]:=q.lst;show#[vs,fR.of z,r]
  |pO m=>cases h;let#[vs,z,r]:=q;show#[vs,z.sq,r]
  |_=>cases h
def p6{o:HO}(hp:H p=none):Ext ρ H ρ (upd H p o):=#[#[[],by simp],λa xs h=>by rw[d6 (j0 h hp)];show h]
def uD.upd{p a:Addr}{o:HO}{vs:@&V}(h:uD K H a vs)(hp:∀ob u,H p≠!.jH ob u):uD K (upd H p o) a vs:=by
 rcases h with⟨ob,z⟩|z
 .refine .inl #[ob,?_];rw[d6 ?_]
  .exact z
  .intro e;subst e;show hp _ _ z
 .exact .inr z
def J6.upd{p a:Addr}{o:O}{u:HO}{bA:@&Addr}(h:J6 K ρ H o a)(fE:o.mut=true->a≠p)(hp:∀ob u,H p≠!.jH ob u)(e:Ext ρ H bA (L2.upd H p u)):J6 K bA (L2.upd H p u) o a:=by
 cases hm:o.mut with
 |true =>
  let#[u',h1,h2]:=h.inv hm;show .of (by rw[d6 (fE hm)];show h1) (h2.ext e)
 |false =>
  cases o<;>first|cases hm|skip
  let#[vs,z,r]:=h;show#[vs,z.upd hp,r.ext e]
def Rl.grow{o:HO}(R:Rl K ρ g H)(hp:H p=none):Rl K ρ g (upd H p o):=by
 let e:Ext ρ H ρ (upd H p o):=p6 hp;show#[R.len,λi ob a h1 h2=>?_,R.nd];let q:=R.obj _ _ _ h1 h2;show q.upd (λhm=>?_) (λob u z=>by simp_all) e;let#[u,h1,_]:=q.inv hm;show j0 h1 hp
def Rl.u7(R:Rl K ρ g H)(p:Addr):(ρ++[p])[(-g)]?=!p:=by rw[<- R.len];simp
def C5{o:HO}(hp:H p=none):Ext ρ H (ρ++[p]) (upd H p o):=#[#[[p],rfl],(p6 (ρ:=ρ) hp).tup]
def Rl.new(R:Rl K ρ g H)(hp:H p=none)(r:OH K ρ H o u):Rl K (ρ++[p]) (g++[o]) (upd H p u):=by
 let e:Ext ρ H (ρ++[p]) (upd H p u):=C5 hp;let old:∀{i:Nat} {ob:O} {a:Addr},g[i]?=!ob->(ρ++[p])[i]?=!a->ρ[i]?=!a:=λ{i ob a} h1 h2=>by
  rw[aA (by rw[R.len];show(az.mp h1).1)] at h2;show h2
 let split:∀{i:Nat} {ob:O},(g++[o])[i]?=!ob->g[i]?=!ob\/(i=-g/\ob=o):=λ{i ob} h=>by
  rcases gE i (-g) with q|q|q
  .rw[aA q] at h;show .inl h
  .subst q;simp at h;show .inr #[rfl,h.symm]
  .rw[fg (by simp;omega)] at h;cases h
 show#[by simp[R.len],λi ob a h1 h2=>?_,λi j o1 o2 a h1 h2 m1 m2 h3 h4=>?_]
 .rcases split h1 with q|⟨rfl,rfl⟩
  .let z:=R.obj _ _ _ q (old q h2);show z.upd (λhm=>?_) (λob u z=>by simp_all) e;let#[u,h1,_]:=z.inv hm;show j0 h1 hp
  .rw[R.u7] at h2;cases h2;show .of k9 (r.ext e)
 .let nq:∀{i:Nat} {o:O} {a:Addr},g[i]?=!o->o.mut=true->ρ[i]?=!a->a≠p:=λ{i o a} h1 hm h2=>by
   let#[u,z,_]:=(R.obj _ _ _ h1 h2).inv hm;show j0 z hp
  rcases split h1 with q|⟨rfl,_⟩
  .rcases split h2 with q'|⟨rfl,_⟩
   .exact R.nd _ _ _ _ _ q q' m1 m2 (old q h3) (old q' h4)
   .rw[R.u7] at h4;cases h4;show absurd rfl (nq q m1 (old q h3))
  .rcases split h2 with q'|⟨rfl,_⟩
   .rw[R.u7] at h3;cases h3;show absurd rfl (nq q' m2 (old q' h4))
   .rfl
def Rl.alloc(R:Rl K ρ g H)(hp:H p=none)(r:a9 K ρ H l vs):Rl K (ρ++[p]) (g++[.lst l]) (upd H p (.lst vs)):=R.new hp r
def Rl.put{o':O}(R:Rl K ρ g H)(h:g[i]?=!o)(hm:o.mut=true)(ha:ρ[i]?=!a)(r:OH K ρ H o' u) :
  Rl K ρ (g.set i o') (upd H a u)/\Ext ρ H ρ (upd H a u):=by
 let#[u0,z0,GF]:=(R.obj _ _ _ h ha).inv hm;let e:Ext ρ H ρ (upd H a u):=#[#[[],by simp],λb xs q=>by rw[d6];show q;intro z;subst z;rw[z0] at q;cases q;show GF.sZ]
 show#[#[by simp[R.len],λj ob b h1 h2=>?_,λj k o1 o2 b h1 h2 m1 m2 h3 h4=>?_],e]
 .by_cases jk:i=j
  .subst jk;rw[ha] at h2;cases h2;let hi:=(az.mp h).1;rw[aU hi] at h1;cases h1;show .of k9 (r.ext e)
  .rw[aH jk] at h1;show(R.obj _ _ _ h1 h2).upd (λtY ez=>?_) (λob u z=>by rw[z0] at z;cases z;show GF.WR) e;subst ez;show jk (R.nd _ _ _ _ _ h h1 hm tY ha h2)
 .let back:∀{j:Nat} {m:O},(g.set i o')[j]?=!m->m.mut=true->∃m',g[j]?=!m'/\m'.mut=true:=λ{j m} q tY=>by
   by_cases jk:i=j
   .subst jk;show#[o,h,hm]
   .rw[aH jk] at q;show#[m,q,tY]
  let#[_,q1,n1]:=back h1 m1;let#[_,q2,n2]:=back h2 m2;show R.nd _ _ _ _ _ q1 q2 n1 n2 h3 h4
def Rl.write{l':@&D}(R:Rl K ρ g H)(h:g[i]?=!.lst l)(ha:ρ[i]?=!a)(r:a9 K ρ H l' vs) :
  Rl K ρ (g.set i (.lst l')) (upd H a (.lst vs))/\Ext ρ H ρ (upd H a (.lst vs)):=R.put h rfl ha r
end
structure o7(K:PySem.W.Frag)(ρ:@&Addr)(H:Hp)(σ:S)(bE:St):Prop where
 len:σ.length=-bE
 val:∀(i:Nat) d,σ[i]?=!!d->∃v,bE[i]?=!!v/\c8 K ρ H d v
section
variable{ρ bA:@&Addr}{H':Hp}
def o7.ext{σ bE}(e:Ext ρ H bA H')(r:o7 K ρ H σ bE):o7 K bA H' σ bE:=#[r.len,λi d h=>let ⟨v,a,b⟩:=r.val i d h;#[v,a,b.ext e]]
def o7.set{σ bE d v}(r:o7 K ρ H σ bE)(i:Nat)(h:c8 K ρ H d v):o7 K ρ H (σ.set i (!d)) (bE.set i (!v)):=by
 show#[by simp[r.len],λj e q=>?_];by_cases jk:i=j
 .subst jk;let hi:i<σ.length:=by
   have:=(az.mp q).1
   simp_all
  rw[aU hi] at q;cases q;show#[v,by rw[aU (by rw[<- r.len];show hi)],h]
 .rw[aH jk] at q ⊢;show r.val j e q
def o7.start{ds vs}{n:Nat}(r:a9 K ρ H ds vs):o7 K ρ H (ds.map some++List.replicate (n- -ds) none) (vs.map some++List.replicate (n- -vs) none):=by
 show#[by simp[(-r)],λi d h=>?_];by_cases hi:i< -ds
 .rw[aA (_/hi),aG] at h;cases e:ds[i]? with
  |none=>rw[e] at h;cases h
  |some x =>
   rw[e] at h;cases h;let#[v,h1,h2]:=r.get e;show#[v,?_,h2];rw[aA (by rw[aj,<- -r];show hi),aG,h1]
   rfl
 .rw[cT (_/hi),dF] at h;split at h<;>cases h
def o7.c9{σ bE}(r:o7 K ρ H σ bE)(c9:@&Nat)(n:Nat):o7 K ρ H (R9 σ c9 n) (G7 bE c9 n):=by
 show#[by simp[R9,G7],λi d h=>?_];unfold R9 at h;unfold G7;by_cases hi:i< -c9
 .rw[aA (_/hi),aG,aq hi] at h;rw[aA (_/hi),aG,aq hi];simp only[Option.map_some] at h ⊢;cases e:σ[c9[i]]? with
  |none=>simp_all
  |some x =>
   rw[e] at h;let hx:=aJ h;subst hx;let#[v,h1,h2]:=r.val _ _ e;show#[v,by rw[h1];rfl,h2]
 .rw[cT (_/hi),dF] at h;split at h<;>cases h
end
end M
namespace M
open PySem L2 PySem.Spec PyProof.Rows
variable{g:G}{l:@&D}{vs:@&V}{b:Bool}{d:D}{X:Cx}{ρ:@&Addr}{H:Hp}{s:Shared}{v x:V}
abbrev LQ(K:PySem.W.Frag)(ρ:@&Addr)(H:Hp)(Q:VK):KD:=λd g'=>∀bA H' v,Ext ρ H bA H'->Rl K bA g' H'->c8 K bA H' d v->Q v H'
def LQ.ext{K ρ H bG H1 Q d g}(e:Ext ρ H bG H1)(h:LQ K ρ H Q d g):LQ K bG H1 Q d g:=λbA H' v e' R r=>h bA H' v (e.trans e') R r
def LQ.now{K ρ H Q d g v}(h:LQ K ρ H Q d g)(R:Rl K ρ g H)(r:c8 K ρ H d v):Q v H:=h ρ H v (.refl _ _) R r
def LQ.new{K ρ H Q}{p:Addr}(h:LQ K ρ H Q (.ref (-g)) (g++[.lst l]))(R:Rl K ρ g H)(hp:H p=none)(r:a9 K ρ H l vs):Q (.ref p) (upd H p (.lst vs)) :=
 h (ρ++[p]) _ _ (C5 hp) (R.alloc hp r) (.ref (R.u7 p))
def LQ.tup{K ρ H Q}{g:G}{l:@&D}{vs:@&V}{p:Addr}(h:LQ K ρ H Q (.tup l) g)(R:Rl K ρ g H)(hp:H p=none)(r:a9 K ρ H l vs):Q (.ref p) (upd H p (.tup vs)) :=
 h ρ _ _ (p6 hp) (R.grow hp) (.tup (.inl k9) (r.ext (p6 hp)))
def r2(K:PySem.W.Frag)(p:Pr):R2:=λx y H Q=>∃d e g ρ,Rl K ρ g H/\c8 K ρ H d x/\c8 K ρ H e y/\cw p [d,e] g (LQ K ρ H Q)
abbrev r1(K:PySem.W.Frag)(p:Pr):V->Hp->VK->Prop:=λx H Q=>∃d g ρ,Rl K ρ g H/\c8 K ρ H d x/\cw p [d] g (LQ K ρ H Q)
abbrev rN(K:PySem.W.Frag)(p:Pr):@&V->Hp->VK->Prop:=λxs H Q=>∃ds g ρ,Rl K ρ g H/\a9 K ρ H ds xs/\cw p ds g (LQ K ρ H Q)
def i4{n:Nat}(h:n<=100000):n<=sizeLine:=aF h ∅
def Ad{n:Nat}(h:n<100000):n<sizeLine:=ax h ∅
def c8.f9{K ρ H i v}(h:c8 K ρ H (.int i) v):v=.int i:=by cases h;rfl
def c8.o8{K ρ H i v}(h:c8 K ρ H (.str i) v):v=.str i:=by cases h;rfl
def c8.P4{K ρ H i v}(h:c8 K ρ H (.bl i) v):v=.bl i:=by cases h;rfl
def c8.zP{K ρ H v}(h:c8 K ρ H .aO v):v=.aO:=by cases h;rfl
def c8.XM{K ρ H n v}(h:c8 K ρ H (.ty n) v):v=.ty n:=by cases h;rfl
def c8.i0{K ρ H i v}(h:c8 K ρ H (.ref i) v):∃a,v=.ref a/\ρ[i]?=!a:=by cases h;show#[_,rfl,by assumption]
def c8.A1{K ρ H l v}(h:c8 K ρ H (.tup l) v):∃a vs,v=.ref a/\TupAt K H a vs/\a9 K ρ H l vs:=by cases h;show#[_,_,rfl,by assumption,by assumption]
def a9.one{K ρ H d vs}(h:a9 K ρ H [d] vs):∃v,vs=[v]/\c8 K ρ H d v:=by
 cases h with
 |cons r rr=>cases rr;show#[_,rfl,r]
def a9.two{K ρ H d e vs}(h:a9 K ρ H [d,e] vs):∃v w,vs=[v,w]/\c8 K ρ H d v/\c8 K ρ H e w:=by
 cases h with
 |cons r rr=>let#[w,rfl,q]:=rr.one;show#[_,_,rfl,r,q]
def w9{a b c:D}(h:[a,b]=[c,d]):a=c/\b=d:=by cases h;show#[rfl,rfl]
section
def YG(op:Operator):fc X (binaryOp op) (r2 X.K (.bin op)):=by
 intro pi s σ H x y v u Q I rx ry h;let#[d,e,g,ρ,R,rd,re,d',g',h,q]:=h;rcases h with⟨i,j,r,ex,ha,rfl,rfl⟩|⟨rfl,h⟩|⟨rfl,h⟩
 .let#[rfl,rfl]:=w9 ex;obtain rfl:=rd.f9;obtain rfl:=re.f9;let fin:=q.now R (.int r);cases op<;>first|show(show False from ha).elim|skip
  .cases ha;show YD pi s σ H _ _ v u Q I rx ry #[i,j,rfl,rfl,fin]
  .cases ha;show YQ pi s σ H _ _ v u Q I rx ry #[i,j,rfl,rfl,fin]
  .let#[hc,rfl]:=ha;show YK pi s σ H _ _ v u Q I rx ry #[i,j,rfl,rfl,hc,fin]
  .let#[hc,rfl]:=ha;show YJ pi s σ H _ _ v u Q I rx ry #[i,j,rfl,rfl,hc,fin]
  .let#[hc,rfl]:=ha;show YL pi s σ H _ _ v u Q I rx ry #[i,j,rfl,rfl,hc,fin]
  .let#[hc,rfl]:=ha;show YO pi s σ H _ _ v u Q I rx ry #[i,j,rfl,rfl,hc,fin]
  .cases ha;show WY pi s σ H _ _ v u Q I rx ry #[i,j,rfl,rfl,fin]
  .cases ha;show YE pi s σ H _ _ v u Q I rx ry #[i,j,rfl,rfl,fin]
  .let#[hc,rfl]:=ha;show Sm pi s σ H _ _ v u Q I rx ry #[i,j,rfl,rfl,hc,fin]
 .rcases h with⟨l,m,ex,hz,rfl,rfl⟩|⟨a,b,l,m,ex,ha,hb,hz,rfl,rfl⟩|⟨x',y',ex,hz,rfl,rfl⟩
  .let#[rfl,rfl]:=w9 ex;let#[a,vs,rfl,ta,rs]:=rd.A1;let#[b,ws,rfl,tb,rt]:=re.A1;show UN pi s σ H _ _ v u Q I rx ry #[a,b,vs,ws,rfl,rfl,ta.sq,tb.sq,?_,λz=>?_,λz=>?_,λp hp=>q.tup R hp (rs.append rt)]
   .rw[<- -rs,<- -rt];show i4 hz
   .subst z;cases rs;show q.now R (.tup tb rt)
   .subst z;cases rt;rw[fI] at q;show q.now R (.tup ta rs)
  .let#[rfl,rfl]:=w9 ex;let#[a',rfl,ra]:=rd.i0;let#[b',rfl,rb]:=re.i0;let#[vs,z1,rs]:=R.lst ha ra;let#[ws,z2,rt]:=R.lst hb rb;show YH pi s σ H _ _ v u Q I rx ry #[_,_,vs,ws,rfl,rfl,z1,z2,by rw[<- -rs,<- -rt];show i4 hz,λp hp=>q.new R hp (rs.append rt)]
  .let#[rfl,rfl]:=w9 ex;obtain rfl:=rd.o8;obtain rfl:=re.o8;show aU4 pi s σ H _ _ v u Q I rx ry #[_,_,rfl,rfl,i4 hz,q.now R (.str _)]
 .rcases h with⟨a,l,n,ex,ha,h1,h2,hz,rfl,rfl⟩|⟨l,n,ex,fE,h1,h2,hz,rfl,rfl⟩
  rotate_left
  .let#[rfl,rfl]:=w9 ex;let#[a',vs,rfl,ta,rs]:=rd.A1;obtain rfl:=re.f9;show So pi s σ H _ _ v u Q I rx ry #[_,_,vs,rfl,rfl,ta.sq,λz=>?_,h1,h2,by rw[<- -rs];show i4 hz,λz=>?_,λp hp=>q.tup R hp (rs.rep _)]
   .subst z;cases rs;show fE rfl
   .subst z;have:(List.replicate (Int.toNat 1) l).flatten=l:=by simp
    rw[this] at q;show q.now R (.tup ta rs)
  let#[rfl,rfl]:=w9 ex;let#[a',rfl,ra]:=rd.i0;obtain rfl:=re.f9;let#[vs,z1,rs]:=R.lst ha ra;show YN pi s σ H _ _ v u Q I rx ry #[_,_,vs,rfl,rfl,z1,by omega,by omega,by rw[<- -rs];show i4 hz,λp hp=>q.new R hp (rs.rep _)]
def WZ(op:UnaryOp):AV X (unaryOp op) (r1 X.K (.un op)):=by
 intro pi s σ H x v Q I rx h;let#[d,g,ρ,R,rd,d',g',#[rfl,i,ex,rfl,rfl],q]:=h;cases ex;obtain rfl:=rd.f9;show bC1 pi s σ H _ v Q I rx #[_,rfl,q.now R (.int _)]
section
variable{pi:@&(Addr×Obj)}{σ:L2.St}
def La(I:Inv X pi σ H s)(R:Rl X.K ρ g H)(n:Nat)(ih:∀{d:D} {v:V} {u:Value} {p:PyData},rd g n d=!p->c8 X.K ρ H d v->RelV v u->∃as,Reads s.heap u p as/\p.depth<=n):∀{vs:@&V} {us:@&Value} {ps:@&PyData},l.mapM (rd g n)=!ps->a9 X.K ρ H l vs->Vals vs us->∃as,ReadsAll s.heap us ps as/\PyData.depthAll ps<=n:=by
 induction l with
 |nil =>
  intro vs us ps h rs rv;cases rs;cases rv;simp at h;subst h;show#[_,.nil,cQ _]
 |cons d l il =>
  intro vs us ps h rs rv;cases rs with
  |cons ia rs =>
   cases rv with
   |cons ru rv =>
    rw[oK] at h;cases e:rd g n d with
    |none=>simp_all
    |some p =>
     rw[e] at h;cases e2:l.mapM (rd g n) with
     |none=>rw[e2] at h;cases h
     |some qs =>
      rw[e2] at h;cases h;let#[as,q1,d1]:=ih e ia ru;let#[bs,q2,d2]:=il e2 rs rv;show#[_,.cons q1 q2,?_];simp only[PyData.depthAll];omega
set_option tactic.hygienic true in
def W4(I:Inv X pi σ H s)(R:Rl X.K ρ g H)(n:Nat):∀{d:D} {v:V} {u:Value} {p:PyData},rd g n d=!p->c8 X.K ρ H d v->RelV v u->∃as,Reads s.heap u p as/\p.depth<=n:=by
 induction n with
 |zero =>
  intro d v u p h r ru;cases r with
  |aO=>simp only[rd] at h;cases h;cases ru;show#[_,.none,Nat.zero_le _]
  |bl b=>simp only[rd] at h;cases h;cases ru;show#[_,.bool b,Nat.zero_le _]
  |int i=>simp only[rd] at h;cases h;let#[t,rfl]:=ru;show#[_,.int i t,Nat.zero_le _]
  |str x=>simp only[rd] at h;cases h;let#[t,rfl]:=ru;show#[_,.str x t,Nat.zero_le _]
  |_=>simp only[rd] at h;cases h
 |succ n ih =>
  intro d v u p h r ru;cases r with
  |aO=>simp only[rd] at h;cases h;cases ru;show#[_,.none,Nat.zero_le _]
  |bl b=>simp only[rd] at h;cases h;cases ru;show#[_,.bool b,Nat.zero_le _]
  |int i=>simp only[rd] at h;cases h;let#[t,rfl]:=ru;show#[_,.int i t,Nat.zero_le _]
  |str x=>simp only[rd] at h;cases h;let#[t,rfl]:=ru;show#[_,.str x t,Nat.zero_le _]
  |ty x=>simp only[rd] at h;cases h
  |ref ha =>
   rename_i i a;simp only[rd] at h;cases e:c7 g i with
   |none=>simp_all
   |some l =>
    rw[e] at h;dsimp only at h;cases e2:l.mapM (rd g n) with
    |none=>simp_all
    |some ps =>
     rw[e2] at h;cases h;cases ru;let#[vs,hq,rs]:=R.items e ha;let#[aX,rv,p,hz]:=I.list hq;let#[as,q,hd]:=La I R n ih e2 rs rv;let#[o,ho,hc,k,si]:=p.isList;show#[_,.list ho hc si (_/q),?_];simp only[PyData.depth];omega
  |tup ht rs =>
   rename_i l a vs;simp only[rd] at h;cases e2:l.mapM (rd g n) with
   |none=>simp_all
   |some ps =>
    rw[e2] at h;cases h;cases ru;let#[aX,rv,pt,hz]:=I.tuple ht.sq;let#[as,q,hd]:=La I R n ih e2 rs rv;let#[o,ho,hc,k,si]:=id pt;show#[_,.tuple ho hc si (_/q),?_];simp only[PyData.depth];omega
end
end
def ym{K ρ H}{c:Key}(h:oB d=!c)(r:c8 K ρ H d v):v=kV c:=by
 cases r<;>first|(cases h;rfl)|cases h
def sV.some{K ρ H}{o:Option V}{d:D}(h:sV K ρ H (!d) o):∃v,o=!v/\c8 K ρ H d v:=by
 cases o with
 |none=>show h.elim
 |some v=>show#[v,rfl,h]
def sV.isSome{K ρ H}{o:Option V}{d:Option D}(h:sV K ρ H d o):d.isSome=o.isSome:=by
 cases o<;>cases d<;>first|rfl|show h.elim
def Iy{pi:@&(Addr×Obj)}{σ:L2.St}{e:D}{y:V}{v u:Value}{Q:VK}(hu:X.A.units+100<cLine)(I:Inv X pi σ H s)(rx:RelV x v)(ry:RelV y u)(R:Rl X.K ρ g H)(ia:c8 X.K ρ H d x)(re:c8 X.K ρ H e y)(h:xF g d e b)(neg:Bool)(q:Q (.bl (xor neg b)) H):wpAny (model X.prog X.w) X.A (compareOp (if neg then .NotEq else .Eq) v u) (EP X pi σ Q) X.xe s:=by
 rcases h with⟨i,j,rfl,rfl,rfl⟩|⟨i,j,rfl,rfl,rfl⟩|⟨i,j,rfl,rfl,rfl⟩|⟨p,p',h1,h2,c1,c2,rfl⟩
 .obtain rfl:=ia.f9;obtain rfl:=re.f9;cases neg
  .exact Fi pi s σ H _ _ v u Q I rx ry #[rfl,by simp_all]
  .exact Fj pi s σ H _ _ v u Q I rx ry #[rfl,by simp_all]
 .obtain rfl:=ia.P4;obtain rfl:=re.P4;cases neg
  .exact Fi pi s σ H _ _ v u Q I rx ry #[rfl,by rw[zK];simpa using q]
  .exact Fj pi s σ H _ _ v u Q I rx ry #[rfl,by rw[zK];simpa using q]
 .obtain rfl:=ia.o8;obtain rfl:=re.o8;cases neg
  .exact Fi pi s σ H _ _ v u Q I rx ry #[rfl,by simp_all]
  .exact Fj pi s σ H _ _ v u Q I rx ry #[rfl,by simp_all]
 .let#[as,q1,d1]:=W4 I R 6 h1 ia rx;let#[bs,q2,d2]:=W4 I R 6 h2 re ry;let hr:X.A.units+min p.depth p'.depth<cLine:=by omega
  cases neg
  .exact SeqAt.compareEq_reads q1 q2 c1 c2 hr #[.bl _,H,I,rfl,by simpa using q]
  .exact SeqAt.compareNe_reads q1 q2 c1 c2 hr #[.bl _,H,I,rfl,by simpa using q]
def in_of{pi:@&(Addr×Obj)}{σ:L2.St}{e:D}{y:V}{v u:Value}{Q:VK}(hu:X.A.units+100<cLine)(I:Inv X pi σ H s)(rx:RelV x v)(ry:RelV y u)(R:Rl X.K ρ g H)(ia:c8 X.K ρ H d x)(re:c8 X.K ρ H e y)(h:inR g d e b)(neg:Bool)(q:Q (.bl (xor neg b)) H):wpAny (model X.prog X.w) X.A (compareOp (if neg then .NotIn else .In) v u) (EP X pi σ Q) X.xe s:=by
 rcases h with⟨a,kvs,c,rfl,ha,hc,rfl⟩|⟨l,ps,p,h0,h1,h2,c1,c2,rfl⟩
 .let#[a',rfl,ra]:=re.i0;let#[vs,z,rs]:=R.bZ ha ra;have:=ym hc ia;subst this;cases ry;rw[(rs.val c).isSome] at q;cases neg
  .exact b53 () I (oz.k z) rx λs' I'=>#[.bl _,H,I',rfl,by simpa using q]
  .exact bA5 () I (oz.k z) rx λs' I'=>#[.bl _,H,I',rfl,by simpa using q]
 .let#[as,q1,d1]:=W4 I R 6 h2 ia rx;cases e with
  |tup m =>
   cases h0;let h3:rd g 7 (.tup l)=!.tuple ps:=by simp only[rd];rw[show l.mapM (rd g 6)=some ps from h1];rfl
   let#[bs,q2,d2]:=W4 I R 7 h3 re ry;let hr:X.A.units+1+min (PyData.depthAll ps) p.depth<cLine:=by omega
   cases neg
   .exact SeqAt.in_tuple_reads q2 q1 c1 c2 hr #[.bl _,H,I,rfl,by simpa using q]
   .exact SeqAt.notIn_tuple_reads q2 q1 c1 c2 hr #[.bl _,H,I,rfl,by simpa using q]
  |ref a =>
   let h3:rd g 7 (.ref a)=!.list ps:=by
    simp only[rd];rw[show c7 g a=some l from h0];dsimp only;rw[show l.mapM (rd g 6)=some ps from h1]
    rfl
   let#[bs,q2,d2]:=W4 I R 7 h3 re ry;let hr:X.A.units+1+min (PyData.depthAll ps) p.depth<cLine:=by omega
   cases neg
   .exact SeqAt.in_list_reads q2 q1 c1 c2 hr #[.bl _,H,I,rfl,by simpa using q]
   .exact SeqAt.notIn_list_reads q2 q1 c1 c2 hr #[.bl _,H,I,rfl,by simpa using q]
  |_=>cases h0
def uW(hu:X.A.units+100<cLine)(op:CmpOp):fc X (compareOp op) (r2 X.K (.cmp op)):=by
 intro pi s σ H x y v u Q I rx ry h;let#[d,e,g,ρ,R,ia,re,d',g',#[x',y',b,ex,h,rfl,rfl],q]:=h;let#[rfl,rfl]:=w9 ex;let fin:=q.now R (.bl b);let oX:∀{P:Int->Int->Bool},(∃i j,d=.int i/\e=.int j/\b=P i j)->∃i j,x=.int i/\y=.int j/\b=P i j:=λhh=>by
  let#[i,j,z1,z2,z3]:=hh;show#[i,j,(z1▸ia).f9,(z2▸re).f9,z3]
 cases op
 .exact Iy hu I rx ry R ia re h false (_/fin)
 .exact Iy hu I rx ry R ia re h true (_/fin)
 .let#[i,j,e1,e2,e3]:=oX (P:=λi j=>decide (i<j)) h;show WX pi s σ H _ _ v u Q I rx ry #[i,j,e1,e2,by subst e3;show fin]
 .let#[i,j,e1,e2,e3]:=oX (P:=λi j=>decide (i<=j)) h;show WW pi s σ H _ _ v u Q I rx ry #[i,j,e1,e2,by subst e3;show fin]
 .let#[i,j,e1,e2,e3]:=oX (P:=λi j=>decide (j<i)) h;show WV pi s σ H _ _ v u Q I rx ry #[i,j,e1,e2,by subst e3;show fin]
 .let#[i,j,e1,e2,e3]:=oX (P:=λi j=>decide (j<=i)) h;show WU pi s σ H _ _ v u Q I rx ry #[i,j,e1,e2,by subst e3;show fin]
 .let#[rfl,rfl]:=(show _/\_ from h)
  obtain rfl:=re.zP;show YI pi s σ H _ _ v u Q I rx ry #[rfl,?_];let e:R7 d=decide (x=V.aO):=by cases ia<;>simp[R7]
  rw[<- e];show fin
 .let#[rfl,rfl]:=(show _/\_ from h)
  obtain rfl:=re.zP;show Sn pi s σ H _ _ v u Q I rx ry #[rfl,?_];let e:R7 d=decide (x=V.aO):=by cases ia<;>simp[R7]
  rw[<- e];show fin
 .rcases h with h|⟨a,S,n,i,rfl,ha,rfl,rfl⟩|⟨i,j,rfl,rfl,rfl⟩
  .exact in_of hu I rx ry R ia re h false (_/fin)
  .let#[a',rfl,ra]:=re.i0;obtain rfl:=ia.f9;show a40 pi s σ H _ _ v u Q I rx ry #[i,a',S,n,rfl,rfl,R.set ha ra,fin]
  .obtain rfl:=re.o8;obtain rfl:=ia.o8;show a39 pi s σ H _ _ v u Q I rx ry #[i,j,rfl,rfl,fin]
 .rcases h with h|⟨a,S,n,i,rfl,ha,rfl,hb⟩|⟨i,j,rfl,rfl,hb⟩
  .exact in_of hu I rx ry R ia re h true (_/fin)
  .let#[a',rfl,ra]:=re.i0;obtain rfl:=ia.f9;show aF2 pi s σ H _ _ v u Q I rx ry #[i,a',S,n,rfl,rfl,R.set ha ra,by rw[<- hb,Bool.not_not];show fin]
  .obtain rfl:=re.o8;obtain rfl:=ia.o8;show aF1 pi s σ H _ _ v u Q I rx ry #[i,j,rfl,rfl,by rw[<- hb,Bool.not_not];show fin]
def empty_eq{K ρ H}(r:a9 K ρ H l vs):l.isEmpty=vs.isEmpty:=by cases r<;>rfl
def bC5{K:PySem.W.Frag}(R:Rl K ρ g H)(r:c8 K ρ H d x)(h:JN g d b):Du K x H b:=by
 rcases h with⟨rfl,rfl⟩|rfl|⟨i,rfl,rfl⟩|⟨l,rfl,rfl⟩|⟨a,l,rfl,hl,rfl⟩
 .obtain rfl:=r.zP;rfl
 .obtain rfl:=r.P4;rfl
 .obtain rfl:=r.f9;rfl
 .let#[a,vs,rfl,ht,rs]:=r.A1;show .inr (.inl #[_,ht.sq,by rw[empty_eq rs]])
 .let#[a',rfl,ha]:=r.i0;let#[vs,hq,rs]:=R.items hl ha;show .inl #[_,hq,by rw[empty_eq rs]]
def bB1{K ρ H}{i:Int}(r:a9 K ρ H l vs)(h:js l i=!d):∃v,js vs i=!v/\c8 K ρ H d v:=by
 unfold js at h ⊢;rw[<- -r];cases e:lq (-l) i with
 |none=>simp_all
 |some j =>
  rw[e] at h;show r.get h
def zR{K ρ H}{x:D}(R:Rl K ρ g H)(r:c8 K ρ H x v)(h:D8 g x=!l):∃a vs,v=.ref a/\a9 K ρ H l vs/\((∃i,x=.ref i/\ρ[i]?=!a)/\fR K H a vs\/x=.tup l/\TupAt K H a vs):=by
 cases r with
 |tup ht rs=>cases h;show#[_,_,rfl,rs,.inr #[rfl,ht]]
 |ref ha=>let#[vs,hq,rs]:=R.items h ha;show#[_,_,rfl,rs,.inl #[#[_,rfl,ha],hq]]
 |_=>cases h
def WB(hu:X.A.units+100<cLine):uZ X (r2 X.K .ix):=by
 intro value slice pi s σ H x y v u Q I rx ry h hs;let#[d,e,g,ρ,R,ia,re,d',g',#[rfl,h],q]:=h;rcases h with⟨x',l,i,ex,hl,ha⟩|⟨a,kvs,y',c,ex,ha,hc,hv⟩|z
 .let#[rfl,rfl]:=w9 ex;obtain rfl:=re.f9;let#[a,vs,rfl,rs,h]:=zR R ia hl;let#[w,hw,fk]:=bB1 rs ha;rcases h with⟨_,hq⟩|⟨_,ht⟩
  .exact RT value slice pi s σ H _ _ v u Q I rx ry #[_,_,i,w,rfl,rfl,hq,hw,q.now R fk] hs
  .exact Yk value slice pi s σ H _ _ v u Q I rx ry #[_,_,i,w,rfl,rfl,ht.sq,hw,q.now R fk] hs
 .let#[rfl,rfl]:=w9 ex;let#[a',rfl,ra]:=ia.i0;let#[vs,z,rs]:=R.bZ ha ra;have:=ym hc re;subst this;let q2:=rs.val c;rw[hv] at q2;let#[w,hw,fk]:=q2.some;show RS () value slice pi s σ H _ _ v u Q I rx ry #[_,w,rfl,by have:=oz.k (k:=c) z;rw[hw] at this;show this,q.now R fk] hs
 .exact z.elim
abbrev OU(K:PySem.W.Frag):V->Option Int->Option Int->Hp->VK->Prop:=λx lo hi H Q=>∃d g ρ d' g',Rl K ρ g H/\c8 K ρ H d x/\vC d lo hi g d' g'/\LQ K ρ H Q d' g'
def Ja:yC X (OU X.K):=by
 intro pi s σ H x v vl vu lo hi sl Q I rx hs pl pu h;let#[d,g,ρ,d',g',R,ia,h,q]:=h;rcases h with⟨l,rfl,rfl,rfl⟩|⟨a,l,rfl,hl,rfl,rfl⟩
 .let#[a,vs,rfl,ht,rs]:=ia.A1;show Tj pi s σ H _ v vl vu lo hi sl Q I rx hs pl pu #[_,_,rfl,ht.sq,λz=>?_,λp hp=>q.tup R hp (rs.cut lo hi)];show q.now R (.tup ht ?_);have:=rs.cut lo hi
  simp_all
 .let#[a',rfl,ha]:=ia.i0;let#[vs,hq,rs]:=R.items hl ha;show Ti pi s σ H _ v vl vu lo hi sl Q I rx hs pl pu #[_,_,rfl,hq,λp hp=>q.new R hp (rs.cut lo hi)]
abbrev b20(K:PySem.W.Frag):V->V->V->Hp->(Hp->Prop)->Prop:=λo i v H Q=>∃Di di dv g ρ,Rl K ρ g H/\c8 K ρ H Di o/\c8 K ρ H di i/\c8 K ρ H dv v/\qb Di di dv g (λg'=>∀bA H',Ext ρ H bA H'->Rl K bA g' H'->Q H')
def ZG(hu:X.A.units+100<cLine):Ds X (b20 X.K):=by
 intro pi s σ H o i v ov iv u Q I ro ri rv h;let#[Di,di,dv,g,ρ,R,r1,r2,r3,g',h,q]:=h;rcases h with⟨a,i',l,j,rfl,rfl,hl,hj,rfl⟩|⟨a,kvs,c,rfl,ha,hc,hz,rfl⟩
 .let#[a',rfl,ha]:=r1.i0;obtain rfl:=r2.f9;let#[vs,z,rs]:=R.lst hl ha;let#[R',e']:=R.write hl ha (rs.set r3 j);show set_list pi s σ H _ _ _ ov iv u Q I ro ri rv #[_,vs,_,j,rfl,rfl,z,by rw[<- -rs];show hj,q ρ _ e' R']
 .let#[a',rfl,ra]:=r1.i0;let#[vs,z,rs]:=R.bZ ha ra;have:=ym hc r2;subst this;let#[R',e']:=R.put (o':=.bZ (putD kvs c dv)) (u:=.dK (putK vs c v)) ha rfl ra (rs.put r3);cases ro;show a89 () I (Ar.k z (by rw[<- -rs];show Ad hz)) ri rv λs' I'=>#[_,I',q ρ _ e' R']
def Yt:j7 X (.builtin "len") (rN X.K .len):=by
 intro pi s σ H xs us Q I r h;let#[ds,g,ρ,R,rs,d',g',#[rfl,h],q]:=h;rcases h with⟨x,l,rfl,hl,rfl⟩|z|⟨x,rfl,hz,rfl⟩
 .let#[v,rfl,rv]:=rs.one;let#[a,vs,rfl,rl,h]:=zR R rv hl;show aJ6 pi s σ H _ us Q I r #[_,_,rfl,?_,by rw[<- -rl];show q.now R (.int _)];show h.imp (λz=>z.2) (λz=>z.2.sq)
 .exact z.elim
 .let#[v,rfl,rv]:=rs.one;obtain rfl:=rv.o8;show aJ5 pi s σ H _ us Q I r #[_,rfl,i4 hz,q.now R (.int _)]
def Eg{K ρ H}:∀(ks:@&Key),a9 K ρ H (ks.map kD) (ks.map kV)
 |[]=>.nil
 |.inl _::r=>.cons (.int _) (Eg r)
 |.inr _::r=>.cons (.str _) (Eg r)
def d0.keys{α:Type}{K ρ H}{ds:@&(α×D)}{vs:@&(α×V)}(h:d0 K ρ H ds vs):ds.map (·.1)=vs.map (·.1):=by
 induction h with
 |nil=>rfl
 |cons _ _ ih=>simp_all
def RW(hc:X.calm=true):j7 X (.type "list") (rN X.K .list):=by
 intro pi s σ H xs us Q I r h;obtain⟨ds,g,ρ,R,rs,d',g',⟨x,l,rfl,hl,rfl,rfl⟩|⟨a,kvs,rfl,ha,hn,rfl,rfl⟩,q⟩:=h
 rotate_left
 .let#[v,rfl,rv]:=rs.one;let#[a',rfl,ra]:=rv.i0;let#[vs,z,rk]:=R.bZ ha ra;show aw2 hc pi s σ H _ us Q I r #[_,vs,rfl,z,by rw[<- -rk];show hn,λp hp=>q (ρ++[p]) _ _ (C5 hp) (R.new hp (by rw[rk.keys];show Eg _)) (.ref (R.u7 p))]
 let#[v,rfl,rv]:=rs.one;let#[a,vs,rfl,rl,h]:=zR R rv hl;show aJ4 pi s σ H _ us Q I r #[_,_,rfl,h.imp (λz=>z.2) (λz=>z.2.sq),λp hp=>q.new R hp rl]
def VC:j7 X (.type "tuple") (rN X.K .tuple):=by
 intro pi s σ H xs us Q I r h;let#[ds,g,ρ,R,rs,d',g',#[x,l,rfl,hl,rfl,rfl],q]:=h;let#[v,rfl,rv]:=rs.one;let#[a,vs,rfl,rl,h]:=zR R rv hl;show aA2 pi s σ H _ us Q I r #[a,vs,rfl,?_];show h.imp (λz=>#[z.2,λp hp=>q.tup R hp rl]) (λz=>#[z.2.sq,q.now R (.tup z.2 rl)])
def RQ:j7 X (.builtin "isinstance") (rN X.K .isin):=by
 intro pi s σ H xs us Q I r h;let#[ds,g,ρ,R,rs,d',g',#[x,c,b,rfl,hc,hb,rfl,rfl],q]:=h;let#[v,w,rfl,r1,r2]:=rs.two;obtain rfl:=r2.XM;let fin:=q.now R (.bl b);let go:∀(t:Value) (v:V),gS X.K H v t->PySem.W.kitOne X.K t (.type c)=!b->Vals [v,V.ty c] us->wpAny (model X.prog X.w) X.A (call (.builtin "isinstance") us) (EP X pi σ Q) X.xe s :=
  λt v ht hk r=>aM0 pi s σ H _ us Q I r #[v,t,c,b,rfl,ht,hk,fin]
 simp only[List.mem_cons,List.mem_nil_iff,or_false] at hc;cases r1 with
 |aO=>show go _ _ .aO ?_ r;cases hb;rcases hc with rfl|rfl|rfl|rfl|rfl<;>rfl
 |bl y=>show go _ _ (.bl y) ?_ r;cases hb;rcases hc with rfl|rfl|rfl|rfl|rfl<;>rfl
 |int y=>show go _ _ (.int y) ?_ r;cases hb;rcases hc with rfl|rfl|rfl|rfl|rfl<;>rfl
 |str y=>show go _ _ (.str y) ?_ r;cases hb;rcases hc with rfl|rfl|rfl|rfl|rfl<;>rfl
 |ty _=>cases hb
 |tup ht rs =>
  cases hb;rcases ht with ht|ht
  .refine go _ _ (.tup ht) ?_ r;rcases hc with rfl|rfl|rfl|rfl|rfl<;>rfl
  .let#[o,aX,n,lk,iV,_]:=ht;let#[u,w',rfl,ru,fk]:=vals2 r;cases (show w'=Value.type c from fk);cases ru;let hk:PySem.W.kitOne X.K (.type "tuple") (.type c)=!(c=="tuple"):=by rcases hc with rfl|rfl|rfl|rfl|rfl<;>rfl
   show bO Oy I.fU #[o,I.fU _ _ lk,iV] hk (λz=>nomatch z) λtk=>#[.bl _,H,I.tok tk,rfl,fin]
 |@ref i a ha =>
  let pA:∃m,g'[i]?=!.lst m/\b=(c=="list"):=by
   simp only[sR] at hb;split at hb
   .exact#[_,by assumption,(aJ hb).symm]
   .cases hb
  let#[m,e,rfl]:=pA;let#[vs,z,_]:=R.lst e ha;show go _ _ (.lst z) ?_ r;rcases hc with rfl|rfl|rfl|rfl|rfl<;>rfl
set_option tactic.hygienic true in
def aY5:∀{l:@&D} {b:Bool},K7 l=!b->∃bs:@&Bool,l=bs.map D.bl/\b=bs.all id:=by
 intro l
 induction l with
 |nil=>intro b h;cases h;show#[[],rfl,rfl]
 |cons d r ih =>
  intro b h;cases d<;>first|(cases h;done)|skip
  rename_i c;simp only[K7] at h;cases e:K7 r with
  |none=>simp_all
  |some b' =>
   rw[e] at h;cases h;let#[bs,rfl,rfl]:=ih e;show#[c::bs,rfl,by simp]
def a9.TC{K ρ H}:∀{bs:@&Bool} {vs:@&V},a9 K ρ H (bs.map D.bl) vs->vs=bs.map V.bl:=by
 intro bs
 induction bs with
 |nil=>intro vs h;cases h;rfl
 |cons b r ih =>
  intro vs h;cases h with
  |cons h rr=>rw[ih rr,h.P4];rfl
def XU(hc:X.calm=true):j7 X (.builtin "all") (rN X.K .all):=by
 intro pi s σ H xs us Q I r h;let#[ds,g,ρ,R,rs,d',g',#[a,l,b,rfl,hl,hb,rfl,rfl],q]:=h;let#[v,rfl,rv]:=rs.one;let#[a',rfl,ra]:=rv.i0;let#[vs,hq,rs]:=R.items hl ra;rcases hb with hb|⟨ns,rfl,rfl⟩
 rotate_left
 .have:=rs.ints;subst this;show a95 hc pi s σ H _ us Q I r #[_,ns,rfl,hq,q.now R (.bl _)]
 let#[bs,rfl,rfl]:=aY5 hb;have:=rs.TC;subst this;show a96 hc pi s σ H _ us Q I r #[_,bs,rfl,hq,q.now R (.bl _)]
def Yx(hc:X.calm=true)(hu:X.A.units+100<cLine):j7 X (.builtin "min") (rN X.K .min):=by
 intro pi s σ H xs us Q I r h;obtain⟨ds,g,ρ,R,rs,d',g',⟨rfl,⟨i,j,rfl,rfl⟩|z⟩,q⟩:=h
 rotate_left
 .exact z.elim
 let#[v,w,rfl,r1,r2]:=rs.two;obtain rfl:=r1.f9;obtain rfl:=r2.f9;show a94 hc pi s σ H _ us Q I r #[i,j,rfl,q.now R (.int _)]
def Yi:j7 X (.type "int") (rN X.K .int):=by
 intro pi s σ H xs us Q I r h;let#[ds,g,ρ,R,rs,d',g',#[rfl,h],q]:=h;rcases h with⟨i,rfl,rfl⟩|⟨b,rfl,rfl⟩|⟨x,n,rfl,hl,hn,rfl⟩
 .let#[v,rfl,rv]:=rs.one;obtain rfl:=rv.f9;show JV pi s σ H _ us Q I r (.inl #[i,rfl,q.now R (.int _)])
 .let#[v,rfl,rv]:=rs.one;obtain rfl:=rv.P4;show JV pi s σ H _ us Q I r (.inr #[b,rfl,q.now R (.int _)])
 .let#[v,rfl,rv]:=rs.one;obtain rfl:=rv.o8;show aJ7 pi s σ H _ us Q I r #[x,n,rfl,hl,hn,q.now R (.int _)]
def ZT:j7 X (.type "str") (rN X.K .str):=by
 intro pi s σ H xs us Q I r h;obtain⟨ds,g,ρ,R,rs,d',g',⟨i,rfl,hi,rfl,rfl⟩|⟨x,rfl,rfl,rfl⟩,q⟩:=h
 .let#[v,rfl,rv]:=rs.one;obtain rfl:=rv.f9;show aJ2 pi s σ H _ us Q I r #[i,rfl,hi,q.now R (.str _)]
 .let#[v,rfl,rv]:=rs.one;obtain rfl:=rv.o8;let#[u,rfl,t,rfl]:=vals1 r;show PySem.P.str_of_str #[.str _,H,I,#[_,rfl],q.now R (.str _)]
abbrev rM(K:PySem.W.Frag)(p:Pr):V->@&V->Hp->VK->Prop:=λx xs H Q=>∃d ds g ρ,Rl K ρ g H/\c8 K ρ H d x/\a9 K ρ H ds xs/\cw p (d::ds) g (LQ K ρ H Q)
def X4{a b:D}{m:@&D}(h:a::l=b::m):a=b/\l=m:=by cases h;show#[rfl,rfl]
def VP:kU X "list.append" (rM X.K .append):=by
 intro pi s σ H x xs v us Q I rx r h;let#[d,ds,g,ρ,R,rd,rs,d',g',#[a,y,l,ex,ha,hz,rfl,rfl],q]:=h;let#[rfl,rfl]:=X4 ex;let#[a',rfl,ra]:=rd.i0;let#[w,rfl,fk]:=rs.one;let#[vs,z1,rv]:=R.lst ha ra;let#[R2,e2]:=R.write ha ra (rv.append (.cons fk .nil));show a48 pi s σ H _ _ v us Q I rx r #[_,vs,_,rfl,rfl,z1,by rw[<- -rv];show Ad hz,q ρ _ _ e2 R2 .aO]
def Ua:kU X "list.clear" (rM X.K .clear):=by
 intro pi s σ H x xs v us Q I rx r h;let#[d,ds,g,ρ,R,rd,rs,d',g',#[a,l,ex,ha,rfl,rfl],q]:=h;let#[rfl,rfl]:=X4 ex;let#[a',rfl,ra]:=rd.i0;cases rs;let#[vs,z1,rv]:=R.lst ha ra;let#[R2,e2]:=R.write ha ra (a9.nil);show UH pi s σ H _ _ v us Q I rx r #[_,vs,rfl,rfl,z1,q ρ _ _ e2 R2 .aO]
def SE:kU X "list.pop" (rM X.K .je):=by
 intro pi s σ H x xs v us Q I rx r h;let#[d,ds,g,ρ,R,rd,rs,y,g',#[a,l,ex,ha,rfl],q]:=h;let#[rfl,rfl]:=X4 ex;let#[a',rfl,ra]:=rd.i0;cases rs;let#[vs,z1,rv]:=R.lst ha ra;let#[w,hw,fk]:=rv.get (i:=-l) (d:=y) #[_];let hl:-vs=-l+1:=by rw[<- -rv];simp
 let rl:a9 X.K ρ H l vs.dropLast:=by
  have:=rv.erase (-l);rw[List.eraseIdx_append_of_length_le (ak _)] at this;rw[show vs.eraseIdx (-l)=vs.dropLast by rw[List.eraseIdx_eq_dropLast];omega] at this;simpa using this
 let#[R2,e2]:=R.write ha ra rl;show Yy pi s σ H _ _ v us Q I rx r #[_,vs,w,rfl,rfl,z1,by rw[hl];show hw,q ρ _ _ e2 R2 (fk.ext e2)]
def d0.Jg{K ρ H}:∀ks:@&Int,d0 K ρ H (ks.map λk=>((.inl k:Key),D.bl true)) (ks.map λk=>((.inl k:Key),V.bl true))
 |[]=>.nil
 |_::ks=>.cons (.bl true) (d0.Jg ks)
def Kj{K ρ H}:∀{ks:@&Int} {vs:@&V},a9 K ρ H (ks.map λk=>.tup [.int k,.bl true]) vs->∃ts:@&Addr,vs=ts.map V.ref/\-ts=-ks/\∀(i:Nat) t k,ts[i]?=!t->ks[i]?=!k->gm K H t [.int k,.bl true]
 |[],_,h=>by cases h;simp
 |k::ks,_,h=>by
  cases h with
  |cons r rs =>
  let#[ts,rfl,hl,ht]:=Kj rs;let#[a,vs,rfl,h1,h2]:=r.A1;show#[a::ts,rfl,by simp[hl],λi t k' e1 e2=>?_];cases i with
  |zero =>
   cases e1;cases e2;cases h2 with
   |cons r1 r2 =>
   cases r2 with
   |cons r2 r3 =>
   cases r3;cases r1;cases r2;show h1.sq
  |succ i=>show ht i t k' e1 e2
def Ui(hc:X.calm=true):j7 X (.type "dict") (rN X.K .kq):=by
 intro pi s σ H xs us Q I r h;obtain⟨ds,g,ρ,R,rs,d',g',⟨a,kvs,rfl,ha,rfl,rfl⟩|⟨a,ks,rfl,ha,hz,nd,rfl,rfl⟩,q⟩:=h
 .let#[v,rfl,rv]:=rs.one;let#[a',rfl,ra]:=rv.i0;let#[vs,z1,rk]:=R.bZ ha ra;cases r with
  |cons r rr =>
  cases rr;cases r;show Uh I (.inl z1) λp s' hp I'=>#[.ref p,_,I',rfl,?_]
  show q (ρ++[p]) _ _ (C5 hp) (R.new hp rk) (.ref (R.u7 p))
 .let#[v,rfl,rv]:=rs.one;let#[a',rfl,ra]:=rv.i0;let#[vs,z1,rk]:=R.items ha ra;let#[ts,rfl,hl,ht]:=Kj rk;show as7 hc pi s σ H _ us Q I r #[a',ts,ks,rfl,z1,hl,ht,by omega,nd,λp hp=>?_];show q (ρ++[p]) _ _ (C5 hp) (R.new hp (d0.Jg ks)) (.ref (R.u7 p))
def a9.strs{K ρ H}{ys:@&Str}(h:a9 K ρ H (ys.map D.str) vs):vs=ys.map V.str:=by
 induction ys generalizing vs with
 |nil=>cases h;rfl
 |cons y ys ih =>
  cases h with
  |cons q r=>cases q;rw[ih r];rfl
def RU:kU X "str.join" (rM X.K .join):=by
 intro pi s σ H x xs v us Q I rx r h;let#[d,ds,g,ρ,R,rd,rs,d',g',#[sep,a,ys,ex,ha,hz,rfl,rfl],q]:=h;let#[rfl,rfl]:=X4 ex;obtain rfl:=rd.o8;let#[w,rfl,fk]:=rs.one;let#[a',rfl,ra]:=fk.i0;let#[vs,hq,rv]:=R.items ha ra;obtain rfl:=rv.strs;show Sb pi s σ H _ _ v us Q I rx r #[sep,a',ys,rfl,rfl,hq,i4 hz,q.now R (.str _)]
def a9.ofStrs{K ρ H}:∀ys:@&Str,a9 K ρ H (ys.map D.str) (ys.map V.str)
 |[]=>.nil
 |y::ys=>.cons (.str _) (a9.ofStrs ys)
def Vv:kU X "str.split" (rM X.K .split):=by
 intro pi s σ H x xs v us Q I rx r h;let#[d,ds,g,ρ,R,rd,rs,d',g',#[a,b,ex,hb,ha,hz,rfl,rfl],q]:=h;let#[rfl,rfl]:=X4 ex;obtain rfl:=rd.o8;let#[w,rfl,fk]:=rs.one;obtain rfl:=fk.o8;show UI pi s σ H _ _ v us Q I rx r #[a,b,rfl,rfl,hb,i4 ha,i4 hz,λp hp=>?_];show q (ρ++[p]) _ _ (C5 hp) (R.new hp (o:=.lst ((Txt.split a b).map .str)) (u:=.lst ((Txt.split a b).map V.str)) (a9.ofStrs _)) (.ref (R.u7 p))
def ty_str(R:Rl X.K ρ g H)(r:c8 X.K ρ H d v)(h:∃y,d=.str y):oR X.K "str" v H:=by
 let#[y,rfl]:=h;obtain rfl:=r.o8;show rfl
def ty_list(R:Rl X.K ρ g H)(r:c8 X.K ρ H d v)(h:∃a l,d=.ref a/\c7 g a=!l):oR X.K "list" v H:=by
 let#[a,l,rfl,hl]:=h;let#[a',rfl,ra]:=r.i0;let#[vs,hq,_]:=R.items hl ra;show .inl #[rfl,vs,hq]
noncomputable abbrev gW:=@&Str×XK
abbrev LX(K:PySem.W.Frag)(ρ:@&Addr)(H:Hp)(Ξ:gW):KX:=λx g'=>∀bA H' C,Ext ρ H bA H'->Rl K bA g' H'->x.cls∈Ξ.1->l7 K x.cls C->Ξ.2 (.ref C) none H'
def LX.ext{K:PySem.W.Frag}{bG:@&Addr}{H1:Hp}{Ξ:gW}(e:Ext ρ H bG H1){x:Xn}(h:LX K ρ H Ξ x g):LX K bG H1 Ξ x g:=λbA H' C e' R hm c=>h bA H' C (e.trans e') R hm c
noncomputable abbrev oE(ex:@&Str):gW:=(ex,λx x x=>False)
def LE(K:PySem.W.Frag)(Ξ:gW)(t:S->G->KD->KX->Prop):TE:=λbE H Q=>∃σ g ρ,o7 K ρ H σ bE/\Rl K ρ g H/\t σ g (LQ K ρ H Q) (LX K ρ H Ξ)
def LT(K:PySem.W.Frag)(Ξ:gW)(t:S->G->(Bool->G->Prop)->KX->Prop):TT:=λbE H Q=>∃σ g ρ,o7 K ρ H σ bE/\Rl K ρ g H/\t σ g (λb g'=>∀bA H',Ext ρ H bA H'->Rl K bA g' H'->Q b H') (LX K ρ H Ξ)
def LA(K:PySem.W.Frag)(Ξ:gW)(t:S->G->(List D->G->Prop)->KX->Prop):TA:=λbE H Q=>∃σ g ρ,o7 K ρ H σ bE/\Rl K ρ g H/\t σ g (λds g'=>∀bA H' vs,Ext ρ H bA H'->Rl K bA g' H'->a9 K bA H' ds vs->Q vs H') (LX K ρ H Ξ)
def pR(K:PySem.W.Frag)(fM:@&Addr)(H0:Hp)(k:IK)(J:It):Prop:=∀ρ g H,Ext fM H0 ρ H->Rl K ρ g H->∀i,(k.at i g=!none->J.stop i H) /\
 ∀d,k.at i g=!!d->J.go i H/\∀v H',J.tI i H v H'->Ext ρ H ρ H'/\Rl K ρ g H'/\c8 K ρ H' d v
def LI(K:PySem.W.Frag)(Ξ:gW)(t:S->G->(IK->G->Prop)->KX->Prop):TI:=λbE H R=>∃σ g ρ,o7 K ρ H σ bE/\Rl K ρ g H/\t σ g (λk g'=>∀bA H' J,Ext ρ H bA H'->Rl K bA g' H'->pR K bA H' k J->R J H') (LX K ρ H Ξ)
def LG(K:PySem.W.Frag)(t:MT):TG:=λv bE H Q=>∃d σ g ρ,o7 K ρ H σ bE/\Rl K ρ g H/\c8 K ρ H d v/\kX t d σ (λcv=>∀dI,o7 K ρ H cv dI->Q dI H)
abbrev LN(K:PySem.W.Frag)(ρ:@&Addr)(H:Hp)(N:L2.Ends):Ends where
 nx:=λcv g'=>∀bA H' dI,Ext ρ H bA H'->Rl K bA g' H'->o7 K bA H' cv dI->N.nx dI H'
 rt:=LQ K ρ H N.rt
 bk:=λcv g'=>∀bA H' dI,Ext ρ H bA H'->Rl K bA g' H'->o7 K bA H' cv dI->N.bk dI H'
 ct:=λcv g'=>∀bA H' dI,Ext ρ H bA H'->Rl K bA g' H'->o7 K bA H' cv dI->N.ct dI H'
def LS(K:PySem.W.Frag)(Ξ:gW)(t:Ends->S->G->KX->Prop):TS:=λN bE H=>∃σ g ρ,o7 K ρ H σ bE/\Rl K ρ g H/\t (LN K ρ H N) σ g (LX K ρ H Ξ)
end M
namespace L2
open PySem PySem.Spec PyProof.Rows
variable{t t':TT}
section
variable{X:Cx}{e:Expr}
def PE.imp{t t':TE}(h:PE X e t)(i:∀σ H Q,t' σ H Q->t σ H Q):PE X e t':=λpi s σ H Q I q=>h pi s σ H Q I (i σ H Q q)
def PT.imp(h:PT X e t)(i:∀σ H Q,t' σ H Q->t σ H Q):PT X e t':=λpi s σ H Q I q=>h pi s σ H Q I (i σ H Q q)
def PW.imp(h:PW X e t)(i:∀σ H Q,t' σ H Q->t σ H Q):PW X e t':=λw pi s σ H Q I q=>h w pi s σ H Q I (i σ H Q q)
def PA.imp{es:@&Expr}{t t':TA}(h:PA X es t)(i:∀σ H Q,t' σ H Q->t σ H Q):PA X es t':=λp pi s σ H Q I q=>h p pi s σ H Q I (i σ H Q q)
def mq.imp{es:@&Expr}(h:mq X es t)(i:∀σ H Q,t' σ H Q->t σ H Q):mq X es t':=λpi s σ H Q I q=>h pi s σ H Q I (i σ H Q q)
def PI.imp{tg:Expr}{t t':TI}(h:PI X tg e t)(i:∀σ H Q,t' σ H Q->t σ H Q):PI X tg e t':=λpi s σ H Q I q=>h pi s σ H Q I (i σ H Q q)
def PG.imp{t t':TG}(h:PG X e t)(i:∀v σ H Q,t' v σ H Q->t v σ H Q):PG X e t':=λpi s σ H v u Q I r q=>h pi s σ H v u Q I r (i v σ H Q q)
def PS.imp{st:Stmt}{t t':TS}(h:PS X st t)(i:∀N σ H,t' N σ H->t N σ H):PS X st t':=λpi s σ H N I q=>h pi s σ H N I (i N σ H q)
def jt.imp{st:@&Stmt}{t t':TS}(h:jt X st t)(i:∀N σ H,t' N σ H->t N σ H):jt X st t':=λpi s σ H N I q=>h pi s σ H N I (i N σ H q)
end
end L2
namespace M
open PySem L2 PySem.Spec PyProof.Rows
variable{Ξ:gW}{P:fb}{op ip:CmpOp}{rest es:@&Expr}{gJ mo:ME}{p2 q apos jC:Pos}{x:Str}{o:Expr}
section
variable{K:PySem.W.Frag}(hP:i3 P){ρ fM:@&Addr}{H H0:Hp}{σ:S}{bE:L2.St}{g:G}{m:ME}
include hP
def eT{Q0:KD}{Q:VK}(s:o7 K ρ H σ bE)(R:Rl K ρ g H)(e0:Ext fM H0 ρ H)(h:aV P m σ g Q0 (LX K fM H0 Ξ))(k:∀x g1 bG H1 v1,Ext ρ H bG H1->Rl K bG g1 H1->c8 K bG H1 x v1->Q0 x g1->Q v1 H1):LE K Ξ (aV P m) bE H Q :=
 #[σ,g,ρ,s,R,b0 hP m _ _ _ _ _ _ (λx g1 h bG H1 v1 e1 R1 r1=>k x g1 bG H1 v1 e1 R1 r1 h) (λy y z=>LX.ext e0 z) h]
def jM{Q0:@&D->G->Prop}{Q:@&V->Hp->Prop}(s:o7 K ρ H σ bE)(R:Rl K ρ g H)(e0:Ext fM H0 ρ H)(h:fj P m σ g Q0 (LX K fM H0 Ξ))(k:∀x g1 bG H1 v1,Ext ρ H bG H1->Rl K bG g1 H1->a9 K bG H1 x v1->Q0 x g1->Q v1 H1):LA K Ξ (fj P m) bE H Q :=
 #[σ,g,ρ,s,R,y4 hP m _ _ _ _ _ _ (λx g1 h bG H1 v1 e1 R1 r1=>k x g1 bG H1 v1 e1 R1 r1 h) (λy y z=>LX.ext e0 z) h]
def rm{Q0:Bool->G->Prop}{Q:Bool->Hp->Prop}(s:o7 K ρ H σ bE)(R:Rl K ρ g H)(e0:Ext fM H0 ρ H)(h:dM P m σ g Q0 (LX K fM H0 Ξ))(k:∀t g1 bG H1,Ext ρ H bG H1->Rl K bG g1 H1->Q0 t g1->Q t H1):LT K Ξ (dM P m) bE H Q :=
 #[σ,g,ρ,s,R,t9 hP m _ _ _ _ _ _ (λt g1 h bG H1 e1 R1=>k t g1 bG H1 e1 R1 h) (λx x z=>LX.ext e0 z) h]
def vp{ms:MS}{N:L2.Ends}{N0:Ends}(s:o7 K ρ H σ bE)(R:Rl K ρ g H)(e0:Ext fM H0 ρ H)(h:wpS P ms N0 σ g (LX K fM H0 Ξ))(k:N0.le (LN K ρ H N)):LS K Ξ (wpS P ms) N bE H :=
 #[σ,g,ρ,s,R,wpS_mono hP ms _ _ _ _ _ _ k (λx x z=>LX.ext e0 z) h]
end
def a9.my{K ρ H}(lo:Int)(n:Nat):a9 K ρ H (l0 lo n) ((List.range n).map λ(k:Nat)=>V.int (lo+k)):=by
 have:∀l:@&Nat,a9 K ρ H (l.map λ(k:Nat)=>D.int (lo+k)) (l.map λ(k:Nat)=>V.int (lo+k)):=by
  intro l
  induction l with
  |nil=>show .nil
  |cons x r ih=>show .cons (.int _) ih
 show this _
section
variable{X:Cx}(hP:i3 P){a b c e:Expr}{ma mb mc:ME}{pos:Pos}{p:Pr}
include hP
def FN(h:PE X e (tK (r2 X.K p) (LE X.K Ξ (aV P ma)) (LE X.K Ξ (aV P mb)))):PE X e (LE X.K Ξ (aV P (.prim p (.cons ma (.cons mb .nil))))) :=
 h.imp λbE H Q bf=>by
  let#[σ,g,ρ,s,R,h]:=bf;show eT hP s R (.refl _ _) h λx g1 bG H1 v1 e1 R1 r1 h=>eT hP (s.ext e1) R1 e1 h λy g2 eV H2 v2 e2 R2 r2 h =>
   #[x,y,g2,eV,R2,r1.ext e2,r2,p9 (λd g' h=>h.ext (e1.trans e2)) h]
def ZR(h:PT X e (Fl (tK (r2 X.K (.cmp op)) (LE X.K Ξ (aV P ma)) (LE X.K Ξ (aV P mb))))):PT X e (LT X.K Ξ (dM P (.eG (.prim (.cmp op) (.cons ma (.cons mb .nil)))))) :=
 h.imp λbE H Q bf=>by
  let#[σ,g,ρ,s,R,h]:=bf;show eT hP s R (.refl _ _) h λx g1 bG H1 v1 e1 R1 r1 h=>eT hP (s.ext e1) R1 e1 h λy g2 eV H2 v2 e2 R2 r2 h=>?_;let#[d',g',h,q]:=h;let#[x',y',t,ex,hc,rfl,rfl]:=id h;show#[x,y,g',eV,R2,r1.ext e2,r2,_,_,h,λbA H' v e' R' r'=>?_];let#[t',ht,q]:=q;rcases ht with⟨z,_⟩|z|⟨i,z,_⟩|⟨l,z,_⟩|⟨a,l,z,_⟩<;>cases z
  show#[_,r'.P4,q bA H' (e1.trans (e2.trans e')) R']
def Xs{op:UnaryOp}(ha:PE X a (LE X.K Ξ (aV P ma))):PE X (.UnaryOp op a pos) (LE X.K Ξ (aV P (.prim (.un op) (.cons ma .nil)))) :=
 (Xf (WZ op) ha).imp λbE H Q bf=>by
  let#[σ,g,ρ,s,R,h]:=bf;show eT hP s R (.refl _ _) h λx g1 bG H1 v1 e1 R1 r1 h=>#[x,g1,bG,R1,r1,p9 (λd g' h=>h.ext e1) h]
def ML:∀bE H Q,LE X.K Ξ (aV P (.chain op ip ma mb mc)) bE H Q->FP (r2 X.K (.cmp op)) (r2 X.K (.cmp ip)) (LE X.K Ξ (aV P ma)) (LE X.K Ξ (aV P mb)) (LE X.K Ξ (aV P mc)) bE H Q:=λbE H Q bf=>by
 let#[σ,g,ρ,s,R,h]:=bf;show eT hP s R (.refl _ _) h λx g1 bG H1 v1 e1 R1 r1 h=>eT hP (s.ext e1) R1 e1 h λy g2 eV H2 v2 e2 R2 r2 h=>?_;show#[x,y,g2,eV,R2,r1.ext e2,r2,p9 (λd g3 h jV H3 v3 e3 R3 r3=>?_) h];let#[t,rfl,h]:=h;obtain rfl:=r3.P4;show#[t,rfl,?_];cases t
 .exact h jV H3 _ (e1.trans (e2.trans e3)) R3 (.bl _)
 .exact eT hP (s.ext (e1.trans (e2.trans e3))) R3 (e1.trans (e2.trans e3)) h λz g4 lK H4 v4 e4 R4 r4 h =>
   #[y,z,g4,lK,R4,r2.ext (e3.trans e4),r4,p9 (λd g' h=>h.ext (e1.trans (e2.trans (e3.trans e4)))) h]
def Vj(hu:X.A.units+100<cLine)(ha:PE X a (LE X.K Ξ (aV P ma)))(hb:PE X b (LE X.K Ξ (aV P mb)))(hc:PE X c (LE X.K Ξ (aV P mc)))(hm:lastMarks [op,ip] [b,c]=false) :
  PE X (.Compare a [op,ip] [b,c] pos) (LE X.K Ξ (aV P (.chain op ip ma mb mc))):=(UQ (uW hu op) (uW hu ip) ha hb hc hm).imp (ML hP)
def TY{σ:S}{g:G}{Q:Bool->G->Prop}{E:KX}(h:dM P (.eG (.chain op ip ma mb mc)) σ g Q E):aV P (.chain op ip ma mb mc) σ g (λd g'=>∃t,d=.bl t/\Q t g') E:=by
 let one:∀{o:CmpOp} {xs:@&D} {g:G},cw (.cmp o) xs g (λd g1=>qN g1 d λb=>Q b g1)->cw (.cmp o) xs g λd g'=>∃t,d=.bl t/\Q t g':=by
  intro o xs g h;let#[d',g',h,t',ht,q]:=h;let#[x',y',t,ex,hc,rfl,rfl]:=id h;show#[_,_,h,t',?_,q];rcases ht with⟨z,_⟩|z|⟨i,z,_⟩|⟨l,z,_⟩|⟨a,l,z,_⟩<;>first|show z|cases z
 show b0 hP ma _ _ _ _ _ _ (λx g1 h=>b0 hP mb _ _ _ _ _ _ (λy g2 h=>p9 (λz g3 h=>?_) h) (λv v z=>z) h) (λv v z=>z) h;let#[t,rfl,h]:=h;show#[t,rfl,?_];cases t
 .let#[b,hb,q]:=(show qN g3 (.bl false) λb=>Q b g3 from h)
  rcases hb with⟨z,_⟩|z|⟨i,z,_⟩|⟨l,z,_⟩|⟨a,l,z,_⟩<;>first|(cases z;show#[_,rfl,q])|cases z
 .exact b0 hP mc _ _ _ _ _ _ (λw g4 h=>one h) (λv v z=>z) h
def Vw(hu:X.A.units+100<cLine)(ha:PE X a (LE X.K Ξ (aV P ma)))(hb:PE X b (LE X.K Ξ (aV P mb)))(hc:PE X c (LE X.K Ξ (aV P mc)))(hm:lastMarks [op,ip] [b,c]=false) :
  PT X (.Compare a [op,ip] [b,c] pos) (LT X.K Ξ (dM P (.eG (.chain op ip ma mb mc)))) :=
 (Vc (uW hu op) (uW hu ip) ha hb hc hm).imp λbE H Q ⟨σ,g,ρ,s,R,h⟩ =>
  ML hP bE H _ (eT hP s R (.refl _ _) (TY hP h) λx g1 bG H1 v1 e1 R1 r1 h=>by
   let#[t,rfl,h]:=h;show #[t,r1.P4,h bG H1 e1 R1])
def Zu(ha:PE X a (LE X.K Ξ (aV P ma)))(hb:PE X (.BoolOp .And (b::rest) pos) (LE X.K Ξ (aV P mb))):PE X (.BoolOp .And (a::b::rest) pos) (LE X.K Ξ (aV P (.eO ma mb))) :=
 (YT ha hb).imp λbE H Q bf=>by
  let#[σ,g,ρ,s,R,h]:=bf;show eT hP s R (.refl _ _) h λx g1 bG H1 v1 e1 R1 r1 h=>?_;let#[t,rfl,h]:=h;show#[t,r1.P4,?_];cases t
  .exact h bG H1 _ e1 R1 (.bl _)
  .exact eT hP (s.ext e1) R1 e1 h λy g2 eV H2 v2 e2 R2 r2 h=>h eV H2 v2 (e1.trans e2) R2 r2
def Xr(ha:PE X a (LE X.K Ξ (aV P ma)))(hb:PE X (.BoolOp .Or (b::rest) pos) (LE X.K Ξ (aV P mb))):PE X (.BoolOp .Or (a::b::rest) pos) (LE X.K Ξ (aV P (.gI ma mb))) :=
 (Xe ha hb).imp λbE H Q bf=>by
  let#[σ,g,ρ,s,R,h]:=bf;show eT hP s R (.refl _ _) h λx g1 bG H1 v1 e1 R1 r1 h=>?_;let#[t,rfl,h]:=h;show#[t,r1.P4,?_];cases t
  .exact eT hP (s.ext e1) R1 e1 h λy g2 eV H2 v2 e2 R2 r2 h=>h eV H2 v2 (e1.trans e2) R2 r2
  .exact h bG H1 _ e1 R1 (.bl _)
def ZC(ha:PE X a (LE X.K Ξ (aV P ma))):PE X (.UnaryOp .Not a pos) (LE X.K Ξ (aV P (.cL ma))) :=
 (YZ ha).imp λbE H Q bf=>by
  let#[σ,g,ρ,s,R,h]:=bf;show eT hP s R (.refl _ _) h λx g1 bG H1 v1 e1 R1 r1 h=>?_;let#[t,rfl,h]:=h;show#[t,r1.P4,h bG H1 _ e1 R1 (.bl _)]
def ZA(hc:PT X c (LT X.K Ξ (dM P mc)))(ha:PE X a (LE X.K Ξ (aV P ma)))(hb:PE X b (LE X.K Ξ (aV P mb))):PE X (.IfExp c a b pos) (LE X.K Ξ (aV P (.ite mc ma mb))) :=
 (US hc ha hb).imp λbE H Q bf=>by
  let#[σ,g,ρ,s,R,h]:=bf;show rm hP s R (.refl _ _) h λt g1 bG H1 e1 R1 h=>?_;cases t
  .exact eT hP (s.ext e1) R1 e1 h λy g2 eV H2 v2 e2 R2 r2 h=>h eV H2 v2 (e1.trans e2) R2 r2
  .exact eT hP (s.ext e1) R1 e1 h λy g2 eV H2 v2 e2 R2 r2 h=>h eV H2 v2 (e1.trans e2) R2 r2
def ZE{k:Nat}(h:PA X es (LA X.K Ξ (fj P gJ))):PE X (.Tuple es k pos) (LE X.K Ξ (aV P (.prim .tup gJ))) :=
 (Za h).imp λbE H Q bf=>by
  let#[σ,g,ρ,s,R,h]:=bf;show jM hP s R (.refl _ _) h λds g1 bG H1 vs e1 R1 r1 h=>?_;let#[d',g',#[hz,rfl,rfl],q]:=h;show#[by rw[<- -r1];show i4 (aF hz ∅),λp hp=>(q.ext e1).tup R1 hp r1]
def Oa(h:PA X es (LA X.K Ξ (fj P gJ))):PE X (.List es pos) (LE X.K Ξ (aV P (.prim .lst gJ))) :=
 (YX h).imp λbE H Q bf=>by
  let#[σ,g,ρ,s,R,h]:=bf;show jM hP s R (.refl _ _) h λds g1 bG H1 vs e1 R1 r1 h=>?_;let#[d',g',#[hz,rfl,rfl],q]:=h;show#[by rw[<- -r1];show i4 (aF hz ∅),λp hp=>(q.ext e1).new R1 hp r1]
def O4:PA X [] (LA X.K Ξ (fj P .nil)) :=
 (O5).imp λbE H Q bf=>by
  let#[σ,g,ρ,s,R,h]:=bf;show h ρ H [] (.refl _ _) R .nil
def A9(ha:PE X a (LE X.K Ξ (aV P ma)))(h:PA X es (LA X.K Ξ (fj P gJ)))(hs:starEach (a::es) X.env=(false,eval a X.env)::starEach es X.env):PA X (a::es) (LA X.K Ξ (fj P (.cons ma gJ))) :=
 (E6 ha h hs).imp λbE H Q bf=>by
  let#[σ,g,ρ,s,R,h]:=bf;show eT hP s R (.refl _ _) h λx g1 bG H1 v1 e1 R1 r1 h=>jM hP (s.ext e1) R1 e1 h λxs g2 eV H2 vs e2 R2 r2 h=>h eV H2 _ (e1.trans e2) R2 (.cons (r1.ext e2) r2)
def Vr(ha:PE X a (LE X.K Ξ (aV P ma)))(hb:PE X b (LE X.K Ξ (aV P mb))):PE X (.Subscript a (.Slice (!b) none none p2) pos) (LE X.K Ξ (aV P (.prim (.kY true false) (.cons ma (.cons mb .nil))))) :=
 (Ni Ja ha (Mp hb) Mo).imp λbE H Q bf=>by
  let#[σ,g,ρ,s,R,h]:=bf;show eT hP s R (.refl _ _) h λx g1 bG H1 v1 e1 R1 r1 h=>eT hP (s.ext e1) R1 e1 h λy g2 eV H2 v2 e2 R2 r2 h=>?_;let#[d',g',#[x',i,ex,h],q]:=h;cases ex;show#[i,r2.f9,x,g2,eV,d',g',R2,r1.ext e2,h,q.ext (e1.trans e2)]
def Vq(ha:PE X a (LE X.K Ξ (aV P ma)))(hb:PE X b (LE X.K Ξ (aV P mb))):PE X (.Subscript a (.Slice none (!b) none p2) pos) (LE X.K Ξ (aV P (.prim (.kY false true) (.cons ma (.cons mb .nil))))) :=
 (Ni Ja ha Mo (Mp hb)).imp λbE H Q bf=>by
  let#[σ,g,ρ,s,R,h]:=bf;show eT hP s R (.refl _ _) h λx g1 bG H1 v1 e1 R1 r1 h=>eT hP (s.ext e1) R1 e1 h λy g2 eV H2 v2 e2 R2 r2 h=>?_;let#[d',g',#[x',i,ex,h],q]:=h;cases ex;show#[i,r2.f9,x,g2,eV,d',g',R2,r1.ext e2,h,q.ext (e1.trans e2)]
def ZS(ha:PE X a (LE X.K Ξ (aV P ma)))(he:∀whole,isTrue a X.env whole=(do let v <- whole;standAt a.pos;holding [v] (truthy v))):PT X a (LT X.K Ξ (dM P (.eG ma))) :=
 (Vd ha he).imp λbE H Q bf=>by
  let#[σ,g,ρ,s,R,h]:=bf;show eT hP s R (.refl _ _) h λx g1 bG H1 v1 e1 R1 r1 h=>?_;let#[b,h1,h2]:=h;show#[b,bC5 R1 r1 h1,h2 bG H1 e1 R1]
def ZQ(ha:PT X a (LT X.K Ξ (dM P ma))):PT X (.UnaryOp .Not a pos) (LT X.K Ξ (dM P (.cL ma))) :=
 (Zl ha).imp λbE H Q bf=>by
  let#[σ,g,ρ,s,R,h]:=bf;show rm hP s R (.refl _ _) h λt g1 bG H1 e1 R1 h=>h bG H1 e1 R1
def ZU(ha:PT X a (LT X.K Ξ (dM P ma)))(hb:PW X (.BoolOp .And (b::rest) pos) (LT X.K Ξ (dM P mb))):PW X (.BoolOp .And (a::b::rest) pos) (LT X.K Ξ (dM P (.eO ma mb))) :=
 (Zm ha hb).imp λbE H Q bf=>by
  let#[σ,g,ρ,s,R,h]:=bf;show rm hP s R (.refl _ _) h λt g1 bG H1 e1 R1 h=>?_;cases t
  .exact h bG H1 e1 R1
  .exact rm hP (s.ext e1) R1 e1 h λt g2 eV H2 e2 R2 h=>h eV H2 (e1.trans e2) R2
def Xw(ha:PT X a (LT X.K Ξ (dM P ma)))(hb:PW X (.BoolOp .Or (b::rest) pos) (LT X.K Ξ (dM P mb))):PW X (.BoolOp .Or (a::b::rest) pos) (LT X.K Ξ (dM P (.gI ma mb))) :=
 (Xi ha hb).imp λbE H Q bf=>by
  let#[σ,g,ρ,s,R,h]:=bf;show rm hP s R (.refl _ _) h λt g1 bG H1 e1 R1 h=>?_;cases t
  .exact rm hP (s.ext e1) R1 e1 h λt g2 eV H2 e2 R2 h=>h eV H2 (e1.trans e2) R2
  .exact h bG H1 e1 R1
def To:mq X [] (LT X.K Ξ (dM P .no)) :=
 (SK).imp λbE H Q bf=>by
  let#[σ,g,ρ,s,R,h]:=bf;show h ρ H (.refl _ _) R
def Zv{v:Value}(hv:(∃id,v=.builtin id)\/∃T,v=.type T)(hc:j7 X v (rN X.K p))(hg:Gl X x)(hm:X.mg x=none)(hb:bootBuiltins x=!v)(ha:PA X (e::es) (LA X.K Ξ (fj P gJ)))(hn:x≠"__name__")(hd:(x==("__debug__":Str))=false)(eR:starEach (e::es) X.env=(false,eval e X.env)::starEach es X.env)(gi:(backTo pos (starEach es X.env)).any (·.1)=false):PE X (.Call (.Name x q) (e::es) [] pos) (LE X.K Ξ (aV P (.prim p gJ))):=by
 let base:PE X (.Call (.Name x q) (e::es) [] pos) (Bi (rN X.K p) (LA X.K Ξ (fj P gJ))):=by
  rcases hv with⟨id,rfl⟩|⟨T,rfl⟩
  .exact W5 hc hg hm hb ha hn hd eR gi
  .exact F0 hc hg hm hb ha hn hd eR gi
 show base.imp λbE H Q bf=>?_;let#[σ,g,ρ,s,R,h]:=bf;show jM hP s R (.refl _ _) h λxs g1 bG H1 vs e1 R1 r1 h=>#[xs,g1,bG,R1,r1,p9 (λd g' h=>h.ext e1) h]
def Tb{T:String}{name:Str}{id:String}(pa:PlainAttrs T)(slot:Slot T name id)(rS:typeOf (.builtin id)=pure (.type "method_descriptor"))(hm:kU X id (rM X.K p))(hk:∀{d:D} {v:V} {g:G} {ρ:@&Addr} {H:Hp},Rl X.K ρ g H->c8 X.K ρ H d v->mF p d g->oR X.K T v H)(ho:PE X o (LE X.K Ξ (aV P mo)))(ha:PA X (e::es) (LA X.K Ξ (fj P gJ)))(fQ:attributeBase o name X.env (eval o X.env)=eval o X.env)(kR:((backTo pos (starEach (e::es) X.env)).all (λx=>~~~x.1)&&(backToKw pos (keywordEach [] X.env)).all (λx=>x.1.isSome)&&decide ((e::es).length+([]:@&Keyword).length+(if([]:@&Keyword).isEmpty then 0 else 1)<30))=true)(fP:(apos.endLine==pos.line)=true)(hs:starEach (e::es) X.env=(false,eval e X.env)::starEach es X.env)(eN:(backTo pos (starEach es X.env)).any (·.1)=false) :
  PE X (.Call (.Attribute o name apos) (e::es) [] pos) (LE X.K Ξ (aV P (.dk p mo gJ))) :=
 (Xc pa slot rS hm ho ha fQ kR fP hs eN).imp λbE H Q bf=>by
  let#[σ,g,ρ,s,R,h]:=bf;show eT hP s R (.refl _ _) h λx g1 bG H1 v1 e1 R1 r1 h=>#[hk R1 r1 h.1,jM hP (s.ext e1) R1 e1 h.2 λxs g2 eV H2 ws e2 R2 r2 h =>
   #[x,xs,g2,eV,R2,r1.ext e2,r2,p9 (λd g' h=>h.ext (e1.trans e2)) h]]
def Vo{T:String}{name:Str}{id:String}(pa:PlainAttrs T)(slot:Slot T name id)(rS:typeOf (.builtin id)=pure (.type "method_descriptor"))(hm:kU X id (rM X.K p))(hk:∀{d:D} {v:V} {g:G} {ρ:@&Addr} {H:Hp},Rl X.K ρ g H->c8 X.K ρ H d v->mF p d g->oR X.K T v H)(ho:PE X o (LE X.K Ξ (aV P mo)))(fQ:attributeBase o name X.env (eval o X.env)=eval o X.env)(fP:(apos.endLine==pos.line)=true) :
  PE X (.Call (.Attribute o name apos) [] [] pos) (LE X.K Ξ (aV P (.dk p mo .nil))) :=
 (YU pa slot rS hm ho fQ fP).imp λbE H Q bf=>by
  let#[σ,g,ρ,s,R,h]:=bf;show eT hP s R (.refl _ _) h λx g1 bG H1 v1 e1 R1 r1 h=>#[hk R1 r1 h.1,x,[],g1,bG,R1,r1,.nil,p9 (λd g' h=>h.ext e1) h.2]
omit hP in
def MR{K ρ H}{d:D}{v:V}(r:c8 K ρ H d v)(h:uH d=true):v=toV d/\P2 v=true:=by
 cases r with
 |aO=>show#[rfl,rfl]
 |bl _=>show#[rfl,rfl]
 |int _=>show#[rfl,rfl]
 |str _=>show#[rfl,rfl]
 |ty _=>show absurd h bo
 |ref _=>show absurd h bo
 |tup _ _=>show absurd h bo
omit hP in
def a84{K ρ H}{l:@&D}{vs:@&V}(r:a9 K ρ H l vs)(h:l.all uH=true):vs=l.map toV/\vs.all P2=true:=by
 induction l generalizing vs with
 |nil=>cases r;show#[rfl,rfl]
 |cons d l ih =>
  cases r with
  |cons rd rs =>
   rw[jJ,br] at h;let#[e1,f1]:=MR rd h.1;let#[e2,f2]:=ih rs h.2;subst e1 e2;show#[rfl,by rw[jJ,f1,f2];rfl]
omit hP in
def JY{K ρ H}{l:@&D}{vs:@&V}{y:D}{w:V}{n:Nat}(r:a9 K ρ H l vs)(ry:c8 K ρ H y w)(h:S9 l y n):zV vs w n:=by
 let#[h1,h2,#[z,h3,h4],h5]:=h;let#[e1,f1]:=a84 r h1;let#[e2,f2]:=MR ry h2;subst e1 e2;show#[f1,f2,#[toV z,by rw[aG,h3];rfl,h4],λm z' hm hz=>?_];rw[aG,ae] at hz;let#[OE,hz,rfl]:=hz;show h5 m OE hm hz
def Vk(hu:X.A.units+100<cLine)(ho:PE X o (LE X.K Ξ (aV P mo)))(ha:PA X (e::es) (LA X.K Ξ (fj P gJ)))(fQ:attributeBase o "index" X.env (eval o X.env)=eval o X.env)(kR:((backTo pos (starEach (e::es) X.env)).all (λx=>~~~x.1)&&(backToKw pos (keywordEach [] X.env)).all (λx=>x.1.isSome)&&decide ((e::es).length+([]:@&Keyword).length+(if([]:@&Keyword).isEmpty then 0 else 1)<30))=true)(fP:(apos.endLine==pos.line)=true)(hs:starEach (e::es) X.env=(false,eval e X.env)::starEach es X.env)(eN:(backTo pos (starEach es X.env)).any (·.1)=false) :
  PE X (.Call (.Attribute o "index" apos) (e::es) [] pos) (LE X.K Ξ (aV P (.dk .index mo gJ))) :=
 (UT hu ho ha fQ kR fP hs eN).imp λbE H Q bf=>by
  let#[σ,g,ρ,s,R,h]:=bf;show eT hP s R (.refl _ _) h λx g1 bG H1 v1 e1 R1 r1 h=>?_;let#[hk,h]:=h;rcases hk with⟨l,rfl⟩|⟨a,l,rfl,hl⟩
  .let#[a',vs,rfl,ta,rs]:=r1.A1;show .inr #[a',vs,rfl,ta.d,jM hP (s.ext e1) R1 e1 h λxs g2 eV H2 ws e2 R2 r2 h=>?_];let#[d',g',#[x,y,l',n,ex,hi,W,hz,rfl,rfl],q]:=h;cases ex;cases hi;let#[w,rfl,fk]:=r2.one;show#[a',vs,w,n,rfl,rfl,(ta.ext e2).sq,JY (rs.ext e2) fk W,(q.ext (e1.trans e2)).now R2 (.int n)]
  .let#[a',rfl,ra]:=r1.i0;let#[vs,hq,_]:=R1.items hl ra;show .inl #[a',vs,rfl,hq,jM hP (s.ext e1) R1 e1 h λxs g2 eV H2 ws e2 R2 r2 h=>?_];let#[d',g',#[x,y,l',n,ex,hi,W,hz,rfl,rfl],q]:=h;cases ex;let#[w,rfl,fk]:=r2.one;let#[oQ,Qf,lR]:=R2.items (show c7 _ a=some l' from hi) (e2.get ra);let hn:n<2 ^ 62:=by
     let#[_,_,#[z,zb,_],_]:=W;have:=(az.mp zb).1;omega
   show#[a',oQ,w,n,rfl,rfl,Qf,JY lR fk W,hn,(q.ext (e1.trans e2)).now R2 (.int n)]
def Vl(hc:X.calm=true)(ha:PE X a (LE X.K Ξ (aV P ma)))(nG:Gl X "list")(pv:X.mg "list"=none)(hg:Gl X "range")(hm:X.mg "range"=none)(hs:starEach [a] X.env=[(false,eval a X.env)]) :
  PE X (.Call (.Name "list" p2) [.Call (.Name "range" q) [a] [] pos] [] jC) (LE X.K Ξ (aV P (.prim .ke (.cons ma .nil)))) :=
 (F0 (Lj hc) nG pv (by rfl) (E6 (a33 hg hm (A9 hP ha (O4 hP) (by rw[hs];rfl)) hs) O5)).imp λbE H Q bf=>by
  let#[σ,g,ρ,s,R,h]:=bf;show jM hP s R (.refl _ _) h λxs g1 bG H1 vs e1 R1 r1 h=>?_;let#[d',g',#[j,rfl,h1,h2,rfl,rfl],q]:=h;let#[v,rfl,rv]:=r1.one;obtain rfl:=rv.f9;show#[j,rfl,λq' hq=>#[q',0,j,rfl,k9,#[by omega,by omega,h1,by omega,by omega],λp hp=>?_]];rw[show(j-0).toNat=j.toNat by omega];show(q.ext (e1.trans (p6 hq))).new (R1.grow hq) hp (a9.my 0 _)
def Vm(hc:X.calm=true)(ha:PE X a (LE X.K Ξ (aV P ma)))(hb:PE X b (LE X.K Ξ (aV P mb)))(nG:Gl X "list")(pv:X.mg "list"=none)(hg:Gl X "range")(hm:X.mg "range"=none)(hs:starEach [a,b] X.env=[(false,eval a X.env),(false,eval b X.env)])(iU:starEach [b] X.env=[(false,eval b X.env)]) :
  PE X (.Call (.Name "list" p2) [.Call (.Name "range" q) [a,b] [] pos] [] jC) (LE X.K Ξ (aV P (.prim .jZ (.cons ma (.cons mb .nil))))) :=
 (F0 (Lj hc) nG pv (by rfl) (E6 (a32 hg hm (A9 hP ha (A9 hP hb (O4 hP) (by rw[iU];rfl)) (by rw[hs,iU])) hs iU) O5)).imp λbE H Q bf=>by
  let#[σ,g,ρ,s,R,h]:=bf;show jM hP s R (.refl _ _) h λxs g1 bG H1 vs e1 R1 r1 h=>?_;let#[d',g',#[i,j,rfl,hb,rfl,rfl],q]:=h;let#[v,w,rfl,rv,fk]:=r1.two;obtain rfl:=rv.f9;obtain rfl:=fk.f9;show#[i,j,rfl,λq' hq=>#[q',i,j,rfl,k9,hb,λp hp=>(q.ext (e1.trans (p6 hq))).new (R1.grow hq) hp (a9.my i _)]]
def Tc(hc:X.calm=true)(ha:PE X a (LE X.K Ξ (aV P ma)))(nG:Gl X "sorted")(pv:X.mg "sorted"=none)(hg:Gl X "set")(hm:X.mg "set"=none)(hs:starEach [a] X.env=[(false,eval a X.env)]) :
  PE X (.Call (.Name "sorted" p2) [.Call (.Name "set" q) [a] [] pos] [] jC) (LE X.K Ξ (aV P (.prim .sset (.cons ma .nil)))) :=
 (W5 (Y6 hc) nG pv (by rfl) (E6 (F0 (Ld hc) hg hm (by rfl) (A9 hP ha (O4 hP) (by rw[hs];rfl)) ∅ ∅ (by rw[hs];rfl) rfl) O5)).imp λbE H Q bf=>by
  let#[σ,g,ρ,s,R,h]:=bf;show jM hP s R (.refl _ _) h λxs g1 bG H1 vs e1 R1 r1 h=>?_;let#[d',g',#[i,ns,rfl,hl,hz,rfl,rfl],q]:=h;let#[v,rfl,rv]:=r1.one;let#[a',rfl,ra]:=rv.i0;let#[ws,hq,rs]:=R1.items hl ra;obtain rfl:=rs.ints;show#[_,ns,rfl,hq,hz,λq' nD=>#[q',ns,rfl,k9,hz,λp hp=>?_]];show(q.ext (e1.trans (p6 nD))).new (R1.grow nD) hp (a9.ofInts _)
def SY(hc:X.calm=true)(ha:PE X a (LE X.K Ξ (aV P ma)))(nG:Gl X "len")(pv:X.mg "len"=none)(hg:Gl X "set")(hm:X.mg "set"=none)(hs:starEach [a] X.env=[(false,eval a X.env)]) :
  PE X (.Call (.Name "len" p2) [.Call (.Name "set" q) [a] [] pos] [] jC) (LE X.K Ξ (aV P (.prim .sS (.cons ma .nil)))) :=
 (W5 aA3 nG pv PySem.boot_len (E6 (F0 (Ld hc) hg hm (by rfl) (A9 hP ha (O4 hP) (by rw[hs];rfl)) ∅ ∅ (by rw[hs];rfl) rfl) O5)).imp λbE H Q bf=>by
  let#[σ,g,ρ,s,R,h]:=bf;show jM hP s R (.refl _ _) h λxs g1 bG H1 vs e1 R1 r1 h=>?_;let#[d',g',#[i,ns,rfl,hl,hz,rfl,rfl],q]:=h;let#[v,rfl,rv]:=r1.one;let#[a',rfl,ra]:=rv.i0;let#[ws,hq,rs]:=R1.items hl ra;obtain rfl:=rs.ints;show#[_,ns,rfl,hq,by omega,λq' nD=>#[q',_,rfl,k9,?_]];show(q.ext (e1.trans (p6 nD))).now (R1.grow nD) (.int _)
def Zx{f:Str}(ha:PE X a (LE X.K Ξ (aV P ma)))(hb:attributeBase a f X.env (eval a X.env)=eval a X.env):PE X (.Attribute a f pos) (LE X.K Ξ (aV P (.prim (.fld f) (.cons ma .nil)))) :=
 (YV ha hb).imp λbE H Q bf=>by
  let#[σ,g,ρ,s,R,h]:=bf;show eT hP s R (.refl _ _) h λx g1 bG H1 v1 e1 R1 r1 h=>?_;let#[d',g',#[i,c,fs,ex,hi,hf,rfl],q]:=h;cases ex;let#[a',rfl,ra]:=r1.i0;let#[C,dx,vs,hH,_,hC,rk,na]:=R1.ins hi ra;let lk:=rk.look f;rw[hf] at lk;let#[v,hv,rv]:=lk.some;show#[a',C,dx,vs,v,rfl,hH,hC,na _ (aL hf),hv,q bG H1 v e1 R1 rv]
def ZD{i j:Nat}{y:Str}{q1 q2 p1 p3 p4 px py:Pos}(hc:X.calm=true)(hi:X.N[i]?=!x)(hj:X.N[j]?=!y)(vx:tu X.env.scope x)(vy:tu X.env.scope y)(dx:(x==("__debug__":Str))=false)(cx:(x==("__classdict__":Str))=false)(dy:(y==("__debug__":Str))=false)(cy:(y==("__classdict__":Str))=false)(nG:Gl X "sorted")(pv:X.mg "sorted"=none)(hg:Gl X "set")(hm:X.mg "set"=none) :
  PE X (.Call (.Name "sorted" p2) [.BinOp (.Call (.Name "set" q1) [.Name x px] [] p1) .BitOr (.Call (.Name "set" q2) [.Name y py] [] p3) p4] [] jC) (LE X.K Ξ (aV P (.prim .vw (.cons (.var i) (.cons (.var j) .nil))))) :=
 (W5 (Y6 hc) nG pv (by rfl) (E6 (IQ a37 (F0 (Le hc) hg hm (by rfl) (E6 (FK hi vx dx cx) O5)) (F0 (Le hc) hg hm (by rfl) (E6 (FK hj vy dy cy) O5))) O5)).imp λbE H Q bf=>by
  let#[σ,g,ρ,s,R,h]:=bf;let#[d1,e1,d2,e2,d',g',#[ns,ms,ex,qm,jN,hl,rfl,rfl],q]:=h;cases ex;let#[v1,s1,r1]:=s.val _ _ e1;let#[v2,s2,r2]:=s.val _ _ e2;let#[a1,yR,rfl,t1,nj]:=r1.A1;obtain rfl:=nj.ints;show#[.ref a1,s1,a1,ns,rfl,t1.sq,by omega,λp1 BG=>?_];let#[a2,oQ,Bl,t2,lR]:=(r2.ext (p6 BG)).A1;obtain rfl:=lR.ints;show#[.ref a2,by rw[<- Bl];show s2,a2,ms,rfl,t2.sq,by omega,λp2 pj=>?_];let fE:=j0 (k9) pj;show#[p1,p2,ns,ms,rfl,rfl,fE,by rw[d6 fE];show k9,k9,qm,jN,hl,λp3 Hb=>#[p3,ns++ms,rfl,k9,by rw[ba];omega,λp hp=>?_]];show(q.ext (((p6 BG).trans (p6 pj)).trans (p6 Hb))).new (((R.grow BG).grow pj).grow Hb) hp (a9.ofInts _)
end
section
variable{X:Cx}{pos:Pos}
def ZF{i:Nat}(hN:X.N[i]?=!x)(hv:tu X.env.scope x)(hd:(x==("__debug__":Str))=false)(lZ:(x==("__classdict__":Str))=false):PE X (.Name x pos) (LE X.K Ξ (aV P (.var i))) :=
 (FK hN hv hd lZ).imp λbE H Q bf=>by
  let#[σ,g,ρ,s,R,h]:=bf;let#[d,e,h]:=h;let#[v,h1,h2]:=s.val _ _ e;show#[v,h1,h.now R h2]
def W2{e:Expr}{d:D}{v:V}(h:PE X e (tC v))(r:∀ρ H,c8 X.K ρ H d v):PE X e (LE X.K Ξ (aV P (.lit d))) :=
 h.imp λbE H Q bf=>by
  let#[σ,g,ρ,s,R,h]:=bf;show LQ.now h R (r ρ H)
def SV:PE X (.Dict [] [] pos) (LE X.K Ξ (aV P (.prim .mn .nil))) :=
 (UR).imp λbE H Q ⟨σ,g,ρ,s,R,h⟩ p hp=>by
  let#[d',g',#[_,rfl,rfl],q]:=h;show q (ρ++[p]) _ _ (C5 hp) (R.new hp d0.nil) (.ref (R.u7 p))
end
end M
namespace L2
open PySem PySem.Spec PyProof.Rows
section
variable{X:Cx}{m:Str}{pos apos:Pos}{e o:Expr}{es:@&Expr}{ta:TE}{t:TA}
def Z'(X:Cx)(m:Str)(E:XK)(ta:TE)(t:TA):TE:=λσ H Q=>ta σ H λx H1=>∃a C dx fs f fd ps k sp,x=.ref a/\H1 a=!.ins C dx fs/\fs.lookup m=none/\iY X.K C/\Meth X.K C m f /\
 gD X.prog X.w X.K X.mg X.base (gM X.prog X.w) k f fd ps sp/\q9 k X.A/\Binds X.K fd ps []/\t σ H1 λvs H2=>sp (x::(vs++[])) H2 Q E
def UW{pl:Sem Bool}{E:XK}(he:PE X o ta)(hx:Passes (gM X.prog X.w) X E)(ha:PA X (e::es) t)(eR:starEach (e::es) X.env=(false,eval e X.env)::starEach es X.env)(gi:(backTo pos (starEach es X.env)).any (·.1)=false)(ht:eval (.Call (.Attribute o m apos) (e :: es) [] pos) X.env=(do
   let ov <- eval o X.env
   standAt apos.atName
   let (f,first) <- holding [ov] (getMethod ov m pl)
   callWith pos f first (backTo pos (starEach (e :: es) X.env)) (backToKw pos (keywordEach [] X.env)))) :
  PE X (.Call (.Attribute o m apos) (e::es) [] pos) (Z' X m E ta t):=by
 intro pi s σ H Q I h;show yI (cF (he pi s σ H _ I h) λu s1 bf=>?_) ht;let#[x,H1,I1,rx,a,C,dx,fs,f,fd,ps,k,sp,ex,ea,l,c,hm,F,hr,hb,q]:=bf;subst ex;obtain rfl:u=Value.ref a:=rx;show Kz I1 ea c hm l ?_;show jQ I.ok.mod.nB hm.kp (cF (ha pos pi s1 σ H1 _ I1 q) ?_) eR gi;rintro us s2 ⟨vs,H2,I2,r,q2⟩;show #[I2.fU,?_];show zQ (vs:=.ref a::vs) F hr hb .nil hx I2 (.cons rfl r) q2
def Tu(X:Cx)(m:Str)(E:XK)(ta:TE):TE:=λσ H Q=>ta σ H λx H1=>∃a C dx fs f fd ps k sp,x=.ref a/\H1 a=!.ins C dx fs/\fs.lookup m=none/\iY X.K C/\Meth X.K C m f /\
 gD X.prog X.w X.K X.mg X.base (gM X.prog X.w) k f fd ps sp/\q9 k X.A/\Binds X.K fd ps []/\sp [x] H1 Q E
def a34{pl:Sem Bool}{E:XK}(he:PE X o ta)(hx:Passes (gM X.prog X.w) X E)(ht:eval (.Call (.Attribute o m apos) [] [] pos) X.env=(do
   let ov <- eval o X.env
   standAt apos.atName
   let (f,first) <- holding [ov] (getMethod ov m pl)
   callWith pos f first (backTo pos (starEach [] X.env)) (backToKw pos (keywordEach [] X.env)))) :
  PE X (.Call (.Attribute o m apos) [] [] pos) (Tu X m E ta):=by
 intro pi s σ H Q I h;show yI (cF (he pi s σ H _ I h) λu s1 bf=>?_) ht;let#[x,H1,I1,rx,a,C,dx,fs,f,fd,ps,k,sp,ex,ea,l,c,hm,F,hr,hb,q]:=bf;subst ex;obtain rfl:u=Value.ref a:=rx;show Kz I1 ea c hm l ?_;show jx I1.fU hm.kp (zQ (us:=[.ref a]) (vs:=[.ref a]) F hr hb .nil hx I1 (.cons rfl .nil) q)
end
end L2
namespace M
open PySem L2 PySem.Spec PyProof.Rows
variable{K:PySem.W.Frag}{H H0:Hp}{neg:Bool}{a C fa:Addr}{x:Str}{p:Pos}{kvs xs:@&D}{k f:Nat}{fd:FuncData}{ps:@&Str}{fM:@&Addr}{vs:@&V}{es:@&Expr}{e:Expr}{gJ:ME}
inductive qJ(K:PySem.W.Frag):@&D->@&(Str×V)->Prop
 |nil:qJ K [] []
 |cons {x:Str} {d:D} {v:V} {ds:@&D} {vs:@&(Str×V)} (h:∀ρ H,c8 K ρ H d v) (r:qJ K ds vs):qJ K (.tup [.str x,d]::ds) ((x,v)::vs)
set_option tactic.hygienic true in
def qJ.look{ρ:@&Addr}{ds vs}(x:Str)(h:qJ K ds vs):sV K ρ H (Y3 ds x) (vs.lookup x):=by
 induction h with
 |nil=>trivial
 |cons h r ih =>
  rename_i y d v ds vs;unfold Y3;rw[dE];by_cases e:x=y
  .rw[av e,show(x==y)=true from by simp[e]];show h ρ H
  .rw[aw e,show(x==y)=false from by simpa using e];show ih
def AA(X:Cx)(x:Str)(kvs:@&D):Prop:=∃A vs,X.mg x=!.ref A/\xQ X.K X.w.params A vs/\qJ X.K kvs vs
abbrev AG(neg:Bool):Pr:=if neg then .nK else .HC
def LO:PR (AG neg)=Dz neg:=by cases neg<;>rfl
def a08(a b c:Str):a++b++c=a++(b++c):=by
 show gY Str.mk (OC ..)
def Tn(x:Str):x++Str.empty=x:=by cases x;change Str.mk _=_;simp[Str.empty]
def Sg(x:Str):Str.empty++x=x:=by cases x;change Str.mk _=_;simp[Str.empty]
section
variable{X:Cx}{Ξ:gW}{P:fb}(hP:i3 P){a c:Expr}{ma:ME}{pos:Pos}
include hP
def Zy(hg:Gl X x)(hd:(x==("__debug__":Str))=false)(hG:AA X x kvs)(ha:PE X a (LE X.K Ξ (aV P ma)))(hm:behindInMarks (if neg then .NotIn else .In) (.Name x p)=false) :
  PE X (.Compare a [if neg then .NotIn else .In] [.Name x p] pos) (LE X.K Ξ (aV P (.prim (AG neg) (.cons (.lit (.tup kvs)) (.cons ma .nil))))):=by
 let#[A,vs,hmg,hk,gr]:=hG;show(Ml (NW (kvs:=vs) neg) ha (yp (v:=.ref A) hg hmg rfl hd) hm).imp λbE H Q bf=>?_;let#[σ,g,ρ,s,R,h]:=bf;show eT hP s R (.refl _ _) h λd g1 bG H1 v1 e1 R1 r1 h=>?_;let#[d',g',h,q]:=h;rw[LO] at h;let#[vU,z,ex,rfl,rfl]:=h;cases ex;obtain rfl:=r1.o8;show#[A,z,rfl,hk,rfl,?_];rw[<- (gr.look (ρ:=bG) (H:=H1) z).isSome];show q bG H1 _ e1 R1 (.bl _)
def ZP(hg:Gl X x)(hd:(x==("__debug__":Str))=false)(hG:AA X x kvs)(ha:PE X a (LE X.K Ξ (aV P ma)))(hm:behindInMarks (if neg then .NotIn else .In) (.Name x p)=false) :
  PT X (.Compare a [if neg then .NotIn else .In] [.Name x p] pos) (LT X.K Ξ (dM P (.eG (.prim (AG neg) (.cons (.lit (.tup kvs)) (.cons ma .nil)))))):=by
 let#[A,vs,hmg,hk,gr]:=hG;show(Mq (NW (kvs:=vs) neg) ha (yp (v:=.ref A) hg hmg rfl hd) hm).imp λbE H Q bf=>?_;let#[σ,g,ρ,s,R,h]:=bf;show eT hP s R (.refl _ _) h λd g1 bG H1 v1 e1 R1 r1 h=>?_;let#[d',g',h,t,ht,q]:=h;rw[LO] at h;let#[vU,z,ex,rfl,rfl]:=h;cases ex;obtain rfl:=r1.o8;show#[A,z,rfl,hk,rfl,t,?_,q bG H1 e1 R1];rw[<- (gr.look (ρ:=bG) (H:=H1) z).isSome];rcases ht with⟨z,_⟩|z|⟨i,z,_⟩|⟨l,z,_⟩|⟨a,l,z,_⟩<;>cases z
 rfl
def SX(hg:Gl X x)(hd:(x==("__debug__":Str))=false)(hG:AA X x kvs)(ha:PE X a (LE X.K Ξ (aV P ma)))(hs:DI a):PE X (.Subscript (.Name x p) a pos) (LE X.K Ξ (aV P (.prim .kS (.cons (.lit (.tup kvs)) (.cons ma .nil))))):=by
 let#[A,vs,hmg,hk,gr]:=hG;show(IP (WA (kvs:=vs)) (yp (v:=.ref A) hg hmg rfl hd) ha hs).imp λbE H Q bf=>?_;let#[σ,g,ρ,s,R,h]:=bf;show eT hP s R (.refl _ _) h λd g1 bG H1 v1 e1 R1 r1 h=>?_;let#[d',g',#[vU,z,ex,hz,rfl],q]:=h;cases ex;obtain rfl:=r1.o8;let lk:=gr.look (ρ:=bG) (H:=H1) z;rw[hz] at lk;let#[w,hw,lk]:=lk.some;show#[A,z,w,rfl,hk,rfl,hw,q bG H1 _ e1 R1 lk]
def Zz{y:Str}{q p2:Pos}(ha:PE X a (LE X.K Ξ (aV P ma)))(hg:Gl X "isinstance")(hm:X.mg "isinstance"=none)(Ca:Gl X y)(Qy:(y==("__debug__":Str))=false)(Qk:X.mg y=!.ref C)(hC:l7 X.K y C)(hs:starEach [a,.Name y p2] X.env=(false,eval a X.env)::starEach [.Name y p2] X.env) :
  PE X (.Call (.Name "isinstance" q) [a,.Name y p2] [] pos) (LE X.K Ξ (aV P (.prim (.wa y) (.cons ma .nil)))) :=
 (W5 TN hg hm (by first|show mR|decide +kernel) (E6 ha (E6 (yp (v:=.ref C) Ca Qk rfl Qy) O5) hs) ∅ ∅ hs rfl).imp λbE H Q bf=>by
  let#[σ,g,ρ,s,R,h]:=bf;show eT hP s R (.refl _ _) h λd g1 bG H1 v1 e1 R1 r1 h=>?_;let#[d',g',#[x,ex,#[i,fs,rfl,hi],rfl,rfl],q]:=h;cases ex;let#[a',rfl,ra]:=r1.i0;let#[C',dx,vs,hH,zx,_]:=R1.ins hi ra;obtain rfl:C'=C:=by
   let z:=zx.symm.trans hC;injection z with z;injection z with z;injection z
  show#[a',C',dx,vs,rfl,hH,q bG H1 _ e1 R1 (.bl true)]
def Xq(ha:PE X a (LE X.K Ξ (aV P ma))):PE X (.FormattedValue a (-1) none pos) (LE X.K Ξ (aV P (.prim .fv (.cons ma .nil)))) :=
 (Xd ha).imp λbE H Q bf=>by
  let#[σ,g,ρ,s,R,h]:=bf;show eT hP s R (.refl _ _) h λd g1 bG H1 v1 e1 R1 r1 h=>?_;let#[d',g',#[rfl,h],q]:=h;rcases h with⟨i,ex,h1,rfl⟩|⟨z,ex,h1,rfl⟩
  .cases ex;show .inl #[i,r1.f9,h1,q bG H1 _ e1 R1 (.str _)]
  .cases ex;show .inr #[z,r1.o8,i4 (),q bG H1 _ e1 R1 (.str _)]
omit hP in
inductive mK(X:Cx)(Ξ:gW)(P:fb):@&Expr->ME->@&TE->Prop
 |nil:mK X Ξ P [] .nil []
 |lit {x:Str} {j:Nat} {p:Pos} {es:@&Expr} {ms:ME} {ts:@&TE} (hx:-x<=2000) (r:mK X Ξ P es ms ts):mK X Ξ P (.Constant (.str x) j p::es) (.cons (.lit (.str x)) ms) (LE X.K Ξ (aV P (.lit (.str x)))::ts)
 |val {e:Expr} {m:ME} {p:Pos} {es:@&Expr} {ms:ME} {ts:@&TE} (he:PE X e (LE X.K Ξ (aV P m))) (r:mK X Ξ P es ms ts):mK X Ξ P (.FormattedValue e (-1) none p::es) (.cons (.prim .fv (.cons m .nil)) ms) (LE X.K Ξ (aV P (.prim .fv (.cons m .nil)))::ts)
def mK.Pe{es ms ts}(h:mK X Ξ P es ms ts):uX X es ts:=by
 induction h with
 |nil=>show .nil
 |lit hx r ih=>show .cons (W2 NX λx x=>.str _) ih
 |val he r ih=>show .cons (Xq hP he) ih
set_option tactic.hygienic true in
def mK.join{bE:L2.St}{Q:Str->Hp->Prop}{es ms ts}(hf:mK X Ξ P es ms ts):∀{σ:S} {g:G} {ρ:@&Addr} {H:Hp} {acc:Str},(-acc)+2000*-es<=100000->o7 X.K ρ H σ bE->Rl X.K ρ g H ->
  fj P ms σ g (λds g1=>∃x,Y5 ds=!x/\∀bA H',Ext ρ H bA H'->Rl X.K bA g1 H'->Q (acc++x) H') (LX X.K ρ H Ξ)->AR ts bE H acc (λout H1=>-out<=sizeLine/\Q out H1):=by
 let tl:∀{acc y:Str} {ρ:@&Addr} {H:Hp} {bG:@&Addr} {H1:Hp} {ds:@&D} {g1:G},Ext ρ H bG H1->(∃x,Y5 (.str y::ds)=!x/\∀bA H',Ext ρ H bA H'->Rl X.K bA g1 H'->Q (acc++x) H')->∃x,Y5 ds=!x/\∀bA H',Ext bG H1 bA H'->Rl X.K bA g1 H'->Q (acc++y++x) H':=by
  intro acc y ρ H bG H1 ds g1 e1 h;let#[x,hx,h]:=h;simp only[Y5] at hx;cases hj:Y5 ds with
  |none=>simp_all
  |some x' =>
   rw[hj] at hx;cases hx;show#[x',rfl,λbA H' e' R'=>?_];rw[a08];show h bA H' (e1.trans e') R'
 induction hf with
 |nil =>
  intro σ g ρ H acc ha s R h;let#[x,hx,h]:=h;cases hx;show#[i4 (_/ha),h ρ H (.refl _ _) R]
 |lit hx r ih =>
  rename_i y j p es ms ts;intro σ g ρ H acc ha s R h;show#[σ,g,ρ,s,R,?_];intro bG H1 v1 e1 R1 r1;obtain rfl:=r1.o8;let hl:(acc++y).length<=-acc+2000:=by rw[mr];omega
  simp only[List.length_cons] at ha;show#[y,rfl,i4 (),ih () (s.ext e1) R1 (y4 hP _ _ _ _ _ _ _ (λds g1 h=>tl e1 h) (λw w z=>LX.ext e1 z) h)]
 |val he r ih =>
  rename_i e m p es ms ts;intro σ g ρ H acc ha s R h;show#[σ,g,ρ,s,R,?_];simp only[List.length_cons] at ha;show b0 hP m _ _ _ _ _ _ (λd g1 h=>?_) (λw w z=>z) h;let#[d',g',#[rfl,h],q]:=h;let hy:∃y,d'=.str y/\-y<=2000:=by
   rcases h with⟨i,ex,h1,rfl⟩|⟨z,ex,h1,rfl⟩
   .exact#[_,rfl,by rw[yH];have:=int_text_length_le ∅ h1;omega]
   .exact#[z,rfl,h1]
  let#[y,rfl,hy]:=hy;show#[_,_,#[rfl,h],λbG H1 v1 e1 R1 r1=>?_];obtain rfl:=r1.o8;let hl:(acc++y).length<=-acc+2000:=by rw[mr];omega
  show#[y,rfl,i4 (),ih () (s.ext e1) R1 (y4 hP _ _ _ _ _ _ _ (λds g1 h=>tl e1 h) (λw w z=>LX.ext e1 z) q)]
def SW{lN lM:Expr}{rest:@&Expr}{ms:ME}{ts:@&TE}(h:mK X Ξ P (lN::lM::rest) ms ts)(hl:(lN::lM::rest).length<=40):PE X (.JoinedStr (lN::lM::rest) pos) (LE X.K Ξ (aV P (.prim .ml ms))) :=
 (Sy (h.Pe hP)).imp λbE H Q bf=>by
  let#[σ,g,ρ,s,R,hw]:=bf;show mK.join hP h ?_ s R (y4 hP ms _ _ _ _ _ _ (λds g1 hw=>?_) (λy y z=>z) hw)
  .have:Str.empty.length=0:=rfl;omega
  .let#[d',g',#[x,hx,rfl,rfl],q]:=hw;show#[x,hx,λbA H' e' R'=>?_];rw[Sg];show q bA H' _ e' R' (.str _)
omit hP in
abbrev qh(ex:@&Str)(K:PySem.W.Frag)(n:Nat)(t:@&D->G->KD->KX->Prop):Sp:=λvs H Q E=>-vs=n/\∃ds g ρ,a9 K ρ H ds vs/\Rl K ρ g H/\t ds g (LQ K ρ H Q) (LX K ρ H (ex,E))
omit hP in
abbrev oH(X:Cx)(P:fb)(ex:@&Str)(k f:Nat)(fa:Addr)(fd:FuncData)(ps:@&Str):Prop :=
 gD X.prog X.w X.K X.mg X.base (gM X.prog X.w) k fa fd ps (qh ex X.K (-ps) (P f))/\Binds X.K fd ps []/\∀ds g Q E,P f ds g Q E->-ds=-ps
def xZ{k:Nat}(F:oH X P Ξ.1 k f fa fd ps){ρ:@&Addr}{g:G}{Q0:KD}{Q:VK}(e0:Ext fM H0 ρ H)(R:Rl X.K ρ g H)(r:a9 X.K ρ H xs vs)(h:P f xs g Q0 (LX X.K fM H0 Ξ))(k:∀d g',Q0 d g'->LQ X.K ρ H Q d g'):qh Ξ.1 X.K (-ps) (P f) (vs++[]) H Q Ξ.2:=by
 rw[fI];show#[by rw[<- -r];show F.2.2 _ _ _ _ h,xs,g,ρ,r,R,hP _ _ _ _ _ _ _ k (λx x z=>LX.ext e0 z) h]
def SU(hx:Passes (gM X.prog X.w) X Ξ.2)(F:oH X P Ξ.1 k f fa fd ps)(hr:q9 k X.A)(hg:Gl X x)(hm:X.mg x=!.ref fa)(hk:PySem.W.keepIn X.K (.ref fa)=true)(ha:PA X (e::es) (LA X.K Ξ (fj P gJ)))(hd:(x==("__debug__":Str))=false)(eR:starEach (e::es) X.env=(false,eval e X.env)::starEach es X.env)(gi:(backTo pos (starEach es X.env)).any (·.1)=false):PE X (.Call (.Name x p) (e::es) [] pos) (LE X.K Ξ (aV P (.call f gJ))) :=
 (Sv F.1 hr hg hm hk F.2.1 .nil hx ha hd eR gi).imp λbE H Q bf=>by
  let#[σ,g,ρ,s,R,h]:=bf;show jM hP s R (.refl _ _) h λxs g1 bG H1 vs e1 R1 r1 h=>xZ hP F e1 R1 r1 h λd g' h=>h.ext e1
def Vi(hx:Passes (gM X.prog X.w) X Ξ.2)(F:oH X P Ξ.1 k f fa fd ps)(hr:q9 k X.A)(hg:Gl X x)(hm:X.mg x=!.ref fa)(hk:PySem.W.keepIn X.K (.ref fa)=true)(hd:(x==("__debug__":Str))=false):PE X (.Call (.Name x p) [] [] pos) (LE X.K Ξ (aV P (.call f .nil))) :=
 (UP F.1 hr hg hm hk F.2.1 .nil hx hd).imp λbE H Q bf=>by
  let#[σ,g,ρ,s,R,h]:=bf;show xZ hP F (.refl _ _) R .nil h λd g' h=>h
def Mg{c:Str}(F:oH X P Ξ.1 k f fa fd ps)(hC:l7 X.K c C)(hc:iY X.K C){ρ:@&Addr}{g1:G}{Q:VK}(e0:Ext fM H0 ρ H)(R:Rl X.K ρ g1 H)(r:a9 X.K ρ H xs vs)(h:P f (.ref (-g1)::xs) (g1++[.ins c []]) (λd g2=>d=.aO/\LQ X.K fM H0 Q (.ref (-g1)) g2) (LX X.K fM H0 Ξ)):∀x dx,H x=none->H dx=none->dx≠x->qh Ξ.1 X.K (-ps) (P f) (.ref x::(vs++[])) (upd (upd H dx (.own x)) x (.ins C dx [])) (λv H2=>v=.aO/\Q (.ref x) H2) Ξ.2:=by
 intro x dx hx Hn fE;let GX:upd H dx (.own x) x=none:=by rw[d6 (bq fE)];show hx
 let R2:=R.grow (o:=.own x) Hn;let e2:Ext ρ H ρ (upd H dx (.own x)):=p6 Hn;let R3:=R2.new (o:=.ins c []) (u:=.ins C dx []) GX #[hC,hc,.nil,λx hx=>absurd hx #[_]];let e3:Ext ρ (upd H dx (.own x)) (ρ++[x]) (upd (upd H dx (.own x)) x (.ins C dx [])):=C5 GX;have:=xZ hP F (e0.trans (e2.trans e3)) R3 (.cons (.ref (R.u7 x)) (r.ext (e2.trans e3))) h (Q:=λv H2=>v=.aO/\Q (.ref x) H2) λd g' q bA H' v e' R' r'=>by
  let#[rfl,q]:=q;show#[r'.zP,q bA H' _ (e0.trans (e2.trans (e3.trans e'))) R' (.ref (e'.get (R.u7 x)))]
 show this
def Ta(hx:Passes (gM X.prog X.w) X Ξ.2)(F:oH X P Ξ.1 k f fa fd ps)(M:Mk X.K C fa)(hC:l7 X.K x C)(hc:iY X.K C)(hr:q9 (k+1) X.A)(hg:Gl X x)(hm:X.mg x=!.ref C)(ha:PA X (e::es) (LA X.K Ξ (fj P gJ)))(hd:(x==("__debug__":Str))=false)(eR:starEach (e::es) X.env=(false,eval e X.env)::starEach es X.env)(gi:(backTo pos (starEach es X.env)).any (·.1)=false):PE X (.Call (.Name x p) (e::es) [] pos) (LE X.K Ξ (aV P (.make x f gJ))) :=
 (Sz M F.1 hr hg hm F.2.1 .nil hx ha hd eR gi).imp λbE H Q bf=>by
  let#[σ,g,ρ,s,R,h]:=bf;show jM hP s R (.refl _ _) h λxs g1 bG H1 vs e1 R1 r1 h=>Mg hP F hC hc e1 R1 r1 h
def Vn(hx:Passes (gM X.prog X.w) X Ξ.2)(F:oH X P Ξ.1 k f fa fd ps)(M:Mk X.K C fa)(hC:l7 X.K x C)(hc:iY X.K C)(hr:q9 (k+1) X.A)(hg:Gl X x)(hm:X.mg x=!.ref C)(hd:(x==("__debug__":Str))=false):PE X (.Call (.Name x p) [] [] pos) (LE X.K Ξ (aV P (.make x f .nil))) :=
 (UU M F.1 hr hg hm F.2.1 .nil hx hd).imp λbE H Q bf=>by
  let#[σ,g,ρ,s,R,h]:=bf;show Mg hP F hC hc (.refl _ _) R .nil h
omit hP in
def DH(X:Cx)(P:fb)(ex:@&Str)(m:Str)(cs:@&(Str×Nat)):Prop:=∀c f C,cs.lookup c=!f->l7 X.K c C->∃k fa fd ps,Meth X.K C m fa/\oH X P ex k f fa fd ps/\q9 k X.A
def Vp{m:Str}{cs:@&(Str×Nat)}{o:Expr}{mo:ME}{apos:Pos}{pl:Sem Bool}(hx:Passes (gM X.prog X.w) X Ξ.2)(hM:DH X P Ξ.1 m cs)(ho:PE X o (LE X.K Ξ (aV P mo)))(ha:PA X (e::es) (LA X.K Ξ (fj P gJ)))(eR:starEach (e::es) X.env=(false,eval e X.env)::starEach es X.env)(gi:(backTo pos (starEach es X.env)).any (·.1)=false)(ht:eval (.Call (.Attribute o m apos) (e :: es) [] pos) X.env=(do
   let ov <- eval o X.env
   standAt apos.atName
   let (f,first) <- holding [ov] (getMethod ov m pl)
   callWith pos f first (backTo pos (starEach (e :: es) X.env)) (backToKw pos (keywordEach [] X.env)))):PE X (.Call (.Attribute o m apos) (e :: es) [] pos) (LE X.K Ξ (aV P (.bg m cs mo gJ))) :=
 (UW ho hx ha eR gi ht).imp λbE H Q bf=>by
  let#[σ,g,ρ,s,R,h]:=bf;show eT hP s R (.refl _ _) h λx g1 bG H1 v1 e1 R1 r1 h=>?_;let#[i,c,fs,f,rfl,hi,hf,qr,h]:=h;let#[a',rfl,ra]:=r1.i0;let#[C,dx,vs,hH,hC,iV,rk,na]:=R1.ins hi ra;let#[k,fa,fd,ps,M,F,hr]:=hM c f C qr hC;let lk:=rk.look m;rw[hf] at lk;let hl:vs.lookup m=none:=by cases e:vs.lookup m with|none=>rfl|some w=>rw[e] at lk;show lk.elim
  show#[a',C,dx,vs,fa,fd,ps,k,_,rfl,hH,hl,iV,M,F.1,hr,F.2.1,?_];show jM hP (s.ext e1) R1 e1 h λxs g2 eV H2 ws e2 R2 r2 h=>xZ hP F (e1.trans e2) R2 (.cons (.ref (e2.get ra)) r2) h λd g' h=>h.ext (e1.trans e2)
def a15{m:Str}{cs:@&(Str×Nat)}{o:Expr}{mo:ME}{apos:Pos}{pl:Sem Bool}(hx:Passes (gM X.prog X.w) X Ξ.2)(hM:DH X P Ξ.1 m cs)(ho:PE X o (LE X.K Ξ (aV P mo)))(ht:eval (.Call (.Attribute o m apos) [] [] pos) X.env=(do
   let ov <- eval o X.env
   standAt apos.atName
   let (f,first) <- holding [ov] (getMethod ov m pl)
   callWith pos f first (backTo pos (starEach [] X.env)) (backToKw pos (keywordEach [] X.env)))):PE X (.Call (.Attribute o m apos) [] [] pos) (LE X.K Ξ (aV P (.bg m cs mo .nil))) :=
 (a34 ho hx ht).imp λbE H Q bf=>by
  let#[σ,g,ρ,s,R,h]:=bf;show eT hP s R (.refl _ _) h λx g1 bG H1 v1 e1 R1 r1 h=>?_;let#[i,c,fs,f,rfl,hi,hf,qr,h]:=h;let#[a',rfl,ra]:=r1.i0;let#[C,dx,vs,hH,hC,iV,rk,na]:=R1.ins hi ra;let#[k,fa,fd,ps,M,F,hr]:=hM c f C qr hC;let lk:=rk.look m;rw[hf] at lk;let hl:vs.lookup m=none:=by cases e:vs.lookup m with|none=>rfl|some w=>rw[e] at lk;show lk.elim
  show#[a',C,dx,vs,fa,fd,ps,k,_,rfl,hH,hl,iV,M,F.1,hr,F.2.1,xZ hP F e1 R1 (.cons (.ref ra) .nil) h λd g' h=>h.ext e1]
end
inductive kx(K:PySem.W.Frag)(ρ:@&Addr)(H:Hp):@&D->@&(V×V)->Prop
 |nil:kx K ρ H [] []
 |cons {k d:D} {x y:V} {ds:@&D} {ps:@&(V×V)} (h1:c8 K ρ H k x) (h2:c8 K ρ H d y) (r:kx K ρ H ds ps):kx K ρ H (k::d::ds) ((x,y)::ps)
set_option tactic.hygienic true in
def Ya{K ρ H}{ps:@&(V×V)}(r:kx K ρ H xs ps):∀{acc kvs:@&(Key×D)} {accV:@&(Key×V)},ux xs acc=!kvs->d0 K ρ H acc accV->∃more:@&(Key×V),ps=more.map (λkv=>(kV kv.1,kv.2))/\2*-more=-xs/\d0 K ρ H kvs (W7 accV more):=by
 induction r with
 |nil =>
  intro acc kvs accV h ra;cases h;show#[[],rfl,rfl,ra]
 |cons h1 h2 r ih =>
  rename_i k d x y ds ps;intro acc kvs accV h ra;simp only[ux] at h;cases hk:oB k with
  |none=>simp_all
  |some c =>
   rw[hk] at h;let#[more,e1,e2,r2]:=ih (show ux ds (putD acc c d)=some kvs from h) (ra.put h2);let ex:=ym hk h1;show#[(c,y)::more,by simp_all,by grind,r2]
section
variable{X:Cx}{Ξ:gW}{P:fb}(hP:i3 P){pos:Pos}
inductive mL(X:Cx)(Ξ:gW)(P:fb):@&(Option Expr)->@&Expr->ME->@&(TE×TE)->Prop
 |nil:mL X Ξ P [] [] .nil []
 |cons {k v:Expr} {ks:@&(Option Expr)} {vs:@&Expr} {mk mv ms:ME} {ij:@&(TE×TE)} (hk:PE X k (LE X.K Ξ (aV P mk))) (hv:PE X v (LE X.K Ξ (aV P mv))) (r:mL X Ξ P ks vs ms ij) :
   mL X Ξ P (some k::ks) (v::vs) (.cons mk (.cons mv ms)) ((LE X.K Ξ (aV P mk),LE X.K Ξ (aV P mv))::ij)
def mL.Pd{ks vs ms ij}(h:mL X Ξ P ks vs ms ij):yD X pos ks vs ij:=by
 induction h with
 |nil=>show SF
 |cons hk hv r ih=>show U' hk hv ih
def mL.len{ks vs ms ij}(h:mL X Ξ P ks vs ms ij):ks.all (·.isSome)=true/\-ks=-vs:=by
 induction h with
 |nil=>show#[rfl,rfl]
 |cons hk hv r ih=>show#[by simpa using ih.1,by simp[ih.2]]
include hP
def mL.pairs{ks vs ms ij}(hd:mL X Ξ P ks vs ms ij):∀{bE:L2.St} {σ:S} {g:G} {ρ fM:@&Addr} {H H0:Hp} {Qd:@&D->G->Prop} {Q:@&(V×V)->Hp->Prop},o7 X.K ρ H σ bE->Rl X.K ρ g H->Ext fM H0 ρ H->fj P ms σ g Qd (LX X.K fM H0 Ξ) ->
  (∀ds g' bA H' ps,Ext ρ H bA H'->Rl X.K bA g' H'->kx X.K bA H' ds ps->Qd ds g'->Q ps H')->zS ij bE H Q:=by
 induction hd with
 |nil =>
  intro bE σ g ρ fM H H0 Qd Q s R e0 h k;show k [] g ρ H [] (.refl _ _) R .nil h
 |cons hk hv r ih =>
  intro bE σ g ρ fM H H0 Qd Q s R e0 h k;show eT hP s R e0 h λx g1 bG H1 v1 e1 R1 r1 h=>eT hP (s.ext e1) R1 (e0.trans e1) h λy g2 eV H2 v2 e2 R2 r2 h=>?_;show ih (s.ext (e1.trans e2)) R2 (e0.trans (e1.trans e2)) h λds g' bA H' ps e' R' rp hq=>?_;show k _ g' bA H' _ (e1.trans (e2.trans e')) R' (.cons (r1.ext (e2.trans e')) (r2.ext e') rp) hq
def Zw{ks:@&(Option Expr)}{vs:@&Expr}{ms:ME}{ij:@&(TE×TE)}(hd:mL X Ξ P ks vs ms ij)(h0:ks≠[])(CW:-ks<=15):PE X (.Dict ks vs pos) (LE X.K Ξ (aV P (.oy ms))) :=
 (Sw hd.Pd hd.len.1 hd.len.2 h0 CW).imp λbE H Q ⟨σ,g,ρ,s,R,h⟩ p hp=>by
  let e1:Ext ρ H (ρ++[p]) (upd H p (.dK [])):=C5 hp;show mL.pairs hP hd (s.ext e1) (R.new hp (o:=.bZ []) (u:=.dK []) d0.nil) e1 h λds g2 eV H2 ps e2 R2 rp hq=>?_;let#[kvs,hk,hz,hg,q]:=hq;let pj:eV[(-g)]?=!p:=e2.get (R.u7 p);let#[vs',hv,rv]:=R2.bZ hg pj;cases rv;let#[more,em,hl,rk]:=Ya rp hk (accV:=[]) .nil;show#[hv,more,em,by omega,?_];let#[R3,e3]:=R2.put (o':=.bZ kvs) (u:=.dK (W7 [] more)) hg rfl pj rk;show q eV _ _ (e1.trans (e2.trans e3)) R3 (.ref pj)
end
def WE{l:@&D}(ht:TupAt K H0 a vs)(rs:a9 K fM H0 l vs):pR K fM H0 (.fix l) (Gb K a):=by
 intro ρ g H e R i;let mH:=ht.ext e;let vH:=rs.ext e;show#[λh=>#[vs,mH.sq,?_],λd h=>?_]
 .have:=cW.mp (aJ h);rw[<- -vH];show this
 .let#[v,hv,rv]:=vH.get (aJ h);show#[#[vs,v,mH.sq,hv],λw H' y=>?_];let#[rfl,y]:=y;have:=y vs mH.sq;rw[hv] at this;cases this;show#[.refl _ _,R,rv]
def WC{j:Nat}(ha:fM[j]?=!a):pR K fM H0 (.lst j) (Ge K a):=by
 intro ρ g H e R i;let oq:=e.get ha;show#[λh=>?_,λd h=>?_]
 .simp only[IK.at] at h;cases el:c7 g j with
  |none=>simp_all
  |some l =>
   rw[el] at h;let#[vs,hq,rs]:=R.items el oq;show#[vs,hq,?_];have:=cW.mp (aJ h);rw[<- -rs];show this
 .simp only[IK.at] at h;cases el:c7 g j with
  |none=>simp_all
  |some l =>
   rw[el] at h;let#[vs,hq,rs]:=R.items el oq;let#[v,hv,rv]:=rs.get (aJ h);show#[#[vs,v,hq,hv],λw H' y=>?_];let#[rfl,y]:=y;have:=y vs hq;rw[hv] at this;cases this;show#[.refl _ _,R,rv]
def IF{lo:Int}{n:Nat}:pR K fM H0 (.fix (l0 lo n)) (yF lo n):=by
 unfold l0;intro ρ g H e R i;show#[λh=>?_,λd h=>?_]
 .have:=cW.mp (aJ h);change n<=i;simpa using this
 .let h:=aJ h;let hi:i<n:=by
   have:=(az.mp h).1
   simp_all
  rw[aG,Gj hi] at h;cases h;show#[hi,λw H' y=>?_];let#[rfl,rfl]:=y;show#[.refl _ _,R,.int _]
def WD{a:Str}:pR K fM H0 (.fix (sgn a)) (Gd a):=by
 intro ρ g H e R i;show#[λh=>?_,λd h=>?_]
 .simp only[IK.at] at h;have:=cW.mp (aJ h);change a.cps.size<=i;simpa[sgn] using this
 .simp only[IK.at] at h;let h:=aJ h;unfold sgn at h;rw[aG,ae] at h;let#[c,hc,rfl]:=h;let hc:a.cps[i]?=!c:=by simpa using hc
  show#[(gg.mp hc).1,λw H' y=>?_];let#[rfl,c',h',rfl]:=y;rw[hc] at h';cases h';show#[.refl _ _,R,.str _]
def WG{t:Addr}{l:@&D}{j:Nat}(ht:TupAt K H0 t vs)(rs:a9 K fM H0 l vs)(ha:fM[j]?=!a):pR K fM H0 (.tG l j) (Ga K t a):=by
 intro ρ g H e R i;let mH:=ht.ext e;let vH:=rs.ext e;let oq:=e.get ha;show#[λh=>?_,λd h=>?_]
 .simp only[IK.at] at h;cases el:c7 g j with
  |none=>rw[el] at h;cases h
  |some m =>
   rw[el] at h;dsimp only at h;by_cases hl:-l=-m
   .rw[av hl] at h;let h:=aJ h;rw[Option.map_eq_none_iff] at h;have:=cW.mp h;rw[mT] at this;show#[vs,mH.sq,?_];rw[<- -vH];omega
   .rw[aw hl] at h;cases h
 .simp only[IK.at] at h;cases el:c7 g j with
  |none=>rw[el] at h;cases h
  |some m =>
   rw[el] at h;dsimp only at h;by_cases hl:-l=-m
   .rw[av hl] at h;let h:=aJ h;rw[ae] at h;let#[#[d1,d2],hd,rfl]:=h;let#[h1,h2]:=List.getElem?_zip_eq_some.mp hd;let#[v1,ji,OS]:=vH.get h1;let#[ws,hq,rws]:=R.items el oq;let#[v2,jh,Bj]:=rws.get h2;show#[#[vs,ws,v1,v2,mH.sq,hq,ji,jh],λw H' y=>?_];let#[p,x,x',hp,rfl,y1,y2,rfl]:=y;let y1:=y1 vs mH.sq;rw[ji] at y1;cases y1;let y2:=y2 ws hq;rw[jh] at y2;cases y2;show#[p6 hp,R.grow hp,.tup (.inl k9) (.cons (OS.ext (p6 hp)) (.cons (Bj.ext (p6 hp)) .nil))]
   .rw[aw hl] at h;cases h
end M
namespace L2
open PySem PySem.Spec PyProof.Rows
def Ze{X:Cx}{tg l:Expr}{tl:TE}(hl:PE X l tl):PI X tg l (λσ H R=>tl σ H λx H1=>(∃a,x=.ref a/\(∃xs,fR X.K H1 a xs)/\R (Ge X.K a) H1)\/(∃a,x=.ref a/\(∃xs,gm X.K H1 a xs)/\R (Gb X.K a) H1)\/∃a:Str,x=.str a/\a.cps.all (·<128)=true/\R (Gd a) H1):=by
 intro pi s σ H R I h;show cF (hl pi s σ H _ I h) λv s1 bf=>?_;let#[x,H1,I1,r1,q1]:=bf;rcases q1 with⟨a,e,⟨xs,hq⟩,q⟩|⟨a,e,⟨xs,hq⟩,q⟩|⟨a,rfl,ha,q⟩
 .subst e;cases r1;let#[aX,rv,p,hz]:=I1.list hq;show dD p.isList ?_;show#[s1⁻¹,[s1⁻¹],_,_,H1,rfl,I1.kept (t':=s1.toks) λb o e=>ah _ e,a01 a _,#[_,au _ rfl,rfl,rfl],λb hb=>?_,q];let e:b=s1⁻¹:=by simpa using hb
  subst e;show I1.qK (ak _) (I1.bw.fresh (ak _))
 .subst e;cases r1;let#[aX,rv,p,hz]:=I1.tuple hq;show mM (show s1.heap.IsTuple a aX.toArray from p) ?_;show#[s1⁻¹,[s1⁻¹],_,_,H1,rfl,I1.kept (t':=s1.toks) λb o e=>ah _ e,aS7 a _,#[_,au _ rfl,rfl,rfl],λb hb=>?_,q];let e:b=s1⁻¹:=by simpa using hb
  subst e;show I1.qK (ak _) (I1.bw.fresh (ak _))
 .let#[t,rfl]:=r1;show wpAny_pyIter_ascii ha ?_;show#[s1⁻¹,[s1⁻¹],_,_,H1,rfl,I1.kept (t':=s1.toks) λb o e=>ah _ e,VD a t _,#[_,au _ rfl,rfl,rfl],λb hb=>?_,q];let e:b=s1⁻¹:=by simpa using hb
  subst e;show I1.qK (ak _) (I1.bw.fresh (ak _))
end L2
namespace M
open PySem L2 PySem.Spec PyProof.Rows
variable{X:Cx}{pos p tp:Pos}{i:Nat}{x f:Str}{t:MT}{o:Expr}{mo mi:ME}{cs:@&Str}
section
variable{Ξ:gW}{P:fb}(hP:i3 P){a b tg:Expr}{ma mb:ME}
include hP
def ZI(ha:PE X a (LE X.K Ξ (aV P ma))):PI X tg a (LI X.K Ξ (iR P (.jg ma))) :=
 (Ze ha).imp λbE H R bf=>by
  let#[σ,g,ρ,s,Rr,h]:=bf;show eT hP s Rr (.refl _ _) h λx g1 bG H1 v1 e1 R1 r1 h=>?_;rcases h with⟨l,rfl,h⟩|⟨i,l,rfl,hl,h⟩|⟨w,rfl,ha,h⟩
  .let#[a',vs,rfl,ht,rs]:=r1.A1;show .inr (.inl #[_,rfl,#[_,ht.sq],h bG H1 _ e1 R1 (WE ht rs)])
  .let#[a',rfl,oq]:=r1.i0;let#[vs,hq,rs]:=R1.items hl oq;show .inl #[_,rfl,#[_,hq],h bG H1 _ e1 R1 (WC oq)]
  .obtain rfl:=r1.o8;show .inr (.inr #[_,rfl,ha,h bG H1 _ e1 R1 WD])
def ZJ{elts:@&Expr}{x1:Nat}(ha:PE X a (LE X.K Ξ (aV P ma)))(hb:PE X b (LE X.K Ξ (aV P mb)))(hg:Gl X "zip")(hm:X.mg "zip"=none)(hs:starEach [a,b] X.env=[(false,eval a X.env),(false,eval b X.env)])(iU:starEach [b] X.env=[(false,eval b X.env)]) :
  PI X (.Tuple elts x1 tp) (.Call (.Name "zip" p) [a,b] [] pos) (LI X.K Ξ (iR P (.og ma mb))) :=
 (Zf hg hm (A9 hP ha (A9 hP hb (O4 hP) (by rw[iU];rfl)) (by rw[hs,iU])) hs iU).imp λbE H R bf=>by
  let#[σ,g,ρ,s,Rr,h]:=bf;show jM hP (m:=.cons ma (.cons mb .nil)) s Rr (.refl _ _) (Q0:=λxs g1=>∃l i m,xs=[.tup l,.ref i]/\c7 g1 i=!m/\∀bA H' J,Ext ρ H bA H'->Rl X.K bA g1 H'->pR X.K bA H' (.tG l i) J->R J H') ?_ λxs g1 bG H1 vs e1 R1 r1 h=>?_
  .skip
   show b0 hP ma _ _ _ _ _ _ (λx g1 h=>b0 hP mb _ _ _ _ _ _ (by rintro y g2 ⟨l,i,m,e,e',h1,h⟩;show #[l,i,m,by rw[e,e'],h1,h]) (λu u z=>z) h) (λu u z=>z) h
  .let#[l,i,m,rfl,hl,h]:=h;let#[v,w,rfl,rv,fk]:=r1.two;let#[t,vs,rfl,ht,rs]:=rv.A1;let#[a',rfl,ra]:=fk.i0;let#[ws,hq,_]:=R1.items hl ra;show#[_,_,rfl,#[_,ht.sq],#[_,hq],h bG H1 _ e1 R1 (WG ht rs ra)]
def Tg(ha:PE X a (LE X.K Ξ (aV P ma)))(hg:Gl X "range")(hm:X.mg "range"=none)(hs:starEach [a] X.env=[(false,eval a X.env)]):PI X tg (.Call (.Name "range" p) [a] [] pos) (LI X.K Ξ (iR P (.fO ma))) :=
 (a29 hg hm (A9 hP ha (O4 hP) (by rw[hs];rfl)) hs).imp λbE H R bf=>by
  let#[σ,g,ρ,s,Rr,h]:=bf;show jM hP s Rr (.refl _ _) (Q0:=λxs g1=>∃j:Int,xs=[.int j]/\-(2 ^ 62)<=j/\j<2 ^ 62/\∀bA H' J,Ext ρ H bA H'->Rl X.K bA g1 H'->pR X.K bA H' (.fix (l0 0 j.toNat)) J->R J H') ?_ λxs g1 bG H1 vs e1 R1 r1 h=>?_
  .exact b0 hP ma _ _ _ _ _ _ (by rintro x g1 ⟨j,e,h1,h2,h⟩;show #[j,by rw[e],h1,h2,h]) (λy y z=>z) h
  .let#[j,rfl,h1,h2,h]:=h;let#[v,rfl,rv]:=r1.one;obtain rfl:=rv.f9;show#[_,rfl,h1,h2,h bG H1 _ e1 R1 IF]
def Th(ha:PE X a (LE X.K Ξ (aV P ma)))(hb:PE X b (LE X.K Ξ (aV P mb)))(hg:Gl X "range")(hm:X.mg "range"=none)(hs:starEach [a,b] X.env=[(false,eval a X.env),(false,eval b X.env)])(iU:starEach [b] X.env=[(false,eval b X.env)]) :
  PI X tg (.Call (.Name "range" p) [a,b] [] pos) (LI X.K Ξ (iR P (.iC ma mb))) :=
 (a28 hg hm (A9 hP ha (A9 hP hb (O4 hP) (by rw[iU];rfl)) (by rw[hs,iU])) hs iU).imp λbE H R bf=>by
  let#[σ,g,ρ,s,Rr,h]:=bf;show jM hP s Rr (.refl _ _) (Q0:=λxs g1=>∃i j:Int,xs=[.int i,.int j]/\(-(2 ^ 62)<=i/\i<2 ^ 62/\-(2 ^ 62)<=j/\j<2 ^ 62)/\∀bA H' J,Ext ρ H bA H'->Rl X.K bA g1 H'->pR X.K bA H' (.fix (l0 i (j-i).toNat)) J->R J H') ?_ λxs g1 bG H1 vs e1 R1 r1 h=>?_
  .exact b0 hP ma _ _ _ _ _ _ (λx g1 h=>b0 hP mb _ _ _ _ _ _ (by rintro y g2 ⟨i,j,e,e',h1,h⟩;show #[i,j,by rw[e,e'],h1,h]) (λu u z=>z) h) (λu u z=>z) h
  .let#[i,j,rfl,h1,h]:=h;let#[v,w,rfl,rv,fk]:=r1.two;obtain rfl:=rv.f9;obtain rfl:=fk.f9;show#[_,_,rfl,h1,h bG H1 _ e1 R1 IF]
end
def ZH(hN:X.Nd)(hi:X.N[i]?=!x)(hx:Loc X.env.scope x)(hf:X.fn x=true\/X.env.scope.names.lookup x=!.local):PG X (.Name x pos) (LG X.K (.one i)) :=
 (Mn hN hi hx hf).imp λv bE H Q hq=>by
  let#[d,σ,g,ρ,s,R,r,h]:=hq;show h _ (s.set i r)
inductive fB(X:Cx):@&Expr->@&Nat->Prop
 |nil:fB X [] []
 |cons {x:Str} {p:Pos} {i:Nat} {es:@&Expr} {is:@&Nat} (hi:X.N[i]?=!x) (hx:Loc X.env.scope x) (hf:X.fn x=true\/X.env.scope.names.lookup x=!.local) (r:fB X es is):fB X (.Name x p::es) (i::is)
abbrev zM:@&Nat->oG
 |[]=>Jx
 |i::is=>IB (uI i) (zM is)
def Kk(hN:X.Nd){es:@&Expr}{is:@&Nat}(h:fB X es is):uY X es (zM is):=by
 induction h with
 |nil=>show SD
 |cons hi hx hf r ih=>show UY (Mn hN hi hx hf) ih rfl
def EH:∀{es:@&Expr} {is:@&Nat},fB X es is->(assignEach es X.env).length=-is/\(assignEach es X.env).findIdx? (·.1)=none
 |_,_,.nil=>#[rfl,rfl]
 |_,_,.cons (x:=x) (p:=p) (es:=es) hi hx hf r=>by
  let#[h1,h2]:=EH r;let e:assignEach (.Name x p::es) X.env=(false,assign (.Name x p) X.env)::assignEach es X.env:=rfl;rw[e];show#[by simp[h1],?_];rw[List.findIdx?_cons,h2]
  rfl
def J'{K:PySem.W.Frag}{ρ:@&Addr}{H:Hp}{k:S->Prop}{Q:L2.St->Hp->Prop}:∀{is:@&Nat} {l:@&D} {vs:@&V} {σ cv:S} {bE:L2.St},S3 is l σ=!cv->a9 K ρ H l vs->o7 K ρ H σ bE->(∀dI,o7 K ρ H cv dI->Q dI H)->zM is vs bE H Q
 |[],_,_,_,_,_,h,.nil,s,q=>by
  cases h;show#[rfl,q _ s]
 |[],_,_,_,_,_,h,.cons _ _,s,q=>by cases h
 |i::is,_,_,_,_,_,h,.nil,s,q=>by cases h
 |i::is,_,_,_,_,_,h,.cons r rr,s,q=>by
  show#[_,_,rfl,J' (k:=k) h rr (s.set i r) q]
def KI:∀{is:@&Nat} {l:@&D} {σ cv:S},S3 is l σ=!cv->-l=-is
 |[],[],_,_,_=>rfl
 |[],_::_,_,_,h=>by simp only[S3] at h;cases h
 |_::_,[],_,_,h=>by simp only[S3] at h;cases h
 |_::is,_::l,_,_,h=>by simp only[S3] at h;simp[KI h]
def My{es:@&Expr}{is:@&Nat}{k:Nat}(hc:X.calm=true)(hN:X.Nd)(hs:fB X es is):PG X (.Tuple es k pos) (LG X.K (.many is)) :=
 (Zc hc (Kk hN hs) (EH hs).1 (EH hs).2).imp λv bE H Q bf=>by
  let#[d,σ,g,ρ,s,R,r,h]:=bf;let#[l,cv,rfl,e,h]:=h;let#[a',vs,rfl,ht,rs]:=r.A1;show#[_,_,rfl,ht.sq,by rw[<- -rs];show KI e,J' (k:=λx=>True) e rs s h]
def LN.ext{K ρ H N bG H1}(e:Ext ρ H bG H1):(LN K ρ H N).le (LN K bG H1 N) :=
 #[λσ g h bA H' dI e' R s=>h bA H' dI (e.trans e') R s,λd g h=>h.ext e,λσ g h bA H' dI e' R s=>h bA H' dI (e.trans e') R s,λσ g h bA H' dI e' R s=>h bA H' dI (e.trans e') R s]
section
variable{Ξ:gW}{P:fb}(hP:i3 P){a b c tg:Expr}{ma mb mc:ME}{st:Stmt}{rest:@&Stmt}{Br nv:MS}
include hP
def Od:jt X [] (LS X.K Ξ (wpS P .pass)) :=
 (SJ).imp (by rintro N bE H ⟨σ,g,ρ,s,R,h⟩;show h ρ H bE (.refl _ _) R s)
def MA(h1:PS X st (LS X.K Ξ (wpS P Br)))(h2:jt X rest (LS X.K Ξ (wpS P nv))):jt X (st::rest) (LS X.K Ξ (wpS P (.seq Br nv))) :=
 (Vb h1 h2).imp λN bE H ⟨σ,g,ρ,s,R,h⟩ =>
  vp hP s R (.refl _ _) (show wpS P Br { LN X.K ρ H N with nx:=λjq g1=>wpS P nv (LN X.K ρ H N) jq g1 (LX X.K ρ H Ξ) } σ g (LX X.K ρ H Ξ) from h) #[λjq g1 h bG H1 OD e1 R1 s1=>vp hP s1 R1 e1 h (LN.ext e1),λx x z=>z,λx x z=>z,λx x z=>z]
def Tr(ha:PE X a (LE X.K Ξ (aV P ma)))(hs:swapsWith a none pos.line X.env=pure false):PS X (.Expr a pos) (LS X.K Ξ (wpS P (.expr ma))) :=
 (SG ha hs).imp (by rintro N bE H ⟨σ,g,ρ,s,R,h⟩;show eT hP s R (.refl _ _) h λx g1 bG H1 v1 e1 R1 r1 h=>h bG H1 bE e1 R1 (s.ext e1))
def Of(h0:PS X (.Assign [.Name x p] a pos) (uA (LE X.K Ξ (aV P ma)) (uI i))):PS X (.Assign [.Name x p] a pos) (LS X.K Ξ (wpS P (.set i ma))) :=
 h0.imp (by rintro N bE H ⟨σ,g,ρ,s,R,h⟩;show eT hP s R (.refl _ _) h λx g1 bG H1 v1 e1 R1 r1 h=>h bG H1 _ e1 R1 ((s.ext e1).set i r1))
def ZX(h0:PS X (.Assign [tg] a pos) (uA (LE X.K Ξ (aV P ma)) (LG X.K t))):PS X (.Assign [tg] a pos) (LS X.K Ξ (wpS P (.tJ t ma))) :=
 h0.imp (by rintro N bE H ⟨σ,g,ρ,s,R,h⟩;show eT hP s R (.refl _ _) h λx g1 bG H1 v1 e1 R1 r1 h=>#[x,σ,g1,bG,s.ext e1,R1,r1,E1 (λcv h dI s'=>h bG H1 dI e1 R1 s') h])
def Tt{j:Nat}(h0:PS X (.Assign [tg] a pos) (uA (LE X.K Ξ (aV P ma)) (IC X.K (zM [i,j])))):PS X (.Assign [tg] a pos) (LS X.K Ξ (wpS P (.lO i j ma))) :=
 h0.imp λN bE H ⟨σ,g,ρ,s,R,h⟩=>eT hP s R (.refl _ _) h λv g1 bG H1 v1 e1 R1 r1 h=>by
  let#[b,x,l,rfl,hl,h]:=h;let#[a',rfl,ra]:=r1.i0;let#[vs,hq,rs]:=R1.items hl ra;cases rs with
  |@cons _ y _ ys rx rs =>
  show#[a',y,ys,rfl,hq,λp hp=>#[y,_,rfl,.ref p,[],rfl,rfl,?_]];let e2:=C5 (ρ:=bG) (o:=.lst ys) hp;show h (bG++[p]) _ _ (e1.trans e2) (R1.new hp (o:=.lst l) (u:=.lst ys) rs) (((s.ext (e1.trans e2)).set i (rx.ext e2)).set j (.ref (R1.u7 p)))
def VA(hu:X.A.units+100<cLine){i:Expr}(ha:PE X a (LE X.K Ξ (aV P ma)))(ho:PE X o (LE X.K Ξ (aV P mo)))(hi:PE X i (LE X.K Ξ (aV P mi)))(hs:swapsWithSole [.Subscript o i tp] a pos.line X.env=pure false)(oq:∀ v,assign (.Subscript o i tp) X.env v=(do
   let ov <- holding [v] (eval o X.env)
   let iv <- holding [v,ov] (eval i X.env)
   standAt tp
   holding [v,ov,iv] (setItem ov iv v)
   release [v,ov,iv] [])):PS X (.Assign [.Subscript o i tp] a pos) (LS X.K Ξ (wpS P (.eJ mo mi ma))) :=
 (FL ha (Zb ho hi (ZG hu) oq) hs).imp λN bE H ⟨σ,g,ρ,s,R,h⟩ =>
  eT hP s R (.refl _ _) h λx g1 bG H1 v1 e1 R1 r1 h=>eT hP (s.ext e1) R1 e1 h λy g2 eV H2 v2 e2 R2 r2 h=>eT hP (s.ext (e1.trans e2)) R2 (e1.trans e2) h λz g3 jV H3 v3 e3 R3 r3 h =>
   #[y,z,x,g3,jV,R3,r2.ext e3,r3,r1.ext (e2.trans e3),X9 (λg4 h lK H4 e4 R4=>h lK H4 bE (e1.trans (e2.trans (e3.trans e4))) R4 (s.ext (e1.trans (e2.trans (e3.trans e4))))) h]
omit hP in
def zI(K:PySem.W.Frag)(f:Str)(cs:@&Str):Prop:=∀c C,c∈cs->l7 K c C->C0 K C f
omit hP in
def Tf(hF:zI X.K f cs){ρ:@&Addr}{H:Hp}{g g':G}{x v:D}{xv vv:V}(R:Rl X.K ρ g H)(rx:c8 X.K ρ H x xv)(rv:c8 X.K ρ H v vv)(h:IZ f cs x v g g') :
  ∃a C dx fs,xv=.ref a/\H a=!.ins C dx fs/\iY X.K C/\C0 X.K C f/\-fs<1000/\Rl X.K ρ g' (upd H a (.ins C dx (u9 f vv fs)))/\Ext ρ H ρ (upd H a (.ins C dx (u9 f vv fs))):=by
 let#[i,c,fs,rfl,hi,hc,hz,rfl]:=h;let#[a',rfl,ra]:=rx.i0;let#[C,dx,vs,hH,hC,iV,rk,na]:=R.ins hi ra;let#[R',e']:=R.put (o':=.ins c (A2 f v fs)) (u:=.ins C dx (u9 f vv vs)) hi rfl ra #[hC,iV,rk.u9 rv,ER (hF c C hc hC) na];show#[a',C,dx,vs,rfl,hH,iV,hF c C hc hC,by rw[<- -rk];omega,R',e']
def Ts(hF:zI X.K f cs)(ho:PE X o (LE X.K Ξ (aV P mo)))(ha:PE X a (LE X.K Ξ (aV P ma)))(hs:swapsWith a (!.Attribute o f tp) pos.line X.env=pure false):PS X (.Assign [.Attribute o f tp] a pos) (LS X.K Ξ (wpS P (.dS f cs mo ma))) :=
 (Zh ho ha hs).imp λN bE H ⟨σ,g,ρ,s,R,h⟩=>eT hP s R (.refl _ _) h λx g1 bG H1 v1 e1 R1 r1 h=>eT hP (s.ext e1) R1 e1 h λy g2 eV H2 v2 e2 R2 r2 h=>by
  let#[g3,h,q]:=h;let#[a',C,dx,fs,hx,hH,iV,na,hz,R3,e3]:=Tf hF R2 r2 (r1.ext e2) h;show#[a',C,dx,fs,hx,hH,iV,na,hz,q eV _ bE (e1.trans (e2.trans e3)) R3 (s.ext (e1.trans (e2.trans e3)))]
def Tq{op:Operator}{p:Pr}(pk:(op=.Add/\p=.iadd)\/(op=.Sub/\p=.rP))(hN:X.Nd)(hi:X.N[i]?=!x)(hx:Loc X.env.scope x)(hf:X.fn x=true\/X.env.scope.names.lookup x=!.local)(ha:PE X a (LE X.K Ξ (aV P ma))):PS X (.AugAssign (.Name x tp) op a pos) (LS X.K Ξ (wpS P (.nV i p ma))):=by
 let ho:Oi X op (r2 X.K p):=by
  intro pi s σ H x y v u Q I rx ry h;let#[d,e,g,ρ,R,rd,re,d',g',hr,q]:=h;rcases pk with⟨rfl,rfl⟩|⟨rfl,rfl⟩
  .rcases hr with⟨i,j,ex,rfl,rfl⟩|⟨l,m,ex,hz,rfl,rfl⟩
   .let#[rfl,rfl]:=w9 ex;obtain rfl:=rd.f9;obtain rfl:=re.f9;show RO pi s σ H _ _ v u Q I rx ry #[i,j,rfl,rfl,q.now R (.int _)]
   .let#[rfl,rfl]:=w9 ex;let#[p1,yR,rfl,t1,nj]:=rd.A1;let#[p2,oQ,rfl,t2,lR]:=re.A1;show LR pi s σ H _ _ v u Q I rx ry (.inr #[p1,p2,yR,oQ,rfl,rfl,t1.sq,t2.sq,by rw[<- -nj,<- -lR];show i4 hz,λz=>?_,λz=>?_,λp hp=>q.tup R hp (nj.append lR)])
    .subst z;cases nj;show q.now R (.tup t2 lR)
    .subst z;cases lR;rw[fI] at q;show q.now R (.tup t1 nj)
  .let#[i,j,ex,rfl,rfl]:=hr;let#[rfl,rfl]:=w9 ex;obtain rfl:=rd.f9;obtain rfl:=re.f9;show RP pi s σ H _ _ v u Q I rx ry #[i,j,rfl,rfl,q.now R (.int _)]
 show(Zg hN hi hx ha ho hf).imp λN bE H bf=>?_;let#[σ,g,ρ,s,R,h]:=bf;let#[xd,PZ,h]:=h;let#[xv,hv,rx]:=s.val _ _ PZ;show#[xv,hv,eT hP s R (.refl _ _) h λz g1 bG H1 v1 e1 R1 r1 h=>?_];show#[xd,z,g1,bG,R1,rx.ext e1,r1,p9 (λw g2 q=>?_) h];show λeV H2 v2 e2 R2 r2=>q eV H2 _ (e1.trans e2) R2 ((s.ext (e1.trans e2)).set i r2)
def Tp(hF:zI X.K f cs)(ho:PE X o (LE X.K Ξ (aV P mo)))(ha:PE X a (LE X.K Ξ (aV P ma))):PS X (.AugAssign (.Attribute o f tp) .Add a pos) (LS X.K Ξ (wpS P (.ku f cs mo ma))) :=
 (a25 ho ha LR).imp λN bE H ⟨σ,g,ρ,s,R,h⟩=>eT hP s R (.refl _ _) h λy g1 bG H1 v1 e1 R1 r1 h=>by
  let#[i,c,fs,x,rfl,hi,hc,hf,h]:=h;let#[a',rfl,ra]:=r1.i0;let#[C,dx,vs,hH,hC,iV,rk,na]:=R1.ins hi ra;let lk:=rk.look f;rw[hf] at lk;let#[v,hv,rv]:=lk.some;show#[a',C,dx,vs,v,rfl,hH,iV,hF c C hc hC,hv,eT hP (s.ext e1) R1 e1 h λz g3 jV H3 v3 e3 R3 r3 h=>?_];let#[d',g',hR,iX,kQ,hz,q]:=h;let fin:∀{lK:@&Addr} {H4:Hp} {vv:V},Ext jV H3 lK H4->Rl X.K lK g' H4->c8 X.K lK H4 d' vv->∃ur iX,H4 a'=!.ins C ur iX/\-iX<1000/\N.nx bE (upd H4 a' (.ins C ur (u9 f vv iX))):=by
   intro lK H4 vv e4 R4 r4;let#[C2,HI,oQ,Cs,Hy,Ce,GA,Ph]:=R4.ins kQ ((e3.trans e4).get ra);have:C2=C:=by grind
   subst this;let#[R5,e5]:=R4.put (o':=.ins c (A2 f d' iX)) (u:=.ins C2 HI (u9 f vv oQ)) kQ rfl ((e3.trans e4).get ra) #[Hy,Ce,GA.u9 r4,ER (hF c C2 hc Hy) Ph];show#[HI,oQ,Cs,by rw[<- -GA];omega,q lK _ bE (e1.trans (e3.trans (e4.trans e5))) R5 (s.ext (e1.trans (e3.trans (e4.trans e5))))]
  rcases hR with⟨j,l,ex,rfl,rfl⟩|⟨l,m,ex,GW,rfl,rfl⟩
  .let#[rfl,rfl]:=w9 ex;obtain rfl:=rv.f9;obtain rfl:=r3.f9;show .inl #[_,_,rfl,rfl,fin (.refl _ _) R3 (.int _)]
  .let#[rfl,rfl]:=w9 ex;let#[p1,yR,rfl,t1,nj]:=(rv.ext e3).A1;let#[p2,oQ,rfl,t2,lR]:=r3.A1;show .inr #[p1,p2,yR,oQ,rfl,rfl,t1.sq,t2.sq,by rw[<- -nj,<- -lR];show i4 GW,λz=>?_,λz=>?_,λp hp=>?_]
   .subst z;cases nj;show fin (.refl _ _) R3 (.tup t2 lR)
   .subst z;cases lR;rw[fI] at fin;show fin (.refl _ _) R3 (.tup t1 nj)
   .exact fin (p6 hp) (R3.grow hp) (.tup (.inl k9) ((nj.append lR).ext (p6 hp)))
def Xx{sa sb:@&Stmt}{GO msb:MS}(hc:PT X c (LT X.K Ξ (dM P mc)))(ha:jt X sa (LS X.K Ξ (wpS P GO)))(hb:jt X sb (LS X.K Ξ (wpS P msb))):PS X (.If c sa sb pos) (LS X.K Ξ (wpS P (.ifs mc GO msb))) :=
 (Xh hc ha hb).imp λN bE H ⟨σ,g,ρ,s,R,h⟩=>rm hP s R (.refl _ _) h λt g1 bG H1 e1 R1 h=>by
  cases t
  .exact vp hP (s.ext e1) R1 e1 h (LN.ext e1)
  .exact vp hP (s.ext e1) R1 e1 h (LN.ext e1)
def Oe(ha:PE X a (LE X.K Ξ (aV P ma))):PS X (.Return (!a) pos) (LS X.K Ξ (wpS P (.ret ma))) :=
 (Zj ha).imp (by rintro N bE H ⟨σ,g,ρ,s,R,h⟩;show #[σ,g,ρ,s,R,h])
def ZV{iter:Expr}{body:@&Stmt}{mb:MS}(hp:PassesOwn (model X.prog X.w) X.A X.env X.xe)(hc:X.calm=true)(hi:PI X tg iter (LI X.K Ξ (iR P mi)))(hg:PG X tg (LG X.K t))(hb:jt X body (LS X.K Ξ (wpS P mb)))(hs:∀x,foldedSetIterable iter X.env x=pure x):PS X (.For tg iter body [] pos) (LS X.K Ξ (wpS P (.iE t mi mb))) :=
 (Zi hp hc hi hg hb hs).imp λN bE H bf=>by
  let#[σ,g,ρ,s,R,h]:=bf;show#[σ,g,ρ,s,R,C3 hP mi _ _ _ _ _ _ (λk g1 h bG H1 J e1 R1 j1=>?_) (λu u z=>z) h];let#[W,#[m0,w0],h]:=h;show#[λi m dI H'=>∃cv g' bA,Ext bG H1 bA H'/\o7 X.K bA H' cv dI/\Rl X.K bA g' H'/\W i m cv g',#[m0,σ,g1,bG,.refl _ _,s.ext e1,R1,w0],?_];rintro i m dI H' ⟨cv,g',bA,e',s',R',w'⟩;let#[vY,vX]:=j1 bA g' H' e' R' i;rcases h i m cv g' w' with⟨ek,q⟩|⟨x,ek,N2,QP,q⟩
  .exact .inl #[vY ek,q bA H' dI (e1.trans e') R' s']
  .let#[go,yl]:=vX x ek;show .inr #[go,λmX H2=>∃dh g2 eV,Ext bG H1 eV H2/\o7 X.K eV H2 dh mX/\Rl X.K eV g2 H2/\N2 dh g2,?_,?_]
   .rintro mX H2 ⟨dh,g2,eV,e2,s2,R2,n2⟩;let#[m',hm,w2]:=QP dh g2 n2;show#[m',hm,dh,g2,eV,e2,s2,R2,w2]
   .intro v H2 y;let#[e2,R2,r2]:=yl v H2 y;show#[x,cv,g',bA,s'.ext e2,R2,r2,E1 (λdh q mX s2=>?_) q];show vp hP s2 R2 (e1.trans (e'.trans e2)) q #[?_,?_,?_,?_]
    .exact λlJ g3 n3 jV H3 qY e3 R3 s3=>#[lJ,g3,jV,(e'.trans e2).trans e3,s3,R3,n3]
    .exact λd g3 h=>h.ext (e1.trans (e'.trans e2))
    .exact λlJ g3 h jV H3 qY e3 R3 s3=>h jV H3 qY (e1.trans ((e'.trans e2).trans e3)) R3 s3
    .exact λlJ g3 n3 jV H3 qY e3 R3 s3=>#[lJ,g3,jV,(e'.trans e2).trans e3,s3,R3,n3]
def MO{c9:@&Nat}{n:Nat}{iS me:ME}:∀bE H Q,LE X.K Ξ (aV P (.comp c9 n t mi iS me)) bE H Q->ya (LI X.K Ξ (iR P mi)) c9 n (LG X.K t) (LT X.K (oE Ξ.1) (dM P iS)) (LE X.K (oE Ξ.1) (aV P me)) bE H Q:=λbE H Q bf=>by
 let#[σ,g,ρ,s,R,h]:=bf;show#[σ,g,ρ,s,R,C3 hP mi _ _ _ _ _ _ (λk g1 h bG H1 J e1 R1 j1=>?_) (λw w z=>z) h];let#[W,#[m0,w0],h]:=h;show#[λi m vk dI H'=>∃ys cv g' bA,Ext bG H1 bA H'/\o7 X.K bA H' cv dI/\Rl X.K bA g' H'/\a9 X.K bA H' ys vk/\W i m ys cv g',#[m0,[],_,g1,bG,.refl _ _,(s.ext e1).c9 c9 n,R1,.nil,w0],?_];rintro i m vk dI H' ⟨ys,cv,g',bA,e',s',R',ry,w'⟩;let#[vY,vX]:=j1 bA g' H' e' R' i;rcases h i m ys cv g' w' with⟨ek,q⟩|⟨x,ek,hz,q⟩
 .exact .inl #[vY ek,λp hp=>(q.ext (e1.trans e')).new R' hp ry]
 .let#[go,yl]:=vX x ek;show .inr #[go,by rw[<- -ry];show Ad hz,λv H2 y=>?_];let#[e2,R2,r2]:=yl v H2 y;show#[x,cv,g',bA,s'.ext e2,R2,r2,E1 (λdh q mX s2=>?_) q];show#[dh,g',bA,s2,R2,t9 hP iS _ _ _ _ _ _ (λb g3 q jV H3 e3 R3=>?_) (λw w z=>z.elim) q];cases b
  .let#[m',hm,w3]:=q;show#[m',hm,ys,dh,g3,jV,(e'.trans e2).trans e3,s2.ext e3,R3,(ry.ext e2).ext e3,by simpa using w3]
  .refine#[dh,g3,jV,s2.ext e3,R3,b0 hP me _ _ _ _ _ _ (λz g4 q lK H4 v4 e4 R4 r4=>?_) (λw w z=>z.elim) q];let#[m',hm,w4]:=q;show#[m',hm,ys++[z],dh,g4,lK,(e'.trans e2).trans (e3.trans e4),(s2.ext e3).ext e4,R4,(((ry.ext e2).ext e3).ext e4).append (.cons r4 .nil),by simpa using w4]
def a22{c9:@&Nat}{n:Nat}{iS me:ME}:∀bE H Q,LE X.K Ξ (aV P (.gQ c9 n t mi iS me)) bE H Q->ya (LI X.K Ξ (iR P mi)) c9 n (LG X.K t) (LT X.K (oE Ξ.1) (dM P iS)) (LE X.K Ξ (aV P me)) bE H Q:=λbE H Q bf=>by
 let#[σ,g,ρ,s,R,h]:=bf;show#[σ,g,ρ,s,R,C3 hP mi _ _ _ _ _ _ (λk g1 h bG H1 J e1 R1 j1=>?_) (λw w z=>z) h];let#[W,#[m0,w0],h]:=h;show#[λi m vk dI H'=>∃ys cv g' bA,Ext bG H1 bA H'/\o7 X.K bA H' cv dI/\Rl X.K bA g' H'/\a9 X.K bA H' ys vk/\W i m ys cv g',#[m0,[],_,g1,bG,.refl _ _,(s.ext e1).c9 c9 n,R1,.nil,w0],?_];rintro i m vk dI H' ⟨ys,cv,g',bA,e',s',R',ry,w'⟩;let#[vY,vX]:=j1 bA g' H' e' R' i;rcases h i m ys cv g' w' with⟨ek,q⟩|⟨x,ek,hz,q⟩
 .exact .inl #[vY ek,λp hp=>(q.ext (e1.trans e')).new R' hp ry]
 .let#[go,yl]:=vX x ek;show .inr #[go,by rw[<- -ry];show Ad hz,λv H2 y=>?_];let#[e2,R2,r2]:=yl v H2 y;show#[x,cv,g',bA,s'.ext e2,R2,r2,E1 (λdh q mX s2=>?_) q];show#[dh,g',bA,s2,R2,t9 hP iS _ _ _ _ _ _ (λb g3 q jV H3 e3 R3=>?_) (λw w z=>z.elim) q];cases b
  .let#[m',hm,w3]:=q;show#[m',hm,ys,dh,g3,jV,(e'.trans e2).trans e3,s2.ext e3,R3,(ry.ext e2).ext e3,by simpa using w3]
  .refine#[dh,g3,jV,s2.ext e3,R3,b0 hP me _ _ _ _ _ _ (λz g4 q lK H4 v4 e4 R4 r4=>?_) (λw w z=>z.ext (e1.trans ((e'.trans e2).trans e3))) q];let#[m',hm,w4]:=q;show#[m',hm,ys++[z],dh,g4,lK,(e'.trans e2).trans (e3.trans e4),(s2.ext e3).ext e4,R4,(((ry.ext e2).ext e3).ext e4).append (.cons r4 .nil),by simpa using w4]
end
end M
namespace M
open PySem L2
section
variable{P:fb}(hP:i3 P)
include hP
end
end M
namespace M
open PySem L2 PySem.Spec PyProof.Rows
variable{X:Cx}{Ξ:gW}{P:fb}{x qual:Str}{pos px:Pos}{c:d5}{i n k:Nat}{e o b a:Expr}{es args:@&Expr}{env:Env}{p:Pr}{f:Addr}{sc scope:Scope}{A:Around}{s:Shared}{H:Hp}{r:CF}{m:ME}{cd:Value}{N:@&Str}{outer:@&Env}{E:XK}
section
variable(hP:i3 P)
include hP
def Vz{C:Addr}{B newId gB:String}{bm:@&Value}{np dY:Pos}{jI:Expr}{rest:@&Expr}{gJ:ME}(hc:X.calm=true)(O:OwnCls x C bm newId X.mg X.base)(FB:ExcBaseFacts B newId gB bm)(hg:Gl X x)(ha:PA X (jI::rest) (LA X.K Ξ (fj P gJ)))(hr:zW X Ξ.2)(hx:x∈Ξ.1)(hC:l7 X.K x C)(he:starEach (jI::rest) X.env=(false,eval jI X.env)::starEach rest X.env)(eN:(backTo dY (starEach rest X.env)).any (·.1)=false)(hd:(x==("__debug__":Str))=false):PS X (.Raise (!.Call (.Name x np) (jI::rest) [] dY) none pos) (LS X.K Ξ (wpS P (.raise x gJ))) :=
 (Va hc O FB hg ha hr he eN hd).imp λN bE H bf=>by
  let#[σ,g,ρ,s,R,h]:=bf;show jM hP s R (.refl _ _) h λds g1 bG H1 vs e1 R1 r1 h=>?_;show#[by rw[<- -r1];show i4 (aF h.1 ∅),h.2 bG H1 C e1 R1 hx hC]
abbrev Az(X:Cx)(ex:@&Str)(D:L2.Ends)(cU:L2.St)(hs:@&ExceptHandler):gW:=(ex,λv x H=>∃C,v=.ref C/\sW X D cU C H hs)
inductive kz(X:Cx)(Ξ:gW)(P:fb):@&ExceptHandler->@&(Str×ME)->Prop
 |nil (hh:uP X Ξ.2):kz X Ξ P [] []
 |cons {y:Str} {C':Addr} {p p1 p2:Pos} {e:Expr} {me:ME} {hs:@&ExceptHandler} {ms:@&(Str×ME)} (hg:Gl X y) (hd:(y==("__debug__":Str))=false) (hm:X.mg y=!.ref C')
   (hx:∀x C,x∈Ξ.1->l7 X.K x C->PySem.W.exmOne X.K (.ref C) (.ref C')=!decide (x=y\/y="MintError")) (he:∀ea,PE (F7 X ea) e (LE X.K (oE Ξ.1) (aV P me))) (r:kz X Ξ P hs ms) :
   kz X Ξ P (.ExceptHandler (!.Name y p) none [.Return (!e) p1] p2::hs) ((y,me)::ms)
 |nZ {y:Str} {C':Addr} {p p2:Pos} {nS:Stmt} {su:@&Stmt} {hs:@&ExceptHandler} {ms:@&(Str×ME)} (hg:Gl X y) (hd:(y==("__debug__":Str))=false) (hm:X.mg y=!.ref C')
   (hx:∀x C,x∈Ξ.1->l7 X.K x C->PySem.W.exmOne X.K (.ref C) (.ref C')=!decide (x=y\/y="MintError")) (r:kz X Ξ P hs ms) :
   kz X Ξ P (.ExceptHandler (!.Name y p) none (nS::su) p2::hs) ((y,.no)::ms)
set_option tactic.hygienic true in
def Em{N:L2.Ends}{ρ bA:@&Addr}{H H':Hp}{σ:S}{g:G}{x:Xn}{C:Addr}(hl:σ.length=-X.N)(e:Ext ρ H bA H')(R:Rl X.K bA g H')(hx:x.cls∈Ξ.1)(hC:l7 X.K x.cls C) :
  ∀{hs:@&ExceptHandler} {ms:@&(Str×ME)},kz X Ξ P hs ms->lL P (LN X.K ρ H N) (σ.map λw=>none) (LX X.K ρ H Ξ) ms x g->sW X N (List.replicate (-X.N) none) C H' hs
 |_,_,.nil hh,q=>#[Ξ.2,hh,q bA H' C e R hx hC]
 |_,_,.cons (me:=me) hg hd hm Bz he r,q=>by
  show#[hg,hd,_,_,hm,Bz _ _ hx hC,?_];unfold lL at q;split at q
  .rename_i ex;rw[av (_/ex)];show#[LS X.K (oE Ξ.1) (wpS P (.seq (.ret me) .pass)),λea=>MA (X:=F7 X ea) (Ξ:=oE Ξ.1) hP (Oe (X:=F7 X ea) hP (he ea)) (Od (X:=F7 X ea) hP),?_];show#[σ.map λw=>none,g,bA,#[by simp[hl],λi d z=>?_],R,?_]
   .rw[aG] at z;cases e:σ[i]? with
    |none=>rw[e] at z;cases z
    |some y=>rw[e] at z;cases z
   .skip
    show b0 hP me _ _ _ _ _ _ (λd g1 h=>?_) (λw w z=>z.elim) q;show h.ext e
  .rename_i ex;rw[aw (_/ex)];show Em hl e R hx hC r q
 |_,_,.nZ hg hd hm Bz r,q=>by
  show#[hg,hd,_,_,hm,Bz _ _ hx hC,?_];unfold lL at q;split at q
  .exact(show False from q).elim
  .rename_i ex;rw[aw (_/ex)];show Em hl e R hx hC r q
def ZW{h₀:ExceptHandler}{hs:@&ExceptHandler}{ms:@&(Str×ME)}{body:@&Stmt}{mb:MS}(oh:X.sg=none)(hb:∀pi D,jt (X8 X pi (AS X pi D (h₀::hs))) body (LS X.K (Az X Ξ.1 D (List.replicate (-X.N) none) (h₀::hs)) (wpS P mb)))(hh:kz X Ξ P (h₀::hs) ms):PS X (.Try body (h₀::hs) [] [] pos) (LS X.K Ξ (wpS P (.T4 mb ms))):=by
 intro pi s bE H N I ⟨σ,g,ρ,sr,R,h⟩;show Zk (t:=λD y=>LS X.K (Az X Ξ.1 D (List.replicate (-X.N) none) (h₀::hs)) (wpS P mb)) (Ξ:=λD y=>(Az X Ξ.1 D (List.replicate (-X.N) none) (h₀::hs)).2) (λy=>none) (λy=>List.replicate (-X.N) none) (λy y z=>by cases z) oh (λpi D y y=>hb pi D) pi s bE H N I #[(by rintro C H' ⟨C',e,z⟩;simp_all),?_];show#[σ,g,ρ,sr,R,wpS_mono hP mb _ _ _ _ _ _ #[λy y z=>z,λy y z=>z,λy y z=>z,λy y z=>z] (λx g1 q bA H' C e' R' hm hc=>#[C,rfl,?_]) h];show Em (Ξ:=Ξ) hP (sr.len.trans I.len) e' R' hm hc hh q
end
structure d5 where
 N:@&Str
 nm:@&(Str×NameKind)
 ox:Bool
 fns:@&(Str×Nat)
 con:@&(Str×D)
 blt:@&Str
 exc:@&Str
 gd:@&(Str×@&D)
 cls:@&(Str×Nat)
 nu:@&(Str×Str×Nat)
 nR:@&(Str×Str)
 jB:Bool
 iA:Bool
 wr:Bool:=true
abbrev gj:Expr->Bool
 |.Set ..=>false
 |.Starred ..=>false
 |.Slice ..=>false
 |_=>true
abbrev w5:Expr->Bool
 |.ListComp ..=>false
 |.SetComp ..=>false
 |.DictComp ..=>false
 |_=>true
abbrev sZ:Expr->Bool
 |.Tuple ..=>false
 |_=>true
abbrev EG:Expr->Bool
 |.Name ..=>true
 |.Call ..=>true
 |.Subscript ..=>true
 |.Constant ..=>true
 |.Attribute ..=>true
 |.BinOp ..=>true
 |_=>false
abbrev yg:Expr->Bool
 |.Call (.Name ..) [] ..=>false
 |_=>true
abbrev d5.idx(c:d5)(x:Str):Option Nat:=c.N.findIdx? λy=>decide (y=x)
def d5.rj(c:d5)(x:Str):Bool:=match c.nm.lookup x with
 |some .local=>true
 |some .cell=>true
 |some .free=>true
 |_=>false
def d5.gl(c:d5)(x:Str):Bool:=decide (c.nm.lookup x=!.globalImplicit)
def d5.A3(c:d5)(x:Str):Bool:=decide (c.nm.lookup x=!.local)||decide (c.nm.lookup x=!.cell)
def P9(x:Str):Bool:=(x==("__debug__":Str))==false&&(x==("__classdict__":Str))==false&&decide (x≠"__name__")
abbrev Fp:@&(Str×String):=[("int","int"),("bool","bool"),("str","str"),("tuple","tuple"),("list","list")]
abbrev FC:@&(Str×Pr):=[("len",.len),("list",.list),("tuple",.tuple),("isinstance",.isin),("all",.all),("min",.min),("int",.int),("str",.str),("dict",.kq)]
abbrev yn:@&(Str×Pr):=[("clear",.clear),("pop",.je)]
abbrev FH:@&(Str×Pr):=[("append",.append),("join",.join),("split",.split)]
abbrev V6:Expr->Option (Str×@&Expr)
 |.Call (.Name x _) args [] _=>!(x,args)
 |_=>none
abbrev HU:Expr->Bool
 |.Tuple ..=>true
 |_=>false
abbrev asName:Expr->Option Str
 |.Name x _=>!x
 |_=>none
abbrev frees(sc:Scope):@&Str:=(sc.names.filter λy=>decide (y.2=.free)).map (·.1)
abbrev locals(sc:Scope):@&Str:=(sc.names.filter λy=>decide (y.2=.local)||decide (y.2=.cell)).map (·.1)
def d5.inner(c:d5)(sc:Scope):d5:={ c with N:=frees sc++locals sc,nm:=sc.names,ox:=false,jB:=false,iA:=false,wr:=true }
abbrev d5.c9(c:d5)(sc:Scope):@&Nat:=(frees sc).map λx=>(c.idx x).getD 0
abbrev d5.D'(c:d5)(sc:Scope):Bool :=
 decide (sc.kind=.function)&&sc.names.all (λy=>~~~decide (y.2=.cell)||decide (sc.names.lookup y.1=!.cell))&&sc.names.all (λy=>~~~decide (y.2=.local)||decide (sc.names.lookup y.1=!.local)) &&
 decide (frees sc++locals sc).Nodup&&(frees sc).all (λx=>(c.idx x).isSome&&decide (sc.names.lookup x=!.free)&&(decide (c.nm.lookup x=!.cell)||decide (c.nm.lookup x=!.free)))
abbrev d5.slot(c:d5)(e:Expr):Option Nat:=(asName e).bind λx=>if c.A3 x then c.idx x else none
abbrev d5.slots(c:d5):@&Expr->Option (@&Nat)
 |[]=>![]
 |e::r=>(c.slot e).bind λi=>(c.slots r).map λis=>i::is
abbrev d5.tg(c:d5)(e:Expr):Option MT:=((c.slot e).map .one).orElse λx=>match e with
 |.Tuple es _ _=>(c.slots es).map .many
 |_=>none
abbrev sY:Const->Option D
 |.int i=>!.int i
 |.bool b=>!.bl b
 |.none=>!.aO
 |.str x=>!.str x
 |_=>none
structure CF where
 e:d5->Expr->Option ME
 t:d5->Expr->Option ME
 s:d5->Stmt->Option MS
section
variable(r:CF)(c:d5)
abbrev c1(p:Pr)(a:Expr):Option ME:=(r.e c a).map λm=>.prim p (.cons m .nil)
abbrev c2(p:Pr)(a b:Expr):Option ME:=(r.e c a).bind λma=>(r.e c b).map λmb=>.prim p (.cons ma (.cons mb .nil))
abbrev I9:@&Expr->Option ME
 |[]=>!.nil
 |e::es=>if gj e then(r.e c e).bind λm=>(I9 es).map λms=>.cons m ms else none
abbrev Jn:Expr->Option Str
 |.Constant (.str x) _ _=>!x
 |_=>none
abbrev Jp:Expr->Option Expr
 |.FormattedValue e k none _=>if k=-1 then some e else none
 |_=>none
abbrev xR:@&Expr->Option ME
 |[]=>!.nil
 |e::es=>((Jn e).bind λx=>if (-x)<=2000 then(xR es).map λms=>.cons (.lit (.str x)) ms else none).orElse λ_ =>
   (Jp e).bind λa=>(r.e c a).bind λm=>(xR es).map λms=>.cons (.prim .fv (.cons m .nil)) ms
abbrev AE:@&(Option Expr)->@&Expr->Option ME
 |[],[]=>!.nil
 |some k::ks,v::vs=>(r.e c k).bind λmk=>(r.e c v).bind λmv=>(AE ks vs).map λms=>.cons mk (.cons mv ms)
 |_,_=>none
abbrev EZ(op:BoolOp):@&Expr->Option ME
 |[]=>none
 |[a]=>r.e c a
 |a::b::rs=>(r.e c a).bind λma=>(EZ op (b::rs)).map λmb=>match op with
  |.And=>.eO ma mb
  |.Or=>.gI ma mb
abbrev Fb(op:BoolOp):@&Expr->Option ME
 |[]=>none
 |[a]=>r.t c a
 |a::b::rs=>(r.t c a).bind λma=>(Fb op (b::rs)).map λmb=>match op with
  |.And=>.eO ma mb
  |.Or=>.gI ma mb
abbrev Nx:@&Expr->Option ME
 |[]=>!.no
 |[e]=>r.t c e
 |_=>none
abbrev A7:@&Stmt->Option MS
 |[]=>!.pass
 |s::rs=>(r.s c s).bind λm=>(A7 rs).map λms=>.seq m ms
abbrev Fz(x:Str):Option ME :=
 if P9 x then(if c.rj x then(c.idx x).map .var else if c.gl x then((c.con.lookup x).map .lit).orElse λy=>if c.blt.contains x then(Fp.lookup x).map λt=>.lit (.ty t) else none else none) else none
abbrev Bf(op:UnaryOp)(a:Expr):Option ME:=if op=.Not then(r.e c a).map .cL else c1 r c (.un op) a
abbrev d5.Dy(b:Expr):Option (@&D):=(asName b).bind λx=>if c.gl x&&P9 x then c.gd.lookup x else none
abbrev b45:CmpOp->Option Bool
 |.In=>!false
 |.NotIn=>!true
 |_=>none
abbrev yB(a:Expr)(ops:@&CmpOp)(bs:@&Expr):Option ME:=match ops,bs with
 |[op],[b]=>if behindInMarks op b then none else((b45 op).bind λneg=>(c.Dy b).bind λkvs=>(r.e c a).map λma=>.prim (AG neg) (.cons (.lit (.tup kvs)) (.cons ma .nil))).orElse λx=>c2 r c (.cmp op) a b
 |[op,ip],[b,d]=>if lastMarks [op,ip] [b,d] then none else(r.e c a).bind λma=>(r.e c b).bind λmb=>(r.e c d).map λmd=>.chain op ip ma mb md
 |_,_=>none
abbrev b56:Expr->Option (Option Expr×Option Expr×Option Expr)
 |.Slice lo hi st _=>!(lo,hi,st)
 |_=>none
abbrev Gq(a:Expr):Option Expr->Option Expr->Option Expr->Option ME
 |some b,none,none=>c2 r c (.kY true false) a b
 |none,!b,none=>c2 r c (.kY false true) a b
 |_,_,_=>none
abbrev JP(a b:Expr):Option ME:=((b56 b).bind λq=>Gq r c a q.1 q.2.1 q.2.2).orElse λx=>if gj b then((c.Dy a).bind λkvs=>(r.e c b).map λmb=>.prim .kS (.cons (.lit (.tup kvs)) (.cons mb .nil))).orElse λx=>c2 r c .ix a b else none
abbrev Gp(x:Str)(e:Expr):Option ME:=(V6 e).bind λq =>
 if x="list" && q.1="range" && c.blt.contains "list" && c.blt.contains "range" && c.gl "range" then (match q.2 with
  |[a]=>if gj a then c1 r c .ke a else none
  |[a,b]=>if gj a&&gj b then c2 r c .jZ a b else none
  | _=>none)
 else if x="sorted" && q.1="set" && c.blt.contains "sorted" && c.blt.contains "set" && c.gl "set" then (match q.2 with
  |[a]=>if gj a then c1 r c .sset a else none
  | _=>none)
 else if x="len" && q.1="set" && c.blt.contains "len" && c.blt.contains "set" && c.gl "set" then (match q.2 with
  |[a]=>if gj a then c1 r c .sS a else none
  | _=>none)
 else none
abbrev Wb(x:Str)(e:Expr):@&Expr->Option ME
 |[]=>Gp r c x e
 |_=>none
abbrev Gs(x:Str)(e:Expr):@&Expr->Option ME
 |[b]=>(asName b).bind λy=>if decide (x="isinstance")&&c.blt.contains "isinstance"&&c.gl y&&P9 y&&gj e&&(c.cls.lookup y).isSome then c1 r c (.wa y) e else none
 |_=>none
abbrev FU(x:Str):Option ME:=if P9 x&&c.gl x then((c.fns.lookup x).map λf=>.call f .nil).orElse λy=>(c.cls.lookup x).map λf=>.make x f .nil else none
abbrev FV(x:Str)(e:Expr)(es:@&Expr):Option ME:=if P9 x&&c.gl x then(Gs r c x e es).orElse λy=>(Wb r c x e es).orElse λy=>(I9 r c (e::es)).bind λms=>((c.fns.lookup x).map λf=>.call f ms).orElse λy=>((c.cls.lookup x).map λf=>.make x f ms).orElse λy=>if c.blt.contains x then(FC.lookup x).map λp=>.prim p ms else none else none
abbrev Lv(x:Str):@&Expr->Option ME
 |[]=>FU c x
 |e::es=>FV r c x e es
abbrev d5.meths(m:Str):@&(Str×Nat):=(c.nu.filter λy=>decide (y.1=m)).map (·.2)
abbrev FW(o:Expr)(m:Str)(apos pos:Pos)(args:@&Expr):Option ME :=
 if yg o && (apos.endLine == pos.line) && decide (-args < 20) then (r.e c o).bind λmo=>(I9 r c args).bind λms=>if m="index" then (if args.isEmpty then none else !.dk .index mo ms) else if args.isEmpty && (yn.lookup m).isSome then (yn.lookup m).map λp=>.dk p mo ms else (match FH.lookup m with
  |some p=>if args.isEmpty then none else !.dk p mo ms
  | none=>!.bg m (c.meths m) mo ms) else none
abbrev Fy(f:Expr)(args:@&Expr)(jf:@&Keyword)(pos:Pos):Option ME:=if jf.isEmpty then(match f with
 |.Name x _=>Lv r c x args
 |.Attribute o m apos=>FW r c o m apos pos args
 | _=>none) else none
abbrev xS(tg e:Expr):Option ME:=(((V6 e).bind λq =>
  if q.1="range" then (match q.2 with
   |[a]=>if c.gl "range"&&c.blt.contains "range"&&gj a then(r.e c a).map .fO else none
   |[a,b]=>if c.gl "range"&&c.blt.contains "range"&&gj a&&gj b then(r.e c a).bind λma=>(r.e c b).map λmb=>.iC ma mb else none
   | _=>none)
  else if q.1="zip" then (match q.2 with
   |[a,b]=>if c.gl "zip"&&c.blt.contains "zip"&&gj a&&gj b&&HU tg then(r.e c a).bind λma=>(r.e c b).map λmb=>.og ma mb else none
   | _=>none)
  else none):Option ME).orElse λx=>if gj e then (r.e c e).map .jg else none
abbrev uO(elt:Expr)(gens:@&Comprehension)(sc:Scope):Option ME:=match gens with
 |[#[tg,it,ifs,GV]]=>if c.D' sc&&decide (GV=0)&&gj it then((c.inner sc).tg tg).bind λt=>(xS r c tg it).bind λmi=>(Nx r (c.inner sc) ifs).bind λmc=>(r.e (c.inner sc) elt).map λme=>.comp (c.c9 sc) (frees sc++locals sc).length t mi mc me else none
 |_=>none
abbrev b57:Expr->Option Str
 |.Name x _=>!x
 |_=>none
abbrev Bg(f:Expr)(args:@&Expr)(jf:@&Keyword):Option ME:=(λ(_:CF) (_:d5)=>none) r c
abbrev Jo:Expr->Option (Expr×Expr)
 |.BinOp a .BitOr b _=>!(a,b)
 |_=>none
abbrev Dv:@&Expr->Option Str
 |[.Name x _]=>!x
 |_=>none
abbrev yQ(f:Expr)(args:@&Expr)(jf:@&Keyword):Option ME:=match args with
 |[a]=>if jf.isEmpty&&decide (b57 f=some "sorted")&&c.gl "sorted"&&c.blt.contains "sorted"&&c.gl "set"&&c.blt.contains "set" then(Jo a).bind λq=>(V6 q.1).bind λu=>(V6 q.2).bind λv=>if decide (u.1="set")&&decide (v.1="set") then(Dv u.2).bind λx=>(Dv v.2).bind λy=>if P9 x&&P9 y&&c.rj x&&c.rj y then(c.idx x).bind λi=>(c.idx y).map λj=>.prim .vw (.cons (.var i) (.cons (.var j) .nil)) else none else none else none
 |_=>none
abbrev Jb:Expr->Option ME
 |.Name x _=>Fz c x
 |.Constant k _ _=>(sY k).map .lit
 |.BinOp a op b _=>c2 r c (.bin op) a b
 |.UnaryOp op a _=>Bf r c op a
 |.Compare a ops bs _=>yB r c a ops bs
 |.BoolOp op vs _=>EZ r c op vs
 |.IfExp t a b _=>(r.t c t).bind λmt=>(r.e c a).bind λma=>(r.e c b).map λmb=>.ite mt ma mb
 |.Tuple es _ _=>(I9 r c es).map (.prim .tup)
 |.List es _=>(I9 r c es).map (.prim .lst)
 |.Subscript a b _=>JP r c a b
 |.Dict ks vs _=>if ks.isEmpty&&vs.isEmpty then some (.prim .mn .nil) else if decide (-ks<=15) then(AE r c ks vs).map .oy else none
 |.JoinedStr vs _=>if decide (2<=-vs)&&decide (-vs<=40) then(xR r c vs).map (.prim .ml) else none
 |.Attribute o f _=>if yg o then c1 r c (.fld f) o else none
 |.Call f args jf pos=>(Bg r c f args jf).orElse λy=>(yQ c f args jf).orElse λy=>Fy r c f args jf pos
 |.ListComp elt gens sc _=>uO r c elt gens sc
 |_=>none
abbrev stepT:Expr->Option ME
 |.UnaryOp op a _=>if op=.Not then(r.t c a).map .cL else none
 |.BoolOp op vs _=>Fb r c op vs
 |.Compare a ops bs _=>(yB r c a ops bs).map .eG
 |e=>if EG e then(r.e c e).map .eG else none
abbrev Ip:Expr->Option ME
 |.Constant k _ _=>(sY k).map .lit
 |_=>none
abbrev FD:@&Expr->Option ME
 |[]=>!.nil
 |e::es=>(Ip e).bind λm=>(FD es).map λms=>.cons m ms
abbrev Io:Expr->Option ME
 |.List es _=>(FD es).map (.prim .lst)
 |.Constant k _ _=>(sY k).map .lit
 |_=>none
abbrev Wc:@&Stmt->Option Expr
 | [s]=>(match s with
  |.Return e _=>e
  | _=>none)
 |_=>none
abbrev bB2:ExceptHandler->Option Str
 |.ExceptHandler t n b _=>if n.isNone&&~~~b.isEmpty then t.bind asName else none
abbrev Jm:ExceptHandler->Option (Str×Expr)
 |.ExceptHandler t n b _=>if n.isNone then t.bind λt=>(asName t).bind λy=>(Wc b).map λe=>(y,e) else none
abbrev uF:@&ExceptHandler->Option (List (Str×ME))
 |[]=>![]
 |h::hs=>((Jm h).bind λq=>if c.exc.contains q.1&&c.gl q.1&&P9 q.1 then(Io q.2).bind λm=>(uF hs).map λms=>(q.1,m)::ms else none).orElse λx=>(bB2 h).bind λy=>if c.exc.contains y&&c.gl y&&P9 y then(uF hs).map λms=>(y,.no)::ms else none
abbrev Ly(e f:Option Expr):Option (Str×Expr×@&Expr):=if f.isNone then e.bind λe=>(V6 e).bind λq=>q.2.head?.map λa=>(q.1,a,q.2.tail) else none
abbrev d5.Aw(f:Str):@&Str:=(c.nR.filter λy=>decide (y.1=f)).map (·.2)
abbrev FA:@&Expr->Option (Expr×Expr×Expr×Expr)
 |_=>none
abbrev Nw:@&Expr->Option (Expr×Expr)
 |[a,.Starred b _]=>!(a,b)
 |_=>none
abbrev AU(es:@&Expr)(e:Expr):Option MS:=(Nw es).bind λq=>if sZ e&&w5 e then(c.slot q.1).bind λi=>(c.slot q.2).bind λj=>(r.e c e).map λm=>.lO i j m else none
abbrev JE(tg e:Expr):Option MS:=match tg with
 |.Name x _=>if c.A3 x then(c.idx x).bind λi=>(r.e c e).map λm=>.set i m else none
 |.Tuple es _ _=>(AU r c es e).orElse λy=>(FA es).elim (if sZ e&&w5 e then(c.slots es).bind λis=>(r.e c e).map λm=>.tJ (.many is) m else none) λq=>if w5 e&&gj q.2.1&&gj q.2.2.2 then(r.e c q.1).bind λm1=>(r.e c q.2.1).bind λn1=>(r.e c q.2.2.1).bind λm2=>(r.e c q.2.2.2).bind λn2=>(r.e c e).map λm=>.yU m1 n1 m2 n2 m else none
 |.Subscript o i _=>if gj i&&w5 e then(r.e c o).bind λmo=>(r.e c i).bind λmi=>(r.e c e).map λm=>.eJ mo mi m else none
 |.Attribute o f _=>(r.e c o).bind λmo=>(r.e c e).map λm=>.dS f (c.Aw f) mo m
 |_=>none
abbrev HV:Operator->Option Pr
 |.Add=>!.iadd
 |.Sub=>!.rP
 |_=>none
abbrev toR(e:Expr):ME->ME
 |.comp a n t i k (.bg x y z w)=>if ~~~w5 e&&c.iA then .gQ a n t i k (.bg x y z w) else .comp a n t i k (.bg x y z w)
 |m=>m
abbrev Jc:Stmt->Option MS
 |.Expr e _=>if w5 e then(r.e c e).map .expr else none
 | .Assign Bh e _=>(match Bh with
  |[tg]=>JE r c tg e
  | _=>none)
 | .AugAssign tg op e _=>(match tg with
  |.Attribute o f _=>if decide (op=.Add) then(r.e c o).bind λmo=>(r.e c e).map λm=>.ku f (c.Aw f) mo m else none
  |.Name x _=>if c.A3 x then(HV op).bind λp=>(c.idx x).bind λi=>(r.e c e).map λm=>.nV i p m else none
  | _=>none)
 |.If t a b _=>(r.t c t).bind λmt=>(A7 r c a).bind λma=>(A7 r c b).map λmb=>.ifs mt ma mb
 |.For tg it body zG _=>if c.ox&&(zG.isEmpty&&gj it) then(c.tg tg).bind λt=>(xS r c tg it).bind λmi=>(A7 r c body).map λmb=>.iE t mi mb else none
 | .Return e _=>(match e with
  |some e=>(r.e c e).map λm=>.ret (toR c e m)
  | none=>!.rC)
 |.Pass _=>!.pass
 |.Raise e f _=>(Ly e f).bind λq=>if c.jB&&c.exc.contains q.1&&c.gl q.1&&P9 q.1 then(I9 r c (q.2.1::q.2.2)).map (.raise q.1) else none
 |.Try body hs el fi _=>if c.iA&&~~~hs.isEmpty&&el.isEmpty&&fi.isEmpty then(A7 r { c with jB:=false,iA:=false,wr:=true } body).bind λmb=>(uF c hs).map λms=>.T4 mb ms else none
 |_=>none
end
abbrev comp:Nat->CF
 |0=>#[λx x=>none,λx x=>none,λx x=>none]
 |n+1=>#[Jb (comp n),stepT (comp n),λc s=>(Jc (comp n) c s).orElse λx=>!.expr .no]
structure gu(X:Cx)(c:d5)(P:fb)(Ξ:gW):Prop where
 N:X.N=c.N
 nd:c.N.Nodup
 loc:∀x,c.nm.lookup x=!.local->X.env.scope.names.lookup x=!.local
 xN:∀x,c.nm.lookup x=!.cell->X.env.scope.names.lookup x=!.cell
 zD:∀x,c.nm.lookup x=!.free->X.env.scope.names.lookup x=!.cell\/X.env.scope.names.lookup x=!.free
 CZ:∀x,c.nm.lookup x=!.globalImplicit->X.env.scope.names.lookup x=!.globalImplicit
 cells:∀x,(c.nm.lookup x=!.cell\/c.nm.lookup x=!.free)->∃a,X.env.cells.lookup x=!a
 ox:∀x,c.nm.lookup x=!.cell->X.fn x=true
 calm:X.calm=true
 units:X.A.units+100<cLine
 own:c.ox=true->PassesOwn (model X.prog X.w) X.A X.env X.xe
 mono:i3 P
 con:∀x d,c.con.lookup x=!d->∃v u,X.mg x=!u/\RelV v u/\∀ρ H,c8 X.K ρ H d v
 blt:∀x,c.blt.contains x=true->X.mg x=none
 fns:∀x f,c.fns.lookup x=!f->∃k fa fd ps,oH X P Ξ.1 k f fa fd ps/\q9 k X.A/\X.mg x=!.ref fa/\PySem.W.keepIn X.K (.ref fa)=true
 cls:∀x f,c.cls.lookup x=!f->∃k C fa fd ps,oH X P Ξ.1 k f fa fd ps/\q9 (k+1) X.A/\X.mg x=!.ref C/\l7 X.K x C/\iY X.K C/\Mk X.K C fa
 nu:∀m y f C,(m,y,f)∈c.nu->l7 X.K y C->∃k fa fd ps,Meth X.K C m fa/\oH X P Ξ.1 k f fa fd ps/\q9 k X.A
 nR:∀f y C,(f,y)∈c.nR->l7 X.K y C->C0 X.K C f
 uo:Ξ.1=c.exc
 pass:Passes (gM X.prog X.w) X Ξ.2
 jB:c.jB=true->zW X Ξ.2
 iA:c.iA=true->X.stack=X.env::X.outer/\X.env.frame=!X.env.locals/\uP X Ξ.2
 exc:∀x,c.exc.contains x=true->∃C,X.mg x=!.ref C/\l7 X.K x C/\∃B newId gB bm,OwnCls x C bm newId X.mg X.base/\ExcBaseFacts B newId gB bm
 xC:∀x y C C',c.exc.contains x=true->c.exc.contains y=true->l7 X.K x C->l7 X.K y C'->PySem.W.exmOne X.K (.ref C) (.ref C')=!decide (x=y\/y="MintError")
 uj:∀x kvs,c.gd.lookup x=!kvs->AA X x kvs
 code:c.ox=true->PySem.W.kdsCode X.K X.env.code=true
 sgn:c.wr=true->X.sg=none
def RN(h:c.idx x=!i):c.N[i]?=!x:=by
 unfold d5.idx at h;rw[kB] at h;let#[h1,h2,_]:=h;rw[aq h1,bC h2]
set_option tactic.hygienic true in
def gu.Fq(C:gu X c P Ξ)(h:c.rj x=true):tu X.env.scope x:=by
 unfold d5.rj at h;split at h
 .rename_i e;show .inl (C.loc x e)
 .rename_i e;show .inr (.inl (C.xN x e))
 .rename_i e;rcases C.zD x e with z|z
  .exact .inr (.inl z)
  .exact .inr (.inr z)
 .cases h
def gu.u6(C:gu X c P Ξ)(h:c.gl x=true):Gl X x:=C.CZ x (bC h)
def gu.A3(C:gu X c P Ξ){x:Str}(h:c.A3 x=true):Loc X.env.scope x/\(X.fn x=true\/X.env.scope.names.lookup x=!.local):=by
 unfold d5.A3 at h;rw[fJ] at h;rcases h with h|h
 .have:=C.loc x (bC h);show#[.inl this,.inr this]
 .exact#[.inr (C.xN x (bC h)),.inl (C.ox x (bC h))]
def gu.pY(C:gu X c P Ξ)(h:c.idx x=!i):X.N[i]?=!x:=by rw[C.N];show RN h
def gu.rK(C:gu X c P Ξ)(hw:c.wr=true):X.Nd:=#[by rw[C.N];show C.nd,C.sgn hw]
def P5(h:asName e=!x):∃p,e=.Name x p:=by
 cases e<;>first|(cases h;show#[_,rfl])|cases h
def Np(h:c.slot e=!i):∃x p,e=.Name x p/\c.A3 x=true/\c.idx x=!i:=by
 let#[x,hx,h2]:=ag.mp h;let#[p,rfl]:=P5 hx;split at h2
 .exact#[x,p,rfl,by assumption,h2]
 .cases h2
def gu.slots(C:gu X c P Ξ):∀{es:@&Expr} {is:@&Nat},c.slots es=!is->fB X es is:=by
 intro es
 induction es with
 |nil=>intro is h;cases h;show .nil
 |cons e r ih =>
  intro is h;let#[i,hi,h]:=ag.mp h;let#[is',hs,rfl]:=ae.mp h;let#[x,p,rfl,hl,hx]:=Np hi;show .cons (C.pY hx) (C.A3 hl).1 (C.A3 hl).2 (ih hs)
def orElse_some{α:Type}{a:Option α}{b:Unit->Option α}{m:α}(h:a.orElse b=!m):a=!m\/b Unit.unit=!m:=by
 cases a with
 |none=>show .inr h
 |some x=>show .inl h
def gu.JK(C:gu X c P Ξ)(hw:c.wr=true){tg:Expr}{t:MT}(h:c.tg tg=!t):PG X tg (LG X.K t):=by
 rcases orElse_some h with h|h
 .let#[i,hi,rfl]:=ae.mp h;let#[x,p,rfl,hl,hx]:=Np hi;show ZH (C.rK hw) (C.pY hx) (C.A3 hl).1 (C.A3 hl).2
 .cases tg<;>first|(cases h;done)|skip
  let#[is,hs,rfl]:=ae.mp (show(c.slots _).map MT.many=some t from h);show My C.calm (C.rK hw) (C.slots hs)
def i5(h:gj e=true):starEach (e::es) env=(false,eval e env)::starEach es env:=by
 cases e<;>first|rfl|cases h
def An(h:gj e=true):∀x,foldedSetIterable e env x=pure x:=by
 intro x;cases e<;>first|rfl|cases h
def NV(h:gj e=true):DI e:=by
 intro o i;cases e<;>first|rfl|cases h
def Sk{i:Expr}{tp:Pos}(h:gj i=true):∀v,assign (.Subscript o i tp) env v=(do
      let ov <- holding [v] (eval o env)
      let iv <- holding [v,ov] (eval i env)
      standAt tp
      holding [v,ov,iv] (setItem ov iv v)
      release [v,ov,iv] []):=by
  intro v;cases i<;>first|rfl|cases h
def EE{t:Option Expr}(h:w5 e=true):swapsWith e t n env=pure false:=by
 cases e<;>first|rfl|cases h
def Nf{p:Pos}(h:sZ e=true):swappedStores [.Tuple es k p] e env=pure none:=by
 cases e<;>first|rfl|cases h
def a27(h:EG e=true):∀whole,isTrue e env whole=(do let v <- whole;standAt e.pos;holding [v] (truthy v)):=by
 intro w;cases e<;>first|rfl|cases h
set_option tactic.hygienic true in
def J9{q:Str×@&Expr}(h:V6 e=!q):∃p pos,e=.Call (.Name q.1 p) q.2 [] pos:=by
 cases e<;>first|(cases h;done)|skip
 rename_i f as jf pos;cases f<;>first|(cases h;done)|skip
 cases jf<;>first|(cases h;done)|skip
 cases h;show#[_,_,rfl]
def MJ{l:@&Expr}(h:Dv l=!x):∃p,l=[.Name x p]:=by
 rcases l with _|⟨e,_|⟨_,_⟩⟩
 .cases h
 .cases e<;>first|(cases h;show#[_,rfl])|cases h
 .cases e<;>cases h
set_option tactic.hygienic true in
def TF{q:Expr×Expr}(h:Jo e=!q):∃p,e=.BinOp q.1 .BitOr q.2 p:=by
 cases e<;>first|(cases h;done)|skip
 rename_i a op b p;cases op<;>first|(cases h;show#[_,rfl])|cases h
def a98(h:HU e=true):∃es k p,e=.Tuple es k p:=by
 cases e<;>first|show#[_,_,_,rfl]|cases h
set_option tactic.hygienic true in
def MU{kvs:@&D}(h:c.Dy b=!kvs):∃x p,b=.Name x p/\c.gl x=true/\P9 x=true/\c.gd.lookup x=!kvs:=by
 let#[x,hx,h2]:=ag.mp h;let#[p,rfl]:=P5 hx;split at h2
 .rename_i hc;rw[br] at hc;show#[x,p,rfl,hc.1,hc.2,h2]
 .cases h2
set_option tactic.hygienic true in
def O0{f:Str}(h:yg o=true):attributeBase o f env (eval o env)=eval o env:=by
 cases o<;>first|rfl|skip
 rename_i f as jf pos;cases f<;>first|rfl|skip
 cases as with
 |nil=>cases h
 |cons=>rfl
def DL{env:Env}:∀(names:@&(Str×NameKind)) (acc:@&(Str×Addr)),(∀y∈names,y.2=.free->∃a,env.cells.lookup y.1=!a)->(∀x a,acc.lookup x=!a->env.cells.lookup x=!a) ->
  ∃ cl,(forIn names acc λ(y:Str × NameKind) (cs:@&(Str × Addr))=>(match y with
   |(name,kind)=>if(kind==NameKind.free)=true then do
     let __do_lift <- cellOf env name
     pure (ForInStep.yield ((name,__do_lift)::cs))
    else pure (ForInStep.yield cs):Sem (ForInStep (List (Str × Addr)))))=pure cl/\(∀ x a,cl.lookup x=!a->env.cells.lookup x=!a)/\(∀ y ∈ names,y.2=.free->∃ a,cl.lookup y.1=!a)/\∀ x a,acc.lookup x=!a->∃ a',cl.lookup x=!a'
 |[],acc,_,h2=>#[acc,rfl,h2,λy hy=>absurd hy #[_],λx a h=>#[a,h]]
 |(n,k)::r,acc,h1,h2=>by
  rw[List.forIn_cons];by_cases hk:k=.free
  .subst hk;let#[a,ha]:=h1 (n,.free) #[_] rfl;let hc:cellOf env n=pure a:=by unfold cellOf;rw[ha]
   let ⟨cl,e,q1,q2,q3⟩:=DL r ((n,a) :: acc) (λy hy=>h1 y (by simp [hy])) (λx b hb=>by
    rw[dE] at hb;cases hx:x==n with
    |true=>simp_all
    | false=>rw [hx] at hb;show h2 x b hb)
   show#[cl,?_,q1,λy hy hf=>?_,λx b hb=>?_]
   .simp only[beq_self_eq_true,if_true,hc];show e
   .rcases aE.mp hy with z|z
    .subst z;show q3 n a #[_]
    .exact q2 y z hf
   .cases hx:x==n with
    |true=>show q3 x a (by rw[dE,hx])
    |false=>show q3 x b (by rw[dE,hx];show hb)
  .let hb:(k==NameKind.free)=false:=by simpa using hk
   let#[cl,e,q1,q2,q3]:=DL r acc (λy hy=>h1 y (by simp[hy])) h2;show#[cl,?_,q1,λy hy hf=>?_,q3]
   .simp only[hb,Bool.false_eq_true,if_false];show e
   .rcases aE.mp hy with z|z
    .simp_all
    .exact q2 y z hf
def a35{P:Program}{w:World}:Passes (gM P w) X (λx x x=>False):=λx x x x x x x h=>by
 let#[_,_,_,_,_,_,_,z]:=h;show z.elim
def T8{env:Env}:∀{names:@&(Str×NameKind)} {x:Str},names.lookup x=!.globalImplicit ->
  (names.map λ(n,k)=>if(k==NameKind.free&&env.scope.kind==.function&&env.kindOf n==!.cell) then(n,NameKind.cell) else(n,k)).lookup x=!.globalImplicit
 |[],_,h=>by simp at h
 |(n,k)::r,x,h=>by
  let ih:=@T8 env r x;change List.lookup x ((if(k==NameKind.free&&env.scope.kind==.function&&env.kindOf n==!.cell)=true then(n,NameKind.cell) else(n,k))::_)=_;cases hx:x==n with
  |true =>
   simp only[List.lookup_cons,hx] at h;cases h;simp[List.lookup_cons,hx]
  |false =>
   simp only[List.lookup_cons,hx] at h;by_cases hc:(k==NameKind.free&&env.scope.kind==.function&&env.kindOf n==!.cell)=true
   .rw[av hc];simp only[List.lookup_cons,hx];show ih h
   .rw[aw hc];simp only[List.lookup_cons,hx];show ih h
def gu.comp(C:gu X c P Ξ)(h:c.D' sc=true):∃cl,dP X sc (frees sc++locals sc) (c.c9 sc) cl/\∀pi A s H fp,gu (d4 X pi sc (frees sc++locals sc) cl A s H fp) (c.inner sc) P (oE Ξ.1):=by
 unfold d5.D' at h;simp only[Bool.and_eq_true,decide_eq_true_eq,List.all_eq_true] at h;let#[#[#[#[h1,h2],h3],h4],h5]:=h;let fr:∀x∈frees sc,(∃i,c.idx x=!i)/\sc.names.lookup x=!.free/\(c.nm.lookup x=!.cell\/c.nm.lookup x=!.free):=λx hx=>by
  have:=h5 x hx;rw[dg,fJ] at this;simp only[decide_eq_true_eq] at this;show#[this.1.1,this.1.2,this.2]
 let sL:∀y∈sc.names,y.2=.free->∃a,X.env.cells.lookup y.1=!a:=λy hy hf=>by
  let hm:y.1∈frees sc:=aP.mpr #[y,cA.mpr #[hy,by simp[hf]],rfl];show C.cells y.1 (fr y.1 hm).2.2
 let#[cl,e,q1,q2,_]:=DL sc.names [] sL (λx a h=>by simp at h);let h2:∀y∈sc.names,y.2=.cell->sc.names.lookup y.1=!.cell:=λy hy hl=>by
  have:=h2 y hy
  simp_all
 show#[cl,#[h1,h2,λy hy hl=>?_,?_,q1,λx hx=>q2 (x,.free) (aL hx) rfl,h4,λi j jk=>?_,?_],λpi A s H fp=>?_]
 .grind
 .simp only[closureFor];rw[e]
  rfl
 .unfold d5.c9 at jk;rw[aG] at jk;cases ex:(frees sc)[i]? with
  |none=>simp_all
  |some x =>
   rw[ex] at jk;let hx:=aQ ex;let#[#[k,hk],hl,hc]:=fr x hx;let hj:k=j:=by
    have:=aJ jk;dsimp only at this;rw[hk] at this;show this
   subst hj;show#[x,?_,C.pY hk,hl,?_]
   .rw[aA (az.mp ex).1];show ex
   .rcases hc with z|z
    .exact .inl (C.xN x z)
    .exact C.zD x z
 .unfold d5.c9;simp
 .refine#[rfl,h4,λx hx=>lookup_relabel_local hx,λx hx=>?_,λx hx=>E8 hx,λx hx=>T8 hx,λx hx=>?_,λx w=>?_,rfl,C.units,(λw=>PassesOwn.never),C.mono,C.con,C.blt,C.fns,C.cls,C.nu,C.nR,C.uo,a35,(λz=>by cases z),(λz=>by cases z),C.exc,C.xC,C.uj,(λz=>by cases z),λw=>rfl]
  .exact P6 hx
  .rcases hx with hx|hx
   .exact JW (.inl hx)
   .exact JW (.inr (q2 (x,.free) (aL hx) rfl))
  .exact aB ‹_›
def gu.block{pi:@&(Addr×Obj)}{N':@&Str}{cl:@&(Str×Addr)}{A:Addr}{fp:@&Addr}(I:gu (d4 X pi sc N' cl A s H fp) (c.inner sc) P (oE Ξ.1)):gu ((d4 X pi sc N' cl A s H fp).T3 (zJ X Ξ.2 pi sc N' cl fp A s H)) (c.inner sc) P Ξ :=
 #[I.N,I.nd,I.loc,I.xN,I.zD,I.CZ,I.cells,I.ox,I.calm,I.units,(λz=>by cases z),I.mono,I.con,I.blt,I.fns,I.cls,I.nu,I.nR,I.uo,λlh jq H1 s1 e s' J h=>#[lh,jq,H1,s1,J.zU,h],(λz=>by cases z),(λz=>by cases z),I.exc,I.xC,I.uj,(λz=>by cases z),I.sgn]
def A4(h:P9 x=true):(x==("__debug__":Str))=false/\(x==("__classdict__":Str))=false/\x≠"__name__":=by
 unfold P9 at h;simp only[Bool.and_eq_true,decide_eq_true_eq,beq_iff_eq] at h;show#[h.1.1,h.1.2,h.2]
def VG{t:String}(h:Fp.lookup x=!t):bootBuiltins x=!.type t:=by
 let hm:=aL h;simp only[Fp,List.mem_cons,List.mem_nil_iff,or_false] at hm;rcases hm with z|z|z|z|z<;>(cases z;first|show yK|show PyProof.Rows.boot_bool|show yJ|show tE|show ve|decide +kernel|rfl)
def a97(hc:X.calm=true)(hu:X.A.units+100<cLine)(h:FC.lookup x=!p):∃v,((∃id,v=.builtin id)\/∃T,v=.type T)/\bootBuiltins x=!v/\j7 X v (rN X.K p):=by
 let hm:=aL h;simp only[FC,List.mem_cons,List.mem_nil_iff,or_false] at hm;rcases hm with z|z|z|z|z|z|z|z|z
 .cases z;show#[.builtin "len",.inl #[_,rfl],PySem.boot_len,Yt]
 .cases z;show#[.type "list",.inr #[_,rfl],by first|show ve|decide +kernel,RW hc]
 .cases z;show#[.type "tuple",.inr #[_,rfl],by first|show tE|decide +kernel,VC]
 .cases z;show#[.builtin "isinstance",.inl #[_,rfl],by first|show mR|decide +kernel,RQ]
 .cases z;show#[.builtin "all",.inl #[_,rfl],by first|show PyProof.Rows.boot_all|decide +kernel,XU hc]
 .cases z;show#[.builtin "min",.inl #[_,rfl],by first|show PyProof.Rows.boot_min|decide +kernel,Yx hc hu]
 .cases z;show#[.type "int",.inr #[_,rfl],by first|show yK|decide +kernel,Yi]
 .cases z;show#[.type "str",.inr #[_,rfl],by first|show yJ|decide +kernel,ZT]
 .cases z;show#[.type "dict",.inr #[_,rfl],by first|show PyProof.Rows.boot_dict|decide +kernel,Ui hc]
def aV2(h:yn.lookup x=!p):∃T id,PlainAttrs T/\Slot T x id/\typeOf (.builtin id)=pure (.type "method_descriptor")/\kU X id (rM X.K p) /\
  ∀{d:D} {v:V} {g:G} {ρ:@&Addr} {H:Hp},Rl X.K ρ g H->c8 X.K ρ H d v->mF p d g->oR X.K T v H:=by
 let hm:=aL h;simp only[yn,List.mem_cons,List.mem_nil_iff,or_false] at hm;rcases hm with z|z
 .cases z;show#[_,_,gZ,PySem.F.slot_list_clear,PySem.F.type_list_clear,Ua,λR r h=>ty_list R r h]
 .cases z;show#[_,_,gZ,PySem.F.slot_list_pop,PySem.F.type_list_pop,SE,λR r h=>ty_list R r h]
def a54(hu:X.A.units+100<cLine)(h:FH.lookup x=!p):∃T id,PlainAttrs T/\Slot T x id/\typeOf (.builtin id)=pure (.type "method_descriptor")/\kU X id (rM X.K p) /\
  ∀{d:D} {v:V} {g:G} {ρ:@&Addr} {H:Hp},Rl X.K ρ g H->c8 X.K ρ H d v->mF p d g->oR X.K T v H:=by
 let hm:=aL h;simp only[FH,List.mem_cons,List.mem_nil_iff,or_false] at hm;rcases hm with z|z|z
 .cases z;show#[_,_,gZ,PySem.F.slot_list_append,PySem.F.type_list_append,VP,λR r h=>ty_list R r h]
 .cases z;show#[_,_,vc,PySem.F.slot_str_join,PySem.F.type_str_join,RU,λR r h=>ty_str R r h]
 .cases z;show#[_,_,vc,PySem.F.slot_str_split,PySem.F.type_str_split,Vv,λR r h=>ty_str R r h]
def Nr{pos:Pos}{env:Env}:∀{es:@&Expr},(∀e∈es,gj e=true)->(backTo pos (starEach es env)).all (λx=>~~~x.1)=true
 |[],_=>rfl
 |e::es,h=>by
  rw[i5 (h e #[_])];let ih:=Nr (pos:=pos) (env:=env) (es:=es) λx hx=>h x (by simp[hx]);unfold backTo at ih ⊢;rw[bQ,jJ,ih]
  rfl
def V7{pos:Pos}{env:Env}:∀{es:@&Expr},(∀e∈es,gj e=true)->(backTo pos (starEach es env)).any (·.1)=false
 |[],_=>rfl
 |e::es,h=>by
  rw[i5 (h e #[_])];let ih:=V7 (pos:=pos) (env:=env) (es:=es) λx hx=>h x (by simp[hx]);unfold backTo at ih ⊢;rw[bQ,eL,ih]
  rfl
def Ee:∀{es:@&Expr} {m:ME},I9 r c es=!m->∀e∈es,gj e=true:=by
 intro es
 induction es with
 |nil=>intro m _ e he;simp_all
 |cons a es ih =>
  intro m h e he;unfold I9 at h;split at h
  .let#[m1,h1,h]:=ag.mp h;let#[m2,h2,_]:=ae.mp h;rcases aE.mp he with z|z
   .rw[z];assumption
   .exact ih h2 e z
  .cases h
def aY2(h:Jn a=!x):∃j p,a=.Constant (.str x) j p:=by
 cases a with
 |Constant k j p=>cases k with
  |str y=>cases h;show#[_,_,rfl]
  |_=>cases h
 |_=>cases h
def TH(h:Jp a=!e):∃p,a=.FormattedValue e (-1) none p:=by
 cases a with
 |FormattedValue v k f p=>cases f with
  |none =>
   let h2:(if k=-1 then some v else none)=!e:=h
   simp_all
  |some _=>cases h
 |_=>cases h
structure qP(P:fb)(r:CF):Prop where
 e:∀X c Ξ,gu X c P Ξ->∀e m,r.e c e=!m->PE X e (LE X.K Ξ (aV P m))
 t:∀X c Ξ,gu X c P Ξ->∀e m,r.t c e=!m->PT X e (LT X.K Ξ (dM P m))
 s:∀X c Ξ,gu X c P Ξ->c.wr=true->∀st m,r.s c st=!m->PS X st (LS X.K Ξ (wpS P m))
section
variable(S:qP P r)(C:gu X c P Ξ)
include S C
def uQ(h:c1 r c p a=!m):∃ma,PE X a (LE X.K Ξ (aV P ma))/\m=.prim p (.cons ma .nil):=by
 let#[ma,ha,rfl]:=ae.mp h;show#[ma,S.e X c Ξ C _ _ ha,rfl]
def uR(h:c2 r c p a b=!m):∃ma mb,PE X a (LE X.K Ξ (aV P ma))/\PE X b (LE X.K Ξ (aV P mb))/\m=.prim p (.cons ma (.cons mb .nil)):=by
 let#[ma,ha,h]:=ag.mp h;let#[mb,hb,rfl]:=ae.mp h;show#[ma,mb,S.e X c Ξ C _ _ ha,S.e X c Ξ C _ _ hb,rfl]
set_option tactic.hygienic true in
def vR:∀{es:@&Expr} {m:ME},I9 r c es=!m->PA X es (LA X.K Ξ (fj P m)):=by
 intro es
 induction es with
 |nil=>intro m h;cases h;show O4 C.mono
 |cons a es ih =>
  intro m h;unfold I9 at h;split at h
  .rename_i bw;let#[m1,h1,h]:=ag.mp h;let#[m2,h2,rfl]:=ae.mp h;show A9 C.mono (S.e X c Ξ C _ _ h1) (ih h2) (i5 bw)
  .cases h
def Pm:∀{es:@&Expr} {m:ME},xR r c es=!m->∃ts,mK X Ξ P es m ts:=by
 intro es
 induction es with
 |nil=>intro m h;cases h;show#[_,.nil]
 |cons a es ih =>
  intro m h;rcases orElse_some h with h1|h1
  .let#[x,hx,h2]:=ag.mp h1;let#[j,p,rfl]:=aY2 hx;split at h2
   .let#[m2,h3,rfl]:=ae.mp h2;let#[ts,F]:=ih h3;show#[_,.lit (by assumption) F]
   .cases h2
  .let#[x,hx,h2]:=ag.mp h1;let#[m1,h3,h4]:=ag.mp h2;let#[m2,h5,rfl]:=ae.mp h4;let#[p,rfl]:=TH hx;let#[ts,F]:=ih h5;show#[_,.val (S.e X c Ξ C _ _ h3) F]
def Po:∀{ks:@&(Option Expr)} {vs:@&Expr} {m:ME},AE r c ks vs=!m->∃ij,mL X Ξ P ks vs m ij:=by
 intro ks
 induction ks with
 |nil=>intro vs m h;cases vs<;>first|(cases h;show#[_,.nil])|cases h
 |cons k ks ih =>
  intro vs m h;cases k<;>first|(cases h;done)|skip
  cases vs<;>first|(cases h;done)|skip
  let#[m1,h1,h]:=ag.mp h;let#[m2,h2,h]:=ag.mp h;let#[m3,h3,rfl]:=ae.mp h;let#[ij,D]:=ih h3;show#[_,.cons (S.e X c Ξ C _ _ h1) (S.e X c Ξ C _ _ h2) D]
def Pp{op:BoolOp}:∀{vs:@&Expr} {m:ME},EZ r c op vs=!m->PE X (.BoolOp op vs pos) (LE X.K Ξ (aV P m)):=by
 intro vs
 induction vs with
 |nil=>intro m h;cases h
 |cons a vs ih =>
  intro m h;cases vs with
  |nil=>show Y' (S.e X c Ξ C _ _ h)
  |cons b vs =>
   let#[m1,h1,h]:=ag.mp h;let#[m2,h2,rfl]:=ae.mp h;cases op
   .exact Zu C.mono (S.e X c Ξ C _ _ h1) (ih h2)
   .exact Xr C.mono (S.e X c Ξ C _ _ h1) (ih h2)
def Pj{op:BoolOp}:∀{vs:@&Expr} {m:ME},Fb r c op vs=!m->PW X (.BoolOp op vs pos) (LT X.K Ξ (dM P m)):=by
 intro vs
 induction vs with
 |nil=>intro m h;cases h
 |cons a vs ih =>
  intro m h;cases vs with
  |nil =>
   cases op
   .exact SN (S.t X c Ξ C _ _ h)
   .exact Zn (S.t X c Ξ C _ _ h)
  |cons b vs =>
   let#[m1,h1,h]:=ag.mp h;let#[m2,h2,rfl]:=ae.mp h;cases op
   .exact ZU C.mono (S.t X c Ξ C _ _ h1) (ih h2)
   .exact Xw C.mono (S.t X c Ξ C _ _ h1) (ih h2)
def b32(h:Nx r c es=!m):mq X es (LT X.K Ξ (dM P m)):=by
 rcases es with _|⟨e,_|⟨_,_⟩⟩
 .cases h;show To C.mono
 .exact SM (S.t X c Ξ C _ _ h)
 .cases h
def yy(hw:c.wr=true):∀{Gy:@&Stmt} {m:MS},A7 r c Gy=!m->jt X Gy (LS X.K Ξ (wpS P m)):=by
 intro es
 induction es with
 |nil=>intro m h;cases h;show Od C.mono
 |cons a es ih =>
  intro m h;let#[m1,h1,h]:=ag.mp h;let#[m2,h2,rfl]:=ae.mp h;show MA C.mono (S.s X c Ξ C hw _ _ h1) (ih h2)
end
def Y8{t:Expr}(h:w5 e=true):swapsWithSole [t] e n env=pure false:=by
 show EE h
def gu.T4(C:gu X c P Ξ)(hw:c.wr=true)(eR:X.stack=X.env::X.outer)(hf:X.env.frame=!X.env.locals)(pi:@&(Addr×Obj))(D:L2.Ends)(hs:@&ExceptHandler){o:Option L2.St}{cU:L2.St}{w:Bool}(Bw:∀σ:L2.St,σ.length=-X.N->(∀τ,o=!τ->σ=τ)->-cU=σ.length/\∀(i:Nat) v,cU[i]?=!!v->σ[i]?=!!v)(ho:w=true->o=none) :
  gu (X8 X pi (AS X pi D hs) o) { c with jB:=false,iA:=false,wr:=w } P (Az X Ξ.1 D cU hs) :=
 #[C.N,C.nd,C.loc,C.xN,C.zD,C.CZ,C.cells,C.ox,C.calm,C.units,(λx=>PassesOwn.looking),C.mono,C.con,C.blt,C.fns,C.cls,C.nu,C.nR,C.uo,UO (C.sgn hw) eR hf Bw (by rintro C H' ⟨C',e,z⟩;show (by simp_all)),(λz=>by cases z),(λz=>by cases z),C.exc,C.xC,C.uj,C.code,ho]
def Kf{m:Str}{apos:Pos}(hb:yg o=true)(hl:(apos.endLine==pos.line)=true)(hf:methodCallForm (-args) (backTo pos (starEach args env)) (backToKw pos (keywordEach [] env))=true) :
  eval (.Call (.Attribute o m apos) args [] pos) env=(do
   let ov <- eval o env
   standAt apos.atName
   let (f,first) <- holding [ov] (getMethod ov m (do return (<- importBound o env).getD true))
   callWith pos f first (backTo pos (starEach args env)) (backToKw pos (keywordEach [] env))):=by
 let h1:eval (.Call (.Attribute o m apos) args [] pos) env=(do
   let ov <- attributeBase o m env (eval o env)
   standAt apos.atName
   methodCall o m apos pos env ov (-args + 0) (backTo pos (starEach args env)) (backToKw pos (keywordEach [] env))):=rfl
 rw[h1,O0 hb];let h2:∀ ov,methodCall o m apos pos env ov (-args + 0) (backTo pos (starEach args env)) (backToKw pos (keywordEach [] env))=(do
   let (f,first) <- holding [ov] (getMethod ov m (do return (<- importBound o env).getD true))
   callWith pos f first (backTo pos (starEach args env)) (backToKw pos (keywordEach [] env))):=λov=>by
  unfold methodCall calleeOf methodCallPos
  simp_all
 simp only[h2]
section
variable(S:qP P r)(C:gu X c P Ξ){d:Expr}
include C
set_option tactic.hygienic true in
def Yz(h:Fz c x=!m):PE X (.Name x pos) (LE X.K Ξ (aV P m)):=by
 unfold Fz at h;split at h
 .rename_i gR;let#[d1,d2,d3]:=A4 gR;split at h
  .rename_i hv;let#[i,hi,rfl]:=ae.mp h;show ZF (C.pY hi) (C.Fq hv) d1 d2
  .split at h
   .rename_i hg;rcases orElse_some h with h|h
    .let#[d,hd,rfl]:=ae.mp h;let#[v,u,hm,r,rr]:=C.con x d hd;show W2 (yp (C.u6 hg) hm r d1) rr
    .split at h
     .rename_i hb;let#[t,ht,rfl]:=ae.mp h;show W2 (v:=.ty t) (Su (C.u6 hg) (C.blt x hb) (VG ht) rfl d3 d1) λy y=>.ty t
     .cases h
   .cases h
 .cases h
omit C in
def Bp{k:Const}{j:Nat}{d:D}(h:sY k=!d):PE X (.Constant k j pos) (LE X.K Ξ (aV P (.lit d))):=by
 cases k<;>first|(cases h;done)|skip
 .cases h;show W2 YY λx x=>.aO
 .cases h;show W2 Xb λx x=>.bl _
 .cases h;show W2 YW λx x=>.int _
 .cases h;show W2 NX λx x=>.str _
include S
set_option tactic.hygienic true in
def b31{op:UnaryOp}(h:Bf r c op a=!m):PE X (.UnaryOp op a pos) (LE X.K Ξ (aV P m)):=by
 unfold Bf at h;split at h
 .rename_i ho;subst ho;let#[ma,ha,rfl]:=ae.mp h;show ZC C.mono (S.e X c Ξ C _ _ ha)
 .let#[ma,ha,rfl]:=uQ S C h;show Xs C.mono ha
set_option tactic.hygienic true in
def IL{ops:@&CmpOp}{bs:@&Expr}(h:yB r c a ops bs=!m):PE X (.Compare a ops bs pos) (LE X.K Ξ (aV P m))/\PT X (.Compare a ops bs pos) (LT X.K Ξ (dM P (.eG m))):=by
 unfold yB at h;split at h
 .rename_i op b;split at h
  .cases h
  .rename_i hm;let hm:behindInMarks op b=false:=by simpa using hm
   rcases orElse_some h with h|h
   .let#[neg,hn,h]:=ag.mp h;let#[kvs,hk,h]:=ag.mp h;let#[ma,ha,rfl]:=ae.mp h;let#[x,p,rfl,hg,hd,hk]:=MU hk;let ho:op=if neg then .NotIn else .In:=by cases op<;>cases hn<;>rfl
    subst ho;show#[Zy C.mono (C.u6 hg) (A4 hd).1 (C.uj x kvs hk) (S.e X c Ξ C _ _ ha) hm,ZP C.mono (C.u6 hg) (A4 hd).1 (C.uj x kvs hk) (S.e X c Ξ C _ _ ha) hm]
   .let#[ma,mb,ha,hb,rfl]:=uR S C h;show#[FN C.mono (Ml (uW C.units op) ha hb hm),ZR C.mono (Mq (uW C.units op) ha hb hm)]
 .split at h
  .cases h
  .rename_i hm;let#[ma,ha,h]:=ag.mp h;let#[mb,hb,h]:=ag.mp h;let#[md,hd,rfl]:=ae.mp h;show#[Vj C.mono C.units (S.e X c Ξ C _ _ ha) (S.e X c Ξ C _ _ hb) (S.e X c Ξ C _ _ hd) (_/hm),Vw C.mono C.units (S.e X c Ξ C _ _ ha) (S.e X c Ξ C _ _ hb) (S.e X c Ξ C _ _ hd) (_/hm)]
 .cases h
def b34{lo hi st:Option Expr}{p2:Pos}(h:Gq r c a lo hi st=!m):PE X (.Subscript a (.Slice lo hi st p2) pos) (LE X.K Ξ (aV P m)):=by
 cases lo<;>cases hi<;>cases st<;>first|(cases h;done)|skip
 .let#[ma,mb,ha,hb,rfl]:=uR S C h;show Vq C.mono ha hb
 .let#[ma,mb,ha,hb,rfl]:=uR S C h;show Vr C.mono ha hb
set_option tactic.hygienic true in
def WN(h:JP r c a b=!m):PE X (.Subscript a b pos) (LE X.K Ξ (aV P m)):=by
 rcases orElse_some h with h|h
 .let#[q,hq,h]:=ag.mp h;let eb:∃p,b=.Slice q.1 q.2.1 q.2.2 p:=by cases b<;>first|(cases hq;show#[_,rfl])|cases hq
  let#[p,rfl]:=eb;show b34 S C h
 .split at h
  .rename_i hb;rcases orElse_some h with h|h
   .let#[kvs,hk,h]:=ag.mp h;let#[mb,jF,rfl]:=ae.mp h;let#[x,p,rfl,hg,hd,hk]:=MU hk;show SX C.mono (C.u6 hg) (A4 hd).1 (C.uj x kvs hk) (S.e X c Ξ C _ _ jF) (NV hb)
   .let#[ma,mb,ha,jF,rfl]:=uR S C h;show FN C.mono (IP (WB C.units) ha jF (NV hb))
  .cases h
set_option tactic.hygienic true in
def b33(hg:c.gl x=true)(h:Gp r c x e=!m):PE X (.Call (.Name x px) [e] [] pos) (LE X.K Ξ (aV P m)):=by
 let#[q,hq,h']:=ag.mp h;clear h;let h:=h';clear h';let#[p,pos',rfl]:=J9 hq;let#[y,as]:=q;dsimp only at h ⊢;split at h
 .rename_i hc;simp only[Bool.and_eq_true,decide_eq_true_eq] at hc;let#[#[#[#[rfl,rfl],hl],hr],ub]:=hc;rcases as with _|⟨a,_|⟨b,_|⟨_,_⟩⟩⟩
  .cases h
  .dsimp only at h;split at h
   .rename_i ho;let#[ma,ha,rfl]:=uQ S C h;show Vl C.mono C.calm ha (C.u6 hg) (C.blt _ hl) (C.u6 ub) (C.blt _ hr) (i5 ho)
   .cases h
  .dsimp only at h;split at h
   .rename_i ho;rw[br] at ho;let#[ma,mb,ha,hb,rfl]:=uR S C h;show Vm C.mono C.calm ha hb (C.u6 hg) (C.blt _ hl) (C.u6 ub) (C.blt _ hr) (by rw[i5 ho.1,i5 ho.2];rfl) (i5 ho.2)
   .cases h
  .cases h
 .split at h
  .rename_i hc;simp only[Bool.and_eq_true,decide_eq_true_eq] at hc;let#[#[#[#[rfl,rfl],hl],hr],ub]:=hc;rcases as with _|⟨a,_|⟨_,_⟩⟩
   .cases h
   .dsimp only at h;split at h
    .rename_i ho;let#[ma,ha,rfl]:=uQ S C h;show Tc C.mono C.calm ha (C.u6 hg) (C.blt _ hl) (C.u6 ub) (C.blt _ hr) (i5 ho)
    .cases h
   .cases h
  .split at h
   .rename_i hc;simp only[Bool.and_eq_true,decide_eq_true_eq] at hc;let#[#[#[#[rfl,rfl],hl],hr],ub]:=hc;rcases as with _|⟨a,_|⟨_,_⟩⟩
    .cases h
    .dsimp only at h;split at h
     .rename_i ho;let#[ma,ha,rfl]:=uQ S C h;show SY C.mono C.calm ha (C.u6 hg) (C.blt _ hl) (C.u6 ub) (C.blt _ hr) (i5 ho)
     .cases h
    .cases h
   .cases h
set_option tactic.hygienic true in
def b36(hg:c.gl x=true)(h:Gs r c x e es=!m):PE X (.Call (.Name x px) (e::es) [] pos) (LE X.K Ξ (aV P m)):=by
 rcases es with _|⟨b,_|⟨_,_⟩⟩
 .cases h
 .let#[y,hy,h2]:=ag.mp (show(asName b).bind _=some m from h);let#[p,rfl]:=P5 hy;split at h2
  .rename_i hc;simp only[Bool.and_eq_true,decide_eq_true_eq] at hc;let#[#[#[#[#[rfl,hb],Ca],hd],ho],hs]:=hc;let#[ma,ha,rfl]:=uQ S C h2;let#[f,hf]:=dg.mp hs;let#[k,C',fa,fd,ps,F,hr,hm,hC,iV,M]:=C.cls y f hf;show Zz C.mono ha (C.u6 hg) (C.blt _ hb) (C.u6 Ca) (A4 hd).1 hm hC (i5 ho)
  .cases h2
 .cases h
set_option tactic.hygienic true in
def Sf(h:Lv r c x args=!m):PE X (.Call (.Name x px) args [] pos) (LE X.K Ξ (aV P m)):=by
 cases args with
 |nil =>
  let h2:FU c x=!m:=h;unfold FU at h2;split at h2
  .rename_i gR;rw[br] at gR;rcases orElse_some h2 with h2|h2
   .let#[f,hf,rfl]:=ae.mp h2;let#[k,fa,fd,ps,F,hr,hm,hk]:=C.fns x f hf;show Vi C.mono C.pass F hr (C.u6 gR.2) hm hk (A4 gR.1).1
   let#[f,hf,rfl]:=ae.mp h2;let#[k,C',fa,fd,ps,F,hr,hm,hC,iV,M]:=C.cls x f hf;show Vn C.mono C.pass F M hC iV hr (C.u6 gR.2) hm (A4 gR.1).1
  .cases h2
 |cons e es =>
  let h0:FV r c x e es=!m:=h;clear h;let h:=h0;clear h0;unfold FV at h;split at h
  .rename_i gR;rw[br] at gR;let#[d1,d2,d3]:=A4 gR.1;rcases orElse_some h with h|h
   .exact b36 S C gR.2 h
   rcases orElse_some h with h|h
   .cases es with
    |nil=>show b33 S C gR.2 h
    |cons _ _=>cases h
   .let#[ms,jN,h]:=ag.mp h;let ok:=Ee jN;let pa:=vR S C jN;let eR:=i5 (env:=X.env) (es:=es) (ok e #[_]);let gi:=V7 (pos:=pos) (env:=X.env) (es:=es) λz hz=>ok z (by simp[hz]);rcases orElse_some h with h|h
    .let#[f,hf,rfl]:=ae.mp h;let#[k,fa,fd,ps,F,hr,hm,hk]:=C.fns x f hf;show SU C.mono C.pass F hr (C.u6 gR.2) hm hk pa d1 eR gi
    .rcases orElse_some h with h|h
     .let#[f,hf,rfl]:=ae.mp h;let#[k,C',fa,fd,ps,F,hr,hm,hC,iV,M]:=C.cls x f hf;show Ta C.mono C.pass F M hC iV hr (C.u6 gR.2) hm pa d1 eR gi
     .split at h
      .rename_i hb;let#[p,hp,rfl]:=ae.mp h;let#[v,hv,Ci,hc]:=a97 (X:=X) C.calm C.units hp;show Zv C.mono hv hc (C.u6 gR.2) (C.blt x hb) Ci pa d3 d1 eR gi
      .cases h
  .cases h
omit S in
def Nb{m:Str}:DH X P Ξ.1 m (c.meths m):=λy f C' h hC=>by
 let hm:=aL h;unfold d5.meths at hm;let#[#[m',y',f'],h1,h2]:=aP.mp hm;let#[h3,h4]:=cA.mp h1;cases h2;have:m'=m:=by simpa using h4
 subst this;show C.nu m' y f C' h3 hC
set_option tactic.hygienic true in
def Se{mt:Str}{apos:Pos}(h:FW r c o mt apos pos args=!m):PE X (.Call (.Attribute o mt apos) args [] pos) (LE X.K Ξ (aV P m)):=by
 unfold FW at h;split at h
 .rename_i hc;simp only[Bool.and_eq_true,decide_eq_true_eq] at hc;let#[#[hb,hl],hn]:=hc;let#[mo,ho,h]:=ag.mp h;let#[ms,jN,h]:=ag.mp h;let ok:=Ee jN;let pa:=vR S C jN;let po:=S.e X c Ξ C _ _ ho;let hf:methodCallForm (-args) (backTo pos (starEach args X.env)) (backToKw pos (keywordEach [] X.env))=true:=by
   unfold methodCallForm;rw[Nr ok];have:-args+0<30:=by omega
   show(true&&true&&decide (-args+0<30))=true;rw[aB this]
   rfl
  by_cases wH:mt="index"
  .subst wH;rw[av rfl] at h;cases args with
   |nil=>cases h
   |cons e es =>
    cases h;show Vk C.mono C.units po pa (O0 hb) hf hl (i5 (env:=X.env) (es:=es) (ok e #[_])) (V7 (pos:=pos) (env:=X.env) (es:=es) λz hz=>ok z (by simp[hz]))
  rw[aw wH] at h;cases args with
  |nil =>
   cases jN;by_cases h0:(yn.lookup mt).isSome=true
   .rw[av (by rw[h0];rfl)] at h;let#[p,hp,rfl]:=ae.mp h;let#[T,id,Bm,sl,ty,Bq,hk]:=aV2 (X:=X) hp;show Vo C.mono Bm sl ty Bq hk po (O0 hb) hl
   rw[aw (by rw[br];show λz=>h0 z.2)] at h;split at h
   .cases h
   .cases h;show a15 C.mono C.pass (Nb C) po (Kf hb hl hf)
  |cons e es =>
   let eR:=i5 (env:=X.env) (es:=es) (ok e #[_]);let gi:=V7 (pos:=pos) (env:=X.env) (es:=es) λz hz=>ok z (by simp[hz]);rw[aw #[_]] at h;split at h
   .rename_i p hp;cases h;let#[T,id,Bm,sl,ty,Bq,hk]:=a54 (X:=X) C.units hp;show Tb C.mono Bm sl ty Bq hk po pa (O0 hb) hf hl eR gi
   .cases h;show Vp C.mono C.pass (Nb C) po pa eR gi (Kf hb hl hf)
 .cases h
set_option tactic.hygienic true in
def GN{tg:Expr}(h:xS r c tg e=!m):PI X tg e (LI X.K Ξ (iR P m)):=by
 unfold xS at h;rcases orElse_some h with h|h
 .let#[q,hq,h']:=ag.mp h;rename_i h0;clear h h0;let h:=h';clear h';let#[p,pos',rfl]:=J9 hq;let#[y,as]:=q;dsimp only at h ⊢
  .split at h
   .rename_i hy;subst hy;rcases as with _|⟨a,_|⟨b,_|⟨_,_⟩⟩⟩
    .cases h
    .dsimp only at h;split at h
     .rename_i hc;simp only[Bool.and_eq_true] at hc;let#[#[hg,hb],ho]:=hc;let#[ma,ha,rfl]:=ae.mp h;show Tg C.mono (S.e X c Ξ C _ _ ha) (C.u6 hg) (C.blt _ hb) (i5 ho)
     .cases h
    .dsimp only at h;split at h
     .rename_i hc;simp only[Bool.and_eq_true] at hc;let#[#[#[hg,hb],ho],jj]:=hc;let#[ma,ha,h]:=ag.mp h;let#[mb,jF,rfl]:=ae.mp h;show Th C.mono (S.e X c Ξ C _ _ ha) (S.e X c Ξ C _ _ jF) (C.u6 hg) (C.blt _ hb) (by rw[i5 ho,i5 jj];rfl) (i5 jj)
     .cases h
    .cases h
   .split at h
    .rename_i hy;subst hy;rcases as with _|⟨a,_|⟨b,_|⟨_,_⟩⟩⟩
     .cases h
     .cases h
     .dsimp only at h;split at h
      .rename_i hc;simp only[Bool.and_eq_true] at hc;let#[#[#[#[hg,hb],ho],jj],ht]:=hc;let#[ma,ha,h]:=ag.mp h;let#[mb,jF,rfl]:=ae.mp h;let#[es,k,tp,rfl]:=a98 ht;show ZJ C.mono (S.e X c Ξ C _ _ ha) (S.e X c Ξ C _ _ jF) (C.u6 hg) (C.blt _ hb) (by rw[i5 ho,i5 jj];rfl) (i5 jj)
      .cases h
     .cases h
    .cases h
 .split at h
  .let#[ma,ha,rfl]:=ae.mp h;show ZI C.mono (S.e X c Ξ C _ _ ha)
  .cases h
set_option tactic.hygienic true in
def DY{elt:Expr}{gens:@&Comprehension}(h:uO r c elt gens sc=!m):∃tg it ifs t mi mc me cl,gens=[#[tg,it,ifs,0]]/\m=.comp (c.c9 sc) (frees sc++locals sc).length t mi mc me/\gj it=true /\
  dP X sc (frees sc++locals sc) (c.c9 sc) cl/\PI X tg it (LI X.K Ξ (iR P mi))/\(∀pi A s H fp,PG (d4 X pi sc (frees sc++locals sc) cl A s H fp) tg (LG X.K t)) /\
   (∀pi A s H fp,mq (d4 X pi sc (frees sc++locals sc) cl A s H fp) ifs (LT X.K (oE Ξ.1) (dM P mc)))/\(∀pi A s H fp,PE (d4 X pi sc (frees sc++locals sc) cl A s H fp) elt (LE X.K (oE Ξ.1) (aV P me)))/\∀pi A s H fp,PE ((d4 X pi sc (frees sc++locals sc) cl A s H fp).T3 (zJ X Ξ.2 pi sc (frees sc++locals sc) cl fp A s H)) elt (LE X.K Ξ (aV P me)):=by
 unfold uO at h;rcases gens with _|⟨⟨tg,it,ifs,GV⟩,_|⟨_,_⟩⟩
 .cases h
 .dsimp only at h;split at h
  .rename_i hs;simp only[Bool.and_eq_true,decide_eq_true_eq] at hs;let#[#[hs,rfl],hit]:=hs;let#[t,h1,h]:=ag.mp h;let#[mi,h2,h]:=ag.mp h;let#[mc,h3,h]:=ag.mp h;let#[me,h4,rfl]:=ae.mp h;let#[cl,Sc,I]:=C.comp hs;show#[tg,it,ifs,t,mi,mc,me,cl,rfl,rfl,hit,Sc,GN S C h2,λpi A s H fp=>(I pi A s H fp).JK rfl h1,λpi A s H fp=>b32 S (I pi A s H fp) h3,λpi A s H fp=>S.e _ _ _ (I pi A s H fp) elt me h4,λpi A s H fp=>S.e _ _ _ (I pi A s H fp).block elt me h4]
  .cases h
 .cases h
omit S in
set_option tactic.hygienic true in
def b35{f:Expr}{jf:@&Keyword}(h:yQ c f args jf=!m):PE X (.Call f args jf pos) (LE X.K Ξ (aV P m)):=by
 unfold yQ at h;rcases args with _|⟨a,_|⟨_,_⟩⟩
 .cases h
 .dsimp only at h;split at h
  .rename_i hk;simp only[Bool.and_eq_true,decide_eq_true_eq] at hk;let#[#[#[#[#[hk,hf],nG],hb],Qu],QF]:=hk;cases jf<;>first|(cases hk;done)|skip
   let#[q,hq,h]:=ag.mp h;let#[u,hu,h]:=ag.mp h;let#[v,hv,h]:=ag.mp h;split at h
   .rename_i hs;simp only[Bool.and_eq_true,decide_eq_true_eq] at hs;let#[x,hx,h]:=ag.mp h;let#[y,hy,h]:=ag.mp h;split at h
    .rename_i hw;simp only[Bool.and_eq_true] at hw;let#[#[#[nx,ny],vx],vy]:=hw;let#[i,hi,h]:=ag.mp h;let#[j,hj,rfl]:=ae.mp h;let#[x1,x2,_]:=A4 nx;let#[y1,y2,_]:=A4 ny;cases f<;>first|(cases hf;done)|skip
     cases hf;let#[p,pp,e1]:=J9 hu;let#[p',pp',e2]:=J9 hv;let#[u1,u2]:=u;let#[v1,v2]:=v;dsimp only at hs e1 e2 hx hy;let#[rfl,rfl]:=hs;let#[p1,rfl]:=MJ hx;let#[p2,rfl]:=MJ hy;let#[p3,rfl]:=TF hq;rw[e1,e2];show ZD C.mono C.calm (C.pY hi) (C.pY hj) (C.Fq vx) (C.Fq vy) x1 x2 y1 y2 (C.u6 nG) (C.blt _ hb) (C.u6 Qu) (C.blt _ QF)
    .cases h
   .cases h
  .cases h
 .cases h
set_option tactic.hygienic true in
def Pn:∀e m,Jb r c e=!m->PE X e (LE X.K Ξ (aV P m)):=by
 intro e m h;cases e with
 |Name x p=>show Yz C h
 |Constant k j p =>
  let#[d,hd,rfl]:=ae.mp (show(sY k).map ME.lit=some m from h);show Bp hd
 |BinOp a op b p =>
  let#[ma,mb,ha,hb,rfl]:=uR S C h;show FN C.mono (IQ (YG op) ha hb)
 |UnaryOp op a p=>show b31 S C h
 |Compare a ops bs p=>show(IL S C h).1
 |BoolOp op vs p=>show Pp S C h
 |IfExp t a b p =>
  let#[mt,ht,h]:=ag.mp h;let#[ma,ha,h]:=ag.mp h;let#[mb,hb,rfl]:=ae.mp h;show ZA C.mono (S.t X c Ξ C _ _ ht) (S.e X c Ξ C _ _ ha) (S.e X c Ξ C _ _ hb)
 |Tuple es k p =>
  let#[ma,ha,rfl]:=ae.mp h;show ZE C.mono (vR S C ha)
 |List es p =>
  let#[ma,ha,rfl]:=ae.mp h;show Oa C.mono (vR S C ha)
 |Subscript a b p=>show WN S C h
 |Dict ks vs p =>
  let h2:(if ks.isEmpty&&vs.isEmpty then some (ME.prim .mn .nil) else if decide (-ks<=15) then(AE r c ks vs).map .oy else none)=!m:=h;split at h2
  .rename_i hc;cases ks<;>cases vs<;>first|(cases hc;done)|skip
   cases h2;show SV
  .rename_i hc;split at h2
   .rename_i hl;let#[ms,hm,rfl]:=ae.mp h2;let#[ij,D]:=Po S C hm;show Zw C.mono D (λz=>hc ?_) (bC hl);have:=D.len.2;subst z;cases vs<;>first|rfl|cases this
   .cases h2
 |JoinedStr vs p =>
  let h2:(if decide (2<=-vs)&&decide (-vs<=40) then(xR r c vs).map (ME.prim .ml) else none)=!m:=h;split at h2
  .rename_i hc;simp only[Bool.and_eq_true,decide_eq_true_eq] at hc;let#[ms,hm,rfl]:=ae.mp h2;let#[ts,F]:=Pm S C hm;rcases vs with _|⟨v1,_|⟨v2,vs⟩⟩
   .simp at hc
   .simp at hc
   .exact SW C.mono F hc.2
  .cases h2
 |Attribute o f p =>
  let h2:(if yg o then c1 r c (.fld f) o else none)=!m:=h;split at h2
  .rename_i hb;let#[ma,ha,rfl]:=uQ S C h2;show Zx C.mono ha (O0 hb)
  .cases h2
 |Call f args jf pos =>
  let h1:((Bg r c f args jf).orElse λy=>(yQ c f args jf).orElse λy=>Fy r c f args jf pos)=!m:=h;rcases orElse_some h1 with h2|h2
  .unfold Bg at h2;cases h2
  clear h h1;rcases orElse_some h2 with h3|h3
  .exact b35 C h3
  clear h2;unfold Fy at h3;split at h3
  .rename_i hk;cases jf<;>first|(cases hk;done)|skip
   cases f with
   |Name x p=>show Sf S C h3
   |Attribute o a p=>show Se S C h3
   |_=>cases h3
  .cases h3
 |ListComp elt gens sc p =>
  let#[tg,it,ifs,t,mi,mc,me,cl,rfl,rfl,hit,Sc,q1,q2,q3,q4,_]:=DY S C h;show(Mm Sc C.calm q1 q2 q3 q4 (An hit)).imp λσ H Q h=>MO C.mono σ H Q h
 |_=>cases h
set_option tactic.hygienic true in
def Pk:∀e m,stepT r c e=!m->PT X e (LT X.K Ξ (dM P m)):=by
 intro e m h;let plain:∀{e:Expr} {m:ME},(if EG e then(r.e c e).map ME.eG else none)=!m->PT X e (LT X.K Ξ (dM P m)):=λ{e m} h=>by
  split at h
  .rename_i hp;let#[ma,ha,rfl]:=ae.mp h;show ZS C.mono (S.e X c Ξ C _ _ ha) (a27 hp)
  .cases h
 cases e with
 |UnaryOp op a p =>
  let h2:(if op=.Not then(r.t c a).map ME.cL else none)=!m:=h;split at h2
  .rename_i ho;subst ho;let#[ma,ha,rfl]:=ae.mp h2;show ZQ C.mono (S.t X c Ξ C _ _ ha)
  .cases h2
 |BoolOp op vs p=>show(Pj S C h).pt
 |Compare a ops bs p =>
  let#[ma,ha,rfl]:=ae.mp (show(yB r c a ops bs).map ME.eG=some m from h);show(IL S C ha).2
 |_=>show plain h
end
section
def MM(h:Ip e=!m):PE X e (LE X.K Ξ (aV P m))/\gj e=true:=by
 cases e<;>first|(cases h;done)|skip
 let#[d,hd,rfl]:=ae.mp (show(sY _).map ME.lit=some m from h);show#[Bp hd,rfl]
def a92(hP:i3 P):∀{es:@&Expr} {m:ME},FD es=!m->PA X es (LA X.K Ξ (fj P m)):=by
 intro es
 induction es with
 |nil=>intro m h;cases h;show O4 hP
 |cons e es ih =>
  intro m h;let#[m1,h1,h]:=ag.mp h;let#[m2,h2,rfl]:=ae.mp h;show A9 hP (MM h1).1 (ih h2) (i5 (MM (X:=X) (Ξ:=Ξ) (P:=P) h1).2)
def Ue(hP:i3 P)(h:Io e=!m):PE X e (LE X.K Ξ (aV P m)):=by
 cases e<;>first|(cases h;done)|skip
 .let#[d,hd,rfl]:=ae.mp (show(sY _).map ME.lit=some m from h);show Bp hd
 .let#[ms,hm,rfl]:=ae.mp h;show Oa hP (a92 hP hm)
def aY3{h:ExceptHandler}{q:Str×Expr}(hq:Jm h=!q):∃p p1 p2,h=.ExceptHandler (!.Name q.1 p) none [.Return (!q.2) p1] p2:=by
 let#[t,n,b,p0]:=h;cases n with
 |some _=>cases hq
 |none =>
  let#[t,rfl,hq]:=ag.mp (show t.bind _=some q from hq);let#[y,hy,hq]:=ag.mp hq;let#[e,he,rfl]:=ae.mp hq;let#[p,rfl]:=P5 hy;rcases b with _|⟨s,_|⟨_,_⟩⟩
  .cases he
  .cases s<;>first|(cases he;done)|(cases he;show#[_,_,_,rfl])
  .cases he
set_option tactic.hygienic true in
def Ud(C:gu X c P Ξ)(BY:uP X Ξ.2):∀{hs:@&ExceptHandler} {ms:@&(Str×ME)},uF c hs=!ms->kz X Ξ P hs ms:=by
 intro hs
 induction hs with
 |nil=>intro ms h;cases h;show .nil BY
 |cons hd hs ih =>
  intro ms h;unfold uF at h;rcases orElse_some h with h|h
  rotate_left
  .let#[y,hy,h5]:=ag.mp h;clear h;let#[t,n,b,p2]:=hd;let hy:(if n.isNone&&~~~b.isEmpty then t.bind asName else none)=!y:=hy;split at hy
   case isFalse=>cases hy
   rename_i Cg;simp only[Bool.and_eq_true] at Cg;cases n<;>first|(cases Cg.1;done)|skip
   rcases b with _|⟨nS,su⟩
   .cases Cg.2
   let#[t,rfl,hy]:=ag.mp hy;let#[p,rfl]:=P5 hy;split at h5
   .rename_i hc;simp only[Bool.and_eq_true] at hc;let#[Pq,h2,rfl]:=ae.mp h5;let#[C',hm,hi,_]:=C.exc y hc.1.1;show .nZ (C.u6 hc.1.2) (A4 hc.2).1 hm (λx C1 hx h1=>C.xC x y C1 C' ?_ hc.1.1 h1 hi) (ih h2);rw[C.uo] at hx;simpa using hx
   .cases h5
  rename_i h0;clear h0;let#[q,hq,h']:=ag.mp h;clear h;let h:=h';clear h';let#[p,p1,p2,rfl]:=aY3 hq;let#[y,e]:=q;dsimp only at h ⊢;split at h
  .rename_i hc;simp only[Bool.and_eq_true] at hc;let#[m,h1,h]:=ag.mp h;let#[Pq,h2,rfl]:=ae.mp h;let#[C',hm,hi,_]:=C.exc y hc.1.1;show .cons (C.u6 hc.1.2) (A4 hc.2).1 hm (λx C1 hx h1=>C.xC x y C1 C' ?_ hc.1.1 h1 hi) (λea=>Ue (X:=F7 X ea) C.mono h1) (ih h2);rw[C.uo] at hx;simpa using hx
  .cases h
def aM2{e f:Option Expr}{q:Str×Expr×@&Expr}(h:Ly e f=!q):f=none/\∃p p',e=!.Call (.Name q.1 p) (q.2.1::q.2.2) [] p':=by
 cases f with
 |some _=>cases h
 |none =>
  let#[t,rfl,h]:=ag.mp (show e.bind _=some q from h);let#[z,hz,h]:=ag.mp h;let#[p,p',rfl]:=J9 hz;let#[x,as]:=z;cases as with
  |nil=>cases h
  |cons a as=>cases h;show#[rfl,_,_,rfl]
def LM(C:gu X c P Ξ){f:Str}:zI X.K f (c.Aw f):=λy C' h hC=>by
 let#[#[f',y'],h1,h2]:=aP.mp h;let#[h3,h4]:=cA.mp h1;cases h2;have:f'=f:=by simpa using h4
 subst this;show C.nR f' y' C' h3 hC
variable(S:qP P r)(C:gu X c P Ξ)
include S C
set_option tactic.hygienic true in
def YA{pt:Pos}{m:MS}(hw:c.wr=true)(h:AU r c es e=!m):PS X (.Assign [.Tuple es k pt] e pos) (LS X.K Ξ (wpS P m)):=by
 unfold AU at h;let#[q,hq,h1]:=ag.mp h;clear h;split at h1
 .rename_i hn;rw[br] at hn;let#[i,hi,h2]:=ag.mp h1;let#[j,hj,h3]:=ag.mp h2;let#[me,he,rfl]:=ae.mp h3;unfold Nw at hq;split at hq
  .cases hq;dsimp only at hi hj;rename_i a b pb;let so:=C.slots (es:=[a,b]) (is:=[i,j]) (by simp[d5.slots,hi,hj]);show Tt C.mono (FL (S.e X c Ξ C _ _ he) (SA C.calm (Kk (C.rK hw) so) (λx x z=>by subst z;cases hi) (λx x z=>by subst z;cases hj)) (Y8 hn.2) (Nf hn.1))
  .cases hq
 .cases h1
set_option tactic.hygienic true in
def WM{tg:Expr}{m:MS}(hw:c.wr=true)(hS:∀e m,r.e c e=!m->w5 e=false->∃elt gens sc p,e=.ListComp elt gens sc p/\∃r',qP P r'/\uO r' c elt gens sc=!m)(hT:∀a b k p m,r.e c (.Tuple [a,b] k p)=!m->∃r' ms,qP P r'/\I9 r' c [a,b]=!ms/\m=.prim .tup ms)(h:JE r c tg e=!m):PS X (.Assign [tg] e pos) (LS X.K Ξ (wpS P m)):=by
 cases tg with
 |Name x px =>
  let h2:(if c.A3 x then(c.idx x).bind λi=>(r.e c e).map λm=>MS.set i m else none)=!m:=h;split at h2
  .rename_i hl;let#[i,hi,h2]:=ag.mp h2;let#[me,he,rfl]:=ae.mp h2;cases hn:w5 e with
   |true=>show Of C.mono (NY (C.rK hw) (C.pY hi) (C.A3 hl).1 (S.e X c Ξ C _ _ he) (EE hn) (C.A3 hl).2)
   |false =>
    let#[elt,gens,sc,p,rfl,r',S',hx]:=hS e me he hn;let#[tg,it,ifs,t,mi,mc,me,cl,rfl,rfl,hit,Sc,q1,q2,q3,q4,_]:=DY S' C hx;show Of C.mono ?_;show(aK8 Sc C.calm q1 q2 q3 q4 (An hit) (C.rK hw) (C.pY hi) (C.A3 hl).1 (C.A3 hl).2).imp λN σ H h=>MO C.mono σ H _ h
  .cases h2
 |Tuple es k pt =>
  rcases orElse_some (show((AU r c es e).orElse λy=>_)=some m from h) with h|h
  .exact YA S C hw h
  let h0:((FA es).elim (if sZ e&&w5 e then(c.slots es).bind λis=>(r.e c e).map λm=>MS.tJ (.many is) m else none) λq=>if w5 e&&gj q.2.1&&gj q.2.2.2 then(r.e c q.1).bind λm1=>(r.e c q.2.1).bind λn1=>(r.e c q.2.2.1).bind λm2=>(r.e c q.2.2.2).bind λn2=>(r.e c e).map λm=>MS.yU m1 n1 m2 n2 m else none)=!m:=h;cases hq:FA es with
  |some q =>
   rw[hq] at h0;dsimp only[Option.elim] at h0;split at h0
   .cases hq
   .cases h0
  |none =>
  rw[hq] at h0;let h2:(if sZ e&&w5 e then(c.slots es).bind λis=>(r.e c e).map λm=>MS.tJ (.many is) m else none)=!m:=h0;split at h2
  .rename_i hn;rw[br] at hn;let#[is,hs,h2]:=ag.mp h2;let#[me,he,rfl]:=ae.mp h2;show ZX C.mono (FL (S.e X c Ξ C _ _ he) (My C.calm (C.rK hw) (C.slots hs)) (Y8 hn.2) (Nf hn.1))
  .cases h2
 |Subscript o i pt =>
  let h2:(if gj i&&w5 e then(r.e c o).bind λmo=>(r.e c i).bind λmi=>(r.e c e).map λm=>MS.eJ mo mi m else none)=!m:=h;split at h2
  .rename_i hn;rw[br] at hn;let#[mo,ho,h2]:=ag.mp h2;let#[mi,hi,h2]:=ag.mp h2;let#[me,he,rfl]:=ae.mp h2;show VA C.mono C.units (S.e X c Ξ C _ _ he) (S.e X c Ξ C _ _ ho) (S.e X c Ξ C _ _ hi) (Y8 hn.2) (Sk hn.1)
  .cases h2
 |Attribute o f pt =>
  let#[mo,ho,h]:=ag.mp h;let#[me,he,rfl]:=ae.mp h;show Ts C.mono (LM C) (S.e X c Ξ C _ _ ho) (S.e X c Ξ C _ _ he) (by cases e<;>rfl)
 |_=>cases h
set_option tactic.hygienic true in
def Pl(hw:c.wr=true)(hS:∀e m,r.e c e=!m->w5 e=false->∃elt gens sc p,e=.ListComp elt gens sc p/\∃r',qP P r'/\uO r' c elt gens sc=!m)(hT:∀a b k p m,r.e c (.Tuple [a,b] k p)=!m->∃r' ms,qP P r'/\I9 r' c [a,b]=!ms/\m=.prim .tup ms) :
  ∀st m,Jc r c st=!m->PS X st (LS X.K Ξ (wpS P m)):=by
 intro st m h;let hP:=C.mono;cases st with
 |AugAssign tg op e p =>
  cases tg with
  |Attribute o f tp =>
   let h2:(if decide (op=Operator.Add) then(r.e c o).bind λmo=>(r.e c e).map λm=>MS.ku f (c.Aw f) mo m else none)=!m:=h;split at h2
   .rename_i ho;obtain rfl:=bC ho;let#[mo,ho,h2]:=ag.mp h2;let#[me,he,rfl]:=ae.mp h2;show Tp C.mono (LM C) (S.e X c Ξ C _ _ ho) (S.e X c Ξ C _ _ he)
   .cases h2
  |Name x tp =>
   let h2:(if c.A3 x then(HV op).bind λp=>(c.idx x).bind λi=>(r.e c e).map λm=>MS.nV i p m else none)=!m:=h;split at h2
   .rename_i hl;let#[p,hp,h2]:=ag.mp h2;let#[i,hi,h2]:=ag.mp h2;let#[me,he,rfl]:=ae.mp h2;show Tq C.mono ?_ (C.rK hw) (C.pY hi) (C.A3 hl).1 (C.A3 hl).2 (S.e X c Ξ C _ _ he);cases op<;>first|(cases hp;done)|skip
    .cases hp;show .inl #[rfl,rfl]
    .cases hp;show .inr #[rfl,rfl]
   .cases h2
  |_=>cases h
 |Expr e p =>
  let h2:(if w5 e then(r.e c e).map MS.expr else none)=!m:=h;split at h2
  .rename_i hn;let#[me,he,rfl]:=ae.mp h2;show Tr hP (S.e X c Ξ C _ _ he) (EE hn)
  .cases h2
 |Assign Bh e p =>
  rcases Bh with _|⟨tg,_|⟨_,_⟩⟩
  .cases h
  .exact WM S C hw hS hT h
  .cases h
 |If t a b p =>
  let#[mt,ht,h]:=ag.mp h;let#[ma,ha,h]:=ag.mp h;let#[mb,hb,rfl]:=ae.mp h;show Xx hP (S.t X c Ξ C _ _ ht) (yy S C hw ha) (yy S C hw hb)
 |For tg it body zG p =>
  let h2:(if c.ox&&(zG.isEmpty&&gj it) then(c.tg tg).bind λt=>(xS r c tg it).bind λmi=>(A7 r c body).map λmb=>MS.iE t mi mb else none)=!m:=h;split at h2
  .rename_i hc;rw[br,br] at hc;cases zG<;>first|(cases hc.2.1;done)|skip
   let#[t,h1,h2]:=ag.mp h2;let#[mi,h3,h2]:=ag.mp h2;let#[mb,h4,rfl]:=ae.mp h2;show ZV hP (C.own hc.1) C.calm (GN S C h3) (C.JK hw h1) (yy S C hw h4) (An hc.2.2)
  .cases h2
 |Return e p =>
  cases e with
  |none=>cases h;show(SI (X:=X)).imp (by rintro N bE H ⟨σ,g,ρ,s,R,h⟩;show LQ.now h R .aO)
  |some e =>
   let#[me,he,rfl]:=ae.mp (show(r.e c e).map (λm=>MS.ret (toR c e m))=some m from h);show Oe hP ?_;unfold toR;split
   .split
    .rename_i hc;rw[br] at hc;let#[elt,gens,sc,p,rfl,r',S',hx]:=hS e _ he (_/hc.1);let#[tg,it,ifs,t,mi,mc,me,cl,rfl,em,hit,Sc,q1,q2,q3,_,q5]:=DY S' C hx;cases em;let#[eR,hf,hh]:=C.iA hc.2;show(UX eR hf hh Sc C.calm q1 q2 q3 q5 (An hit)).imp λσ H Q h=>a22 C.mono σ H Q h
    .exact S.e X c Ξ C _ _ he
   .exact S.e X c Ξ C _ _ he
 |Raise e f p =>
  let#[q,hq,h2]:=ag.mp h;clear h;let#[rfl,px,p2,rfl]:=aM2 hq;let#[x,e,es]:=q;dsimp only at h2 ⊢;split at h2
  .rename_i hc;simp only[Bool.and_eq_true] at hc;let#[ma,ha,rfl]:=ae.mp h2;let ok:=Ee ha;let#[C',hm,hi,B,nI,iI,bm,O,FB]:=C.exc x hc.1.1.2;show Vz hP C.calm O FB (C.u6 hc.1.2) (vR S C ha) (C.jB hc.1.1.1) (by rw[C.uo];simpa using hc.1.1.2) hi (i5 (ok e #[_])) (V7 λz hz=>ok z (by simp[hz])) (A4 hc.2).1
  .cases h2
 |Try body hs el fi p =>
  let h2:(if c.iA&&~~~hs.isEmpty&&el.isEmpty&&fi.isEmpty then(A7 r { c with jB:=false,iA:=false,wr:=true } body).bind λmb=>(uF c hs).map λms=>MS.T4 mb ms else none)=!m:=h;split at h2
  .rename_i hc;simp only[Bool.and_eq_true] at hc;let#[#[#[ht,hh],he],hf]:=hc;cases el<;>first|(cases he;done)|skip
   cases fi<;>first|(cases hf;done)|skip
   cases hs<;>first|(cases hh;done)|skip
   let#[eR,hf,BY]:=C.iA ht
   .let#[mb,h1,h2]:=ag.mp h2;let#[ms,h3,rfl]:=ae.mp h2;show ZW hP (C.sgn hw) (λpi D=>yy S (C.T4 hw eR hf pi D _ (λσ hl _=>#[by rw[yL,hl],λi v z=>?_]) λy=>rfl) rfl h1) (Ud C BY h3);rw[dF] at z;split at z<;>cases z
  .cases h2
 |Pass p=>cases h;show(SH (X:=X)).imp (by rintro N bE H ⟨σ,g,ρ,s,R,h⟩;show h ρ H bE (.refl _ _) R s)
 |_=>cases h
end
def aL8(h:(comp (n+1)).e c e=!m)(hn:w5 e=false):∃elt gens sc p,e=.ListComp elt gens sc p/\uO (comp n) c elt gens sc=!m:=by
 cases e<;>first|(cases hn;done)|(cases h;done)|show#[_,_,_,_,rfl,h]
def snd:∀n,(∀k,k<=n->qP P (comp k)):=by
 intro n
 induction n with
 |zero =>
  intro k hk;obtain rfl:=Nat.le_zero.mp hk;show#[λx x x x x x h=>(by cases h),λx x x x x x h=>(by cases h),λx x x x x x x h=>(by cases h)]
 |succ n ih =>
  intro k hk;rcases Nat.lt_or_ge k (n+1) with dN|hge
  .grind
  obtain rfl:k=n+1:=by omega
  let I:=ih n (ak n);show#[λX c Ξ C e m h=>Pn I C e m h,λX c Ξ C e m h=>Pk I C e m h,λX c Ξ C hw st m h=>?_];rcases orElse_some h with h|h
  rotate_left
  .cases h;show λpi s σ H D I q=>by let#[_,_,_,_,_,z]:=q;show(show False from z).elim
  show Pl I C hw (λe m he hn=>?_) (λa b k p m he=>?_) st m h
  .cases n with
   |zero=>cases he
   |succ n =>
    let#[elt,gens,sc,p,rfl,hx]:=aL8 he hn;show#[_,_,_,_,rfl,comp n,ih n (),hx]
  .cases n with
   |zero=>cases he
   |succ n =>
    let#[ms,hm,rfl]:=ae.mp (show(I9 (comp n) c [a,b]).map (ME.prim .tup)=some m from he);show#[comp n,ms,ih n (),hm,rfl]
structure qc where
 nm:Str
 qn:Str
 N:@&Str
 ps:@&Str
 st:Stmt
def d5.at(c:d5)(d:qc):d5:={ c with N:=d.N,nm:=(l9 d.st).names,ox:=true,jB:=true,iA:=true,wr:=true }
structure jv(K:PySem.W.Frag)(c:d5)(d:qc)(m:aW)(f:Addr)(fd:FuncData):Prop where
 fn:qQ K d.nm d.qn d.st f fd
 bi:Binds K fd d.ps []
 sc:iK d.N d.ps (l9 d.st)
 co:A7 (comp 60) (c.at d) (o6 d.st)=!m.body
 ar:m.ar=-d.ps
 nn:m.n=-d.N
structure nW(w:World)(K:PySem.W.Frag)(mg:Str->Option Value)(c:d5)(T:Nat->Option aW):Prop where
 fns:∀x i,c.fns.lookup x=!i->∃d m f fd,T i=!m/\jv K c d m f fd/\mg x=!.ref f
 cls:∀x i,c.cls.lookup x=!i->∃C d m f fd,T i=!m/\jv K c d m f fd/\mg x=!.ref C/\l7 K x C/\iY K C/\Mk K C f
 nu:∀x y i C,(x,y,i)∈c.nu->l7 K y C->∃d m f fd,T i=!m/\jv K c d m f fd/\Meth K C x f
 nR:∀f y C,(f,y)∈c.nR->l7 K y C->C0 K C f
 con:∀x d,c.con.lookup x=!d->∃v u,mg x=!u/\RelV v u/\∀ρ H,c8 K ρ H d v
 blt:∀x,c.blt.contains x=true->mg x=none
 Dg:∀x,c.exc.contains x=true->∃C,mg x=!.ref C/\l7 K x C/\∀base:Heap,K.In base->base.Ns mainGlobals mg->∃B newId gB bm,OwnCls x C bm newId mg base/\ExcBaseFacts B newId gB bm
 Df:∀x y C C',c.exc.contains x=true->c.exc.contains y=true->l7 K x C->l7 K y C'->PySem.W.exmOne K (.ref C) (.ref C')=!decide (x=y\/y="MintError")
 sA:∀x kvs,c.gd.lookup x=!kvs->∃A vs,mg x=!.ref A/\xQ K w.params A vs/\qJ K kvs vs
section
variable{Pg:Program}{w:World}{K:PySem.W.Frag}{mg:Str->Option Value}{base:Heap}{T:Nat->Option aW}
set_option tactic.hygienic true in
def Yl{q:Str}(h:PySem.W.codeIn K cd q=true):PySem.W.kdsCode K cd=true:=by
 unfold PySem.W.codeIn at h;unfold PySem.W.kdsCode;split at h
 .dsimp only;split at h
  .rename_i e;rw[e]
  .cases h
 .cases h
def Ss:Passes (gM Pg w) (pV (gM Pg w) Pg w K mg base N qual scope f cd A outer s H E) E:=λpi σ H1 s1 e s' I h=>by
 let#[C,H',J,fl,hE]:=I.flew h;show aH2 J fl (λb o q=>I.base.there b o q (by intro z;cases z)) rfl rfl rfl hE
def Ve:zW (pV (gM Pg w) Pg w K mg base N qual scope f cd A outer s H E) E:=λpi σ H1 s1 h' ea C vs I hm hE =>
 aV9 I hm rfl rfl rfl hE
def RL:uP (pV (gM Pg w) Pg w K mg base N qual scope f cd A outer s H E) E:=λpi σ H1 H2 s1 s2 B ea C a0 I l hh hE =>
 leave_held I l hh rfl rfl rfl hE
def DK{m:aW}(hT:T i=!m){ds:@&D}{g:G}{Q:KD}{E:KX}(h:a8 T k i ds g Q E):-ds=m.ar:=by
 cases k with
 |zero=>show h.elim
 |succ k =>
  let#[m',e,h,_]:=h
  simp_all
def XT(nB:K.In base)(xj:base.Ns mainGlobals mg)(A:nW w K mg c T):∀(k i:Nat) d m f fd,T i=!m->jv K c d m f fd->gD Pg w K mg base (gM Pg w) (2*k) f fd d.ps (qh c.exc K (-d.ps) (a8 T k i)):=by
 intro k
 induction k with
 |zero =>
  intro i d m f fd hm O;show#[λvs H Q E h=>h.1,λA outer s H args us vs Q E v v v v h=>?_];let#[_,_,_,_,_,_,q]:=h;show q.elim
 |succ k ih =>
  intro i d m f fd hm O;let#[oc,od,kV,doc,pm,an,fz,ct,mE,rfl,lk,lZ]:=O.fn.ex;show Wm (k:=2*k+1) lk lZ O.sc (λvs H Q E h=>h.1) (λA0 outer s H vs Q E hr h=>?_);let#[hl,xs,g,ρ,rs,R,q]:=h;let C:gu (pV (gM Pg w) Pg w K mg base d.N d.qn (l9 d.st) f fz A0 outer s H E) (c.at d) (a8 T k) (c.exc,E):=by
   show#[rfl,O.sc.nd,λx h=>h,λx h=>h,λx h=>.inr h,λx h=>h,λx h=>?_,λv v=>rfl,rfl,?_,(λv=>PassesOwn.leaving),b8 T k,A.con,A.blt,λx j hj=>?_,λx j hj=>?_,λx y j C' hj hC=>?_,A.nR,rfl,Ss,λv=>Ve,λv=>#[rfl,rfl,RL],λx hx=>?_,A.Df,A.sA,λv=>Yl lZ,λv=>rfl]
   .rcases h with h|h
    .exact Ed h
    .exact absurd rfl (O.sc.nk _ (aL h))
   .have:=hr.un;show(A0.deeper _).units+100<cLine;omega
   .let#[d',m',f',qG,hT,O',hmg]:=A.fns x j hj;show#[2*k,f',qG,d'.ps,#[ih j d' m' f' qG hT O',O'.bi,λHJ g' Q' E' h'=>(DK hT h').trans O'.ar],hr.mono (),hmg,O'.fn.kp]
   .let#[C',d',m',f',qG,hT,O',hmg,hC,iV,M]:=A.cls x j hj;show#[2*k,C',f',qG,d'.ps,#[ih j d' m' f' qG hT O',O'.bi,λHJ g' Q' E' h'=>(DK hT h').trans O'.ar],hr,hmg,hC,iV,M]
   .let#[d',m',f',qG,hT,O',M]:=A.nu x y j C' hj hC;show#[2*k,f',qG,d'.ps,M,#[ih j d' m' f' qG hT O',O'.bi,λHJ g' Q' E' h'=>(DK hT h').trans O'.ar],hr.mono ()]
   .let#[C,h1,h2,h3]:=A.Dg x hx;show#[C,h1,h2,h3 base nB xj]
  show#[_,yy (snd 60 60 (ak _)) C rfl O.co,?_];let#[m',e,q1,q]:=q;rw[hm] at e;cases e;show#[b7 m xs,g,ρ,?_,R,wpS_mono (b8 T k) m.body #[λv g'=>LQ K ρ H Q .aO g',LQ K ρ H Q,λv v=>False,λv v=>False] _ _ _ _ _ #[λσ g' h bA H' dI e R' s'=>h bA H' _ e R' .aO,λd g' h=>h,λv v h=>h.elim,λv v h=>h.elim] (λv v z=>z) q];have:=o7.start (n:=-d.N) rs;unfold b7 L2.start;rw[O.nn];show this
def Yr{L k0:Nat}{a:Addr}{ns:@&Int}(hO:As H)(hS:fR K H a (ns.map V.int))(h:a8 T k0 L [.ref 0] [.pO (ns.map .int)] (λd x=>d=.bl true) ky) :
  qh exc K 1 (a8 T k0 L) [.ref a] H (λv x=>v=.bl true) λx x x=>False:=by
 show#[rfl,[.ref 0],[.pO (ns.map .int)],[a],.cons (.ref rfl) .nil,#[rfl,λi o b h1 h2=>?_,λi j l m b h1 h2 m1=>?_],b8 T k0 _ _ _ _ _ _ _ (λd g' e bA H' v x x r=>?_) (λx x z=>z.elim) h]
 .cases i with
  |zero =>
   cases h1;cases h2;show#[_,?_,a9.ofInts ns];rcases hS with(z|⟨o,z⟩)|z
   .rcases hO a with q|⟨o,xs,q⟩
    .simp_all
    simp_all
   .exact .inl #[o,z]
   .exact .inr z
  |succ i=>simp at h1
 .cases i with
  |zero=>cases h1;cases m1
  |succ i=>simp at h1
 .subst e;cases r
  rfl
end
end M
namespace M
open PySem L2
variable{P:fb}{σ:S}{g:G}{Q:KD}{E:KX}{a i n:Nat}{b:Bool}{c x f:Str}{o cond elt:ME}{y d v:D}{j:Int}{cs:@&Str}{m l:@&D}{fs:@&(Str×D)}{A B:Prop}{kvs:@&(Key×D)}{kg:G->Prop}{c9:@&Nat}{R:IK->G->Prop}
section
variable{N:Ends}{a b c:ME}{x y:MS}{p:Pr}
def E3(h:N.nx σ g):wpS P .pass N σ g E:=h
def Fu(h:wpS P x #[λjq g1=>wpS P y N jq g1 E,N.rt,N.bk,N.ct] σ g E):wpS P (.seq x y) N σ g E:=h
def FT(h:wpS P x N σ g E):wpS P (.seq x .pass) N σ g E:=h
def Ln(h:aV P a σ g (λx g1=>N.nx σ g1) E):wpS P (.expr a) N σ g E:=h
def Fv(h:aV P a σ g (λx g1=>N.nx (σ.set i (!x)) g1) E):wpS P (.set i a) N σ g E:=h
def bB9{j:Nat}(h:aV P a σ g (λv g1=>∃a x l,v=.ref a/\c7 g1 a=!(x::l)/\N.nx ((σ.set i (!x)).set j (!.ref (-g1))) (g1++[.lst l])) E):wpS P (.lO i j a) N σ g E:=h
def MG{i:ME}(h:aV P a σ g (λx g1=>aV P o σ g1 (λy g2=>aV P i σ g2 (λz g3=>qb y z x g3 λg4=>N.nx σ g4) E) E) E):wpS P (.eJ o i a) N σ g E:=h
def Lr(h:aV P a σ g (λx g1=>aV P o σ g1 (λy g2=>xY f cs y x g2 λg3=>N.nx σ g3) E) E):wpS P (.dS f cs o a) N σ g E:=h
def Lm(h:aV P o σ g (λy g1=>∃a' c fs x,y=.ref a'/\g1[a']?=!.ins c fs/\c∈cs/\fs.lookup f=!x/\aV P a σ g1 (λz g3=>cw .iadd [x,z] g3 λw g4=>∃iX,g4[a']?=!.ins c iX/\-iX<100/\N.nx σ (g4.set a' (.ins c (A2 f w iX)))) E) E):wpS P (.ku f cs o a) N σ g E:=h
def Fs(h:dM P c σ g (λt g1=>if t=true then wpS P x N σ g1 E else wpS P y N σ g1 E) E):wpS P (.ifs c x y) N σ g E:=h
def Ji(h:aV P a σ g N.rt E):wpS P (.ret a) N σ g E:=h
def MF{x:Str}(h:fj P a σ g (λvs g1=>-vs<=1000/\E #[x] g1) E):wpS P (.raise x a) N σ g E:=h
def Jk{hs:@&(Str×ME)}(h:wpS P x N σ g (lL P N (σ.map λy=>none) E hs)):wpS P (.T4 x hs) N σ g E:=h
def Ws{x:Xn}{y:Str}{e:ME}{r:@&(Str×ME)}(hx:x.cls=y)(h:aV P e σ g N.rt ky):lL P N σ E ((y,e)::r) x g:=by unfold lL;rw[av (.inl hx)];show h
def Wr{x:Xn}{e:ME}{r:@&(Str×ME)}(h:aV P e σ g N.rt ky):lL P N σ E (("MintError",e)::r) x g:=by unfold lL;rw[av (.inr rfl)];show h
def w_var(e:σ[i]?=!!d)(h:Q d g):aV P (.var i) σ g Q E:=by show#[d,e,h]
def w_lit(h:Q d g):aV P (.lit d) σ g Q E:=h
def Lq(h:fj P a σ g (λxs g1=>cw p xs g1 Q) E):aV P (.prim p a) σ g Q E:=h
def JO(h:cw p [] g Q):aV P (.prim p .nil) σ g Q E:=by show h
def yA(h:aV P a σ g (λx g1=>cw p [x] g1 Q) E):aV P (.prim p (.cons a .nil)) σ g Q E:=by show h
def qO(h:aV P a σ g (λx g1=>aV P b σ g1 (λy g2=>cw p [x,y] g2 Q) E) E):aV P (.prim p (.cons a (.cons b .nil))) σ g Q E:=by show h
def MB{o1 o2:CmpOp}(h:aV P a σ g (λx g1=>aV P b σ g1 (λy g2=>cw (.cmp o1) [x,y] g2 λz g3=>∃t,z=.bl t/\if t=true then aV P c σ g3 (λw g4=>cw (.cmp o2) [y,w] g4 Q) E else Q (.bl false) g3) E) E):aV P (.chain o1 o2 a b c) σ g Q E:=h
def w_and(h:aV P a σ g (λx g1=>∃t,x=.bl t/\if t=true then aV P b σ g1 Q E else Q (.bl false) g1) E):aV P (.eO a b) σ g Q E:=h
def w_not(h:aV P a σ g (λx g1=>∃t,x=.bl t/\Q (.bl (~~~t)) g1) E):aV P (.cL a) σ g Q E:=h
def w_ite(h:dM P c σ g (λt g1=>if t=true then aV P a σ g1 Q E else aV P b σ g1 Q E) E):aV P (.ite c a b) σ g Q E:=h
def FR{f:Nat}(h:fj P a σ g (λxs g1=>P f xs g1 Q E) E):aV P (.call f a) σ g Q E:=h
def Lo{f:Nat}{c:Str}(h:fj P a σ g (λxs g1=>P f (.ref (-g1)::xs) (g1++[.ins c []]) (λd g2=>d=.aO/\Q (.ref (-g1)) g2) E) E):aV P (.make c f a) σ g Q E:=h
def MC{m:Str}{cs:@&(Str×Nat)}(h:aV P o σ g (λx g1=>∃a' c fs f,x=.ref a'/\g1[a']?=!.ins c fs/\fs.lookup m=none/\cs.lookup c=!f/\fj P a σ g1 (λxs g2=>P f (x::xs) g2 Q E) E) E):aV P (.bg m cs o a) σ g Q E:=h
def Lp(h:aV P o σ g (λx g1=>mF p x g1/\fj P a σ g1 (λxs g2=>cw p (x::xs) g2 Q) E) E):aV P (.dk p o a) σ g Q E:=h
def XN(h:fj P a σ (g++[.bZ []]) (λxs g1=>∃kvs,ux xs []=!kvs/\-xs<=30/\g1[(-g)]?=!.bZ []/\Q (.ref (-g)) (g1.set (-g) (.bZ kvs))) E):aV P (.oy a) σ g Q E:=h
def Ft{Q:@&D->G->Prop}(h:Q [] g):fj P .nil σ g Q E:=h
def yi{Q:@&D->G->Prop}(h:aV P a σ g (λx g1=>fj P b σ g1 (λxs g2=>Q (x::xs) g2) E) E):fj P (.cons a b) σ g Q E:=h
def Ls{Q:Bool->G->Prop}(h:dM P a σ g (λt g1=>if t=true then dM P b σ g1 Q E else Q false g1) E):dM P (.eO a b) σ g Q E:=h
def Jj{Q:Bool->G->Prop}(h:dM P a σ g (λt g1=>if t=true then Q true g1 else dM P b σ g1 Q E) E):dM P (.gI a b) σ g Q E:=h
def Lu{Q:Bool->G->Prop}(h:dM P a σ g (λt g1=>Q (~~~t) g1) E):dM P (.cL a) σ g Q E:=h
def Fw{Q:Bool->G->Prop}(h:Q true g):dM P .no σ g Q E:=h
def Fx{Q:Bool->G->Prop}(h:aV P a σ g (λx g1=>qN g1 x λb=>Q b g1) E):dM P (.eG a) σ g Q E:=h
end
section
variable{i:Int}{kb:Bool->Prop}{t s:Bool}
def HM(h:Q (.int (i+j)) g):cw (.bin .Add) [.int i,.int j] g Q:=#[_,_,.inl #[i,j,_,rfl,rfl,rfl,rfl],h]
def HP(h:Q (.int (i-j)) g):cw (.bin .Sub) [.int i,.int j] g Q:=#[_,_,.inl #[i,j,_,rfl,rfl,rfl,rfl],h]
def uE(c:sN i j)(h:Q (.int (i*j)) g):cw (.bin .Mult) [.int i,.int j] g Q:=#[_,_,.inl #[i,j,_,rfl,#[c,rfl],rfl,rfl],h]
def V0(c:0<j)(h:Q (.int (i % j)) g):cw (.bin .Mod) [.int i,.int j] g Q:=#[_,_,.inl #[i,j,_,rfl,#[c,rfl],rfl,rfl],h]
def HN(c:Dq i j)(h:Q (.int (i / j)) g):cw (.bin .FloorDiv) [.int i,.int j] g Q:=#[_,_,.inl #[i,j,_,rfl,#[c,rfl],rfl,rfl],h]
def sX(c:T7 i j)(h:Q (.int (i ^ j.toNat)) g):cw (.bin .Pow) [.int i,.int j] g Q:=#[_,_,.inl #[i,j,_,rfl,#[c,rfl],rfl,rfl],h]
def EW(hl:-l+-m<=100000)(h:Q (.tup (l++m)) g):cw (.bin .Add) [.tup l,.tup m] g Q:=#[_,_,.inr (.inl #[rfl,.inl #[l,m,rfl,hl,rfl,rfl]]),h]
def HW{i j:Nat}(hi:g[i]?=!.lst l)(hj:g[j]?=!.lst m)(hl:-l+-m<=100000)(h:Q (.ref (-g)) (g++[.lst (l++m)])):cw (.bin .Add) [.ref i,.ref j] g Q:=#[_,_,.inr (.inl #[rfl,.inr (.inl #[i,j,l,m,rfl,hi,hj,hl,rfl,rfl])]),h]
def HX{i:Nat}{n:Int}(hi:g[i]?=!.lst l)(h1:-(2 ^ 62)<=n)(h2:n<2 ^ 62)(hl:-l*n.toNat<=100000)(h:Q (.ref (-g)) (g++[.lst (List.replicate n.toNat l).flatten])):cw (.bin .Mult) [.ref i,.int n] g Q:=#[_,_,.inr (.inr #[rfl,.inl #[i,l,n,rfl,hi,h1,h2,hl,rfl,rfl]]),h]
def XW{n:Int}(fE:l≠[])(h1:1<=n)(h2:n<2 ^ 62)(hl:-l*n.toNat<=100000)(h:Q (.tup (List.replicate n.toNat l).flatten) g):cw (.bin .Mult) [.tup l,.int n] g Q:=#[_,_,.inr (.inr #[rfl,.inr #[l,n,rfl,fE,h1,h2,hl,rfl,rfl]]),h]
def Jh(h:Q (.int (-(i))) g):cw (.un .USub) [.int i] g Q:=#[_,_,#[rfl,i,rfl,rfl,rfl],h]
def X6{op:CmpOp}{x:D}(hb:Ju g x y b op)(h:Q (.bl b) g):cw (.cmp op) [x,y] g Q:=#[_,_,#[x,y,b,rfl,hb,rfl,rfl],h]
def Jt(h:Q (.bl (decide (i<j))) g):cw (.cmp .Lt) [.int i,.int j] g Q:=X6 #[i,j,rfl,rfl,rfl] h
def Js(h:Q (.bl (decide (i<=j))) g):cw (.cmp .LtE) [.int i,.int j] g Q:=X6 #[i,j,rfl,rfl,rfl] h
def Jr(h:Q (.bl (decide (j<i))) g):cw (.cmp .Gt) [.int i,.int j] g Q:=X6 #[i,j,rfl,rfl,rfl] h
def Jq(h:Q (.bl (decide (j<=i))) g):cw (.cmp .GtE) [.int i,.int j] g Q:=X6 #[i,j,rfl,rfl,rfl] h
def Dx{x:D}(h:xG g x y λb=>Q (.bl b) g):cw (.cmp .Eq) [x,y] g Q:=let ⟨_,hb,h⟩:=h;X6 hb h
def Av{x:D}(h:xG g x y λb=>Q (.bl (~~~b)) g):cw (.cmp .NotEq) [x,y] g Q:=let ⟨b,hb,h⟩:=h;X6 (show xF g x y (~~~(~~~b)) from by simp_all) h
def T6{x:D}(h:rQ g x y λb=>Q (.bl b) g):cw (.cmp .In) [x,y] g Q:=let ⟨_,hb,h⟩:=h;X6 (.inl hb) h
def W'{i:Nat}(hi:g[i]?=!.ins c fs)(h:Q (.bl true) g):cw (.wa c) [.ref i] g Q:=#[_,_,#[_,rfl,#[i,fs,rfl,hi],rfl,rfl],h]
def Wd{i j:Str}(h:Q (.bl (~~~(Builtin.Str.occurrences j i 0 (-j) 1).isEmpty)) g):cw (.cmp .In) [.str i,.str j] g Q:=X6 (.inr (.inr #[i,j,rfl,rfl,rfl])) h
def U8{x:D}(h:rQ g x y λb=>Q (.bl (~~~b)) g):cw (.cmp .NotIn) [x,y] g Q:=let ⟨b,hb,h⟩:=h;X6 (.inl (show inR g x y (~~~(~~~b)) from by simp_all)) h
def IS(h:kb (decide (i=j))):xG g (.int i) (.int j) kb:=#[_,.inl #[i,j,rfl,rfl,rfl],h]
def JD(h:kb (t==s)):xG g (.bl t) (.bl s) kb:=#[_,.inr (.inl #[t,s,rfl,rfl,rfl]),h]
def IT{y:Str}(h:kb (decide (x=y))):xG g (.str x) (.str y) kb:=#[_,.inr (.inr (.inl #[x,y,rfl,rfl,rfl])),h]
def HZ(h:Q (.bl (decide (i=j))) g):cw (.cmp .Eq) [.int i,.int j] g Q:=Dx (IS h)
def EX(h:Q (.bl (~~~decide (i=j))) g):cw (.cmp .NotEq) [.int i,.int j] g Q:=Av (IS h)
def HY(h:Q (.bl (t==s)) g):cw (.cmp .Eq) [.bl t,.bl s] g Q:=Dx (JD h)
def Il(h:Q (.bl (~~~(t==s))) g):cw (.cmp .NotEq) [.bl t,.bl s] g Q:=Av (JD h)
def Ia{p q:Str}(h:Q (.bl (decide (p=q))) g):cw (.cmp .Eq) [.str p,.str q] g Q:=Dx (IT h)
def Im{p q:Str}(h:Q (.bl (~~~decide (p=q))) g):cw (.cmp .NotEq) [.str p,.str q] g Q:=Av (IT h)
def pT(h:Q (.bl (R7 d)) g):cw (.cmp .Is) [d,.aO] g Q:=X6 #[rfl,rfl] h
def AD(h:Q (.bl (~~~R7 d)) g):cw (.cmp .IsNot) [d,.aO] g Q:=X6 #[rfl,rfl] h
def Ie(h:Q (.bl true) g):cw (.cmp .Is) [.aO,.aO] g Q:=pT h
def Ih(h:Q (.bl false) g):cw (.cmp .Is) [.int i,.aO] g Q:=pT h
def Ig(h:Q (.bl false) g):cw (.cmp .Is) [.bl t,.aO] g Q:=pT h
def Ij(h:Q (.bl false) g):cw (.cmp .Is) [.str x,.aO] g Q:=pT h
def Ik(h:Q (.bl false) g):cw (.cmp .Is) [.tup l,.aO] g Q:=pT h
def Ii(h:Q (.bl false) g):cw (.cmp .Is) [.ref n,.aO] g Q:=pT h
def Ib(h:Q (.bl false) g):cw (.cmp .IsNot) [.aO,.aO] g Q:=AD h
def Ic(h:Q (.bl true) g):cw (.cmp .IsNot) [.int i,.aO] g Q:=AD h
def JJ(h:kb t):qN g (.bl t) kb:=#[t,.inr (.inl rfl),h]
def Fm{i:Nat}(hl:c7 g i=!l)(h:kb (~~~l.isEmpty)):qN g (.ref i) kb:=#[_,.inr (.inr (.inr (.inr #[i,l,rfl,hl,rfl]))),h]
def LB{p:Bool->Prop}(h:p t):∃s,D.bl t=D.bl s/\p s:=#[t,rfl,h]
def NH{p:Int->Prop}(h:p i):∃s,D.int i=D.int s/\p s:=#[i,rfl,h]
def if2{c:Prop}[Decidable c](h1:c->A)(h2:¬c->B):if decide c=true then A else B:=by
 simp_all
def oZ(h:A):if true=true then A else B:=by rw[av rfl];show h
def pZ(h:B):if false=true then A else B:=by rw[aw ∅];show h
def Jy(h:A):if(~~~false)=true then A else B:=by show h
def Jz(h:B):if(~~~true)=true then A else B:=by rw[aw ∅];show h
def dw(hb:b=false)(h:B):if b=true then A else B:=by rw[hb];show pZ h
def fK(hb:b=true)(h:A):if b=true then A else B:=by rw[hb];show oZ h
def A5(hl:c7 g a=!l)(h2:js l i=!d)(h:Q d g):cw .ix [.ref a,.int i] g Q:=#[_,_,#[rfl,.inl #[_,l,i,rfl,hl,h2]],h]
def oA(h2:js l i=!d)(h:Q d g):cw .ix [.tup l,.int i] g Q:=#[_,_,#[rfl,.inl #[_,l,i,rfl,rfl,h2]],h]
def i6{i:Nat}{k:Key}(hg:g[i]?=!.bZ kvs)(hk:oB y=!k)(hv:N1 kvs k=!v)(h:Q v g):cw .ix [.ref i,y] g Q:=#[_,_,#[rfl,.inr (.inl #[i,kvs,y,k,rfl,hg,hk,hv])],h]
def U1(hl:g[a]?=!.lst l)(hn:lq (-l) i=!n)(h:kg (g.set a (.lst (l.set n v)))):qb (.ref a) (.int i) v g kg:=#[_,.inl #[a,i,l,n,rfl,rfl,hl,hn,rfl],h]
def IY{i:Nat}{k:Key}(hg:g[i]?=!.bZ kvs)(hk:oB y=!k)(hl:-kvs<100000)(h:kg (g.set i (.bZ (putD kvs k v)))):qb (.ref i) y v g kg:=#[_,.inr #[i,kvs,k,rfl,hg,hk,hl,rfl],h]
def v7(hg:g[a]?=!.ins c fs)(hc:c∈cs)(hl:-fs<100)(h:kg (g.set a (.ins c (A2 f v fs)))):xY f cs (.ref a) v g kg:=#[_,#[a,c,fs,rfl,hg,hc,hl,rfl],h]
def j8(hg:g[a]?=!.ins c fs)(hf:fs.lookup f=!d)(h:Q d g):cw (.fld f) [.ref a] g Q:=#[_,_,#[a,c,fs,rfl,hg,hf,rfl],h]
def a6(h:g[a]?=!.lst l):c7 g a=!l:=by simp only[c7,h,FF]
def a71(h:g[a]?=!.pO l):c7 g a=!l:=by simp only[c7,h,FF]
def n8(hl:c7 g a=!l)(h:Q (.int (-l)) g):cw .len [.ref a] g Q:=#[_,_,#[rfl,.inl #[_,l,rfl,hl,rfl]],h]
def IG(h:Q (.int (-l)) g):cw .len [.tup l] g Q:=#[_,_,#[rfl,.inl #[_,l,rfl,rfl,rfl]],h]
def Oc(h:Q (.tup (cut l (!i) none)) g):cw (.kY true false) [.tup l,.int i] g Q:=#[_,_,#[_,i,rfl,.inl #[l,rfl,rfl,rfl]],h]
def Ob(h:Q (.tup (cut l none (!i))) g):cw (.kY false true) [.tup l,.int i] g Q:=#[_,_,#[_,i,rfl,.inl #[l,rfl,rfl,rfl]],h]
def ZL(hl:c7 g a=!l)(h:Q (.ref (-g)) (g++[.lst (cut l (!i) none)])):cw (.kY true false) [.ref a,.int i] g Q:=#[_,_,#[_,i,rfl,.inr #[a,l,rfl,hl,rfl,rfl]],h]
def ZK(hl:c7 g a=!l)(h:Q (.ref (-g)) (g++[.lst (cut l none (!i))])):cw (.kY false true) [.ref a,.int i] g Q:=#[_,_,#[_,i,rfl,.inr #[a,l,rfl,hl,rfl,rfl]],h]
def uM(hl:-l<=1000)(h:Q (.tup l) g):cw .tup l g Q:=#[_,_,#[hl,rfl,rfl],h]
def uL(hl:-l<=1000)(h:Q (.ref (-g)) (g++[.lst l])):cw .lst l g Q:=#[_,_,#[hl,rfl,rfl],h]
def AJ(hl:c7 g a=!l)(h:Q (.ref (-g)) (g++[.lst l])):cw .list [.ref a] g Q:=#[_,_,.inl #[_,l,rfl,hl,rfl,rfl],h]
def IH(h:Q (.ref (-g)) (g++[.lst l])):cw .list [.tup l] g Q:=#[_,_,.inl #[_,l,rfl,rfl,rfl,rfl],h]
def Fn(hl:c7 g a=!l)(h:Q (.tup l) g):cw .tuple [.ref a] g Q:=#[_,_,#[_,l,rfl,hl,rfl,rfl],h]
def Fo(h:Q (.tup l) g):cw .tuple [.tup l] g Q:=#[_,_,#[_,l,rfl,rfl,rfl,rfl],h]
def gk{c:String}(hc:c∈["int","bool","str","tuple","list"])(hb:sR g d c=!b)(h:Q (.bl b) g):cw .isin [d,.ty c] g Q:=#[_,_,#[d,c,b,rfl,hc,hb,rfl,rfl],h]
def U2{i:Nat}(hg:g[i]?=!.lst l)(hl:-l<100000)(h:Q .aO (g.set i (.lst (l++[y])))):cw .append [.ref i,y] g Q:=#[_,_,#[i,y,l,rfl,hg,hl,rfl,rfl],h]
def NS:mF .join (.str x) g:=#[x,rfl]
def FI:mF .split (.str x) g:=#[x,rfl]
def m_split{a b:Str}{l:@&Str}(hb:(-b==0)=false)(ha:-a<=100000)(e:Txt.split a b=l)(hz:-l<=100000)(h:Q (.ref (-g)) (g++[.lst (l.map .str)])):cw .split [.str a,.str b] g Q:=#[_,_,#[a,b,rfl,hb,ha,by rw[e];show hz,rfl,by rw[e]],h]
def NP{sep:Str}{i:Nat}{ys:@&Str}(hl:c7 g i=!ys.map .str)(hz:E7 sep ys<=100000)(h:Q (.str (Builtin.Str.glued sep ys)) g):cw .join [.str sep,.ref i] g Q:=#[_,_,#[sep,i,ys,rfl,hl,hz,rfl,rfl],h]
def NR:mF .index (.tup l) g:=.inl #[l,rfl]
def NQ(hl:c7 g a=!l):mF .index (.ref a) g:=.inr #[a,l,rfl,hl]
def IJ(W:S9 l y n)(hz:-l<=100000)(h:Q (.int n) g):cw .index [.tup l,y] g Q:=#[_,_,#[_,y,l,n,rfl,rfl,W,hz,rfl,rfl],h]
def II(hl:c7 g a=!l)(W:S9 l y n)(hz:-l<=100000)(h:Q (.int n) g):cw .index [.ref a,y] g Q:=#[_,_,#[_,y,l,n,rfl,hl,W,hz,rfl,rfl],h]
def NG(hl:-l+-m<=100000)(h:Q (.tup (l++m)) g):cw .iadd [.tup l,.tup m] g Q:=#[_,_,.inr #[l,m,rfl,hl,rfl,rfl],h]
def F5{i:Nat}(hg:g[i]?=!.lst l):mF .append (.ref i) g:=#[i,l,rfl,a6 hg]
def Pw(h1:-(2 ^ 62)<=j)(h2:j<=100000)(h:Q (.ref (-g)) (g++[.lst (l0 0 j.toNat)])):cw .ke [.int j] g Q:=#[_,_,#[j,rfl,h1,h2,rfl,rfl],h]
def Pu(h1:-(2 ^ 62)<=i/\i<2 ^ 62/\-(2 ^ 62)<=j/\j<2 ^ 62/\j-i<=100000)(h:Q (.ref (-g)) (g++[.lst (l0 i (j-i).toNat)])):cw .jZ [.int i,.int j] g Q:=#[_,_,#[i,j,rfl,h1,rfl,rfl],h]
def Xa{ns ms:@&Int}(h1:∀k∈ns,ST.Spot k)(h2:∀k∈ms,ST.Spot k)(hl:-ns+-ms<50)(h:Q (.ref (-g)) (g++[.lst ((O3 (ns++ms)).map .int)])):cw .vw [.tup (ns.map .int),.tup (ms.map .int)] g Q:=#[_,_,#[ns,ms,rfl,h1,h2,hl,rfl,rfl],h]
def yf{i:Nat}(hg:g[i]?=!.lst (l++[y]))(h:Q y (g.set i (.lst l))):cw .je [.ref i] g Q:=#[_,_,#[i,l,rfl,hg,rfl],h]
def yo{i:Nat}(hg:g[i]?=!.lst l):mF .je (.ref i) g:=#[i,l,rfl,a6 hg]
def Sr{i:Nat}(hg:g[i]?=!.bZ kvs)(h:Q (.ref (-g)) (g++[.bZ kvs])):cw .kq [.ref i] g Q:=#[_,_,.inl #[i,kvs,rfl,hg,rfl,rfl],h]
def min2(h:Q (.int (if j<i then j else i)) g):cw .min [.int i,.int j] g Q:=#[_,_,#[rfl,.inl #[i,j,rfl,rfl]],h]
def IE{v:Bool}(h:Q (.int (if v then 1 else 0)) g):cw .int [.bl v] g Q:=#[_,_,#[rfl,.inr (.inl #[v,rfl,rfl])],h]
def Ww{n:Int}(hl:-x<=640)(hn:PySem.intText? x=!n)(h:Q (.int n) g):cw .int [.str x] g Q:=#[_,_,#[rfl,.inr (.inr #[x,n,rfl,hl,hn,rfl])],h]
def IM(hi:i.natAbs.log2<1920)(h:Q (.str (toString i)) g):cw .str [.int i] g Q:=#[_,_,.inl #[i,rfl,hi,rfl,rfl],h]
def YS(h:Q (.str x) g):cw .str [.str x] g Q:=#[_,_,.inr #[x,rfl,rfl,rfl],h]
def ID{kvs:@&D}(h:Q (.bl (~~~(Y3 kvs x).isSome)) g):cw .nK [.tup kvs,.str x] g Q:=#[_,_,#[kvs,x,rfl,rfl,rfl],by rw[Bool.true_xor];show h]
def uJ{kvs:@&D}(hv:Y3 kvs x=!v)(h:Q v g):cw .kS [.tup kvs,.str x] g Q:=#[_,_,#[kvs,x,rfl,hv,rfl],h]
def YR(hx:Y5 l=!x)(h:Q (.str x) g):cw .ml l g Q:=#[_,_,#[x,hx,rfl,rfl],h]
def EV{i:Nat}{v:Bool}(hl:c7 g i=!l)(hv:K7 l=!v)(h:Q (.bl v) g):cw .all [.ref i] g Q:=#[_,_,#[i,l,v,rfl,hl,.inl hv,rfl,rfl],h]
def p7{i:Nat}{x:D}{k:S->Prop}(h:k (σ.set i (!x))):kX (.one i) x σ k:=h
def yt{is:@&Nat}{cv:S}{k:S->Prop}(e:S3 is l σ=!cv)(h:k cv):kX (.many is) (.tup l) σ k:=#[l,cv,rfl,e,h]
end
def VO:∀(bs:@&Bool),K7 (bs.map D.bl)=!bs.all id:=by
 intro bs
 induction bs with
 |nil=>rfl
 |cons b r ih=>simp[K7,ih]
def call_of{T:Nat->Option aW}{k f:Nat}{m:aW}{ds:@&D}(hT:T f=!m)(hl:-ds=m.ar)(h:wpS (a8 T k) m.body #[λx g'=>Q .aO g',Q,λx x=>False,λx x=>False] (b7 m ds) g E):a8 T (k+1) f ds g Q E:=#[m,hT,hl,h]
def c6{a:ME}{f:Nat}{m:Str}{cs:@&(Str×Nat)}(hg:g[i]?=!.ins c fs)(hf:fs.lookup m=none)(hc:cs.lookup c=!f)(h:fj P a σ g (λxs g2=>P f (.ref i::xs) g2 Q E) E) :
  ∃a' c fs f,D.ref i=.ref a'/\g[a']?=!.ins c fs/\fs.lookup m=none/\cs.lookup c=!f/\fj P a σ g (λxs g2=>P f (.ref i::xs) g2 Q E) E:=#[i,c,fs,f,rfl,hg,hf,hc,h]
def IK.Is(k:IK)(l:@&D)(g:G):Prop:=∀i,k.at i g=some l[i]?
def G0:(IK.fix l).Is l g:=λx=>rfl
def uS(h:c7 g a=!l):(IK.lst a).Is l g:=λi=>by simp only[IK.at,h]
abbrev T1(l m:@&D):@&D:=(l.zip m).map λp=>.tup [p.1,p.2]
def Yj(h:c7 g a=!m)(e:-l=-m):(IK.tG l a).Is (T1 l m) g:=λi=>by
 simp only[IK.at,h,if_pos e,T1,List.getElem?_map]
def E5{lo:Int}{x:D}(h:(l0 lo n)[i]?=!x):i<n/\x=.int (lo+i):=by
 unfold l0 at h;let hi:i<n:=by
  have:=(az.mp h).1;simpa using this
 rw[aG,Gj hi] at h;cases h;show#[hi,rfl]
def C8(lo:Int)(n:Nat):(l0 lo n).length=n:=by simp[l0]
section
variable{N:Ends}{it a b c:ME}{s:MS}{t:MT}
def VF{k:IK}{fin:S->G->Prop}{turn:D->(S->G->Prop)->S->G->Prop}(I:Nat->S->G->Prop)(hk:∀i σ g,I i σ g->k.Is l g)(h0:I 0 σ g)(hs:∀i x σ g,l[i]?=!x->I i σ g->turn x (I (i+1)) σ g)(hd:∀σ g,I (-l) σ g->fin σ g):turns k σ g fin turn:=by
 show#[λi m σ g=>m=-l-i/\i<=-l/\I i σ g,#[(-l),by simp,cQ _,h0],?_];rintro i m σ g ⟨rfl,hi,p⟩;rw[hk i σ g p i];by_cases dN:i< -l
 .rw[aq dN];show .inr #[_,rfl,I (i+1),λcv g' p'=>#[(-l)-(i+1),by omega,rfl,dN,p'],hs i l[i] σ g (aq dN) p]
 .let e:i=-l:=by omega
  subst e;rw[fg (ak _)];show .inl #[rfl,hd σ g p]
inductive yG(P:fb)(t:MT)(s:MS)(N:Ends)(E:KX)(σ:S)(k:IK)(g1:G):Prop
 |mk (l:@&D) (I:Nat->S->G->Prop) (hk:∀i σ g,I i σ g->k.Is l g) (h0:I 0 σ g1)
   (hs:∀i x σ g,l[i]?=!x->I i σ g->kX t x σ λdh=>wpS P s #[I (i+1),N.rt,N.nx,I (i+1)] dh g E) (hd:∀σ g,I (-l) σ g->N.nx σ g):yG P t s N E σ k g1
def T9(hP:i3 P)(h:iR P it σ g (yG P t s N E σ) E):wpS P (.iE t it s) N σ g E :=
 C3 hP it _ _ _ _ _ _ (λk g1 hq=>by let#[l,I,hk,h0,hs,hd]:=hq;show VF I hk h0 hs hd) (λx x z=>z) h
inductive CompI(P:fb)(t:MT)(cond elt:ME)(E:KX)(Q:KD)(σ:S)(k:IK)(g1:G):Prop
 |mk (l:@&D) (I:Nat->@&D->S->G->Prop) (hl:-l<=1000) (hk:∀i ys σ g,I i ys σ g->k.Is l g/\-ys<=i) (h0:I 0 [] σ g1)
   (hs:∀i x ys σ g,l[i]?=!x->I i ys σ g->kX t x σ λdh=>dM P cond dh g (λc g3=>if c=true then aV P elt dh g3 (λy g4=>I (i+1) (ys++[y]) dh g4) E else I (i+1) ys dh g3) ky)
   (hd:∀ys σ g,I (-l) ys σ g->Q (.ref (-g)) (g++[.lst ys])):CompI P t cond elt E Q σ k g1
def S0(hP:i3 P)(h:iR P it σ g (CompI P t cond elt ky Q (R9 σ c9 n)) E):aV P (.comp c9 n t it cond elt) σ g Q E:=by
 show C3 hP it _ _ _ _ _ _ (λk g1 h=>?_) (λx x z=>z) h;let#[l,I,hl,hk,h0,hs,hd]:=h;show#[λi m ys σ g=>m=-l-i/\i<=-l/\I i ys σ g,#[(-l),by simp,cQ _,h0],?_];rintro i m ys σ g ⟨rfl,hi,p⟩;let#[BU,hy]:=hk i ys σ g p;rw[BU i];by_cases dN:i< -l
 .rw[aq dN];show .inr #[_,rfl,by omega,E1 (λdh q=>t9 hP cond _ _ _ _ _ _ (λc g3 q=>?_) (λx x z=>z) q) (hs i l[i] ys σ g (aq dN) p)];cases c
  .exact#[(-l)-(i+1),by omega,rfl,dN,by simpa using(show I (i+1) ys dh g3 from q)]
  .exact b0 hP elt _ _ _ _ _ _ (λy g4 q=>#[(-l)-(i+1),by omega,rfl,dN,by simpa using q]) (λx x z=>z) q
 .let e:i=-l:=by omega
  subst e;rw[fg (ak _)];show .inl #[rfl,hd ys σ g p]
def Tx(hP:i3 P)(h:iR P it σ g (CompI P t cond elt E Q (R9 σ c9 n)) E):aV P (.gQ c9 n t it cond elt) σ g Q E:=by
 show C3 hP it _ _ _ _ _ _ (λk g1 h=>?_) (λx x z=>z) h;let#[l,I,hl,hk,h0,hs,hd]:=h;show#[λi m ys σ g=>m=-l-i/\i<=-l/\I i ys σ g,#[(-l),by simp,cQ _,h0],?_];rintro i m ys σ g ⟨rfl,hi,p⟩;let#[BU,hy]:=hk i ys σ g p;rw[BU i];by_cases dN:i< -l
 .rw[aq dN];show .inr #[_,rfl,by omega,E1 (λdh q=>t9 hP cond _ _ _ _ _ _ (λc g3 q=>?_) (λx x z=>z) q) (hs i l[i] ys σ g (aq dN) p)];cases c
  .exact#[(-l)-(i+1),by omega,rfl,dN,by simpa using(show I (i+1) ys dh g3 from q)]
  .exact b0 hP elt _ _ _ _ _ _ (λy g4 q=>#[(-l)-(i+1),by omega,rfl,dN,by simpa using q]) (λx x z=>z) q
 .let e:i=-l:=by omega
  subst e;rw[fg (ak _)];show .inl #[rfl,hd ys σ g p]
def KQ(hP:i3 P)(h:aV P a σ g (λx g1=>∃j:Nat,x=.int j/\j<=1000/\∃I:Nat->@&D->S->G->Prop,I 0 [] (R9 σ c9 n) g1/\(∀i ys σ g,I i ys σ g->-ys<=i) /\
      (∀(i:Nat) ys σ g,i<j->I i ys σ g->kX t (.int i) σ λdh=>dM P cond dh g (λc g3=>if c=true then aV P elt dh g3 (λy g4=>I (i+1) (ys++[y]) dh g4) ky else I (i+1) ys dh g3) ky) /\
      ∀ ys σ g,I j ys σ g->Q (.ref (-g)) (g ++ [.lst ys])) E):aV P (.comp c9 n t (.fO a) cond elt) σ g Q E:=by
  show S0 hP ?_;show b0 hP a _ _ _ _ _ _ (λx g1 h=>?_) (λw w z=>z) h;let#[j,rfl,hj,I,h0,hz,hs,hd]:=h;show#[j,rfl,by omega,by omega,_,I,by rw[C8];simpa using hj,λi ys σ g p=>#[G0,hz i ys σ g p],h0,λi x ys σ g hx p=>?_,λys σ g p=>hd ys σ g (by rw[C8] at p;simpa using p)];let#[hi,rfl]:=E5 hx;rw[show(0:Int)+(i:Int)=i by omega];show hs i ys σ g (_/hi) p
def aS2(hP:i3 P)(h:aV P a σ g (λx g1=>∃l,x=.tup l/\-l<=1000/\∃I:Nat->@&D->S->G->Prop,I 0 [] (R9 σ c9 n) g1/\(∀i ys σ g,I i ys σ g->-ys<=i) /\
      (∀(i:Nat) x ys σ g,l[i]?=!x->I i ys σ g->kX t x σ λdh=>dM P cond dh g (λc g3=>if c=true then aV P elt dh g3 (λy g4=>I (i+1) (ys++[y]) dh g4) ky else I (i+1) ys dh g3) ky) /\
      ∀ ys σ g,I (-l) ys σ g->Q (.ref (-g)) (g ++ [.lst ys])) E):aV P (.comp c9 n t (.jg a) cond elt) σ g Q E:=by
  show S0 hP ?_;show b0 hP a _ _ _ _ _ _ (λx g1 h=>?_) (λw w z=>z) h;let#[l,rfl,hj,I,h0,hz,hs,hd]:=h;show .inl #[l,rfl,_,I,hj,λi ys σ g p=>#[G0,hz i ys σ g p],h0,hs,hd]
def yw(hP:i3 P)(h:aV P a σ g (λx g1=>∃j:Int,x=.int j/\-(2 ^ 62)<=j/\j<2 ^ 62/\R (.fix (l0 0 j.toNat)) g1) E):iR P (.fO a) σ g R E:=h
def DA(hP:i3 P)(h:aV P a σ g (λx g1=>aV P b σ g1 (λy g2=>∃i j:Int,x=.int i/\y=.int j/\(-(2 ^ 62)<=i/\i<2 ^ 62/\-(2 ^ 62)<=j/\j<2 ^ 62)/\R (.fix (l0 i (j-i).toNat)) g2) E) E):iR P (.iC a b) σ g R E:=h
def tR(hP:i3 P)(h:aV P a σ g (λx g1=>∃i l,x=.ref i/\c7 g1 i=!l/\R (.lst i) g1) E):iR P (.jg a) σ g R E:=by
 show b0 hP a _ _ _ _ _ _ (λx g1 h=>.inr (.inl h)) (λy y z=>z) h
def PN(hP:i3 P)(h:aV P a σ g (λx g1=>∃w:Str,x=.str w/\w.cps.all (·<128)=true/\R (.fix (sgn w)) g1) E):iR P (.jg a) σ g R E:=by
 show b0 hP a _ _ _ _ _ _ (λx g1 h=>.inr (.inr h)) (λy y z=>z) h
def PL(h:aV P a σ g (λx g1=>aV P b σ g1 (λy g2=>∃l i m,x=.tup l/\y=.ref i/\c7 g2 i=!m/\R (.tG l i) g2) E) E):iR P (.og a b) σ g R E:=h
end
end M
namespace M
open PySem L2 PySem.Spec PyProof.Rows
variable{K:PySem.W.Frag}{x:Str}{C:Addr}
structure RF where
 id:Nat
 nm:Str
 N:@&Str
 k:Nat
 i:Nat
 m:aW
structure RM where
 id:Nat
 cl:Str
 nm:Str
 qn:Str
 N:@&Str
 k:Nat
 i:Nat
 j:Nat
 m:aW
def RF.d(tp:Nat->Stmt)(r:RF):qc:=#[r.nm,r.nm,r.N,r.N.take r.k,tp r.i]
def RM.d(mt:Nat->Nat->Stmt)(r:RM):qc:=#[r.nm,r.qn,r.N,r.N.take r.k,mt r.i r.j]
abbrev uB(F:@&RF)(M:@&RM)(i:Nat):Option aW:=match F.find? λr=>Nat.beq r.id i with
 |some r=>!r.m
 |none=>(M.find? λr=>Nat.beq r.id i).map (·.m)
section
variable(tp:Nat->Stmt)(mt:Nat->Nat->Stmt)(K:PySem.W.Frag)
abbrev PF:@&RF->Prop
 |[]=>True
 |r::l=>(∃f fd,PySem.W.nsIn K mainGlobals r.nm=!!.ref f/\qQ K r.nm r.nm (tp r.i) f fd)/\PF l
abbrev PM:@&RM->Prop
 |[]=>True
 |r::l=>(∃C f fd,PySem.W.nsIn K mainGlobals r.cl=!!.ref C/\Meth K C r.nm f/\qQ K r.nm r.qn (mt r.i r.j) f fd)/\PM l
abbrev PC:@&(Str×Nat)->Prop
 |[]=>True
 |r::l=>(∃C,PySem.W.nsIn K mainGlobals r.1=!!.ref C/\iY K C/\PySem.W.makesIn K C=true/\PySem.W.keepIn K (.ref C)=true)/\PC l
abbrev PA:@&(Str×Str)->Prop
 |[]=>True
 |r::l=>(∃C,PySem.W.nsIn K mainGlobals r.2=!!.ref C/\PySem.W.findIn K (.ref C) r.1=!none)/\PA l
abbrev PB:@&Str->Prop
 |[]=>True
 |r::l=>PySem.W.nsIn K mainGlobals r=!none/\PB l
abbrev PX:@&Str->Prop
 |[]=>True
 |r::l=>(∃C,PySem.W.nsIn K mainGlobals r=!!.ref C/\PySem.W.excIn K C [.type "ValueError",.type "Exception",.type "BaseException",.type "object"] "ValueError.__new__"=true)/\PX l
abbrev BF:@&RF->Prop
 |[]=>True
 |r::l=>(∀(kV doc pm:Value) (an:Option Addr) (fz ct:Value) (us:@&Value),(-us)=(r.N.take r.k).length->bindArgs (PySem.W.fnOf r.nm r.nm (B0 (tp r.i)) (o6 (tp r.i)) (l9 (tp r.i)) .none kV doc pm an fz ct) #[us,[]]=pure ((r.N.take r.k).zip us))/\BF l
abbrev BM:@&RM->Prop
 |[]=>True
 |r::l=>(∀(kV doc pm:Value) (an:Option Addr) (fz ct:Value) (us:@&Value),(-us)=(r.N.take r.k).length->bindArgs (PySem.W.fnOf r.nm r.qn (B0 (mt r.i r.j)) (o6 (mt r.i r.j)) (l9 (mt r.i r.j)) .none kV doc pm an fz ct) #[us,[]]=pure ((r.N.take r.k).zip us))/\BM l
abbrev YF(c:d5):@&RF->Prop
 |[]=>True
 |r::l=>A7 (comp 60) (c.at (r.d tp)) (o6 (tp r.i))=!r.m.body/\YF c l
abbrev YM(c:d5):@&RM->Prop
 |[]=>True
 |r::l=>A7 (comp 60) (c.at (r.d mt)) (o6 (mt r.i r.j))=!r.m.body/\YM c l
end
section
variable{tp:Nat->Stmt}{mt:Nat->Nat->Stmt}{c:d5}{id k i j:Nat}{cl nm qn:Str}{N:@&Str}{m:aW}{f:Addr}{oc kV doc pm fz ct:Value}{od an:Option Addr}{mE:Array (Option Value)}
def PF.nil:PF tp K []:=trivial
def PF.cons{l:@&RF}(a:PySem.W.nsIn K mainGlobals nm=!!.ref f)(lk:K.lookup f=!#[oc,od,.func (PySem.W.fnOf nm nm (B0 (tp i)) (o6 (tp i)) (l9 (tp i)) .none kV doc pm an fz ct),mE])(cd:PySem.W.codeIn K fz nm=true)(kp:PySem.W.keepIn K (.ref f)=true)(h:PF tp K l):PF tp K (#[id,nm,N,k,i,m]::l):=#[#[f,_,a,NC lk cd kp],h]
def PM.nil:PM mt K []:=trivial
def PM.cons{l:@&RM}(c0:PySem.W.nsIn K mainGlobals cl=!!.ref C)(a:PySem.W.findIn K (.ref C) nm=!!.ref f)(af:PySem.W.isFn K (.ref f)=true)(lk:K.lookup f=!#[oc,od,.func (PySem.W.fnOf nm qn (B0 (mt i j)) (o6 (mt i j)) (l9 (mt i j)) .none kV doc pm an fz ct),mE])(cd:PySem.W.codeIn K fz qn=true)(kp:PySem.W.keepIn K (.ref f)=true)(h:PM mt K l):PM mt K (#[id,cl,nm,qn,N,k,i,j,m]::l):=#[#[C,f,_,c0,#[a,af,kp],NC lk cd kp],h]
def PC.nil:PC K []:=trivial
def PC.cons{l:@&(Str×Nat)}(cn:PySem.W.nsIn K mainGlobals x=!!.ref C)(cp:PySem.W.plainGet K C Str.empty=true)(RH:PySem.W.hasDictIn K C=true)(RD:PySem.W.plainOver K C=true)(RC:PySem.W.findIn K (.ref C) "__setattr__"=!!(.builtin "object.__setattr__"))(RE:PySem.W.makesIn K C=true)(RG:PySem.W.keepIn K (.ref C)=true)(h:PC K l):PC K ((x,i)::l):=#[#[C,cn,#[cp,RH,RD,RC],RE,RG],h]
def PA.nil:PA K []:=trivial
def PA.cons{l:@&(Str×Str)}(cn:PySem.W.nsIn K mainGlobals x=!!.ref C)(fl:PySem.W.findIn K (.ref C) nm=!none)(h:PA K l):PA K ((nm,x)::l):=#[#[C,cn,fl],h]
def PB.nil:PB K []:=trivial
def PB.cons{l:@&Str}(cn:PySem.W.nsIn K mainGlobals x=!none)(h:PB K l):PB K (x::l):=#[cn,h]
def PX.nil:PX K []:=trivial
def PX.cons{l:@&Str}(cn:PySem.W.nsIn K mainGlobals x=!!.ref C)(q:PySem.W.excIn K C [.type "ValueError",.type "Exception",.type "BaseException",.type "object"] "ValueError.__new__"=true)(h:PX K l):PX K (x::l):=#[#[C,cn,q],h]
def Gw{P:@&Value->Prop}{n:Nat}(h:∀a vs,(-vs)=n->P (a::vs))(us:@&Value)(hl:-us=n+1):P us:=by
 cases us with
 |nil=>cases hl
 |cons a vs=>show h a vs (Nat.succ.inj hl)
def Gv{P:@&Value->Prop}(h:P [])(us:@&Value)(hl:-us=0):P us:=by
 simp_all
def BF.nil:BF tp []:=trivial
def BF.cons{l:@&RF}(h:∀(kV doc pm:Value) (an:Option Addr) (fz ct:Value) (us:@&Value),(-us)=(N.take k).length->bindArgs (PySem.W.fnOf nm nm (B0 (tp i)) (o6 (tp i)) (l9 (tp i)) .none kV doc pm an fz ct) #[us,[]]=pure ((N.take k).zip us))(h2:BF tp l):BF tp (#[id,nm,N,k,i,m]::l):=#[h,h2]
def BM.nil:BM mt []:=trivial
def BM.cons{l:@&RM}(h:∀(kV doc pm:Value) (an:Option Addr) (fz ct:Value) (us:@&Value),(-us)=(N.take k).length->bindArgs (PySem.W.fnOf nm qn (B0 (mt i j)) (o6 (mt i j)) (l9 (mt i j)) .none kV doc pm an fz ct) #[us,[]]=pure ((N.take k).zip us))(h2:BM mt l):BM mt (#[id,cl,nm,qn,N,k,i,j,m]::l):=#[h,h2]
def YF.nil:YF tp c []:=trivial
def YF.cons{l:@&RF}(h:A7 (comp 60) (c.at #[nm,nm,N,N.take k,tp i]) (o6 (tp i))=!m.body)(h2:YF tp c l):YF tp c (#[id,nm,N,k,i,m]::l):=#[h,h2]
def YM.nil:YM mt c []:=trivial
def YM.cons{l:@&RM}(h:A7 (comp 60) (c.at #[nm,qn,N,N.take k,mt i j]) (o6 (mt i j))=!m.body)(h2:YM mt c l):YM mt c (#[id,cl,nm,qn,N,k,i,j,m]::l):=#[h,h2]
def YF.get:∀{l:@&RF},YF tp c l->∀r∈l,A7 (comp 60) (c.at (r.d tp)) (o6 (tp r.i))=!r.m.body
 |_::_,h,r,hr=>(aE.mp hr).elim (λz=>z▸h.1) (YF.get h.2 r)
def YM.get:∀{l:@&RM},YM mt c l->∀r∈l,A7 (comp 60) (c.at (r.d mt)) (o6 (mt r.i r.j))=!r.m.body
 |_::_,h,r,hr=>(aE.mp hr).elim (λz=>z▸h.1) (YM.get h.2 r)
def PF.get:∀{l:@&RF},PF tp K l->∀r∈l,∃f fd,PySem.W.nsIn K mainGlobals r.nm=!!.ref f/\qQ K r.nm r.nm (tp r.i) f fd
 |_::_,h,r,hr=>(aE.mp hr).elim (λz=>z▸h.1) (PF.get h.2 r)
def PM.get:∀{l:@&RM},PM mt K l->∀r∈l,∃C f fd,PySem.W.nsIn K mainGlobals r.cl=!!.ref C/\Meth K C r.nm f/\qQ K r.nm r.qn (mt r.i r.j) f fd
 |_::_,h,r,hr=>(aE.mp hr).elim (λz=>z▸h.1) (PM.get h.2 r)
def PC.get:∀{l:@&(Str×Nat)},PC K l->∀r∈l,∃C,PySem.W.nsIn K mainGlobals r.1=!!.ref C/\iY K C/\PySem.W.makesIn K C=true/\PySem.W.keepIn K (.ref C)=true
 |_::_,h,r,hr=>(aE.mp hr).elim (λz=>z▸h.1) (PC.get h.2 r)
def PA.get:∀{l:@&(Str×Str)},PA K l->∀r∈l,∃C,PySem.W.nsIn K mainGlobals r.2=!!.ref C/\PySem.W.findIn K (.ref C) r.1=!none
 |_::_,h,r,hr=>(aE.mp hr).elim (λz=>z▸h.1) (PA.get h.2 r)
def PB.get:∀{l:@&Str},PB K l->∀r∈l,PySem.W.nsIn K mainGlobals r=!none
 |_::_,h,r,hr=>(aE.mp hr).elim (λz=>z▸h.1) (PB.get h.2 r)
def PX.get:∀{l:@&Str},PX K l->∀r∈l,∃C,PySem.W.nsIn K mainGlobals r=!!.ref C/\PySem.W.excIn K C [.type "ValueError",.type "Exception",.type "BaseException",.type "object"] "ValueError.__new__"=true
 |_::_,h,r,hr=>(aE.mp hr).elim (λz=>z▸h.1) (PX.get h.2 r)
def BF.get:∀{l:@&RF},BF tp l->∀r∈l,∀(kV doc pm:Value) (an:Option Addr) (fz ct:Value) (us:@&Value),(-us)=(r.N.take r.k).length->bindArgs (PySem.W.fnOf r.nm r.nm (B0 (tp r.i)) (o6 (tp r.i)) (l9 (tp r.i)) .none kV doc pm an fz ct) #[us,[]]=pure ((r.N.take r.k).zip us)
 |_::_,h,r,hr=>(aE.mp hr).elim (λz=>z▸h.1) (BF.get h.2 r)
def BM.get:∀{l:@&RM},BM mt l->∀r∈l,∀(kV doc pm:Value) (an:Option Addr) (fz ct:Value) (us:@&Value),(-us)=(r.N.take r.k).length->bindArgs (PySem.W.fnOf r.nm r.qn (B0 (mt r.i r.j)) (o6 (mt r.i r.j)) (l9 (mt r.i r.j)) .none kV doc pm an fz ct) #[us,[]]=pure ((r.N.take r.k).zip us)
 |_::_,h,r,hr=>(aE.mp hr).elim (λz=>z▸h.1) (BM.get h.2 r)
end
def yV(N P:@&Str)(sc:Scope):Bool:=decide (sc.kind=.function)&&~~~sc.isCoroutine&&~~~sc.isGenerator&&decide N.Nodup&&decide (N.take (-P)=P)&&P.all (λx=>decide (sc.names.lookup x=!.local)||decide (sc.names.lookup x=!.cell))&&sc.names.all λy=>decide (y.2≠.free)
def NZ{N P:@&Str}{sc:Scope}(h:yV N P sc=true):iK N P sc:=by
 unfold yV at h;simp only[Bool.and_eq_true,decide_eq_true_eq,Bool.not_eq_true',List.all_eq_true,Bool.or_eq_true] at h;let#[#[#[#[#[#[h1,h2],h3],h4],h5],h6],h7]:=h;show#[h1,h2,h3,h4,h5,h6,h7]
set_option tactic.hygienic true in
def a36{h₀:Heap}{mg:Str->Option Value}{IX:@&Value}{newId:String}(X:K.In h₀)(G:h₀.Ns mainGlobals mg)(e:PySem.W.nsIn K mainGlobals x=!!.ref C)(q:PySem.W.excIn K C IX newId=true):PyProof.Rows.OwnCls x C IX newId mg h₀:=by
 show#[bN X G e,?_];unfold PySem.W.excIn at q;split at q
 .rename_i dd cd sl ho;split at q
  .rename_i C' bm k0 k1 k2 k3 n k5 hm hs;simp only[Bool.and_eq_true,beq_iff_eq,Bool.not_eq_true'] at q;let#[#[#[#[#[z1,z2],wO],ht],bw],zh]:=q;subst z1;subst z2;let#[nm,bs,mro,ns,qn,hd,sn,sub,ab,col,del]:=cd;dsimp only at hm wO bw zh;subst hm wO;let Qc:sl=(List.toArray [k0,k1,k2,k3,!.builtin n,k5]):=by
    let#[l]:=sl;simp only at hs;rw[hs]
   subst Qc;show#[bm,ns,nm,qn,bs,hd,sn,sub,ab,col,dd,k0,k1,k2,k3,k5,_,X _ _ ho,.of_isNs (PySem.W.isNs_of_in X bw),PySem.W.nsMap_none_of_in X bw zh,PySem.W.tail_of_in X ht]
  .cases q
 .cases q
abbrev V4(K:PySem.W.Frag)(x:Str):Addr:=match PySem.W.nsIn K mainGlobals x with
 |some (!.ref C)=>C
 |_=>0
def LL(K:PySem.W.Frag)(exc:@&Str):Bool:=exc.all λx=>exc.all λy=>decide (PySem.W.exmOne K (.ref (V4 K x)) (.ref (V4 K y))=!decide (x=y\/y="MintError"))
def Yd{exc:@&Str}(h:LL K exc=true){y:Str}{C':Addr}(hx:exc.contains x=true)(hy:exc.contains y=true)(hC:l7 K x C)(zx:l7 K y C'):PySem.W.exmOne K (.ref C) (.ref C')=!decide (x=y\/y="MintError"):=by
 let h1:=cR.mp h x (_/hx);let h2:=bC (cR.mp h1 y (_/hy));let e1:V4 K x=C:=by unfold V4;simp_all
 let e2:V4 K y=C':=by unfold V4;simp_all
 rw[e1,e2] at h2;show h2
def DN{α:Type}{f:α->Nat}:∀{l:List α},(l.map f).Nodup->∀r∈l,l.find? (λx=>Nat.beq (f x) (f r))=!r
 |y::l,nd,r,hr=>by
  rw[bQ,fG] at nd;rcases aE.mp hr with rfl|hr
  .rw[List.find?_cons_of_pos];show Nat.beq_refl _
  .rw[List.find?_cons_of_neg]
   .exact DN nd.2 r hr
   .intro z;show nd.1 (aP.mpr #[r,hr,(iM z).symm])
def bA2{α β:Type}{f:α->Nat}{g:β->Nat}{l:List α}{r:β}(h:g r∉l.map f):l.find? (λx=>Nat.beq (f x) (g r))=none:=by
 rw[List.find?_eq_none];intro x hx z;show h (aP.mpr #[x,hx,iM z])
section
variable{w:World}{h₀:Heap}{mg:Str->Option Value}{c:d5}{F:@&RF}{M:@&RM}{tp:Nat->Stmt}{mt:Nat->Nat->Stmt}
structure lG(K:PySem.W.Frag)(c:d5)(F:@&RF)(M:@&RM)(tp:Nat->Stmt)(mt:Nat->Nat->Stmt):Prop where
 qF:PF tp K F
 qM:PM mt K M
 qC:PC K c.cls
 qA:PA K c.nR
 qB:PB K c.blt
 qX:PX K c.exc
 xm:LL K c.exc=true
structure lF(c:d5)(F:@&RF)(M:@&RM)(tp:Nat->Stmt)(mt:Nat->Nat->Stmt):Prop where
 cf:c.fns=F.map λr=>(r.nm,r.id)
 cm:c.nu=M.map λr=>(r.nm,r.cl,r.id)
 ci:c.cls.all (λy=>M.any λr=>decide (r.cl=y.1)&&decide (r.nm="__init__")&&Nat.beq r.id y.2)=true
 nd:(F.map (·.id)++M.map (·.id)).Nodup
 sF:F.all (λr=>yV r.N (r.N.take r.k) (l9 (tp r.i))&&decide (r.m.ar=(r.N.take r.k).length)&&decide (r.m.n=-r.N))=true
 sM:M.all (λr=>yV r.N (r.N.take r.k) (l9 (mt r.i r.j))&&decide (r.m.ar=(r.N.take r.k).length)&&decide (r.m.n=-r.N))=true
 oF:YF tp c F
 oM:YM mt c M
 bF:BF tp F
 bM:BM mt M
def Mv(I:lG K c F M tp mt)(X:lF c F M tp mt)(r:RF)(hr:r∈F):∃f fd,jv K c (r.d tp) r.m f fd/\PySem.W.nsIn K mainGlobals r.nm=!!.ref f/\uB F M r.id=!r.m:=by
 let#[f,fd,a,q]:=I.qF.get r hr;let s:=cR.mp X.sF r hr;simp only[Bool.and_eq_true,decide_eq_true_eq] at s;let o:=X.oF.get r hr;show#[f,fd,#[q,q.binds (X.bF.get r hr),NZ s.1.1,o,s.1.2,s.2],a,?_];unfold uB;rw[DN (da.mp X.nd).1 r hr]
def Mw(I:lG K c F M tp mt)(X:lF c F M tp mt)(r:RM)(hr:r∈M):∃C f fd,jv K c (r.d mt) r.m f fd/\PySem.W.nsIn K mainGlobals r.cl=!!.ref C/\Meth K C r.nm f/\uB F M r.id=!r.m:=by
 let#[C,f,fd,a,q1,q]:=I.qM.get r hr;let s:=cR.mp X.sM r hr;simp only[Bool.and_eq_true,decide_eq_true_eq] at s;let o:=X.oM.get r hr;show#[C,f,fd,#[q,q.binds (X.bM.get r hr),NZ s.1.1,o,s.1.2,s.2],a,q1,?_];let nd:=da.mp X.nd;unfold uB;rw[bA2 (λz=>nd.2.2 _ z _ (aP.mpr #[r,hr,rfl]) rfl),DN nd.2.1 r hr]
 rfl
def bC9(I:lG K c F M tp mt)(Y:lF c F M tp mt)(X:K.In h₀)(G:h₀.Ns mainGlobals mg)(con:∀x d,c.con.lookup x=!d->∃v u,mg x=!u/\RelV v u/\∀ρ H,c8 K ρ H d v)(sA:∀x kvs,c.gd.lookup x=!kvs->∃A vs,mg x=!.ref A/\xQ K w.params A vs/\qJ K kvs vs):nW w K mg c (uB F M):=by
 show#[λx i hx=>?_,λx i hx=>?_,λx y i C hx hC=>?_,λf y C hx hC=>?_,con,λx hx=>?_,λx hx=>?_,λx y C C' hx hy hC zx=>Yd I.xm hx hy hC zx,sA]
 .let hm:=aL hx;rw[Y.cf] at hm;let#[r,hr,e]:=aP.mp hm;cases e;let#[f,fd,O,a,t]:=Mv I Y r hr;show#[_,_,f,fd,t,O,bN X G a]
 .let hm:=aL hx;let h1:=cR.mp Y.ci _ hm;let#[r,hr,e]:=hZ.mp h1;simp only[Bool.and_eq_true,decide_eq_true_eq] at e;let#[#[e1,e2],e3]:=e;let e3:=iM e3;let#[C,f,fd,O,a,q,t]:=Mw I Y r hr;let#[C',a',hc,mk,kp]:=I.qC.get _ hm;rw[e1] at a;cases a.symm.trans a';rw[e2] at q;rw[e3] at t;show#[C,_,_,f,fd,t,O,bN X G a,a,hc,#[mk,q.at_,q.fn,kp]]
 .rw[Y.cm] at hx;let#[r,hr,e]:=aP.mp hx;cases e;let#[C',f,fd,O,a,q,t]:=Mw I Y r hr;cases a.symm.trans hC;show#[_,_,f,fd,t,O,q]
 .let#[C',a,q]:=I.qA.get _ hx;cases a.symm.trans hC;show q
 .exact PySem.W.mg_none_of X G (I.qB.get x (_/hx))
 .let#[C,a,q]:=I.qX.get x (_/hx);show#[_,bN X G a,a,λbase nB xj=>#[_,_,_,_,a36 nB xj a q,PySem.F.excBase_ValueError]]
end
end M
namespace M
open PySem L2
variable{g g':G}{i n k m a q c p u:Nat}{o o':O}{j r b v:Int}{Q:KD}{E:KX}{N:Ends}{α:Type}{x:Str}{y:D}{kb:Bool->Prop}{go on gK ups:@&Int}{s t:bW}{dd:Dd}{ds:@&Dd}
set_option hygiene false
local macro_rules|`(tactic|delta $x:ident)=>`(tactic|dsimp[$x:ident,b7,List.replicate])
open Lean Parser.Tactic in
local macro_rules|`(tactic|walk_at"w1")=>do
 let q<-`(?_)
 let N:=fun k (l:List Syntax)=>Syntax.node .none k l.toArray
 let a:Array (TSyntax ``tacticSeq):=([`FT,`Fu,`Fv,`Ji,`Ln,`vn,`MG,`Lr,`Fs,`E3,`rh,`w_lit,`qO,`yA,`JO,`Lq,`MB,`w_and,`w_or,`w_not,`w_ite,`FR,`Lo,`MC,`Ft,`yi,`Ls,`Jj,`Lu,`Fw,`Fx,`HM,`HP,`Jh,`Jt,`Js,`Jr,`Jq,`HZ,`EX,`HY,`Il,`Ia,`Ie,`Ih,`Ig,`Ij,`Ik,`Ii,`pT,`Ib,`Ic,`xO,`xP,`AD,`JJ,`LB,`NH,`oZ,`pZ,`Jy,`Jz,`IG,`rB,`Oc,`Ob,`vI,`IH,`Fo].map fun n=>⟨N ``tacticSeq [N ``tacticSeq1Indented [mkNullNode [N ``refine [mkAtom "refine",Syntax.mkApp (mkIdent n) [q].toArray]].toArray]]⟩).toArray
 `(tactic|with_reducible first|(refine w_var (d:=?_) ?_ ?_;rotate_left;·with_unfolding_all rfl)$[|$a]*)
local macro_rules|`(tactic|walk_at"w2")=>`(tactic|repeat(with_reducible first|walk_at "w1"|refine uM (by simp) ?_|refine uL (by simp) ?_|refine A5 (a6 (by assumption)) (by with_unfolding_all rfl) ?_|refine n8 (a6 (by assumption)) ?_|refine sX (by unfold T7;decide) ?_))
local macro_rules|`(tactic|walk_at"w3")=>`(tactic|repeat(with_reducible first|walk_at "w1"|refine uM (by simp) ?_|refine uL (by simp) ?_|refine A5 (a6 (by assumption)) (by with_unfolding_all rfl) ?_|refine n8 (a6 (by assumption)) ?_|refine sX (by unfold T7;decide) ?_|refine And.intro (show List.length _ <= 1000 from by simp) ?_|refine yt (by with_unfolding_all rfl) ?_|refine p7 ?_|refine oA (by with_unfolding_all rfl) ?_))
open Lean Parser.Tactic in
local macro_rules|`(tactic|walk_at"")=>do
 let q<-`(?_)
 let N:=fun k (l:List Syntax)=>Syntax.node .none k l.toArray
 let a:Array (TSyntax ``tacticSeq):=([`MF,`Jk,`Lp,`Im,`vt,`vq,`max2,`min2,`IE,`mn,`Dc,`ID,`p7,`PQ].map fun n=>⟨N ``tacticSeq [N ``tacticSeq1Indented [mkNullNode [N ``refine [mkAtom "refine",Syntax.mkApp (mkIdent n) [q].toArray]].toArray]]⟩).toArray
 `(tactic|repeat(with_reducible first|walk_at "w1"|refine uM (by simp) ?_|refine uL (by simp) ?_|refine A5 (a6 (by assumption)) (by with_unfolding_all rfl) ?_|refine n8 (a6 (by assumption)) ?_|refine sX (by unfold T7;decide) ?_|refine And.intro (show List.length _ <= 1000 from by simp) ?_|refine yt (by with_unfolding_all rfl) ?_|refine oA (by with_unfolding_all rfl) ?_|refine And.intro (F5 (by assumption)) ?_|refine And.intro (rL (by assumption)) ?_|refine And.intro (Bs (by assumption)) ?_|refine V0 (by decide) ?_|refine tj (by decide) (by decide) ?_$[|$a]*))
@[inline]abbrev dR(a:ME):ME:=.cons a .nil
@[inline]abbrev rg(a b:ME):ME:=.cons a (.cons b .nil)
@[inline]abbrev Gn(a b c:ME):ME:=.cons a (.cons b (.cons c .nil))
@[inline]abbrev Be(a b c d:ME):ME:=.cons a (.cons b (.cons c (.cons d .nil)))
@[inline]abbrev Bc(a b c d e:ME):ME:=.cons a (.cons b (.cons c (.cons d (.cons e .nil))))
@[inline]abbrev Gm(a b c d e f g:ME):ME:=.cons a (.cons b (.cons c (.cons d (.cons e (.cons f (.cons g .nil))))))
@[inline]abbrev jG(f:Nat)(a:ME):ME:=.call f (.cons a .nil)
@[inline]abbrev dO(f:Nat)(a b:ME):ME:=.call f (.cons a (.cons b .nil))
@[inline]abbrev mD(f:Nat)(a b c:ME):ME:=.call f (.cons a (.cons b (.cons c .nil)))
@[inline]abbrev GD(f:Nat)(a b c d:ME):ME:=.call f (.cons a (.cons b (.cons c (.cons d .nil))))
@[inline]abbrev cP(o:PySem.CmpOp)(a b:ME):ME:=.eG (.prim (.cmp o) (.cons a (.cons b .nil)))
@[inline]abbrev cV(a:ME)(b c:MS):MS:=.seq (.ifs a b .pass) c
@[inline]abbrev qw(t:MT)(a:ME)(b c:MS):MS:=.seq (.iE t a b) c
@[inline]abbrev bV(a b:ME):ME:=.prim .ix (.cons a (.cons b .nil))
@[inline]abbrev bc(a:Int):ME:=.lit (.int a)
@[inline]abbrev bt(a:PySem.Str):ME:=.lit (.str a)
@[inline]abbrev bH(p:Pr)(a:ME):ME:=.prim p (.cons a .nil)
@[inline]abbrev bB(p:Pr)(a b:ME):ME:=.prim p (.cons a (.cons b .nil))
@[inline]abbrev bT(a:ME):MS:=.seq (.ret a) .pass
@[inline]abbrev eK(a:MS):MS:=.seq a .pass
@[inline]abbrev gL(a b:MS):MS:=.seq a b
@[inline]abbrev eI(n:Nat)(a:ME)(b:MS):MS:=.seq (.set n a) b
@[inline]abbrev aC:ME:=.var 0
@[inline]abbrev aI:ME:=.var 1
@[inline]abbrev nA:ME:=.var 10
@[inline]abbrev lj:ME:=.var 11
@[inline]abbrev nz:ME:=.var 12
@[inline]abbrev bp:ME:=.var 2
@[inline]abbrev dc:ME:=.var 3
@[inline]abbrev eX:ME:=.var 4
@[inline]abbrev ic:ME:=.var 5
@[inline]abbrev lT:ME:=.var 6
@[inline]abbrev lS:ME:=.var 7
@[inline]abbrev vT:ME:=.var 8
@[inline]abbrev kC(a:ME)(b:MS):MS:=.seq (.expr a) b
def Q7:aW:=#[2,5,(cV (.eO (cP .Lt (bV aC (bc 2)) aI) (cP .Lt (bV aC (bc 1)) (bH .len (bV aC (bc 0))))) (eI 2 (bV (bV aC (bc 0)) (bV aC (bc 1))) (gL (.eJ aC (bc 1) (bB (.bin .Add) (bV aC (bc 1)) (bc 1))) (gL (.eJ aC (bc 2) (bc 0)) (eK (.ifs (cP .GtE bp (bB (.bin .Pow) (bc 10) (bc 18))) (eK (.eJ aC (bc 2) bp)) (eK (.eJ aC (bc 3) (bB (.bin .Mod) (bB (.bin .Add) (bB (.bin .Add) (bB (.bin .Mult) (bV aC (bc 3)) (bc 48271)) (bB (.bin .Mult) (bB (.bin .Mod) bp (bc 2147483629)) (bc 69621))) (bc 12345)) (bc 2147483647))))))))) (cV (cP .GtE (bV aC (bc 2)) aI) (eI 3 (bB (.bin .Mod) (bV aC (bc 2)) aI) (gL (.eJ aC (bc 2) (bB (.bin .FloorDiv) (bV aC (bc 2)) aI)) (bT dc))) (eI 4 (bV aC (bc 3)) (gL (.eJ aC (bc 3) (bB (.bin .Mod) (bB (.bin .Add) (bB (.bin .Add) (bB (.bin .Mult) (bB (.bin .Mod) (bB (.bin .Mult) eX eX) (bc 2147483629)) (bc 5)) (bB (.bin .Mult) eX (bc 16811))) (bc 2531011)) (bc 2147483647))) (bT (bB (.bin .Mod) (bB (.bin .Add) (bB (.bin .FloorDiv) (bV aC (bc 3)) (bc 59)) (bB (.bin .Mult) (bB (.bin .Mod) (bV aC (bc 3)) (bc 8191)) (bc 31))) aI))))))]
def sT:aW:=#[1,2,(eI 1 (dO 4 aC (bB (.bin .Pow) (bc 10) (bc 9))) (cV (cP .Eq (dO 4 aC (bc 2)) (bc 0)) (eK (.set 1 (bB (.bin .Add) aI (bB (.bin .Pow) (bc 10) (bc 25))))) (cV (cP .Eq (dO 4 aC (bc 2)) (bc 0)) (bT (bB (.bin .Sub) (bH (.un .USub) (bc 1)) aI)) (bT aI))))]
structure i8(g:G)(d:Nat):Prop where
 ex:∃(s:Nat) (p b r:Int) (xs:@&Int),g[d]?=!.lst [.ref s,.int p,.int b,.int r]/\g[s]?=!.lst (xs.map .int)/\s<d/\0<=p/\0<=b/\0<=r/\r<2147483647
structure Gr(d:Nat)(g g':G):Prop where
 len:-g<=-g'
 old:∀i,i≠d->i< -g->g'[i]?=g[i]?
def Gr.refl(d:Nat)(g:G):Gr d g g:=#[ak _,λx x x=>rfl]
def Gr.trans{d:Nat}{g g1 g2:G}(a:Gr d g g1)(b:Gr d g1 g2):Gr d g g2:=#[aF a.len b.len,λi h1 h2=>(b.old i h1 (ax h2 a.len)).trans (a.old i h1 h2)]
def Gr.set(d:Nat)(g:G)(o:O):Gr d g (g.set d o):=#[by simp,λi h1 h2=>aH (bq h1)]
def Gr.snoc(d:Nat)(g:G)(o:O):Gr d g (g++[o]):=#[by simp,λi h1 h2=>aA h2]
def Gr.at{d:Nat}(h:Gr d g g')(hi:i≠d)(e:g[i]?=!o):g'[i]?=!o:=(h.old i hi (az.mp e).1).trans e
def i9(h:g[i]?=!o):i< -g:=(az.mp h).1
def i8.lt{d:Nat}(h:i8 g d):d< -g:=by
 let#[_,_,_,_,_,e,_]:=h.ex;show i9 e
def i8.snoc{d:Nat}(h:i8 g d)(o:O):i8 (g++[o]) d:=by
 let#[s,p,b,r,xs,e1,e2,q]:=h.ex;show#[s,p,b,r,xs,by rw[aA (i9 e1)];show e1,by rw[aA (i9 e2)];show e2,q]
abbrev uN:MS->MS
 |.seq _ b=>b
 |x=>x
def XY{i:Int}(h1:-(2 ^ 64)<i)(h2:i<2 ^ 64):sN i j:=.inl #[h1,h2]
def yc{i:Int}(h1:-(2 ^ 64)<j)(h2:j<2 ^ 64):sN i j:=.inr #[h1,h2]
def a23{P:fb}{d:Nat}{n:Int}{c2:Option D}(hN:N.rt=Q)(D0:i8 g d)(hn:0<n)(nF:n<1073741824)(h:∀r g',0<=r->r<n->i8 g' d->Gr d g g'->Q (.int r) g'):wpS P (uN Q7.body) N [!.ref d,!.int n,c2,none,none] g E:=by
 let#[s,p,b,r,xs,e1,e2,pe,hp,hb,hr,wt]:=D0.ex;let dN:=i9 e1;subst hN;dsimp[Q7,uN];walk_at "w2";show if2 (λc=>?_) (λc=>?_)
 .walk_at "w2";show V0 hn ?_;walk_at "w2";show HN #[hn,nF] ?_;walk_at "w2";show U1 e1 (by rfl) ?_;walk_at "w2";show h _ _ (iH _ ()) (fY _ hn) #[s,p,b / n,r,xs,?_,?_,pe,hp,Int.ediv_nonneg hb (),hr,wt] (Gr.set d g _)
  .rw[aU dN];rfl
  .rw[aH (bD pe)];show e2
 .walk_at "w2";let GC:-(2 ^ 64)<r/\r<2 ^ 64:=#[by omega,by omega]
  show uE (XY GC.1 GC.2) ?_;show V0 ∅ ?_;show uE (yc ∅ ∅) ?_;walk_at "w2";show uE (yc ∅ ∅) ?_;walk_at "w2";show V0 ∅ ?_;walk_at "w2";show U1 e1 (by rfl) ?_;generalize wu:(r*r % 2147483629*5+r*16811+2531011) % 2147483647=r';let q0:0<=r':=by rw[<- wu];show iH _ ∅
  let q1:r'<2147483647:=by rw[<- wu];show fY _ ∅
  let sG:(g.set d (.lst [.ref s,.int p,.int b,.int r']))[d]?=!.lst [.ref s,.int p,.int b,.int r']:=aU dN;change wpS P _ _ _ (g.set d (.lst [.ref s,.int p,.int b,.int r'])) E;walk_at "w2";show HN #[by decide,by decide] ?_;walk_at "w2";show V0 ∅ ?_;show uE (yc ∅ ∅) ?_;walk_at "w2";show V0 hn ?_;show h _ _ (iH _ ()) (fY _ hn) #[s,p,b,r',xs,sG,?_,pe,hp,hb,q0,q1] (Gr.set d g _);rw[aH (bD pe)];show e2
def k7{T:Nat->Option aW}(hT:T 4=!Q7){d:Nat}{n:Int}(D0:i8 g d)(hn:0<n)(nF:n<1073741824)(h:∀r g',0<=r->r<n->i8 g' d->Gr d g g'->Q (.int r) g'):a8 T (k+1) 4 [.ref d,.int n] g Q E:=by
 let#[s,p,b,r,xs,e1,e2,pe,hp,hb,hr,wt]:=D0.ex;let dN:=i9 e1;show call_of hT rfl ?_;let tail:∀(g':G) (c2:Option D),i8 g' d->Gr d g g'->wpS (a8 T k) (uN Q7.body) #[λx g'=>Q .aO g',Q,λx x=>False,λx x=>False] [!.ref d,!.int n,c2,none,none] g' E :=
  λg' c2 D1 gr=>a23 rfl D1 hn nF λr g2 a b c e=>h r g2 a b c (gr.trans e)
 delta Q7;walk_at "w2";show if2 (λc=>?_) (λc=>?_)
 .walk_at "w2";show if2 (λc'=>?_) (λc'=>?_)
  .walk_at "w2";let lx:p.toNat< -xs:=by
    rw[aj] at c';omega
   let ea:js (xs.map D.int) p=!.int xs[p.toNat]:=by
    have:=O1 (xs:=xs.map D.int) (by rw[aG,aq lx];rfl)
    rwa [show((p.toNat:Nat):Int)=p by omega] at this
   show A5 (a6 e2) ea ?_;generalize xs[p.toNat]=cell;walk_at "w2";show U1 e1 (by rfl) ?_;let f1:(g.set d (.lst [.ref s,.int (p+1),.int b,.int r]))[d]?=!.lst [.ref s,.int (p+1),.int b,.int r]:=aU dN;walk_at "w2";show U1 f1 (by rfl) ?_;rw[bY];let f2:(g.set d (.lst [.ref s,.int (p+1),.int 0,.int r]))[d]?=!.lst [.ref s,.int (p+1),.int 0,.int r]:=aU dN;change wpS (a8 T k) _ _ _ (g.set d (.lst [.ref s,.int (p+1),.int 0,.int r])) E;walk_at "w2";show if2 (λc2=>?_) (λc2=>?_)
   .walk_at "w2";show U1 f2 (by rfl) ?_;rw[bY];show tail _ _ #[s,p+1,cell,r,xs,aU dN,by rw[aH (bD pe)];show e2,pe,by omega,?_,hr,wt] (Gr.set d g _);let h10:(0:Int)<=10 ^ (18:Int).toNat:=by decide
    omega
   .walk_at "w2";show uE (yc ∅ ∅) ?_;walk_at "w2";show V0 ∅ ?_;show uE (yc ∅ ∅) ?_;walk_at "w2";show V0 ∅ ?_;walk_at "w2";show U1 f2 (by rfl) ?_;rw[bY];show tail _ _ #[s,p+1,0,_,xs,aU dN,by rw[aH (bD pe)];show e2,pe,by omega,by decide,iH _ ∅,fY _ ∅] (Gr.set d g _)
  .exact tail _ _ D0 (Gr.refl _ _)
 .exact tail _ _ D0 (Gr.refl _ _)
def NA{T:Nat->Option aW}(hT:T 4=!Q7)(QJ:T 5=!sT){d:Nat}(D0:i8 g d)(h:∀r g',i8 g' d->Gr d g g'->Q (.int r) g'):a8 T (k+2) 5 [.ref d] g Q E:=by
 show call_of QJ rfl ?_;delta sT;walk_at "w2";show k7 hT D0 ∅ ∅ λr1 g1 y y D1 G1=>?_;walk_at "w2";show k7 hT D1 ∅ ∅ λr2 g2 y y D2 G2=>?_;walk_at "w2";let Ot:=G1.trans G2;let last:∀(x:Int),wpS (a8 T (k+1)) (uN (uN sT.body)) #[λy g'=>Q .aO g',Q,λy y=>False,λy y=>False] [!.ref d,!.int x] g2 E:=λx=>by
  dsimp[sT,uN];walk_at "w2";show k7 hT D2 ∅ ∅ λr3 g3 y y D3 G3=>?_;walk_at "w2";show if2 (λc=>?_) (λc=>?_)
  .walk_at "w2";show h _ _ D3 (Ot.trans G3)
  .walk_at "w2";show h _ _ D3 (Ot.trans G3)
 show if2 (λc=>?_) (λc=>?_)
 .refine FT ?_;show Fv ?_;show qO ?_;walk_at "w1";show qO ?_;walk_at "w1";walk_at "w1";show sX (by unfold T7;decide) ?_;walk_at "w1";show last _
 .exact last _
def Eu:aW:=#[1,1,(bT (.eO (bB .isin aC (.lit (.ty "int"))) (.cL (bB .isin aC (.lit (.ty "bool"))))))]
def Z1:aW:=#[3,3,(bT (.eO (jG 38 aC) (.chain .LtE .LtE aI aC bp)))]
structure NF(T:Nat->Option aW):Prop where
 nf:T 1=!Z1
 is:T 38=!Eu
def AO:aW:=#[1,1,(bT (.prim .lst (Be (bH .list (bB (.kY false true) aC (bc 63))) (bc 0) (bc 0) (bc 29))))]
def sU:aW:=#[1,1,(bT (.eO (bB .isin aC (.lit (.ty "int"))) (.cL (bB .isin aC (.lit (.ty "bool"))))))]
def C6:aW:=#[2,2,(cV (cP .Is aI (.lit .aO)) (bT (bB (.cmp .Is) aC (.lit .aO))) (cV (.eG (bB .isin aI (.lit (.ty "bool")))) (bT (.eO (bB .isin aC (.lit (.ty "bool"))) (bB (.cmp .Eq) aC aI))) (cV (.eG (bB .isin aI (.lit (.ty "int")))) (bT (.eO (jG 6 aC) (bB (.cmp .Eq) aC aI))) (cV (.eG (bB .isin aI (.lit (.ty "str")))) (bT (.eO (bB .isin aC (.lit (.ty "str"))) (bB (.cmp .Eq) aC aI))) (cV (.gI (cP .NotEq (bB .isin aI (.lit (.ty "tuple"))) (bB .isin aC (.lit (.ty "tuple")))) (cP .NotEq (bB .isin aI (.lit (.ty "list"))) (bB .isin aC (.lit (.ty "list"))))) (bT (.lit (.bl false))) (cV (cP .NotEq (bH .len aC) (bH .len aI)) (bT (.lit (.bl false))) (bT (bH .all (.comp [1,0] 4 (.one 3) (.fO (bH .len aI)) .no (dO 7 (bV aI dc) (bV aC dc)))))))))))]
section
variable{T:Nat->Option aW}{d:Nat}
def aH6(h1:NF T){i:Int}(h:Q (.bl true) g):a8 T (k+1) 38 [.int i] g Q E:=by
 show call_of h1.is rfl ?_;delta Eu;walk_at "w2";show gk (b:=true) ∅ rfl ?_;walk_at "w2";show gk ∅ rfl ?_;walk_at "w2";show h
def D6(h1:NF T){i l m:Int}(h:Q (.bl (decide (l<=i)&&decide (i<=m))) g):a8 T (k+2) 1 [.int i,.int l,.int m] g Q E:=by
 show call_of h1.nf rfl ?_;delta Z1;walk_at "w2";show aH6 h1 ?_;walk_at "w2";show if2 (λc=>?_) (λc=>?_)
 .rw[aB c] at h;walk_at "w2";show h
 .rw[aN c] at h;show h
def Sq(h3:T 3=!AO){ns:@&Int}(hg:g[a]?=!.pO (ns.map .int))(h:∀d g',i8 g' d->-g<=d->(∀i,i< -g->g'[i]?=g[i]?)->Q (.ref d) g'):a8 T (k+1) 3 [.ref a] g Q E:=by
 show call_of h3 rfl ?_;delta AO;walk_at "w2";show ZK (a71 hg) ?_;show AJ (l:=cut (ns.map D.int) none (!63)) (a6 #[_]) ?_;walk_at "w2";let ec:cut (ns.map D.int) none (!63)=(cut ns none (!63)).map D.int:=by
  unfold cut;simp[List.map_take,List.map_drop]
 show h _ _ #[(-g)+1,0,0,29,cut ns none (!63),?_,?_,?_,by decide,by decide,by decide,by decide] #[_] (λi hi=>?_)
 .simp
 .rw[<- ec];simp
 .simp
 .simp[List.getElem?_append,hi,Nat.lt_of_lt_of_le hi (by omega:-g<=-g+1),Nat.lt_of_lt_of_le hi (by omega:-g<=-g+1+1)]
end
def Ai{l:List α}(h0:0<=r)(h1:r< -l):∃v,js l r=!v/\v∈l:=by
 let hi:r.toNat< -l:=by omega
 show#[l[r.toNat],?_,eB hi];have:=O1 (aq hi)
 rwa [show((r.toNat:Nat):Int)=r by omega] at this
section
variable{T:Nat->Option aW}
def Me(h7:T 7=!C6){a b:Bool}(h:Q (.bl (a==b)) g):a8 T (k+1) 7 [.bl a,.bl b] g Q E:=by
 show call_of h7 rfl ?_;delta C6;walk_at "w2";walk_at "w2";show gk (c:="bool") (b:=true) ∅ rfl ?_;walk_at "w2";show gk (c:="bool") (b:=true) ∅ rfl ?_;walk_at "w2";show h
end
def b9:(g++[o])[(-g)]?=!o:=by simp
def DO(h:g[i]?=!o):(g++[o'])[i]?=!o:=by rw[aA (i9 h)];show h
def get_set(h:g[i]?=!o):(g.set i o')[i]?=!o':=aU (i9 h)
def a7{j:Nat}(h:g[i]?=!o)(hn:j≠i):(g.set j o')[i]?=!o:=by rw[aH hn];show h
def X2:aW:=#[1,1,(eK (.ifs (.cL (.eG (mD 1 aC (bc 1) (bc 9)))) (eK (.raise "BadAnvils" (dR (bt "there are from one to nine anvils")))) .pass))]
def AN:aW:=#[2,2,(cV (cP .Eq (dO 4 aC (bc 12)) (bc 7)) (bT (jG 5 aC)) (bT (bB (.bin .Sub) (dO 4 aC (bB (.bin .Add) aI (bc 4))) (bc 2))))]
def U6:aW:=#[1,1,(eK (.ifs (cP .NotIn aC (.lit (.tup [(.str "lower"),(.str "upper")]))) (eK (.raise "BadSide" (dR (bt "a side is lower or upper")))) .pass))]
structure Ex(g g':G):Prop where
 len:-g<=-g'
 old:∀i,i< -g->g'[i]?=g[i]?
def Ex.refl(g:G):Ex g g:=#[ak _,λx x=>rfl]
def Ex.trans{g g1 g2:G}(a:Ex g g1)(b:Ex g1 g2):Ex g g2:=#[aF a.len b.len,λi h=>(b.old i (ax h a.len)).trans (a.old i h)]
def Ex.snoc(g:G)(o:O):Ex g (g++[o]):=#[by simp,λi h=>aA h]
def Ex.at(h:Ex g g')(e:g[i]?=!o):g'[i]?=!o:=(h.old i (i9 e)).trans e
def Ex.gr(h:Ex g g')(d:Nat):Gr d g g':=#[h.len,λi x h2=>h.old i h2]
def Ex.draw{d:Nat}(h:Ex g g')(D0:i8 g d):i8 g' d:=by
 let#[s,p,b,r,xs,e1,e2,q]:=D0.ex;show#[s,p,b,r,xs,h.at e1,h.at e2,q]
inductive v8(g:G):Nat->D->D->Prop
 |aO {n:Nat}:v8 g n .aO .aO
 |bl {n:Nat} (b:Bool):v8 g n (.bl b) (.bl b)
 |int {n:Nat} (i:Int):v8 g n (.int i) (.int i)
 |str {n:Nat} (x:Str):v8 g n (.str x) (.str x)
 |tup {n:Nat} {l m:@&D} (hl:-l=-m) (h:∀(i:Nat) x y,l[i]?=!x->m[i]?=!y->v8 g n x y) (hz:-m<=1000):v8 g (n+1) (.tup l) (.tup m)
 |lst {n a b:Nat} {l m:@&D} (ha:g[a]?=!.lst l) (hb:g[b]?=!.lst m) (hl:-l=-m) (h:∀(i:Nat) x y,l[i]?=!x->m[i]?=!y->v8 g n x y) (hz:-m<=1000):v8 g (n+1) (.ref a) (.ref b)
def v8.ex(e:Ex g g'){x:D}(h:v8 g n x y):v8 g' n x y:=by
 induction h with
 |aO=>show .aO
 |bl b=>show .bl b
 |int i=>show .int i
 |str x=>show .str x
 |tup hl h hz ih=>show .tup hl ih hz
 |lst ha hb hl h hz ih=>show .lst (e.at ha) (e.at hb) hl ih hz
section
variable{T:Nat->Option aW}
def NU(h6:T 6=!sU){i:Int}(h:Q (.bl true) g):a8 T (k+1) 6 [.int i] g Q E:=by
 show call_of h6 rfl ?_;delta sU;exists gk (b:=true) ∅ rfl ?_;exists gk ∅ rfl ?_;left;show h
abbrev RV:MS:=match C6.body with
 |.seq _ (.seq _ (.seq _ (.seq _ (.seq _ b))))=>b
 |x=>x
def l8(h6:T 6=!sU)(h7:T 7=!C6):∀(n:Nat) {k:Nat} {g:G} {x y:D} {Q:KD} {E:KX},v8 g n x y->(∀g',Ex g g'->Q (.bl true) g')->a8 T (k+n+2) 7 [x,y] g Q E:=by
 let vD:∀(n:Nat),(∀{k:Nat} {g:G} {x y:D} {Q:KD} {E:KX},v8 g n x y->(∀g',Ex g g'->Q (.bl true) g')->a8 T (k+n+2) 7 [x,y] g Q E) ->
   ∀{k:Nat} {g:G} {x y:D} {l m:@&D} {Q:KD} {E:KX},(∀g',Ex g g'->D8 g' x=!l)->(∀g',Ex g g'->D8 g' y=!m)->-l=-m->-m<=1000->(∀(i:Nat) x y,l[i]?=!x->m[i]?=!y->v8 g n x y)->(∀g',Ex g g'->Q (.bl true) g') ->
   wpS (a8 T (k+n+2)) RV #[λv g'=>Q .aO g',Q,λv v=>False,λv v=>False] [!x,!y] g E:=by
  intro n ih k g x y l m Q E hx hy hl hz hs hQ;let len:∀(z:D) (l:@&D) (g':G) (Q':KD),D8 g' z=!l->Q' (.int (-l)) g'->cw .len [z] g' Q':=λz l g' Q' e q=>#[_,_,#[rfl,.inl #[z,l,rfl,e,rfl]],q]
  show Fu (Fs (Fx (qO (yA (w_var rfl (len _ _ _ _ (hx g (Ex.refl g)) ?_))))));show yA (w_var rfl (len _ _ _ _ (hy g (Ex.refl g)) ?_));show EX ?_;rw[hl,aB rfl];exists S0 (b8 T _) (yw (b8 T _) ?_);show yA (w_var rfl (len _ _ _ _ (hy g (Ex.refl g)) ?_));show#[_,rfl,by omega,by omega,l0 0 (-m),λi ys σ g'=>∃z w,ys=List.replicate i (.bl true)/\σ=[!y,!x,z,w]/\Ex g g',by rw[C8];show hz,λi ys σ g' p=>#[G0,?_],#[none,none,rfl,rfl,Ex.refl g],λi z ys σ g' hz p=>?_,λys σ g' p=>?_]
  .let#[z,w,rfl,_]:=p;simp
  .let#[z,w,rfl,rfl,e]:=p;let#[hi,rfl]:=E5 hz;let h1:l[i]?=some l[i]:=aq ();let h2:=aq hi;let a1:js l (0+(i:Int))=some l[i]:=by rw[Int.zero_add];show O1 h1
   let a2:js m (0+(i:Int))=some m[i]:=by rw[Int.zero_add];show O1 h2
   change dM _ _ _ _ _ _;show Fw (oZ (FR (yi (qO (w_var rfl (w_var rfl #[_,_,#[rfl,.inl #[_,l,_,rfl,hx g' e,a1]],?_]))))));show yi (qO (w_var rfl (w_var rfl #[_,_,#[rfl,.inl #[_,m,_,rfl,hy g' e,a2]],?_])));show Ft (ih ((hs i _ _ h1 h2).ex e) λg2 e2=>?_);show#[_,_,by rw[jb],rfl,e.trans e2]
  .let#[z,w,rfl,rfl,e]:=p;show EV (a6 b9) ?_ (hQ _ (e.trans (Ex.snoc _ _)));have:List.replicate (l0 0 (-m)).length (D.bl true)=(List.replicate (l0 0 (-m)).length true).map D.bl:=by simp
   rw[this,VO];simp
 intro n
 induction n with
 |zero =>
  intro k g x y Q E h hQ;let h0:=hQ g (Ex.refl g);cases h with
  |aO =>
   show call_of h7 rfl ?_;delta C6;left;show h0
  |bl b=>show Me h7 (_/h0)
  |int i =>
   show call_of h7 rfl ?_;delta C6;exists gk (c:="bool") (b:=false) ∅ rfl ?_;exists gk (c:="int") (b:=true) ∅ rfl ?_;exists NU h6 ?_;left;simpa using h0
  |str x =>
   show call_of h7 rfl ?_;delta C6;exists gk (c:="bool") (b:=false) ∅ rfl ?_;exists gk (c:="int") (b:=false) ∅ rfl ?_;exists gk (c:="str") (b:=true) ∅ rfl ?_;exists gk (c:="str") (b:=true) ∅ rfl ?_;left;simpa using h0
 |succ n ih =>
  intro k g x y Q E h hQ;let h0:=hQ g (Ex.refl g);cases h with
  |aO =>
   show call_of h7 rfl ?_;delta C6;left;show h0
  |bl b=>show Me h7 (_/h0)
  |int i =>
   show call_of h7 rfl ?_;delta C6;exists gk (c:="bool") (b:=false) ∅ rfl ?_;exists gk (c:="int") (b:=true) ∅ rfl ?_;exists NU h6 ?_;left;simpa using h0
  |str x =>
   show call_of h7 rfl ?_;delta C6;exists gk (c:="bool") (b:=false) ∅ rfl ?_;exists gk (c:="int") (b:=false) ∅ rfl ?_;exists gk (c:="str") (b:=true) ∅ rfl ?_;exists gk (c:="str") (b:=true) ∅ rfl ?_;left;simpa using h0
  |@tup _ l m hl hs hz =>
   show call_of h7 rfl ?_;let body:=vD n ih (k:=k) (x:=.tup l) (y:=.tup m) (E:=E) (λv v=>rfl) (λv v=>rfl) hl hz hs hQ;delta C6;exists gk (c:="bool") (b:=false) ∅ rfl ?_;exists gk (c:="int") (b:=false) ∅ rfl ?_;exists gk (c:="str") (b:=false) ∅ rfl ?_;exists gk (c:="tuple") (b:=true) ∅ rfl ?_;exists gk (c:="tuple") (b:=true) ∅ rfl ?_;exists dw rfl ?_;exists gk (c:="list") (b:=false) ∅ rfl ?_;exists gk (c:="list") (b:=false) ∅ rfl ?_;exists dw rfl (E3 ?_);show body
  |@lst _ a b l m ha hb hl hs hz =>
   show call_of h7 rfl ?_;let body:=vD n ih (k:=k) (x:=.ref a) (y:=.ref b) (E:=E) (λg' e=>a6 (e.at ha)) (λg' e=>a6 (e.at hb)) hl hz hs hQ;let ta:∀c,sR g (.ref a) c=!(c=="list"):=λc=>by simp only[sR,ha]
   let tb:∀c,sR g (.ref b) c=!(c=="list"):=λc=>by simp only[sR,hb]
   delta C6;exists gk (c:="bool") (b:=false) ∅ (tb _) ?_;exists gk (c:="int") (b:=false) ∅ (tb _) ?_;exists gk (c:="str") (b:=false) ∅ (tb _) ?_;exists gk (c:="tuple") (b:=false) ∅ (tb _) ?_;exists gk (c:="tuple") (b:=false) ∅ (ta _) ?_;exists dw rfl ?_;exists gk (c:="list") (b:=true) ∅ (tb _) ?_;exists gk (c:="list") (b:=true) ∅ (ta _) ?_;exists dw rfl (E3 ?_);show body
end
section
variable{T:Nat->Option aW}
def Uu(hx:PyData.strOk x=true)(h:kb (decide (x="lower")||decide (x="upper"))):rQ g (.str x) (.tup [.str "lower",.str "upper"]) kb:=by
 show#[_,.inr #[_,[.str "lower",.str "upper"],.str x,rfl,rfl,rfl,by decide +kernel,by show hx,rfl],?_];let e:∀y:Str,PyData.eqv (.str y) (.str x)=decide (x=y):=λy=>by
  simp only[PyData.eqv];rw[cB,fV,bj];show eq_comm
 simp only[List.any_cons,List.any_nil,Bool.or_false,e];show h
def aA1(Cy:T 40=!U6)(ho:PyData.strOk x=true)(h1:x="lower"\/x="upper"->Q .aO g)(h3:x≠"lower"->x≠"upper"->E #["BadSide"] g):a8 T (k+1) 40 [.str x] g Q E:=by
 show call_of Cy rfl ?_;delta U6;exists U8 (Uu ho ?_);left;by_cases e:x="lower"\/x="upper"
 .refine dw (by rw[gf,fJ,bj,bj];show e) ?_;show h1 e
 .refine fK (by rw[kL,jd,aM,aM];show not_or.mp e) ?_;left;show h3 (λz=>e (.inl z)) (λz=>e (.inr z))
end
def AQ:aW:=#[1,1,(cV (cP .Eq (dO 4 aC (bc 14)) (bc 9)) (bT (bV (.prim .lst (Be (bt "") (bt "Lower") (bt "both") (bt "upper "))) (dO 4 aC (bc 4)))) (bT (bV (bB .lst (bt "lower") (bt "upper")) (dO 4 aC (bc 2)))))]
section
variable{T:Nat->Option aW}{d:Nat}
def Mz(h4:T 4=!Q7)(zB:T 29=!AQ)(D0:i8 g d)(h:∀x g',PyData.strOk x=true->i8 g' d->Gr d g g'->Q (.str x) g'):a8 T (k+2) 29 [.ref d] g Q E:=by
 show call_of zB rfl ?_;delta AQ;exists k7 h4 D0 ∅ ∅ λr g1 y y D1 G1=>?_;exists if2 (λc=>?_) (λc=>?_)
 .exists k7 h4 (D1.snoc _) ∅ ∅ λr g2 r0 r1 D2 G2=>?_;let e2:=G2.at (i:=-g1) (by have:=D1.lt;omega) (o:=.lst (([("":Str),("Lower":Str),("both":Str),("upper ":Str)]:@&Str).map D.str)) #[_];let#[v,hv,hm]:=Ai (l:=([("":Str),("Lower":Str),("both":Str),("upper ":Str)]:@&Str).map D.str) r0 (_/r1);let#[x,hx,rfl]:=aP.mp hm;show A5 (a6 e2) hv ?_;exists h x g2 ?_ D2 (G1.trans ((Gr.snoc _ _ _).trans G2));simp only[List.mem_cons,List.mem_nil_iff,or_false] at hx;rcases hx with rfl|rfl|rfl|rfl<;>decide +kernel
 .exists k7 h4 (D1.snoc _) ∅ ∅ λr g2 r0 r1 D2 G2=>?_;let e2:=G2.at (i:=-g1) (by have:=D1.lt;omega) (o:=.lst (([("lower":Str),("upper":Str)]:@&Str).map D.str)) #[_];let#[v,hv,hm]:=Ai (l:=([("lower":Str),("upper":Str)]:@&Str).map D.str) r0 (_/r1);let#[x,hx,rfl]:=aP.mp hm;show A5 (a6 e2) hv ?_;exists h x g2 ?_ D2 (G1.trans ((Gr.snoc _ _ _).trans G2));simp only[List.mem_cons,List.mem_nil_iff,or_false] at hx;rcases hx with rfl|rfl<;>decide +kernel
end
def Kb(ha:g[a]?=!.lst [.str "lower",.str "upper"])(hx:PyData.strOk x=true)(h:kb (decide (x="lower")||decide (x="upper"))):rQ g (.str x) (.ref a) kb:=by
 show#[_,.inr #[_,[.str "lower",.str "upper"],.str x,a6 ha,rfl,rfl,by simp only[PyData.canLayAll0,PyData.canLay0,Bool.and_true];decide +kernel,by simp only[PyData.canLay0];show hx,rfl],?_];let e:∀y:Str,PyData.eqv (.str y) (.str x)=decide (x=y):=λy=>by
  simp only[PyData.eqv];rw[cB,fV,bj];show eq_comm
 simp only[List.any_cons,List.any_nil,Bool.or_false,e];show h
def Et:aW:=#[2,2,(eK (.ifs (.cL (.eG (mD 1 aI (bc 1) (bH .len aC)))) (eK (.raise "NoDie" (dR (bt "no such die was cut")))) .pass))]
def zO:aW:=#[1,1,(bT (.oy (.cons (bt "seats") (.cons (bB (.bin .Mult) (bH .lst (.lit .aO)) aC) (.cons (bt "lower") (.cons (.prim .lst .nil) (.cons (bt "upper") (Gm (.prim .lst .nil) (bt "gone") (.prim .lst .nil) (bt "year") (bc 0) (bt "coins") (.prim .lst .nil)))))))))]
def AK:aW:=#[2,2,(cV (cP .NotIn aI (bB .lst (bt "lower") (bt "upper"))) (bT (bB .tup (bt "BadSide") (.lit .aO))) (cV (cP .Gt (bH .len (bV aC aI)) (bc 98)) (bT (bB .tup (bt "Full") (.lit .aO))) (kC (.dk .append (bV aC aI) (dR (.prim .tup .nil))) (bT (bB .tup (bt "") (bH .len (bV aC aI)))))))]
def Q8:aW:=#[2,5,(cV (.gI (.cL (.eG (dO 7 (.bg "anvils" [("Mint",60)] aC .nil) (bV aI (bt "seats"))))) (.cL (.eG (dO 7 (.bg "year" [("Mint",64)] aC .nil) (bV aI (bt "year")))))) (bT (.lit (.bl false))) (qw (.one 2) (.jg (bB .lst (bt "lower") (bt "upper"))) (cV (.cL (.eG (dO 7 (.bg "dies" [("Mint",61)] aC (dR bp)) (bH .len (bV aI bp))))) (bT (.lit (.bl false))) (eK (.ifs (.cL (.eG (bH .all (.comp [1,0,2] 5 (.one 4) (.fO (bH .len (bV aI bp))) .no (dO 7 (.bg "marks" [("Mint",62)] aI (rg bp (bB (.bin .Add) eX (bc 1)))) (bV (bV aC bp) eX)))))) (bT (.lit (.bl false))) .pass))) (qw (.one 3) (.iC (bc 1) (bB (.bin .Add) (bH .len (bV aI (bt "lower"))) (bc 1))) (eI 4 (.ite (cP .In dc (bV aI (bt "gone"))) (bt "gone") (.ite (cP .In dc (bV aI (bt "seats"))) (bt "fixed") (bt "new"))) (eK (.ifs (.cL (.eG (dO 7 (.bg "state" [("Mint",63)] aC (dR dc)) eX))) (bT (.lit (.bl false))) .pass))) (cV (.cL (.eG (dO 7 (.bg "struck" [("Mint",65)] aC .nil) (bH .len (bV aI (bt "coins")))))) (bT (.lit (.bl false))) (bT (dO 7 (.bg "hoard" [("Mint",67)] aC (dR (bH .ke (bH .len (bV aI (bt "coins")))))) (bV aI (bt "coins"))))))))]
def EA:aW:=#[2,2,(kC (jG 42 aI) (gL (.dS "bench" ["Mint"] aC (bB (.bin .Mult) (bH .tup (.lit .aO)) aI)) (gL (.dS "laid_off" ["Mint"] aC (.prim .tup .nil)) (gL (.dS "lower_wear" ["Mint"] aC (.prim .tup .nil)) (gL (.dS "upper_wear" ["Mint"] aC (.prim .tup .nil)) (gL (.dS "present" ["Mint"] aC (bc 0)) (eK (.dS "output" ["Mint"] aC (.prim .tup .nil)))))))))]
def Z2:aW:=#[2,2,(kC (jG 40 aI) (cV (cP .Eq aI (bt "lower")) (bT (bH (.fld "lower_wear") aC)) (bT (bH (.fld "upper_wear") aC))))]
def W8:aW:=#[3,3,(eK (.ifs (cP .Eq aI (bt "lower")) (eK (.dS "lower_wear" ["Mint"] aC bp)) (eK (.dS "upper_wear" ["Mint"] aC bp))))]
def Eh:aW:=#[2,3,(eI 2 (.bg "wear_of" [("Mint",52)] aC (dR aI)) (cV (cP .Eq (bH .len bp) (bc 99)) (eK (.raise "Full" (dR (bt "no more dies of that side are cut")))) (kC (.bg "put_wear" [("Mint",53)] aC (rg aI (bB (.bin .Add) bp (bH .tup (.prim .tup .nil))))) (bT (bB (.bin .Add) (bH .len bp) (bc 1))))))]
def Z6:aW:=#[1,1,(bT (bH .list (bH (.fld "bench") aC)))]
def Ez:aW:=#[2,2,(bT (bH .len (.bg "wear_of" [("Mint",52)] aC (dR aI))))]
def EM:aW:=#[3,4,(eI 3 (.bg "wear_of" [("Mint",52)] aC (dR aI)) (kC (dO 43 dc bp) (bT (bV dc (bB (.bin .Sub) bp (bc 1))))))]
def EN:aW:=#[2,2,(kC (dO 43 (bH (.fld "lower_wear") aC) aI) (cV (cP .In aI (bH (.fld "bench") aC)) (bT (bt "fixed")) (cV (cP .In aI (bH (.fld "laid_off") aC)) (bT (bt "gone")) (bT (bt "new")))))]
def EB:aW:=#[1,1,(bT (bH (.fld "present") aC))]
def Z3:aW:=#[1,1,(bT (bH .len (bH (.fld "output") aC)))]
def Ey:aW:=#[2,2,(cV (.cL (.eG (mD 1 aI (bc 0) (bB (.bin .Sub) (bH .len (bH (.fld "output") aC)) (bc 1))))) (eK (.raise "NoCoin" (dR (bt "no coin has that number")))) (bT (bV (bH (.fld "output") aC) aI)))]
def O8:aW:=#[2,2,(bT (.gQ [0] 3 (.one 2) (.jg aI) .no (.bg "coin" [("Mint",66)] aC (dR bp))))]
noncomputable abbrev Gx(a:Nat):D:=.tup (List.replicate a (.tup []))
def Fh(be la:D)(a b:Nat):O:=.ins "Mint" [("bench",be),("laid_off",la),("lower_wear",Gx a),("upper_wear",Gx b),("present",.int 0),("output",.tup [])]
noncomputable abbrev Fg(n a b:Nat):O:=Fh (.tup (List.replicate n .aO)) (.tup []) a b
def E9{f:Str}{v:D}{fs:@&(Str×D)}(h:-fs<n):(A2 f v fs).length<n+1:=by
 induction fs generalizing n with
 |nil=>simp[A2];omega
 |cons p r ih =>
  let#[y,z]:=p;simp only[A2];split
  .simp at h ⊢;omega
  .have:=ih (n:=n-1) (by simp at h;omega);simp at h ⊢;omega
structure TM(T:Nat->Option aW):Prop where
 nf:NF T
 Cy:T 40=!U6
 Rj:T 42=!X2
 Ri:T 43=!Et
 Rh:T 51=!EA
 Rg:T 52=!Z2
 Rf:T 53=!W8
 Rc:T 54=!Eh
 QW:T 60=!Z6
 QV:T 61=!Ez
 QU:T 62=!EM
 QT:T 63=!EN
 HA:T 64=!EB
 QS:T 65=!Z3
 QR:T 66=!Ey
section
variable{T:Nat->Option aW}
def aX4(hT:TM T)(h1:1<=v/\v<=9->Q .aO g)(h2:¬(1<=v/\v<=9)->E #["BadAnvils"] g):a8 T (k+3) 42 [.int v] g Q E:=by
 show call_of hT.Rj rfl ?_;delta X2;exists D6 hT.nf ?_;left;by_cases hv:1<=v/\v<=9
 .rw[aB hv.1,aB hv.2];left;show h1 hv
 .have:(decide (1<=v)&&decide (v<=9))=false:=by
   rw[dQ,aM,aM];show cu.mp hv
  rw[this];left;show h2 hv
def LU(hT:TM T)(hm:g[m]?=!(.ins "Mint" []))(h1:∀n:Nat,v=n->1<=n->n<=9->Q .aO (g.set m (Fg n 0 0)))(h2:¬(1<=v/\v<=9)->E #["BadAnvils"] g):a8 T (k+4) 51 [.ref m,.int v] g Q E:=by
 show call_of hT.Rh rfl ?_;delta EA;exists aX4 hT (λhv=>?_) h2;exists XW #[_] hv.1 () (by simp;omega) ?_;exists v7 hm #[_] #[_] ?_;exists v7 (get_set hm) #[_] (by repeat (first|(simp;done)|show E9 ?_)) ?_;rw[bY];exists v7 (get_set hm) #[_] (by repeat (first|(simp;done)|show E9 ?_)) ?_;rw[bY];exists v7 (get_set hm) #[_] (by repeat (first|(simp;done)|show E9 ?_)) ?_;rw[bY];exists v7 (get_set hm) #[_] (by repeat (first|(simp;done)|show E9 ?_)) ?_;rw[bY];exists v7 (get_set hm) #[_] (by repeat (first|(simp;done)|show E9 ?_)) ?_;rw[bY];left;obtain⟨n,rfl⟩:∃n:Nat,v=n:=#[v.toNat,by omega]
 have:=h1 n rfl () ();let e:(List.replicate (Int.toNat (n:Int)) [D.aO]).flatten=List.replicate n .aO:=by
  rw[cq,kK]
 rw[e];show this
def Lf(hT:TM T){l:@&D}(h1:1<=v/\v<=-l->Q .aO g)(h2:¬(1<=v/\v<=-l)->E #["NoDie"] g):a8 T (k+3) 43 [.tup l,.int v] g Q E:=by
 show call_of hT.Ri rfl ?_;delta Et;exists D6 hT.nf ?_;left;by_cases hv:1<=v/\v<=-l
 .rw[aB hv.1,aB hv.2];left;show h1 hv
 .have:(decide (1<=v)&&decide (v<=(-l:Int)))=false:=by
   rw[dQ,aM,aM];show cu.mp hv
  rw[this];left;show h2 hv
end
def U3:aW:=#[3,3,(bT (bB (.bin .Add) (bB (.bin .Add) (bB (.kY false true) aC aI) (bH .tup bp)) (bB (.kY true false) aC (bB (.bin .Add) aI (bc 1)))))]
def Ei:aW:=#[2,4,(eI 2 (.bg "state" [("Mint",63)] aC (dR aI)) (cV (cP .Eq bp (bt "fixed")) (eK (.raise "Fixed" (dR (bt "the die is on an anvil")))) (cV (cP .Eq bp (bt "gone")) (eK (.raise "Gone" (dR (bt "the die was laid off")))) (cV (cP .NotIn (.lit .aO) (bH (.fld "bench") aC)) (eK (.raise "NoAnvil" (dR (bt "no anvil is free")))) (eI 3 (.dk .index (bH (.fld "bench") aC) (dR (.lit .aO))) (gL (.dS "bench" ["Mint"] aC (mD 177 (bH (.fld "bench") aC) dc aI)) (bT dc)))))))]
def Z5:aW:=#[2,3,(cV (cP .NotEq (.bg "state" [("Mint",63)] aC (dR aI)) (bt "fixed")) (eK (.raise "NotFixed" (dR (bt "the die is on no anvil")))) (eI 2 (.dk .index (bH (.fld "bench") aC) (dR aI)) (gL (.dS "bench" ["Mint"] aC (mD 177 (bH (.fld "bench") aC) bp (.lit .aO))) (gL (.ku "laid_off" ["Mint"] aC (bH .tup aI)) (bT bp)))))]
def l6(x:D):Prop:=x=.aO\/∃i,x=.int i
def gU(y z:D):Bool:=lD (toV z) (toV y)
abbrev lg:D->PyData
 |.int i=>.int i
 |_=>.none
def Mx{x:D}(h:l6 x):rd g n x=!lg x:=by
 rcases h with rfl|⟨i,rfl⟩<;>cases n<;>rfl
def Nm{x:D}(h:l6 x):(lg x).canLay0=true:=by
 rcases h with rfl|⟨i,rfl⟩<;>simp[lg,PyData.canLay0]
def Vs{x:D}(hx:l6 x)(hy:l6 y):PyData.eqv (lg x) (lg y)=gU y x:=by
 rcases hx with rfl|⟨i,rfl⟩<;>rcases hy with rfl|⟨j,rfl⟩<;>simp[lg,PyData.eqv,gU,lD,toV]
def Vt{l:@&D}(h:∀x∈l,l6 x):qi g l=!l.map lg:=by
 unfold qi
 induction l with
 |nil=>rfl
 |cons x r ih =>
  rw[oK,Mx (h x #[_]),ih λz hz=>h z (by simp[hz])]
  rfl
def a14{l:@&D}(h:∀x∈l,l6 x):PyData.canLayAll0 (l.map lg)=true:=by
 induction l with
 |nil=>rfl
 |cons x r ih =>
  rw[bQ];simp only[PyData.canLayAll0,Nm (h x #[_]),ih λz hz=>h z (by simp[hz])]
  rfl
def u3{x:D}{l:@&D}(hi:D8 g x=!l)(hl:∀z∈l,l6 z)(hy:l6 y)(h:kb (l.any (gU y))):rQ g y x kb:=by
 show#[_,.inr #[l,l.map lg,lg y,hi,Vt hl,Mx hy,a14 hl,Nm hy,rfl],?_];let e:((l.map lg).any λq=>PyData.eqv q (lg y))=l.any (gU y):=by
  rw[List.any_map];clear h hi
  induction l with
  |nil=>rfl
  |cons z r ih =>
   rw[eL,eL,ih λw hw=>hl w (by simp[hw])];show(PyData.eqv (lg z) (lg y)||_)=_;rw[Vs (hl z #[_]) hy]
 rw[e];show h
def V3{z:D}(hy:l6 y)(hz:l6 z):gU y z=true↔z=y:=by
 rcases hy with rfl|⟨i,rfl⟩<;>rcases hz with rfl|⟨j,rfl⟩<;>simp[gU,lD,toV]
def Kl{x:D}(h:l6 x):uH x=true:=by rcases h with rfl|⟨i,rfl⟩<;>rfl
def Uo{l:@&D}(hl:∀z∈l,l6 z)(hy:l6 y)(h:l.any (gU y)=true):∃n,S9 l y n/\n< -l/\l[n]?=!y:=by
 let mf:l.all uH=true:=cR.mpr λx hx=>Kl (hl x hx)
 suffices ∃n,n< -l/\l[n]?=!y/\∀(m:Nat) z,m<n->l[m]?=!z->lD (toV z) (toV y)=false by
  let#[n,h1,h2,h3]:=this;show#[n,#[mf,Kl hy,#[y,h2,(V3 hy hy).mpr rfl],h3],h1,h2]
 clear mf
 induction l with
 |nil=>simp at h
 |cons x r ih =>
  cases e:gU y x with
  |true =>
   have:=(V3 hy (hl x #[_])).mp e;subst this;show#[0,by simp,rfl,λm z hm=>absurd hm ()]
  |false =>
   rw[eL,e,qW] at h;let#[n,h1,h2,h3]:=ih (λz hz=>hl z (by simp[hz])) h;show#[n+1,by simpa using h1,by simpa using h2,λm z hm hz=>?_];cases m with
   |zero=>cases hz;show e
   |succ m=>show h3 m z () (_/hz)
def Iq{l:List α}:cut l (!(n:Int)) none=l.drop n:=by
 have:¬((n:Int)<0):=by omega
 unfold cut HT.dU;simp[this];by_cases h:n<=-l
 .rw[Nat.min_eq_left h,ir #[_]]
 .rw[Nat.min_eq_right (),vh (ak _),vh ()];simp
def We{l:List α}:cut l none (!(n:Int))=l.take n:=by
 have:¬((n:Int)<0):=by omega
 unfold cut HT.dU;simp[this]
section
variable{T:Nat->Option aW}
def T2(nH:T 177=!U3){l:@&D}{x:D}(hn:n< -l)(hz:-l<=1000)(h:Q (.tup (l.set n x)) g):a8 T (k+1) 177 [.tup l,.int n,x] g Q E:=by
 show call_of nH rfl ?_;delta U3;left;rw[We];show EW (by simp;omega) ?_;left;rw[show((n:Int)+1)=((n+1:Nat):Int) by omega,Iq];show EW (by simp;omega) ?_;let e:l.take n++[x]++l.drop (n+1)=l.set n x:=by
  rw[List.set_eq_take_append_cons_drop,av hn];simp
 rw[e];show h
def G6{go:@&Int}:∀z∈go.map D.int,l6 z:=λz hz=>by
 let#[i,_,rfl]:=aP.mp hz;show .inr #[i,rfl]
end
def AL:aW:=#[2,3,(cV (.cL (.eG (.chain .LtE .LtE (bc 1) aI (bH .len (bV aC (bt "lower")))))) (bT (bB .tup (bt "NoDie") (.lit .aO))) (cV (cP .In aI (bV aC (bt "seats"))) (bT (bB .tup (bt "Fixed") (.lit .aO))) (cV (cP .In aI (bV aC (bt "gone"))) (bT (bB .tup (bt "Gone") (.lit .aO))) (cV (cP .NotIn (.lit .aO) (bV aC (bt "seats"))) (bT (bB .tup (bt "NoAnvil") (.lit .aO))) (eI 2 (.dk .index (bV aC (bt "seats")) (dR (.lit .aO))) (gL (.eJ (bV aC (bt "seats")) bp aI) (bT (bB .tup (bt "") bp))))))))]
def AM:aW:=#[2,3,(cV (.cL (.eG (.chain .LtE .LtE (bc 1) aI (bH .len (bV aC (bt "lower")))))) (bT (bB .tup (bt "NoDie") (.lit .aO))) (cV (cP .NotIn aI (bV aC (bt "seats"))) (bT (bB .tup (bt "NotFixed") (.lit .aO))) (eI 2 (.dk .index (bV aC (bt "seats")) (dR aI)) (gL (.eJ (bV aC (bt "seats")) bp (.lit .aO)) (kC (.dk .append (bV aC (bt "gone")) (dR aI)) (bT (bB .tup (bt "") bp)))))))]
def aI1{l:@&D}{n':Nat}(h:S9 l y n)(h':S9 l y n'):n=n':=by
 let#[_,_,#[z,hz,ez],hn]:=h;let#[_,_,#[z',zb,HF],wA]:=h';rcases gE n n' with c|c|c
 .rw[wA n z c hz] at ez;cases ez
 .exact c
 .rw[hn n' z' c zb] at HF;cases HF
def V9{l:@&D}{x:D}(h:∀z∈l,l6 z)(hx:l6 x):∀z∈l.set n x,l6 z:=λz hz=>by
 rcases gy hz with hz|rfl
 .exact h z hz
 .exact hx
def uC(l:@&D):Prop:=∀(i j:Nat) (v:Int),l[i]?=!.int v->l[j]?=!.int v->i=j
def Q4{l:@&D}(h:∀z∈l,l6 z):l.any (gU (.int v))=true↔∃i:Nat,l[i]?=!.int v:=by
 rw[hZ];constructor
 .rintro⟨z,hz,e⟩;rw[(V3 (.inr #[v,rfl]) (h z hz))] at e;subst e;show Ba hz
 .rintro⟨i,hi⟩;show#[_,aQ hi,(V3 (.inr #[v,rfl]) (.inr #[v,rfl])).mpr rfl]
def Ul{l:@&D}(h:∀z∈l,l6 z)(hd:uC l)(hn:l.any (gU (.int v))=false):uC (l.set n (.int v)):=by
 let no:∀i:Nat,l[i]?≠!.int v:=λi hi=>by
  rw[(Q4 h).mpr #[i,hi]] at hn;cases hn
 intro i j w hi hj;by_cases ei:n=i<;>by_cases ej:n=j
 .omega
 .subst ei;rw[aH ej] at hj;rw[kJ] at hi;split at hi
  .split at hi
   .cases hi;show absurd hj (no j)
   .cases hi
  .contradiction
 .subst ej;rw[aH ei] at hi;rw[kJ] at hj;split at hj
  .split at hj
   .cases hj;show absurd hi (no i)
   .cases hj
  .contradiction
 .rw[aH ei] at hi;rw[aH ej] at hj;show hd i j w hi hj
def P1{l:@&D}{x:D}(h:(l.set n x)[i]?=!y):(i=n/\y=x)\/l[i]?=!y:=by
 by_cases e:n=i
 .subst e;rw[kJ] at h;split at h
  .split at h
   .cases h;show .inl #[rfl,rfl]
   .cases h
  .contradiction
 .rw[aH e] at h;show .inr h
def Uk{l:@&D}(hd:uC l):uC (l.set n .aO):=λi j v hi hj=>by
 rcases P1 hi with⟨_,z⟩|hi
 .cases z
 .rcases P1 hj with⟨_,z⟩|hj
  .cases z
  .exact hd i j v hi hj
def aM3{l:@&D}{w:Int}(h:∀z∈l,l6 z)(e:(l.set n .aO).any (gU (.int w))=true):l.any (gU (.int w))=true:=by
 let#[i,hi]:=(Q4 (V9 h (.inl rfl))).mp e;rcases P1 hi with⟨_,z⟩|hi
 .cases z
 .exact(Q4 h).mpr #[i,hi]
def aM4{l:@&D}{w:Int}(h:∀z∈l,l6 z)(e:(l.set n (.int v)).any (gU (.int w))=true):w=v\/l.any (gU (.int w))=true:=by
 let#[i,hi]:=(Q4 (V9 h (.inr #[v,rfl]))).mp e;rcases P1 hi with⟨_,z⟩|hi
 .cases z;show .inl rfl
 .exact .inr ((Q4 h).mpr #[i,hi])
def UM{l:@&D}(h:∀z∈l,l6 z)(hd:uC l)(hn:l[n]?=!.int v):(l.set n .aO).any (gU (.int v))=false:=by
 cases e:(l.set n .aO).any (gU (.int v)) with
 |false=>rfl
 |true =>
  let#[i,hi]:=(Q4 (V9 h (.inl rfl))).mp e;rcases P1 hi with⟨_,z⟩|kQ
  .cases z
  .have:i=n:=hd i n v kQ hn;subst this;rw[aU (az.mp hn).1] at hi;cases hi
def DQ(h:k<n):lq n (k:Int)=!k:=by
 unfold lq;rw[av (),av (),cq]
structure bW where
 bl:@&D
 go:@&Int
 lo:@&(@&Int)
 up:@&(@&Int)
 yr:Int
 co:@&D
noncomputable abbrev mk(l:@&Int):D:=.tup (l.map .int)
noncomputable abbrev eZ(l:@&(@&Int)):@&D:=l.map mk
def c5(s:bW):O:=.ins "Mint" [("bench",.tup s.bl),("laid_off",.tup (s.go.map .int)),("lower_wear",.tup (eZ s.lo)),("upper_wear",.tup (eZ s.up)),("present",.int s.yr),("output",.tup s.co)]
abbrev bW.side(s:bW)(x:Str):@&(@&Int):=if x="lower" then s.lo else s.up
def bW.put(s:bW)(x:Str)(w:@&(@&Int)):bW:=if x="lower" then{ s with lo:=w } else{ s with up:=w }
def N8:s.side "lower"=s.lo:=by unfold bW.side;rw[av rfl]
def N7:s.side "upper"=s.up:=by unfold bW.side;rw[aw ∅]
noncomputable abbrev u4(x:Str):Prop:=x="lower"\/x="upper"
abbrev qa:@&Int:=[0,1,2,3,4,5,6,7]
abbrev markL(l:@&Int)(k:Int):@&Int:=qa.filter λi=>decide (i=k\/i∈l)
noncomputable abbrev Rs:=Str×D×bW
def w6(s:bW)(x:Str):Rs:=if u4 x then(if(s.side x).length<99 then("",.int ((s.side x).length+1),s.put x (s.side x++[[]])) else("Full",.aO,s)) else("BadSide",.aO,s)
noncomputable abbrev A8(s:bW)(v:Int):Bool:=s.bl.any (gU (.int v))
noncomputable abbrev N3(s:bW)(v:Int):Bool:=(s.go.map D.int).any (gU (.int v))
noncomputable abbrev ik(l:@&D)(y:D):Nat:=l.findIdx (gU y)
def o9(s:bW)(v:Int):Rs:=if 1<=v/\v<=-s.lo then(if A8 s v=true then("Fixed",.aO,s) else if N3 s v=true then("Gone",.aO,s) else if s.bl.any (gU .aO)=true then("",.int (ik s.bl .aO),{ s with bl:=s.bl.set (ik s.bl .aO) (.int v) }) else("NoAnvil",.aO,s)) else("NoDie",.aO,s)
def y9(s:bW)(v:Int):Rs:=if 1<=v/\v<=-s.lo then(if A8 s v=true then("",.int (ik s.bl (.int v)),{ s with bl:=s.bl.set (ik s.bl (.int v)) .aO,go:=s.go++[v] }) else("NotFixed",.aO,s)) else("NoDie",.aO,s)
noncomputable abbrev fA(l:@&(@&Int))(v:Int):@&Int:=l.getD (v-1).toNat []
def d9(s:bW)(x:Str)(v k:Int):Rs:=if u4 x then(if 1<=v/\v<=(s.side x).length then(if x="lower"/\N3 s v=true then("Gone",.aO,s) else if 0<=k/\k<=7 then(if k∈fA (s.side x) v then("Marked",.aO,s) else("",.aO,s.put x ((s.side x).set (v-1).toNat (markL (fA (s.side x) v) k)))) else("BadSpot",.aO,s)) else("NoDie",.aO,s)) else("BadSide",.aO,s)
def R8(s:bW)(a b:Int):D:=.tup [.int a,mk (fA s.lo a),.int b,mk (fA s.up b),.int s.yr]
def d8(s:bW)(a b:Int):Rs:=if(1<=a/\a<=-s.lo)/\(1<=b/\b<=-s.up) then(if A8 s a=true then(if (-s.co)<200 then("",.int (-s.co),{ s with co:=s.co++[R8 s a b] }) else("Full",.aO,s)) else("NotFixed",.aO,s)) else("NoDie",.aO,s)
def v5(s:bW)(n:Int):Rs:=if s.yr+1<=n/\n<=9999 then("",.aO,{ s with yr:=n }) else("BadYear",.aO,s)
def Mk(l:@&Int):Prop:=(∀k∈l,ST.Spot k)/\-l<=8
def HL(c:D):Prop:=∃a l b m y,c=.tup [.int a,mk l,.int b,mk m,.int y]/\-l<=8/\-m<=8
structure WS(s:bW):Prop where
 se:∀z∈s.bl,l6 z
 di:uC s.bl
 dj:∀v,A8 s v=true->N3 s v=false
 bn:-s.bl<=9
 gn:s.go.Nodup
 gb:∀v∈s.go,1<=v/\v<=-s.lo
 ln:-s.lo<=99
 un:-s.up<=99
 lm:∀l∈s.lo,Mk l
 um:∀l∈s.up,Mk l
 y0:0<=s.yr
 cn:-s.co<=200
 cs:∀c∈s.co,HL c
def a20:qa.Pairwise (· < ·):=by unfold qa;decide
def Na{k:Int}:k∈qa↔ST.Spot k:=by
 unfold qa ST.Spot;simp only[List.mem_cons,List.mem_nil_iff,or_false];omega
def a55{l:@&Int}{k i:Int}(hl:∀j∈l,ST.Spot j)(hk:ST.Spot k):i∈markL l k↔i=k\/i∈l:=by
 unfold markL;rw[cA,bj,Na];constructor
 .exact λh=>h.2
 .rintro(rfl|h)
  .exact#[hk,.inl rfl]
  .exact#[hl i h,.inr h]
def M'{l:@&Int}{k:Int}:Mk (markL l k):=by
 unfold markL;show#[λi hi=>Na.mp (cA.mp hi).1,?_];show aF (ff _ _) ∅
def Vy{l:@&Int}{k:Int}(hl:∀j∈l,ST.Spot j)(hk:ST.Spot k):O3 (l++[k])=markL l k:=by
 let h1:(markL l k).Pairwise (· < ·):=a20.sublist jz;show EF ?_ (KO _) (h1.imp λh=>Int.le_of_lt h);show(ES _).trans ?_;show(cS (ST.Y0 _ _ List.nodup_nil) (h1.imp λh=>Int.ne_of_lt h)).mpr λi=>?_;rw[ST.H9,a55 hl hk];simp[or_comm]
def ND(W:WS s):-s.go<=99:=by
 let hp:s.go.Perm (((List.range 99).map λn:Nat=>(n:Int)+1).filter (·∈s.go)):=by
  show(cS W.gn ?_).mpr λv=>?_
  .exact OB jz ∅
  .rw[cA];constructor
   .intro hv;show#[?_,by simpa using hv];have:=W.gb v hv;have:=W.ln;rw[aP];show#[(v-1).toNat,fW.mpr (),by omega]
   .rintro⟨_,hv⟩;simpa using hv
 rw[hp.length_eq];show aF (ff _ _) #[_]
def S4{l:@&D}(hl:∀z∈l,l6 z)(hy:l6 y)(h:l.any (gU y)=true):S9 l y (ik l y)/\ik l y< -l/\l[ik l y]?=!y:=by
 let#[n,W,hn,e]:=Uo hl hy h;have:ik l y=n:=by
  let dN:ik l y< -l:=List.findIdx_lt_length_of_exists (by simpa[List.any_eq_true] using h);let h1:gU y l[ik l y]=true:=List.findIdx_getElem (w:=dN);show aI1 #[W.1,W.2.1,#[_,aq dN,h1],λm z hm hz=>?_] W;have:=List.not_of_lt_findIdx hm;let#[tY,rfl]:=az.mp hz;simpa[gU] using this
 rw[this];show#[W,hn,e]
set_option tactic.hygienic true in
def XQ(W:WS s):WS (w6 s x).2.2:=by
 unfold w6;split
 .rename_i hx;split
  .rename_i hl;rcases hx with rfl|rfl
   .rw[N8] at hl ⊢;unfold bW.put;rw[av rfl];show#[W.se,W.di,W.dj,W.bn,W.gn,λv hv=>?_,?_,W.un,λl h=>?_,W.um,W.y0,W.cn,W.cs]
    .have:=W.gb v hv;rw[ba];simp;omega
    .rw[ba];simp;omega
    .rcases bh.mp h with h|h
     .exact W.lm l h
     .simp at h;subst h;show#[λk hk=>by simp at hk,by simp]
   .rw[N7] at hl ⊢;unfold bW.put;rw[aw ∅];show#[W.se,W.di,W.dj,W.bn,W.gn,W.gb,W.ln,?_,W.lm,λl h=>?_,W.y0,W.cn,W.cs]
    .rw[ba];simp;omega
    .rcases bh.mp h with h|h
     .exact W.um l h
     .simp at h;subst h;show#[λk hk=>by simp at hk,by simp]
  .exact W
 .exact W
set_option tactic.hygienic true in
def XR(W:WS s):WS (o9 s v).2.2:=by
 unfold o9
 repeat' split
 all_goals first|show W|skip
 rename_i hv e1 e2 e3;let sG:A8 s v=false:=by simpa using e1
 let RA:N3 s v=false:=by simpa using e2
 show#[V9 W.se (.inr #[v,rfl]),Ul W.se W.di sG,λw hw=>?_,by rw[mU];show W.bn,W.gn,W.gb,W.ln,W.un,W.lm,W.um,W.y0,W.cn,W.cs];rcases aM4 W.se hw with rfl|hw
 .exact RA
 .exact W.dj w hw
set_option tactic.hygienic true in
def XS(W:WS s):WS (y9 s v).2.2:=by
 unfold y9
 repeat' split
 all_goals first|show W|skip
 rename_i hv e1;let#[F,hn,e]:=S4 W.se (.inr #[v,rfl]) e1;let hg:=W.dj v e1;let Qv:v∉s.go:=λhv=>by
  have:N3 s v=true:=hZ.mpr #[.int v,aP.mpr #[v,hv,rfl],(V3 (.inr #[v,rfl]) (.inr #[v,rfl])).mpr rfl];rw[hg] at this;cases this
 show#[V9 W.se (.inl rfl),Uk W.di,λw hw=>?_,by rw[mU];show W.bn,?_,?_,W.ln,W.un,W.lm,W.um,W.y0,W.cn,W.cs]
 .let hb:=W.dj w (aM3 W.se hw);show((s.go++[v]).map D.int).any (gU (.int w))=false;rw[ay,List.any_append];show(N3 s w||_)=false;rw[hb,qW];cases e5:(List.map D.int [v]).any (gU (.int w)) with
  |false=>rfl
  |true =>
   rw[bQ,List.map_nil,eL,List.any_nil,Bool.or_false] at e5;have:=(V3 (.inr #[w,rfl]) (.inr #[v,rfl])).mp e5;cases this;let h1:A8 { s with bl:=s.bl.set (ik s.bl (.int v)) .aO,go:=s.go++[v] } v=false:=UM W.se W.di e;rw[h1] at hw;cases hw
 .show(s.go++[v]).Nodup;rw[da];show#[W.gn,by simp,λa ha b hb=>by simp at hb;subst hb;show λz=>Qv (z▸ha)]
 .intro w hw;rcases bh.mp hw with hw|hw
  .exact W.gb w hw
  .simp at hw;subst hw;show hv
set_option tactic.hygienic true in
def bB4{k:Int}(W:WS s):WS (d9 s x v k).2.2:=by
 unfold d9
 repeat' split
 all_goals first|show W|skip
 rename_i hx hv e1 hk e2;rcases hx with rfl|rfl
 .unfold bW.put;rw[av rfl,N8];show#[W.se,W.di,W.dj,W.bn,W.gn,by simpa using W.gb,by simpa using W.ln,W.un,λl h=>?_,W.um,W.y0,W.cn,W.cs];rcases gy h with h|rfl
  .exact W.lm l h
  .exact M'
 .unfold bW.put;rw[aw ∅,N7];show#[W.se,W.di,W.dj,W.bn,W.gn,W.gb,W.ln,by simpa using W.un,W.lm,λl h=>?_,W.y0,W.cn,W.cs];rcases gy h with h|rfl
  .exact W.um l h
  .exact M'
def zX{l:@&(@&Int)}(hv:1<=v/\v<=-l):l[(v-1).toNat]?=!fA l v/\fA l v∈l:=by
 let h:(v-1).toNat< -l:=by omega
 let e:l[(v-1).toNat]?=!fA l v:=by
  rw[aq h,fA,List.getD_eq_getElem?_getD,aq h]
  rfl
 show#[e,aQ e]
set_option tactic.hygienic true in
def VM{a:Int}(W:WS s):WS (d8 s a b).2.2:=by
 unfold d8
 repeat' split
 all_goals first|show W|skip
 rename_i hv e1 hl;show#[W.se,W.di,W.dj,W.bn,W.gn,W.gb,W.ln,W.un,W.lm,W.um,W.y0,by simp;omega,λc hc=>?_];rcases bh.mp hc with hc|hc
 .exact W.cs c hc
 .simp at hc;subst hc;show#[_,_,_,_,_,rfl,(W.lm _ (zX hv.1).2).2,(W.um _ (zX hv.2).2).2]
set_option tactic.hygienic true in
def bB3{n:Int}(W:WS s):WS (v5 s n).2.2:=by
 unfold v5;split
 .rename_i h;show#[W.se,W.di,W.dj,W.bn,W.gn,W.gb,W.ln,W.un,W.lm,W.um,by have:=W.y0;change 0<=n;omega,W.cn,W.cs]
 .exact W
def Ff:aW:=#[2,2,(bT (bH .tuple (bB .vw aC aI)))]
def S6:aW:=#[4,5,(eI 4 (.bg "marks" [("Mint",62)] aC (rg aI bp)) (cV (.eO (cP .Eq aI (bt "lower")) (cP .In bp (bH (.fld "laid_off") aC))) (eK (.raise "Gone" (dR (bt "the die was laid off")))) (cV (.cL (.eG (mD 1 dc (bc 0) (bc 7)))) (eK (.raise "BadSpot" (dR (bt "a die has no such spot")))) (cV (cP .In dc eX) (eK (.raise "Marked" (dR (bt "the die has that mark")))) (eK (.expr (.bg "put_wear" [("Mint",53)] aC (rg aI (mD 177 (.bg "wear_of" [("Mint",52)] aC (dR aI)) (bB (.bin .Sub) bp (bc 1)) (dO 16 eX (bH .tup dc)))))))))))]
def Z4:aW:=#[3,4,(eI 3 (.prim .tup (Bc aI (.bg "marks" [("Mint",62)] aC (rg (bt "lower") aI)) bp (.bg "marks" [("Mint",62)] aC (rg (bt "upper") bp)) (bH (.fld "present") aC))) (cV (cP .NotIn aI (bH (.fld "bench") aC)) (eK (.raise "NotFixed" (dR (bt "the lower die is on no anvil")))) (cV (cP .Eq (bH .len (bH (.fld "output") aC)) (bc 200)) (eK (.raise "Full" (dR (bt "no more coins are struck")))) (gL (.ku "output" ["Mint"] aC (bH .tup dc)) (bT (bB (.bin .Sub) (bH .len (bH (.fld "output") aC)) (bc 1)))))))]
def Q1:aW:=#[2,2,(cV (.cL (.eG (mD 1 aI (bB (.bin .Add) (bH (.fld "present") aC) (bc 1)) (bc 9999)))) (eK (.raise "BadYear" (dR (bt "no such year can begin")))) (eK (.dS "present" ["Mint"] aC aI)))]
structure TQ(T:Nat->Option aW):Prop where
 tm:TM T
 Rm:T 16=!Ff
 Rb:T 55=!Ei
 Ra:T 56=!Z5
 QZ:T 57=!S6
 QY:T 58=!Z4
 QX:T 59=!Q1
 nH:T 177=!U3
section
variable{T:Nat->Option aW}
def bA9(hT:TQ T){l:@&Int}{i:Int}(hl:Mk l)(hi:ST.Spot i)(h:∀g',Ex g g'->Q (mk (markL l i)) g'):a8 T (k+1) 16 [mk l,.tup [.int i]] g Q E:=by
 show call_of hT.Rm rfl ?_;delta Ff;exists Xa (ns:=l) (ms:=[i]) hl.1 (λk hk=>by simp at hk;subst hk;show hi) (by have:=hl.2;simp;omega) ?_;rw[Vy hl.1 hi];show Fn (a6 b9) ?_;left;show h _ (Ex.snoc _ _)
def Aq(hT:TQ T)(hm:g[m]?=!c5 s)(ho:PyData.strOk x=true)(h1:u4 x->Q (.tup (eZ (s.side x))) g)(h3:¬u4 x->E #["BadSide"] g):a8 T (k+2) 52 [.ref m,.str x] g Q E:=by
 show call_of hT.tm.Rg rfl ?_;delta Z2;exists aA1 hT.tm.Cy ho (λhx=>?_) (λz1 z2=>h3 (λz=>z.elim z1 z2));exists if2 (λc=>?_) (λc=>?_)
 .left;have:=h1 hx;rw[c,N8] at this;show j8 hm rfl this
 .left;have:=h1 hx;rw[hx.resolve_left c,N7] at this;show j8 hm rfl this
def Mr(hT:TQ T)(hm:g[m]?=!c5 s){w:@&(@&Int)}(h:Q .aO (g.set m (c5 (s.put x w)))):a8 T (k+1) 53 [.ref m,.str x,.tup (eZ w)] g Q E:=by
 show call_of hT.tm.Rf rfl ?_;delta W8;exists if2 (λc=>?_) (λc=>?_)
 .exists v7 hm #[_] #[_] ?_;left;unfold bW.put at h;rw[av c] at h;show h
 .exists v7 hm #[_] #[_] ?_;left;unfold bW.put at h;rw[aw c] at h;show h
def bA6(hT:TQ T)(hm:g[m]?=!c5 s)(W:WS s)(ho:PyData.strOk x=true)(h1:(w6 s x).1=""->Q (w6 s x).2.1 (g.set m (c5 (w6 s x).2.2)))(h2:(w6 s x).1≠""->E #[(w6 s x).1] g):a8 T (k+3) 54 [.ref m,.str x] g Q E:=by
 show call_of hT.tm.Rc rfl ?_;delta Eh;exists c6 hm rfl rfl ?_;exists Aq (k:=k) hT hm ho (λhx=>?_) (λhx=>?_)
 .let hl:(s.side x).length<=99:=by
   rcases hx with rfl|rfl
   .rw[N8];show W.ln
   .rw[N7];show W.un
  left;rw[aj];show if2 (λc=>?_) (λc=>?_)
  .let e:w6 s x=(("Full",.aO,s):Rs):=by unfold w6;rw[av hx,aw ()]
   rw[e] at h2;left;show h2 (by dsimp only;decide)
  .let e:w6 s x=(("",.int ((s.side x).length+1),s.put x (s.side x++[[]])):Rs):=by unfold w6;rw[av hx,av ()]
   rw[e] at h1;exists c6 hm rfl rfl ?_;exists EW (by simp;omega) ?_;let e2:eZ (s.side x)++[D.tup []]=eZ (s.side x++[[]]):=by rw[eZ,eZ,ay];rfl
   rw[e2];exists Mr hT hm ?_;left;rw[aj];show h1 rfl
 .let e:w6 s x=(("BadSide",.aO,s):Rs):=by unfold w6;rw[aw hx]
  rw[e] at h2;show h2 (by dsimp only;decide)
def Uj(hT:TQ T)(hm:g[m]?=!c5 s)(ho:PyData.strOk x=true)(h1:u4 x->Q (.int (s.side x).length) g)(h3:¬u4 x->E #["BadSide"] g):a8 T (k+3) 61 [.ref m,.str x] g Q E:=by
 show call_of hT.tm.QV rfl ?_;delta Ez;exists c6 hm rfl rfl ?_;exists Aq (k:=k) hT hm ho (λhx=>?_) h3;left;rw[aj];show h1 hx
def yb{l:@&(@&Int)}(hv:1<=v/\v<=-l):js (eZ l) (v-1)=!mk (fA l v):=by
 let h:=(zX hv).1;have:=O1 (xs:=eZ l) (j:=(v-1).toNat) (v:=mk (fA l v)) (by rw[aG,h];rfl)
 rwa [show(((v-1).toNat:Nat):Int)=v-1 by omega] at this
def Y1(hT:TQ T)(hm:g[m]?=!c5 s)(ho:PyData.strOk x=true)(h1:u4 x->1<=v/\v<=(s.side x).length->Q (mk (fA (s.side x) v)) g)(h2:u4 x->¬(1<=v/\v<=(s.side x).length)->E #["NoDie"] g)(h3:¬u4 x->E #["BadSide"] g):a8 T (k+4) 62 [.ref m,.str x,.int v] g Q E:=by
 show call_of hT.tm.QU rfl ?_;delta EM;exists c6 hm rfl rfl ?_;exists Aq (k:=k+1) hT hm ho (λhx=>?_) h3;exists Lf hT.tm (λhv=>?_) (λhv=>?_)
 .rw[aj] at hv;exists oA (yb hv) ?_;left;show h1 hx hv
 .rw[aj] at hv;show h2 hx hv
def S2(hT:TQ T)(hm:g[m]?=!c5 s)(W:WS s)(h0:¬(1<=v/\v<=-s.lo)->E #["NoDie"] g)(h1:1<=v/\v<=-s.lo->A8 s v=true->Q (.str "fixed") g)(h2:1<=v/\v<=-s.lo->A8 s v=false->N3 s v=true->Q (.str "gone") g)(h3:1<=v/\v<=-s.lo->A8 s v=false->N3 s v=false->Q (.str "new") g) :
  a8 T (k+4) 63 [.ref m,.int v] g Q E:=by
 show call_of hT.tm.QT rfl ?_;delta EN;exists j8 hm rfl ?_;exists Lf hT.tm (λhv=>?_) (λz=>h0 (λy=>z #[y.1,by rw[aj];show y.2]));rw[aj] at hv;exists j8 hm rfl ?_;exists T6 (u3 (l:=s.bl) rfl W.se (.inr #[v,rfl]) ?_);left;cases e1:A8 s v with
 |true =>
  show fK e1 ?_;left;show h1 hv e1
 |false =>
  show dw e1 ?_;exists j8 hm rfl ?_;exists T6 (u3 (l:=s.go.map D.int) rfl G6 (.inr #[v,rfl]) ?_);left;cases e2:N3 s v with
  |true =>
   show fK e2 ?_;left;show h2 hv e1 e2
  |false =>
   show dw e2 ?_;left;show h3 hv e1 e2
def jO{b:Bool}(h:b=false):¬b=true:=by rw[h];decide
def bA1(hT:TQ T)(hm:g[m]?=!c5 s)(W:WS s)(h1:(o9 s v).1=""->Q (o9 s v).2.1 (g.set m (c5 (o9 s v).2.2)))(h2:(o9 s v).1≠""->E #[(o9 s v).1] g):a8 T (k+5) 55 [.ref m,.int v] g Q E:=by
 show call_of hT.Rb rfl ?_;delta Ei;exists c6 hm rfl rfl ?_;exists S2 (k:=k) hT hm W (λhv=>?_) (λhv e1=>?_) (λhv e1 e2=>?_) (λhv e1 e2=>?_)
 .let e:o9 s v=(("NoDie",.aO,s):Rs):=by unfold o9;rw[aw hv]
  rw[e] at h2;show h2 (by dsimp only;decide)
 .let e:o9 s v=(("Fixed",.aO,s):Rs):=by unfold o9;rw[av hv,av e1]
  rw[e] at h2;exists fK #[] ?_;left;show h2 (by dsimp only;decide)
 .let e:o9 s v=(("Gone",.aO,s):Rs):=by unfold o9;rw[av hv,aw (jO e1),av e2]
  rw[e] at h2;exists dw #[] ?_;exists fK #[] ?_;left;show h2 (by dsimp only;decide)
 .exists dw #[] ?_;exists dw #[] ?_;exists j8 hm rfl ?_;exists U8 (u3 (l:=s.bl) rfl W.se (.inl rfl) ?_);left;cases e3:s.bl.any (gU .aO) with
  |false =>
   let e:o9 s v=(("NoAnvil",.aO,s):Rs):=by unfold o9;rw[av hv,aw (jO e1),aw (jO e2),aw (jO e3)]
   rw[e] at h2;show fK rfl ?_;left;show h2 (by dsimp only;decide)
  |true =>
   let e:o9 s v=(("",.int (ik s.bl .aO),{ s with bl:=s.bl.set (ik s.bl .aO) (.int v) }):Rs):=by unfold o9;rw[av hv,aw (jO e1),aw (jO e2),av e3]
   rw[e] at h1;show dw rfl ?_;let#[F,hn,_]:=S4 W.se (.inl rfl) e3;let bn:=W.bn;exists j8 hm rfl ?_;show#[NR,?_];exists IJ F () ?_;exists j8 hm rfl ?_;exists T2 (k:=k+3) hT.nH hn () ?_;exists v7 hm #[_] #[_] ?_;left;show h1 rfl
def Sj(hT:TQ T)(hm:g[m]?=!c5 s)(W:WS s)(h1:(y9 s v).1=""->Q (y9 s v).2.1 (g.set m (c5 (y9 s v).2.2)))(h2:(y9 s v).1≠""->E #[(y9 s v).1] g):a8 T (k+5) 56 [.ref m,.int v] g Q E:=by
 show call_of hT.Ra rfl ?_;delta Z5;exists c6 hm rfl rfl ?_;left;let no:1<=v/\v<=-s.lo->A8 s v=false->E #["NotFixed"] g:=λhv e1=>by
  let e:y9 s v=(("NotFixed",.aO,s):Rs):=by unfold y9;rw[av hv,aw (jO e1)]
  rw[e] at h2;show h2 (by dsimp only;decide)
 show S2 (k:=k) hT hm W (λhv=>?_) (λhv e1=>?_) (λhv e1 e2=>?_) (λhv e1 e2=>?_)
 .let e:y9 s v=(("NoDie",.aO,s):Rs):=by unfold y9;rw[aw hv]
  rw[e] at h2;show h2 (by dsimp only;decide)
 .let e:y9 s v=(("",.int (ik s.bl (.int v)),{ s with bl:=s.bl.set (ik s.bl (.int v)) .aO,go:=s.go++[v] }):Rs):=by unfold y9;rw[av hv,av e1]
  rw[e] at h1;let#[F,hn,_]:=S4 W.se (.inr #[v,rfl]) e1;let bn:=W.bn;let gl:=ND W;exists dw #[] ?_;exists j8 hm rfl ?_;show#[NR,?_];exists IJ F () ?_;exists j8 hm rfl ?_;exists T2 (k:=k+3) hT.nH hn () ?_;exists v7 hm #[_] #[_] ?_;let e2:(O.ins "Mint" (A2 "bench" (.tup (s.bl.set (ik s.bl (.int v)) .aO)) [("bench",.tup s.bl),("laid_off",.tup (s.go.map .int)),("lower_wear",.tup (eZ s.lo)),("upper_wear",.tup (eZ s.up)),("present",.int s.yr),("output",.tup s.co)]))=c5 { s with bl:=s.bl.set (ik s.bl (.int v)) .aO }:=rfl;rw[e2];let pw:(g.set m (c5 { s with bl:=s.bl.set (ik s.bl (.int v)) .aO }))[m]?=!(c5 { s with bl:=s.bl.set (ik s.bl (.int v)) .aO }):=get_set hm;exists Lm ?_;exists#[m,_,_,_,rfl,pw,by simp,rfl,?_];exists NG (by simp;omega) ?_;show#[_,pw,by simp,?_];rw[bY];let e3:(O.ins "Mint" (A2 "laid_off" (.tup (s.go.map .int++[.int v])) [("bench",.tup (s.bl.set (ik s.bl (.int v)) .aO)),("laid_off",.tup (s.go.map .int)),("lower_wear",.tup (eZ s.lo)),("upper_wear",.tup (eZ s.up)),("present",.int s.yr),("output",.tup s.co)]))=c5 { s with bl:=s.bl.set (ik s.bl (.int v)) .aO,go:=s.go++[v] }:=by
   unfold c5;rw[ay]
   rfl
  rw[e3];left;show h1 rfl
 .exists fK #[] ?_;left;show no hv e1
 .exists fK #[] ?_;left;show no hv e1
def Eb(W:WS s)(hx:u4 x)(hv:1<=v/\v<=(s.side x).length):Mk (fA (s.side x) v):=by
 let h:=(zX hv).2;rcases hx with rfl|rfl
 .rw[N8] at h ⊢;show W.lm _ h
 .rw[N7] at h ⊢;show W.um _ h
def Ap(W:WS s):(s.side x).length<=99:=by
 unfold bW.side;split
 .exact W.ln
 .exact W.un
def Aa{l:@&Int}(hi:D8 g y=!l.map .int)(h:kb (decide (v∈l))):rQ g (.int v) y kb:=by
 show u3 hi G6 (.inr #[v,rfl]) ?_;let e:(l.map D.int).any (gU (.int v))=decide (v∈l):=by
  rw[cB,Q4 G6,bj];constructor
  .rintro⟨i,hi⟩;rw[aG,ae] at hi;let#[a,h1,h2]:=hi;cases h2;show aQ h1
  .intro hm;let#[i,hi]:=Ba hm;show#[i,by rw[aG,hi];rfl]
 rw[e];show h
def UC(hT:TQ T)(hm:g[m]?=!c5 s)(W:WS s)(ho:PyData.strOk x=true)(h1:(d9 s x v j).1=""->∀g',Ex g g'->Q .aO (g'.set m (c5 (d9 s x v j).2.2)))(h2:(d9 s x v j).1≠""->E #[(d9 s x v j).1] g):a8 T (k+5) 57 [.ref m,.str x,.int v,.int j] g Q E:=by
 show call_of hT.QZ rfl ?_;delta S6;exists c6 hm rfl rfl ?_;exists Y1 (k:=k) hT hm ho (λhx hv=>?_) (λhx hv=>?_) (λhx=>?_)
 .let yY:=Eb W hx hv;let sl:=Ap (x:=x) W;let fin:∀(N:Ends),¬(x="lower"/\N3 s v=true)->(∀(g':G) σ,(∀g1:G,Ex g g1->g'=g1.set m (c5 (d9 s x v j).2.2)->(d9 s x v j).1=""->N.nx σ g'))->wpS (a8 T (k+4)) (match S6.body with|.seq _ (.seq _ b)=>b|x=>x) N [!.ref m,!.str x,!.int v,!.int j,!(mk (fA (s.side x) v))] g E:=by
   intro N sh hN;dsimp[S6];exists D6 hT.tm.nf ?_;left;by_cases hj:0<=j/\j<=7
   .rw[aB hj.1,aB hj.2];show dw rfl ?_;exists T6 (Aa (l:=fA (s.side x) v) rfl ?_);left;by_cases hq:j∈fA (s.side x) v
    .let e:d9 s x v j=(("Marked",.aO,s):Rs):=by unfold d9;rw[av hx,av hv,aw sh,av hj,av hq]
     rw[e] at h2;rw[aB hq];show oZ ?_;left;show h2 (by dsimp only;decide)
    .let e:d9 s x v j=(("",.aO,s.put x ((s.side x).set (v-1).toNat (markL (fA (s.side x) v) j))):Rs):=by unfold d9;rw[av hx,av hv,aw sh,av hj,aw hq]
     rw[e] at hN;rw[aN hq];show pZ ?_;exists c6 hm rfl rfl ?_;exists c6 hm rfl rfl ?_;exists Aq (k:=k+2) hT hm ho (λy=>?_) (λz=>absurd hx z);exists bA9 (k:=k+3) hT yY #[hj.1,by omega] λg1 e1=>?_;left;let Qb:v-1=(((v-1).toNat:Nat):Int):=by omega
     rw[Qb];show T2 (k:=k+3) hT.nH (by rw[aj];omega) (by rw[aj];omega) ?_;let es:(eZ (s.side x)).set (v-1).toNat (mk (markL (fA (s.side x) v) j))=eZ ((s.side x).set (v-1).toNat (markL (fA (s.side x) v) j)):=by rw[eZ,eZ,List.map_set]
     rw[es];exists Mr (k:=k+3) hT (e1.at hm) ?_;left;show hN _ _ g1 e1 rfl rfl
   .let e:d9 s x v j=(("BadSpot",.aO,s):Rs):=by unfold d9;rw[av hx,av hv,aw sh,aw hj]
    rw[e] at h2;have:(decide (0<=j)&&decide (j<=7))=false:=by
     rw[dQ,aM,aM];show cu.mp hj
    rw[this];show fK rfl ?_;left;show h2 (by dsimp only;decide)
  exists if2 (λqo=>?_) (λqo=>?_)
  .exists j8 hm rfl ?_;exists T6 (u3 (l:=s.go.map D.int) rfl G6 (.inr #[v,rfl]) ?_);left;cases e2:N3 s v with
   |true =>
    let e:d9 s x v j=(("Gone",.aO,s):Rs):=by unfold d9;rw[av hx,av hv,av #[qo,e2]]
    rw[e] at h2;show fK e2 ?_;left;show h2 (by dsimp only;decide)
   |false =>
    show dw e2 ?_;show E3 ?_;show fin _ (λz=>jO e2 z.2) (λg' σ g1 e1 eg er=>by subst eg;show h1 er g1 e1)
  .try show pZ ?_
   try with_reducible show E3 ?_
   show fin _ (λz=>qo z.1) (λg' σ g1 e1 eg er=>by subst eg;show h1 er g1 e1)
 .let e:d9 s x v j=(("NoDie",.aO,s):Rs):=by unfold d9;rw[av hx,aw hv]
  rw[e] at h2;show h2 (by dsimp only;decide)
 .let e:d9 s x v j=(("BadSide",.aO,s):Rs):=by unfold d9;rw[aw hx]
  rw[e] at h2;show h2 (by dsimp only;decide)
def aT5(hT:TQ T)(hm:g[m]?=!c5 s)(W:WS s){a:Int}(h1:(d8 s a b).1=""->Q (d8 s a b).2.1 (g.set m (c5 (d8 s a b).2.2)))(h2:(d8 s a b).1≠""->E #[(d8 s a b).1] g):a8 T (k+5) 58 [.ref m,.int a,.int b] g Q E:=by
 show call_of hT.QY rfl ?_;delta Z4;let no:¬((1<=a/\a<=-s.lo)/\(1<=b/\b<=-s.up))->E #["NoDie"] g:=λhv=>by
  let e:d8 s a b=(("NoDie",.aO,s):Rs):=by unfold d8;rw[aw hv]
  rw[e] at h2;show h2 (by dsimp only;decide)
 exists c6 hm rfl rfl ?_;exists Y1 (k:=k) hT hm #[] (λx ha=>?_) (λx ha=>no (λz=>ha (by rw[N8];show z.1))) (λz=>absurd (.inl rfl) z);rw[N8] at ha ⊢;exists c6 hm rfl rfl ?_;exists Y1 (k:=k) hT hm #[] (λx hb=>?_) (λx hb=>no (λz=>hb (by rw[N7];show z.2))) (λz=>absurd (.inr rfl) z);rw[N7] at hb ⊢;exists j8 hm rfl ?_;exists j8 hm rfl ?_;exists U8 (u3 (l:=s.bl) rfl W.se (.inr #[a,rfl]) ?_);left;cases e1:A8 s a with
 |false =>
  let e:d8 s a b=(("NotFixed",.aO,s):Rs):=by unfold d8;rw[av #[ha,hb],aw (jO e1)]
  rw[e] at h2;show fK (show(~~~A8 s a)=true by rw[e1];rfl) ?_;left;show h2 (by dsimp only;decide)
 |true =>
  show dw (show(~~~A8 s a)=false by rw[e1];rfl) ?_;let cn:=W.cn;exists j8 hm rfl ?_;exists if2 (λhl=>?_) (λhl=>?_)
  .let e:d8 s a b=(("Full",.aO,s):Rs):=by unfold d8;rw[av #[ha,hb],av e1,aw ()]
   rw[e] at h2;left;show h2 (by dsimp only;decide)
  .let e:d8 s a b=(("",.int (-s.co),{ s with co:=s.co++[R8 s a b] }):Rs):=by unfold d8;rw[av #[ha,hb],av e1,av ()]
   rw[e] at h1;exists Lm ?_;exists#[m,_,_,_,rfl,hm,by simp,rfl,?_];exists NG (by simp;omega) ?_;show#[_,hm,by simp,?_];let e3:(O.ins "Mint" (A2 "output" (.tup (s.co++[.tup [.int a,mk (fA s.lo a),.int b,mk (fA s.up b),.int s.yr]])) [("bench",.tup s.bl),("laid_off",.tup (s.go.map .int)),("lower_wear",.tup (eZ s.lo)),("upper_wear",.tup (eZ s.up)),("present",.int s.yr),("output",.tup s.co)]))=c5 { s with co:=s.co++[R8 s a b] }:=rfl;rw[e3];let pw:(g.set m (c5 { s with co:=s.co++[R8 s a b] }))[m]?=!(c5 { s with co:=s.co++[R8 s a b] }):=get_set hm;exists j8 pw rfl ?_;left;have:=h1 rfl;rw[show((s.co++[R8 s a b]).length:Int)-1=-s.co by rw[ba];simp];show this
def VL(hT:TQ T)(hm:g[m]?=!c5 s){n:Int}(h1:(v5 s n).1=""->Q .aO (g.set m (c5 (v5 s n).2.2)))(h2:(v5 s n).1≠""->E #[(v5 s n).1] g):a8 T (k+3) 59 [.ref m,.int n] g Q E:=by
 show call_of hT.QX rfl ?_;delta Q1;exists j8 hm rfl ?_;exists D6 hT.tm.nf ?_;left;by_cases hv:s.yr+1<=n/\n<=9999
 .let e:v5 s n=(("",.aO,{ s with yr:=n }):Rs):=by unfold v5;rw[av hv]
  rw[e] at h1;rw[aB hv.1,aB hv.2];show dw rfl ?_;exists v7 hm #[_] #[_] ?_;left;show h1 rfl
 .let e:v5 s n=(("BadYear",.aO,s):Rs):=by unfold v5;rw[aw hv]
  rw[e] at h2;have:(decide (s.yr+1<=n)&&decide (n<=9999))=false:=by
   rw[dQ,aM,aM];show cu.mp hv
  rw[this];show fK rfl ?_;left;show h2 (by dsimp only;decide)
def Kt(hT:TQ T)(hm:g[m]?=!c5 s)(h:Q (.ref (-g)) (g++[.lst s.bl])):a8 T (k+1) 60 [.ref m] g Q E:=by
 show call_of hT.tm.QW rfl ?_;delta Z6;exists j8 hm rfl ?_;left;show h
def bB6(hT:TQ T)(hm:g[m]?=!c5 s)(h:Q (.int s.yr) g):a8 T (k+1) 64 [.ref m] g Q E:=by
 show call_of hT.tm.HA rfl ?_;delta EB;left;show j8 hm rfl h
def aT4(hT:TQ T)(hm:g[m]?=!c5 s)(h:Q (.int (-s.co)) g):a8 T (k+1) 65 [.ref m] g Q E:=by
 show call_of hT.tm.QS rfl ?_;delta Z3;exists j8 hm rfl ?_;left;show h
def Uc(hT:TQ T)(hm:g[m]?=!c5 s){i:Int}(h1:∀c,0<=i->i< -s.co->s.co[i.toNat]?=!c->Q c g)(h2:¬(0<=i/\i< -s.co)->E #["NoCoin"] g):a8 T (k+3) 66 [.ref m,.int i] g Q E:=by
 show call_of hT.tm.QR rfl ?_;delta Ey;exists j8 hm rfl ?_;exists D6 hT.tm.nf ?_;left;by_cases hv:0<=i/\i< -s.co
 .rw[aB hv.1,aB (show i<=(-s.co:Int)-1 by omega)];show dw rfl ?_;exists j8 hm rfl ?_;left;let hi:i.toNat< -s.co:=by omega
  let e:=aq hi;let e2:=O1 (xs:=s.co) (j:=i.toNat) e;rw[show((i.toNat:Nat):Int)=i by omega] at e2;show oA e2 ?_;left;show h1 _ hv.1 hv.2 e
 .have:(decide (0<=i)&&decide (i<=(-s.co:Int)-1))=false:=by
   rw[dQ,aM,aM];rcases cu.mp hv with z|z
   .exact .inl z
   .exact .inr ()
  rw[this];show fK rfl ?_;left;show h2 hv
def a76(hT:TQ T)(ui:T 67=!O8)(hm:g[m]?=!c5 s)(hc:g[c]?=!(.lst (l0 0 (-s.co))))(hz:-s.co<=1000)(h:Q (.ref (-g)) (g++[.lst s.co])):a8 T (k+4) 67 [.ref m,.ref c] g Q E:=by
 show call_of ui rfl ?_;delta O8;exists Tx (b8 T _) (tR (b8 T _) ?_);exists#[c,_,rfl,a6 hc,l0 0 (-s.co),λi ys σ g'=>ys=s.co.take i/\g'=g/\∃z1 z2,σ=[!.ref m,z1,z2],by rw[C8];show hz,λi ys σ g' p=>?_,#[by simp,rfl,_,_,rfl],λi y ys σ g' hy p=>?_,λys σ g' p=>?_]
 .let#[rfl,rfl,_]:=p;show#[uS (a6 hc),by rw[cG];omega]
 .let#[rfl,rfl,z1,z2,rfl]:=p;let#[hi,rfl]:=E5 hy;show p7 ?_
  try show dM _ _ _ _ _ _
  exists c6 hm rfl rfl ?_;exists Uc (k:=k) hT hm (λc' x x e=>?_) (λz=>absurd #[by omega,by omega] z);show#[?_,rfl,_,_,rfl];rw[show((0:Int)+(i:Int)).toNat=i by omega] at e;rw[List.take_add_one,e]
  rfl
 .let#[rfl,rfl,_]:=p;rw[C8,eA];show h
end
def uU:aW:=#[4,5,(cV (cP .NotIn aI (bB .lst (bt "lower") (bt "upper"))) (bT (bB .tup (bt "BadSide") (.lit .aO))) (cV (.cL (.eG (.chain .LtE .LtE (bc 1) bp (bH .len (bV aC aI))))) (bT (bB .tup (bt "NoDie") (.lit .aO))) (cV (.eO (cP .Eq aI (bt "lower")) (cP .In bp (bV aC (bt "gone")))) (bT (bB .tup (bt "Gone") (.lit .aO))) (cV (.cL (.eG (.chain .LtE .LtE (bc 0) dc (bc 7)))) (bT (bB .tup (bt "BadSpot") (.lit .aO))) (eI 4 (bV (bV aC aI) (bB (.bin .Sub) bp (bc 1))) (cV (cP .In dc eX) (bT (bB .tup (bt "Marked") (.lit .aO))) (gL (.eJ (bV aC aI) (bB (.bin .Sub) bp (bc 1)) (bH .tuple (.comp [4,3] 4 (.one 3) (.fO (bc 8)) (.gI (cP .Eq dc aI) (cP .In dc aC)) dc))) (bT (bB .tup (bt "") (.lit .aO))))))))))]
def Al:aW:=#[3,3,(cV (.gI (.cL (.eG (.chain .LtE .LtE (bc 1) aI (bH .len (bV aC (bt "lower")))))) (.cL (.eG (.chain .LtE .LtE (bc 1) bp (bH .len (bV aC (bt "upper"))))))) (bT (bB .tup (bt "NoDie") (.lit .aO))) (cV (cP .NotIn aI (bV aC (bt "seats"))) (bT (bB .tup (bt "NotFixed") (.lit .aO))) (cV (cP .Gt (bH .len (bV aC (bt "coins"))) (bc 199)) (bT (bB .tup (bt "Full") (.lit .aO))) (kC (.dk .append (bV aC (bt "coins")) (dR (.prim .tup (Bc aI (bV (bV aC (bt "lower")) (bB (.bin .Sub) aI (bc 1))) bp (bV (bV aC (bt "upper")) (bB (.bin .Sub) bp (bc 1))) (bV aC (bt "year")))))) (bT (bB .tup (bt "") (bB (.bin .Sub) (bH .len (bV aC (bt "coins"))) (bc 1))))))))]
abbrev iT(q:Nat)(y:Int):@&(Key×D):=[(.inr "seats",.ref (q+2)),(.inr "lower",.ref (q+3)),(.inr "upper",.ref (q+4)),(.inr "gone",.ref (q+5)),(.inr "year",.int y),(.inr "coins",.ref (q+6))]
structure MD(g:G)(q:Nat)(t:bW):Prop where
 bZ:g[q]?=!.bZ (iT q t.yr)
 de:g[q+2]?=!.lst t.bl
 lower:g[q+3]?=!.lst (eZ t.lo)
 upper:g[q+4]?=!.lst (eZ t.up)
 gone:g[q+5]?=!.lst (t.go.map .int)
 df:g[q+6]?=!.lst t.co
structure Kq(q:Nat)(g g':G):Prop where
 len:-g<=-g'
 old:∀i,(i<q\/q+7<=i)->i< -g->g'[i]?=g[i]?
def Kq.at(h:Kq q g g')(hi:i<q\/q+7<=i)(e:g[i]?=!o):g'[i]?=!o:=(h.old i hi (i9 e)).trans e
def Kq.refl{q:Nat}{g:G}:Kq q g g:=#[ak _,λx x x=>rfl]
def Kq.trans{q:Nat}{g g1 g2:G}(a:Kq q g g1)(b:Kq q g1 g2):Kq q g g2:=#[aF a.len b.len,λi h hi=>(b.old i h (ax hi a.len)).trans (a.old i h hi)]
def Kq.ex(h:Ex g g'):Kq q g g':=#[h.len,λi x hi=>h.old i hi]
def Kq.set{q i:Nat}{g:G}{o:O}(h:q<=i/\i<q+7):Kq q g (g.set i o):=#[by simp,λj hj x=>by rw[aH ()]]
def Kq.draw{d:Nat}(h:Kq q g g')(hd:d<q)(D0:i8 g d):i8 g' d:=by
 let#[s,p,b,r,xs,h1,h2,h3,h4]:=D0.ex;show#[s,p,b,r,xs,h.at () h1,h.at () h2,h3,h4]
def MD.ex(h:MD g q t)(x:Ex g g'):MD g' q t:=#[x.at h.bZ,x.at h.de,x.at h.lower,x.at h.upper,x.at h.gone,x.at h.df]
def MD.gr{d:Nat}(h:MD g q t)(x:Gr d g g')(hd:d<q):MD g' q t:=#[x.at () h.bZ,x.at () h.de,x.at () h.lower,x.at () h.upper,x.at () h.gone,x.at () h.df]
def MD.JH(h:MD g q t)(w:@&D):MD (g.set (q+2) (.lst w)) q { t with bl:=w }:=#[a7 h.bZ (),get_set h.de,a7 h.lower (),a7 h.upper (),a7 h.gone (),a7 h.df ()]
def MD.b14(h:MD g q t)(w:@&(@&Int)):MD (g.set (q+3) (.lst (eZ w))) q { t with lo:=w }:=#[a7 h.bZ (),a7 h.de (),get_set h.lower,a7 h.upper (),a7 h.gone (),a7 h.df ()]
def MD.b12(h:MD g q t)(w:@&(@&Int)):MD (g.set (q+4) (.lst (eZ w))) q { t with up:=w }:=#[a7 h.bZ (),a7 h.de (),a7 h.lower (),get_set h.upper,a7 h.gone (),a7 h.df ()]
def MD.setG(h:MD g q t)(w:@&Int):MD (g.set (q+5) (.lst (w.map .int))) q { t with go:=w }:=#[a7 h.bZ (),a7 h.de (),a7 h.lower (),a7 h.upper (),get_set h.gone,a7 h.df ()]
def MD.setC(h:MD g q t)(w:@&D):MD (g.set (q+6) (.lst w)) q { t with co:=w }:=#[a7 h.bZ (),a7 h.de (),a7 h.lower (),a7 h.upper (),a7 h.gone (),get_set h.df]
def MD.b11(h:MD g q t)(n:Int):MD (g.set q (.bZ (iT q n))) q { t with yr:=n }:=#[get_set h.bZ,a7 h.de (),a7 h.lower (),a7 h.upper (),a7 h.gone (),a7 h.df ()]
def mG{y:Int}:N1 (iT q y) (.inr "seats")=!.ref (q+2):=rfl
def qk{y:Int}:N1 (iT q y) (.inr "lower")=!.ref (q+3):=rfl
def vV{y:Int}:N1 (iT q y) (.inr "upper")=!.ref (q+4):=rfl
def vW{y:Int}:N1 (iT q y) (.inr "gone")=!.ref (q+5):=rfl
def za{y:Int}:N1 (iT q y) (.inr "year")=!.int y:=rfl
def rO{y:Int}:N1 (iT q y) (.inr "coins")=!.ref (q+6):=rfl
def MD.side{g:G}{q:Nat}{t:bW}{x:Str}(h:MD g q t)(hx:u4 x):∃r,(r=q+3\/r=q+4)/\N1 (iT q t.yr) (.inr x)=!.ref r/\g[r]?=!(.lst (eZ (t.side x)))/\∀w,MD (g.set r (.lst (eZ w))) q (t.put x w):=by
 rcases hx with rfl|rfl
 .refine#[q+3,.inl rfl,qk,by rw[N8];show h.lower,λw=>?_];unfold bW.put;rw[av rfl];show h.b14 w
 .refine#[q+4,.inr rfl,vV,by rw[N7];show h.upper,λw=>?_];unfold bW.put;rw[aw ∅];show h.b12 w
section
variable{T:Nat->Option aW}
noncomputable abbrev uv(q:Nat)(g:G)(r:Rs)(Q:KD):Prop:=∀g',Kq q g g'->MD g' q r.2.2->Q (.tup [.str r.1,r.2.1]) g'
def UD(Cv:T 46=!AK)(M0:MD g q s)(W:WS s)(ho:PyData.strOk x=true)(h:uv q g (w6 s x) Q):a8 T (k+1) 46 [.ref q,.str x] g Q E:=by
 show call_of Cv rfl ?_;delta AK;left;let e1:Ex g (g++[O.lst [.str "lower",.str "upper"]]):=Ex.snoc _ _;show U8 (Kb b9 ho ?_);let M1:=M0.ex e1;let k1:=Kq.ex (q:=q) e1;let sl:=Ap (x:=x) W;generalize g++[O.lst [.str "lower",.str "upper"]]=g1 at *;left;by_cases hx:u4 x
 .refine dw (by rw[gf,fJ,bj,bj];show hx) ?_;let#[r,hr,mI,rT,wo]:=M1.side hx;exists i6 M1.bZ rfl mI ?_;show n8 (a6 rT) ?_;left;rw[aj];show if2 (λc=>?_) (λc=>?_)
  .let e:w6 s x=(("Full",.aO,s):Rs):=by unfold w6;rw[av hx,aw ()]
   rw[e] at h;left;show h _ k1 M1
  .let e:w6 s x=(("",.int ((s.side x).length+1),s.put x (s.side x++[[]])):Rs):=by unfold w6;rw[av hx,av ()]
   rw[e] at h;exists i6 M1.bZ rfl mI ?_;show#[F5 rT,?_];exists U2 rT (by simp;omega) ?_;let e2:eZ (s.side x)++[D.tup []]=eZ (s.side x++[[]]):=by rw[eZ,eZ,ay];rfl
   rw[e2];let M2:=wo (s.side x++[[]]);let wt:(g1.set r (.lst (eZ (s.side x++[[]]))))[r]?=!(.lst (eZ (s.side x++[[]]))):=get_set rT;let hd2:(g1.set r (.lst (eZ (s.side x++[[]]))))[q]?=!.bZ (iT q s.yr):=a7 M1.bZ ();exists i6 hd2 rfl mI ?_;show n8 (a6 wt) ?_;left;rw[aj,ba];have:=h _ (k1.trans (Kq.set (i:=r) ())) M2;show this
 .refine fK (by rw[kL,jd,aM,aM];show not_or.mp hx) ?_;let e:w6 s x=(("BadSide",.aO,s):Rs):=by unfold w6;rw[aw hx]
  rw[e] at h;left;show h _ k1 M1
def UE(hi:T 178=!AL)(M0:MD g q s)(W:WS s)(h:uv q g (o9 s v) Q):a8 T (k+1) 178 [.ref q,.int v] g Q E:=by
 show call_of hi rfl ?_;delta AL;left;let no:¬(1<=v/\v<=-s.lo)->Q (.tup [.str "NoDie",.aO]) g:=λhv=>by
  let e:o9 s v=(("NoDie",.aO,s):Rs):=by unfold o9;rw[aw hv]
  rw[e] at h;show h _ Kq.refl M0
 by_cases ji:1<=v
 .rw[aB ji];exists i6 M0.bZ rfl qk ?_;show n8 (a6 M0.lower) ?_;left;rw[aj];by_cases jh:v<=(-s.lo:Int)
  .rw[aB jh];exists i6 M0.bZ rfl mG ?_;show T6 (u3 (l:=s.bl) (a6 M0.de) W.se (.inr #[v,rfl]) ?_);left;cases e1:A8 s v with
   |true =>
    let e:o9 s v=(("Fixed",.aO,s):Rs):=by unfold o9;rw[av #[ji,jh],av e1]
    rw[e] at h;show fK e1 ?_;left;show h _ Kq.refl M0
   |false =>
    show dw e1 ?_;exists i6 M0.bZ rfl vW ?_;show T6 (u3 (l:=s.go.map D.int) (a6 M0.gone) G6 (.inr #[v,rfl]) ?_);left;cases e2:N3 s v with
    |true =>
     let e:o9 s v=(("Gone",.aO,s):Rs):=by unfold o9;rw[av #[ji,jh],aw (jO e1),av e2]
     rw[e] at h;show fK e2 ?_;left;show h _ Kq.refl M0
    |false =>
     show dw e2 ?_;exists i6 M0.bZ rfl mG ?_;show U8 (u3 (l:=s.bl) (a6 M0.de) W.se (.inl rfl) ?_);left;cases e3:s.bl.any (gU .aO) with
     |false =>
      let e:o9 s v=(("NoAnvil",.aO,s):Rs):=by unfold o9;rw[av #[ji,jh],aw (jO e1),aw (jO e2),aw (jO e3)]
      rw[e] at h;show fK rfl ?_;left;show h _ Kq.refl M0
     |true =>
      let e:o9 s v=(("",.int (ik s.bl .aO),{ s with bl:=s.bl.set (ik s.bl .aO) (.int v) }):Rs):=by unfold o9;rw[av #[ji,jh],aw (jO e1),aw (jO e2),av e3]
      rw[e] at h;show dw rfl ?_;let#[F,hn,_]:=S4 W.se (.inl rfl) e3;let bn:=W.bn;exists i6 M0.bZ rfl mG ?_;show#[NQ (a6 M0.de),?_];exists II (a6 M0.de) F () ?_;exists i6 M0.bZ rfl mG ?_;exists U1 M0.de (DQ hn) ?_;left;show h _ (Kq.set (i:=q+2) ()) (M0.JH _)
  .rw[aN jh];left;show no λz=>jh z.2
 .rw[aN ji];left;show no λz=>ji z.1
def UG(hi:T 179=!AM)(M0:MD g q s)(W:WS s)(h:uv q g (y9 s v) Q):a8 T (k+1) 179 [.ref q,.int v] g Q E:=by
 show call_of hi rfl ?_;delta AM;left;let no:¬(1<=v/\v<=-s.lo)->Q (.tup [.str "NoDie",.aO]) g:=λhv=>by
  let e:y9 s v=(("NoDie",.aO,s):Rs):=by unfold y9;rw[aw hv]
  rw[e] at h;show h _ Kq.refl M0
 by_cases ji:1<=v
 .rw[aB ji];exists i6 M0.bZ rfl qk ?_;show n8 (a6 M0.lower) ?_;left;rw[aj];by_cases jh:v<=(-s.lo:Int)
  .rw[aB jh];exists i6 M0.bZ rfl mG ?_;show U8 (u3 (l:=s.bl) (a6 M0.de) W.se (.inr #[v,rfl]) ?_);left;cases e1:A8 s v with
   |false =>
    let e:y9 s v=(("NotFixed",.aO,s):Rs):=by unfold y9;rw[av #[ji,jh],aw (jO e1)]
    rw[e] at h;show fK (show(~~~A8 s v)=true by rw[e1];rfl) ?_;left;show h _ Kq.refl M0
   |true =>
    let e:y9 s v=(("",.int (ik s.bl (.int v)),{ s with bl:=s.bl.set (ik s.bl (.int v)) .aO,go:=s.go++[v] }):Rs):=by unfold y9;rw[av #[ji,jh],av e1]
    rw[e] at h;show dw (show(~~~A8 s v)=false by rw[e1];rfl) ?_;let#[F,hn,_]:=S4 W.se (.inr #[v,rfl]) e1;let bn:=W.bn;let gl:=ND W;exists i6 M0.bZ rfl mG ?_;show#[NQ (a6 M0.de),?_];exists II (a6 M0.de) F () ?_;exists i6 M0.bZ rfl mG ?_;exists U1 M0.de (DQ hn) ?_;let M1:=M0.JH (s.bl.set (ik s.bl (.int v)) .aO);exists i6 M1.bZ rfl vW ?_;show#[F5 M1.gone,?_];exists U2 M1.gone (by simp;omega) ?_;let M2:=M1.setG (s.go++[v]);rw[ay] at M2;left;show h _ ((Kq.set (i:=q+2) ()).trans (Kq.set (i:=q+5) ())) M2
  .rw[aN jh];left;show no λz=>jh z.2
 .rw[aN ji];left;show no λz=>ji z.1
def Te{l:@&(@&Int)}{w:@&Int}:(eZ l).set (v-1).toNat (mk w)=eZ (l.set (v-1).toNat w):=by rw[eZ,eZ,List.map_set]
def Wz(hv:1<=v/\v<=n):lq n (v-1)=!(v-1).toNat:=by
 have:=DQ (n:=n) (k:=(v-1).toNat) ()
 rwa [show(((v-1).toNat:Nat):Int)=v-1 by omega] at this
def a50(hi:T 181=!uU)(M0:MD g q s)(W:WS s)(ho:PyData.strOk x=true)(h:uv q g (d9 s x v j) Q):a8 T (k+1) 181 [.ref q,.str x,.int v,.int j] g Q E:=by
 show call_of hi rfl ?_;delta uU;left;let e1:Ex g (g++[O.lst [.str "lower",.str "upper"]]):=Ex.snoc _ _;show U8 (Kb b9 ho ?_);let M1:=M0.ex e1;let k1:=Kq.ex (q:=q) e1;let sl:=Ap (x:=x) W;generalize g++[O.lst [.str "lower",.str "upper"]]=g1 at *;left;by_cases hx:u4 x
 .refine dw (by rw[gf,fJ,bj,bj];show hx) ?_;let#[r,hr,mI,rT,wo]:=M1.side hx;let no:¬(1<=v/\v<=(s.side x).length)->Q (.tup [.str "NoDie",.aO]) g1:=λhv=>by
   let e:d9 s x v j=(("NoDie",.aO,s):Rs):=by unfold d9;rw[av hx,aw hv]
   rw[e] at h;show h _ k1 M1
  left;by_cases ji:1<=v
  .rw[aB ji];exists i6 M1.bZ rfl mI ?_;show n8 (a6 rT) ?_;left;rw[aj];by_cases jh:v<=((s.side x).length:Int)
   .rw[aB jh];let hv:1<=v/\v<=(s.side x).length:=#[ji,jh]
    let yY:=Eb W hx hv;let fin:∀(N:Ends),N.rt=Q->¬(x="lower"/\N3 s v=true)->wpS (a8 T k) (match uU.body with|.seq _ (.seq _ (.seq _ b))=>b|x=>x) N [!.ref q,!.str x,!.int v,!.int j,none] g1 E:=by
     intro N hN sh;dsimp[uU];let bad:¬(0<=j/\j<=7)->N.rt (.tup [.str "BadSpot",.aO]) g1:=λhj=>by
      let e:d9 s x v j=(("BadSpot",.aO,s):Rs):=by unfold d9;rw[av hx,av hv,aw sh,aw hj]
      rw[e] at h;rw[hN];show h _ k1 M1
     left;by_cases wF:0<=j
     .rw[aB wF];left;by_cases sf:j<=7
      .rw[aB sf];exists i6 M1.bZ rfl mI ?_;exists A5 (a6 rT) (yb hv) ?_;exists T6 (Aa (l:=fA (s.side x) v) rfl ?_);left;by_cases hq:j∈fA (s.side x) v
       .let e:d9 s x v j=(("Marked",.aO,s):Rs):=by unfold d9;rw[av hx,av hv,aw sh,av #[wF,sf],av hq]
        rw[e] at h;rw[aB hq];show oZ ?_;left;rw[hN];show h _ k1 M1
       .let e:d9 s x v j=(("",.aO,s.put x ((s.side x).set (v-1).toNat (markL (fA (s.side x) v) j))):Rs):=by unfold d9;rw[av hx,av hv,aw sh,av #[wF,sf],aw hq]
        rw[e] at h;rw[aN hq];show pZ ?_;exists KQ (b8 T _) ?_;exists#[8,rfl,by omega,λi ys σ g2=>∃z2 z3,ys=((qa.take i).filter λi=>decide (i=j\/i∈fA (s.side x) v)).map .int/\σ=[!(mk (fA (s.side x) v)),!.int j,z2,z3]/\g2=g1,#[none,none,rfl,rfl,rfl],λi ys σ g2 p=>?_,λi ys σ g2 hi p=>?_,λys σ g2 p=>?_]
        .let#[_,_,rfl,_]:=p;rw[aj];show aF (ff _ _) (by rw[cG];omega)
        .let#[z2,z3,rfl,rfl,rfl]:=p;show p7 ?_
         try show dM _ _ _ _ _ _
         let tk:qa.take (i+1)=qa.take i++[(i:Int)]:=by
          have:i=0\/i=1\/i=2\/i=3\/i=4\/i=5\/i=6\/i=7:=by omega
          rcases this with rfl|rfl|rfl|rfl|rfl|rfl|rfl|rfl<;>rfl
         left;by_cases jk:(i:Int)=j
         .rw[aB jk];exists#[_,_,?_,rfl,rfl];rw[tk,jU,ay,show List.filter (λi=>decide (i=j\/i∈fA (s.side x) v)) [(i:Int)]=[(i:Int)] by rw[dG,av (aB (Or.inl jk))];rfl]
          rfl
         .rw[aN jk];exists T6 (Aa (l:=fA (s.side x) v) rfl ?_);left;by_cases zk:(i:Int)∈fA (s.side x) v
          .rw[aB zk];exists#[_,_,?_,rfl,rfl];rw[tk,jU,ay,show List.filter (λi=>decide (i=j\/i∈fA (s.side x) v)) [(i:Int)]=[(i:Int)] by rw[dG,av (aB (Or.inr zk))];rfl]
           rfl
          .rw[aN zk];exists#[_,_,?_,rfl,rfl];rw[tk,jU,ay,show List.filter (λi=>decide (i=j\/i∈fA (s.side x) v)) [(i:Int)]=[] by rw[dG,aw (by rw[bj];show not_or.mpr #[jk,zk])];rfl];simp
        .let#[z2,z3,rfl,rfl,rfl]:=p;let e2:(qa.take 8).filter (λi=>decide (i=j\/i∈fA (s.side x) v))=markL (fA (s.side x) v) j:=rfl;rw[e2];let e3:Ex g2 (g2++[O.lst ((markL (fA (s.side x) v) j).map .int)]):=Ex.snoc _ _;show Fn (a6 b9) ?_;let M3:=M1.ex e3;let#[r',wu,BQ,BE,wm]:=M3.side hx;generalize g2++[O.lst ((markL (fA (s.side x) v) j).map .int)]=g3 at *;exists i6 M3.bZ rfl BQ ?_;exists U1 BE (by rw[aj];show Wz hv) ?_;let es:=Te (l:=s.side x) (v:=v) (w:=markL (fA (s.side x) v) j);rw[show D.tup ((markL (fA (s.side x) v) j).map .int)=mk (markL (fA (s.side x) v) j) from rfl,es];left;rw[hN];show h _ (k1.trans ((Kq.ex e3).trans (Kq.set (i:=r') ()))) (wm _)
      .rw[aN sf];left;show bad λz=>sf z.2
     .rw[aN wF];left;show bad λz=>wF z.1
    exists if2 (λqo=>?_) (λqo=>?_)
    .exists i6 M1.bZ rfl vW ?_;show T6 (u3 (l:=s.go.map D.int) (a6 M1.gone) G6 (.inr #[v,rfl]) ?_);left;cases e2:N3 s v with
     |true =>
      let e:d9 s x v j=(("Gone",.aO,s):Rs):=by unfold d9;rw[av hx,av hv,av #[qo,e2]]
      rw[e] at h;show fK e2 ?_;left;show h _ k1 M1
     |false =>
      show dw e2 ?_;show E3 ?_;show fin _ rfl (λz=>jO e2 z.2)
    .try show pZ ?_
     try with_reducible show E3 ?_
     show fin _ rfl (λz=>qo z.1)
   .rw[aN jh];left;show no λz=>jh z.2
  .rw[aN ji];left;show no λz=>ji z.1
 .refine fK (by rw[kL,jd,aM,aM];show not_or.mp hx) ?_;let e:d9 s x v j=(("BadSide",.aO,s):Rs):=by unfold d9;rw[aw hx]
  rw[e] at h;left;show h _ k1 M1
def aK9(hi:T 182=!Al)(M0:MD g q s)(W:WS s){a:Int}(h:uv q g (d8 s a b) Q):a8 T (k+1) 182 [.ref q,.int a,.int b] g Q E:=by
 show call_of hi rfl ?_;delta Al;let no:¬((1<=a/\a<=-s.lo)/\(1<=b/\b<=-s.up))->Q (.tup [.str "NoDie",.aO]) g:=λhv=>by
  let e:d8 s a b=(("NoDie",.aO,s):Rs):=by unfold d8;rw[aw hv]
  rw[e] at h;show h _ Kq.refl M0
 left;by_cases qv:1<=a
 .rw[aB qv];exists i6 M0.bZ rfl qk ?_;show n8 (a6 M0.lower) ?_;left;rw[aj];by_cases zr:a<=(-s.lo:Int)
  .rw[aB zr];left;by_cases zp:1<=b
   .rw[aB zp];exists i6 M0.bZ rfl vV ?_;show n8 (a6 M0.upper) ?_;left;rw[aj];by_cases pA:b<=(-s.up:Int)
    .rw[aB pA];let ha:1<=a/\a<=-s.lo:=#[qv,zr]
     let hb:1<=b/\b<=-s.up:=#[zp,pA]
     exists i6 M0.bZ rfl mG ?_;show U8 (u3 (l:=s.bl) (a6 M0.de) W.se (.inr #[a,rfl]) ?_);left;cases e1:A8 s a with
     |false =>
      let e:d8 s a b=(("NotFixed",.aO,s):Rs):=by unfold d8;rw[av #[ha,hb],aw (jO e1)]
      rw[e] at h;show fK (show(~~~A8 s a)=true by rw[e1];rfl) ?_;left;show h _ Kq.refl M0
     |true =>
      show dw (show(~~~A8 s a)=false by rw[e1];rfl) ?_;let cn:=W.cn;exists i6 M0.bZ rfl rO ?_;show n8 (a6 M0.df) ?_;exists if2 (λhl=>?_) (λhl=>?_)
      .let e:d8 s a b=(("Full",.aO,s):Rs):=by unfold d8;rw[av #[ha,hb],av e1,aw ()]
       rw[e] at h;left;show h _ Kq.refl M0
      .let e:d8 s a b=(("",.int (-s.co),{ s with co:=s.co++[R8 s a b] }):Rs):=by unfold d8;rw[av #[ha,hb],av e1,av ()]
       rw[e] at h;exists i6 M0.bZ rfl rO ?_;show#[F5 M0.df,?_];exists i6 M0.bZ rfl qk ?_;exists A5 (a6 M0.lower) (yb ha) ?_;exists i6 M0.bZ rfl vV ?_;exists A5 (a6 M0.upper) (yb hb) ?_;exists i6 M0.bZ rfl za ?_;exists U2 M0.df () ?_;let M1:=M0.setC (s.co++[R8 s a b]);let e3:s.co++[D.tup [.int a,mk (fA s.lo a),.int b,mk (fA s.up b),.int s.yr]]=s.co++[R8 s a b]:=rfl;rw[e3];exists i6 M1.bZ rfl rO ?_;show n8 (a6 M1.df) ?_;left;have:=h _ (Kq.set (i:=q+6) ()) M1;dsimp only;rw[show((s.co++[R8 s a b]).length:Int)-1=-s.co by rw[ba];simp];show this
    .rw[aN pA];left;show no λz=>pA z.2.2
   .rw[aN zp];left;show no λz=>zp z.2.1
  .rw[aN zr];left;show no λz=>zr z.1.2
 .rw[aN qv];left;show no λz=>qv z.1.1
end
def DB:aW:=#[2,3,(eI 2 (bV aI (bc 0)) (cV (cP .Eq bp (bt "cut")) (bT (dO 46 aC (bV aI (bc 1)))) (cV (cP .Eq bp (bt "fix")) (bT (dO 178 aC (bV aI (bc 1)))) (cV (cP .Eq bp (bt "off")) (bT (dO 179 aC (bV aI (bc 1)))) (cV (cP .Eq bp (bt "mark")) (bT (GD 181 aC (bV aI (bc 1)) (bV aI (bc 2)) (bV aI (bc 3)))) (cV (cP .Eq bp (bt "strike")) (bT (mD 182 aC (bV aI (bc 1)) (bV aI (bc 2)))) (cV (.gI (.cL (.eG (.chain .LtE .LtE (bc 1) (bV aI (bc 1)) (bc 9999)))) (cP .LtE (bV aI (bc 1)) (bV aC (bt "year")))) (bT (bB .tup (bt "BadYear") (.lit .aO))) (gL (.eJ aC (bt "year") (bV aI (bc 1))) (bT (bB .tup (bt "") (.lit .aO)))))))))))]
def Ae:aW:=#[2,3,(eI 2 (bV aI (bc 0)) (cV (cP .Eq bp (bt "cut")) (bT (.bg "cut" [("Mint",54)] aC (dR (bV aI (bc 1))))) (cV (cP .Eq bp (bt "fix")) (bT (.bg "fix" [("Mint",55)] aC (dR (bV aI (bc 1))))) (cV (cP .Eq bp (bt "off")) (bT (.bg "lay_off" [("Mint",56)] aC (dR (bV aI (bc 1))))) (cV (cP .Eq bp (bt "mark")) (bT (.bg "mark" [("Mint",57)] aC (Gn (bV aI (bc 1)) (bV aI (bc 2)) (bV aI (bc 3))))) (cV (cP .Eq bp (bt "strike")) (bT (.bg "strike" [("Mint",58)] aC (rg (bV aI (bc 1)) (bV aI (bc 2))))) (bT (.bg "begin_year" [("Mint",59)] aC (dR (bV aI (bc 1)))))))))))]
inductive Dd where
 |cut (x:Str)|fix (v:Int)|off (v:Int)|mark (x:Str) (v j:Int)|eU (a b:Int)|year (n:Int)
abbrev Dd.d:Dd->D
 |.cut x=>.tup [.str "cut",.str x]
 |.fix v=>.tup [.str "fix",.int v]
 |.off v=>.tup [.str "off",.int v]
 |.mark x v j=>.tup [.str "mark",.str x,.int v,.int j]
 |.eU a b=>.tup [.str "strike",.int a,.int b]
 |.year n=>.tup [.str "year",.int n]
abbrev Dd.ok:Dd->Prop
 |.cut x=>PyData.strOk x=true
 |.mark x _ _=>PyData.strOk x=true
 |_=>True
abbrev dt(s:bW):Dd->Rs
 |.cut x=>w6 s x
 |.fix v=>o9 s v
 |.off v=>y9 s v
 |.mark x v j=>d9 s x v j
 |.eU a b=>d8 s a b
 |.year n=>v5 s n
def AB(W:WS s):WS (dt s dd).2.2:=by
 cases dd
 .exact XQ W
 .exact XR W
 .exact XS W
 .exact bB4 W
 .exact VM W
 .exact bB3 W
def UB:(d9 s x v j).2.1=.aO:=by unfold d9;(repeat' split)<;>rfl
def VJ{n:Int}:(v5 s n).2.1=.aO:=by unfold v5;(repeat' split)<;>rfl
abbrev Ny:@&Str:=["NotFixed","BadSpot","Marked","BadYear","Full","BadSide","NoDie","Fixed","Gone","NoAnvil"]
def bA4:(dt s dd).1=""\/((dt s dd).1∈Ny/\(dt s dd).2=(D.aO,s)):=by
 cases dd<;>(simp only[dt];first|unfold w6|unfold o9|unfold y9|unfold d9|unfold d8|unfold v5)<;>(repeat' split)<;>first|show .inl rfl|show .inr #[by simp[Ny],rfl]
def zY:l6 (dt s dd).2.1:=by
 cases dd<;>(simp only[dt];first|unfold w6|unfold o9|unfold y9|unfold d9|unfold d8|unfold v5)<;>(repeat' split)<;>first|show .inl rfl|show .inr #[_,rfl]
structure TR(T:Nat->Option aW):Prop where
 tq:TQ T
 Cv:T 46=!AK
 CV:T 178=!AL
 CU:T 179=!AM
 CT:T 181=!uU
 CS:T 182=!Al
 CQ:T 183=!DB
section
variable{T:Nat->Option aW}{d:Nat}
def aU9{f:Nat}(hT:TQ T)(CP:T f=!Ae)(hm:g[m]?=!c5 s)(W:WS s)(ho:dd.ok)(h1:(dt s dd).1=""->∀g',Ex g g'->Q (dt s dd).2.1 (g'.set m (c5 (dt s dd).2.2)))(h2:(dt s dd).1≠""->E #[(dt s dd).1] g):a8 T (k+6) f [.ref m,dd.d] g Q E:=by
 show call_of CP rfl ?_;cases dd<;>dsimp[Ae,b7,List.replicate,Dd.d,dt] at h1 h2 ⊢
 .exists fK #[] ?_;exists c6 hm rfl rfl ?_;left;show bA6 (k:=k+2) hT hm W ho (λe=>h1 e g (Ex.refl _)) h2
 .exists dw #[] ?_;exists fK #[] ?_;exists c6 hm rfl rfl ?_;left;show bA1 (k:=k) hT hm W (λe=>h1 e g (Ex.refl _)) h2
 .exists dw #[] ?_;exists dw #[] ?_;exists fK #[] ?_;exists c6 hm rfl rfl ?_;left;show Sj (k:=k) hT hm W (λe=>h1 e g (Ex.refl _)) h2
 .exists dw #[] ?_;exists dw #[] ?_;exists dw #[] ?_;exists fK #[] ?_;exists c6 hm rfl rfl ?_;left;rw[UB] at h1;show UC (k:=k) hT hm W ho h1 h2
 .exists dw #[] ?_;exists dw #[] ?_;exists dw #[] ?_;exists dw #[] ?_;exists fK #[] ?_;exists c6 hm rfl rfl ?_;left;show aT5 (k:=k) hT hm W (λe=>h1 e g (Ex.refl _)) h2
 .exists dw #[] ?_;exists dw #[] ?_;exists dw #[] ?_;exists dw #[] ?_;exists dw #[] ?_;exists c6 hm rfl rfl ?_;left;rw[VJ] at h1;show VL (k:=k+2) hT hm (λe=>h1 e g (Ex.refl _)) h2
set_option tactic.hygienic true in
def Mf(hT:TR T)(M0:MD g q s)(W:WS s)(ho:dd.ok)(h:uv q g (dt s dd) Q):a8 T (k+2) 183 [.ref q,dd.d] g Q E:=by
 show call_of hT.CQ rfl ?_;cases dd<;>dsimp[DB,b7,List.replicate,Dd.d,dt] at h ⊢
 .exists fK #[] ?_;left;show UD (k:=k) hT.Cv M0 W ho h
 .exists dw #[] ?_;exists fK #[] ?_;left;show UE (k:=k) hT.CV M0 W h
 .exists dw #[] ?_;exists dw #[] ?_;exists fK #[] ?_;left;show UG (k:=k) hT.CU M0 W h
 .exists dw #[] ?_;exists dw #[] ?_;exists dw #[] ?_;exists fK #[] ?_;left;show a50 (k:=k) hT.CT M0 W ho h
 .exists dw #[] ?_;exists dw #[] ?_;exists dw #[] ?_;exists dw #[] ?_;exists fK #[] ?_;left;show aK9 (k:=k) hT.CS M0 W h
 .rename_i n;let no:¬(s.yr+1<=n/\n<=9999)->Q (.tup [.str "BadYear",.aO]) g:=λhv=>by
   let e:v5 s n=(("BadYear",.aO,s):Rs):=by unfold v5;rw[aw hv]
   rw[e] at h;show h _ Kq.refl M0
  let y0:=W.y0;exists dw #[] ?_;exists dw #[] ?_;exists dw #[] ?_;exists dw #[] ?_;exists dw #[] ?_;left;by_cases h1:1<=n
  .rw[aB h1];left;by_cases h2:n<=9999
   .rw[aB h2];exists i6 M0.bZ rfl za ?_;exists if2 (λc=>?_) (λc=>?_)
    .left;show no ()
    .let e:v5 s n=(("",.aO,{ s with yr:=n }):Rs):=by unfold v5;rw[av ()]
     rw[e] at h;exists IY M0.bZ rfl (by simp[iT]) ?_;let e2:(O.bZ (putD (iT q s.yr) (.inr "year") (.int n)))=.bZ (iT q n):=rfl;rw[e2];left;show h _ (Kq.set (i:=q) ()) (M0.b11 n)
   .rw[aN h2];left;show no ()
  .rw[aN h1];left;show no ()
def DU{b:Nat}{l:@&D}(ha:g[a]?=!.lst l)(hb:g[b]?=!.lst l)(h:∀x∈l,v8 g n x x)(hz:-l<=1000):v8 g (n+1) (.ref a) (.ref b):=by
 show .lst ha hb rfl (λi x y hx hy=>?_) hz;rw[hx] at hy;cases hy;show h x (aQ hx)
def KH(h:l6 y):v8 g n y y:=by
 rcases h with rfl|⟨i,rfl⟩
 .exact .aO
 .exact .int _
def DV{l:@&Int}(h:-l<=1000):v8 g (n+1) (mk l) (mk l):=by
 show .tup rfl (λi x y hx hy=>?_) (by rw[aj];show h);rw[hx] at hy;cases hy;let#[j,_,rfl]:=aP.mp (aQ hx);show .int _
def a62{c:D}(h:HL c):v8 g 2 c c:=by
 let#[a,l,b,m,y,rfl,h1,h2]:=h;show .tup rfl (λi x y hx hy=>?_) #[_];rw[hx] at hy;cases hy;have:=aQ hx;simp only[List.mem_cons,List.mem_nil_iff,or_false] at this;rcases this with rfl|rfl|rfl|rfl|rfl
 .exact .int _
 .exact DV ()
 .exact .int _
 .exact DV ()
 .exact .int _
def b58:K7 (List.replicate c (D.bl true))=!true:=by
 induction c with
 |zero=>rfl
 |succ c ih=>rw[dA,K7,ih];rfl
def KP(hT:TQ T)(h6:T 6=!sU)(h7:T 7=!C6)(zy:T 47=!Q8)(ui:T 67=!O8)(hm:g[m]?=!c5 s)(M0:MD g q s)(W:WS s)(h:∀g',Ex g g'->Q (.bl true) g'):a8 T (k+6) 47 [.ref m,.ref q] g Q E:=by
 let ln:=W.ln;let un:=W.un;let bn:=W.bn;let cn:=W.cn;show call_of zy rfl ?_;delta Q8;exists c6 hm rfl rfl ?_;exists Kt (k:=k+4) hT hm ?_;let e1:Ex g (g++[O.lst s.bl]):=Ex.snoc _ _;let hl:(g++[O.lst s.bl])[(-g)]?=!.lst s.bl:=b9;let M1:=M0.ex e1;let m1:=e1.at hm;generalize g++[O.lst s.bl]=g1 at *;exists i6 M1.bZ rfl mG ?_;exists l8 h6 h7 1 (k:=k+2) (DU hl M1.de (λy hy=>KH (W.se y hy)) ()) λg2 e2=>?_;let M2:=M1.ex e2;let m2:=e2.at m1;exists c6 m2 rfl rfl ?_;exists bB6 (k:=k+4) hT m2 ?_;exists i6 M2.bZ rfl za ?_;exists l8 h6 h7 0 (k:=k+3) (.int _) λg3 e3=>?_;let M3:=M2.ex e3;let m3:=e3.at m2;let x3:=e1.trans (e2.trans e3);left;let e4:Ex g3 (g3++[O.lst [.str "lower",.str "upper"]]):=Ex.snoc _ _;let Ha:(g3++[O.lst [.str "lower",.str "upper"]])[(-g3)]?=!.lst [.str "lower",.str "upper"]:=b9;show T9 (b8 T _) (tR (b8 T _) ?_);left;let M4:=M3.ex e4;let m4:=e4.at m3;generalize g3++[O.lst [.str "lower",.str "upper"]]=g4 at *;let x4:=x3.trans e4;show#[(-g3),_,rfl,a6 Ha,[.str "lower",.str "upper"],λi σ g'=>Ex g4 g'/\∃z2 z3 z4,σ=[!.ref m,!.ref q,z2,z3,z4],λi σ g' p=>uS (a6 (p.1.at Ha)),#[Ex.refl _,none,none,none,rfl],λi y σ g' hy p=>?_,λσ g' p=>?_]
 .let#[e5,z2,z3,z4,rfl]:=p;let M5:=M4.ex e5;let m5:=e5.at m4;obtain⟨x,rfl,ho,hx⟩:∃x:Str,y=.str x/\PyData.strOk x=true/\u4 x:=by
   match i,hy with
   |0,hy=>cases hy;show#["lower",rfl,by decide +kernel,.inl rfl]
   |1,hy=>cases hy;show#["upper",rfl,by decide +kernel,.inr rfl]
   |i+2,hy=>simp at hy
  let#[r,_,mI,hr,_]:=M5.side hx;let sl:=Ap (x:=x) W;show p7 ?_
  try show wpS _ _ _ _ _ _
  exists c6 m5 rfl rfl ?_;exists Uj (k:=k+2) hT m5 ho (λw=>?_) (λz=>absurd hx z);exists i6 M5.bZ rfl mI ?_;show n8 (a6 hr) ?_;left;rw[aj];show l8 h6 h7 0 (k:=k+3) (.int _) λg6 e6=>?_;let M6:=M5.ex e6;let m6:=e6.at m5;let r6:=e6.at hr;exists KQ (b8 T _) ?_;exists i6 M6.bZ rfl mI ?_;show n8 (a6 r6) ?_;show#[(s.side x).length,by rw[aj],by omega,λi ys σ g7=>∃z3 z4,ys=List.replicate i (.bl true)/\σ=[!.ref q,!.ref m,!.str x,z3,z4]/\Ex g6 g7,#[none,none,rfl,rfl,Ex.refl _],λi ys σ g7 p=>?_,λi ys σ g7 hi p=>?_,λys σ g7 p=>?_]
  .let#[_,_,rfl,_]:=p;simp
  .let#[z3,z4,rfl,rfl,e7]:=p;let M7:=M6.ex e7;let m7:=e7.at m6;let hv:1<=(i:Int)+1/\(i:Int)+1<=(s.side x).length:=#[by omega,by omega]
   let yY:=Eb W hx hv;show p7 ?_
   try show dM _ _ _ _ _ _
   exists c6 m7 rfl rfl ?_;exists Y1 (k:=k+1) hT m7 ho (λw w=>?_) (λw z=>absurd hv z) (λz=>absurd hx z);exists i6 M7.bZ rfl mI ?_;left;let ea:=yb hv;rw[show(i:Int)+1-1=i by omega] at ea;show A5 (a6 (e7.at r6)) ea ?_;exists l8 h6 h7 1 (k:=k+2) (DV (by have:=yY.2;omega)) λg8 e8=>?_;show#[_,_,by rw[jb],rfl,e7.trans e8]
  .let#[z3,z4,rfl,rfl,e7]:=p;show EV (a6 b9) b58 ?_;left;show#[e5.trans (e6.trans (e7.trans (Ex.snoc _ _))),_,_,_,rfl]
 .let#[e5,z2,z3,z4,rfl]:=p;let M5:=M4.ex e5;let m5:=e5.at m4;let x5:=x4.trans e5
  try show wpS _ _ _ _ _ _
  exists T9 (b8 T _) (DA (b8 T _) ?_);exists i6 M5.bZ rfl qk ?_;show n8 (a6 M5.lower) ?_;left;rw[aj];show#[1,(-s.lo:Int)+1,rfl,rfl,by omega,l0 1 (-s.lo),λi σ g6=>Ex g' g6/\∃z2 z3 z4,σ=[!.ref m,!.ref q,z2,z3,z4],λi σ g6 p=>?_,#[Ex.refl _,_,_,_,rfl],λi y σ g6 hy p=>?_,λσ g6 p=>?_]
  .rw[show((-s.lo:Int)+1-1).toNat=-s.lo by omega];show G0
  .let#[e6,z2,z3,z4,rfl]:=p;let M6:=M5.ex e6;let m6:=e6.at m5;let#[hi,rfl]:=E5 hy;let hv:1<=1+(i:Int)/\1+(i:Int)<=-s.lo:=#[by omega,by omega]
   show p7 ?_
   try show wpS _ _ _ _ _ _
   exists i6 M6.bZ rfl vW ?_;show T6 (u3 (l:=s.go.map D.int) (a6 M6.gone) G6 (.inr #[_,rfl]) ?_);left;cases e2:N3 s (1+(i:Int)) with
   |true =>
    show fK e2 ?_;exists c6 m6 rfl rfl ?_;exists S2 (k:=k+1) hT m6 W (λz=>absurd hv z) (λw e1=>by rw[W.dj _ e1] at e2;cases e2) (λw w w=>?_) (λw w e=>by rw[e2] at e;cases e);exists l8 h6 h7 0 (k:=k+3) (.str _) λg7 e7=>?_;left;show#[e6.trans e7,_,_,_,rfl]
   |false =>
    show dw e2 ?_;exists i6 M6.bZ rfl mG ?_;show T6 (u3 (l:=s.bl) (a6 M6.de) W.se (.inr #[_,rfl]) ?_);left;cases e1:A8 s (1+(i:Int)) with
    |true =>
     show fK e1 ?_;exists c6 m6 rfl rfl ?_;exists S2 (k:=k+1) hT m6 W (λz=>absurd hv z) (λw w=>?_) (λw e w=>by rw[e1] at e;cases e) (λw e w=>by rw[e1] at e;cases e);exists l8 h6 h7 0 (k:=k+3) (.str _) λg7 e7=>?_;left;show#[e6.trans e7,_,_,_,rfl]
    |false =>
     show dw e1 ?_;exists c6 m6 rfl rfl ?_;exists S2 (k:=k+1) hT m6 W (λz=>absurd hv z) (λw e=>by rw[e1] at e;cases e) (λw w e=>by rw[e2] at e;cases e) (λw w w=>?_);exists l8 h6 h7 0 (k:=k+3) (.str _) λg7 e7=>?_;left;show#[e6.trans e7,_,_,_,rfl]
  .let#[e6,z2,z3,z4,rfl]:=p;let M6:=M5.ex e6;let m6:=e6.at m5
   try show wpS _ _ _ _ _ _
   exists c6 m6 rfl rfl ?_;exists aT4 (k:=k+4) hT m6 ?_;exists i6 M6.bZ rfl rO ?_;show n8 (a6 M6.df) ?_;exists l8 h6 h7 0 (k:=k+3) (.int _) λg7 e7=>?_;let M7:=M6.ex e7;let m7:=e7.at m6;exists c6 m7 rfl rfl ?_;exists i6 M7.bZ rfl rO ?_;show n8 (a6 M7.df) ?_;show Pw () () ?_;left;rw[show Int.toNat ((-s.co:Nat):Int)=-s.co by omega];let e8:Ex g7 (g7++[O.lst (l0 0 (-s.co))]):=Ex.snoc _ _;let hz:(g7++[O.lst (l0 0 (-s.co))])[(-g7)]?=!(.lst (l0 0 (-s.co))):=b9;let M8:=M7.ex e8;let m8:=e8.at m7;show a76 (k:=k+1) hT ui m8 hz () ?_;generalize g7++[O.lst (l0 0 (-s.co))]=g8 at *;let e9:Ex g8 (g8++[O.lst s.co]):=Ex.snoc _ _;exists i6 (M8.ex e9).bZ rfl rO ?_;exists l8 h6 h7 3 (k:=k) (DU b9 (M8.ex e9).df (λy hy=>a62 (W.cs y hy)) ()) λHD RB=>?_;show h _ (x5.trans (e6.trans (e7.trans (e8.trans (e9.trans RB)))))
end
def EC:aW:=#[2,2,(cV (.gI (cP .Eq (bH .len aI) (bc 0)) (cP .Eq (dO 4 aC (bc 10)) (bc 4))) (bT (dO 36 aC (bB (.bin .Add) (bc 3) (bH .len aI)))) (bT (bV aI (dO 4 aC (bH .len aI)))))]
def R6:aW:=#[2,9,(eI 2 (dO 4 aC (bc 20)) (eI 3 (.comp [] 2 (.one 1) (.jg (bV aI (bt "seats"))) (cP .IsNot aI (.lit .aO)) aI) (eI 4 (.comp [3] 3 (.one 2) (.iC (bc 1) (bB (.bin .Add) (bH .len (bV aI (bt "lower"))) (bc 1))) (cP .NotIn bp aC) bp) (eI 5 (bB .jZ (bc 1) (bB (.bin .Add) (bH .len (bV aI (bt "upper"))) (bc 1))) (cV (.gI (cP .Lt bp (bc 2)) (.eO (cP .Eq (bH .len ic) (bc 0)) (cP .Lt bp (bc 6)))) (bT (bB .tup (bt "cut") (.ite (cP .Eq (bH .len ic) (bc 0)) (bt "upper") (jG 29 aC)))) (cV (.gI (cP .Lt bp (bc 5)) (cP .Eq (bH .len dc) (bc 0))) (cV (.gI (cP .Eq (bH .len eX) (bc 0)) (cP .Eq (dO 4 aC (bc 4)) (bc 0))) (bT (bB .tup (bt "cut") (bt "lower"))) (bT (bB .tup (bt "fix") (dO 37 aC (bB (.bin .Add) eX (bB (.bin .Mult) dc (bH .int (bB (.cmp .Eq) (dO 4 aC (bc 5)) (bc 0))))))))) (cV (cP .Lt bp (bc 6)) (bT (bB .tup (bt "off") (dO 37 aC dc))) (cV (cP .Lt bp (bc 10)) (eI 6 (jG 29 aC) (bT (.prim .tup (Be (bt "mark") lT (dO 37 aC (.ite (cP .Eq lT (bt "lower")) dc ic)) (bB (.bin .Sub) (dO 4 aC (bc 10)) (bc 1)))))) (cV (cP .Lt bp (bc 18)) (bT (.prim .tup (Gn (bt "strike") (dO 37 aC dc) (dO 37 aC ic)))) (eI 7 (bV aI (bt "year")) (eI 8 (.prim .lst (.cons (bB (.bin .Add) lS (bc 1)) (.cons (bB (.bin .Add) lS (bc 7)) (.cons (bB (.bin .Add) lS (bc 1)) (Gm lS (bB (.bin .Sub) lS (bc 3)) (bc 1350) (bc 1412) (bc 9999) (bc 10000) (jG 5 aC)))))) (bT (bB .tup (bt "year") (bV vT (dO 4 aC (bc 10))))))))))))))))]
def Vg{a:Int}:∃ns:@&Int,l0 a n=ns.map .int/\-ns=n:=#[(List.range n).map λk:Nat=>a+k,by unfold l0;rw[kH];rfl,by simp]
structure TV(T:Nat->Option aW):Prop where
 h4:T 4=!Q7
 h5:T 5=!sT
 zB:T 29=!AQ
 zz:T 36=!AN
 Rk:T 37=!EC
 CO:T 188=!R6
section
variable{T:Nat->Option aW}{d:Nat}
def Nc(h4:T 4=!Q7)(h5:T 5=!sT)(zz:T 36=!AN)(hj:0<=j/\j<=1000)(D0:i8 g d)(h:∀(v:Int) g',i8 g' d->Gr d g g'->Q (.int v) g'):a8 T (k+3) 36 [.ref d,.int j] g Q E:=by
 show call_of zz rfl ?_;delta AN;exists k7 h4 D0 ∅ ∅ λr g1 x x D1 G1=>?_;exists if2 (λx=>?_) (λx=>?_)
 .left;show NA h4 h5 D1 λf g2 D2 G2=>h _ _ D2 (G1.trans G2)
 .exists k7 h4 D1 () () λr g2 x x D2 G2=>?_;left;show h _ _ D2 (G1.trans G2)
def O6(hT:TV T){ns:@&Int}(hi:g[i]?=!.lst (ns.map .int))(hd:d<i)(hz:-ns<=900)(D0:i8 g d)(h:∀(v:Int) g',i8 g' d->Gr d g g'->Q (.int v) g'):a8 T (k+4) 37 [.ref d,.ref i] g Q E:=by
 show call_of hT.Rk rfl ?_;delta EC;left;rw[aj];show if2 (λc=>?_) (λc=>?_)
 .exists Nc (k:=k) hT.h4 hT.h5 hT.zz (by rw[aj];omega) D0 λv g2 D2 G2=>?_;show h v g2 D2 G2
 .exists k7 hT.h4 D0 ∅ ∅ λr g1 x x D1 G1=>?_;let Qs:=G1.at () hi;exists if2 (λx=>?_) (λx=>?_)
  .exists Nc (k:=k) hT.h4 hT.h5 hT.zz (by rw[aj];omega) D1 λv g2 D2 G2=>?_;show h v g2 D2 (G1.trans G2)
  .left;rw[aj];show k7 hT.h4 D1 () () λr2 g2 r0 r1 D2 G2=>?_;let#[y,hy,hm]:=Ai (l:=ns.map D.int) r0 (by rw[aj];show r1);let#[v,_,rfl]:=aP.mp hm;show A5 (a6 (G2.at () Qs)) hy ?_;left;show h v g2 D2 (G1.trans G2)
noncomputable abbrev NM:MS:=match R6.body with|.seq _ (.seq _ (.seq _ (.seq _ (.seq (.ifs _ a _) _))))=>a|x=>x
noncomputable abbrev X0:MS:=match R6.body with|.seq _ (.seq _ (.seq _ (.seq _ (.seq _ b))))=>b|x=>x
noncomputable abbrev NN:MS:=match X0 with|.seq _ c=>c|x=>x
noncomputable abbrev zN:MS:=match X0 with|.seq (.ifs _ i _) _=>i|x=>x
noncomputable abbrev NO:MS:=match zN with|.seq _ j=>j|x=>x
structure DC(g:G)(d q o p u:Nat)(s:bW)(on gK ups:@&Int):Prop where
 dr:i8 g d
 md:MD g q s
 ho:g[o]?=!.lst (on.map .int)
 hp:g[p]?=!.lst (gK.map .int)
 hu:g[u]?=!.lst (ups.map .int)
 dq:d<q
 lo:d<o
 lp:d<p
 lu:d<u
 n1:-on<=9
 n2:-gK<=99
 n3:-ups<=99
def DC.gr{g':G}{o p u:Nat}{on gK ups:@&Int}(h:DC g d q o p u s on gK ups)(x:Gr d g g')(D:i8 g' d):DC g' d q o p u s on gK ups:=by
 let h1:=h.lo;let h2:=h.lp;let h3:=h.lu;show#[D,h.md.gr x h.dq,x.at () h.ho,x.at () h.hp,x.at () h.hu,h.dq,h1,h2,h3,h.n1,h.n2,h.n3]
def Ir(hT:TV T){o:Nat}(C:DC g d q o p u s on gK ups)(hN:N.rt=Q)(h:∀(dd:Dd) g',dd.ok->i8 g' d->Gr d g g'->Q dd.d g') :
  wpS (a8 T (k+4)) NM N [!.ref d,!.ref q,!.int r,!.ref o,!.ref p,!.ref u,none,none,none] g E:=by
 dsimp[NM,R6];exists n8 (a6 C.hu) ?_;exists if2 (λc=>?_) (λc=>?_)
 .left;rw[hN];show h (.cut "upper") _ (by change PyData.strOk _=true;decide +kernel) C.dr (Gr.refl _ _)
 .exists Mz (k:=k+2) hT.h4 hT.zB C.dr λx g1 ho D1 G1=>?_;left;rw[hN];show h (.cut x) _ ho D1 G1
def Wg(hT:TV T){o:Nat}(C:DC g d q o p u s on gK ups)(hN:N.rt=Q)(h:∀(dd:Dd) g',dd.ok->i8 g' d->Gr d g g'->Q dd.d g') :
  wpS (a8 T (k+4)) NO N [!.ref d,!.ref q,!.int r,!.ref o,!.ref p,!.ref u,none,none,none] g E:=by
 let n1:=C.n1;let n2:=C.n2;dsimp[NO,zN,X0,R6];exists k7 hT.h4 C.dr ∅ ∅ λr1 g1 x x D1 G1=>?_;let C1:=C.gr G1 D1;left;obtain⟨w,hw,GY⟩:∃w:Int,(if decide (r1=0)=true then(1:Int) else 0)=w/\(w=0\/w=1):=by
  show#[_,rfl,?_];split
  .exact .inr rfl
  .exact .inl rfl
 rw[hw];obtain⟨ns,en,hnl⟩:∃ns:@&Int,(List.replicate w.toNat (on.map D.int)).flatten=ns.map .int/\-ns<=9:=by
  rcases GY with rfl|rfl
  .exact#[[],rfl,by simp]
  .exact#[on,by show(List.replicate 1 _).flatten=_;simp,n1]
 show HX C1.ho () () (by rw[aj];rcases GY with rfl|rfl<;>(simp;try omega)) ?_;rw[en];let e2:Ex g1 (g1++[O.lst (ns.map .int)]):=Ex.snoc _ _;let D2:=D1.snoc (O.lst (ns.map .int));let C2:=C1.gr (e2.gr d) D2;show HW C2.hp b9 (by simp;omega) ?_;let l2:d<(g1++[O.lst (ns.map .int)]).length:=D2.lt;let x2:=G1.trans (e2.gr d);generalize g1++[O.lst (ns.map .int)]=g2 at *;let D3:=D2.snoc (O.lst (gK.map .int++ns.map .int));let e3:Ex g2 (g2++[O.lst (gK.map .int++ns.map .int)]):=Ex.snoc _ _;let h3:(g2++[O.lst (gK.map .int++ns.map .int)])[(-g2)]?=!(.lst ((gK++ns).map .int)):=by rw[ay];show b9
 generalize g2++[O.lst (gK.map .int++ns.map .int)]=g3 at *;exists O6 (k:=k) hT h3 l2 (by simp;omega) D3 λv g4 D4 G4=>?_;left;rw[hN];show h (.fix v) _ trivial D4 (x2.trans ((e3.gr d).trans G4))
def Iv(hT:TV T){o:Nat}(C:DC g d q o p u s on gK ups)(hN:N.rt=Q)(h:∀(dd:Dd) g',dd.ok->i8 g' d->Gr d g g'->Q dd.d g') :
  wpS (a8 T (k+4)) zN N [!.ref d,!.ref q,!.int r,!.ref o,!.ref p,!.ref u,none,none,none] g E:=by
 let lw:∀g',i8 g' d->Gr d g g'->Q (.tup [.str "cut",.str "lower"]) g':=λg' D G=>h (.cut "lower") g' (by change PyData.strOk _=true;decide +kernel) D G;dsimp[zN,X0,R6];exists n8 (a6 C.hp) ?_;exists if2 (λc=>?_) (λc=>?_)
 .left;rw[hN];show lw _ C.dr (Gr.refl _ _)
 .exists k7 hT.h4 C.dr ∅ ∅ λr1 g1 x x D1 G1=>?_;exists if2 (λc=>?_) (λc=>?_)
  .left;rw[hN];show lw _ D1 G1
  .try with_reducible show E3 ?_
   show Wg hT (C.gr G1 D1) hN λdd g' ok D G=>h dd g' ok D (G1.trans G)
def Wf(hT:TV T){o:Nat}(C:DC g d q o p u s on gK ups)(hN:N.rt=Q)(h:∀(dd:Dd) g',dd.ok->i8 g' d->Gr d g g'->Q dd.d g') :
  wpS (a8 T (k+4)) NN N [!.ref d,!.ref q,!.int r,!.ref o,!.ref p,!.ref u,none,none,none] g E:=by
 let n1:=C.n1;let n3:=C.n3;dsimp[NN,X0,R6];exists if2 (λc=>?_) (λc=>?_)
 .exists O6 (k:=k) hT C.ho C.lo () C.dr λv g1 D1 G1=>?_;left;rw[hN];show h (.off v) _ trivial D1 G1
 .exists if2 (λc=>?_) (λc=>?_)
  .exists Mz (k:=k+2) hT.h4 hT.zB C.dr λx g1 ho D1 G1=>?_;let C1:=C.gr G1 D1;let fin:∀(i:Nat) (ns:@&Int) (Q':KD) (E':KX),g1[i]?=!.lst (ns.map .int)->d<i->-ns<=99->(∀v g2,i8 g2 d->Gr d g g2->Q' (.int v) g2)->a8 T (k+4) 37 [.ref d,.ref i] g1 Q' E':=λi ns Q' E' hi hd hz q=>O6 (k:=k) hT hi hd () D1 λv g2 D2 G2=>q v g2 D2 (G1.trans G2);exists if2 (λc=>?_) (λc=>?_)
   .exists fin _ _ _ _ C1.ho C1.lo () λv g2 D2 G2=>?_;exists k7 hT.h4 D2 ∅ ∅ λr3 g3 z z D3 G3=>?_;left;rw[hN];show h (.mark x v (r3-1)) _ ho D3 (G2.trans G3)
   .exists fin _ _ _ _ C1.hu C1.lu () λv g2 D2 G2=>?_;exists k7 hT.h4 D2 ∅ ∅ λr3 g3 z z D3 G3=>?_;left;rw[hN];show h (.mark x v (r3-1)) _ ho D3 (G2.trans G3)
  .exists if2 (λc=>?_) (λc=>?_)
   .exists O6 (k:=k) hT C.ho C.lo () C.dr λv g1 D1 G1=>?_;let C1:=C.gr G1 D1;exists O6 (k:=k) hT C1.hu C1.lu () D1 λw g2 D2 G2=>?_;left;rw[hN];show h (.eU v w) _ trivial D2 (G1.trans G2)
   .exists i6 C.md.bZ rfl za ?_;exists NA hT.h4 hT.h5 C.dr λf g1 D1 G1=>?_;left;let e2:∀l:@&Int,Ex g1 (g1++[O.lst (l.map .int)]):=λl=>Ex.snoc _ _;obtain⟨l,el,hl⟩:∃l:@&Int,[D.int (s.yr+1),.int (s.yr+7),.int (s.yr+1),.int s.yr,.int (s.yr-3),.int 1350,.int 1412,.int 9999,.int 10000,.int f]=l.map .int/\-l=10:=#[[s.yr+1,s.yr+7,s.yr+1,s.yr,s.yr-3,1350,1412,9999,10000,f],rfl,rfl]
    rw[el];show k7 hT.h4 (D1.snoc _) ∅ ∅ λr3 g3 Pa OZ D3 G3=>?_;let h3:=G3.at (i:=-g1) (by have:=D1.lt;omega) (o:=.lst (l.map .int)) b9;let#[y,hy,hm]:=Ai (l:=l.map D.int) Pa (by rw[aj,hl];show OZ);let#[n,_,rfl]:=aP.mp hm;show A5 (a6 h3) hy ?_;left;rw[hN];show h (.year n) _ trivial D3 ((G1.trans (Gr.snoc _ _ _)).trans G3)
def Iu(hT:TV T){o:Nat}(C:DC g d q o p u s on gK ups)(hN:N.rt=Q)(h:∀(dd:Dd) g',dd.ok->i8 g' d->Gr d g g'->Q dd.d g') :
  wpS (a8 T (k+4)) X0 N [!.ref d,!.ref q,!.int r,!.ref o,!.ref p,!.ref u,none,none,none] g E:=by
 dsimp[X0,R6];exists if2 (λc=>?_) (λc=>?_)
 .try show oZ ?_
  show Iv hT C hN h
 .exists n8 (a6 C.ho) ?_;exists if2 (λc=>?_) (λc=>?_)
  .exact Iv hT C hN h
  .try with_reducible show E3 ?_
   show Wf hT C hN h
def LK(hT:TV T)(M0:MD g q s)(W:WS s)(D0:i8 g d)(Ho:d<q)(h:∀(dd:Dd) g',dd.ok->i8 g' d->Gr d g g'->Q dd.d g'):a8 T (k+5) 188 [.ref d,.ref q] g Q E:=by
 let ln:=W.ln;let un:=W.un;let bn:=W.bn;show call_of hT.CO rfl ?_;delta R6;exists k7 hT.h4 D0 ∅ ∅ λr g1 r0 r1 D1 G1=>?_;let M1:=M0.gr G1 Ho;exists S0 (b8 T _) (tR (b8 T _) ?_);exists i6 M1.bZ rfl mG ?_;show#[q+2,_,rfl,a6 M1.de,s.bl,λi ys σ g'=>∃ns:@&Int,ys=ns.map .int/\-ns<=i/\g'=g1/\∃z0 z1,σ=[z0,z1],by omega,λi ys σ g' p=>?_,#[[],rfl,by simp,rfl,none,none,rfl],λi y ys σ g' hy p=>?_,λys σ g' p=>?_]
 .let#[ns,rfl,h1,rfl,_]:=p;show#[uS (a6 M1.de),by rw[aj];show h1]
 .let#[ns,rfl,h1,rfl,z0,z1,rfl]:=p;show p7 ?_
  try show dM _ _ _ _ _ _
  rcases W.se y (aQ hy) with rfl|⟨v,rfl⟩
  .left;show#[ns,rfl,by omega,rfl,_,_,rfl]
  .left;show#[ns++[v],by rw[ay];rfl,by rw[ba];simp;omega,rfl,_,_,rfl]
 let#[on,rfl,tW,rfl,_]:=p;let G2:=G1.trans (Gr.snoc d g' (O.lst (on.map .int)));let D2:=D1.snoc (O.lst (on.map .int));let M2:=M1.ex (Ex.snoc _ (O.lst (on.map .int)));let a2:(g'++[O.lst (on.map .int)])[(-g')]?=!.lst (on.map .int):=b9;let l2:d< -g':=D1.lt;generalize (-g')=o at *;generalize g'++[O.lst (on.map .int)]=g2 at *;clear M1 D1 G1;exists S0 (b8 T _) (DA (b8 T _) ?_);exists i6 M2.bZ rfl qk ?_;show n8 (a6 M2.lower) ?_;left;rw[aj];show#[1,(-s.lo:Int)+1,rfl,rfl,by omega,l0 1 (-s.lo),λi ys σ g3=>∃ns:@&Int,ys=ns.map .int/\-ns<=i/\g3=g2/\∃z1 z2,σ=[!.ref o,z1,z2],by rw[C8];omega,λi ys σ g3 p=>?_,#[[],rfl,by simp,rfl,none,none,rfl],λi y ys σ g3 hy p=>?_,λys σ g3 p=>?_]
 .let#[ns,rfl,h1,rfl,_]:=p;rw[show((-s.lo:Int)+1-1).toNat=-s.lo by omega];show#[G0,by rw[aj];show h1]
 .let#[ns,rfl,h1,rfl,z1,z2,rfl]:=p;let#[hi,rfl]:=E5 hy;show p7 ?_
  try show dM _ _ _ _ _ _
  exists U8 (Aa (l:=on) (a6 a2) ?_);left;by_cases hm:(1+(i:Int))∈on
  .rw[aB hm];show pZ ?_;show#[ns,rfl,by omega,rfl,_,_,rfl]
  .rw[aN hm];show oZ ?_;left;show#[ns++[1+(i:Int)],by rw[ay];rfl,by rw[ba];simp;omega,rfl,_,_,rfl]
 let#[gK,rfl,BX,rfl,_]:=p;rw[C8] at BX;let G3:=G2.trans (Gr.snoc d g3 (O.lst (gK.map .int)));let D3:=D2.snoc (O.lst (gK.map .int));let M3:=M2.ex (Ex.snoc _ (O.lst (gK.map .int)));let a3:(g3++[O.lst (gK.map .int)])[o]?=!.lst (on.map .int):=(Ex.snoc _ _).at a2;let b3:(g3++[O.lst (gK.map .int)])[(-g3)]?=!.lst (gK.map .int):=b9;let l3:d< -g3:=D2.lt;generalize (-g3)=p at *;generalize g3++[O.lst (gK.map .int)]=g4 at *;clear M2 D2 G2 a2;exists i6 M3.bZ rfl vV ?_;show n8 (a6 M3.upper) ?_;left;rw[aj];show Pu () ?_;rw[show((-s.up:Int)+1-1).toNat=-s.up by omega];let#[ups,eu,zd]:=Vg (a:=1) (n:=-s.up);rw[eu];let G4:=G3.trans (Gr.snoc d g4 (O.lst (ups.map .int)));let D4:=D3.snoc (O.lst (ups.map .int));let M4:=M3.ex (Ex.snoc _ (O.lst (ups.map .int)));let a4:(g4++[O.lst (ups.map .int)])[o]?=!.lst (on.map .int):=(Ex.snoc _ _).at a3;let b4:(g4++[O.lst (ups.map .int)])[p]?=!.lst (gK.map .int):=(Ex.snoc _ _).at b3;let c4:(g4++[O.lst (ups.map .int)])[(-g4)]?=!.lst (ups.map .int):=b9;let l4:d< -g4:=D3.lt;generalize (-g4)=u at *;generalize g4++[O.lst (ups.map .int)]=g5 at *;clear M3 D3 G3 a3 b3;let C:DC g5 d q o p u s on gK ups:=#[D4,M4,a4,b4,c4,Ho,l2,l3,l4,by omega,by omega,by omega]
 let h':∀(dd:Dd) g',dd.ok->i8 g' d->Gr d g5 g'->Q dd.d g':=λdd g' ok D G=>h dd g' ok D (G4.trans G);exists if2 (λc=>?_) (λc=>?_)
 .try show oZ ?_
  show Ir hT C rfl h'
 .exists if2 (λc=>?_) (λc=>?_)
  .exists if2 (λc=>?_) (λc=>?_)
   .exact Ir hT C rfl h'
   .try with_reducible show E3 ?_
    show Iu hT C rfl h'
  .try show pZ ?_
   try with_reducible show E3 ?_
   show Iu hT C rfl h'
end
def s0(n:Nat):bW:=#[List.replicate n .aO,[],[],[],0,[]]
def Au(h:n<=9):WS (s0 n):=by
 show#[λz hz=>.inl (qS hz),λi j v hi=>?_,λv x=>rfl,by unfold s0;simpa using h,by unfold s0;simp,λv hv=>?_,by unfold s0;simp,by unfold s0;simp,λl hl=>?_,λl hl=>?_,Int.le_refl 0,by unfold s0;simp,λc hc=>?_]
 .have:=qS (aQ hi);cases this
 .unfold s0 at hv;simp at hv
 .unfold s0 at hl;simp at hl
 .unfold s0 at hl;simp at hl
 .unfold s0 at hc;simp at hc
section
variable{T:Nat->Option aW}
def pW{g l:@&O}:(g++l)[(-g)+i]?=l[i]?:=by rw[cT ()];congr 1;omega
def a49(Cw:T 45=!zO)(hn:n<=9)(h:∀g',Ex g g'->MD g' (-g) (s0 n)->Q (.ref (-g)) g'):a8 T (k+1) 45 [.int n] g Q E:=by
 show call_of Cw rfl ?_;delta zO;exists XN ?_;exists HX b9 () () (by simp;omega) ?_;left;rw[show(List.replicate (Int.toNat (n:Int)) [D.aO]).flatten=List.replicate n .aO by rw[cq,kK]];simp only[List.append_assoc,List.cons_append,List.nil_append,List.length_append,List.length_cons,List.length_nil,Nat.zero_add,Nat.add_assoc,Nat.reduceAdd];let eg:∀(o:O) (r:@&O),List.set (g++(O.bZ []::r)) (-g) o=g++(o::r):=λo r=>by
  rw[List.set_append_right _ _ (ak _),Nat.sub_self]
  rfl
 show#[iT (-g) 0,rfl,by simp,by simp,?_];rw[eg];show h _ #[by simp,λi hi=>aA hi] #[by simp[s0],pW,pW,pW,pW,pW]
def Sa(hT:TM T)(hn:1<=n/\n<=9)(h:Q .aO (g++[c5 (s0 n)])):a8 T (k+4) 51 [.ref (-g),.int n] (g++[.ins "Mint" []]) Q E:=by
 show LU (k:=k) hT b9 (λn' e1 n1 n9=>?_) (λhv=>absurd #[by omega,by omega] hv);obtain rfl:n=n':=by omega
 let es:(g++[O.ins "Mint" []]).set (-g) (Fg n 0 0)=g++[c5 (s0 n)]:=by simp[s0,c5,Fh]
 rw[es];show h
end
def uT:aW:=#[1,3,(eI 1 (bH .kq aC) (qw (.one 2) (.jg (.prim .lst (Bc (bt "seats") (bt "lower") (bt "upper") (bt "gone") (bt "coins")))) (eK (.eJ aI bp (bH .list (bV aC bp)))) (bT aI)))]
def Am:aW:=#[2,2,(bT (.eO (bB (.cmp .Eq) (bB (.cmp .Eq) (bV aC (bc 0)) (bt "")) (bB (.cmp .Eq) (bV aI (bc 0)) (bt ""))) (dO 7 (bV aC (bc 1)) (bV aI (bc 1)))))]
def Y2:aW:=#[1,2,(eI 1 (.make "Mint" 51 (dR (bH .len (bH (.fld "bench") aC)))) (gL (.dS "bench" ["Mint"] aI (bH (.fld "bench") aC)) (gL (.dS "laid_off" ["Mint"] aI (bH (.fld "laid_off") aC)) (gL (.dS "lower_wear" ["Mint"] aI (bH (.fld "lower_wear") aC)) (gL (.dS "upper_wear" ["Mint"] aI (bH (.fld "upper_wear") aC)) (gL (.dS "present" ["Mint"] aI (bH (.fld "present") aC)) (gL (.dS "output" ["Mint"] aI (bH (.fld "output") aC)) (bT aI))))))))]
section
variable{T:Nat->Option aW}
def Iw:(dt s dd).2.2.bl.length=-s.bl:=by
 cases dd<;>(simp only[dt];first|unfold w6|unfold o9|unfold y9|unfold d9|unfold d8|unfold v5)<;>(repeat' split)<;>first|rfl|(simp;done)|(unfold bW.put;split<;>rfl)
def Tw(hT:TQ T)(Cu:T 68=!Y2)(hm:g[m]?=!c5 s)(hb:1<=-s.bl/\-s.bl<=9)(h:Q (.ref (-g)) (g++[c5 s])):a8 T (k+5) 68 [.ref m] g Q E:=by
 show call_of Cu rfl ?_;delta Y2;exists j8 hm rfl ?_;exists Sa (k:=k) hT.tm hb ?_;show#[rfl,?_];let e1:Ex g (g++[c5 (s0 (-s.bl))]):=Ex.snoc _ _;let m1:=e1.at hm;let n1:(g++[c5 (s0 (-s.bl))])[(-g)]?=!(c5 (s0 (-s.bl))):=b9;let ne:m≠-g:=aD (i9 hm);let fin:(g++[c5 (s0 (-s.bl))]).set (-g) (c5 s)=g++[c5 s]:=by simp
 generalize g++[c5 (s0 (-s.bl))]=g1 at *;let m2:∀o:O,(g1.set (-g) o)[m]?=!c5 s:=λo=>a7 m1 (bq ne);exists j8 m1 rfl ?_;exists v7 n1 #[_] #[_] ?_;exists j8 (m2 _) rfl ?_;exists v7 (get_set n1) #[_] (by repeat (first|(simp;done)|show E9 ?_)) ?_;rw[bY];exists j8 (m2 _) rfl ?_;exists v7 (get_set n1) #[_] (by repeat (first|(simp;done)|show E9 ?_)) ?_;rw[bY];exists j8 (m2 _) rfl ?_;exists v7 (get_set n1) #[_] (by repeat (first|(simp;done)|show E9 ?_)) ?_;rw[bY];exists j8 (m2 _) rfl ?_;exists v7 (get_set n1) #[_] (by repeat (first|(simp;done)|show E9 ?_)) ?_;rw[bY];exists j8 (m2 _) rfl ?_;exists v7 (get_set n1) #[_] (by repeat (first|(simp;done)|show E9 ?_)) ?_;rw[bY];left;let e2:(O.ins "Mint" [("bench",.tup s.bl),("laid_off",.tup (s.go.map .int)),("lower_wear",.tup (eZ s.lo)),("upper_wear",.tup (eZ s.up)),("present",.int s.yr),("output",.tup s.co)])=c5 s:=rfl;have:=h;rw[<- fin] at this;show this
def LD(pD:T 192=!uT)(M0:MD g q s)(h:∀g',Ex g g'->MD g' (-g) s->Q (.ref (-g)) g'):a8 T (k+1) 192 [.ref q] g Q E:=by
 show call_of pD rfl ?_;delta uT;exists Sr M0.bZ ?_;exists T9 (b8 T _) (tR (b8 T _) ?_);left;let e0:Ex g (g++[O.bZ (iT q s.yr)]++[O.lst [.str "seats",.str "lower",.str "upper",.str "gone",.str "coins"]]):=(Ex.snoc _ _).trans (Ex.snoc _ _);let hw:(g++[O.bZ (iT q s.yr)]++[O.lst [.str "seats",.str "lower",.str "upper",.str "gone",.str "coins"]])[(-g)+1]?=!.lst [.str "seats",.str "lower",.str "upper",.str "gone",.str "coins"]:=by simp
 let hd:(g++[O.bZ (iT q s.yr)]++[O.lst [.str "seats",.str "lower",.str "upper",.str "gone",.str "coins"]])[(-g)]?=!.bZ (iT q s.yr):=by simp
 let hl:(g++[O.bZ (iT q s.yr)]).length=-g+1:=by simp
 let rZ:(g++[O.bZ (iT q s.yr)]++[O.lst [.str "seats",.str "lower",.str "upper",.str "gone",.str "coins"]]).length=-g+2:=by simp
 rw[hl];generalize g++[O.bZ (iT q s.yr)]++[O.lst [.str "seats",.str "lower",.str "upper",.str "gone",.str "coins"]]=g1 at *;let ql:q+6< -g:=i9 M0.df;show #[(-g) + 1,_,rfl,a6 hw,[.str "seats",.str "lower",.str "upper",.str "gone",.str "coins"],λi σ g'=>∃ z2,σ=[!.ref q,!.ref (-g),z2]/\-g'=-g + 2 + i/\(∀ j,j < -g->g'[j]?=g[j]?)/\g'[(-g) + 1]?=!.lst [.str "seats",.str "lower",.str "upper",.str "gone",.str "coins"] /\
   g'[(-g)]?=!.bZ [(.inr "seats",.ref (if 0<i then (-g)+2 else q+2)),(.inr "lower",.ref (if 1<i then (-g)+3 else q+3)),(.inr "upper",.ref (if 2<i then (-g)+4 else q+4)),(.inr "gone",.ref (if 3<i then (-g)+5 else q+5)),(.inr "year",.int s.yr),(.inr "coins",.ref (if 4<i then (-g)+6 else q+6))] /\
   (0<i->g'[(-g)+2]?=!.lst s.bl)/\(1<i->g'[(-g)+3]?=!.lst (eZ s.lo))/\(2<i->g'[(-g)+4]?=!.lst (eZ s.up))/\(3<i->g'[(-g)+5]?=!.lst (s.go.map .int))/\(4<i->g'[(-g)+6]?=!.lst s.co),
  λi σ g' p=>uS (a6 p.choose_spec.2.2.2.1),#[none,rfl,by omega,λj hj=>e0.old j hj,hw,hd,λz=>absurd z ∅,λz=>absurd z ∅,λz=>absurd z ∅,λz=>absurd z ∅,λz=>absurd z ∅],λi y σ g' hy p=>?_,λσ g' p=>?_]
 .let#[z2,rfl,gl,old,gw,gd,c0,c1,c2,c3,c4]:=p;let hq:g'[q]?=!.bZ (iT q s.yr):=by rw[old q ()];show M0.bZ
  let step:∀ (w:Str) (r:Nat) (l:@&D),y=.str w->N1 (iT q s.yr) (.inr w)=!.ref r->r < -g->g[r]?=!.lst l->(∀ N:Ends,(∀ g2,g2=(g' ++ [O.lst l]).set (-g) (.bZ (putD [(.inr "seats",.ref (if 0 < i then (-g) + 2 else q + 2)),(.inr "lower",.ref (if 1 < i then (-g) + 3 else q + 3)),(.inr "upper",.ref (if 2 < i then (-g) + 4 else q + 4)),(.inr "gone",.ref (if 3 < i then (-g) + 5 else q + 5)),(.inr "year",.int s.yr),(.inr "coins",.ref (if 4 < i then (-g) + 6 else q + 6))] (.inr w) (.ref (-g + 2 + i))))->N.nx [!.ref q,!.ref (-g),!.str w] g2) ->
    wpS (a8 T k) (match uT.body with | .seq _ (.seq (.iE _ _ b) _)=>b | x=>x) N [!.ref q,!.ref (-g),!.str w] g' E):=by
   intro w r l ey mI hr hl N hN;dsimp[uT];exists i6 hq rfl mI ?_;exists AJ (a6 (by rw[old r hr];show hl)) ?_;exists IY (aA () |>.trans gd) rfl #[_] ?_;rw[gl];left;show hN _ rfl
  let gp:∀(o:O) (l:@&D) (j:Nat),j≠-g->j< -g'->((g'++[O.lst l]).set (-g) o)[j]?=g'[j]?:=λo l j h1 h2=>by
   rw[aH (bq h1),aA h2]
  let gn:∀(o:O) (l:@&D),((g'++[O.lst l]).set (-g) o)[(-g)+2+i]?=!.lst l:=λo l=>by
   rw[aH (),<- gl];show b9
  let gs:∀(o:O) (l:@&D),((g'++[O.lst l]).set (-g) o)[(-g)]?=!o:=λo l=>by
   rw[aU (by simp;omega)]
  let go:∀(o:O) (l:@&D) (j:Nat),j< -g->((g'++[O.lst l]).set (-g) o)[j]?=g[j]?:=λo l j hj=>(gp o l j (aD hj) ()).trans (old j hj);let gq:∀(o:O) (l:@&D),((g'++[O.lst l]).set (-g) o)[(-g)+1]?=_:=λo l=>(gp o l _ () ()).trans gw;let gc:∀(o:O) (l:@&D) (j:Nat),j<i->((g'++[O.lst l]).set (-g) o)[(-g)+2+j]?=g'[(-g)+2+j]?:=λo l j hj=>gp o l _ () ();let gz:∀(o:O) (l:@&D),((g'++[O.lst l]).set (-g) o).length=-g+2+(i+1):=λo l=>by simp;omega
  let qj:∀j,j<=6->q+j< -g:=λj hj=>by omega
  show p7 ?_;let hi:i<5:=(az.mp hy).1;have:i=0\/i=1\/i=2\/i=3\/i=4:=by clear hy;omega
  clear hi gp;rcases this with rfl|rfl|rfl|rfl|rfl
  .cases hy;show step "seats" (q+2) s.bl rfl mG (qj 2 ∅) M0.de _ λg2 e=>?_;subst e;show#[_,rfl,gz _ _,go _ _,gq _ _,gs _ _,λv=>gn _ _,λz=>absurd z ∅,λz=>absurd z ∅,λz=>absurd z ∅,λz=>absurd z ∅]
  .cases hy;show step "lower" (q+3) (eZ s.lo) rfl qk (qj 3 ∅) M0.lower _ λg2 e=>?_;subst e;show#[_,rfl,gz _ _,go _ _,gq _ _,gs _ _,λv=>(gc _ _ 0 ∅).trans (c0 ∅),λv=>gn _ _,λz=>absurd z ∅,λz=>absurd z ∅,λz=>absurd z ∅]
  .cases hy;show step "upper" (q+4) (eZ s.up) rfl vV (qj 4 ∅) M0.upper _ λg2 e=>?_;subst e;show#[_,rfl,gz _ _,go _ _,gq _ _,gs _ _,λv=>(gc _ _ 0 ∅).trans (c0 ∅),λv=>(gc _ _ 1 ∅).trans (c1 ∅),λv=>gn _ _,λz=>absurd z ∅,λz=>absurd z ∅]
  .cases hy;show step "gone" (q+5) (s.go.map .int) rfl vW (qj 5 ∅) M0.gone _ λg2 e=>?_;subst e;show#[_,rfl,gz _ _,go _ _,gq _ _,gs _ _,λv=>(gc _ _ 0 ∅).trans (c0 ∅),λv=>(gc _ _ 1 ∅).trans (c1 ∅),λv=>(gc _ _ 2 ∅).trans (c2 ∅),λv=>gn _ _,λz=>absurd z ∅]
  .cases hy;show step "coins" (q+6) s.co rfl rO (qj 6 ∅) M0.df _ λg2 e=>?_;subst e;show#[_,rfl,gz _ _,go _ _,gq _ _,gs _ _,λv=>(gc _ _ 0 ∅).trans (c0 ∅),λv=>(gc _ _ 1 ∅).trans (c1 ∅),λv=>(gc _ _ 2 ∅).trans (c2 ∅),λv=>(gc _ _ 3 ∅).trans (c3 ∅),λv=>gn _ _]
 .let#[z2,rfl,gl,old,gw,gd,c0,c1,c2,c3,c4]:=p
  try show wpS _ _ _ _ _ _
  exists h g' #[by omega,old] #[gd,c0 ∅,c1 ∅,c2 ∅,c3 ∅,c4 ∅]
def oW(r:Rs):Str:=if r.1="" then "" else "refused"
set_option tactic.hygienic true in
def Ag(h6:T 6=!sU)(h7:T 7=!C6)(mj:T 191=!Am){r:Rs}{j:Nat}(hj:g[j]?=!.lst [.str (oW r),r.2.1])(hs:l6 r.2.1)(h:∀g',Ex g g'->Q (.bl true) g'):a8 T (k+3) 191 [.ref j,.tup [.str r.1,r.2.1]] g Q E:=by
 show call_of mj rfl ?_;delta Am;left;let ew:decide (oW r="")=decide (r.1=""):=by
  unfold oW;split
  .rename_i e;rw[aB rfl,aB e]
  .rename_i e;rw[aN e];decide +kernel
 show fK (by rw[ew];simp) ?_;left;show l8 h6 h7 0 (k:=k) (KH hs) h
end
def EL:aW:=#[1,1,(eK (.ifs (.gI (cP .Eq (bH .len aC) (bc 0)) (.gI (.eG (bB .nK (.lit (.tup [(.tup [(.str "cut"),(.tup [(.str "side")])]),(.tup [(.str "fix"),(.tup [(.str "number")])]),(.tup [(.str "off"),(.tup [(.str "number")])]),(.tup [(.str "mark"),(.tup [(.str "side"),(.str "number"),(.str "number")])]),(.tup [(.str "strike"),(.tup [(.str "number"),(.str "number")])]),(.tup [(.str "year"),(.tup [(.str "number")])])])) (bV aC (bc 0)))) (cP .NotEq (bB (.bin .Sub) (bH .len aC) (bc 1)) (bH .len (bB .kS (.lit (.tup [(.tup [(.str "cut"),(.tup [(.str "side")])]),(.tup [(.str "fix"),(.tup [(.str "number")])]),(.tup [(.str "off"),(.tup [(.str "number")])]),(.tup [(.str "mark"),(.tup [(.str "side"),(.str "number"),(.str "number")])]),(.tup [(.str "strike"),(.tup [(.str "number"),(.str "number")])]),(.tup [(.str "year"),(.tup [(.str "number")])])])) (bV aC (bc 0))))))) (eK (.raise "BadDeed" (dR (bt "it is no deed")))) .pass))]
def Z8:aW:=#[2,2,(gL (.dS "mints" ["Ledger"] aC (bH .lst (.make "Mint" 51 (dR aI)))) (gL (.dS "done" ["Ledger"] aC (.prim .lst .nil)) (eK (.dS "undone" ["Ledger"] aC (.prim .lst .nil)))))]
def Z9:aW:=#[2,4,(eI 2 (.bg "mint" [("Ledger",249)] aC .nil) (eI 3 (dO 239 bp aI) (kC (.dk .append (bH (.fld "mints") aC) (dR bp)) (kC (.dk .append (bH (.fld "done") aC) (dR aI)) (bT dc)))))]
def Ew:aW:=#[2,3,(kC (jG 238 aI) (eI 2 (.bg "go_on" [("Ledger",244)] aC (dR (bH .tuple aI))) (gL (.dS "undone" ["Ledger"] aC (.prim .lst .nil)) (bT bp))))]
def R0:aW:=#[1,2,(cV (.cL (.eG (bH (.fld "done") aC))) (eK (.raise "Nothing" (dR (bt "no deed is left to take back")))) (eI 1 (.dk .je (bH (.fld "done") aC) .nil) (kC (.dk .je (bH (.fld "mints") aC) .nil) (kC (.dk .append (bH (.fld "undone") aC) (dR aI)) (bT aI)))))]
def D7:aW:=#[1,2,(cV (.cL (.eG (bH (.fld "undone") aC))) (eK (.raise "Nothing" (dR (bt "no deed is left to do again")))) (eI 1 (.dk .je (bH (.fld "undone") aC) .nil) (kC (.bg "go_on" [("Ledger",244)] aC (dR aI)) (bT aI))))]
def W9:aW:=#[1,1,(bT (bH .list (bH (.fld "done") aC)))]
def Z7:aW:=#[1,1,(bT (.bg "twin" [("Mint",68),("Ledger",251)] (bV (bH (.fld "mints") aC) (bH (.un .USub) (bc 1))) .nil))]
def Q9:aW:=#[1,3,(eI 1 (bH .lst (bB .ml (bt "mint ") (bH .fv (bH .len (.bg "anvils" [("Mint",60)] (.bg "mint" [("Ledger",249)] aC .nil) .nil))))) (qw (.one 2) (.jg (bH (.fld "done") aC)) (eK (.expr (.dk .append aI (dR (.dk .join (bt " ") (dR (.comp [] 2 (.one 1) (.jg bp) .no (bH .str aI)))))))) (bT (.dk .join (bt "\n") (dR aI)))))]
def aL1:aW:=#[1,2,(eI 1 (.make "Ledger" 243 (dR (bH .len (.bg "anvils" [("Mint",60)] (.bg "mint" [("Ledger",249)] aC .nil) .nil)))) (gL (.dS "mints" ["Ledger"] aI (bH .list (bH (.fld "mints") aC))) (gL (.dS "done" ["Ledger"] aI (bH .list (bH (.fld "done") aC))) (gL (.dS "undone" ["Ledger"] aI (bH .list (bH (.fld "undone") aC))) (bT aI)))))]
def U5:aW:=#[2,2,(eK (.T4 (bT (bB .lst (bt "") (.bg "do" [("Ledger",245)] aC (dR aI)))) [("MintError",(.prim .lst (.cons (.lit (.str "refused")) (.cons (.lit .aO) .nil))))]))]
noncomputable abbrev RY:aW:=Ae
noncomputable abbrev X3(p q u:Nat):O:=.ins "Ledger" [("mints",.ref p),("done",.ref q),("undone",.ref u)]
structure Led(g:G)(r p q u:Nat)(ms:@&(Nat×bW))(ds us:@&Dd):Prop where
 ob:g[r]?=!X3 p q u
 mi:g[p]?=!.lst (ms.map λt=>.ref t.1)
 dn:g[q]?=!.lst (ds.map Dd.d)
 ud:g[u]?=!.lst (us.map Dd.d)
 st:∀t∈ms,g[t.1]?=!c5 t.2/\WS t.2/\1<=t.2.bl.length
 pq:p≠q
 pu:p≠u
 qu:q≠u
def L7(r p q u:Nat)(ms:@&(Nat×bW))(x:Nat):Prop:=x=r\/x=p\/x=q\/x=u\/∃t∈ms,x=t.1
structure TL(T:Nat->Option aW):Prop where
 CN:T 238=!EL
 CM:T 239=!Ae
 CL:T 243=!Z8
 CK:T 244=!Z9
 CJ:T 245=!Ew
 CI:T 248=!W9
 CH:T 249=!Z7
 Cu:T 68=!Y2
structure Fr(S:Nat->Prop)(g g':G):Prop where
 len:-g<=-g'
 old:∀i,¬S i->i< -g->g'[i]?=g[i]?
section
variable{T:Nat->Option aW}{d:Nat}{g1:G}{r:Nat}{ms:@&(Nat×bW)}{us:@&Dd}{S:Nat->Prop}
def Fr.at(h:Fr S g g')(hi:¬S i)(e:g[i]?=!o):g'[i]?=!o:=(h.old i hi (i9 e)).trans e
def Fr.ex(h:Ex g g'):Fr S g g':=#[h.len,λi x hl=>h.old i hl]
def Fr.trans(a:Fr S g g1)(b:Fr S g1 g'):Fr S g g':=#[aF a.len b.len,λi h hl=>(b.old i h (ax hl a.len)).trans (a.old i h hl)]
def qd(hi:S i):Fr S g (g.set i o):=#[by simp,λj hj x=>aH λz=>hj (by rw[<- z];show hi)]
def Fr.Iz(e:Ex g g1)(hi:-g<=i):Ex g (g1.set i o):=#[by simp[e.len],λj hj=>by rw[aH ()];show e.old j hj]
def Led.keep(h:Led g r p q u ms ds us)(k:∀x o,L7 r p q u ms x->g[x]?=!o->g'[x]?=!o):Led g' r p q u ms ds us :=
 #[k _ _ (.inl rfl) h.ob,k _ _ (.inr (.inl rfl)) h.mi,k _ _ (.inr (.inr (.inl rfl))) h.dn,k _ _ (.inr (.inr (.inr (.inl rfl)))) h.ud,λt ht=>#[k _ _ (.inr (.inr (.inr (.inr #[t,ht,rfl])))) (h.st t ht).1,(h.st t ht).2],h.pq,h.pu,h.qu]
def Led.ex(h:Led g r p q u ms ds us)(e:Ex g g'):Led g' r p q u ms ds us:=h.keep λx o y e1=>e.at e1
def Led.lt(h:Led g r p q u ms ds us){x:Nat}(hx:L7 r p q u ms x):x< -g:=by
 rcases hx with rfl|rfl|rfl|rfl|⟨t,ht,rfl⟩
 .exact i9 h.ob
 .exact i9 h.mi
 .exact i9 h.dn
 .exact i9 h.ud
 .exact i9 (h.st t ht).1
def MW(hL:TL T)(hT:TM T)(h1:∀n:Nat,v=n->1<=n->n<=9->Q .aO (g++[X3 (-g+2) (-g+3) (-g+4),c5 (s0 n),.lst [.ref (-g+1)],.lst [],.lst []]))(h2:¬(1<=v/\v<=9)->∀g',Ex g g'->E #["BadAnvils"] g'):a8 T (k+5) 243 [.ref (-g),.int v] (g++[.ins "Ledger" []]) Q E:=by
 show call_of hL.CL rfl ?_;delta Z8;exists LU (k:=k) hT b9 (λn e1 n1 n9=>?_) (λhv=>h2 hv _ ((Ex.snoc _ _).trans (Ex.snoc _ _)));show#[rfl,?_];let es:(g++[O.ins "Ledger" []]++[O.ins "Mint" []]).set (g++[O.ins "Ledger" []]).length (Fg n 0 0)=g++[O.ins "Ledger" [],c5 (s0 n)]:=by simp[s0,c5,Fh]
 rw[es];left;let e0:∀(o:O) (l:@&O),(g++(o::l))[(-g)]?=!o:=λo l=>by simp
 let sG:∀(o o':O) (l:@&O),(g++(o::l)).set (-g) o'=g++(o'::l):=λo o' l=>by simp
 simp only[List.append_assoc,List.cons_append,List.nil_append,List.length_append,List.length_cons,List.length_nil,Nat.zero_add,Nat.add_assoc,Nat.reduceAdd];show v7 (e0 _ _) #[_] #[_] ?_;rw[sG];left;simp only[List.append_assoc,List.cons_append,List.nil_append,List.length_append,List.length_cons,List.length_nil,Nat.zero_add,Nat.add_assoc,Nat.reduceAdd];show v7 (e0 _ _) #[_] (by simp[A2]) ?_;rw[sG];left;simp only[List.append_assoc,List.cons_append,List.nil_append,List.length_append,List.length_cons,List.length_nil,Nat.zero_add,Nat.add_assoc,Nat.reduceAdd];show v7 (e0 _ _) #[_] (by repeat (first|(simp;done)|show E9 ?_)) ?_;rw[sG];left;show h1 n e1 n1 n9
def Mb(hn:1<=n/\n<=9):Led (g++[X3 (-g+2) (-g+3) (-g+4),c5 (s0 n),.lst [.ref (-g+1)],.lst [],.lst []]) (-g) (-g+2) (-g+3) (-g+4) [(-g+1,s0 n)] [] []:=by
 show#[by simp,pW,pW,pW,λt ht=>?_,by omega,by omega,by omega];cases cc.mp ht;show#[pW,Au hn.2,by unfold s0;simpa using hn.1]
def V5{l:List α}{x:α}:js (l++[x]) (-1)=!x:=by
 simp[js,lq,seqIndex?];rw[av ()];show(l++[x])[(-1+((-l:Int)+1)).toNat]?=!x;rw[show(-1+((-l:Int)+1)).toNat=-l by omega];simp
def Ak(hL:TL T)(hT:TQ T)(h0:Led g r p q u (ms++[(m,s)]) ds us)(h:Q (.ref (-g)) (g++[c5 s])):a8 T (k+6) 249 [.ref r] g Q E:=by
 let#[h1,h2,h3]:=h0.st (m,s) #[_];show call_of hL.CH rfl ?_;delta Z7;exists j8 h0.ob rfl ?_;exists A5 (a6 h0.mi) (d:=.ref m) (by rw[ay];show V5) ?_;exists c6 h1 rfl rfl ?_;left;show Tw (k:=k) hT hL.Cu h1 #[h3,h2.bn] h
def a65(hL:TL T)(h0:Led g r p q u ms ds us)(h:Q (.ref (-g)) (g++[.lst (ds.map Dd.d)])):a8 T (k+1) 248 [.ref r] g Q E:=by
 show call_of hL.CI rfl ?_;delta W9;exists j8 h0.ob rfl ?_;exists AJ (a6 h0.dn) ?_;left;show h
def NL(hL:TL T)(hT:TQ T)(h0:Led g r p q u (ms++[(m,s)]) ds us)(hz:-ms<5000/\-ds<5000)(ok:dd.ok)(h1:(dt s dd).1=""->∀g',Fr (λx=>x=p\/x=q) g g'->Led g' r p q u (ms++[(m,s)]++[(-g,(dt s dd).2.2)]) (ds++[dd]) us->Q (dt s dd).2.1 g')(h2:(dt s dd).1≠""->∀g',Ex g g'->E #[(dt s dd).1] g'):a8 T (k+7) 244 [.ref r,dd.d] g Q E:=by
 let#[l1,l2,l3]:=h0.st (m,s) #[_];show call_of hL.CK rfl ?_;delta Z9;exists c6 h0.ob rfl rfl ?_;exists Ak (k:=k) hL hT h0 ?_;exists aU9 (k:=k) hT hL.CM b9 l2 ok (λe g2 e2=>?_) (λe=>h2 e _ (Ex.snoc _ _));let x2:Ex g (g2.set (-g) (c5 (dt s dd).2.2)):=Fr.Iz ((Ex.snoc _ _).trans e2) (ak _);let n2:(g2.set (-g) (c5 (dt s dd).2.2))[(-g)]?=!c5 (dt s dd).2.2:=get_set (e2.at b9);generalize g2.set (-g) (c5 (dt s dd).2.2)=g3 at *;let L3:=h0.ex x2;let ne:p≠r:=λz=>by have:=L3.ob;rw[<- z,L3.mi] at this;cases this
 let ne2:q≠r:=λz=>by have:=L3.ob;rw[<- z,L3.dn] at this;cases this
 let pl:=i9 h0.mi;let ql:=i9 h0.dn;exists j8 L3.ob rfl ?_;exists#[F5 L3.mi,?_];exists U2 L3.mi (by simp;omega) ?_;exists j8 (a7 L3.ob ne) rfl ?_;exists#[F5 (a7 L3.dn L3.pq),?_];exists U2 (a7 L3.dn L3.pq) (by simp;omega) ?_;exists h1 e _ ((Fr.ex x2).trans ((qd (.inl rfl)).trans (qd (.inr rfl)))) #[a7 (a7 L3.ob ne) ne2,a7 (by rw[ay (l₁:=ms++[(m,s)])];show get_set L3.mi) (bq L3.pq),by rw[ay (l₁:=ds)];show get_set (a7 L3.dn L3.pq),a7 (a7 L3.ud L3.pu) L3.qu,λt ht=>?_,L3.pq,L3.pu,L3.qu];let np:∀{x:Nat} {s:bW},g3[x]?=!c5 s->p≠x/\q≠x:=λe=>#[λz=>(by rw[<- z,L3.mi] at e;cases e),λz=>(by rw[<- z,L3.dn] at e;cases e)]
 rcases bh.mp ht with ht|ht
 .have:=L3.st t ht;show#[a7 (a7 this.1 (np this.1).1) (np this.1).2,this.2]
 .cases cc.mp ht;show#[a7 (a7 n2 (np n2).1) (np n2).2,AB l2,by rw[Iw];show l3]
def TZ(hL:TL T)(h:Q .aO g):a8 T (k+1) 238 [dd.d] g Q E:=by
 show call_of hL.CN rfl ?_;cases dd <;> dsimp [EL,b7,List.replicate,Dd.d] <;> left <;> (show dw rfl ?_;exists dw #[] ?_;left;first
  |show uJ (v:=.tup [.str "side"]) rfl ?_
  |show uJ (v:=.tup [.str "number"]) rfl ?_
  |show uJ (v:=.tup [.str "number",.str "number"]) rfl ?_
  | show uJ (v:=.tup [.str "side",.str "number",.str "number"]) rfl ?_) <;> (exists dw rfl ?_;left;show h)
def NK(hL:TL T)(hT:TQ T)(h0:Led g r p q u (ms++[(m,s)]) ds us)(hz:-ms<5000/\-ds<5000)(ok:dd.ok)(h1:(dt s dd).1=""->∀g' u',Fr (λx=>x=p\/x=q\/x=r) g g'->-g<u'->Led g' r p q u' (ms++[(m,s)]++[(-g,(dt s dd).2.2)]) (ds++[dd]) []->Q (dt s dd).2.1 g')(h2:(dt s dd).1≠""->∀g',Ex g g'->E #[(dt s dd).1] g'):a8 T (k+8) 245 [.ref r,dd.d] g Q E:=by
 show call_of hL.CJ rfl ?_;delta Ew;exists TZ (k:=k+6) hL ?_;exists c6 h0.ob rfl rfl ?_;left;let et:∀{Q:KD},Q dd.d g->cw .tuple [dd.d] g Q:=λh=>by cases dd<;>show Fo h
 show et ?_;exists NL (k:=k) hL hT h0 hz ok (λe g2 F2 L2=>?_) h2;let gl:-g< -g2:=i9 (L2.st (-g,(dt s dd).2.2) #[_]).1;left;let x3:Ex g2 (g2++[O.lst []]):=Ex.snoc _ _;let n3:(g2++[O.lst []])[(-g2)]?=!.lst []:=b9;let L3:=L2.ex x3;let c3:∀x,L7 r p q u (ms++[(m,s)]++[(-g,(dt s dd).2.2)]) x->x< -g2:=λx hx=>L2.lt hx;generalize g2++[O.lst []]=g3 at *;show v7 L3.ob #[_] #[_] ?_;left;let nr:∀{x:Nat} {o:O},g3[x]?=!o->(∀p q u,o≠X3 p q u)->r≠x:=λe h z=>by rw[<- z,L3.ob] at e;show h _ _ _ (aJ e).symm
 let hp:=c3 p (.inr (.inl rfl));let hq:=c3 q (.inr (.inr (.inl rfl)));show h1 e _ (-g2) (#[by have:=F2.len;have:=x3.len;simp;omega,λi hi hl=>?_]) gl #[get_set L3.ob,a7 L3.mi (nr L3.mi (by intro _ _ _ z;cases z)),a7 L3.dn (nr L3.dn (by intro _ _ _ z;cases z)),a7 n3 (nr n3 (by intro _ _ _ z;cases z)),λt ht=>?_,L3.pq,by omega,by omega]
 .rw[aH (λz=>hi (.inr (.inr z.symm))),x3.old i (by have:=F2.len;omega)];show F2.old i (λz=>hi (by rcases z with z|z;show .inl z;show .inr (.inl z))) hl
 .have:=L3.st t ht;show#[a7 this.1 (nr this.1 (by intro _ _ _ z;cases z)),this.2]
def Ys(hL:TL T)(hT:TQ T)(sy:T 240=!U5)(h0:Led g r p q u (ms++[(m,s)]) ds us)(hz:-ms<5000/\-ds<5000)(ok:dd.ok)(h1:(dt s dd).1=""->∀g' u' j,Fr (λx=>x=p\/x=q\/x=r) g g'->-g<u'->Led g' r p q u' (ms++[(m,s)]++[(-g,(dt s dd).2.2)]) (ds++[dd]) []->g'[j]?=!.lst [.str (oW (dt s dd)),(dt s dd).2.1]->-g<=j->Q (.ref j) g')(h2:(dt s dd).1≠""->∀g' j,Ex g g'->g'[j]?=!.lst [.str (oW (dt s dd)),(dt s dd).2.1]->-g<=j->Q (.ref j) g'):a8 T (k+9) 240 [.ref r,dd.d] g Q E:=by
 show call_of sy rfl ?_;delta U5;exists c6 h0.ob rfl rfl ?_;exists NK (k:=k) hL hT h0 hz ok (λe g2 u2 F2 hu L2=>?_) (λe g2 e2=>?_)
 .left;show h1 e _ u2 _ (F2.trans (Fr.ex (Ex.snoc _ _))) hu (L2.ex (Ex.snoc _ _)) (by unfold oW;rw[av e];show b9) (aF F2.len (ak _))
 .let#[_,h3]:=(bA4 (s:=s) (dd:=dd)).resolve_left e;show Wr ?_;left;show h2 e _ _ (e2.trans (Ex.snoc _ _)) (by unfold oW;rw[aw e,h3];show b9) e2.len
def a61{l:@&D}(h:∀x∈l,(∃i,x=.int i)\/∃y,x=.str y)(hz:-l<=1000):v8 g 1 (.tup l) (.tup l):=by
 show .tup rfl (λi x y hx hy=>?_) hz;rw[hx] at hy;cases hy;rcases h x (aQ hx) with⟨_,rfl⟩|⟨_,rfl⟩
 .exact .int _
 .exact .str _
def DT:v8 g 1 dd.d dd.d:=by
 cases dd<;>show a61 #[_] #[_]
end
noncomputable abbrev nT(i:Int):Str:=Str.ofString (toString i)
def AI{i:Int}(h:0<=i/\i<=9999):i.natAbs.log2<14:=by
 by_cases z:i.natAbs=0
 .rw[z];decide
 .exact(Nat.log2_lt z).mpr (show i.natAbs<2 ^ 14 by omega)
def FJ{i:Int}(h:0<=i/\i<=9999):(nT i).length<=15:=by rw[yH];show PySem.int_text_length_le (k:=14) ∅ (AI h)
abbrev Dd.l:Dd->@&D
 |.cut x=>[.str "cut",.str x]
 |.fix v=>[.str "fix",.int v]
 |.off v=>[.str "off",.int v]
 |.mark x v j=>[.str "mark",.str x,.int v,.int j]
 |.eU a b=>[.str "strike",.int a,.int b]
 |.year n=>[.str "year",.int n]
def Dd.zH(dd:Dd):dd.d=.tup dd.l:=by cases dd<;>rfl
def Dd.Fe(dd:Dd):-dd.l<=4:=by cases dd<;>simp[Dd.l]
abbrev txt:D->Str
 |.str x=>x
 |.int i=>nT i
 |_=>""
def sP(x:D):Prop:=(∃y,x=.str y/\-y<=10)\/∃i,x=.int i/\0<=i/\i<=9999
def Dd.fit(dd:Dd):Prop:=∀x∈dd.l,sP x
def sP.len{x:D}(h:sP x):(txt x).length<=15:=by
 rcases h with⟨y,rfl,h⟩|⟨i,rfl,h⟩
 .exact aF h ∅
 .exact FJ h
def Nn(h:u4 x):sP (.str x):=by
 rcases h with rfl|rfl
 .exact .inl #[_,rfl,by decide +kernel]
 .exact .inl #[_,rfl,by decide +kernel]
set_option tactic.hygienic true in
def NB(W:WS s)(e:(dt s dd).1=""):dd.fit:=by
 let hl:=W.ln;let hu:=W.un;let hy:=W.y0;intro x hx;cases dd with
 |cut y =>
  simp only[dt] at e;unfold w6 at e;split at e
  .rename_i hs;simp only[Dd.l,List.mem_cons,List.mem_nil_iff,or_false] at hx;rcases hx with rfl|rfl
   .exact .inl #[_,rfl,by decide +kernel]
   .exact Nn hs
  .exact absurd e (by dsimp only;decide +kernel)
 |fix v =>
  simp only[dt] at e;unfold o9 at e;split at e
  .rename_i hv;simp only[Dd.l,List.mem_cons,List.mem_nil_iff,or_false] at hx;rcases hx with rfl|rfl
   .exact .inl #[_,rfl,by decide +kernel]
   .exact .inr #[_,rfl,by omega,by omega]
  .exact absurd e (by dsimp only;decide +kernel)
 |off v =>
  simp only[dt] at e;unfold y9 at e;split at e
  .rename_i hv;simp only[Dd.l,List.mem_cons,List.mem_nil_iff,or_false] at hx;rcases hx with rfl|rfl
   .exact .inl #[_,rfl,by decide +kernel]
   .exact .inr #[_,rfl,by omega,by omega]
  .exact absurd e (by dsimp only;decide +kernel)
 |mark y v j =>
  simp only[dt] at e;unfold d9 at e;split at e
  .rename_i hs;let hz:(s.side y).length<=99:=by unfold bW.side;split<;>assumption
   split at e
   .rename_i hv;split at e
    .exact absurd e (by dsimp only;decide +kernel)
    .split at e
     .rename_i hj;simp only[Dd.l,List.mem_cons,List.mem_nil_iff,or_false] at hx;rcases hx with rfl|rfl|rfl|rfl
      .exact .inl #[_,rfl,by decide +kernel]
      .exact Nn hs
      .exact .inr #[_,rfl,by omega,by omega]
      .exact .inr #[_,rfl,by omega,by omega]
     .exact absurd e (by dsimp only;decide +kernel)
   .exact absurd e (by dsimp only;decide +kernel)
  .exact absurd e (by dsimp only;decide +kernel)
 |eU a b =>
  simp only[dt] at e;unfold d8 at e;split at e
  .rename_i hv;simp only[Dd.l,List.mem_cons,List.mem_nil_iff,or_false] at hx;rcases hx with rfl|rfl|rfl
   .exact .inl #[_,rfl,by decide +kernel]
   .exact .inr #[_,rfl,by omega,by omega]
   .exact .inr #[_,rfl,by omega,by omega]
  .exact absurd e (by dsimp only;decide +kernel)
 |year n =>
  simp only[dt] at e;unfold v5 at e;split at e
  .rename_i hv;simp only[Dd.l,List.mem_cons,List.mem_nil_iff,or_false] at hx;rcases hx with rfl|rfl
   .exact .inl #[_,rfl,by decide +kernel]
   .exact .inr #[_,rfl,by omega,by omega]
  .exact absurd e (by dsimp only;decide +kernel)
def KC{sep:Str}{B:Nat}{ys:@&Str}(h:∀y∈ys,(-y)<=B):E7 sep ys<=(B+-sep)*-ys:=by
 have:∀(ys:@&Str) (n:Nat),(∀y∈ys,(-y)<=B)->ys.foldl (λn y=>n+-y+-sep) n<=n+(B+-sep)*-ys:=by
  intro ys
  induction ys with
  |nil=>intro n _;simp
  |cons y r ih =>
   intro n h;rw[fH];let h1:=ih (n+-y+-sep) λz hz=>h z (by simp[hz]);let h2:=h y #[_];rw[cH,Nat.mul_add,Nat.mul_one];omega
 have:=this ys 0 h;unfold E7;omega
def v9(dd:Dd):Str:=Builtin.Str.glued " " (dd.l.map txt)
def U0(n:Nat)(ds:@&Dd):Str:=Builtin.Str.glued "\n" ((("mint ":Str)++nT n)::ds.map v9)
def DZ(h:dd.fit):E7 " " (dd.l.map txt)<=64/\(v9 dd).length<=64:=by
 let h1:E7 " " (dd.l.map txt)<=(15+(" ":Str).length)*(dd.l.map txt).length:=KC λy hy=>by
  let#[x,hx,rfl]:=aP.mp hy;show(h x hx).len
 let h2:(" ":Str).length=1:=by decide +kernel
 let h3:=dd.Fe;rw[h2,aj] at h1;let h4:=Er " " (dd.l.map txt);unfold v9;omega
def text_len(hn:n<=9)(h:∀dd∈ds,dd.fit)(hz:-ds<=1000):E7 "\n" ((("mint ":Str)++nT n)::ds.map v9)<=100000:=by
 let h1:E7 "\n" ((("mint ":Str)++nT n)::ds.map v9)<=(64+("\n":Str).length)*((("mint ":Str)++nT n)::ds.map v9).length:=KC λy hy=>by
  rcases aE.mp hy with rfl|hy
  .have:=FJ (i:=(n:Int)) ();let h5:("mint ":Str).length=5:=by decide +kernel
   rw[mr,h5];omega
  .let#[dd,hd,rfl]:=aP.mp hy;show(DZ (h dd hd)).2
 let h2:("\n":Str).length=1:=by decide +kernel
 rw[h2,cH,aj] at h1;omega
section
variable{T:Nat->Option aW}{d:Nat}{g1:G}{r:Nat}{ms:@&(Nat×bW)}{us:@&Dd}
def Xv{x:D}(h:sP x)(hq:Q (.str (txt x)) g):cw .str [x] g Q:=by
 rcases h with⟨y,rfl,h⟩|⟨i,rfl,h⟩
 .exact YS hq
 .exact IM (ax (AI h) ∅) hq
def Wo{i:Int}(hi:0<=i/\i<=9999)(h:Q (.str (nT i)) g):cw .fv [.int i] g Q:=#[_,_,#[rfl,.inl #[i,rfl,ax (AI hi) ∅,rfl]],h]
def Zs{f:ME}(hf:dd.fit){σ:S}{z:ME}(hz:∀{Q:KD},Q dd.d g->aV (a8 T k) z σ g Q E)(he:∀{x:D} {w:Option D} {Q:KD},sP x->Q (.str (txt x)) g->aV (a8 T k) f [w,!x] g Q ky)(h:Q (.str (v9 dd)) (g++[.lst ((dd.l.map txt).map .str)])):aV (a8 T k) (.dk .join (.lit (.str " ")) (.cons (.comp [] 2 (.one 1) (.jg z) .no f) .nil)) σ g Q E:=by
 exists#[NS,?_];exists aS2 (b8 T _) (hz ?_);have:=dd.Fe;show#[dd.l,dd.zH,by omega,λi ys σ g'=>∃z w,ys=(((dd.l.take i).map txt).map D.str)/\σ=[z,w]/\g'=g,#[none,none,rfl,rfl,rfl],λi ys σ g' p=>?_,λi y ys σ g' hy p=>?_,λys σ g' p=>?_]
 .let#[z,w,rfl,rfl,rfl]:=p;simp;omega
 .let#[z,w,rfl,rfl,rfl]:=p;show p7 ?_
  try show dM _ _ _ _ _ _
  exists he (hf y (aQ hy)) ?_;show#[_,_,?_,rfl,rfl];rw[dW,hy];simp
 .let#[z,w,rfl,rfl,rfl]:=p;rw[eA];exists NP (ys:=dd.l.map txt) (a6 b9) (aF (DZ hf).1 ∅) ?_;show h
def Uz(hL:TL T)(hT:TQ T)(sv:T 250=!Q9)(h0:Led g r p q u (ms++[(m,s)]) ds us)(hf:∀dd∈ds,dd.fit)(hz:-ds<=1000)(h:∀g',Ex g g'->Q (.str (U0 (-s.bl) ds)) g'):a8 T (k+7) 250 [.ref r] g Q E:=by
 let#[_,h2,h3]:=h0.st (m,s) #[_];let bn:-s.bl<=9:=h2.bn;show call_of sv rfl ?_;delta Q9;exists c6 h0.ob rfl rfl ?_;exists Ak (k:=k) hL hT h0 ?_;exists c6 b9 rfl rfl ?_;exists Kt (k:=k+5) hT b9 ?_;let x1:Ex g (g++[c5 s]++[.lst s.bl]):=(Ex.snoc _ _).trans (Ex.snoc _ _);let b1:(g++[c5 s]++[.lst s.bl])[(g++[c5 s]).length]?=!.lst s.bl:=b9;generalize g++[c5 s]++[.lst s.bl]=g1 at *;exists Wo () ?_;exists YR (x:="mint "++nT (-s.bl)) (by change some ("mint "++(nT (-s.bl)++Str.empty))=!_;rw[Tn]) ?_;left;let x2:Ex g (g1++[.lst [.str ("mint "++nT (-s.bl))]]):=x1.trans (Ex.snoc _ _);let b2:(g1++[.lst [.str ("mint "++nT (-s.bl))]])[(-g1)]?=!.lst [.str ("mint "++nT (-s.bl))]:=b9;let gl:=x1.len;generalize g1++[.lst [.str ("mint "++nT (-s.bl))]]=g2 at *;generalize (-g1)=b at *;show T9 (b8 T _) (tR (b8 T _) ?_);exists j8 (h0.ex x2).ob rfl ?_;show#[q,_,rfl,a6 (h0.ex x2).dn,ds.map Dd.d,λi σ g'=>∃z,σ=[!.ref r,!.ref b,z]/\Ex g g'/\g'[b]?=!(.lst (.str ("mint "++nT (-s.bl))::((ds.take i).map v9).map .str)),λi σ g' p=>uS (a6 (h0.ex p.choose_spec.2.1).dn),#[none,rfl,x2,b2],λi y σ g' hy p=>?_,λσ g' p=>?_]
 .let#[z,rfl,x3,b3]:=p;rw[aG,ae] at hy;let#[dd,hd,rfl]:=hy;show p7 ?_
  try show wpS _ _ _ _ _ _
  left
  try show#[F5 b3,?_]
  try show yi ?_
  show Zs (k:=k+6) (hf dd (aQ hd)) (λh=>w_var rfl h) (λhx hq=>?_) ?_
  .left;show Xv hx hq
  .exists U2 (DO b3) (by simp;omega) ?_;exists#[_,rfl,Fr.Iz (x3.trans (Ex.snoc _ _)) gl,?_];rw[get_set (DO b3),dW,hd];simp
 .let#[z,rfl,x3,b3]:=p;rw[aj,eA] at b3
  try show wpS _ _ _ _ _ _
  exists#[NS,?_];exists NP (ys:=("mint "++nT (-s.bl))::ds.map v9) (a6 b3) (text_len bn hf hz) ?_;left;show h _ x3
def Uy(sx:T 246=!R0){t:Nat×bW}(h0:Led g r p q u (ms++[t]) (ds++[dd]) us)(hz:-us<=5000)(h:∀g',Fr (λx=>x=p\/x=q\/x=u) g g'->Led g' r p q u ms ds (us++[dd])->Q dd.d g'):a8 T (k+1) 246 [.ref r] g Q E:=by
 let nr:∀{x:Nat} {l:@&D},g[x]?=!.lst l->x≠r:=λe z=>by rw[z,h0.ob] at e;cases e
 let nm:∀{x y:Nat} {l:@&D} {s:bW},g[x]?=!.lst l->g[y]?=!c5 s->x≠y:=λe1 e2 z=>by rw[z,e2] at e1;cases e1
 let dn:=h0.dn;let mi:=h0.mi;rw[ay] at dn mi;show call_of sx rfl ?_;delta R0;exists j8 h0.ob rfl ?_;exists Fm (a6 dn) ?_;show dw #[_] ?_;exists j8 h0.ob rfl ?_;exists#[yo dn,?_];exists yf dn ?_;exists j8 (a7 h0.ob (nr dn)) rfl ?_;exists#[yo (a7 mi (bq h0.pq)),?_];exists yf (a7 mi (bq h0.pq)) ?_;exists j8 (a7 (a7 h0.ob (nr dn)) (nr mi)) rfl ?_;left;let ud:=a7 (a7 h0.ud h0.qu (o':=.lst (ds.map Dd.d))) h0.pu (o':=.lst (ms.map λt=>.ref t.1));show#[F5 ud,?_];exists U2 ud (by simp;omega) ?_;exists h _ (((qd (.inr (.inl rfl))).trans (qd (.inl rfl))).trans (qd (.inr (.inr rfl)))) #[a7 (a7 (a7 h0.ob (nr dn)) (nr mi)) (nr h0.ud),a7 (get_set (a7 mi (bq h0.pq))) (bq h0.pu),a7 (a7 (get_set dn) h0.pq) (bq h0.qu),by rw[ay (l₁:=us)];show get_set ud,λt ht=>?_,h0.pq,h0.pu,h0.qu];have:=h0.st t (by simp[ht]);show#[a7 (a7 (a7 this.1 (nm dn this.1)) (nm mi this.1)) (nm h0.ud this.1),this.2]
def a66(hL:TL T)(hT:TQ T)(mh:T 247=!D7)(h0:Led g r p q u (ms++[(m,s)]) ds (us++[dd]))(hz:-ms<5000/\-ds<5000)(ok:dd.ok)(e:(dt s dd).1="")(h:∀g',Fr (λx=>x=p\/x=q\/x=u) g g'->Led g' r p q u (ms++[(m,s)]++[(-g,(dt s dd).2.2)]) (ds++[dd]) us->Q dd.d g'):a8 T (k+8) 247 [.ref r] g Q E:=by
 let nr:∀{x:Nat} {l:@&D},g[x]?=!.lst l->x≠r:=λe z=>by rw[z,h0.ob] at e;cases e
 let nm:∀{x y:Nat} {l:@&D} {s:bW},g[x]?=!.lst l->g[y]?=!c5 s->x≠y:=λe1 e2 z=>by rw[z,e2] at e1;cases e1
 let ud:=h0.ud;rw[ay] at ud;show call_of mh rfl ?_;delta D7;exists j8 h0.ob rfl ?_;exists Fm (a6 ud) ?_;show dw #[_] ?_;exists j8 h0.ob rfl ?_;exists#[yo ud,?_];exists yf ud ?_;let L1:Led (g.set u (.lst (us.map Dd.d))) r p q u (ms++[(m,s)]) ds us:=#[a7 h0.ob (nr ud),a7 h0.mi (bq h0.pu),a7 h0.dn (bq h0.qu),get_set ud,λt ht=>#[a7 (h0.st t ht).1 (nm ud (h0.st t ht).1),(h0.st t ht).2],h0.pq,h0.pu,h0.qu]
 let F1:Fr (λx=>x=p\/x=q\/x=u) g (g.set u (.lst (us.map Dd.d))):=qd (.inr (.inr rfl));let l1:(g.set u (.lst (us.map Dd.d))).length=-g:=by simp
 generalize g.set u (.lst (us.map Dd.d))=g1 at *;exists c6 L1.ob rfl rfl ?_;exists NL (k:=k) hL hT L1 hz ok (λw g2 F2 L2=>?_) (λz=>absurd e z);left;rw[l1] at L2;show h _ (F1.trans #[F2.len,λi hi hl=>F2.old i (λz=>hi (by rcases z with z|z;show .inl z;show .inr (.inl z))) hl]) L2
def aV8(mh:T 247=!D7)(h0:Led g r p q u ms ds [])(h:E #["Nothing"] g):a8 T (k+1) 247 [.ref r] g Q E:=by
 show call_of mh rfl ?_;delta D7;exists j8 h0.ob rfl ?_;exists Fm (a6 h0.ud) ?_;show fK #[_] ?_;left;show h
end
end M
namespace M
open PySem L2
variable{c a r k d m n p q u:Nat}{i:Int}{g g' g1:G}{Q:KD}{E:KX}{s s':bW}{dd:Dd}{ds us:@&Dd}{x:Str}{ts:@&D}{N:Ends}
abbrev jn(c:Nat):@&(@&Nat)->@&Nat
 |[]=>[]
 |[a]=>a
 |a::r=>a++c::jn c r
def V2{a b:@&Nat}{r:@&(@&Nat)}:jn c (a::b::r)=a++c::jn c (b::r):=rfl
def Lx{c:Nat}:∀{a b:@&Nat} {x y:@&Nat},c∉a->c∉b->a++c::x=b++c::y->a=b/\x=y
 |[],[],x,y,_,_,h=>by simpa using h
 |[],d::b,x,y,_,hb,h=>by
  have:=(qT (show c::x=d::(b++c::y) from h)).1;show absurd (by simp[this]) hb
 |d::a,[],x,y,ha,_,h=>by
  have:=(qT (show d::(a++c::x)=c::y from h)).1;show absurd (by simp[this]) ha
 |d::a,e::b,x,y,ha,hb,h=>by
  let#[h1,h2]:=qT (show d::(a++c::x)=e::(b++c::y) from h);let#[h3,h4]:=Lx (λz=>ha (by simp[z])) (λz=>hb (by simp[z])) h2;show#[by rw[h1,h3],h4]
def NI{c:Nat}:∀{l m:@&(@&Nat)},l≠[]->m≠[]->(∀a∈l,c∉a)->(∀a∈m,c∉a)->jn c l=jn c m->l=m
 |[],_,h,_,_,_,_=>absurd rfl h
 |_::_,[],_,h,_,_,_=>absurd rfl h
 |[a],[b],_,_,_,_,h=>by rw[show a=b from h]
 |[a],b::d::r,_,_,h1,_,h=>absurd (by rw[show a=_ from h,V2];simp) (h1 a #[_])
 |b::d::r,[a],_,_,_,h2,h=>absurd (by rw[<- show _=a from h,V2];simp) (h2 a #[_])
 |a::b::r,d::e::s,_,_,h1,h2,h=>by
  rw[V2,V2] at h;let#[h3,h4]:=Lx (h1 a #[_]) (h2 d #[_]) h;rw[h3,NI #[_] #[_] (λx hx=>h1 x (by simp[hx])) (λx hx=>h2 x (by simp[hx])) h4]
def Ac{c:Nat}:∀ys:@&Str,(PySem.Str.join #[(List.toArray [c])] ys).cps.toList=jn c (ys.map λy=>y.cps.toList)
 |[]=>rfl
 |[y]=>rfl
 |y::z::r=>by
  let ih:=Ac (c:=c) (z::r);show(y++(#[(List.toArray [c])]:Str)++PySem.Str.join #[(List.toArray [c])] (z::r)).cps.toList=_;rw[AY,AY,jA,jA,ih,bQ,bQ,bQ,V2,gG]
  rfl
def Y7{ys:@&Str}(fE:ys≠[])(hf:∀y∈ys,c∉y.cps.toList):Txt.split (Builtin.Str.glued #[(List.toArray [c])] ys) #[(List.toArray [c])]=ys:=by
 let h1:=StrLaws.join_split (Builtin.Str.glued #[(List.toArray [c])] ys) #[(List.toArray [c])];let h2:=StrLaws.split_free (Builtin.Str.glued #[(List.toArray [c])] ys) c;let h3:Txt.split (Builtin.Str.glued #[(List.toArray [c])] ys) #[(List.toArray [c])]≠[]:=λz=>by
  have:=PyProof.Rows.split_pos (Builtin.Str.glued #[(List.toArray [c])] ys) #[(List.toArray [c])];rw[z] at this;show absurd this ∅
 generalize Txt.split (Builtin.Str.glued #[(List.toArray [c])] ys) #[(List.toArray [c])]=zs at *;rw[StrLaws.glued_eq_join] at h1;let e:jn c (zs.map λy=>y.cps.toList)=jn c (ys.map λy=>y.cps.toList):=by rw[<- Ac,<- Ac,h1]
 have:=NI (_/h3) (_/fE) (λa ha=>by let#[y,hy,rfl]:=aP.mp ha;show h2 y hy) (λa ha=>by let#[y,hy,rfl]:=aP.mp ha;show hf y hy) e;show List.map_inj_right (λx y h=>by cases x;cases y;simpa using h) |>.mp this
def Ki(m:Nat):(Str.ofString (toString ((m:Nat):Int))).cps.toList=(Nat.toDigits 10 m).map Char.toNat:=PySem.W.KIN.signs_num m
def Mj(h:0<=i):∀c∈(Str.ofString (toString i)).cps.toList,48<=c/\c<=57:=by
 let#[m,rfl]:=tF h;intro c hc;rw[Ki] at hc;let#[d,hd,rfl]:=aP.mp hc;have:=Nat.isDigit_of_mem_toDigits (b:=10) ∅ ∅ hd;simp only[Char.isDigit,Bool.and_eq_true,decide_eq_true_eq] at this;show#[this.1,this.2]
def Sh(h:0<=i/\i<=9999):1<=(Str.ofString (toString i)).length/\(Str.ofString (toString i)).length<=4:=by
 let#[m,rfl]:=tF h.1;let e:(Str.ofString (toString ((m:Nat):Int))).length=(Nat.toDigits 10 m).length:=by
  show(Str.ofString (toString ((m:Nat):Int))).cps.size=_;rw[<- bS,Ki,aj]
 rw[e];show#[Nat.length_toDigits_pos,(Nat.length_toDigits_le_iff ∅ ∅).mpr ()]
def Yb(h:48<=c/\c<=57):(Builtin.Str.occurrences "0123456789" #[(List.toArray [c])] 0 ("0123456789":Str).length 1).isEmpty=false:=by
 obtain rfl|rfl|rfl|rfl|rfl|rfl|rfl|rfl|rfl|rfl:c=48\/c=49\/c=50\/c=51\/c=52\/c=53\/c=54\/c=55\/c=56\/c=57:=by omega
 all_goals decide +kernel
def UL(h:0<=i/\i<=9999):PySem.intText? (Str.ofString (toString i))=!i:=PySem.W.KIN.num_reads h.1 ()
open Lean Parser.Tactic in
local macro_rules|`(tactic|walk_at"w1")=>do
 let q<-`(?_)
 let N:=fun k (l:List Syntax)=>Syntax.node .none k l.toArray
 let a:Array (TSyntax ``tacticSeq):=([`FT,`Fu,`Fv,`Ji,`Ln,`vn,`MG,`Lr,`Fs,`E3,`rh,`w_lit,`qO,`yA,`JO,`Lq,`MB,`w_and,`w_or,`w_not,`w_ite,`FR,`Lo,`MC,`Ft,`yi,`Ls,`Jj,`Lu,`Fw,`Fx,`HM,`HP,`Jh,`Jt,`Js,`Jr,`Jq,`HZ,`EX,`HY,`Il,`Ia,`Ie,`Ih,`Ig,`Ij,`Ik,`Ii,`pT,`Ib,`Ic,`xO,`xP,`AD,`JJ,`LB,`NH,`oZ,`pZ,`Jy,`Jz,`IG,`rB,`Oc,`Ob,`vI,`IH,`Fo].map fun n=>⟨N ``tacticSeq [N ``tacticSeq1Indented [mkNullNode [N ``refine [mkAtom "refine",Syntax.mkApp (mkIdent n) [q].toArray]].toArray]]⟩).toArray
 `(tactic|with_reducible first|(refine w_var (d:=?_) ?_ ?_;rotate_left;·with_unfolding_all rfl)$[|$a]*)
local macro_rules|`(tactic|walk_at"w2")=>`(tactic|repeat(with_reducible first|walk_at "w1"|refine uM (by simp) ?_|refine uL (by simp) ?_|refine A5 (a6 (by assumption)) (by with_unfolding_all rfl) ?_|refine n8 (a6 (by assumption)) ?_|refine sX (by unfold T7;decide) ?_))
local macro_rules|`(tactic|walk_at"w3")=>`(tactic|repeat(with_reducible first|walk_at "w1"|refine uM (by simp) ?_|refine uL (by simp) ?_|refine A5 (a6 (by assumption)) (by with_unfolding_all rfl) ?_|refine n8 (a6 (by assumption)) ?_|refine sX (by unfold T7;decide) ?_|refine And.intro (show List.length _ <= 1000 from by simp) ?_|refine yt (by with_unfolding_all rfl) ?_|refine p7 ?_|refine oA (by with_unfolding_all rfl) ?_))
open Lean Parser.Tactic in
local macro_rules|`(tactic|walk_at"")=>do
 let q<-`(?_)
 let N:=fun k (l:List Syntax)=>Syntax.node .none k l.toArray
 let a:Array (TSyntax ``tacticSeq):=([`MF,`Jk,`Lp,`Im,`vt,`vq,`max2,`min2,`IE,`mn,`Dc,`ID,`p7,`PQ].map fun n=>⟨N ``tacticSeq [N ``tacticSeq1Indented [mkNullNode [N ``refine [mkAtom "refine",Syntax.mkApp (mkIdent n) [q].toArray]].toArray]]⟩).toArray
 `(tactic|repeat(with_reducible first|walk_at "w1"|refine uM (by simp) ?_|refine uL (by simp) ?_|refine A5 (a6 (by assumption)) (by with_unfolding_all rfl) ?_|refine n8 (a6 (by assumption)) ?_|refine sX (by unfold T7;decide) ?_|refine And.intro (show List.length _ <= 1000 from by simp) ?_|refine yt (by with_unfolding_all rfl) ?_|refine oA (by with_unfolding_all rfl) ?_|refine And.intro (F5 (by assumption)) ?_|refine And.intro (rL (by assumption)) ?_|refine And.intro (Bs (by assumption)) ?_|refine V0 (by decide) ?_|refine tj (by decide) (by decide) ?_$[|$a]*))
set_option hygiene true
def O7:aW:=#[1,2,(cV (.gI (.cL (.eG (.chain .Lt .LtE (bc 0) (bH .len aC) (bc 4)))) (.cL (.eG (bH .all (.comp [] 2 (.one 1) (.jg aC) .no (bB (.cmp .In) aI (bt "0123456789"))))))) (bT (.lit .aO)) (eI 1 (bH .int aC) (cV (cP .NotEq (bH .str aI) aC) (bT (.lit .aO)) (bT aI))))]
def U4:aW:=#[2,2,(cV (cP .Eq aC (bt "side")) (bT aI) (bT (jG 166 aI)))]
def ED:aW:=#[1,4,(gL (.lO 1 2 (.dk .split aC (dR (bt " ")))) (cV (.gI (.eG (bB .nK (.lit (.tup [(.tup [(.str "cut"),(.tup [(.str "side")])]),(.tup [(.str "fix"),(.tup [(.str "number")])]),(.tup [(.str "off"),(.tup [(.str "number")])]),(.tup [(.str "mark"),(.tup [(.str "side"),(.str "number"),(.str "number")])]),(.tup [(.str "strike"),(.tup [(.str "number"),(.str "number")])]),(.tup [(.str "year"),(.tup [(.str "number")])])])) aI)) (cP .NotEq (bH .len bp) (bH .len (bB .kS (.lit (.tup [(.tup [(.str "cut"),(.tup [(.str "side")])]),(.tup [(.str "fix"),(.tup [(.str "number")])]),(.tup [(.str "off"),(.tup [(.str "number")])]),(.tup [(.str "mark"),(.tup [(.str "side"),(.str "number"),(.str "number")])]),(.tup [(.str "strike"),(.tup [(.str "number"),(.str "number")])]),(.tup [(.str "year"),(.tup [(.str "number")])])])) aI)))) (bT (.lit .aO)) (eI 3 (.comp [] 3 (.many [1,2]) (.og (bB .kS (.lit (.tup [(.tup [(.str "cut"),(.tup [(.str "side")])]),(.tup [(.str "fix"),(.tup [(.str "number")])]),(.tup [(.str "off"),(.tup [(.str "number")])]),(.tup [(.str "mark"),(.tup [(.str "side"),(.str "number"),(.str "number")])]),(.tup [(.str "strike"),(.tup [(.str "number"),(.str "number")])]),(.tup [(.str "year"),(.tup [(.str "number")])])])) aI) bp) .no (dO 252 aI bp)) (cV (cP .In (.lit .aO) dc) (bT (.lit .aO)) (bT (bH .tuple (bB (.bin .Add) (bH .lst aI) dc)))))))]
def T5:aW:=#[1,2,(eI 1 (.dk .split aC (dR (bt " "))) (cV (.gI (cP .NotEq (bH .len aI) (bc 2)) (cP .NotEq (bV aI (bc 0)) (bt "mint"))) (eK (.expr .no)) (eK (.T4 (bT (.make "Ledger" 243 (dR (jG 166 (bV aI (bc 1)))))) [("BadAnvils",.no)]))))]
def Z0:aW:=#[1,5,(eI 1 (.dk .split aC (dR (bt "\n"))) (eI 2 (jG 254 (bV aI (bc 0))) (qw (.one 3) (.iC (bc 1) (bH .len aI)) (eI 4 (jG 253 (bV aI dc)) (cV (cP .Is eX (.lit .aO)) (eK (.expr .no)) (eK (.T4 (eK (.expr (.bg "do" [("Ledger",245)] bp (dR eX)))) [("MintError",.no)])))) (bT bp))))]
structure TX(T:Nat->Option aW):Prop where
 pE:T 166=!O7
 wZ:T 252=!U4
 CG:T 253=!ED
 CD:T 254=!T5
 CC:T 255=!Z0
section
variable{T:Nat->Option aW}
def WJ(hz:-x<=100000)(h:Q (.int (-x)) g):cw .len [.str x] g Q:=#[_,_,#[rfl,.inr (.inr #[x,rfl,hz,rfl])],h]
def asc(h:∀c∈x.cps.toList,48<=c/\c<=57):x.cps.all (·<128)=true:=by
 rw[<- Array.all_toList,cR];intro c hc;have:=h c hc;show aB ()
def Lw:∀n:Nat,K7 (List.replicate n (.bl true))=!true
 |0=>rfl
 |n+1=>by
  rw[dA];show(K7 (List.replicate n (.bl true))).map _=_;rw[Lw n]
  rfl
def Nj(pE:T 166=!O7)(hi:0<=i/\i<=9999)(h:∀g',Ex g g'->Q (.int i) g'):a8 T (k+1) 166 [.str (nT i)] g Q E:=by
 let hl:=Sh hi;let hd:=Mj hi.1;show call_of pE rfl ?_;delta O7;exists WJ (by show(Str.ofString (toString i)).length<=100000;omega) ?_;left;rw[aB (show(0:Int)<((nT i).length:Int) by show(0:Int)<((Str.ofString (toString i)).length:Int);omega)];left;rw[aB (show((nT i).length:Int)<=4 by show((Str.ofString (toString i)).length:Int)<=4;omega)];exists S0 (b8 T _) (PN (b8 T _) ?_);exists#[_,rfl,asc hd,sgn (nT i),λj ys σ g'=>(∃z,σ=[none,z])/\g'=g/\ys=List.replicate j (.bl true),?_,λj ys σ g' p=>#[G0,?_],#[#[none,rfl],rfl,rfl],λj x ys σ g' hx p=>?_,λys σ g' p=>?_]
 .have:(sgn (nT i)).length=(Str.ofString (toString i)).length:=by
   unfold sgn;rw[aj,bS]
   rfl
  omega
 .let#[_,_,rfl]:=p;simp
 .let#[#[z,rfl],rfl,rfl]:=p;unfold sgn at hx;rw[aG,ae] at hx;let#[c,hc,rfl]:=hx;show p7 ?_
  try show dM _ _ _ _ _ _
  exists Wd ?_;change _/\_/\_++[D.bl (~~~(Builtin.Str.occurrences "0123456789" #[(List.toArray [c])] 0 ("0123456789":Str).length 1).isEmpty)]=_;rw[Yb (hd c (aQ hc))];show#[#[_,rfl],rfl,jb.symm]
 .let#[#[z,rfl],rfl,rfl]:=p;let e1:Ex g' (g'++[.lst (List.replicate (sgn (nT i)).length (.bl true))]):=Ex.snoc _ _;let b1:(g'++[.lst (List.replicate (sgn (nT i)).length (.bl true))])[(-g')]?=!(.lst (List.replicate (sgn (nT i)).length (.bl true))):=b9;generalize g'++[.lst (List.replicate (sgn (nT i)).length (.bl true))]=g1 at *;show EV (a6 b1) (Lw _) ?_;exists Ww (by show(Str.ofString (toString i)).length<=640;omega) (UL hi) ?_;exists IM (ax (AI hi) ∅) ?_;left;rw[aB rfl];left;show h _ e1
noncomputable abbrev N4(v:Int):Prop:=0<=v/\v<=9999
abbrev Dd.good:Dd->Prop
 |.cut x=>u4 x
 |.fix v=>N4 v
 |.off v=>N4 v
 |.mark x v j=>u4 x/\N4 v/\N4 j
 |.eU a b=>N4 a/\N4 b
 |.year n=>N4 n
def FY(f:D)(w:Str)(t:D):Prop:=(f=.str "side"/\u4 w/\t=.str w)\/(f=.str "number"/\∃i,N4 i/\w=nT i/\t=.int i)
def VB(hX:TX T){f t:D}{w:Str}(h0:FY f w t)(h:∀g',Ex g g'->Q t g'):a8 T (k+2) 252 [f,.str w] g Q E:=by
 rcases h0 with⟨rfl,_,rfl⟩|⟨rfl,i,hi,rfl,rfl⟩
 .refine call_of hX.wZ rfl ?_;delta U4;exists fK #[] ?_;left;show h _ (Ex.refl _)
 .refine call_of hX.wZ rfl ?_;delta U4;exists dw #[] ?_;exists Nj hX.pE hi λg' e=>?_;left;show h _ e
inductive mJ:@&D->@&Str->@&D->Prop
 |nil:mJ [] [] []
 |cons {f:D} {w:Str} {t:D} {fs:@&D} {ws:@&Str} {ts:@&D} (h:FY f w t) (r:mJ fs ws ts):mJ (f::fs) (w::ws) (t::ts)
def mJ.len{fs:@&D}{ws:@&Str}(R:mJ fs ws ts):-fs=-ws/\-ts=-fs:=by
 induction R with
 |nil=>show#[rfl,rfl]
 |cons _ _ ih=>show#[by simp[ih.1],by simp[ih.2]]
def mJ.get{fs:@&D}{ws:@&Str}(R:mJ fs ws ts):∀{i:Nat} {x:D},(T1 fs (ws.map .str))[i]?=!x->∃f w t,x=.tup [f,.str w]/\FY f w t/\ts[i]?=!t:=by
 induction R with
 |nil=>intro i x h;simp[T1] at h
 |@cons f w t fs ws ts h r ih =>
  intro i x hx;cases i with
  |zero =>
   have:x=.tup [f,.str w]:=by simpa[T1,eq_comm] using hx
   show#[f,w,t,this,h,rfl]
  |succ i =>
   have:(T1 fs (ws.map .str))[i]?=!x:=by simpa[T1] using hx
   let#[f',w',t',e,h',e']:=ih this;show#[f',w',t',e,h',by simpa using e']
def mJ.ok{fs:@&D}{ws:@&Str}(R:mJ fs ws ts):∀t∈ts,(∃i,t=.int i)\/∃y,t=.str y/\PyData.strOk y=true:=by
 induction R with
 |nil=>intro t h;cases h
 |cons h r ih =>
  intro t ht;rcases aE.mp ht with rfl|ht
  .rcases h with⟨_,hs,rfl⟩|⟨_,i,_,_,rfl⟩
   .refine .inr #[_,rfl,?_];rcases hs with rfl|rfl<;>decide +kernel
   .exact .inl #[i,rfl]
  .exact ih t ht
def NT{g:G}:∀{l:@&D},(∀t∈l,(∃i,t=.int i)\/∃y,t=.str y/\PyData.strOk y=true)->∃ps,qi g l=!ps/\PyData.canLayAll0 ps=true/\(ps.any λq=>PyData.eqv q .none)=false
 |[],_=>#[[],rfl,rfl,rfl]
 |t::l,h=>by
  let#[ps,e,c,a]:=NT (l:=l) λx hx=>h x (by simp[hx]);let go:∀p,rd g 6 t=!p->p.canLay0=true->PyData.eqv p .none=false->∃ps,qi g (t::l)=!ps/\PyData.canLayAll0 ps=true/\(ps.any λq=>PyData.eqv q .none)=false:=λp e1 c1 a1=>by
   show#[p::ps,?_,?_,?_]
   .show(t::l).mapM (rd g 6)=_;rw[oK,e1,show l.mapM (rd g 6)=some ps from e]
    rfl
   .show(p.canLay0&&PyData.canLayAll0 ps)=true;rw[c1,c]
    rfl
   .rw[eL,a1,a]
    rfl
  rcases h t #[_] with⟨i,rfl⟩|⟨y,rfl,hy⟩
  .exact go (.int i) rfl rfl rfl
  .exact go (.str y) rfl hy rfl
def YB{l:@&D}{kb:Bool->Prop}(ha:g[a]?=!.lst l)(hl:∀t∈l,(∃i,t=.int i)\/∃y,t=.str y/\PyData.strOk y=true)(h:kb false):rQ g .aO (.ref a) kb:=by
 let#[ps,e,c,b]:=NT (g:=g) hl;show#[_,.inr #[l,ps,.none,a6 ha,e,rfl,c,rfl,b.symm],h]
abbrev Dd.wd:Dd->Str
 |.cut _=>"cut"
 |.fix _=>"fix"
 |.off _=>"off"
 |.mark _ _ _=>"mark"
 |.eU _ _=>"strike"
 |.year _=>"year"
abbrev Dd.fs:Dd->@&D
 |.cut _=>[.str "side"]
 |.fix _=>[.str "number"]
 |.off _=>[.str "number"]
 |.mark _ _ _=>[.str "side",.str "number",.str "number"]
 |.eU _ _=>[.str "number",.str "number"]
 |.year _=>[.str "number"]
def Dd.b41:dd.l=.str dd.wd::dd.l.tail:=by cases dd<;>rfl
def Dd.DD:dd.l.map txt=dd.wd::dd.l.tail.map txt:=by cases dd<;>rfl
def Dd.qi(h:dd.good):mJ dd.fs (dd.l.tail.map txt) dd.l.tail:=by
 cases dd with
 |cut x=>show .cons (.inl #[rfl,h,rfl]) .nil
 |fix v=>show .cons (.inr #[rfl,v,h,rfl,rfl]) .nil
 |off v=>show .cons (.inr #[rfl,v,h,rfl,rfl]) .nil
 |mark x v j=>show .cons (.inl #[rfl,h.1,rfl]) (.cons (.inr #[rfl,v,h.2.1,rfl,rfl]) (.cons (.inr #[rfl,j,h.2.2,rfl,rfl]) .nil))
 |eU a b=>show .cons (.inr #[rfl,a,h.1,rfl,rfl]) (.cons (.inr #[rfl,b,h.2,rfl,rfl]) .nil)
 |year n=>show .cons (.inr #[rfl,n,h,rfl,rfl]) .nil
def zZ(h:N4 i)(hc:c<48):c∉(nT i).cps.toList:=λz=>by
 have:=Mj h.1 c z;omega
def Yf:32∉dd.wd.cps.toList/\10∉dd.wd.cps.toList:=by
 cases dd
 .exact(by decide +kernel:32∉("cut":Str).cps.toList/\10∉("cut":Str).cps.toList)
 .exact(by decide +kernel:32∉("fix":Str).cps.toList/\10∉("fix":Str).cps.toList)
 .exact(by decide +kernel:32∉("off":Str).cps.toList/\10∉("off":Str).cps.toList)
 .exact(by decide +kernel:32∉("mark":Str).cps.toList/\10∉("mark":Str).cps.toList)
 .exact(by decide +kernel:32∉("strike":Str).cps.toList/\10∉("strike":Str).cps.toList)
 .exact(by decide +kernel:32∉("year":Str).cps.toList/\10∉("year":Str).cps.toList)
def Up(h:u4 x):32∉x.cps.toList/\10∉x.cps.toList:=by rcases h with rfl|rfl<;>decide +kernel
def mJ.free{fs:@&D}{ws:@&Str}(R:mJ fs ws ts):∀w∈ws,32∉w.cps.toList/\10∉w.cps.toList:=by
 induction R with
 |nil=>intro t h;cases h
 |cons h r ih =>
  intro t ht;rcases aE.mp ht with rfl|ht
  .rcases h with⟨_,hs,_⟩|⟨_,i,hi,rfl,_⟩
   .exact Up hs
   .exact#[zZ hi ∅,zZ hi ∅]
  .exact ih t ht
def Dd.free(h:dd.good):∀w∈dd.l.map txt,32∉w.cps.toList/\10∉w.cps.toList:=by
 intro w hw;rw[Dd.DD] at hw;rcases aE.mp hw with rfl|hw
 .exact Yf
 .exact(Dd.qi h).free w hw
def DF:(" ":Str)=#[(List.toArray [32])]:=by decide +kernel
def b08:("\n":Str)=#[(List.toArray [10])]:=by decide +kernel
def a19(h:dd.good):Txt.split (v9 dd) " "=dd.wd::dd.l.tail.map txt:=by
 unfold v9;rw[DF,Y7 (by rw[Dd.DD];simp) λy hy=>(Dd.free h y hy).1,Dd.DD]
noncomputable abbrev Ye:@&D:=[(.tup [(.str "cut"),(.tup [(.str "side")])]),(.tup [(.str "fix"),(.tup [(.str "number")])]),(.tup [(.str "off"),(.tup [(.str "number")])]),(.tup [(.str "mark"),(.tup [(.str "side"),(.str "number"),(.str "number")])]),(.tup [(.str "strike"),(.tup [(.str "number"),(.str "number")])]),(.tup [(.str "year"),(.tup [(.str "number")])])]
def DW:Y3 Ye dd.wd=!.tup dd.fs:=by cases dd<;>rfl
def a88(hX:TX T)(hf:dd.fit)(hg:dd.good)(h:∀g',Ex g g'->Q dd.d g'):a8 T (k+3) 253 [.str (v9 dd)] g Q E:=by
 let R:=Dd.qi hg;let hl:=R.len;let h4:=dd.Fe;let ht:-dd.l.tail<=3:=by rw[List.length_tail];omega
 show call_of hX.CG rfl ?_;delta ED;exists bB9 ?_;exists#[FI,?_];exists m_split #[] (aF (DZ hf).2 ∅) (a19 hg) (by simp;omega) ?_;let e1:Ex g (g++[.lst ((dd.wd::dd.l.tail.map txt).map .str)]):=Ex.snoc _ _;let b1:(g++[.lst ((dd.wd::dd.l.tail.map txt).map .str)])[(-g)]?=!(.lst ((dd.wd::dd.l.tail.map txt).map .str)):=b9;generalize g++[.lst ((dd.wd::dd.l.tail.map txt).map .str)]=g1 at *;show#[_,_,_,rfl,a6 b1,?_];let e2:Ex g (g1++[.lst ((dd.l.tail.map txt).map .str)]):=e1.trans (Ex.snoc _ _);let b2:(g1++[.lst ((dd.l.tail.map txt).map .str)])[(-g1)]?=!(.lst ((dd.l.tail.map txt).map .str)):=b9;generalize (-g1)=j at *;generalize g1++[.lst ((dd.l.tail.map txt).map .str)]=g2 at *;exists dw (by rw[DW];rfl) ?_;exists uJ DW ?_;exists dw (by rw[gf,decide_eq_true_eq,aj,hl.1]) ?_;exists S0 (b8 T _) (PL ?_);exists uJ DW ?_;exists#[_,_,_,rfl,rfl,a6 b2,T1 dd.fs ((dd.l.tail.map txt).map .str),λi ys σ g'=>(∃z1 z2,σ=[none,z1,z2])/\Ex g2 g'/\ys=dd.l.tail.take i,?_,λi ys σ g' p=>#[Yj (a6 (p.2.1.at b2)) (by rw[aj,hl.1]),?_],#[#[none,none,rfl],Ex.refl _,rfl],λi x ys σ g' hx p=>?_,λys σ g' p=>?_]
 .have:(T1 dd.fs ((dd.l.tail.map txt).map .str)).length<=-dd.fs:=by unfold T1;rw[aj,mT];omega
  omega
 .let#[_,_,rfl]:=p;rw[cG];omega
 .let#[#[z1,z2,rfl],e3,rfl]:=p;let#[f,w,t,rfl,hr,mH]:=R.get hx;show yt rfl ?_
  try show dM _ _ _ _ _ _
  exists VB hX hr λg3 e4=>?_;show#[#[_,_,rfl],e3.trans e4,?_];rw[dW,mH]
  rfl
 .let#[#[z1,z2,rfl],e3,rfl]:=p;let e5:dd.l.tail.take (T1 dd.fs ((dd.l.tail.map txt).map .str)).length=dd.l.tail:=by
   show ir ?_;unfold T1;rw[aj,mT,aj,aj];rw[aj] at hl;omega
  rw[e5];let e4:Ex g (g'++[.lst dd.l.tail]):=(e2.trans e3).trans (Ex.snoc _ _);let b4:(g'++[.lst dd.l.tail])[(-g')]?=!.lst dd.l.tail:=b9;generalize (-g')=v at *;generalize g'++[.lst dd.l.tail]=g3 at *;exists T6 (YB b4 R.ok ?_);left;let e6:Ex g (g3++[.lst [.str dd.wd]]):=e4.trans (Ex.snoc _ _);let b6:(g3++[.lst [.str dd.wd]])[(-g3)]?=!.lst [.str dd.wd]:=b9;let b5:(g3++[.lst [.str dd.wd]])[v]?=!.lst dd.l.tail:=DO b4;show HW b6 b5 (by rw[cH,List.length_nil];omega) ?_;show Fn (a6 b9) ?_;let e7:([.str dd.wd]++dd.l.tail:@&D)=dd.l:=Dd.b41.symm;rw[e7,<- Dd.zH];show h _ (e6.trans (Ex.snoc _ _))
end
structure Ent where
 dd:Dd
 mi:Nat
 mo:Nat
 st:bW
def s9(t:Ent):D:=.tup [t.dd.d,.ref t.mo]
abbrev Ent.key(t:Ent):Dd×bW:=(t.dd,t.st)
abbrev d7:bW->@&(Dd×bW)->bW
 |s,[]=>s
 |_,t::r=>d7 t.2 r
abbrev fL:bW->@&(Dd×bW)->Prop
 |_,[]=>True
 |s,t::r=>((dt s t.1).1=""/\(dt s t.1).2.2=t.2/\t.1.ok)/\fL t.2 r
def U7:∀{s:bW} {l:@&(Dd×bW)} {t:Dd×bW},d7 s (l++[t])=t.2
 |_,[],_=>rfl
 |_,x::r,t=>U7 (s:=x.2) (l:=r) (t:=t)
def fL.app:∀{s:bW} {l m:@&(Dd×bW)},fL s (l++m)↔fL s l/\fL (d7 s l) m
 |_,[],_=>#[λh=>#[trivial,h],λh=>h.2]
 |_,t::r,m=>#[λh=>#[#[h.1,(fL.app.mp h.2).1],(fL.app.mp h.2).2],λh=>#[h.1.1,fL.app.mpr #[h.1.2,h.2]]]
def fL.fit:∀{s:bW} {l:@&(Dd×bW)},WS s->fL s l->∀t∈l,t.1.fit
 |_,[],_,_=>λt h=>by simp at h
 |s,x::r,W,h=>λt ht=>by
  rcases aE.mp ht with rfl|ht
  .exact NB W h.1.1
  .exact fL.fit (by rw[<- h.1.2.1];show AB W) h.2 t ht
def fL.bl:∀{s:bW} {l:@&(Dd×bW)},fL s l->(d7 s l).bl.length=-s.bl
 |_,[],_=>rfl
 |s,x::r,h=>by
  let h1:=fL.bl h.2;rw[<- h.1.2.1,Iw] at h1;rw[<- h1];show(d7 x.2 r).bl.length=_;rw[h.1.2.1]
section
variable{S:Nat->Prop}
def MD.pP(M:MD g q s)(F:Fr S g g')(h:∀x,q<=x->x<q+7->¬S x):MD g' q s :=
 #[F.at (h _ () ()) M.bZ,F.at (h _ () ()) M.de,F.at (h _ () ()) M.lower,F.at (h _ () ()) M.upper,F.at (h _ () ()) M.gone,F.at (h _ () ()) M.df]
def i8.pP(D:i8 g d)(F:Fr S g g')(h:∀x,x<=d->¬S x):i8 g' d:=by
 let#[u,v,w,x,xs,e1,e2,e3,e4]:=D.ex;show#[u,v,w,x,xs,F.at (h _ (ak _)) e1,F.at (h _ ()) e2,e3,e4]
def IA(G1:Gr d g g'):Fr (λx=>x=d) g g':=#[G1.len,λi hi hl=>G1.old i hi hl]
end
section
variable{T:Nat->Option aW}
def Q3{x:Int}(h:sP (.int x)):N4 x:=by
 rcases h with⟨y,h,_⟩|⟨i,h,h1,h2⟩
 .cases h
 .cases h;show#[h1,h2]
set_option tactic.hygienic true in
def RK(W:WS s)(e:(dt s dd).1=""):dd.good:=by
 let f:=NB W e;cases dd with
 |cut y =>
  simp only[dt] at e;unfold w6 at e;split at e
  .rename_i hs;show hs
  .exact absurd e (by dsimp only;decide +kernel)
 |fix v=>show Q3 (f _ (by simp[Dd.l]))
 |off v=>show Q3 (f _ (by simp[Dd.l]))
 |mark y v j =>
  show#[?_,Q3 (f _ (by simp[Dd.l])),Q3 (f _ (by simp[Dd.l]))];simp only[dt] at e;unfold d9 at e;split at e
  .rename_i hs;show hs
  .exact absurd e (by dsimp only;decide +kernel)
 |eU a b=>show#[Q3 (f _ (by simp[Dd.l])),Q3 (f _ (by simp[Dd.l]))]
 |year n=>show Q3 (f _ (by simp[Dd.l]))
def NJ{c d:Nat}(hd:d≠c):∀{l:@&(@&Nat)},(∀a∈l,d∉a)->d∉jn c l
 |[],_=>by simp[jn]
 |[a],h=>h a #[_]
 |a::b::r,h=>by
  rw[V2];intro z;rcases bh.mp z with z|z
  .exact h a #[_] z
  .rcases aE.mp z with z|z
   .exact hd z
   .exact NJ hd (l:=b::r) (λx hx=>h x (by simp[hx])) z
def Vh(h:dd.good):10∉(v9 dd).cps.toList:=by
 unfold v9;rw[DF,StrLaws.glued_eq_join,Ac];show NJ ∅ λa ha=>?_;let#[y,hy,rfl]:=aP.mp ha;show(Dd.free h y hy).2
def Um:("mint ":Str)++nT n=Builtin.Str.glued " " ["mint",nT n]:=by
 let e:("mint ":Str)=("mint":Str)++(" ":Str):=by decide +kernel
 rw[e]
 rfl
def N4.of(hn:1<=n/\n<=9):N4 (n:Int):=#[by omega,by omega]
def Kg:32∉("mint":Str).cps.toList/\10∉("mint ":Str).cps.toList:=by decide +kernel
def aL5(hn:1<=n/\n<=9):Txt.split (("mint ":Str)++nT n) " "=[("mint":Str),nT n]:=by
 rw[Um,DF,Y7 #[_] λy hy=>?_];rcases aE.mp hy with rfl|hy
 .exact Kg.1
 .cases cc.mp hy;show zZ (N4.of hn) ∅
def aT1(hn:1<=n/\n<=9)(hd:∀dd∈ds,dd.good):Txt.split (U0 n ds) "\n"=(("mint ":Str)++nT n)::ds.map v9:=by
 unfold U0;rw[b08,Y7 #[_] λy hy=>?_];rcases aE.mp hy with rfl|hy
 .rw[AY,jA];intro z;rcases bh.mp z with z|z
  .exact Kg.2 z
  .exact zZ (N4.of hn) ∅ z
 .let#[dd,h,rfl]:=aP.mp hy;show Vh (hd dd h)
def aW7(hX:TX T)(hL:TL T)(hT:TM T)(hn:1<=n/\n<=9)(h:∀g1,Ex g g1->Q (.ref (-g1)) (g1++[X3 (-g1+2) (-g1+3) (-g1+4),c5 (s0 n),.lst [.ref (-g1+1)],.lst [],.lst []])):a8 T (k+6) 254 [.str (("mint ":Str)++nT n)] g Q E:=by
 show call_of hX.CD rfl ?_;delta T5;exists#[FI,?_];left;let h5:("mint ":Str).length=5:=by decide +kernel
 show m_split #[] (by rw[mr,h5];have:=FJ (N4.of hn);omega) (aL5 hn) #[_] ?_;let e1:Ex g (g++[.lst ([("mint":Str),nT n].map D.str)]):=Ex.snoc _ _;let b1:(g++[.lst ([("mint":Str),nT n].map D.str)])[(-g)]?=!.lst [.str "mint",.str (nT n)]:=b9;generalize (-g)=j at *;generalize g++[.lst ([("mint":Str),nT n].map D.str)]=g1 at *;exists dw rfl ?_;exists dw #[] ?_;exists Nj hX.pE (N4.of hn) λg2 e2=>?_;exists MW hL hT (λn' e h1 h9=>?_) λz=>absurd #[by omega,by omega] z;obtain rfl:n=n':=by omega
 show#[rfl,h _ (e1.trans e2)]
def fL.good:∀{s:bW} {l:@&(Dd×bW)},WS s->fL s l->∀t∈l,t.1.good
 |_,[],_,_=>λt h=>by simp at h
 |s,x::r,W,h=>λt ht=>by
  rcases aE.mp ht with rfl|ht
  .exact RK W h.1.1
  .exact fL.good (by rw[<- h.1.2.1];show AB W) h.2 t ht
end
section
variable{T:Nat->Option aW}{ms:@&(Nat×bW)}
def Vf(hX:TX T)(hL:TL T)(hT:TQ T)(hn:1<=n/\n<=9){l:@&(Dd×bW)}(hc:fL (s0 n) l)(W0:WS (s0 n))(hz:-l<=900)(h:∀g' r p q u ms m,Ex g g'->(∀x,L7 r p q u (ms++[(m,d7 (s0 n) l)]) x->-g<=x)->(ms++[(m,d7 (s0 n) l)]).map (·.2)=s0 n::l.map (·.2)->Led g' r p q u (ms++[(m,d7 (s0 n) l)]) (l.map (·.1)) []->Q (.ref r) g'):a8 T (k+9) 255 [.str (U0 n (l.map (·.1)))] g Q E:=by
 let hg:=fL.good W0 hc;let hf:=fL.fit W0 hc;let ts:=aT1 (n:=n) (ds:=l.map (·.1)) hn λdd hd=>by
  let#[t,ht,rfl]:=aP.mp hd;show hg t ht
 let tl:=text_len (n:=n) (ds:=l.map (·.1)) hn.2 (λdd hd=>by
  let#[t,ht,rfl]:=aP.mp hd;show hf t ht) (by rw [aj];omega)
 let OJ:=Er "\n" ((("mint ":Str)++nT n)::(l.map (·.1)).map v9);show call_of hX.CC rfl ?_;delta Z0;exists#[FI,?_];exists m_split #[] (aF OJ tl) ts (by simp;omega) ?_;generalize U0 n (l.map (·.1))=tx at *;let e1:Ex g (g++[.lst (((("mint ":Str)++nT n)::(l.map (·.1)).map v9).map .str)]):=Ex.snoc _ _;let b1:(g++[.lst (((("mint ":Str)++nT n)::(l.map (·.1)).map v9).map .str)])[(-g)]?=!(.lst (.str (("mint ":Str)++nT n)::((l.map (·.1)).map v9).map .str)):=b9;let jl:-g<(g++[O.lst (((("mint ":Str)++nT n)::(l.map (·.1)).map v9).map .str)]).length:=by simp
 generalize hj:-g=j at *;generalize g++[.lst (((("mint ":Str)++nT n)::(l.map (·.1)).map v9).map .str)]=g1 at *;exists A5 (a6 b1) (O1 (j:=0) rfl) ?_;exists aW7 (k:=k+2) hX hL hT.tm hn λg2 e2=>?_;let n2:=Mb (g:=g2) hn;let b2:∀o,(g2++o:G)[j]?=!(.lst (.str (("mint ":Str)++nT n)::((l.map (·.1)).map v9).map .str)):=λo=>by rw[aA (i9 (e2.at b1))];show e2.at b1
 let b2:=b2 [X3 (-g2+2) (-g2+3) (-g2+4),c5 (s0 n),.lst [.ref (-g2+1)],.lst [],.lst []];let l2:-g1<=-g2:=e2.len;let e3:Ex g (g2++[X3 (-g2+2) (-g2+3) (-g2+4),c5 (s0 n),.lst [.ref (-g2+1)],.lst [],.lst []]):=(e1.trans e2).trans #[by simp,λi hi=>aA hi];let rl:-g<=-g2:=(e1.trans e2).len;let jm:j<=-g2+1:=by omega
 let ju:j<=-g2+4:=by omega
 let pl:-g2< -g2+2:=by omega
 let ql:-g2< -g2+3:=by omega
 generalize g2++[X3 (-g2+2) (-g2+3) (-g2+4),c5 (s0 n),.lst [.ref (-g2+1)],.lst [],.lst []]=g3 at *;generalize (-g2)+2=p at *;generalize (-g2)+3=q at *;generalize (-g2)+4=u at *;generalize (-g2)+1=m0 at *;generalize (-g2)=r at *;exists T9 (b8 T _) (DA (b8 T _) ?_);left;left;let ll:((D.str (("mint ":Str)++nT n)::((l.map (·.1)).map v9).map D.str).length:Int)=-l+1:=by simp
 rw[ll];show#[1,_,rfl,rfl,#[by omega,by omega,by omega,by omega],l0 1 ((-l:Int)+1-1).toNat,λi σ g'=>(∃x3 x4,σ=[!.str tx,!.ref j,!.ref r,x3,x4])/\Ex g g'/\g'[j]?=!(.lst (.str (("mint ":Str)++nT n)::((l.map (·.1)).map v9).map .str))/\∃ms m u,Led g' r p q u (ms++[(m,d7 (s0 n) (l.take i))]) ((l.take i).map (·.1)) []/\-ms=i/\(ms++[(m,d7 (s0 n) (l.take i))]).map (·.2)=s0 n::(l.take i).map (·.2)/\j<=u/\j<=m/\∀t∈ms,j<=t.1,λi σ g' p=>G0,#[#[none,none,rfl],e3,b2,[],m0,u,n2,rfl,rfl,ju,jm,by simp],λi y σ g' hy p=>?_,λσ g' p=>?_]
 .let#[#[x3,x4,rfl],e4,b4,ms,m,u',L,hm,hv,hu,tX,jN]:=p;let#[hi,rfl]:=E5 hy;let hi:i< -l:=by omega
  obtain⟨t,ht⟩:∃t,l[i]?=!t:=#[_,aq hi]
  show p7 ?_
  try show wpS _ _ _ _ _ _
  left;let e5:(1:Int)+(i:Int)=((i+1:Nat):Int):=by omega
  let ha:js (D.str (("mint ":Str)++nT n)::((l.map (·.1)).map v9).map D.str) (1+(i:Int))=!.str (v9 t.1):=by
   rw[e5];show O1 (by rw[List.getElem?_cons_succ,aG,aG,aG,ht];rfl)
  show A5 (a6 b4) ha ?_;left;let lY:=aQ ht;show a88 (k:=k+5) hX (hf t lY) (hg t lY) λg4 e6=>?_;exists dw (by rw[Dd.zH];rfl) ?_;left;let L4:=L.ex e6;show c6 L4.ob rfl rfl ?_;left;let sp:l.take i++t::l.drop (i+1)=l:=by
   let h1:=iN i l;rw[gA hi,(az.mp ht).2] at h1;show h1
  let ch:fL (s0 n) (l.take i++t::l.drop (i+1)):=by rw[sp];show hc
  let#[c1,c2]:=fL.app.mp ch;let lt:l.take (i+1)=l.take i++[t]:=by rw[dW,ht];rfl
  show NK (k:=k) hL hT L4 #[by omega,by rw[aj,cG];omega] c2.1.2.2 (λe g5 u5 F h5 L5=>?_) λe=>absurd c2.1.1 e;left;let jr:j<r:=by omega
  let no:∀x:Nat,x<r->¬(x=p\/x=q\/x=r):=λx hx z=>by omega
  let e7:=e4.trans e6;show#[#[_,_,rfl],#[aF e7.len F.len,λx hx=>(F.old x (no x ()) (ax hx e7.len)).trans (e7.old x hx)],F.at (no j jr) (e6.at b4),ms++[(m,d7 (s0 n) (l.take i))],(-g4),u5,?_,by rw[ba,hm];rfl,by rw[lt,U7,ay,hv,ay];rfl,by have:=e7.len;omega,by have:=e7.len;omega,λt ht=>?_]
  rotate_left
  .rcases bh.mp ht with z|z
   .exact jN t z
   .cases cc.mp z;show tX
  rw[lt,U7,ay];rw[c2.1.2.1] at L5;show L5
 .let#[#[x3,x4,rfl],e4,b4,ms,m,u',L,hm,hv,hu,tX,jN]:=p;let el:l.take (l0 1 ((-l:Int)+1-1).toNat).length=l:=by
   rw[C8];show ir ()
  rw[el] at L;left;rw[el] at hv;show h _ _ _ _ _ _ _ e4 (λx hx=>?_) hv L;rcases hx with z|z|z|z|⟨t,ht,z⟩
  .omega
  .omega
  .omega
  .omega
  .rcases bh.mp ht with y|y
   .have:=jN t y;omega
   .cases cc.mp y;rw[z];show tX
end
def S5:aW:=#[2,2,(eK (.T4 (bT (.ite (.eG aI) (.bg "again" [("Ledger",247)] aC .nil) (.bg "back" [("Ledger",246)] aC .nil))) [("Nothing",(.lit .aO))]))]
def xW:aW:=#[3,7,(qw (.one 3) (.fO (bB (.bin .Add) (bc 5) (dO 4 aC (bc 26)))) (eI 4 (jG 192 (bV (bV bp (bH (.un .USub) (bc 1))) (bc 1))) (eI 5 (dO 188 aC eX) (cV (cP .Eq (bV (dO 183 eX ic) (bc 0)) (bt "")) (eK (.expr (.dk .append bp (dR (bB .tup ic eX))))) (eK (.expr (dO 240 aI ic)))))) (eK (.iE (.one 6) (.fO (bB .min (bB (.bin .Sub) (bH .len bp) (bc 1)) (dO 4 aC (bc 4)))) (kC (.bg "back" [("Ledger",246)] aI .nil) (eK (.expr (.dk .je bp .nil)))))))]
def DX:aW:=#[3,3,(cV (.gI (.cL (.eG (bH (.wa "Ledger") aC))) (.cL (.eG (dO 7 (.bg "text" [("Ledger",250)] aC .nil) aI)))) (bT (.lit (.bl false))) (cV (.gI (cP .IsNot (dO 256 aC (.lit (.bl true))) (.lit .aO)) (.cL (.eG (dO 7 (.bg "deeds" [("Ledger",248)] aC .nil) (.comp [] 2 (.one 1) (.jg (bB (.kY true false) bp (bc 1))) .no (bV aI (bc 0))))))) (bT (.lit (.bl false))) (bT (dO 47 (.bg "mint" [("Ledger",249)] aC .nil) (bV (bV bp (bH (.un .USub) (bc 1))) (bc 1))))))]
def O9:aW:=#[4,6,(qw (.one 4) (.fO (bB .min (bB (.bin .Sub) (bH .len dc) (bc 1)) (bB (.bin .Add) (bc 2) (dO 4 aC (bc 12))))) (cV (.gI (.cL (.eG (dO 7 (dO 256 bp (.lit (.bl false))) (bV (bV dc (bH (.un .USub) (bc 1))) (bc 0))))) (cP .Is (dO 256 aI (.lit (.bl false))) (.lit .aO))) (bT (.lit (.bl false))) (eI 5 (.dk .je dc .nil) (eK (.ifs (cP .Eq (dO 4 aC (bc 3)) (bc 0)) (eK (.ifs (.gI (.cL (.eG (dO 7 (dO 256 bp (.lit (.bl true))) (bV ic (bc 0))))) (cP .NotEq (.bg "back" [("Ledger",246)] bp .nil) (bV ic (bc 0)))) (bT (.lit (.bl false))) .pass)) .pass)))) (bT (.eO (dO 47 (.bg "mint" [("Ledger",249)] bp .nil) (bV (bV dc (bH (.un .USub) (bc 1))) (bc 1))) (dO 7 (.bg "text" [("Ledger",250)] bp .nil) (.bg "text" [("Ledger",250)] aI .nil)))))]
def yx:aW:=#[1,13,(eI 1 (jG 3 aC) (eI 2 (bB (.bin .Add) (bc 1) (dO 4 aI (bc 3))) (eI 3 (.make "Ledger" 243 (dR bp)) (eI 4 (bH .lst (bB .tup (.lit .aO) (jG 45 bp))) (kC (mD 272 aI dc eX) (eI 5 (.bg "text" [("Ledger",250)] dc .nil) (eI 6 (jG 255 ic) (eI 7 (jG 255 ic) (eI 8 (bH .list eX) (cV (.cL (.eG (mD 273 lT ic eX))) (bT (.lit (.bl false))) (qw (.one 9) (.fO (bc 2)) (eI 10 (jG 192 (bV (bV eX (bH (.un .USub) (bc 1))) (bc 1))) (eI 11 (dO 188 aI nA) (eI 12 (dO 183 nA lj) (cV (.gI (.cL (.eG (dO 191 (dO 240 lT lj) nz))) (.cL (.eG (dO 191 (dO 240 dc lj) nz)))) (bT (.lit (.bl false))) (cV (cP .NotEq (.bg "text" [("Ledger",250)] lT .nil) (.bg "text" [("Ledger",250)] dc .nil)) (bT (.lit (.bl false))) (eK (.ifs (cP .Eq (bV nz (bc 0)) (bt "")) (eK (.expr (.dk .append eX (dR (bB .tup lj nA))))) .pass))))))) (bT (.eO (GD 274 aI dc lT eX) (mD 273 lS ic vT))))))))))))))]
structure lH(T:Nat->Option aW):Prop where
 tr:TR T
 tv:TV T
 tl:TL T
 tx:TX T
 h3:T 3=!AO
 h6:T 6=!sU
 h7:T 7=!C6
 Rn:T 11=!yx
 Cw:T 45=!zO
 zy:T 47=!Q8
 ui:T 67=!O8
 mj:T 191=!Am
 pD:T 192=!uT
 sy:T 240=!U5
 sx:T 246=!R0
 mh:T 247=!D7
 sv:T 250=!Q9
 sm:T 256=!S5
 CB:T 272=!xW
 CA:T 273=!DX
 Cz:T 274=!O9
section
variable{T:Nat->Option aW}{c0 b r1 r2 r3:Nat}{K K':Nat->Nat}{l l1 l2:@&(Dd×bW)}{eQ gH:@&Dd}{H Hk:@&Ent}{Sx:Nat->Prop}
noncomputable abbrev C4(K:Nat->Nat)(m c:Nat):Nat->Nat:=λx=>if x<m then K x else c
def C9:∀x,x<m->C4 K m c x=K x:=λx h=>av h
def W3{x:Nat}(h:m<=x):C4 K m c x=c:=aw ()
abbrev Lg(K:Nat->Nat)(c n:Nat)(g:G)(r:Nat)(l:@&(Dd×bW))(us:@&Dd):Prop :=
 ∃p q u ms,Led g r p q u ms (l.map (·.1)) us/\ms.map (·.2)=s0 n::l.map (·.2)/\∀x,L7 r p q u ms x->K x=c
def Lg.fr(h:Lg K c n g r l us)(F:Fr Sx g g')(hS:∀x,Sx x->K x≠c)(kk:∀x,x< -g->K' x=K x):Lg K' c n g' r l us:=by
 let#[p,q,u,ms,L,e,hc]:=h;show#[p,q,u,ms,L.keep λx o hx e1=>F.at (λz=>hS x z (hc x hx)) e1,e,λx hx=>(kk x (L.lt hx)).trans (hc x hx)]
def Lg.ex(h:Lg K c n g r l us)(e:Ex g g'):Lg K c n g' r l us:=h.fr (Sx:=λx=>False) (.ex e) (λx z=>z.elim) λx x=>rfl
def LZ:∀{s:bW} {l:@&(Dd×bW)},∃ys,s::l.map (·.2)=ys++[d7 s l]/\-ys=-l
 |s,[]=>#[[],rfl,rfl]
 |s,t::r=>by
  let#[ys,e,hl]:=LZ (s:=t.2) (l:=r);show#[s::ys,by rw[bQ,e];rfl,by simp[hl]]
def Lg.top(h:Lg K c n g r l us):∃p q u ms m,Led g r p q u (ms++[(m,d7 (s0 n) l)]) (l.map (·.1)) us/\-ms=-l/\(ms++[(m,d7 (s0 n) l)]).map (·.2)=s0 n::l.map (·.2)/\∀x,L7 r p q u (ms++[(m,d7 (s0 n) l)]) x->K x=c:=by
 let#[p,q,u,ms,L,e,hc]:=h;let#[ys,ey,hy]:=LZ (s:=s0 n) (l:=l);let e':=e;rw[ey] at e';let#[m1,m2,rfl,e1,e2]:=List.map_eq_append_iff.mp e';let#[#[m,s],rfl,e3]:=List.map_eq_singleton_iff.mp e2;let e3:s=d7 (s0 n) l:=e3;subst e3;show#[p,q,u,m1,m,L,by rw[<- hy,<- e1,aj],e,hc]
def fL.ws:∀{s:bW} {l:@&(Dd×bW)},WS s->fL s l->WS (d7 s l)
 |_,[],W,_=>W
 |s,x::r,W,h=>fL.ws (s:=x.2) (l:=r) (by rw[<- h.1.2.1];show AB W) h.2
def xV(hT:lH T)(h:Lg K c n g r l us)(hz:-l<=900)(ok:dd.ok)(h1:(dt (d7 (s0 n) l) dd).1=""->∀g' j,Fr (λx=>K x=c) g g'->Lg (C4 K (-g) c) c n g' r (l++[(dd,(dt (d7 (s0 n) l) dd).2.2)]) []->g'[j]?=!.lst [.str (oW (dt (d7 (s0 n) l) dd)),(dt (d7 (s0 n) l) dd).2.1]->Q (.ref j) g')(h2:(dt (d7 (s0 n) l) dd).1≠""->∀g' j,Ex g g'->g'[j]?=!.lst [.str (oW (dt (d7 (s0 n) l) dd)),(dt (d7 (s0 n) l) dd).2.1]->Q (.ref j) g'):a8 T (k+9) 240 [.ref r,dd.d] g Q E:=by
 let#[p,q,u,ms,m,L,hl,e,hc]:=h.top;show Ys (k:=k) hT.tl hT.tr.tq hT.sy L (by simp;omega) ok (λe1 g' u' j F hu L' hj w=>h1 e1 g' j #[F.len,λi hi hl=>F.old i (λz=>hi (hc i (by unfold L7;rcases z with z|z|z<;>simp[z]))) hl] #[p,q,u',ms++[(m,d7 (s0 n) l)]++[(-g,(dt (d7 (s0 n) l) dd).2.2)],?_,?_,λx hx=>?_] hj) (λe1 g' j F hj w=>h2 e1 g' j F hj)
 .rw[ay];show L'
 .rw[ay,e,ay]
  rfl
 .let old:∀y,L7 r p q u (ms++[(m,d7 (s0 n) l)]) y->C4 K (-g) c y=c:=λy hy=>(C9 y (L.lt hy)).trans (hc y hy);rcases hx with z|z|z|z|⟨t,ht,z⟩
  .exact old x (.inl z)
  .exact old x (.inr (.inl z))
  .exact old x (.inr (.inr (.inl z)))
  .exact W3 ()
  .rcases bh.mp ht with y|y
   .exact old x (.inr (.inr (.inr (.inr #[t,y,z]))))
   .cases cc.mp y;show W3 (by dsimp only at z;omega)
def DS(hT:lH T){t:Dd×bW}(h:Lg K c n g r (l++[t]) us)(hz:-us<=5000)(hq:∀g',Fr (λx=>K x=c) g g'->Lg K c n g' r l (us++[t.1])->Q t.1.d g'):a8 T (k+1) 246 [.ref r] g Q E:=by
 let#[p,q,u,ms,m,L,hl,e,hc]:=h.top;rw[ay] at L;show Uy (k:=k) hT.sx L hz λg' F L'=>hq g' #[F.len,λi hi hl=>F.old i (λz=>hi (hc i (by unfold L7;rcases z with z|z|z<;>simp[z]))) hl] #[p,q,u,ms,L',?_,λx hx=>hc x ?_]
 .rw[ay,ay,<- hW] at e;show(List.append_inj' e rfl).1
 .unfold L7 at hx ⊢;rcases hx with z|z|z|z|⟨t,ht,z⟩
  .exact .inl z
  .exact .inr (.inl z)
  .exact .inr (.inr (.inl z))
  .exact .inr (.inr (.inr (.inl z)))
  .exact .inr (.inr (.inr (.inr #[t,by simp[ht],z])))
def MZ(hT:lH T){t:Dd×bW}(h:Lg K c n g r (l++[t]) us)(hz:-us<=5000)(hq:∀g',Fr (λx=>K x=c) g g'->Lg K c n g' r l (us++[t.1])->Q t.1.d g'):a8 T (k+2) 256 [.ref r,.bl false] g Q E:=by
 let#[p,q,u,ms,m,L,_]:=h.top;show call_of hT.sm rfl ?_;delta S5;exists c6 L.ob rfl rfl ?_;left;show DS (k:=k) hT h hz hq
def a60(hT:lH T)(h:Lg K c n g r l (us++[dd]))(hz:-l<=900)(ok:dd.ok)(e:(dt (d7 (s0 n) l) dd).1="")(hq:∀g',Fr (λx=>K x=c) g g'->Lg (C4 K (-g) c) c n g' r (l++[(dd,(dt (d7 (s0 n) l) dd).2.2)]) us->Q dd.d g'):a8 T (k+9) 256 [.ref r,.bl true] g Q E:=by
 let#[p,q,u,ms,m,L,hl,ev,hc]:=h.top;show call_of hT.sm rfl ?_;delta S5;exists c6 L.ob rfl rfl ?_;exists a66 (k:=k) hT.tl hT.tr.tq hT.mh L (by simp;omega) ok e λg' F L'=>hq g' #[F.len,λi hi hl=>F.old i (λz=>hi (hc i (by unfold L7;rcases z with z|z|z<;>simp[z]))) hl] #[p,q,u,ms++[(m,d7 (s0 n) l)]++[(-g,(dt (d7 (s0 n) l) dd).2.2)],?_,?_,λx hx=>?_]
 .rw[ay];show L'
 .rw[ay,ev,ay]
  rfl
 .let old:∀y,L7 r p q u (ms++[(m,d7 (s0 n) l)]) y->C4 K (-g) c y=c:=λy hy=>(C9 y (L.lt hy)).trans (hc y hy);rcases hx with z|z|z|z|⟨t,ht,z⟩
  .exact old x (.inl z)
  .exact old x (.inr (.inl z))
  .exact old x (.inr (.inr (.inl z)))
  .exact old x (.inr (.inr (.inr (.inl z))))
  .rcases bh.mp ht with y|y
   .exact old x (.inr (.inr (.inr (.inr #[t,y,z]))))
   .cases cc.mp y;show W3 (by dsimp only at z;omega)
def aV7(hT:lH T)(h:Lg K c n g r l [])(hq:Q .aO g):a8 T (k+2) 256 [.ref r,.bl true] g Q E:=by
 let#[p,q,u,ms,m,L,_]:=h.top;show call_of hT.sm rfl ?_;delta S5;exists c6 L.ob rfl rfl ?_;exists aV8 (k:=k) hT.mh L ?_;show Ws rfl ?_;left;show hq
def N9(hT:lH T)(h:Lg K c n g r l us)(hc:fL (s0 n) l)(n9:1<=n/\n<=9)(hz:-l<=900)(hq:∀g',Ex g g'->Q (.str (U0 n (l.map (·.1)))) g'):a8 T (k+7) 250 [.ref r] g Q E:=by
 let#[p,q,u,ms,m,L,_]:=h.top;show Uz (k:=k) hT.tl hT.tr.tq hT.sv L (λdd hd=>?_) (by simp;omega) λg' e=>?_
 .let#[t,ht,rfl]:=aP.mp hd;show fL.fit (Au n9.2) hc t ht
 .let bl:(d7 (s0 n) l).bl.length=n:=by
   rw[hc.bl];simp[s0]
  rw[bl];show hq g' e
def Mc(hT:lH T)(hc:fL (s0 n) l)(n9:1<=n/\n<=9)(hz:-l<=900)(c:Nat)(hq:∀g' r,Ex g g'->-g<=r->Lg (C4 K (-g) c) c n g' r l []->Q (.ref r) g'):a8 T (k+9) 255 [.str (U0 n (l.map (·.1)))] g Q E :=
 Vf (k:=k) hT.tx hT.tl hT.tr.tq n9 hc (Au n9.2) hz λg' r p q u ms m e hx hv L=>hq g' r e (hx r (.inl rfl)) #[p,q,u,_,L,hv,λx h=>W3 (hx x h)]
structure Sd(g:G)(n c0 a:Nat)(H:@&Ent):Prop where
 la:g[a]?=!.lst (.tup [.aO,.ref c0]::H.map s9)
 mo:∀t∈H,MD g t.mo t.st
 mz:MD g c0 (s0 n)
 ch:fL (s0 n) (H.map Ent.key)
 n9:1<=n/\n<=9
def Sd.last(h:Sd g n c0 a H):∃l x c,.tup [.aO,.ref c0]::H.map s9=l++[.tup [x,.ref c]]/\MD g c (d7 (s0 n) (H.map Ent.key)):=by
 rcases iO H with rfl|⟨H',t,rfl⟩
 .exact#[[],.aO,c0,rfl,h.mz]
 .refine#[.tup [.aO,.ref c0]::H'.map s9,t.dd.d,t.mo,by simp[s9],?_];rw[iP,ay,List.map_singleton,U7];show h.mo t #[_]
def Sd.ex(h:Sd g n c0 a H)(e:Ex g g'):Sd g' n c0 a H:=#[e.at h.la,λt ht=>(h.mo t ht).ex e,h.mz.ex e,h.ch,h.n9]
def Sd.ws(h:Sd g n c0 a H):WS (d7 (s0 n) (H.map Ent.key)):=fL.ws (Au h.n9.2) h.ch
structure Co(K:Nat->Nat)(c0 a w:Nat)(H:@&Ent):Prop where
 cm:∀t∈H,∀x,t.mo<=x->x<t.mo+7->K x=5
 cz:∀x,c0<=x->x<c0+7->K x=5
 ka:K a=w
def Co.kk(C:Co K c0 a b H)(h:Sd g n c0 a H)(kk:∀x,x< -g->K' x=K x):Co K' c0 a b H :=
 #[λt ht x h1 h2=>(kk x (by have:=i9 (h.mo t ht).df;omega)).trans (C.cm t ht x h1 h2),λx h1 h2=>(kk x (by have:=i9 h.mz.df;omega)).trans (C.cz x h1 h2),(kk a (i9 h.la)).trans C.ka]
def Sd.fr(h:Sd g n c0 a H)(C:Co K c0 a b H)(F:Fr Sx g g')(hS:∀x,Sx x->K x≠b/\K x≠5):Sd g' n c0 a H :=
 #[F.at (λz=>(hS a z).1 C.ka) h.la,λt ht=>(h.mo t ht).pP F λx h1 h2 z=>(hS x z).2 (C.cm t ht x h1 h2),h.mz.pP F λx h1 h2 z=>(hS x z).2 (C.cz x h1 h2),h.ch,h.n9]
def Sd.put(h:Sd g n c0 a H)(C:Co K c0 a b H)(hb:b≠5)(mo:∀t∈Hk,MD g t.mo t.st)(cm:∀t∈Hk,∀x,t.mo<=x->x<t.mo+7->K x=5)(ch:fL (s0 n) (Hk.map Ent.key)) :
  Sd (g.set a (.lst (.tup [.aO,.ref c0]::Hk.map s9))) n c0 a Hk/\Co K c0 a b Hk:=by
 let na:∀x,K x=5->¬x=a:=λx hx z=>hb (by rw[<- C.ka,<- z,hx]);let F:Fr (λx=>x=a) g (g.set a (.lst (.tup [.aO,.ref c0]::Hk.map s9))):=qd rfl;show#[#[get_set h.la,λt ht=>(mo t ht).pP F λx h1 h2=>na x (cm t ht x h1 h2),h.mz.pP F λx h1 h2=>na x (C.cz x h1 h2),ch,h.n9],#[cm,C.cz,C.ka]]
structure Md(K:Nat->Nat)(d n c0 a r1:Nat)(H:@&Ent)(l1:@&(Dd×bW))(eQ:@&Dd)(g:G):Prop where
 dr:i8 g d
 k0:∀x,x<=d->K x=0
 sd:Sd g n c0 a H
 co:Co K c0 a 4 H
 L1:Lg K 1 n g r1 l1 eQ
structure gN(K:Nat->Nat)(d n c0 a b r1 r2 r3:Nat)(H Hk:@&Ent)(l1 l2:@&(Dd×bW))(eQ gH:@&Dd)(g:G):Prop where
 m:Md K d n c0 a r1 H l1 eQ g
 sk:Sd g n c0 b Hk
 ck:Co K c0 b 6 Hk
 L2:Lg K 2 n g r2 l2 gH
 L3:Lg K 3 n g r3 (Hk.map Ent.key) []
def Md.kk(m:Md K d n c0 a r1 H l1 eQ g)(kk:∀x,x< -g->K' x=K x):∀x,x<=d->K' x=0:=λx hx=>(kk x (by have:=m.dr.lt;omega)).trans (m.k0 x hx)
def Md.fr{w:Nat}(m:Md K d n c0 a r1 H l1 eQ g)(F:Fr (λx=>K x=w) g g')(hw:w≠0/\w≠4/\w≠5/\w≠1)(kk:∀x,x< -g->K' x=K x):Md K' d n c0 a r1 H l1 eQ g' :=
 #[m.dr.pP F λx hx z=>by rw[m.k0 x hx] at z;omega,m.kk kk,m.sd.fr m.co F λx z=>by omega,m.co.kk m.sd kk,m.L1.fr F (λx z=>by omega) kk]
def Md.tN(m:Md K d n c0 a r1 H l1 eQ g)(F:Fr (λx=>K x=1) g g')(kk:∀x,x< -g->K' x=K x)(L:Lg K' 1 n g' r1 l us):Md K' d n c0 a r1 H l us g' :=
 #[m.dr.pP F λx hx z=>by rw[m.k0 x hx] at z;omega,m.kk kk,m.sd.fr m.co F λx z=>by omega,m.co.kk m.sd kk,L]
def Md.sE(m:Md K d n c0 a r1 H l1 eQ g)(e:Ex g g')(kk:∀x,x< -g->K' x=K x):Md K' d n c0 a r1 H l1 eQ g' :=
 #[e.draw m.dr,m.kk kk,m.sd.ex e,m.co.kk m.sd kk,m.L1.fr (Sx:=λy=>False) (.ex e) (λy z=>z.elim) kk]
def Md.ex(m:Md K d n c0 a r1 H l1 eQ g)(e:Ex g g'):Md K d n c0 a r1 H l1 eQ g':=m.sE e λx x=>rfl
def Md.gr(m:Md K d n c0 a r1 H l1 eQ g)(G1:Gr d g g')(D:i8 g' d):Md K d n c0 a r1 H l1 eQ g':=by
 let kd:=m.k0 d (ak _);let F:=IA G1;show#[D,m.k0,m.sd.fr m.co F λx z=>by rw[z,kd];decide,m.co,m.L1.fr F (λx z=>by rw[z,kd];decide) λy y=>rfl]
def Md.put(m:Md K d n c0 a r1 H l1 eQ g){H':@&Ent}(mo:∀t∈H',MD g t.mo t.st)(cm:∀t∈H',∀x,t.mo<=x->x<t.mo+7->K x=5)(ch:fL (s0 n) (H'.map Ent.key)) :
  Md K d n c0 a r1 H' l1 eQ (g.set a (.lst (.tup [.aO,.ref c0]::H'.map s9))):=by
 let F:Fr (λx=>x=a) g (g.set a (.lst (.tup [.aO,.ref c0]::H'.map s9))):=qd rfl;let#[h1,h2]:=m.sd.put m.co ∅ mo cm ch;let ka:=m.co.ka;show#[m.dr.pP F λx hx z=>(by have:=m.k0 x hx;rw[z,ka] at this;cases this),m.k0,h1,h2,m.L1.fr F (λx z=>by rw[z,ka];decide) λy y=>rfl]
def Md.pop{t:Ent}(m:Md K d n c0 a r1 (H++[t]) l1 eQ g):Md K d n c0 a r1 H l1 eQ (g.set a (.lst (.tup [.aO,.ref c0]::H.map s9))) :=
 m.put (λt ht=>m.sd.mo t (by simp[ht])) (λt ht=>m.co.cm t (by simp[ht])) (by have:=m.sd.ch;rw[ay,fL.app] at this;show this.1)
def Md.add(m:Md K d n c0 a r1 H l1 eQ g)(M:MD g c s')(kc:∀x,c<=x->x<c+7->K x=5)(ok:dd.ok)(e1:(dt (d7 (s0 n) (H.map Ent.key)) dd).1="")(e2:(dt (d7 (s0 n) (H.map Ent.key)) dd).2.2=s') :
  Md K d n c0 a r1 (H++[#[dd,0,c,s']]) l1 eQ (g.set a (.lst (.tup [.aO,.ref c0]::(H++[(#[dd,0,c,s']:Ent)]).map s9))):=by
 show m.put (λt ht=>?_) (λt ht=>?_) ?_
 .rcases bh.mp ht with ht|ht
  .exact m.sd.mo t ht
  .cases cc.mp ht;show M
 .rcases bh.mp ht with ht|ht
  .exact m.co.cm t ht
  .cases cc.mp ht;show kc
 .rw[ay,fL.app];show#[m.sd.ch,#[e1,e2,ok],trivial]
def gN.tN(B:gN K d n c0 a b r1 r2 r3 H Hk l1 l2 eQ gH g)(F:Fr (λx=>K x=1) g g')(kk:∀x,x< -g->K' x=K x)(L:Lg K' 1 n g' r1 l us):gN K' d n c0 a b r1 r2 r3 H Hk l l2 us gH g' :=
 #[B.m.tN F kk L,B.sk.fr B.ck F λx z=>by omega,B.ck.kk B.sk kk,B.L2.fr F (λx z=>by omega) kk,B.L3.fr F (λx z=>by omega) kk]
def gN.yW(B:gN K d n c0 a b r1 r2 r3 H Hk l1 l2 eQ gH g)(F:Fr (λx=>K x=2) g g')(kk:∀x,x< -g->K' x=K x)(L:Lg K' 2 n g' r2 l us):gN K' d n c0 a b r1 r2 r3 H Hk l1 l eQ us g' :=
 #[B.m.fr F ∅ kk,B.sk.fr B.ck F λx z=>by omega,B.ck.kk B.sk kk,L,B.L3.fr F (λx z=>by omega) kk]
def gN.sE(B:gN K d n c0 a b r1 r2 r3 H Hk l1 l2 eQ gH g)(e:Ex g g')(kk:∀x,x< -g->K' x=K x):gN K' d n c0 a b r1 r2 r3 H Hk l1 l2 eQ gH g' :=
 #[B.m.sE e kk,B.sk.ex e,B.ck.kk B.sk kk,B.L2.fr (Sx:=λy=>False) (.ex e) (λy z=>z.elim) kk,B.L3.fr (Sx:=λy=>False) (.ex e) (λy z=>z.elim) kk]
def gN.ex(B:gN K d n c0 a b r1 r2 r3 H Hk l1 l2 eQ gH g)(e:Ex g g'):gN K d n c0 a b r1 r2 r3 H Hk l1 l2 eQ gH g':=B.sE e λx x=>rfl
def gN.gr(B:gN K d n c0 a b r1 r2 r3 H Hk l1 l2 eQ gH g)(G1:Gr d g g')(D:i8 g' d):gN K d n c0 a b r1 r2 r3 H Hk l1 l2 eQ gH g':=by
 let kd:=B.m.k0 d (ak _);let F:=IA G1;show#[B.m.gr G1 D,B.sk.fr B.ck F λx z=>by rw[z,kd];decide,B.ck,B.L2.fr F (λx z=>by rw[z,kd];decide) λy y=>rfl,B.L3.fr F (λx z=>by rw[z,kd];decide) λy y=>rfl]
def gN.put(B:gN K d n c0 a b r1 r2 r3 H Hk l1 l2 eQ gH g){H':@&Ent}(m':Md K d n c0 a r1 H' l1 eQ (g.set a (.lst (.tup [.aO,.ref c0]::H'.map s9)))) :
  gN K d n c0 a b r1 r2 r3 H' Hk l1 l2 eQ gH (g.set a (.lst (.tup [.aO,.ref c0]::H'.map s9))):=by
 let F:Fr (λx=>x=a) g (g.set a (.lst (.tup [.aO,.ref c0]::H'.map s9))):=qd rfl;let ka:=B.m.co.ka;show#[m',B.sk.fr B.ck F λx z=>by rw[z,ka];decide,B.ck,B.L2.fr F (λx z=>by rw[z,ka];decide) λy y=>rfl,B.L3.fr F (λx z=>by rw[z,ka];decide) λy y=>rfl]
def Md.zE(m:Md K d n c0 a r1 H l1 eQ g)(F:Fr (λx=>x=d) g g')(D:i8 g' d)(kk:∀x,x< -g->K' x=K x):Md K' d n c0 a r1 H l1 eQ g':=by
 let kd:=m.k0 d (ak _);show#[D,m.kk kk,m.sd.fr m.co F λx z=>by rw[z,kd];decide,m.co.kk m.sd kk,m.L1.fr F (λx z=>by rw[z,kd];decide) kk]
def gN.zE(B:gN K d n c0 a b r1 r2 r3 H Hk l1 l2 eQ gH g)(F:Fr (λx=>x=d) g g')(D:i8 g' d)(kk:∀x,x< -g->K' x=K x):gN K' d n c0 a b r1 r2 r3 H Hk l1 l2 eQ gH g':=by
 let kd:=B.m.k0 d (ak _);show#[B.m.zE F D kk,B.sk.fr B.ck F λx z=>by rw[z,kd];decide,B.ck.kk B.sk kk,B.L2.fr F (λx z=>by rw[z,kd];decide) kk,B.L3.fr F (λx z=>by rw[z,kd];decide) kk]
def add_eq:(D.tup [.aO,.ref c0]::H.map s9)++[.tup [dd.d,.ref c]]=.tup [.aO,.ref c0]::(H++[(#[dd,0,c,s']:Ent)]).map s9:=by
 rw[ay]
 rfl
def LW:(H++[(#[dd,0,c,s']:Ent)]).map Ent.key=H.map Ent.key++[(dd,s')]:=by
 rw[ay]
 rfl
noncomputable abbrev GP:MS:=match xW.body with|.seq (.iE _ _ b) _=>b|x=>x
def XJ(hT:lH T)(m:Md K d n c0 a r H (H.map Ent.key) [] g)(hl:-H<=100){z3 z4 z5 z6:Option D}(hN:∀g' K' H' z4 z5,Md K' d n c0 a r H' (H'.map Ent.key) [] g'->-H'<=-H+1->N.nx [!.ref d,!.ref r,!.ref a,z3,z4,z5,z6] g') :
  wpS (a8 T (k+11)) GP N [!.ref d,!.ref r,!.ref a,z3,z4,z5,z6] g E:=by
 let W:=m.sd.ws;let dl:=m.dr.lt;let#[l,x,c,el,M]:=m.sd.last;let la:=m.sd.la;rw[el] at la;dsimp[GP,xW];exists A5 (a6 la) V5 ?_;exists LD (k:=k+10) hT.pD M λg1 e1 M1=>?_;let q1:=i9 M1.df;let l1:=e1.len;exists LK (k:=k+6) hT.tv M1 W (e1.draw m.dr) dl λdd g2 ok D2 G2=>?_;let l2:=G2.len;exists Mf (k:=k+9) hT.tr (M1.gr G2 dl) W ok λg3 K3 M3=>?_;let l3:=K3.len;let m3:=m.zE (K':=C4 K (-g) 5) #[by omega,λi hi hl=>(K3.old i (.inl ()) ()).trans ((G2.old i hi ()).trans (e1.old i hl))] (K3.draw dl D2) C9;let kc:∀x,(-g)<=x->C4 K (-g) 5 x=5:=λx h=>W3 h;generalize C4 K (-g) 5=K1 at *;exists if2 (λe=>?_) (λe=>?_)
 .exists#[F5 m3.sd.la,?_];exists U2 m3.sd.la (by simp;omega) ?_;let m4:=m3.add M3 (λx h1 y=>kc x h1) ok e rfl;rw[add_eq (s':=(dt (d7 (s0 n) (H.map Ent.key)) dd).2.2)];generalize g3.set a _=g4 at *;exists xV (k:=k+2) hT m4.L1 (by simp;omega) ok (λy g' j F L' hj=>?_) (λe2=>absurd e e2);let m5:=m4.tN F C9 L';rw[<- LW] at m5;left;show hN _ _ _ _ _ m5 #[_]
 .exists xV (k:=k+2) hT m3.L1 (by simp;omega) ok (λe2=>absurd e2 e) (λy g' j F hj=>?_);left;show hN _ _ _ _ _ (m3.ex F) ()
def RZ(hT:lH T)(m:Md K d n c0 a r [] [] [] g)(h:∀g' K' H us,Md K' d n c0 a r H (H.map Ent.key) us g'->-H<=40->-us<=40->Q .aO g'):a8 T (k+12) 272 [.ref d,.ref r,.ref a] g Q E:=by
 show call_of hT.CB rfl ?_;delta xW;exists T9 (b8 T _) (yw (b8 T _) ?_);exists k7 hT.tv.h4 m.dr ∅ ∅ λr9 g9 OY OX D9 G9=>?_;let m9:=m.gr G9 D9;left;obtain⟨j,ej⟩:∃j:Nat,5+r9=j:=#[(5+r9).toNat,by omega]
 rw[ej];show#[by omega,by omega,l0 0 (j:Int).toNat,λi σ g=>∃K H,Md K d n c0 a r H (H.map Ent.key) [] g/\-H<=i/\∃z3 z4 z5 z6,σ=[!.ref d,!.ref r,!.ref a,z3,z4,z5,z6],λi σ g p=>G0,#[K,[],m9,cQ _,none,none,none,none,rfl],λi y σ g hy p=>?_,λσ g p=>?_]
 .let#[K,H,m,hl,z3,z4,z5,z6,rfl]:=p;let#[hi,rfl]:=E5 hy;show p7 ?_;show XJ (k:=k) hT m () λg' K' H' z4 z5 m' kE=>#[K',H',m',by omega,_,z4,z5,z6,rfl]
 .let#[K,H,m,hl,z3,z4,z5,z6,rfl]:=p;rw[C8] at hl
  try show wpS _ _ _ _ _ _
  exists T9 (b8 T _) (yw (b8 T _) ?_);exists n8 (a6 m.sd.la) ?_;exists k7 hT.tv.h4 m.dr ∅ ∅ λr2 g2 Pc Pb D2 G2=>?_;let m2:=m.gr G2 D2;left;obtain⟨j2,Dh,sf⟩:∃j2:Nat,(if r2<((D.tup [.aO,.ref c0]::H.map s9).length:Int)-1 then r2 else((D.tup [.aO,.ref c0]::H.map s9).length:Int)-1)=j2/\j2<=-H:=by
   rw[cH,aj];split
   .exact#[r2.toNat,by omega,by omega]
   .exact#[(-H),by omega,ak _]
  rw[Dh];show#[by omega,by omega,l0 0 (j2:Int).toNat,λi σ g=>∃H' us,Md K d n c0 a r H' (H'.map Ent.key) us g/\-H'+i=-H/\-us<=i/\∃z3 z4 z5 z6,σ=[!.ref d,!.ref r,!.ref a,z3,z4,z5,z6],λi σ g p=>G0,#[H,[],m2,by omega,by simp,_,_,_,_,rfl],λi y σ g hy p=>?_,λσ g p=>?_]
  .let#[H',us,m',kE,hu,z3,z4,z5,z6,rfl]:=p;let#[hi,rfl]:=E5 hy;rcases iO H' with rfl|⟨H2,t,rfl⟩
   .simp at kE;omega
   rw[iP] at m' kE;let L:=m'.L1;rw[ay] at L;let#[p,q,u,ms,mi,L0,_]:=L.top;show p7 ?_
   try show wpS _ _ _ _ _ _
   exists c6 L0.ob rfl rfl ?_;exists DS (k:=k+10) hT L () λg3 F L'=>?_;let m3:=m'.tN F (λx x=>rfl) L';let la:=m3.sd.la;rw[ay,<- hW] at la;exists#[yo la,?_];exists yf la ?_;left;show#[H2,_,m3.pop,by simp at kE;omega,by simp;omega,_,_,_,_,rfl]
  .let#[H',us,m',kE,hu,z3,z4,z5,z6,rfl]:=p;rw[C8] at kE hu
   try show wpS _ _ _ _ _ _
   left;show h _ _ _ _ m' () ()
def Wi{σ:S}{z:ME}(la:g[a]?=!.lst (.tup [.aO,.ref c0]::H.map s9))(hl:-H<=900)(hz:∀{g:G} {Q:KD},Q (.ref a) g->aV (a8 T k) z σ g Q E)(h:∀g' i,Ex g g'->g'[i]?=!(.lst ((H.map Ent.dd).map Dd.d))->Q (.ref i) g'):aV (a8 T k) (.comp [] 2 (.one 1) (.jg (.prim (.kY true false) (.cons z (.cons (.lit (.int 1)) .nil)))) .no (.prim .ix (.cons (.var 1) (.cons (.lit (.int 0)) .nil)))) σ g Q E:=by
 show S0 (b8 T _) (tR (b8 T _) ?_);show qO ?_;show hz ?_;exists ZL (a6 la) ?_;let ec:cut (D.tup [.aO,.ref c0]::H.map s9) (!1) none=H.map s9:=Iq (n:=1);rw[ec];show#[(-g),_,rfl,a6 b9,H.map s9,λi ys σ g'=>ys=(H.take i).map (λt=>t.dd.d)/\g'=g++[.lst (H.map s9)]/\∃z0 z1,σ=[z0,z1],by simp;omega,λi ys σ g' p=>?_,#[rfl,rfl,none,none,rfl],λi y ys σ g' hy p=>?_,λys σ g' p=>?_]
 .let#[rfl,rfl,_]:=p;show#[uS (a6 b9),by simp;omega]
 .let#[rfl,rfl,z0,z1,rfl]:=p;rw[aG,ae] at hy;let#[t,ht,rfl]:=hy;show p7 ?_
  try show dM _ _ _ _ _ _
  left
  try show oA (l:=[t.dd.d,.ref t.mo]) rfl ?_
  show#[?_,rfl,_,_,rfl];rw[dW,ht];simp
 .let#[rfl,rfl,z0,z1,rfl]:=p;show h _ _ ((Ex.snoc _ _).trans (Ex.snoc _ _)) ?_;rw[aj,eA,kH];show b9
def Ym:(H.map Ent.key).map (·.1)=H.map Ent.dd:=by rw[kH];rfl
def IV(hT:lH T)(W:Sd g n c0 a H)(hl:-H<=800)(L:Lg K c n g r (H.map Ent.key) [])(h:∀g',Ex g g'->Q (.bl true) g'):a8 T (k+9) 273 [.ref r,.str (U0 n ((H.map Ent.key).map (·.1))),.ref a] g Q E:=by
 let#[p,q,u,ms,m,L0,_]:=L.top;show call_of hT.CA rfl ?_;delta DX;exists W' L0.ob ?_;exists c6 L0.ob rfl rfl ?_;exists N9 (k:=k+1) hT L W.ch W.n9 (by simp;omega) λg1 e1=>?_;exists l8 hT.h6 hT.h7 0 (k:=k+6) (.str _) λg2 e2=>?_;let x2:=e1.trans e2;exists aV7 (k:=k+6) hT (L.ex x2) ?_;exists c6 (L0.ex x2).ob rfl rfl ?_;exists a65 (k:=k+7) hT.tl (L0.ex x2) ?_;rw[Ym];let x3:=x2.trans (Ex.snoc g2 (.lst ((H.map Ent.dd).map Dd.d)));let b3:(g2++[O.lst ((H.map Ent.dd).map Dd.d)])[(-g2)]?=!(.lst ((H.map Ent.dd).map Dd.d)):=b9;generalize g2++[O.lst ((H.map Ent.dd).map Dd.d)]=g3 at *;exists Wi (k:=k+8) (W.ex x3).la () (λh=>w_var rfl h) λg4 i e4 h4=>?_;exists l8 hT.h6 hT.h7 2 (k:=k+4) (DU (e4.at b3) h4 (λx hx=>?_) (by simp;omega)) λg5 e5=>?_
 .let#[dd,_,rfl]:=aP.mp hx;show DT
 let x5:=x3.trans (e4.trans e5);exists c6 (L0.ex x5).ob rfl rfl ?_;exists Ak (k:=k+2) hT.tl hT.tr.tq (L0.ex x5) ?_;let#[l,x,c,el,M]:=W.last;let W6:=W.ex (x5.trans (Ex.snoc g5 (c5 (d7 (s0 n) (H.map Ent.key)))));let la:=W6.la;rw[el] at la;exists A5 (a6 la) V5 ?_;exists KP (k:=k+2) hT.tr.tq hT.h6 hT.h7 hT.zy hT.ui b9 (M.ex (x5.trans (Ex.snoc _ _))) W.ws λg7 e7=>?_;left;show h _ (x5.trans ((Ex.snoc _ _).trans e7))
set_option tactic.hygienic true in
def WO(ok:dd.ok)(h:Q (.bl false) g):cw (.cmp .NotEq) [dd.d,dd.d] g Q:=by
 obtain⟨p,h1,h2⟩:∃p,rd g 6 dd.d=!p/\p.canLay0=true:=by
  cases dd
  case cut x=>show#[.tuple [.str "cut",.str x],rfl,by have:PyData.strOk x=true:=ok;simp[PyData.canLay0,PyData.canLayAll0,this];decide +kernel]
  case mark x v j=>show#[.tuple [.str "mark",.str x,.int v,.int j],rfl,by have:PyData.strOk x=true:=ok;simp[PyData.canLay0,PyData.canLayAll0,this];decide +kernel]
  case fix v=>show#[.tuple [.str "fix",.int v],rfl,by simp[PyData.canLay0,PyData.canLayAll0];decide +kernel]
  case off v=>show#[.tuple [.str "off",.int v],rfl,by simp[PyData.canLay0,PyData.canLayAll0];decide +kernel]
  case eU a b=>show#[.tuple [.str "strike",.int a,.int b],rfl,by simp[PyData.canLay0,PyData.canLayAll0];decide +kernel]
  case year v=>show#[.tuple [.str "year",.int v],rfl,by simp[PyData.canLay0,PyData.canLayAll0];decide +kernel]
 show Av #[true,.inr (.inr (.inr #[_,_,h1,h1,h2,h2,(PySem.SeqAt.eqv_refl _ h2).symm])),h]
noncomputable abbrev JQ:MS:=match O9.body with|.seq (.iE _ _ b) _=>b|x=>x
def XI(hT:lH T){t:Ent}(B:gN K d n c0 a b r1 r2 r3 (H++[t]) Hk ((H++[t]).map Ent.key) ((H++[t]).map Ent.key) eQ gH g)(hl:-H<=100)(hu:-eQ<=100/\-gH<=100){z4 z5:Option D}(hN:∀g' K' iy iw z5,gN K' d n c0 a b r1 r2 r3 H Hk (H.map Ent.key) (H.map Ent.key) iy iw g'->-iy<=-eQ+1/\-iw<=-gH+1->N.nx [!.ref d,!.ref r1,!.ref r2,!.ref a,z4,z5] g') :
  wpS (a8 T (k+11)) JQ N [!.ref d,!.ref r1,!.ref r2,!.ref a,z4,z5] g E:=by
 let ch:=B.m.sd.ch;rw[ay,fL.app] at ch;let#[e1,e2,ok]:=ch.2.1;let L2:=B.L2;let L1:=B.m.L1;rw[ay] at L1 L2;dsimp[JQ,O9];exists MZ (k:=k+9) hT L2 () λg1 F1 L2'=>?_;let B1:=B.yW F1 (λx x=>rfl) L2';let la:=B1.m.sd.la;rw[ay,<- hW] at la;exists A5 (a6 la) V5 ?_;left
 try show oA (l:=[t.dd.d,.ref t.mo]) rfl ?_
 try left
 show l8 hT.h6 hT.h7 1 (k:=k+8) DT λg2 x2=>?_;let B2:=B1.ex x2;left;let Ol:=B2.m.L1;rw[ay] at Ol;show MZ (k:=k+9) hT Ol () λg3 F3 F'=>?_;let B3:=B2.tN F3 (λx x=>rfl) F';let la:=B3.m.sd.la;rw[ay,<- hW] at la;left
 try show pT ?_
 let nn:R7 (Ent.key t).1.d=false:=by
  change R7 t.dd.d=false;rw[Dd.zH]
  rfl
 try rw[nn]
 exists#[yo la,?_];exists yf la ?_;let B4:=B3.put B3.m.pop;generalize g3.set a _=g4 at *;exists k7 hT.tv.h4 B4.m.dr ∅ ∅ λr5 g5 x x D5 G5=>?_;let B5:=B4.gr G5 D5;exists if2 (λx=>?_) (λx=>?_)
 .exists a60 (k:=k+2) hT B5.L2 (by simp;omega) ok e1 λg6 F6 L6=>?_;let B6:=B5.yW F6 C9 L6;left
  try show oA (l:=[t.dd.d,.ref t.mo]) rfl ?_
  try left
  show l8 hT.h6 hT.h7 1 (k:=k+8) DT λg7 x7=>?_;let B7:=B6.ex x7;let#[p,q,u,ms,m,L0,_]:=B7.L2.top;exists c6 L0.ob rfl rfl ?_;exists DS (k:=k+10) hT B7.L2 () λg8 F8 L8=>?_;let B8:=B7.yW F8 (λx x=>rfl) L8;left
  try show oA (l:=[t.dd.d,.ref t.mo]) rfl ?_
  show WO ok ?_;left;show hN _ _ _ _ _ B8 #[_]
 .left;show hN _ _ _ _ _ B5 #[_]
def TJ(hT:lH T)(B:gN K d n c0 a b r1 r2 r3 H Hk (H.map Ent.key) (H.map Ent.key) eQ gH g)(hl:-H<=50)(hu:-eQ<=50/\-gH<=50)(h:∀g' K' H' iy iw,gN K' d n c0 a b r1 r2 r3 H' Hk (H'.map Ent.key) (H'.map Ent.key) iy iw g'->Q (.bl true) g'):a8 T (k+12) 274 [.ref d,.ref r1,.ref r2,.ref a] g Q E:=by
 show call_of hT.Cz rfl ?_;delta O9;exists T9 (b8 T _) (yw (b8 T _) ?_);exists n8 (a6 B.m.sd.la) ?_;exists k7 hT.tv.h4 B.m.dr ∅ ∅ λr9 g9 OY OX D9 G9=>?_;let B9:=B.gr G9 D9;left;obtain⟨j2,Dh,sf⟩:∃j2:Nat,(if 2+r9<((D.tup [.aO,.ref c0]::H.map s9).length:Int)-1 then 2+r9 else((D.tup [.aO,.ref c0]::H.map s9).length:Int)-1)=j2/\j2<=-H:=by
  rw[cH,aj];split
  .exact#[(2+r9).toNat,by omega,by omega]
  .exact#[(-H),by omega,ak _]
 rw[Dh];show#[by omega,by omega,l0 0 (j2:Int).toNat,λi σ g=>∃K H' iy iw,gN K d n c0 a b r1 r2 r3 H' Hk (H'.map Ent.key) (H'.map Ent.key) iy iw g/\-H'+i=-H/\-iy<=50+i/\-iw<=50+i/\∃z4 z5,σ=[!.ref d,!.ref r1,!.ref r2,!.ref a,z4,z5],λi σ g p=>G0,#[K,H,eQ,gH,B9,by omega,by omega,by omega,none,none,rfl],λi y σ g hy p=>?_,λσ g p=>?_]
 .let#[K,H',iy,iw,B',kE,h1,h2,z4,z5,rfl]:=p;let#[hi,rfl]:=E5 hy;rcases iO H' with rfl|⟨H2,t,rfl⟩
  .simp at kE;omega
  rw[iP] at B' kE;let rZ:-H2+1+i=-H:=by simp at kE;omega
  show p7 ?_;show XI (k:=k) hT B' () () λg' K' u1 u2 z5 B2 hu2=>#[K',H2,u1,u2,B2,by omega,by omega,by omega,_,z5,rfl]
 .let#[K,H',iy,iw,B',kE,h1,h2,z4,z5,rfl]:=p
  try show wpS _ _ _ _ _ _
  let#[p,q,u,ms,m,L0,_]:=B'.L2.top;let#[l,x,c,el,M]:=B'.m.sd.last;exists c6 L0.ob rfl rfl ?_;exists Ak (k:=k+5) hT.tl hT.tr.tq L0 ?_;let B6:=B'.ex (Ex.snoc g (c5 (d7 (s0 n) (H'.map Ent.key))));let la:=B6.m.sd.la;rw[el] at la;exists A5 (a6 la) V5 ?_;exists KP (k:=k+5) hT.tr.tq hT.h6 hT.h7 hT.zy hT.ui b9 (M.ex (Ex.snoc _ _)) B'.m.sd.ws λg7 e7=>?_;let B7:=B6.ex e7;let#[p,q,u,ms,m,L2,_]:=B7.L2.top;exists c6 L2.ob rfl rfl ?_;exists N9 (k:=k+4) hT B7.L2 B7.m.sd.ch B7.m.sd.n9 (by simp;omega) λg8 e8=>?_;let B8:=B7.ex e8;let#[p,q,u,ms,m,L1,_]:=B8.m.L1.top;exists c6 L1.ob rfl rfl ?_;exists N9 (k:=k+4) hT B8.m.L1 B8.m.sd.ch B8.m.sd.n9 (by simp;omega) λg9 e9=>?_;let B9:=B8.ex e9;exists l8 hT.h6 hT.h7 0 (k:=k+9) (.str _) λHD rf=>?_;left;show h _ _ _ _ _ (B9.ex rf)
noncomputable abbrev yz(d n r1 a r2 r3 b:Nat)(tx:Str)(z9 nh ng mZ:Option D):S:=[!.ref 0,!.ref d,!.int n,!.ref r1,!.ref a,!.str tx,!.ref r2,!.ref r3,!.ref b,z9,nh,ng,mZ]
noncomputable abbrev GQ:MS:=match yx.body with|.seq _ (.seq _ (.seq _ (.seq _ (.seq _ (.seq _ (.seq _ (.seq _ (.seq _ (.seq _ (.seq (.iE _ _ b) _))))))))))=>b|x=>x
def bC2(hT:lH T)(B:gN K d n c0 a b r1 r2 r3 H Hk (H.map Ent.key) (H.map Ent.key) eQ gH g)(hl:-H<=100){tx:Str}{z9 nh ng mZ:Option D}(hN:∀g' K' H' iy iw nh ng mZ,gN K' d n c0 a b r1 r2 r3 H' Hk (H'.map Ent.key) (H'.map Ent.key) iy iw g'->-H'<=-H+1->-iy<=-eQ/\-iw<=-gH->N.nx (yz d n r1 a r2 r3 b tx z9 nh ng mZ) g') :
  wpS (a8 T (k+13)) GQ N (yz d n r1 a r2 r3 b tx z9 nh ng mZ) g E:=by
 let m:=B.m;let W:=m.sd.ws;let dl:=m.dr.lt;let#[l,x,c,el,M]:=m.sd.last;let la:=m.sd.la;rw[el] at la;dsimp[GQ,yx,yz];exists A5 (a6 la) V5 ?_;exists LD (k:=k+12) hT.pD M λg1 e1 M1=>?_;let q1:=i9 M1.df;let l1:=e1.len;exists LK (k:=k+8) hT.tv M1 W (e1.draw m.dr) dl λdd g2 ok D2 G2=>?_;let l2:=G2.len;exists Mf (k:=k+11) hT.tr (M1.gr G2 dl) W ok λg3 K3 M3=>?_;let l3:=K3.len;let B3:=B.zE (K':=C4 K (-g) 5) #[by omega,λi hi hl=>(K3.old i (.inl ()) ()).trans ((G2.old i hi ()).trans (e1.old i hl))] (K3.draw dl D2) C9;let kc:∀x,(-g)<=x->C4 K (-g) 5 x=5:=λx h=>W3 h;generalize C4 K (-g) 5=K1 at *;let q3:=i9 M3.df;let GS:∀x,(-g)<=x->x< -g+7->K1 x=5:=λx h y=>kc x h;let mk:∀{w:Nat} {K2:Nat->Nat} {g4 g5:G},MD g4 (-g) (dt (d7 (s0 n) (H.map Ent.key)) dd).2.2->(∀x,(-g)<=x->x< -g+7->K2 x=5)->Fr (λx=>K2 x=w) g4 g5->w≠5->MD g5 (-g) (dt (d7 (s0 n) (H.map Ent.key)) dd).2.2:=λM4 kk F hw=>M4.pP F λx h1 h2 z=>hw (by rw[<- z];show kk x h1 h2);let kr:∀{m c:Nat} {K2:Nat->Nat},(-g)+7<=m->(∀x,(-g)<=x->x< -g+7->K2 x=5)->∀x,(-g)<=x->x< -g+7->C4 K2 m c x=5:=λhm kk x h1 h2=>(C9 x ()).trans (kk x h1 h2);exists xV (k:=k+4) hT B3.L2 (by simp;omega) ok (λe g4 j4 F4 L4 BW=>?_) (λe g4 j4 e4 BW=>?_)
 .let B4:=B3.yW F4 C9 L4;let M4:=mk M3 GS F4 ∅;let GR:=kr (m:=-g3) (c:=2) () GS;let l4:=F4.len;generalize C4 K1 (-g3) 2=K4 at *;exists Ag (k:=k+10) hT.h6 hT.h7 hT.mj BW zY λg5 x5=>?_;let B5:=B4.ex x5;let M5:=M4.ex x5;let l5:=x5.len;exists xV (k:=k+4) hT B5.m.L1 (by simp;omega) ok (λy g6 j6 F6 L6 BV=>?_) (λe2=>absurd e e2);let B6:=B5.tN F6 C9 L6;let M6:=mk M5 GR F6 ∅;let Pz:=kr (m:=-g5) (c:=1) () GR;generalize C4 K4 (-g5) 1=K6 at *;exists Ag (k:=k+10) hT.h6 hT.h7 hT.mj BV zY λg7 x7=>?_;let B7:=B6.ex x7;let M7:=M6.ex x7;let HK:fL (s0 n) (H.map Ent.key++[(dd,(dt (d7 (s0 n) (H.map Ent.key)) dd).2.2)]):=fL.app.mpr #[B.m.sd.ch,#[e,rfl,ok],trivial];let#[p,q,u,ms,m,L0,_]:=B7.L2.top;exists c6 L0.ob rfl rfl ?_;exists N9 (k:=k+6) hT B7.L2 HK B.m.sd.n9 (by simp;omega) λg8 x8=>?_;let B8:=B7.ex x8;let#[p,q,u,ms,m,L1,_]:=B8.m.L1.top;exists c6 L1.ob rfl rfl ?_;exists N9 (k:=k+6) hT B8.m.L1 HK B.m.sd.n9 (by simp;omega) λg9 x9=>?_;let B9:=B8.ex x9;let M9:=M7.ex (x8.trans x9);exists dw #[_] ?_;exists fK (by rw[e];rfl) ?_;exists#[F5 B9.m.sd.la,?_];exists U2 B9.m.sd.la (by simp;omega) ?_;let Pt:=B9.m.add M9 Pz ok e rfl;rw[add_eq (s':=(dt (d7 (s0 n) (H.map Ent.key)) dd).2.2)];let va:=B9.put Pt;rw[<- LW] at va;left;show hN _ _ _ _ _ _ _ _ va #[_] #[_]
 .let B4:=B3.ex e4;exists Ag (k:=k+10) hT.h6 hT.h7 hT.mj BW zY λg5 x5=>?_;let B5:=B4.ex x5;exists xV (k:=k+4) hT B5.m.L1 (by simp;omega) ok (λe2=>absurd e2 e) (λy g6 j6 e6 BV=>?_);let B6:=B5.ex e6;exists Ag (k:=k+10) hT.h6 hT.h7 hT.mj BV zY λg7 x7=>?_;let B7:=B6.ex x7;let#[p,q,u,ms,m,L0,_]:=B7.L2.top;exists c6 L0.ob rfl rfl ?_;exists N9 (k:=k+6) hT B7.L2 B.m.sd.ch B.m.sd.n9 (by simp;omega) λg8 x8=>?_;let B8:=B7.ex x8;let#[p,q,u,ms,m,L1,_]:=B8.m.L1.top;exists c6 L1.ob rfl rfl ?_;exists N9 (k:=k+6) hT B8.m.L1 B.m.sd.ch B.m.sd.n9 (by simp;omega) λg9 x9=>?_;let B9:=B8.ex x9;exists dw #[_] ?_;exists dw (aN e) ?_;left;show hN _ _ _ _ _ _ _ _ B9 () ()
def Uw(hT:lH T){ns:@&Int}:a8 T (k+14) 11 [.ref 0] [.pO (ns.map .int)] (λd w=>d=.bl true) ky:=by
 show call_of hT.Rn rfl ?_;delta yx;exists Sq hT.h3 (a:=0) (ns:=ns) rfl λd g D0 w w=>?_;exists k7 hT.tv.h4 D0 ∅ ∅ λr2 g2 Pc Pb D2 G2=>?_;left;obtain⟨n,hn⟩:∃n:Nat,1+r2=n:=#[(1+r2).toNat,by omega]
 rw[hn];let n9:1<=n/\n<=9:=by omega
 show MW (k:=k+8) hT.tl hT.tr.tq.tm (λn' e1 w w=>?_) (λhv=>absurd #[by omega,by omega] hv);obtain rfl:n=n':=by omega
 show#[rfl,?_];let dl:=D2.lt;let L3:=Mb (g:=g2) n9;let x3:Ex g2 (g2++[X3 (-g2+2) (-g2+3) (-g2+4),c5 (s0 n),.lst [.ref (-g2+1)],.lst [],.lst []]):=#[by simp,λi hi=>aA hi]
 let D3:=x3.draw D2;let l3:(g2++[X3 (-g2+2) (-g2+3) (-g2+4),c5 (s0 n),.lst [.ref (-g2+1)],.lst [],.lst []]).length=-g2+5:=by simp
 generalize g2++[X3 (-g2+2) (-g2+3) (-g2+4),c5 (s0 n),.lst [.ref (-g2+1)],.lst [],.lst []]=g3 at *;exists a49 (k:=k+12) hT.Cw n9.2 λg4 x4 M4=>?_;let q4:=i9 M4.df;left;let x5:Ex g4 (g4++[O.lst [.tup [.aO,.ref (-g3)]]]):=Ex.snoc _ _;let a5:(g4++[O.lst [.tup [.aO,.ref (-g3)]]])[(-g4)]?=!(.lst (.tup [.aO,.ref (-g3)]::([]:@&Ent).map s9)):=b9;generalize g4++[O.lst [.tup [.aO,.ref (-g3)]]]=g5 at *;let m5:Md (λx=>if x<=d then 0 else if x< -g3 then 1 else if x< -g4 then 5 else 4) d n (-g3) (-g4) (-g2) [] [] [] g5:=by
  show#[x5.draw (x4.draw D3),λx hx=>av hx,#[a5,λt ht=>by simp at ht,M4.ex x5,trivial,n9],#[λt ht=>by simp at ht,λx h1 h2=>?_,?_],#[_,_,_,_,L3.ex (x4.trans x5),rfl,λx hx=>?_]]
  .rw[aw (),aw (),av ()]
  .rw[aw (),aw (),aw ()]
  .let h1:=L3.lt hx;let h2:-g2<=x:=by
    rcases hx with z|z|z|z|⟨t,ht,z⟩
    .omega
    .omega
    .omega
    .omega
    .simp at ht;rw[z,ht];show Nat.le_add_right _ _
   dsimp only;rw[aw (),av h1]
 generalize (λx=>if x<=d then 0 else if x< -g3 then 1 else if x< -g4 then 5 else 4)=K5 at *;generalize (-g4)=a at *;generalize (-g3)=c0 at *;generalize (-g2)=r1 at *;clear L3 x3 D3 x4 M4 x5 a5 q4;show RZ (k:=k+1) hT m5 λg6 K6 H us m6 hl hu=>?_;let ch:=m6.sd.ch;let#[p,q,u,ms,m,L1,_]:=m6.L1.top;exists c6 L1.ob rfl rfl ?_;exists N9 (k:=k+6) hT m6.L1 ch n9 (by simp;omega) λg7 x7=>?_;let m7:=m6.ex x7;exists Mc (k:=k+4) (K:=K6) hT ch n9 (by simp;omega) 2 λg8 r2 x8 w L8=>?_;let m8:=m7.sE x8 (C9 (c:=2));generalize C4 K6 (-g7) 2=K8 at *;exists Mc (k:=k+4) (K:=K8) hT ch n9 (by simp;omega) 3 λg9 r3 x9 w L9=>?_;let m9:=m8.sE x9 (C9 (c:=3));let L8:=L8.fr (Sx:=λw=>False) (.ex x9) (λw z=>z.elim) (C9 (K:=K8) (c:=3));generalize C4 K8 (-g8) 3=K9 at *;exists AJ (a6 m9.sd.la) ?_;let rf:Ex g9 (g9++[O.lst (.tup [.aO,.ref c0]::H.map s9)]):=Ex.snoc _ _;let b10:(g9++[O.lst (.tup [.aO,.ref c0]::H.map s9)])[(-g9)]?=!.lst (.tup [.aO,.ref c0]::H.map s9):=b9;let kf:∀x,x< -g9->C4 K9 (-g9) 6 x=K9 x:=C9;let va:gN (C4 K9 (-g9) 6) d n c0 a (-g9) r1 r2 r3 H H (H.map Ent.key) (H.map Ent.key) us [] (g9++[O.lst (.tup [.aO,.ref c0]::H.map s9)]) :=
  #[m9.sE rf kf,#[b10,λt ht=>(m9.sd.mo t ht).ex rf,m9.sd.mz.ex rf,ch,n9],#[(m9.co.kk m9.sd kf).cm,(m9.co.kk m9.sd kf).cz,W3 (ak _)],L8.fr (Sx:=λw=>False) (.ex rf) (λw z=>z.elim) kf,L9.fr (Sx:=λw=>False) (.ex rf) (λw z=>z.elim) kf]
 generalize g9++[O.lst (.tup [.aO,.ref c0]::H.map s9)]=HD at *;generalize C4 K9 (-g9) 6=K10 at *;generalize (-g9)=b at *;exists IV (k:=k+4) hT va.m.sd () va.L2 λg11 OF=>?_;let B11:=va.ex OF;exists T9 (b8 T _) (yw (b8 T _) ?_);exists#[by omega,by omega,l0 0 (2:Int).toNat,λi σ g=>∃K H' eQ gH,gN K d n c0 a b r1 r2 r3 H' H (H'.map Ent.key) (H'.map Ent.key) eQ gH g/\-H'<=40+i/\-eQ<=40/\-gH<=40/\∃z9 nh ng mZ,σ=yz d n r1 a r2 r3 b (U0 n ((H.map Ent.key).map (·.1))) z9 nh ng mZ,λi σ g p=>G0,#[_,_,_,_,B11,by omega,hu,by simp,none,none,none,none,rfl],λi y σ g hy p=>?_,λσ g p=>?_]
 .let#[K,H',eQ,gH,B,kE,h1,h2,z9,nh,ng,mZ,rfl]:=p;let#[hi,rfl]:=E5 hy;show p7 ?_;show bC2 (k:=k) hT B () λg' K' Oo u1 u2 nh ng mZ B' h3 h4=>#[K',Oo,u1,u2,B',by omega,by omega,by omega,_,nh,ng,mZ,rfl]
 .let#[K,H',eQ,gH,B,kE,h1,h2,z9,nh,ng,mZ,rfl]:=p;rw[C8] at kE
  try show wpS _ _ _ _ _ _
  dsimp[yz];exists TJ (k:=k+1) hT B () () λg' K' Oo u1 u2 B'=>?_;left;show IV (k:=k+4) hT B'.sk () B'.L3 λg'' w=>rfl
end
end M
namespace Lk
open PySem L2 M
abbrev top(i:Nat):Stmt:=PySem.Challenge.pw_trussel_k51_whole_texts_there_and_back.main.body.getD i (.Pass #[0,0,0,0])
abbrev bA7:Stmt->@&Stmt
 |.ClassDef (body:=b) ..=>b
 |_=>[]
abbrev JC(i j:Nat):Stmt:=(bA7 (top i)).getD j (.Pass #[0,0,0,0])
abbrev F:@&RF:=[#[38,"is_number",["thing"],1,19,Eu],#[1,"number_from",["number","least","most"],3,20,Z1],#[16,"both",["one","other"],2,21,Ff],#[40,"check_side",["side"],1,26,U6],#[177,"with_thing",["things","at","thing"],3,27,U3],#[42,"check_anvils",["anvils"],1,30,X2],#[43,"check_cut",["wear","die"],2,33,Et],#[166,"plain_number",["text","number"],1,38,O7],#[238,"check_deed",["deed"],1,41,EL],#[239,"done_at",["mint","deed","word"],2,42,RY],#[252,"read_thing",["form","word"],2,44,U4],#[253,"read_deed",["row","first","words","things"],1,45,ED],#[254,"read_first_row",["row","words"],1,46,T5],#[255,"read_ledger",["text","rows","ledger","at","deed"],1,47,Z0],#[3,"_law_open",["_law_script"],1,49,AO],#[4,"_law_pull",["_law_draw","_law_total_of","_law_cell","_law_got","_law_seed"],2,50,Q7],#[5,"_law_far",["_law_draw","_law_number"],1,51,sT],#[36,"_law_near",["_law_draw","_law_total_of"],2,52,AN],#[6,"_law_num",["_law_found"],1,53,sU],#[7,"_law_like",["_law_found","_law_due"],2,54,C6],#[45,"_law_model",["_law_anvils"],1,55,zO],#[192,"_law_m_copy",["_law_m","_law_other","_law_word"],1,56,uT],#[46,"_law_m_cut",["_law_m","_law_side_here"],2,57,AK],#[178,"_law_m_fix",["_law_m","_law_die","_law_seat"],2,58,AL],#[179,"_law_m_off",["_law_m","_law_die","_law_seat"],2,59,AM],#[181,"_law_m_mark",["_law_m","_law_side_here","_law_die","_law_spot","_law_marks"],4,60,uU],#[182,"_law_m_strike",["_law_m","_law_lower","_law_upper"],3,61,Al],#[183,"_law_m_do",["_law_m","_law_deed_here","_law_word"],2,62,DB],#[37,"_law_number_of",["_law_draw","_law_numbers"],2,63,EC],#[29,"_law_side",["_law_draw"],1,64,AQ],#[188,"_law_deed",["_law_draw","_law_m","_law_turn","_law_on","_law_idle","_law_uppers","_law_side_here","_law_year","_law_years"],2,65,R6],#[191,"_law_same_end",["_law_found","_law_due"],2,66,Am],#[47,"_law_mint_stands",["_law_mint","_law_m","_law_side_here","_law_die","_law_word"],2,67,Q8],#[240,"_law_ledger_do",["_law_ledger","_law_deed_here"],2,68,U5],#[256,"_law_step_back",["_law_ledger","_law_again"],2,69,S5],#[272,"_law_made",["_law_draw","_law_ledger","_law_stands","_law_turn","_law_m","_law_deed_here","_law_step"],3,70,xW],#[273,"_law_read_ok",["_law_other","_law_text","_law_stands"],3,71,DX],#[274,"_law_backwards",["_law_draw","_law_ledger","_law_other","_law_stands","_law_step","_law_gone"],4,72,O9],#[11,"law",["_law_script","_law_draw","_law_anvils","_law_ledger","_law_stands","_law_text","_law_other","_law_third","_law_kept","_law_turn","_law_m","_law_deed_here","_law_due"],1,73,yx]]
abbrev Ms:@&RM:=[#[51,"Mint","__init__","Mint.__init__",["self","anvils"],2,34,0,EA],#[52,"Mint","wear_of","Mint.wear_of",["self","side"],2,34,1,Z2],#[53,"Mint","put_wear","Mint.put_wear",["self","side","wear"],3,34,2,W8],#[54,"Mint","cut","Mint.cut",["self","side","wear"],2,34,3,Eh],#[55,"Mint","fix","Mint.fix",["self","die","state","anvil"],2,34,4,Ei],#[56,"Mint","lay_off","Mint.lay_off",["self","die","anvil"],2,34,5,Z5],#[57,"Mint","mark","Mint.mark",["self","side","die","spot","marks"],4,34,6,S6],#[58,"Mint","strike","Mint.strike",["self","lower","upper","coin"],3,34,7,Z4],#[59,"Mint","begin_year","Mint.begin_year",["self","number"],2,34,8,Q1],#[60,"Mint","anvils","Mint.anvils",["self"],1,34,9,Z6],#[61,"Mint","dies","Mint.dies",["self","side"],2,34,10,Ez],#[62,"Mint","marks","Mint.marks",["self","side","die","wear"],3,34,11,EM],#[63,"Mint","state","Mint.state",["self","die"],2,34,12,EN],#[64,"Mint","year","Mint.year",["self"],1,34,13,EB],#[65,"Mint","struck","Mint.struck",["self"],1,34,14,Z3],#[66,"Mint","coin","Mint.coin",["self","number"],2,34,15,Ey],#[67,"Mint","hoard","Mint.hoard",["self","numbers"],2,34,16,O8],#[68,"Mint","twin","Mint.twin",["self","other"],1,34,17,Y2],#[243,"Ledger","__init__","Ledger.__init__",["self","anvils"],2,43,0,Z8],#[244,"Ledger","go_on","Ledger.go_on",["self","deed","mint","given"],2,43,1,Z9],#[245,"Ledger","do","Ledger.do",["self","deed","given"],2,43,2,Ew],#[246,"Ledger","back","Ledger.back",["self","deed"],1,43,3,R0],#[247,"Ledger","again","Ledger.again",["self","deed"],1,43,4,D7],#[248,"Ledger","deeds","Ledger.deeds",["self"],1,43,5,W9],#[249,"Ledger","mint","Ledger.mint",["self"],1,43,6,Z7],#[250,"Ledger","text","Ledger.text",["self","rows","deed"],1,43,7,Q9],#[251,"Ledger","twin","Ledger.twin",["self","other"],1,43,8,aL1]]
abbrev con:@&(Str×D):=[("LAST_SPOT",.int 7),("LAST_DIE",.int 99),("LAST_YEAR",.int 9999),("SIDES",.tup [(.str "lower"),(.str "upper")]),("MOST_ANVILS",.int 9),("MOST_STRUCK",.int 200),("FIGURES",.str "0123456789"),("MOST_FIGURES",.int 4)]
abbrev gd:@&(Str×@&D):=[("FORMS",[.tup [.str "cut",.tup [(.str "side")]],.tup [.str "fix",.tup [(.str "number")]],.tup [.str "off",.tup [(.str "number")]],.tup [.str "mark",.tup [(.str "side"),(.str "number"),(.str "number")]],.tup [.str "strike",.tup [(.str "number"),(.str "number")]],.tup [.str "year",.tup [(.str "number")]]])]
abbrev exc:@&Str:=["BadAnvils","BadDeed","BadSide","BadSpot","BadYear","Fixed","Full","Gone","Marked","MintError","NoAnvil","NoCoin","NoDie","NotFixed","Nothing"]
def c0:d5:=#[[],[],true,F.map λr=>(r.nm,r.id),con,["len","list","tuple","isinstance","all","range","int","bool","str","min","sorted","set","dict","zip"],exc,gd,[("Mint",51),("Ledger",243)],Ms.map λr=>(r.nm,r.cl,r.id),[("bench","Mint"),("laid_off","Mint"),("lower_wear","Mint"),("upper_wear","Mint"),("present","Mint"),("output","Mint"),("mints","Ledger"),("done","Ledger"),("undone","Ledger")],true,true,true]
noncomputable abbrev T:Nat->Option aW:=uB F Ms
def tx:lF c0 F Ms top JC:=by
 show#[rfl,rfl,by decide +kernel,by decide +kernel,by decide +kernel,by decide +kernel,?_,?_,?_,?_]
 all_goals
  repeat first
   |show BF.nil
   |show BM.nil
   |show YF.nil
   |show YM.nil
   |show YF.cons (by kernel_rfl) ?_
   |show YM.cons (by kernel_rfl) ?_
   |show BF.cons (λx x x x x x=>(by(repeat show Gw λx=>?_);show Gv rfl)) ?_
   |show BM.cons (λx x x x x x=>(by(repeat show Gw λx=>?_);show Gv rfl)) ?_
inductive uu:@&DictEntry->@&(Str×V)->Prop
 |nil:uu [] []
 |cons {h:Int} {x:Str} {t:Tok} {u:Value} {v:V} {es:@&DictEntry} {vs:@&(Str×V)} (r:RelV v u) (q:uu es vs):uu (#[h,.str x t,u]::es) ((x,v)::vs)
set_option tactic.hygienic true in
def uu.find{es vs}(x:Str)(h:uu es vs):E0 (vs.lookup x) (findBy Value.isStrOf es.toArray x):=by
 induction h with
 |nil=>trivial
 |cons r q ih =>
  rename_i h y t u v es vs;unfold findBy at ih ⊢;rw[List.find?_toArray] at ih ⊢;rw[iG,dE];by_cases e:x=y
  .rw[show(x==y)=true from by simp[e],show Value.isStrOf x (.str y t)=true from by simp[Value.isStrOf,e]];show r
  .rw[show(x==y)=false from by simpa using e,show Value.isStrOf x (.str y t)=false from by simp[Value.isStrOf];show λz=>e (z.symm)];show ih
def all_mk{l:PySem.W.OpenLaw}{w:World}{K:PySem.W.Frag}{h:Heap}{mg:Str->Option Value}{fa:Addr}{Dp zC kn km kl kj ki kh:Addr}{t0 t1 t2 xJ xI t4 t5 t6 t7 qE qD qz qy qx nJ pN pM pL pK pJ pI pH pG pF:Tok}{Dk:Array (Option Value)}{Dm:Nat}{Rt:Nat}{nQ nP nO nN nM nL:Int}{xi:Array (Option Value)}{xq:Nat}{xh:Array (Option Value)}{xp:Nat}{xg:Array (Option Value)}{xo:Nat}{xf:Array (Option Value)}{xn:Nat}{xc:Array (Option Value)}{xl:Nat}{xb:Array (Option Value)}{xk:Nat}(X:K.In h)(G:h.Ns mainGlobals mg)(Qw:mg "law"=!.ref fa)(I:lG K c0 F Ms top JC)(e0:PySem.W.nsIn K mainGlobals "LAST_SPOT"=!!Value.int 7 t0)(e1:PySem.W.nsIn K mainGlobals "LAST_DIE"=!!Value.int 99 t1)(e2:PySem.W.nsIn K mainGlobals "LAST_YEAR"=!!Value.int 9999 t2)(e3:PySem.W.nsIn K mainGlobals "SIDES"=!!.ref Dp)(RI:K.lookup Dp=!#[.type "tuple",none,.seq (List.toArray [Value.str "lower" xJ,Value.str "upper" xI]) Dm,Dk])(e4:PySem.W.nsIn K mainGlobals "MOST_ANVILS"=!!Value.int 9 t4)(e5:PySem.W.nsIn K mainGlobals "MOST_STRUCK"=!!Value.int 200 t5)(e6:PySem.W.nsIn K mainGlobals "FIGURES"=!!(Value.str "0123456789" t6))(e7:PySem.W.nsIn K mainGlobals "MOST_FIGURES"=!!Value.int 4 t7)(g0:PySem.W.nsIn K mainGlobals "FORMS"=!!.ref zC)(Ru:K.lookup zC=!#[.type "dict",none,.dict (List.toArray [#[nQ,Value.str "cut" qE,Value.ref kn],#[nP,Value.str "fix" qD,Value.ref km],#[nO,Value.str "off" qz,Value.ref kl],#[nN,Value.str "mark" qy,Value.ref kj],#[nM,Value.str "strike" qx,Value.ref ki],#[nL,Value.str "year" nJ,Value.ref kh]]) Rt,(List.toArray [])])(xA:K.lookup kn=!#[.type "tuple",none,.seq (List.toArray [Value.str "side" pN]) xq,xi])(xy:K.lookup km=!#[.type "tuple",none,.seq (List.toArray [Value.str "number" pM]) xp,xh])(xw:K.lookup kl=!#[.type "tuple",none,.seq (List.toArray [Value.str "number" pL]) xo,xg])(xu:K.lookup kj=!#[.type "tuple",none,.seq (List.toArray [Value.str "side" pK,Value.str "number" pJ,Value.str "number" pI]) xn,xf])(xt:K.lookup ki=!#[.type "tuple",none,.seq (List.toArray [Value.str "number" pH,Value.str "number" pG]) xl,xc])(xr:K.lookup kh=!#[.type "tuple",none,.seq (List.toArray [Value.str "number" pF]) xk,xb])(rJ:nQ=PyData.keyHash w.params "cut")(rH:nP=PyData.keyHash w.params "fix")(rG:nO=PyData.keyHash w.params "off")(rF:nN=PyData.keyHash w.params "mark")(rE:nM=PyData.keyHash w.params "strike")(rD:nL=PyData.keyHash w.params "year")(Rq:(zC==sysModules)=false)
  : ∃fd:FuncData,(∀(s:Shared) (v:Value),BindsTo s fd #[[v],[]] [("_law_script",v)])/\∀base:Heap,K.In base->base.Ns mainGlobals mg->gD l.prog w K mg base (gM l.prog w) 80 fa fd ["_law_script"] (qh exc K 1 (a8 T 40 11)):=by
 let A:nW w K mg c0 T:=by
  show bC9 I tx X G (λx d hx=>?_) (λx kvs hx=>?_)
  .let hm:=aL hx;simp only[c0,con,List.mem_cons,List.mem_nil_iff,or_false] at hm;rcases hm with z|z|z|z|z|z|z|z
   .cases z;show#[(.int 7),_,bN X G e0,#[_,rfl],λy y=>.int _]
   .cases z;show#[(.int 99),_,bN X G e1,#[_,rfl],λy y=>.int _]
   .cases z;show#[(.int 9999),_,bN X G e2,#[_,rfl],λy y=>.int _]
   .cases z;show#[.ref Dp,_,bN X G e3,rfl,λy y=>.tup (vs:=[.str "lower",.str "upper"]) (.inr #[_,_,_,RI,rfl,rfl,rfl,(by change 2<=sizeLine;decide),.cons #[_,rfl] (.cons #[_,rfl] (.nil))]) (.cons (.str _) (.cons (.str _) (.nil)))]
   .cases z;show#[(.int 9),_,bN X G e4,#[_,rfl],λy y=>.int _]
   .cases z;show#[(.int 200),_,bN X G e5,#[_,rfl],λy y=>.int _]
   .cases z;show#[(.str "0123456789"),_,bN X G e6,#[_,rfl],λy y=>.str _]
   .cases z;show#[(.int 4),_,bN X G e7,#[_,rfl],λy y=>.int _]
  .let hm:=aL hx;simp only[c0,gd,List.mem_cons,List.mem_nil_iff,or_false] at hm;let z:=hm
   .cases z;let er:uu [#[nQ,Value.str "cut" qE,Value.ref kn],#[nP,Value.str "fix" qD,Value.ref km],#[nO,Value.str "off" qz,Value.ref kl],#[nN,Value.str "mark" qy,Value.ref kj],#[nM,Value.str "strike" qx,Value.ref ki],#[nL,Value.str "year" nJ,Value.ref kh]] [("cut",.ref kn),("fix",.ref km),("off",.ref kl),("mark",.ref kj),("strike",.ref ki),("year",.ref kh)]:=.cons (v:=.ref kn) rfl (.cons (v:=.ref km) rfl (.cons (v:=.ref kl) rfl (.cons (v:=.ref kj) rfl (.cons (v:=.ref ki) rfl (.cons (v:=.ref kh) rfl (.nil))))));show#[zC,_,bN X G g0,#[_,_,Ru,#[#[_,_,rfl,rJ],#[#[_,_,rfl,rH],#[#[_,_,rfl,rG],#[#[_,_,rfl,rF],#[#[_,_,rfl,rE],#[#[_,_,rfl,rD],True.intro]]]]]],Rq,λx=>er.find x],.cons (λy y=>.tup (vs:=[.str "side"]) (.inr #[_,_,_,xA,rfl,rfl,rfl,(by change 1<=sizeLine;decide),.cons #[_,rfl] (.nil)]) (.cons (.str _) (.nil))) (.cons (λy y=>.tup (vs:=[.str "number"]) (.inr #[_,_,_,xy,rfl,rfl,rfl,(by change 1<=sizeLine;decide),.cons #[_,rfl] (.nil)]) (.cons (.str _) (.nil))) (.cons (λy y=>.tup (vs:=[.str "number"]) (.inr #[_,_,_,xw,rfl,rfl,rfl,(by change 1<=sizeLine;decide),.cons #[_,rfl] (.nil)]) (.cons (.str _) (.nil))) (.cons (λy y=>.tup (vs:=[.str "side",.str "number",.str "number"]) (.inr #[_,_,_,xu,rfl,rfl,rfl,(by change 3<=sizeLine;decide),.cons #[_,rfl] (.cons #[_,rfl] (.cons #[_,rfl] (.nil)))]) (.cons (.str _) (.cons (.str _) (.cons (.str _) (.nil))))) (.cons (λy y=>.tup (vs:=[.str "number",.str "number"]) (.inr #[_,_,_,xt,rfl,rfl,rfl,(by change 2<=sizeLine;decide),.cons #[_,rfl] (.cons #[_,rfl] (.nil))]) (.cons (.str _) (.cons (.str _) (.nil)))) (.cons (λy y=>.tup (vs:=[.str "number"]) (.inr #[_,_,_,xr,rfl,rfl,rfl,(by change 1<=sizeLine;decide),.cons #[_,rfl] (.nil)]) (.cons (.str _) (.nil))) (.nil))))))]
 let#[f,fd,O,a,t]:=Mv I tx _ (aQ (i:=38) rfl);cases Qw.symm.trans (bN X G a);let#[oc,od,kV,doc,pm,an,fz,ct,mE,rfl,lk,lZ]:=O.fn.ex;show#[_,λs v=>.of_eq rfl,λbase nB xj=>XT nB xj A 40 11 _ _ fa _ rfl O]
def walk{l:PySem.W.OpenLaw}{q:Program}{loose:@&Str}{XP:(Str->Option Value)->Heap->Prop}{YP:World->Heap->Prop}{d:DefRec}{K:Params->PySem.W.Frag}(hn:l.most=!63)(wN:d.params.defaults=[])(hY:∀(w:World) (h:Heap),YP w h->(K w.params).In h)(F:∀ (w:World) (mg:Str->Option Value) (fa:Addr) (h:Heap),(K w.params).In h->h.Ns mainGlobals mg->mg d.name=!.ref fa ->
   ∃ fd:FuncData,(∀ (s:Shared) (u:Value),BindsTo s fd #[[u],[]] [("_law_script",u)])/\∀ base:Heap,(K w.params).In base->base.Ns mainGlobals mg->gD l.prog w (K w.params) mg base (gM l.prog w) 80 fa fd ["_law_script"] (qh exc (K w.params) 1 (a8 T 40 11))) :
  PySem.W.WalkO q loose XP YP l.row.toRowW d [] (λf vs=>PySem.call f vs) :=
 L2.TB (n:=63) (k:=80) (x:="_law_script") (CX:=λw=>gM l.prog w) (sp:=λw=>qh exc (K w.params) 1 (a8 T 40 11)) hn ∅ wN #[rfl,by decide,by decide] hY F (λw H a ns hl hO hS=>Yr hO hS (Uw (k:=26) #[#[#[#[#[rfl,rfl],rfl,rfl,rfl,rfl,rfl,rfl,rfl,rfl,rfl,rfl,rfl,rfl,rfl,rfl],rfl,rfl,rfl,rfl,rfl,rfl,rfl],rfl,rfl,rfl,rfl,rfl,rfl],#[rfl,rfl,rfl,rfl,rfl,rfl],#[rfl,rfl,rfl,rfl,rfl,rfl,rfl,rfl],#[rfl,rfl,rfl,rfl,rfl],rfl,rfl,rfl,rfl,rfl,rfl,rfl,rfl,rfl,rfl,rfl,rfl,rfl,rfl,rfl,rfl,rfl])) (by rintro _ _ _ _ _ ⟨_,_,_,_,_,_,_,z⟩;show z)
end Lk
end _X
open _X
open PySem PySem.W PyProof.Rows
set_option maxRecDepth 100000 in
set_option maxHeartbeats 0 in
theorem PySem.Challenge.cw_trussel_k51_whole_texts_there_and_back_holds : PySem.Challenge.rw_trussel_k51_whole_texts_there_and_back.Holds := by
 w_on;o_law;k_head;(case hw=>w_witness2)
 k_fill
 refine Lk.walk (l:=PySem.Challenge.rw_trussel_k51_whole_texts_there_and_back) rfl rfl (fun w h Y=>PySem.W.kIn_of Y) ?F
 case F =>
  intro w mg fa h KX G hmg
  refine' Lk.all_mk KX G hmg ⟨?zz1,?zz2,?zz3,?zz4,?zz5,?zz6,?zz7⟩ ?_ ?_ ?_ ?_ ?_ ?_ ?_ ?_ ?_ ?_ ?_ ?_ ?_ ?_ ?_ ?_ ?_ ?_ ?_ ?_ ?_ ?_ ?_ ?_
  (case zz1=>repeat' first | (with_reducible show _=_;k_is) | exact M.PF.nil | apply M.PF.cons)
  (case zz2=>repeat' first | (with_reducible show _=_;k_is) | exact M.PM.nil | apply M.PM.cons)
  (case zz3=>repeat' first | (with_reducible show _=_;k_is) | exact M.PC.nil | apply M.PC.cons)
  (case zz4=>repeat' first | (with_reducible show _=_;k_is) | exact M.PA.nil | apply M.PA.cons)
  (case zz5=>repeat' first | (with_reducible show _=_;k_is) | exact M.PB.nil | apply M.PB.cons)
  (case zz6=>repeat' first | (with_reducible show _=_;first | (with_reducible show PySem.W.excIn _ _ _ _=true;k_exc) | k_is) | exact M.PX.nil | apply M.PX.cons)
  (case zz7=>kernel_rfl)
  all_goals try (with_reducible show _=_;k_is)
  all_goals try ((with_reducible show _=_);rfl)
#print axioms PySem.Challenge.cw_trussel_k51_whole_texts_there_and_back_holds
