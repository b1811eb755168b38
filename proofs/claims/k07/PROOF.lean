import PyProof.Rows.All
import Wide.All
import OpenK.AllK
import Wide.FinOn
import Lean
import PyProof.EqAt
import PyProof.EqKinds
import PyProof.TupleCall
import PySem.Challenge.RW_trussel_k07_coins_that_hang_together
set_option Elab.async false
set_option linter.all false
set_option maxRecDepth 100000
set_option maxHeartbeats 4000000
namespace PySem.W.Fast
def tw17670172533670385600:=()
def tw17062873638330748619:=()
def tw17945562570773425853:=()
def tw15359876306422455687:=()
def tw12895290017837181473:=()
def tw8446067772269489478:=()
def tw4564900969328153302:=()
def tw11253979124755398539:=()
def tw16396911202404211911:=()
def tw8539144595768432100:=()
def tw15418238393710818353:=()
def tw8138204596762657043:=()
def tw17954251942877613608:=()
def tw9119560075505182500:=()
def tw21712021671610275:=()
def tw13228928602087485124:=()
def tw15280343330077022052:=()
def tw10029589221819678696:=()
def tw5862792911118602440:=()
def tw4918907153790921477:=()
def tw10289987534374745494:=()
def tw13055952386348681505:=()
def tw13177872230508946288:=()
def tw8864624219441527930:=()
def tw10936450354257748975:=()
def tw8505589882085273321:=()
def tw3105605559197946606:=()
def tw4738372621364455567:=()
def tw10295914372920238761:=()
def tw11143517934901106263:=()
def tw1222357597955331848:=()
def tw17399373594995852602:=()
def tw13631626050614113346:=()
def tw12850794240747575234:=()
def tw1195113335280476192:=()
def tw15092204152075804675:=()
def tw9077415961848321446:=()
def tw4882090905198313970:=()
def tw8947912337988362490:=()
def tw1930232470190009494:=()
def tw10113631068175089805:=()
def tw3643119636081742318:=()
def tw8728607641173857354:=()
def tw6131720123485293924:=()
def tw5631194597609306898:=()
def tw6671276922478652997:=()
def tw1754397638831563540:=()
def tw14144601252591239005:=()
def tw13668835712964104350:=()
def tw10979756099817896700:=()
def tw16857788256776961386:=()
def tw2268392161239266630:=()
def tw11609887094425425705:=()
def tw828985948000542749:=()
def tw4546616786130018131:=()
def tw10942741330402348639:=()
def tw3036066229383463547:=()
def tw10412098509197263410:=()
def tw564197036916517813:=()
def tw8524339576953837795:=()
def tw9331736424001240233:=()
def tw14668812370202860358:=()
def tw280481028521314510:=()
def tw10762280378360723703:=()
def tw3089185769265414397:=()
def tw5789583333401677505:=()
def tw5739839221316350843:=()
def tw10968100905697975808:=()
def tw10540352806226111936:=()
def tw3277313924833311746:=()
def tw13058605738802707395:=()
def tw9987790453945532335:=()
def tw7816391663049744049:=()
def tw3872382843305733073:=()
def tw13260675590495236809:=()
def tw7439321530528693320:=()
def tw976923145434460081:=()
def tw13248246534074575930:=()
def tw11552304689856413652:=()
def tw10796271573797987453:=()
def tw9910538420501223434:=()
def tw4329301143181082030:=()
def tw5026089254211809200:=()
def tw6889973529469454790:=()
def tw9818981799146994849:=()
def tw2597881420637114787:=()
def tw16003236351244190330:=()
def tw14128285292584938750:=()
def tw1068944465454032289:=()
def tw16611855891137604531:=()
def tw11385809789901674142:=()
def tw3366084927734462542:=()
def tw2846045529016594025:=()
def tw17975641154606664274:=()
def tw4526614430368625091:=()
def tw5098811121221958957:=()
def tw3699715898604715801:=()
def tw3045865703350841721:=()
def tw12946551134622341280:=()
def tw12405260818632578409:=()
def tw5026897994055276051:=()
def tw5166401283229208170:=()
def tw15045947368400451391:=()
def tw10557206715142673533:=()
def tw1295223024780632793:=()
def tw18428071047165814634:=()
def tw15276874716243006946:=()
def tw12764751671277156943:=()
def tw17374426940180287176:=()
def tw2884945973615250363:=()
def tw6389115821376527715:=()
def tw1885501751958317692:=()
def tw332231956583376663:=()
def tw16315050359741456469:=()
def tw7023409365804902382:=()
def tw498663231070398927:=()
def tw3782734346121948175:=()
def tw1596155350884258116:=()
def tw455344505477168277:=()
def tw8069982254754226863:=()
def tw13192719745270340749:=()
def tw6998668988038763543:=()
def tw6489339148556609311:=()
def tw1949474955702613442:=()
def tw8680900263303137070:=()
def tw5215483921968536507:=()
def tw2676624157816100079:=()
def tw248605137627736879:=()
def tw2888895945497067514:=()
def tw15007772735368834558:=()
def tw17865433854183521821:=()
def tw7114762260486155567:=()
def tw8900977575611249110:=()
def tw15760826271112902801:=()
def tw4276879657690549342:=()
def tw12278284833091486373:=()
def tw10372357347536059417:=()
def tw16272244714044335913:=()
def tw5369146824871253348:=()
def tw15173978667294209706:=()
def tw18059494258004077141:=()
def tw6646623026097311348:=()
def tw5850533940996544787:=()
def tw10404459044465429678:=()
def tw36885220504492896:=()
def tw1940117523486313847:=()
def tw12859843002811246380:=()
def tw2828165321038202641:=()
def tw12781050401843398108:=()
def tw16275395514891717615:=()
def tw2260593521321918224:=()
def tw16846542538100620663:=()
def tw992318585998413272:=()
def tw4340616379030212167:=()
def tw7847958183640990263:=()
def tw4774787282225103535:=()
def tw2122479983872405801:=()
def tw3954226191786218188:=()
def tw15588173099029174157:=()
def tw10656024398670417450:=()
def tw14567865379856032763:=()
def tw12597444742867881292:=()
def tw17736453438611987344:=()
def tw10551955698952015415:=()
def tw12922758483360701182:=()
def tw13225829319557449361:=()
def tw9009272874506039954:=()
def tw5861866254394412278:=()
def tw13292789906495134919:=()
def tw17883377132730774298:=()
def tw14317291897376289955:=()
def tw11523455546916088773:=()
def tw17084795482356664244:=()
def tw12854654073881223752:=()
def tw15756315922889358690:=()
def tw15913362390060982098:=()
def tw5142540602009634575:=()
def tw16405356300128952793:=()
def tw7609235264489989231:=()
def tw2297424433898852333:=()
def tw10434926436816026815:=()
def tw9977883922386363381:=()
def tw8081075210603413433:=()
def tw10696000422186062168:=()
def tw6002434703808199413:=()
def tw13486293419801463428:=()
def tw13534329766007963192:=()
def tw3759899028225071150:=()
def tw17871277452776352302:=()
def tw10473362102074950730:=()
def tw805991894302702787:=()
def tw10083049018603387197:=()
def tw1898990124280953429:=()
def tw2552279199577508570:=()
def tw8896138826705753538:=()
def tw2489823974320914842:=()
def tw4026003925600626961:=()
def tw4965355617116423069:=()
def tw10469309584371894741:=()
def tw9915988679343244416:=()
def tw4972404810651225560:=()
def tw8387030961176810294:=()
def tw15762342143347489277:=()
def tw16443631162815533598:=()
def tw17890468766385024621:=()
def tw2073453195585009135:=()
def tw5109171576777510966:=()
def tw6746764961817290312:=()
def tw3512555293808898655:=()
def tw11836472705880704144:=()
def tw10867424286616262730:=()
def tw12967986527933861392:=()
def tw17466246038418723430:=()
def tw3623612056820805942:=()
def tw11532778909616502410:=()
def tw8747044269064096485:=()
def tw6704471411025818186:=()
def tw769780525205337891:=()
def tw12082465284337073990:=()
def tw16846537163237533665:=()
def tw13887223405436735223:=()
def tw8608687700556312204:=()
def tw14479117493765424972:=()
def tw4810947509708726588:=()
def tw15779514359751275884:=()
def tw3546866578144288709:=()
def tw4796561975036809673:=()
def tw14228754415029331673:=()
def tw8054583788544676100:=()
def tw10327164076473309174:=()
def tw11525252228438409444:=()
def tw3782167260240598371:=()
def tw15877912459313297673:=()
def tw1478421864514076300:=()
def tw15942921620878492068:=()
def tw9121347572296050418:=()
def tw9611673518712748047:=()
def tw11843680339766504821:=()
def tw3049633976987248785:=()
def tw5981260614998974005:=()
def tw8912566158301212388:=()
def tw10406020812909722310:=()
def tw14758046357321384797:=()
def tw17697755589784239884:=()
def tw1847552313392810069:=()
def tw10238204496288636966:=()
def tw17405956680501179766:=()
def tw13570896137833902772:=()
def tw2339397538707634232:=()
def tw279927819941853351:=()
def tw6015242303601001049:=()
def tw5097091985435615527:=()
def tw7366093440918554123:=()
def tw8154400394889011824:=()
def tw13253836712283526872:=()
def tw64470701358342752:=()
def tw4207691094628921278:=()
def tw9023886137144846358:=()
def tw7415879971814383497:=()
def tw4846663321934720492:=()
def tw2725270848225323081:=()
def tw6794912801630228511:=()
def tw13200398915168203881:=()
def tw15142339403209711145:=()
end PySem.W.Fast
namespace L2
open PySem PySem.Spec PyProof.Rows
noncomputable abbrev Key:=Sum Int Str
noncomputable def T3:Key->Value->Bool
 |.inl k,v=>Value.isInt k v
 |.inr x,v=>Value.isStrOf x v
noncomputable def bu9(w:World):Key->Int
 |.inl k=>hashInt k
 |.inr x=>hashStr w x
theorem m9:∀{k:Key} {v:Value},T3 k v=true->(∃i t,k=Sum.inl i/\v=Value.int i t)\/(∃x t,k=Sum.inr x/\v=Value.str x t)
 |.inl i,v,h=>by
  obtain⟨t,e⟩:=Value.isInt_shape (k:=i) (v:=v) h;exact .inl ⟨i,t,rfl,e⟩
 |.inr x,v,h=>by
  obtain⟨t,e⟩:=Value.isStrOf_shape (x:=x) (v:=v) h;exact .inr ⟨x,t,rfl,e⟩
theorem aI2(i:Int)(t:Tok):T3 (.inl i) (.int i t)=true:=by simp[T3,Value.isInt]
theorem aI1(x:Str)(t:Tok):T3 (.inr x) (.str x t)=true:=by simp[T3,Value.isStrOf]
theorem be2(a b:Int):decide ((Sum.inl a:Key)=Sum.inl b)=(a==b):=by
 by_cases e:a=b
 ·subst e;simp
 ·have h:¬(Sum.inl a:Key)=Sum.inl b:=fun q=>e (Sum.inl.inj q);rw[decide_eq_false h];exact(beq_eq_false_iff_ne.mpr e).symm
theorem bd9(a b:Str):decide ((Sum.inr a:Key)=Sum.inr b)=decide (a=b):=by
 by_cases e:a=b
 ·subst e;simp
 ·have h:¬(Sum.inr a:Key)=Sum.inr b:=fun q=>e (Sum.inr.inj q);rw[decide_eq_false h,decide_eq_false e]
theorem be1(a:Int)(b:Str):decide ((Sum.inl a:Key)=Sum.inr b)=false:=decide_eq_false (fun q=>nomatch q)
theorem be0(a:Str)(b:Int):decide ((Sum.inr a:Key)=Sum.inl b)=false:=decide_eq_false (fun q=>nomatch q)
noncomputable def j5(prog:Program)(w:World):PySem.KeyKind prog w Key where
 is:=T3
 hash:=bu9 w
 inj:=fun v a b ha hb=>by
  rcases m9 ha with⟨i,t,rfl,rfl⟩|⟨x,t,rfl,rfl⟩
  ·rcases m9 hb with⟨j,u,rfl,e⟩|⟨y,u,rfl,e⟩
   ·injection e with e1 _;rw[e1]
   ·exact nomatch e
  ·rcases m9 hb with⟨j,u,rfl,e⟩|⟨y,u,rfl,e⟩
   ·exact nomatch e
   ·injection e with e1 _;rw[e1]
 byValue:=fun k v h=>by
  rcases m9 h with⟨i,t,rfl,rfl⟩|⟨x,t,rfl,rfl⟩<;>rfl
 pyHash:=fun hv h=>by
  rcases m9 hv with⟨i,t,rfl,rfl⟩|⟨x,t,rfl,rfl⟩
  ·exact wpAny_pyHash_int h
  ·exact wpAny_pyHash_str h
 eqBool:=fun hu hv h=>by
  rcases m9 hu with⟨i,t,rfl,rfl⟩|⟨x,t,rfl,rfl⟩
  ·rcases m9 hv with⟨j,u,rfl,rfl⟩|⟨y,u,rfl,rfl⟩
   ·rw[be2] at h;exact wpAny_eqBool_int h
   ·rw[be1] at h;exact SeqAt.EqAt.int_str i t y u _ _ _ _ h
  ·rcases m9 hv with⟨j,u,rfl,rfl⟩|⟨y,u,rfl,rfl⟩
   ·rw[be0] at h;exact SeqAt.EqAt.str_int x t j u _ _ _ _ h
   ·rw[bd9] at h;exact wpAny_eqBool_str h
 «strs»:=fun k x t v h=>by
  rcases m9 h with⟨i,u,rfl,e⟩|⟨y,u,rfl,e⟩
  ·exact nomatch e
  ·injection e with e1 _;subst e1;cases v<;>rfl
theorem az7(prog:Program)(w:World)(k:Key)(v:Value):(j5 prog w).is k v=T3 k v:=rfl
theorem at9(prog:Program)(w:World)(i:Int)(t:Tok):(j5 prog w).is (.inl i) (.int i t)=true:=aI2 i t
theorem at8(prog:Program)(w:World)(x:Str)(t:Tok):(j5 prog w).is (.inr x) (.str x t)=true:=aI1 x t
end L2
namespace L2
open PySem PySem.Spec PyProof.Rows
inductive V where
 |non|bl (b:Bool)|int (i:Int)|str (x:Str)|byt (b:Array UInt8)|flt (b:UInt64)|ref (a:Addr)|ty (n:String)
 deriving DecidableEq
noncomputable def RelV:V->Value->Prop
 |.non,u=>u=Value.none
 |.bl b,u=>u=Value.bool b
 |.int i,u=>∃t,u=Value.int i t
 |.str x,u=>∃t,u=Value.str x t
 |.byt b,u=>∃t,u=Value.bytes b t
 |.flt b,u=>∃t,u=Value.float b t
 |.ref a,u=>u=Value.ref a
 |.ty n,u=>u=Value.type n
noncomputable abbrev Vals:List V->List Value->Prop:=Paired RelV
theorem Vals.length{xs:List V}{us:List Value}(r:Vals xs us):xs.length=us.length:=Paired.length r
theorem Vals.get:∀{xs:List V} {us:List Value} {i:Nat} {x:V},Vals xs us->xs[i]?=some x->∃u,us[i]?=some u/\RelV x u
 |_,_,_,_,.nil,e=>by simp at e
 |_,_,0,_,.cons r _,e=>by simp at e;subst e;exact⟨_,rfl,r⟩
 |_,_,i+1,x,.cons _ t,e=>by
  obtain⟨u,h1,h2⟩:=Vals.get (i:=i) (x:=x) t (by simpa using e);exact⟨u,by simpa using h1,h2⟩
theorem Vals.set{x:V}{u:Value}(r:RelV x u):∀{xs:List V} {us:List Value} (i:Nat),Vals xs us->Vals (xs.set i x) (us.set i u)
 |_,_,_,.nil=>.nil
 |_,_,0,.cons _ t=>.cons r t
 |_,_,i+1,.cons q t=>.cons q (Vals.set r i t)
theorem Vals.append:∀{xs ys:List V} {us ws:List Value},Vals xs us->Vals ys ws->Vals (xs++ys) (us++ws)
 |_,_,_,_,.nil,s=>s
 |_,_,_,_,.cons r t,s=>.cons r (Vals.append t s)
theorem Vals.take:∀{xs:List V} {us:List Value} (n:Nat),Vals xs us->Vals (xs.take n) (us.take n)
 |_,_,0,_=>.nil
 |_,_,_+1,.nil=>.nil
 |_,_,n+1,.cons r t=>.cons r (Vals.take n t)
theorem Vals.drop:∀{xs:List V} {us:List Value} (n:Nat),Vals xs us->Vals (xs.drop n) (us.drop n)
 |_,_,0,r=>r
 |_,_,_+1,.nil=>.nil
 |_,_,n+1,.cons _ t=>Vals.drop n t
theorem Vals.none_of:∀{xs:List V} {us:List Value} {i:Nat},Vals xs us->xs[i]?=none->us[i]?=none:=fun{xs us i} r e=>by
 have h1:=r.length;have h2:xs.length<=i:=List.getElem?_eq_none_iff.mp e;exact List.getElem?_eq_none_iff.mpr (by omega)
noncomputable def v5:Option V->Option Value->Prop
 |some v,some u=>RelV v u
 |none,none=>True
 |_,_=>False
noncomputable def KV{κ:Type}:List (κ×V)->List (κ×Value)->Prop:=Paired fun(p:κ×V) (q:κ×Value)=>p.1=q.1/\RelV p.2 q.2
noncomputable def kV:Key->V
 |.inl i=>.int i
 |.inr x=>.str x
inductive HO where
 |lst (xs:List V)
 |tup (xs:List V)
 |dK (kvs:List (Key×V))|dT (kvs:List (List Key×V))
 |set (S:Int->Bool) (n:Nat)
 |ins (C dx:Addr) (fs:List (Str×V))
 |own (x:Addr)
 |xd (fs:List (Str×V))
 |met (f x:Addr)
 |rng (lo hi:Int)
 |frz (o:Obj) (u:HO)
 |tbl (ps:Array Value)
 |ext (φ:Heap->Prop)
noncomputable abbrev Hp:=Addr->Option HO
noncomputable def upd(H:Hp)(a:Addr)(o:HO):Hp:=fun b=>if b=a then some o else H b
theorem p8{H:Hp}{a:Addr}{o:HO}:upd H a o a=some o:=by unfold upd;rw[if_pos rfl]
theorem f6{H:Hp}{a b:Addr}{o:HO}(h:b≠a):upd H a o b=H b:=by unfold upd;rw[if_neg h]
theorem bm0{H:Hp}{a b:Addr}{o u:HO}(h:H a=some o)(h':H b=some u)(d:o≠u):a≠b:=by
 intro e;subst e;rw[h] at h';exact d (Option.some.inj h')
theorem j2{H:Hp}{a b:Addr}{o:HO}(h:H a=some o)(h':H b=none):a≠b:=by
 intro e;subst e;rw[h] at h';cases h'
noncomputable def B9(h:Heap)(a:Addr)(items:Array Value):Prop:=∃o,h.get? a=some o/\o.cls=.type "tuple"/\(∃n,o.data=.seq items n)/\o.dict=none
theorem B9.tup{h:Heap}{a:Addr}{items:Array Value}(x:B9 h a items):IsTup h a items:=let ⟨o,e,c,d,_⟩:=x;⟨o,e,c,d⟩
theorem B9.new(h:Heap)(items:Array Value):B9 (h.push { cls:=.type "tuple",data:=.seq items }) h.objs.size items:=⟨_,Heap.get?_push_size _ rfl,rfl,⟨_,rfl⟩,rfl⟩
section
variable(P:Program)(w:World)
noncomputable def j4(H:Hp)(h:Heap)(a:Addr):HO->Prop
 |.lst xs=>xs.length<=sizeLine/\∃(its:List Value) (n:Nat),Vals xs its/\h.get? a=some { cls:=.type "list",data:=.seq its.toArray n }
 |.tup xs=>xs.length<=sizeLine/\∃its:List Value,Vals xs its/\B9 h a its.toArray
 |.dK kvs=>kvs.length<=sizeLine/\(a==sysModules)=false/\∃vs,KV kvs vs/\h.DictOf (j5 P w) a vs
 |.dT kvs=>kvs.length<=sizeLine/\(a==sysModules)=false/\∃xs:List (List Key×Addr×Value),
   Paired (fun(p:List Key×V) (q:List Key×Addr×Value)=>p.1=q.1/\H q.2.1=some (.tup (p.1.map kV))/\RelV p.2 q.2.2) kvs xs /\
   ∃o es ep,h.get? a=some o/\o.ExactDict/\o.data=.dict es ep/\es.toList=xs.map (entryOfKey (tupleKind (j5 P w)))/\(xs.map (·.1)).Nodup
 |.set S n=>h.SetOf (intKind P w) a S n
 |.ins C dx fs=>H dx=some (.own a)/\fs.length<=1000/\dx≠a/\h.get? a=some (PySem.W.instObj C dx) /\
   ∃mA,h.Ns1 dx mA/\(∀f,v5 (fs.lookup f) (mA f))/\PySem.Within mA (fs.map (·.1))
 |.own _=>∃o,h.get? a=some o
 |.xd fs=>∃mA,h.Ns1 a mA/\∀f,v5 (fs.lookup f) (mA f)
 |.rng lo hi=>∃t u v,h.get? a=some { cls:=.type "range",data:=.fields #[.int lo t,.int hi u,.int 1 v] }
 |.frz o u=>h.get? a=some o/\j4 H h a u
 |.tbl ps=>h.get? a=some { cls:=.none,data:=.fields ps }
 |.met f x=>h.get? a=some (PySem.W.methodObj (.ref f) (.ref x))
 |.ext φ=>φ h/\(∃o,h.get? a=some o)/\∀h1 h2:Heap,φ h1->(∀o,h1.get? a=some o->h2.get? a=some o)->φ h2
noncomputable def HOk(H:Hp)(h:Heap):Prop:=∀a o,H a=some o->j4 P w H h a o
end
section
variable{P:Program}{w:World}{H H':Hp}{h h':Heap}{a:Addr}{o:HO}
theorem j4.lt(x:j4 P w H h a o):a<h.objs.size:=by
 cases o with
 |lst xs=>obtain⟨_,_,_,_,e⟩:=x;exact Heap.lt_size e
 |tup xs=>obtain⟨_,_,_,p⟩:=x;exact p.tup.lt
 |dK kvs=>obtain⟨_,_,_,_,o,_,_,e,_⟩:=x;exact Heap.lt_size e
 |dT kvs=>obtain⟨_,_,_,_,o,_,_,e,_⟩:=x;exact Heap.lt_size e
 |set S n=>obtain⟨o,_,_,_,e,_⟩:=x;exact Heap.lt_size e
 |ins C dx fs=>obtain⟨_,_,_,e,_⟩:=x;exact Heap.lt_size e
 |own y=>obtain⟨_,e⟩:=x;exact Heap.lt_size e
 |xd fs=>obtain⟨_,⟨_,_,_,e,_⟩,_⟩:=x;exact Heap.lt_size e
 |rng lo hi=>obtain⟨_,_,_,e⟩:=x;exact Heap.lt_size e
 |frz ob u=>obtain⟨e,_⟩:=x;exact Heap.lt_size e
 |tbl ps=>exact Heap.lt_size (show h.get? a=some _ from x)
 |met f y=>exact Heap.lt_size (show h.get? a=some _ from x)
 |ext φ=>obtain⟨_,⟨_,e⟩,_⟩:=x;exact Heap.lt_size e
theorem Paired.aQ2{α β:Type}{F G:α->β->Prop}:∀{l₁:List α} {l₂:List β},Paired F l₁ l₂->(∀a b,F a b->G a b)->Paired G l₁ l₂
 |_,_,.nil,_=>.nil
 |_,_,.cons r t,f=>.cons (f _ _ r) (Paired.aQ2 t f)
theorem j4.P0(x:j4 P w H h a o)(k:∀b u,(b=a\/H b=some (.own a))->h.get? b=some u->h'.get? b=some u)(ho:∀b,H b=some (.own a)->H' b=some (.own a))(ht:∀b xs,H b=some (.tup xs)->H' b=some (.tup xs)):j4 P w H' h' a o:=by
 induction o with
 |lst xs=>obtain⟨z,its,n,r,e⟩:=x;exact⟨z,its,n,r,k _ _ (.inl rfl) e⟩
 |tup xs=>obtain⟨z,its,r,ob,e,c⟩:=x;exact⟨z,its,r,ob,k _ _ (.inl rfl) e,c⟩
 |dK kvs=>obtain⟨z,y,vs,r,ob,es,ep,e,c⟩:=x;exact⟨z,y,vs,r,ob,es,ep,k _ _ (.inl rfl) e,c⟩
 |dT kvs =>
  obtain⟨z,y,xs,r,ob,es,ep,e,c⟩:=x;exact⟨z,y,xs,Paired.aQ2 r fun p q z=>⟨z.1,ht _ _ z.2.1,z.2.2⟩,ob,es,ep,k _ _ (.inl rfl) e,c⟩
 |set S n=>obtain⟨ob,es,ep,t,e,c⟩:=x;exact⟨ob,es,ep,t,k _ _ (.inl rfl) e,c⟩
 |ins C dx fs =>
  obtain⟨d,z,ne,e,mA,⟨od,es,ep,e2,c⟩,r⟩:=x;exact⟨ho _ d,z,ne,k _ _ (.inl rfl) e,mA,⟨od,es,ep,k _ _ (.inr d) e2,c⟩,r⟩
 |own y=>obtain⟨ob,e⟩:=x;exact⟨ob,k _ _ (.inl rfl) e⟩
 |xd fs=>obtain⟨mA,⟨od,es,ep,e,c⟩,r⟩:=x;exact⟨mA,⟨od,es,ep,k _ _ (.inl rfl) e,c⟩,r⟩
 |rng lo hi=>obtain⟨t,u,v,e⟩:=x;exact⟨t,u,v,k _ _ (.inl rfl) e⟩
 |frz ob u ih=>obtain⟨e,q⟩:=x;exact⟨k _ _ (.inl rfl) e,ih q⟩
 |tbl ps =>
  have e:h.get? a=some { cls:=.none,data:=.fields ps }:=x;show h'.get? a=some { cls:=.none,data:=.fields ps };exact k a _ (.inl rfl) e
 |met f y =>
  have e:h.get? a=some (PySem.W.methodObj (.ref f) (.ref y)):=x;show h'.get? a=some (PySem.W.methodObj (.ref f) (.ref y));exact k a _ (.inl rfl) e
 |ext φ=>obtain⟨p,⟨o,e⟩,st⟩:=x;exact⟨st _ _ p fun o q=>k _ _ (.inl rfl) q,⟨o,k _ _ (.inl rfl) e⟩,st⟩
theorem HOk.lt(x:HOk P w H h)(e:H a=some o):a<h.objs.size:=(x a o e).lt
theorem HOk.fresh(x:HOk P w H h)(e:h.objs.size<=a):H a=none:=by
 cases q:H a with
 |none=>rfl
 |some u=>exact absurd (Nat.lt_of_lt_of_le (x.lt q) e) (Nat.lt_irrefl _)
theorem HOk.kept(x:HOk P w H h)(k:∀b u,h.get? b=some u->h'.get? b=some u):HOk P w H h':=fun a o e =>
 (x a o e).P0 (fun b u _ q=>k b u q) (fun _ q=>q) fun _ _ q=>q
theorem HOk.laid(x:HOk P w H h)(k:∀b u,h.get? b=some u->h'.get? b=some u)(hp:h.objs.size<=a)(new:j4 P w (upd H a o) h' a o):HOk P w (upd H a o) h':=fun b u e=>by
 have hn:=x.fresh hp;by_cases hb:b=a
 ·subst hb;rw[p8] at e;cases e;exact new
 ·rw[f6 hb] at e;exact(x b u e).P0 (fun c v _ q=>k c v q) (fun c q=>by rw[f6 (j2 q hn)];exact q) fun c xs q=>by rw[f6 (j2 q hn)];exact q
end
noncomputable def Rd(H:Hp)(a:Addr)(u:HO):Prop:=H a=some u\/∃o,H a=some (.frz o u)
theorem Rd.of{H:Hp}{a:Addr}{u:HO}(h:H a=some u):Rd H a u:=.inl h
theorem Rd.ok{P:Program}{w:World}{H:Hp}{h:Heap}{a:Addr}{u:HO}(r:Rd H a u)(x:HOk P w H h):j4 P w H h a u:=by
 rcases r with r|⟨o,r⟩
 ·exact x a u r
 ·obtain⟨_,q⟩:=x a _ r;exact q
noncomputable def Mut:Option HO->Prop
 |some (.lst _)=>True
 |some (.dK _)=>True
 |some (.dT _)=>True
 |some (.set _ _)=>True
 |some (.ins _ _ _)=>True
 |some (.ext _)=>True
 |_=>False
section
variable{P:Program}{w:World}{H:Hp}{h h':Heap}{x e:Addr}{o':HO}
theorem HOk.write(ok:HOk P w H h)(mu:Mut (H x))(he:e=x\/H e=some (.own x))(k:∀b u,b≠e->h.get? b=some u->h'.get? b=some u)(heo:∃u,h'.get? e=some u)(new:j4 P w (upd H x o') h' x o'):HOk P w (upd H x o') h':=fun b u q=>by
 have nown:∀c y,H c=some (.own y)->c≠x:=fun c y r z=>by subst z;rw[r] at mu;exact mu
 have ntup:∀c xs,H c=some (.tup xs)->c≠x:=fun c xs r z=>by subst z;rw[r] at mu;exact mu
 by_cases hb:b=x
 ·subst hb;rw[p8] at q;cases q;exact new
 ·rw[f6 hb] at q;by_cases hbe:b=e
  ·have q':H b=some (.own x):=by
    rcases he with z|z
    ·exact absurd (hbe.trans z) hb
    ·rw[hbe];exact z
   rw[q] at q';cases q';obtain⟨v,hv⟩:=heo;exact⟨v,by rw[hbe];exact hv⟩
  ·refine(ok b u q).P0 (fun c v hc r=>k c v ?_ r) (fun c r=>by rw[f6 (nown c b r)];exact r) fun c xs r=>by rw[f6 (ntup c xs r)];exact r
   rcases hc with rfl|hc
   ·exact hbe
   ·rintro rfl;rcases he with z|z
    ·exact nown c b hc z
    ·rw[hc] at z;cases z;exact hb rfl
end
structure Un(fs ex:List Addr)(H H':Hp)(h h':Heap):Prop where
 keep:∀b o,h.get? b=some o->H b=none->b∉fs->b∉ex->h'.get? b=some o
 slot:∀b o,h.get? b=some o->H b=none->b∈fs->b∉ex->∃sl,h'.get? b=some { o with slots:=sl }
 free:∀b o,h.get? b=some o->H b=none->b∉ex->H' b=none
 there:∀b o,h.get? b=some o->b∉ex->∃o',h'.get? b=some o'
 tups:∀b xs,H b=some (.tup xs)->H' b=some (.tup xs)
 frzs:∀b o u,H b=some (.frz o u)->H' b=some (.frz o u)
 tbls:∀b ps,H b=some (.tbl ps)->∃more,H' b=some (.tbl (ps++more))
section
variable{fs fs' ex ex':List Addr}{H H1 H2:Hp}{h h1 h2 h':Heap}{a x e:Addr}{o:HO}
theorem Un.any(u:Un fs ex H H1 h h1){b:Addr}{ob:Obj}(q:h.get? b=some ob)(n:H b=none)(hx:b∉ex):∃sl,h1.get? b=some { ob with slots:=sl }:=by
 by_cases hb:b∈fs
 ·exact u.slot b ob q n hb hx
 ·exact⟨ob.slots,u.keep b ob q n hb hx⟩
theorem Un.trans(a:Un fs ex H H1 h h1)(b:Un fs ex H1 H2 h1 h2):Un fs ex H H2 h h2 where
 keep:=fun c ob q n hc hx=>b.keep c ob (a.keep c ob q n hc hx) (a.free c ob q n hx) hc hx
 slot:=fun c ob q n hc hx=>by
  obtain⟨sl,e1⟩:=a.slot c ob q n hc hx;obtain⟨sl',e2⟩:=b.slot c _ e1 (a.free c ob q n hx) hc hx;exact⟨sl',e2⟩
 free:=fun c ob q n hx=>by
  obtain⟨o',e1⟩:=a.there c ob q hx;exact b.free c o' e1 (a.free c ob q n hx) hx
 there:=fun c ob q hx=>by
  obtain⟨o',e1⟩:=a.there c ob q hx;exact b.there c o' e1 hx
 tups:=fun c xs q=>b.tups c xs (a.tups c xs q)
 frzs:=fun c ob xs q=>b.frzs c ob xs (a.frzs c ob xs q)
 tbls:=fun c ps q=>by
  obtain⟨m1,e1⟩:=a.tbls c ps q;obtain⟨m2,e2⟩:=b.tbls c _ e1;exact⟨m1++m2,by rw[e2,Array.append_assoc]⟩
theorem Un.kept(k:∀b u,h.get? b=some u->h'.get? b=some u):Un fs ex H H h h' :=
 ⟨fun b ob q _ _ _=>k b ob q,fun b ob q _ _ _=>⟨ob.slots,k b ob q⟩,fun _ _ _ n _=>n,fun b ob q _=>⟨ob,k b ob q⟩,fun _ _ q=>q,fun _ _ _ q=>q,fun _ ps q=>⟨#[],by rw[q];simp⟩⟩
theorem Un.refl:Un fs ex H H h h:=Un.kept fun _ _ q=>q
theorem Un.laid(k:∀b u,h.get? b=some u->h'.get? b=some u)(hp:h.objs.size<=a)(hn:H a=none):Un fs ex H (upd H a o) h h' where
 keep:=fun b u q _ _ _=>k b u q
 slot:=fun b u q _ _ _=>⟨u.slots,k b u q⟩
 free:=fun b u q n _=>by rw[f6 (Nat.ne_of_lt (Nat.lt_of_lt_of_le (Heap.lt_size q) hp))];exact n
 there:=fun b u q _=>⟨u,k b u q⟩
 tups:=fun b xs q=>by rw[f6 (j2 q hn)];exact q
 frzs:=fun b u xs q=>by rw[f6 (j2 q hn)];exact q
 tbls:=fun b ps q=>⟨#[],by rw[f6 (j2 q hn),q];simp⟩
theorem Un.write(mu:Mut (H x))(he:e=x\/H e=some (.own x))(k:∀b u,b≠e->h.get? b=some u->h'.get? b=some u)(heo:∃u,h'.get? e=some u):Un fs ex H (upd H x o) h h':=by
 have hx:∀b,H b=none->b≠x:=fun b n z=>by subst z;rw[n] at mu;exact mu
 have hb:∀b,H b=none->b≠e:=fun b n z=>by
  subst z;rcases he with r|r
  ·exact hx b n r
  ·rw[n] at r;cases r
 have hm:∀b u,H b=some u->¬Mut (some u)->b≠x:=fun b u q nm z=>by subst z;rw[q] at mu;exact nm mu
 refine ⟨fun b u q n _ _=>k b u (hb b n) q,fun b u q n _ _=>⟨u.slots,k b u (hb b n) q⟩,fun b u q n _=>by rw [f6 (hx b n)];exact n,fun b u q _=>?_,
  fun b xs q=>by rw [f6 (hm b _ q fun z=>z)];exact q,fun b u xs q=>by rw [f6 (hm b _ q fun z=>z)];exact q,fun b ps q=>⟨#[],by rw [f6 (hm b _ q fun z=>z),q];simp⟩⟩
 by_cases hbe:b=e
 ·subst hbe;exact heo
 ·exact⟨u,k b u hbe q⟩
theorem Un.mono(u:Un fs ex H H1 h h1)(hs:∀b∈fs,b∈fs')(hx:∀b∈ex,b∈ex'):Un fs' ex' H H1 h h1 :=
 ⟨fun b ob q n hb he=>u.keep b ob q n (fun z=>hb (hs b z)) fun z=>he (hx b z),fun _ _ q n _ he=>u.any q n fun z=>he (hx _ z),fun b ob q n he=>u.free b ob q n fun z=>he (hx b z),fun b ob q he=>u.there b ob q fun z=>he (hx b z),u.tups,u.frzs,u.tbls⟩
end
noncomputable def trk(h:Heap)(H:Hp):List Addr:=(List.range h.objs.size).filter fun a=>(H a).isSome
noncomputable def T6(h:Heap)(H:Hp):Heap:=PySem.W.hideAll h (trk h H)
theorem aI6(h:Heap)(H:Hp):(T6 h H).objs.size=h.objs.size:=PySem.W.hideAll_size _ _
theorem aQ8{h:Heap}{H:Hp}{b:Addr}{o:Obj}(e:h.get? b=some o)(n:H b=none):(T6 h H).get? b=some o :=
 PySem.W.hideAll_get _ e fun hm=>by
  have q:(H b).isSome=true:=(List.mem_filter.mp hm).2;rw[n] at q;simp at q
theorem a12{h:Heap}{H:Hp}{b:Addr}{o:Obj}(e:(T6 h H).get? b=some o):h.get? b=some o/\H b=none:=by
 have e':h.get? b=some o:=PySem.W.of_hideAll (trk h H) e;refine⟨e',?_⟩;cases q:H b with
 |none=>rfl
 |some x =>
  have hm:b∈trk h H:=List.mem_filter.mpr ⟨List.mem_range.mpr (Heap.lt_size e'),by simp[q]⟩;have z:(T6 h H).get? b=none:=PySem.W.hideAll_none (trk h H) hm;rw[z] at e;cases e
noncomputable def a37(g h:Heap)(L:Addr):List (Addr×Obj):=(List.range h.objs.size).filterMap fun a=>if a=L\/(g.get? a).isSome=true then none else(h.get? a).map fun o=>(a,o)
noncomputable def rest(g h:Heap)(L d:Addr):List (Addr×Obj):=(a37 g h L).filter fun p=>decide (p.1≠d)
end L2
namespace L2
open PySem PySem.Spec PyProof.Rows
structure Mod(K:PySem.W.Frag)(mg:Str->Option Value)(base:Heap):Prop where
 kin:K.In base
 glob:base.Ns mainGlobals mg
 blt:∃mb,base.Ns builtinsNs mb/\∀x:Str,x≠"__name__"->mb x=bootBuiltins x
 nolimit:base.NoLimit
structure Cx where
 prog:Program
 w:World
 K:PySem.W.Frag
 mg:Str->Option Value
 base:Heap
 A:Around
 N:List Str
 s₀:Shared
 H₀:Hp
 env:Env
 outer:List Env
 stack:List Env
 ex:List Addr
 fn:Str->Bool
 calm:Bool
 pn:List (Addr×Obj)
 xe:Value->Shared->Prop
noncomputable def frs(l:List Env):List Addr:=l.filterMap (·.frame)
noncomputable abbrev Cx.fs(X:Cx):List Addr:=frs X.outer
noncomputable def Vis(sc:Scope)(x:Str):Prop:=sc.names.lookup x=some .local\/sc.names.lookup x=some .cell\/sc.names.lookup x=some .free
noncomputable def Loc(sc:Scope)(x:Str):Prop:=sc.names.lookup x=some .local\/sc.names.lookup x=some .cell
noncomputable def Look(env:Env)(h:Heap)(m:Str->Option Value)(x:Str)(u:Value):Prop :=
 (env.kindOf x=some .local/\m x=some u)\/((env.kindOf x=some .cell\/env.kindOf x=some .free)/\∃c,env.cells.lookup x=some c/\h.IsCell c (some u))
structure Cx.Ok(X:Cx):Prop where
 mod:Mod X.K X.mg X.base
 kind:X.env.scope.kind=.function
 glob:X.env.globals=mainGlobals
 blt:X.env.builtins=builtinsNs
 above:X.s₀.heap.objs.size<=X.env.locals
 inj:∀x y c,X.env.cells.lookup x=some c->X.env.cells.lookup y=some c->x=y
 has:∀x,(X.env.kindOf x=some .cell\/X.env.kindOf x=some .free)->∃c,X.env.cells.lookup x=some c
 cab:∀x c,X.fn x=true->X.env.cells.lookup x=some c->X.s₀.heap.objs.size<=c
 hd:X.calm=true->X.A.handled=none
 frames:X.A.frames=some X.stack
 stk:X.stack=X.outer\/(X.stack=X.env::X.outer/\X.env.frame=some X.env.locals)
 exf:∀b∈X.ex,b≠X.env.locals/\∀x c,X.env.cells.lookup x=some c->c≠b
 bs:∀b o,X.base.get? b=some o->X.s₀.heap.get? b=some o/\X.H₀ b=none
 bsz:X.base.objs.size<=X.s₀.heap.objs.size
 noex:∀b o,X.base.get? b=some o->b∉X.ex
 exfs:∀b∈X.ex,b∉X.fs
 B5:X.s₀.heap.FunFrames X.base X.outer
 frf:∀b∈X.fs,X.H₀ b=none
structure Inv(X:Cx)(pins:List (Addr×Obj))(σ:List (Option V))(H:Hp)(s:Shared):Prop where
 ok:X.Ok
 os:s.os=X.s₀.os
 bare:AllBare s.gens
 base:Un X.fs X.ex X.H₀ H X.s₀.heap s.heap
 loc:∃m,s.heap.Ns X.env.locals m/\∀(i:Nat) (x:Str) (v:V),X.N[i]?=some x->σ[i]?=some (some v)->Vis X.env.scope x->∃u,RelV v u/\Look X.env s.heap m x u
 cell:∀x c,X.env.cells.lookup x=some c->∃v,s.heap.IsCell c v
 free:H X.env.locals=none
 freeC:∀x c,X.env.cells.lookup x=some c->H c=none
 pin:∀p∈X.pn++pins,s.heap.get? p.1=some p.2/\H p.1=none/\p.1≠X.env.locals/\p.1∉X.fs/\∀v,p.2.data≠.cell v
 hok:HOk X.prog X.w H s.heap
 len:σ.length=X.N.length
section
variable{X:Cx}{pins:List (Addr×Obj)}{σ:List (Option V)}{H H':Hp}{s:Shared}{h':Heap}
theorem Cx.Ok.bt7(ok:X.Ok){b:Addr}{o:Obj}(e:X.base.get? b=some o):b∉X.fs:=fun hb=>by
 have:=(ok.B5.mem hb).1;rw[e] at this;cases this
theorem Inv.bs(I:Inv X pins σ H s):∀b o,X.base.get? b=some o->s.heap.get? b=some o/\H b=none:=fun b o e =>
 ⟨I.base.keep b o (I.ok.bs b o e).1 (I.ok.bs b o e).2 (I.ok.bt7 e) (I.ok.noex b o e),I.base.free b o (I.ok.bs b o e).1 (I.ok.bs b o e).2 (I.ok.noex b o e)⟩
theorem Inv.bk(I:Inv X pins σ H s):∀b o,X.base.get? b=some o->s.heap.get? b=some o:=fun b o e=>(I.bs b o e).1
theorem Inv.mod(I:Inv X pins σ H s):Mod X.K X.mg X.base:=I.ok.mod
theorem Inv.kIn(I:Inv X pins σ H s):X.K.In s.heap:=I.ok.mod.kin.keeps I.bk
theorem Inv.nolimit(I:Inv X pins σ H s):s.heap.NoLimit:=I.ok.mod.nolimit.keeps I.bk
theorem Inv.fr(I:Inv X pins σ H s):∃m,Fr X.base X.env.locals s.heap m :=
 let ⟨m,hn,_⟩:=I.loc
 ⟨m,hn,I.bk,Nat.le_trans I.ok.bsz I.ok.above⟩
theorem Inv.lt(I:Inv X pins σ H s):X.env.locals<s.heap.objs.size:=let ⟨_,hn,_⟩:=I.loc;hn.lt
theorem Inv.sz(I:Inv X pins σ H s):X.s₀.heap.objs.size<=s.heap.objs.size:=Nat.le_trans I.ok.above (Nat.le_of_lt I.lt)
theorem Inv.az6(I:Inv X pins σ H s){a:Addr}(h:s.heap.objs.size<=a):a∉X.fs:=fun hb=>by
 obtain⟨_,o,ho,_⟩:=I.ok.B5.mem hb;exact absurd (Nat.lt_of_lt_of_le (Heap.lt_size ho) (Nat.le_trans I.sz h)) (Nat.lt_irrefl _)
theorem Inv.cne(I:Inv X pins σ H s):∀x c,X.env.cells.lookup x=some c->c≠X.env.locals:=fun x c e z=>by
 obtain⟨v,o,ho,hd⟩:=I.cell x c e;obtain⟨m,⟨o',es,ep,ho',hd',_⟩,_⟩:=I.loc;rw[z,ho'] at ho;cases ho;rw[hd'] at hd;cases hd
theorem Inv.B5(I:Inv X pins σ H s):s.heap.FunFrames X.base X.outer:=by
 have all:∀(l:List Env),(∀b∈frs l,b∈X.fs)->X.s₀.heap.FunFrames X.base l->s.heap.FunFrames X.base l:=by
  intro l
  induction l with
  |nil=>intro _ _;trivial
  |cons env r ih =>
   intro hs hl;obtain⟨hk,⟨L,o,hf,hn,ho,hd⟩,hr⟩:=hl;have hL:L∈X.fs:=hs L (by unfold frs;rw[List.filterMap_cons,hf];exact List.mem_cons_self);obtain⟨sl,e⟩:=I.base.slot L o ho (I.ok.frf L hL) hL fun z=>I.ok.exfs L z hL;exact⟨hk,⟨L,_,hf,hn,e,hd⟩,ih (fun b hb=>hs b (by unfold frs;rw[List.filterMap_cons,hf];exact List.mem_cons_of_mem _ hb)) hr⟩
 exact all X.outer (fun _ hb=>hb) I.ok.B5
theorem Inv.stack(I:Inv X pins σ H s):s.heap.FunFrames X.base X.stack:=by
 rcases I.ok.stk with e|⟨e,hf⟩
 ·rw[e];exact I.B5
 ·rw[e];obtain⟨m,hn,_⟩:=I.loc;refine .cons (by rw[I.ok.kind];decide) hf hn ?_ I.B5;exact Heap.get?_none_of_le (Nat.le_trans I.ok.bsz I.ok.above)
theorem Inv.K0(I:Inv X pins σ H s):∀b∈frs X.stack,b∈X.env.locals::X.fs:=fun b hb=>by
 rcases I.ok.stk with e|⟨e,hf⟩
 ·rw[e] at hb;exact List.mem_cons_of_mem _ hb
 ·rw[e] at hb;unfold frs at hb;rw[List.filterMap_cons,hf] at hb;exact hb
theorem Inv.X7(I:Inv X pins σ H s):∀b∈frs X.stack,H b=none:=fun b hb=>by
 rcases List.mem_cons.mp (I.K0 b hb) with e|hb
 ·rw[e];exact I.free
 ·obtain⟨_,o,ho,_⟩:=I.ok.B5.mem hb;exact I.base.free b o ho (I.ok.frf b hb) fun z=>I.ok.exfs b z hb
theorem Inv.step{g':Array GenState}{t':Nat}{d':Drawn}{ch:List Addr}(I:Inv X pins σ H s)(hch:∀b∈ch,(b∈X.ex\/X.s₀.heap.objs.size<=b)/\b≠X.env.locals/\(∀x c,X.env.cells.lookup x=some c->c≠b)/\∀p∈X.pn++pins,p.1≠b)(keep:∀b o,b≠X.env.locals->b∉X.fs->b∉ch->s.heap.get? b=some o->H b=none->h'.get? b=some o)(slot:∀b o,b≠X.env.locals->b∈X.fs->b∉ch->s.heap.get? b=some o->H b=none->∃sl,h'.get? b=some { o with slots:=sl })(free:∀b o,b∉ch->s.heap.get? b=some o->H b=none->H' b=none)(there:∀b o,b∉ch->s.heap.get? b=some o->∃o',h'.get? b=some o')(tups:∀b xs,H b=some (.tup xs)->H' b=some (.tup xs))(frzs:∀b o u,H b=some (.frz o u)->H' b=some (.frz o u))(tbls:∀b ps,H b=some (.tbl ps)->∃more,H' b=some (.tbl (ps++more)))(ns:∀m,s.heap.Ns X.env.locals m->h'.Ns X.env.locals m)(hok:HOk X.prog X.w H' h')(hg:AllBare g') :
  Inv X pins σ H' { s with heap:=h',gens:=g',drawn:=d',toks:=t' }:=by
 have neL:∀b o,X.s₀.heap.get? b=some o->b≠X.env.locals:=fun b o e=>Nat.ne_of_lt (Nat.lt_of_lt_of_le (Heap.lt_size e) I.ok.above);have neC:∀b o,X.s₀.heap.get? b=some o->b∉X.ex->b∉ch:=fun b o e hx hb=>by
  rcases(hch b hb).1 with z|z
  ·exact hx z
  ·exact absurd (Nat.lt_of_lt_of_le (Heap.lt_size e) z) (Nat.lt_irrefl _)
 have cellK:∀x c,X.env.cells.lookup x=some c->∀v,s.heap.IsCell c v->h'.IsCell c v:=fun x c e v ⟨o,ho,hd⟩=>by
  have nch:c∉ch:=fun z=>(hch c z).2.2.1 x c e rfl;by_cases hc:c∈X.fs
  ·obtain⟨sl,q⟩:=slot c o (I.cne x c e) hc nch ho (I.freeC x c e);exact⟨_,q,hd⟩
  ·exact⟨o,keep c o (I.cne x c e) hc nch ho (I.freeC x c e),hd⟩
 refine⟨I.ok,I.os,hg,⟨fun b o e n hb hx=>?_,fun b o e n hb hx=>?_,fun b o e n hx=>?_,fun b o e hx=>?_,fun b xs e=>tups b xs (I.base.tups b xs e),fun b o xs e=>frzs b o xs (I.base.frzs b o xs e),fun b ps e=>?_⟩,?_,fun x c e=>?_,?_,fun x c e=>?_,fun p hp=>?_,hok,I.len⟩
 ·exact keep b o (neL b o e) hb (neC b o e hx) (I.base.keep b o e n hb hx) (I.base.free b o e n hx)
 ·obtain⟨sl,e1⟩:=I.base.slot b o e n hb hx;obtain⟨sl',e2⟩:=slot b _ (neL b o e) hb (neC b o e hx) e1 (I.base.free b o e n hx);exact⟨sl',e2⟩
 ·obtain⟨o',e1⟩:=I.base.there b o e hx;exact free b o' (neC b o e hx) e1 (I.base.free b o e n hx)
 ·obtain⟨o',e1⟩:=I.base.there b o e hx;exact there b o' (neC b o e hx) e1
 ·obtain⟨m1,e1⟩:=I.base.tbls b ps e;obtain⟨m2,e2⟩:=tbls b _ e1;exact⟨m1++m2,by rw[e2,Array.append_assoc]⟩
 ·obtain⟨m,hn,hl⟩:=I.loc;refine⟨m,ns m hn,fun i x v e1 e2 e3=>?_⟩;obtain⟨u,r,l⟩:=hl i x v e1 e2 e3;refine⟨u,r,?_⟩;rcases l with l|⟨k,c,e,z⟩
  ·exact .inl l
  ·exact .inr ⟨k,c,e,cellK x c e _ z⟩
 ·obtain⟨v,z⟩:=I.cell x c e;exact⟨v,cellK x c e v z⟩
 ·obtain⟨m,⟨o,_,_,ho,_⟩,_⟩:=I.loc;exact free _ o (fun z=>(hch _ z).2.1 rfl) ho I.free
 ·obtain⟨v,o,ho,hd⟩:=I.cell x c e;exact free c o (fun z=>(hch c z).2.2.1 x c e rfl) ho (I.freeC x c e)
 ·obtain⟨e,n,ne,nf,d⟩:=I.pin p hp;have nch:p.1∉ch:=fun z=>(hch p.1 z).2.2.2 p hp rfl;exact⟨keep p.1 p.2 ne nf nch e n,free p.1 p.2 nch e n,ne,nf,d⟩
theorem Inv.un{t':Nat}(I:Inv X pins σ H s)(u:Un X.fs [] H H' s.heap h')(hok:HOk X.prog X.w H' h'):Inv X pins σ H' { s with heap:=h',toks:=t' }:=by
 obtain⟨m,⟨o,es,ep,ho,r⟩,_⟩:=id I.loc;obtain⟨sl,hL⟩:=u.any ho I.free (by simp);exact I.step (g':=s.gens) (d':=s.drawn) (ch:=[]) (fun _ z=>nomatch z) (fun b o _ hb _ e n=>u.keep b o e n hb (by simp)) (fun b o _ hb _ e n=>u.slot b o e n hb (by simp)) (fun b o _ e n=>u.free b o e n (by simp)) (fun b o _ e=>u.there b o e (by simp)) u.tups u.frzs u.tbls (fun m' hm=>by
  obtain⟨o',es',ep',ho',r'⟩:=hm;rw[ho] at ho';cases ho';exact ⟨_,es',ep',hL,r'⟩) hok I.bare
theorem Inv.call{g':Array GenState}{t':Nat}{d':Drawn}{ch:List Addr}(I:Inv X pins σ H s)(u:Un (frs X.stack) ch H H' s.heap h')(hok:HOk X.prog X.w H' h')(hg:AllBare g')(hch:∀b∈ch,(b∈X.ex\/X.s₀.heap.objs.size<=b)/\b≠X.env.locals/\(∀x c,X.env.cells.lookup x=some c->c≠b)/\∀p∈X.pn++pins,p.1≠b) :
  Inv X pins σ H' { s with heap:=h',gens:=g',drawn:=d',toks:=t' }:=by
 obtain⟨m,⟨o,es,ep,ho,r⟩,_⟩:=id I.loc;obtain⟨sl,hL⟩:=u.any ho I.free fun z=>(hch _ z).2.1 rfl;exact I.step (ch:=ch) hch (fun b o hL hb hc e n=>u.keep b o e n (fun z=>(List.mem_cons.mp (I.K0 b z)).elim hL hb) hc) (fun b o _ _ hc e n=>u.any e n hc) (fun b o hc e n=>u.free b o e n hc) (fun b o hc e=>u.there b o e hc) u.tups u.frzs u.tbls (fun m' hm=>by
  obtain⟨o',es',ep',ho',r'⟩:=hm;rw[ho] at ho';cases ho';exact ⟨_,es',ep',hL,r'⟩) hok hg
theorem Inv.turned{t':Nat}{it:Addr}(I:Inv X pins σ H s)(k:∀b o,b≠it->s.heap.get? b=some o->h'.get? b=some o)(hn:H it=none)(hL:it≠X.env.locals)(h1:it∈X.ex\/X.s₀.heap.objs.size<=it)(h2:∀x c,X.env.cells.lookup x=some c->c≠it)(h3:∀p∈X.pn++pins,p.1≠it):Inv X pins σ H { s with heap:=h',toks:=t' }:=by
 have nit:∀b u,H b=some u->b≠it:=fun b u e z=>by rw[z,hn] at e;cases e
 refine I.step (g':=s.gens) (d':=s.drawn) (ch:=[it]) (fun b hb=>?_) (fun b o _ _ hc e _=>k b o (fun z=>hc (by simp[z])) e) (fun b o _ _ hc e _=>⟨o.slots,k b o (fun z=>hc (by simp[z])) e⟩) (fun _ _ _ _ n=>n)
  (fun b o hc e=>⟨o,k b o (fun z=>hc (by simp[z])) e⟩) (fun _ _ e=>e) (fun _ _ _ e=>e) (fun b ps e=>⟨#[],by rw[e];simp⟩) (fun m hm=>?_) (fun b u e=>?_) I.bare
 ·have e:b=it:=by simpa using hb
  subst e;exact⟨h1,hL,h2,h3⟩
 ·obtain⟨o,es,ep,ho,r⟩:=hm;exact⟨o,es,ep,k _ o (Ne.symm hL) ho,r⟩
 ·refine(I.hok b u e).P0 (fun c v hc q=>k c v ?_ q) (fun _ q=>q) fun _ _ q=>q;rcases hc with z|z
  ·rw[z];exact nit b u e
  ·exact nit c _ z
theorem Inv.tok(I:Inv X pins σ H s)(t:Nat):Inv X pins σ H { s with toks:=t }:=I.un (h':=s.heap) (t':=t) Un.refl I.hok
theorem Inv.kept{t':Nat}(I:Inv X pins σ H s)(k:∀b u,s.heap.get? b=some u->h'.get? b=some u):Inv X pins σ H { s with heap:=h',toks:=t' }:=I.un (Un.kept k) (I.hok.kept k)
theorem Inv.laid{a:Addr}{o:HO}{t':Nat}(I:Inv X pins σ H s)(k:∀b u,s.heap.get? b=some u->h'.get? b=some u)(hp:s.heap.objs.size<=a)(new:j4 X.prog X.w (upd H a o) h' a o) :
  Inv X pins σ (upd H a o) { s with heap:=h',toks:=t' }:=I.un (Un.laid k hp (I.hok.fresh hp)) (I.hok.laid k hp new)
theorem Inv.write{x e:Addr}{o:HO}{t':Nat}(I:Inv X pins σ H s)(mu:Mut (H x))(he:e=x\/H e=some (.own x))(k:∀b u,b≠e->s.heap.get? b=some u->h'.get? b=some u)(heo:∃u,h'.get? e=some u)(new:j4 X.prog X.w (upd H x o) h' x o):Inv X pins σ (upd H x o) { s with heap:=h',toks:=t' }:=I.un (Un.write mu he k heo) (I.hok.write mu he k heo new)
theorem Inv.weak{σ':List (Option V)}(I:Inv X pins σ H s)(hl:σ'.length=σ.length)(w:∀(i:Nat) v,σ'[i]?=some (some v)->σ[i]?=some (some v)):Inv X pins σ' H s :=
 ⟨I.ok,I.os,I.bare,I.base,let ⟨m,hn,hl'⟩:=I.loc;⟨m,hn,fun i x v e1 e2 e3=>hl' i x v e1 (w i v e2) e3⟩,I.cell,I.free,I.freeC,I.pin,I.hok,hl.trans I.len⟩
theorem Inv.Q4{pins':List (Addr×Obj)}(I:Inv X pins σ H s)(h:∀p∈pins',s.heap.get? p.1=some p.2/\H p.1=none/\p.1≠X.env.locals/\p.1∉X.fs/\∀v,p.2.data≠.cell v):Inv X pins' σ H s :=
 ⟨I.ok,I.os,I.bare,I.base,I.loc,I.cell,I.free,I.freeC,fun p hp=>(List.mem_append.mp hp).elim (fun z=>I.pin p (List.mem_append_left _ z)) (h p),I.hok,I.len⟩
theorem ap3{N:List Str}(hN:N.Nodup){i j:Nat}{x:Str}(a:N[i]?=some x)(b:N[j]?=some x):i=j:=by
 obtain⟨h1,e1⟩:=List.getElem?_eq_some_iff.mp a;obtain⟨h2,e2⟩:=List.getElem?_eq_some_iff.mp b;exact(List.getElem_inj hN).mp (e1.trans e2.symm)
theorem ai6{M:Model}{A:Around}{E:Value->Shared->Prop}{i:Nat}{x:Str}{v:V}{u:Value}{Q:Unit->Shared->Prop}(I:Inv X pins σ H s)(hN:X.N.Nodup)(hi:X.N[i]?=some x)(hx:Loc X.env.scope x)(r:RelV v u)(h:∀s',Inv X pins (σ.set i (some v)) H s'->(∃a,Heap.SameBut a s.heap s'.heap/\(a=X.env.locals\/X.env.cells.lookup x=some a))->Q () s')(hf:X.fn x=true\/X.env.scope.names.lookup x=some .local:=by first|exact .inl rfl|exact .inr rfl|assumption):wpAny M A (storeName X.env x u) Q E s:=by
 obtain⟨m,hn,hl⟩:=id I.loc;have hcls:(X.env.scope.kind==.class||(X.env.scope.kind==.module&&X.env.locals != X.env.globals))=false:=by rw[I.ok.kind];rfl
 have hiσ:i<σ.length:=by rw[I.len];exact(List.getElem?_eq_some_iff.mp hi).1
 have cne:=I.cne;have tracked:∀{a:Addr} {h':Heap},(∃o,s.heap.get? a=some o/\H a=none)->Heap.SameBut a s.heap h'->HOk X.prog X.w H h':=fun{a h'} ha hs b ob e=>by
  obtain⟨_,_,hfree⟩:=ha;refine(I.hok b ob e).P0 (fun c w' hc q=>(hs.2 c ?_).trans q) (fun _ q=>q) fun _ _ q=>q;rintro rfl;rcases hc with rfl|hc
  ·rw[hfree] at e;cases e
  ·rw[hfree] at hc;cases hc
 rcases hx with hk|hk
 ·refine wpAny_storeName_local hk hn (fun h' hn' hs=>?_) hcls;obtain⟨oL,_,_,hoL,_⟩:=id hn;refine h _ ⟨I.ok,I.os,I.bare,⟨fun b o e n hb hx=>?_,fun b o e n hb hx=>?_,I.base.free,fun b o e hx=>?_,I.base.tups,I.base.frzs,I.base.tbls⟩,⟨_,hn',fun j y v' e1 e2 e3=>?_⟩,fun y c e=>?_,I.free,I.freeC,fun p hp=>?_,tracked ⟨oL,hoL,I.free⟩ hs,by simpa using I.len⟩ ⟨_,hs,.inl rfl⟩
  ·exact(hs.2 b (Nat.ne_of_lt (Nat.lt_of_lt_of_le (Heap.lt_size e) I.ok.above))).trans (I.base.keep b o e n hb hx)
  ·obtain⟨sl,e1⟩:=I.base.slot b o e n hb hx;exact⟨sl,(hs.2 b (Nat.ne_of_lt (Nat.lt_of_lt_of_le (Heap.lt_size e) I.ok.above))).trans e1⟩
  ·obtain⟨o',e1⟩:=I.base.there b o e hx;exact⟨o',(hs.2 b (Nat.ne_of_lt (Nat.lt_of_lt_of_le (Heap.lt_size e) I.ok.above))).trans e1⟩
  ·by_cases hj:j=i
   ·subst hj;rw[hi] at e1;cases e1;rw[List.getElem?_set_self hiσ] at e2;cases e2;exact⟨u,r,.inl ⟨hk,by simp⟩⟩
   ·rw[List.getElem?_set_ne (Ne.symm hj)] at e2;obtain⟨u',r',q⟩:=hl j y v' e1 e2 e3;refine⟨u',r',?_⟩;rcases q with⟨k,e⟩|⟨k,c,e,z⟩
    ·refine .inl ⟨k,?_⟩;have:y≠x:=fun e=>hj (ap3 hN e1 (e▸hi));simp[this,e]
    ·exact .inr ⟨k,c,e,z.sameBut hs (cne y c e)⟩
  ·obtain⟨w',z⟩:=I.cell y c e;exact⟨w',z.sameBut hs (cne y c e)⟩
  ·obtain⟨e,n,ne,nf,d⟩:=I.pin p hp;exact⟨(hs.2 p.1 ne).trans e,n,ne,nf,d⟩
 ·have hfn:X.fn x=true:=by
   rcases hf with z|z
   ·exact z
   ·rw[z] at hk;cases hk
  obtain⟨c,hc⟩:=I.ok.has x (.inl hk);obtain⟨w',z⟩:=I.cell x c hc;refine wpAny_storeName_cell I.ok.kind hk hc z (fun h' hc' hs=>?_);obtain⟨oc,hoc,hocd⟩:=id z;refine h { s with heap:=h' } ⟨I.ok,I.os,I.bare,⟨fun b o e n hb hx=>?_,fun b o e n hb hx=>?_,I.base.free,fun b o e hx=>?_,I.base.tups,I.base.frzs,I.base.tbls⟩,⟨m,hn.sameBut hs (Ne.symm (cne x c hc)),fun j y v' e1 e2 e3=>?_⟩,fun y c' e=>?_,I.free,I.freeC,fun p hp=>?_,tracked ⟨oc,hoc,I.freeC x c hc⟩ hs,by simpa using I.len⟩ ⟨c,hs,.inr hc⟩
  ·exact(hs.2 b (Nat.ne_of_lt (Nat.lt_of_lt_of_le (Heap.lt_size e) (I.ok.cab x c hfn hc)))).trans (I.base.keep b o e n hb hx)
  ·obtain⟨sl,e1⟩:=I.base.slot b o e n hb hx;exact⟨sl,(hs.2 b (Nat.ne_of_lt (Nat.lt_of_lt_of_le (Heap.lt_size e) (I.ok.cab x c hfn hc)))).trans e1⟩
  ·obtain⟨o',e1⟩:=I.base.there b o e hx;exact⟨o',(hs.2 b (Nat.ne_of_lt (Nat.lt_of_lt_of_le (Heap.lt_size e) (I.ok.cab x c hfn hc)))).trans e1⟩
  ·by_cases hj:j=i
   ·subst hj;rw[hi] at e1;cases e1;rw[List.getElem?_set_self hiσ] at e2;cases e2;exact⟨u,r,.inr ⟨.inl hk,c,hc,hc'⟩⟩
   ·rw[List.getElem?_set_ne (Ne.symm hj)] at e2;obtain⟨u',r',q⟩:=hl j y v' e1 e2 e3;refine⟨u',r',?_⟩;rcases q with q|⟨k,c',e,z'⟩
    ·exact .inl q
    ·refine .inr ⟨k,c',e,z'.sameBut hs ?_⟩;rintro rfl;exact hj (ap3 hN e1 (I.ok.inj _ _ _ e hc▸hi))
  ·by_cases hcc:c'=c
   ·subst hcc;exact⟨_,hc'⟩
   ·obtain⟨w2,z2⟩:=I.cell y c' e;exact⟨w2,z2.sameBut hs hcc⟩
  ·obtain⟨e,n,ne,nf,d⟩:=I.pin p hp;refine⟨(hs.2 p.1 ?_).trans e,n,ne,nf,d⟩;intro q;rw[q,hoc] at e;have q':oc=p.2:=Option.some.inj e;exact d w' (by rw[<- q'];exact hocd)
theorem R9{M:Model}{A:Around}{E:Value->Shared->Prop}{i:Nat}{x:Str}{v:V}{u:Value}{Q:Unit->Shared->Prop}(I:Inv X pins σ H s)(hN:X.N.Nodup)(hi:X.N[i]?=some x)(hx:Loc X.env.scope x)(r:RelV v u)(h:∀s',Inv X pins (σ.set i (some v)) H s'->Q () s')(hf:X.fn x=true\/X.env.scope.names.lookup x=some .local:=by first|exact .inl rfl|exact .inr rfl|assumption):wpAny M A (storeName X.env x u) Q E s :=
 ai6 I hN hi hx r (fun s' I' _=>h s' I') hf
theorem Inv.aB9{s':Shared}{ch:List Addr}(I:Inv X pins σ H s)(ho:s'.os=s.os)(u:Un (frs X.stack) ch H H' s.heap s'.heap)(hok:HOk X.prog X.w H' s'.heap)(hg:AllBare s'.gens)(hch:∀b∈ch,(b∈X.ex\/X.s₀.heap.objs.size<=b)/\b≠X.env.locals/\(∀x c,X.env.cells.lookup x=some c->c≠b)/\∀p∈X.pn++pins,p.1≠b):Inv X pins σ H' s':=by
 obtain⟨h',g',d',t',o'⟩:=s';have e:o'=s.os:=ho;subst e;exact I.call (g':=g') (t':=t') (d':=d') u hok hg hch
end
noncomputable abbrev XK:=Value->Option Addr->Hp->Prop
noncomputable abbrev St:=List (Option V)
noncomputable abbrev VK:=V->Hp->Prop
noncomputable abbrev TE:=St->Hp->VK->Prop
noncomputable abbrev TT:=St->Hp->(Bool->Hp->Prop)->Prop
noncomputable abbrev TA:=St->Hp->(List V->Hp->Prop)->Prop
structure Ends where
 nx:St->Hp->Prop
 rt:VK
 bk:St->Hp->Prop:=fun _ _=>False
 ct:St->Hp->Prop:=fun _ _=>False
noncomputable abbrev TS:=Ends->St->Hp->Prop
noncomputable def EP(X:Cx)(pins:List (Addr×Obj))(σ:St)(Q:VK)(u:Value)(s':Shared):Prop:=∃v H',Inv X pins σ H' s'/\RelV v u/\Q v H'
noncomputable def TP(X:Cx)(pins:List (Addr×Obj))(σ:St)(Q:Bool->Hp->Prop)(b:Bool)(s':Shared):Prop:=∃H',Inv X pins σ H' s'/\Q b H'
noncomputable def AP(X:Cx)(pins:List (Addr×Obj))(σ:St)(Q:List V->Hp->Prop)(us:List Value)(s':Shared):Prop:=∃vs H',Inv X pins σ H' s'/\Vals vs us/\Q vs H'
noncomputable def SP(X:Cx)(pins:List (Addr×Obj))(D:Ends)(f:Flow)(s':Shared):Prop :=
 match f with
 |.next=>∃σ' H',Inv X pins σ' H' s'/\D.nx σ' H'
 |.brk=>∃σ' H',Inv X pins σ' H' s'/\D.bk σ' H'
 |.cont=>∃σ' H',Inv X pins σ' H' s'/\D.ct σ' H'
 |.ret u=>∃v σ' H',Inv X pins σ' H' s'/\RelV v u/\D.rt v H'
noncomputable def PE(X:Cx)(e:Expr)(t:TE):Prop :=
 ∀(pins:List (Addr×Obj)) (s:Shared) (σ:St) (H:Hp) (Q:VK),Inv X pins σ H s->t σ H Q->wpAny (model X.prog X.w) X.A (eval e X.env) (EP X pins σ Q) X.xe s
noncomputable def PT(X:Cx)(e:Expr)(t:TT):Prop :=
 ∀(pins:List (Addr×Obj)) (s:Shared) (σ:St) (H:Hp) (Q:Bool->Hp->Prop),Inv X pins σ H s->t σ H Q->wpAny (model X.prog X.w) X.A (isTrue e X.env (eval e X.env)) (TP X pins σ Q) X.xe s
noncomputable def PW(X:Cx)(e:Expr)(t:TT):Prop :=
 ∀(whole:Sem Value) (pins:List (Addr×Obj)) (s:Shared) (σ:St) (H:Hp) (Q:Bool->Hp->Prop),Inv X pins σ H s->t σ H Q->wpAny (model X.prog X.w) X.A (isTrue e X.env whole) (TP X pins σ Q) X.xe s
theorem PW.pt{X:Cx}{e:Expr}{t:TT}(h:PW X e t):PT X e t:=h _
noncomputable def PA(X:Cx)(es:List Expr)(t:TA):Prop :=
 ∀(pos:Pos) (pins:List (Addr×Obj)) (s:Shared) (σ:St) (H:Hp) (Q:List V->Hp->Prop),Inv X pins σ H s->t σ H Q->wpAny (model X.prog X.w) X.A (spliced (backTo pos (starEach es X.env))) (AP X pins σ Q) X.xe s
noncomputable def PS(X:Cx)(st:Stmt)(t:TS):Prop :=
 ∀(pins:List (Addr×Obj)) (s:Shared) (σ:St) (H:Hp) (D:Ends),Inv X pins σ H s->t D σ H->wpAny (model X.prog X.w) X.A (exec st X.env) (SP X pins D) X.xe s
noncomputable def PSs(X:Cx)(st:List Stmt)(t:TS):Prop :=
 ∀(pins:List (Addr×Obj)) (s:Shared) (σ:St) (H:Hp) (D:Ends),Inv X pins σ H s->t D σ H->wpAny (model X.prog X.w) X.A (execs st X.env) (SP X pins D) X.xe s
theorem thn{α:Type}{t:Sem α}{Q Q':α->Shared->Prop}{M:Model}{A:Around}{E:Value->Shared->Prop}{s:Shared}(h:wpAny M A t Q E s)(hQ:∀a s,Q a s->Q' a s):wpAny M A t Q' E s:=wpAny_mono h hQ fun _ _ x=>x
end L2
namespace L2
open PySem PySem.Spec PyProof.Rows
section
variable{X:Cx}
theorem bin{a b:Expr}{ta tb:TE}(ha:PE X a ta)(hb:PE X b tb){pins:List (Addr×Obj)}{s:Shared}{σ:St}{H:Hp}{R:V->V->Hp->Prop}(I:Inv X pins σ H s)(h:ta σ H fun x H1=>tb σ H1 fun y H2=>R x y H2){α:Type}{Q:α->Shared->Prop}{f:Value->Value->Sem α}(hf:∀v u s2 x y H2,Inv X pins σ H2 s2->RelV x v->RelV y u->R x y H2->wpAny (model X.prog X.w) X.A (f v u) Q X.xe s2) :
  wpAny (model X.prog X.w) X.A (eval a X.env) (fun v s₁=>wpAny (model X.prog X.w) X.A (eval b X.env) (fun u s₂=>wpAny (model X.prog X.w) X.A (f v u) Q X.xe s₂) X.xe s₁) X.xe s:=by
 refine thn (ha pins s σ H _ I h) fun v s1 ⟨x,H1,I1,r1,q1⟩=>?_;refine thn (hb pins s1 σ H1 _ I1 q1) fun u s2 ⟨y,H2,I2,r2,q2⟩=>?_;exact hf v u s2 x y H2 I2 r1 r2 q2
noncomputable def a55(i:Nat):TE:=fun σ H Q=>∃v,σ[i]?=some (some v)/\Q v H
noncomputable def tC(v:V):TE:=fun _ H Q=>Q v H
theorem aF8{i:Nat}{x:Str}{pos:Pos}(hN:X.N[i]?=some x)(hv:Vis X.env.scope x)(hd:(x==("__debug__":Str))=false:=by decide)(hcd:(x==("__classdict__":Str))=false:=by decide):PE X (.Name x pos) (a55 i):=by
 intro pins s σ H Q I h;obtain⟨v,e,h⟩:=h;obtain⟨m,hn,hl⟩:=I.loc;obtain⟨u,r,l⟩:=hl i x v hN e hv;have fin:EP X pins σ Q u s:=⟨v,H,I,r,h⟩
 rcases l with⟨hk,hm⟩|⟨hk,c,hc,hcell⟩
 ·exact wpAny_Name (wpAny_loadName_local I.ok.kind hk hn hm fin) hd
 ·rcases hk with hk|hk
  ·exact wpAny_Name (wpAny_loadName_cell I.ok.kind hk hc hcell fin) hd
  ·exact wpAny_Name (wpAny_loadName_free I.ok.kind hk hc hcell fin hcd) hd
theorem bb3{i j pos}:PE X (.Constant (.int i) j pos) (tC (.int i)):=fun _ _ _ H _ I h=>wpAny_Constant_int ⟨.int i,H,I.tok _,⟨_,rfl⟩,h⟩
theorem bl3{b j pos}:PE X (.Constant (.bool b) j pos) (tC (.bl b)):=fun _ _ _ H _ I h=>Constant_bool ⟨.bl b,H,I,rfl,h⟩
theorem bb1{j pos}:PE X (.Constant .none j pos) (tC .non):=fun _ _ _ H _ I h=>Constant_none ⟨.non,H,I,rfl,h⟩
theorem ba8{x j pos}:PE X (.Constant (.str x) j pos) (tC (.str x)):=fun _ _ _ H _ I h=>Calls.Constant_str ⟨.str x,H,I.tok _,⟨_,rfl⟩,h⟩
noncomputable def Gl(X:Cx)(x:Str):Prop:=X.env.kindOf x=some .globalImplicit
theorem M0{E:Value->Shared->Prop}{pins:List (Addr×Obj)}{s:Shared}{σ:St}{H:Hp}{x:Str}{u:Value}{pos:Pos}{Q:Value->Shared->Prop}(I:Inv X pins σ H s)(hg:Gl X x)(hm:X.mg x=some u)(h:Q u s)(hd:(x==("__debug__":Str))=false:=by decide):wpAny (model X.prog X.w) X.A (eval (.Name x pos) X.env) Q E s :=
 Calls.Name_function_global I.ok.kind hg (Calls.loadGlobal_global (by rw[I.ok.glob];exact I.mod.glob.keeps I.bk) hm h) hd
theorem K5{E:Value->Shared->Prop}{pins:List (Addr×Obj)}{s:Shared}{σ:St}{H:Hp}{x:Str}{u:Value}{pos:Pos}{Q:Value->Shared->Prop}(I:Inv X pins σ H s)(hg:Gl X x)(hm:X.mg x=none)(hv:bootBuiltins x=some u)(h:Q u s)(hn:x≠"__name__":=by decide)(hd:(x==("__debug__":Str))=false:=by decide):wpAny (model X.prog X.w) X.A (eval (.Name x pos) X.env) Q E s:=by
 obtain⟨mb,h1,h2⟩:=I.mod.blt;exact Calls.Name_function_global I.ok.kind hg (Calls.loadGlobal_builtin (by rw[I.ok.glob];exact I.mod.glob.keeps I.bk) hm (by rw[I.ok.blt];exact h1.keeps I.bk) ((h2 x hn).trans hv) h) hd
theorem X9{x:Str}{v:V}{u:Value}{pos:Pos}(hg:Gl X x)(hm:X.mg x=some u)(r:RelV v u)(hd:(x==("__debug__":Str))=false:=by decide):PE X (.Name x pos) (tC v) :=
 fun _ _ _ H _ I h=>M0 I hg hm ⟨v,H,I,r,h⟩ hd
theorem a03{x:Str}{v:V}{u:Value}{pos:Pos}(hg:Gl X x)(hm:X.mg x=none)(hv:bootBuiltins x=some u)(r:RelV v u)(hn:x≠"__name__":=by decide)(hd:(x==("__debug__":Str))=false:=by decide):PE X (.Name x pos) (tC v) :=
 fun _ _ _ H _ I h=>K5 I hg hm hv ⟨v,H,I,r,h⟩ hn hd
variable{a b:Expr}{ta tb:TE}{pos:Pos}
noncomputable def PC(X:Cx)(op:CmpOp)(a b:Expr)(t:TE):Prop :=
 ∀(pins:List (Addr×Obj)) (s:Shared) (σ:St) (H:Hp) (Q:VK),Inv X pins σ H s->t σ H Q ->
  wpAny (model X.prog X.w) X.A (eval a X.env) (fun v s₁=>wpAny (model X.prog X.w) X.A (eval b X.env) (fun u s₂=>wpAny (model X.prog X.w) X.A (compareOp op v u) (EP X pins σ Q) X.xe s₂) X.xe s₁) X.xe s
variable{tA tB':TT}{rest:List Expr}
noncomputable def br8(t u:TT):TT:=fun σ H Q=>t σ H fun c H1=>if c=true then u σ H1 Q else Q false H1
noncomputable def tOr(t u:TT):TT:=fun σ H Q=>t σ H fun c H1=>if c=true then Q true H1 else u σ H1 Q
noncomputable def br2(t:TT):TT:=fun σ H Q=>t σ H fun c H1=>Q (!c) H1
theorem aY8(ha:PT X a tA):PW X (.BoolOp .And [a] pos) tA:=by
 intro wh pins s σ H Q I h;refine isTrue_and (thn (ha pins s σ H Q I h) fun c s1 e=>?_);cases c with
 |true=>exact isTrue_and_nil e
 |false=>exact e
theorem a96(ha:PT X a tA):PW X (.BoolOp .Or [a] pos) tA:=by
 intro wh pins s σ H Q I h;refine isTrue_or (thn (ha pins s σ H Q I h) fun c s1 e=>?_);cases c with
 |false=>exact isTrue_or_nil e
 |true=>exact e
theorem a97(ha:PT X a tA)(hb:PW X (.BoolOp .And (b::rest) pos) tB'):PW X (.BoolOp .And (a::b::rest) pos) (br8 tA tB'):=by
 intro wh pins s σ H Q I h;refine isTrue_and (thn (ha pins s σ H _ I h) fun c s1 ⟨H1,I1,q1⟩=>?_);cases c with
 |true=>exact hb wh pins s1 σ H1 Q I1 q1
 |false=>exact⟨H1,I1,q1⟩
theorem bk6(ha:PT X a tA)(hb:PW X (.BoolOp .Or (b::rest) pos) tB'):PW X (.BoolOp .Or (a::b::rest) pos) (tOr tA tB'):=by
 intro wh pins s σ H Q I h;refine isTrue_or (thn (ha pins s σ H _ I h) fun c s1 ⟨H1,I1,q1⟩=>?_);cases c with
 |true=>exact⟨H1,I1,q1⟩
 |false=>exact hb wh pins s1 σ H1 Q I1 q1
theorem a98(ha:PT X a tA):PT X (.UnaryOp .Not a pos) (br2 tA):=by
 intro pins s σ H Q I h;exact isTrue_not (ha pins s σ H (fun c H1=>Q (!c) H1) I h)
noncomputable def bj3(ta tb:TE):TE:=fun σ H Q=>ta σ H fun x H1=>∃c,x=.bl c/\if c=true then tb σ H1 Q else Q (.bl false) H1
noncomputable def br1(ta tb:TE):TE:=fun σ H Q=>ta σ H fun x H1=>∃c,x=.bl c/\if c=true then Q (.bl true) H1 else tb σ H1 Q
noncomputable def bi8(ta:TE):TE:=fun σ H Q=>ta σ H fun x H1=>∃c,x=.bl c/\Q (.bl (!c)) H1
theorem ba9{op}{t:TE}(h:PE X a t):PE X (.BoolOp op [a] pos) t:=fun pins s σ H Q I hw=>BoolOp_one (h pins s σ H Q I hw)
theorem bb6(ha:PE X a ta)(hb:PE X (.BoolOp .And (b::rest) pos) tb):PE X (.BoolOp .And (a::b::rest) pos) (bj3 ta tb):=by
 intro pins s σ H Q I h;refine BoolOp_and (thn (ha pins s σ H _ I h) fun v s1 ⟨x,H1,I1,r1,q1⟩=>?_);obtain⟨c,rfl,q1⟩:=q1;cases r1;refine wpAny_truthy_bool ?_;cases c with
 |true=>exact hb pins s1 σ H1 Q I1 q1
 |false=>exact⟨.bl false,H1,I1,rfl,q1⟩
theorem bl0(ha:PE X a ta)(hb:PE X (.BoolOp .Or (b::rest) pos) tb):PE X (.BoolOp .Or (a::b::rest) pos) (br1 ta tb):=by
 intro pins s σ H Q I h;refine BoolOp_or (thn (ha pins s σ H _ I h) fun v s1 ⟨x,H1,I1,r1,q1⟩=>?_);obtain⟨c,rfl,q1⟩:=q1;cases r1;refine wpAny_truthy_bool ?_;cases c with
 |false=>exact hb pins s1 σ H1 Q I1 q1
 |true=>exact⟨.bl true,H1,I1,rfl,q1⟩
theorem bb0(ha:PE X a ta):PE X (.UnaryOp .Not a pos) (bi8 ta):=by
 intro pins s σ H Q I h;refine UnaryOp_ (thn (ha pins s σ H _ I h) fun v s1 ⟨x,H1,I1,r1,q1⟩=>?_);obtain⟨c,rfl,q1⟩:=q1;cases r1;exact not_of (wpAny_truthy_bool ⟨.bl (!c),H1,I1,rfl,q1⟩)
noncomputable def tIf(t:TT)(ta tb:TE):TE:=fun σ H Q=>t σ H fun c H1=>if c=true then ta σ H1 Q else tb σ H1 Q
theorem aP2{c:Expr}(hc:PT X c tA)(ha:PE X a ta)(hb:PE X b tb):PE X (.IfExp c a b pos) (tIf tA ta tb):=by
 intro pins s σ H Q I h;refine wpAny_IfExp (thn (hc pins s σ H _ I h) fun d s1 ⟨H1,I1,q1⟩=>?_);cases d with
 |true=>exact ha pins s1 σ H1 Q I1 q1
 |false=>exact hb pins s1 σ H1 Q I1 q1
end
end L2
namespace L2
open PySem PySem.Spec PyProof.Rows
noncomputable def SqL(K:PySem.W.Frag)(H:Hp)(a:Addr)(xs:List V):Prop :=
 Rd H a (.lst xs) \/
  ∃(o:Obj) (its:Array Value) (n:Nat),K.lookup a=some o/\o.cls=.type "list"/\o.dict=none/\o.data=.seq its n/\its.size<=sizeLine/\Vals xs its.toList
noncomputable def SqT(K:PySem.W.Frag)(H:Hp)(a:Addr)(xs:List V):Prop :=
 Rd H a (.tup xs) \/
  ∃(o:Obj) (its:Array Value) (n:Nat),K.lookup a=some o/\o.cls=.type "tuple"/\o.data=.seq its n/\its.size<=sizeLine/\Vals xs its.toList
noncomputable def bw7:Value->Option V
 |.none=>some .non
 |.bool b=>some (.bl b)
 |.int i _=>some (.int i)
 |.str x _=>some (.str x)
 |.bytes b _=>some (.byt b)
 |.float b _=>some (.flt b)
 |.ref a=>some (.ref a)
 |.type n=>some (.ty n)
 |_=>none
theorem RelV.abs{x:V}{u:Value}(r:RelV x u):bw7 u=some x:=by
 cases x with
 |non=>cases r;rfl
 |bl _=>cases r;rfl
 |int _=>obtain⟨t,rfl⟩:=r;rfl
 |str _=>obtain⟨t,rfl⟩:=r;rfl
 |byt _=>obtain⟨t,rfl⟩:=r;rfl
 |flt _=>obtain⟨t,rfl⟩:=r;rfl
 |ref _=>cases r;rfl
 |ty _=>cases r;rfl
theorem RelV.inj{x y:V}{u:Value}(r:RelV x u)(q:RelV y u):x=y:=Option.some.inj (r.abs.symm.trans q.abs)
theorem Vals.inj:∀{xs ys:List V} {us:List Value},Vals xs us->Vals ys us->xs=ys
 |_,_,_,.nil,.nil=>rfl
 |_,_,_,.cons r t,.cons r' t'=>by rw[r.inj r',Vals.inj t t']
section
variable{X:Cx}{pins:List (Addr×Obj)}{σ:St}{H:Hp}{s:Shared}{a:Addr}{xs ys:List V}
theorem SqL.of{K:PySem.W.Frag}(h:H a=some (.lst xs)):SqL K H a xs:=.inl (.inl h)
theorem SqT.of{K:PySem.W.Frag}(h:H a=some (.tup xs)):SqT K H a xs:=.inl (.inl h)
theorem Inv.list(I:Inv X pins σ H s)(h:SqL X.K H a xs):∃its:List Value,Vals xs its/\PlainL s.heap a its.toArray/\xs.length<=sizeLine:=by
 rcases h with h|⟨o,its,n,hk,hc,hd,hs,hz,r⟩
 ·obtain⟨z,its,n,r,e⟩:=h.ok I.hok;exact⟨its,r,⟨_,n,e,rfl,rfl,rfl⟩,z⟩
 ·refine⟨its.toList,r,⟨o,n,I.kIn a o hk,hc,hd,by simpa using hs⟩,?_⟩;have e:=r.length;simp only[Array.length_toList] at e;omega
theorem Inv.tuple(I:Inv X pins σ H s)(h:SqT X.K H a xs):∃its:List Value,Vals xs its/\IsTup s.heap a its.toArray/\xs.length<=sizeLine:=by
 rcases h with h|⟨o,its,n,hk,hc,hs,hz,r⟩
 ·obtain⟨z,its,r,p⟩:=h.ok I.hok;exact⟨its,r,p.tup,z⟩
 ·refine⟨its.toList,r,⟨o,I.kIn a o hk,hc,n,by simpa using hs⟩,?_⟩;have e:=r.length;simp only[Array.length_toList] at e;omega
theorem Inv.aq2(I:Inv X pins σ H s)(h:SqL X.K H a xs)(h':SqL X.K H a ys):xs=ys:=by
 obtain⟨its,r,⟨o,n,e,_,_,d⟩,_⟩:=I.list h;obtain⟨its',r',⟨o',n',e',_,_,d'⟩,_⟩:=I.list h';rw[e] at e';cases e';rw[d] at d';injection d' with d1 _;have:its=its':=by simpa using congrArg Array.toList d1
 subst this;exact r.inj r'
theorem Inv.aD5(I:Inv X pins σ H s)(h:SqT X.K H a xs)(h':SqT X.K H a ys):xs=ys:=by
 obtain⟨its,r,⟨o,e,_,n,d⟩,_⟩:=I.tuple h;obtain⟨its',r',⟨o',e',_,n',d'⟩,_⟩:=I.tuple h';rw[e] at e';cases e';rw[d] at d';injection d' with d1 _;have:its=its':=by simpa using congrArg Array.toList d1
 subst this;exact r.inj r'
end
noncomputable abbrev Cx.A3(X:Cx)(E:Value->Shared->Prop):Cx:={ X with xe:=E }
noncomputable abbrev Cx.nox(X:Cx):Cx:=X.A3 fun _ _=>False
theorem Cx.Ok.A3{X:Cx}(ok:X.Ok)(E:Value->Shared->Prop):(X.A3 E).Ok :=
 ⟨ok.mod,ok.kind,ok.glob,ok.blt,ok.above,ok.inj,ok.has,ok.cab,ok.hd,ok.frames,ok.stk,ok.exf,ok.bs,ok.bsz,ok.noex,ok.exfs,ok.B5,ok.frf⟩
theorem Cx.Ok.w6{X:Cx}{E:Value->Shared->Prop}(ok:(X.A3 E).Ok):X.Ok :=
 ⟨ok.mod,ok.kind,ok.glob,ok.blt,ok.above,ok.inj,ok.has,ok.cab,ok.hd,ok.frames,ok.stk,ok.exf,ok.bs,ok.bsz,ok.noex,ok.exfs,ok.B5,ok.frf⟩
section
variable{X:Cx}{pins:List (Addr×Obj)}{σ:St}{H:Hp}{s:Shared}{E:Value->Shared->Prop}
theorem Inv.A3(I:Inv X pins σ H s)(E:Value->Shared->Prop):Inv (X.A3 E) pins σ H s:=⟨I.ok.A3 E,I.os,I.bare,I.base,I.loc,I.cell,I.free,I.freeC,I.pin,I.hok,I.len⟩
theorem Inv.w6(I:Inv (X.A3 E) pins σ H s):Inv X pins σ H s:=⟨I.ok.w6,I.os,I.bare,I.base,I.loc,I.cell,I.free,I.freeC,I.pin,I.hok,I.len⟩
theorem SP.w6{D:Ends}{f:Flow}{s':Shared}(h:SP (X.A3 E) pins D f s'):SP X pins D f s':=by
 cases f with
 |next=>obtain⟨σ',H',I,q⟩:=h;exact⟨σ',H',I.w6,q⟩
 |brk=>obtain⟨σ',H',I,q⟩:=h;exact⟨σ',H',I.w6,q⟩
 |cont=>obtain⟨σ',H',I,q⟩:=h;exact⟨σ',H',I.w6,q⟩
 |ret u=>obtain⟨v,σ',H',I,r,q⟩:=h;exact⟨v,σ',H',I.w6,r,q⟩
theorem PE.nox{e:Expr}{t:TE}(h:PE X.nox e t):PE X e t:=fun pins s σ H Q I hw =>
 wpAny_mono (h pins s σ H Q (I.A3 _) hw) (fun _ _ ⟨v,H',I',r,q⟩=>⟨v,H',I'.w6,r,q⟩) fun _ _ z=>False.elim z
theorem PT.nox{e:Expr}{t:TT}(h:PT X.nox e t):PT X e t:=fun pins s σ H Q I hw =>
 wpAny_mono (h pins s σ H Q (I.A3 _) hw) (fun _ _ ⟨H',I',q⟩=>⟨H',I'.w6,q⟩) fun _ _ z=>False.elim z
theorem PSs.nox{st:List Stmt}{t:TS}(h:PSs X.nox st t):PSs X st t:=fun pins s σ H D I hw =>
 wpAny_mono (h pins s σ H D (I.A3 _) hw) (fun _ _ q=>q.w6) fun _ _ z=>False.elim z
end
section
variable{X:Cx}{st:Stmt}{rest:List Stmt}{t u:TS}{e:Expr}{te:TE}{pos:Pos}
noncomputable def aT2:TS:=fun D σ H=>D.nx σ H
noncomputable def bq8(t u:TS):TS:=fun D σ H=>t { D with nx:=u D } σ H
theorem aZ2:PSs X [] aT2:=fun _ _ σ H _ I h=>wpAny_execs_nil ⟨σ,H,I,h⟩
theorem aO1(h1:PS X st t)(h2:PSs X rest u):PSs X (st::rest) (bq8 t u):=by
 intro pins s σ H D I h;refine wpAny_execs_cons (thn (h1 pins s σ H { D with nx:=u D } I h) fun f s1 q=>?_);cases f with
 |next =>
  obtain⟨σ',H',I',q⟩:=q;exact h2 pins s1 σ' H' D I' q
 |ret v=>exact q
 |brk=>exact q
 |cont=>exact q
theorem aZ4:PS X (.Pass pos) aT2:=fun _ _ σ H _ I h=>wpAny_Pass ⟨σ,H,I,h⟩
theorem Inv.quiet{pins:List (Addr×Obj)}{σ:St}{H:Hp}{s:Shared}(I:Inv X pins σ H s):interactive X.env=false:=by simp[interactive,I.ok.kind]
noncomputable def bi9(te:TE):TS:=fun D σ H=>te σ H fun _ H1=>D.nx σ H1
theorem aZ5(he:PE X e te)(hs:swapsWith e none pos.line X.env=pure false:=by rfl):PS X (.Expr e pos) (bi9 te):=by
 intro pins s σ H D I h;exact wpAny_Expr_any (thn (he pins s σ H _ I h) fun v s1 ⟨x,H1,I1,r1,q1⟩=>⟨σ,H1,I1,q1⟩) I.quiet hs
noncomputable def bq9(te:TE):TS:=fun D σ H=>te σ H D.rt
theorem ba0(he:PE X e te):PS X (.Return (some e) pos) (bq9 te):=by
 intro pins s σ H D I h;exact wpAny_Return_some (thn (he pins s σ H _ I h) fun v s1 ⟨x,H1,I1,r1,q1⟩=>⟨x,σ,H1,I1,r1,q1⟩)
noncomputable def bi6:TS:=fun D _ H=>D.rt .non H
theorem aZ3:PS X (.Return none pos) bi6:=fun _ _ σ H _ I h=>wpAny_Return_none ⟨.non,σ,H,I,rfl,h⟩
noncomputable def br4(c:TT)(t u:TS):TS:=fun D σ H=>c σ H fun b H1=>if b=true then t D σ H1 else u D σ H1
theorem bk7{c:Expr}{a b:List Stmt}{tc:TT}(hc:PT X c tc)(ha:PSs X a t)(hb:PSs X b u):PS X (.If c a b pos) (br4 tc t u):=by
 intro pins s σ H D I h;refine wpAny_If (thn (hc pins s σ H _ I h) fun d s1 ⟨H1,I1,q1⟩=>?_);cases d with
 |true=>exact ha pins s1 σ H1 D I1 q1
 |false=>exact hb pins s1 σ H1 D I1 q1
end
noncomputable abbrev TG:=V->St->Hp->(St->Hp->Prop)->Prop
noncomputable abbrev TGs:=List V->St->Hp->(St->Hp->Prop)->Prop
noncomputable def PG(X:Cx)(target:Expr)(t:TG):Prop :=
 ∀(pins:List (Addr×Obj)) (s:Shared) (σ:St) (H:Hp) (v:V) (u:Value) (Q:St->Hp->Prop),Inv X pins σ H s->RelV v u->t v σ H Q ->
  wpAny (model X.prog X.w) X.A (assign target X.env u) (fun _ s'=>∃σ' H',Inv X pins σ' H' s'/\Q σ' H') X.xe s
noncomputable def PGs(X:Cx)(ts:List Expr)(t:TGs):Prop :=
 ∀(pins:List (Addr×Obj)) (s:Shared) (σ:St) (H:Hp) (vs:List V) (us:List Value) (Q:St->Hp->Prop),Inv X pins σ H s->Vals vs us->t vs σ H Q ->
  wpAny (model X.prog X.w) X.A (assignInOrder ((assignEach ts X.env).map (·.2)) us) (fun _ s'=>∃σ' H',Inv X pins σ' H' s'/\Q σ' H') X.xe s
noncomputable abbrev aS7:=V->V->V->Hp->(Hp->Prop)->Prop
noncomputable def aS8(X:Cx)(t:aS7):Prop :=
 ∀(pins:List (Addr×Obj)) (s:Shared) (σ:St) (H:Hp) (o i v:V) (ov iv u:Value) (Q:Hp->Prop),Inv X pins σ H s->RelV o ov->RelV i iv->RelV v u->t o i v H Q ->
  wpAny (model X.prog X.w) X.A (setItem ov iv u) (fun _ s'=>∃H',Inv X pins σ H' s'/\Q H') X.xe s
section
variable{X:Cx}{pos:Pos}
noncomputable def Y4(i:Nat):TG:=fun v σ H Q=>Q (σ.set i (some v)) H
theorem av8{i:Nat}{x:Str}(hN:X.N.Nodup)(hi:X.N[i]?=some x)(hx:Loc X.env.scope x)(hf:X.fn x=true\/X.env.scope.names.lookup x=some .local:=by first|exact .inl rfl|exact .inr rfl|assumption):PG X (.Name x pos) (Y4 i):=by
 intro pins s σ H v u Q I r h;exact wpAny_assign_Name (R9 I hN hi hx r (fun s' I'=>⟨_,H,I',h⟩) hf)
noncomputable def bf3:TGs:=fun vs σ H Q=>vs=[]/\Q σ H
noncomputable def aU7(t:TG)(u:TGs):TGs:=fun vs σ H Q=>∃v r,vs=v::r/\t v σ H fun σ' H'=>u r σ' H' Q
theorem aZ9:PGs X [] bf3:=by
 intro pins s σ H vs us Q I r h;obtain⟨e,h⟩:=h;subst e;cases r;exact assignInOrder_nil ⟨σ,H,I,h⟩
theorem aO7{e:Expr}{es:List Expr}{t:TG}{u:TGs}(h1:PG X e t)(h2:PGs X es u)(hs:(assignEach (e::es) X.env).map (·.2)=assign e X.env::(assignEach es X.env).map (·.2):=by rfl):PGs X (e::es) (aU7 t u):=by
 intro pins s σ H vs us Q I r h;obtain⟨v,vr,e1,h⟩:=h;subst e1;cases r with
 |cons r rr =>
  rw[hs];refine assignInOrder_cons (thn (h1 pins s σ H _ _ _ I r h) fun _ s1 ⟨σ1,H1,I1,q1⟩=>?_);exact h2 pins s1 σ1 H1 _ _ Q I1 rr q1
noncomputable def bv6(K:PySem.W.Frag)(n:Nat)(t:TGs):TG:=fun v σ H Q=>∃a xs,v=.ref a/\SqT K H a xs/\xs.length=n/\t xs σ H Q
theorem ba5{es:List Expr}{k:Nat}{t:TGs}{n:Nat}(hc:X.calm=true)(h:PGs X es t)(hn:(assignEach es X.env).length=n:=by rfl)(hst:(assignEach es X.env).findIdx? (·.1)=none:=by rfl):PG X (.Tuple es k pos) (bv6 X.K n t):=by
 intro pins s σ H v u Q I r hw;obtain⟨a,xs,e1,hq,hl,hw⟩:=hw;subst e1;cases r;obtain⟨its,rv,ht,hz⟩:=I.tuple hq;refine assign_Tuple_tuple (I.ok.hd hc) ht (by simp[hn,<- hl,rv.length]) hst fun h' hx=>?_;have I1:Inv X pins σ H { s with heap:=h' }:=I.kept (t':=s.toks) fun b o e=>hx b o (Nat.ne_of_lt (Heap.lt_size e)) e;exact h pins _ σ H xs _ Q I1 (by simpa using rv) hw
noncomputable def bv7(to ti:TE)(t:aS7):TG:=fun v σ H Q=>to σ H fun o H1=>ti σ H1 fun i H2=>t o i v H2 fun H3=>Q σ H3
theorem ba6{o i:Expr}{to ti:TE}{t:aS7}(ho:PE X o to)(hi:PE X i ti)(hs:aS8 X t)(ha:∀ v,assign (.Subscript o i pos) X.env v=(do
   let ov <- holding [v] (eval o X.env)
   let iv <- holding [v,ov] (eval i X.env)
   standAt pos
   holding [v,ov,iv] (setItem ov iv v)
   release [v,ov,iv] []):=by intro _;rfl):PG X (.Subscript o i pos) (bv7 to ti t):=by
 intro pins s σ H v u Q I r h;rw[ha];refine wpAny_bind (wpAny_holding (thn (ho pins s σ H _ I h) fun ov s1 ⟨x,H1,I1,r1,q1⟩=>?_));refine wpAny_bind (wpAny_holding (thn (hi pins s1 σ H1 _ I1 q1) fun iv s2 ⟨y,H2,I2,r2,q2⟩=>?_));refine wpAny_bind (wpAny_standAt (wpAny_bind (wpAny_holding (thn (hs pins s2 σ H2 x y v ov iv u _ I2 r1 r2 r q2) fun _ s3 ⟨H3,I3,q3⟩=>?_))));exact wpAny_release ⟨σ,H3,I3,q3⟩
noncomputable def ao1(te:TE)(g:TG):TS:=fun D σ H=>te σ H fun x H1=>g x σ H1 D.nx
theorem aF3{tg e:Expr}{te:TE}{g:TG}(he:PE X e te)(hg:PG X tg g)(hs:swapsWithSole [tg] e pos.line X.env=pure false:=by rfl)(hw:swappedStores [tg] e X.env=pure none:=by rfl)(h1:(assignEach [tg] X.env).map (·.2)=[assign tg X.env]:=by rfl):PS X (.Assign [tg] e pos) (ao1 te g):=by
 intro pins s σ H D I h;refine wpAny_Assign_stores (thn (he pins s σ H _ I h) fun v s1 ⟨x,H1,I1,r1,q1⟩=>?_) hs hw;rw[h1];exact thn (hg pins s1 σ H1 x v _ I1 r1 q1) fun _ s2 q=>q
theorem aF1{i:Nat}{x:Str}{e:Expr}{te:TE}{pos':Pos}(hN:X.N.Nodup)(hi:X.N[i]?=some x)(hx:Loc X.env.scope x)(he:PE X e te)(hs:swapsWith e (some (.Name x pos')) pos.line X.env=pure false:=by rfl)(hf:X.fn x=true\/X.env.scope.names.lookup x=some .local:=by first|exact .inl rfl|exact .inr rfl|assumption) :
  PS X (.Assign [.Name x pos'] e pos) (ao1 te (Y4 i)):=by
 intro pins s σ H D I h;refine wpAny_Assign_Name (thn (he pins s σ H _ I h) fun v s1 ⟨y,H1,I1,r1,q1⟩=>?_) hs;exact R9 I1 hN hi hx r1 (fun s2 I2=>⟨_,H1,I2,q1⟩) hf
noncomputable def br0(i j:Nat)(ta:TA):TS:=fun D σ H=>ta σ H fun vs H1=>∃v w,vs=[v,w]/\D.nx ((σ.set i (some v)).set j (some w)) H1
theorem ba1{i j:Nat}{x y:Str}{a b:Expr}{ta:TA}{px py pt:Pos}{kt k2 pt2}(hc:X.calm=true)(hN:X.N.Nodup)(hi:X.N[i]?=some x)(hj:X.N[j]?=some y)(hij:i≠j)(hx:X.env.scope.names.lookup x=some .local)(hy:X.env.scope.names.lookup y=some .local)(ha:PA X [a,b] ta)(hw:swappedStores [.Tuple [.Name x px,.Name y py] kt pt] (.Tuple [a,b] k2 pt2) X.env=pure (some [x,y]))(hs:swapsWithSole [.Tuple [.Name x px,.Name y py] kt pt] (.Tuple [a,b] k2 pt2) pos.line X.env=pure false:=by rfl) :
  PS X (.Assign [.Tuple [.Name x px,.Name y py] kt pt] (.Tuple [a,b] k2 pt2) pos) (br0 i j ta):=by
 intro pins s σ H D I h;rw[exec_Assign_arm];refine wpAny_bind (wpAny_standAt ?_);rw[hs];refine wpAny_bind (wpAny_pure ?_);rw[if_neg (by decide)];refine wpAny_bind (Tuple_ (thn (ha _ pins s σ H _ I h) fun us s1 ⟨vs,H1,I1,r1,q1⟩=>?_));obtain⟨v,w,e1,q1⟩:=q1;subst e1;obtain⟨u1,u2,rfl,rv,rw'⟩:∃u1 u2,us=[u1,u2]/\RelV v u1/\RelV w u2:=by
  cases r1 with
  |cons p q =>
   cases q with
   |cons p' q' =>
    cases q';exact⟨_,_,rfl,p,p'⟩
 refine wpAny_newObj_type ?_ (by show 2<=sizeLine;decide);have I2:Inv X pins σ H1 { s1 with heap:=s1.heap.push { cls:=.type "tuple",data:=.seq [u1,u2].toArray } }:=I1.kept (t':=s1.toks) fun b o e=>Heap.get?_push_of_some _ e;rw[hw];refine wpAny_bind (wpAny_pure ?_);show wpAny (model X.prog X.w) X.A (do rule "assign.swapped-stores";let items <- unpackItems (.ref s1.heap.objs.size) 2 none;assignInOrder [fun v=>bindName X.env y v,fun v=>bindName X.env x v] items.reverse;pure Flow.next) _ _ _;refine wpAny_bind (wpAny_rule (wpAny_bind (unpackItems_tuple (items:=#[u1,u2]) (I.ok.hd hc) (IsTup.new s1.heap _) fun h' hx'=>?_)));have I3:=I2.kept (h':=h') (t':=s1.toks) fun b o e=>hx' b o (Nat.ne_of_lt (Heap.lt_size e)) e;show wpAny _ _ (assignInOrder [fun v=>bindName X.env y v,fun v=>bindName X.env x v] [u2,u1] >>= fun _=>pure Flow.next) _ _ _;refine wpAny_bind (assignInOrder_cons (wpAny_bindName (R9 I3 hN hj (.inl hy) rw' (fun s2 I4=>?_) (.inr hy))));refine assignInOrder_cons (wpAny_bindName (R9 I4 hN hi (.inl hx) rv (fun s3 I5=>assignInOrder_nil (wpAny_pure ?_)) (.inr hx)));rw[List.set_comm _ _ (Ne.symm hij)] at I5;exact⟨_,H1,I5,q1⟩
end
section
variable{X:Cx}{pos:Pos}
noncomputable def a54(c:TT)(tb:TS):TS:=fun D σ H=>∃W:Nat->St->Hp->Prop,(∃m,W m σ H)/\∀m σ H,W m σ H ->
 c σ H fun b H1=>if b=true then ∃N:St->Hp->Prop,(∀σ' H',N σ' H'->∃m',m'<m/\W m' σ' H')/\tb { D with nx:=N,ct:=N,bk:=D.nx } σ H1 else D.nx σ H1
theorem aO2{c:Expr}{body:List Stmt}{tc:TT}{tb:TS}(hp:PassesOwn (model X.prog X.w) X.A X.env X.xe)(hc:PT X c tc)(hb:PSs X body tb):PS X (.While c body [] pos) (a54 tc tb):=by
 intro pins s σ H D I h;obtain⟨W,⟨m0,w0⟩,turn⟩:=h;refine wpAny_While (codeAny_whileLoop (fun n s'=>∃σ' H',Inv X pins σ' H' s'/\W n σ' H') ?_ m0 ⟨σ,H,I,w0⟩);rintro n s1 ⟨σ1,H1,I1,w1⟩;refine wpAny_passesOwn hp (thn (hc pins s1 σ1 H1 _ I1 (turn n σ1 H1 w1)) fun b s2 ⟨H2,I2,q2⟩=>?_);cases b with
 |true =>
  obtain⟨N,hN,q2⟩:=q2;rw[if_pos rfl];refine wpAny_passesOwn hp (thn (hb pins s2 σ1 H2 _ I2 q2) fun f s3 q3=>?_);cases f with
  |next =>
   obtain⟨σ3,H3,I3,n3⟩:=q3;obtain⟨m',hm,w3⟩:=hN σ3 H3 n3;exact⟨m',hm,σ3,H3,I3,w3⟩
  |cont =>
   obtain⟨σ3,H3,I3,n3⟩:=q3;obtain⟨m',hm,w3⟩:=hN σ3 H3 n3;exact⟨m',hm,σ3,H3,I3,w3⟩
  |brk=>exact q3
  |ret v=>exact q3
 |false =>
  rw[if_neg Bool.false_ne_true];exact wpAny_execs_nil ⟨σ1,H2,I2,q2⟩
end
structure It where
 go:Nat->Hp->Prop
 yld:Nat->Hp->V->Hp->Prop
 stop:Nat->Hp->Prop
noncomputable def F0(X:Cx)(pins:List (Addr×Obj))(H:Hp)(b:Addr):Prop :=
 H b=none/\b≠X.env.locals/\b∉X.fs/\(b∈X.ex\/X.s₀.heap.objs.size<=b)/\(∀x c,X.env.cells.lookup x=some c->c≠b)/\∀p∈X.pn++pins,p.1≠b
theorem Inv.ab2{X:Cx}{pins:List (Addr×Obj)}{σ:St}{H H':Hp}{s:Shared}{b:Addr}(I:Inv X pins σ H s)(hb:s.heap.objs.size<=b)(hn:H' b=none):F0 X pins H' b:=by
 refine⟨hn,Nat.ne_of_gt (Nat.lt_of_lt_of_le I.lt hb),I.az6 hb,.inr (Nat.le_trans I.sz hb),fun x c e z=>?_,fun p hp z=>?_⟩
 ·obtain⟨v,q⟩:=I.cell x c e;exact absurd (Nat.lt_of_lt_of_le q.lt (by rw[z];exact hb)) (Nat.lt_irrefl _)
 ·exact absurd (Nat.lt_of_lt_of_le (Heap.lt_size (I.pin p hp).1) (by rw[z];exact hb)) (Nat.lt_irrefl _)
structure Turn(P:Program)(w:World)(K:PySem.W.Frag)(tg:Expr)(J:It)(fp:List Addr)(it:Addr)(tn:Nat->Heap->Prop):Prop where
 mem:it∈fp
 obj:∀i h,tn i h->∀b∈fp,∃o,h.get? b=some o/\∀v,o.data≠.cell v
 keep:∀i h h',tn i h->(∀b∈fp,∀o,h.get? b=some o->h'.get? b=some o)->tn i h'
 item:∀(X:Cx),X.prog=P->X.w=w->X.K=K->X.calm=true->∀(i:Nat) (pins:List (Addr×Obj)) (s:Shared) (σ:St) (H:Hp) (E:Value->Shared->Prop),Inv X pins σ H s->(∀b∈fp,F0 X pins H b)->tn i s.heap->J.go i H ->
  wpAny (model P w) X.A (pyNext (.ref it)) (fun r s1=>∃ u,r=some u /\
   wpAny (model P w) X.A (letOwnedTupleGo tg (.ref it) u) (fun _ s2=>∃ x H',Inv X pins σ H' s2/\RelV x u/\J.yld i H x H'/\tn (i + 1) s2.heap/\∀ b ∈ fp,H' b=none) E s1) E s
 done:∀(X:Cx),X.prog=P->X.w=w->X.K=K->X.calm=true->∀(i:Nat) (pins:List (Addr×Obj)) (s:Shared) (σ:St) (H:Hp) (E:Value->Shared->Prop),Inv X pins σ H s->(∀b∈fp,F0 X pins H b)->tn i s.heap->J.stop i H ->
  wpAny (model P w) X.A (pyNext (.ref it)) (fun r s1=>r=none/\Inv X pins σ H s1) E s
 self:∀(A:Around) (i:Nat) (s:Shared) (Q:Value->Shared->Prop) (E:Value->Shared->Prop),tn i s.heap->Q (.ref it) s->wpAny (model P w) A (pyIter (.ref it)) Q E s
noncomputable abbrev TI:=St->Hp->(It->Hp->Prop)->Prop
noncomputable def PIE(X:Cx)(pins:List (Addr×Obj))(σ:St)(tg:Expr)(R:It->Hp->Prop)(itv:Value)(s2:Shared):Prop :=
 ∃(it:Addr) (fp:List Addr) (tn:Nat->Heap->Prop) (J:It) (H':Hp),itv=.ref it/\Inv X pins σ H' s2/\Turn X.prog X.w X.K tg J fp it tn/\tn 0 s2.heap/\(∀b∈fp,F0 X pins H' b)/\R J H'
noncomputable def PI(X:Cx)(tg iter:Expr)(wi:TI):Prop :=
 ∀(pins:List (Addr×Obj)) (s:Shared) (σ:St) (H:Hp) (R:It->Hp->Prop),Inv X pins σ H s->wi σ H R ->
  wpAny (model X.prog X.w) X.A (eval iter X.env) (fun v s1=>wpAny (model X.prog X.w) X.A (pyIter v) (PIE X pins σ tg R) X.xe s1) X.xe s
theorem aA8{M:Model}{A:Around}{E:Value->Shared->Prop}{s:Shared}{tg:Expr}{it:Addr}{u:Value}{o:Obj}{n:String}{vs:Array Value}{Q:Unit->Shared->Prop}(ho:s.heap.get? it=some o)(hc:o.cls=.type n)(hd:o.data=.fields vs)(hn:["enumerate","zip","dict_itemiterator","dict_reverseitemiterator","odict_iterator","itertools.zip_longest","itertools.pairwise"].contains n=false)(hQ:Q () s):wpAny M A (letOwnedTupleGo tg (.ref it) u) Q E s:=by
  unfold letOwnedTupleGo;cases tg<;>first
    |exact wpAny_pure hQ
    | (cases u <;> first
        |exact wpAny_pure hQ
        | (refine wpAny_bind (wpAny_load ho ?_)
           rw[hc,hd];show wpAny M A (if(["enumerate","zip","dict_itemiterator","dict_reverseitemiterator","odict_iterator","itertools.zip_longest","itertools.pairwise"].contains n&&vs[0]?==some (rawInt _))=true then _ else _) Q E s;rw[if_neg (by intro h;rw[hn,Bool.false_and] at h;cases h)];exact wpAny_pure hQ))
noncomputable def Itl(K:PySem.W.Frag)(a:Addr):It :=
 ⟨fun i H=>∃xs x,SqL K H a xs/\xs[i]?=some x,fun i H x H'=>H'=H/\∀xs,SqL K H a xs->xs[i]?=some x,fun i H=>∃xs,SqL K H a xs/\xs.length<=i⟩
noncomputable def Itt(K:PySem.W.Frag)(a:Addr):It :=
 ⟨fun i H=>∃xs x,SqT K H a xs/\xs[i]?=some x,fun i H x H'=>H'=H/\∀xs,SqT K H a xs->xs[i]?=some x,fun i H=>∃xs,SqT K H a xs/\xs.length<=i⟩
noncomputable def Itr(lo:Int)(n:Nat):It:=⟨fun i _=>i<n,fun i H x H'=>H'=H/\x=.int (lo+i),fun i _=>n<=i⟩
theorem aD2{P:Program}{w:World}{K:PySem.W.Frag}{tg:Expr}(a it:Addr):Turn P w K tg (Itl K a) [it] it (fun i h=>h.IsListIter it a i) where
 mem:=by simp
 obj:=fun i h st b hb=>by
  have e:b=it:=by simpa using hb
  subst e;obtain⟨o,e,c,d⟩:=st;exact⟨o,e,fun v z=>by rw[d] at z;cases z⟩
 keep:=fun i h h' st k=>st.at fun o e=>k it (by simp) o e
 item:=by
  intro X hP hw hK hc i pins s σ H E I hf st hg;subst hP hw hK;obtain⟨xs,x,hq,hx⟩:=hg;obtain⟨its,rv,p,hz⟩:=I.list hq;obtain⟨u,hu,ru⟩:=rv.get hx;obtain⟨f0,f1,f2,f3,f4,f5⟩:=hf it (by simp);refine wpAny_pyNext_list_item st p.isList (x:=u) (by simpa using hu) fun h' st' sb=>?_;have I1:Inv X pins σ H { s with heap:=h' }:=I.turned (t':=s.toks) (fun b o hb e=>(sb.2 b hb).trans e) f0 f1 f3 f4 f5;obtain⟨o,e,c,d⟩:=id st';exact⟨u,rfl,aA8 (s:={ s with heap:=h' }) e c d (by decide) ⟨x,H,I1,ru,⟨rfl,fun ys hy=>by rw[I.aq2 hy hq];exact hx⟩,st',fun b hb=>(hf b hb).1⟩⟩
 done:=by
  intro X hP hw hK hc i pins s σ H E I hf st hg;subst hP hw hK;obtain⟨xs,hq,hx⟩:=hg;obtain⟨its,rv,p,hz⟩:=I.list hq;obtain⟨f0,f1,f2,f3,f4,f5⟩:=hf it (by simp);have hl:=rv.length;exact wpAny_pyNext_list_end (I.ok.hd hc) st p.isList (by simp;omega) fun h' eb=>⟨rfl,I.turned (t':=s.toks) (fun b o hb e=>eb b o hb e) f0 f1 f3 f4 f5⟩
 self:=fun _ _ _ _ _ st h=>wpAny_pyIter_listiter st h
theorem ay3{P:Program}{w:World}{K:PySem.W.Frag}{tg:Expr}(a it:Addr):Turn P w K tg (Itt K a) [it] it (fun i h=>h.IsTupleIter it a i) where
 mem:=by simp
 obj:=fun i h st b hb=>by
  have e:b=it:=by simpa using hb
  subst e;obtain⟨o,e,c,d⟩:=st;exact⟨o,e,fun v z=>by rw[d] at z;cases z⟩
 keep:=fun i h h' st k=>st.at fun o e=>k it (by simp) o e
 item:=by
  intro X hP hw hK hc i pins s σ H E I hf st hg;subst hP hw hK;obtain⟨xs,x,hq,hx⟩:=hg;obtain⟨its,rv,p,hz⟩:=I.tuple hq;obtain⟨u,hu,ru⟩:=rv.get hx;obtain⟨f0,f1,f2,f3,f4,f5⟩:=hf it (by simp);refine wpAny_pyNext_tuple_item st (show s.heap.IsTuple a its.toArray from p) (x:=u) (by simpa using hu) fun h' st' sb=>?_;have I1:Inv X pins σ H { s with heap:=h' }:=I.turned (t':=s.toks) (fun b o hb e=>(sb.2 b hb).trans e) f0 f1 f3 f4 f5;obtain⟨o,e,c,d⟩:=id st';exact⟨u,rfl,aA8 (s:={ s with heap:=h' }) e c d (by decide) ⟨x,H,I1,ru,⟨rfl,fun ys hy=>by rw[I.aD5 hy hq];exact hx⟩,st',fun b hb=>(hf b hb).1⟩⟩
 done:=by
  intro X hP hw hK hc i pins s σ H E I hf st hg;subst hP hw hK;obtain⟨xs,hq,hx⟩:=hg;obtain⟨its,rv,p,hz⟩:=I.tuple hq;obtain⟨f0,f1,f2,f3,f4,f5⟩:=hf it (by simp);have hl:=rv.length;exact wpAny_pyNext_tuple_end (I.ok.hd hc) st (show s.heap.IsTuple a its.toArray from p) (by simp;omega) fun h' eb=>⟨rfl,I.turned (t':=s.toks) (fun b o hb e=>eb b o hb e) f0 f1 f3 f4 f5⟩
 self:=fun _ _ _ _ _ st h=>wpAny_pyIter_tupleiter st h
theorem ay4{P:Program}{w:World}{K:PySem.W.Frag}{tg:Expr}(it:Addr)(lo:Int)(n:Nat):Turn P w K tg (Itr lo n) [it] it (fun i h=>IsRangeIter h it (lo+(i:Nat)*1) ((n:Int)-(i:Nat)) 1) where
 mem:=by simp
 obj:=fun i h st b hb=>by
  have e:b=it:=by simpa using hb
  subst e;exact ⟨_,st,fun v z=>by
   have z':Data.fields _=Data.cell v:=z;cases z'⟩
 keep:=fun i h h' st k=>k it (by simp) _ st
 item:=by
  intro X hP hw hK hc i pins s σ H E I hf st hg;subst hP hw hK;obtain⟨f0,f1,f2,f3,f4,f5⟩:=hf it (by simp);have W:=Walks.range (prog:=X.prog) (w:=X.w) (I.ok.hd hc) it lo 1 n;refine W.item i s _ _ hg st fun v h' tk hv st' kk=>?_;obtain⟨t,rfl⟩:=hv;have I1:Inv X pins σ H { s with heap:=h',toks:=tk }:=I.turned (fun b o hb e=>kk b o (by simpa using hb) e) f0 f1 f3 f4 f5;refine⟨_,rfl,aA8 (s:={ s with heap:=h',toks:=tk }) (n:="range_iterator") st' rfl rfl (by decide) ⟨.int (lo+i),H,I1,⟨t,?_⟩,⟨rfl,rfl⟩,st',fun b hb=>(hf b hb).1⟩⟩;rw[Int.mul_one]
 done:=by
  intro X hP hw hK hc i pins s σ H E I hf st hg;subst hP hw hK;obtain⟨f0,f1,f2,f3,f4,f5⟩:=hf it (by simp);exact wpAny_pyNext_range_end (I.ok.hd hc) st (by have:n<=i:=hg;omega) fun h' eb=>⟨rfl,I.turned (t':=s.toks) (fun b o hb e=>eb b o hb e) f0 f1 f3 f4 f5⟩
 self:=fun _ _ _ _ _ st h=>wpAny_pyIter_rangeiter st h
end L2
namespace L2
open PySem PySem.Spec PyProof.Rows
section
variable{X:Cx}{tg:Expr}
theorem ap0{pins:List (Addr×Obj)}{σ:St}{H:Hp}{s:Shared}{R:It->Hp->Prop}{E:Value->Shared->Prop}{lo hi:Int}{t u v:Tok}{tk:Nat}(I:Inv X pins σ H s)(h1:-(2 ^ 62)<=lo)(h2:lo<2 ^ 62)(h3:-(2 ^ 62)<=hi)(h4:hi<2 ^ 62)(q:R (Itr lo (hi-lo).toNat) H):wpAny (model X.prog X.w) X.A (pyIter (.ref s.heap.objs.size)) (PIE X pins σ tg R) E { s with heap:=s.heap.push { cls:=.type "range",data:=.fields #[.int lo t,.int hi u,.int 1 v] },toks:=tk }:=by
 refine wpAny_pyIter_range (IsRange.new ..) (small_one h1 h2 h3 h4) ?_;have I1:Inv X pins σ H { s with heap:=s.heap.push { cls:=.type "range",data:=.fields #[.int lo t,.int hi u,.int 1 v] },toks:=tk }:=I.kept fun b o e=>Heap.get?_push_of_some _ e;refine ⟨(s.heap.push { cls:=.type "range",data:=.fields #[.int lo t,.int hi u,.int 1 v] }).objs.size,[(s.heap.push { cls:=.type "range",data:=.fields #[.int lo t,.int hi u,.int 1 v] }).objs.size],_,_,H,rfl,
  I1.kept (t':=tk) fun b o e=>Heap.get?_push_of_some _ e,ay4 _ lo (hi - lo).toNat,?_,fun b hb=>?_,q⟩
 ·have e1:lo+((0:Nat):Int)*1=lo:=by simp
  have e2:(((hi-lo).toNat:Nat):Int)-((0:Nat):Int)=Builtin.Range.rangeSize lo hi 1:=by rw[rangeSize_one];split<;>omega
  show IsRangeIter _ _ (lo+((0:Nat):Int)*1) ((((hi-lo).toNat:Nat):Int)-((0:Nat):Int)) 1;rw[e1,e2];exact Heap.get?_push_size _ rfl
 ·have e:b=(s.heap.push { cls:=.type "range",data:=.fields #[.int lo t,.int hi u,.int 1 v] }).objs.size:=by simpa using hb
  subst e;exact I1.ab2 (Nat.le_refl _) (I1.hok.fresh (Nat.le_refl _))
noncomputable def bn6(ta:TA):TI:=fun σ H R=>ta σ H fun vs H1=>∃j:Int,vs=[.int j]/\-(2 ^ 62)<=j/\j<2 ^ 62/\R (Itr 0 j.toNat) H1
noncomputable def bn5(ta:TA):TI:=fun σ H R=>ta σ H fun vs H1=>∃i j:Int,vs=[.int i,.int j]/\(-(2 ^ 62)<=i/\i<2 ^ 62/\-(2 ^ 62)<=j/\j<2 ^ 62)/\R (Itr i (j-i).toNat) H1
theorem aF7{a:Expr}{ta:TA}{p pos:Pos}(hg:Gl X "range")(hm:X.mg "range"=none)(ha:PA X [a] ta)(hs:starEach [a] X.env=[(false,eval a X.env)]:=by rfl):PI X tg (.Call (.Name "range" p) [a] [] pos) (bn6 ta):=by
 intro pins s σ H R I h;refine Call_ (K5 I hg hm boot_range (PyProof.Rows.callWith_type1 (thn (ha pos pins s σ H _ I h) fun us s1 ⟨vs,H1,I1,r1,q1⟩=>?_) hs rfl));obtain⟨j,e,q1,q2,q⟩:=q1;subst e;cases r1 with
 |cons r rr =>
  cases rr;obtain⟨t,rfl⟩:=r;exact call_range_1 (ap0 I1 (by omega) (by omega) q1 q2 (by simpa using q))
theorem aF6{a b:Expr}{ta:TA}{p pos:Pos}(hg:Gl X "range")(hm:X.mg "range"=none)(ha:PA X [a,b] ta)(hs:starEach [a,b] X.env=[(false,eval a X.env),(false,eval b X.env)]:=by rfl)(hs2:starEach [b] X.env=[(false,eval b X.env)]:=by rfl) :
  PI X tg (.Call (.Name "range" p) [a,b] [] pos) (bn5 ta):=by
 intro pins s σ H R I h;refine Call_ (K5 I hg hm boot_range (PyProof.Rows.callWith_type1 (thn (ha pos pins s σ H _ I h) fun us s1 ⟨vs,H1,I1,r1,q1⟩=>?_) (by rw[hs,hs2]) (by rw[hs2];rfl)));obtain⟨i,j,e,⟨q1,q2,q3,q4⟩,q⟩:=q1;subst e;cases r1 with
 |cons r rr =>
  cases rr with
  |cons r' rr =>
   cases rr;obtain⟨t,rfl⟩:=r;obtain⟨t',rfl⟩:=r';exact call_range_2 (ap0 I1 q1 q2 q3 q4 q)
noncomputable def br5(wi:TI)(g:TG)(tb:TS):TS:=fun D σ H=>wi σ H fun J H1=>∃W:Nat->Nat->St->Hp->Prop,(∃m,W 0 m σ H1)/\∀i m σ H,W i m σ H ->
 (J.stop i H/\D.nx σ H)\/(J.go i H/\∃N:St->Hp->Prop,(∀σ' H',N σ' H'->∃m',m'<m/\W (i+1) m' σ' H')/\∀x H',J.yld i H x H'->g x σ H' fun σ2 H2=>tb { D with nx:=N,ct:=N,bk:=D.nx } σ2 H2)
noncomputable def V5(fp:List Addr)(h:Heap):List (Addr×Obj):=fp.filterMap fun b=>(h.get? b).map fun o=>(b,o)
theorem S7{fp:List Addr}{h:Heap}{b:Addr}{o:Obj}(hb:b∈fp)(e:h.get? b=some o):(b,o)∈V5 fp h:=List.mem_filterMap.mpr ⟨b,hb,by rw[e];rfl⟩
theorem aG8{fp:List Addr}{h:Heap}{p:Addr×Obj}(hp:p∈V5 fp h):p.1∈fp/\h.get? p.1=some p.2:=by
 obtain⟨b,hb,e⟩:=List.mem_filterMap.mp hp;cases q:h.get? b with
 |none=>rw[q] at e;cases e
 |some o =>
  rw[q] at e;have e':(b,o)=p:=Option.some.inj e;subst e';exact⟨hb,q⟩
theorem Inv.pinned{pins:List (Addr×Obj)}{σ:St}{H:Hp}{s:Shared}{fp:List Addr}(I:Inv X pins σ H s)(hf:∀b∈fp,F0 X pins H b)(ho:∀b∈fp,∃o,s.heap.get? b=some o/\∀v,o.data≠.cell v):Inv X (pins++V5 fp s.heap) σ H s :=
 I.Q4 fun p hp=>(List.mem_append.mp hp).elim (fun z=>I.pin p (List.mem_append_right _ z)) fun z=>by
  obtain⟨hb,e⟩:=aG8 z;obtain⟨f0,f1,f2,_⟩:=hf p.1 hb;obtain⟨o,e',d⟩:=ho p.1 hb;rw[e] at e';cases e';exact⟨e,f0,f1,f2,d⟩
theorem Inv.aa7{pins pl:List (Addr×Obj)}{σ:St}{H:Hp}{s:Shared}(I:Inv X (pins++pl) σ H s):Inv X pins σ H s:=I.Q4 fun p hp=>I.pin p (List.mem_append_right _ (List.mem_append_left _ hp))
theorem ba2{iter:Expr}{body:List Stmt}{wi:TI}{g:TG}{tb:TS}{pos:Pos}(hp:PassesOwn (model X.prog X.w) X.A X.env X.xe)(hc:X.calm=true)(hi:PI X tg iter wi)(hg:PG X tg g)(hb:PSs X body tb)(hs:∀x,foldedSetIterable iter X.env x=pure x:=by intro _;rfl):PS X (.For tg iter body [] pos) (br5 wi g tb):=by
 intro pins s σ H D I h;refine wpAny_For (thn (hi pins s σ H _ I h) fun v s1 h1=>thn h1 fun itv s2 h2=>?_) hs;obtain⟨it,fp,tn,J,H2,e,I2,T,st2,f2,W,⟨m0,w0⟩,turn⟩:=h2;subst e;have stat:∀{H':Hp},(∀b∈fp,H' b=none)->∀b∈fp,F0 X pins H' b:=fun hn b hb=>⟨hn b hb,(f2 b hb).2⟩
 refine codeAny_forLoop_any (fun n s'=>∃i σ' H',Inv X pins σ' H' s'/\tn i s'.heap/\(∀b∈fp,H' b=none)/\W i n σ' H') ?_ m0 ⟨0,σ,H2,I2,st2,fun b hb=>(f2 b hb).1,w0⟩;rintro n s3 ⟨i,σ3,H3,I3,st3,fr3,w3⟩;rcases turn i n σ3 H3 w3 with⟨stop,qn⟩|⟨go,N,hN,step⟩
 ·refine wpAny_passesOwn hp (thn (T.done X rfl rfl rfl hc i pins s3 σ3 H3 X.xe I3 (stat fr3) st3 stop) fun r s4 ⟨hr,I4⟩=>?_);subst hr;exact wpAny_execs_nil ⟨σ3,H3,I4,qn⟩
 ·refine wpAny_passesOwn hp (thn (T.item X rfl rfl rfl hc i pins s3 σ3 H3 X.xe I3 (stat fr3) st3 go) fun r s4 ⟨u,hr,h4⟩=>?_);subst hr;refine wpAny_passesOwn hp (thn h4 fun _ s5 ⟨x,H5,I5,r5,y5,st5,fr5⟩=>?_);have I5':=I5.pinned (stat fr5) (T.obj _ _ st5);refine wpAny_passesOwn hp (thn (hg _ s5 σ3 H5 x u _ I5' r5 (step x H5 y5)) fun _ s6 ⟨σ6,H6,I6,q6⟩=>?_);refine wpAny_passesOwn hp (thn (hb _ s6 σ6 H6 _ I6 q6) fun f s7 q7=>?_);have again:∀{σ7:St} {H7:Hp},Inv X (pins++V5 fp s5.heap) σ7 H7 s7->N σ7 H7->∃m,m<n/\∃i σ' H',Inv X pins σ' H' s7/\tn i s7.heap/\(∀b∈fp,H' b=none)/\W i m σ' H':=fun{σ7 H7} I7 n7=>by
   obtain⟨m',hm,w7⟩:=hN σ7 H7 n7;refine⟨m',hm,i+1,σ7,H7,I7.aa7,T.keep _ _ _ st5 fun b hb o e=>(I7.pin (b,o) (List.mem_append_right _ (List.mem_append_right _ (S7 hb e)))).1,fun b hb=>?_,w7⟩;obtain⟨o,e,d⟩:=T.obj _ _ st5 b hb;exact(I7.pin (b,o) (List.mem_append_right _ (List.mem_append_right _ (S7 hb e)))).2.1
  cases f with
  |next=>obtain⟨σ7,H7,I7,n7⟩:=q7;exact again I7 n7
  |cont=>obtain⟨σ7,H7,I7,n7⟩:=q7;exact again I7 n7
  |brk=>obtain⟨σ7,H7,I7,q7⟩:=q7;exact⟨σ7,H7,I7.aa7,q7⟩
  |ret v=>obtain⟨x7,σ7,H7,I7,r7,q7⟩:=q7;exact⟨x7,σ7,H7,I7.aa7,r7,q7⟩
end
end L2
namespace L2
open PySem PySem.Spec PyProof.Rows
noncomputable abbrev R2:=V->V->Hp->VK->Prop
noncomputable def OpR(X:Cx)(f:Value->Value->Sem Value)(r:R2):Prop :=
 ∀(pins:List (Addr×Obj)) (s:Shared) (σ:St) (H:Hp) (x y:V) (v u:Value) (Q:VK),Inv X pins σ H s->RelV x v->RelV y u->r x y H Q ->
  wpAny (model X.prog X.w) X.A (f v u) (EP X pins σ Q) X.xe s
noncomputable def UnR(X:Cx)(f:Value->Sem Value)(r:V->Hp->VK->Prop):Prop :=
 ∀(pins:List (Addr×Obj)) (s:Shared) (σ:St) (H:Hp) (x:V) (v:Value) (Q:VK),Inv X pins σ H s->RelV x v->r x H Q ->
  wpAny (model X.prog X.w) X.A (f v) (EP X pins σ Q) X.xe s
noncomputable def i8(X:Cx)(f:Value)(r:List V->Hp->VK->Prop):Prop :=
 ∀(pins:List (Addr×Obj)) (s:Shared) (σ:St) (H:Hp) (xs:List V) (us:List Value) (Q:VK),Inv X pins σ H s->Vals xs us->r xs H Q ->
  wpAny (model X.prog X.w) X.A (call f us) (EP X pins σ Q) X.xe s
noncomputable def bw8(X:Cx)(r:V->Hp->(Bool->Hp->Prop)->Prop):Prop :=
 ∀(pins:List (Addr×Obj)) (s:Shared) (σ:St) (H:Hp) (x:V) (v:Value) (Q:Bool->Hp->Prop),Inv X pins σ H s->RelV x v->r x H Q ->
  wpAny (model X.prog X.w) X.A (truthy v) (TP X pins σ Q) X.xe s
noncomputable def tOp(r:R2)(ta tb:TE):TE:=fun σ H Q=>ta σ H fun x H1=>tb σ H1 fun y H2=>r x y H2 Q
noncomputable def tUn(r:V->Hp->VK->Prop)(ta:TE):TE:=fun σ H Q=>ta σ H fun x H1=>r x H1 Q
noncomputable def rI(C:Int->Int->Prop)(g:Int->Int->V):R2:=fun x y H Q=>∃i j,x=.int i/\y=.int j/\C i j/\Q (g i j) H
noncomputable def rI0(g:Int->Int->V):R2:=fun x y H Q=>∃i j,x=.int i/\y=.int j/\Q (g i j) H
noncomputable def rU(g:Int->V):V->Hp->VK->Prop:=fun x H Q=>∃i,x=.int i/\Q (g i) H
section
variable{X:Cx}{a b c:Expr}{ta tb tc:TE}{pos:Pos}
theorem aS3(ha:PE X a ta)(hb:PE X b tb){pins:List (Addr×Obj)}{s:Shared}{σ:St}{H:Hp}{R:V->V->Hp->Prop}(I:Inv X pins σ H s)(h:ta σ H fun x H1=>tb σ H1 fun y H2=>R x y H2){Q:Value->Shared->Prop}{f:Value->Value->Sem Value}(hf:∀v u s2 x y H2,Inv X pins σ H2 s2->RelV x v->RelV y u->R x y H2->wpAny (model X.prog X.w) X.A (f v u) Q X.xe s2) :
  wpAny (model X.prog X.w) X.A (eval a X.env) (fun v s₁=>wpAny (model X.prog X.w) X.A (eval b X.env) (fun u s₂=>wpAny (model X.prog X.w) X.A (f v u) Q X.xe s₂) X.xe s₁) X.xe s:=by
 refine thn (ha pins s σ H _ I h) fun v s1 ⟨x,H1,I1,r1,q1⟩=>?_;refine thn (hb pins s1 σ H1 _ I1 q1) fun u s2 ⟨y,H2,I2,r2,q2⟩=>?_;exact hf v u s2 x y H2 I2 r1 r2 q2
theorem bl1{op:Operator}{r:R2}(ho:OpR X (binaryOp op) r)(ha:PE X a ta)(hb:PE X b tb):PE X (.BinOp a op b pos) (tOp r ta tb):=by
 intro pins s σ H Q I h;exact wpAny_BinOp (aS3 ha hb I h fun v u s2 x y H2 I2 rx ry q=>ho pins s2 σ H2 x y v u Q I2 rx ry q)
theorem bk9{op:UnaryOp}{r:V->Hp->VK->Prop}(ho:UnR X (unaryOp op) r)(ha:PE X a ta):PE X (.UnaryOp op a pos) (tUn r ta):=by
 intro pins s σ H Q I h;exact UnaryOp_ (thn (ha pins s σ H _ I h) fun v s1 ⟨x,H1,I1,r1,q1⟩=>ho pins s1 σ H1 x v Q I1 r1 q1)
theorem opI{f:Value->Value->Sem Value}{C:Int->Int->Prop}{g:Int->Int->Int}(rule:∀(i j:Int) (t u:Tok) (s:Shared) (Q:Value->Shared->Prop) (E:Value->Shared->Prop),C i j->Q (.int (g i j) s.toks) { s with toks:=s.toks+1 }->wpAny (model X.prog X.w) X.A (f (.int i t) (.int j u)) Q E s) :
  OpR X f (rI C fun i j=>.int (g i j)):=by
 intro pins s σ H x y v u Q I rx ry h;obtain⟨i,j,rfl,rfl,hc,q⟩:=h;obtain⟨t,rfl⟩:=rx;obtain⟨t',rfl⟩:=ry;exact rule i j t t' s _ _ hc ⟨.int (g i j),H,I.tok _,⟨_,rfl⟩,q⟩
theorem bc6{f:Value->Value->Sem Value}{g:Int->Int->Int}(rule:∀(i j:Int) (t u:Tok) (s:Shared) (Q:Value->Shared->Prop) (E:Value->Shared->Prop),Q (.int (g i j) s.toks) { s with toks:=s.toks+1 }->wpAny (model X.prog X.w) X.A (f (.int i t) (.int j u)) Q E s) :
  OpR X f (rI0 fun i j=>.int (g i j)):=by
 intro pins s σ H x y v u Q I rx ry h;obtain⟨i,j,rfl,rfl,q⟩:=h;obtain⟨t,rfl⟩:=rx;obtain⟨t',rfl⟩:=ry;exact rule i j t t' s _ _ ⟨.int (g i j),H,I.tok _,⟨_,rfl⟩,q⟩
theorem az5{f:Value->Value->Sem Value}{g:Int->Int->Bool}(rule:∀(i j:Int) (t u:Tok) (s:Shared) (Q:Value->Shared->Prop) (E:Value->Shared->Prop),Q (.bool (g i j)) s->wpAny (model X.prog X.w) X.A (f (.int i t) (.int j u)) Q E s) :
  OpR X f (rI0 fun i j=>.bl (g i j)):=by
 intro pins s σ H x y v u Q I rx ry h;obtain⟨i,j,rfl,rfl,q⟩:=h;obtain⟨t,rfl⟩:=rx;obtain⟨t',rfl⟩:=ry;exact rule i j t t' s _ _ ⟨.bl (g i j),H,I,rfl,q⟩
noncomputable def aT0(i j:Int):Prop:=0<j/\j<1073741824
noncomputable def ab8(i j:Int):Prop:=0<=j/\j<=1000000/\i.natAbs<2 ^ 64
noncomputable def U6(i j:Int):Prop:=(-(2 ^ 64)<i/\i<2 ^ 64)\/(-(2 ^ 64)<j/\j<2 ^ 64)
theorem U6.ok{i j:Int}(h:U6 i j):IntMulOk i j:=by
 rcases h with⟨h1,h2⟩|⟨h1,h2⟩
 ·exact .of_left (intBits_le_64 h1 h2)
 ·exact .of_right (intBits_le_64 h1 h2)
theorem bc5:OpR X (binaryOp .Add) (rI0 fun i j=>.int (i+j)):=bc6 fun _ _ _ _ _ _ _ q=>add_int q
theorem bb7:OpR X (binaryOp .Sub) (rI0 fun i j=>.int (i-j)):=bc6 fun _ _ _ _ _ _ _ q=>sub_int q
theorem bc0:OpR X (binaryOp .Mult) (rI U6 fun i j=>.int (i*j)):=opI fun _ _ _ _ _ _ _ hc q=>mul_int q hc.ok
theorem a09:OpR X (binaryOp .FloorDiv) (rI aT0 fun i j=>.int (i / j)):=opI fun i j _ _ _ _ _ hc q=>by
 have h1:(0:Int)<j:=hc.1;have h2:j<1073741824:=hc.2;exact floordiv_int (by omega) (by rw[Int.fdiv_eq_ediv_of_nonneg i (by omega)];exact q) (.inl (PyProof.noPylong_small (by omega)))
theorem bc1:OpR X (binaryOp .Mod) (rI (fun _ j=>0<j) fun i j=>.int (i % j)):=opI fun i j _ _ _ _ _ hc q=>by
 have h1:(0:Int)<j:=hc;exact mod_int' (by omega) (by rw[Int.fmod_eq_emod_of_nonneg i (by omega)];exact q)
theorem bb9:OpR X (binaryOp .Pow) (rI ab8 fun i j=>.int (i ^ j.toNat)):=opI fun _ _ _ _ _ _ _ hc q=>pow_int_small hc.1 hc.2.1 hc.2.2 q
theorem unI{f:Value->Sem Value}{g:Int->Int}(rule:∀(i:Int) (t:Tok) (s:Shared) (Q:Value->Shared->Prop) (E:Value->Shared->Prop),Q (.int (g i) s.toks) { s with toks:=s.toks+1 }->wpAny (model X.prog X.w) X.A (f (.int i t)) Q E s) :
  UnR X f (rU fun i=>.int (g i)):=by
 intro pins s σ H x v Q I rx h;obtain⟨i,rfl,q⟩:=h;obtain⟨t,rfl⟩:=rx;exact rule i t s _ _ ⟨.int (g i),H,I.tok _,⟨_,rfl⟩,q⟩
theorem a46:UnR X (unaryOp .USub) (rU fun i=>.int (-i)):=unI fun _ _ _ _ _ q=>neg_int q
end
noncomputable def a89:V->V->Bool
 |.non,.non=>true|.non,.int _=>true|.int _,.non=>true|.non,.bl _=>true|.bl _,.non=>true|.non,.str _=>true|.str _,.non=>true
 |.int _,.int _=>true|.bl _,.bl _=>true|.str _,.str _=>true|.byt _,.byt _=>true
 |.int _,.str _=>true|.str _,.int _=>true|.bl _,.str _=>true|.str _,.bl _=>true
 |_,_=>false
noncomputable def rEq:R2:=fun x y H Q=>a89 x y=true/\Q (.bl (decide (x=y))) H
noncomputable def rNe:R2:=fun x y H Q=>a89 x y=true/\Q (.bl (!decide (x=y))) H
theorem Y7{i j:Int}:decide (V.int i=V.int j)=(i==j):=by
 rw[Bool.eq_iff_iff];simp
theorem ae4{i j:Bool}:decide (V.bl i=V.bl j)=(i==j):=by
 rw[Bool.eq_iff_iff];simp
theorem Y6{i j:Str}:decide (V.str i=V.str j)=(i==j):=by
 rw[Bool.eq_iff_iff];simp
theorem ax1{i j:Array UInt8}:decide (V.byt i=V.byt j)=(i.toList==j.toList):=by
 rw[Bool.eq_iff_iff];cases i;cases j;simp
section
variable{X:Cx}{a b c:Expr}{ta tb tc:TE}{pos:Pos}
theorem i4{pins:List (Addr×Obj)}{σ:St}{H:Hp}{s:Shared}{Q:VK}{k k':Bool}(I:Inv X pins σ H s)(q:Q (.bl k) H)(e:k=k'):EP X pins σ Q (.bool k') s:=by
 subst e;exact⟨.bl k,H,I,rfl,q⟩
theorem az3:OpR X (compareOp .Eq) rEq:=by
 intro pins s σ H x y v u Q I rx ry h;obtain⟨hs,q⟩:=h;cases x with
 |non =>
  cases rx;cases y with
  |non=>cases ry;exact PySem.EqNone.eq_none_none (i4 I q (by simp))
  |bl j=>cases ry;exact PySem.EqNone.eq_none_bool (i4 I q (by simp))
  |int j=>obtain⟨t',rfl⟩:=ry;exact PySem.EqNone.eq_none_int (i4 I q (by simp))
  |str j=>obtain⟨t',rfl⟩:=ry;exact PySem.EqNone.eq_none_str (i4 I q (by simp))
  |_=>exact absurd (show false=true from hs) Bool.false_ne_true
 |bl i =>
  cases rx;cases y with
  |non=>cases ry;exact PySem.EqNone.eq_bool_none (i4 I q (by simp))
  |bl j=>cases ry;exact eq_bool (i4 I q ae4)
  |str j=>obtain⟨t',rfl⟩:=ry;exact PySem.EqMixed.eq_bool_str (i4 I q (by simp))
  |_=>exact absurd (show false=true from hs) Bool.false_ne_true
 |int i =>
  obtain⟨t,rfl⟩:=rx;cases y with
  |non=>cases ry;exact PySem.EqNone.eq_int_none (i4 I q (by simp))
  |int j=>obtain⟨t',rfl⟩:=ry;exact eq_int (i4 I q Y7)
  |str j=>obtain⟨t',rfl⟩:=ry;exact PySem.EqMixed.eq_int_str (i4 I q (by simp))
  |_=>exact absurd (show false=true from hs) Bool.false_ne_true
 |str i =>
  obtain⟨t,rfl⟩:=rx;cases y with
  |non=>cases ry;exact PySem.EqNone.eq_str_none (i4 I q (by simp))
  |bl j=>cases ry;exact PySem.EqMixed.eq_str_bool (i4 I q (by simp))
  |int j=>obtain⟨t',rfl⟩:=ry;exact PySem.EqMixed.eq_str_int (i4 I q (by simp))
  |str j=>obtain⟨t',rfl⟩:=ry;exact eq_str (i4 I q Y6)
  |_=>exact absurd (show false=true from hs) Bool.false_ne_true
 |byt i =>
  obtain⟨t,rfl⟩:=rx;cases y with
  |byt j=>obtain⟨t',rfl⟩:=ry;exact PySem.W.eq_bytes (i4 I q ax1)
  |_=>exact absurd (show false=true from hs) Bool.false_ne_true
 |_=>cases y<;>exact absurd (show false=true from hs) Bool.false_ne_true
theorem az2:OpR X (compareOp .NotEq) rNe:=by
 intro pins s σ H x y v u Q I rx ry h;obtain⟨hs,q⟩:=h;cases x with
 |non =>
  cases rx;cases y with
  |non=>cases ry;exact PySem.EqNone.ne_none_none (i4 I q (by simp))
  |bl j=>cases ry;exact PySem.EqNone.ne_none_bool (i4 I q (by simp))
  |int j=>obtain⟨t',rfl⟩:=ry;exact PySem.EqNone.ne_none_int (i4 I q (by simp))
  |str j=>obtain⟨t',rfl⟩:=ry;exact PySem.EqNone.ne_none_str (i4 I q (by simp))
  |_=>exact absurd (show false=true from hs) Bool.false_ne_true
 |bl i =>
  cases rx;cases y with
  |non=>cases ry;exact PySem.EqNone.ne_bool_none (i4 I q (by simp))
  |bl j=>cases ry;exact ne_bool (i4 I q (congrArg not ae4))
  |str j=>obtain⟨t',rfl⟩:=ry;exact PySem.EqMixed.ne_bool_str (i4 I q (by simp))
  |_=>exact absurd (show false=true from hs) Bool.false_ne_true
 |int i =>
  obtain⟨t,rfl⟩:=rx;cases y with
  |non=>cases ry;exact PySem.EqNone.ne_int_none (i4 I q (by simp))
  |int j=>obtain⟨t',rfl⟩:=ry;exact ne_int (i4 I q (congrArg not Y7))
  |str j=>obtain⟨t',rfl⟩:=ry;exact PySem.EqMixed.ne_int_str (i4 I q (by simp))
  |_=>exact absurd (show false=true from hs) Bool.false_ne_true
 |str i =>
  obtain⟨t,rfl⟩:=rx;cases y with
  |non=>cases ry;exact PySem.EqNone.ne_str_none (i4 I q (by simp))
  |bl j=>cases ry;exact PySem.EqMixed.ne_str_bool (i4 I q (by simp))
  |int j=>obtain⟨t',rfl⟩:=ry;exact PySem.EqMixed.ne_str_int (i4 I q (by simp))
  |str j=>obtain⟨t',rfl⟩:=ry;exact ne_str (i4 I q (congrArg not Y6))
  |_=>exact absurd (show false=true from hs) Bool.false_ne_true
 |byt i =>
  obtain⟨t,rfl⟩:=rx;cases y with
  |byt j=>obtain⟨t',rfl⟩:=ry;exact PySem.W.ne_bytes (i4 I q (congrArg not ax1))
  |_=>exact absurd (show false=true from hs) Bool.false_ne_true
 |_=>cases y<;>exact absurd (show false=true from hs) Bool.false_ne_true
theorem bl5:OpR X (compareOp .Lt) (rI0 fun i j=>.bl (decide (i<j))):=az5 fun _ _ _ _ _ _ _ q=>lt_int q
theorem bl6:OpR X (compareOp .LtE) (rI0 fun i j=>.bl (decide (i<=j))):=az5 fun _ _ _ _ _ _ _ q=>le_int q
theorem bl7:OpR X (compareOp .Gt) (rI0 fun i j=>.bl (decide (j<i))):=az5 fun _ _ _ _ _ _ _ q=>gt_int q
theorem bl8:OpR X (compareOp .GtE) (rI0 fun i j=>.bl (decide (j<=i))):=az5 fun _ _ _ _ _ _ _ q=>ge_int q
theorem bc2:OpR X (compareOp .Is) (fun x y H Q=>y=.non/\Q (.bl (decide (x=.non))) H):=by
 intro pins s σ H x y v u Q I rx ry h;obtain⟨rfl,q⟩:=h;cases ry;refine is_none_gen (i4 I q ?_);cases x<;>first
  |(cases rx;rfl)
  |(obtain⟨t,rfl⟩:=rx;rfl)
theorem a08:OpR X (compareOp .IsNot) (fun x y H Q=>y=.non/\Q (.bl (!decide (x=.non))) H):=by
 intro pins s σ H x y v u Q I rx ry h;obtain⟨rfl,q⟩:=h;cases ry;refine isnot_none_gen (i4 I q ?_);cases x<;>first
  |(cases rx;rfl)
  |(obtain⟨t,rfl⟩:=rx;rfl)
theorem OpR.or{f:Value->Value->Sem Value}{r r':R2}(h:OpR X f r)(h':OpR X f r'):OpR X f (fun x y H Q=>r x y H Q\/r' x y H Q):=by
 intro pins s σ H x y v u Q I rx ry q;rcases q with q|q
 ·exact h pins s σ H x y v u Q I rx ry q
 ·exact h' pins s σ H x y v u Q I rx ry q
theorem aw0{op:CmpOp}{r:R2}(ho:OpR X (compareOp op) r)(ha:PE X a ta)(hb:PE X b tb)(hm:behindInMarks op b=false):PE X (.Compare a [op] [b] pos) (tOp r ta tb):=by
 intro pins s σ H Q I h;exact wpAny_Compare1 (aS3 ha hb I h fun v u s2 x y H2 I2 rx ry q=>ho pins s2 σ H2 x y v u Q I2 rx ry q) hm
noncomputable def ay5(t:TE):TT:=fun σ H Q=>t σ H fun x H'=>∃k,x=.bl k/\Q k H'
theorem av6{op:CmpOp}{r:R2}(ho:OpR X (compareOp op) r)(ha:PE X a ta)(hb:PE X b tb)(hm:behindInMarks op b=false):PT X (.Compare a [op] [b] pos) (ay5 (tOp r ta tb)):=by
 intro pins s σ H Q I h;refine wpAny_isTrue_Compare1 (thn (ha pins s σ H _ I h) fun v s1 ⟨x,H1,I1,r1,q1⟩=>thn (hb pins s1 σ H1 _ I1 q1) fun u s2 ⟨y,H2,I2,r2,q2⟩ =>
  thn (ho pins s2 σ H2 x y v u _ I2 r1 r2 q2) fun c s3 ⟨z,H3,I3,r3,k,e,q3⟩=>?_) hm
 subst e;cases r3;exact wpAny_truthy_bool ⟨H3,I3,q3⟩
noncomputable def ao0(r r':R2)(ta tb tc:TE):TE:=fun σ H Q=>ta σ H fun x H1=>tb σ H1 fun y H2=>r x y H2 fun z H3=>∃k,z=.bl k /\
 (if k=true then tc σ H3 fun w' H4=>r' y w' H4 Q else Q (.bl false) H3)
theorem aP4{op op':CmpOp}{r r':R2}(ho:OpR X (compareOp op) r)(ho':OpR X (compareOp op') r')(ha:PE X a ta)(hb:PE X b tb)(hc:PE X c tc)(hm:lastMarks [op,op'] [b,c]=false:=by with_unfolding_all rfl):PE X (.Compare a [op,op'] [b,c] pos) (ao0 r r' ta tb tc):=by
 intro pins s σ H Q I h;refine Compare_chain (thn (ha pins s σ H _ I h) fun v s1 ⟨x,H1,I1,r1,q1⟩=>chain_link (thn (hb pins s1 σ H1 _ I1 q1) fun u s2 ⟨y,H2,I2,r2,q2⟩ =>
  thn (ho pins s2 σ H2 x y v u _ I2 r1 r2 q2) fun d s3 ⟨z,H3,I3,r3,k,e,q3⟩=>?_)) hm
 subst e;cases r3;refine wpAny_truthy_bool ?_;cases k with
 |false=>exact ite_ff ⟨.bl false,H3,I3,rfl,q3⟩
 |true=>exact ite_tt (chain_last (thn (hc pins s3 σ H3 _ I3 q3) fun w' s4 ⟨z',H4,I4,r4,q4⟩=>ho' pins s4 σ H4 y z' u w' Q I4 r2 r4 q4))
theorem aO0{op op':CmpOp}{r r':R2}(ho:OpR X (compareOp op) r)(ho':OpR X (compareOp op') r')(ha:PE X a ta)(hb:PE X b tb)(hc:PE X c tc)(hm:lastMarks [op,op'] [b,c]=false:=by with_unfolding_all rfl):PT X (.Compare a [op,op'] [b,c] pos) (ay5 (ao0 r r' ta tb tc)):=by
 intro pins s σ H Q I h;refine isTrue_chain (thn (ha pins s σ H _ I h) fun v s1 ⟨x,H1,I1,r1,q1⟩=>test_link (thn (hb pins s1 σ H1 _ I1 q1) fun u s2 ⟨y,H2,I2,r2,q2⟩ =>
  thn (ho pins s2 σ H2 x y v u _ I2 r1 r2 q2) fun d s3 ⟨z,H3,I3,r3,k,e,q3⟩=>?_)) hm
 subst e;cases r3;refine wpAny_truthy_bool ?_;cases k with
 |false =>
  obtain⟨k',e',q'⟩:=q3;cases e';exact ite_ff ⟨H3,I3,q'⟩
 |true =>
  refine ite_tt (test_last (thn (hc pins s3 σ H3 _ I3 q3) fun w' s4 ⟨z',H4,I4,r4,q4⟩=>thn (ho' pins s4 σ H4 y z' u w' _ I4 r2 r4 q4) fun d' s5 ⟨z2,H5,I5,r5,k2,e2,q5⟩=>?_));subst e2;cases r5;exact wpAny_truthy_bool ⟨H5,I5,q5⟩
noncomputable def aS6(K:PySem.W.Frag)(x:V)(H:Hp)(k:Bool):Prop :=
 match x with
 |.non=>k=false
 |.bl b=>k=b
 |.int i=>k=(i != 0)
 |.str y=>y.length<=sizeLine/\k=((y.length:Int) != 0)
 |.byt y=>y.size<=sizeLine/\k=((y.size:Int) != 0)
 |.ref p=>(∃xs,SqL K H p xs/\k=!xs.isEmpty)\/(∃xs,SqT K H p xs/\k=!xs.isEmpty)\/∃kvs,H p=some (.dK kvs)/\k=!kvs.isEmpty
 |_=>False
theorem aA7{κ:Type}{kvs:List (κ×V)}{vs:List (κ×Value)}(r:KV kvs vs):(!vs.isEmpty)=!kvs.isEmpty:=by
 cases r<;>rfl
theorem ad9{xs:List V}{its:List Value}(r:Vals xs its):(!its.toArray.isEmpty)=!xs.isEmpty:=by
 cases r<;>simp
theorem N6:(sizeLine:Nat)<2 ^ 63:=by rw[sizeLine_eq];decide
theorem a48:bw8 X (fun x H Q=>∃k,aS6 X.K x H k/\Q k H):=by
 intro pins s σ H x v Q I rx h;obtain⟨k,e,q⟩:=h;have hl:=N6;have hs:sizeLine=16777216:=sizeLine_eq;cases x with
 |non =>
  cases rx;have e':k=false:=e;subst e';exact truthy_none ⟨H,I,q⟩
 |bl b =>
  cases rx;have e':k=b:=e;subst e';exact wpAny_truthy_bool ⟨H,I,q⟩
 |int i =>
  obtain⟨t,rfl⟩:=rx;have e':k=(i != 0):=e;subst e';exact PySem.P.truthy_int ⟨H,I,q⟩
 |str y =>
  obtain⟨t,rfl⟩:=rx;obtain⟨hy,e'⟩:y.length<=sizeLine/\k=((y.length:Int) != 0):=e;subst e';exact PySem.P.truthy_str (by omega) ⟨H,I.tok _,q⟩
 |byt y =>
  obtain⟨t,rfl⟩:=rx;obtain⟨hy,e'⟩:y.size<=sizeLine/\k=((y.size:Int) != 0):=e;subst e';exact PySem.W.truthy_bytes (by omega) ⟨H,I.tok _,q⟩
 |ref p =>
  cases rx;have e':(∃xs,SqL X.K H p xs/\k=!xs.isEmpty)\/(∃xs,SqT X.K H p xs/\k=!xs.isEmpty)\/∃kvs,H p=some (.dK kvs)/\k=!kvs.isEmpty:=e;rcases e' with⟨xs,hx,e'⟩|⟨xs,hx,e'⟩|⟨kvs,hx,e'⟩
  ·subst e';obtain⟨its,r,pl,hz⟩:=I.list hx;have hlen:=r.length;exact wpAny_truthy_list pl.isList (by simp only[List.size_toArray];omega) ⟨H,I.tok _,by rw[ad9 r];exact q⟩
  ·subst e';obtain⟨its,r,pl,hz⟩:=I.tuple hx;have hlen:=r.length;exact truthy_tuple pl (by simp only[List.size_toArray];omega) ⟨H,I.tok _,by rw[ad9 r];exact q⟩
  ·subst e';obtain⟨hz,hS,vs,r,m⟩:kvs.length<=sizeLine/\(p==sysModules)=false/\∃vs,KV kvs vs/\s.heap.DictOf (j5 X.prog X.w) p vs:=I.hok p _ hx;have hlen:kvs.length=vs.length:=Paired.length r;exact wpAny_truthy_dict hS m (by omega) ⟨H,I.tok _,by rw[aA7 r];exact q⟩
 |_=>exact(show False from e).elim
theorem aN9(ha:PE X a ta)(he:∀whole,isTrue a X.env whole=(do let v <- whole;standAt a.pos;holding [v] (truthy v))) :
  PT X a (fun σ H Q=>ta σ H fun x H'=>∃k,aS6 X.K x H' k/\Q k H'):=by
 intro pins s σ H Q I h;exact isTrue_plain (thn (ha pins s σ H _ I h) fun v s1 ⟨x,H1,I1,r1,q1⟩=>a48 pins s1 σ H1 x v Q I1 r1 q1) (he _)
theorem az4:OpR X (binaryOp .Add) (fun x y H Q=>∃i j,x=.str i/\y=.str j/\i.length+j.length<=sizeLine/\Q (.str (i++j)) H):=by
 intro pins s σ H x y v u Q I rx ry h;obtain⟨i,j,rfl,rfl,hz,q⟩:=h;obtain⟨t,rfl⟩:=rx;obtain⟨t',rfl⟩:=ry;exact add_str (fun t' tk=>⟨.str (i++j),H,I.tok _,⟨_,rfl⟩,q⟩) hz
theorem vals1{x:V}{us:List Value}(r:Vals [x] us):∃u,us=[u]/\RelV x u:=by
 cases r with
 |cons r1 r2=>cases r2;exact⟨_,rfl,r1⟩
theorem vals2{x y:V}{us:List Value}(r:Vals [x,y] us):∃u w',us=[u,w']/\RelV x u/\RelV y w':=by
 cases r with
 |cons r1 r2 =>
  cases r2 with
  |cons r3 r4=>cases r4;exact⟨_,_,rfl,r1,r3⟩
theorem aK4(hc:X.calm=true):i8 X (.builtin "max") (fun xs H Q=>∃i j,xs=[.int i,.int j]/\Q (.int (if j>i then j else i)) H):=by
 intro pins s σ H xs us Q I r h;obtain⟨i,j,rfl,q⟩:=h;obtain⟨u,w',rfl,⟨t,rfl⟩,⟨t',rfl⟩⟩:=vals2 r;refine max_two_ints (I.ok.hd hc) fun h' tk k=>⟨_,H,I.kept k,?_,q⟩
 by_cases hj:j>i
 ·rw[if_pos hj,if_pos hj];exact⟨_,rfl⟩
 ·rw[if_neg hj,if_neg hj];exact⟨_,rfl⟩
theorem aK3(hc:X.calm=true):i8 X (.builtin "min") (fun xs H Q=>∃i j,xs=[.int i,.int j]/\Q (.int (if j<i then j else i)) H):=by
 intro pins s σ H xs us Q I r h;obtain⟨i,j,rfl,q⟩:=h;obtain⟨u,w',rfl,⟨t,rfl⟩,⟨t',rfl⟩⟩:=vals2 r;refine min_two_ints (I.ok.hd hc) fun h' tk k=>⟨_,H,I.kept k,?_,q⟩
 by_cases hj:j<i
 ·rw[if_pos hj,if_pos hj];exact⟨_,rfl⟩
 ·rw[if_neg hj,if_neg hj];exact⟨_,rfl⟩
theorem ak4:i8 X (.type "int") (fun xs H Q=>(∃i,xs=[.int i]/\Q (.int i) H)\/∃k,xs=[.bl k]/\Q (.int (if k then 1 else 0)) H):=by
 intro pins s σ H xs us Q I r h;rcases h with⟨i,rfl,q⟩|⟨k,rfl,q⟩
 ·obtain⟨u,rfl,t,rfl⟩:=vals1 r;exact call_int_int ⟨.int i,H,I,⟨_,rfl⟩,q⟩
 ·obtain⟨u,rfl,r1⟩:=vals1 r;cases r1;exact call_int_bool ⟨.int (if k then 1 else 0),H,I.tok _,⟨_,rfl⟩,q⟩
theorem as4:i8 X (.type "str") (fun xs H Q=>∃i,xs=[.int i]/\i.natAbs.log2<1920/\Q (.str (toString i)) H):=by
 intro pins s σ H xs us Q I r h;obtain⟨i,rfl,hz,q⟩:=h;obtain⟨u,rfl,t,rfl⟩:=vals1 r;exact PySem.P.str_of_int hz ⟨.str _,H,I.tok _,⟨_,rfl⟩,q⟩
end
end L2
namespace L2
open PySem PySem.Spec PyProof.Rows
structure ab7(h:Heap)(x dx C:Addr)(mA:Str->Option Value):Prop where
 obj:h.get? x=some (PySem.W.instObj C dx)
 ns:h.Ns1 dx mA
 ne:dx≠x
theorem aj3{h:Heap}{dx:Addr}{mA:Str->Option Value}(n:h.Ns1 dx mA):∃od,h.get? dx=some od/\∀name,PySem.W.lookIn name od=some (mA name):=by
 obtain⟨o,es,ep,ho,hd,hk,_,hm⟩:=n;refine⟨o,ho,fun name=>?_⟩;have e:=hm name;unfold nsFind findBy at e;rw[<- Array.find?_toList] at e;unfold PySem.W.lookIn;rw[hd];dsimp only;split
 ·rename_i y q;rw[q] at e;exact congrArg some e
 ·rename_i q;rw[q] at e;have a:es.toList.any (·.refKey)=false:=by
   rw[List.any_eq_false];intro y hy;obtain⟨z,t,hkey⟩:=hk y (Array.mem_toList_iff.mp hy);simp[DictEntry.refKey,hkey]
  have a':¬es.toList.any (·.refKey)=true:=by rw[a];exact Bool.false_ne_true
  rw[if_neg a'];exact congrArg some e
theorem ab7.look{h:Heap}{x dx C:Addr}{mA:Str->Option Value}(I:ab7 h x dx C mA):∃od,PySem.W.InstAt h x (PySem.W.instObj C dx) C (some od)/\∀name,PySem.W.lookIn name od=some (mA name) :=
 let ⟨od,ho,hl⟩:=aj3 I.ns
 ⟨od,⟨I.obj,rfl,rfl,ho⟩,hl⟩
section
variable{prog:Program}{w:World}{A:Around}{E:Value->Shared->Prop}{s:Shared}{K:PySem.W.Frag}{x dx C f:Addr}{mA:Str->Option Value}{name:Str}{v:Value}
theorem get_map{expr:Bool}{Q:Value->Shared->Prop}(X:K.In s.heap)(I:ab7 s.heap x dx C mA)(hg:PySem.W.plainGet K C name=true)(hh:PySem.W.hasDictIn K C=true)(ha:PySem.W.findIn K (.ref C) name=some none)(hv:mA name=some v)(hv':PySem.W.handedIn v=true)(h:Q v { s with toks:=s.toks+1 }) :
  wpAny (model prog w) A (getAttr (.ref x) name expr) Q E s:=by
 obtain⟨od,J,hl⟩:=I.look;exact PySem.W.get_value X J (PySem.W.plainGet_of hg).1 (PySem.W.findObj_own hh ha rfl (by rw[hl,hv])) hv' h
theorem aR1{pl:Sem Bool}{Q:Value×List Value->Shared->Prop}(X:K.In s.heap)(I:ab7 s.heap x dx C mA)(hg:PySem.W.plainGet K C name=true)(hf:PySem.W.findIn K (.ref C) name=some (some (.ref f)))(ht:PySem.W.isFn K (.ref f)=true)(hv:mA name=none)(h:Q (.ref f,[.ref x]) s) :
  wpAny (model prog w) A (getMethod (.ref x) name pl) Q E s:=by
 obtain⟨od,J,hl⟩:=I.look;exact PySem.W.method_fn X J (PySem.W.plainGet_of hg).1 (PySem.W.plainGet_of hg).2 hf (beq_iff_eq.mp ht) (by show(PySem.W.lookIn name od).map (·.isSome)=some false;rw[hl,hv];rfl) h
theorem aX7{ns:List Str}{Q:Unit->Shared->Prop}(X:K.In s.heap)(I:ab7 s.heap x dx C mA)(hs:PySem.W.findIn K (.ref C) "__setattr__"=some (some (.builtin "object.__setattr__")))(hp:PySem.W.plainOver K C=true)(ht:PySem.W.takerIn K C name=some none)(hh:PySem.W.hasDictIn K C=true)(hw:PySem.Within mA ns)(hsz:ns.length<=sizeLine)(h:∀h',ab7 h' x dx C (fun y=>if y=name then some v else mA y)->Heap.SameBut dx s.heap h'->Q () { s with heap:=h',toks:=s.toks+2 }) :
  wpAny (model prog w) A (setAttr (.ref x) name v) Q E s:=by
 obtain⟨od,J,hl⟩:=I.look;refine PySem.W.set_plain X J hs (PySem.W.osa_open (s:={ s with toks:=s.toks+1 }) (r:=none) X J hp ht fun b=>?_);obtain⟨cd,hc,hd'⟩:=PySem.W.any_some hh;have hx:s.heap.get? x=some ⟨.ref C,some dx,.plain,#[]⟩:=I.obj;refine wpAny_bind (wpAny_pure (wpAny_bind (wpAny_bind (wpAny_loadPart hx (wpAny_bind (PySem.W.Looks.here (s:={ s with toks:=s.toks+1 }) (PySem.W.looks_clsIn X hc) ?_))))));rw[hd'];refine wpAny_pure (a:=some dx) (wpAny_bind (wpAny_pure (wpAny_bind ?_)));refine wpAny_nsSet1 (s:={ s with toks:=s.toks+1 }) I.ns fun h' hn2 hs2=>?_;obtain⟨oD,esD,epD,hoD,hdD,hcD⟩:=hn2.count (PySem.Within.cons name v hw);refine wpAny_bind (wpAny_lookBehind hoD (by rw[hdD];exact pastItsLine_dict (Nat.le_trans hcD (by rw[List.length_cons];omega))) ?_);exact wpAny_pure (h _ ⟨(hs2.2 _ (Ne.symm I.ne)).trans I.obj,hn2,I.ne⟩ hs2)
theorem aQ3{R:Result->Shared->Prop}{vs:List Value}{kw:List (Str×Value)}(X:K.In s.heap)(hm:PySem.W.makesIn K C=true)(hi:PySem.W.findIn K (.ref C) "__init__"=some (some (.ref f)))(hf:PySem.W.typeIn K (.ref f)=some (.type "function"))(h:codeAny (model prog w) (A.under (.builtin "type.__call__" ⟨.ref C :: vs,kw⟩)) (.call (.ref f) ⟨.ref (s.heap.objs.size + 1) :: vs,kw⟩) (PySem.W.InitBack (s.heap.objs.size + 1) R)
   { s with heap:=(s.heap.push PySem.W.emptyDict).push (PySem.W.instObj C s.heap.objs.size) }) :
  codeAny (model prog w) A (.call (.ref C) ⟨vs,kw⟩) R s:=by
 obtain⟨hh,g,d,t,os⟩:=s;exact PySem.W.make_core (PySem.W.makes_of X hm) (PySem.W.looks_findIn X hi) (fun self=>PySem.W.bind_fn X self hf) (.inl rfl) h
end
noncomputable def p0(f:Str)(v:V):List (Str×V)->List (Str×V)
 |[]=>[(f,v)]
 |(g,x)::r=>if g=f then(g,v)::r else(g,x)::p0 f v r
theorem Z9(f g:Str)(v:V):∀fs:List (Str×V),(p0 f v fs).lookup g=if g=f then some v else fs.lookup g
 |[]=>by
  show List.lookup g [(f,v)]=_;by_cases h:g=f
  ·have hb:(g==f)=true:=beq_iff_eq.mpr h;simp only[List.lookup,hb,if_pos h]
  ·have hb:(g==f)=false:=beq_eq_false_iff_ne.mpr h;simp only[List.lookup,hb,if_neg h]
 |(k,x)::r=>by
  have ih:=Z9 f g v r;rw[show p0 f v ((k,x)::r)=(if k=f then(k,v)::r else(k,x)::p0 f v r) from rfl];by_cases hk:k=f
  ·rw[if_pos hk];by_cases h:g=k
   ·have hb:(g==k)=true:=beq_iff_eq.mpr h;simp only[List.lookup,hb,if_pos (h.trans hk)]
   ·have hb:(g==k)=false:=beq_eq_false_iff_ne.mpr h;simp only[List.lookup,hb,if_neg (fun e:g=f=>h (e.trans hk.symm))]
  ·rw[if_neg hk];by_cases h:g=k
   ·have hb:(g==k)=true:=beq_iff_eq.mpr h;simp only[List.lookup,hb,if_neg (fun e:g=f=>hk (h.symm.trans e))]
   ·have hb:(g==k)=false:=beq_eq_false_iff_ne.mpr h;simp only[List.lookup,hb];exact ih
theorem W6(f:Str)(v:V):∀fs:List (Str×V),f∈(p0 f v fs).map (·.1)/\∀g,g∈fs.map (·.1)->g∈(p0 f v fs).map (·.1)
 |[]=>⟨by simp[p0],fun g h=>by simp at h⟩
 |(k,x)::r=>by
  obtain⟨i1,i2⟩:=W6 f v r;rw[show p0 f v ((k,x)::r)=(if k=f then(k,v)::r else(k,x)::p0 f v r) from rfl];by_cases hk:k=f
  ·rw[if_pos hk];subst hk;exact⟨by simp,fun g h=>by simpa using h⟩
  ·rw[if_neg hk];refine⟨?_,fun g h=>?_⟩
   ·rw[List.map_cons];exact List.mem_cons_of_mem _ i1
   ·rw[List.map_cons] at h ⊢;rcases List.mem_cons.mp h with e|e
    ·exact List.mem_cons.mpr (.inl e)
    ·exact List.mem_cons_of_mem _ (i2 g e)
theorem aa0(f:Str)(v:V):∀fs:List (Str×V),(p0 f v fs).length<=fs.length+1
 |[]=>by simp[p0]
 |(k,x)::r=>by
  have ih:=aa0 f v r;rw[show p0 f v ((k,x)::r)=(if k=f then(k,v)::r else(k,x)::p0 f v r) from rfl];by_cases hk:k=f
  ·rw[if_pos hk,List.length_cons,List.length_cons];omega
  ·rw[if_neg hk,List.length_cons,List.length_cons];omega
theorem v5.some_of{v:V}{o:Option Value}(r:v5 (some v) o):∃u,o=some u/\RelV v u:=by
 cases o with
 |none=>exact(show False from r).elim
 |some u=>exact⟨u,rfl,r⟩
theorem v5.none_of{o:Option Value}(r:v5 none o):o=none:=by
 cases o with
 |none=>rfl
 |some u=>exact(show False from r).elim
theorem aI7{v:V}{u:Value}(r:RelV v u):PySem.W.handedIn u=true:=by
 cases v with
 |non=>cases (show u=Value.none from r);rfl
 |bl b=>cases (show u=Value.bool b from r);rfl
 |int i=>obtain⟨t,e⟩:=(show ∃t,u=Value.int i t from r);cases e;rfl
 |str x=>obtain⟨t,e⟩:=(show ∃t,u=Value.str x t from r);cases e;rfl
 |byt b=>obtain⟨t,e⟩:=(show ∃t,u=Value.bytes b t from r);cases e;rfl
 |flt b=>obtain⟨t,e⟩:=(show ∃t,u=Value.float b t from r);cases e;rfl
 |ref a=>cases (show u=Value.ref a from r);rfl
 |ty n=>cases (show u=Value.type n from r);rfl
section
variable{P:Program}{w:World}{H H':Hp}{h h':Heap}{a C dx:Addr}{fs fs':List (Str×V)}
theorem Y3(hok:HOk P w H h)(e:H a=some (.ins C dx fs)):∃mA,ab7 h a dx C mA/\(∀f,v5 (fs.lookup f) (mA f))/\PySem.Within mA (fs.map (·.1))/\fs.length<=1000/\H dx=some (.own a):=by
 obtain⟨d,z,ne,ob,mA,n,r,q⟩:=(show j4 P w H h a (.ins C dx fs) from hok a _ e)
 exact⟨mA,⟨ob,n,ne⟩,r,q,z,d⟩
end
structure Cls(K:PySem.W.Frag)(C:Addr):Prop where
 pg:PySem.W.plainGet K C Str.empty=true
 hd:PySem.W.hasDictIn K C=true
 po:PySem.W.plainOver K C=true
 sa:PySem.W.findIn K (.ref C) "__setattr__"=some (some (.builtin "object.__setattr__"))
theorem Cls.get{K:PySem.W.Frag}{C:Addr}(c:Cls K C)(f:Str):PySem.W.plainGet K C f=true:=c.pg
noncomputable def p9(K:PySem.W.Frag)(C:Addr)(f:Str):Prop:=PySem.W.findIn K (.ref C) f=some none
theorem p9.bi2{K:PySem.W.Frag}{C:Addr}{f:Str}(n:p9 K C f):PySem.W.takerIn K C f=some none:=by
 unfold PySem.W.takerIn;rw[show PySem.W.findIn K (.ref C) f=some none from n]
 rfl
structure Con(K:PySem.W.Frag)(C:Addr)(f:Str)(v:V)(u:Value):Prop where
 at_:PySem.W.findIn K (.ref C) f=some (some u)
 rel:RelV v u
 get:PySem.W.specialIn K u "__get__"=some none
 cp:PySem.W.copiedNames.contains f=false
structure Meth(K:PySem.W.Frag)(C:Addr)(m:Str)(f:Addr):Prop where
 at_:PySem.W.findIn K (.ref C) m=some (some (.ref f))
 fn:PySem.W.isFn K (.ref f)=true
 kp:PySem.W.keepIn K (.ref f)=true
section
variable{X:Cx}{pins:List (Addr×Obj)}{σ:St}{H:Hp}{s:Shared}{a C dx:Addr}{fs:List (Str×V)}{f:Str}{v:V}{A:Around}{E:Value->Shared->Prop}
theorem ae2{b:Bool}{Q:Value->Shared->Prop}(I:Inv X pins σ H s)(e:H a=some (.ins C dx fs))(c:Cls X.K C)(n:p9 X.K C f)(l:fs.lookup f=some v)(h:∀u s',Inv X pins σ H s'->RelV v u->Q u s'):wpAny (model X.prog X.w) A (getAttr (.ref a) f b) Q E s:=by
 obtain⟨mA,O,r,_,_,_⟩:=Y3 I.hok e;obtain⟨u,hu,ru⟩:=v5.some_of (v:=v) (o:=mA f) (by rw[<- l];exact r f);exact get_map I.kIn O (c.get f) c.hd n hu (aI7 ru) (h u _ (I.tok _) ru)
theorem ae1{m:Str}{g:Addr}{pl:Sem Bool}{Q:Value×List Value->Shared->Prop}(I:Inv X pins σ H s)(e:H a=some (.ins C dx fs))(c:Cls X.K C)(k:Meth X.K C m g)(l:fs.lookup m=none)(h:Q (.ref g,[.ref a]) s):wpAny (model X.prog X.w) A (getMethod (.ref a) m pl) Q E s:=by
 obtain⟨mA,O,r,_,_,_⟩:=Y3 I.hok e;have hn:mA m=none:=v5.none_of (by rw[<- l];exact r m);exact aR1 I.kIn O (c.get m) k.at_ k.fn hn h
theorem ad0{y:V}{u:Value}{Q:Unit->Shared->Prop}(I:Inv X pins σ H s)(e:H a=some (.ins C dx fs))(c:Cls X.K C)(n:p9 X.K C f)(hl:fs.length<1000)(ry:RelV y u)(h:∀s',Inv X pins σ (upd H a (.ins C dx (p0 f y fs))) s'->Q () s'):wpAny (model X.prog X.w) A (setAttr (.ref a) f u) Q E s:=by
 obtain⟨mA,O,r,wi,_,ho⟩:=Y3 I.hok e;have hz:(fs.map (·.1)).length<=sizeLine:=by rw[List.length_map,sizeLine_eq];omega
 refine aX7 I.kIn O c.sa c.po n.bi2 c.hd wi hz fun h' O' sb=>h _ ?_;have hd:∃o,h'.get? dx=some o:=let ⟨o,_,_,e',_⟩:=O'.ns;⟨o,e'⟩
 refine I.write (x:=a) (e:=dx) (by rw[e];exact True.intro) (.inr ho) (fun b q hb z=>(sb.2 b hb).trans z) hd ?_;refine⟨by rw[f6 O.ne];exact ho,?_,O.ne,O'.obj,_,O'.ns,fun g=>?_,fun g hg=>?_⟩
 ·have:=aa0 f y fs;omega
 ·show v5 ((p0 f y fs).lookup g) (if g=f then some u else mA g);rw[Z9];by_cases q:g=f
  ·rw[if_pos q,if_pos q];exact ry
  ·rw[if_neg q,if_neg q];exact r g
 ·by_cases q:g=f
  ·rw[q];exact(W6 f y fs).1
  ·refine(W6 f y fs).2 g (wi g fun z=>hg ?_);show(if g=f then some u else mA g)=none;rw[if_neg q];exact z
theorem Inv.made(I:Inv X pins σ H s):Inv X pins σ (upd (upd H s.heap.objs.size (.own (s.heap.objs.size+1))) (s.heap.objs.size+1) (.ins C s.heap.objs.size []))
  { s with heap:=(s.heap.push PySem.W.emptyDict).push (PySem.W.instObj C s.heap.objs.size) }:=by
 have e1:(s.heap.push PySem.W.emptyDict).get? s.heap.objs.size=some PySem.W.emptyDict:=Heap.get?_push_size s.heap rfl;have e2:((s.heap.push PySem.W.emptyDict).push (PySem.W.instObj C s.heap.objs.size)).get? (s.heap.objs.size+1)=some (PySem.W.instObj C s.heap.objs.size):=by
  have:=Heap.get?_push_size (s.heap.push PySem.W.emptyDict) (o:=PySem.W.instObj C s.heap.objs.size) rfl
  rwa [Heap.size_push] at this
 have e3:(s.heap.push PySem.W.emptyDict).Ns s.heap.objs.size (fun _=>none):=⟨PySem.W.emptyDict,#[],_,e1,rfl,(fun e he=>absurd he (by simp)),fun _=>rfl⟩
 have I1:=I.laid (a:=s.heap.objs.size) (o:=.own (s.heap.objs.size+1)) (h':=s.heap.push PySem.W.emptyDict) (t':=s.toks) (fun b u q=>Heap.get?_push_of_some _ q) (Nat.le_refl _) ⟨_,e1⟩;refine I1.laid (a:=s.heap.objs.size+1) (o:=.ins C s.heap.objs.size []) (t':=s.toks) (fun b u q=>Heap.get?_push_of_some _ q) (Nat.le_of_eq (Heap.size_push _ _)) ?_;have ne:s.heap.objs.size≠s.heap.objs.size+1:=Nat.ne_of_lt (Nat.lt_succ_self _);refine⟨by rw[f6 ne,p8],Nat.zero_le _,ne,e2,fun _=>none,(Heap.Ns1.of_empty e3).at fun o q=>Heap.get?_push_of_some _ q,fun _=>True.intro,fun y hy=>absurd rfl hy⟩
theorem a34{prog:Program}{w:World}{env:Env}{e:Expr}{f:Str}{pos:Pos}{s:Shared}{Q:Value->Shared->Prop}(hb:attributeBase e f env (eval e env)=eval e env)(h:wpAny (model prog w) A (eval e env) (fun o s₁=>wpAny (model prog w) A (getAttr o f true) Q E s₁) E s):wpAny (model prog w) A (eval (.Attribute e f pos) env) Q E s :=
 Attribute_any_ h (by rw[arm_eval_Attribute,hb])
end
noncomputable def br6(K:PySem.W.Frag)(ta:TE)(f:Str):TE:=fun σ H Q=>ta σ H fun x H1=>∃a C dx fs v,x=.ref a/\H1 a=some (.ins C dx fs)/\Cls K C/\p9 K C f/\fs.lookup f=some v/\Q v H1
noncomputable def bs3(K:PySem.W.Frag)(ta tv:TE)(f:Str):TS:=fun D σ H=>tv σ H fun y H1=>ta σ H1 fun x H2=>∃a C dx fs,x=.ref a/\H2 a=some (.ins C dx fs)/\Cls K C/\p9 K C f/\fs.length<1000 /\
 D.nx σ (upd H2 a (.ins C dx (p0 f y fs)))
noncomputable def aS9(X:Cx)(op:Operator)(rd:V->V->Hp->VK->Prop):Prop :=
 ∀(pins:List (Addr×Obj)) (s:Shared) (σ:St) (H:Hp) (x y:V) (u v:Value) (Q:VK),Inv X pins σ H s->RelV x u->RelV y v->rd x y H Q->wpAny (model X.prog X.w) X.A (inplaceOp op u v) (EP X pins σ Q) X.xe s
noncomputable def aY3(K:PySem.W.Frag)(ta tv:TE)(rd:V->V->Hp->VK->Prop)(f:Str):TS:=fun D σ H=>ta σ H fun x H1=>∃a C dx fs v,x=.ref a/\H1 a=some (.ins C dx fs)/\Cls K C/\p9 K C f/\fs.lookup f=some v /\
 tv σ H1 fun y H2=>rd v y H2 fun z H3=>∃dx' fs',H3 a=some (.ins C dx' fs')/\fs'.length<1000/\D.nx σ (upd H3 a (.ins C dx' (p0 f z fs')))
section
variable{X:Cx}{o e value:Expr}{f:Str}{pos pos' tpos:Pos}{ta tv:TE}
theorem bb4(he:PE X e ta)(hb:attributeBase e f X.env (eval e X.env)=eval e X.env):PE X (.Attribute e f pos) (br6 X.K ta f):=by
 intro pins s σ H Q I h;refine a34 hb (thn (he pins s σ H _ I h) fun u s1 ⟨x,H1,I1,rx,a,C,dx,fs,v,ex,ea,c,n,l,q⟩=>?_);subst ex;obtain rfl:u=Value.ref a:=rx;exact ae2 I1 ea c n l fun u' s2 I2 ru=>⟨v,H1,I2,ru,q⟩
theorem ba3(ha:PE X o ta)(hv:PE X value tv)(hs:swapsWith value (some (.Attribute o f pos')) pos.line X.env=pure false):PS X (.Assign [.Attribute o f pos'] value pos) (bs3 X.K ta tv f):=by
 intro pins s σ H D I h;refine plainObj_wpAny_Assign_Attribute (thn (hv pins s σ H _ I h) fun u s1 ⟨y,H1,I1,ry,q⟩=>thn (ha pins s1 σ H1 _ I1 q) fun ov s2 ⟨x,H2,I2,rx,a,C,dx,fs,ex,ea,c,n,l,q2⟩=>?_) hs;subst ex;obtain rfl:ov=Value.ref a:=rx;exact ad0 I2 ea c n l ry fun s3 I3=>⟨σ,_,I3,q2⟩
theorem aF2{op:Operator}{rd:V->V->Hp->VK->Prop}(ha:PE X o ta)(hv:PE X value tv)(hop:aS9 X op rd):PS X (.AugAssign (.Attribute o f tpos) op value pos) (aY3 X.K ta tv rd f):=by
 intro pins s σ H D I h;refine wpAny_AugAssign_AttributeAny (thn (ha pins s σ H _ I h) fun ov s1 ⟨x,H1,I1,rx,a,C,dx,fs,v,ex,ea,c,n,l,q⟩=>?_);subst ex;obtain rfl:ov=Value.ref a:=rx;refine ae2 I1 ea c n l fun u s2 I2 ru=>thn (hv pins s2 σ H1 _ I2 q) fun w3 s3 ⟨y,H2,I3,ry,q3⟩=>thn (hop pins s3 σ H2 v y u w3 _ I3 ru ry q3) fun w4 s4 ⟨z,H3,I4,rz,dx',fs',ea',l',q4⟩=>?_;exact ad0 I4 ea' c n l' rz fun s5 I5=>⟨σ,_,I5,q4⟩
noncomputable def bt4:V->V->Hp->VK->Prop:=fun x y H Q=>∃i j,x=.int i/\y=.int j/\Q (.int (i+j)) H
theorem be9:aS9 X .Add bt4:=by
 rintro pins s σ H x y u v Q I rx ry ⟨i,j,rfl,rfl,q⟩;obtain⟨t,rfl⟩:=(show ∃t,u=Value.int i t from rx)
 obtain⟨t',rfl⟩:=(show ∃t',v=Value.int j t' from ry)
 exact PyProof.Rows.iadd_int ⟨.int (i+j),H,I.tok _,⟨_,rfl⟩,q⟩
end
section
variable{X:Cx}{pins:List (Addr×Obj)}{σ:St}{H:Hp}{s:Shared}{A:Around}{E:Value->Shared->Prop}{Q:Value->Shared->Prop}{c:Value}{b:Bool}
inductive TyOf(K:PySem.W.Frag)(H:Hp):V->Value->Prop where
 |non:TyOf K H .non (.type "NoneType")
 |bl (x:Bool):TyOf K H (.bl x) (.type "bool")
 |int (i:Int):TyOf K H (.int i) (.type "int")
 |str (x:Str):TyOf K H (.str x) (.type "str")
 |flt (x:UInt64):TyOf K H (.flt x) (.type "float")
 |lst {a:Addr} {xs:List V} (e:H a=some (.lst xs)):TyOf K H (.ref a) (.type "list")
 |frz {a:Addr} {o:Obj} {xs:List V} (e:H a=some (.frz o (.lst xs))):TyOf K H (.ref a) (.type "list")
 |tup {a:Addr} {xs:List V} (e:H a=some (.tup xs)):TyOf K H (.ref a) (.type "tuple")
 |dK {a:Addr} {kvs:List (Key×V)} (e:H a=some (.dK kvs)):TyOf K H (.ref a) (.type "dict")
 |dT {a:Addr} {kvs:List (List Key×V)} (e:H a=some (.dT kvs)):TyOf K H (.ref a) (.type "dict")
 |ins {a C dx:Addr} {fs:List (Str×V)} (e:H a=some (.ins C dx fs)) (cl:Cls K C) (ha:PySem.W.findIn K (.ref C) "__class__"=some (some (.builtin "object.__class__")))
   (hn:PySem.W.specialIn K (.builtin "object.__class__") "__get__"=some (some (.builtin "getset_descriptor.__get__"))) (htk:PySem.W.takesIn K (.builtin "object.__class__")=some true)
   (hm:PySem.W.mroIn K C (.type "object")=some true):TyOf K H (.ref a) (.ref C)
theorem aI4{x:V}{u t:Value}(I:Inv X pins σ H s)(rx:RelV x u)(ty:TyOf X.K H x t)(e:PySem.W.kitOne X.K t c=some b)(h:∀tk,Q (.bool b) { s with toks:=tk }) :
  wpAny (model X.prog X.w) A (call (.builtin "isinstance") [u,c]) Q E s:=by
 cases ty with
 |non=>cases (show u=Value.none from rx);exact PySem.W.kia_one PySem.W.kitx_none I.kIn True.intro e (fun z=>nomatch z) h
 |bl y=>cases (show u=Value.bool y from rx);exact PySem.W.kia_one PySem.W.kitx_bool I.kIn True.intro e (fun z=>nomatch z) h
 |int i=>obtain⟨t,q⟩:=(show ∃t,u=Value.int i t from rx);cases q;exact PySem.W.kia_one PySem.W.kitx_int I.kIn True.intro e (fun z=>nomatch z) h
 |str y=>obtain⟨t,q⟩:=(show ∃t,u=Value.str y t from rx);cases q;exact PySem.W.kia_one PySem.W.kitx_str I.kIn True.intro e (fun z=>nomatch z) h
 |flt y=>obtain⟨t,q⟩:=(show ∃t,u=Value.float y t from rx);cases q;exact PySem.W.kia_one PySem.W.kitx_float I.kIn True.intro e (fun z=>nomatch z) h
 |@lst a xs ea =>
  cases (show u=Value.ref a from rx);obtain⟨_,_,n,_,h1⟩:=(show j4 X.prog X.w H s.heap a (.lst xs) from I.hok a _ ea)
  exact PySem.W.kia_one PySem.W.kitx_list I.kIn ⟨_,h1,rfl⟩ e (fun z=>nomatch z) h
 |@frz a ob xs ea =>
  cases (show u=Value.ref a from rx);obtain⟨_,_,_,n,_,h1⟩:=(show j4 X.prog X.w H s.heap a (.frz ob (.lst xs)) from I.hok a _ ea)
  exact PySem.W.kia_one PySem.W.kitx_list I.kIn ⟨_,h1,rfl⟩ e (fun z=>nomatch z) h
 |@tup a xs ea =>
  cases (show u=Value.ref a from rx);obtain⟨_,_,_,p⟩:=(show j4 X.prog X.w H s.heap a (.tup xs) from I.hok a _ ea)
  obtain⟨o,h1,h2,_⟩:=p;exact PySem.W.kia_one PySem.W.kitx_tuple I.kIn ⟨o,h1,h2⟩ e (fun z=>nomatch z) h
 |@dK a kvs ea =>
  cases (show u=Value.ref a from rx);obtain⟨_,_,vs,_,p⟩:=(show j4 X.prog X.w H s.heap a (.dK kvs) from I.hok a _ ea)
  obtain⟨o,es,ep,h1,h2,_⟩:=p;exact PySem.W.kia_one PySem.W.kitx_dict I.kIn ⟨o,h1,h2.1⟩ e (fun z=>nomatch z) h
 |@dT a kvs ea =>
  cases (show u=Value.ref a from rx);obtain⟨_,_,xs,_,o,es,ep,h1,h2,_⟩:=(show j4 X.prog X.w H s.heap a (.dT kvs) from I.hok a _ ea)
  exact PySem.W.kia_one PySem.W.kitx_dict I.kIn ⟨o,h1,h2.1⟩ e (fun z=>nomatch z) h
 |@ins a C dx fs ea cl ha hn htk hm =>
  cases (show u=Value.ref a from rx);obtain⟨mA,O,_⟩:=Y3 I.hok ea;obtain⟨od,J,_⟩:=O.look;exact PySem.W.kia_one (PySem.W.kitx_own (cl.get _) cl.hd ha hn htk hm) I.kIn J e (fun z=>nomatch z) h
end
end L2
namespace L2
open PySem PySem.Spec PyProof.Rows
structure k9(k:Nat)(A:Around):Prop where
 hd:A.handled=none
 dp:A.depth+3*k+5<recursionLimit
 un:A.units+16*k+200<cLine
theorem k9.mono{j k:Nat}{A:Around}(r:k9 k A)(h:j<=k):k9 j A:=⟨r.hd,by have:=r.dp;omega,by have:=r.un;omega⟩
theorem k9.deeper{k:Nat}{A:Around}(r:k9 (k+1) A)(env:Env):k9 k (A.deeper env) :=
 ⟨r.hd,by have:=r.dp;show A.depth+1+3*k+5<_;omega,by have:=r.un;show A.units+3+16*k+200<_;omega⟩
theorem k9.in1{k:Nat}{A:Around}(r:k9 (k+1) A):k9 k A.in1 :=
 ⟨r.hd,by have:=r.dp;show A.depth+3*k+5<_;omega,by have:=r.un;show A.units+1+16*k+200<_;omega⟩
theorem aA1{A:Around}{C:Addr}{us:List Value}{kw:List (Str×Value)}:(A.under (.builtin "type.__call__" ⟨.ref C::us,kw⟩)).depth=A.depth+1:=by
 first|rfl|simp[Around.under,Code.weight,Code.isCreation,Code.isGuard,Code.isCaller,Code.frames,Code.isFrame,guardIds]
theorem aA0{A:Around}{C:Addr}{us:List Value}{kw:List (Str×Value)}:(A.under (.builtin "type.__call__" ⟨.ref C::us,kw⟩)).units=A.units+1:=by
 first|rfl|simp[Around.under,Code.cUnits,Code.frames,Code.isFrame]
theorem k9.make{k:Nat}{A:Around}(r:k9 (k+1) A)(C:Addr)(us:List Value)(kw:List (Str×Value)):k9 k (A.under (.builtin "type.__call__" ⟨.ref C::us,kw⟩)) :=
 ⟨r.hd,by have:=r.dp;rw[aA1];omega,by have:=r.un;rw[aA0];omega⟩
theorem k9.depth{k:Nat}{A:Around}(r:k9 k A):A.depth<recursionLimit:=by have:=r.dp;omega
theorem k9.units{k:Nat}{A:Around}(r:k9 k A):A.units+64<cLine:=by have:=r.un;omega
noncomputable def a57:TA:=fun _ H Q=>Q [] H
noncomputable def bj1(ta:TE)(tr:TA):TA:=fun σ H Q=>ta σ H fun x H1=>tr σ H1 fun xs H2=>Q (x::xs) H2
section
variable{X:Cx}{e:Expr}{es:List Expr}{te:TE}{t:TA}{pos:Pos}
theorem ap1:PA X [] a57:=fun _ _ _ _ H Q I h=>Calls.spliced_nil ⟨[],H,I,.nil,h⟩
theorem ag3(ha:PE X e te)(hr:PA X es t)(hs:starEach (e::es) X.env=(false,eval e X.env)::starEach es X.env:=by rfl):PA X (e::es) (bj1 te t):=by
 intro pos pins s σ H Q I h;rw[hs];show wpAny _ _ (spliced ((false,eval e X.env)::backTo pos (starEach es X.env))) _ _ s;refine Calls.spliced_cons (thn (ha pins s σ H _ I h) fun u s1 ⟨x,H1,I1,r1,q1⟩=>?_);exact thn (hr pos pins s1 σ H1 _ I1 q1) fun us s2 ⟨xs,H2,I2,r2,q2⟩=>⟨x::xs,H2,I2,.cons r1 r2,q2⟩
noncomputable def bq7(t:TA):TE:=fun σ H Q=>t σ H fun xs H1=>xs.length<=sizeLine/\∀p,H1 p=none->Q (.ref p) (upd H1 p (.tup xs))
noncomputable def br3(t:TA):TE:=fun σ H Q=>t σ H fun xs H1=>xs.length<=sizeLine/\∀p,H1 p=none->Q (.ref p) (upd H1 p (.lst xs))
theorem ba7{x1}(h:PA X es t):PE X (.Tuple es x1 pos) (bq7 t):=by
 intro pins s σ H Q I hq;refine wpAny_Tuple_spliced (thn (h pos pins s σ H _ I hq) fun us s1 ⟨xs,H1,I1,r,z,q⟩=>⟨by rw[<- r.length];exact z,?_⟩);have hf:H1 s1.heap.objs.size=none:=I1.hok.fresh (Nat.le_refl _);refine⟨.ref s1.heap.objs.size,upd H1 s1.heap.objs.size (.tup xs),I1.laid (t':=s1.toks) (fun b u e=>Heap.get?_push_of_some _ e) (Nat.le_refl _) ?_,rfl,q _ hf⟩;exact⟨z,us,r,⟨_,Heap.get?_push_size _ rfl,rfl,⟨_,rfl⟩,rfl⟩⟩
theorem bb2(h:PA X es t):PE X (.List es pos) (br3 t):=by
 intro pins s σ H Q I hq;refine wpAny_List_spliced (thn (h pos pins s σ H _ I hq) fun us s1 ⟨xs,H1,I1,r,z,q⟩=>⟨by rw[<- r.length];exact z,?_⟩);have hf:H1 s1.heap.objs.size=none:=I1.hok.fresh (Nat.le_refl _);refine⟨.ref s1.heap.objs.size,upd H1 s1.heap.objs.size (.lst xs),I1.laid (t':=s1.toks) (fun b u e=>Heap.get?_push_of_some _ e) (Nat.le_refl _) ?_,rfl,q _ hf⟩;exact⟨z,us,0,r,Heap.get?_push_size _ rfl⟩
end
noncomputable abbrev Sp:=List V->Hp->VK->XK->Prop
noncomputable abbrev CXT:=List Env->Hp->Shared->XK->Value->Shared->Prop
structure Q2(P:Program)(w:World)(K:PySem.W.Frag)(mg:Str->Option Value)(base:Heap)(A:Around)(outer:List Env)(s:Shared)(H:Hp):Prop where
 frames:A.frames=some outer
 mod:Mod K mg base
 bs:∀b o,base.get? b=some o->s.heap.get? b=some o/\H b=none
 bsz:base.objs.size<=s.heap.objs.size
 B5:s.heap.FunFrames base outer
 frf:∀b∈frs outer,H b=none
 hok:HOk P w H s.heap
 bare:AllBare s.gens
noncomputable def CE(outer:List Env)(P:Program)(w:World)(H:Hp)(s:Shared)(Q:VK)(u:Value)(s':Shared):Prop :=
 ∃v H',s'.os=s.os/\AllBare s'.gens/\Un (frs outer) [] H H' s.heap s'.heap/\HOk P w H' s'.heap/\RelV v u/\Q v H'
noncomputable def CR(CX:CXT)(outer:List Env)(P:Program)(w:World)(H:Hp)(s:Shared)(Q:VK)(E:XK)(r:Result)(s':Shared):Prop :=
 match r with
 |.ok (.ret u)=>CE outer P w H s Q u s'
 |.ok _=>False
 |.error e=>CX outer H s E e s'
structure u4(P:Program)(w:World)(K:PySem.W.Frag)(mg:Str->Option Value)(base:Heap)(CX:CXT)(k:Nat)(f:Addr)(fd:FuncData)(ps:List Str)(sp:Sp):Prop where
 len:∀vs H Q E,sp vs H Q E->vs.length=ps.length
 run:∀(A:Around) (outer:List Env) (s:Shared) (H:Hp) (args:Args) (us:List Value) (vs:List V) (Q:VK) (E:XK),k9 k A->Q2 P w K mg base A outer s H->BindsTo s fd args (ps.zip us)->Vals vs us->sp vs H Q E ->
  codeAny (model P w) A (.call (.ref f) args) (CR CX outer P w H s Q E) s
theorem u4.mono{P:Program}{w:World}{K:PySem.W.Frag}{mg:Str->Option Value}{base:Heap}{CX:CXT}{j k:Nat}{f:Addr}{fd:FuncData}{ps:List Str}{sp:Sp}(F:u4 P w K mg base CX j f fd ps sp)(h:j<=k) :
  u4 P w K mg base CX k f fd ps sp:=⟨F.len,fun A outer s H args us vs Q E hr=>F.run A outer s H args us vs Q E (hr.mono h)⟩
theorem u4.imp{P:Program}{w:World}{K:PySem.W.Frag}{mg:Str->Option Value}{base:Heap}{CX:CXT}{k:Nat}{f:Addr}{fd:FuncData}{ps:List Str}{sp sp':Sp}(F:u4 P w K mg base CX k f fd ps sp)(h:∀vs H Q E,sp' vs H Q E->sp vs H Q E):u4 P w K mg base CX k f fd ps sp' :=
 ⟨fun vs H Q E q=>F.len vs H Q E (h _ _ _ _ q),fun A outer s H args us vs Q E hr he hb hv hs=>F.run A outer s H args us vs Q E hr he hb hv (h _ _ _ _ hs)⟩
theorem Q2.make{P:Program}{w:World}{K:PySem.W.Frag}{mg:Str->Option Value}{base:Heap}{A:Around}{outer:List Env}{s:Shared}{H:Hp}(e:Q2 P w K mg base A outer s H)(C:Addr)(us:List Value)(kw:List (Str×Value)) :
  Q2 P w K mg base (A.under (.builtin "type.__call__" ⟨.ref C::us,kw⟩)) outer s H:=⟨by first|exact e.frames|(simpa[Around.under,Code.envs,Code.isFrame,pushEnvs] using e.frames),e.mod,e.bs,e.bsz,e.B5,e.frf,e.hok,e.bare⟩
theorem Q2.in1{P:Program}{w:World}{K:PySem.W.Frag}{mg:Str->Option Value}{base:Heap}{A:Around}{outer:List Env}{s:Shared}{H:Hp}(e:Q2 P w K mg base A outer s H) :
  Q2 P w K mg base A.in1 outer s H:=⟨e.frames,e.mod,e.bs,e.bsz,e.B5,e.frf,e.hok,e.bare⟩
section
variable{X:Cx}{pins:List (Addr×Obj)}{σ:St}{H:Hp}{s s':Shared}
theorem Inv.bf6(I:Inv X pins σ H s):Q2 X.prog X.w X.K X.mg X.base X.A X.stack s H :=
 ⟨I.ok.frames,I.ok.mod,I.bs,Nat.le_trans I.ok.bsz I.sz,I.stack,I.X7,I.hok,I.bare⟩
theorem Inv.after{Q:VK}{u:Value}(I:Inv X pins σ H s)(h:CE X.stack X.prog X.w H s Q u s'):EP X pins σ Q u s':=by
 obtain⟨v,H',os,bare,un,hok,r,q⟩:=h;obtain⟨hh,g,d,t,os'⟩:=s';obtain rfl:os'=s.os:=os;exact⟨v,H',I.call (h':=hh) (g':=g) (d':=d) (t':=t) (ch:=[]) un hok bare (fun b z=>absurd z (by simp)),r,q⟩
end
noncomputable def bj2(sp:Sp)(dvs:List V)(E:XK)(t:TA):TE:=fun σ H Q=>t σ H fun vs H1=>sp (vs++dvs) H1 Q E
noncomputable def aT3(C:Addr)(sp:Sp)(dvs:List V)(E:XK)(t:TA):TE:=fun σ H Q=>t σ H fun vs H1=>∀x dx,H1 x=none->H1 dx=none->dx≠x ->
 sp (.ref x::(vs++dvs)) (upd (upd H1 dx (.own x)) x (.ins C dx [])) (fun v H2=>v=.non/\Q (.ref x) H2) E
noncomputable def Binds(K:PySem.W.Frag)(fd:FuncData)(ps:List Str)(ds:List Value):Prop :=
 ∀(s:Shared) (us:List Value),K.In s.heap->(us++ds).length=ps.length->BindsTo s fd ⟨us,[]⟩ (ps.zip (us++ds))
theorem Binds.all{K:PySem.W.Frag}{fd:FuncData}{ps:List Str}(h:∀us:List Value,us.length=ps.length->bindArgs fd ⟨us,[]⟩=pure (ps.zip us)):Binds K fd ps []:=fun s us _ hl=>by
 rw[List.append_nil] at hl ⊢;exact .of_eq (h us hl)
noncomputable def Passes(CX:CXT)(X:Cx)(E:XK):Prop:=∀(pins:List (Addr×Obj)) (σ:St) (H:Hp) (s:Shared) (e:Value) (s':Shared),Inv X pins σ H s->CX X.stack H s E e s'->X.xe e s'
section
variable{X:Cx}{CX:CXT}{k:Nat}{f C:Addr}{fd:FuncData}{ps:List Str}{sp:Sp}{dvs:List V}{ds:List Value}{E:XK}{x m:Str}{p pos apos:Pos}{e o:Expr}{es:List Expr}{ta:TE}{t:TA}
theorem ao7{pins:List (Addr×Obj)}{σ:St}{H:Hp}{s:Shared}{Q:VK}{us:List Value}{vs:List V}(F:u4 X.prog X.w X.K X.mg X.base CX k f fd ps sp)(hr:k9 k X.A)(hb:Binds X.K fd ps ds)(hd:Vals dvs ds)(hx:Passes CX X E)(I:Inv X pins σ H s)(r:Vals vs us)(h:sp (vs++dvs) H Q E):wpAny (model X.prog X.w) X.A (call (.ref f) us) (EP X pins σ Q) X.xe s:=by
 have r2:Vals (vs++dvs) (us++ds):=r.append hd;have hl:(us++ds).length=ps.length:=by rw[<- r2.length];exact F.len _ _ _ _ h
 refine wpAny_call (codeAny_mono (F.run X.A X.stack s H ⟨us,[]⟩ (us++ds) (vs++dvs) Q E hr I.bf6 (hb s us I.kIn hl) r2 h) fun r s' hq=>?_);cases r with
 |error e=>exact hx pins σ H s e s' I hq
 |ok fl =>
  cases fl with
  |ret u=>exact I.after hq
  |next=>exact False.elim hq
  |brk=>exact False.elim hq
  |cont=>exact False.elim hq
theorem a02(F:u4 X.prog X.w X.K X.mg X.base CX k f fd ps sp)(hr:k9 k X.A)(hg:Gl X x)(hm:X.mg x=some (.ref f))(hk:PySem.W.keepIn X.K (.ref f)=true)(hb:Binds X.K fd ps ds)(hd:Vals dvs ds)(hx:Passes CX X E)(ha:PA X (e::es) t)(hdb:(x==("__debug__":Str))=false:=by decide)(he:starEach (e::es) X.env=(false,eval e X.env)::starEach es X.env:=by rfl)(hpl:(backTo pos (starEach es X.env)).any (·.1)=false:=by rfl) :
  PE X (.Call (.Name x p) (e::es) [] pos) (bj2 sp dvs E t):=by
 intro pins s σ H Q I h;refine wpAny_Call_Name_kw (M0 I hg hm ?_ hdb);refine PySem.W.callWith_K (h₀:=X.base) I.ok.mod.kin hk (thn (ha pos pins s σ H _ I h) fun us s1 ⟨vs,H1,I1,r,q⟩=>⟨I1.kIn,?_⟩) he hpl;exact ao7 F hr hb hd hx I1 r q
structure Mk(K:PySem.W.Frag)(C f:Addr):Prop where
 makes:PySem.W.makesIn K C=true
 init:PySem.W.findIn K (.ref C) "__init__"=some (some (.ref f))
 fn:PySem.W.isFn K (.ref f)=true
 kp:PySem.W.keepIn K (.ref C)=true
theorem ao6{pins:List (Addr×Obj)}{σ:St}{H:Hp}{s:Shared}{Q:VK}{us:List Value}{vs:List V}(M:Mk X.K C f)(F:u4 X.prog X.w X.K X.mg X.base CX k f fd ps sp)(hr:k9 (k+1) X.A)(hb:Binds X.K fd ps ds)(hd:Vals dvs ds)(hx:Passes CX X E)(I:Inv X pins σ H s)(r:Vals vs us)(h:∀x dx,H x=none->H dx=none->dx≠x->sp (.ref x::(vs++dvs)) (upd (upd H dx (.own x)) x (.ins C dx [])) (fun v H2=>v=.non/\Q (.ref x) H2) E) :
  wpAny (model X.prog X.w) X.A (call (.ref C) us) (EP X pins σ Q) X.xe s:=by
 have hq:=h (s.heap.objs.size+1) s.heap.objs.size (I.hok.fresh (Nat.le_succ _)) (I.hok.fresh (Nat.le_refl _)) (Nat.ne_of_lt (Nat.lt_succ_self _));have I2:=Inv.made (C:=C) I;have r2:Vals (V.ref (s.heap.objs.size+1)::(vs++dvs)) (Value.ref (s.heap.objs.size+1)::(us++ds)):=.cons rfl (r.append hd);have hl:(Value.ref (s.heap.objs.size+1)::us++ds).length=ps.length:=by
  have e:=r2.length;rw[F.len _ _ _ _ hq] at e;exact e.symm
 refine wpAny_call (aQ3 (f:=f) I.kIn M.makes M.init (beq_iff_eq.mp M.fn) (codeAny_mono (F.run _ X.stack _ _ ⟨Value.ref (s.heap.objs.size + 1) :: us,[]⟩ (Value.ref (s.heap.objs.size + 1) :: (us ++ ds)) _ _ E (hr.make C us [])
  (I2.bf6.make C us []) (hb _ (Value.ref (s.heap.objs.size + 1) :: us) I2.kIn hl) r2 hq) fun r s' hq'=>?_))
 cases r with
 |error e=>exact hx pins σ _ _ e s' I2 hq'
 |ok fl =>
  cases fl with
  |ret u =>
   obtain⟨v,H',I3,rv,ev,q3⟩:=I2.after hq';subst ev;exact⟨rv,⟨V.ref (s.heap.objs.size+1),H',I3,rfl,q3⟩⟩
  |next=>exact False.elim hq'
  |brk=>exact False.elim hq'
  |cont=>exact False.elim hq'
theorem a00(M:Mk X.K C f)(F:u4 X.prog X.w X.K X.mg X.base CX k f fd ps sp)(hr:k9 (k+1) X.A)(hg:Gl X x)(hm:X.mg x=some (.ref C))(hb:Binds X.K fd ps ds)(hd:Vals dvs ds)(hx:Passes CX X E)(ha:PA X (e::es) t)(hdb:(x==("__debug__":Str))=false:=by decide)(he:starEach (e::es) X.env=(false,eval e X.env)::starEach es X.env:=by rfl)(hpl:(backTo pos (starEach es X.env)).any (·.1)=false:=by rfl) :
  PE X (.Call (.Name x p) (e::es) [] pos) (aT3 C sp dvs E t):=by
 intro pins s σ H Q I h;refine wpAny_Call_Name_kw (M0 I hg hm ?_ hdb);refine PySem.W.callWith_K (h₀:=X.base) I.ok.mod.kin M.kp (thn (ha pos pins s σ H _ I h) fun us s1 ⟨vs,H1,I1,r,q⟩=>⟨I1.kIn,?_⟩) he hpl;exact ao6 M F hr hb hd hx I1 r q
theorem aP0(M:Mk X.K C f)(F:u4 X.prog X.w X.K X.mg X.base CX k f fd ps sp)(hr:k9 (k+1) X.A)(hg:Gl X x)(hm:X.mg x=some (.ref C))(hb:Binds X.K fd ps ds)(hd:Vals dvs ds)(hx:Passes CX X E)(hdb:(x==("__debug__":Str))=false:=by decide):PE X (.Call (.Name x p) [] [] pos) (aT3 C sp dvs E a57):=by
 intro pins s σ H Q I h;refine wpAny_Call_Name_kw (M0 I hg hm ?_ hdb);exact PySem.W.callWith_K0 I.kIn M.kp (ao6 (us:=[]) M F hr hb hd hx I .nil h)
end
section
variable{X:Cx}{CX:CXT}{k:Nat}{f C:Addr}{fd:FuncData}{ps ks:List Str}{sp:Sp}{E:XK}{x m:Str}{p pos apos kpos:Pos}{e o:Expr}{es:List Expr}{kws:List Keyword}{te ta:TE}{t tk:TA}{nm:Option Str}
structure KBinds(K:PySem.W.Frag)(fd:FuncData)(ps ks:List Str)(g:List Value->List Value->List Value)(gV:List V->List V->List V):Prop where
 to:∀(s:Shared) (us ws:List Value),K.In s.heap->(g us ws).length=ps.length->BindsTo s fd ⟨us,ks.zip ws⟩ (ps.zip (g us ws))
 rel:∀{vs:List V} {us:List Value} {zs:List V} {ws:List Value},Vals vs us->Vals zs ws->Vals (gV vs zs) (g us ws)
variable{g:List Value->List Value->List Value}{gV:List V->List V->List V}
end
structure FnScope(N P:List Str)(sc:Scope):Prop where
 kind:sc.kind=.function
 co:sc.isCoroutine=false
 gen:sc.isGenerator=false
 nd:N.Nodup
 pre:N.take P.length=P
 par:∀x∈P,sc.names.lookup x=some .local\/sc.names.lookup x=some .cell
 nofree:∀y∈sc.names,y.2≠.free
theorem ak5{kindOf:Str->Option NameKind}{x:Str}:∀{binds:List (Str×Value)} {m:Str->Option Value},(∀v,(x,v)∉binds)->bindL kindOf binds m x=m x
 |[],_,_=>rfl
 |(n,v)::r,m,h=>by
  unfold bindL;rw[ak5 fun w hw=>h w (List.mem_cons_of_mem _ hw)];split
  ·have:x≠n:=by rintro rfl;exact h v List.mem_cons_self
   simp[this]
  ·rfl
theorem ak7{kindOf:Str->Option NameKind}{x:Str}:∀{binds:List (Str×Value)} {m:Str->Option Value},(∀v,(x,v)∉binds)->bindC kindOf binds m x=m x
 |[],_,_=>rfl
 |(n,v)::r,m,h=>by
  unfold bindC;rw[ak7 fun w hw=>h w (List.mem_cons_of_mem _ hw)];split
  ·rfl
  ·have:x≠n:=by rintro rfl;exact h v List.mem_cons_self
   simp[this]
theorem ak6{kindOf:Str->Option NameKind}{x:Str}{v:Value}:∀{P:List Str} {vs:List Value} {i:Nat} {m:Str->Option Value},P.Nodup->P[i]?=some x->vs[i]?=some v->kindOf x=some .local ->
  bindL kindOf (P.zip vs) m x=some v
 |[],_,_,_,_,h,_,_=>by simp at h
 |_::_,[],_,_,_,_,h,_=>by simp at h
 |p::P,w::vs,0,m,nd,h1,h2,hk=>by
  simp at h1 h2;subst h1;subst h2;show bindL kindOf ((p,w)::P.zip vs) m p=_;unfold bindL;rw[ak5 fun v hv=>(List.nodup_cons.mp nd).1 (List.of_mem_zip hv).1,if_pos hk];simp
 |p::P,w::vs,i+1,m,nd,h1,h2,hk=>by
  show bindL kindOf ((p,w)::P.zip vs) m x=_;unfold bindL;exact ak6 (i:=i) (List.nodup_cons.mp nd).2 (by simpa using h1) (by simpa using h2) hk
theorem ak8{kindOf:Str->Option NameKind}{x:Str}{v:Value}:∀{P:List Str} {vs:List Value} {i:Nat} {m:Str->Option Value},P.Nodup->P[i]?=some x->vs[i]?=some v->kindOf x≠some .local ->
  bindC kindOf (P.zip vs) m x=some v
 |[],_,_,_,_,h,_,_=>by simp at h
 |_::_,[],_,_,_,_,h,_=>by simp at h
 |p::P,w::vs,0,m,nd,h1,h2,hk=>by
  simp at h1 h2;subst h1;subst h2;show bindC kindOf ((p,w)::P.zip vs) m p=_;unfold bindC;rw[ak7 fun v hv=>(List.nodup_cons.mp nd).1 (List.of_mem_zip hv).1,if_neg hk];simp
 |p::P,w::vs,i+1,m,nd,h1,h2,hk=>by
  show bindC kindOf ((p,w)::P.zip vs) m x=_;unfold bindC;exact ak8 (i:=i) (List.nodup_cons.mp nd).2 (by simpa using h1) (by simpa using h2) hk
noncomputable def start(N:List Str)(vs:List V):St:=vs.map some++List.replicate (N.length-vs.length) none
noncomputable def P8(CX:CXT)(P:Program)(w:World)(K:PySem.W.Frag)(mg:Str->Option Value)(base:Heap)(N:List Str)(qual:Str)(scope:Scope)(f:Addr)(cd:Value)(A:Around)(outer:List Env)(s:Shared)(H:Hp)(E:XK):Cx where
 prog:=P
 w:=w
 K:=K
 mg:=mg
 base:=base
 A:=A.deeper (envOfC qual scope s.heap.objs.size f cd)
 N:=N
 s₀:=s
 H₀:=H
 env:=envOfC qual scope s.heap.objs.size f cd
 outer:=outer
 stack:=envOfC qual scope s.heap.objs.size f cd::outer
 ex:=[]
 calm:=true
 fn:=fun _=>true
 pn:=[]
 xe:=fun e s'=>wpAny (model P w) (A.deeper (envOfC qual scope s.heap.objs.size f cd)) (leaving (envOfC qual scope s.heap.objs.size f cd) e) (fun _ s''=>CX outer H s E e s'') (fun e' s''=>CX outer H s E e' s'') s'
theorem ab4{sc:Scope}{n:Nat}{x:Str}(h:sc.names.lookup x=some .cell):∃c,(cellsFrom n sc.names []).lookup x=some c:=by
 have q:=PySem.W.cellsFrom_some sc.names n [] (.inl h);exact Option.isSome_iff_exists.mp q
theorem aI5{CX:CXT}{P:Program}{w:World}{K:PySem.W.Frag}{mg:Str->Option Value}{base:Heap}{N ps:List Str}{qual:Str}{scope:Scope}{f:Addr}{cd:Value}{A:Around}{outer:List Env}{s s1:Shared}{H:Hp}{E:XK}{us:List Value}{vs:List V}(S:FnScope N ps scope)(hd:A.handled=none)(e0:Q2 P w K mg base A outer s H)(hl:vs.length=ps.length)(r:Vals vs us)(x:InCallC s s.heap.objs.size (bindL (envOfC qual scope s.heap.objs.size f cd).kindOf (ps.zip us) fun _=>none) (cellsFrom (s.heap.objs.size+1) scope.names []) (bindC (envOfC qual scope s.heap.objs.size f cd).kindOf (ps.zip us) fun _=>none) s1) :
  Inv (P8 CX P w K mg base N qual scope f cd A outer s H E) [] (start N vs) H s1:=by
 have hpl:ps.length<=N.length:=by have:=congrArg List.length S.pre;rw[List.length_take] at this;omega
 obtain⟨h1,tk,rfl,hk⟩:=x.done;have noA:∀b:Addr,b∉(P8 CX P w K mg base N qual scope f cd A outer s H E).ex:=fun b z=>absurd (show b∈([]:List Addr) from z) (by simp);refine ⟨⟨e0.mod,S.kind,rfl,rfl,Nat.le_refl _,fun y z c h1 h2=>?_,fun y hy=>?_,fun y c _ h=>?_,fun _=>hd,Around.frames_deeper e0.frames,.inr ⟨rfl,rfl⟩,fun b z=>absurd z (noA b),e0.bs,e0.bsz,fun b _ _=>noA b,fun b z=>absurd z (noA b),e0.B5,e0.frf⟩,
  rfl,e0.bare,Un.kept hk,⟨_,x.toInCall.ns,fun i y v h1 h2 h3=>?_⟩,fun y c h=>⟨_,x.cell y c h⟩,e0.hok.fresh (Nat.le_refl _),fun y c h=>?_,fun p hp=>absurd (show p ∈ ([]:List (Addr × Obj)) from hp) (by simp),e0.hok.kept hk,?_⟩
 ·exact name_of_addr x.apart (PySem.mem_of_lookup h1) (PySem.mem_of_lookup h2)
 ·have hy:scope.names.lookup y=some .cell\/scope.names.lookup y=some .free:=hy;rcases hy with hy|hy
  ·exact ab4 hy
  ·exact absurd rfl (S.nofree _ (PySem.mem_of_lookup hy))
 ·exact Nat.le_of_lt (x.above y c (PySem.mem_of_lookup h))
 ·have hi:i<vs.length:=by
   unfold start at h2;by_cases hi:i<vs.length
   ·exact hi
   ·rw[List.getElem?_append_right (by simpa using hi)] at h2;rw[List.getElem?_replicate] at h2;split at h2<;>cases h2
  have ha:vs[i]?=some v:=by
   unfold start at h2;rw[List.getElem?_append_left (by simpa using hi),List.getElem?_map] at h2;cases e:vs[i]? with
   |none=>rw[e] at h2;cases h2
   |some a=>rw[e] at h2;cases h2;rfl
  obtain⟨u,hu,rv⟩:=r.get ha;have hp:ps[i]?=some y:=by
   rw[<- S.pre,List.getElem?_take_of_lt (by omega)];exact h1
  have ndP:ps.Nodup:=by rw[<- S.pre];exact S.nd.sublist (List.take_sublist _ _)
  refine⟨u,rv,?_⟩;rcases S.par y (List.mem_of_getElem? hp) with k|k
  ·exact .inl ⟨k,ak6 ndP hp hu k⟩
  ·obtain⟨c,e⟩:=ab4 (n:=s.heap.objs.size+1) k;refine .inr ⟨.inl k,c,e,?_⟩;have q:=x.cell y c e;rw[ak8 ndP hp hu (by show scope.names.lookup y≠_;rw[k];decide)] at q;exact q
 ·exact e0.hok.fresh (Nat.le_of_lt (x.above y c (PySem.mem_of_lookup h)))
 ·unfold start;show _=N.length;rw[List.length_append,List.length_map,List.length_replicate];omega
theorem aU8{CX:CXT}{P:Program}{w:World}{K:PySem.W.Frag}{mg:Str->Option Value}{base:Heap}{k:Nat}{f:Addr}{name qual:Str}{params:Arguments}{body:List Stmt}{scope:Scope}{dV kV doc pm cdv ct oc:Value}{an od:Option Addr}{osl:Array (Option Value)}{N ps:List Str}{sp:Sp}(lk:K.lookup f=some ⟨oc,od,.func (PySem.W.fnOf name qual params body scope dV kV doc pm an cdv ct),osl⟩)(hcd:PySem.W.codeIn K cdv qual=true)(S:FnScope N ps scope)(len:∀vs H Q E,sp vs H Q E->vs.length=ps.length)(hbody:∀ (A:Around) (outer:List Env) (s:Shared) (H:Hp) (vs:List V) (Q:VK) (E:XK),k9 k (A.deeper (envOfC qual scope s.heap.objs.size f cdv))->sp vs H Q E ->
   ∃ t,PSs (P8 CX P w K mg base N qual scope f cdv A outer s H E) body t/\t { nx:=fun _ H'=>Q .non H',rt:=Q } (start N vs) H) :
  u4 P w K mg base CX (k+1) f (PySem.W.fnOf name qual params body scope dV kV doc pm an cdv ct) ps sp:=by
 refine⟨len,fun A outer s H args us vs Q E hr e0 hb r hsp=>?_⟩;have hl:=len _ _ _ _ hsp;have KX:K.In s.heap:=e0.mod.kin.keeps fun b o e=>(e0.bs b o e).1;have lim:s.heap.NoLimit:=e0.mod.nolimit.keeps fun b o e=>(e0.bs b o e).1;have hkind:∀y∈ps.zip us,scope.names.lookup y.1=some .local\/(scope.names.lookup y.1=some .cell/\((cellsFrom (s.heap.objs.size+1) scope.names []).lookup y.1).isSome=true):=fun⟨n,v⟩ hy=>by
  rcases S.par n (List.of_mem_zip hy).1 with q|q
  ·exact .inl q
  ·exact .inr ⟨q,PySem.W.cellsFrom_some _ _ _ (.inl q)⟩
 refine codeAny_call_function hr.depth (KX _ _ lk) rfl S.co S.gen rfl (PySem.W.codeRec_of KX hcd) (hb _ _ _ _ ?_);refine wpAny_newFunctionEnv_cells S.kind hkind fun env he s1 x=>?_;subst he;refine⟨lim.keeps x.toInCall.keep,codeAny_func ?_⟩;obtain⟨t,ht,hq⟩:=hbody A outer s H vs Q E (hr.deeper _) hsp;have I:Inv (P8 CX P w K mg base N qual scope f cdv A outer s H E) [] (start N vs) H s1:=aI5 S hr.hd e0 hl r x;refine wpAny_mono (ht [] s1 (start N vs) H _ I hq) (fun fl s' hs=>?_) fun e s' hs=>hs;have fin:∀{σ':St} {H':Hp} {v:V} {u:Value},Inv (P8 CX P w K mg base N qual scope f cdv A outer s H E) [] σ' H' s'->RelV v u->Q v H'->CE outer P w H s Q u s' :=
  fun{σ' H' v u} J rv q=>⟨v,H',J.os,J.bare,J.base,J.hok,rv,q⟩
 cases fl with
 |ret u =>
  obtain⟨v,σ',H',J,rv,q⟩:=hs;exact fin J rv q
 |next =>
  obtain⟨σ',H',J,q⟩:=hs;exact fin (v:=V.non) (u:=Value.none) J rfl q
 |brk =>
  obtain⟨_,_,_,q⟩:=hs;exact False.elim q
 |cont =>
  obtain⟨_,_,_,q⟩:=hs;exact False.elim q
end L2
namespace L2
open PySem PySem.Spec PyProof.Rows
section
variable{X:Cx}{x:Str}{p pos:Pos}{e:Expr}{es:List Expr}{t:TA}{id T:String}{r:List V->Hp->VK->Prop}
noncomputable def tCB(r:List V->Hp->VK->Prop)(t:TA):TE:=fun σ H Q=>t σ H fun vs H1=>r vs H1 Q
theorem aP5(hc:i8 X (.builtin id) r)(hg:Gl X x)(hm:X.mg x=none)(hv:bootBuiltins x=some (.builtin id))(ha:PA X (e::es) t)(hn:x≠"__name__":=by decide)(hdb:(x==("__debug__":Str))=false:=by decide)(he:starEach (e::es) X.env=(false,eval e X.env)::starEach es X.env:=by rfl)(hpl:(backTo pos (starEach es X.env)).any (·.1)=false:=by rfl):PE X (.Call (.Name x p) (e::es) [] pos) (tCB r t):=by
 intro pins s σ H Q I h;refine wpAny_Call_Name_kw (K5 I hg hm hv ?_ hn hdb);exact PyProof.Rows.callWith_builtin1 (thn (ha pos pins s σ H _ I h) fun us s1 ⟨vs,H1,I1,r1,q1⟩=>hc pins s1 σ H1 vs us Q I1 r1 q1) he hpl
theorem V7(hc:i8 X (.type T) r)(hg:Gl X x)(hm:X.mg x=none)(hv:bootBuiltins x=some (.type T))(ha:PA X (e::es) t)(hn:x≠"__name__":=by decide)(hdb:(x==("__debug__":Str))=false:=by decide)(he:starEach (e::es) X.env=(false,eval e X.env)::starEach es X.env:=by rfl)(hpl:(backTo pos (starEach es X.env)).any (·.1)=false:=by rfl):PE X (.Call (.Name x p) (e::es) [] pos) (tCB r t):=by
 intro pins s σ H Q I h;refine wpAny_Call_Name_kw (K5 I hg hm hv ?_ hn hdb);exact PyProof.Rows.callWith_type1 (thn (ha pos pins s σ H _ I h) fun us s1 ⟨vs,H1,I1,r1,q1⟩=>hc pins s1 σ H1 vs us Q I1 r1 q1) he hpl
end
end L2

namespace HT
open PySem PyProof.Rows
section
open PySem.SeqAt
open PySem.AutoSeq1 (wpAny_loadPart')
open PySem.MeetsSeq PySem.MeetsSeq2 PySem.MeetsSeq3
end
section
variable{prog:Program}{w:World}{A:Around}{E:Value->Shared->Prop}{s:Shared}
theorem a33{t b:Addr}{vs ws:List Value}{Q:Value->Shared->Prop}(ht:IsTup s.heap t vs.toArray)(hb:IsTup s.heap b ws.toArray)(hv:vs≠[])(h1:ws=[]->Q (.ref t) s)(h2:ws≠[]->Q (.ref s.heap.objs.size) { s with heap:=s.heap.push { cls:=.type "tuple",data:=.seq (vs++ws).toArray } })(hsz:vs.length+ws.length<=sizeLine):wpAny (model prog w) A (binaryOp .Add (.ref t) (.ref b)) Q E s:=by
 obtain⟨⟨cls,dd,data,sl⟩,ho,hc,n,hd⟩:=id ht;obtain⟨⟨cls2,dd2,data2,sl2⟩,ho2,hc2,n2,hd2⟩:=id hb;simp only at hc hd hc2 hd2;subst hc hd hc2 hd2;have e:vs.toArray++ws.toArray=(vs++ws).toArray:=by simp
 by_cases hw:ws=[]
 ·exact concat_meets ⟨_,ho,rfl⟩ ⟨_,ho2,rfl⟩ noFill_tuple_add seq_tuple_add PySem.F.slot_tuple_add PySem.F.entry_tuple_add (PySem.F.args_tuple_add_2 _ _)
   (tuple_addW1 t b vs.toArray ws.toArray n n2 dd dd2 sl sl2 (by simpa using hv) (by simp[hw])) ⟨ho,ho2,h1 hw⟩
 ·refine concat_meets ⟨_,ho,rfl⟩ ⟨_,ho2,rfl⟩ noFill_tuple_add seq_tuple_add PySem.F.slot_tuple_add PySem.F.entry_tuple_add (PySem.F.args_tuple_add_2 _ _)
   (tuple_addW2 t b vs.toArray ws.toArray n n2 dd dd2 sl sl2 (by simpa using hv) (by simpa using hw) (by rw[List.size_toArray,List.size_toArray];exact hsz)) ⟨ho,ho2,?_⟩
  rw[e];exact h2 hw
noncomputable def sIx(n d:Nat):Option Int->Nat
 |none=>d
 |some v=>if v<0 then(v+(n:Int)).toNat else min v.toNat n
theorem a90(n d:Nat)(hd:d<=n)(o:Option Int):sIx n d o<=n:=by
 cases o with
 |none=>exact hd
 |some v =>
  show(if v<0 then(v+(n:Int)).toNat else min v.toNat n)<=n;by_cases hv:v<0
  ·rw[if_pos hv];omega
  ·rw[if_neg hv];exact Nat.min_le_right _ _
theorem ax3(v:Int)(n d:Nat):(if v<0 then max (v+(n:Int)) 0 else min v (n:Int))=((sIx n d (some v):Nat):Int):=by
 show(if v<0 then max (v+(n:Int)) 0 else min v (n:Int))=(((if v<0 then(v+(n:Int)).toNat else min v.toNat n):Nat):Int);by_cases hv:v<0
 ·simp only[if_pos hv];omega
 ·simp only[if_neg hv];omega
theorem aC6(lo hi:Option Int)(n:Nat):Builtin.Slice.sliceAdjust lo hi 1 (n:Int)=(((sIx n 0 lo:Nat):Int),((sIx n n hi:Nat):Int)):=by
 have h1:¬((1:Int)<0):=by omega
 unfold Builtin.Slice.sliceAdjust;simp only[h1,if_false];refine Prod.ext ?_ ?_
 ·cases lo with
  |none=>rfl
  |some v=>exact ax3 v n 0
 ·cases hi with
  |none=>rfl
  |some v=>exact ax3 v n n
theorem ay8(i j:Nat):Builtin.Slice.slicePlaces (i:Int) (j:Int) 1=j-i:=by
 unfold Builtin.Slice.slicePlaces;have h1:(1:Int)>0:=by omega
 simp only[h1,if_true,Int.ediv_one];split<;>omega
theorem ac8{v:Value}{o:Option Int}{Q:Option Int->Shared->Prop}(p:IsPart v o)(h:Q o s):wpAny (model prog w) A (Builtin.Slice.slicePartIndex v) Q E s:=by
 cases p with
 |none=>exact slicePart_none h
 |int i t=>exact slicePart_int h
theorem M6{sl:Addr}{vl vu:Value}{lo hi:Option Int}{n:Nat}{Q:Int×Int×Nat->Shared->Prop}(hs:s.heap.IsSliceOf sl vl vu .none)(pl:IsPart vl lo)(pu:IsPart vu hi)(h:Q (((sIx n 0 lo:Nat):Int),1,sIx n n hi-sIx n 0 lo) s):wpAny (model prog w) A (Builtin.Slice.sliceApplied (.ref sl) (pure (n:Int))) Q E s:=by
 obtain⟨os,hos,hcs,hds⟩:=id hs;unfold Builtin.Slice.sliceApplied Builtin.Slice.sliceFields;refine wpAny_bind (wpAny_bind (wpAny_field hos hds (x:=vl) rfl (wpAny_bind (wpAny_field hos hds (x:=vu) rfl (wpAny_bind (wpAny_field hos hds (x:=.none) rfl (wpAny_pure ?_)))))));refine wpAny_bind (slicePart_none ?_);show wpAny _ _ (if((1:Int)==0)=true then _ else _) _ _ s;rw[if_neg (by decide)];refine wpAny_bind (ac8 pl (wpAny_bind (ac8 pu (wpAny_bind (wpAny_pure ?_)))));show wpAny _ _ (match Builtin.Slice.sliceAdjust lo hi 1 (n:Int) with|(lo,hi)=>pure (lo,(1:Int),Builtin.Slice.slicePlaces lo hi 1)) _ _ s;rw[aC6 lo hi n];show wpAny _ _ (pure (((sIx n 0 lo:Nat):Int),(1:Int),Builtin.Slice.slicePlaces ((sIx n 0 lo:Nat):Int) ((sIx n n hi:Nat):Int) 1)) _ _ s;rw[ay8];exact wpAny_pure h
theorem aO6(xs:Array Value)(i k:Nat):((List.range k).filterMap fun(m:Nat)=>xs[((i:Int)+(m:Int)*1).toNat]?).toArray=((xs.toList.drop i).take k).toArray:=by
 have e:(fun(m:Nat)=>xs[((i:Int)+(m:Int)*1).toNat]?)=fun m=>xs[i+m]?:=by
  funext m
  have:((i:Int)+(m:Int)*1).toNat=i+m:=by omega
  rw[this]
 rw[e];have:=pick_run xs i k;rw[List.filterMap_map] at this;have e2:((fun x=>xs[x]?) ∘ fun x=>i+x)=fun m=>xs[i+m]?:=rfl;rw[e2] at this;rw[this]
theorem Z4{t sl:Addr}{items:Array Value}{vl vu:Value}{lo hi:Option Int}{Q:Value->Shared->Prop}(ht:IsTup s.heap t items)(hs:s.heap.IsSliceOf sl vl vu .none)(pl:IsPart vl lo)(pu:IsPart vu hi)(hw:¬(sIx items.size 0 lo=0/\sIx items.size items.size hi=items.size))(h:Q (.ref s.heap.objs.size) { s with heap:=s.heap.push { cls:=.type "tuple",data:=.seq ((items.toList.drop (sIx items.size 0 lo)).take (sIx items.size items.size hi-sIx items.size 0 lo)).toArray } })(hsz:items.size<=sizeLine):wpAny (model prog w) A (getItem (.ref t) (.ref sl)) Q E s:=by
 have htake:sizeOk (.seq ((items.toList.drop (sIx items.size 0 lo)).take (sIx items.size items.size hi-sIx items.size 0 lo)).toArray):=by
  show((items.toList.drop (sIx items.size 0 lo)).take (sIx items.size items.size hi-sIx items.size 0 lo)).toArray.size<=sizeLine;rw[List.size_toArray,List.length_take,List.length_drop,Array.length_toList];omega
 have hj:sIx items.size items.size hi<=items.size:=a90 _ _ (Nat.le_refl _) hi;obtain⟨os,hos,hcs,hds⟩:=id hs;have hTs:s.TypeIs (.ref sl) "slice":=⟨os,hos,hcs⟩
 unfold getItem
 try with_reducible refine wpAny_holding ?_
 first|refine wpAny_bind (wpAny_pure ?_)|skip
 refine wpAny_bind (wpAny_sequenceKey ht.typeIs (by decide) ?_);refine wpAny_bind (wpAny_callSpecial?_slot (name:=Str.ofString "__getitem__") ht.typeIs PyProof.Rows.slot_tuple_getitem
  (wpAny_call_entry PyProof.Rows.slot_tuple_getitem ht.typeIs entry_tuple_getitem ?_ (args_tuple_getitem _ _)))
 show wpAny _ _ (Builtin.Tuple.tupleItemsOf (.ref t) >>= _) _ _ s;refine wpAny_bind (tupleItemsOf_ ht ?_);refine wpAny_bind (wpAny_typeOf hTs ?_);rw[if_pos (by decide)];refine wpAny_bind (M6 hs pl pu ?_);have hno:¬((((sIx items.size 0 lo:Nat):Int)==0&&(1:Int)==1&&(sIx items.size items.size hi-sIx items.size 0 lo)==items.size)=true):=by
  intro q;rw[Bool.and_eq_true,Bool.and_eq_true] at q;have q1:((sIx items.size 0 lo:Nat):Int)=0:=eq_of_beq q.1.1;have q2:sIx items.size items.size hi-sIx items.size 0 lo=items.size:=eq_of_beq q.2;exact hw ⟨by omega,by omega⟩
 show wpAny _ _ (if(((sIx items.size 0 lo:Nat):Int)==0&&(1:Int)==1&&(sIx items.size items.size hi-sIx items.size 0 lo)==items.size)=true then _ else _) _ _ s;rw[if_neg hno,aO6]
 first
  |exact wpAny_bind (m:=Builtin.Tuple.tupleExact _) (wpAny_newObj_type (wpAny_pure ⟨_,rfl,wpAny_pure h⟩) htake)
  |exact wpAny_bind (m:=Builtin.Tuple.tupleExact _) (wpAny_newObj_type (wpAny_bind (wpAny_pure (wpAny_pure ⟨_,rfl,wpAny_pure h⟩))) htake)
  |exact wpAny_bind (wpAny_bind (m:=Builtin.Tuple.tupleExact _) (wpAny_newObj_type (wpAny_pure (wpAny_pure ⟨_,rfl,wpAny_pure h⟩)) htake))
  |exact wpAny_bind (wpAny_bind (m:=Builtin.Tuple.tupleExact _) (wpAny_newObj_type (wpAny_pure ⟨_,rfl,wpAny_pure h⟩) htake))
end
end HT
namespace L2
open PySem PySem.Spec PyProof.Rows
noncomputable abbrev TO:=St->Hp->(Option Int->Hp->Prop)->Prop
noncomputable def PO(X:Cx)(e:Option Expr)(t:TO):Prop :=
 ∀(pins:List (Addr×Obj)) (s:Shared) (σ:St) (H:Hp) (Q:Option Int->Hp->Prop),Inv X pins σ H s->t σ H Q ->
  wpAny (model X.prog X.w) X.A (evalPart e X.env) (fun u s'=>∃o H',Inv X pins σ H' s'/\IsPart u o/\Q o H') X.xe s
noncomputable def aW4:TO:=fun _ H Q=>Q none H
noncomputable def bi7(t:TE):TO:=fun σ H Q=>t σ H fun x H1=>∃i,x=.int i/\Q (some i) H1
section
variable{X:Cx}{e:Expr}{te:TE}{lo hi:Option Expr}{tl th:TO}{pos p2:Pos}
theorem X8:PO X none aW4:=by
 intro pins s σ H Q I h;rw[evalPart_none];exact wpAny_pure ⟨none,H,I,.none,h⟩
theorem av7(h:PE X e te):PO X (some e) (bi7 te):=by
 intro pins s σ H Q I hw;rw[evalPart_some];refine thn (h pins s σ H _ I hw) fun u s1 ⟨x,H1,I1,r1,q1⟩=>?_;obtain⟨i,rfl,q⟩:=q1;obtain⟨t,rfl⟩:=r1;exact⟨some i,H1,I1,.int i t,q⟩
noncomputable def SlR(X:Cx)(r:V->Option Int->Option Int->Hp->VK->Prop):Prop :=
 ∀(pins:List (Addr×Obj)) (s:Shared) (σ:St) (H:Hp) (x:V) (v vl vu:Value) (lo hi:Option Int) (sl:Addr) (Q:VK),Inv X pins σ H s->RelV x v->s.heap.IsSliceOf sl vl vu .none->IsPart vl lo->IsPart vu hi->r x lo hi H Q ->
  ∃T id,typeLookup (.type T) "__getitem__"=pure (some (.builtin id))/\s.TypeIs v T/\wpAny (model X.prog X.w) X.A (getItem v (.ref sl)) (EP X pins σ Q) X.xe s
theorem SlR.or{r r':V->Option Int->Option Int->Hp->VK->Prop}(h:SlR X r)(h':SlR X r'):SlR X (fun x lo hi H Q=>r x lo hi H Q\/r' x lo hi H Q):=by
 intro pins s σ H x v vl vu lo hi sl Q I rx hs pl pu q;rcases q with q|q
 ·exact h pins s σ H x v vl vu lo hi sl Q I rx hs pl pu q
 ·exact h' pins s σ H x v vl vu lo hi sl Q I rx hs pl pu q
noncomputable def tSl(r:V->Option Int->Option Int->Hp->VK->Prop)(te:TE)(tl th:TO):TE:=fun σ H Q=>te σ H fun x H1=>tl σ H1 fun l H2=>th σ H2 fun u H3=>r x l u H3 Q
theorem aa9{r:V->Option Int->Option Int->Hp->VK->Prop}(hr:SlR X r)(he:PE X e te)(hl:PO X lo tl)(hu:PO X hi th):PE X (.Subscript e (.Slice lo hi none p2) pos) (tSl r te tl th):=by
 intro pins s σ H Q I h;refine Subscript_ (thn (he pins s σ H _ I h) fun v s1 ⟨x,H1,I1,r1,q1⟩=>?_);refine wpAny_Slice (thn (hl pins s1 σ H1 _ I1 q1) fun vl s2 ⟨l,H2,I2,pl,q2⟩=>thn (hu pins s2 σ H2 _ I2 q2) fun vu s3 ⟨u,H3,I3,pu,q3⟩=>?_);rw[evalPart_none];refine wpAny_pure ?_;have I4:Inv X pins σ H3 { s3 with heap:=s3.heap.push { cls:=.type "slice",data:=.fields #[vl,vu,.none] } }:=I3.kept (t':=s3.toks) fun b ob q=>Heap.get?_push_of_some _ q;obtain⟨T,id,hT,ht,hg⟩:=hr pins { s3 with heap:=s3.heap.push { cls:=.type "slice",data:=.fields #[vl,vu,.none] } } σ H3 x v vl vu l u s3.heap.objs.size Q I4 r1 (Heap.IsSliceOf.new ..) pl pu q3;show wpAny (model X.prog X.w) X.A (subscriptTail e (.Slice lo hi none p2) v (.ref s3.heap.objs.size)) (EP X pins σ Q) X.xe { s3 with heap:=s3.heap.push { cls:=.type "slice",data:=.fields #[vl,vu,.none] } };exact tail_any (ops:=[.ref s3.heap.objs.size,v]) ht hT hg (by with_unfolding_all rfl)
noncomputable def N8(xs:List V)(lo hi:Option Int):List V:=(xs.drop (HT.sIx xs.length 0 lo)).take (HT.sIx xs.length xs.length hi-HT.sIx xs.length 0 lo)
theorem aa1(xs:List V)(lo hi:Option Int):(N8 xs lo hi).length<=xs.length:=by
 unfold N8;rw[List.length_take,List.length_drop];omega
noncomputable def bs5(K:PySem.W.Frag):V->Option Int->Option Int->Hp->VK->Prop:=fun x lo hi H Q=>∃a xs,x=.ref a/\SqT K H a xs /\
 ¬(HT.sIx xs.length 0 lo=0/\HT.sIx xs.length xs.length hi=xs.length)/\∀p,H p=none->Q (.ref p) (upd H p (.tup (N8 xs lo hi)))
theorem a72:SlR X (bs5 X.K):=by
 intro pins s σ H x v vl vu lo hi sl Q I rx hs pl pu h;obtain⟨a,xs,rfl,hx,hw,q⟩:=h;cases rx;obtain⟨its,r,ht,hz⟩:=I.tuple hx;have hlen:its.toArray.size=xs.length:=by rw[List.size_toArray];exact r.length.symm
 refine⟨"tuple",_,PyProof.Rows.slot_tuple_getitem.lookup,ht.typeIs,?_⟩;refine HT.Z4 ht hs pl pu (by rw[hlen];exact hw) ?_ (by rw[hlen];exact hz);rw[hlen];refine⟨.ref s.heap.objs.size,_,I.laid (t':=s.toks) (o:=.tup (N8 xs lo hi)) (fun b ob q=>Heap.get?_push_of_some _ q) (Nat.le_refl _) ?_,rfl,q _ (I.hok.fresh (Nat.le_refl _))⟩;exact⟨Nat.le_trans (aa1 xs lo hi) hz,_,(r.drop (HT.sIx xs.length 0 lo)).take (HT.sIx xs.length xs.length hi-HT.sIx xs.length 0 lo),B9.new _ _⟩
noncomputable def bk5(K:PySem.W.Frag):R2:=fun x y H Q=>∃a b xs ys,x=.ref a/\y=.ref b/\SqT K H a xs/\SqT K H b ys/\xs≠[]/\xs.length+ys.length<=sizeLine /\
 (ys=[]->Q (.ref a) H)/\(ys≠[]->∀p,H p=none->Q (.ref p) (upd H p (.tup (xs++ys))))
theorem Vals.L8{xs:List V}{us:List Value}(r:Vals xs us):us=[]↔xs=[]:=by
 cases r with
 |nil=>simp
 |cons _ _=>simp
theorem a10:OpR X (binaryOp .Add) (bk5 X.K):=by
 intro pins s σ H x y v u Q I rx ry h;obtain⟨a,b,xs,ys,rfl,rfl,ha,hb,hx,hz,q1,q2⟩:=h;cases rx;cases ry;obtain⟨its,r1,p1,_⟩:=I.tuple ha;obtain⟨its2,r2,p2,_⟩:=I.tuple hb;refine HT.a33 p1 p2 (fun z=>hx (r1.L8.mp z)) (fun z=>⟨.ref a,H,I,rfl,q1 (r2.L8.mp z)⟩) (fun z=>?_) (by rw[<- r1.length,<- r2.length];exact hz);refine⟨.ref s.heap.objs.size,_,I.laid (t':=s.toks) (o:=.tup (xs++ys)) (fun b ob q=>Heap.get?_push_of_some _ q) (Nat.le_refl _) ?_,rfl,q2 (fun w=>z (r2.L8.mpr w)) _ (I.hok.fresh (Nat.le_refl _))⟩;exact⟨by rw[List.length_append];exact hz,_,r1.append r2,B9.new _ _⟩
end
end L2
namespace L2
open PySem PySem.Spec PyProof.Rows
noncomputable def ixN(n:Nat)(i:Int):Option Nat:=if 0<=i then(if i<n then some i.toNat else none) else if -(n:Int)<=i then some (i+n).toNat else none
noncomputable def atI{α:Type}(xs:List α)(i:Int):Option α:=(ixN xs.length i).bind fun j=>xs[j]?
theorem aw5{n:Nat}{i:Int}{j:Nat}(h:ixN n i=some j):seqIndex? i n=some j/\j<n/\-(n:Int)<=i/\i<n:=by
 unfold ixN at h;by_cases h0:0<=i
 ·rw[if_pos h0] at h;by_cases h1:i<n
  ·rw[if_pos h1] at h;have e:i.toNat=j:=Option.some.inj h;exact⟨by rw[seqIndex_of h0 h1,e],by omega,by omega,h1⟩
  ·rw[if_neg h1] at h;cases h
 ·rw[if_neg h0] at h;by_cases h1:-(n:Int)<=i
  ·rw[if_pos h1] at h;have e:(i+n).toNat=j:=Option.some.inj h;exact⟨by rw[seqIndex_neg (by omega) h1,e],by omega,h1,by omega⟩
  ·rw[if_neg h1] at h;cases h
theorem ah7{α:Type}{xs:List α}{i:Int}{v:α}(h:atI xs i=some v):∃j,seqIndex? i xs.length=some j/\xs[j]?=some v/\j<xs.length/\-(xs.length:Int)<=i/\i<xs.length:=by
 unfold atI at h;cases e:ixN xs.length i with
 |none=>rw[e] at h;cases h
 |some j =>
  rw[e] at h;obtain⟨h1,h2,h3,h4⟩:=aw5 e;exact⟨j,h1,h,h2,h3,h4⟩
theorem o6{α:Type}{xs:List α}{j:Nat}{v:α}(h:xs[j]?=some v):atI xs (j:Int)=some v:=by
 have hj:j<xs.length:=(List.getElem?_eq_some_iff.mp h).1;have e:ixN xs.length (j:Int)=some j:=by
  unfold ixN;rw[if_pos (by omega),if_pos (by omega)];simp
 unfold atI;rw[e];exact h
noncomputable def ai0(b:Expr):Prop:=∀o i,subscripted b false o i=operate [o,i] (getItem o i)
noncomputable def IxR(X:Cx)(r:R2):Prop :=
 ∀(value slice:Expr) (pins:List (Addr×Obj)) (s:Shared) (σ:St) (H:Hp) (x y:V) (v u:Value) (Q:VK),Inv X pins σ H s->RelV x v->RelV y u->r x y H Q ->
  subscripted slice false v u=operate [v,u] (getItem v u)->wpAny (model X.prog X.w) X.A (subscriptTail value slice v u) (EP X pins σ Q) X.xe s
noncomputable def MtR(X:Cx)(id:String)(r:V->List V->Hp->VK->Prop):Prop :=
 ∀(pins:List (Addr×Obj)) (s:Shared) (σ:St) (H:Hp) (x:V) (xs:List V) (v:Value) (us:List Value) (Q:VK),Inv X pins σ H s->RelV x v->Vals xs us->r x xs H Q ->
  wpAny (model X.prog X.w) X.A (call (.builtin id) (v::us)) (EP X pins σ Q) X.xe s
section
variable{X:Cx}{a b:Expr}{ta tb:TE}{pos:Pos}
theorem IxR.or{r r':R2}(h:IxR X r)(h':IxR X r'):IxR X (fun x y H Q=>r x y H Q\/r' x y H Q):=by
 intro value slice pins s σ H x y v u Q I rx ry q hs;rcases q with q|q
 ·exact h value slice pins s σ H x y v u Q I rx ry q hs
 ·exact h' value slice pins s σ H x y v u Q I rx ry q hs
theorem MtR.or{id:String}{r r':V->List V->Hp->VK->Prop}(h:MtR X id r)(h':MtR X id r'):MtR X id (fun x xs H Q=>r x xs H Q\/r' x xs H Q):=by
 intro pins s σ H x xs v us Q I rx rs q;rcases q with q|q
 ·exact h pins s σ H x xs v us Q I rx rs q
 ·exact h' pins s σ H x xs v us Q I rx rs q
theorem aU2{r:R2}(hr:IxR X r)(ha:PE X a ta)(hb:PE X b tb)(hs:ai0 b):PE X (.Subscript a b pos) (tOp r ta tb):=by
 intro pins s σ H Q I h;exact Subscript_ (aS3 ha hb I h fun v u s2 x y H2 I2 rx ry q=>hr a b pins s2 σ H2 x y v u Q I2 rx ry q (hs _ _))
noncomputable def bt2(K:PySem.W.Frag):R2:=fun x y H Q=>∃p xs i v,x=.ref p/\y=.int i/\SqL K H p xs/\atI xs i=some v/\Q v H
noncomputable def bt0(K:PySem.W.Frag):R2:=fun x y H Q=>∃p xs i v,x=.ref p/\y=.int i/\SqT K H p xs/\atI xs i=some v/\Q v H
noncomputable def bt1:R2:=fun x y H Q=>∃z i c,x=.str z/\y=.int i/\z.length<=sizeLine/\atI z.cps.toList i=some c/\Q (.str ⟨#[c]⟩) H
theorem a21:IxR X (bt2 X.K):=by
 intro value slice pins s σ H x y v u Q I rx ry h hs;obtain⟨p,xs,i,z,rfl,rfl,hq,he,q⟩:=h;cases rx;obtain⟨t,rfl⟩:=ry;obtain⟨its,r,pl,hz⟩:=I.list hq;obtain⟨j,h1,h2,h3,h4,h5⟩:=ah7 he;obtain⟨w,ew,rw'⟩:=r.get h2;have hl:=r.length;have hn:=N6;have fin:EP X pins σ Q w s:=⟨z,H,I,rw',q⟩
 by_cases h0:0<=i
 ·have hj:i.toNat=j:=by
   rw[seqIndex_of h0 h5] at h1;exact Option.some.inj h1
  exact item_listR pl.isList h0 (by omega) (by rw[hj];simpa using ew) fin hs
 ·have hj:(i+(its.toArray.size:Int)).toNat=j:=by
   rw[seqIndex_neg (by omega) h4] at h1;rw[List.size_toArray,<- hl];exact Option.some.inj h1
  exact subscriptTail_builtinR (x:=w) pl.isList.typeIs slot_list_getitem.lookup
   (wpAny_getItem_list_neg (Q:=fun r s'=>r=w/\EP X pins σ Q r s') pl.isList (by omega) (by rw[List.size_toArray]<;>omega) (by omega) (by rw[hj];simpa using ew) ⟨rfl,fin⟩) hs
theorem be3:IxR X (bt0 X.K):=by
 intro value slice pins s σ H x y v u Q I rx ry h hs;obtain⟨p,xs,i,z,rfl,rfl,hq,he,q⟩:=h;cases rx;obtain⟨t,rfl⟩:=ry;obtain⟨its,r,pl,hz⟩:=I.tuple hq;obtain⟨j,h1,h2,h3,h4,h5⟩:=ah7 he;obtain⟨w,ew,rw'⟩:=r.get h2;have hl:=r.length;have hn:=N6;have fin:EP X pins σ Q w s:=⟨z,H,I,rw',q⟩
 exact subscriptTail_builtinR (x:=w) pl.typeIs slot_tuple_getitem.lookup
  (getItem_tuple (j:=j) (Q:=fun r s'=>r=w/\EP X pins σ Q r s') pl (by omega) (by omega) (by rw[List.size_toArray,<- hl];exact h1) (by simpa using ew) ⟨rfl,fin⟩) hs
theorem be4:IxR X bt1:=by
 intro value slice pins s σ H x y v u Q I rx ry h hs;obtain⟨z,i,c,rfl,rfl,hz,he,q⟩:=h;obtain⟨t,rfl⟩:=rx;obtain⟨t',rfl⟩:=ry;obtain⟨j,h1,h2,h3,h4,h5⟩:=ah7 he;have hl:z.cps.toList.length=z.length:=by simp[Str.length]
 rw[hl] at h1 h4 h5;have hn:=N6;exact tail_any (typeIs_str s z t) slot_str_getitem.lookup (getItem_str (c:=c) (by
  have e1:decide (i < -(2 ^ 63:Int))=false:=decide_eq_false (by omega);have e2:decide (i>=2 ^ 63)=false:=decide_eq_false (by omega);rw [e1,e2,Bool.or_false]) (by rw [h1];simpa using h2) ⟨.str ⟨#[c]⟩,H,I.tok _,⟨_,rfl⟩,q⟩) hs
theorem az9(its:List Value)(n j:Nat)(u:Value):Obj.mapSeq (·.setIfInBounds j u) { cls:=.type "list",data:=.seq its.toArray n }={ cls:=.type "list",data:=.seq (its.set j u).toArray n }:=by
 simp[Obj.mapSeq]
theorem Inv.lst{pins:List (Addr×Obj)}{σ:St}{H:Hp}{s:Shared}{p:Addr}{xs:List V}(I:Inv X pins σ H s)(h:H p=some (.lst xs)) :
  ∃(its:List Value) (n:Nat),Vals xs its/\s.heap.get? p=some { cls:=.type "list",data:=.seq its.toArray n }/\xs.length<=sizeLine:=by
 obtain⟨z,its,n,r,e⟩:=I.hok p _ h;exact⟨its,n,r,e,z⟩
theorem Inv.bd3{pins:List (Addr×Obj)}{σ:St}{H:Hp}{s:Shared}{p:Addr}{xs ys:List V}{its its':List Value}{n n':Nat}{f:Obj->Obj}(I:Inv X pins σ H s)(h:H p=some (.lst xs))(ho:s.heap.get? p=some { cls:=.type "list",data:=.seq its.toArray n })(hf:f { cls:=.type "list",data:=.seq its.toArray n }={ cls:=.type "list",data:=.seq its'.toArray n' })(r:Vals ys its')(hz:ys.length<=sizeLine)(t:Nat) :
  Inv X pins σ (upd H p (.lst ys)) { s with heap:=s.heap.update p f,toks:=t }:=by
 have e:(s.heap.update p f).get? p=some { cls:=.type "list",data:=.seq its'.toArray n' }:=by
  rw[Heap.get?_update_self f ho (by rw[hf]<;>rfl),hf]
 refine I.write (x:=p) (e:=p) (by rw[h];trivial) (.inl rfl) (fun b u hb q=>(Heap.get?_update_other _ _ (Ne.symm hb)).trans q) ⟨_,e⟩ ?_;exact⟨hz,its',n',r,e⟩
noncomputable def bk2:V->V->V->Hp->(Hp->Prop)->Prop:=fun o i v H Q=>∃p xs k j,o=.ref p/\i=.int k/\H p=some (.lst xs)/\ixN xs.length k=some j/\Q (upd H p (.lst (xs.set j v)))
theorem set_list:aS8 X bk2:=by
 intro pins s σ H o i v ov iv u Q I ro ri rv h;obtain⟨p,xs,k,j,rfl,rfl,hp,hj,q⟩:=h;cases ro;obtain⟨t,rfl⟩:=ri;obtain⟨its,n,r,ho,hz⟩:=I.lst hp;obtain⟨h1,h2,h3,h4⟩:=aw5 hj;have hl:=r.length;have hn:=N6;have I':Inv X pins σ (upd H p (.lst (xs.set j v))) { s with heap:=s.heap.update p (Obj.mapSeq (·.setIfInBounds j u)) } :=
  I.bd3 hp ho (az9 its n j u) (r.set rv j) (by rw[List.length_set];exact hz) s.toks
 by_cases h0:0<=k
 ·have hk:k.toNat=j:=by
   rw[seqIndex_of h0 h4] at h1;exact Option.some.inj h1
  exact PySem.W.ki_setAt ho h0 (by omega) (by rw[List.size_toArray,<- hl];exact h4) (by rw[hk];exact⟨_,I',q⟩)
 ·have hk:(k+(its.toArray.size:Int)).toNat=j:=by
   rw[seqIndex_neg (by omega) h3] at h1;rw[List.size_toArray,<- hl];exact Option.some.inj h1
  exact PySem.W.ki_setBack ho (by omega) (by rw[List.size_toArray,<- hl];exact h3) (by omega) (by rw[hk];exact⟨_,I',q⟩)
theorem ao4(lo hi:Option Int)(n:Nat):(sliceBounds lo hi none n).1=((HT.sIx n 0 lo:Nat):Int)/\(sliceBounds lo hi none n).2.1=((HT.sIx n n hi:Nat):Int)/\(sliceBounds lo hi none n).2.2=1:=by
 refine⟨?_,?_,rfl⟩
 ·cases lo with
  |none=>simp[sliceBounds,HT.sIx]
  |some i =>
   simp only[sliceBounds,HT.sIx,Option.getD_none,show(1:Int)>0 by decide,if_true];by_cases h:i<0
   ·simp only[h,if_true]<;>omega
   ·simp only[h,if_false]<;>omega
 ·cases hi with
  |none=>simp[sliceBounds,HT.sIx]
  |some i =>
   simp only[sliceBounds,HT.sIx,Option.getD_none,show(1:Int)>0 by decide,if_true];by_cases h:i<0
   ·simp only[h,if_true]<;>omega
   ·simp only[h,if_false]<;>omega
theorem al2(its:List Value)(lo hi:Option Int):slicePick its.toArray lo hi none=((its.drop (HT.sIx its.length 0 lo)).take (HT.sIx its.length its.length hi-HT.sIx its.length 0 lo)).toArray:=by
 obtain⟨h1,h2,h3⟩:=ao4 lo hi its.toArray.size;unfold slicePick;rw[h1,h2,h3];simp only[sliceRange_one,pick_run,List.size_toArray]<;>rfl
noncomputable def bs6(K:PySem.W.Frag):V->Option Int->Option Int->Hp->VK->Prop:=fun x lo hi H Q=>∃a xs,x=.ref a/\SqL K H a xs/\∀p,H p=none->Q (.ref p) (upd H p (.lst (N8 xs lo hi)))
theorem aX2:SlR X (bs6 X.K):=by
 intro pins s σ H x v vl vu lo hi sl Q I rx hs pl pu h;obtain⟨a,xs,rfl,hx,q⟩:=h;cases rx;obtain⟨its,r,ht,hz⟩:=I.list hx;have hlen:=r.length;refine⟨"list",_,slot_list_getitem.lookup,ht.isList.typeIs,?_⟩;refine wpAny_getItem_list_slice ht.isList hs pl pu .none (by simp) ?_ (by rw[List.size_toArray]<;>omega);rw[al2,<- hlen];refine⟨.ref s.heap.objs.size,_,I.laid (t':=s.toks) (o:=.lst (N8 xs lo hi)) (fun b ob q=>Heap.get?_push_of_some _ q) (Nat.le_refl _) ?_,rfl,q _ (I.hok.fresh (Nat.le_refl _))⟩;exact⟨Nat.le_trans (aa1 xs lo hi) hz,_,0,(r.drop (HT.sIx xs.length 0 lo)).take (HT.sIx xs.length xs.length hi-HT.sIx xs.length 0 lo),Heap.get?_push_size _ rfl⟩
noncomputable def E4:V->Bool
 |.non=>true
 |.bl _=>true
 |.int _=>true
 |.str _=>true
 |_=>false
noncomputable def eqV:V->V->Bool
 |.non,.non=>true
 |.bl a,.bl b=>a==b
 |.bl a,.int b=>(if a then 1 else 0)==b
 |.int a,.bl b=>a==(if b then 1 else 0)
 |.int a,.int b=>a==b
 |.str a,.str b=>a==b
 |_,_=>false
theorem bf5{A:Around}{s:Shared}{y x:V}{u v:Value}(ry:RelV y u)(rx:RelV x v)(fy:E4 y=true)(fx:E4 x=true):SeqAt.EqAt A s u v (eqV y x):=by
 cases y with
 |non =>
  cases ry;cases x with
  |non=>cases rx;exact SeqAt.EqAt.same _
  |bl b=>cases rx;exact SeqAt.EqAt.none_bool b
  |int b=>obtain⟨t,rfl⟩:=rx;exact SeqAt.EqAt.none_int b t
  |str b=>obtain⟨t,rfl⟩:=rx;exact SeqAt.EqAt.none_str b t
  |_=>exact absurd (show false=true from fx) Bool.false_ne_true
 |bl a =>
  cases ry;cases x with
  |non=>cases rx;exact SeqAt.EqAt.bool_none a
  |bl b=>cases rx;exact SeqAt.EqAt.bool_bool a b
  |int b=>obtain⟨t,rfl⟩:=rx;exact SeqAt.EqAt.bool_int a b t
  |str b=>obtain⟨t,rfl⟩:=rx;exact SeqAt.EqAt.bool_str a b t
  |_=>exact absurd (show false=true from fx) Bool.false_ne_true
 |int a =>
  obtain⟨t',rfl⟩:=ry;cases x with
  |non=>cases rx;exact SeqAt.EqAt.int_none a t'
  |bl b=>cases rx;exact SeqAt.EqAt.int_bool a t' b
  |int b=>obtain⟨t,rfl⟩:=rx;exact SeqAt.EqAt.int_int a t' b t
  |str b=>obtain⟨t,rfl⟩:=rx;exact SeqAt.EqAt.int_str a t' b t
  |_=>exact absurd (show false=true from fx) Bool.false_ne_true
 |str a =>
  obtain⟨t',rfl⟩:=ry;cases x with
  |non=>cases rx;exact SeqAt.EqAt.str_none a t'
  |bl b=>cases rx;exact SeqAt.EqAt.str_bool a t' b
  |int b=>obtain⟨t,rfl⟩:=rx;exact SeqAt.EqAt.str_int a t' b t
  |str b=>obtain⟨t,rfl⟩:=rx;exact SeqAt.EqAt.str_str a t' b t
  |_=>exact absurd (show false=true from fx) Bool.false_ne_true
 |_=>exact absurd (show false=true from fy) Bool.false_ne_true
noncomputable def eqU(x:V)(u:Value):Bool:=match u with
 |.none=>eqV .non x
 |.bool b=>eqV (.bl b) x
 |.int i _=>eqV (.int i) x
 |.str z _=>eqV (.str z) x
 |_=>false
theorem ar2{x y:V}{u:Value}(r:RelV y u)(f:E4 y=true):eqU x u=eqV y x:=by
 cases y with
 |non=>cases r;rfl
 |bl b=>cases r;rfl
 |int i=>obtain⟨t,rfl⟩:=r;rfl
 |str z=>obtain⟨t,rfl⟩:=r;rfl
 |_=>exact absurd (show false=true from f) Bool.false_ne_true
theorem ab1{A:Around}{s:Shared}{x:V}{v:Value}(rx:RelV x v)(fx:E4 x=true):∀{xs:List V} {us:List Value},Vals xs us->xs.all E4=true->∀u∈us,SeqAt.EqAt A s u v (eqU x u)
 |_,_,.nil,_=>fun u hu=>by cases hu
 |y::xs,u::us,.cons r t,f=>fun u' hu=>by
  rw[List.all_cons,Bool.and_eq_true] at f;rcases List.mem_cons.mp hu with rfl|hu
  ·rw[ar2 r f.1];exact bf5 r rx f.1 fx
  ·exact ab1 rx fx t f.2 u' hu
theorem as7:i8 X (.builtin "len") (fun xs H Q=>∃p ys,xs=[.ref p]/\(SqL X.K H p ys\/SqT X.K H p ys)/\Q (.int ys.length) H):=by
 intro pins s σ H xs us Q I r h;obtain⟨p,ys,rfl,hq,q⟩:=h;obtain⟨u,rfl,rx⟩:=vals1 r;cases rx;have hn:=N6;rcases hq with hq|hq
 ·obtain⟨its,r',pl,hz⟩:=I.list hq;have hlen:=r'.length;exact Calls.call_len_list pl.isList (by simp only[List.size_toArray]<;>omega) ⟨.int ys.length,H,I.tok _,⟨s.toks+1,by rw[List.size_toArray,hlen]⟩,q⟩
 ·obtain⟨its,r',pl,hz⟩:=I.tuple hq;have hlen:=r'.length;exact len_tuple pl (by simp only[List.size_toArray]<;>omega) ⟨.int ys.length,H,I.tok _,⟨s.toks+1,by rw[List.size_toArray,hlen]⟩,q⟩
theorem as6:i8 X (.builtin "len") (fun xs H Q=>∃z,xs=[.str z]/\z.length<=sizeLine/\Q (.int z.length) H):=by
 intro pins s σ H xs us Q I r h;obtain⟨z,rfl,hz,q⟩:=h;obtain⟨u,rfl,t,rfl⟩:=vals1 r;have hn:=N6;exact len_str (by omega) ⟨.int z.length,H,I.tok _,⟨_,rfl⟩,q⟩
theorem i8.or{f:Value}{r r':List V->Hp->VK->Prop}(h:i8 X f r)(h':i8 X f r'):i8 X f (fun xs H Q=>r xs H Q\/r' xs H Q):=by
 intro pins s σ H xs us Q I rs q;rcases q with q|q
 ·exact h pins s σ H xs us Q I rs q
 ·exact h' pins s σ H xs us Q I rs q
theorem as5:i8 X (.type "list") (fun xs H Q=>∃p ys,xs=[.ref p]/\(SqL X.K H p ys\/SqT X.K H p ys)/\∀l,H l=none->Q (.ref l) (upd H l (.lst ys))):=by
 intro pins s σ H xs us Q I r h;obtain⟨p,ys,rfl,hq,q⟩:=h;obtain⟨u,rfl,rx⟩:=vals1 r;cases rx;have fin:∀(its:List Value),Vals ys its->ys.length<=sizeLine->∀(h':Heap) (c':Nat),(∀b o',s.heap.get? b=some o'->h'.get? b=some o') ->
   h'.get? s.heap.objs.size=some { cls:=.type "list",dict:=none,data:=.seq its.toArray c',slots:=#[] }->EP X pins σ Q (.ref s.heap.objs.size) { s with heap:=h' }:=fun its r' hz h' c' kp e =>
  ⟨.ref s.heap.objs.size,_,I.laid (t':=s.toks) kp (Nat.le_refl _) (show j4 X.prog X.w _ h' _ (.lst ys) from⟨hz,its,c',r',e⟩),rfl,q _ (I.hok.fresh (Nat.le_refl _))⟩
 rcases hq with hq|hq
 ·obtain⟨its,r',pl,hz⟩:=I.list hq;have hlen:=r'.length;obtain⟨o,ho,hc,n,hd⟩:=pl.isList;exact call_list_seq p (.inl rfl) ho hc hd (fun h' c' kp e=>fin its r' hz h' c' kp e) (by simp only[List.size_toArray]<;>omega)
 ·obtain⟨its,r',pl,hz⟩:=I.tuple hq;have hlen:=r'.length;obtain⟨o,ho,hc,n,hd⟩:=pl;exact call_list_seq p (.inr rfl) ho hc hd (fun h' c' kp e=>fin its r' hz h' c' kp e) (by simp only[List.size_toArray]<;>omega)
theorem al5:i8 X (.type "tuple") (fun xs H Q=>∃p ys,xs=[.ref p]/\((SqL X.K H p ys/\∀l,H l=none->Q (.ref l) (upd H l (.tup ys)))\/(SqT X.K H p ys/\Q (.ref p) H))):=by
 intro pins s σ H xs us Q I r h;obtain⟨p,ys,rfl,h⟩:=h;obtain⟨u,rfl,rx⟩:=vals1 r;cases rx;rcases h with⟨hq,q⟩|⟨hq,q⟩
 ·obtain⟨its,r',pl,hz⟩:=I.list hq;have hlen:=r'.length;refine call_tuple_list pl.isList (fun h' kp=>?_) (by simp only[List.size_toArray]<;>omega);have I1:Inv X pins σ H { s with heap:=h' }:=I.kept (t':=s.toks) kp;have I2:Inv X pins σ (upd H h'.objs.size (.tup ys)) { s with heap:=h'.push { cls:=.type "tuple",data:=.seq its.toArray } } :=
   I1.laid (t':=s.toks) (fun b o e=>Heap.get?_push_of_some _ e) (Nat.le_refl _) (show j4 X.prog X.w _ _ _ (.tup ys) from⟨hz,its,r',B9.new _ _⟩)
  exact⟨.ref h'.objs.size,_,I2,rfl,q _ (I1.hok.fresh (Nat.le_refl _))⟩
 ·obtain⟨its,r',pl,hz⟩:=I.tuple hq;exact call_tuple_same pl ⟨.ref p,H,I,rfl,q⟩
noncomputable def tyV(K:PySem.W.Frag)(T:String)(x:V)(H:Hp):Prop:=match x with
 |.str _=>T="str"
 |.int _=>T="int"
 |.ref p=>(T="list"/\∃xs,SqL K H p xs)\/(T="tuple"/\∃o,K.lookup p=some o/\o.cls=.type "tuple"/\o.dict=none) \/
   (T="dict"/\((∃kvs,H p=some (.dK kvs))\/∃kvs,H p=some (.dT kvs)))\/(T="set"/\∃S n,H p=some (.set S n))
 |_=>False
theorem aD1{pins:List (Addr×Obj)}{σ:St}{H:Hp}{s:Shared}{T:String}{x:V}{v:Value}(I:Inv X pins σ H s)(r:RelV x v)(ty:tyV X.K T x H) :
  s.TypeIs v T/\∀a,v=.ref a->∃ob,s.heap.get? a=some ob/\ob.dict=none:=by
 cases x with
 |str z =>
  obtain⟨t,rfl⟩:=r;cases (show T="str" from ty);exact⟨typeIs_str s z t,fun _ e=>nomatch e⟩
 |int i =>
  obtain⟨t,rfl⟩:=r;cases (show T="int" from ty);exact⟨typeIs_int s i t,fun _ e=>nomatch e⟩
 |ref p =>
  cases r;rcases ty with⟨rfl,xs,hq⟩|⟨rfl,o,hk,hc,hd⟩|⟨rfl,hk⟩|⟨rfl,S,n,hk⟩
  ·obtain⟨its,_,pl,_⟩:=I.list hq;refine⟨pl.isList.typeIs,fun a e=>?_⟩;cases e;obtain⟨o,n,e,c,hd,_⟩:=pl;exact⟨o,e,hd⟩
  ·refine⟨⟨o,I.kIn p o hk,hc⟩,fun a e=>?_⟩;cases e;exact⟨o,I.kIn _ o hk,hd⟩
  ·have z:∃o,s.heap.get? p=some o/\o.ExactDict:=by
    rcases hk with⟨kvs,hk⟩|⟨kvs,hk⟩
    ·obtain⟨_,_,_,_,o,_,_,e,ex,_⟩:=I.hok p _ hk;exact⟨o,e,ex⟩
    ·obtain⟨_,_,_,_,o,_,_,e,ex,_⟩:=I.hok p _ hk;exact⟨o,e,ex⟩
   obtain⟨o,e,ex⟩:=z;refine⟨⟨o,e,ex.1⟩,fun a e2=>?_⟩;cases e2;exact⟨o,e,ex.2.1⟩
  ·obtain⟨o,_,_,_,e,ex,_⟩:=I.hok p _ hk;refine⟨⟨o,e,ex.1⟩,fun a e2=>?_⟩;cases e2;exact⟨o,e,ex.2.1⟩
 |_=>exact False.elim ty
noncomputable def br7(K:PySem.W.Frag)(T:String)(r:V->List V->Hp->VK->Prop)(to:TE):TE:=fun σ H Q=>to σ H fun x H1=>tyV K T x H1/\r x [] H1 Q
noncomputable def tBM(K:PySem.W.Frag)(T:String)(r:V->List V->Hp->VK->Prop)(to:TE)(t:TA):TE:=fun σ H Q=>to σ H fun x H1=>tyV K T x H1/\t σ H1 fun xs H2=>r x xs H2 Q
variable{o e:Expr}{es:List Expr}{to:TE}{t:TA}{name:Str}{apos cpos:Pos}{T id:String}{r:V->List V->Hp->VK->Prop}
theorem bb5(pa:PlainAttrs T)(slot:Slot T name id)(hty:typeOf (.builtin id)=pure (.type "method_descriptor"))(hm:MtR X id r)(ho:PE X o to)(hbase:attributeBase o name X.env (eval o X.env)=eval o X.env:=by rfl)(hline:(apos.endLine==cpos.line)=true:=by rfl):PE X (.Call (.Attribute o name apos) [] [] cpos) (br7 X.K T r to):=by
 intro pins s σ H Q I h;refine wpAny_Call_method0_late hbase hline (thn (ho pins s σ H _ I h) fun v s1 ⟨x,H1,I1,r1,ty,q1⟩=>?_);obtain⟨h1,h2⟩:=aD1 I1 r1 ty;exact⟨T,id,pa,slot,hty,h1,h2,Calls.callWith_builtin rfl (PySem.evalArgs_none (hm pins s1 σ H1 x [] v [] Q I1 r1 .nil q1))⟩
theorem bl2(pa:PlainAttrs T)(slot:Slot T name id)(hty:typeOf (.builtin id)=pure (.type "method_descriptor"))(hm:MtR X id r)(ho:PE X o to)(ha:PA X (e::es) t)(hbase:attributeBase o name X.env (eval o X.env)=eval o X.env:=by rfl)(hfew:((backTo cpos (starEach (e :: es) X.env)).all (fun x=>!x.1) && (backToKw cpos (keywordEach [] X.env)).all (fun x=>x.1.isSome)
   && decide ((e :: es).length + ([]:List Keyword).length + (if ([]:List Keyword).isEmpty then 0 else 1) < 30))=true:=by rfl)(hline:(apos.endLine==cpos.line)=true:=by rfl)(hs:starEach (e::es) X.env=(false,eval e X.env)::starEach es X.env:=by rfl)(hplain:(backTo cpos (starEach es X.env)).any (·.1)=false:=by rfl) :
  PE X (.Call (.Attribute o name apos) (e::es) [] cpos) (tBM X.K T r to t):=by
 intro pins s σ H Q I h;refine wpAny_Call_method_late hbase hfew hline rfl (thn (ho pins s σ H _ I h) fun v s1 ⟨x,H1,I1,r1,ty,q1⟩=>?_);obtain⟨h1,h2⟩:=aD1 I1 r1 ty;refine⟨T,id,pa,slot,hty,h1,h2,?_⟩;have hA:=ha cpos pins s1 σ H1 _ I1 q1;rw[hs] at hA ⊢;refine Calls.callWith_builtin (by show(false||(backTo cpos (starEach es X.env)).any (·.1))=false;rw[hplain]<;>rfl) (Calls.evalArgs_plain ?_);exact thn hA fun us s2 ⟨vs,H2,I2,r2,q2⟩=>hm pins s2 σ H2 x vs v us Q I2 r1 r2 q2
end
end L2
namespace L2
open PySem PySem.Spec PyProof.Rows
noncomputable def MtM(X:Cx)(id:String)(r:V->List V->Hp->VK->Prop):Prop :=
 ∀(pins:List (Addr×Obj)) (s:Shared) (σ:St) (H:Hp) (x:V) (xs:List V) (v:Value) (us:List Value) (Q:VK),Inv X pins σ H s->RelV x v->Vals xs us->r x xs H Q ->
  wpAny (model X.prog X.w) X.A (call (.builtin id) (v::us)) (EP X pins σ Q) X.xe s
theorem Vals.one:∀{x:V} {us:List Value},Vals [x] us->∃u,us=[u]/\RelV x u
 |_,_,.cons r .nil=>⟨_,rfl,r⟩
theorem Vals.two:∀{x y:V} {us:List Value},Vals [x,y] us->∃u v,us=[u,v]/\RelV x u/\RelV y v
 |_,_,_,.cons r (.cons q .nil)=>⟨_,_,rfl,r,q⟩
theorem Vals.zero:∀{us:List Value},Vals [] us->us=[]
 |_,.nil=>rfl
theorem Vals.dropLast{xs:List V}{us:List Value}(h:Vals xs us):Vals xs.dropLast us.dropLast:=by
 induction h with
 |nil=>exact .nil
 |cons r t ih =>
  cases t with
  |nil=>exact .nil
  |cons q t'=>exact .cons r ih
theorem Vals.eraseIdx:∀{xs:List V} {us:List Value} (i:Nat),Vals xs us->Vals (xs.eraseIdx i) (us.eraseIdx i)
 |_,_,_,.nil=>.nil
 |_,_,0,.cons _ t=>t
 |_,_,i+1,.cons r t=>.cons r (Vals.eraseIdx i t)
theorem Vals.reverse{xs:List V}{us:List Value}(h:Vals xs us):Vals xs.reverse us.reverse:=by
 induction h with
 |nil=>exact .nil
 |cons r t ih=>rw[List.reverse_cons,List.reverse_cons];exact Vals.append ih (.cons r .nil)
theorem Vals.rep{xs:List V}{us:List Value}(h:Vals xs us):∀k:Nat,Vals (List.replicate k xs).flatten (List.replicate k us).flatten
 |0=>.nil
 |k+1=>by
  rw[List.replicate_succ,List.replicate_succ,List.flatten_cons,List.flatten_cons];exact Vals.append h (Vals.rep h k)
theorem aB2{α:Type}(l:List α):l.eraseIdx (l.length-1)=l.dropLast:=by
 induction l with
 |nil=>rfl
 |cons a r ih =>
  cases r with
  |nil=>rfl
  |cons b r =>
   have e:(a::b::r).length-1=((b::r).length-1)+1:=by
    have h1:(a::b::r).length=r.length+2:=rfl;have h2:(b::r).length=r.length+1:=rfl;omega
   rw[e,List.eraseIdx_cons_succ,ih]
   all_goals rfl
theorem aj4{α:Type}:∀(l:List α) (i:Nat),(l.eraseIdx i).length<=l.length
 |[],_=>Nat.le_refl _
 |_::_,0=>Nat.le_succ _
 |_::r,i+1=>Nat.succ_le_succ (aj4 r i)
theorem foldl_rep(its:List Value):∀(k:Nat) (acc:List Value),
  List.foldl (fun x1 x2=>x1++x2) acc.toArray (List.replicate k its.toArray)=(acc++(List.replicate k its).flatten).toArray
 |0,acc=>by simp
 |k+1,acc=>by
  have e:acc.toArray++its.toArray=(acc++its).toArray:=by simp
  have e2:(acc++its)++(List.replicate k its).flatten=acc++(List.replicate (k+1) its).flatten:=by
   rw[List.replicate_succ,List.flatten_cons,List.append_assoc]
  rw[<- e2,<- foldl_rep its k (acc++its),<- e,List.replicate_succ,List.foldl_cons]
section
variable{X:Cx}{pins:List (Addr×Obj)}{σ:St}{H:Hp}{s:Shared}{l b:Addr}{xs ys zs:List V}
theorem Inv.aq0{its its':List Value}{n:Nat}{f:Array Value->Array Value}{t':Nat}(I:Inv X pins σ H s)(hH:H l=some (.lst xs))(e:s.heap.get? l=some { cls:=.type "list",data:=.seq its.toArray n })(hf:f its.toArray=its'.toArray)(hv:Vals ys its')(hz:ys.length<=sizeLine) :
  Inv X pins σ (upd H l (.lst ys)) { s with heap:=s.heap.update l (Obj.mapSeq f),toks:=t' }:=by
 have q:=PySem.IsL.update e f;rw[hf] at q;refine I.write (x:=l) (e:=l) (by rw[hH];exact trivial) (.inl rfl) (fun b' u hb hu=>(Heap.get?_update_other s.heap (Obj.mapSeq f) (Ne.symm hb)).trans hu) ⟨_,q⟩ ?_;exact⟨hz,its',_,hv,q⟩
theorem Inv.bd6{its:List Value}{t':Nat}(I:Inv X pins σ H s)(hv:Vals ys its)(hz:ys.length<=sizeLine) :
  Inv X pins σ (upd H s.heap.objs.size (.lst ys)) { s with heap:=s.heap.push { cls:=.type "list",data:=.seq its.toArray },toks:=t' } :=
 I.laid (fun _ _ q=>Heap.get?_push_of_some _ q) (Nat.le_refl _) ⟨hz,its,0,hv,Heap.get?_push_size _ rfl⟩
theorem Inv.fresh(I:Inv X pins σ H s):H s.heap.objs.size=none:=I.hok.fresh (Nat.le_refl _)
theorem Inv.T2(I:Inv X pins σ H s)(hH:H l=some (.lst xs)):xs.length<=sizeLine/\∃(its:List Value) (n:Nat),Vals xs its/\xs.length=its.length/\s.heap.get? l=some { cls:=.type "list",data:=.seq its.toArray n }:=by
 obtain⟨z,its,n,r,e⟩:=I.hok l _ hH;exact⟨z,its,n,r,r.length,e⟩
theorem ap2{n:Nat}(h:n<=sizeLine):Builtin.List.listTooLong n=false:=by
 unfold Builtin.List.listTooLong;exact decide_eq_false (by omega)
end
section
variable{X:Cx}
noncomputable def aY7:V->List V->Hp->VK->Prop:=fun x vs H Q=>∃l xs y,x=.ref l/\vs=[y]/\H l=some (.lst xs)/\xs.length<sizeLine/\Q .non (upd H l (.lst (xs++[y])))
theorem aH5:MtM X "list.append" aY7:=by
 intro pins s σ H x vs v us Q I rx rv h;obtain⟨l,xs,y,rfl,rfl,hH,hz,q⟩:=h;cases rx;obtain⟨u,rfl,ru⟩:=rv.one;obtain⟨z,its,n,r,hl,e⟩:=I.T2 hH;refine call_meets F.slot_list_append ⟨_,e,rfl⟩ F.entry_list_append (F.args_list_append_2 _ _) (PySem.list_append l its.toArray n u (by rw[List.size_toArray];omega)) ⟨e,?_⟩;refine⟨.non,_,I.aq0 (its':=its++[u]) hH e (by simp) (r.append (.cons ru .nil)) ?_,rfl,q⟩;rw[List.length_append,List.length_singleton];omega
noncomputable def aY6:V->List V->Hp->VK->Prop:=fun x vs H Q=>∃l b xs zs,x=.ref l/\vs=[.ref b]/\H l=some (.lst xs)/\H b=some (.lst zs)/\xs.length+zs.length<=sizeLine/\Q .non (upd H l (.lst (xs++zs)))
theorem aH4:MtM X "list.extend" aY6:=by
 intro pins s σ H x vs v us Q I rx rv h;obtain⟨l,b,xs,zs,rfl,rfl,hH,hB,hz,q⟩:=h;cases rx;obtain⟨u,rfl,ru⟩:=rv.one;cases ru;obtain⟨z,its,n,r,hl,e⟩:=I.T2 hH;obtain⟨z2,its2,n2,r2,hl2,e2⟩:=I.T2 hB;have hsz:its.toArray.size+its2.toArray.size<=sizeLine:=by rw[List.size_toArray,List.size_toArray];omega
 have hlong:¬(!its.toArray.isEmpty&&Builtin.List.listTooLong (its.toArray.size+its2.toArray.size))=true:=by
  rw[ap2 hsz,Bool.and_false];exact Bool.false_ne_true
 refine call_meets F.slot_list_extend ⟨_,e,rfl⟩ F.entry_list_extend (F.args_list_extend_2 _ _)
  (AutoSeq1.list_extend_list_list_0 l its.toArray n b its2.toArray n2 hlong (by rw[List.size_toArray];omega) (by omega)) ⟨e,e2,?_⟩
 refine⟨.non,_,I.aq0 (its':=its++its2) hH e (by simp) (r.append r2) ?_,rfl,q⟩;rw[List.length_append];omega
noncomputable def bs9:V->List V->Hp->VK->Prop:=fun x vs H Q=>∃l xs y,x=.ref l/\vs=[]/\H l=some (.lst xs)/\xs[xs.length-1]?=some y/\Q y (upd H l (.lst xs.dropLast))
theorem bc9:MtM X "list.pop" bs9:=by
 intro pins s σ H x vs v us Q I rx rv h;obtain⟨l,xs,y,rfl,rfl,hH,hy,q⟩:=h;cases rx;have hus:=rv.zero;subst hus;obtain⟨z,its,n,r,hl,e⟩:=I.T2 hH;obtain⟨u,hu,ru⟩:=r.get hy;have hy':its.toArray[its.toArray.size-1]?=some u:=by
  show its.toArray[its.length-1]?=some u;rw[<- Array.getElem?_toList,<- hl];exact hu
 refine call_meets F.slot_list_pop ⟨_,e,rfl⟩ F.entry_list_pop (F.args_list_pop_1 _) (MeetsSeq.list_pop_last l its.toArray n u hy' (by rw[List.size_toArray];omega)) ⟨e,?_⟩;refine⟨y,_,I.aq0 (its':=its.dropLast) hH e ?_ r.dropLast ?_,ru,q⟩
 ·show its.toArray.eraseIdxIfInBounds (its.toArray.size-1)=its.dropLast.toArray;rw[List.size_toArray,List.eraseIdxIfInBounds_toArray,aB2]
 ·rw[List.length_dropLast];omega
noncomputable def a92:V->List V->Hp->VK->Prop:=fun x vs H Q=>∃l xs i k y,x=.ref l/\vs=[.int i]/\H l=some (.lst xs)/\-(2 ^ 63)<=i/\i<2 ^ 63/\seqIndex? i xs.length=some k/\xs[k]?=some y/\Q y (upd H l (.lst (xs.eraseIdx k)))
theorem aQ0:MtM X "list.pop" a92:=by
 intro pins s σ H x vs v us Q I rx rv h;obtain⟨l,xs,i,k,y,rfl,rfl,hH,h1,h2,hk,hy,q⟩:=h;cases rx;obtain⟨u,rfl,ru⟩:=rv.one;obtain⟨t,rfl⟩:=ru;obtain⟨z,its,n,r,hl,e⟩:=I.T2 hH;obtain⟨w,hw,rw'⟩:=r.get hy;refine call_meets F.slot_list_pop ⟨_,e,rfl⟩ F.entry_list_pop (F.args_list_pop_2 _ _)
  (MeetsSeq.list_pop_at l its.toArray n i t k w (fitsIndex_both h1 h2) (by rw[List.size_toArray,<- hl];exact hk) (by rw[<- Array.getElem?_toList];exact hw) (by rw[List.size_toArray];omega)) ⟨e,?_⟩
 refine⟨y,_,I.aq0 (its':=its.eraseIdx k) hH e ?_ (r.eraseIdx k) ?_,rw',q⟩
 ·show its.toArray.eraseIdxIfInBounds k=(its.eraseIdx k).toArray;rw[List.eraseIdxIfInBounds_toArray]
 ·have:=aj4 xs k;omega
noncomputable def a93:V->List V->Hp->VK->Prop:=fun x vs H Q=>∃l xs,x=.ref l/\vs=[]/\H l=some (.lst xs)/\Q .non (upd H l (.lst []))
theorem aQ1:MtM X "list.clear" a93:=by
 intro pins s σ H x vs v us Q I rx rv h;obtain⟨l,xs,rfl,rfl,hH,q⟩:=h;cases rx;have hus:=rv.zero;subst hus;obtain⟨z,its,n,r,hl,e⟩:=I.T2 hH;refine call_meets F.slot_list_clear ⟨_,e,rfl⟩ F.entry_list_clear (F.args_list_clear_1 _) (AutoSeq1.list_clear_list_0 l its.toArray n (by rw[List.size_toArray];omega)) ⟨e,?_⟩;exact⟨.non,_,I.aq0 (its':=[]) (ys:=[]) hH e rfl .nil (Nat.zero_le _),rfl,q⟩
noncomputable def bt3:R2:=fun x y H Q=>∃l b xs zs,x=.ref l/\y=.ref b/\H l=some (.lst xs)/\H b=some (.lst zs)/\xs.length+zs.length<=sizeLine/\∀p,H p=none->Q (.ref p) (upd H p (.lst (xs++zs)))
theorem bc3:OpR X (binaryOp .Add) bt3:=by
 intro pins s σ H x y v u Q I rx ry h;obtain⟨l,b,xs,zs,rfl,rfl,hH,hB,hz,q⟩:=h;cases rx;cases ry;obtain⟨z,its,n,r,hl,e⟩:=I.T2 hH;obtain⟨z2,its2,n2,r2,hl2,e2⟩:=I.T2 hB;refine PySem.P.add_list e e2 ?_ (by rw[List.size_toArray,List.size_toArray];omega);have ea:its.toArray++its2.toArray=(its++its2).toArray:=by simp
 rw[ea];exact⟨.ref _,_,I.bd6 (t':=s.toks) (r.append r2) (by rw[List.length_append];omega),rfl,q _ I.fresh⟩
noncomputable def bs8:R2:=fun x y H Q=>∃l k xs,x=.ref l/\y=.int k/\H l=some (.lst xs)/\-(2 ^ 63)<=k/\k<2 ^ 63/\xs.length*k.toNat<=sizeLine /\
 ∀p,H p=none->Q (.ref p) (upd H p (.lst (List.replicate k.toNat xs).flatten))
theorem len_rep{α:Type}(xs:List α)(k:Nat):(List.replicate k xs).flatten.length=k*xs.length:=by
 induction k with
 |zero=>simp
 |succ k ih=>rw[List.replicate_succ,List.flatten_cons,List.length_append,ih,Nat.succ_mul,Nat.add_comm]
theorem bb8:OpR X (binaryOp .Mult) bs8:=by
 intro pins s σ H x y v u Q I rx ry h;obtain⟨l,k,xs,rfl,rfl,hH,h1,h2,hz,q⟩:=h;cases rx;obtain⟨t,rfl⟩:=ry;obtain⟨z,its,n,r,hl,e⟩:=I.T2 hH;have hlen:its.toArray.size*k.toNat<=sizeLine:=by rw[List.size_toArray,<- hl];exact hz
 have hcap:¬its.toArray.size*k.toNat>(2 ^ 63-1) / 8:=by
  have:(sizeLine:Nat)<=(2 ^ 63-1) / 8:=by decide
  omega
 have hfit:¬(!Builtin.List.listFitsIndex k)=true:=by
  rw[fitsIndex_both h1 h2];exact Bool.false_ne_true
 have hlong:¬Builtin.List.listTooLong (its.toArray.size*k.toNat)=true:=by
  rw[ap2 hlen];exact Bool.false_ne_true
 have hnew:List.foldl (fun x1 x2=>x1++x2) #[] (List.replicate (if its.toArray.isEmpty=true then 0 else k.toNat) its.toArray)=(List.replicate k.toNat its).flatten.toArray:=by
  have f0:∀m:Nat,List.foldl (fun x1 x2=>x1++x2) #[] (List.replicate m its.toArray)=(List.replicate m its).flatten.toArray:=fun m=>by
   have:=foldl_rep its m [];rw[List.nil_append] at this;exact this
  rw[f0];cases its with
  |nil=>simp
  |cons a r'=>rw[if_neg (by simp)]
 refine wpAny_binaryOp_repeat_ref (T:="list") (U:="int") (by decide) ⟨_,e,rfl⟩ (fun s'=>typeIs_int s' k t) noFill_list_mul F.fills_int_mul F.slot_int_rmul repeat_list F.slot_int_index.lookup
  (call_meets F.slot_int_rmul (typeIs_int s k t) F.entry_int_rmul (F.args_int_rmul_2 _ _) (int___rmul___int_list k t l its.toArray n)
   ⟨e,rfl,⟨_,e,rfl⟩,call_meets F.slot_list_mul ⟨_,e,rfl⟩ F.entry_list_mul (F.args_list_mul_2 _ _) (AutoListH.list___mul___list_int_3 l its.toArray n k t hfit hcap hlong) ⟨e,?_⟩⟩)
 rw[hnew];exact⟨.ref _,_,I.bd6 (t':=s.toks) (r.rep k.toNat) (by rw[len_rep,Nat.mul_comm];exact hz),rfl,q _ I.fresh⟩
end
section
variable{prog:Program}{w:World}{A:Around}{E:Value->Shared->Prop}{s:Shared}
end
section
variable{X:Cx}
end
end L2

namespace L2
open PySem PySem.Spec PyProof.Rows
section
variable{κ:Type}[DecidableEq κ]
noncomputable def C3(kvs:List (κ×V))(k:κ):Option V:=(kvs.find? fun kv=>decide (kv.1=k)).map (·.2)
noncomputable def putK(kvs:List (κ×V))(k:κ)(v:V):List (κ×V) :=
 if(kvs.any fun kv=>decide (kv.1=k))=true then kvs.map (fun kv=>if kv.1=k then(kv.1,v) else kv) else kvs++[(k,v)]
noncomputable def aV0(kvs:List (κ×V))(k:κ):List (κ×V):=kvs.filter fun kv=>decide (kv.1≠k)
theorem aa5{p:κ×V}{r:List (κ×V)}{k:κ}(e:p.1=k):C3 (p::r) k=some p.2:=by simp[C3,List.find?_cons,e]
theorem aa6{p:κ×V}{r:List (κ×V)}{k:κ}(e:¬p.1=k):C3 (p::r) k=C3 r k:=by simp[C3,List.find?_cons,e]
theorem an6(k:κ):∀kvs:List (κ×V),(kvs.any fun kv=>decide (kv.1=k))=(C3 kvs k).isSome
 |[]=>rfl
 |p::r=>by
  rw[List.any_cons];by_cases e:p.1=k
  ·simp only[aa5 e,decide_eq_true e,Bool.true_or,Option.isSome_some]
  ·rw[aa6 e,decide_eq_false e,Bool.false_or];exact an6 k r
theorem P5(kvs:List (κ×V))(k:κ)(v:V):(putK kvs k v).length<=kvs.length+1:=by
 unfold putK;split
 ·rw[List.length_map];omega
 ·rw[List.length_append,List.length_cons,List.length_nil];omega
theorem v5.K6{o:Option V}{u:Option Value}(r:v5 o u):o.isSome=u.isSome:=by
 cases o with
 |none=>cases u with
  |none=>rfl
  |some _=>exact(show False from r).elim
 |some _=>cases u with
  |none=>exact(show False from r).elim
  |some _=>rfl
theorem v5.getD{o:Option V}{u:Option Value}{d:V}{d':Value}(r:v5 o u)(rd:RelV d d'):RelV (o.getD d) (u.getD d'):=by
 cases o with
 |none=>cases u with
  |none=>exact rd
  |some _=>exact(show False from r).elim
 |some _=>cases u with
  |none=>exact(show False from r).elim
  |some _=>exact r
theorem KV.val{kvs:List (κ×V)}{vs:List (κ×Value)}(r:KV kvs vs)(k:κ):v5 (C3 kvs k) (valueAt vs k):=by
 unfold KV at r
 induction r with
 |nil=>exact True.intro
 |@cons p q ps qs h t ih =>
  obtain⟨h1,h2⟩:=h;by_cases e:p.1=k
  ·have e':q.1=k:=h1.symm.trans e;have b:valueAt (q::qs) k=some q.2:=by simp[valueAt,List.find?_cons,e']
   rw[aa5 e,b];exact h2
  ·have e':¬q.1=k:=fun z=>e (h1.trans z);have b:valueAt (q::qs) k=valueAt qs k:=by simp[valueAt,List.find?_cons,e']
   rw[aa6 e,b];exact ih
theorem KV.any{kvs:List (κ×V)}{vs:List (κ×Value)}(r:KV kvs vs)(k:κ):(kvs.any fun kv=>decide (kv.1=k))=vs.any fun kv=>decide (kv.1=k):=by
 unfold KV at r
 induction r with
 |nil=>rfl
 |cons h t ih=>rw[List.any_cons,List.any_cons,ih,h.1]
theorem KV.aN5{kvs:List (κ×V)}{vs:List (κ×Value)}(r:KV kvs vs)(k:κ){y:V}{u:Value}(ry:RelV y u) :
  KV (kvs.map fun kv=>if kv.1=k then(kv.1,y) else kv) (vs.map fun kv=>if kv.1=k then(kv.1,u) else kv):=by
 unfold KV at r ⊢
 induction r with
 |nil=>exact .nil
 |@cons p q ps qs h t ih =>
  rw[List.map_cons,List.map_cons];refine .cons ?_ ih;obtain⟨h1,h2⟩:=h;by_cases e:p.1=k
  ·rw[if_pos e,if_pos (h1.symm.trans e)];exact⟨h1,ry⟩
  ·rw[if_neg e,if_neg (fun z=>e (h1.trans z))];exact⟨h1,h2⟩
theorem KV.put{kvs:List (κ×V)}{vs:List (κ×Value)}(r:KV kvs vs)(k:κ){y:V}{u:Value}(ry:RelV y u):KV (putK kvs k y) (stored vs k u):=by
 unfold putK stored;rw[r.any k];by_cases e:(vs.any fun kv=>decide (kv.1=k))=true
 ·rw[if_pos e,if_pos e];exact r.aN5 k ry
 ·rw[if_neg e,if_neg e];exact Paired.snoc r ⟨rfl,ry⟩
theorem KV.drop{kvs:List (κ×V)}{vs:List (κ×Value)}(r:KV kvs vs)(k:κ):KV (aV0 kvs k) (without vs k):=by
 unfold KV at r ⊢;unfold aV0 without
 induction r with
 |nil=>exact .nil
 |@cons p q ps qs h t ih =>
  obtain⟨h1,h2⟩:=h;rw[List.filter_cons,List.filter_cons];by_cases e:p.1=k
  ·have a:¬decide (p.1≠k)=true:=by simp[e]
   have b:¬decide (q.1≠k)=true:=by simp[h1.symm.trans e]
   rw[if_neg a,if_neg b];exact ih
  ·have e':¬q.1=k:=fun z=>e (h1.trans z);have a:decide (p.1≠k)=true:=by simp[e]
   have b:decide (q.1≠k)=true:=by simp[e']
   rw[if_pos a,if_pos b];exact .cons ⟨h1,h2⟩ ih
theorem KV.keys{kvs:List (κ×V)}{vs:List (κ×Value)}(r:KV kvs vs):kvs.map (·.1)=vs.map (·.1):=by
 unfold KV at r
 induction r with
 |nil=>rfl
 |cons h t ih=>rw[List.map_cons,List.map_cons,ih,h.1]
theorem KV.length{kvs:List (κ×V)}{vs:List (κ×Value)}(r:KV kvs vs):kvs.length=vs.length:=Paired.length r
end
theorem T4{P:Program}{w:World}{k:Key}{u:Value}(r:RelV (kV k) u):(j5 P w).is k u=true:=by
 cases k with
 |inl i=>obtain⟨t,e⟩:=(show ∃t,u=Value.int i t from r);subst e;exact at9 P w i t
 |inr x=>obtain⟨t,e⟩:=(show ∃t,u=Value.str x t from r);subst e;exact at8 P w x t
theorem aj6{P:Program}{w:World}:∀{ks:List Key} {us:List Value},Vals (ks.map kV) us->ItemsAre (j5 P w) ks us
 |[],_,r=>by rw[List.map_nil] at r;cases r;exact .nil
 |k::ks,_,r=>by
  rw[List.map_cons] at r;cases r with
  |cons h t=>exact .cons (T4 h) (aj6 t)
noncomputable abbrev KT(H:Hp):List (List Key×V)->List (List Key×Addr×Value)->Prop:=Paired fun p q=>p.1=q.1/\H q.2.1=some (.tup (p.1.map kV))/\RelV p.2 q.2.2
theorem KT.val{H:Hp}{kvs:List (List Key×V)}{xs:List (List Key×Addr×Value)}(r:KT H kvs xs)(k:List Key):v5 (C3 kvs k) ((atKey xs k).map (·.2)):=by
 induction r with
 |nil=>exact True.intro
 |@cons p q ps qs h t ih =>
  obtain⟨h1,_,h2⟩:=h;by_cases e:p.1=k
  ·have e':q.1=k:=h1.symm.trans e;have b:atKey (q::qs) k=some q.2:=by simp[atKey,List.find?_cons,e']
   rw[aa5 e,b];exact h2
  ·have e':¬q.1=k:=fun z=>e (h1.trans z);have b:atKey (q::qs) k=atKey qs k:=by simp[atKey,List.find?_cons,e']
   rw[aa6 e,b];exact ih
theorem KT.aN5{H:Hp}{kvs:List (List Key×V)}{xs:List (List Key×Addr×Value)}(r:KT H kvs xs)(k:List Key){y:V}{u:Value}(ry:RelV y u) :
  KT H (kvs.map fun kv=>if kv.1=k then(kv.1,y) else kv) (xs.map (putAt k u)):=by
 induction r with
 |nil=>exact .nil
 |@cons p q ps qs h t ih =>
  rw[List.map_cons,List.map_cons];refine .cons ?_ ih;obtain⟨h1,h2,h3⟩:=h;unfold putAt;by_cases e:p.1=k
  ·rw[if_pos e,if_pos (h1.symm.trans e)];exact⟨h1,h2,ry⟩
  ·rw[if_neg e,if_neg (fun z=>e (h1.trans z))];exact⟨h1,h2,h3⟩
theorem KT.put{H:Hp}{kvs:List (List Key×V)}{xs:List (List Key×Addr×Value)}(r:KT H kvs xs)(k:List Key){b:Addr}{y:V}{u:Value}(hb:H b=some (.tup (k.map kV)))(ry:RelV y u) :
  KT H (putK kvs k y) (storedH xs k b u):=by
 have e:(kvs.any fun kv=>decide (kv.1=k))=(atKey xs k).isSome:=by
  rw[an6,(r.val k).K6,Option.isSome_map]
 unfold putK storedH;rw[e];by_cases q:(atKey xs k).isSome=true
 ·rw[if_pos q,if_pos q];exact r.aN5 k ry
 ·rw[if_neg q,if_neg q];exact Paired.snoc r ⟨rfl,hb,ry⟩
theorem KT.keeps{H H':Hp}{kvs:List (List Key×V)}{xs:List (List Key×Addr×Value)}(r:KT H kvs xs)(ht:∀b ys,H b=some (.tup ys)->H' b=some (.tup ys)):KT H' kvs xs :=
 Paired.aQ2 r fun _ _ z=>⟨z.1,ht _ _ z.2.1,z.2.2⟩
section
variable{P:Program}{w:World}{H:Hp}{h:Heap}{a:Addr}
theorem aT9{u:HO}(ok:HOk P w H h)(e:Rd H a u):j4 P w H h a u:=e.ok ok
theorem O6{kvs:List (Key×V)}(ok:HOk P w H h)(e:Rd H a (.dK kvs)):kvs.length<=sizeLine/\(a==sysModules)=false/\∃vs,KV kvs vs/\h.DictOf (j5 P w) a vs :=
 show j4 P w H h a (.dK kvs) from aT9 ok e
theorem aB3{kvs:List (Key×V)}(ok:HOk P w H h)(e:H a=some (.dK kvs)):kvs.length<=sizeLine/\(a==sysModules)=false/\∃vs,KV kvs vs/\h.DictOf (j5 P w) a vs:=O6 ok (.inl e)
theorem Q9{ks:List Key}(ok:HOk P w H h)(e:H a=some (.tup (ks.map kV))):(tupleKind (j5 P w)).is h ks a:=by
 obtain⟨_,its,r,o,h1,h2,⟨n,h3⟩,_⟩:=(show j4 P w H h a (.tup (ks.map kV)) from ok a _ e)
 exact⟨o,its.toArray,n,h1,h2,h3,by simpa using aj6 r⟩
theorem Y5{kvs:List (List Key×V)}(ok:HOk P w H h)(e:Rd H a (.dT kvs)):kvs.length<=sizeLine/\(a==sysModules)=false /\
  ∃xs,KT H kvs xs/\h.DictOfH (tupleKind (j5 P w)) a xs:=by
 obtain⟨z,y,xs,r,o,es,ep,h1,h2,h3,h4,h5⟩:=(show j4 P w H h a (.dT kvs) from aT9 ok e)
 refine⟨z,y,xs,r,o,es,ep,h1,h2,h3,h4,fun x hx=>?_,h5⟩;have all:∀{l:List (List Key×V)} {m:List (List Key×Addr×Value)},KT H l m->∀x∈m,(tupleKind (j5 P w)).is h x.1 x.2.1:=by
  intro l m q
  induction q with
  |nil=>intro x hx;exact nomatch hx
  |@cons p q ps qs hq t ih =>
   intro x hx;rcases List.mem_cons.mp hx with e|hx
   ·subst e;exact Q9 ok (by rw[<- hq.1];exact hq.2.1)
   ·exact ih x hx
 exact all r x hx
theorem bo0{kvs:List (List Key×V)}(ok:HOk P w H h)(e:H a=some (.dT kvs)):kvs.length<=sizeLine/\(a==sysModules)=false /\
  ∃xs,KT H kvs xs/\h.DictOfH (tupleKind (j5 P w)) a xs:=Y5 ok (.inl e)
end
noncomputable def F1(H:Hp)(a:Addr)(y:V)(r:Option V):Prop :=
 (∃kvs k,Rd H a (.dK kvs)/\y=kV k/\r=C3 kvs k)\/∃kvs k b,Rd H a (.dT kvs)/\y=.ref b/\H b=some (.tup (k.map kV))/\r=C3 kvs k
noncomputable def ai3(H:Hp)(a:Addr)(y v:V)(H':Hp):Prop :=
 (∃kvs k,H a=some (.dK kvs)/\y=kV k/\kvs.length<sizeLine/\H'=upd H a (.dK (putK kvs k v))) \/
 ∃kvs k b,H a=some (.dT kvs)/\y=.ref b/\H b=some (.tup (k.map kV))/\kvs.length<sizeLine/\H'=upd H a (.dT (putK kvs k v))
theorem F1.k{H:Hp}{a:Addr}{kvs:List (Key×V)}{k:Key}(e:H a=some (.dK kvs)):F1 H a (kV k) (C3 kvs k):=.inl ⟨kvs,k,.inl e,rfl,rfl⟩
theorem F1.t{H:Hp}{a b:Addr}{kvs:List (List Key×V)}{k:List Key}(e:H a=some (.dT kvs))(eb:H b=some (.tup (k.map kV))):F1 H a (.ref b) (C3 kvs k):=.inr ⟨kvs,k,b,.inl e,rfl,eb,rfl⟩
theorem ai3.k{H:Hp}{a:Addr}{kvs:List (Key×V)}{k:Key}{v:V}(e:H a=some (.dK kvs))(hl:kvs.length<sizeLine):ai3 H a (kV k) v (upd H a (.dK (putK kvs k v))):=.inl ⟨kvs,k,e,rfl,hl,rfl⟩
theorem ai3.t{H:Hp}{a b:Addr}{kvs:List (List Key×V)}{k:List Key}{v:V}(e:H a=some (.dT kvs))(eb:H b=some (.tup (k.map kV)))(hl:kvs.length<sizeLine) :
  ai3 H a (.ref b) v (upd H a (.dT (putK kvs k v))):=.inr ⟨kvs,k,b,e,rfl,eb,hl,rfl⟩
section
variable{X:Cx}{pins:List (Addr×Obj)}{σ:St}{H:Hp}{s:Shared}{a:Addr}{y v:V}{u r:Value}{o:Option V}{A:Around}{E:Value->Shared->Prop}
theorem Inv.big(I:Inv X pins σ H s):sysModules<s.heap.objs.size:=by
 have h:mainGlobals<s.heap.objs.size:=(I.mod.glob.keeps I.bk).lt;exact Nat.lt_trans (by decide) h
theorem aJ7{Q:Value->Shared->Prop}(hu:A.units+1<cLine)(I:Inv X pins σ H s)(g:F1 H a y (some v))(ry:RelV y u)(h:∀w' s',Inv X pins σ H s'->RelV v w'->Q w' s') :
  wpAny (model X.prog X.w) A (getItem (.ref a) u) Q E s:=by
 rcases g with⟨kvs,k,e,ey,l⟩|⟨kvs,k,b,e,ey,eb,l⟩
 ·subst ey;obtain⟨z,hd,vs,rel,dd⟩:=O6 I.hok e;obtain⟨w',hw,rw'⟩:=v5.some_of (v:=v) (o:=valueAt vs k) (by rw[l];exact rel.val k);exact wpAny_getItem_of (T4 ry) dd.mapOf hw (h w' _ (I.tok _) rw')
 ·subst ey;cases (show u=Value.ref b from ry);obtain⟨z,hd,xs,rel,dd⟩:=Y5 I.hok e;obtain⟨w',hw,rw'⟩:=v5.some_of (v:=v) (o:=(atKey xs k).map (·.2)) (by rw[l];exact rel.val k);obtain⟨p,hp,hp2⟩:=Option.map_eq_some_iff.mp hw;refine wpAny_getItem_heap (tupleKind_room_in1 hu) (Q9 I.hok eb) dd hp ?_;rw[hp2];exact h w' _ (I.tok _) rw'
theorem bv9{Q:Value->Shared->Prop}(hu:A.units+1<cLine)(I:Inv X pins σ H s)(g:F1 H a y o)(ry:RelV y u)(h:∀s',Inv X pins σ H s'->Q (.bool o.isSome) s') :
  wpAny (model X.prog X.w) A (compareOp .In u (.ref a)) Q E s:=by
 rcases g with⟨kvs,k,e,ey,l⟩|⟨kvs,k,b,e,ey,eb,l⟩
 ·subst ey;obtain⟨z,hd,vs,rel,dd⟩:=O6 I.hok e;refine wpAny_in_of (T4 ry) hd dd.mapOf ?_;rw[<- (rel.val k).K6,<- l];exact h _ (I.tok _)
 ·subst ey;cases (show u=Value.ref b from ry);obtain⟨z,hd,xs,rel,dd⟩:=Y5 I.hok e;refine wpAny_in_heap (tupleKind_room_in1 hu) (Q9 I.hok eb) hd dd ?_;have q:=(rel.val k).K6;rw[Option.isSome_map] at q;rw[<- q,<- l];exact h _ (I.tok _)
theorem a31{Q:Value->Shared->Prop}(hu:A.units+1<cLine)(I:Inv X pins σ H s)(g:F1 H a y o)(ry:RelV y u)(h:∀s',Inv X pins σ H s'->Q (.bool (!o.isSome)) s') :
  wpAny (model X.prog X.w) A (compareOp .NotIn u (.ref a)) Q E s:=by
 rcases g with⟨kvs,k,e,ey,l⟩|⟨kvs,k,b,e,ey,eb,l⟩
 ·subst ey;obtain⟨z,hd,vs,rel,dd⟩:=O6 I.hok e;refine wpAny_notIn_of (T4 ry) hd dd.mapOf ?_;rw[<- (rel.val k).K6,<- l];exact h _ (I.tok _)
 ·subst ey;cases (show u=Value.ref b from ry);obtain⟨z,hd,xs,rel,dd⟩:=Y5 I.hok e;refine wpAny_notIn_heap (tupleKind_room_in1 hu) (Q9 I.hok eb) hd dd ?_;have q:=(rel.val k).K6;rw[Option.isSome_map] at q;rw[<- q,<- l];exact h _ (I.tok _)
theorem ah1{h':Heap}{t':Nat}{ob:HO}(I:Inv X pins σ H s)(mu:Mut (H a))(hs:Heap.SameBut a s.heap h')(he:∃q,h'.get? a=some q)(new:j4 X.prog X.w (upd H a ob) h' a ob) :
  Inv X pins σ (upd H a ob) { s with heap:=h',toks:=t' } :=
 I.write (x:=a) (e:=a) mu (.inl rfl) (fun b q hb z=>(hs.2 b hb).trans z) he new
theorem ar3{P:Program}{w:World}{H':Hp}{h':Heap}{kvs:List (Key×V)}{vs:List (Key×Value)}(z:kvs.length<=sizeLine)(hd:(a==sysModules)=false)(rel:KV kvs vs)(dd:h'.DictOf (j5 P w) a vs) :
  j4 P w H' h' a (.dK kvs):=⟨z,hd,vs,rel,dd⟩
theorem aJ6{H':Hp}{Q:Unit->Shared->Prop}(hu:A.units+1<cLine)(I:Inv X pins σ H s)(g:ai3 H a y v H')(ry:RelV y u)(rv:RelV v r)(h:∀s',Inv X pins σ H' s'->Q () s') :
  wpAny (model X.prog X.w) A (setItem (.ref a) u r) Q E s:=by
 rcases g with⟨kvs,k,e,ey,l,eH⟩|⟨kvs,k,b,e,ey,eb,l,eH⟩
 ·subst ey eH;obtain⟨z,hd,vs,rel,dd⟩:=aB3 I.hok e;have hz:vs.length<=sizeLine:=by rw[<- rel.length];exact z
  have hl:(putK kvs k v).length<=sizeLine:=by have:=P5 kvs k v;omega
  refine wpAny_setItem_pairs (hsz:=hz) (T4 ry) dd fun h' dd' hs=>h _ ?_;have he:∃q,h'.get? a=some q:=let ⟨q,_,_,hq,_⟩:=dd';⟨q,hq⟩
  exact ah1 I (by rw[e];exact True.intro) hs he (ar3 hl hd (rel.put k rv) dd')
 ·subst ey eH;cases (show u=Value.ref b from ry);obtain⟨z,hd,xs,rel,dd⟩:=bo0 I.hok e;have hz:xs.length<=sizeLine:=by rw[<- Paired.length rel];exact z
  have hl:(putK kvs k v).length<=sizeLine:=by have:=P5 kvs k v;omega
  refine wpAny_setItem_heap (hsz:=hz) (tupleKind_room_in1 hu) (Q9 I.hok eb) dd fun h' dd' hs=>h _ ?_;obtain⟨q,es,ep,hq,h2,h3,h4,_,h5⟩:=dd';refine ah1 I (by rw[e];exact True.intro) hs ⟨q,hq⟩ ⟨hl,hd,_,(rel.put k eb rv).keeps fun c ys ec=>?_,q,es,ep,hq,h2,h3,h4,h5⟩;rw[f6 (bm0 ec e (fun z=>nomatch z))];exact ec
end
section
variable{X:Cx}{pins:List (Addr×Obj)}{σ:St}{H:Hp}{s:Shared}{a:Addr}{kvs:List (Key×V)}{k:Key}{u:Value}{A:Around}{E:Value->Shared->Prop}
theorem bo2{Q:Value->Shared->Prop}(I:Inv X pins σ H s)(e:Rd H a (.dK kvs))(h:∀t s',Inv X pins σ H s'->Q (.int kvs.length t) s'):wpAny (model X.prog X.w) A (call (.builtin "len") [.ref a]) Q E s:=by
 obtain⟨z,hd,vs,rel,dd⟩:=O6 I.hok e;refine call_len_dict hd dd (by rw[<- rel.length];rw[sizeLine_eq] at z;omega) ?_;rw[<- rel.length];exact h _ _ (I.tok _)
end
theorem au2{X:Cx}{pins:List (Addr×Obj)}{σ:St}{H:Hp}{s:Shared}{a:Addr}{y:V}{o:Option V}(I:Inv X pins σ H s)(g:F1 H a y o):s.TypeIs (.ref a) "dict":=by
 rcases g with⟨kvs,k,e,_,_⟩|⟨kvs,k,b,e,_,_,_⟩
 ·obtain⟨_,_,vs,_,dd⟩:=O6 I.hok e;exact dd.typeIs
 ·obtain⟨_,_,xs,_,dd⟩:=Y5 I.hok e;exact dd.typeIs
section
variable{X:Cx}{o i e value:Expr}{pos pos' tpos:Pos}{td ty tv:TE}
end
theorem ar4{P:Program}{w:World}{H:Hp}(h:Heap)(hb:sysModules<h.objs.size):j4 P w H (h.push { cls:=.type "dict",data:=.dict #[] }) h.objs.size (.dK []) :=
 ⟨Nat.zero_le _,beq_eq_false_iff_ne.mpr (Ne.symm (Nat.ne_of_lt hb)),[],.nil,Heap.DictOf.new h⟩
noncomputable def a60:TE:=fun _ H Q=>∀p,H p=none->Q (.ref p) (upd H p (.dK []))
section
variable{X:Cx}{pos:Pos}
theorem aP3:PE X (.Dict [] [] pos) a60:=fun pins s σ H Q I h =>
 wpAny_Dict_empty ⟨.ref s.heap.objs.size,_,I.laid (a:=s.heap.objs.size) (o:=.dK []) (t':=s.toks) (fun _ _ q=>Heap.get?_push_of_some _ q) (Nat.le_refl _) (ar4 s.heap I.big),rfl,h _ (I.hok.fresh (Nat.le_refl _))⟩
end
noncomputable def ac5:List (TE×TE)->St->Hp->(List (V×V)->Hp->Prop)->Prop
 |[],_,H,Q=>Q [] H
 |(tk,tv)::r,σ,H,Q=>tk σ H fun x H1=>tv σ H1 fun y H2=>ac5 r σ H2 fun ps H3=>Q ((x,y)::ps) H3
noncomputable abbrev VV:List (V×V)->List (Value×Value)->Prop:=Paired fun p q=>RelV p.1 q.1/\RelV p.2 q.2
noncomputable def PPs(X:Cx)(pos:Pos)(keys:List (Option Expr))(values:List Expr)(trs:List (TE×TE)):Prop :=
 ∀(pins:List (Addr×Obj)) (s:Shared) (σ:St) (H:Hp) (Q:List (V×V)->Hp->Prop),Inv X pins σ H s->ac5 trs σ H Q ->
  wpAny (model X.prog X.w) X.A (evalPairs (pairTrees keys values X.env pos)) (fun vs s'=>∃ps H',Inv X pins σ H' s'/\VV ps vs/\Q ps H') X.xe s
theorem aZ6{X:Cx}{pos:Pos}:PPs X pos [] [] []:=fun pins s σ H Q I h=>pairTrees_nil_walk ⟨[],H,I,.nil,h⟩
theorem aO4{X:Cx}{pos:Pos}{k v:Expr}{ks:List (Option Expr)}{vs:List Expr}{tk tv:TE}{trs:List (TE×TE)}(hk:PE X k tk)(hv:PE X v tv)(hr:PPs X pos ks vs trs) :
  PPs X pos (some k::ks) (v::vs) ((tk,tv)::trs):=fun pins s σ H Q I h =>
 pairTrees_cons_walk (thn (hk pins s σ H _ I h) fun u s1 ⟨x,H1,I1,rx,q1⟩=>thn (hv pins s1 σ H1 _ I1 q1) fun w2 s2 ⟨y,H2,I2,ry,q2⟩ =>
  thn (hr pins s2 σ H2 _ I2 q2) fun ws s3 ⟨ps,H3,I3,rel,q3⟩=>⟨(x,y) :: ps,H3,I3,.cons ⟨rx,ry⟩ rel,q3⟩)
noncomputable def N3(kvs more:List (Key×V)):List (Key×V):=more.foldl (fun acc kv=>putK acc kv.1 kv.2) kvs
theorem KV.merge:∀{more:List (Key×V)} {rs:List (Key×Value)} {kvs:List (Key×V)} {vs:List (Key×Value)},KV more rs->KV kvs vs->KV (N3 kvs more) (merged vs rs):=by
 intro more rs kvs vs r;unfold KV at r
 induction r generalizing kvs vs with
 |nil=>intro q;exact q
 |@cons p q ps qs h t ih =>
  intro r0;have e:KV (putK kvs p.1 p.2) (stored vs q.1 q.2):=by
   have:=r0.put p.1 h.2;rw[<- h.1];exact this
  exact ih e
theorem U7:∀(more kvs:List (Key×V)),(N3 kvs more).length<=kvs.length+more.length
 |[],kvs=>by show kvs.length<=kvs.length+0;omega
 |p::r,kvs=>by
  have h1:=U7 r (putK kvs p.1 p.2);have h2:=P5 kvs p.1 p.2;show(N3 (putK kvs p.1 p.2) r).length<=_;rw[List.length_cons];omega
theorem af0{P:Program}{w:World}:∀{kvs:List (Key×V)} {ws:List (Value×Value)},VV (kvs.map fun kv=>(kV kv.1,kv.2)) ws->∃rs,Carries (j5 P w) ws rs/\KV kvs rs
 |[],_,r=>by rw[List.map_nil] at r;cases r;exact⟨[],True.intro,.nil⟩
 |p::kvs,_,r=>by
  rw[List.map_cons] at r;cases r with
  |@cons a b as bs h t =>
   obtain⟨rs,c,q⟩:=af0 (P:=P) (w:=w) t;obtain⟨b1,b2⟩:=b;exact⟨(p.1,b2)::rs,⟨T4 h.1,rfl,c⟩,.cons ⟨rfl,h.2⟩ q⟩
noncomputable def bj0(trs:List (TE×TE)):TE:=fun σ H Q=>∀p,H p=none->ac5 trs σ (upd H p (.dK [])) fun ps H2=>H2 p=some (.dK [])/\∃kvs:List (Key×V),ps=kvs.map (fun kv=>(kV kv.1,kv.2))/\kvs.length<=15/\Q (.ref p) (upd H2 p (.dK (N3 [] kvs)))
theorem a01{X:Cx}{pos:Pos}{keys:List (Option Expr)}{values:List Expr}{trs:List (TE×TE)}(h:PPs X pos keys values trs)(hall:keys.all (·.isSome)=true)(hl:keys.length=values.length)(h0:keys≠[])(h15:keys.length<=15):PE X (.Dict keys values pos) (bj0 trs):=by
 intro pins s σ H Q I q;have hn:=I.hok.fresh (Nat.le_refl s.heap.objs.size);have I1:=I.laid (a:=s.heap.objs.size) (o:=.dK []) (h':=s.heap.push { cls:=.type "dict",data:=.dict #[] }) (t':=s.toks) (fun _ _ q=>Heap.get?_push_of_some _ q) (Nat.le_refl _) (ar4 s.heap I.big);refine wpAny_Dict_walk (knd:=j5 X.prog X.w) hall hl h0 h15 (thn (h pins _ σ _ _ I1 (q _ hn)) fun ws s2 ⟨ps,H2,I2,rel,e,kvs,ep,lk,q2⟩=>?_);subst ep;obtain⟨rs,c,rk⟩:=af0 (P:=X.prog) (w:=X.w) rel;obtain⟨z,hd,vs0,r0,dd⟩:=aB3 I2.hok e;cases r0;refine⟨rs,c,dd,fun h' dd' hs=>⟨.ref s.heap.objs.size,_,?_,rfl,q2⟩⟩;have hz:(N3 [] kvs).length<=sizeLine:=by
  have h1:=U7 kvs [];rw[List.length_nil] at h1;rw[sizeLine_eq];omega
 have he:∃q,h'.get? s.heap.objs.size=some q:=let ⟨q,_,_,hq,_⟩:=dd';⟨q,hq⟩
 exact ah1 I2 (by rw[e];exact True.intro) hs he (ar3 hz hd (rk.merge .nil) dd')
structure M1(X:Cx)(o:Expr)(m:Str)(apos:Pos)(e:Expr)(cpos:Pos):Prop where
 base:attributeBase o m X.env (eval o X.env)=eval o X.env
 few:((backTo cpos (starEach [e] X.env)).all (fun x=>!x.1) && (backToKw cpos (keywordEach [] X.env)).all (fun x=>x.1.isSome)
  && decide (([e]:List Expr).length + ([]:List Keyword).length + (if ([]:List Keyword).isEmpty then 0 else 1) < 30))=true
 line:(apos.endLine==cpos.line)=true
 trees:backTo cpos (starEach [e] X.env)=[(false,eval e X.env)]
structure M2(X:Cx)(o:Expr)(m:Str)(apos:Pos)(e f:Expr)(cpos:Pos):Prop where
 base:attributeBase o m X.env (eval o X.env)=eval o X.env
 few:((backTo cpos (starEach [e,f] X.env)).all (fun x=>!x.1) && (backToKw cpos (keywordEach [] X.env)).all (fun x=>x.1.isSome)
  && decide (([e,f]:List Expr).length + ([]:List Keyword).length + (if ([]:List Keyword).isEmpty then 0 else 1) < 30))=true
 line:(apos.endLine==cpos.line)=true
 trees:backTo cpos (starEach [e,f] X.env)=[(false,eval e X.env),(false,eval f X.env)]
section
variable{X:Cx}{pins:List (Addr×Obj)}{σ:St}{H:Hp}{s:Shared}{a:Addr}{y d:V}{u r:Value}{o:Option V}{A:Around}{E:Value->Shared->Prop}
theorem bg0{Q:Value->Shared->Prop}(hu:A.units+1<cLine)(I:Inv X pins σ H s)(g:F1 H a y o)(ry:RelV y u)(rd:RelV d r)(h:∀w' s',Inv X pins σ H s'->RelV (o.getD d) w'->Q w' s') :
  wpAny (model X.prog X.w) A (call (.builtin "dict.get") [.ref a,u,r]) Q E s:=by
 rcases g with⟨kvs,k,e,ey,l⟩|⟨kvs,k,b,e,ey,eb,l⟩
 ·subst ey;obtain⟨z,hd,vs,rel,dd⟩:=O6 I.hok e;refine call_meetsIn PySem.F.slot_dict_get dd.typeIs PySem.F.entry_dict_get (PySem.F.args_dict_get_3 _ _ _) (meets_dict_get_default (j5 X.prog X.w) a (T4 ry) hd r) ⟨_,dd.mapOf,h _ _ (I.tok _) ?_⟩;rw[l];exact(rel.val k).getD rd
 ·subst ey;cases (show u=Value.ref b from ry);obtain⟨z,hd,xs,rel,dd⟩:=Y5 I.hok e;refine call_meetsIn PySem.F.slot_dict_get dd.typeIs PySem.F.entry_dict_get (PySem.F.args_dict_get_3 _ _ _) (meetsH_dict_get_default (tupleKind (j5 X.prog X.w)) a b hd r) ⟨tupleKind_room_in1 hu,k,xs,Q9 I.hok eb,dd,h _ _ (I.tok _) ?_⟩;rw[l];exact(rel.val k).getD rd
end
section
variable{X:Cx}{o e f:Expr}{apos cpos:Pos}{td ty tx:TE}
end
section
variable{X:Cx}{pins:List (Addr×Obj)}{σ:St}{H:Hp}{s:Shared}{a:Addr}{kvs:List (Key×V)}{A:Around}{E:Value->Shared->Prop}
theorem aR6{Q:Value->Shared->Prop}(I:Inv X pins σ H s)(e:Rd H a (.dK kvs))(h:∀p s',H p=none->Inv X pins σ (upd H p (.dK kvs)) s'->Q (.ref p) s'):wpAny (model X.prog X.w) A (call (.type "dict") [.ref a]) Q E s:=by
 obtain⟨z,hd,vs,rel,dd⟩:=O6 I.hok e;refine kt_call_dict hd dd (by rw[<- rel.length];exact z) fun h' dd' hs=>?_;refine h _ _ (I.hok.fresh (Nat.le_refl _)) (I.laid (a:=s.heap.objs.size) (o:=.dK kvs) (t':=s.toks) (fun b q hq=>?_) (Nat.le_refl _) (ar3 z (beq_eq_false_iff_ne.mpr (Ne.symm (Nat.ne_of_lt I.big))) rel dd'));exact(hs.2 b (Nat.ne_of_lt (Heap.lt_size hq))).trans (Heap.get?_push_of_some _ hq)
end
section
variable{X:Cx}{pins:List (Addr×Obj)}{σ:St}{H:Hp}{s:Shared}{a:Addr}{y:V}{u:Value}{A:Around}{E:Value->Shared->Prop}
end
end L2

namespace Att
open PySem PySem.W PySem.Calls PyProof.Rows
theorem ae0{P:Params}{h:Heap}:∀(ns:List Int) (vs:List Value),WellAll P h vs (ns.map WData.int)->IntsAre vs ns:=by
 intro ns
 induction ns with
 |nil =>
  intro vs w;rw[List.map_nil] at w;cases w;exact .nil
 |cons n ns ih =>
  intro vs w;rw[List.map_cons] at w;cases w with
  |cons a b =>
   cases a;exact .cons _ _ (ih _ b)
theorem aE7{l:OpenLaw}{n:Nat}(hn:l.most=some n){P:Params}{h:Heap}{args:List WData}{vals:List Value}(hpre:l.row.toRowW.claim.pre args=true)(hwl:WellAll P h vals args) :
  ∃a vs ns,vals=[Value.ref a]/\args=[WData.list (ns.map WData.int)]/\h.get? a=some { cls:=.type "list",data:=.seq vs.toArray }/\IntsAre vs ns/\ns.length<=n:=by
 have hsh:WShape.hasAll [] args [.list .int]=true:=(pre_splitW hpre).1;have hc:l.pre.holds [] { args:=args }=true:=(pre_splitW hpre).2;obtain⟨d,r,rfl,h1,h2⟩:=hasAllW_cons hsh;obtain rfl:=hasAllW_nil h2;obtain⟨xs,rfl,h3⟩:=hasW_list h1;obtain⟨ns,rfl⟩:=items_int h3;have hlen:ns.length<=n:=by
  unfold OpenLaw.pre at hc;have h4:(WTm.not (.lt (.lit (.int (n:Int))) (.len (.arg 0)))).holds [] { args:=[.list (ns.map .int)] }=true:=by
   have h4:=(holds_andW hc).1;rw[hn] at h4;exact h4
  have h5:=condW_of h4 (w_not (w_lt w_lit (w_len_list (w_arg rfl))));rw[List.length_map] at h5;refine Nat.le_of_not_lt fun q=>?_;have q':(n:Int)<((ns.length:Nat):Int):=by omega
  first
   |(rw[decide_eq_true q'] at h5;exact absurd h5 (by decide))
   |(simp at h5;omega)
 cases hwl with
 |cons w1 w2 =>
  cases w2;cases w1 with
  |list ho hall=>exact⟨_,_,ns,rfl,rfl,ho,ae0 ns _ hall,hlen⟩
theorem aF4(l:OpenLaw)(args:List WData):l.row.toRowW.claim.post args (.bool true) args=true :=
 postW_of (r:=l.row.toRowW) (X:=(true==true))
  (show WShape.has [] (.bool true) .bool=true by first|rfl|decide|simp[WShape.has,WShape.arms,WShape.armsAll])
  (show(WTm.eq .res (.lit (.bool true))).value [] { args:=args,res:=some (.bool true),after:=args }=some (.bool (true==true)) from w_eq_bool (w_res rfl) w_lit) rfl
theorem au5{l:OpenLaw}{n:Nat}{q:Program}{loose:List Str}{XP:(Str->Option Value)->Heap->Prop}{YP:World->Heap->Prop}{d:DefRec}(hn:l.most=some n)(hdf:d.params.defaults=[])(call:∀ (w:World) (s₀ s₁:Shared) (mg mb:Str->Option Value) (fa:Addr) (o:Obj) (pm cd doc:Value) (a:Addr) (vs:List Value) (ns:List Int),
   Ground q loose [] XP w s₀ mg mb s₁.heap->YP w s₁.heap ->
   s₁.heap.get? fa=some o->o.data=.func (docDef d.name d.params d.body d.scope pm cd doc)->s₁.heap.CodeRec cd d.name->mg d.name=some (.ref fa) ->
   s₁.heap.get? a=some { cls:=.type "list",data:=.seq vs.toArray }->IntsAre vs ns->ns.length<=n->s₁.gens=#[] ->
   codeAny (model l.prog w) callerA (.call (.ref fa) ⟨[.ref a],[]⟩) (fun r s'=>r=.ok (.ret (.bool true))/\OldK s₁.heap s'.heap/\s'.os=s₁.os/\AllBare s'.gens) s₁) :
  WalkO q loose XP YP l.row.toRowW d [] (fun f vs=>PySem.call f vs):=by
 intro w s₀ s₁ mg mb G Y fa o pm cd doc dV kV ho hd hcd hD hmg hg args vals as hpre hlay hrd hwl hlo;obtain rfl:dV=.none:=Dflts.none hD hdf;obtain rfl:kV=.none:=Dflts.noKw hD;obtain⟨a,vs,ns,rfl,rfl,hobj,hints,hlen⟩:=aE7 hn hpre hwl;refine enter_call (codeAny_mono (call w s₀ s₁ mg mb fa o pm cd doc a vs ns G Y ho (fd_plain hd) hcd hmg hobj hints hlen hg) fun r s' hq=>?_);obtain⟨rfl,h2,h3,h4⟩:=hq;exact⟨.inl ⟨.bool true,.bool true,[],rfl,fun _=>rfl,.bool true,aF4 l _,fun _=>⟨List.Pairwise.nil,fun _ hm=>(nomatch hm)⟩⟩,h2,h3,h4⟩
section
variable{prog:Program}{w:World}{A:Around}{E:Value->Shared->Prop}{s:Shared}{K:Frag}
end
end Att
namespace L2
open PySem PySem.Spec PyProof.Rows
theorem ai5:∀{vs:List Value} {ns:List Int},IntsAre vs ns->Vals (ns.map V.int) vs
 |_,_,.nil=>.nil
 |_,_,.cons n t h=>.cons ⟨t,rfl⟩ (ai5 h)
noncomputable def aC8(H:Hp):Prop:=∀b,H b=none\/∃o xs,H b=some (.frz o (.lst xs))
theorem aQ5{P:Program}{w:World}{K:PySem.W.Frag}{mg mb:Str->Option Value}{CX:CXT}{k:Nat}{fa a:Addr}{fd:FuncData}{x:Str}{sp:Sp}{s₁:Shared}{vs:List Value}{ns:List Int}(KX:K.In s₁.heap)(hns:s₁.heap.Ns mainGlobals mg)(hb:s₁.heap.Ns builtinsNs mb)(hbb:∀x:Str,x≠"__name__"->mb x=bootBuiltins x)(hlim:s₁.heap.NoLimit)(hg:s₁.gens=#[])(ha:s₁.heap.get? a=some { cls:=.type "list",data:=.seq vs.toArray })(hi:IntsAre vs ns)(hl:ns.length<=sizeLine)(hr:k9 k callerA)(F:∀base:Heap,K.In base->base.Ns mainGlobals mg->u4 P w K mg base CX k fa fd [x] sp)(hbind:∀(s:Shared) (u:Value),BindsTo s fd ⟨[u],[]⟩ [(x,u)])(hsp:∀H:Hp,aC8 H->SqL K H a (ns.map V.int)->sp [.ref a] H (fun v _=>v=.bl true) fun _ _ _=>False)(hCX:∀H e s',CX [] H s₁ (fun _ _ _=>False) e s'->False) :
  codeAny (model P w) callerA (.call (.ref fa) ⟨[.ref a],[]⟩) (fun r s'=>r=.ok (.ret (.bool true))/\OldK s₁.heap s'.heap/\s'.os=s₁.os/\AllBare s'.gens) s₁:=by
 have rv:=ai5 hi;have lenV:=hi.length;have core:∀H:Hp,aC8 H->SqL K H a (ns.map V.int)->HOk P w H s₁.heap->(∀b,H b≠none->b=a)->(H a≠none->K.lookup a=none) ->
   codeAny (model P w) callerA (.call (.ref fa) ⟨[.ref a],[]⟩) (fun r s'=>r=.ok (.ret (.bool true))/\OldK s₁.heap s'.heap/\s'.os=s₁.os/\AllBare s'.gens) s₁:=by
  intro H hO hS hok hA hK;have C9:∀{b:Addr} {o:Obj},s₁.heap.get? b=some o->H b=none->(T6 s₁.heap H).get? b=some o:=fun e n=>aQ8 e n;have noA:∀{b:Addr} {o:Obj} {es:Array DictEntry} {ep:Nat},s₁.heap.get? b=some o->o.data=.dict es ep->H b=none:=fun{b o es ep} e d=>by
   cases q:H b with
   |none=>rfl
   |some u =>
    have e':b=a:=hA b (by rw[q];simp);subst e';rw[ha] at e;cases e;have d':Data.seq vs.toArray _=Data.dict es ep:=d;cases d'
  have nsK:∀{b:Addr} {m:Str->Option Value},s₁.heap.Ns b m->(T6 s₁.heap H).Ns b m:=fun{b m} ⟨o,es,ep,e,d,r⟩=>⟨o,es,ep,C9 e (noA e d),d,r⟩
  have hKb:K.In (T6 s₁.heap H):=fun b o e=>C9 (KX b o e) (by
   cases q:H b with
   |none=>rfl
   |some u =>
    have e':b=a:=hA b (by rw[q];simp);subst e';rw [hK (by rw [q];simp)] at e;cases e)
  have hM:Mod K mg (T6 s₁.heap H):=⟨hKb,nsK hns,⟨mb,nsK hb,hbb⟩,let ⟨mc,h1,h2⟩:=hlim;⟨mc,nsK h1,h2⟩⟩
  have e0:Q2 P w K mg (T6 s₁.heap H) callerA [] s₁ H:=⟨rfl,hM,fun b o e=>a12 e,Nat.le_of_eq (aI6 _ _),trivial,fun b hb=>absurd (show b∈([]:List Addr) from hb) (by simp),hok,.of_eq hg⟩
  refine codeAny_mono ((F _ hKb (nsK hns)).run callerA [] s₁ H ⟨[.ref a],[]⟩ [.ref a] [.ref a] _ _ hr e0 (hbind s₁ (.ref a)) (.cons rfl .nil) (hsp H hO hS)) fun r s' h=>?_;cases r with
  |error e=>exact(hCX H e s' h).elim
  |ok fl =>
   cases fl with
   |next=>exact False.elim h
   |brk=>exact False.elim h
   |cont=>exact False.elim h
   |ret u =>
    obtain⟨v,H',os,bare,un,hok',r',q⟩:=h;have q':v=.bl true:=q;subst q';obtain rfl:u=Value.bool true:=r';refine⟨rfl,OldK.of_keep fun b o e=>?_,os,bare⟩;cases q:H b with
    |none=>exact un.keep b o e q (by intro z;exact absurd (show b∈([]:List Addr) from z) (by simp)) (by simp)
    |some u =>
     rcases hO b with z|⟨ob,xs,z⟩
     ·rw[q] at z;cases z
     ·have z2:=un.frzs b ob _ z;obtain⟨e1,_⟩:=hok b _ z;obtain⟨e2,_⟩:=hok' b _ z2;rw[e] at e1;cases e1;exact e2
 cases hk:K.lookup a with
 |some o =>
  have e:=KX a o hk;rw[ha] at e;cases e;refine core (fun _=>none) (fun _=>.inl rfl) (.inr ⟨_,vs.toArray,_,hk,rfl,rfl,rfl,by rw[List.size_toArray,lenV];exact hl,by simpa using rv⟩) (fun b u z=>by have z':(none:Option HO)=some u:=z;cases z') (fun b z=>absurd rfl z) fun z=>absurd rfl z
 |none =>
  refine core (fun b=>if b=a then some (.frz { cls:=.type "list",data:=.seq vs.toArray } (.lst (ns.map V.int))) else none) (fun b=>?_) (.inl (.inr ⟨{ cls:=.type "list",data:=.seq vs.toArray },if_pos rfl⟩)) (fun b u z=>?_) (fun b z=>?_) fun _=>hk
  ·by_cases hb:b=a
   ·exact .inr ⟨_,_,if_pos hb⟩
   ·exact .inl (if_neg hb)
  ·by_cases hb:b=a
   ·have z':=(if_pos hb).symm.trans z;cases z';subst hb;exact⟨ha,by rw[List.length_map];exact hl,vs,_,rv,ha⟩
   ·have z':=(if_neg hb).symm.trans z;cases z'
  ·by_cases hb:b=a
   ·exact hb
   ·exact absurd (if_neg hb) z
end L2
namespace L2
open PySem PySem.Spec PyProof.Rows
theorem aV9{l:PySem.W.OpenLaw}{n k:Nat}{q:Program}{loose:List Str}{XP:(Str->Option Value)->Heap->Prop}{YP:World->Heap->Prop}{d:DefRec}{K:Params->PySem.W.Frag}{CX:World->CXT}{sp:World->Sp}{x:Str}(hn:l.most=some n)(hn2:n<=sizeLine)(hdf:d.params.defaults=[])(hr:k9 k callerA)(hY:∀(w:World) (h:Heap),YP w h->(K w.params).In h)(F:∀ (w:World) (mg:Str->Option Value) (fa:Addr) (h:Heap),(K w.params).In h->h.Ns mainGlobals mg->mg d.name=some (.ref fa) ->
   ∃fd:FuncData,(∀(s:Shared) (u:Value),BindsTo s fd ⟨[u],[]⟩ [(x,u)]) /\
    ∀ base:Heap,(K w.params).In base->base.Ns mainGlobals mg->u4 l.prog w (K w.params) mg base (CX w) k fa fd [x] (sp w))(hsp:∀(w:World) (H:Hp) (a:Addr) (ns:List Int),ns.length<=n->aC8 H->SqL (K w.params) H a (ns.map V.int)->sp w [.ref a] H (fun v _=>v=.bl true) fun _ _ _=>False)(hCX:∀(w:World) (H:Hp) (s:Shared) (e:Value) (s':Shared),CX w [] H s (fun _ _ _=>False) e s'->False) :
  PySem.W.WalkO q loose XP YP l.row.toRowW d [] (fun f vs=>PySem.call f vs):=by
 refine Att.au5 hn hdf fun w s₀ s₁ mg mb fa o pm cd doc a vs ns G Y ho hd hcd hmg hobj hints hlen hg=>?_;have KX:=hY w _ Y;obtain⟨fd,hb,hF⟩:=F w mg fa _ KX G.T.g hmg;exact aQ5 KX G.T.g G.T.b G.T.builtins G.T.nolimit hg hobj hints (Nat.le_trans hlen hn2) hr hF hb (fun H hO hS=>hsp w H a ns hlen hO hS) fun H e s'=>hCX w H s₁ e s'
end L2
namespace L2
open PySem PySem.Spec PyProof.Rows
noncomputable def t8(s:Stmt):Arguments:=match s with
 |.FunctionDef _ a _ _ _ _ _ _ _ _=>a
 |_=>{ posonlyargs:=[],args:=[],vararg:=none,kwonlyargs:=[],kw_defaults:=[],kwarg:=none,defaults:=[] }
noncomputable def j9(s:Stmt):List Stmt:=match s with
 |.FunctionDef _ _ b _ _ _ _ _ _ _=>b
 |_=>[]
noncomputable def i9(s:Stmt):Scope:=match s with
 |.FunctionDef _ _ _ _ _ _ sc _ _ _=>sc
 |_=>{ kind:=.function,names:=[],isGenerator:=false,isCoroutine:=false }
noncomputable abbrev CX0:CXT:=fun _ _ _ _ _ _=>False
structure Fun(K:PySem.W.Frag)(x qual:Str)(st:Stmt)(f:Addr)(fd:FuncData):Prop where
 ex:∃(oc:Value) (od:Option Addr) (kV doc pm:Value) (an:Option Addr) (cdv ct:Value) (osl:Array (Option Value)),
  fd=PySem.W.fnOf x qual (t8 st) (j9 st) (i9 st) .none kV doc pm an cdv ct/\K.lookup f=some ⟨oc,od,.func fd,osl⟩/\PySem.W.codeIn K cdv qual=true
 kp:PySem.W.keepIn K (.ref f)=true
section
variable{P:Program}{w:World}{K:PySem.W.Frag}{mg:Str->Option Value}{base:Heap}
theorem Fun.ok{x qual:Str}{st:Stmt}{f:Addr}{fd:FuncData}{N ps:List Str}{k:Nat}{sp:Sp}(F:Fun K x qual st f fd)(S:FnScope N ps (i9 st))(len:∀vs H Q E,sp vs H Q E->vs.length=ps.length)(hbody:∀ (cdv:Value) (A:Around) (outer:List Env) (s:Shared) (H:Hp) (vs:List V) (Q:VK) (E:XK),k9 k (A.deeper (envOfC qual (i9 st) s.heap.objs.size f cdv))->sp vs H Q E ->
   ∃ t,PSs (P8 CX0 P w K mg base N qual (i9 st) f cdv A outer s H E).nox (j9 st) t/\t { nx:=fun _ H'=>Q .non H',rt:=Q } (start N vs) H):u4 P w K mg base CX0 (k + 1) f fd ps sp:=by
 obtain⟨oc,od,kV,doc,pm,an,cdv,ct,osl,rfl,lk,hcd⟩:=F.ex;refine aU8 lk hcd S len fun A outer s H vs Q E hr hsp=>?_;obtain⟨t,h,q⟩:=hbody cdv A outer s H vs Q E hr hsp;exact⟨t,h.nox,q⟩
theorem Fun.binds{x qual:Str}{st:Stmt}{f:Addr}{fd:FuncData}{ps:List Str}(F:Fun K x qual st f fd)(h:∀(kV doc pm:Value) (an:Option Addr) (cdv ct:Value) (us:List Value),us.length=ps.length->bindArgs (PySem.W.fnOf x qual (t8 st) (j9 st) (i9 st) .none kV doc pm an cdv ct) ⟨us,[]⟩=pure (ps.zip us)):Binds K fd ps []:=by
 obtain⟨oc,od,kV,doc,pm,an,cdv,ct,osl,rfl,lk,hcd⟩:=F.ex;exact .all (h kV doc pm an cdv ct)
theorem aI9{x qual:Str}{st:Stmt}{f:Addr}{oc:Value}{od an:Option Addr}{osl:Array (Option Value)}{kV doc pm cdv ct:Value}(l:K.lookup f=some ⟨oc,od,.func (PySem.W.fnOf x qual (t8 st) (j9 st) (i9 st) .none kV doc pm an cdv ct),osl⟩)(c:PySem.W.codeIn K cdv qual=true)(k:PySem.W.keepIn K (.ref f)=true):Fun K x qual st f (PySem.W.fnOf x qual (t8 st) (j9 st) (i9 st) .none kV doc pm an cdv ct):=⟨⟨oc,od,kV,doc,pm,an,cdv,ct,osl,rfl,l,c⟩,k⟩
end
section
variable{X:Cx}
theorem pv(i:Nat){x:Str}{pos:Pos}(hN:X.N[i]?=some x:=by rfl)(hv:Vis X.env.scope x:=by first|exact Or.inl rfl|exact Or.inr (Or.inl rfl)|exact Or.inr (Or.inr rfl))(hd:(x==("__debug__":Str))=false:=by decide)(hcd:(x==("__classdict__":Str))=false:=by decide):PE X (.Name x pos) (a55 i):=aF8 hN hv hd hcd
theorem aK5:i8 X (.builtin "len") (fun xs H Q=>∃a kvs,xs=[V.ref a]/\H a=some (.dK kvs)/\Q (.int kvs.length) H):=by
 intro pins s σ H xs us Q I r h;obtain⟨a,kvs,rfl,ha,q⟩:=h;obtain⟨u,rfl,ru⟩:=vals1 r;cases ru;exact bo2 I (.inl ha) fun t s' I'=>⟨.int kvs.length,H,I',⟨t,rfl⟩,q⟩
end
noncomputable def Q1(H H':Hp):Prop:=∀b o,H b=some o->H' b=some o
theorem Q1.refl(H:Hp):Q1 H H:=fun _ _ h=>h
theorem Q1.trans{H H1 H2:Hp}(a:Q1 H H1)(b:Q1 H1 H2):Q1 H H2:=fun c o h=>b c o (a c o h)
theorem Q1.free{H H':Hp}(e:Q1 H H'){l:Addr}(h:H' l=Option.none):H l=Option.none:=by
 cases q:H l with
 |none=>rfl
 |some o =>
  rw[e l o q] at h;cases h
theorem Q1.seq{K:PySem.W.Frag}{H H':Hp}{a:Addr}{xs:List V}(e:Q1 H H')(h:SqL K H a xs):SqL K H' a xs:=by
 rcases h with(h|⟨o,h⟩)|h
 ·exact .inl (.inl (e _ _ h))
 ·exact .inl (.inr ⟨o,e _ _ h⟩)
 ·exact .inr h
section
variable{κ:Type}[DecidableEq κ]
end
end L2

namespace L2
open PySem PySem.Spec PyProof.Rows
section
variable{prog:Program}{w:World}{A:Around}{R:Result->Shared->Prop}{s:Shared}
theorem as1{elt target iter:Expr}{ifs:List Expr}{scope:Scope}{pos:Pos}{it acc:Value}{env:Env}(I:Nat->Shared->Prop)(turn:∀ n s,I n s->wpAny (model prog w) A (pyNext it) (fun r s₁=>match r with
   |none=>R (.ok .next) s₁
   | some v=>wpAny (model prog w) A (letOwnedTupleGo target it v) (fun _ s₁=>wpAny (model prog w) A (assign target env v) (fun _ s₂ =>
     wpAny (model prog w) A (forIn ifs true fun c r=>if r=true then do let ok <- isTrue c env (eval c env);pure (ForInStep.yield ok) else pure (ForInStep.yield r)) (fun ok s₃ =>
      if ok=true then wpAny (model prog w) A (eval elt env) (fun x s₄ =>
       wpAny (model prog w) A (call (.builtin "list.append") [acc,x]) (fun _ s₅=>∃ m,m < n/\I m s₅) (fun _ _=>False) s₄) (notedBy (model prog w) A env fun e s'=>R (.error e) s') s₃
      else ∃ m,m < n/\I m s₃) (fun _ _=>False) s₂) (fun _ _=>False) s₁) (fun _ _=>False) s₁) (fun _ _=>False) s)(n:Nat)(h:I n s) :
  codeAny (model prog w) A (.compLoop (.ListComp elt [⟨target,iter,ifs,0⟩] scope pos) 0 it acc env) R s:=by
 refine codeAny_loop rfl I (fun n s hI=>?_) n h;show wpAny _ A ((compTurn (.ListComp elt [⟨target,iter,ifs,0⟩] scope pos) 0 it acc env).onRaise (fun x=>do noteFrame x env;theTreesLotGoes x)) _ _ s;refine wpAny_noted ?_;rw[compTurn_list];refine wpAny_bind (wpAny_standAt (wpAny_bind (wpAny_mono (turn n s hI) (fun r s₁ h₁=>?_) fun _ _ h'=>h'.elim)));cases r with
 |none=>exact wpAny_pure h₁
 |some v =>
  refine wpAny_bind (wpAny_mono h₁ (fun _ s₁ h₁=>?_) fun _ _ h'=>h'.elim);refine wpAny_bind (wpAny_mono h₁ (fun _ s₂ h₂=>wpAny_bind (wpAny_mono h₂ (fun ok s₃ h₃=>?_) fun _ _ h'=>h'.elim)) fun _ _ h'=>h'.elim);cases ok with
  |false=>exact wpAny_pure ⟨rfl,h₃⟩
  |true =>
   exact wpAny_bind (wpAny_bind (wpAny_mono h₃ (fun x s₄ h₄=>wpAny_bind (wpAny_mono h₄ (fun _ s₅ h₅=>wpAny_pure (wpAny_pure ⟨rfl,h₅⟩)) fun _ _ h'=>h'.elim)) fun _ _ h'=>h'))
end
noncomputable def PTs(X:Cx)(es:List Expr)(t:TT):Prop :=
 ∀(pins:List (Addr×Obj)) (s:Shared) (σ:St) (H:Hp) (Q:Bool->Hp->Prop),Inv X pins σ H s->t σ H Q ->
  wpAny (model X.prog X.w) X.A (forIn es true fun c r=>if r=true then do let ok <- isTrue c X.env (eval c X.env);pure (ForInStep.yield ok) else pure (ForInStep.yield r)) (TP X pins σ Q) X.xe s
noncomputable def bq6:TT:=fun _ H Q=>Q true H
section
variable{X:Cx}
theorem aZ1:PTs X [] bq6:=fun pins s σ H Q I h=>wpAny_pure ⟨H,I,h⟩
theorem aZ0{c:Expr}{t:TT}(h:PT X c t):PTs X [c] t:=by
 intro pins s σ H Q I q;simp only[List.forIn_cons,List.forIn_nil,if_true];exact wpAny_bind (wpAny_bind (wpAny_mono (h pins s σ H Q I q) (fun b s' hb=>wpAny_pure (wpAny_pure hb)) fun _ _ x=>x))
end
noncomputable def E6(scope:Scope)(cl:List (Str×Addr))(C:Addr):List (Str×Addr):=cellsFrom (C+1) scope.names []++cl
theorem y7:∀(names:List (Str×NameKind)) (n:Nat) (acc:List (Str×Addr)),cellsFrom n names acc=cellsFrom n names []++acc
 |[],_,_=>rfl
 |(y,k)::r,n,acc=>by
  unfold cellsFrom;split
  ·rw[y7 r (n+1) ((y,n)::acc),y7 r (n+1) [(y,n)],List.append_assoc]
   rfl
  ·exact y7 r n acc
theorem N9{x:Str}{c:Addr}:∀{names:List (Str×NameKind)} {n:Nat},(x,c)∈cellsFrom n names []->(x,NameKind.cell)∈names
 |[],_,h=>by simp[cellsFrom] at h
 |(y,k)::r,n,h=>by
  unfold cellsFrom at h;split at h
  ·rename_i hk;rw[y7] at h;rcases List.mem_append.mp h with z|z
   ·exact List.mem_cons_of_mem _ (N9 z)
   ·cases List.mem_singleton.mp z;rw[show k=NameKind.cell from by simpa using hk];exact List.mem_cons_self
  ·exact List.mem_cons_of_mem _ (N9 h)
theorem B3{α:Type}{x:Str}:∀{a b:List (Str×α)},(a++b).lookup x=(a.lookup x).or (b.lookup x)
 |[],_=>rfl
 |(y,v)::r,b=>by
  rw[List.cons_append,List.lookup_cons,List.lookup_cons];cases x==y
  ·exact B3
  ·rfl
theorem ak2{scope:Scope}{cl:List (Str×Addr)}{C:Addr}{x:Str}(h:scope.names.lookup x=some .cell\/∃c,cl.lookup x=some c):∃c,(E6 scope cl C).lookup x=some c:=by
 unfold E6;rw[B3];cases e:(cellsFrom (C+1) scope.names []).lookup x with
 |some c=>exact⟨c,rfl⟩
 |none =>
  rcases h with h|h
  ·have q:=PySem.W.cellsFrom_some scope.names (C+1) [] (.inl h);rw[e] at q;cases q
  ·exact h
theorem F4{env:Env}:∀{names:List (Str×NameKind)} {x:Str},names.lookup x=some .cell ->
  (names.map fun(n,k)=>if(k==NameKind.free&&env.scope.kind==.function&&env.kindOf n==some .cell) then(n,NameKind.cell) else(n,k)).lookup x=some .cell
 |[],_,h=>by simp at h
 |(n,k)::r,x,h=>by
  have ih:=@F4 env r x;show List.lookup x ((if(k==NameKind.free&&env.scope.kind==.function&&env.kindOf n==some .cell)=true then(n,NameKind.cell) else(n,k))::_)=_;cases hx:x==n with
  |true =>
   simp only[List.lookup_cons,hx] at h;cases h;simp[List.lookup_cons,hx]
  |false =>
   simp only[List.lookup_cons,hx] at h;by_cases hc:(k==NameKind.free&&env.scope.kind==.function&&env.kindOf n==some .cell)=true
   ·rw[if_pos hc];simp only[List.lookup_cons,hx];exact ih h
   ·rw[if_neg hc];simp only[List.lookup_cons,hx];exact ih h
theorem ar6{scope:Scope}{cl:List (Str×Addr)}{C:Addr}{h:Heap}(ck:CellsOk h (C+1) (cellsFrom (C+1) scope.names [])){x:Str}{c:Addr}(e:(E6 scope cl C).lookup x=some c):C<c\/cl.lookup x=some c:=by
 unfold E6 at e;rw[B3] at e;cases e2:(cellsFrom (C+1) scope.names []).lookup x with
 |some c' =>
  rw[e2] at e;cases e;exact .inl (ck.empty x c (PySem.mem_of_lookup e2)).2
 |none =>
  rw[e2] at e;exact .inr e
theorem al0{M:Model}{A:Around}{E:Value->Shared->Prop}{s:Shared}{scope:Scope}{globals:Addr}{cl:List (Str×Addr)}{qual:Str}{outer:Env}{Q:Env->Shared->Prop}(hQ:∀ h₁:Heap,h₁.Ns s.heap.objs.size (fun _=>none)->(∀ b o,s.heap.get? b=some o->h₁.get? b=some o)->CellsOk h₁ (s.heap.objs.size + 1) (cellsFrom (s.heap.objs.size + 1) scope.names []) ->
   Q (newEnv scope s.heap.objs.size globals (E6 scope cl s.heap.objs.size) qual none .none (some outer) builtinsNs) { s with heap:=h₁ }) :
  wpAny M A (newFunctionEnv scope globals cl [] qual none .none (some outer)) Q E s:=by
 simp only[newFunctionEnv,Option.isSome_some,if_true];refine wpAny_bind (wpAny_alloc ?_);refine wpAny_bind (wpAny_layCells _ (fun name kind cells=>by cases hkc:kind==NameKind.cell<;>simp[hkc]) _ _ _ _ ?_);have ok:=cellsFrom_ok scope.names (s.heap.push { cls:=.type "dict",data:=.dict #[] }) (s.heap.objs.size+1) [] ⟨fun _ _ hm=>(nomatch hm),List.Pairwise.nil⟩ (by rw[Heap.size_push];exact Nat.le_refl _);rw[Heap.size_push] at ok;rw[show({ s with heap:=s.heap.push { cls:=.type "dict",data:=.dict #[] } }:Shared).heap.objs.size=s.heap.objs.size+1 from Heap.size_push ..];rw[List.forIn_nil];refine wpAny_bind (wpAny_pure (wpAny_pure ?_));rw[y7];exact hQ _ ((Heap.Ns.new s.heap (.type "dict")).keeps (pushCells_keeps _ _)) (fun b o e=>pushCells_keeps _ _ b o (Heap.get?_push_of_some _ e)) ok
noncomputable def d8(X:Cx)(pins:List (Addr×Obj))(scope:Scope)(N':List Str)(cl:List (Str×Addr))(C:Addr)(s:Shared)(H:Hp)(fp:List Addr):Cx where
 prog:=X.prog
 w:=X.w
 K:=X.K
 mg:=X.mg
 base:=X.base
 A:=X.A
 N:=N'
 s₀:=s
 H₀:=H
 env:=compEnvC scope (E6 scope cl C) C X.env
 outer:=X.stack
 stack:=X.stack
 ex:=fp
 calm:=true
 fn:=fun x=>decide (scope.names.lookup x=some .cell)
 pn:=X.pn++pins
 xe:=fun _ _=>False
structure CompScope(X:Cx)(scope:Scope)(N':List Str)(d0:List Nat)(cl:List (Str×Addr)):Prop where
 kind:scope.kind=.function
 cells:∀y∈scope.names,y.2=.cell->scope.names.lookup y.1=some .cell
 names:∀y∈scope.names,y.2=.local->scope.names.lookup y.1=some .local
 clos:closureFor scope X.env=pure cl
 cin:∀x c,cl.lookup x=some c->X.env.cells.lookup x=some c
 chas:∀x,scope.names.lookup x=some .free->∃c,cl.lookup x=some c
 nd:N'.Nodup
 cap:∀(i j:Nat),d0[i]?=some j->∃x,N'[i]?=some x/\X.N[j]?=some x/\scope.names.lookup x=some .free/\(X.env.kindOf x=some .cell\/X.env.kindOf x=some .free)
 clen:d0.length<=N'.length
theorem y9{env:Env}:∀{names:List (Str×NameKind)} {x:Str},names.lookup x=some .free ->
  (names.map fun(n,k)=>if(k==NameKind.free&&env.scope.kind==.function&&env.kindOf n==some .cell) then(n,NameKind.cell) else(n,k)).lookup x=some .cell \/
  (names.map fun(n,k)=>if(k==NameKind.free&&env.scope.kind==.function&&env.kindOf n==some .cell) then(n,NameKind.cell) else(n,k)).lookup x=some .free
 |[],_,h=>by simp at h
 |(n,k)::r,x,h=>by
  have ih:=@y9 env r x;show List.lookup x ((if(k==NameKind.free&&env.scope.kind==.function&&env.kindOf n==some .cell)=true then(n,NameKind.cell) else(n,k))::_)=_\/List.lookup x ((if(k==NameKind.free&&env.scope.kind==.function&&env.kindOf n==some .cell)=true then(n,NameKind.cell) else(n,k))::_)=_;cases hx:x==n with
  |true =>
   simp only[List.lookup_cons,hx] at h;cases h;by_cases hc:(NameKind.free==NameKind.free&&env.scope.kind==.function&&env.kindOf n==some .cell)=true
   ·rw[if_pos hc];simp[List.lookup_cons,hx]
   ·rw[if_neg hc];simp[List.lookup_cons,hx]
  |false =>
   simp only[List.lookup_cons,hx] at h;by_cases hc:(k==NameKind.free&&env.scope.kind==.function&&env.kindOf n==some .cell)=true
   ·rw[if_pos hc];simp only[List.lookup_cons,hx];exact ih h
   ·rw[if_neg hc];simp only[List.lookup_cons,hx];exact ih h
theorem F5{env:Env}:∀{names:List (Str×NameKind)} {x:Str},((names.map fun(n,k)=>if(k==NameKind.free&&env.scope.kind==.function&&env.kindOf n==some .cell) then(n,NameKind.cell) else(n,k)).lookup x=some .cell \/
  (names.map fun (n,k)=>if (k == NameKind.free && env.scope.kind == .function && env.kindOf n == some .cell) then (n,NameKind.cell) else (n,k)).lookup x=some .free)->names.lookup x=some .free \/ names.lookup x=some .cell
 |[],_,h=>by simp at h
 |(n,k)::r,x,h=>by
  have ih:=@F5 env r x;rw[List.map_cons] at h;cases hx:x==n with
  |true =>
   simp only[List.lookup_cons,hx];by_cases hc:(k==NameKind.free&&env.scope.kind==.function&&env.kindOf n==some .cell)=true
   ·left;simp only[Bool.and_eq_true,beq_iff_eq] at hc;rw[hc.1.1]
   ·simp only[if_neg hc,List.lookup_cons,hx] at h;rcases h with h|h
    ·exact .inr h
    ·exact .inl h
  |false =>
   simp only[List.lookup_cons,hx];by_cases hc:(k==NameKind.free&&env.scope.kind==.function&&env.kindOf n==some .cell)=true
   ·simp only[if_pos hc,List.lookup_cons,hx] at h;exact ih h
   ·simp only[if_neg hc,List.lookup_cons,hx] at h;exact ih h
noncomputable def B8(σ:St)(d0:List Nat)(n:Nat):St:=d0.map (fun j=>(σ[j]?).join)++List.replicate (n-d0.length) none
section
variable{X:Cx}{pins:List (Addr×Obj)}{σ:St}{H:Hp}{s:Shared}
theorem Inv.aB6{scope:Scope}{N':List Str}{d0:List Nat}{cl:List (Str×Addr)}{C:Addr}{h1:Heap}{fp:List Addr}{tk:Nat}(I:Inv X pins σ H s)(S:CompScope X scope N' d0 cl)(hc:X.calm=true)(hf:∀b∈fp,F0 X pins H b)(ho:∀b∈fp,∃o,s.heap.get? b=some o)(hC:s.heap.objs.size<=C)(hn:∃m,h1.Ns C m)(k:∀b o,s.heap.get? b=some o->h1.get? b=some o)(ck:CellsOk h1 (C+1) (cellsFrom (C+1) scope.names [])) :
  Inv (d8 X pins scope N' cl C s H fp) [] (B8 σ d0 N'.length) H { s with heap:=h1,toks:=tk }:=by
 obtain⟨m,hm⟩:=hn;have hkf:(relabel scope X.env).kind=.function:=S.kind;have noC:∀b o,s.heap.get? b=some o->b≠C:=fun b o e z=>absurd (Heap.lt_size e) (by rw[z];exact Nat.not_lt.mpr hC);have two:∀{x:Str} {c:Addr},(E6 scope cl C).lookup x=some c->(C<c/\h1.IsCell c none/\(x,c)∈cellsFrom (C+1) scope.names [])\/(cl.lookup x=some c/\(cellsFrom (C+1) scope.names []).lookup x=none):=fun{x c} h=>by
  unfold E6 at h;rw[B3] at h;cases e:(cellsFrom (C+1) scope.names []).lookup x with
  |some c' =>
   rw[e] at h;cases h;have hm:=PySem.mem_of_lookup e;exact .inl ⟨(ck.empty x c hm).2,(ck.empty x c hm).1,hm⟩
  |none =>
   rw[e] at h;exact .inr ⟨h,rfl⟩
 have oldc:∀{x:Str} {c:Addr},cl.lookup x=some c->c<s.heap.objs.size:=fun{x c} h=>by
  obtain⟨v,o,e,_⟩:=I.cell x c (S.cin x c h);exact Heap.lt_size e
 have frees:∀{x:Str},scope.names.lookup x=some .free->(E6 scope cl C).lookup x=cl.lookup x:=fun{x} h=>by
  unfold E6;rw[B3];cases e:(cellsFrom (C+1) scope.names []).lookup x with
  |some c' =>
   have:=S.cells _ (N9 (PySem.mem_of_lookup e)) rfl;rw[h] at this;cases this
  |none=>rfl
 refine⟨⟨I.mod,hkf,I.ok.glob,I.ok.blt,hC,?_,?_,?_,fun _=>I.ok.hd hc,I.ok.frames,.inl rfl,?_,I.bs,?_,?_,?_,I.stack,I.X7⟩,rfl,I.bare,Un.kept k,⟨m,hm,?_⟩,?_,?_,?_,?_,I.hok.kept k,?_⟩
 ·intro x y c h1 h2;rcases two h1 with⟨l1,_,q1⟩|⟨q1,_⟩<;>rcases two h2 with⟨l2,_,q2⟩|⟨q2,_⟩
  ·exact PySem.name_of_addr ck.apart q1 q2
  ·exact absurd (Nat.lt_trans l1 (Nat.lt_of_lt_of_le (oldc q2) hC)) (Nat.lt_irrefl _)
  ·exact absurd (Nat.lt_trans l2 (Nat.lt_of_lt_of_le (oldc q1) hC)) (Nat.lt_irrefl _)
  ·exact I.ok.inj x y c (S.cin x c q1) (S.cin y c q2)
 ·intro x hx;rcases F5 (env:=X.env) (names:=scope.names) hx with z|z
  ·obtain⟨c,hc⟩:=S.chas x z;exact⟨c,(frees z).trans hc⟩
  ·have q:=PySem.W.cellsFrom_some scope.names (C+1) [] (.inl z);obtain⟨c,hc⟩:=Option.isSome_iff_exists.mp q;refine⟨c,?_⟩;show(E6 scope cl C).lookup x=some c;unfold E6;rw[B3,hc]
   rfl
 ·intro x c hf h;have z:scope.names.lookup x=some .cell:=of_decide_eq_true hf;have q:=PySem.W.cellsFrom_some scope.names (C+1) [] (.inl z);rcases two h with⟨l,_⟩|⟨_,e⟩
  ·exact Nat.le_of_lt (Nat.lt_of_le_of_lt hC l)
  ·rw[e] at q;cases q
 ·intro b hb;obtain⟨f0,f1,f2,f3,f4,f5⟩:=hf b hb;obtain⟨o,e⟩:=ho b hb;refine⟨noC b o e,fun x c h=>?_⟩;rcases two h with⟨l,_⟩|⟨q,_⟩
  ·intro z;subst z;exact absurd (Nat.lt_trans l (Nat.lt_of_lt_of_le (Heap.lt_size e) hC)) (Nat.lt_irrefl _)
  ·exact f4 x c (S.cin x c q)
 ·exact Nat.le_trans I.ok.bsz I.sz
 ·intro b o e hb;obtain⟨f0,f1,f2,f3,f4,f5⟩:=hf b hb;rcases f3 with f3|f3
  ·exact I.ok.noex b o e f3
  ·exact absurd (Heap.lt_size (I.ok.bs b o e).1) (Nat.not_lt.mpr f3)
 ·intro b hb z;obtain⟨f0,f1,f2,f3,f4,f5⟩:=hf b hb;rcases List.mem_cons.mp (I.K0 b z) with z|z
  ·exact f1 z
  ·exact f2 z
 ·intro i x v h1' h2 h3;have hi:i<d0.length:=by
   unfold B8 at h2;by_cases hi:i<d0.length
   ·exact hi
   ·rw[List.getElem?_append_right (by simpa using hi),List.getElem?_replicate] at h2;split at h2<;>cases h2
  obtain⟨j,hj⟩:∃j,d0[i]?=some j:=⟨_,List.getElem?_eq_getElem hi⟩
  have hs:σ[j]?=some (some v):=by
   unfold B8 at h2;rw[List.getElem?_append_left (by simpa using hi),List.getElem?_map,hj] at h2;simp only[Option.map_some] at h2;cases e:σ[j]? with
   |none=>rw[e] at h2;cases h2
   |some a=>rw[e] at h2;exact congrArg some (Option.some.inj h2)
  obtain⟨y,hy1,hy2,hy3,hy4⟩:=S.cap i j hj;have ey:y=x:=by
   have h1'':N'[i]?=some x:=h1';rw[hy1] at h1'';exact Option.some.inj h1''
  subst ey;obtain⟨m0,hm0,hl⟩:=I.loc;obtain ⟨u,ru,hu⟩:=hl j y v hy2 hs (by
   rcases hy4 with z|z
   ·exact .inr (.inl z)
   ·exact .inr (.inr z))
  refine⟨u,ru,.inr ⟨y9 (env:=X.env) (names:=scope.names) hy3,?_⟩⟩;rcases hu with⟨z,_⟩|⟨_,c,hc1,hc2⟩
  ·rcases hy4 with z'|z'<;>(rw[z'] at z;cases z)
  ·obtain⟨c',hc'⟩:=S.chas y hy3;have e:=S.cin y c' hc';rw[hc1] at e;cases e;obtain⟨o,e1,e2⟩:=hc2;exact⟨c,(frees hy3).trans hc',o,k _ _ e1,e2⟩
 ·intro x c h;rcases two h with⟨_,q,_⟩|⟨q,_⟩
  ·exact⟨none,q⟩
  ·obtain⟨v,o,e1,e2⟩:=I.cell x c (S.cin x c q);exact⟨v,o,k _ _ e1,e2⟩
 ·exact I.hok.fresh hC
 ·intro x c h;rcases two h with⟨l,_⟩|⟨q,_⟩
  ·exact I.hok.fresh (Nat.le_of_lt (Nat.lt_of_le_of_lt hC l))
  ·exact I.freeC x c (S.cin x c q)
 ·intro p hp;have hp':p∈X.pn++pins:=by simpa[d8] using hp
  obtain⟨p1,p2,p3,p4,p5⟩:=I.pin p hp';refine⟨k _ _ p1,p2,noC _ _ p1,fun z=>?_,p5⟩;rcases List.mem_cons.mp (I.K0 _ z) with z|z
  ·exact p3 z
  ·exact p4 z
 ·unfold B8;show _=N'.length;rw[List.length_append,List.length_map,List.length_replicate];have:=S.clen;omega
theorem Inv.ar9{scope:Scope}{N':List Str}{cl:List (Str×Addr)}{C:Addr}{fp:List Addr}{pins':List (Addr×Obj)}{σ':St}{H':Hp}{s':Shared}(I:Inv X pins σ H s)(hf:∀b∈fp,F0 X pins H b)(J:Inv (d8 X pins scope N' cl C s H fp) pins' σ' H' s'):Inv X pins σ H' s' :=
 I.aB9 (ch:=fp) J.os J.base J.hok J.bare fun b hb=>by
  obtain⟨f0,f1,f2,f3,f4,f5⟩:=hf b hb;exact⟨f3,f1,f4,f5⟩
theorem Inv.bi0{D:Addr}{ys:List V}{its:List Value}{n:Nat}(I:Inv X pins σ H s)(f:F0 X pins H D)(hs:X.s₀.heap.objs.size<=D)(hv:Vals ys its)(hz:ys.length<=sizeLine)(ho:s.heap.get? D=some { cls:=.type "list",data:=.seq its.toArray n }):Inv X pins σ (upd H D (.lst ys)) s:=by
 obtain⟨f0,f1,f2,f3,f4,f5⟩:=f;have hne:∀b o,X.s₀.heap.get? b=some o->b≠D:=fun b o e z=>absurd (Heap.lt_size e) (by rw[z];exact Nat.not_lt.mpr hs);have tup:∀b u,H b=some u->upd H D (.lst ys) b=some u:=fun b u e=>by rw[f6 (j2 e f0)];exact e
 refine⟨I.ok,I.os,I.bare,⟨?_,?_,?_,I.base.there,?_,?_,?_⟩,I.loc,I.cell,?_,?_,?_,?_,I.len⟩
 ·exact fun b o e n1 n2 n3=>I.base.keep b o e n1 n2 n3
 ·exact fun b o e n1 n2 n3=>I.base.slot b o e n1 n2 n3
 ·exact fun b o e n1 n2=>by rw[f6 (hne b o e)];exact I.base.free b o e n1 n2
 ·exact fun b xs e=>tup _ _ (I.base.tups b xs e)
 ·exact fun b o u e=>tup _ _ (I.base.frzs b o u e)
 ·exact fun b ps e=>by
   obtain⟨more,q⟩:=I.base.tbls b ps e;exact⟨more,tup _ _ q⟩
 ·rw[f6 f1.symm];exact I.free
 ·exact fun x c e=>by rw[f6 (f4 x c e)];exact I.freeC x c e
 ·intro p hp;obtain⟨p1,p2,p3⟩:=I.pin p hp;exact⟨p1,by rw[f6 (f5 p hp)];exact p2,p3⟩
 ·intro a o e;by_cases ha:a=D
  ·subst ha;rw[p8] at e;cases e;exact⟨hz,its,n,hv,ho⟩
  ·rw[f6 ha] at e;have q:=I.hok a o e;refine q.P0 (fun b u _ h=>h) (fun b hb=>tup _ _ hb) (fun b xs hb=>tup _ _ hb)
end
end L2

namespace L2
open PySem PySem.Spec PyProof.Rows
noncomputable def ac6(wi:TI)(d0:List Nat)(n:Nat)(g:TG)(tc:TT)(te:TE):TE:=fun σ H Q=>wi σ H fun J H1=>∃W:Nat->Nat->List V->St->Hp->Prop,(∃m,W 0 m [] (B8 σ d0 n) H1)/\∀i m ys σ H,W i m ys σ H ->
 (J.stop i H/\∀p,H p=none->Q (.ref p) (upd H p (.lst ys))) \/
 (J.go i H/\ys.length < sizeLine/\∀ x H',J.yld i H x H'->g x σ H' fun σ2 H2=>tc σ2 H2 fun b H3 =>
  if b=true then te σ2 H3 fun y H4=>∃ m',m' < m/\W (i + 1) m' (ys ++ [y]) σ2 H4 else ∃ m',m' < m/\W (i + 1) m' ys σ2 H3)
noncomputable abbrev F8(its:List Value)(n:Nat):Obj:={ cls:=.type "list",data:=.seq its.toArray n }
section
variable{X:Cx}{pins:List (Addr×Obj)}{σ:St}{H:Hp}{s:Shared}
theorem T9{elt tg iter:Expr}{ifs:List Expr}{scope:Scope}{N':List Str}{d0:List Nat}{cl:List (Str×Addr)}{pos:Pos}{it:Addr}{fp:List Addr}{tn:Nat->Heap->Prop}{J:It}{g:TG}{tc:TT}{te:TE}{xx:Addr->Shared->Hp->Value->Shared->Prop}{RR:Value->Addr->Result->Shared->Prop}{E:Value->Shared->Prop}{W:Nat->Nat->List V->St->Hp->Prop}{m0:Nat}{Q:VK}(S:CompScope X scope N' d0 cl)(hc:X.calm=true)(hg:∀C s H,PG (d8 X pins scope N' cl C s H fp) tg g)(ht:∀C s H,PTs (d8 X pins scope N' cl C s H fp) ifs tc)(he:∀C s H,PE ((d8 X pins scope N' cl C s H fp).A3 (xx C s H)) elt te)(I:Inv X pins σ H s)(T:Turn X.prog X.w X.K tg J fp it tn)(st:tn 0 s.heap)(hf:∀b∈fp,F0 X pins H b)(w0:W 0 m0 [] (B8 σ d0 N'.length) H)(turn:∀ i m ys σ H,W i m ys σ H->(J.stop i H/\∀ p,H p=none->Q (.ref p) (upd H p (.lst ys))) \/
   (J.go i H/\ys.length < sizeLine/\∀ x H',J.yld i H x H'->g x σ H' fun σ2 H2=>tc σ2 H2 fun b H3 =>
    if b=true then te σ2 H3 fun y H4=>∃ m',m' < m/\W (i + 1) m' (ys ++ [y]) σ2 H4 else ∃ m',m' < m/\W (i + 1) m' ys σ2 H3))(hRR:∀D C s' H' m,Inv X pins σ H' s'->Q (.ref D) H'->s'.heap.Ns C m->H' C=none->s.heap.objs.size<=C->RR (.ref D) C (.ok .next) s')(hRX:∀D C e s',s.heap.objs.size<=C->xx C s H e s'->notedBy (model X.prog X.w) X.A (compEnvC scope (E6 scope cl C) C X.env) (fun e s'=>RR (.ref D) C (.error e) s') e s') :
  wpAny (model X.prog X.w) X.A (newList []) (fun acc s₃=>wpAny (model X.prog X.w) X.A (newFunctionEnv scope X.env.globals cl [] X.env.qual none .none (some X.env)) (fun cenv s₄ =>
   cenv.frame=X.env.frame/\codeAny (model X.prog X.w) X.A (.compStart (.ListComp elt [⟨tg,iter,ifs,0⟩] scope pos) 0 (.ref it) acc { cenv with scope:=relabel scope X.env }) (RR acc cenv.locals) s₄) E s₃) E s:=by
 refine wpAny_newObj_type (al0 fun h₁ hns₁ hsb₁ hck=>?_);dsimp only at hns₁ hsb₁ hck ⊢;generalize hH2:s.heap.push { cls:=.type "list",dict:=none,data:=.seq ([]:List Value).toArray }=H2 at hns₁ hsb₁ hck ⊢;generalize eD:s.heap.objs.size=D at *;have hC:H2.objs.size=D+1:=by rw[<- hH2,Heap.size_push,eD]
 generalize eC:H2.objs.size=C at *;have hDC:D≠C:=by omega
 have lt:∀b o,s.heap.get? b=some o->b<D:=fun b o e=>by rw[<- eD];exact Heap.lt_size e
 have leC:D<=C:=by omega
 have neC:∀b o,s.heap.get? b=some o->b≠C:=fun b o e=>Nat.ne_of_lt (Nat.lt_of_lt_of_le (lt b o e) leC);have neD:∀b o,s.heap.get? b=some o->b≠D:=fun b o e=>Nat.ne_of_lt (lt b o e);have old:∀b o,s.heap.get? b=some o->h₁.get? b=some o:=fun b o e=>hsb₁ b o (hH2▸Heap.get?_push_of_some _ e);have hacc:h₁.get? D=some (F8 [] 0):=hsb₁ _ _ (by rw[<- hH2,<- eD];exact Heap.get?_push_size _ rfl);have hobj:∀b∈fp,∃o,s.heap.get? b=some o:=fun b hb=>by
  obtain⟨o,e,_⟩:=T.obj _ _ st b hb;exact⟨o,e⟩
 have hDf:D∉fp:=fun hm=>by
  obtain⟨o,e⟩:=hobj D hm;exact neD D o e rfl
 have X1:Inv (d8 X pins scope N' cl C s H fp) [] (B8 σ d0 N'.length) H { s with heap:=h₁ } :=
  I.aB6 S hc hf hobj (by rw[eD];omega) ⟨_,hns₁⟩ old hck
 have st1:tn 0 h₁:=T.keep _ _ _ st fun b _ o e=>old b o e;have fpc:∀{H':Hp},(∀b∈fp,H' b=none)->∀b∈fp,F0 (d8 X pins scope N' cl C s H fp) [] H' b:=fun hn b hb=>by
  obtain⟨f0,f1,f2,f3,f4,f5⟩:=hf b hb;obtain⟨o,e⟩:=hobj b hb;refine⟨hn b hb,?_,?_,.inl hb,fun x c q=>(ar6 hck q).elim (fun l z=>absurd (Nat.lt_trans (z▸l) (Nat.lt_of_lt_of_le (lt b o e) leC)) (Nat.lt_irrefl _)) fun q=>f4 x c (S.cin x c q),fun p hp=>?_⟩
  ·exact neC b o e
  ·exact fun z=>by
    rcases List.mem_cons.mp (I.K0 b z) with z|z
    ·exact f1 z
    ·exact f2 z
  ·have hp':p∈X.pn++pins:=by simpa[d8] using hp
   exact f5 p hp'
 have fD:∀{H':Hp},H' D=none->F0 (d8 X pins scope N' cl C s H fp) [] H' D:=fun hn=>by
  refine⟨hn,hDC,fun z=>?_,.inr (by show s.heap.objs.size<=D;omega),fun x c q=>?_,fun p hp=>?_⟩
  ·exact absurd (I.az6 (a:=D) (by omega)) fun hno=>by
    rcases List.mem_cons.mp (I.K0 D z) with z|z
    ·exact absurd I.lt (by rw[<- z,eD];exact Nat.lt_irrefl _)
    ·exact hno z
  ·rcases ar6 hck q with l|q
   ·exact fun z=>absurd (Nat.lt_of_lt_of_le (z▸l) leC) (Nat.lt_irrefl _)
   ·obtain⟨v,o,e,_⟩:=I.cell x c (S.cin x c q);exact neD c o e
  ·have hp':p∈X.pn++pins:=by simpa[d8] using hp
   exact neD _ _ (I.pin p hp').1
 have pinD:∀{H':Hp} {s':Shared} {σ':St} {its:List Value} {n:Nat},Inv (d8 X pins scope N' cl C s H fp) [] σ' H' s'->H' D=none->s'.heap.get? D=some (F8 its n) ->
   Inv (d8 X pins scope N' cl C s H fp) [(D,F8 its n)] σ' H' s':=fun{H' s' σ' its n} J0 hn e=>J0.Q4 fun p hp=>by
  have z:p=(D,F8 its n):=by simpa using hp
  subst z;obtain⟨f0,f1,f2,_⟩:=fD hn;exact⟨e,f0,f1,f2,fun v z=>nomatch z⟩
 have fpD:∀{H':Hp} {its:List Value} {n:Nat},(∀b∈fp,H' b=none)->∀b∈fp,F0 (d8 X pins scope N' cl C s H fp) [(D,F8 its n)] H' b:=fun{H' its n} hn b hb=>by
  obtain⟨f0,f1,f2,f3,f4,f5⟩:=fpc hn b hb;refine⟨f0,f1,f2,f3,f4,fun p hp=>?_⟩;have hp':p∈(d8 X pins scope N' cl C s H fp).pn\/p=(D,F8 its n):=by simpa using hp
  rcases hp' with z|z
  ·exact f5 p (List.mem_append_left _ z)
  ·subst z;exact fun z=>hDf (by rw[show D=b from z];exact hb)
 have loop:∀s₃:Shared,s₃={ s with heap:=h₁ } ->
   codeAny (model X.prog X.w) X.A (.compLoop (.ListComp elt [⟨tg,iter,ifs,0⟩] scope pos) 0 (.ref it) (.ref D) (compEnvC scope (E6 scope cl C) C X.env)) (RR (.ref D) C) s₃:=by
  rintro s₃ rfl;refine as1 (fun n s'=>∃ i ys σ' H' its nn,Inv (d8 X pins scope N' cl C s H fp) [] σ' H' s'/\tn i s'.heap/\(∀ b ∈ fp,H' b=none)/\H' D=none/\Vals ys its/\ys.length <= sizeLine /\
   s'.heap.get? D=some (F8 its nn)/\W i n ys σ' H') ?_ m0 ⟨0,[],_,H,[],0,X1,st1,fun b hb=>(hf b hb).1,I.hok.fresh (by omega),.nil,Nat.zero_le _,hacc,w0⟩
  rintro n s3 ⟨i,ys,σ3,H3,its,nn,I3,st3,fr3,d3,v3,z3,o3,w3⟩;have I3':=pinD I3 d3 o3;rcases turn i n ys σ3 H3 w3 with⟨stop,q⟩|⟨go,hz,step⟩
  ·refine thn (T.done (d8 X pins scope N' cl C s H fp) rfl rfl rfl rfl i _ s3 _ H3 _ I3' (fpD fr3) st3 stop) fun r s4 ⟨hr,I4⟩=>?_;subst hr;have o4:=(I4.pin (D,F8 its nn) (by simp)).1;have J4:Inv X pins σ H3 s4:=I.ar9 hf I4;have fD4:F0 X pins H3 D:=by
    refine⟨d3,Nat.ne_of_gt (by rw[<- eD];exact I.lt),I.az6 (by omega),.inr (by have:=I.sz;omega),fun x c q=>?_,fun p hp=>?_⟩
    ·obtain⟨v,o,e,_⟩:=I.cell x c q;exact neD c o e
    ·exact neD _ _ (I.pin p hp).1
   obtain⟨mC,hmC,_⟩:=I4.loc;exact hRR D C s4 (upd H3 D (.lst ys)) mC (J4.bi0 fD4 (by have:=I.sz;omega) v3 z3 o4) (q D d3) hmC (by rw[f6 hDC.symm];exact I4.free) (by omega)
  ·refine thn (T.item (d8 X pins scope N' cl C s H fp) rfl rfl rfl rfl i _ s3 _ H3 _ I3' (fpD fr3) st3 go) fun r s4 ⟨u,hr,h4⟩=>?_;subst hr;refine thn h4 fun _ s5 ⟨x,H5,I5,r5,y5,st5,fr5⟩=>?_;have o5:=I5.pin (D,F8 its nn) (by simp);have I5':=I5.pinned (fpD fr5) (T.obj _ _ st5);refine thn (hg C s H _ s5 _ H5 x u _ I5' r5 (step x H5 y5)) fun _ s6 ⟨σ6,H6,I6,q6⟩=>?_;refine thn (ht C s H _ s6 σ6 H6 _ I6 q6) fun ok s7 ⟨H7,I7,q7⟩=>?_;have back:∀{σ8:St} {H8:Hp} {s8:Shared},Inv (d8 X pins scope N' cl C s H fp) ([(D,F8 its nn)]++V5 fp s5.heap) σ8 H8 s8->(∀b∈fp,H8 b=none)/\tn (i+1) s8.heap/\H8 D=none/\s8.heap.get? D=some (F8 its nn) :=
    fun{σ8 H8 s8} I8=>by
     have pf:∀b∈fp,∀o,s5.heap.get? b=some o->s8.heap.get? b=some o/\H8 b=none:=fun b hb o e=>by
      have:=I8.pin (b,o) (List.mem_append_right _ (List.mem_append_right _ (S7 hb e)));exact⟨this.1,this.2.1⟩
     have pd:=I8.pin (D,F8 its nn) (by simp);refine⟨fun b hb=>?_,T.keep _ _ _ st5 fun b hb o e=>(pf b hb o e).1,pd.2.1,pd.1⟩;obtain⟨o,e,_⟩:=T.obj _ _ st5 b hb;exact(pf b hb o e).2
   cases ok with
   |false =>
    obtain⟨m',hm,w7⟩:=q7;obtain⟨b1,b2,b3,b4⟩:=back I7;exact⟨m',hm,i+1,ys,σ6,H7,its,nn,I7.Q4 fun p hp=>absurd hp (by simp),b2,b1,b3,v3,z3,b4,w7⟩
   |true =>
    refine wpAny_mono (he C s H _ s7 σ6 H7 _ (I7.A3 _) q7) (fun xv s8 ⟨y,H8,I8,r8,m',hm,w8⟩=>?_) fun e s' hx=>hRX D C e s' (by omega) hx;have I8:=I8.w6;obtain⟨b1,b2,b3,b4⟩:=back I8;refine call_meets F.slot_list_append ⟨_,b4,rfl⟩ F.entry_list_append (F.args_list_append_2 _ _) (PySem.list_append D its.toArray nn xv (by rw[List.size_toArray];have:=v3.length;omega)) ⟨b4,?_⟩;have q:∃n',(s8.heap.update D (Obj.mapSeq (·.push xv))).get? D=some (F8 (its++[xv]) n'):=by
     have q0:=PySem.IsL.update b4 (·.push xv);have e0:its.toArray.push xv=(its++[xv]).toArray:=by simp
     rw[e0] at q0;exact⟨_,q0⟩
    obtain⟨n',q⟩:=q;have I8':Inv (d8 X pins scope N' cl C s H fp) [] σ6 H8 s8:=I8.Q4 fun p hp=>absurd hp (by simp);obtain⟨f0,f1,f2,f3,f4,f5⟩:=fD (H':=H8) b3;have kp:∀b o,b≠D->s8.heap.get? b=some o->(s8.heap.update D (Obj.mapSeq (·.push xv))).get? b=some o:=fun b' u hb hu=>(Heap.get?_update_other s8.heap (Obj.mapSeq (·.push xv)) (Ne.symm hb)).trans hu;refine⟨m',hm,i+1,ys++[y],σ6,H8,its++[xv],n',I8'.turned (it:=D) (t':=s8.toks) kp f0 f1 f3 f4 f5,T.keep _ _ _ b2 fun b hb o e=>kp b o (fun z=>hDf (by rw[<- z];exact hb)) e,b1,b3,v3.append (.cons r8 .nil),?_,q,w8⟩;rw[List.length_append,List.length_singleton];omega
 exact⟨rfl,codeAny_compStart_list (loop _ rfl) (T.self _ 0 _ _ _ st1 (loop _ rfl))⟩
theorem Inv.ad8{C:Addr}{h':Heap}{s2:Shared}{H2:Hp}(I:Inv X pins σ H s)(hC:s2.heap.objs.size<=C)(I2:Inv X pins σ H2 s2)(hn:H C=none)(sb:Heap.SameBut C s.heap h'):Inv X pins σ H { s with heap:=h' }:=by
 have f:=I2.ab2 (b:=C) (H':=H) hC hn;obtain⟨f0,f1,f2,f3,f4,f5⟩:=f;exact I.turned (t':=s.toks) (fun b o hb e=>sb.extBut b o hb e) f0 f1 f3 f4 f5
theorem ae3{M:Model}{A:Around}{E:Value->Shared->Prop}{s:Shared}{a:Sem Value}{b:Sem Env}{P:Env->Prop}{Q:Value->Env->Shared->Prop}(h:wpAny M A a (fun x s1=>wpAny M A b (fun y s2=>P y/\Q x y s2) E s1) E s):wpAny M A a (fun x s1=>wpAny M A b (fun y s2=>Q x y s2) E s1) E s :=
 wpAny_mono h (fun _ _ h=>wpAny_mono h (fun _ _ h=>h.2) fun _ _ z=>z) fun _ _ z=>z
theorem av9{elt tg iter:Expr}{ifs:List Expr}{scope:Scope}{N':List Str}{d0:List Nat}{cl:List (Str×Addr)}{pos:Pos}{wi:TI}{g:TG}{tc:TT}{te:TE}(S:CompScope X scope N' d0 cl)(hc:X.calm=true)(hi:PI X tg iter wi)(hg:∀pins C s H fp,PG (d8 X pins scope N' cl C s H fp) tg g)(ht:∀pins C s H fp,PTs (d8 X pins scope N' cl C s H fp) ifs tc)(he:∀pins C s H fp,PE (d8 X pins scope N' cl C s H fp) elt te)(hs:∀x,foldedSetIterable iter X.env x=pure x):PE X (.ListComp elt [⟨tg,iter,ifs,0⟩] scope pos) (ac6 wi d0 N'.length g tc te):=by
 intro pins s σ H Q I h;rw[eval_ListComp];refine wpAny_comprehension_free (use:=none) rfl hs S.clos S.kind S.names (thn (hi pins s σ H _ I h) fun xv s₁ h₁=>thn h₁ fun itv s₂ h₂=>?_);obtain⟨it,fp,tn,J,H2,e,I2,T,st2,f2,W,⟨m0,w0⟩,turn⟩:=h₂;subst e;refine ae3 (T9 (xx:=fun _ _ _ _ _=>False) (RR:=fun acc C=>compPost (model X.prog X.w) X.A X.xe none (EP X pins σ Q) acc C) S hc (fun C s H=>hg pins C s H fp) (fun C s H=>ht pins C s H fp) (fun C s H=>he pins C s H fp) I2 T st2 f2 w0 turn ?_ fun _ _ _ _ _ z=>z.elim);intro D C s' H' m I' q hn hC hsz;exact⟨m,hn,fun h' sb=>⟨.ref D,H',I'.ad8 hsz I2 hC sb,rfl,q⟩⟩
theorem at7{elt tg iter:Expr}{ifs:List Expr}{scope:Scope}{N':List Str}{d0:List Nat}{cl:List (Str×Addr)}{pos spos px:Pos}{wi:TI}{g:TG}{tc:TT}{te:TE}{i:Nat}{x:Str}(S:CompScope X scope N' d0 cl)(hc:X.calm=true)(hi:PI X tg iter wi)(hg:∀pins C s H fp,PG (d8 X pins scope N' cl C s H fp) tg g)(ht:∀pins C s H fp,PTs (d8 X pins scope N' cl C s H fp) ifs tc)(he:∀pins C s H fp,PE (d8 X pins scope N' cl C s H fp) elt te)(hs:∀x,foldedSetIterable iter X.env x=pure x)(hN:X.N.Nodup)(hix:X.N[i]?=some x)(hx:Loc X.env.scope x)(hf:X.fn x=true\/X.env.scope.names.lookup x=some .local) :
  PS X (.Assign [.Name x px] (.ListComp elt [⟨tg,iter,ifs,0⟩] scope pos) spos) (ao1 (ac6 wi d0 N'.length g tc te) (Y4 i)):=by
 intro pins s σ H D I h;have hsw:∃b,swapsWith (.ListComp elt [⟨tg,iter,ifs,0⟩] scope pos) (some (.Name x px)) spos.line X.env=pure b:=⟨_,rfl⟩
 obtain⟨b,hsw⟩:=hsw;cases b with
 |false=>exact aF1 hN hix hx (av9 S hc hi hg ht he hs) hsw hf pins s σ H D I h
 |true =>
  rw[exec_Assign_Name_used _ _ _ _ hsw];refine wpAny_bind (wpAny_standAt (wpAny_bind ?_));show wpAny _ X.A (do let _ <- comprehension (.ListComp elt [⟨tg,iter,ifs,0⟩] scope pos) scope X.env _ (newList []) false (eval iter X.env) (some (assign (.Name x px) X.env))) _ _ s;refine wpAny_bind (wpAny_mono (wpAny_comprehension_free (use:=some (assign (.Name x px) X.env)) (Q:=fun _ s'=>SP X pins D .next s') rfl hs S.clos S.kind S.names
   (thn (hi pins s σ H _ I h) fun xv s₁ h₁=>thn h₁ fun itv s₂ h₂=>?_)) (fun _ s' hq=>wpAny_pure (wpAny_pure hq)) fun _ _ e=>e)
  obtain⟨it,fp,tn,J,H2,e,I2,T,st2,f2,W,⟨m0,w0⟩,turn⟩:=h₂;subst e;refine ae3 (T9 (xx:=fun _ _ _ _ _=>False) (Q:=fun v H1=>Y4 i v σ H1 D.nx) (RR:=fun acc C=>compPost (model X.prog X.w) X.A X.xe (some (assign (.Name x px) X.env)) (fun _ s'=>SP X pins D .next s') acc C) S hc (fun C s H=>hg pins C s H fp) (fun C s H=>ht pins C s H fp) (fun C s H=>he pins C s H fp) I2 T st2 f2 w0 turn ?_ fun _ _ _ _ _ z=>z.elim);intro Dl C s' H' m I' q hn hC hsz;show wpAny _ X.A (assign (.Name x px) X.env (.ref Dl)) _ _ _;refine wpAny_assign_Name (ai6 I' hN hix hx (v:=.ref Dl) rfl (fun s3 I3 ⟨a,sb,ha⟩=>?_) hf);have hCL:C≠a:=by
   obtain⟨f0,f1,f2,f3,f4,f5⟩:=I2.ab2 (b:=C) (H':=H') hsz hC;rcases ha with z|z
   ·rw[z];exact f1
   ·exact fun z'=>f4 _ _ z z'.symm
  obtain⟨f0,f1,f2,f3,f4,f5⟩:=I2.ab2 (b:=C) (H':=H') hsz hC;refine⟨m,hn.sameBut sb hCL,fun h3 sb3=>⟨_,H',I3.turned (t':=s3.toks) (fun b o hb e=>sb3.extBut b o hb e) f0 f1 f3 f4 f5,q⟩⟩
end
end L2

namespace HT
open PySem PyProof.Rows
section
variable{prog:Program}{w:World}{A:Around}{E:Value->Shared->Prop}{s:Shared}
theorem aS2{t b:Addr}{ws:List Value}{Q:Value->Shared->Prop}(ht:IsTup s.heap t #[])(hb:IsTup s.heap b ws.toArray)(h1:Q (.ref b) s):wpAny (model prog w) A (binaryOp .Add (.ref t) (.ref b)) Q E s:=by
 obtain⟨⟨cls,dd,data,sl⟩,ho,hc,n,hd⟩:=id ht;obtain⟨⟨cls2,dd2,data2,sl2⟩,ho2,hc2,n2,hd2⟩:=id hb;simp only at hc hd hc2 hd2;subst hc hd hc2 hd2;exact concat_meets ⟨_,ho,rfl⟩ ⟨_,ho2,rfl⟩ noFill_tuple_add seq_tuple_add PySem.F.slot_tuple_add PySem.F.entry_tuple_add (PySem.F.args_tuple_add_2 _ _)
   (tuple_addW0 t b #[] ws.toArray n n2 dd dd2 sl sl2 rfl) ⟨ho,ho2,h1⟩
theorem V1{t sl:Addr}{items:Array Value}{vl vu:Value}{lo hi:Option Int}{Q:Value->Shared->Prop}(ht:IsTup s.heap t items)(hs:s.heap.IsSliceOf sl vl vu .none)(pl:IsPart vl lo)(pu:IsPart vu hi)(hw:sIx items.size 0 lo=0/\sIx items.size items.size hi=items.size)(h:Q (.ref t) s):wpAny (model prog w) A (getItem (.ref t) (.ref sl)) Q E s:=by
 obtain⟨os,hos,hcs,hds⟩:=id hs;have hTs:s.TypeIs (.ref sl) "slice":=⟨os,hos,hcs⟩
 unfold getItem
 try with_reducible refine wpAny_holding ?_
 first|refine wpAny_bind (wpAny_pure ?_)|skip
 refine wpAny_bind (wpAny_sequenceKey ht.typeIs (by decide) ?_);refine wpAny_bind (wpAny_callSpecial?_slot (name:=Str.ofString "__getitem__") ht.typeIs PyProof.Rows.slot_tuple_getitem
  (wpAny_call_entry PyProof.Rows.slot_tuple_getitem ht.typeIs entry_tuple_getitem ?_ (args_tuple_getitem _ _)))
 show wpAny _ _ (Builtin.Tuple.tupleItemsOf (.ref t) >>= _) _ _ s;refine wpAny_bind (tupleItemsOf_ ht ?_);refine wpAny_bind (wpAny_typeOf hTs ?_);rw[if_pos (by decide)];refine wpAny_bind (M6 hs pl pu ?_);have hyes:((((sIx items.size 0 lo:Nat):Int)==0&&(1:Int)==1&&(sIx items.size items.size hi-sIx items.size 0 lo)==items.size)=true):=by
  rw[hw.1,hw.2];simp
 show wpAny _ _ (if(((sIx items.size 0 lo:Nat):Int)==0&&(1:Int)==1&&(sIx items.size items.size hi-sIx items.size 0 lo)==items.size)=true then _ else _) _ _ s;rw[if_pos hyes];obtain⟨o,ho,hc,_⟩:=id ht;unfold Builtin.Tuple.tupleIsExact;refine wpAny_bind (wpAny_bind (wpAny_typeOf ht.typeIs (wpAny_pure ?_)));rw[if_pos (by decide)]
 first
  |exact wpAny_bind (wpAny_rule (wpAny_bind (wpAny_pure ⟨_,rfl,wpAny_pure h⟩)))
  |exact wpAny_bind (wpAny_rule (wpAny_pure ⟨_,rfl,wpAny_pure h⟩))
  |exact wpAny_bind (wpAny_rule (wpAny_bind (wpAny_pure (wpAny_pure ⟨_,rfl,wpAny_pure h⟩))))
end
end HT
namespace L2
open PySem PySem.Spec PyProof.Rows
section
variable{X:Cx}
noncomputable def a94(K:PySem.W.Frag):R2:=fun x y H Q=>∃a b xs ys,x=.ref a/\y=.ref b/\SqT K H a xs/\SqT K H b ys/\xs.length+ys.length<=sizeLine /\
 (xs=[]->Q (.ref b) H)/\(ys=[]->Q (.ref a) H)/\(∀p,H p=none->Q (.ref p) (upd H p (.tup (xs++ys))))
theorem aP7:OpR X (binaryOp .Add) (a94 X.K):=by
 intro pins s σ H x y v u Q I rx ry h;obtain⟨a,b,xs,ys,rfl,rfl,ha,hb,hz,q0,q1,q2⟩:=h;by_cases hx:xs=[]
 ·subst hx;cases rx;cases ry;obtain⟨its,r1,p1,_⟩:=I.tuple ha;obtain⟨its2,r2,p2,_⟩:=I.tuple hb;cases r1;exact HT.aS2 p1 p2 ⟨.ref b,H,I,rfl,q0 rfl⟩
 ·exact a10 pins s σ H _ _ v u Q I rx ry ⟨a,b,xs,ys,rfl,rfl,ha,hb,hx,hz,q1,fun _=>q2⟩
noncomputable def bk1(K:PySem.W.Frag):V->Option Int->Option Int->Hp->VK->Prop:=fun x lo hi H Q=>∃a xs,x=.ref a/\SqT K H a xs /\
 (N8 xs lo hi=xs->Q (.ref a) H)/\∀p,H p=none->Q (.ref p) (upd H p (.tup (N8 xs lo hi)))
theorem aX1:SlR X (bk1 X.K):=by
 intro pins s σ H x v vl vu lo hi sl Q I rx hs pl pu h;obtain⟨a,xs,rfl,hx,q0,q⟩:=h;by_cases hw:HT.sIx xs.length 0 lo=0/\HT.sIx xs.length xs.length hi=xs.length
 ·cases rx;obtain⟨its,r,ht,hz⟩:=I.tuple hx;have hlen:its.toArray.size=xs.length:=by rw[List.size_toArray];exact r.length.symm
  refine⟨"tuple",_,PyProof.Rows.slot_tuple_getitem.lookup,ht.typeIs,?_⟩;exact HT.V1 ht hs pl pu (by rw[hlen];exact hw) ⟨.ref a,H,I,rfl,q0 (by unfold N8;rw[hw.1,hw.2];simp)⟩
 ·exact a72 pins s σ H _ v vl vu lo hi sl Q I rx hs pl pu ⟨a,xs,rfl,hx,hw,q⟩
theorem au4:i8 X (.builtin "isinstance") (fun xs H Q=>∃x t c b,xs=[x,.ty c]/\TyOf X.K H x t/\PySem.W.kitOne X.K t (.type c)=some b/\Q (.bl b) H):=by
 intro pins s σ H xs us Q I r h;obtain⟨x,t,c,b,rfl,hT,hk,q⟩:=h;obtain⟨u,w',rfl,ru,rw'⟩:=vals2 r;cases (show w'=Value.type c from rw');exact aI4 I ru hT hk fun tk=>⟨.bl b,H,I.tok tk,rfl,q⟩
theorem aK7(hc:X.calm=true):i8 X (.builtin "all") (fun xs H Q=>∃(a:Addr) (bs:List Bool),xs=[.ref a]/\SqL X.K H a (bs.map V.bl)/\Q (.bl (bs.all id)) H):=by
 intro pins s σ H xs us Q I r h;obtain⟨a,bs,rfl,ha,q⟩:=h;obtain⟨u,rfl,ru⟩:=vals1 r;cases ru;obtain⟨its,rv,p,hz⟩:=I.list ha;refine call_all_walk ?_;refine wpAny_pyIter_list p.isList ?_;have hne:a≠s.heap.objs.size:=by
  obtain⟨o,e,_⟩:=id p.isList;exact Nat.ne_of_lt (Heap.lt_size e)
 have hl:=rv.length;rw[List.length_map] at hl;refine⟨s.heap.objs.size,_,_,_,_,_,fun i=>bs.getD i true,rfl,Walks.list (A:=X.A.in1) (I.ok.hd hc) _ a hne its.toArray,⟨⟨_,Heap.get?_push_size _ rfl,rfl,rfl⟩,?_⟩,?_,fun h' tk k=>?_⟩
 ·obtain⟨o,e,q1⟩:=id p.isList;exact⟨o,Heap.get?_push_of_some _ e,q1⟩
 ·intro i v s' Q' E' hP hQ;have hv:its[i]?=some v:=by simpa using hP
  have hi:i<bs.length:=by rw[hl];exact(List.getElem?_eq_some_iff.mp hv).1
  obtain⟨u',hu',ru'⟩:=rv.get (i:=i) (x:=V.bl bs[i]) (by rw[List.getElem?_map,List.getElem?_eq_getElem hi];rfl);rw[hv] at hu';cases hu';cases (show v=Value.bool bs[i] from ru');refine wpAny_truthy_bool ?_;have:bs.getD i true=bs[i]:=by simp[List.getD,hi]
  dsimp only at hQ;rw[this] at hQ;exact hQ
 ·have e1:(List.range its.toArray.size).all (fun i=>bs.getD i true)=bs.all id:=by
   rw[List.size_toArray,<- hl];rw[Bool.eq_iff_iff];simp only[List.all_eq_true,List.mem_range,id];constructor
   ·intro hh x hx;obtain⟨i,hi,rfl⟩:=List.mem_iff_getElem.mp hx;have:=hh i hi;simpa[List.getD,hi] using this
   ·intro hh i hi;have:=hh bs[i] (List.getElem_mem hi);simpa[List.getD,hi] using this
  rw[e1];exact ⟨.bl (bs.all id),H,I.kept (t':=tk) fun b o e=>k b o (by
   intro hb;have:b=s.heap.objs.size:=by simpa using hb
   exact absurd (Heap.lt_size e) (by rw [this];exact Nat.lt_irrefl _)) (Heap.get?_push_of_some _ e),rfl,q⟩
end
end L2

namespace HT
open PySem PyProof.Rows
section
variable{prog:Program}{w:World}{A:Around}{E:Value->Shared->Prop}{s:Shared}
end
end HT
namespace L2
open PySem PySem.Spec PyProof.Rows
section
variable{X:Cx}{e st:Expr}{te ts:TE}{pos p2:Pos}
end
end L2

namespace L2
open PySem PySem.Spec PyProof.Rows
theorem j4.get{P:Program}{w:World}{H:Hp}{h:Heap}{a:Addr}:∀{o:HO},j4 P w H h a o->∃ob,h.get? a=some ob
 |.lst _,x=>by obtain⟨_,_,_,_,e⟩:=x;exact⟨_,e⟩
 |.tup _,x=>by obtain⟨_,_,_,o,e,_⟩:=x;exact⟨o,e⟩
 |.dK _,x=>by obtain⟨_,_,_,_,o,es,ep,e,_⟩:=x;exact⟨o,e⟩
 |.dT _,x=>by obtain⟨_,_,_,_,o,es,ep,e,_⟩:=x;exact⟨o,e⟩
 |.set _ _,x=>by obtain⟨o,es,ep,t,e,_⟩:=x;exact⟨o,e⟩
 |.ins _ _ _,x=>by obtain⟨_,_,_,e,_⟩:=x;exact⟨_,e⟩
 |.own _,x=>x
 |.xd _,x=>by obtain⟨mA,n,_⟩:=x;obtain⟨od,e,_⟩:=aj3 n;exact⟨od,e⟩
 |.rng _ _,x=>by obtain⟨_,_,_,e⟩:=x;exact⟨_,e⟩
 |.frz _ _,x=>⟨_,x.1⟩
 |.tbl _,x=>⟨_,x⟩
 |.met _ _,x=>⟨_,x⟩
 |.ext _,x=>x.2.1
noncomputable def aC9(H':Hp)(h0:Heap)(l:List Env)(e:Value)(C:Addr)(h:Heap):Prop :=
 ∃(ea:Addr) (a0:Value) (B:Heap),e=.ref ea/\Heap.FlyingW B l ea (.ref C) a0 h/\∀b o,h.get? b=some o->b∉frs l->(H' b≠none\/∃o0,h0.get? b=some o0)->B.get? b=some o
noncomputable def CXE(P:Program)(w:World):CXT:=fun outer H s E e s'=>∃(C:Addr) (H':Hp),s'.os=s.os/\AllBare s'.gens/\Un (frs outer) [] H H' s.heap s'.heap/\HOk P w H' s'.heap/\aC9 H' s.heap outer e C s'.heap/\E (.ref C) none H'
section
variable{X:Cx}{pins:List (Addr×Obj)}{σ:St}{H:Hp}{s s':Shared}{E:XK}{e:Value}
theorem Inv.flew(I:Inv X pins σ H s)(h:CXE X.prog X.w X.stack H s E e s'):∃C H',Inv X pins σ H' s'/\aC9 H' s.heap X.stack e C s'.heap/\E (.ref C) none H':=by
 obtain⟨C,H',ho,hb,hu,hok,fl,hE⟩:=h;exact⟨C,H',I.aB9 (ch:=[]) ho hu hok hb (by simp),fl,hE⟩
theorem T8(I:Inv X pins σ H s){b:Addr}(hb:b∈frs X.stack):∃o,s.heap.get? b=some o/\∀vs,o.data≠.fields vs:=(I.stack.mem hb).2
theorem aB4{h'':Heap}{B:Heap}{ea C:Addr}{a0:Value}(I:Inv X pins σ H s)(hst:X.stack=X.env::X.outer)(hex:X.ex=[])(hf:X.env.frame=some X.env.locals)(inB:∀b o,s.heap.get? b=some o->b∉frs X.stack->(H b≠none\/∃o0,X.s₀.heap.get? b=some o0)->B.get? b=some o)(sl:∀b∈frs X.stack,∀o,s.heap.get? b=some o->∃sl,h''.get? b=some { o with slots:=sl })(fw:Heap.FlyingW B X.outer ea (.ref C) a0 h'')(hE:E (.ref C) none H):CXE X.prog X.w X.outer X.H₀ X.s₀ E (.ref ea) { s with heap:=h'' }:=by
 have hsub:∀b,b∈frs X.outer->b∈frs X.stack:=fun b hb=>by rw[hst];unfold frs at hb ⊢;rw[List.filterMap_cons,hf];exact List.mem_cons_of_mem _ hb
 have nost:∀b o,X.s₀.heap.get? b=some o->b∉frs X.outer->b∉frs X.stack:=fun b o e hb z=>by
  rcases List.mem_cons.mp (I.K0 b z) with z|z
  ·exact absurd (Heap.lt_size e) (by rw[z];exact Nat.not_lt.mpr I.ok.above)
  ·exact hb z
 have trk:∀b u,H b=some u->b∉frs X.stack:=fun b u e z=>by rw[I.X7 b z] at e;cases e
 have kept:∀b o,s.heap.get? b=some o->b∉frs X.stack->(H b≠none\/∃o0,X.s₀.heap.get? b=some o0)->h''.get? b=some o:=fun b o e n q=>fw.1 b o (inB b o e n q);have nex:∀b,b∉X.ex:=fun b=>by rw[hex];simp
 refine⟨C,H,I.os,I.bare,⟨?_,?_,?_,?_,I.base.tups,I.base.frzs,I.base.tbls⟩,?_,⟨ea,a0,B,rfl,fw,?_⟩,hE⟩
 ·exact fun b o e n1 n2 _=>kept b o (I.base.keep b o e n1 n2 (nex b)) (nost b o e n2) (.inr ⟨o,e⟩)
 ·intro b o e n1 n2 _;obtain⟨sl1,e1⟩:=I.base.slot b o e n1 n2 (nex b);obtain⟨sl2,e2⟩:=sl b (hsub b n2) _ e1;exact⟨sl2,e2⟩
 ·exact fun b o e n1 _=>I.base.free b o e n1 (nex b)
 ·intro b o e _;obtain⟨o1,e1⟩:=I.base.there b o e (nex b);by_cases hb:b∈frs X.stack
  ·obtain⟨sl2,e2⟩:=sl b hb _ e1;exact⟨_,e2⟩
  ·exact⟨o1,kept b o1 e1 hb (.inr ⟨o,e⟩)⟩
 ·intro a o e;exact (I.hok a o e).P0 (fun b u hb q=>by
   have hb':∃v,H b=some v:=by
    rcases hb with rfl|hb
    ·exact⟨o,e⟩
    ·exact⟨_,hb⟩
   obtain⟨v,hv⟩:=hb';exact kept b u q (trk b v hv) (.inl (by rw [hv];simp))) (fun b hb=>hb) (fun b xs hb=>hb)
 ·intro b o e n q;rcases q with q|⟨o0,q⟩
  ·obtain⟨v,hv⟩:=Option.ne_none_iff_exists'.mp q;obtain⟨o1,e1⟩:=(I.hok b v hv).get;have z:=inB b o1 e1 (trk b v hv) (.inl (by rw[hv];simp));have z':=fw.1 b o1 z;have:o=o1:=by
    have e':h''.get? b=some o:=e;rw[z'] at e';exact(Option.some.inj e').symm
   subst this;exact z
  ·obtain⟨o1,e1⟩:=I.base.there b o0 q (nex b);have z:=inB b o1 e1 (nost b o0 q n) (.inr ⟨o0,q⟩);have z':=fw.1 b o1 z;have:o=o1:=by
    have e':h''.get? b=some o:=e;rw[z'] at e';exact(Option.some.inj e').symm
   subst this;exact z
theorem aq3{h0:Heap}{C:Addr}{Ex:Value->Shared->Prop}(I:Inv X pins σ H s)(fl:aC9 H h0 X.stack e C s.heap)(h0k:∀b o,X.s₀.heap.get? b=some o->∃o',h0.get? b=some o')(hst:X.stack=X.env::X.outer)(hex:X.ex=[])(hf:X.env.frame=some X.env.locals)(hE:E (.ref C) none H):wpAny (model X.prog X.w) X.A (leaving X.env e) (fun _ s''=>CXE X.prog X.w X.outer X.H₀ X.s₀ E e s'') Ex s:=by
 obtain⟨ea,a0,B,rfl,fw,hB⟩:=fl;have fw0:=fw;rw[hst] at fw;refine wpAny_leaves_onW (by rw[I.ok.frames,hst]) hf fw fun h'' fw' us=>?_;refine aB4 I hst hex hf (fun b o e n q=>hB b o e n (q.imp id fun⟨o0,q⟩=>h0k b o0 q)) (fun b hb o e=>?_) fw' hE;obtain⟨o1,e1,nf⟩:=T8 I hb;rw[e] at e1;cases e1;exact us b o e nf
theorem aA4{h':Heap}{ea C:Addr}{vs:List Value}{Ex:Value->Shared->Prop}(I:Inv X pins σ H s)(hx:Heap.MadeExcOf s.heap h' ea (.ref C) vs)(hst:X.stack=X.env::X.outer)(hex:X.ex=[])(hf:X.env.frame=some X.env.locals)(hE:E (.ref C) none H):wpAny (model X.prog X.w) X.A (leaving X.env (.ref ea)) (fun _ s''=>CXE X.prog X.w X.outer X.H₀ X.s₀ E (.ref ea) s'') Ex { s with heap:=h' }:=by
 have hfn:=I.stack;rw[hst] at hfn;have hin:∀env∈(X.env::X.outer),∀b,env.frame=some b->b∈frs X.stack:=fun env he b hb=>by rw[hst];exact List.mem_filterMap.mpr ⟨env,he,hb⟩
 refine wpAny_leaves_madeW (s:={ s with heap:=h' }) (base:=PySem.W.hideAll s.heap (frs X.stack)) (h:=s.heap) (by rw[I.ok.frames,hst]) hf (fun b o q=>PySem.W.of_hideAll _ q) (PySem.W.funFrames_hide hfn hin) hx fun h'' t fw _ _ us=>?_;refine(show CXE X.prog X.w X.outer X.H₀ X.s₀ E (.ref ea) { s with heap:=h'' } from aB4 I hst hex hf (fun b o e n _=>PySem.W.hideAll_get _ e n) (fun b hb o e=>?_) fw hE);obtain⟨o1,e1,nf⟩:=T8 I hb;rw[e] at e1;cases e1;exact us b o (hx.keeps b o e) nf
theorem aL5{l:List Env}{H H':Hp}{h0 h h1 B:Heap}{Pg:Program}{w:World}(u:Un (frs l) [] H H' h0 h)(ok:HOk Pg w H' h)(hB:∀b o,h.get? b=some o->b∉frs l->(H' b≠none\/∃o0,h0.get? b=some o0)->B.get? b=some o)(st:B.StaysIn h1)(us:h.UpToSlots h1)(hfr:∀b∈frs l,H' b=none/\∃o,h.get? b=some o/\∀vs,o.data≠.fields vs):Un (frs l) [] H H' h0 h1/\HOk Pg w H' h1/\∀b o,h1.get? b=some o->b∉frs l->(H' b≠none\/∃o0,h0.get? b=some o0)->B.get? b=some o:=by
 have trk:∀b u,H' b=some u->b∉frs l:=fun b u e z=>by rw[(hfr b z).1] at e;cases e
 have kept:∀b o,h.get? b=some o->b∉frs l->(H' b≠none\/∃o0,h0.get? b=some o0)->h1.get? b=some o:=fun b o e n q=>st b o (hB b o e n q);have fsl:∀b∈frs l,∀o,h.get? b=some o->∃sl,h1.get? b=some { o with slots:=sl }:=fun b hb o e=>by
  obtain⟨_,o1,e1,nf⟩:=hfr b hb;rw[e] at e1;cases e1;exact us b o e nf
 refine⟨⟨?_,?_,u.free,?_,u.tups,u.frzs,u.tbls⟩,?_,?_⟩
 ·exact fun b o e n1 n2 n3=>kept b o (u.keep b o e n1 n2 n3) n2 (.inr ⟨o,e⟩)
 ·intro b o e n1 n2 n3;obtain⟨sl1,e1⟩:=u.slot b o e n1 n2 n3;obtain⟨sl2,e2⟩:=fsl b n2 _ e1;exact⟨sl2,e2⟩
 ·intro b o e n;obtain⟨o1,e1⟩:=u.there b o e n;by_cases hb:b∈frs l
  ·obtain⟨sl2,e2⟩:=fsl b hb _ e1;exact⟨_,e2⟩
  ·exact⟨o1,kept b o1 e1 hb (.inr ⟨o,e⟩)⟩
 ·intro a o e;exact (ok a o e).P0 (fun b u hb q=>by
   have hb':∃v,H' b=some v:=by
    rcases hb with rfl|hb
    ·exact⟨o,e⟩
    ·exact⟨_,hb⟩
   obtain⟨v,hv⟩:=hb';exact kept b u q (trk b v hv) (.inl (by rw [hv];simp))) (fun b hb=>hb) (fun b xs hb=>hb)
 ·intro b o e n q;have:∃o1,h.get? b=some o1:=by
   rcases q with q|⟨o0,q⟩
   ·obtain⟨v,hv⟩:=Option.ne_none_iff_exists'.mp q;exact(ok b v hv).get
   ·exact u.there b o0 q (by simp)
  obtain⟨o1,e1⟩:=this;have z:=hB b o1 e1 n q;rw[st b o1 z] at e;cases e;exact z
section
variable{s':Shared}
structure Lies(X:Cx)(H H':Hp)(s:Shared)(B:Heap)(ea C:Addr)(a0:Value)(s':Shared):Prop where
 os:s'.os=s.os
 bare:AllBare s'.gens
 un:Un (frs X.stack) [] H H' s.heap s'.heap
 hok:HOk X.prog X.w H' s'.heap
 inB:∀b o,s'.heap.get? b=some o->b∉frs X.stack->(H' b≠none\/∃o0,s.heap.get? b=some o0)->B.get? b=some o
theorem Lies.inv{H':Hp}{B:Heap}{ea C:Addr}{a0:Value}(I:Inv X pins σ H s)(l:Lies X H H' s B ea C a0 s'):Inv X pins σ H' s':=I.aB9 (ch:=[]) l.os l.un l.hok l.bare (by simp)
theorem leave_held{H':Hp}{B:Heap}{ea C:Addr}{a0:Value}{Ex:Value->Shared->Prop}(I:Inv X pins σ H s)(l:Lies X H H' s B ea C a0 s')(hh:Heap.HeldW B X.stack ea (.ref C) a0 X.env.locals s'.heap)(hst:X.stack=X.env::X.outer)(hex:X.ex=[])(hf:X.env.frame=some X.env.locals)(hE:E (.ref C) none H'):wpAny (model X.prog X.w) X.A (leaving X.env (.ref ea)) (fun _ s''=>CXE X.prog X.w X.outer X.H₀ X.s₀ E (.ref ea) s'') Ex s':=by
 have J:=l.inv I;have hh':=hh;rw[hst] at hh';unfold leaving;refine wpAny_bind (wpAny_noteFrame_againW hf hh'.2.2.2 ?_);refine wpAny_landsW hh' fun h'' fl us=>?_;obtain⟨k1,k2,⟨_,_,k3⟩,k4⟩:=fl;refine aB4 J hst hex hf (fun b o e n q=>l.inB b o e n (q.imp id fun⟨o0,q⟩=>I.base.there b o0 q (by rw[hex];simp))) (fun b hb o e=>?_) ⟨k1,k2,k3,k4⟩ hE;obtain⟨o1,e1,nf⟩:=T8 J hb;rw[e] at e1;cases e1;exact us b o e nf
end
noncomputable def Z1(X:Cx)(Ξ:XK):Prop:=∀(pins:List (Addr×Obj)) (σ:St) (H:Hp) (s:Shared) (h':Heap) (ea C:Addr) (vs:List Value),Inv X pins σ H s->Heap.MadeExcOf s.heap h' ea (.ref C) vs->Ξ (.ref C) none H->X.xe (.ref ea) { s with heap:=h' }
noncomputable def R7(X:Cx)(Ξ:XK):Prop:=∀(pins:List (Addr×Obj)) (σ:St) (H H':Hp) (s s':Shared) (B:Heap) (ea C:Addr) (a0:Value),Inv X pins σ H s->Lies X H H' s B ea C a0 s'->Heap.HeldW B X.stack ea (.ref C) a0 X.env.locals s'.heap->Ξ (.ref C) none H'->X.xe (.ref ea) s'
noncomputable def a56(C:Addr)(Ξ:XK)(t:TA):TS:=fun _ σ H=>t σ H fun vs H1=>vs.length<=sizeLine/\Ξ (.ref C) none H1
theorem aO3{x:Str}{C:Addr}{B newId initId:String}{bm:List Value}{np cpos pos:Pos}{e₀:Expr}{rest:List Expr}{t:TA}{Ξ:XK}(hc:X.calm=true)(O:OwnCls x C bm newId X.mg X.base)(FB:ExcBaseFacts B newId initId bm)(hg:Gl X x)(ha:PA X (e₀::rest) t)(hr:Z1 X Ξ)(he:starEach (e₀::rest) X.env=(false,eval e₀ X.env)::starEach rest X.env)(hplain:(backTo cpos (starEach rest X.env)).any (·.1)=false)(hd:(x==("__debug__":Str))=false) :
  PS X (.Raise (some (.Call (.Name x np) (e₀::rest) [] cpos)) none pos) (a56 C Ξ t):=by
 intro pins s σ H D I h;obtain⟨tl,N,nm,q,bs,hdct,sn,sub,ab,col,dd,k0,k1,k2,k3,k5,mN,hC,hN,hni,T⟩:=O.obj;refine wpAny_Raise_call_subT (C:=C) (nm:=nm) (q:=q) (N:=N) (bs:=bs) (bm:=tl) (hdct:=hdct) (sn:=sn) (sub:=sub) (ab:=ab) (col:=col) (dd:=dd) (k0:=k0) (k1:=k1) (k2:=k2) (k3:=k3) (k5:=k5)
  FB (mN:=mN) (T.hasType FB.hasBase) (I.ok.hd hc) (by rw[he];show(false||(backTo cpos (starEach rest X.env)).any (·.1))=false;rw[hplain];rfl) hni (M0 I hg O.bound ⟨rfl,?_⟩ hd)
 have h':=ha cpos pins s σ H _ I h;rw[he] at h' ⊢;refine Calls.evalArgs_plain (wpAny_mono h' (fun vs s₂ h₂=>?_) fun _ _ y=>y);obtain⟨ws,H1,I1,rv,hz,hE⟩:=h₂;exact⟨rfl,by rw[<- rv.length];exact hz,I1.bk _ _ hC,hN.keeps I1.bk,T.keeps I1.bk,fun h2 ea hm=>hr pins σ H1 s₂ h2 ea C vs I1 hm hE⟩
noncomputable def O0(X:Cx)(pins:List (Addr×Obj))(xe:Value->Shared->Prop):Cx:={ X with pn:=X.pn++pins,xe:=xe }
noncomputable def y6(X:Cx)(ea:Addr):Cx:={ X with A:=X.A.mark (some (.ref ea)),calm:=false,xe:=fun _ _=>False }
theorem Inv.bi1{xe:Value->Shared->Prop}(I:Inv X pins σ H s):Inv (O0 X pins xe) [] σ H s :=
 ⟨⟨I.ok.mod,I.ok.kind,I.ok.glob,I.ok.blt,I.ok.above,I.ok.inj,I.ok.has,I.ok.cab,I.ok.hd,I.ok.frames,I.ok.stk,I.ok.exf,I.ok.bs,I.ok.bsz,I.ok.noex,I.ok.exfs,I.ok.B5,I.ok.frf⟩,I.os,I.bare,I.base,I.loc,I.cell,I.free,I.freeC,
  fun p hp=>I.pin p (by simpa [O0] using hp),I.hok,I.len⟩
theorem Inv.S5{xe:Value->Shared->Prop}{pins':List (Addr×Obj)}(I:Inv (O0 X pins xe) pins' σ H s):Inv X pins σ H s :=
 ⟨⟨I.ok.mod,I.ok.kind,I.ok.glob,I.ok.blt,I.ok.above,I.ok.inj,I.ok.has,I.ok.cab,I.ok.hd,I.ok.frames,I.ok.stk,I.ok.exf,I.ok.bs,I.ok.bsz,I.ok.noex,I.ok.exfs,I.ok.B5,I.ok.frf⟩,I.os,I.bare,I.base,I.loc,I.cell,I.free,I.freeC,
  fun p hp=>I.pin p (List.mem_append_left _ hp),I.hok,I.len⟩
theorem Inv.aD7{ea:Addr}(I:Inv X pins σ H s):Inv (y6 X ea) pins σ H s :=
 ⟨⟨I.ok.mod,I.ok.kind,I.ok.glob,I.ok.blt,I.ok.above,I.ok.inj,I.ok.has,I.ok.cab,fun z=>(by cases z),I.ok.frames,I.ok.stk,I.ok.exf,I.ok.bs,I.ok.bsz,I.ok.noex,I.ok.exfs,I.ok.B5,I.ok.frf⟩,I.os,I.bare,I.base,I.loc,I.cell,I.free,I.freeC,I.pin,I.hok,I.len⟩
theorem Inv.Q6{ea:Addr}(J:X.Ok)(I:Inv (y6 X ea) pins σ H s):Inv X pins σ H s :=
 ⟨J,I.os,I.bare,I.base,I.loc,I.cell,I.free,I.freeC,I.pin,I.hok,I.len⟩
theorem SP.S5{xe:Value->Shared->Prop}{D:Ends}{f:Flow}(h:SP (O0 X pins xe) [] D f s):SP X pins D f s:=by
 cases f with
 |next=>obtain⟨a,b,I,q⟩:=h;exact⟨a,b,I.S5,q⟩
 |brk=>obtain⟨a,b,I,q⟩:=h;exact⟨a,b,I.S5,q⟩
 |cont=>obtain⟨a,b,I,q⟩:=h;exact⟨a,b,I.S5,q⟩
 |ret u=>obtain⟨v,a,b,I,r,q⟩:=h;exact⟨v,a,b,I.S5,r,q⟩
theorem SP.Q6{ea:Addr}{D:Ends}{f:Flow}(J:X.Ok)(h:SP (y6 X ea) pins D f s):SP X pins D f s:=by
 cases f with
 |next=>obtain⟨a,b,I,q⟩:=h;exact⟨a,b,I.Q6 J,q⟩
 |brk=>obtain⟨a,b,I,q⟩:=h;exact⟨a,b,I.Q6 J,q⟩
 |cont=>obtain⟨a,b,I,q⟩:=h;exact⟨a,b,I.Q6 J,q⟩
 |ret u=>obtain⟨v,a,b,I,r,q⟩:=h;exact⟨v,a,b,I.Q6 J,r,q⟩
noncomputable def U3(X:Cx)(D:Ends)(C:Addr)(H:Hp):List ExceptHandler->Prop
 |.ExceptHandler (some (.Name x _)) none (b₀::suite) _::rest=>Gl X x/\(x==("__debug__":Str))=false/\∃C' b,X.mg x=some (.ref C')/\PySem.W.exmOne X.K (.ref C) (.ref C')=some b /\
   (if b=true then ∃t:TS,(∀ea,PSs (y6 X ea) (b₀::suite) t)/\t D (List.replicate X.N.length none) H else U3 X D C H rest)
 |[]=>∃Ξ:XK,R7 X Ξ/\Ξ (.ref C) none H
 |_=>False
end
end L2

namespace L2
open PySem PySem.Spec PyProof.Rows
section
variable{X:Cx}{pins:List (Addr×Obj)}{σ:St}{H H':Hp}{s s':Shared}{e:Value}{D:Ends}
noncomputable def X6(X:Cx)(pins:List (Addr×Obj))(D:Ends)(hs:List ExceptHandler):Value->Shared->Prop:=fun e s₁ =>
 wpAny (model X.prog X.w) X.A (noteFrame e X.env) (fun _ s₂=>wpAny (model X.prog X.w) X.A (setFlight e none) (fun _ s₃=>wpAny (model X.prog X.w) X.A (handleBy e X.env hs) (SP X pins D) X.xe s₃) X.xe s₂) X.xe s₁
theorem Lies.step{B h1:Heap}{ea C:Addr}{a0:Value}(I:Inv X pins σ H s)(l:Lies X H H' s B ea C a0 s')(st:B.StaysIn h1)(us:s'.heap.UpToSlots h1):Lies X H H' s B ea C a0 { s' with heap:=h1 }:=by
 have J:=l.inv I;obtain⟨u,ok,ib⟩:=aL5 l.un l.hok l.inB st us fun b hb=>⟨J.X7 b hb,T8 J hb⟩
 exact⟨l.os,l.bare,u,ok,ib⟩
theorem au0{s:Shared}{B:Heap}{l:List Env}{ea L:Addr}{cls a0:Value}{A:Around}{M:Model}{E:Value->Shared->Prop}{Q:Unit->Shared->Prop}(fw:Heap.FlyingW B l ea cls a0 s.heap)(h:∀h',Heap.HeldW B l ea cls a0 L h'->(∀b o,s.heap.get? b=some o->(∀vs,o.data≠.fields vs)->h'.get? b=some o)->Q () { s with heap:=h' }):wpAny M A (setFlight (.ref ea) (some L)) Q E s:=by
 obtain⟨f1,f2,f3,oe,vs,T,oT,ts,he,hcls,hd,h1,hnT,hTe,hT,hdT,h3⟩:=fw;have hsz3:3<ts.size:=(Array.getElem?_eq_some_iff.mp h3).1;have other:∀b,b≠T->(s.heap.update T (Obj.mapFields (·.setIfInBounds 3 ((some L).elim Value.none fun f=>rawInt f)))).get? b=s.heap.get? b :=
  fun b hb=>Heap.get?_update_other _ _ (Ne.symm hb)
 have noRecord:∀b o,s.heap.get? b=some o->(∀vs,o.data≠.fields vs)->b≠T:=fun b o hb hnf q=>by
  rw[q,hT] at hb;injection hb with hb;subst hb;exact hnf ts hdT
 unfold setFlight;refine wpAny_bind (wpAny_field he hd h1 ?_);rw[if_pos (show(Value.ref T != Value.none)=true from by simp)];refine wpAny_setField hT hdT hsz3 (h _ ⟨fun b o hbo=>(other b fun q=>by rw [q,hnT] at hbo;cases hbo).trans (f1 b o hbo),f2,
  f3.of_keeps fun b o hb hnf=>⟨o,(other b (noRecord b o hb hnf)).trans hb,rfl⟩,?_⟩ fun b o hb hnf=>(other b (noRecord b o hb hnf)).trans hb)
 exact⟨oe,vs,T,_,_,(other ea (Ne.symm hTe)).trans he,hcls,hd,h1,hnT,hTe,Heap.get?_update_self _ hT (Obj.isFreed_of_fields (Obj.data_mapFields hdT _)),Obj.data_mapFields hdT _,by simp[hsz3]⟩
theorem aj8{B:Heap}{ea C:Addr}{a0:Value}(hf:X.env.frame=some X.env.locals):∀(hs:List ExceptHandler) (s':Shared),Inv X pins σ H s->Lies X H H' s B ea C a0 s'->Heap.FlyingW B X.stack ea (.ref C) a0 s'.heap->U3 X D C H' hs ->
  wpAny (model X.prog X.w) X.A (handleBy (.ref ea) X.env hs) (SP X pins D) X.xe s'
 |[],s',I,l,fw,t=>by
  obtain⟨Ξ,hh,hE⟩:=t;refine wpAny_handleBy_nil ?_;unfold PySem.passOn;obtain⟨f1,f2,f3,oe,vs,T,oT,ts,he,hcls,hd,h1,_⟩:=id fw;refine wpAny_bind (wpAny_field he hd h1 ?_);rw[if_neg (by simp),hf];refine wpAny_bind (au0 fw fun h2 held k=>wpAny_throw ?_);have l2:=l.step I held.1 (fun b o hb hn=>⟨o.slots,k b o hb hn⟩);exact hh pins σ H H' s _ B ea C a0 I l2 held hE
 |.ExceptHandler none _ _ _::_,_,_,_,_,t=>t.elim
 |.ExceptHandler (some e) nm bd pos::rest,s',I,l,fw,t=>by
  cases e
  case Name x np =>
   cases nm with
   |some y=>exact t.elim
   |none =>
    cases bd with
    |nil=>exact t.elim
    |cons b₀ suite =>
     obtain⟨hg,hdb,C',b,hm,hx,q⟩:=t;have J:=l.inv I;have JM:Inv (y6 X ea) pins σ H' s':=J.aD7;have LT:PySem.W.Looks (model X.prog X.w) s'.heap (typeOf (.ref ea)) (.ref C):=fun A Q E s2 k q=>by
      obtain⟨ob,ho,hc⟩:=fw.there;exact wpAny_typeOf_ref (k _ _ ho) (by rw[hc];exact q)
     refine wpAny_handleBy_cons (codeAny_handlers_test ?_) (by intro z;cases z);refine M0 (X:=y6 X ea) JM hg hm ?_ hdb;refine(PySem.W.exm_one (M:=model X.prog X.w) J.kIn LT hx).here ?_;cases b with
     |false =>
      simp only[Bool.false_eq_true,if_false] at q;exact aj8 hf rest s' I l fw q
     |true =>
      simp only[if_true] at q;obtain⟨t,ht,hq⟩:=q;refine codeAny_handlers_suite ?_;refine wpAny_setFlight_noneW fw.1 fw.2.2.1 fw.2.2.2.at fun h2 k1 k2 k3 k4=>?_;have l2:=l.step I k1 (fun b o hb hn=>⟨o.slots,k4 b o hb hn⟩);have J2:=l2.inv I;have J3:Inv (y6 X ea) pins (List.replicate X.N.length none) H' { s' with heap:=h2 }:=(J2.weak (by rw [List.length_replicate,J2.len]) fun i v z=>by
       rw [List.getElem?_replicate] at z;split at z <;> cases z).aD7
      refine wpAny_mono (ht ea pins _ _ H' D J3 hq) (fun f s2 hf=>hf.Q6 I.ok) fun _ _ z=>z.elim
  all_goals exact t.elim
theorem aP6{hs:List ExceptHandler}{Ξ:XK}(hst:X.stack=X.env::X.outer)(hf:X.env.frame=some X.env.locals)(hT:∀C H',Ξ (.ref C) none H'->U3 X D C H' hs) :
  Passes (CXE X.prog X.w) (O0 X pins (X6 X pins D hs)) Ξ:=by
 intro pins' σ H s e s' I0 h;have I:Inv X pins σ H s:=I0.S5;obtain⟨C,H',ho,hb,hu,hok,⟨ea,a0,B,rfl,fw,hB⟩,hE⟩:=h;have l:Lies X H H' s B ea C a0 s':=⟨ho,hb,hu,hok,hB⟩
 have fw:Heap.FlyingW B X.stack ea (.ref C) a0 s'.heap:=fw;show X6 X pins D hs (.ref ea) s';unfold X6;have fw':=fw;rw[hst] at fw';refine wpAny_looks_onW (by rw[I.ok.frames,hst]) hf fw' fun h1 held us=>?_;have l1:=l.step I held.1 us;refine wpAny_landsW held fun h2 fl us2=>?_;have l2:=l1.step I fl.1 us2;rw[<- hst] at fl;exact aj8 hf hs _ I l2 fl (hT C H' hE)
theorem a99{hs:List ExceptHandler}{h₀:ExceptHandler}{body:List Stmt}{pos:Pos}{t:Ends->TS}{Ξ:Ends->XK}(hst:X.stack=X.env::X.outer)(hf:X.env.frame=some X.env.locals)(hb:∀pins D,(∀C H',Ξ D (.ref C) none H'->U3 X D C H' (h₀::hs))->PSs (O0 X pins (X6 X pins D (h₀::hs))) body (t D)) :
  PS X (.Try body (h₀::hs) [] [] pos) (fun D σ H=>(∀C H',Ξ D (.ref C) none H'->U3 X D C H' (h₀::hs))/\t D D σ H):=by
 intro pins s σ H D I ⟨hT,h⟩;refine wpAny_Try_except (wpAny_mono (hb pins D hT [] s σ H D I.bi1 h) (fun f s1 q=>?_) fun e s1 q=>q);have q:=q.S5;cases f with
 |next =>
  obtain⟨σ',H',I',q⟩:=q;exact thn (wpAny_execs_nil ⟨σ',H',I',q⟩) fun _ _ z=>z
 |brk=>exact q
 |cont=>exact q
 |ret u=>exact q
end
end L2

namespace L2
open PySem PySem.Spec PyProof.Rows
section
variable{M:Model}{A:Around}{E:Value->Shared->Prop}{env:Env}{s:Shared}
theorem aR7{e:Expr}{scope:Scope}{pos:Pos}{newAcc first:Sem Value}{g:Comprehension}{gs:List Comprehension}{cl:List (Str×Addr)}{Q:Value->Shared->Prop}{RX:Value->Addr->Result->Shared->Prop}(hcl:clausesOf e=g::gs)(hs:∀x,foldedSetIterable g.iter env x=pure x)(hclos:closureFor scope env=pure cl)(hkind:scope.kind=.function)(hnames:∀x∈scope.names,x.2=.local->scope.names.lookup x.1=some .local)(ok:∀acc C f s',RX acc C (.ok f) s'->∃m,s'.heap.Ns C m/\∀h',Heap.SameBut C s'.heap h'->Q acc { s' with heap:=h' })(er:∀acc C x s',RX acc C (.error x) s'->∃m,s'.heap.Ns C m/\∀h' m',h'.Ns C m'->Heap.SameBut C s'.heap h'->∀cenv:Env,cenv.frame=env.frame->wpAny M A (PySem.passOn "comprehension.variables-let-go" x cenv:Sem Value) (fun _ _=>False) E { s' with heap:=h' })(h:wpAny M A first (fun x s1=>wpAny M A (pyIter x) (fun it s2=>wpAny M A newAcc (fun acc s3=>wpAny M A (newFunctionEnv scope env.globals cl [] env.qual none .none (some env)) (fun cenv s4 =>
   cenv.frame=env.frame/\codeAny M A (.compStart e 0 it acc { cenv with scope:=relabel scope env }) (RX acc cenv.locals) s4) E s3) E s2) E s1) E s):wpAny M A (comprehension e scope env pos newAcc false first none) Q E s:=by
 have keep:∀{α:Type} {m:Sem α} {P P':α->Shared->Prop} {t:Shared},wpAny M A m P E t->(∀a t',P a t'->P' a t')->wpAny M A m P' E t:=fun a b=>wpAny_mono a b fun _ _ z=>z;unfold comprehension;rw[hclos,hcl];refine wpAny_bind (keep h fun x s1 h1=>wpAny_bind (wpAny_standAt (wpAny_bind (wpAny_of_eq (hs x) (wpAny_bind (wpAny_holding (keep h1 fun it s2 h2=>wpAny_standIf (wpAny_bind (keep h2 fun acc s3 h3=>wpAny_bind (wpAny_pure (wpAny_bind (keep h3 fun cenv s4 h4=>?_))))))))))));obtain⟨hfr,h4⟩:=h4;dsimp only;have hv:∀x∈(scope.names.filter fun x=>(x.2==.local||x.2==.cell)&&x.1 != (".0":Str)).reverse,x.2=.local->Env.kindOf { cenv with scope:=relabel scope env } x.1=some .local :=
  fun x hx hl=>lookup_relabel_local (hnames x (List.mem_filter.mp (List.mem_reverse.mp hx)).1 hl)
 refine wpAny_holding (wpAny_bind (wpAny_attempt (wpAny_holding (wpAny_run (codeAny_mono h4 fun r s5 h5=>?_)))));cases r with
 |ok f =>
  obtain⟨m,n5,q⟩:=ok _ _ _ _ h5;exact wpAny_bind (wpAny_holding (wpAny_comp_letGo (cenv:={ cenv with scope:=relabel scope env }) hkind _ s5 m hv n5 fun h6 m6 _ k6=>wpAny_pure (q h6 k6)))
 |error x =>
  obtain⟨m,n5,q⟩:=er _ _ _ _ h5;exact wpAny_bind (wpAny_holding (wpAny_comp_letGo (cenv:={ cenv with scope:=relabel scope env }) hkind _ s5 m hv n5 fun h6 m6 n6 k6=>wpAny_mono (q h6 m6 n6 k6 _ hfr) (fun _ _ f=>f.elim) fun _ _ y=>y))
end
end L2

namespace L2
open PySem PySem.Spec PyProof.Rows
theorem V0{B B' h h2:Heap}{C:Addr}(hB:∀b,b≠C->B'.get? b=B.get? b)(hh:∀b,b≠C->h2.get? b=h.get? b){oC:Obj}(hC:B.get? C=some oC):∀{l:List Env},h.FunFrames B l->h2.FunFrames B' l
 |[],x=>x
 |env::r,⟨x1,⟨L,o,x2,x3,x4,x5⟩,x6⟩=>by
  have hL:L≠C:=fun z=>by rw[z,hC] at x3;cases x3
  exact⟨x1,⟨L,o,x2,(hB L hL).trans x3,(hh L hL).trans x4,x5⟩,V0 hB hh hC x6⟩
section
variable{X:Cx}{pins:List (Addr×Obj)}{σ:St}{H H':Hp}{s s':Shared}
theorem au1{s:Shared}{B:Heap}{l:List Env}{ea L:Addr}{cls a0:Value}{A:Around}{M:Model}{E:Value->Shared->Prop}{Q:Unit->Shared->Prop}(fw:Heap.HeldW B l ea cls a0 L s.heap)(h:∀h',Heap.HeldW B l ea cls a0 L h'->(∀b o,s.heap.get? b=some o->(∀vs,o.data≠.fields vs)->h'.get? b=some o)->Q () { s with heap:=h' }):wpAny M A (setFlight (.ref ea) (some L)) Q E s:=by
 obtain⟨f1,f2,f3,oe,vs,T,oT,ts,he,hcls,hd,h1,hnT,hTe,hT,hdT,h3⟩:=fw;have h3s:3<ts.size:=(Array.getElem?_eq_some_iff.mp h3).1;have oth:∀b,b≠T->(s.heap.update T (Obj.mapFields (·.setIfInBounds 3 ((some L).elim Value.none fun f=>rawInt f)))).get? b=s.heap.get? b:=fun b hb=>Heap.get?_update_other _ _ (Ne.symm hb);have noT:∀b o,s.heap.get? b=some o->(∀vs,o.data≠.fields vs)->b≠T:=fun b o hb hn q=>by
  rw[q,hT] at hb;cases hb;exact hn ts hdT
 unfold setFlight;refine wpAny_bind (wpAny_field he hd h1 ?_);rw[if_pos (show(Value.ref T != Value.none)=true from by simp)];refine wpAny_setField hT hdT h3s (h _ ⟨fun b o hb=>(oth b fun q=>by rw[q,hnT] at hb;cases hb).trans (f1 b o hb),f2,f3.of_keeps fun b o hb hn=>⟨o,(oth b (noT b o hb hn)).trans hb,rfl⟩,?_⟩ fun b o hb hn=>(oth b (noT b o hb hn)).trans hb);exact⟨oe,vs,T,_,_,(oth ea (Ne.symm hTe)).trans he,hcls,hd,h1,hnT,hTe,Heap.get?_update_self _ hT (Obj.isFreed_of_fields (Obj.data_mapFields hdT _)),Obj.data_mapFields hdT _,by simp[h3s]⟩
theorem Lies.ad8{B h2:Heap}{ea Cc C L:Addr}{a0:Value}{o o2:Obj}(l:Lies X H H' s B ea Cc a0 s')(held:Heap.HeldW B X.stack ea (.ref Cc) a0 L s'.heap)(sb:Heap.SameBut C s'.heap h2)(h2C:h2.get? C=some o2)(o2f:o2.isFreed=false)(hn:H C=none)(hs:s.heap.get? C=some o)(nf:C∉frs X.stack) :
  ∃B',Lies X H H' { s with heap:=s.heap.update C fun _=>o2 } B' ea Cc a0 { s' with heap:=h2 }/\Heap.HeldW B' X.stack ea (.ref Cc) a0 L h2:=by
 obtain⟨oC,eC⟩:=l.un.there C o hs (by simp);have n':H' C=none:=l.un.free C o hs hn (by simp);have hB:B.get? C=some oC:=l.inB C oC eC nf (.inr ⟨o,hs⟩);have b1:(B.update C fun _=>o2).get? C=some o2:=Heap.get?_update_self _ hB o2f;have b2:∀b,b≠C->(B.update C fun _=>o2).get? b=B.get? b:=fun b hb=>Heap.get?_update_other _ _ (Ne.symm hb);have s1:(s.heap.update C fun _=>o2).get? C=some o2:=Heap.get?_update_self _ hs o2f;have s2:∀b,b≠C->(s.heap.update C fun _=>o2).get? b=s.heap.get? b:=fun b hb=>Heap.get?_update_other _ _ (Ne.symm hb);have h2o:∀b,b≠C->h2.get? b=s'.heap.get? b:=sb.2;have ne:∀{b:Addr},B.get? b=none->b≠C:=fun{b} h z=>by rw[z,hB] at h;cases h
 obtain⟨f1,f2,f3,oe,vs,T,oT,ts,he,hcls,hd,h1,hnT,hTe,hT,hdT,h3⟩:=held;refine⟨B.update C fun _=>o2,⟨l.os,l.bare,⟨fun b u e n1 n2 n3=>?_,fun b u e n1 n2 n3=>?_,fun b u e n1 n2=>?_,fun b u e n1=>?_,l.un.tups,l.un.frzs,l.un.tbls⟩,?_,fun b u e n1 q=>?_⟩,fun b u e=>?_,(b2 ea (ne f2)).trans f2,V0 b2 h2o hB f3,oe,vs,T,oT,ts,(h2o ea (ne f2)).trans he,hcls,hd,h1,(b2 T (ne hnT)).trans hnT,hTe,(h2o T (ne hnT)).trans hT,hdT,h3⟩
 ·by_cases z:b=C
  ·subst z;rw[show({ s with heap:=s.heap.update b fun _=>o2 }:Shared).heap.get? b=_ from s1] at e;cases e;exact h2C
  ·exact(h2o b z).trans (l.un.keep b u ((s2 b z).symm.trans e) n1 n2 n3)
 ·have z:b≠C:=fun z=>nf (z▸n2);obtain⟨sl,q⟩:=l.un.slot b u ((s2 b z).symm.trans e) n1 n2 n3;exact⟨sl,(h2o b z).trans q⟩
 ·by_cases z:b=C
  ·subst z;exact n'
  ·exact l.un.free b u ((s2 b z).symm.trans e) n1 n2
 ·by_cases z:b=C
  ·subst z;exact⟨_,h2C⟩
  ·obtain⟨w,q⟩:=l.un.there b u ((s2 b z).symm.trans e) n1;exact⟨w,(h2o b z).trans q⟩
 ·intro a u e;exact (l.hok a u e).P0 (fun b w hb q=>by
   have:b≠C:=fun z=>by
    rcases hb with rfl|hb
    ·rw[z,n'] at e;cases e
    ·rw[z,n'] at hb;cases hb
   exact (h2o b this).trans q) (fun b hb=>hb) (fun b xs hb=>hb)
 ·by_cases z:b=C
  ·subst z;rw[show({ s' with heap:=h2 }:Shared).heap.get? b=_ from h2C] at e;cases e;exact b1
  ·refine(b2 b z).trans (l.inB b u ((h2o b z).symm.trans e) n1 ?_);rcases q with q|⟨o0,q⟩
   ·exact .inl q
   ·exact .inr ⟨o0,(s2 b z).symm.trans q⟩
 ·by_cases z:b=C
  ·subst z;rw[b1] at e;cases e;exact h2C
  ·exact(h2o b z).trans (f1 b u ((b2 b z).symm.trans e))
noncomputable def af3(X:Cx)(Ξ:XK)(pins:List (Addr×Obj))(scope:Scope)(N':List Str)(cl:List (Str×Addr))(fp:List Addr)(C:Addr)(s:Shared)(H:Hp):Value->Shared->Prop :=
 fun e s'=>∃pins1 σ1 H1 s1,Inv (d8 X pins scope N' cl C s H fp) pins1 σ1 H1 s1/\CXE X.prog X.w X.stack H1 s1 Ξ e s'
noncomputable def bf7(X:Cx)(pins:List (Addr×Obj))(σ:St)(Q:VK):Value->Addr->Result->Shared->Prop:=fun acc C r s'=>match r with
 |.ok _=>∃m,s'.heap.Ns C m/\∀h',Heap.SameBut C s'.heap h'->EP X pins σ Q acc { s' with heap:=h' }
 |.error x=>∃m,s'.heap.Ns C m/\∀h' m',h'.Ns C m'->Heap.SameBut C s'.heap h'->∀cenv:Env,cenv.frame=X.env.frame->wpAny (model X.prog X.w) X.A (PySem.passOn "comprehension.variables-let-go" x cenv:Sem Value) (fun _ _=>False) X.xe { s' with heap:=h' }
theorem aO8{elt tg iter:Expr}{ifs:List Expr}{scope:Scope}{N':List Str}{d0:List Nat}{cl:List (Str×Addr)}{pos:Pos}{wi:TI}{g:TG}{tc:TT}{te:TE}{Ξ:XK}(hst:X.stack=X.env::X.outer)(hf:X.env.frame=some X.env.locals)(hh:R7 X Ξ)(S:CompScope X scope N' d0 cl)(hc:X.calm=true)(hi:PI X tg iter wi)(hg:∀pins C s H fp,PG (d8 X pins scope N' cl C s H fp) tg g)(ht:∀pins C s H fp,PTs (d8 X pins scope N' cl C s H fp) ifs tc)(he:∀pins C s H fp,PE ((d8 X pins scope N' cl C s H fp).A3 (af3 X Ξ pins scope N' cl fp C s H)) elt te)(hs:∀x,foldedSetIterable iter X.env x=pure x):PE X (.ListComp elt [⟨tg,iter,ifs,0⟩] scope pos) (ac6 wi d0 N'.length g tc te):=by
 intro pins s σ H Q I h;rw[eval_ListComp];refine aR7 (RX:=bf7 X pins σ Q)
  rfl hs S.clos S.kind S.names (fun _ _ _ _ z=>z) (fun _ _ _ _ z=>z) (thn (hi pins s σ H _ I h) fun xv s1 h1=>thn h1 fun itv s2 h2=>?_)
 obtain⟨it,fp,tn,J,H2,e,I2,T,st2,f2,W,⟨m0,w0⟩,turn⟩:=h2;subst e;refine T9 (xx:=fun C s H=>af3 X Ξ pins scope N' cl fp C s H) (RR:=bf7 X pins σ Q) S hc (fun C s H=>hg pins C s H fp) (fun C s H=>ht pins C s H fp) (fun C s H=>he pins C s H fp) I2 T st2 f2 w0 turn ?_ ?_
 ·intro D C s' H' m I' q hn hC hsz;exact⟨m,hn,fun h' sb=>⟨.ref D,H',I'.ad8 hsz I2 hC sb,rfl,q⟩⟩
 ·rintro D C e s' hsz ⟨pins1,σ1,H1,s1,K1,cx⟩;obtain⟨Cc,H',ho,hb,hu,hok,⟨ea,a0,B,rfl,fw,hB⟩,hE⟩:=cx;have J1:Inv X pins σ H1 s1:=I2.ar9 f2 K1;have l:Lies X H1 H' s1 B ea Cc a0 s':=⟨ho,hb,hu,hok,hB⟩
  have fw':=fw;rw[hst] at fw';show wpAny (model X.prog X.w) X.A (noteFrame (.ref ea) X.env) _ _ s';refine wpAny_looks_onW (by rw[J1.ok.frames,hst]) hf fw' fun h3 held us=>?_;rw[<- hst] at held;have l1:=l.step J1 held.1 us;have lc:Lies (d8 X pins scope N' cl C s2 H2 fp) H1 H' s1 B ea Cc a0 { s' with heap:=h3 }:=⟨l1.os,l1.bare,l1.un,l1.hok,l1.inB⟩
  obtain⟨mC,hmC,_⟩:=(lc.inv K1).loc;refine⟨mC,hmC,fun h4 m4 n4 sb cenv hfr=>?_⟩;obtain⟨o4,es,ep,e4,_⟩:=n4;have o4f:o4.isFreed=false:=(Heap.get?_some_iff.mp e4).2;obtain⟨m1,⟨o1,es1,ep1,e1,_⟩,_⟩:=K1.loc;have n1:H1 C=none:=K1.free;have nf:C∉frs X.stack:=fun z=>by
   rcases List.mem_cons.mp (I2.K0 C z) with z|z
   ·exact absurd I2.lt (by rw[<- z];exact Nat.not_lt.mpr hsz)
   ·exact I2.az6 hsz z
  obtain⟨B2,l2,held2⟩:=l1.ad8 held sb e4 o4f n1 e1 nf;have J2:Inv X pins σ H1 { s1 with heap:=s1.heap.update C fun _=>o4 }:=J1.ad8 hsz I2 n1 (Heap.SameBut.update _ _ _);unfold PySem.passOn;obtain⟨g1,g2,g3,oe,vs,T',oT,ts,he',hcls,hd,hh1,_⟩:=id held2;refine wpAny_bind (wpAny_field he' hd hh1 ?_);rw[if_neg (by simp),hfr,hf];refine wpAny_bind (au1 held2 fun h5 held5 k5=>wpAny_throw ?_);have l5:=l2.step J2 held5.1 (fun b o hb hn=>⟨o.slots,k5 b o hb hn⟩);exact hh pins σ H1 H' _ _ B2 ea Cc a0 J2 l5 held5 hE
end
end L2

namespace L2
open PySem PySem.Spec PyProof.Rows
noncomputable def Ite(K:PySem.W.Frag)(a:Addr):It :=
 ⟨fun i H=>∃xs x,SqL K H a xs/\xs[i]?=some x,fun i H v H'=>∃p x,H p=none/\v=.ref p/\(∀xs,SqL K H a xs->xs[i]?=some x)/\H'=upd H p (.tup [.int i,x]),fun i H=>∃xs,SqL K H a xs/\xs.length<=i⟩
theorem aD3{P:Program}{w:World}{K:PySem.W.Frag}{elts:List Expr}{x1:Nat}{tp:Pos}(a e it:Addr)(hei:e≠it):Turn P w K (.Tuple elts x1 tp) (Ite K a) [e,it] e (fun i h=>(∃old,IsEnum h e it i old)/\h.IsListIter it a i) where
 mem:=by simp
 obj:=fun i h st b hb=>by
  obtain⟨⟨old,h1⟩,o,h2,c,d⟩:=st;rcases List.mem_cons.mp hb with z|z
  ·subst z;exact ⟨_,h1,fun v z=>by
    have z':Data.fields _=Data.cell v:=z;cases z'⟩
  ·have z:b=it:=by simpa using z
   subst z;exact⟨o,h2,fun v z=>by rw[d] at z;cases z⟩
 keep:=fun i h h' st k=>by
  obtain⟨⟨old,h1⟩,h2⟩:=st;exact⟨⟨old,k e (by simp) _ h1⟩,h2.at fun o x=>k it (by simp) o x⟩
 item:=by
  intro X hP hw hK hc i pins s σ H E I hf st hg;subst hP hw hK;obtain⟨⟨old,h1⟩,h2⟩:=st;obtain⟨xs,x,hq,hx⟩:=hg;obtain⟨its,rv,p,hz⟩:=I.list hq;obtain⟨u,hu,ru⟩:=rv.get hx;obtain⟨e0,e1,e2,e3,e4,e5⟩:=hf e (by simp);obtain⟨f0,f1,f2,f3,f4,f5⟩:=hf it (by simp);refine wpAny_pyNext_enum_item h1 h2 p.isList (x:=u) (by simpa using hu) hei fun h' heo hit' ht' hz' hk'=>?_;refine⟨_,rfl,wpAny_letOwnedTupleGo_enum heo fun h2' he2 hs2=>?_⟩;have hs2:Heap.SameBut e h' h2':=hs2;have elt:e<s.heap.objs.size:=Heap.lt_size h1;have kp:∀b o,b≠e->b≠it->s.heap.get? b=some o->h2'.get? b=some o:=fun b o b1 b2 q=>(hs2.2 b b1).trans (hk' b o b1 b2 q);have hn:H s.heap.objs.size=none:=I.hok.fresh (Nat.le_refl _);have tup2:h2'.get? s.heap.objs.size=some { cls:=.type "tuple",data:=.seq #[.int i s.toks,u] }:=(hs2.2 _ (Nat.ne_of_gt elt)).trans ht';have ne:∀b u',H b=some u'->b≠e/\b≠it:=fun b u' q=>And.intro (fun(z:b=e)=>by rw[z,e0] at q;cases q) (fun(z:b=it)=>by rw[z,f0] at q;cases q);have hok:HOk X.prog X.w (upd H s.heap.objs.size (.tup [.int i,x])) h2':=fun b o q=>by
   by_cases hb:b=s.heap.objs.size
   ·subst hb;rw[p8] at q;cases q;exact⟨by show 2<=sizeLine;decide,[.int i s.toks,u],.cons ⟨_,rfl⟩ (.cons ru .nil),_,tup2,rfl,⟨_,rfl⟩,rfl⟩
   ·rw[f6 hb] at q;refine(I.hok b o q).P0 (fun c v hc q'=>?_) (fun c q'=>by rw[f6 (j2 q' hn)];exact q') fun c ys q'=>by rw[f6 (j2 q' hn)];exact q'
    rcases hc with z|z
    ·subst z;exact kp _ _ (ne _ _ q).1 (ne _ _ q).2 q'
    ·exact kp _ _ (ne _ _ z).1 (ne _ _ z).2 q'
  have I2:Inv X pins σ (upd H s.heap.objs.size (.tup [.int i,x])) { s with heap:=h2',toks:=s.toks+1 }:=by
   refine I.step (g':=s.gens) (d':=s.drawn) (t':=s.toks+1) (ch:=[e,it]) (fun b hb=>?_) (fun b o _ _ hb q _=>kp b o (fun z=>hb (by simp[z])) (fun z=>hb (by simp[z])) q) (fun b o _ _ hb q _=>⟨o.slots,kp b o (fun z=>hb (by simp[z])) (fun z=>hb (by simp[z])) q⟩)
    (fun b o _ q n=>by rw[f6 (Nat.ne_of_lt (Heap.lt_size q))];exact n) (fun b o hb q=>⟨o,kp b o (fun z=>hb (by simp[z])) (fun z=>hb (by simp[z])) q⟩)
    (fun b ys q=>by rw[f6 (j2 q hn)];exact q) (fun b o' ys q=>by rw[f6 (j2 q hn)];exact q) (fun b ps q=>⟨#[],by rw[f6 (j2 q hn),q];simp⟩) (fun m hm=>?_) hok I.bare
   ·rcases List.mem_cons.mp hb with z|z
    ·subst z;exact⟨e3,e1,e4,e5⟩
    ·have z:b=it:=by simpa using z
     subst z;exact⟨f3,f1,f4,f5⟩
   ·obtain⟨o,es,ep,ho,r⟩:=hm;exact⟨o,es,ep,kp _ o (Ne.symm e1) (Ne.symm f1) ho,r⟩
  refine⟨.ref s.heap.objs.size,_,I2,rfl,⟨s.heap.objs.size,x,hn,rfl,fun ys hy=>by rw[I.aq2 hy hq];exact hx,rfl⟩,⟨⟨u,by simpa using he2⟩,hit'.at fun o y=>(hs2.2 it hei.symm).trans y⟩,fun b hb=>?_⟩;have hb':b<s.heap.objs.size:=by
   rcases List.mem_cons.mp hb with z|z
   ·subst z;exact elt
   ·have z:b=it:=by simpa using z
    subst z;obtain⟨o,h2,_⟩:=h2;exact Heap.lt_size h2
  rw[f6 (Nat.ne_of_lt hb')];exact(hf b hb).1
 done:=by
  intro X hP hw hK hc i pins s σ H E I hf st hg;subst hP hw hK;obtain⟨⟨old,h1⟩,h2⟩:=st;obtain⟨xs,hq,hx⟩:=hg;obtain⟨its,rv,p,hz⟩:=I.list hq;obtain⟨f0,f1,f2,f3,f4,f5⟩:=hf it (by simp);have hl:=rv.length;exact wpAny_pyNext_enum_end (I.ok.hd hc) h1 h2 p.isList (by simp;omega) fun h' eb=>⟨rfl,I.turned (t':=s.toks) (fun b o hb e=>eb b o hb e) f0 f1 f3 f4 f5⟩
 self:=fun _ _ _ _ _ st h=>by
  obtain⟨⟨old,h1⟩,h2⟩:=st;exact wpAny_pyIter_enum h1 h
section
variable{X:Cx}
theorem aZ8{l:Expr}{ta:TA}{p pos tp:Pos}{elts:List Expr}{x1:Nat}(hg:Gl X "enumerate")(hm:X.mg "enumerate"=none)(ha:PA X [l] ta)(hs:starEach [l] X.env=[(false,eval l X.env)]) :
  PI X (.Tuple elts x1 tp) (.Call (.Name "enumerate" p) [l] [] pos) (fun σ H R=>ta σ H fun vs H1=>∃a,vs=[.ref a]/\(∃xs,SqL X.K H1 a xs)/\R (Ite X.K a) H1):=by
 intro pins s σ H R I h;refine Call_ (K5 I hg hm PyProof.Rows.boot_enumerate (PyProof.Rows.callWith_type1 (thn (ha pos pins s σ H _ I h) fun us s1 ⟨vs,H1,I1,r1,q1⟩=>?_) hs rfl));obtain⟨a,e,⟨xs,hq⟩,q⟩:=q1;subst e;cases r1 with
 |cons r rr =>
  cases rr;cases r;obtain⟨its,rv,p,hz⟩:=I1.list hq;refine call_enumerate_list p.isList fun h' he hit hsz hk=>wpAny_pyIter_enum he ?_;refine⟨s1.heap.objs.size+1,[s1.heap.objs.size+1,s1.heap.objs.size],_,_,H1,rfl,I1.kept (t':=s1.toks) hk,aD3 a _ _ (by simp),⟨⟨_,he⟩,hit⟩,fun b hb=>?_,q⟩;have hb':s1.heap.objs.size<=b:=by
   rcases List.mem_cons.mp hb with z|z
   ·rw[z];exact Nat.le_succ _
   ·have z:b=s1.heap.objs.size:=by simpa using z
    rw[z];exact Nat.le_refl _
  exact I1.ab2 hb' (I1.hok.fresh hb')
inductive PJs(X:Cx):List Expr->List TE->Prop
 |nil:PJs X [] []
 |cons {e:Expr} {t:TE} {es:List Expr} {ts:List TE} (h:PE X e t) (r:PJs X es ts):PJs X (e::es) (t::ts)
noncomputable def aT4:List TE->St->Hp->Str->(Str->Hp->Prop)->Prop
 |[],_,H,acc,Q=>Q acc H
 |t::ts,σ,H,acc,Q=>t σ H fun x H1=>∃y,x=.str y/\(acc++y).length<=sizeLine/\aT4 ts σ H1 (acc++y) Q
theorem aA6{lo:Int}{acc:Array Value}{n:Nat}(h:ItemsOf (fun i v=>∃t,v=.int (lo+i*1) t) acc n):Vals ((List.range n).map fun(k:Nat)=>V.int (lo+k)) acc.toList:=by
 have hl:acc.toList.length=n:=by
  have:=h.1;simpa using this
 have go:∀(m:Nat) (l:List Value),l.length<=n->m+l.length=n->(∀i v,l[i]?=some v->∃t,v=Value.int (lo+((m+i:Nat):Int)) t)->Vals ((List.range' m l.length).map fun(k:Nat)=>V.int (lo+k)) l:=by
  intro m l
  induction l generalizing m with
  |nil=>intro _ _ _;exact .nil
  |cons x r ih =>
   intro h1 h2 h3;simp only[List.length_cons,List.range'_succ,List.map_cons];refine .cons ?_ (ih (m+1) (by simp at h1;omega) (by simp at h2;omega) fun i v hv=>?_)
   ·obtain⟨t,e⟩:=h3 0 x rfl;exact⟨t,by rw[e];simp⟩
   ·obtain⟨t,e⟩:=h3 (i+1) v (by simpa using hv);exact⟨t,by rw[e,show m+(i+1)=m+1+i by omega]⟩
 have:=go 0 acc.toList (by omega) (by omega) fun i v hv=>?_
 ·rw[hl,<- List.range_eq_range'] at this;exact this
 ·have hi:i<n:=by
   have:=(List.getElem?_eq_some_iff.mp hv).1;omega
  have:acc[i]?=some v:=by rw[<- Array.getElem?_toList];exact hv
  obtain⟨t,e⟩:=h.2 i v this;refine⟨t,?_⟩;rw[e];simp
theorem U9(hc:X.calm=true):i8 X (.type "list") (fun xs H Q=>∃a lo hi,xs=[.ref a]/\H a=some (.rng lo hi)/\(-(2 ^ 62)<=lo/\lo<2 ^ 62/\-(2 ^ 62)<=hi/\hi<2 ^ 62/\hi-lo<=100000)/\∀p,H p=none->Q (.ref p) (upd H p (.lst ((List.range (hi-lo).toNat).map fun(k:Nat)=>V.int (lo+k))))):=by
 intro pins s σ H xs us Q I r h;obtain⟨a,lo,hi,rfl,ha,⟨h1,h2,h3,h4,h5⟩,q⟩:=h;obtain⟨t,u,v,ho⟩:=I.hok a _ ha;cases r with
 |cons r rr =>
 cases rr;cases r;have hn:Builtin.Range.rangeSize lo hi 1=((hi-lo).toNat:Nat):=by rw[rangeSize_one];split<;>omega
 refine call_list_range (n:=(hi-lo).toNat) (I.ok.hd hc) ho (small_one h1 h2 h3 h4) hn (by omega) fun h' tk' acc c hk hS hi'=>?_;have hp:H s.heap.objs.size=none:=I.hok.fresh (Nat.le_refl _);refine⟨.ref _,_,I.laid (a:=s.heap.objs.size) (o:=.lst ((List.range (hi-lo).toNat).map fun(k:Nat)=>V.int (lo+k))) (t':=tk') hk (Nat.le_refl _) ⟨?_,acc.toList,c,aA6 hi',by simpa using hS⟩,rfl,q _ hp⟩;rw[List.length_map,List.length_range];have:(hi-lo).toNat<=100000:=by omega
 exact Nat.le_trans this (by decide)
theorem aG0{a:Expr}{ta:TA}{p pos:Pos}(hg:Gl X "range")(hm:X.mg "range"=none)(ha:PA X [a] ta)(hs:starEach [a] X.env=[(false,eval a X.env)]):PE X (.Call (.Name "range" p) [a] [] pos) (fun σ H Q=>ta σ H fun vs H1=>∃j:Int,vs=[.int j]/\∀q,H1 q=none->Q (.ref q) (upd H1 q (.rng 0 j))):=by
 intro pins s σ H Q I h;refine wpAny_Call_Name_kw (K5 I hg hm boot_range (PyProof.Rows.callWith_type1 (thn (ha pos pins s σ H _ I h) fun us s1 ⟨vs,H1,I1,r1,q1⟩=>?_) hs rfl));obtain⟨j,e,q⟩:=q1;subst e;cases r1 with
 |cons r rr =>
  cases rr;obtain⟨t,rfl⟩:=r;exact call_range_1 ⟨.ref s1.heap.objs.size,_,I1.laid (a:=s1.heap.objs.size) (o:=.rng 0 j) (fun b o e=>Heap.get?_push_of_some _ e) (Nat.le_refl _) ⟨_,_,_,Heap.get?_push_size _ rfl⟩,rfl,q _ (I1.hok.fresh (Nat.le_refl _))⟩
theorem aF9{a b:Expr}{ta:TA}{p pos:Pos}(hg:Gl X "range")(hm:X.mg "range"=none)(ha:PA X [a,b] ta)(hs:starEach [a,b] X.env=[(false,eval a X.env),(false,eval b X.env)])(hs2:starEach [b] X.env=[(false,eval b X.env)]):PE X (.Call (.Name "range" p) [a,b] [] pos) (fun σ H Q=>ta σ H fun vs H1=>∃i j:Int,vs=[.int i,.int j]/\∀q,H1 q=none->Q (.ref q) (upd H1 q (.rng i j))):=by
 intro pins s σ H Q I h;refine wpAny_Call_Name_kw (K5 I hg hm boot_range (PyProof.Rows.callWith_type1 (thn (ha pos pins s σ H _ I h) fun us s1 ⟨vs,H1,I1,r1,q1⟩=>?_) (by rw[hs,hs2]) (by rw[hs2];rfl)));obtain⟨i,j,e,q⟩:=q1;subst e;cases r1 with
 |cons r rr =>
  cases rr with
  |cons r' rr =>
   cases rr;obtain⟨t,rfl⟩:=r;obtain⟨t',rfl⟩:=r';exact call_range_2 ⟨.ref s1.heap.objs.size,_,I1.laid (a:=s1.heap.objs.size) (o:=.rng i j) (fun b o e=>Heap.get?_push_of_some _ e) (Nat.le_refl _) ⟨_,_,_,Heap.get?_push_size _ rfl⟩,rfl,q _ (I1.hok.fresh (Nat.le_refl _))⟩
noncomputable def af6(K:PySem.W.Frag)(P:Params)(a:Addr)(kvs:List (Str×V)):Prop :=
 ∃es n,K.lookup a=some ⟨.type "dict",none,.dict es n,#[]⟩/\PySem.W.KeysLit P es.toList/\(a==sysModules)=false/\∀x,v5 (kvs.lookup x) (findBy Value.isStrOf es x)
theorem aG6{kvs:List (Str×V)}(neg:Bool):OpR X (compareOp (if neg then .NotIn else .In)) (fun x y H Q=>∃a z,y=.ref a/\af6 X.K X.w.params a kvs/\x=.str z/\Q (.bl (xor neg (kvs.lookup z).isSome)) H):=by
 intro pins s σ H x y v u Q I rx ry h;obtain⟨a,z,rfl,⟨es,n,hl,hk,lo,hf⟩,rfl,q⟩:=h;obtain⟨t,rfl⟩:=rx;cases ry;have hm:=PySem.W.mapOf_K (prog:=X.prog) (w:=X.w) I.kIn hl hk;have e:=hf z;have ee:(findBy Value.isStrOf es z).isSome=(kvs.lookup z).isSome:=by
  cases h1:kvs.lookup z<;>cases h2:findBy Value.isStrOf es z<;>rw[h1,h2] at e<;>first|rfl|exact e.elim
 cases neg
 ·exact wpAny_in_of (strKind_is X.prog X.w z t) lo hm ⟨.bl _,H,I.tok _,by rw[ee];rfl,by simpa using q⟩
 ·exact wpAny_notIn_of (strKind_is X.prog X.w z t) lo hm ⟨.bl _,H,I.tok _,by rw[ee];rfl,by simpa using q⟩
theorem bn1{kvs:List (Str×V)}:IxR X (fun x y H Q=>∃a z v,x=.ref a/\af6 X.K X.w.params a kvs/\y=.str z/\kvs.lookup z=some v/\Q v H):=by
 intro value slice pins s σ H x y v u Q I rx ry h hs;obtain⟨a,z,d,rfl,⟨es,n,hl,hk,lo,hf⟩,rfl,hz,q⟩:=h;cases rx;obtain⟨t,rfl⟩:=ry;have hm:=PySem.W.mapOf_K (prog:=X.prog) (w:=X.w) I.kIn hl hk;have e:=hf z;rw[hz] at e;cases h2:findBy Value.isStrOf es z with
 |none=>rw[h2] at e;exact e.elim
 |some r =>
  rw[h2] at e;exact tail_any hm.typeIs slot_dict_getitem.lookup (wpAny_getItem_of (strKind_is X.prog X.w z t) hm h2 ⟨d,H,I.tok _,e,q⟩) hs
theorem a22(hu:X.A.units+1<cLine):IxR X (fun x y H Q=>∃a v,x=.ref a/\F1 H a y (some v)/\Q v H):=by
 intro value slice pins s σ H x y v u Q I rx ry h hs;obtain⟨a,d,rfl,g,q⟩:=h;cases rx;exact tail_any (au2 I g) slot_dict_getitem.lookup (aJ7 hu I g ry fun w' s3 I3 rw'=>⟨d,H,I3,rw',q⟩) hs
end
end L2

namespace ST
open PySem PyProof.Rows
noncomputable abbrev Ris(xs:Array Nat):Prop:=xs.toList.Pairwise (· < ·)
theorem Ris.lt{xs:Array Nat}(h:Ris xs){i k:Nat}(hik:i<k)(hk:k<xs.size):xs.getD i 0<xs.getD k 0:=by
 have:=List.pairwise_iff_getElem.mp h i k (by simpa using Nat.lt_trans hik hk) (by simpa using hk) hik;simp only[Array.getElem_toList] at this;rw[<- Array.getElem_eq_getD (h:=Nat.lt_trans hik hk),<- Array.getElem_eq_getD (h:=hk)];exact this
theorem Ris.le{xs:Array Nat}(h:Ris xs){i k:Nat}(hik:i<=k)(hk:k<xs.size):xs.getD i 0<=xs.getD k 0:=by
 rcases Nat.eq_or_lt_of_le hik with e|e
 ·rw[e];exact Nat.le_refl _
 ·exact Nat.le_of_lt (h.lt e hk)
structure Well(L:Bool)(t:SetTable):Prop where
 ris:Ris t.place
 dum:t.dummies=#[]
 led:t.led=L
end ST

namespace ST
open PySem PyProof.Rows
noncomputable def toI:Value->Int
 |.int k _=>k
 |_=>0
noncomputable def Led(w:World):Bool:=!(w.params.followText "set-order")
section
variable{prog:Program}{w:World}
noncomputable def U4(prog:Program)(w:World)(h:Heap)(a:Addr)(ks:List Int):Prop :=
 ∃o es ep t,h.get? a=some o/\o.ExactSet/\o.data=.set es ep t/\ElemsOf (intKind prog w) es.toList/\(es.toList.map fun e=>toI e.2).Perm ks/\ks.Nodup/\es.size<scanBound/\t.fits es.size=true/\Well (Led w) t
theorem U4.at{h h':Heap}{a:Addr}{ks:List Int}(x:U4 prog w h a ks)(k:∀o,h.get? a=some o->h'.get? a=some o):U4 prog w h' a ks:=by
 obtain⟨o,es,ep,t,e,r⟩:=x;exact⟨o,es,ep,t,k o e,r⟩
theorem a29{e:Int×Value}{es:List (Int×Value)}(h:ElemsOf (intKind prog w) es)(he:e∈es):∃tk,e.2=.int (toI e.2) tk/\e.1=(intKind prog w).hash (toI e.2):=by
 obtain⟨⟨k,h1,h2⟩,_⟩:=h e he;obtain⟨t,ht⟩:=Value.isInt_shape (k:=k) (v:=e.2) h1;refine⟨t,by rw[ht];rfl,?_⟩;rw[h2,ht]
 rfl
theorem aJ5{e:Int×Value}{es:List (Int×Value)}(h:ElemsOf (intKind prog w) es)(he:e∈es)(k:Int):(intKind prog w).is k e.2=decide (toI e.2=k):=by
 obtain⟨t,ht,_⟩:=a29 h he;show Value.isInt k e.2=_;rw[ht];generalize toI e.2=m;show Value.isInt k (.int m t)=decide (m=k);by_cases z:m=k
 ·subst z;simp[Value.isInt]
 ·rw[decide_eq_false z];cases hv:Value.isInt k (.int m t) with
  |false=>rfl
  |true =>
   obtain⟨t',e'⟩:=Value.isInt_shape hv;cases e';exact absurd rfl z
theorem U4.mem{a:Addr}{es:List (Int×Value)}{ks:List Int}(h:ElemsOf (intKind prog w) es)(hp:(es.map fun e=>toI e.2).Perm ks)(k:Int):(es.findIdx? fun e=>(intKind prog w).is k e.2).isSome=decide (k∈ks):=by
 rw[Bool.eq_iff_iff,decide_eq_true_iff,<- hp.mem_iff,List.mem_map,Option.isSome_iff_exists];constructor
 ·rintro⟨i,hi⟩;obtain⟨h1,h2,_⟩:=List.findIdx?_eq_some_iff_getElem.mp hi;have hm:=List.getElem_mem h1;rw[aJ5 h hm] at h2;exact⟨_,hm,of_decide_eq_true h2⟩
 ·rintro⟨e,he,rfl⟩;cases hf:es.findIdx? fun e'=>(intKind prog w).is (toI e.2) e'.2 with
  |some i=>exact⟨i,rfl⟩
  |none =>
   have:=List.findIdx?_eq_none_iff.mp hf e he;rw[aJ5 h he] at this;simp at this
variable{A:Around}{E:Value->Shared->Prop}{s:Shared}
noncomputable def K9(ks:List Int)(k:Int):List Int:=if k∈ks then ks else ks++[k]
theorem aS5(ks:List Int)(k:Int):(K9 ks k).length<=ks.length+1:=by unfold K9;split<;>simp
end
end ST

namespace ST
open PySem PyProof.Rows
end ST

namespace ST
open PySem PyProof.Rows
inductive Rd|text|plain|drawn
structure Lies(h:Heap)(a:Addr)(es:Array (Int×Value))(ep:Nat)(t:SetTable):Prop where
 at_:∃o,h.get? a=some o/\o.cls=.type "set"/\o.data=.set es ep t
 fit:t.fits es.size=true
theorem Lies.at{h h':Heap}{a:Addr}{es:Array (Int×Value)}{ep:Nat}{t:SetTable}(x:Lies h a es ep t)(k:∀o,h.get? a=some o->h'.get? a=some o):Lies h' a es ep t :=
 ⟨let ⟨o,e,r⟩:=x.at_;⟨o,k o e,r⟩,x.fit⟩
noncomputable def at3(h:Heap)(I a:Addr)(f:Value)(i n ep:Nat):Prop:=∃o,h.get? I=some o/\o.cls=.type "set_iterator"/\o.data=.fields #[f,rawInt i,.ref a,rawInt n,rawInt ep]
theorem at3.at{h h':Heap}{I a:Addr}{f:Value}{i n ep:Nat}(x:at3 h I a f i n ep)(k:∀o,h.get? I=some o->h'.get? I=some o):at3 h' I a f i n ep:=let ⟨o,e,r⟩:=x;⟨o,k o e,r⟩
theorem at3.ty{s:Shared}{I a:Addr}{f:Value}{i n ep:Nat}(x:at3 s.heap I a f i n ep):s.TypeIs (.ref I) "set_iterator":=let ⟨o,e,c,_⟩:=x;⟨o,e,c⟩
section
variable{prog:Program}{w:World}{A:Around}{E:Value->Shared->Prop}{s:Shared}{a:Addr}{es:Array (Int×Value)}{ep:Nat}{t:SetTable}
end
end ST

namespace ST
open PySem PyProof.Rows
section
variable{prog:Program}{w:World}{A:Around}{E:Value->Shared->Prop}{s:Shared}{a I b:Addr}{es:Array (Int×Value)}{ep:Nat}{t:SetTable}{pl:List Nat}
end
end ST

namespace ST
open PySem PyProof.Rows
section
variable{prog:Program}{w:World}{A:Around}{E:Value->Shared->Prop}{s:Shared}{a I b:Addr}{es:Array (Int×Value)}{ep:Nat}{t:SetTable}{pl:List Nat}
theorem Lies.ty(hL:Lies s.heap a es ep t):s.TypeIs (.ref a) "set":=let ⟨o,e,c,_⟩:=hL.at_;⟨o,e,c⟩
end
end ST

namespace ST
open PySem PyProof.Rows
section
variable{prog:Program}{w:World}{A:Around}{E:Value->Shared->Prop}{s:Shared}{a I b:Addr}{es:Array (Int×Value)}{ep:Nat}{t:SetTable}{pl:List Nat}
end
end ST

namespace ST
open PySem PyProof.Rows
noncomputable def t9(ks xs:List Int):List Int:=xs.foldl K9 ks
theorem af5:∀(xs ks:List Int),(t9 ks xs).length<=ks.length+xs.length
 |[],ks=>by simp[t9]
 |x::xs,ks=>by
  have:=af5 xs (K9 ks x);have h2:=aS5 ks x;show(t9 (K9 ks x) xs).length<=_;simp only[List.length_cons];omega
theorem ad6:∀(xs ks:List Int) (k:Int),k∈t9 ks xs↔k∈ks\/k∈xs
 |[],ks,k=>by simp[t9]
 |x::xs,ks,k=>by
  show k∈t9 (K9 ks x) xs↔_;rw[ad6 xs];unfold K9;split
  ·rename_i h;constructor
   ·rintro(a|a)
    ·exact .inl a
    ·exact .inr (by simp[a])
   ·rintro(a|a)
    ·exact .inl a
    ·rcases List.mem_cons.mp a with rfl|b
     ·exact .inl h
     ·exact .inr b
  ·simp[or_assoc]
theorem ai9:∀(xs ks:List Int),ks.Nodup->(t9 ks xs).Nodup
 |[],ks,h=>h
 |x::xs,ks,h=>by
  show(t9 (K9 ks x) xs).Nodup;refine ai9 xs _ ?_;unfold K9;split
  ·exact h
  ·rename_i hk;rw[List.nodup_append];exact⟨h,by simp,fun a ha b hb=>by simp at hb;subst hb;exact fun z=>hk (z▸ha)⟩
section
variable{prog:Program}{w:World}{A:Around}{E:Value->Shared->Prop}{s:Shared}{a:Addr}
end
end ST

namespace ST
open PySem PyProof.Rows
section
variable{prog:Program}{w:World}{A:Around}{E:Value->Shared->Prop}{s:Shared}{a:Addr}
noncomputable def bg9(h:Heap)(l:Addr)(items:Array Value):Prop:=h.IsList l items\/h.IsTuple l items
theorem bg9.lt{h:Heap}{l:Addr}{items:Array Value}(x:bg9 h l items):l<h.objs.size:=by
 rcases x with⟨_,e,_⟩|⟨_,e,_⟩<;>exact Heap.lt_size e
end
end ST

namespace L2
open PySem PySem.Spec PyProof.Rows
noncomputable def A1(ns:List Int):List Int:=(ST.t9 [] ns).mergeSort (fun a b=>decide (a<=b))
theorem V6:∀{a b:List Int},a.Perm b->a.Pairwise (·<=·)->b.Pairwise (·<=·)->a=b
 |[],b,h,_,_=>by rw[List.nil_perm.mp h]
 |x::a,[],h,_,_=>absurd h.length_eq (by simp)
 |x::a,y::b,h,h1,h2=>by
  rw[List.pairwise_cons] at h1 h2;have e:x=y:=by
   have m1:=h.mem_iff (a:=y);have m2:=h.mem_iff (a:=x);simp only[List.mem_cons,true_or,true_iff,iff_true] at m1 m2;rcases m1 with z|z
   ·exact z.symm
   ·rcases m2 with z'|z'
    ·exact z'
    ·have:=h1.1 y z;have:=h2.1 x z';omega
  subst e;rw[V6 (h.cons_inv) h1.2 h2.2]
theorem ac7(ns:List Int):(A1 ns).Pairwise (·<=·):=by
 have:=List.pairwise_mergeSort (le:=fun a b:Int=>decide (a<=b)) (fun a b c h1 h2=>by simp at *;omega) (fun a b=>by simp;omega) (ST.t9 [] ns);exact this.imp fun h=>by simpa using h
theorem S0(ns:List Int):(A1 ns).Perm (ST.t9 [] ns):=List.mergeSort_perm _ _
theorem aE3(ns:List Int):(A1 ns).length<=ns.length:=by
 rw[(S0 ns).length_eq];have:=ST.af5 ns [];simpa using this
section
variable{X:Cx}{pins:List (Addr×Obj)}{σ:St}{H:Hp}{s:Shared}
theorem Inv.draw(I:Inv X pins σ H s)(d:Drawn):Inv X pins σ H { s with drawn:=d } :=
 I.step (g':=s.gens) (t':=s.toks) (d':=d) (ch:=[]) (by simp) (fun b o _ _ _ e _=>e) (fun b o _ _ _ e _=>⟨o.slots,e⟩) (fun b o _ _ e=>e) (fun b o _ e=>⟨o,e⟩) (fun _ _ e=>e) (fun _ _ _ e=>e) (fun b ps e=>⟨#[],by simp[e]⟩) (fun m hm=>hm) I.hok I.bare
theorem ac3:∀{ns:List Int} {vs:List Value},IntsAre vs ns->Vals (ns.map V.int) vs
 |_,_,.nil=>.nil
 |_,_,.cons n t r=>.cons ⟨t,rfl⟩ (ac3 r)
end
end L2

namespace ST
open PySem PyProof.Rows
end ST
namespace L2
open PySem PySem.Spec PyProof.Rows
section
variable{prog:Program}{w:World}{A:Around}{R:Result->Shared->Prop}{s:Shared}
end
section
variable{X:Cx}{pins:List (Addr×Obj)}{σ:St}{H:Hp}{s:Shared}
end
end L2

namespace HT
open PySem PyProof.Rows Builtin
theorem ab0:fillsNumberSlot (.type "tuple") "mul"=pure false :=
 PySem.fillsNumberSlot_seq (id:="tuple.__mul__") (r:=some (.builtin "tuple.__rmul__")) F.slot_tuple_mul.lookup (by decide +kernel) F.slot_tuple_rmul.lookup (by decide +kernel)
theorem ao8:seqRepeat? (.type "tuple")=pure (some (.builtin "tuple.__mul__")):=by
 unfold seqRepeat?;rw[PySem.seqSlot_of (T:="tuple") (name:="__mul__") (id:="tuple.__mul__") F.slot_tuple_mul.lookup (by decide +kernel),PySem.seqSlot_of (T:="tuple") (name:="__rmul__") (id:="tuple.__rmul__") F.slot_tuple_rmul.lookup (by decide +kernel)]
 rfl
theorem ag6(a:Int)(t:Tok)(l:Addr)(items:Array Value)(n:Nat)(dd:Option Addr)(sl:Array (Option Value)) :
  Meets (Builtin.«int.__rmul__» ⟨[.int a t,.ref l],[]⟩) (fun _ R s=>s.heap.get? l=some { cls:=.type "tuple",dict:=dd,data:=.seq items n,slots:=sl }/\R (.ok (.ret Value.notImplemented)) s) :=
 .of_wp fun prog w A R s h=>by obtain⟨hp,g,d,tk,os⟩:=s;obtain⟨hl,h⟩:=h;wp_walk;exact⟨_,rfl,h⟩
theorem af9(t:Value)(c:Value):Builtin.«tuple.__mul__» ⟨[t,c],[]⟩=(do
 let n <- asIndex c
 if n < -(2 ^ 63)||n>=2 ^ 63 then
  rule "tuple.repeat.overflow";raiseError "OverflowError" s!"cannot fit '{<- typeNameOf c}' into an index-sized integer"
 let xs <- Builtin.Tuple.tupleItemsOf t
 if xs.isEmpty||n==1 then
  if <- Builtin.Tuple.tupleIsExact t then rule "tuple.repeat.same-object";return <- ret t
 if n<=0||xs.isEmpty then return <- ret (<- Builtin.Tuple.tupleExact #[])
 if xs.size*n>(2 ^ 63-1) / 8 then rule "tuple.repeat.no-memory";raiseNew (<- newExc (.type "MemoryError") [])
 if Builtin.Tuple.tupleTooMany (xs.size*n) then unsupported "tuple.__mul__:memory"
 ret (<- Builtin.Tuple.tupleExact ((List.replicate n.toNat xs).foldl (· ++ ·) #[]))):=rfl
section
variable{prog:Program}{w:World}{A:Around}{E:Value->Shared->Prop}{s:Shared}
theorem aB1(its:List Value):∀(m:Nat) (acc:Array Value),List.foldl (fun x1 x2=>x1++x2) acc (List.replicate m its.toArray)=acc++(List.replicate m its).flatten.toArray:=by
 intro m
 induction m with
 |zero=>intro acc;simp
 |succ m ih=>intro acc;rw[List.replicate_succ,List.foldl_cons,ih,List.replicate_succ,List.flatten_cons];simp
theorem aD4{a:Addr}{its:List Value}{n:Int}{t:Tok}{Q:Value->Shared->Prop}(ht:IsTup s.heap a its.toArray)(hne:its≠[])(h1:1<=n)(h2:n<2 ^ 62)(hz:its.length*n.toNat<=sizeLine)(q1:n=1->Q (.ref a) s)(q2:Q (.ref s.heap.objs.size) { s with heap:=s.heap.push { cls:=.type "tuple",data:=.seq (List.replicate n.toNat its).flatten.toArray } }):wpAny (model prog w) A (binaryOp .Mult (.ref a) (.int n t)) Q E s:=by
 obtain⟨o,ho,hc,k,hd⟩:=id ht;obtain⟨cls,dict,data,slots⟩:=o;dsimp only at hc hd;subst hc hd;have he:its.toArray.isEmpty=false:=by cases its<;>first|exact absurd rfl hne|rfl
 refine wpAny_binaryOp_repeat_ref (T:="tuple") (U:="int") (by decide) ht.typeIs (fun s'=>typeIs_int s' n t) ab0 F.fills_int_mul F.slot_int_rmul ao8 F.slot_int_index.lookup
  (call_meets F.slot_int_rmul (typeIs_int s n t) F.entry_int_rmul (F.args_int_rmul_2 _ _) (ag6 n t a its.toArray k dict slots) ⟨ho,rfl,ht.typeIs,?_⟩)
 refine wpAny_call_entry F.slot_tuple_mul ht.typeIs F.entry_tuple_mul ?_ (F.args_tuple_mul_2 _ _);rw[af9];refine wpAny_bind (wpAny_of_eq (show asIndex (.int n t)=pure n from rfl) ?_);dsimp only;rw[if_neg (by simp only[Bool.or_eq_true,decide_eq_true_eq];omega)];refine wpAny_bind (tupleItemsOf_ ht ?_);have big:¬((its.toArray.size:Int)*n>(2 ^ 63-1) / 8):=by
  rw[List.size_toArray];have:((its.length*n.toNat:Nat):Int)=(its.length:Int)*n:=by rw[Int.natCast_mul];rw[show((n.toNat:Nat):Int)=n by omega]
  rw[<- this];have hs:sizeLine<2 ^ 59:=by decide
  omega
 have many:¬(Builtin.Tuple.tupleTooMany ((its.toArray.size:Int)*n)=true):=by
  unfold Builtin.Tuple.tupleTooMany;rw[List.size_toArray,decide_eq_true_iff];have:((its.length*n.toNat:Nat):Int)=(its.length:Int)*n:=by rw[Int.natCast_mul];rw[show((n.toNat:Nat):Int)=n by omega]
  rw[<- this];omega
 have hsz:sizeOk (.seq (List.replicate n.toNat its).flatten.toArray):=by
  show(List.replicate n.toNat its).flatten.toArray.size<=sizeLine;simp only[List.size_toArray,List.length_flatten,List.map_replicate,List.sum_replicate_nat];rw[Nat.mul_comm];exact hz
 by_cases e1:n=1
 ·subst e1;rw[if_pos (by rw[he];rfl)];unfold Builtin.Tuple.tupleIsExact;refine wpAny_bind (wpAny_bind (wpAny_typeOf ht.typeIs (wpAny_pure ?_)));rw[if_pos (by decide)]
  first
   |exact wpAny_bind (wpAny_rule (wpAny_bind (wpAny_pure ⟨_,rfl,wpAny_pure (q1 rfl)⟩)))
   |exact wpAny_bind (wpAny_rule (wpAny_pure ⟨_,rfl,(q1 rfl)⟩))
   |exact wpAny_bind (wpAny_rule (wpAny_pure ⟨_,rfl,wpAny_pure (q1 rfl)⟩))
 ·rw[if_neg (by rw[he];simpa using e1)];rw[if_neg (by rw[he];simp;omega),if_neg big,if_neg many];rw[show List.foldl (fun x1 x2=>x1++x2) #[] (List.replicate n.toNat its.toArray)=(List.replicate n.toNat its).flatten.toArray by rw[aB1];simp]
  first
   |exact wpAny_bind (m:=Builtin.Tuple.tupleExact _) (wpAny_newObj_type (wpAny_pure ⟨_,rfl,q2⟩) hsz)
   |exact wpAny_bind (m:=Builtin.Tuple.tupleExact _) (wpAny_newObj_type (wpAny_pure ⟨_,rfl,wpAny_pure q2⟩) hsz)
end
end HT
namespace L2
open PySem PySem.Spec PyProof.Rows
section
variable{X:Cx}
noncomputable def bk3(K:PySem.W.Frag):R2:=fun x y H Q=>∃(a:Addr) (n:Int) (xs:List V),x=.ref a/\y=.int n/\SqT K H a xs/\xs≠[]/\1<=n/\n<2 ^ 62/\xs.length*n.toNat<=sizeLine /\
 (n=1->Q (.ref a) H)/\(∀p,H p=none->Q (.ref p) (upd H p (.tup (List.replicate n.toNat xs).flatten)))
theorem a07:OpR X (binaryOp .Mult) (bk3 X.K):=by
 intro pins s σ H x y v u Q I rx ry h;obtain⟨a,n,xs,rfl,rfl,ha,hne,h1,h2,hz,q1,q2⟩:=h;cases rx;obtain⟨tk,rfl⟩:=ry;obtain⟨its,r,p,_⟩:=I.tuple ha;refine HT.aD4 p (fun z=>hne (r.L8.mp z)) h1 h2 (by rw[<- r.length];exact hz) (fun e=>⟨.ref a,H,I,rfl,q1 e⟩) ?_;refine⟨.ref s.heap.objs.size,_,I.laid (t':=s.toks) (o:=.tup (List.replicate n.toNat xs).flatten) (fun b ob q=>Heap.get?_push_of_some _ q) (Nat.le_refl _) ?_,rfl,q2 _ (I.hok.fresh (Nat.le_refl _))⟩;exact⟨by rw[len_rep,Nat.mul_comm];exact hz,_,r.rep _,B9.new _ _⟩
noncomputable def a20(sep:Str)(ys:List Str):Nat:=ys.foldl (fun n y=>n+y.length+sep.length) 0
end
end L2

namespace HT
open PySem PyProof.Rows Builtin PySem.SeqAt
theorem al1(l:Addr)(items:Array Value)(n:Nat)(dd:Option Addr)(sl:Array (Option Value))(x:Value)(e:Value->Bool)(j:Nat)(hj:j<items.size)(hit:e items[j]=true)(hno:∀m (hm:m<items.size),m<j->e items[m]=false) :
    Meets (Builtin.«tuple.index» ⟨[.ref l,x],[]⟩)
      (fun A R s=>s.heap.get? l=some { cls:=.type "tuple",dict:=dd,data:=.seq items n,slots:=sl }/\(∀y,y∈items->EqAt A.in1 s y x (e y))/\R (.ok (.ret (.int j s.toks))) { s with toks:=s.toks+1 }) :=
  .of_wp fun prog w A R s h=>by
    obtain⟨hp,g,d,tk,os⟩:=s;obtain⟨hl,he,h⟩:=h
    wp_walk using wpAny_loadPart' hl
    show wpAny (model prog w) A.in1 (forIn ([:Min.min items.size items.size]:Std.Legacy.Range) ((none,()):Option PySem.Fin × Unit) (fun (i:Nat) __s =>
            match items[i]? with
            |some y=>do
              let __do_lift <- eqBool y x
              if __do_lift=true then do
                  let __do_lift <- retInt (i:Nat)
                  pure (ForInStep.done (some __do_lift,()))
                else pure (ForInStep.yield (none,()))
            | x=>pure (ForInStep.yield (none,())))) _ _ _
    rw[Std.Legacy.Range.forIn_eq_forIn_range'];simp only[Std.Legacy.Range.size,Nat.sub_zero,Nat.add_sub_cancel,Nat.div_one,Nat.min_self];refine wpAny_forIn_list _ (fun rest b s'=>b=(none,())/\s'=⟨hp,g,d,tk,os⟩/\∃i,rest=List.range' i (items.size-i)/\i<=j) _ ?_ ?_ _ _ ⟨rfl,rfl,0,by simp,Nat.zero_le _⟩
    · rintro y rest b s' ⟨rfl,rfl,i,hr,hi⟩;have hlt:i<items.size:=by omega
      rw[show items.size-i=(items.size-(i+1))+1 by omega,List.range'_succ] at hr;cases hr;rw[show items[y]?=some items[y] from Array.getElem?_eq_getElem hlt];refine wpAny_bind (he _ (Array.getElem_mem hlt) prog w _ _ ?_);by_cases hij:y=j
      · subst hij;rw[hit]
        wp_walk
        exact⟨_,rfl,h⟩
      · rw[hno y hlt (by omega)]
        wp_walk
        exact⟨rfl,rfl,y+1,rfl,by omega⟩
    · rintro b s' ⟨rfl,rfl,i,hr,hi⟩;exfalso;have:=congrArg List.length hr;simp at this;omega
section
variable{prog:Program}{w:World}{A:Around}{E:Value->Shared->Prop}{s:Shared}
theorem aH0:typeLookup (.type "tuple") (dunderI "add")=pure none:=by
 show typeLookup (.type "tuple") "__iadd__"=pure none;rw[typeLookup_type,builtinLookup_eq_fast];kernel_rfl
theorem aQ7{t b:Addr}{vs ws:List Value}{Q:Value->Shared->Prop}(ht:IsTup s.heap t vs.toArray)(hb:IsTup s.heap b ws.toArray)(h0:vs=[]->Q (.ref b) s)(h1:ws=[]->Q (.ref t) s)(h2:Q (.ref s.heap.objs.size) { s with heap:=s.heap.push { cls:=.type "tuple",data:=.seq (vs++ws).toArray } })(hsz:vs.length+ws.length<=sizeLine):wpAny (model prog w) A (inplaceOp .Add (.ref t) (.ref b)) Q E s:=by
 obtain⟨⟨cls,dd,data,sl⟩,ho,hc,n,hd⟩:=id ht;obtain⟨⟨cls2,dd2,data2,sl2⟩,ho2,hc2,n2,hd2⟩:=id hb;simp only at hc hd hc2 hd2;subst hc hd hc2 hd2;have e:vs.toArray++ws.toArray=(vs++ws).toArray:=by simp
 refine wpAny_inplaceOp_concat (T:="tuple") ⟨_,ho,rfl⟩ ⟨_,ho2,rfl⟩ aH0 noFill_tuple_add seq_tuple_add ?_;by_cases hv:vs=[]
 ·subst hv;exact call_meets F.slot_tuple_add ⟨_,ho,rfl⟩ F.entry_tuple_add (F.args_tuple_add_2 _ _) (tuple_addW0 t b #[] ws.toArray n n2 dd dd2 sl sl2 rfl) ⟨ho,ho2,h0 rfl⟩
 by_cases hw:ws=[]
 ·exact call_meets F.slot_tuple_add ⟨_,ho,rfl⟩ F.entry_tuple_add (F.args_tuple_add_2 _ _) (tuple_addW1 t b vs.toArray ws.toArray n n2 dd dd2 sl sl2 (by simpa using hv) (by simp[hw])) ⟨ho,ho2,h1 hw⟩
 ·refine call_meets F.slot_tuple_add ⟨_,ho,rfl⟩ F.entry_tuple_add (F.args_tuple_add_2 _ _) (tuple_addW2 t b vs.toArray ws.toArray n n2 dd dd2 sl sl2 (by simpa using hv) (by simpa using hw) (by rw[List.size_toArray,List.size_toArray];exact hsz)) ⟨ho,ho2,?_⟩;rw[e];exact h2
end
end HT
namespace L2
open PySem PySem.Spec PyProof.Rows
section
variable{X:Cx}
noncomputable def Z3(ys:List V)(y:V)(n:Nat):Prop:=ys.all E4=true/\E4 y=true/\(∃z,ys[n]?=some z/\eqV z y=true)/\∀(m:Nat) z,m<n->ys[m]?=some z->eqV z y=false
theorem af8:∀{xs:List V} {us:List Value} {i:Nat} (hi:i<us.length),Vals xs us->∃x,xs[i]?=some x/\RelV x us[i]
 |_,_,0,hi,.cons r _=>⟨_,rfl,r⟩
 |_,_,i+1,hi,.cons _ t=>by
  obtain⟨x,h1,h2⟩:=af8 (i:=i) (by simpa using hi) t;exact⟨x,by simpa using h1,by simpa using h2⟩
theorem aL1{xs:List V}(h:xs.all E4=true){i:Nat}{x:V}(e:xs[i]?=some x):E4 x=true:=List.all_eq_true.mp h x (List.mem_of_getElem? e)
theorem ak1{ys:List V}{y:V}{n:Nat}{its:List Value}(F:Z3 ys y n)(r:Vals ys its):∃hn:n<its.toArray.size,eqU y its.toArray[n]=true/\∀m (hm:m<its.toArray.size),m<n->eqU y its.toArray[m]=false:=by
 obtain⟨fs,fy,⟨z,hz,he⟩,hno⟩:=F;have hl:=r.length;have hn:n<its.length:=by
  have:=(List.getElem?_eq_some_iff.mp hz).1;omega
 refine⟨by simpa using hn,?_,fun m hm hmn=>?_⟩
 ·obtain⟨x,hx,rx⟩:=af8 hn r;rw[hz] at hx;cases hx;rw[List.getElem_toArray,ar2 rx (aL1 fs hz)];exact he
 ·have hm':m<its.length:=by simpa using hm
  obtain⟨x,hx,rx⟩:=af8 hm' r;rw[List.getElem_toArray,ar2 rx (aL1 fs hx)];exact hno m x hmn hx
noncomputable def av4(K:PySem.W.Frag):V->List V->Hp->VK->Prop:=fun x xs H Q=>∃a ys y n,x=.ref a/\xs=[y]/\SqT K H a ys/\Z3 ys y n/\Q (.int n) H
noncomputable def av5(K:PySem.W.Frag):V->List V->Hp->VK->Prop:=fun x xs H Q=>∃a ys y n,x=.ref a/\xs=[y]/\SqL K H a ys/\Z3 ys y n/\n<2 ^ 62/\Q (.int n) H
theorem aH2:MtR X "tuple.index" (av4 X.K):=by
 intro pins s σ H x xs v us Q I rx r h;obtain⟨a,ys,y,n,rfl,rfl,hq,W,q⟩:=h;cases rx;cases r with
 |cons ry rr =>
 cases rr;obtain⟨its,rv,p,hz⟩:=I.tuple hq;obtain⟨hn,hit,hno⟩:=ak1 W rv;obtain⟨⟨cls,dd,data,sl⟩,ho,hc,k,hd⟩:=id p;simp only at hc hd;subst hc hd;refine call_meets F.slot_tuple_index p.typeIs F.entry_tuple_index (F.args_tuple_index_2 _ _) (HT.al1 a its.toArray k dd sl _ (eqU y) n hn hit hno) ⟨ho,fun w hw=>ab1 ry W.2.1 rv W.1 w (by simpa using hw),⟨.int n,H,I.tok _,⟨_,rfl⟩,q⟩⟩
theorem aH3:MtR X "list.index" (av5 X.K):=by
 intro pins s σ H x xs v us Q I rx r h;obtain⟨a,ys,y,n,rfl,rfl,hq,W,hn2,q⟩:=h;cases rx;cases r with
 |cons ry rr =>
 cases rr;obtain⟨its,rv,p,hz⟩:=I.list hq;obtain⟨hn,hit,hno⟩:=ak1 W rv;have pt:=p.isList.typeIs;obtain⟨⟨cls,dd,data,sl⟩,k,ho,hc,hdd,hd⟩:=id p;simp only at hc hdd hd;subst hc hdd hd;refine call_meets F.slot_list_index pt F.entry_list_index (F.args_list_index_2 _ _) (SeqAt.list_indexAt a its.toArray k none sl _ (eqU y) n hn (by omega) hit hno) ⟨ho,fun w hw=>ab1 ry W.2.1 rv W.1 w (by simpa using hw),⟨.int n,H,I.tok _,⟨_,rfl⟩,q⟩⟩
noncomputable def at1(K:PySem.W.Frag)(H:Hp)(a:Addr)(xs:List V):Prop :=
 H a=some (.tup xs)\/∃(o:Obj) (its:Array Value) (n:Nat),K.lookup a=some o/\o.cls=.type "tuple"/\o.dict=none/\o.data=.seq its n/\its.size<=sizeLine/\Vals xs its.toList
theorem at1.sq{K:PySem.W.Frag}{H:Hp}{a:Addr}{xs:List V}(h:at1 K H a xs):SqT K H a xs:=by
 rcases h with h|⟨o,its,n,h1,h2,_,h3,h4,h5⟩
 ·exact .inl (.inl h)
 ·exact .inr ⟨o,its,n,h1,h2,h3,h4,h5⟩
theorem Inv.bq5{pins:List (Addr×Obj)}{σ:St}{H:Hp}{s:Shared}{a:Addr}{xs:List V}(I:Inv X pins σ H s)(h:at1 X.K H a xs):s.TypeIs (.ref a) "tuple"/\∀b,Value.ref a=.ref b->∃ob,s.heap.get? b=some ob/\ob.dict=none:=by
 rcases h with h|⟨o,its,n,h1,h2,h3,_⟩
 ·obtain⟨_,its,_,o,e,c,_,d⟩:=(show j4 X.prog X.w H s.heap a (.tup xs) from I.hok a _ h)
  exact⟨⟨o,e,c⟩,fun b q=>by cases q;exact⟨o,e,d⟩⟩
 ·exact⟨⟨o,I.kIn a o h1,h2⟩,fun b q=>by cases q;exact⟨o,I.kIn a o h1,h3⟩⟩
noncomputable def a59(K:PySem.W.Frag)(to:TE)(t:TA):TE:=fun σ H Q=>to σ H fun x H1=>(∃a xs,x=.ref a/\SqL K H1 a xs/\t σ H1 fun ys H2=>av5 K x ys H2 Q)\/(∃a xs,x=.ref a/\at1 K H1 a xs/\t σ H1 fun ys H2=>av4 K x ys H2 Q)
theorem aP1{o e:Expr}{es:List Expr}{to:TE}{t:TA}{apos cpos:Pos}(ho:PE X o to)(ha:PA X (e::es) t)(hbase:attributeBase o "index" X.env (eval o X.env)=eval o X.env)(hfew:((backTo cpos (starEach (e :: es) X.env)).all (fun x=>!x.1) && (backToKw cpos (keywordEach [] X.env)).all (fun x=>x.1.isSome)
   && decide ((e :: es).length + ([]:List Keyword).length + (if ([]:List Keyword).isEmpty then 0 else 1) < 30))=true)(hline:(apos.endLine==cpos.line)=true)(hs:starEach (e::es) X.env=(false,eval e X.env)::starEach es X.env)(hplain:(backTo cpos (starEach es X.env)).any (·.1)=false) :
  PE X (.Call (.Attribute o "index" apos) (e::es) [] cpos) (a59 X.K to t):=by
 intro pins s σ H Q I h;refine wpAny_Call_method_late hbase hfew hline rfl (thn (ho pins s σ H _ I h) fun v s1 ⟨x,H1,I1,r1,q1⟩=>?_);rcases q1 with⟨a,xs,rfl,hq,q1⟩|⟨a,xs,rfl,hq,q1⟩
 ·cases r1;obtain⟨its,rv,pl,hz⟩:=I1.list hq;have pt:=pl.isList.typeIs;obtain⟨ob,k,e1,_,e2,_⟩:=id pl;refine⟨"list","list.index",F.plainAttrs_list,F.slot_list_index,F.type_list_index,pt,fun b q=>by cases q;exact⟨ob,e1,e2⟩,?_⟩;have hA:=ha cpos pins s1 σ H1 _ I1 q1;rw[hs] at hA ⊢;refine Calls.callWith_builtin (by show(false||(backTo cpos (starEach es X.env)).any (·.1))=false;rw[hplain]<;>rfl) (Calls.evalArgs_plain ?_);exact thn hA fun us s2 ⟨vs,H2,I2,r2,q2⟩=>aH3 pins s2 σ H2 (.ref a) vs (.ref a) us Q I2 rfl r2 q2
 ·cases r1;obtain⟨pt,hd⟩:=I1.bq5 hq;refine⟨"tuple","tuple.index",F.plainAttrs_tuple,F.slot_tuple_index,F.type_tuple_index,pt,hd,?_⟩;have hA:=ha cpos pins s1 σ H1 _ I1 q1;rw[hs] at hA ⊢;refine Calls.callWith_builtin (by show(false||(backTo cpos (starEach es X.env)).any (·.1))=false;rw[hplain]<;>rfl) (Calls.evalArgs_plain ?_);exact thn hA fun us s2 ⟨vs,H2,I2,r2,q2⟩=>aH2 pins s2 σ H2 (.ref a) vs (.ref a) us Q I2 rfl r2 q2
noncomputable def bk4(K:PySem.W.Frag):V->V->Hp->VK->Prop:=fun x y H Q=>(∃i j,x=.int i/\y=.int j/\Q (.int (i+j)) H) \/
 ∃a b xs ys,x=.ref a/\y=.ref b/\SqT K H a xs/\SqT K H b ys/\xs.length+ys.length<=sizeLine/\(xs=[]->Q (.ref b) H)/\(ys=[]->Q (.ref a) H)/\(∀p,H p=none->Q (.ref p) (upd H p (.tup (xs++ys))))
theorem a24:aS9 X .Add (bk4 X.K):=by
 rintro pins s σ H x y u v Q I rx ry h;rcases h with h|⟨a,b,xs,ys,rfl,rfl,ha,hb,hz,q0,q1,q2⟩
 ·exact be9 pins s σ H x y u v Q I rx ry h
 ·cases rx;cases ry;obtain⟨its,r1,p1,_⟩:=I.tuple ha;obtain⟨its2,r2,p2,_⟩:=I.tuple hb;refine HT.aQ7 p1 p2 (fun z=>⟨.ref b,H,I,rfl,q0 (r1.L8.mp z)⟩) (fun z=>⟨.ref a,H,I,rfl,q1 (r2.L8.mp z)⟩) ?_ (by rw[<- r1.length,<- r2.length];exact hz);refine⟨.ref s.heap.objs.size,_,I.laid (t':=s.toks) (o:=.tup (xs++ys)) (fun b ob q=>Heap.get?_push_of_some _ q) (Nat.le_refl _) ?_,rfl,q2 _ (I.hok.fresh (Nat.le_refl _))⟩;exact⟨by rw[List.length_append];exact hz,_,r1.append r2,B9.new _ _⟩
end
end L2

namespace ST
open PySem PyProof.Rows
noncomputable def Spot(k:Int):Prop:=0<=k/\k<8
structure Own(mask:Nat)(owner:Array (Option Nat))(pre:List Int):Prop where
 sz:owner.size=mask+1
 fwd:∀(i:Nat) (k:Int),pre[i]?=some k->owner[k.toNat]?=some (some i)
 bwd:∀(j i:Nat),owner[j]?=some (some i)->pre[i]?=some (j:Int)
end ST

namespace ST
open PySem PyProof.Rows
section
variable{prog:Program}{w:World}{A:Around}{E:Value->Shared->Prop}{s:Shared}{a:Addr}
noncomputable def aC7(prog:Program)(w:World)(h:Heap)(a:Addr)(ks:List Int):Prop :=
 ∃o es ep t,h.get? a=some o/\o.ExactSet/\o.data=.set es ep t/\ElemsOf (intKind prog w) es.toList/\(es.toList.map fun e=>toI e.2).Perm ks/\ks.Nodup/\es.size<scanBound/\t.fits es.size=true/\Well (Led w) t/\(ks=[]->7<=t.mask)
theorem U4.toV{h:Heap}{ks:List Int}(x:U4 prog w h a ks)(hn:ks≠[]):aC7 prog w h a ks:=by
 obtain⟨o,es,ep,t,h1,h2,h3,h4,h5,h6,h7,h8,h9⟩:=x;exact⟨o,es,ep,t,h1,h2,h3,h4,h5,h6,h7,h8,h9,fun z=>absurd z hn⟩
theorem aC7.at{h h':Heap}{ks:List Int}(x:aC7 prog w h a ks)(k:∀o,h.get? a=some o->h'.get? a=some o):aC7 prog w h' a ks:=by
 obtain⟨o,es,ep,t,e,r⟩:=x;exact⟨o,es,ep,t,k o e,r⟩
theorem U4.same{h:Heap}{ks us:List Int}(x:U4 prog w h a ks)(hp:ks.Perm us):U4 prog w h a us:=by
 obtain⟨o,es,ep,t,h1,h2,h3,h4,h5,h6,h7⟩:=x;exact⟨o,es,ep,t,h1,h2,h3,h4,h5.trans hp,hp.nodup_iff.mp h6,h7⟩
theorem above:∀n,n<300->7<SetTable.sizeAbove n/\n<SetTable.sizeAbove n/\SetTable.sizeAbove n<=sizeLine:=by decide +kernel
end
end ST
namespace L2
open PySem PySem.Spec PyProof.Rows
variable{X:Cx}
end L2

namespace ST
open PySem PyProof.Rows
theorem al3:typeLookup (.type "dict") "__len__"=pure (some (.builtin "dict.__len__")):=by rw[typeLookup_type,builtinLookup_eq_fast];kernel_rfl
section
variable{prog:Program}{w:World}{A:Around}{E:Value->Shared->Prop}{s:Shared}{a:Addr}{ep:Nat}{K:Type}[DecidableEq K]{knd:PySem.KeyKind prog w K}{kvs:List (K×Value)}
theorem ar5(hh:A.handled=none)(hd:(a==sysModules)=false)(hm:s.heap.DictAt knd a kvs ep)(hz:kvs.length<=10000){Q:List Value->Shared->Prop}(h:∀(vs:List Value) h' tk',vs.length=kvs.length->(∀(i:Nat) v,vs[i]?=some v->∃k x,kvs[i]?=some (k,x)/\knd.is k v=true)->(∀c o,s.heap.get? c=some o->h'.get? c=some o)->s.heap.objs.size<=h'.objs.size->s.toks<=tk'->Q vs { s with heap:=h',toks:=tk' }) :
  wpAny (model prog w) A (collect (.ref a)) Q E s:=by
 have hlt:a<s.heap.objs.size:=hm.lt_size;unfold collect;refine wpAny_bind (wpAny_runValue (codeAny_builtin F.entry_proto_collect ?_));rw[Around.under_plainId F.plain_proto_collect _];show wpAny _ A.in1 (newList [] >>= fun l=>again (.builtin "list.__iadd__" ⟨[l,.ref a],[]⟩)) _ _ s;refine wpAny_bind (wpAny_newObj_type ?_);refine wpAny_pure ⟨plainId_quiet F.plain_list_iadd _,codeAny_builtin F.entry_list_iadd ?_⟩;rw[Around.under_plainId F.plain_list_iadd _];have hL1:=hm.push { cls:=.type "list",data:=.seq ([]:List Value).toArray };have hS1:(s.heap.push { cls:=.type "list",data:=.seq ([]:List Value).toArray }).get? s.heap.objs.size=some { cls:=.type "list",data:=.seq ([]:List Value).toArray }:=Heap.get?_push_size _ rfl;have hne:s.heap.objs.size≠a:=Nat.ne_of_gt hlt;have h1:Builtin.List.listSameRef (.ref s.heap.objs.size) (.ref a)=false:=by simp[Builtin.List.listSameRef,hne]
 show wpAny _ A.in1 (Builtin.List.listExtendWith (.ref s.heap.objs.size) (.ref a) (.ref s.heap.objs.size)) _ _ _;unfold Builtin.List.listExtendWith;refine wpAny_bind (wpAny_typeOf (s:={ s with heap:=_ }) hL1.dictOf.typeIs ?_);rw[if_neg (by rw[h1];decide)];refine wpAny_bind (wpAny_pyIter_dict (s:={ s with heap:=_ }) hd hL1 ?_);have hz1:s.heap.objs.size<(s.heap.push { cls:=.type "list",data:=.seq ([]:List Value).toArray }).objs.size:=by rw[size_push'];exact Nat.lt_succ_self _
 have hI0:((s.heap.push { cls:=.type "list",data:=.seq ([]:List Value).toArray }).push { cls:=.type "dict_keyiterator",data:=.fields #[.ref a,.int 0 0,.int kvs.length 0,.int ep 0] }).IsKeyIter (s.heap.push { cls:=.type "list",data:=.seq ([]:List Value).toArray }).objs.size a 0 kvs.length ep:=⟨_,Heap.get?_push_size _ rfl,rfl,rfl⟩
 have hL2:=hL1.push { cls:=.type "dict_keyiterator",data:=.fields #[.ref a,.int 0 0,.int kvs.length 0,.int ep 0] };have he:∀c o,(s.heap.push { cls:=.type "list",data:=.seq ([]:List Value).toArray }).get? c=some o->((s.heap.push { cls:=.type "list",data:=.seq ([]:List Value).toArray }).push { cls:=.type "dict_keyiterator",data:=.fields #[.ref a,.int 0 0,.int kvs.length 0,.int ep 0] }).get? c=some o:=fun c o e=>Heap.get?_push_of_some _ e;have hS2:=he _ _ hS1;generalize ((s.heap.push { cls:=.type "list",data:=.seq ([]:List Value).toArray }).push { cls:=.type "dict_keyiterator",data:=.fields #[.ref a,.int 0 0,.int kvs.length 0,.int ep 0] })=h2 at *;generalize hI':(s.heap.push { cls:=.type "list",data:=.seq ([]:List Value).toArray }).objs.size=I at *;refine wpAny_bind (wpAny_holding ?_);unfold Builtin.List.listLengthHint;refine wpAny_bind (wpAny_specialOf (s:={ s with heap:=h2 }) hL2.dictOf.typeIs al3 ?_);generalize hid:("dict.__len__":String)=id0;dsimp only;rw[show splitId id0=some ("dict","__len__") from by subst hid;decide +kernel];dsimp only;refine wpAny_bind (wpAny_isInstance (s:={ s with heap:=h2 }) (b:=true) hL2.dictOf.typeIs (by rw[isSubtype_type];kernel_rfl) ?_);rw[if_neg (by decide)];subst hid;rw[if_pos (by decide +kernel)];refine wpAny_bind (wpAny_typeOf (s:={ s with heap:=h2 }) hL2.dictOf.typeIs ?_);refine wpAny_pure ?_;rw[if_pos (by decide +kernel)];refine wpAny_bind (wpAny_rule ?_);refine wpAny_bind ?_;show wpAny _ A.in1 (updateSeq s.heap.objs.size (·.push .none) >>= fun _=>updateSeq s.heap.objs.size (·.pop)) _ _ _;refine wpAny_bind (wpAny_updateSeq (s:={ s with heap:=h2 }) hS2 rfl ?_);have hS3:=Heap.get?_update_self (Obj.mapSeq (·.push Value.none)) hS2 rfl;refine wpAny_updateSeq (s:={ s with heap:=_ }) hS3 rfl ?_;have hS4:=Heap.get?_update_self (Obj.mapSeq (·.pop)) hS3 rfl;have oth:∀c o,c≠s.heap.objs.size->h2.get? c=some o->((h2.update s.heap.objs.size (Obj.mapSeq (·.push Value.none))).update s.heap.objs.size (Obj.mapSeq (·.pop))).get? c=some o :=
  fun c o hc e=>(Heap.get?_update_other _ _ (Ne.symm hc)).trans ((Heap.get?_update_other _ _ (Ne.symm hc)).trans e)
 have hSI:I≠s.heap.objs.size:=Nat.ne_of_gt hz1;have haI:a≠I:=Nat.ne_of_lt (Nat.lt_trans hlt hz1);have W:=(Walks.dictKeys (prog:=prog) (w:=w) (A:=A.in1) (knd:=knd) hh I a haI kvs ep).toS;have st:h2.IsKeyIter I a 0 kvs.length ep/\h2.DictAt knd a kvs ep:=⟨hI0,hL2⟩
 have st2:=W.frame 0 ({ s with heap:=h2 }:Shared) _ s.toks st (Nat.le_refl _) fun c hc o e=>oth c o (fun z=>by simp at hc;rcases hc with y|y<;>simp_all) e;refine wpAny_pure ⟨plainId_quiet F.plain_extend_loop _,codeAny_extend_loopS W (Nat.le_trans hz (by decide)) _ (fun z=>by simp at z;rcases z with y|y<;>simp_all) _ kvs.length 0 _ _ _ rfl (Nat.zero_le _) st2 hS4 (ItemsOf.nil _) fun s' acc' c' hm hS' hacc=>?_⟩;show wpAny _ A (load s.heap.objs.size >>= _) _ _ s';refine wpAny_bind (wpAny_load hS' ?_);refine wpAny_pure ?_;have eS:s'={ s with heap:=s'.heap,toks:=s'.toks }:=by
  obtain⟨hp',g',d',tk',os'⟩:=s';have m1:g'=s.gens:=hm.gens;have m2:d'=s.drawn:=hm.drawn;have m3:os'=s.os:=hm.os;subst m1;subst m2;subst m3
  rfl
 rw[eS];refine h _ _ s'.toks (by simpa using hacc.1) (fun i v hv=>hacc.2 i v (by simpa using hv)) (fun c o e=>?_) (Nat.le_of_lt (Heap.lt_size hS')) hm.toks;have hc:c<s.heap.objs.size:=Heap.lt_size e;have n1:c≠s.heap.objs.size:=Nat.ne_of_lt hc;have n2:c≠I:=Nat.ne_of_lt (Nat.lt_trans hc hz1);exact hm.heap c o (by simp[n1,n2]) (oth c o n1 (he c o (Heap.get?_push_of_some _ e)))
theorem a19{i:Int}{v:Value}(h:(L2.j5 prog w).is (.inl i) v=true):∃t,v=.int i t:=by
 rw[L2.az7] at h;rcases L2.m9 h with⟨j,t,e1,e2⟩|⟨x,t,e1,_⟩
 ·cases e1;exact⟨t,e2⟩
 ·cases e1
theorem at6{kvs:List (L2.Key×Value)}{ns:List Int}(hh:A.handled=none)(hd:(a==sysModules)=false)(hm:s.heap.DictAt (L2.j5 prog w) a kvs ep)(hk:kvs.map (·.1)=ns.map Sum.inl)(h64:ns.length<64){Q:Value->Shared->Prop}(h:∀(S:Addr) (vs:List Value) (ns':List Int) e h' tk',IntsAre vs ns'->ns'.Perm ns->ns'.Pairwise (·<=·)->h'.get? S=some (seqObj "list" vs.toArray e)->s.heap.objs.size<=S->(∀c o,s.heap.get? c=some o->h'.get? c=some o)->s.toks<=tk'->Q (.ref S) { s with heap:=h',toks:=tk' }) :
  wpAny (model prog w) A (call (.builtin "sorted") [.ref a]) Q E s:=by
 have hl:kvs.length=ns.length:=by simpa using congrArg List.length hk
 refine Calls.call_function_entry kind_sorted plain_sorted entry_sorted (args_sorted1 _) ?_;unfold Builtin.«sorted»;refine wpAny_bind (m:=checkCount "sorted" 1 1 _) (wpAny_pure ?_);refine wpAny_bind (ar5 (A:=A.in1) hh hd hm (by omega) fun vs h1 tk1 hvl hv he hz1 htk=>?_);have hI:IntsAre vs ns:=by
  have all:∀(i:Nat) v,vs[i]?=some v->∃n tk,ns[i]?=some n/\v=.int n tk:=fun i v e=>by
   obtain⟨k,x,h1,h2⟩:=hv i v e;have h3:(kvs.map (·.1))[i]?=some k:=by rw[List.getElem?_map,h1];rfl
   rw[hk,List.getElem?_map,Option.map_eq_some_iff] at h3;obtain⟨n,h4,rfl⟩:=h3;obtain⟨tk,e⟩:=a19 h2;exact⟨n,tk,h4,e⟩
  have hln:vs.length=ns.length:=hvl.trans hl;clear hv hvl hl hk h
  induction vs generalizing ns with
  |nil =>
   cases ns with
   |nil=>exact .nil
   |cons=>simp at hln
  |cons v r ih =>
   cases ns with
   |nil=>simp at hln
   |cons n ns =>
    obtain⟨n',tk,e1,e2⟩:=all 0 v rfl;cases e1;rw[e2];exact .cons n tk (ih (by simp at h64;omega) (fun i v e=>all (i+1) v e) (by simpa using hln))
 have hl2:vs.length<64:=by omega
 refine wpAny_bind (wpAny_newList (s:={ s with heap:=h1,toks:=tk1 }) ?_);have hoL:(h1.push (seqObj "list" vs.toArray 0)).get? h1.objs.size=some (seqObj "list" vs.toArray 0):=Heap.get?_push_size _ rfl;refine wpAny_bind (wpAny_holding (wpAny_call_entry (s:={ s with heap:=h1.push (seqObj "list" vs.toArray 0),toks:=tk1 }) slot_list_sort ⟨_,hoL,rfl⟩ entry_list_sort (list_sort_tree hoL hI hl2 fun out ns' a1 a2 a3=>⟨_,rfl,?_⟩) (args_list_sort _)));obtain⟨e,he'⟩:=sortedHeap_at (vs:=vs) (out:=out) hoL;refine wpAny_pure ⟨_,rfl,h h1.objs.size out.toList ns' e _ tk1 a1 a2 a3 he' hz1 (fun c o' e'=>?_) htk⟩;have hc:=Heap.lt_size (he c o' e');rw[sortedHeap_old (Nat.ne_of_lt hc) (by rw[size_push'];exact Nat.lt_succ_of_lt hc)];exact Heap.get?_push_of_some _ (he c o' e')
end
end ST
namespace L2
open PySem PySem.Spec PyProof.Rows
section
variable{X:Cx}
theorem aK6(hc:X.calm=true):i8 X (.builtin "any") (fun xs H Q=>∃(a:Addr) (bs:List Bool),xs=[.ref a]/\SqL X.K H a (bs.map V.bl)/\Q (.bl (bs.any id)) H):=by
 intro pins s σ H xs us Q I r h;obtain⟨a,bs,rfl,ha,q⟩:=h;obtain⟨u,rfl,ru⟩:=vals1 r;cases ru;obtain⟨its,rv,p,hz⟩:=I.list ha;refine call_any_walk ?_;refine wpAny_pyIter_list p.isList ?_;have hne:a≠s.heap.objs.size:=by
  obtain⟨o,e,_⟩:=id p.isList;exact Nat.ne_of_lt (Heap.lt_size e)
 have hl:=rv.length;rw[List.length_map] at hl;refine⟨s.heap.objs.size,_,_,_,_,_,fun i=>bs.getD i false,rfl,Walks.list (A:=X.A.in1) (I.ok.hd hc) _ a hne its.toArray,⟨⟨_,Heap.get?_push_size _ rfl,rfl,rfl⟩,?_⟩,?_,fun h' tk k=>?_⟩
 ·obtain⟨o,e,q1⟩:=id p.isList;exact⟨o,Heap.get?_push_of_some _ e,q1⟩
 ·intro i v s' Q' E' hP hQ;have hv:its[i]?=some v:=by simpa using hP
  have hi:i<bs.length:=by rw[hl];exact(List.getElem?_eq_some_iff.mp hv).1
  obtain⟨u',hu',ru'⟩:=rv.get (i:=i) (x:=V.bl bs[i]) (by rw[List.getElem?_map,List.getElem?_eq_getElem hi];rfl);rw[hv] at hu';cases hu';cases (show v=Value.bool bs[i] from ru');refine wpAny_truthy_bool ?_;have:bs.getD i false=bs[i]:=by simp[List.getD,hi]
  dsimp only at hQ;rw[this] at hQ;exact hQ
 ·have e1:(List.range its.toArray.size).any (fun i=>bs.getD i false)=bs.any id:=by
   rw[List.size_toArray,<- hl];rw[Bool.eq_iff_iff];simp only[List.any_eq_true,List.mem_range,id];constructor
   ·rintro⟨i,hi,hh⟩;exact⟨bs[i],List.getElem_mem hi,by simpa[List.getD,hi] using hh⟩
   ·rintro⟨x,hx,hh⟩;obtain⟨i,hi,rfl⟩:=List.mem_iff_getElem.mp hx;exact⟨i,hi,by simpa[List.getD,hi] using hh⟩
  rw[e1];exact ⟨.bl (bs.any id),H,I.kept (t':=tk) fun b o e=>k b o (by
   intro hb;have:b=s.heap.objs.size:=by simpa using hb
   exact absurd (Heap.lt_size e) (by rw [this];exact Nat.lt_irrefl _)) (Heap.get?_push_of_some _ e),rfl,q⟩
theorem X2:∀{ns ks:List Int},(ks++ns).Nodup->ST.t9 ks ns=ks++ns
 |[],ks,_=>by simp[ST.t9]
 |n::r,ks,h=>by
  have hn:n∉ks:=fun z=>by
   have:=(List.nodup_append.mp h).2.2 n z n (by simp);exact this rfl
  have e:ST.K9 ks n=ks++[n]:=by
   unfold ST.K9;rw[if_neg (by simpa using hn)]
  show ST.t9 (ST.K9 ks n) r=_;rw[e,X2 (by rw[List.append_assoc];exact h),List.append_assoc]
  rfl
theorem ab5(hc:X.calm=true):i8 X (.builtin "sorted") (fun xs H Q=>∃a kvs ns,xs=[.ref a]/\H a=some (.dK kvs)/\kvs.map (·.1)=ns.map Sum.inl/\ns.length<60/\∀p,H p=none->Q (.ref p) (upd H p (.lst ((A1 ns).map V.int)))):=by
 intro pins s σ H xs us Q I r h;obtain⟨a,kvs,ns,rfl,ha,hk,hl,q⟩:=h;cases r with
 |cons r rr =>
 cases rr;cases r;obtain⟨_,hd,vs,kv,hD⟩:=aB3 I.hok ha;obtain⟨ep,hA⟩:=hD.dictAt;have hk2:vs.map (·.1)=ns.map Sum.inl:=kv.keys.symm.trans hk;have hnd:ns.Nodup:=by
  obtain⟨_,_,_,_,_,_,_,_,nd⟩:=id hD;rw[hk2] at nd;exact(List.pairwise_map.mp nd).imp fun h e=>h (congrArg _ e)
 refine ST.at6 (I.ok.hd hc) hd hA hk2 (by omega) fun S us ns' e h' tk' h1 h2 h3 h4 h5 h6 _=>?_;have e1:ns'=A1 ns:=V6 (h2.trans ((S0 ns).trans (by rw[X2 (ks:=[]) hnd];exact .refl _)).symm) h3 (ac7 ns);subst e1;have hz:=aE3 ns;exact⟨.ref S,_,(I.laid (a:=S) (o:=.lst ((A1 ns).map V.int)) (t':=tk') h6 h5 ⟨by rw[List.length_map];exact Nat.le_trans hz (Nat.le_trans (Nat.le_of_lt hl) (by decide)),us,e,ac3 h1,h4⟩),rfl,q S (I.hok.fresh h5)⟩
end
end L2

namespace M
open PySem L2
inductive D where
 |non|bl (b:Bool)|int (i:Int)|str (x:Str)|ty (n:String)|ref (i:Nat)|tup (l:List D)
inductive O where
 |lst (l:List D)|fro (l:List D)
 |dic (kvs:List (Key×D))
 |ins (c:Str) (fs:List (Str×D))
noncomputable def O.mut:O->Bool
 |.fro _=>false
 |_=>true
noncomputable def P6:D->Option Key
 |.int i=>some (.inl i)
 |.str x=>some (.inr x)
 |_=>none
noncomputable def o7(kvs:List (Key×D))(k:Key):Option D:=(kvs.find? fun kv=>decide (kv.1=k)).map (·.2)
noncomputable def putD(kvs:List (Key×D))(k:Key)(v:D):List (Key×D) :=
 if(kvs.any fun kv=>decide (kv.1=k))=true then kvs.map (fun kv=>if kv.1=k then(kv.1,v) else kv) else kvs++[(k,v)]
noncomputable def I9(f:Str)(v:D):List (Str×D)->List (Str×D)
 |[]=>[(f,v)]
 |(g,x)::r=>if g=f then(g,v)::r else(g,x)::I9 f v r
noncomputable def C0:List D->Str->Option D
 |.tup [.str y,v]::r,x=>if x=y then some v else C0 r x
 |_::_,_=>none
 |[],_=>none
noncomputable def T5:List D->Option Str
 |[]=>some Str.empty
 |.str x::r=>(T5 r).map fun y=>x++y
 |_=>none
structure Xn where
 cls:Str
noncomputable abbrev G:=List O
noncomputable abbrev S:=List (Option D)
noncomputable abbrev KD:=D->G->Prop
noncomputable abbrev KX:=Xn->G->Prop
noncomputable abbrev NoX:KX:=fun _ _=>False
noncomputable def aq5:Option O->Option (List D)
 |some (.lst l)=>some l
 |some (.fro l)=>some l
 |_=>none
noncomputable abbrev d4(g:G)(a:Nat):Option (List D):=aq5 g[a]?
noncomputable def rd(g:G):Nat->D->Option PyData
 |_,.non=>some .none
 |_,.bl b=>some (.bool b)
 |_,.int i=>some (.int i)
 |_,.str x=>some (.str x)
 |_,.ty _=>none
 |0,.ref _=>none
 |0,.tup _=>none
 |n+1,.ref a=>match d4 g a with
  |some l=>(l.mapM (rd g n)).map .list
  |none=>none
 |n+1,.tup l=>(l.mapM (rd g n)).map .tuple
noncomputable def rds(g:G)(l:List D):Option (List PyData):=l.mapM (rd g 6)
noncomputable def B7(g:G):D->Option (List D)
 |.tup l=>some l
 |.ref a=>d4 g a
 |_=>none
noncomputable def O5:D->Bool
 |.non=>true
 |_=>false
noncomputable def cut{α:Type}(xs:List α)(lo hi:Option Int):List α:=(xs.drop (HT.sIx xs.length 0 lo)).take (HT.sIx xs.length xs.length hi-HT.sIx xs.length 0 lo)
noncomputable def W9(g:G)(x:D)(c:String):Option Bool:=match x with
 |.non=>some (c=="NoneType")
 |.bl _=>some (c=="bool"||c=="int")
 |.int _=>some (c=="int")
 |.str _=>some (c=="str")
 |.tup _=>some (c=="tuple")
 |.ref a=>match g[a]? with
  |some (.lst _)=>some (c=="list")
  |_=>none
 |.ty _=>none
noncomputable def i0(lo:Int)(n:Nat):List D:=(List.range n).map fun(k:Nat)=>.int (lo+k)
noncomputable def O8:List D->Option Bool
 |[]=>some true
 |.bl b::r=>(O8 r).map fun c=>b&&c
 |_=>none
inductive Pr where
 |bin (op:Operator)|un (op:UnaryOp)|cmp (op:CmpOp)
 |ix|slc (lo hi:Bool)|rev|tup|lst|X0
 |len|list|tuple|isin|all|max|min|int|str|lrng1|lrng2|sset|sun|dcopy
 |gin|gnin|gget|fv|fstr|fld (f:Str)
 |append|pop|get|index|join|iadd|clear|pop0|extend|any|sortd
noncomputable abbrev DR:=List D->G->D->G->Prop
noncomputable def arR:Operator->Int->Int->Int->Prop
 |.Add,i,j,r=>r=i+j
 |.Sub,i,j,r=>r=i-j
 |.Mult,i,j,r=>U6 i j/\r=i*j
 |.FloorDiv,i,j,r=>aT0 i j/\r=i / j
 |.Mod,i,j,r=>0<j/\r=i % j
 |.Pow,i,j,r=>ab8 i j/\r=i ^ j.toNat
 |_,_,_,_=>False
noncomputable def bw5(op:Operator):DR:=fun xs g d g' =>
 (∃i j r,xs=[.int i,.int j]/\arR op i j r/\d=.int r/\g'=g) \/
 (op=.Add/\((∃ l m,xs=[.tup l,.tup m]/\l.length + m.length <= 100000/\d=.tup (l ++ m)/\g'=g) \/
  (∃a b l m,xs=[.ref a,.ref b]/\g[a]?=some (.lst l)/\g[b]?=some (.lst m)/\l.length+m.length<=100000/\d=.ref g.length/\g'=g++[.lst (l++m)]) \/
  (∃ x y,xs=[.str x,.str y]/\x.length + y.length <= 100000/\d=.str (x ++ y)/\g'=g))) \/
 (op=.Mult/\((∃ a l n,xs=[.ref a,.int n]/\g[a]?=some (.lst l)/\-(2 ^ 62) <= n/\n < 2 ^ 62/\l.length * n.toNat <= 100000/\d=.ref g.length/\g'=g ++ [.lst (List.replicate n.toNat l).flatten]) \/
  (∃ l n,xs=[.tup l,.int n]/\l ≠ []/\1 <= n/\n < 2 ^ 62/\l.length * n.toNat <= 100000/\d=.tup (List.replicate n.toNat l).flatten/\g'=g)))
noncomputable def unR(op:UnaryOp):DR:=fun xs g d g'=>op=.USub/\∃i,xs=[.int i]/\d=.int (-i)/\g'=g
noncomputable def eqR(g:G)(x y:D)(b:Bool):Prop :=
 (∃i j,x=.int i/\y=.int j/\b=decide (i=j))\/(∃i j,x=.bl i/\y=.bl j/\b=(i==j))\/(∃i j,x=.str i/\y=.str j/\b=decide (i=j)) \/
 ∃p q,rd g 6 x=some p/\rd g 6 y=some q/\p.canLay0=true/\q.canLay0=true/\b=PyData.eqv p q
noncomputable def inR(g:G)(x y:D)(b:Bool):Prop :=
 (∃a kvs c,y=.ref a/\g[a]?=some (.dic kvs)/\P6 x=some c/\b=(o7 kvs c).isSome) \/
 ∃l ps p,B7 g y=some l/\rds g l=some ps/\rd g 6 x=some p/\PyData.canLayAll0 ps=true/\p.canLay0=true/\b=(ps.any fun q=>PyData.eqv q p)
noncomputable def bg2(g:G)(x y:D)(b:Bool):CmpOp->Prop
 |.Eq=>eqR g x y b
 |.NotEq=>eqR g x y (!b)
 |.In=>inR g x y b
 |.NotIn=>inR g x y (!b)
 |.Lt=>∃i j,x=.int i/\y=.int j/\b=decide (i<j)
 |.LtE=>∃i j,x=.int i/\y=.int j/\b=decide (i<=j)
 |.Gt=>∃i j,x=.int i/\y=.int j/\b=decide (j<i)
 |.GtE=>∃i j,x=.int i/\y=.int j/\b=decide (j<=i)
 |.Is=>y=.non/\b=O5 x
 |.IsNot=>y=.non/\b=!O5 x
noncomputable def bw0(op:CmpOp):DR:=fun xs g d g'=>∃x y b,xs=[x,y]/\bg2 g x y b op/\d=.bl b/\g'=g
noncomputable def a50(g:G)(x:D)(b:Bool):Prop :=
 (x=.non/\b=false)\/x=.bl b\/(∃i,x=.int i/\b=(i != 0))\/(∃l,x=.tup l/\b=!l.isEmpty)\/∃a l,x=.ref a/\d4 g a=some l/\b=!l.isEmpty
noncomputable def ixR:DR:=fun xs g d g'=>g'=g/\((∃x l i,xs=[x,.int i]/\B7 g x=some l/\atI l i=some d)\/(∃a kvs y c,xs=[.ref a,y]/\g[a]?=some (.dic kvs)/\P6 y=some c/\o7 kvs c=some d) \/
 ∃ x i c,xs=[.str x,.int i]/\x.length <= 100000/\atI x.cps.toList i=some c/\d=.str ⟨#[c]⟩)
noncomputable def slR(x:D)(lo hi:Option Int)(g:G)(d:D)(g':G):Prop:=(∃l,x=.tup l/\d=.tup (cut l lo hi)/\g'=g)\/∃a l,x=.ref a/\d4 g a=some l/\d=.ref g.length/\g'=g++[.lst (cut l lo hi)]
noncomputable def bs1:Bool->Bool->DR
 |false,false,xs,g,d,g'=>∃x,xs=[x]/\slR x none none g d g'
 |true,false,xs,g,d,g'=>∃x i,xs=[x,.int i]/\slR x (some i) none g d g'
 |false,true,xs,g,d,g'=>∃x j,xs=[x,.int j]/\slR x none (some j) g d g'
 |true,true,xs,g,d,g'=>∃x i j,xs=[x,.int i,.int j]/\slR x (some i) (some j) g d g'
noncomputable def bs4:DR:=fun xs g d g'=>(∃l,xs=[.tup l]/\d=.tup l.reverse/\g'=g)\/∃a l,xs=[.ref a]/\d4 g a=some l/\d=.ref g.length/\g'=g++[.lst l.reverse]
noncomputable def bq4:DR:=fun xs g d g'=>xs.length<=1000/\d=.tup xs/\g'=g
noncomputable def bu6:DR:=fun xs g d g'=>xs.length<=1000/\d=.ref g.length/\g'=g++[.lst xs]
noncomputable def ah0:List D->List (Key×D)->Option (List (Key×D))
 |[],kvs=>some kvs
 |k::v::r,kvs=>(P6 k).bind fun c=>ah0 r (putD kvs c v)
 |_,_=>none
noncomputable def bo1:DR:=fun xs g d g'=>xs=[]/\d=.ref g.length/\g'=g++[.dic []]
noncomputable def bu8:DR:=fun xs g d g'=>g'=g/\((∃x l,xs=[x]/\B7 g x=some l/\d=.int l.length)\/(∃a kvs,xs=[.ref a]/\g[a]?=some (.dic kvs)/\d=.int kvs.length)\/∃x,xs=[.str x]/\x.length<=100000/\d=.int x.length)
noncomputable def bm5:DR:=fun xs g d g'=>∃x l,xs=[x]/\B7 g x=some l/\d=.ref g.length/\g'=g++[.lst l]
noncomputable def a47:DR:=fun xs g d g'=>∃x l,xs=[x]/\B7 g x=some l/\d=.tup l/\g'=g
noncomputable def bn2:DR:=fun xs g d g'=>∃x c b,xs=[x,.ty c]/\c∈["int","bool","str","tuple","list"]/\W9 g x c=some b/\d=.bl b/\g'=g
noncomputable def allR:DR:=fun xs g d g'=>∃a l b,xs=[.ref a]/\d4 g a=some l/\O8 l=some b/\d=.bl b/\g'=g
noncomputable def O7:List D->Option Bool
 |[]=>some false
 |.bl b::r=>(O7 r).map fun c=>b||c
 |_=>none
noncomputable def anyR:DR:=fun xs g d g'=>∃a l b,xs=[.ref a]/\d4 g a=some l/\O7 l=some b/\d=.bl b/\g'=g
noncomputable def a71:DR:=fun xs g d g'=>∃a kvs ns,xs=[.ref a]/\g[a]?=some (.dic kvs)/\kvs.map (·.1)=ns.map Sum.inl/\ns.length<60/\d=.ref g.length/\g'=g++[.lst ((A1 ns).map .int)]
noncomputable def bu5:DR:=fun xs g d g'=>∃i j,xs=[.int i,.int j]/\d=.int (if j>i then j else i)/\g'=g
noncomputable def bu4:DR:=fun xs g d g'=>∃i j,xs=[.int i,.int j]/\d=.int (if j<i then j else i)/\g'=g
noncomputable def bv1:DR:=fun xs g d g'=>g'=g/\((∃i,xs=[.int i]/\d=.int i)\/∃b,xs=[.bl b]/\d=.int (if b then 1 else 0))
noncomputable def bs0:DR:=fun xs g d g'=>(∃i,xs=[.int i]/\i.natAbs.log2<1920/\d=.str (toString i)/\g'=g)\/∃x,xs=[.str x]/\d=.str x/\g'=g
noncomputable def bd5:DR:=fun xs g d g'=>∃j,xs=[.int j]/\-(2 ^ 62)<=j/\j<=100000/\d=.ref g.length/\g'=g++[.lst (i0 0 j.toNat)]
noncomputable def bd4:DR:=fun xs g d g'=>∃i j,xs=[.int i,.int j]/\(-(2 ^ 62)<=i/\i<2 ^ 62/\-(2 ^ 62)<=j/\j<2 ^ 62/\j-i<=100000)/\d=.ref g.length/\g'=g++[.lst (i0 i (j-i).toNat)]
noncomputable def bj6:DR:=fun xs g d g'=>∃a ns,xs=[.ref a]/\d4 g a=some (ns.map .int)/\ns.length<60/\d=.ref g.length/\g'=g++[.lst ((A1 ns).map .int)]
noncomputable def br9:DR:=fun xs g d g'=>∃ns ms:List Int,xs=[.tup (ns.map .int),.tup (ms.map .int)]/\(∀k∈ns,ST.Spot k)/\(∀k∈ms,ST.Spot k)/\ns.length+ms.length<50/\d=.ref g.length/\g'=g++[.lst ((A1 (ns++ms)).map .int)]
noncomputable def aR0(neg:Bool):DR:=fun xs g d g'=>∃kvs x,xs=[.tup kvs,.str x]/\d=.bl (xor neg (C0 kvs x).isSome)/\g'=g
noncomputable def bn7:DR:=fun xs g d g'=>∃kvs x,xs=[.tup kvs,.str x]/\C0 kvs x=some d/\g'=g
noncomputable def fvR:DR:=fun xs g d g'=>g'=g/\((∃i,xs=[.int i]/\i.natAbs.log2<1920/\d=.str (toString i))\/∃x,xs=[.str x]/\x.length<=2000/\d=.str x)
noncomputable def bn9:DR:=fun xs g d g'=>∃x,T5 xs=some x/\d=.str x/\g'=g
noncomputable def bv8(f:Str):DR:=fun xs g d g'=>∃a c fs,xs=[.ref a]/\g[a]?=some (.ins c fs)/\fs.lookup f=some d/\g'=g
noncomputable def appendR:DR:=fun xs g d g'=>∃a y l,xs=[.ref a,y]/\g[a]?=some (.lst l)/\l.length<100000/\d=.non/\g'=g.set a (.lst (l++[y]))
noncomputable def bt5:DR:=fun xs g d g'=>∃a i l k,xs=[.ref a,.int i]/\g[a]?=some (.lst l)/\-(2 ^ 63)<=i/\i<2 ^ 63/\seqIndex? i l.length=some k/\l[k]?=some d/\g'=g.set a (.lst (l.eraseIdx k))
noncomputable def bv4:DR:=fun xs g d g'=>∃a y z kvs c,xs=[.ref a,y,z]/\g[a]?=some (.dic kvs)/\P6 y=some c/\d=(o7 kvs c).getD z/\g'=g
noncomputable def am3:D->Bool
 |.non=>true
 |.bl _=>true
 |.int _=>true
 |.str _=>true
 |_=>false
noncomputable def toV:D->V
 |.bl b=>.bl b
 |.int i=>.int i
 |.str x=>.str x
 |_=>.non
noncomputable def aL2(l:List D)(y:D)(n:Nat):Prop:=l.all am3=true/\am3 y=true/\(∃z,l[n]?=some z/\eqV (toV z) (toV y)=true)/\∀(m:Nat) z,m<n->l[m]?=some z->eqV (toV z) (toV y)=false
noncomputable def be8:DR:=fun xs g d g'=>∃x y l n,xs=[x,y]/\B7 g x=some l/\aL2 l y n/\l.length<=100000/\d=.int n/\g'=g
noncomputable def joinR:DR:=fun xs g d g'=>∃sep a ys,xs=[.str sep,.ref a]/\d4 g a=some (ys.map .str)/\a20 sep ys<=100000/\d=.str (Builtin.Str.glued sep ys)/\g'=g
noncomputable def bn4:DR:=fun xs g d g'=>(∃i j,xs=[.int i,.int j]/\d=.int (i+j)/\g'=g)\/∃l m,xs=[.tup l,.tup m]/\l.length+m.length<=100000/\d=.tup (l++m)/\g'=g
noncomputable def bg3:DR:=fun xs g d g'=>∃a l,xs=[.ref a]/\g[a]?=some (.lst l)/\d=.non/\g'=g.set a (.lst [])
noncomputable def bk8:DR:=fun xs g d g'=>∃a l,xs=[.ref a]/\g[a]?=some (.lst (l++[d]))/\g'=g.set a (.lst l)
noncomputable def a28:DR:=fun xs g d g'=>∃a b l m,xs=[.ref a,.ref b]/\g[a]?=some (.lst l)/\g[b]?=some (.lst m)/\l.length+m.length<=100000/\d=.non/\g'=g.set a (.lst (l++m))
noncomputable def bf9:DR:=fun xs g d g'=>∃a kvs,xs=[.ref a]/\g[a]?=some (.dic kvs)/\d=.ref g.length/\g'=g++[.dic kvs]
noncomputable def PR:Pr->DR
 |.clear=>bg3
 |.any=>anyR
 |.sortd=>a71
 |.extend=>a28
 |.pop0=>bk8
 |.dcopy=>bf9
 |.bin op=>bw5 op
 |.un op=>unR op
 |.cmp op=>bw0 op
 |.ix=>ixR
 |.slc a b=>bs1 a b
 |.rev=>bs4
 |.tup=>bq4
 |.lst=>bu6
 |.X0=>bo1
 |.len=>bu8
 |.list=>bm5
 |.tuple=>a47
 |.isin=>bn2
 |.all=>allR
 |.max=>bu5
 |.min=>bu4
 |.int=>bv1
 |.str=>bs0
 |.lrng1=>bd5
 |.lrng2=>bd4
 |.sset=>bj6
 |.sun=>br9
 |.gin=>aR0 false
 |.gnin=>aR0 true
 |.gget=>bn7
 |.fv=>fvR
 |.fstr=>bn9
 |.fld f=>bv8 f
 |.append=>appendR
 |.pop=>bt5
 |.get=>bv4
 |.index=>be8
 |.join=>joinR
 |.iadd=>bn4
noncomputable def prP(p:Pr)(xs:List D)(g:G)(Q:KD):Prop:=∃d g',PR p xs g d g'/\Q d g'
noncomputable def eqP(g:G)(x y:D)(k:Bool->Prop):Prop:=∃b,eqR g x y b/\k b
noncomputable def inP(g:G)(x y:D)(k:Bool->Prop):Prop:=∃b,inR g x y b/\k b
noncomputable def O9(g:G)(x:D)(k:Bool->Prop):Prop:=∃b,a50 g x b/\k b
noncomputable def bs2(x y v:D)(g g':G):Prop:=(∃a i l j,x=.ref a/\y=.int i/\g[a]?=some (.lst l)/\ixN l.length i=some j/\g'=g.set a (.lst (l.set j v))) \/
 ∃a kvs c,x=.ref a/\g[a]?=some (.dic kvs)/\P6 y=some c/\kvs.length<100000/\g'=g.set a (.dic (putD kvs c v))
noncomputable def aa8(x y v:D)(g:G)(k:G->Prop):Prop:=∃g',bs2 x y v g g'/\k g'
noncomputable def aT7(f:Str)(cs:List Str)(x v:D)(g g':G):Prop:=∃a c fs,x=.ref a/\g[a]?=some (.ins c fs)/\c∈cs/\fs.length<100/\g'=g.set a (.ins c (I9 f v fs))
noncomputable def al9(f:Str)(cs:List Str)(x v:D)(g:G)(k:G->Prop):Prop:=∃g',aT7 f cs x v g g'/\k g'
noncomputable def mkP:Pr->D->G->Prop
 |.get,x,g=>∃a kvs,x=.ref a/\g[a]?=some (.dic kvs)
 |.join,x,g=>∃y,x=.str y
 |.index,x,g=>(∃l,x=.tup l)\/∃a l,x=.ref a/\d4 g a=some l
 |_,x,g=>∃a l,x=.ref a/\d4 g a=some l
inductive IK where
 |fix (l:List D)|lst (a:Nat)|enl (a:Nat)
noncomputable def IK.at:IK->Nat->G->Option (Option D)
 |.fix l,i,_=>some l[i]?
 |.lst a,i,g=>match d4 g a with
  |some l=>some l[i]?
  |none=>none
 |.enl a,i,g=>match d4 g a with
  |some l=>some (l[i]?.map fun d=>.tup [.int i,d])
  |none=>none
inductive MT where
 |one (i:Nat)|many (is:List Nat)
noncomputable def y4:List Nat->List D->S->Option S
 |[],[],σ=>some σ
 |i::is,d::ds,σ=>y4 is ds (σ.set i (some d))
 |_,_,_=>none
noncomputable def tgP(t:MT)(x:D)(σ:S)(k:S->Prop):Prop:=match t with
 |.one i=>k (σ.set i (some x))
 |.many is=>∃l σ',x=.tup l/\y4 is l σ=some σ'/\k σ'
set_option genInjectivity false in
set_option genSizeOf false in
inductive ME where
 |var (i:Nat)|lit (d:D)
 |nil|cons (a b:ME)|prim (p:Pr) (es:ME)|meth (p:Pr) (o es:ME)|dct (es:ME)
 |chain (o1 o2:CmpOp) (a b c:ME)
 |and_ (a b:ME)|or_ (a b:ME)|not_ (a:ME)|ite (c a b:ME)
 |call (f:Nat) (es:ME)|make (c:Str) (f:Nat) (es:ME)|methc (m:Str) (cs:List (Str×Nat)) (o es:ME)
 |comp (d0:List Nat) (n:Nat) (tg:MT) (it cond elt:ME)|scomp (d0:List Nat) (n:Nat) (tg:MT) (it cond elt:ME)|rcomp (d0:List Nat) (n:Nat) (tg:MT) (it cond elt:ME)
 |itE (e:ME)|itR1 (a:ME)|itR2 (a b:ME)|itN (e:ME)|tst (e:ME)|no
noncomputable abbrev Sig:=Nat->List D->G->KD->KX->Prop
noncomputable def J8(σ:S)(d0:List Nat)(n:Nat):S:=d0.map (fun j=>(σ[j]?).join)++List.replicate (n-d0.length) none
noncomputable def turns(k:IK)(σ:S)(g:G)(fin:S->G->Prop)(turn:D->(S->G->Prop)->S->G->Prop):Prop :=
 ∃W:Nat->Nat->S->G->Prop,(∃m,W 0 m σ g)/\∀i m σ g,W i m σ g->(k.at i g=some none/\fin σ g)\/∃x,k.at i g=some (some x)/\∃N2:S->G->Prop,(∀σ' g',N2 σ' g'->∃m',m'<m/\W (i+1) m' σ' g')/\turn x N2 σ g
noncomputable def ac4(k:IK)(σ:S)(g:G)(fin:List D->G->Prop)(turn:D->(Option D->S->G->Prop)->S->G->Prop):Prop :=
 ∃W:Nat->Nat->List D->S->G->Prop,(∃m,W 0 m [] σ g)/\∀i m ys σ g,W i m ys σ g->(k.at i g=some none/\fin ys g) \/
  ∃x,k.at i g=some (some x)/\ys.length<100000/\turn x (fun y σ' g'=>∃m',m'<m/\W (i+1) m' (ys++y.toList) σ' g') σ g
noncomputable def an8(k:IK)(σ:S)(g:G)(fin:List Int->G->Prop)(turn:D->(Option Int->S->G->Prop)->S->G->Prop):Prop :=
 ∃W:Nat->Nat->List Int->S->G->Prop,(∃m,W 0 m [] σ g)/\∀i m ys σ g,W i m ys σ g->(k.at i g=some none/\ys.length<60/\fin ys g) \/
  ∃x,k.at i g=some (some x)/\ys.length<60/\turn x (fun y σ' g'=>∃m',m'<m/\W (i+1) m' (ys++y.toList) σ' g') σ g
mutual
noncomputable def wpE(P:Sig):ME->S->G->KD->KX->Prop
 |.var i,σ,g,Q,_=>∃d,σ[i]?=some (some d)/\Q d g
 |.lit d,_,g,Q,_=>Q d g
 |.prim p es,σ,g,Q,E=>wpA P es σ g (fun xs g1=>prP p xs g1 Q) E
 |.meth p o es,σ,g,Q,E=>wpE P o σ g (fun x g1=>mkP p x g1/\wpA P es σ g1 (fun xs g2=>prP p (x::xs) g2 Q) E) E
 |.dct es,σ,g,Q,E=>wpA P es σ (g++[.dic []]) (fun xs g1=>∃kvs,ah0 xs []=some kvs/\xs.length<=30/\g1[g.length]?=some (.dic [])/\Q (.ref g.length) (g1.set g.length (.dic kvs))) E
 |.chain o1 o2 a b c,σ,g,Q,E=>wpE P a σ g (fun x g1=>wpE P b σ g1 (fun y g2=>prP (.cmp o1) [x,y] g2 fun z g3=>∃t,z=.bl t/\if t=true then wpE P c σ g3 (fun w g4=>prP (.cmp o2) [y,w] g4 Q) E else Q (.bl false) g3) E) E
 |.and_ a b,σ,g,Q,E=>wpE P a σ g (fun x g1=>∃t,x=.bl t/\if t=true then wpE P b σ g1 Q E else Q (.bl false) g1) E
 |.or_ a b,σ,g,Q,E=>wpE P a σ g (fun x g1=>∃t,x=.bl t/\if t=true then Q (.bl true) g1 else wpE P b σ g1 Q E) E
 |.not_ a,σ,g,Q,E=>wpE P a σ g (fun x g1=>∃t,x=.bl t/\Q (.bl (!t)) g1) E
 |.ite c a b,σ,g,Q,E=>wpT P c σ g (fun t g1=>if t=true then wpE P a σ g1 Q E else wpE P b σ g1 Q E) E
 |.call f es,σ,g,Q,E=>wpA P es σ g (fun xs g1=>P f xs g1 Q E) E
 |.make c f es,σ,g,Q,E=>wpA P es σ g (fun xs g1=>P f (.ref g1.length::xs) (g1++[.ins c []]) (fun d g2=>d=.non/\Q (.ref g1.length) g2) E) E
 |.methc m cs o es,σ,g,Q,E=>wpE P o σ g (fun x g1=>∃a c fs f,x=.ref a/\g1[a]?=some (.ins c fs)/\fs.lookup m=none/\cs.lookup c=some f/\wpA P es σ g1 (fun xs g2=>P f (x::xs) g2 Q E) E) E
 |.comp d0 n tg it cond elt,σ,g,Q,E=>wpI P it σ g (fun k g1=>ac4 k (J8 σ d0 n) g1 (fun ys g=>Q (.ref g.length) (g++[.lst ys])) fun x N σ g=>tgP tg x σ fun σ2=>wpT P cond σ2 g (fun b g3=>if b=true then wpE P elt σ2 g3 (fun y g4=>N (some y) σ2 g4) NoX else N none σ2 g3) NoX) E
 |.rcomp d0 n tg it cond elt,σ,g,Q,E=>wpI P it σ g (fun k g1=>ac4 k (J8 σ d0 n) g1 (fun ys g=>Q (.ref g.length) (g++[.lst ys])) fun x N σ g=>tgP tg x σ fun σ2=>wpT P cond σ2 g (fun b g3=>if b=true then wpE P elt σ2 g3 (fun y g4=>N (some y) σ2 g4) E else N none σ2 g3) NoX) E
 |.scomp d0 n tg it cond elt,σ,g,Q,E=>wpI P it σ g (fun k g1=>an8 k (J8 σ d0 n) g1 (fun ys g=>Q (.ref g.length) (g++[.lst ((A1 ys).map .int)])) fun x N σ g=>tgP tg x σ fun σ2=>wpT P cond σ2 g (fun b g3=>if b=true then wpE P elt σ2 g3 (fun y g4=>∃j,y=.int j/\N (some j) σ2 g4) NoX else N none σ2 g3) NoX) E
 |_,_,_,_,_=>False
noncomputable def wpA(P:Sig):ME->S->G->(List D->G->Prop)->KX->Prop
 |.nil,_,g,Q,_=>Q [] g
 |.cons a b,σ,g,Q,E=>wpE P a σ g (fun x g1=>wpA P b σ g1 (fun xs g2=>Q (x::xs) g2) E) E
 |_,_,_,_,_=>False
noncomputable def wpT(P:Sig):ME->S->G->(Bool->G->Prop)->KX->Prop
 |.and_ a b,σ,g,Q,E=>wpT P a σ g (fun t g1=>if t=true then wpT P b σ g1 Q E else Q false g1) E
 |.or_ a b,σ,g,Q,E=>wpT P a σ g (fun t g1=>if t=true then Q true g1 else wpT P b σ g1 Q E) E
 |.not_ a,σ,g,Q,E=>wpT P a σ g (fun t g1=>Q (!t) g1) E
 |.no,_,g,Q,_=>Q true g
 |.tst e,σ,g,Q,E=>wpE P e σ g (fun x g1=>O9 g1 x fun b=>Q b g1) E
 |_,_,_,_,_=>False
noncomputable def wpI(P:Sig):ME->S->G->(IK->G->Prop)->KX->Prop
 |.itE e,σ,g,R,E=>wpE P e σ g (fun x g1=>(∃l,x=.tup l/\R (.fix l) g1)\/∃a l,x=.ref a/\d4 g1 a=some l/\R (.lst a) g1) E
 |.itR1 a,σ,g,R,E=>wpE P a σ g (fun x g1=>∃j:Int,x=.int j/\-(2 ^ 62)<=j/\j<2 ^ 62/\R (.fix (i0 0 j.toNat)) g1) E
 |.itR2 a b,σ,g,R,E=>wpE P a σ g (fun x g1=>wpE P b σ g1 (fun y g2=>∃i j:Int,x=.int i/\y=.int j/\(-(2 ^ 62)<=i/\i<2 ^ 62/\-(2 ^ 62)<=j/\j<2 ^ 62)/\R (.fix (i0 i (j-i).toNat)) g2) E) E
 |.itN e,σ,g,R,E=>wpE P e σ g (fun x g1=>∃a l,x=.ref a/\d4 g1 a=some l/\R (.enl a) g1) E
 |_,_,_,_,_=>False
end
set_option genInjectivity false in
set_option genSizeOf false in
inductive MS where
 |pass|seq (a b:MS)|expr (e:ME)|set (i:Nat) (e:ME)|unp (t:MT) (e:ME)|setix (o i v:ME)|setf (f:Str) (cs:List Str) (o v:ME)
 |augf (f:Str) (cs:List Str) (o v:ME)
 |ifs (c:ME) (a b:MS)|for_ (t:MT) (it:ME) (b:MS)|whil (c:ME) (b:MS)|ret (e:ME)|retn|brk|cont
 |raise (x:Str) (es:ME)|R8 (b:MS) (hs:List (Str×ME))
structure Ends where
 nx:S->G->Prop
 rt:KD
 bk:S->G->Prop:=fun _ _=>False
 ct:S->G->Prop:=fun _ _=>False
noncomputable def wpH(P:Sig)(N:Ends)(σ:S)(E:KX):List (Str×ME)->KX
 |[],x,g=>E x g
 |(y,e)::r,x,g=>if x.cls=y\/y="MintError" then wpE P e σ g N.rt NoX else wpH P N σ E r x g
noncomputable def wpS(P:Sig):MS->Ends->S->G->KX->Prop
 |.pass,N,σ,g,_=>N.nx σ g
 |.seq a b,N,σ,g,E=>wpS P a { N with nx:=fun σ1 g1=>wpS P b N σ1 g1 E } σ g E
 |.expr e,N,σ,g,E=>wpE P e σ g (fun _ g1=>N.nx σ g1) E
 |.set i e,N,σ,g,E=>wpE P e σ g (fun x g1=>N.nx (σ.set i (some x)) g1) E
 |.unp t e,N,σ,g,E=>wpE P e σ g (fun x g1=>tgP t x σ fun σ1=>N.nx σ1 g1) E
 |.setix o i v,N,σ,g,E=>wpE P v σ g (fun x g1=>wpE P o σ g1 (fun y g2=>wpE P i σ g2 (fun z g3=>aa8 y z x g3 fun g4=>N.nx σ g4) E) E) E
 |.setf f cs o v,N,σ,g,E=>wpE P v σ g (fun x g1=>wpE P o σ g1 (fun y g2=>al9 f cs y x g2 fun g3=>N.nx σ g3) E) E
 |.augf f cs o v,N,σ,g,E=>wpE P o σ g (fun y g1=>∃a c fs x,y=.ref a/\g1[a]?=some (.ins c fs)/\c∈cs/\fs.lookup f=some x/\wpE P v σ g1 (fun z g3=>prP .iadd [x,z] g3 fun w g4=>∃fs',g4[a]?=some (.ins c fs')/\fs'.length<100/\N.nx σ (g4.set a (.ins c (I9 f w fs')))) E) E
 |.ifs c a b,N,σ,g,E=>wpT P c σ g (fun t g1=>if t=true then wpS P a N σ g1 E else wpS P b N σ g1 E) E
 |.for_ t it b,N,σ,g,E=>wpI P it σ g (fun k g1=>turns k σ g1 N.nx fun x N2 σ g=>tgP t x σ fun σ2=>wpS P b { N with nx:=N2,ct:=N2,bk:=N.nx } σ2 g E) E
 |.whil c b,N,σ,g,E=>∃W:Nat->S->G->Prop,(∃m,W m σ g)/\∀m σ g,W m σ g->wpT P c σ g (fun t g1=>if t=true then ∃N2:S->G->Prop,(∀σ' g',N2 σ' g'->∃m',m'<m/\W m' σ' g')/\wpS P b { N with nx:=N2,ct:=N2,bk:=N.nx } σ g1 E else N.nx σ g1) E
 |.ret e,N,σ,g,E=>wpE P e σ g N.rt E
 |.retn,N,_,g,_=>N.rt .non g
 |.brk,N,σ,g,_=>N.bk σ g
 |.cont,N,σ,g,_=>N.ct σ g
 |.raise x es,_,σ,g,E=>wpA P es σ g (fun vs g1=>vs.length<=1000/\E ⟨x⟩ g1) E
 |.R8 b hs,N,σ,g,E=>wpS P b N σ g (wpH P N (σ.map fun _=>none) E hs)
structure MDef where
 ar:Nat
 n:Nat
 body:MS
noncomputable def d5(m:MDef)(ds:List D):S:=ds.map some++List.replicate (m.n-ds.length) none
noncomputable def b8(T:Nat->Option MDef):Nat->Sig
 |0,_,_,_,_,_=>False
 |k+1,f,ds,g,Q,E=>∃m,T f=some m/\ds.length=m.ar/\wpS (b8 T k) m.body ⟨fun _ g'=>Q .non g',Q,fun _ _=>False,fun _ _=>False⟩ (d5 m ds) g E
end M

namespace M
open PySem L2
theorem p6{p xs}{g:G}{Q Q':KD}(h:∀d g,Q d g->Q' d g)(q:prP p xs g Q):prP p xs g Q':=by
 obtain⟨d,g',a,b⟩:=q;exact⟨d,g',a,h _ _ b⟩
theorem aD6{x}{g:G}{k k':Bool->Prop}(h:∀b,k b->k' b)(q:O9 g x k):O9 g x k':=by
 obtain⟨b,a,z⟩:=q;exact⟨b,a,h _ z⟩
theorem ai7{x y v}{g:G}{k k':G->Prop}(h:∀g,k g->k' g)(q:aa8 x y v g k):aa8 x y v g k':=by
 obtain⟨b,a,z⟩:=q;exact⟨b,a,h _ z⟩
theorem ay7{f cs x v}{g:G}{k k':G->Prop}(h:∀g,k g->k' g)(q:al9 f cs x v g k):al9 f cs x v g k':=by
 obtain⟨b,a,z⟩:=q;exact⟨b,a,h _ z⟩
theorem A5{t x σ}{k k':S->Prop}(h:∀σ,k σ->k' σ)(q:tgP t x σ k):tgP t x σ k':=by
 cases t with
 |one i=>exact h _ q
 |many is=>obtain⟨l,σ',a,b,c⟩:=q;exact⟨l,σ',a,b,h _ c⟩
theorem ay2{k σ g}{fin fin':S->G->Prop}{turn turn':D->(S->G->Prop)->S->G->Prop}(h:∀σ g,fin σ g->fin' σ g)(h2:∀x N σ g,turn x N σ g->turn' x N σ g)(q:turns k σ g fin turn):turns k σ g fin' turn':=by
 obtain⟨W,w0,q⟩:=q;refine⟨W,w0,fun i m σ g w=>?_⟩;rcases q i m σ g w with⟨a,b⟩|⟨x,a,N2,b,c⟩
 ·exact .inl ⟨a,h _ _ b⟩
 ·exact .inr ⟨x,a,N2,b,h2 _ _ _ _ c⟩
theorem Z5{k σ g}{fin fin':List D->G->Prop}{turn turn':D->(Option D->S->G->Prop)->S->G->Prop}(h:∀ys g,fin ys g->fin' ys g)(h2:∀x N σ g,turn x N σ g->turn' x N σ g)(q:ac4 k σ g fin turn):ac4 k σ g fin' turn':=by
 obtain⟨W,w0,q⟩:=q;refine⟨W,w0,fun i m ys σ g w=>?_⟩;rcases q i m ys σ g w with⟨a,b⟩|⟨x,a,b,c⟩
 ·exact .inl ⟨a,h _ _ b⟩
 ·exact .inr ⟨x,a,b,h2 _ _ _ _ c⟩
theorem at4{k σ g}{fin fin':List Int->G->Prop}{turn turn':D->(Option Int->S->G->Prop)->S->G->Prop}(h:∀ys g,fin ys g->fin' ys g)(h2:∀x N σ g,turn x N σ g->turn' x N σ g)(q:an8 k σ g fin turn):an8 k σ g fin' turn':=by
 obtain⟨W,w0,q⟩:=q;refine⟨W,w0,fun i m ys σ g w=>?_⟩;rcases q i m ys σ g w with⟨a,b,c⟩|⟨x,a,b,c⟩
 ·exact .inl ⟨a,b,h _ _ c⟩
 ·exact .inr ⟨x,a,b,h2 _ _ _ _ c⟩
theorem A6{t:Bool}{A B A' B':Prop}(h1:A->A')(h2:B->B')(q:if t=true then A else B):if t=true then A' else B':=by
 cases t
 ·exact h2 q
 ·exact h1 q
noncomputable def i6(P:Sig):Prop:=∀f xs g Q Q' E E',(∀d g,Q d g->Q' d g)->(∀x g,E x g->E' x g)->P f xs g Q E->P f xs g Q' E'
mutual
theorem b7{P:Sig}(hP:i6 P):∀(e:ME) (σ:S) (g:G) (Q Q':KD) (E E':KX),(∀d g,Q d g->Q' d g)->(∀x g,E x g->E' x g)->wpE P e σ g Q E->wpE P e σ g Q' E'
 |.var i,σ,g,Q,Q',E,E',h,hx,q=>by
  rw[wpE] at q ⊢;obtain⟨d,a,b⟩:=q;exact⟨d,a,h _ _ b⟩
 |.lit d,σ,g,Q,Q',E,E',h,hx,q=>by rw[wpE] at q ⊢;exact h _ _ q
 |.prim p es,σ,g,Q,Q',E,E',h,hx,q=>by
  rw[wpE] at q ⊢;exact r9 hP es _ _ _ _ _ _ (fun xs g1 q=>p6 h q) hx q
 |.meth p o es,σ,g,Q,Q',E,E',h,hx,q=>by
  rw[wpE] at q ⊢;exact b7 hP o _ _ _ _ _ _ (fun x g1 q=>⟨q.1,r9 hP es _ _ _ _ _ _ (fun xs g2 q=>p6 h q) hx q.2⟩) hx q
 |.dct es,σ,g,Q,Q',E,E',h,hx,q=>by
  rw[wpE] at q ⊢;exact r9 hP es _ _ _ _ _ _ (fun xs g1 ⟨kvs,a,b,c,d⟩=>⟨kvs,a,b,c,h _ _ d⟩) hx q
 |.chain o1 o2 a b c,σ,g,Q,Q',E,E',h,hx,q=>by
  rw[wpE] at q ⊢;refine b7 hP a _ _ _ _ _ _ (fun x g1 q=>b7 hP b _ _ _ _ _ _ (fun y g2 q=>p6 (fun z g3 q=>?_) q) hx q) hx q;obtain⟨t,e,q⟩:=q;exact⟨t,e,A6 (fun q=>b7 hP c _ _ _ _ _ _ (fun w g4 q=>p6 h q) hx q) (h _ _) q⟩
 |.and_ a b,σ,g,Q,Q',E,E',h,hx,q=>by
  rw[wpE] at q ⊢;refine b7 hP a _ _ _ _ _ _ (fun x g1 q=>?_) hx q;obtain⟨t,e,q⟩:=q;exact⟨t,e,A6 (fun q=>b7 hP b _ _ _ _ _ _ h hx q) (h _ _) q⟩
 |.or_ a b,σ,g,Q,Q',E,E',h,hx,q=>by
  rw[wpE] at q ⊢;refine b7 hP a _ _ _ _ _ _ (fun x g1 q=>?_) hx q;obtain⟨t,e,q⟩:=q;exact⟨t,e,A6 (h _ _) (fun q=>b7 hP b _ _ _ _ _ _ h hx q) q⟩
 |.not_ a,σ,g,Q,Q',E,E',h,hx,q=>by
  rw[wpE] at q ⊢;refine b7 hP a _ _ _ _ _ _ (fun x g1 q=>?_) hx q;obtain⟨t,e,q⟩:=q;exact⟨t,e,h _ _ q⟩
 |.ite c a b,σ,g,Q,Q',E,E',h,hx,q=>by
  rw[wpE] at q ⊢;exact n8 hP c _ _ _ _ _ _ (fun t g1 q=>A6 (fun q=>b7 hP a _ _ _ _ _ _ h hx q) (fun q=>b7 hP b _ _ _ _ _ _ h hx q) q) hx q
 |.call f es,σ,g,Q,Q',E,E',h,hx,q=>by
  rw[wpE] at q ⊢;exact r9 hP es _ _ _ _ _ _ (fun xs g1 q=>hP _ _ _ _ _ _ _ h hx q) hx q
 |.make c f es,σ,g,Q,Q',E,E',h,hx,q=>by
  rw[wpE] at q ⊢;exact r9 hP es _ _ _ _ _ _ (fun xs g1 q=>hP _ _ _ _ _ _ _ (fun d g2 q=>⟨q.1,h _ _ q.2⟩) hx q) hx q
 |.methc m cs o es,σ,g,Q,Q',E,E',h,hx,q=>by
  rw[wpE] at q ⊢;refine b7 hP o _ _ _ _ _ _ (fun x g1 q=>?_) hx q;obtain⟨a,c,fs,f,q1,q2,q3,q4,q⟩:=q;exact⟨a,c,fs,f,q1,q2,q3,q4,r9 hP es _ _ _ _ _ _ (fun xs g2 q=>hP _ _ _ _ _ _ _ h hx q) hx q⟩
 |.comp d0 n tg it cond elt,σ,g,Q,Q',E,E',h,hx,q=>by
  rw[wpE] at q ⊢;exact v7 hP it _ _ _ _ _ _ (fun k g1 q=>Z5 (fun ys g q=>h _ _ q) (fun _ _ _ _ q=>q) q) hx q
 |.rcomp d0 n tg it cond elt,σ,g,Q,Q',E,E',h,hx,q=>by
  rw[wpE] at q ⊢;exact v7 hP it _ _ _ _ _ _ (fun k g1 q=>Z5 (fun ys g q=>h _ _ q) (fun x N σ g q=>A5 (fun σ2 q=>n8 hP cond _ _ _ _ _ _ (fun b g3 q=>by
   cases b
   ·exact q
   ·exact b7 hP elt _ _ _ _ _ _ (fun _ _ z=>z) hx q) (fun _ _ z=>z) q) q) q) hx q
 |.scomp d0 n tg it cond elt,σ,g,Q,Q',E,E',h,hx,q=>by
  rw[wpE] at q ⊢;exact v7 hP it _ _ _ _ _ _ (fun k g1 q=>at4 (fun ys g q=>h _ _ q) (fun _ _ _ _ q=>q) q) hx q
 |.nil,σ,g,Q,Q',E,E',h,hx,q=>(show False from q).elim
 |.cons _ _,σ,g,Q,Q',E,E',h,hx,q=>(show False from q).elim
 |.itE _,σ,g,Q,Q',E,E',h,hx,q=>(show False from q).elim
 |.itR1 _,σ,g,Q,Q',E,E',h,hx,q=>(show False from q).elim
 |.itR2 _ _,σ,g,Q,Q',E,E',h,hx,q=>(show False from q).elim
 |.itN _,σ,g,Q,Q',E,E',h,hx,q=>(show False from q).elim
 |.tst _,σ,g,Q,Q',E,E',h,hx,q=>(show False from q).elim
 |.no,σ,g,Q,Q',E,E',h,hx,q=>(show False from q).elim
theorem r9{P:Sig}(hP:i6 P):∀(e:ME) (σ:S) (g:G) (Q Q':List D->G->Prop) (E E':KX),(∀d g,Q d g->Q' d g)->(∀x g,E x g->E' x g)->wpA P e σ g Q E->wpA P e σ g Q' E'
 |.nil,σ,g,Q,Q',E,E',h,hx,q=>by rw[wpA] at q ⊢;exact h _ _ q
 |.cons a b,σ,g,Q,Q',E,E',h,hx,q=>by
  rw[wpA] at q ⊢;exact b7 hP a _ _ _ _ _ _ (fun x g1 q=>r9 hP b _ _ _ _ _ _ (fun xs g2 q=>h _ _ q) hx q) hx q
 |.var _,σ,g,Q,Q',E,E',h,hx,q|.lit _,σ,g,Q,Q',E,E',h,hx,q|.prim _ _,σ,g,Q,Q',E,E',h,hx,q|.meth _ _ _,σ,g,Q,Q',E,E',h,hx,q|.dct _,σ,g,Q,Q',E,E',h,hx,q|.chain _ _ _ _ _,σ,g,Q,Q',E,E',h,hx,q|.and_ _ _,σ,g,Q,Q',E,E',h,hx,q|.or_ _ _,σ,g,Q,Q',E,E',h,hx,q|.not_ _,σ,g,Q,Q',E,E',h,hx,q|.ite _ _ _,σ,g,Q,Q',E,E',h,hx,q|.call _ _,σ,g,Q,Q',E,E',h,hx,q
 |.make _ _ _,σ,g,Q,Q',E,E',h,hx,q|.methc _ _ _ _,σ,g,Q,Q',E,E',h,hx,q|.comp _ _ _ _ _ _,σ,g,Q,Q',E,E',h,hx,q|.scomp _ _ _ _ _ _,σ,g,Q,Q',E,E',h,hx,q|.rcomp _ _ _ _ _ _,σ,g,Q,Q',E,E',h,hx,q|.itE _,σ,g,Q,Q',E,E',h,hx,q|.itR1 _,σ,g,Q,Q',E,E',h,hx,q|.itR2 _ _,σ,g,Q,Q',E,E',h,hx,q|.itN _,σ,g,Q,Q',E,E',h,hx,q|.tst _,σ,g,Q,Q',E,E',h,hx,q|.no,σ,g,Q,Q',E,E',h,hx,q=>(show False from q).elim
theorem n8{P:Sig}(hP:i6 P):∀(e:ME) (σ:S) (g:G) (Q Q':Bool->G->Prop) (E E':KX),(∀d g,Q d g->Q' d g)->(∀x g,E x g->E' x g)->wpT P e σ g Q E->wpT P e σ g Q' E'
 |.and_ a b,σ,g,Q,Q',E,E',h,hx,q=>by
  rw[wpT] at q ⊢;exact n8 hP a _ _ _ _ _ _ (fun t g1 q=>A6 (fun q=>n8 hP b _ _ _ _ _ _ h hx q) (h _ _) q) hx q
 |.or_ a b,σ,g,Q,Q',E,E',h,hx,q=>by
  rw[wpT] at q ⊢;exact n8 hP a _ _ _ _ _ _ (fun t g1 q=>A6 (h _ _) (fun q=>n8 hP b _ _ _ _ _ _ h hx q) q) hx q
 |.not_ a,σ,g,Q,Q',E,E',h,hx,q=>by rw[wpT] at q ⊢;exact n8 hP a _ _ _ _ _ _ (fun t g1 q=>h _ _ q) hx q
 |.no,σ,g,Q,Q',E,E',h,hx,q=>by rw[wpT] at q ⊢;exact h _ _ q
 |.tst e,σ,g,Q,Q',E,E',h,hx,q=>by rw[wpT] at q ⊢;exact b7 hP e _ _ _ _ _ _ (fun x g1 q=>aD6 (fun b q=>h _ _ q) q) hx q
 |.var _,σ,g,Q,Q',E,E',h,hx,q|.lit _,σ,g,Q,Q',E,E',h,hx,q|.prim _ _,σ,g,Q,Q',E,E',h,hx,q|.meth _ _ _,σ,g,Q,Q',E,E',h,hx,q|.dct _,σ,g,Q,Q',E,E',h,hx,q|.chain _ _ _ _ _,σ,g,Q,Q',E,E',h,hx,q|.ite _ _ _,σ,g,Q,Q',E,E',h,hx,q|.call _ _,σ,g,Q,Q',E,E',h,hx,q|.nil,σ,g,Q,Q',E,E',h,hx,q|.cons _ _,σ,g,Q,Q',E,E',h,hx,q
 |.make _ _ _,σ,g,Q,Q',E,E',h,hx,q|.methc _ _ _ _,σ,g,Q,Q',E,E',h,hx,q|.comp _ _ _ _ _ _,σ,g,Q,Q',E,E',h,hx,q|.scomp _ _ _ _ _ _,σ,g,Q,Q',E,E',h,hx,q|.rcomp _ _ _ _ _ _,σ,g,Q,Q',E,E',h,hx,q|.itE _,σ,g,Q,Q',E,E',h,hx,q|.itR1 _,σ,g,Q,Q',E,E',h,hx,q|.itR2 _ _,σ,g,Q,Q',E,E',h,hx,q|.itN _,σ,g,Q,Q',E,E',h,hx,q=>(show False from q).elim
theorem v7{P:Sig}(hP:i6 P):∀(e:ME) (σ:S) (g:G) (Q Q':IK->G->Prop) (E E':KX),(∀d g,Q d g->Q' d g)->(∀x g,E x g->E' x g)->wpI P e σ g Q E->wpI P e σ g Q' E'
 |.itE e,σ,g,Q,Q',E,E',h,hx,q=>by
  rw[wpI] at q ⊢;exact b7 hP e _ _ _ _ _ _ (fun x g1 q=>q.imp (fun⟨l,a,b⟩=>⟨l,a,h _ _ b⟩) fun⟨i,l,a,b,c⟩=>⟨i,l,a,b,h _ _ c⟩) hx q
 |.itR1 a,σ,g,Q,Q',E,E',h,hx,q=>by
  rw[wpI] at q ⊢;exact b7 hP a _ _ _ _ _ _ (fun x g1 ⟨j,a,b,c,d⟩=>⟨j,a,b,c,h _ _ d⟩) hx q
 |.itR2 a b,σ,g,Q,Q',E,E',h,hx,q=>by
  rw[wpI] at q ⊢;exact b7 hP a _ _ _ _ _ _ (fun x g1 q=>b7 hP b _ _ _ _ _ _ (fun y g2 ⟨i,j,a,b,c,d⟩=>⟨i,j,a,b,c,h _ _ d⟩) hx q) hx q
 |.itN e,σ,g,Q,Q',E,E',h,hx,q=>by
  rw[wpI] at q ⊢;exact b7 hP e _ _ _ _ _ _ (fun x g1 ⟨i,l,a,b,c⟩=>⟨i,l,a,b,h _ _ c⟩) hx q
 |.var _,σ,g,Q,Q',E,E',h,hx,q|.lit _,σ,g,Q,Q',E,E',h,hx,q|.prim _ _,σ,g,Q,Q',E,E',h,hx,q|.meth _ _ _,σ,g,Q,Q',E,E',h,hx,q|.dct _,σ,g,Q,Q',E,E',h,hx,q|.chain _ _ _ _ _,σ,g,Q,Q',E,E',h,hx,q|.ite _ _ _,σ,g,Q,Q',E,E',h,hx,q|.call _ _,σ,g,Q,Q',E,E',h,hx,q|.nil,σ,g,Q,Q',E,E',h,hx,q|.cons _ _,σ,g,Q,Q',E,E',h,hx,q
 |.and_ _ _,σ,g,Q,Q',E,E',h,hx,q|.or_ _ _,σ,g,Q,Q',E,E',h,hx,q|.not_ _,σ,g,Q,Q',E,E',h,hx,q|.tst _,σ,g,Q,Q',E,E',h,hx,q|.no,σ,g,Q,Q',E,E',h,hx,q
 |.make _ _ _,σ,g,Q,Q',E,E',h,hx,q|.methc _ _ _ _,σ,g,Q,Q',E,E',h,hx,q|.comp _ _ _ _ _ _,σ,g,Q,Q',E,E',h,hx,q|.scomp _ _ _ _ _ _,σ,g,Q,Q',E,E',h,hx,q|.rcomp _ _ _ _ _ _,σ,g,Q,Q',E,E',h,hx,q=>(show False from q).elim
end
structure Ends.le(N N':Ends):Prop where
 nx:∀σ g,N.nx σ g->N'.nx σ g
 rt:∀d g,N.rt d g->N'.rt d g
 bk:∀σ g,N.bk σ g->N'.bk σ g
 ct:∀σ g,N.ct σ g->N'.ct σ g
theorem an3{P:Sig}(hP:i6 P){N N':Ends}{E E':KX}(h:N.le N')(hx:∀x g,E x g->E' x g){σ:S}:∀(hs:List (Str×ME)) x g,wpH P N σ E hs x g->wpH P N' σ E' hs x g
 |[],x,g,q=>hx x g q
 |(y,e)::r,x,g,q=>by
  unfold wpH at q ⊢;split
  ·rename_i hh;rw[if_pos hh] at q;exact b7 hP e _ _ _ _ _ _ h.rt (fun _ _ z=>z) q
  ·rename_i hh;rw[if_neg hh] at q;exact an3 hP h hx r x g q
theorem wpS_mono{P:Sig}(hP:i6 P):∀(s:MS) (N N':Ends) (σ:S) (g:G) (E E':KX),N.le N'->(∀x g,E x g->E' x g)->wpS P s N σ g E->wpS P s N' σ g E'
 |.pass,N,N',σ,g,E,E',h,hx,q=>h.nx _ _ q
 |.seq a b,N,N',σ,g,E,E',h,hx,q=>wpS_mono hP a { N with nx:=fun σ1 g1=>wpS P b N σ1 g1 E } { N' with nx:=fun σ1 g1=>wpS P b N' σ1 g1 E' } _ _ _ _ ⟨fun σ1 g1 q=>wpS_mono hP b _ _ _ _ _ _ h hx q,h.rt,h.bk,h.ct⟩ hx q
 |.expr e,N,N',σ,g,E,E',h,hx,q=>b7 hP e _ _ _ _ _ _ (fun x g1 q=>h.nx _ _ q) hx q
 |.set i e,N,N',σ,g,E,E',h,hx,q=>b7 hP e _ _ _ _ _ _ (fun x g1 q=>h.nx _ _ q) hx q
 |.unp t e,N,N',σ,g,E,E',h,hx,q=>b7 hP e _ _ _ _ _ _ (fun x g1 q=>A5 (fun σ q=>h.nx _ _ q) q) hx q
 |.setix o i v,N,N',σ,g,E,E',h,hx,q=>b7 hP v _ _ _ _ _ _ (fun x g1 q=>b7 hP o _ _ _ _ _ _ (fun y g2 q=>b7 hP i _ _ _ _ _ _ (fun z g3 q=>ai7 (fun g q=>h.nx _ _ q) q) hx q) hx q) hx q
 |.setf f cs o v,N,N',σ,g,E,E',h,hx,q=>b7 hP v _ _ _ _ _ _ (fun x g1 q=>b7 hP o _ _ _ _ _ _ (fun y g2 q=>ay7 (fun g q=>h.nx _ _ q) q) hx q) hx q
 | .augf f cs o v,N,N',σ,g,E,E',h,hx,q=>b7 hP o _ _ _ _ _ _ (fun y g1 q=>by
   obtain⟨a,c,fs,x,q1,q2,q3,q4,q⟩:=q;exact ⟨a,c,fs,x,q1,q2,q3,q4,b7 hP v _ _ _ _ _ _ (fun z g3 q=>p6 (fun w g4 q=>by
    obtain⟨fs',k1,k2,k3⟩:=q;exact ⟨fs',k1,k2,h.nx _ _ k3⟩) q) hx q⟩) hx q
 |.ifs c a b,N,N',σ,g,E,E',h,hx,q=>n8 hP c _ _ _ _ _ _ (fun t g1 q=>A6 (fun q=>wpS_mono hP a _ _ _ _ _ _ h hx q) (fun q=>wpS_mono hP b _ _ _ _ _ _ h hx q) q) hx q
 |.for_ t it b,N,N',σ,g,E,E',h,hx,q=>v7 hP it _ _ _ _ _ _ (fun k g1 q=>ay2 h.nx (fun x N2 σ g q=>A5 (fun σ2 q=>wpS_mono hP b { N with nx:=N2,ct:=N2,bk:=N.nx } { N' with nx:=N2,ct:=N2,bk:=N'.nx } _ _ _ _ ⟨fun _ _ z=>z,h.rt,h.nx,fun _ _ z=>z⟩ hx q) q) q) hx q
 |.whil c b,N,N',σ,g,E,E',h,hx,q=>by
  obtain⟨W,w0,q⟩:=q;refine⟨W,w0,fun m σ g w=>n8 hP c _ _ _ _ _ _ (fun t g1 q=>A6 (fun q=>?_) (h.nx _ _) q) hx (q m σ g w)⟩;obtain⟨N2,a,q⟩:=q;exact⟨N2,a,wpS_mono hP b { N with nx:=N2,ct:=N2,bk:=N.nx } { N' with nx:=N2,ct:=N2,bk:=N'.nx } _ _ _ _ ⟨fun _ _ z=>z,h.rt,h.nx,fun _ _ z=>z⟩ hx q⟩
 |.ret e,N,N',σ,g,E,E',h,hx,q=>b7 hP e _ _ _ _ _ _ h.rt hx q
 |.retn,N,N',σ,g,E,E',h,hx,q=>h.rt _ _ q
 |.brk,N,N',σ,g,E,E',h,hx,q=>h.bk _ _ q
 |.cont,N,N',σ,g,E,E',h,hx,q=>h.ct _ _ q
 |.raise x es,N,N',σ,g,E,E',h,hx,q=>r9 hP es _ _ _ _ _ _ (fun vs g1 q=>⟨q.1,hx _ _ q.2⟩) hx q
 |.R8 b hs,N,N',σ,g,E,E',h,hx,q=>wpS_mono hP b _ _ _ _ _ _ h (fun x g q=>an3 hP h hx hs x g q) q
theorem b0(T:Nat->Option MDef):∀k,i6 (b8 T k)
 |0=>fun f xs g Q Q' E E' h hx q=>q.elim
 |k+1=>fun f xs g Q Q' E E' h hx q=>by
  obtain⟨m,a,b,q⟩:=q;exact⟨m,a,b,wpS_mono (b0 T k) m.body ⟨fun _ g'=>Q .non g',Q,fun _ _=>False,fun _ _=>False⟩ _ _ _ _ _ ⟨fun _ _ z=>h _ _ z,h,fun _ _ z=>z,fun _ _ z=>z⟩ hx q⟩
end M

namespace M
open PySem L2
noncomputable def TupAt(K:PySem.W.Frag)(H:Hp)(a:Addr)(vs:List V):Prop :=
 H a=some (.tup vs)\/∃(o:Obj) (its:Array Value) (n:Nat),K.lookup a=some o/\o.cls=.type "tuple"/\o.dict=none/\o.data=.seq its n/\its.size<=sizeLine/\Vals vs its.toList
theorem TupAt.d{K:PySem.W.Frag}{H:Hp}{a:Addr}{vs:List V}(h:TupAt K H a vs):at1 K H a vs:=h
theorem TupAt.sq{K:PySem.W.Frag}{H:Hp}{a:Addr}{vs:List V}(h:TupAt K H a vs):SqT K H a vs:=h.d.sq
mutual
inductive c8(K:PySem.W.Frag)(ρ:List Addr)(H:Hp):D->V->Prop
 |non:c8 K ρ H .non .non
 |bl (b:Bool):c8 K ρ H (.bl b) (.bl b)
 |int (i:Int):c8 K ρ H (.int i) (.int i)
 |str (x:Str):c8 K ρ H (.str x) (.str x)
 |ty (n:String):c8 K ρ H (.ty n) (.ty n)
 |ref {i:Nat} {a:Addr} (h:ρ[i]?=some a):c8 K ρ H (.ref i) (.ref a)
 |tup {l:List D} {a:Addr} {vs:List V} (h:TupAt K H a vs) (r:a9 K ρ H l vs):c8 K ρ H (.tup l) (.ref a)
inductive a9(K:PySem.W.Frag)(ρ:List Addr)(H:Hp):List D->List V->Prop
 |nil:a9 K ρ H [] []
 |cons {d:D} {v:V} {ds:List D} {vs:List V} (h:c8 K ρ H d v) (r:a9 K ρ H ds vs):a9 K ρ H (d::ds) (v::vs)
end
structure Ext(ρ:List Addr)(H:Hp)(ρ':List Addr)(H':Hp):Prop where
 pre:∃more,ρ'=ρ++more
 tup:∀a xs,H a=some (.tup xs)->H' a=some (.tup xs)
theorem Ext.refl(ρ:List Addr)(H:Hp):Ext ρ H ρ H:=⟨⟨[],by simp⟩,fun _ _ h=>h⟩
theorem Ext.trans{ρ H ρ1 H1 ρ2 H2}(a:Ext ρ H ρ1 H1)(b:Ext ρ1 H1 ρ2 H2):Ext ρ H ρ2 H2:=by
 obtain⟨⟨m,rfl⟩,t⟩:=a;obtain⟨⟨m',rfl⟩,t'⟩:=b;exact⟨⟨m++m',by simp⟩,fun x xs h=>t' _ _ (t _ _ h)⟩
theorem Ext.get{ρ H ρ' H'}(e:Ext ρ H ρ' H'){i:Nat}{a:Addr}(h:ρ[i]?=some a):ρ'[i]?=some a:=by
 obtain⟨⟨m,rfl⟩,_⟩:=e;rw[List.getElem?_append_left (List.getElem?_eq_some_iff.mp h).1];exact h
theorem TupAt.ext{K ρ H ρ' H'}(e:Ext ρ H ρ' H'){a:Addr}{vs:List V}(h:TupAt K H a vs):TupAt K H' a vs:=h.elim (fun z=>.inl (e.tup _ _ z)) .inr
mutual
theorem c8.ext{K ρ H ρ' H'}(e:Ext ρ H ρ' H'):∀{d v},c8 K ρ H d v->c8 K ρ' H' d v
 |_,_,.non=>.non
 |_,_,.bl b=>.bl b
 |_,_,.int i=>.int i
 |_,_,.str x=>.str x
 |_,_,.ty n=>.ty n
 |_,_,.ref h=>.ref (e.get h)
 |_,_,.tup h r=>.tup (h.ext e) (a9.ext e r)
theorem a9.ext{K ρ H ρ' H'}(e:Ext ρ H ρ' H'):∀{ds vs},a9 K ρ H ds vs->a9 K ρ' H' ds vs
 |_,_,.nil=>.nil
 |_,_,.cons h r=>.cons (c8.ext e h) (a9.ext e r)
end
theorem a9.length{K ρ H}:∀{ds vs},a9 K ρ H ds vs->ds.length=vs.length
 |_,_,.nil=>rfl
 |_,_,.cons _ r=>by simp[a9.length r]
theorem a9.get{K ρ H}:∀{ds vs} {i:Nat} {d:D},a9 K ρ H ds vs->ds[i]?=some d->∃v,vs[i]?=some v/\c8 K ρ H d v
 |_,_,_,_,.nil,h=>by simp at h
 |_,_,0,_,.cons h _,e=>by simp at e;subst e;exact⟨_,rfl,h⟩
 |_,_,i+1,d,.cons _ r,e=>by
  obtain⟨v,h1,h2⟩:=a9.get (i:=i) (d:=d) r (by simpa using e);exact⟨v,by simpa using h1,h2⟩
theorem a9.set{K ρ H}{d:D}{v:V}(h:c8 K ρ H d v):∀{ds vs} (i:Nat),a9 K ρ H ds vs->a9 K ρ H (ds.set i d) (vs.set i v)
 |_,_,_,.nil=>.nil
 |_,_,0,.cons _ r=>.cons h r
 |_,_,i+1,.cons q r=>.cons q (a9.set h i r)
theorem a9.append{K ρ H}:∀{ds es:List D} {vs ws:List V},a9 K ρ H ds vs->a9 K ρ H es ws->a9 K ρ H (ds++es) (vs++ws)
 |_,_,_,_,.nil,s=>s
 |_,_,_,_,.cons h r,s=>.cons h (a9.append r s)
theorem a9.rep{K ρ H}{ds:List D}{vs:List V}(r:a9 K ρ H ds vs):∀n,a9 K ρ H (List.replicate n ds).flatten (List.replicate n vs).flatten
 |0=>.nil
 |n+1=>by
  rw[List.replicate_succ,List.replicate_succ,List.flatten_cons,List.flatten_cons];exact a9.append r (a9.rep r n)
theorem a9.erase{K ρ H}:∀{ds:List D} {vs:List V} (i:Nat),a9 K ρ H ds vs->a9 K ρ H (ds.eraseIdx i) (vs.eraseIdx i)
 |_,_,_,.nil=>.nil
 |_,_,0,.cons _ r=>r
 |_,_,i+1,.cons q r=>.cons q (a9.erase i r)
theorem a9.take{K ρ H}:∀{ds:List D} {vs:List V} (n:Nat),a9 K ρ H ds vs->a9 K ρ H (ds.take n) (vs.take n)
 |_,_,0,_=>.nil
 |_,_,_+1,.nil=>.nil
 |_,_,n+1,.cons h r=>.cons h (a9.take n r)
theorem a9.drop{K ρ H}:∀{ds:List D} {vs:List V} (n:Nat),a9 K ρ H ds vs->a9 K ρ H (ds.drop n) (vs.drop n)
 |_,_,0,r=>r
 |_,_,_+1,.nil=>.nil
 |_,_,n+1,.cons _ r=>a9.drop n r
theorem a9.reverse{K ρ H}:∀{ds:List D} {vs:List V},a9 K ρ H ds vs->a9 K ρ H ds.reverse vs.reverse
 |_,_,.nil=>.nil
 |_,_,.cons h r=>by
  rw[List.reverse_cons,List.reverse_cons];exact a9.append (a9.reverse r) (.cons h .nil)
theorem a9.cut{K ρ H}{ds:List D}{vs:List V}(r:a9 K ρ H ds vs)(lo hi:Option Int):a9 K ρ H (M.cut ds lo hi) (N8 vs lo hi):=by
 unfold M.cut N8;rw[r.length];exact(r.drop _).take _
theorem a9.ofInts{K ρ H}:∀(ns:List Int),a9 K ρ H (ns.map D.int) (ns.map V.int)
 |[]=>.nil
 |n::r=>.cons (.int n) (a9.ofInts r)
noncomputable def Z2(K:PySem.W.Frag)(H:Hp)(a:Addr)(vs:List V):Prop :=
 (∃o,H a=some (.frz o (.lst vs)))\/∃(o:Obj) (its:Array Value) (n:Nat),K.lookup a=some o/\o.cls=.type "list"/\o.dict=none/\o.data=.seq its n/\its.size<=sizeLine/\Vals vs its.toList
theorem Z2.sq{K:PySem.W.Frag}{H:Hp}{a:Addr}{vs:List V}(h:Z2 K H a vs):SqL K H a vs:=h.elim (fun⟨o,z⟩=>.inl (.inr ⟨o,z⟩)) .inr
inductive f9{α:Type}(K:PySem.W.Frag)(ρ:List Addr)(H:Hp):List (α×D)->List (α×V)->Prop
 |nil:f9 K ρ H [] []
 |cons {k:α} {d:D} {v:V} {ds:List (α×D)} {vs:List (α×V)} (h:c8 K ρ H d v) (r:f9 K ρ H ds vs):f9 K ρ H ((k,d)::ds) ((k,v)::vs)
theorem f9.ext{α:Type}{K ρ H ρ' H'}(e:Ext ρ H ρ' H'){ds:List (α×D)}{vs:List (α×V)}(h:f9 K ρ H ds vs):f9 K ρ' H' ds vs:=by
 induction h with
 |nil=>exact .nil
 |cons h r ih=>exact .cons (h.ext e) ih
theorem f9.length{α:Type}{K ρ H}{ds:List (α×D)}{vs:List (α×V)}(h:f9 K ρ H ds vs):ds.length=vs.length:=by
 induction h with
 |nil=>rfl
 |cons h r ih=>simp[ih]
noncomputable def U5(K:PySem.W.Frag)(ρ:List Addr)(H:Hp):Option D->Option V->Prop
 |some d,some v=>c8 K ρ H d v
 |none,none=>True
 |_,_=>False
theorem f9.val{K ρ H}:∀{ds vs} (k:Key),f9 K ρ H ds vs->U5 K ρ H (o7 ds k) (C3 vs k)
 |_,_,k,.nil=>trivial
 |_,_,k,.cons (k:=k') h r=>by
  unfold o7 C3;rw[List.find?_cons,List.find?_cons];by_cases e:k'=k
  ·simp only[e,decide_true];exact h
  ·simp only[e,decide_false];exact f9.val k r
theorem f9.aV6{K ρ H}:∀{ds vs} (k:Key),f9 K ρ H ds vs->(ds.any fun kv=>decide (kv.1=k))=(vs.any fun kv=>decide (kv.1=k))
 |_,_,k,.nil=>rfl
 |_,_,k,.cons h r=>by simp only[List.any_cons,f9.aV6 k r]
theorem f9.snoc{K ρ H}{k:Key}{d:D}{v:V}(h:c8 K ρ H d v):∀{ds vs},f9 K ρ H ds vs->f9 K ρ H (ds++[(k,d)]) (vs++[(k,v)])
 |_,_,.nil=>.cons h .nil
 |_,_,.cons q r=>.cons q (f9.snoc h r)
theorem f9.ap6{K ρ H}{k:Key}{d:D}{v:V}(h:c8 K ρ H d v):∀{ds vs},f9 K ρ H ds vs->f9 K ρ H (ds.map fun kv=>if kv.1=k then(kv.1,d) else kv) (vs.map fun kv=>if kv.1=k then(kv.1,v) else kv)
 |_,_,.nil=>.nil
 |_,_,.cons (k:=k') q r=>by
  simp only[List.map_cons];by_cases e:k'=k
  ·rw[if_pos e,if_pos e];exact .cons h (f9.ap6 h r)
  ·rw[if_neg e,if_neg e];exact .cons q (f9.ap6 h r)
theorem f9.put{K ρ H}{k:Key}{d:D}{v:V}(h:c8 K ρ H d v){ds vs}(r:f9 K ρ H ds vs):f9 K ρ H (putD ds k d) (putK vs k v):=by
 unfold putD putK;rw[r.aV6 k];split
 ·exact r.ap6 h
 ·exact r.snoc h
noncomputable abbrev l6(K:PySem.W.Frag)(x:Str)(C:Addr):Prop:=PySem.W.nsIn K mainGlobals x=some (some (.ref C))
theorem f9.look{K ρ H}{ds:List (Str×D)}{vs:List (Str×V)}(f:Str)(h:f9 K ρ H ds vs):U5 K ρ H (ds.lookup f) (vs.lookup f):=by
 induction h with
 |nil=>trivial
 |cons h r ih =>
  rename_i k d v ds vs;rw[List.lookup_cons,List.lookup_cons];cases f==k
  ·exact ih
  ·exact h
theorem f9.p0{K ρ H}{f:Str}{d:D}{v:V}(h:c8 K ρ H d v){ds:List (Str×D)}{vs:List (Str×V)}(r:f9 K ρ H ds vs):f9 K ρ H (I9 f d ds) (L2.p0 f v vs):=by
 induction r with
 |nil=>exact .cons h .nil
 |cons q r ih =>
  unfold I9 L2.p0;split
  ·exact .cons h r
  ·exact .cons q ih
theorem S3{f:Str}{d:D}{p:Str->Prop}(hf:p f):∀{ds:List (Str×D)},(∀x∈ds,p x.1)->∀x∈I9 f d ds,p x.1
 |[],_,x,hx=>by
  have:x=(f,d):=by simpa[I9] using hx
  rw[this];exact hf
 |(k,e)::r,h,x,hx=>by
  unfold I9 at hx;split at hx
  ·rcases List.mem_cons.mp hx with z|z
   ·rw[z];exact h (k,e) (by simp)
   ·exact h x (by simp[z])
  ·rcases List.mem_cons.mp hx with z|z
   ·rw[z];exact h (k,e) (by simp)
   ·exact S3 hf (fun y hy=>h y (by simp[hy])) x z
noncomputable def OH(K:PySem.W.Frag)(ρ:List Addr)(H:Hp):O->HO->Prop
 |.lst l,.lst vs=>a9 K ρ H l vs
 |.dic kvs,.dK vs=>f9 K ρ H kvs vs
 |.ins c fs,.ins C _ vs=>l6 K c C/\Cls K C/\f9 K ρ H fs vs/\∀x∈fs,p9 K C x.1
 |_,_=>False
theorem OH.ext{K ρ H ρ' H'}(e:Ext ρ H ρ' H'){o:O}{u:HO}(h:OH K ρ H o u):OH K ρ' H' o u:=by
 cases o<;>cases u<;>first|exact h.elim|exact a9.ext e h|exact f9.ext e h|exact⟨h.1,h.2.1,h.2.2.1.ext e,h.2.2.2⟩
theorem OH.mut{K ρ H}{o:O}{u:HO}(h:OH K ρ H o u):o.mut=true:=by
 cases o<;>first|rfl|(cases u<;>exact h.elim)
theorem OH.ad5{K ρ H}{o:O}{xs:List V}(h:OH K ρ H o (.tup xs)):False:=by cases o<;>exact h
theorem OH.bl9{K ρ H}{o:O}{ob:Obj}{u:HO}(h:OH K ρ H o (.frz ob u)):False:=by cases o<;>exact h
noncomputable def E9(K:PySem.W.Frag)(ρ:List Addr)(H:Hp)(o:O)(a:Addr):Prop:=match o with
 |.fro l=>∃vs,Z2 K H a vs/\a9 K ρ H l vs
 |o=>∃u,H a=some u/\OH K ρ H o u
theorem E9.of{K ρ H}{o:O}{a:Addr}{u:HO}(hu:H a=some u)(h:OH K ρ H o u):E9 K ρ H o a:=by
 cases o<;>first|exact⟨u,hu,h⟩|(cases u<;>exact h.elim)
theorem E9.inv{K ρ H}{o:O}{a:Addr}(m:o.mut=true)(h:E9 K ρ H o a):∃u,H a=some u/\OH K ρ H o u:=by
 cases o<;>first|exact h|cases m
theorem E9.lst{K ρ H}{l:List D}{a:Addr}(h:E9 K ρ H (.lst l) a):∃vs,H a=some (.lst vs)/\a9 K ρ H l vs:=by
 obtain⟨u,h1,h2⟩:=h;cases u<;>first|exact⟨_,h1,h2⟩|exact h2.elim
theorem E9.dic{K ρ H}{l:List (Key×D)}{a:Addr}(h:E9 K ρ H (.dic l) a):∃vs,H a=some (.dK vs)/\f9 K ρ H l vs:=by
 obtain⟨u,h1,h2⟩:=h;cases u<;>first|exact⟨_,h1,h2⟩|exact h2.elim
theorem E9.ins{K ρ H}{c:Str}{fs:List (Str×D)}{a:Addr}(h:E9 K ρ H (.ins c fs) a):∃C dx vs,H a=some (.ins C dx vs)/\l6 K c C/\Cls K C/\f9 K ρ H fs vs/\∀x∈fs,p9 K C x.1:=by
 obtain⟨u,h1,h2⟩:=h;cases u<;>first|exact⟨_,_,_,h1,h2⟩|exact h2.elim
structure Rl(K:PySem.W.Frag)(ρ:List Addr)(g:G)(H:Hp):Prop where
 len:ρ.length=g.length
 obj:∀(i:Nat) o a,g[i]?=some o->ρ[i]?=some a->E9 K ρ H o a
 nd:∀(i j:Nat) o o' a,g[i]?=some o->g[j]?=some o'->o.mut=true->o'.mut=true->ρ[i]?=some a->ρ[j]?=some a->i=j
section
variable{K:PySem.W.Frag}{ρ:List Addr}{g:G}{H:Hp}
theorem Rl.lst(R:Rl K ρ g H){i:Nat}{l:List D}{a:Addr}(h:g[i]?=some (.lst l))(ha:ρ[i]?=some a):∃vs,H a=some (.lst vs)/\a9 K ρ H l vs:=(R.obj _ _ _ h ha).lst
theorem Rl.dic(R:Rl K ρ g H){i:Nat}{l:List (Key×D)}{a:Addr}(h:g[i]?=some (.dic l))(ha:ρ[i]?=some a):∃vs,H a=some (.dK vs)/\f9 K ρ H l vs:=(R.obj _ _ _ h ha).dic
theorem Rl.ins(R:Rl K ρ g H){i:Nat}{c:Str}{fs:List (Str×D)}{a:Addr}(h:g[i]?=some (.ins c fs))(ha:ρ[i]?=some a):∃C dx vs,H a=some (.ins C dx vs)/\l6 K c C/\Cls K C/\f9 K ρ H fs vs/\∀x∈fs,p9 K C x.1:=(R.obj _ _ _ h ha).ins
theorem Rl.items(R:Rl K ρ g H){i:Nat}{l:List D}{a:Addr}(h:d4 g i=some l)(ha:ρ[i]?=some a):∃vs,SqL K H a vs/\a9 K ρ H l vs:=by
 cases e:g[i]? with
 |none=>rw[d4,e] at h;cases h
 |some o =>
  rw[d4,e] at h;have q:=R.obj _ _ _ e ha;cases o with
  |lst m=>cases h;obtain⟨vs,z,r⟩:=q.lst;exact⟨vs,SqL.of z,r⟩
  |fro m=>cases h;obtain⟨vs,z,r⟩:=q;exact⟨vs,z.sq,r⟩
  |_=>cases h
theorem u7{p:Addr}{o:HO}(hp:H p=none):Ext ρ H ρ (upd H p o):=⟨⟨[],by simp⟩,fun a xs h=>by rw[f6 (j2 h hp)];exact h⟩
theorem Z2.upd{p a:Addr}{o:HO}{vs:List V}(h:Z2 K H a vs)(hp:∀ob u,H p≠some (.frz ob u)):Z2 K (upd H p o) a vs:=by
 rcases h with⟨ob,z⟩|z
 ·refine .inl ⟨ob,?_⟩;rw[f6 ?_]
  ·exact z
  ·intro e;subst e;exact hp _ _ z
 ·exact .inr z
theorem E9.upd{p a:Addr}{o:O}{u:HO}{ρ':List Addr}(h:E9 K ρ H o a)(hne:o.mut=true->a≠p)(hp:∀ob u,H p≠some (.frz ob u))(e:Ext ρ H ρ' (L2.upd H p u)):E9 K ρ' (L2.upd H p u) o a:=by
 cases hm:o.mut with
 |true =>
  obtain⟨u',h1,h2⟩:=h.inv hm;exact .of (by rw[f6 (hne hm)];exact h1) (h2.ext e)
 |false =>
  cases o<;>first|cases hm|skip
  obtain⟨vs,z,r⟩:=h;exact⟨vs,z.upd hp,r.ext e⟩
theorem Rl.grow{p:Addr}{o:HO}(R:Rl K ρ g H)(hp:H p=none):Rl K ρ g (upd H p o):=by
 have e:Ext ρ H ρ (upd H p o):=u7 hp;refine⟨R.len,fun i ob a h1 h2=>?_,R.nd⟩;have q:=R.obj _ _ _ h1 h2;refine q.upd (fun hm=>?_) (fun ob u z=>by rw[hp] at z;cases z) e;obtain⟨u,h1,_⟩:=q.inv hm;exact j2 h1 hp
theorem Rl.u3(R:Rl K ρ g H)(p:Addr):(ρ++[p])[g.length]?=some p:=by rw[<- R.len];simp
theorem C4{p:Addr}{o:HO}(hp:H p=none):Ext ρ H (ρ++[p]) (upd H p o):=⟨⟨[p],rfl⟩,(u7 (ρ:=ρ) hp).tup⟩
theorem Rl.new{p:Addr}{o:O}{u:HO}(R:Rl K ρ g H)(hp:H p=none)(r:OH K ρ H o u):Rl K (ρ++[p]) (g++[o]) (upd H p u):=by
 have e:Ext ρ H (ρ++[p]) (upd H p u):=C4 hp;have old:∀{i:Nat} {ob:O} {a:Addr},g[i]?=some ob->(ρ++[p])[i]?=some a->ρ[i]?=some a:=fun{i ob a} h1 h2=>by
  rw[List.getElem?_append_left (by rw[R.len];exact(List.getElem?_eq_some_iff.mp h1).1)] at h2;exact h2
 have split:∀{i:Nat} {ob:O},(g++[o])[i]?=some ob->g[i]?=some ob\/(i=g.length/\ob=o):=fun{i ob} h=>by
  rcases Nat.lt_trichotomy i g.length with q|q|q
  ·rw[List.getElem?_append_left q] at h;exact .inl h
  ·subst q;simp at h;exact .inr ⟨rfl,h.symm⟩
  ·rw[List.getElem?_eq_none (by simp;omega)] at h;cases h
 refine⟨by simp[R.len],fun i ob a h1 h2=>?_,fun i j o1 o2 a h1 h2 m1 m2 h3 h4=>?_⟩
 ·rcases split h1 with q|⟨rfl,rfl⟩
  ·have z:=R.obj _ _ _ q (old q h2);refine z.upd (fun hm=>?_) (fun ob u z=>by rw[hp] at z;cases z) e;obtain⟨u,h1,_⟩:=z.inv hm;exact j2 h1 hp
  ·rw[R.u3] at h2;cases h2;exact .of p8 (r.ext e)
 ·have nq:∀{i:Nat} {o:O} {a:Addr},g[i]?=some o->o.mut=true->ρ[i]?=some a->a≠p:=fun{i o a} h1 hm h2=>by
   obtain⟨u,z,_⟩:=(R.obj _ _ _ h1 h2).inv hm;exact j2 z hp
  rcases split h1 with q|⟨rfl,_⟩
  ·rcases split h2 with q'|⟨rfl,_⟩
   ·exact R.nd _ _ _ _ _ q q' m1 m2 (old q h3) (old q' h4)
   ·rw[R.u3] at h4;cases h4;exact absurd rfl (nq q m1 (old q h3))
  ·rcases split h2 with q'|⟨rfl,_⟩
   ·rw[R.u3] at h3;cases h3;exact absurd rfl (nq q' m2 (old q' h4))
   ·rfl
theorem Rl.alloc{p:Addr}{l:List D}{vs:List V}(R:Rl K ρ g H)(hp:H p=none)(r:a9 K ρ H l vs):Rl K (ρ++[p]) (g++[.lst l]) (upd H p (.lst vs)):=R.new hp r
theorem Rl.put{i:Nat}{a:Addr}{o o':O}{u:HO}(R:Rl K ρ g H)(h:g[i]?=some o)(hm:o.mut=true)(ha:ρ[i]?=some a)(r:OH K ρ H o' u) :
  Rl K ρ (g.set i o') (upd H a u)/\Ext ρ H ρ (upd H a u):=by
 obtain⟨u0,z0,oh0⟩:=(R.obj _ _ _ h ha).inv hm;have e:Ext ρ H ρ (upd H a u):=⟨⟨[],by simp⟩,fun b xs q=>by rw[f6];exact q;intro z;subst z;rw[z0] at q;cases q;exact oh0.ad5⟩
 refine⟨⟨by simp[R.len],fun j ob b h1 h2=>?_,fun j k o1 o2 b h1 h2 m1 m2 h3 h4=>?_⟩,e⟩
 ·by_cases hij:i=j
  ·subst hij;rw[ha] at h2;cases h2;have hi:i<g.length:=(List.getElem?_eq_some_iff.mp h).1;rw[List.getElem?_set_self hi] at h1;cases h1;exact .of p8 (r.ext e)
  ·rw[List.getElem?_set_ne hij] at h1;refine(R.obj _ _ _ h1 h2).upd (fun hm' ez=>?_) (fun ob u z=>by rw[z0] at z;cases z;exact oh0.bl9) e;subst ez;exact hij (R.nd _ _ _ _ _ h h1 hm hm' ha h2)
 ·have back:∀{j:Nat} {m:O},(g.set i o')[j]?=some m->m.mut=true->∃m',g[j]?=some m'/\m'.mut=true:=fun{j m} q hm'=>by
   by_cases hij:i=j
   ·subst hij;exact⟨o,h,hm⟩
   ·rw[List.getElem?_set_ne hij] at q;exact⟨m,q,hm'⟩
  obtain⟨_,q1,n1⟩:=back h1 m1;obtain⟨_,q2,n2⟩:=back h2 m2;exact R.nd _ _ _ _ _ q1 q2 n1 n2 h3 h4
theorem Rl.write{i:Nat}{a:Addr}{l l':List D}{vs:List V}(R:Rl K ρ g H)(h:g[i]?=some (.lst l))(ha:ρ[i]?=some a)(r:a9 K ρ H l' vs) :
  Rl K ρ (g.set i (.lst l')) (upd H a (.lst vs))/\Ext ρ H ρ (upd H a (.lst vs)):=R.put h rfl ha r
end
structure j8(K:PySem.W.Frag)(ρ:List Addr)(H:Hp)(σ:S)(σv:St):Prop where
 len:σ.length=σv.length
 val:∀(i:Nat) d,σ[i]?=some (some d)->∃v,σv[i]?=some (some v)/\c8 K ρ H d v
section
variable{K:PySem.W.Frag}{ρ ρ':List Addr}{H H':Hp}
theorem j8.ext{σ σv}(e:Ext ρ H ρ' H')(r:j8 K ρ H σ σv):j8 K ρ' H' σ σv:=⟨r.len,fun i d h=>let ⟨v,a,b⟩:=r.val i d h;⟨v,a,b.ext e⟩⟩
theorem j8.set{σ σv d v}(r:j8 K ρ H σ σv)(i:Nat)(h:c8 K ρ H d v):j8 K ρ H (σ.set i (some d)) (σv.set i (some v)):=by
 refine⟨by simp[r.len],fun j e q=>?_⟩;by_cases hij:i=j
 ·subst hij;have hi:i<σ.length:=by
   have:=(List.getElem?_eq_some_iff.mp q).1;simpa using this
  rw[List.getElem?_set_self hi] at q;cases q;exact⟨v,by rw[List.getElem?_set_self (by rw[<- r.len];exact hi)],h⟩
 ·rw[List.getElem?_set_ne hij] at q ⊢;exact r.val j e q
theorem j8.start{ds vs}{n:Nat}(r:a9 K ρ H ds vs):j8 K ρ H (ds.map some++List.replicate (n-ds.length) none) (vs.map some++List.replicate (n-vs.length) none):=by
 refine⟨by simp[r.length],fun i d h=>?_⟩;by_cases hi:i<ds.length
 ·rw[List.getElem?_append_left (by simpa using hi),List.getElem?_map] at h;cases e:ds[i]? with
  |none=>rw[e] at h;cases h
  |some x =>
   rw[e] at h;cases h;obtain⟨v,h1,h2⟩:=r.get e;refine⟨v,?_,h2⟩;rw[List.getElem?_append_left (by rw[List.length_map,<- r.length];exact hi),List.getElem?_map,h1]
   rfl
 ·rw[List.getElem?_append_right (by simpa using hi),List.getElem?_replicate] at h;split at h<;>cases h
theorem j8.d0{σ σv}(r:j8 K ρ H σ σv)(d0:List Nat)(n:Nat):j8 K ρ H (J8 σ d0 n) (B8 σv d0 n):=by
 refine⟨by simp[J8,B8],fun i d h=>?_⟩;unfold J8 at h;unfold B8;by_cases hi:i<d0.length
 ·rw[List.getElem?_append_left (by simpa using hi),List.getElem?_map,List.getElem?_eq_getElem hi] at h;rw[List.getElem?_append_left (by simpa using hi),List.getElem?_map,List.getElem?_eq_getElem hi];simp only[Option.map_some] at h ⊢;cases e:σ[d0[i]]? with
  |none=>rw[e] at h;cases h
  |some x =>
   rw[e] at h;have hx:x=some d:=Option.some.inj h;subst hx;obtain⟨v,h1,h2⟩:=r.val _ _ e;exact⟨v,by rw[h1];rfl,h2⟩
 ·rw[List.getElem?_append_right (by simpa using hi),List.getElem?_replicate] at h;split at h<;>cases h
end
end M

namespace M
open PySem L2 PySem.Spec PyProof.Rows
noncomputable def LQ(K:PySem.W.Frag)(ρ:List Addr)(H:Hp)(Q:VK):KD:=fun d g'=>∀ρ' H' v,Ext ρ H ρ' H'->Rl K ρ' g' H'->c8 K ρ' H' d v->Q v H'
theorem LQ.ext{K ρ H ρ1 H1 Q d g}(e:Ext ρ H ρ1 H1)(h:LQ K ρ H Q d g):LQ K ρ1 H1 Q d g:=fun ρ' H' v e' R r=>h ρ' H' v (e.trans e') R r
theorem LQ.now{K ρ H Q d g v}(h:LQ K ρ H Q d g)(R:Rl K ρ g H)(r:c8 K ρ H d v):Q v H:=h ρ H v (.refl _ _) R r
theorem LQ.new{K ρ H Q}{g:G}{l:List D}{vs:List V}{p:Addr}(h:LQ K ρ H Q (.ref g.length) (g++[.lst l]))(R:Rl K ρ g H)(hp:H p=none)(r:a9 K ρ H l vs):Q (.ref p) (upd H p (.lst vs)) :=
 h (ρ++[p]) _ _ (C4 hp) (R.alloc hp r) (.ref (R.u3 p))
theorem LQ.tup{K ρ H Q}{g:G}{l:List D}{vs:List V}{p:Addr}(h:LQ K ρ H Q (.tup l) g)(R:Rl K ρ g H)(hp:H p=none)(r:a9 K ρ H l vs):Q (.ref p) (upd H p (.tup vs)) :=
 h ρ _ _ (u7 hp) (R.grow hp) (.tup (.inl p8) (r.ext (u7 hp)))
noncomputable def r2(K:PySem.W.Frag)(p:Pr):R2:=fun x y H Q=>∃d e g ρ,Rl K ρ g H/\c8 K ρ H d x/\c8 K ρ H e y/\prP p [d,e] g (LQ K ρ H Q)
noncomputable def r1(K:PySem.W.Frag)(p:Pr):V->Hp->VK->Prop:=fun x H Q=>∃d g ρ,Rl K ρ g H/\c8 K ρ H d x/\prP p [d] g (LQ K ρ H Q)
noncomputable def rN(K:PySem.W.Frag)(p:Pr):List V->Hp->VK->Prop:=fun xs H Q=>∃ds g ρ,Rl K ρ g H/\a9 K ρ H ds xs/\prP p ds g (LQ K ρ H Q)
theorem j3{n:Nat}(h:n<=100000):n<=sizeLine:=Nat.le_trans h (by decide)
theorem Y2{n:Nat}(h:n<100000):n<sizeLine:=Nat.lt_of_lt_of_le h (by decide)
theorem c8.i7{K ρ H i v}(h:c8 K ρ H (.int i) v):v=.int i:=by cases h;rfl
theorem c8.x8{K ρ H i v}(h:c8 K ρ H (.str i) v):v=.str i:=by cases h;rfl
theorem c8.E7{K ρ H i v}(h:c8 K ρ H (.bl i) v):v=.bl i:=by cases h;rfl
theorem c8.ad4{K ρ H v}(h:c8 K ρ H .non v):v=.non:=by cases h;rfl
theorem c8.bh7{K ρ H n v}(h:c8 K ρ H (.ty n) v):v=.ty n:=by cases h;rfl
theorem c8.i5{K ρ H i v}(h:c8 K ρ H (.ref i) v):∃a,v=.ref a/\ρ[i]?=some a:=by cases h;exact⟨_,rfl,by assumption⟩
theorem c8.B6{K ρ H l v}(h:c8 K ρ H (.tup l) v):∃a vs,v=.ref a/\TupAt K H a vs/\a9 K ρ H l vs:=by cases h;exact⟨_,_,rfl,by assumption,by assumption⟩
theorem a9.one{K ρ H d vs}(h:a9 K ρ H [d] vs):∃v,vs=[v]/\c8 K ρ H d v:=by
 cases h with
 |cons r rr=>cases rr;exact⟨_,rfl,r⟩
theorem a9.two{K ρ H d e vs}(h:a9 K ρ H [d,e] vs):∃v w,vs=[v,w]/\c8 K ρ H d v/\c8 K ρ H e w:=by
 cases h with
 |cons r rr=>obtain⟨w,rfl,q⟩:=rr.one;exact⟨_,_,rfl,r,q⟩
theorem t7{a b c d:D}(h:[a,b]=[c,d]):a=c/\b=d:=by cases h;exact⟨rfl,rfl⟩
section
variable{X:Cx}
theorem bc4(op:Operator):OpR X (binaryOp op) (r2 X.K (.bin op)):=by
 intro pins s σ H x y v u Q I rx ry h;obtain⟨d,e,g,ρ,R,rd,re,d',g',h,q⟩:=h;rcases h with⟨i,j,r,ex,ha,rfl,rfl⟩|⟨rfl,h⟩|⟨rfl,h⟩
 ·obtain⟨rfl,rfl⟩:=t7 ex;obtain rfl:=rd.i7;obtain rfl:=re.i7;have fin:=q.now R (.int r);cases op<;>first|exact(show False from ha).elim|skip
  ·cases ha;exact bc5 pins s σ H _ _ v u Q I rx ry ⟨i,j,rfl,rfl,fin⟩
  ·cases ha;exact bb7 pins s σ H _ _ v u Q I rx ry ⟨i,j,rfl,rfl,fin⟩
  ·obtain⟨hc,rfl⟩:=ha;exact bc0 pins s σ H _ _ v u Q I rx ry ⟨i,j,rfl,rfl,hc,fin⟩
  ·obtain⟨hc,rfl⟩:=ha;exact bc1 pins s σ H _ _ v u Q I rx ry ⟨i,j,rfl,rfl,hc,fin⟩
  ·obtain⟨hc,rfl⟩:=ha;exact bb9 pins s σ H _ _ v u Q I rx ry ⟨i,j,rfl,rfl,hc,fin⟩
  ·obtain⟨hc,rfl⟩:=ha;exact a09 pins s σ H _ _ v u Q I rx ry ⟨i,j,rfl,rfl,hc,fin⟩
 ·rcases h with⟨l,m,ex,hz,rfl,rfl⟩|⟨a,b,l,m,ex,ha,hb,hz,rfl,rfl⟩|⟨x',y',ex,hz,rfl,rfl⟩
  ·obtain⟨rfl,rfl⟩:=t7 ex;obtain⟨a,vs,rfl,ta,rs⟩:=rd.B6;obtain⟨b,ws,rfl,tb,rt⟩:=re.B6;refine aP7 pins s σ H _ _ v u Q I rx ry ⟨a,b,vs,ws,rfl,rfl,ta.sq,tb.sq,?_,fun z=>?_,fun z=>?_,fun p hp=>q.tup R hp (rs.append rt)⟩
   ·rw[<- rs.length,<- rt.length];exact j3 hz
   ·subst z;cases rs;exact q.now R (.tup tb rt)
   ·subst z;cases rt;rw[List.append_nil] at q;exact q.now R (.tup ta rs)
  ·obtain⟨rfl,rfl⟩:=t7 ex;obtain⟨a',rfl,ra⟩:=rd.i5;obtain⟨b',rfl,rb⟩:=re.i5;obtain⟨vs,z1,rs⟩:=R.lst ha ra;obtain⟨ws,z2,rt⟩:=R.lst hb rb;exact bc3 pins s σ H _ _ v u Q I rx ry ⟨_,_,vs,ws,rfl,rfl,z1,z2,by rw[<- rs.length,<- rt.length];exact j3 hz,fun p hp=>q.new R hp (rs.append rt)⟩
  ·obtain⟨rfl,rfl⟩:=t7 ex;obtain rfl:=rd.x8;obtain rfl:=re.x8;exact az4 pins s σ H _ _ v u Q I rx ry ⟨_,_,rfl,rfl,j3 hz,q.now R (.str _)⟩
 ·rcases h with⟨a,l,n,ex,ha,h1,h2,hz,rfl,rfl⟩|⟨l,n,ex,hne,h1,h2,hz,rfl,rfl⟩
  rotate_left
  ·obtain⟨rfl,rfl⟩:=t7 ex;obtain⟨a',vs,rfl,ta,rs⟩:=rd.B6;obtain rfl:=re.i7;refine a07 pins s σ H _ _ v u Q I rx ry ⟨_,_,vs,rfl,rfl,ta.sq,fun z=>?_,h1,h2,by rw[<- rs.length];exact j3 hz,fun z=>?_,fun p hp=>q.tup R hp (rs.rep _)⟩
   ·subst z;cases rs;exact hne rfl
   ·subst z;have:(List.replicate (Int.toNat 1) l).flatten=l:=by simp
    rw[this] at q;exact q.now R (.tup ta rs)
  obtain⟨rfl,rfl⟩:=t7 ex;obtain⟨a',rfl,ra⟩:=rd.i5;obtain rfl:=re.i7;obtain⟨vs,z1,rs⟩:=R.lst ha ra;exact bb8 pins s σ H _ _ v u Q I rx ry ⟨_,_,vs,rfl,rfl,z1,by omega,by omega,by rw[<- rs.length];exact j3 hz,fun p hp=>q.new R hp (rs.rep _)⟩
theorem bl4(op:UnaryOp):UnR X (unaryOp op) (r1 X.K (.un op)):=by
 intro pins s σ H x v Q I rx h;obtain⟨d,g,ρ,R,rd,d',g',⟨rfl,i,ex,rfl,rfl⟩,q⟩:=h;cases ex;obtain rfl:=rd.i7;exact a46 pins s σ H _ v Q I rx ⟨_,rfl,q.now R (.int _)⟩
mutual
theorem F7{ρ:List Addr}{g:G}{H:Hp}{pins:List (Addr×Obj)}{σ:L2.St}{s:Shared}(I:Inv X pins σ H s)(R:Rl X.K ρ g H):∀(n:Nat) {d:D} {v:V} {u:Value} {p:PyData},rd g n d=some p->c8 X.K ρ H d v->RelV v u->∃as,Reads s.heap u p as/\p.depth<=n
 |n,.non,_,_,_,h,.non,ru=>by
  cases n<;>(simp only[rd] at h;cases h;cases ru;exact⟨_,.none,Nat.zero_le _⟩)
 |n,.bl b,_,_,_,h,.bl _,ru=>by
  cases n<;>(simp only[rd] at h;cases h;cases ru;exact⟨_,.bool b,Nat.zero_le _⟩)
 |n,.int i,_,_,_,h,.int _,ru=>by
  cases n<;>(simp only[rd] at h;cases h;obtain⟨t,rfl⟩:=ru;exact⟨_,.int i t,Nat.zero_le _⟩)
 |n,.str x,_,_,_,h,.str _,ru=>by
  cases n<;>(simp only[rd] at h;cases h;obtain⟨t,rfl⟩:=ru;exact⟨_,.str x t,Nat.zero_le _⟩)
 |n,.ty x,_,_,_,h,.ty _,ru=>by
  cases n<;>(simp only[rd] at h;cases h)
 |0,.ref _,_,_,_,h,_,_=>by simp only[rd] at h;cases h
 |0,.tup _,_,_,_,h,_,_=>by simp only[rd] at h;cases h
 |n+1,.ref a,_,_,p,h,.ref ha,ru=>by
  simp only[rd] at h;cases e:d4 g a with
  |none=>rw[e] at h;cases h
  |some l =>
   rw[e] at h;dsimp only at h;cases e2:l.mapM (rd g n) with
   |none=>rw[e2] at h;cases h
   |some ps =>
    rw[e2] at h;cases h;cases ru;obtain⟨vs,hq,rs⟩:=R.items e ha;obtain⟨its,rv,p,hz⟩:=I.list hq;obtain⟨as,q,hd⟩:=P1 I R n e2 rs rv;obtain⟨o,ho,hc,k,hdat⟩:=p.isList;refine⟨_,.list ho hc hdat (by simpa using q),?_⟩;simp only[PyData.depth];omega
 |n+1,.tup l,_,_,p,h,.tup ht rs,ru=>by
  simp only[rd] at h;cases e2:l.mapM (rd g n) with
  |none=>rw[e2] at h;cases h
  |some ps =>
   rw[e2] at h;cases h;cases ru;obtain⟨its,rv,pt,hz⟩:=I.tuple ht.sq;obtain⟨as,q,hd⟩:=P1 I R n e2 rs rv;obtain⟨o,ho,hc,k,hdat⟩:=id pt;refine⟨_,.tuple ho hc hdat (by simpa using q),?_⟩;simp only[PyData.depth];omega
theorem P1{ρ:List Addr}{g:G}{H:Hp}{pins:List (Addr×Obj)}{σ:L2.St}{s:Shared}(I:Inv X pins σ H s)(R:Rl X.K ρ g H):∀(n:Nat) {l:List D} {vs:List V} {us:List Value} {ps:List PyData},l.mapM (rd g n)=some ps->a9 X.K ρ H l vs->Vals vs us ->
  ∃as,ReadsAll s.heap us ps as/\PyData.depthAll ps<=n
 |n,[],_,_,_,h,.nil,.nil=>by
  simp at h;subst h;exact⟨_,.nil,Nat.zero_le _⟩
 |n,d::l,_,_,ps,h,.cons rd' rs,.cons ru rv=>by
  rw[List.mapM_cons] at h;cases e:rd g n d with
  |none=>rw[e] at h;cases h
  |some p =>
   rw[e] at h;cases e2:l.mapM (rd g n) with
   |none=>rw[e2] at h;cases h
   |some qs =>
    rw[e2] at h;cases h;obtain⟨as,q1,d1⟩:=F7 I R n e rd' ru;obtain⟨bs,q2,d2⟩:=P1 I R n e2 rs rv;refine⟨_,.cons q1 q2,?_⟩;simp only[PyData.depthAll];omega
end
end
section
variable{X:Cx}
theorem Y8{α:Type}[BEq α][LawfulBEq α][DecidableEq α](a b:α):decide (a=b)=(a==b):=by
 by_cases e:a=b
 ·subst e;simp
 ·rw[decide_eq_false e];exact(beq_eq_false_iff_ne.mpr e).symm
theorem Q8{K ρ H}{d:D}{v:V}{c:Key}(h:P6 d=some c)(r:c8 K ρ H d v):v=kV c:=by
 cases r<;>first|(cases h;rfl)|cases h
theorem U5.some{K ρ H}{o:Option V}{d:D}(h:U5 K ρ H (some d) o):∃v,o=some v/\c8 K ρ H d v:=by
 cases o with
 |none=>exact h.elim
 |some v=>exact⟨v,rfl,h⟩
theorem U5.isSome{K ρ H}{o:Option V}{d:Option D}(h:U5 K ρ H d o):d.isSome=o.isSome:=by
 cases o<;>cases d<;>first|rfl|exact h.elim
theorem aU9{pins:List (Addr×Obj)}{s:Shared}{σ:L2.St}{H:Hp}{ρ:List Addr}{g:G}{d e:D}{x y:V}{v u:Value}{b:Bool}{Q:VK}(hu:X.A.units+100<cLine)(I:Inv X pins σ H s)(rx:RelV x v)(ry:RelV y u)(R:Rl X.K ρ g H)(rd':c8 X.K ρ H d x)(re:c8 X.K ρ H e y)(h:eqR g d e b)(neg:Bool)(q:Q (.bl (xor neg b)) H):wpAny (model X.prog X.w) X.A (compareOp (if neg then .NotEq else .Eq) v u) (EP X pins σ Q) X.xe s:=by
 rcases h with⟨i,j,rfl,rfl,rfl⟩|⟨i,j,rfl,rfl,rfl⟩|⟨i,j,rfl,rfl,rfl⟩|⟨p,p',h1,h2,c1,c2,rfl⟩
 ·obtain rfl:=rd'.i7;obtain rfl:=re.i7;cases neg
  ·exact az3 pins s σ H _ _ v u Q I rx ry ⟨rfl,by rw[Y7];simpa[Y8] using q⟩
  ·exact az2 pins s σ H _ _ v u Q I rx ry ⟨rfl,by rw[Y7];simpa[Y8] using q⟩
 ·obtain rfl:=rd'.E7;obtain rfl:=re.E7;cases neg
  ·exact az3 pins s σ H _ _ v u Q I rx ry ⟨rfl,by rw[ae4];simpa using q⟩
  ·exact az2 pins s σ H _ _ v u Q I rx ry ⟨rfl,by rw[ae4];simpa using q⟩
 ·obtain rfl:=rd'.x8;obtain rfl:=re.x8;cases neg
  ·exact az3 pins s σ H _ _ v u Q I rx ry ⟨rfl,by rw[Y6];simpa[Y8] using q⟩
  ·exact az2 pins s σ H _ _ v u Q I rx ry ⟨rfl,by rw[Y6];simpa[Y8] using q⟩
 ·obtain⟨as,q1,d1⟩:=F7 I R 6 h1 rd' rx;obtain⟨bs,q2,d2⟩:=F7 I R 6 h2 re ry;have hr:X.A.units+min p.depth p'.depth<cLine:=by omega
  cases neg
  ·exact SeqAt.compareEq_reads q1 q2 c1 c2 hr ⟨.bl _,H,I,rfl,by simpa using q⟩
  ·exact SeqAt.compareNe_reads q1 q2 c1 c2 hr ⟨.bl _,H,I,rfl,by simpa using q⟩
theorem in_of{pins:List (Addr×Obj)}{s:Shared}{σ:L2.St}{H:Hp}{ρ:List Addr}{g:G}{d e:D}{x y:V}{v u:Value}{b:Bool}{Q:VK}(hu:X.A.units+100<cLine)(I:Inv X pins σ H s)(rx:RelV x v)(ry:RelV y u)(R:Rl X.K ρ g H)(rd':c8 X.K ρ H d x)(re:c8 X.K ρ H e y)(h:inR g d e b)(neg:Bool)(q:Q (.bl (xor neg b)) H):wpAny (model X.prog X.w) X.A (compareOp (if neg then .NotIn else .In) v u) (EP X pins σ Q) X.xe s:=by
 rcases h with⟨a,kvs,c,rfl,ha,hc,rfl⟩|⟨l,ps,p,h0,h1,h2,c1,c2,rfl⟩
 ·obtain⟨a',rfl,ra⟩:=re.i5;obtain⟨vs,z,rs⟩:=R.dic ha ra;have:=Q8 hc rd';subst this;cases ry;rw[(rs.val c).isSome] at q;cases neg
  ·exact bv9 (by omega) I (F1.k z) rx fun s' I'=>⟨.bl _,H,I',rfl,by simpa using q⟩
  ·exact a31 (by omega) I (F1.k z) rx fun s' I'=>⟨.bl _,H,I',rfl,by simpa using q⟩
 ·obtain⟨as,q1,d1⟩:=F7 I R 6 h2 rd' rx;cases e with
  |tup m =>
   cases h0;have h3:rd g 7 (.tup l)=some (.tuple ps):=by simp only[rd];rw[show l.mapM (rd g 6)=some ps from h1];rfl
   obtain⟨bs,q2,d2⟩:=F7 I R 7 h3 re ry;have hr:X.A.units+1+min (PyData.depthAll ps) p.depth<cLine:=by omega
   cases neg
   ·exact SeqAt.in_tuple_reads q2 q1 c1 c2 hr ⟨.bl _,H,I,rfl,by simpa using q⟩
   ·exact SeqAt.notIn_tuple_reads q2 q1 c1 c2 hr ⟨.bl _,H,I,rfl,by simpa using q⟩
  |ref a =>
   have h3:rd g 7 (.ref a)=some (.list ps):=by
    simp only[rd];rw[show d4 g a=some l from h0];dsimp only;rw[show l.mapM (rd g 6)=some ps from h1]
    rfl
   obtain⟨bs,q2,d2⟩:=F7 I R 7 h3 re ry;have hr:X.A.units+1+min (PyData.depthAll ps) p.depth<cLine:=by omega
   cases neg
   ·exact SeqAt.in_list_reads q2 q1 c1 c2 hr ⟨.bl _,H,I,rfl,by simpa using q⟩
   ·exact SeqAt.notIn_list_reads q2 q1 c1 c2 hr ⟨.bl _,H,I,rfl,by simpa using q⟩
  |_=>cases h0
theorem Q5(hu:X.A.units+100<cLine)(op:CmpOp):OpR X (compareOp op) (r2 X.K (.cmp op)):=by
 intro pins s σ H x y v u Q I rx ry h;obtain⟨d,e,g,ρ,R,rd',re,d',g',⟨x',y',b,ex,h,rfl,rfl⟩,q⟩:=h;obtain⟨rfl,rfl⟩:=t7 ex;have fin:=q.now R (.bl b);have intz:∀{P:Int->Int->Bool},(∃i j,d=.int i/\e=.int j/\b=P i j)->∃i j,x=.int i/\y=.int j/\b=P i j:=fun hh=>by
  obtain⟨i,j,z1,z2,z3⟩:=hh;exact⟨i,j,(z1▸rd').i7,(z2▸re).i7,z3⟩
 cases op
 ·exact aU9 hu I rx ry R rd' re h false (by simpa using fin)
 ·exact aU9 hu I rx ry R rd' re h true (by simpa using fin)
 ·obtain⟨i,j,e1,e2,e3⟩:=intz (P:=fun i j=>decide (i<j)) h;exact bl5 pins s σ H _ _ v u Q I rx ry ⟨i,j,e1,e2,by subst e3;exact fin⟩
 ·obtain⟨i,j,e1,e2,e3⟩:=intz (P:=fun i j=>decide (i<=j)) h;exact bl6 pins s σ H _ _ v u Q I rx ry ⟨i,j,e1,e2,by subst e3;exact fin⟩
 ·obtain⟨i,j,e1,e2,e3⟩:=intz (P:=fun i j=>decide (j<i)) h;exact bl7 pins s σ H _ _ v u Q I rx ry ⟨i,j,e1,e2,by subst e3;exact fin⟩
 ·obtain⟨i,j,e1,e2,e3⟩:=intz (P:=fun i j=>decide (j<=i)) h;exact bl8 pins s σ H _ _ v u Q I rx ry ⟨i,j,e1,e2,by subst e3;exact fin⟩
 ·obtain⟨rfl,rfl⟩:=(show _/\_ from h)
  obtain rfl:=re.ad4;refine bc2 pins s σ H _ _ v u Q I rx ry ⟨rfl,?_⟩;have e:O5 d=decide (x=V.non):=by cases rd'<;>simp[O5]
  rw[<- e];exact fin
 ·obtain⟨rfl,rfl⟩:=(show _/\_ from h)
  obtain rfl:=re.ad4;refine a08 pins s σ H _ _ v u Q I rx ry ⟨rfl,?_⟩;have e:O5 d=decide (x=V.non):=by cases rd'<;>simp[O5]
  rw[<- e];exact fin
 ·exact in_of hu I rx ry R rd' re h false (by simpa using fin)
 ·exact in_of hu I rx ry R rd' re h true (by simpa using fin)
theorem empty_eq{K ρ H}{l:List D}{vs:List V}(r:a9 K ρ H l vs):l.isEmpty=vs.isEmpty:=by cases r<;>rfl
theorem a49{K:PySem.W.Frag}{ρ:List Addr}{g:G}{H:Hp}{d:D}{x:V}{b:Bool}(R:Rl K ρ g H)(r:c8 K ρ H d x)(h:a50 g d b):aS6 K x H b:=by
 rcases h with⟨rfl,rfl⟩|rfl|⟨i,rfl,rfl⟩|⟨l,rfl,rfl⟩|⟨a,l,rfl,hl,rfl⟩
 ·obtain rfl:=r.ad4;rfl
 ·obtain rfl:=r.E7;rfl
 ·obtain rfl:=r.i7;rfl
 ·obtain⟨a,vs,rfl,ht,rs⟩:=r.B6;exact .inr (.inl ⟨_,ht.sq,by rw[empty_eq rs]⟩)
 ·obtain⟨a',rfl,ha⟩:=r.i5;obtain⟨vs,hq,rs⟩:=R.items hl ha;exact .inl ⟨_,hq,by rw[empty_eq rs]⟩
theorem a36{K ρ H}{l:List D}{vs:List V}{i:Int}{d:D}(r:a9 K ρ H l vs)(h:atI l i=some d):∃v,atI vs i=some v/\c8 K ρ H d v:=by
 unfold atI at h ⊢;rw[<- r.length];cases e:ixN l.length i with
 |none=>rw[e] at h;cases h
 |some j =>
  rw[e] at h;exact r.get h
theorem ad1{K ρ H}{g:G}{x:D}{v:V}{l:List D}(R:Rl K ρ g H)(r:c8 K ρ H x v)(h:B7 g x=some l):∃a vs,v=.ref a/\a9 K ρ H l vs/\((∃i,x=.ref i/\ρ[i]?=some a)/\SqL K H a vs\/x=.tup l/\TupAt K H a vs):=by
 cases r with
 |tup ht rs=>cases h;exact⟨_,_,rfl,rs,.inr ⟨rfl,ht⟩⟩
 |ref ha=>obtain⟨vs,hq,rs⟩:=R.items h ha;exact⟨_,_,rfl,rs,.inl ⟨⟨_,rfl,ha⟩,hq⟩⟩
 |_=>cases h
theorem bn0(hu:X.A.units+100<cLine):IxR X (r2 X.K .ix):=by
 intro value slice pins s σ H x y v u Q I rx ry h hs;obtain⟨d,e,g,ρ,R,rd',re,d',g',⟨rfl,h⟩,q⟩:=h;rcases h with⟨x',l,i,ex,hl,ha⟩|⟨a,kvs,y',c,ex,ha,hc,hv⟩|⟨x',i,c,ex,h0,h1,rfl⟩
 ·obtain⟨rfl,rfl⟩:=t7 ex;obtain rfl:=re.i7;obtain⟨a,vs,rfl,rs,h⟩:=ad1 R rd' hl;obtain⟨w,hw,rw'⟩:=a36 rs ha;rcases h with⟨_,hq⟩|⟨_,ht⟩
  ·exact a21 value slice pins s σ H _ _ v u Q I rx ry ⟨_,_,i,w,rfl,rfl,hq,hw,q.now R rw'⟩ hs
  ·exact be3 value slice pins s σ H _ _ v u Q I rx ry ⟨_,_,i,w,rfl,rfl,ht.sq,hw,q.now R rw'⟩ hs
 ·obtain⟨rfl,rfl⟩:=t7 ex;obtain⟨a',rfl,ra⟩:=rd'.i5;obtain⟨vs,z,rs⟩:=R.dic ha ra;have:=Q8 hc re;subst this;have q2:=rs.val c;rw[hv] at q2;obtain⟨w,hw,rw'⟩:=q2.some;exact a22 (by omega) value slice pins s σ H _ _ v u Q I rx ry ⟨_,w,rfl,by have:=F1.k (k:=c) z;rw[hw] at this;exact this,q.now R rw'⟩ hs
 ·obtain⟨rfl,rfl⟩:=t7 ex;obtain rfl:=rd'.x8;obtain rfl:=re.i7;exact be4 value slice pins s σ H _ _ v u Q I rx ry ⟨x',i,c,rfl,rfl,j3 h0,h1,q.now R (.str _)⟩ hs
end
end M

namespace M
open PySem L2 PySem.Spec PyProof.Rows
section
variable{X:Cx}
noncomputable def rSl(K:PySem.W.Frag):V->Option Int->Option Int->Hp->VK->Prop:=fun x lo hi H Q=>∃d g ρ d' g',Rl K ρ g H/\c8 K ρ H d x/\slR d lo hi g d' g'/\LQ K ρ H Q d' g'
theorem ay6:SlR X (rSl X.K):=by
 intro pins s σ H x v vl vu lo hi sl Q I rx hs pl pu h;obtain⟨d,g,ρ,d',g',R,rd',h,q⟩:=h;rcases h with⟨l,rfl,rfl,rfl⟩|⟨a,l,rfl,hl,rfl,rfl⟩
 ·obtain⟨a,vs,rfl,ht,rs⟩:=rd'.B6;refine aX1 pins s σ H _ v vl vu lo hi sl Q I rx hs pl pu ⟨_,_,rfl,ht.sq,fun z=>?_,fun p hp=>q.tup R hp (rs.cut lo hi)⟩;refine q.now R (.tup ht ?_);have:=rs.cut lo hi;rw[z] at this;exact this
 ·obtain⟨a',rfl,ha⟩:=rd'.i5;obtain⟨vs,hq,rs⟩:=R.items hl ha;exact aX2 pins s σ H _ v vl vu lo hi sl Q I rx hs pl pu ⟨_,_,rfl,hq,fun p hp=>q.new R hp (rs.cut lo hi)⟩
noncomputable def bs7(K:PySem.W.Frag):V->V->V->Hp->(Hp->Prop)->Prop:=fun o i v H Q=>∃do' di dv g ρ,Rl K ρ g H/\c8 K ρ H do' o/\c8 K ρ H di i/\c8 K ρ H dv v/\aa8 do' di dv g (fun g'=>∀ρ' H',Ext ρ H ρ' H'->Rl K ρ' g' H'->Q H')
theorem a79(hu:X.A.units+100<cLine):aS8 X (bs7 X.K):=by
 intro pins s σ H o i v ov iv u Q I ro ri rv h;obtain⟨do',di,dv,g,ρ,R,r1,r2,r3,g',h,q⟩:=h;rcases h with⟨a,i',l,j,rfl,rfl,hl,hj,rfl⟩|⟨a,kvs,c,rfl,ha,hc,hz,rfl⟩
 ·obtain⟨a',rfl,ha⟩:=r1.i5;obtain rfl:=r2.i7;obtain⟨vs,z,rs⟩:=R.lst hl ha;obtain⟨R',e'⟩:=R.write hl ha (rs.set r3 j);exact set_list pins s σ H _ _ _ ov iv u Q I ro ri rv ⟨_,vs,_,j,rfl,rfl,z,by rw[<- rs.length];exact hj,q ρ _ e' R'⟩
 ·obtain⟨a',rfl,ra⟩:=r1.i5;obtain⟨vs,z,rs⟩:=R.dic ha ra;have:=Q8 hc r2;subst this;obtain⟨R',e'⟩:=R.put (o':=.dic (putD kvs c dv)) (u:=.dK (putK vs c v)) ha rfl ra (rs.put r3);cases ro;exact aJ6 (by omega) I (ai3.k z (by rw[<- rs.length];exact Y2 hz)) ri rv fun s' I'=>⟨_,I',q ρ _ e' R'⟩
theorem bd7:i8 X (.builtin "len") (rN X.K .len):=by
 intro pins s σ H xs us Q I r h;obtain⟨ds,g,ρ,R,rs,d',g',⟨rfl,h⟩,q⟩:=h;rcases h with⟨x,l,rfl,hl,rfl⟩|⟨a,kvs,rfl,ha,rfl⟩|⟨x,rfl,hz,rfl⟩
 ·obtain⟨v,rfl,rv⟩:=rs.one;obtain⟨a,vs,rfl,rl,h⟩:=ad1 R rv hl;refine as7 pins s σ H _ us Q I r ⟨_,_,rfl,?_,by rw[<- rl.length];exact q.now R (.int _)⟩;exact h.imp (fun z=>z.2) (fun z=>z.2.sq)
 ·obtain⟨v,rfl,rv⟩:=rs.one;obtain⟨a',rfl,ra⟩:=rv.i5;obtain⟨vs,z,rk⟩:=R.dic ha ra;exact aK5 pins s σ H _ us Q I r ⟨_,_,rfl,z,by rw[<- rk.length];exact q.now R (.int _)⟩
 ·obtain⟨v,rfl,rv⟩:=rs.one;obtain rfl:=rv.x8;exact as6 pins s σ H _ us Q I r ⟨_,rfl,j3 hz,q.now R (.int _)⟩
theorem a17:i8 X (.type "list") (rN X.K .list):=by
 intro pins s σ H xs us Q I r h;obtain⟨ds,g,ρ,R,rs,d',g',⟨x,l,rfl,hl,rfl,rfl⟩,q⟩:=h;obtain⟨v,rfl,rv⟩:=rs.one;obtain⟨a,vs,rfl,rl,h⟩:=ad1 R rv hl;exact as5 pins s σ H _ us Q I r ⟨_,_,rfl,h.imp (fun z=>z.2) (fun z=>z.2.sq),fun p hp=>q.new R hp rl⟩
theorem aL7:i8 X (.type "tuple") (rN X.K .tuple):=by
 intro pins s σ H xs us Q I r h;obtain⟨ds,g,ρ,R,rs,d',g',⟨x,l,rfl,hl,rfl,rfl⟩,q⟩:=h;obtain⟨v,rfl,rv⟩:=rs.one;obtain⟨a,vs,rfl,rl,h⟩:=ad1 R rv hl;refine al5 pins s σ H _ us Q I r ⟨a,vs,rfl,?_⟩;exact h.imp (fun z=>⟨z.2,fun p hp=>q.tup R hp rl⟩) (fun z=>⟨z.2.sq,q.now R (.tup z.2 rl)⟩)
theorem a23:i8 X (.builtin "isinstance") (rN X.K .isin):=by
 intro pins s σ H xs us Q I r h;obtain⟨ds,g,ρ,R,rs,d',g',⟨x,c,b,rfl,hc,hb,rfl,rfl⟩,q⟩:=h;obtain⟨v,w,rfl,r1,r2⟩:=rs.two;obtain rfl:=r2.bh7;have fin:=q.now R (.bl b);have go:∀(t:Value) (v:V),TyOf X.K H v t->PySem.W.kitOne X.K t (.type c)=some b->Vals [v,V.ty c] us->wpAny (model X.prog X.w) X.A (call (.builtin "isinstance") us) (EP X pins σ Q) X.xe s :=
  fun t v ht hk r=>au4 pins s σ H _ us Q I r ⟨v,t,c,b,rfl,ht,hk,fin⟩
 simp only[List.mem_cons,List.mem_nil_iff,or_false] at hc;cases r1 with
 |non=>refine go _ _ .non ?_ r;cases hb;rcases hc with rfl|rfl|rfl|rfl|rfl<;>rfl
 |bl y=>refine go _ _ (.bl y) ?_ r;cases hb;rcases hc with rfl|rfl|rfl|rfl|rfl<;>rfl
 |int y=>refine go _ _ (.int y) ?_ r;cases hb;rcases hc with rfl|rfl|rfl|rfl|rfl<;>rfl
 |str y=>refine go _ _ (.str y) ?_ r;cases hb;rcases hc with rfl|rfl|rfl|rfl|rfl<;>rfl
 |ty _=>cases hb
 |tup ht rs =>
  cases hb;rcases ht with ht|ht
  ·refine go _ _ (.tup ht) ?_ r;rcases hc with rfl|rfl|rfl|rfl|rfl<;>rfl
  ·obtain⟨o,its,n,lk,hcl,_⟩:=ht;obtain⟨u,w',rfl,ru,rw'⟩:=vals2 r;cases (show w'=Value.type c from rw');cases ru;have hk:PySem.W.kitOne X.K (.type "tuple") (.type c)=some (c=="tuple"):=by rcases hc with rfl|rfl|rfl|rfl|rfl<;>rfl
   exact PySem.W.kia_one PySem.W.kitx_tuple I.kIn ⟨o,I.kIn _ _ lk,hcl⟩ hk (fun z=>nomatch z) fun tk=>⟨.bl _,H,I.tok tk,rfl,fin⟩
 |@ref i a ha =>
  have hb2:∃m,g'[i]?=some (.lst m)/\b=(c=="list"):=by
   simp only[W9] at hb;split at hb
   ·exact⟨_,by assumption,(Option.some.inj hb).symm⟩
   ·cases hb
  obtain⟨m,e,rfl⟩:=hb2;obtain⟨vs,z,_⟩:=R.lst e ha;refine go _ _ (.lst z) ?_ r;rcases hc with rfl|rfl|rfl|rfl|rfl<;>rfl
theorem aC5:∀{l:List D} {b:Bool},O8 l=some b->∃bs:List Bool,l=bs.map D.bl/\b=bs.all id:=by
 intro l
 induction l with
 |nil=>intro b h;cases h;exact⟨[],rfl,rfl⟩
 |cons d r ih =>
  intro b h;cases d<;>first|(cases h;done)|skip
  rename_i c;simp only[O8] at h;cases e:O8 r with
  |none=>rw[e] at h;cases h
  |some b' =>
   rw[e] at h;cases h;obtain⟨bs,rfl,rfl⟩:=ih e;exact⟨c::bs,rfl,by simp⟩
theorem a9.bls{K ρ H}:∀{bs:List Bool} {vs:List V},a9 K ρ H (bs.map D.bl) vs->vs=bs.map V.bl:=by
 intro bs
 induction bs with
 |nil=>intro vs h;cases h;rfl
 |cons b r ih =>
  intro vs h;cases h with
  |cons h rr=>rw[ih rr,h.E7];rfl
theorem bg6(hc:X.calm=true):i8 X (.builtin "all") (rN X.K .all):=by
 intro pins s σ H xs us Q I r h;obtain⟨ds,g,ρ,R,rs,d',g',⟨a,l,b,rfl,hl,hb,rfl,rfl⟩,q⟩:=h;obtain⟨bs,rfl,rfl⟩:=aC5 hb;obtain⟨v,rfl,rv⟩:=rs.one;obtain⟨a',rfl,ra⟩:=rv.i5;obtain⟨vs,hq,rs⟩:=R.items hl ra;have:=rs.bls;subst this;exact aK7 hc pins s σ H _ us Q I r ⟨_,bs,rfl,hq,q.now R (.bl _)⟩
theorem aC4:∀{l:List D} {b:Bool},O7 l=some b->∃bs:List Bool,l=bs.map D.bl/\b=bs.any id:=by
 intro l
 induction l with
 |nil=>intro b h;cases h;exact⟨[],rfl,rfl⟩
 |cons d r ih =>
  intro b h;cases d<;>first|(cases h;done)|skip
  rename_i c;simp only[O7] at h;cases e:O7 r with
  |none=>rw[e] at h;cases h
  |some c' =>
   rw[e] at h;cases h;obtain⟨bs,rfl,rfl⟩:=ih e;exact⟨c::bs,rfl,rfl⟩
theorem bg5(hc:X.calm=true):i8 X (.builtin "any") (rN X.K .any):=by
 intro pins s σ H xs us Q I r h;obtain⟨ds,g,ρ,R,rs,d',g',⟨a,l,b,rfl,hl,hb,rfl,rfl⟩,q⟩:=h;obtain⟨bs,rfl,rfl⟩:=aC4 hb;obtain⟨v,rfl,rv⟩:=rs.one;obtain⟨a',rfl,ra⟩:=rv.i5;obtain⟨vs,hq,rs⟩:=R.items hl ra;have:=rs.bls;subst this;exact aK6 hc pins s σ H _ us Q I r ⟨_,bs,rfl,hq,q.now R (.bl _)⟩
theorem f9.keys{α:Type}{K ρ H}{ds:List (α×D)}{vs:List (α×V)}(h:f9 K ρ H ds vs):ds.map (·.1)=vs.map (·.1):=by
 induction h with
 |nil=>rfl
 |cons _ _ ih=>rw[List.map_cons,List.map_cons,ih]
theorem aq7{K ρ H}:∀(ns:List Int),a9 K ρ H (ns.map D.int) (ns.map V.int)
 |[]=>.nil
 |_::r=>.cons (.int _) (aq7 r)
theorem aM3(hc:X.calm=true):i8 X (.builtin "sorted") (rN X.K .sortd):=by
 intro pins s σ H xs us Q I r h;obtain⟨ds,g,ρ,R,rs,d',g',⟨a,kvs,ns,rfl,ha,hk,hn,rfl,rfl⟩,q⟩:=h;obtain⟨v,rfl,rv⟩:=rs.one;obtain⟨a',rfl,ra⟩:=rv.i5;obtain⟨vs,z1,rk⟩:=R.dic ha ra;exact ab5 hc pins s σ H _ us Q I r ⟨_,vs,ns,rfl,z1,rk.keys.symm.trans hk,hn,fun p hp=>q (ρ++[p]) _ _ (C4 hp) (R.new hp (o:=.lst ((A1 ns).map .int)) (u:=.lst ((A1 ns).map V.int)) (aq7 _)) (.ref (R.u3 p))⟩
theorem bd2(hc:X.calm=true):i8 X (.builtin "max") (rN X.K .max):=by
 intro pins s σ H xs us Q I r h;obtain⟨ds,g,ρ,R,rs,d',g',⟨i,j,rfl,rfl,rfl⟩,q⟩:=h;obtain⟨v,w,rfl,r1,r2⟩:=rs.two;obtain rfl:=r1.i7;obtain rfl:=r2.i7;exact aK4 hc pins s σ H _ us Q I r ⟨i,j,rfl,q.now R (.int _)⟩
theorem bd1(hc:X.calm=true):i8 X (.builtin "min") (rN X.K .min):=by
 intro pins s σ H xs us Q I r h;obtain⟨ds,g,ρ,R,rs,d',g',⟨i,j,rfl,rfl,rfl⟩,q⟩:=h;obtain⟨v,w,rfl,r1,r2⟩:=rs.two;obtain rfl:=r1.i7;obtain rfl:=r2.i7;exact aK3 hc pins s σ H _ us Q I r ⟨i,j,rfl,q.now R (.int _)⟩
theorem be6:i8 X (.type "int") (rN X.K .int):=by
 intro pins s σ H xs us Q I r h;obtain⟨ds,g,ρ,R,rs,d',g',⟨rfl,h⟩,q⟩:=h;rcases h with⟨i,rfl,rfl⟩|⟨b,rfl,rfl⟩
 ·obtain⟨v,rfl,rv⟩:=rs.one;obtain rfl:=rv.i7;exact ak4 pins s σ H _ us Q I r (.inl ⟨i,rfl,q.now R (.int _)⟩)
 ·obtain⟨v,rfl,rv⟩:=rs.one;obtain rfl:=rv.E7;exact ak4 pins s σ H _ us Q I r (.inr ⟨b,rfl,q.now R (.int _)⟩)
theorem a66:i8 X (.type "str") (rN X.K .str):=by
 intro pins s σ H xs us Q I r h;obtain⟨ds,g,ρ,R,rs,d',g',⟨i,rfl,hi,rfl,rfl⟩|⟨x,rfl,rfl,rfl⟩,q⟩:=h
 ·obtain⟨v,rfl,rv⟩:=rs.one;obtain rfl:=rv.i7;exact as4 pins s σ H _ us Q I r ⟨i,rfl,hi,q.now R (.str _)⟩
 ·obtain⟨v,rfl,rv⟩:=rs.one;obtain rfl:=rv.x8;obtain⟨u,rfl,t,rfl⟩:=vals1 r;exact PySem.P.str_of_str ⟨.str _,H,I,⟨_,rfl⟩,q.now R (.str _)⟩
noncomputable def rM(K:PySem.W.Frag)(p:Pr):V->List V->Hp->VK->Prop:=fun x xs H Q=>∃d ds g ρ,Rl K ρ g H/\c8 K ρ H d x/\a9 K ρ H ds xs/\prP p (d::ds) g (LQ K ρ H Q)
theorem H9{a b:D}{l m:List D}(h:a::l=b::m):a=b/\l=m:=by cases h;exact⟨rfl,rfl⟩
theorem aL0:MtR X "list.append" (rM X.K .append):=by
 intro pins s σ H x xs v us Q I rx r h;obtain⟨d,ds,g,ρ,R,rd,rs,d',g',⟨a,y,l,ex,ha,hz,rfl,rfl⟩,q⟩:=h;obtain⟨rfl,rfl⟩:=H9 ex;obtain⟨a',rfl,ra⟩:=rd.i5;obtain⟨w,rfl,rw'⟩:=rs.one;obtain⟨vs,z1,rv⟩:=R.lst ha ra;obtain⟨R2,e2⟩:=R.write ha ra (rv.append (.cons rw' .nil));exact aH5 pins s σ H _ _ v us Q I rx r ⟨_,vs,_,rfl,rfl,z1,by rw[<- rv.length];exact Y2 hz,q ρ _ _ e2 R2 .non⟩
theorem aJ2:MtR X "list.extend" (rM X.K .extend):=by
 intro pins s σ H x xs v us Q I rx r h;obtain⟨d,ds,g,ρ,R,rd,rs,d',g',⟨a,b,l,m,ex,ha,hb,hz,rfl,rfl⟩,q⟩:=h;obtain⟨rfl,rfl⟩:=H9 ex;obtain⟨a',rfl,ra⟩:=rd.i5;obtain⟨w,rfl,rw'⟩:=rs.one;obtain⟨b',rfl,rb⟩:=rw'.i5;obtain⟨vs,z1,rv⟩:=R.lst ha ra;obtain⟨ws,z2,rt⟩:=R.lst hb rb;obtain⟨R2,e2⟩:=R.write ha ra (rv.append rt);exact aH4 pins s σ H _ _ v us Q I rx r ⟨_,_,vs,ws,rfl,rfl,z1,z2,by rw[<- rv.length,<- rt.length];exact j3 hz,q ρ _ _ e2 R2 .non⟩
theorem aS0:MtR X "list.clear" (rM X.K .clear):=by
 intro pins s σ H x xs v us Q I rx r h;obtain⟨d,ds,g,ρ,R,rd,rs,d',g',⟨a,l,ex,ha,rfl,rfl⟩,q⟩:=h;obtain⟨rfl,rfl⟩:=H9 ex;obtain⟨a',rfl,ra⟩:=rd.i5;cases rs;obtain⟨vs,z1,rv⟩:=R.lst ha ra;obtain⟨R2,e2⟩:=R.write ha ra (a9.nil);exact aQ1 pins s σ H _ _ v us Q I rx r ⟨_,vs,rfl,rfl,z1,q ρ _ _ e2 R2 .non⟩
theorem aZ7:MtR X "list.pop" (rM X.K .pop0):=by
 intro pins s σ H x xs v us Q I rx r h;obtain⟨d,ds,g,ρ,R,rd,rs,y,g',⟨a,l,ex,ha,rfl⟩,q⟩:=h;obtain⟨rfl,rfl⟩:=H9 ex;obtain⟨a',rfl,ra⟩:=rd.i5;cases rs;obtain⟨vs,z1,rv⟩:=R.lst ha ra;obtain⟨w,hw,rw'⟩:=rv.get (i:=l.length) (d:=y) (by simp);have hl:vs.length=l.length+1:=by rw[<- rv.length];simp
 have rl:a9 X.K ρ H l vs.dropLast:=by
  have:=rv.erase l.length;rw[List.eraseIdx_append_of_length_le (Nat.le_refl _)] at this;rw[show vs.eraseIdx l.length=vs.dropLast by rw[List.eraseIdx_eq_dropLast];omega] at this;simpa using this
 obtain⟨R2,e2⟩:=R.write ha ra rl;exact bc9 pins s σ H _ _ v us Q I rx r ⟨_,vs,w,rfl,rfl,z1,by rw[hl];exact hw,q ρ _ _ e2 R2 (rw'.ext e2)⟩
theorem aR5:i8 X (.type "dict") (rN X.K .dcopy):=by
 intro pins s σ H xs us Q I r h;obtain⟨ds,g,ρ,R,rs,d',g',⟨a,kvs,rfl,ha,rfl,rfl⟩,q⟩:=h;obtain⟨v,rfl,rv⟩:=rs.one;obtain⟨a',rfl,ra⟩:=rv.i5;obtain⟨vs,z1,rk⟩:=R.dic ha ra;cases r with
 |cons r rr =>
 cases rr;cases r;refine aR6 I (.inl z1) fun p s' hp I'=>⟨.ref p,_,I',rfl,?_⟩
 exact q (ρ++[p]) _ _ (C4 hp) (R.new hp (o:=.dic kvs) (u:=.dK vs) rk) (.ref (R.u3 p))
theorem bf2(hu:X.A.units+100<cLine):MtR X "dict.get" (rM X.K .get):=by
 intro pins s σ H x xs v us Q I rx r h;obtain⟨d,ds,g,ρ,R,rd,rs,d',g',⟨a,y,z,kvs,c,ex,ha,hc,rfl,rfl⟩,q⟩:=h;obtain⟨rfl,rfl⟩:=H9 ex;obtain⟨a',rfl,ra⟩:=rd.i5;obtain⟨w1,w2,rfl,r1,r2⟩:=rs.two;obtain⟨vs,z1,rv⟩:=R.dic ha ra;have:=Q8 hc r1;subst this;obtain⟨u1,u2,rfl,p1,p2⟩:=vals2 r;cases rx;refine bg0 (by omega) I (F1.k z1) p1 p2 fun w' s4 I4 rw'=>⟨_,H,I4,rw',q.now R ?_⟩
 have q:=rv.val c;cases e1:o7 kvs c with
 |none =>
  rw[e1] at q;cases e2:C3 vs c with
  |none=>exact r2
  |some w=>rw[e2] at q;exact q.elim
 |some d' =>
  rw[e1] at q;obtain⟨w,hw,q⟩:=q.some;rw[hw];exact q
theorem aO5:MtR X "list.pop" (rM X.K .pop):=by
 intro pins s σ H x xs v us Q I rx r h;obtain⟨d,ds,g,ρ,R,rd,rs,y,g',⟨a,i,l,k,ex,ha,h1,h2,hk,hy,rfl⟩,q⟩:=h;obtain⟨rfl,rfl⟩:=H9 ex;obtain⟨a',rfl,ra⟩:=rd.i5;obtain⟨w,rfl,rw'⟩:=rs.one;obtain rfl:=rw'.i7;obtain⟨vs,z1,rv⟩:=R.lst ha ra;obtain⟨w,hw,rw'⟩:=rv.get hy;obtain⟨R2,e2⟩:=R.write ha ra (rv.erase k);exact aQ0 pins s σ H _ _ v us Q I rx r ⟨_,vs,i,k,w,rfl,rfl,z1,h1,h2,by rw[<- rv.length];exact hk,hw,q ρ _ _ e2 R2 (rw'.ext e2)⟩
theorem a9.strs{K ρ H}:∀{ys:List Str} {vs:List V},a9 K ρ H (ys.map D.str) vs->vs=ys.map V.str
 |[],_,.nil=>rfl
 |_::_,_,.cons h r=>by cases h;rw[a9.strs r];rfl
theorem ty_list{d:D}{v:V}{g:G}{ρ:List Addr}{H:Hp}(R:Rl X.K ρ g H)(r:c8 X.K ρ H d v)(h:∃a l,d=.ref a/\d4 g a=some l):tyV X.K "list" v H:=by
 obtain⟨a,l,rfl,hl⟩:=h;obtain⟨a',rfl,ra⟩:=r.i5;obtain⟨vs,hq,_⟩:=R.items hl ra;exact .inl ⟨rfl,vs,hq⟩
theorem ty_dict{d:D}{v:V}{g:G}{ρ:List Addr}{H:Hp}(R:Rl X.K ρ g H)(r:c8 X.K ρ H d v)(h:mkP .get d g):tyV X.K "dict" v H:=by
 obtain⟨a,l,rfl,hl⟩:=h;obtain⟨a',rfl,ra⟩:=r.i5;obtain⟨vs,hq,_⟩:=R.dic hl ra;exact .inr (.inr (.inl ⟨rfl,.inl ⟨vs,hq⟩⟩))
end
end M

namespace M
open PySem L2 PySem.Spec PyProof.Rows
noncomputable abbrev XKE:=List Str×XK
noncomputable def LX(K:PySem.W.Frag)(ρ:List Addr)(H:Hp)(Ξ:XKE):KX:=fun x g'=>∀ρ' H' C,Ext ρ H ρ' H'->Rl K ρ' g' H'->x.cls∈Ξ.1->l6 K x.cls C->Ξ.2 (.ref C) none H'
theorem LX.ext{K:PySem.W.Frag}{ρ ρ1:List Addr}{H H1:Hp}{Ξ:XKE}(e:Ext ρ H ρ1 H1){x:Xn}{g:G}(h:LX K ρ H Ξ x g):LX K ρ1 H1 Ξ x g:=fun ρ' H' C e' R hm c=>h ρ' H' C (e.trans e') R hm c
noncomputable abbrev XK0(ex:List Str):XKE:=(ex,fun _ _ _=>False)
noncomputable def LE(K:PySem.W.Frag)(Ξ:XKE)(t:S->G->KD->KX->Prop):TE:=fun σv H Q=>∃σ g ρ,j8 K ρ H σ σv/\Rl K ρ g H/\t σ g (LQ K ρ H Q) (LX K ρ H Ξ)
noncomputable def LT(K:PySem.W.Frag)(Ξ:XKE)(t:S->G->(Bool->G->Prop)->KX->Prop):TT:=fun σv H Q=>∃σ g ρ,j8 K ρ H σ σv/\Rl K ρ g H/\t σ g (fun b g'=>∀ρ' H',Ext ρ H ρ' H'->Rl K ρ' g' H'->Q b H') (LX K ρ H Ξ)
noncomputable def LA(K:PySem.W.Frag)(Ξ:XKE)(t:S->G->(List D->G->Prop)->KX->Prop):TA:=fun σv H Q=>∃σ g ρ,j8 K ρ H σ σv/\Rl K ρ g H/\t σ g (fun ds g'=>∀ρ' H' vs,Ext ρ H ρ' H'->Rl K ρ' g' H'->a9 K ρ' H' ds vs->Q vs H') (LX K ρ H Ξ)
noncomputable def X3(K:PySem.W.Frag)(ρ0:List Addr)(H0:Hp)(k:IK)(J:It):Prop:=∀ρ g H,Ext ρ0 H0 ρ H->Rl K ρ g H->∀i,(k.at i g=some none->J.stop i H) /\
 ∀d,k.at i g=some (some d)->J.go i H/\∀v H',J.yld i H v H'->Ext ρ H ρ H'/\Rl K ρ g H'/\c8 K ρ H' d v
noncomputable def LI(K:PySem.W.Frag)(Ξ:XKE)(t:S->G->(IK->G->Prop)->KX->Prop):TI:=fun σv H R=>∃σ g ρ,j8 K ρ H σ σv/\Rl K ρ g H/\t σ g (fun k g'=>∀ρ' H' J,Ext ρ H ρ' H'->Rl K ρ' g' H'->X3 K ρ' H' k J->R J H') (LX K ρ H Ξ)
noncomputable def LG(K:PySem.W.Frag)(t:MT):TG:=fun v σv H Q=>∃d σ g ρ,j8 K ρ H σ σv/\Rl K ρ g H/\c8 K ρ H d v/\tgP t d σ (fun σ'=>∀σv',j8 K ρ H σ' σv'->Q σv' H)
noncomputable def LN(K:PySem.W.Frag)(ρ:List Addr)(H:Hp)(N:L2.Ends):Ends where
 nx:=fun σ' g'=>∀ρ' H' σv',Ext ρ H ρ' H'->Rl K ρ' g' H'->j8 K ρ' H' σ' σv'->N.nx σv' H'
 rt:=LQ K ρ H N.rt
 bk:=fun σ' g'=>∀ρ' H' σv',Ext ρ H ρ' H'->Rl K ρ' g' H'->j8 K ρ' H' σ' σv'->N.bk σv' H'
 ct:=fun σ' g'=>∀ρ' H' σv',Ext ρ H ρ' H'->Rl K ρ' g' H'->j8 K ρ' H' σ' σv'->N.ct σv' H'
noncomputable def LS(K:PySem.W.Frag)(Ξ:XKE)(t:Ends->S->G->KX->Prop):TS:=fun N σv H=>∃σ g ρ,j8 K ρ H σ σv/\Rl K ρ g H/\t (LN K ρ H N) σ g (LX K ρ H Ξ)
end M
namespace L2
open PySem PySem.Spec PyProof.Rows
section
variable{X:Cx}{e:Expr}
theorem PE.imp{t t':TE}(h:PE X e t)(i:∀σ H Q,t' σ H Q->t σ H Q):PE X e t':=fun pins s σ H Q I q=>h pins s σ H Q I (i σ H Q q)
theorem PT.imp{t t':TT}(h:PT X e t)(i:∀σ H Q,t' σ H Q->t σ H Q):PT X e t':=fun pins s σ H Q I q=>h pins s σ H Q I (i σ H Q q)
theorem PW.imp{t t':TT}(h:PW X e t)(i:∀σ H Q,t' σ H Q->t σ H Q):PW X e t':=fun w pins s σ H Q I q=>h w pins s σ H Q I (i σ H Q q)
theorem PA.imp{es:List Expr}{t t':TA}(h:PA X es t)(i:∀σ H Q,t' σ H Q->t σ H Q):PA X es t':=fun p pins s σ H Q I q=>h p pins s σ H Q I (i σ H Q q)
theorem PO.imp{e:Option Expr}{t t':TO}(h:PO X e t)(i:∀σ H Q,t' σ H Q->t σ H Q):PO X e t':=fun pins s σ H Q I q=>h pins s σ H Q I (i σ H Q q)
theorem PTs.imp{es:List Expr}{t t':TT}(h:PTs X es t)(i:∀σ H Q,t' σ H Q->t σ H Q):PTs X es t':=fun pins s σ H Q I q=>h pins s σ H Q I (i σ H Q q)
theorem PI.imp{tg:Expr}{t t':TI}(h:PI X tg e t)(i:∀σ H Q,t' σ H Q->t σ H Q):PI X tg e t':=fun pins s σ H Q I q=>h pins s σ H Q I (i σ H Q q)
theorem PG.imp{t t':TG}(h:PG X e t)(i:∀v σ H Q,t' v σ H Q->t v σ H Q):PG X e t':=fun pins s σ H v u Q I r q=>h pins s σ H v u Q I r (i v σ H Q q)
theorem PS.imp{st:Stmt}{t t':TS}(h:PS X st t)(i:∀N σ H,t' N σ H->t N σ H):PS X st t':=fun pins s σ H N I q=>h pins s σ H N I (i N σ H q)
theorem PSs.imp{st:List Stmt}{t t':TS}(h:PSs X st t)(i:∀N σ H,t' N σ H->t N σ H):PSs X st t':=fun pins s σ H N I q=>h pins s σ H N I (i N σ H q)
end
end L2
namespace M
open PySem L2 PySem.Spec PyProof.Rows
section
variable{K:PySem.W.Frag}{Ξ:XKE}{P:Sig}(hP:i6 P){ρ ρ0:List Addr}{H H0:Hp}{σ:S}{σv:L2.St}{g:G}{m:ME}
include hP
theorem thE{Q0:KD}{Q:VK}(s:j8 K ρ H σ σv)(R:Rl K ρ g H)(e0:Ext ρ0 H0 ρ H)(h:wpE P m σ g Q0 (LX K ρ0 H0 Ξ))(k:∀x g1 ρ1 H1 v1,Ext ρ H ρ1 H1->Rl K ρ1 g1 H1->c8 K ρ1 H1 x v1->Q0 x g1->Q v1 H1):LE K Ξ (wpE P m) σv H Q :=
 ⟨σ,g,ρ,s,R,b7 hP m _ _ _ _ _ _ (fun x g1 h ρ1 H1 v1 e1 R1 r1=>k x g1 ρ1 H1 v1 e1 R1 r1 h) (fun _ _ z=>LX.ext e0 z) h⟩
theorem thA{Q0:List D->G->Prop}{Q:List V->Hp->Prop}(s:j8 K ρ H σ σv)(R:Rl K ρ g H)(e0:Ext ρ0 H0 ρ H)(h:wpA P m σ g Q0 (LX K ρ0 H0 Ξ))(k:∀x g1 ρ1 H1 v1,Ext ρ H ρ1 H1->Rl K ρ1 g1 H1->a9 K ρ1 H1 x v1->Q0 x g1->Q v1 H1):LA K Ξ (wpA P m) σv H Q :=
 ⟨σ,g,ρ,s,R,r9 hP m _ _ _ _ _ _ (fun x g1 h ρ1 H1 v1 e1 R1 r1=>k x g1 ρ1 H1 v1 e1 R1 r1 h) (fun _ _ z=>LX.ext e0 z) h⟩
theorem thT{Q0:Bool->G->Prop}{Q:Bool->Hp->Prop}(s:j8 K ρ H σ σv)(R:Rl K ρ g H)(e0:Ext ρ0 H0 ρ H)(h:wpT P m σ g Q0 (LX K ρ0 H0 Ξ))(k:∀t g1 ρ1 H1,Ext ρ H ρ1 H1->Rl K ρ1 g1 H1->Q0 t g1->Q t H1):LT K Ξ (wpT P m) σv H Q :=
 ⟨σ,g,ρ,s,R,n8 hP m _ _ _ _ _ _ (fun t g1 h ρ1 H1 e1 R1=>k t g1 ρ1 H1 e1 R1 h) (fun _ _ z=>LX.ext e0 z) h⟩
theorem thS{ms:MS}{N:L2.Ends}{N0:Ends}(s:j8 K ρ H σ σv)(R:Rl K ρ g H)(e0:Ext ρ0 H0 ρ H)(h:wpS P ms N0 σ g (LX K ρ0 H0 Ξ))(k:N0.le (LN K ρ H N)):LS K Ξ (wpS P ms) N σv H :=
 ⟨σ,g,ρ,s,R,wpS_mono hP ms _ _ _ _ _ _ k (fun _ _ z=>LX.ext e0 z) h⟩
end
theorem a9.rng{K ρ H}(lo:Int)(n:Nat):a9 K ρ H (i0 lo n) ((List.range n).map fun(k:Nat)=>V.int (lo+k)):=by
 unfold i0;have:∀l:List Nat,a9 K ρ H (l.map fun(k:Nat)=>D.int (lo+k)) (l.map fun(k:Nat)=>V.int (lo+k)):=by
  intro l
  induction l with
  |nil=>exact .nil
  |cons x r ih=>exact .cons (.int _) ih
 exact this _
section
variable{X:Cx}{Ξ:XKE}{P:Sig}(hP:i6 P){a b c e:Expr}{ma mb mc:ME}{pos:Pos}{p:Pr}
include hP
theorem ao5(h:PE X e (tOp (r2 X.K p) (LE X.K Ξ (wpE P ma)) (LE X.K Ξ (wpE P mb)))):PE X e (LE X.K Ξ (wpE P (.prim p (.cons ma (.cons mb .nil))))) :=
 h.imp fun σv H Q ⟨σ,g,ρ,s,R,h⟩=>by
  simp only[wpE,wpA] at h;exact thE hP s R (.refl _ _) h fun x g1 ρ1 H1 v1 e1 R1 r1 h=>thE hP (s.ext e1) R1 e1 h fun y g2 ρ2 H2 v2 e2 R2 r2 h =>
   ⟨x,y,g2,ρ2,R2,r1.ext e2,r2,p6 (fun d g' h=>h.ext (e1.trans e2)) h⟩
theorem a68{op:CmpOp}(h:PT X e (ay5 (tOp (r2 X.K (.cmp op)) (LE X.K Ξ (wpE P ma)) (LE X.K Ξ (wpE P mb))))):PT X e (LT X.K Ξ (wpT P (.tst (.prim (.cmp op) (.cons ma (.cons mb .nil)))))) :=
 h.imp fun σv H Q ⟨σ,g,ρ,s,R,h⟩=>by
  simp only[wpT,wpE,wpA] at h;refine thE hP s R (.refl _ _) h fun x g1 ρ1 H1 v1 e1 R1 r1 h=>thE hP (s.ext e1) R1 e1 h fun y g2 ρ2 H2 v2 e2 R2 r2 h=>?_;obtain⟨d',g',h,q⟩:=h;obtain⟨x',y',t,ex,hc,rfl,rfl⟩:=id h;refine⟨x,y,g',ρ2,R2,r1.ext e2,r2,_,_,h,fun ρ' H' v e' R' r'=>?_⟩;obtain⟨t',ht,q⟩:=q;rcases ht with⟨z,_⟩|z|⟨i,z,_⟩|⟨l,z,_⟩|⟨a,l,z,_⟩<;>cases z
  exact⟨_,r'.E7,q ρ' H' (e1.trans (e2.trans e')) R'⟩
theorem bj7{op:UnaryOp}(ha:PE X a (LE X.K Ξ (wpE P ma))):PE X (.UnaryOp op a pos) (LE X.K Ξ (wpE P (.prim (.un op) (.cons ma .nil)))) :=
 (bk9 (bl4 op) ha).imp fun σv H Q ⟨σ,g,ρ,s,R,h⟩=>by
  simp only[wpE,wpA] at h;exact thE hP s R (.refl _ _) h fun x g1 ρ1 H1 v1 e1 R1 r1 h=>⟨x,g1,ρ1,R1,r1,p6 (fun d g' h=>h.ext e1) h⟩
theorem as3{op op':CmpOp}:∀σv H Q,LE X.K Ξ (wpE P (.chain op op' ma mb mc)) σv H Q->ao0 (r2 X.K (.cmp op)) (r2 X.K (.cmp op')) (LE X.K Ξ (wpE P ma)) (LE X.K Ξ (wpE P mb)) (LE X.K Ξ (wpE P mc)) σv H Q:=fun σv H Q ⟨σ,g,ρ,s,R,h⟩=>by
 simp only[wpE] at h;refine thE hP s R (.refl _ _) h fun x g1 ρ1 H1 v1 e1 R1 r1 h=>thE hP (s.ext e1) R1 e1 h fun y g2 ρ2 H2 v2 e2 R2 r2 h=>?_;refine⟨x,y,g2,ρ2,R2,r1.ext e2,r2,p6 (fun d g3 h ρ3 H3 v3 e3 R3 r3=>?_) h⟩;obtain⟨t,rfl,h⟩:=h;obtain rfl:=r3.E7;refine⟨t,rfl,?_⟩;cases t
 ·exact h ρ3 H3 _ (e1.trans (e2.trans e3)) R3 (.bl _)
 ·exact thE hP (s.ext (e1.trans (e2.trans e3))) R3 (e1.trans (e2.trans e3)) h fun z g4 ρ4 H4 v4 e4 R4 r4 h =>
   ⟨y,z,g4,ρ4,R4,r2.ext (e3.trans e4),r4,p6 (fun d g' h=>h.ext (e1.trans (e2.trans (e3.trans e4)))) h⟩
theorem aN4{op op':CmpOp}(hu:X.A.units+100<cLine)(ha:PE X a (LE X.K Ξ (wpE P ma)))(hb:PE X b (LE X.K Ξ (wpE P mb)))(hc:PE X c (LE X.K Ξ (wpE P mc)))(hm:lastMarks [op,op'] [b,c]=false) :
  PE X (.Compare a [op,op'] [b,c] pos) (LE X.K Ξ (wpE P (.chain op op' ma mb mc))):=(aP4 (Q5 hu op) (Q5 hu op') ha hb hc hm).imp (as3 hP)
theorem aS1{op op':CmpOp}{σ:S}{g:G}{Q:Bool->G->Prop}{E:KX}(h:wpT P (.tst (.chain op op' ma mb mc)) σ g Q E):wpE P (.chain op op' ma mb mc) σ g (fun d g'=>∃t,d=.bl t/\Q t g') E:=by
 have one:∀{o:CmpOp} {xs:List D} {g:G},prP (.cmp o) xs g (fun d g1=>O9 g1 d fun b=>Q b g1)->prP (.cmp o) xs g fun d g'=>∃t,d=.bl t/\Q t g':=by
  intro o xs g h;obtain⟨d',g',h,t',ht,q⟩:=h;obtain⟨x',y',t,ex,hc,rfl,rfl⟩:=id h;refine⟨_,_,h,t',?_,q⟩;rcases ht with⟨z,_⟩|z|⟨i,z,_⟩|⟨l,z,_⟩|⟨a,l,z,_⟩<;>first|exact z|cases z
 simp only[wpT,wpE] at h ⊢;refine b7 hP ma _ _ _ _ _ _ (fun x g1 h=>b7 hP mb _ _ _ _ _ _ (fun y g2 h=>p6 (fun z g3 h=>?_) h) (fun _ _ z=>z) h) (fun _ _ z=>z) h;obtain⟨t,rfl,h⟩:=h;refine⟨t,rfl,?_⟩;cases t
 ·obtain⟨b,hb,q⟩:=(show O9 g3 (.bl false) fun b=>Q b g3 from h)
  rcases hb with⟨z,_⟩|z|⟨i,z,_⟩|⟨l,z,_⟩|⟨a,l,z,_⟩<;>first|(cases z;exact⟨_,rfl,q⟩)|cases z
 ·exact b7 hP mc _ _ _ _ _ _ (fun w g4 h=>one h) (fun _ _ z=>z) h
theorem aM2{op op':CmpOp}(hu:X.A.units+100<cLine)(ha:PE X a (LE X.K Ξ (wpE P ma)))(hb:PE X b (LE X.K Ξ (wpE P mb)))(hc:PE X c (LE X.K Ξ (wpE P mc)))(hm:lastMarks [op,op'] [b,c]=false) :
  PT X (.Compare a [op,op'] [b,c] pos) (LT X.K Ξ (wpT P (.tst (.chain op op' ma mb mc)))) :=
 (aO0 (Q5 hu op) (Q5 hu op') ha hb hc hm).imp fun σv H Q ⟨σ,g,ρ,s,R,h⟩ =>
  as3 hP σv H _ (thE hP s R (.refl _ _) (aS1 hP h) fun x g1 ρ1 H1 v1 e1 R1 r1 h=>by
   obtain⟨t,rfl,h⟩:=h;exact ⟨t,r1.E7,h ρ1 H1 e1 R1⟩)
theorem a88{rest:List Expr}(ha:PE X a (LE X.K Ξ (wpE P ma)))(hb:PE X (.BoolOp .And (b::rest) pos) (LE X.K Ξ (wpE P mb))):PE X (.BoolOp .And (a::b::rest) pos) (LE X.K Ξ (wpE P (.and_ ma mb))) :=
 (bb6 ha hb).imp fun σv H Q ⟨σ,g,ρ,s,R,h⟩=>by
  simp only[wpE] at h;refine thE hP s R (.refl _ _) h fun x g1 ρ1 H1 v1 e1 R1 r1 h=>?_;obtain⟨t,rfl,h⟩:=h;refine⟨t,r1.E7,?_⟩;cases t
  ·exact h ρ1 H1 _ e1 R1 (.bl _)
  ·exact thE hP (s.ext e1) R1 e1 h fun y g2 ρ2 H2 v2 e2 R2 r2 h=>h ρ2 H2 v2 (e1.trans e2) R2 r2
theorem bj8{rest:List Expr}(ha:PE X a (LE X.K Ξ (wpE P ma)))(hb:PE X (.BoolOp .Or (b::rest) pos) (LE X.K Ξ (wpE P mb))):PE X (.BoolOp .Or (a::b::rest) pos) (LE X.K Ξ (wpE P (.or_ ma mb))) :=
 (bl0 ha hb).imp fun σv H Q ⟨σ,g,ρ,s,R,h⟩=>by
  simp only[wpE] at h;refine thE hP s R (.refl _ _) h fun x g1 ρ1 H1 v1 e1 R1 r1 h=>?_;obtain⟨t,rfl,h⟩:=h;refine⟨t,r1.E7,?_⟩;cases t
  ·exact thE hP (s.ext e1) R1 e1 h fun y g2 ρ2 H2 v2 e2 R2 r2 h=>h ρ2 H2 v2 (e1.trans e2) R2 r2
  ·exact h ρ1 H1 _ e1 R1 (.bl _)
theorem a82(ha:PE X a (LE X.K Ξ (wpE P ma))):PE X (.UnaryOp .Not a pos) (LE X.K Ξ (wpE P (.not_ ma))) :=
 (bb0 ha).imp fun σv H Q ⟨σ,g,ρ,s,R,h⟩=>by
  simp only[wpE] at h;refine thE hP s R (.refl _ _) h fun x g1 ρ1 H1 v1 e1 R1 r1 h=>?_;obtain⟨t,rfl,h⟩:=h;exact⟨t,r1.E7,h ρ1 H1 _ e1 R1 (.bl _)⟩
theorem a83(hc:PT X c (LT X.K Ξ (wpT P mc)))(ha:PE X a (LE X.K Ξ (wpE P ma)))(hb:PE X b (LE X.K Ξ (wpE P mb))):PE X (.IfExp c a b pos) (LE X.K Ξ (wpE P (.ite mc ma mb))) :=
 (aP2 hc ha hb).imp fun σv H Q ⟨σ,g,ρ,s,R,h⟩=>by
  simp only[wpE] at h;refine thT hP s R (.refl _ _) h fun t g1 ρ1 H1 e1 R1 h=>?_;cases t
  ·exact thE hP (s.ext e1) R1 e1 h fun y g2 ρ2 H2 v2 e2 R2 r2 h=>h ρ2 H2 v2 (e1.trans e2) R2 r2
  ·exact thE hP (s.ext e1) R1 e1 h fun y g2 ρ2 H2 v2 e2 R2 r2 h=>h ρ2 H2 v2 (e1.trans e2) R2 r2
theorem a81{es:List Expr}{mes:ME}{k:Nat}(h:PA X es (LA X.K Ξ (wpA P mes))):PE X (.Tuple es k pos) (LE X.K Ξ (wpE P (.prim .tup mes))) :=
 (ba7 h).imp fun σv H Q ⟨σ,g,ρ,s,R,h⟩=>by
  simp only[wpE] at h;refine thA hP s R (.refl _ _) h fun ds g1 ρ1 H1 vs e1 R1 r1 h=>?_;obtain⟨d',g',⟨hz,rfl,rfl⟩,q⟩:=h;exact⟨by rw[<- r1.length];exact j3 (Nat.le_trans hz (by decide)),fun p hp=>(q.ext e1).tup R1 hp r1⟩
theorem aE6{es:List Expr}{mes:ME}(h:PA X es (LA X.K Ξ (wpA P mes))):PE X (.List es pos) (LE X.K Ξ (wpE P (.prim .lst mes))) :=
 (bb2 h).imp fun σv H Q ⟨σ,g,ρ,s,R,h⟩=>by
  simp only[wpE] at h;refine thA hP s R (.refl _ _) h fun ds g1 ρ1 H1 vs e1 R1 r1 h=>?_;obtain⟨d',g',⟨hz,rfl,rfl⟩,q⟩:=h;exact⟨by rw[<- r1.length];exact j3 (Nat.le_trans hz (by decide)),fun p hp=>(q.ext e1).new R1 hp r1⟩
theorem M7:PA X [] (LA X.K Ξ (wpA P .nil)) :=
 (ap1 (X:=X)).imp fun σv H Q ⟨σ,g,ρ,s,R,h⟩=>by
  simp only[wpA] at h;exact h ρ H [] (.refl _ _) R .nil
theorem A8{es:List Expr}{mes:ME}(ha:PE X a (LE X.K Ξ (wpE P ma)))(h:PA X es (LA X.K Ξ (wpA P mes)))(hs:starEach (a::es) X.env=(false,eval a X.env)::starEach es X.env):PA X (a::es) (LA X.K Ξ (wpA P (.cons ma mes))) :=
 (ag3 ha h hs).imp fun σv H Q ⟨σ,g,ρ,s,R,h⟩=>by
  simp only[wpA] at h;exact thE hP s R (.refl _ _) h fun x g1 ρ1 H1 v1 e1 R1 r1 h=>thA hP (s.ext e1) R1 e1 h fun xs g2 ρ2 H2 vs e2 R2 r2 h=>h ρ2 H2 _ (e1.trans e2) R2 (.cons (r1.ext e2) r2)
theorem aM7{p2:Pos}(ha:PE X a (LE X.K Ξ (wpE P ma))):PE X (.Subscript a (.Slice none none none p2) pos) (LE X.K Ξ (wpE P (.prim (.slc false false) (.cons ma .nil)))) :=
 (aa9 ay6 ha X8 X8).imp fun σv H Q ⟨σ,g,ρ,s,R,h⟩=>by
  simp only[wpE,wpA] at h;refine thE hP s R (.refl _ _) h fun x g1 ρ1 H1 v1 e1 R1 r1 h=>?_;obtain⟨d',g',⟨x',ex,h⟩,q⟩:=h;cases ex;exact⟨x,g1,ρ1,d',g',R1,r1,h,q.ext e1⟩
theorem aM5{p2:Pos}(ha:PE X a (LE X.K Ξ (wpE P ma)))(hb:PE X b (LE X.K Ξ (wpE P mb))):PE X (.Subscript a (.Slice (some b) none none p2) pos) (LE X.K Ξ (wpE P (.prim (.slc true false) (.cons ma (.cons mb .nil))))) :=
 (aa9 ay6 ha (av7 hb) X8).imp fun σv H Q ⟨σ,g,ρ,s,R,h⟩=>by
  simp only[wpE,wpA] at h;refine thE hP s R (.refl _ _) h fun x g1 ρ1 H1 v1 e1 R1 r1 h=>thE hP (s.ext e1) R1 e1 h fun y g2 ρ2 H2 v2 e2 R2 r2 h=>?_;obtain⟨d',g',⟨x',i,ex,h⟩,q⟩:=h;cases ex;exact⟨i,r2.i7,x,g2,ρ2,d',g',R2,r1.ext e2,h,q.ext (e1.trans e2)⟩
theorem aM6{p2:Pos}(ha:PE X a (LE X.K Ξ (wpE P ma)))(hb:PE X b (LE X.K Ξ (wpE P mb))):PE X (.Subscript a (.Slice none (some b) none p2) pos) (LE X.K Ξ (wpE P (.prim (.slc false true) (.cons ma (.cons mb .nil))))) :=
 (aa9 ay6 ha X8 (av7 hb)).imp fun σv H Q ⟨σ,g,ρ,s,R,h⟩=>by
  simp only[wpE,wpA] at h;refine thE hP s R (.refl _ _) h fun x g1 ρ1 H1 v1 e1 R1 r1 h=>thE hP (s.ext e1) R1 e1 h fun y g2 ρ2 H2 v2 e2 R2 r2 h=>?_;obtain⟨d',g',⟨x',i,ex,h⟩,q⟩:=h;cases ex;exact⟨i,r2.i7,x,g2,ρ2,d',g',R2,r1.ext e2,h,q.ext (e1.trans e2)⟩
theorem a67(ha:PE X a (LE X.K Ξ (wpE P ma)))(he:∀whole,isTrue a X.env whole=(do let v <- whole;standAt a.pos;holding [v] (truthy v))):PT X a (LT X.K Ξ (wpT P (.tst ma))) :=
 (aN9 ha he).imp fun σv H Q ⟨σ,g,ρ,s,R,h⟩=>by
  simp only[wpT] at h;refine thE hP s R (.refl _ _) h fun x g1 ρ1 H1 v1 e1 R1 r1 h=>?_;obtain⟨b,h1,h2⟩:=h;exact⟨b,a49 R1 r1 h1,h2 ρ1 H1 e1 R1⟩
theorem a69(ha:PT X a (LT X.K Ξ (wpT P ma))):PT X (.UnaryOp .Not a pos) (LT X.K Ξ (wpT P (.not_ ma))) :=
 (a98 ha).imp fun σv H Q ⟨σ,g,ρ,s,R,h⟩=>by
  simp only[wpT] at h;exact thT hP s R (.refl _ _) h fun t g1 ρ1 H1 e1 R1 h=>h ρ1 H1 e1 R1
theorem a65{rest:List Expr}(ha:PT X a (LT X.K Ξ (wpT P ma)))(hb:PW X (.BoolOp .And (b::rest) pos) (LT X.K Ξ (wpT P mb))):PW X (.BoolOp .And (a::b::rest) pos) (LT X.K Ξ (wpT P (.and_ ma mb))) :=
 (a97 ha hb).imp fun σv H Q ⟨σ,g,ρ,s,R,h⟩=>by
  simp only[wpT] at h;refine thT hP s R (.refl _ _) h fun t g1 ρ1 H1 e1 R1 h=>?_;cases t
  ·exact h ρ1 H1 e1 R1
  ·exact thT hP (s.ext e1) R1 e1 h fun t g2 ρ2 H2 e2 R2 h=>h ρ2 H2 (e1.trans e2) R2
theorem bj5{rest:List Expr}(ha:PT X a (LT X.K Ξ (wpT P ma)))(hb:PW X (.BoolOp .Or (b::rest) pos) (LT X.K Ξ (wpT P mb))):PW X (.BoolOp .Or (a::b::rest) pos) (LT X.K Ξ (wpT P (.or_ ma mb))) :=
 (bk6 ha hb).imp fun σv H Q ⟨σ,g,ρ,s,R,h⟩=>by
  simp only[wpT] at h;refine thT hP s R (.refl _ _) h fun t g1 ρ1 H1 e1 R1 h=>?_;cases t
  ·exact thT hP (s.ext e1) R1 e1 h fun t g2 ρ2 H2 e2 R2 h=>h ρ2 H2 (e1.trans e2) R2
  ·exact h ρ1 H1 e1 R1
theorem aW9:PTs X [] (LT X.K Ξ (wpT P .no)) :=
 (aZ1 (X:=X)).imp fun σv H Q ⟨σ,g,ρ,s,R,h⟩=>by
  simp only[wpT] at h;exact h ρ H (.refl _ _) R
theorem a87{x:Str}{v:Value}{es:List Expr}{mes:ME}{q:Pos}(hv:(∃id,v=.builtin id)\/∃T,v=.type T)(hc:i8 X v (rN X.K p))(hg:Gl X x)(hm:X.mg x=none)(hb:bootBuiltins x=some v)(ha:PA X (e::es) (LA X.K Ξ (wpA P mes)))(hn:x≠"__name__")(hd:(x==("__debug__":Str))=false)(hst:starEach (e::es) X.env=(false,eval e X.env)::starEach es X.env)(hpl:(backTo pos (starEach es X.env)).any (·.1)=false):PE X (.Call (.Name x q) (e::es) [] pos) (LE X.K Ξ (wpE P (.prim p mes))):=by
 have base:PE X (.Call (.Name x q) (e::es) [] pos) (tCB (rN X.K p) (LA X.K Ξ (wpA P mes))):=by
  rcases hv with⟨id,rfl⟩|⟨T,rfl⟩
  ·exact aP5 hc hg hm hb ha hn hd hst hpl
  ·exact V7 hc hg hm hb ha hn hd hst hpl
 refine base.imp fun σv H Q ⟨σ,g,ρ,s,R,h⟩=>?_;simp only[wpE] at h;exact thA hP s R (.refl _ _) h fun xs g1 ρ1 H1 vs e1 R1 r1 h=>⟨xs,g1,ρ1,R1,r1,p6 (fun d g' h=>h.ext e1) h⟩
theorem aX8{o:Expr}{es:List Expr}{mo mes:ME}{T:String}{name:Str}{id:String}{apos:Pos}(pa:PlainAttrs T)(slot:Slot T name id)(hty:typeOf (.builtin id)=pure (.type "method_descriptor"))(hm:MtR X id (rM X.K p))(hk:∀{d:D} {v:V} {g:G} {ρ:List Addr} {H:Hp},Rl X.K ρ g H->c8 X.K ρ H d v->mkP p d g->tyV X.K T v H)(ho:PE X o (LE X.K Ξ (wpE P mo)))(ha:PA X (e::es) (LA X.K Ξ (wpA P mes)))(hbase:attributeBase o name X.env (eval o X.env)=eval o X.env)(hfew:((backTo pos (starEach (e::es) X.env)).all (fun x=>!x.1)&&(backToKw pos (keywordEach [] X.env)).all (fun x=>x.1.isSome)&&decide ((e::es).length+([]:List Keyword).length+(if([]:List Keyword).isEmpty then 0 else 1)<30))=true)(hline:(apos.endLine==pos.line)=true)(hs:starEach (e::es) X.env=(false,eval e X.env)::starEach es X.env)(hplain:(backTo pos (starEach es X.env)).any (·.1)=false) :
  PE X (.Call (.Attribute o name apos) (e::es) [] pos) (LE X.K Ξ (wpE P (.meth p mo mes))) :=
 (bl2 pa slot hty hm ho ha hbase hfew hline hs hplain).imp fun σv H Q ⟨σ,g,ρ,s,R,h⟩=>by
  simp only[wpE] at h;exact thE hP s R (.refl _ _) h fun x g1 ρ1 H1 v1 e1 R1 r1 h=>⟨hk R1 r1 h.1,thA hP (s.ext e1) R1 e1 h.2 fun xs g2 ρ2 H2 ws e2 R2 r2 h =>
   ⟨x,xs,g2,ρ2,R2,r1.ext e2,r2,p6 (fun d g' h=>h.ext (e1.trans e2)) h⟩⟩
theorem aM9{o:Expr}{mo:ME}{T:String}{name:Str}{id:String}{apos:Pos}(pa:PlainAttrs T)(slot:Slot T name id)(hty:typeOf (.builtin id)=pure (.type "method_descriptor"))(hm:MtR X id (rM X.K p))(hk:∀{d:D} {v:V} {g:G} {ρ:List Addr} {H:Hp},Rl X.K ρ g H->c8 X.K ρ H d v->mkP p d g->tyV X.K T v H)(ho:PE X o (LE X.K Ξ (wpE P mo)))(hbase:attributeBase o name X.env (eval o X.env)=eval o X.env)(hline:(apos.endLine==pos.line)=true) :
  PE X (.Call (.Attribute o name apos) [] [] pos) (LE X.K Ξ (wpE P (.meth p mo .nil))) :=
 (bb5 pa slot hty hm ho hbase hline).imp fun σv H Q ⟨σ,g,ρ,s,R,h⟩=>by
  simp only[wpE,wpA] at h;exact thE hP s R (.refl _ _) h fun x g1 ρ1 H1 v1 e1 R1 r1 h=>⟨hk R1 r1 h.1,x,[],g1,ρ1,R1,r1,.nil,p6 (fun d g' h=>h.ext e1) h.2⟩
omit hP in
theorem ar1{K ρ H}{d:D}{v:V}(r:c8 K ρ H d v)(h:am3 d=true):v=toV d/\E4 v=true:=by
 cases r with
 |non=>exact⟨rfl,rfl⟩
 |bl _=>exact⟨rfl,rfl⟩
 |int _=>exact⟨rfl,rfl⟩
 |str _=>exact⟨rfl,rfl⟩
 |ty _=>exact absurd h Bool.false_ne_true
 |ref _=>exact absurd h Bool.false_ne_true
 |tup _ _=>exact absurd h Bool.false_ne_true
omit hP in
theorem aJ0{K ρ H}{l:List D}{vs:List V}(r:a9 K ρ H l vs)(h:l.all am3=true):vs=l.map toV/\vs.all E4=true:=by
 induction l generalizing vs with
 |nil=>cases r;exact⟨rfl,rfl⟩
 |cons d l ih =>
  cases r with
  |cons rd rs =>
   rw[List.all_cons,Bool.and_eq_true] at h;obtain⟨e1,f1⟩:=ar1 rd h.1;obtain⟨e2,f2⟩:=ih rs h.2;subst e1 e2;exact⟨rfl,by rw[List.all_cons,f1,f2];rfl⟩
omit hP in
theorem ak0{K ρ H}{l:List D}{vs:List V}{y:D}{w:V}{n:Nat}(r:a9 K ρ H l vs)(ry:c8 K ρ H y w)(h:aL2 l y n):Z3 vs w n:=by
 obtain⟨h1,h2,⟨z,h3,h4⟩,h5⟩:=h;obtain⟨e1,f1⟩:=aJ0 r h1;obtain⟨e2,f2⟩:=ar1 ry h2;subst e1 e2;refine⟨f1,f2,⟨toV z,by rw[List.getElem?_map,h3];rfl,h4⟩,fun m z' hm hz=>?_⟩;rw[List.getElem?_map,Option.map_eq_some_iff] at hz;obtain⟨z'',hz,rfl⟩:=hz;exact h5 m z'' hm hz
theorem aN3{o:Expr}{es:List Expr}{mo mes:ME}{apos:Pos}(ho:PE X o (LE X.K Ξ (wpE P mo)))(ha:PA X (e::es) (LA X.K Ξ (wpA P mes)))(hbase:attributeBase o "index" X.env (eval o X.env)=eval o X.env)(hfew:((backTo pos (starEach (e::es) X.env)).all (fun x=>!x.1)&&(backToKw pos (keywordEach [] X.env)).all (fun x=>x.1.isSome)&&decide ((e::es).length+([]:List Keyword).length+(if([]:List Keyword).isEmpty then 0 else 1)<30))=true)(hline:(apos.endLine==pos.line)=true)(hs:starEach (e::es) X.env=(false,eval e X.env)::starEach es X.env)(hplain:(backTo pos (starEach es X.env)).any (·.1)=false) :
  PE X (.Call (.Attribute o "index" apos) (e::es) [] pos) (LE X.K Ξ (wpE P (.meth .index mo mes))) :=
 (aP1 ho ha hbase hfew hline hs hplain).imp fun σv H Q ⟨σ,g,ρ,s,R,h⟩=>by
  simp only[wpE] at h;refine thE hP s R (.refl _ _) h fun x g1 ρ1 H1 v1 e1 R1 r1 h=>?_;obtain⟨hk,h⟩:=h;rcases hk with⟨l,rfl⟩|⟨a,l,rfl,hl⟩
  ·obtain⟨a',vs,rfl,ta,rs⟩:=r1.B6;refine .inr ⟨a',vs,rfl,ta.d,thA hP (s.ext e1) R1 e1 h fun xs g2 ρ2 H2 ws e2 R2 r2 h=>?_⟩;obtain⟨d',g',⟨x,y,l',n,ex,hi,W,hz,rfl,rfl⟩,q⟩:=h;cases ex;cases hi;obtain⟨w,rfl,rw'⟩:=r2.one;exact⟨a',vs,w,n,rfl,rfl,(ta.ext e2).sq,ak0 (rs.ext e2) rw' W,(q.ext (e1.trans e2)).now R2 (.int n)⟩
  ·obtain⟨a',rfl,ra⟩:=r1.i5;obtain⟨vs,hq,_⟩:=R1.items hl ra;refine .inl ⟨a',vs,rfl,hq,thA hP (s.ext e1) R1 e1 h fun xs g2 ρ2 H2 ws e2 R2 r2 h=>?_⟩;obtain⟨d',g',⟨x,y,l',n,ex,hi,W,hz,rfl,rfl⟩,q⟩:=h;cases ex;obtain⟨w,rfl,rw'⟩:=r2.one;obtain⟨vs2,hq2,rs2⟩:=R2.items (show d4 _ a=some l' from hi) (e2.get ra);have hn:n<2 ^ 62:=by
    obtain⟨_,_,⟨z,hz',_⟩,_⟩:=W;have:=(List.getElem?_eq_some_iff.mp hz').1;omega
   exact⟨a',vs2,w,n,rfl,rfl,hq2,ak0 rs2 rw' W,hn,(q.ext (e1.trans e2)).now R2 (.int n)⟩
theorem aN2{q p2 pos2:Pos}(hc:X.calm=true)(ha:PE X a (LE X.K Ξ (wpE P ma)))(hgl:Gl X "list")(hml:X.mg "list"=none)(hg:Gl X "range")(hm:X.mg "range"=none)(hs:starEach [a] X.env=[(false,eval a X.env)]) :
  PE X (.Call (.Name "list" p2) [.Call (.Name "range" q) [a] [] pos] [] pos2) (LE X.K Ξ (wpE P (.prim .lrng1 (.cons ma .nil)))) :=
 (V7 (U9 hc) hgl hml (by first|exact PyProof.Rows.boot_list|decide +kernel) (ag3 (aG0 hg hm (A8 hP ha (M7 hP) (by rw[hs];rfl)) hs) ap1)).imp fun σv H Q ⟨σ,g,ρ,s,R,h⟩=>by
  simp only[wpE] at h;refine thA hP s R (.refl _ _) h fun xs g1 ρ1 H1 vs e1 R1 r1 h=>?_;obtain⟨d',g',⟨j,rfl,h1,h2,rfl,rfl⟩,q⟩:=h;obtain⟨v,rfl,rv⟩:=r1.one;obtain rfl:=rv.i7;refine⟨j,rfl,fun q' hq=>⟨q',0,j,rfl,p8,⟨by omega,by omega,h1,by omega,by omega⟩,fun p hp=>?_⟩⟩;rw[show(j-0).toNat=j.toNat by omega];exact(q.ext (e1.trans (u7 hq))).new (R1.grow hq) hp (a9.rng 0 _)
theorem aN1{q p2 pos2:Pos}(hc:X.calm=true)(ha:PE X a (LE X.K Ξ (wpE P ma)))(hb:PE X b (LE X.K Ξ (wpE P mb)))(hgl:Gl X "list")(hml:X.mg "list"=none)(hg:Gl X "range")(hm:X.mg "range"=none)(hs:starEach [a,b] X.env=[(false,eval a X.env),(false,eval b X.env)])(hs2:starEach [b] X.env=[(false,eval b X.env)]) :
  PE X (.Call (.Name "list" p2) [.Call (.Name "range" q) [a,b] [] pos] [] pos2) (LE X.K Ξ (wpE P (.prim .lrng2 (.cons ma (.cons mb .nil))))) :=
 (V7 (U9 hc) hgl hml (by first|exact PyProof.Rows.boot_list|decide +kernel) (ag3 (aF9 hg hm (A8 hP ha (A8 hP hb (M7 hP) (by rw[hs2];rfl)) (by rw[hs,hs2])) hs hs2) ap1)).imp fun σv H Q ⟨σ,g,ρ,s,R,h⟩=>by
  simp only[wpE] at h;refine thA hP s R (.refl _ _) h fun xs g1 ρ1 H1 vs e1 R1 r1 h=>?_;obtain⟨d',g',⟨i,j,rfl,hb,rfl,rfl⟩,q⟩:=h;obtain⟨v,w,rfl,rv,rw'⟩:=r1.two;obtain rfl:=rv.i7;obtain rfl:=rw'.i7;exact⟨i,j,rfl,fun q' hq=>⟨q',i,j,rfl,p8,hb,fun p hp=>(q.ext (e1.trans (u7 hq))).new (R1.grow hq) hp (a9.rng i _)⟩⟩
theorem a85{f:Str}(ha:PE X a (LE X.K Ξ (wpE P ma)))(hb:attributeBase a f X.env (eval a X.env)=eval a X.env):PE X (.Attribute a f pos) (LE X.K Ξ (wpE P (.prim (.fld f) (.cons ma .nil)))) :=
 (bb4 ha hb).imp fun σv H Q ⟨σ,g,ρ,s,R,h⟩=>by
  simp only[wpE,wpA] at h;refine thE hP s R (.refl _ _) h fun x g1 ρ1 H1 v1 e1 R1 r1 h=>?_;obtain⟨d',g',⟨i,c,fs,ex,hi,hf,rfl⟩,q⟩:=h;cases ex;obtain⟨a',rfl,ra⟩:=r1.i5;obtain⟨C,dx,vs,hH,_,hC,rk,na⟩:=R1.ins hi ra;have lk:=rk.look f;rw[hf] at lk;obtain⟨v,hv,rv⟩:=lk.some;exact⟨a',C,dx,vs,v,rfl,hH,hC,na _ (PySem.mem_of_lookup hf),hv,q ρ1 H1 v e1 R1 rv⟩
end
section
variable{X:Cx}{Ξ:XKE}{P:Sig}{a b c:Expr}{ma mb mc:ME}{pos:Pos}
theorem a80{i:Nat}{x:Str}(hN:X.N[i]?=some x)(hv:Vis X.env.scope x)(hd:(x==("__debug__":Str))=false)(hcd:(x==("__classdict__":Str))=false):PE X (.Name x pos) (LE X.K Ξ (wpE P (.var i))) :=
 (aF8 hN hv hd hcd).imp fun σv H Q ⟨σ,g,ρ,s,R,h⟩=>by
  simp only[wpE] at h;obtain⟨d,e,h⟩:=h;obtain⟨v,h1,h2⟩:=s.val _ _ e;exact⟨v,h1,h.now R h2⟩
theorem Q3{e:Expr}{d:D}{v:V}(h:PE X e (tC v))(r:∀ρ H,c8 X.K ρ H d v):PE X e (LE X.K Ξ (wpE P (.lit d))) :=
 h.imp fun σv H Q ⟨σ,g,ρ,s,R,h⟩=>by
  simp only[wpE] at h;exact LQ.now h R (r ρ H)
theorem aY1:PE X (.Dict [] [] pos) (LE X.K Ξ (wpE P (.prim .X0 .nil))) :=
 (aP3 (X:=X)).imp fun σv H Q ⟨σ,g,ρ,s,R,h⟩ p hp=>by
  simp only[wpE,wpA] at h;obtain⟨d',g',⟨_,rfl,rfl⟩,q⟩:=h;exact q (ρ++[p]) _ _ (C4 hp) (R.new hp (o:=.dic []) (u:=.dK []) f9.nil) (.ref (R.u3 p))
end
end M

namespace L2
open PySem PySem.Spec PyProof.Rows
section
variable{X:Cx}{m:Str}{pos apos:Pos}{e o:Expr}{es:List Expr}{ta:TE}{t:TA}
noncomputable def a58(X:Cx)(m:Str)(E:XK)(ta:TE)(t:TA):TE:=fun σ H Q=>ta σ H fun x H1=>∃a C dx fs f fd ps k sp,x=.ref a/\H1 a=some (.ins C dx fs)/\fs.lookup m=none/\Cls X.K C/\Meth X.K C m f /\
 u4 X.prog X.w X.K X.mg X.base (CXE X.prog X.w) k f fd ps sp/\k9 k X.A/\Binds X.K fd ps []/\t σ H1 fun vs H2=>sp (x::(vs++[])) H2 Q E
theorem aO9{pl:Sem Bool}{E:XK}(he:PE X o ta)(hx:Passes (CXE X.prog X.w) X E)(ha:PA X (e::es) t)(hst:starEach (e::es) X.env=(false,eval e X.env)::starEach es X.env)(hpl:(backTo pos (starEach es X.env)).any (·.1)=false)(ht:eval (.Call (.Attribute o m apos) (e :: es) [] pos) X.env=(do
   let ov <- eval o X.env
   standAt apos.atName
   let (f,first) <- holding [ov] (getMethod ov m pl)
   callWith pos f first (backTo pos (starEach (e :: es) X.env)) (backToKw pos (keywordEach [] X.env)))) :
  PE X (.Call (.Attribute o m apos) (e::es) [] pos) (a58 X m E ta t):=by
 intro pins s σ H Q I h;refine PySem.W.methodCall_KW (pl:=pl) (thn (he pins s σ H _ I h) fun u s1 ⟨x,H1,I1,rx,a,C,dx,fs,f,fd,ps,k,sp,ex,ea,l,c,hm,F,hr,hb,q⟩=>?_) ht;subst ex;obtain rfl:u=Value.ref a:=rx;refine ae1 I1 ea c hm l ?_;refine PySem.W.callWith_K (first:=[.ref a]) (h₀:=X.base) I.ok.mod.kin hm.kp (thn (ha pos pins s1 σ H1 _ I1 q) fun us s2 ⟨vs,H2,I2,r,q2⟩=>⟨I2.kIn,?_⟩) hst hpl;exact ao7 (us:=.ref a::us) (vs:=.ref a::vs) F hr hb .nil hx I2 (.cons rfl r) q2
noncomputable def aW5(X:Cx)(m:Str)(E:XK)(ta:TE):TE:=fun σ H Q=>ta σ H fun x H1=>∃a C dx fs f fd ps k sp,x=.ref a/\H1 a=some (.ins C dx fs)/\fs.lookup m=none/\Cls X.K C/\Meth X.K C m f /\
 u4 X.prog X.w X.K X.mg X.base (CXE X.prog X.w) k f fd ps sp/\k9 k X.A/\Binds X.K fd ps []/\sp [x] H1 Q E
theorem aG1{pl:Sem Bool}{E:XK}(he:PE X o ta)(hx:Passes (CXE X.prog X.w) X E)(ht:eval (.Call (.Attribute o m apos) [] [] pos) X.env=(do
   let ov <- eval o X.env
   standAt apos.atName
   let (f,first) <- holding [ov] (getMethod ov m pl)
   callWith pos f first (backTo pos (starEach [] X.env)) (backToKw pos (keywordEach [] X.env)))) :
  PE X (.Call (.Attribute o m apos) [] [] pos) (aW5 X m E ta):=by
 intro pins s σ H Q I h;refine PySem.W.methodCall_KW (pl:=pl) (thn (he pins s σ H _ I h) fun u s1 ⟨x,H1,I1,rx,a,C,dx,fs,f,fd,ps,k,sp,ex,ea,l,c,hm,F,hr,hb,q⟩=>?_) ht;subst ex;obtain rfl:u=Value.ref a:=rx;refine ae1 I1 ea c hm l ?_;exact PySem.W.callWith_K0 (first:=[.ref a]) I1.kIn hm.kp (ao7 (us:=[.ref a]) (vs:=[.ref a]) (dvs:=[]) F hr hb .nil hx I1 (.cons rfl .nil) q)
end
end L2
namespace M
open PySem L2 PySem.Spec PyProof.Rows
inductive X4(K:PySem.W.Frag):List D->List (Str×V)->Prop
 |nil:X4 K [] []
 |cons {x:Str} {d:D} {v:V} {ds:List D} {vs:List (Str×V)} (h:∀ρ H,c8 K ρ H d v) (r:X4 K ds vs):X4 K (.tup [.str x,d]::ds) ((x,v)::vs)
theorem X4.look{K:PySem.W.Frag}{ρ:List Addr}{H:Hp}{ds vs}(x:Str)(h:X4 K ds vs):U5 K ρ H (C0 ds x) (vs.lookup x):=by
 induction h with
 |nil=>trivial
 |cons h r ih =>
  rename_i y d v ds vs;unfold C0;rw[List.lookup_cons];by_cases e:x=y
  ·rw[if_pos e,show(x==y)=true from by simp[e]];exact h ρ H
  ·rw[if_neg e,show(x==y)=false from by simpa using e];exact ih
noncomputable def am8(X:Cx)(x:Str)(kvs:List D):Prop:=∃A vs,X.mg x=some (.ref A)/\af6 X.K X.w.params A vs/\X4 X.K kvs vs
noncomputable def am2(neg:Bool):Pr:=if neg then .gnin else .gin
theorem aw7{neg:Bool}:PR (am2 neg)=aR0 neg:=by cases neg<;>rfl
theorem aE1(a b c:Str):a++b++c=a++(b++c):=by
 cases a;cases b;cases c;show Str.mk _=Str.mk _;exact congrArg Str.mk (Array.append_assoc ..)
theorem aX0(x:Str):x++Str.empty=x:=by cases x;show Str.mk _=_;simp[Str.empty]
section
variable{X:Cx}{Ξ:XKE}{P:Sig}(hP:i6 P){a b c:Expr}{ma mb mc:ME}{pos:Pos}
include hP
theorem a84{x:Str}{p:Pos}{kvs:List D}{neg:Bool}(hg:Gl X x)(hd:(x==("__debug__":Str))=false)(hG:am8 X x kvs)(ha:PE X a (LE X.K Ξ (wpE P ma)))(hm:behindInMarks (if neg then .NotIn else .In) (.Name x p)=false) :
  PE X (.Compare a [if neg then .NotIn else .In] [.Name x p] pos) (LE X.K Ξ (wpE P (.prim (am2 neg) (.cons (.lit (.tup kvs)) (.cons ma .nil))))):=by
 obtain⟨A,vs,hmg,hk,gr⟩:=hG;refine(aw0 (aG6 (kvs:=vs) neg) ha (X9 (v:=.ref A) hg hmg rfl hd) hm).imp fun σv H Q ⟨σ,g,ρ,s,R,h⟩=>?_;simp only[wpE,wpA] at h;refine thE hP s R (.refl _ _) h fun d g1 ρ1 H1 v1 e1 R1 r1 h=>?_;obtain⟨d',g',h,q⟩:=h;rw[aw7] at h;obtain⟨kvs',z,ex,rfl,rfl⟩:=h;cases ex;obtain rfl:=r1.x8;refine⟨A,z,rfl,hk,rfl,?_⟩;rw[<- (gr.look (ρ:=ρ1) (H:=H1) z).isSome];exact q ρ1 H1 _ e1 R1 (.bl _)
theorem a70{x:Str}{p:Pos}{kvs:List D}{neg:Bool}(hg:Gl X x)(hd:(x==("__debug__":Str))=false)(hG:am8 X x kvs)(ha:PE X a (LE X.K Ξ (wpE P ma)))(hm:behindInMarks (if neg then .NotIn else .In) (.Name x p)=false) :
  PT X (.Compare a [if neg then .NotIn else .In] [.Name x p] pos) (LT X.K Ξ (wpT P (.tst (.prim (am2 neg) (.cons (.lit (.tup kvs)) (.cons ma .nil)))))):=by
 obtain⟨A,vs,hmg,hk,gr⟩:=hG;refine(av6 (aG6 (kvs:=vs) neg) ha (X9 (v:=.ref A) hg hmg rfl hd) hm).imp fun σv H Q ⟨σ,g,ρ,s,R,h⟩=>?_;simp only[wpT,wpE,wpA] at h;refine thE hP s R (.refl _ _) h fun d g1 ρ1 H1 v1 e1 R1 r1 h=>?_;obtain⟨d',g',h,t,ht,q⟩:=h;rw[aw7] at h;obtain⟨kvs',z,ex,rfl,rfl⟩:=h;cases ex;obtain rfl:=r1.x8;refine⟨A,z,rfl,hk,rfl,t,?_,q ρ1 H1 e1 R1⟩;rw[<- (gr.look (ρ:=ρ1) (H:=H1) z).isSome];rcases ht with⟨z,_⟩|z|⟨i,z,_⟩|⟨l,z,_⟩|⟨a,l,z,_⟩<;>cases z
 rfl
theorem aY0{x:Str}{p:Pos}{kvs:List D}(hg:Gl X x)(hd:(x==("__debug__":Str))=false)(hG:am8 X x kvs)(ha:PE X a (LE X.K Ξ (wpE P ma)))(hs:ai0 a):PE X (.Subscript (.Name x p) a pos) (LE X.K Ξ (wpE P (.prim .gget (.cons (.lit (.tup kvs)) (.cons ma .nil))))):=by
 obtain⟨A,vs,hmg,hk,gr⟩:=hG;refine(aU2 (bn1 (kvs:=vs)) (X9 (v:=.ref A) hg hmg rfl hd) ha hs).imp fun σv H Q ⟨σ,g,ρ,s,R,h⟩=>?_;simp only[wpE,wpA] at h;refine thE hP s R (.refl _ _) h fun d g1 ρ1 H1 v1 e1 R1 r1 h=>?_;obtain⟨d',g',⟨kvs',z,ex,hz,rfl⟩,q⟩:=h;cases ex;obtain rfl:=r1.x8;have lk:=gr.look (ρ:=ρ1) (H:=H1) z;rw[hz] at lk;obtain⟨w,hw,lk⟩:=lk.some;exact⟨A,z,w,rfl,hk,rfl,hw,q ρ1 H1 _ e1 R1 lk⟩
omit hP in
inductive FOk(X:Cx)(Ξ:XKE)(P:Sig):List Expr->ME->List TE->Prop
 |nil:FOk X Ξ P [] .nil []
 |lit {x:Str} {j:Nat} {p:Pos} {es:List Expr} {ms:ME} {ts:List TE} (hx:x.length<=2000) (r:FOk X Ξ P es ms ts):FOk X Ξ P (.Constant (.str x) j p::es) (.cons (.lit (.str x)) ms) (LE X.K Ξ (wpE P (.lit (.str x)))::ts)
 |val {e:Expr} {m:ME} {p:Pos} {es:List Expr} {ms:ME} {ts:List TE} (he:PE X e (LE X.K Ξ (wpE P m))) (r:FOk X Ξ P es ms ts):FOk X Ξ P (.FormattedValue e (-1) none p::es) (.cons (.prim .fv (.cons m .nil)) ms) (LE X.K Ξ (wpE P (.prim .fv (.cons m .nil)))::ts)
theorem FOk.join{σv:L2.St}{Q:Str->Hp->Prop}{es ms ts}(hf:FOk X Ξ P es ms ts):∀{σ:S} {g:G} {ρ:List Addr} {H:Hp} {acc:Str},acc.length+2000*es.length<=100000->j8 X.K ρ H σ σv->Rl X.K ρ g H ->
  wpA P ms σ g (fun ds g1=>∃x,T5 ds=some x/\∀ρ' H',Ext ρ H ρ' H'->Rl X.K ρ' g1 H'->Q (acc++x) H') (LX X.K ρ H Ξ)->aT4 ts σv H acc (fun out H1=>out.length<=sizeLine/\Q out H1):=by
 have tl:∀{acc y:Str} {ρ:List Addr} {H:Hp} {ρ1:List Addr} {H1:Hp} {ds:List D} {g1:G},Ext ρ H ρ1 H1->(∃x,T5 (.str y::ds)=some x/\∀ρ' H',Ext ρ H ρ' H'->Rl X.K ρ' g1 H'->Q (acc++x) H')->∃x,T5 ds=some x/\∀ρ' H',Ext ρ1 H1 ρ' H'->Rl X.K ρ' g1 H'->Q (acc++y++x) H':=by
  intro acc y ρ H ρ1 H1 ds g1 e1 h;obtain⟨x,hx,h⟩:=h;simp only[T5] at hx;cases hj:T5 ds with
  |none=>rw[hj] at hx;cases hx
  |some x' =>
   rw[hj] at hx;cases hx;refine⟨x',rfl,fun ρ' H' e' R'=>?_⟩;rw[aE1];exact h ρ' H' (e1.trans e') R'
 induction hf with
 |nil =>
  intro σ g ρ H acc ha s R h;simp only[wpA] at h;obtain⟨x,hx,h⟩:=h;cases hx;rw[aX0] at h;exact⟨j3 (by simpa using ha),h ρ H (.refl _ _) R⟩
 |lit hx r ih =>
  rename_i y j p es ms ts;intro σ g ρ H acc ha s R h;simp only[wpA,wpE] at h;refine⟨σ,g,ρ,s,R,?_⟩;simp only[wpE];intro ρ1 H1 v1 e1 R1 r1;obtain rfl:=r1.x8;have hl:(acc++y).length<=acc.length+2000:=by rw[strLen_append];omega
  simp only[List.length_cons] at ha;exact⟨y,rfl,j3 (by omega),ih (by omega) (s.ext e1) R1 (r9 hP _ _ _ _ _ _ _ (fun ds g1 h=>tl e1 h) (fun _ _ z=>LX.ext e1 z) h)⟩
 |val he r ih =>
  rename_i e m p es ms ts;intro σ g ρ H acc ha s R h;simp only[wpA,wpE] at h;refine⟨σ,g,ρ,s,R,?_⟩;simp only[wpE,wpA];simp only[List.length_cons] at ha;refine b7 hP m _ _ _ _ _ _ (fun d g1 h=>?_) (fun _ _ z=>z) h;obtain⟨d',g',⟨rfl,h⟩,q⟩:=h;have hy:∃y,d'=.str y/\y.length<=2000:=by
   rcases h with⟨i,ex,h1,rfl⟩|⟨z,ex,h1,rfl⟩
   ·exact⟨_,rfl,by rw[PySem.ofString_length];have:=int_text_length_le (k:=1920) (by decide) h1;omega⟩
   ·exact⟨z,rfl,h1⟩
  obtain⟨y,rfl,hy⟩:=hy;refine⟨_,_,⟨rfl,h⟩,fun ρ1 H1 v1 e1 R1 r1=>?_⟩;obtain rfl:=r1.x8;have hl:(acc++y).length<=acc.length+2000:=by rw[strLen_append];omega
  exact⟨y,rfl,j3 (by omega),ih (by omega) (s.ext e1) R1 (r9 hP _ _ _ _ _ _ _ (fun ds g1 h=>tl e1 h) (fun _ _ z=>LX.ext e1 z) q)⟩
omit hP in
noncomputable def spD(ex:List Str)(K:PySem.W.Frag)(n:Nat)(t:List D->G->KD->KX->Prop):Sp:=fun vs H Q E=>vs.length=n/\∃ds g ρ,a9 K ρ H ds vs/\Rl K ρ g H/\t ds g (LQ K ρ H Q) (LX K ρ H (ex,E))
omit hP in
noncomputable def FnR(X:Cx)(P:Sig)(ex:List Str)(k f:Nat)(fa:Addr)(fd:FuncData)(ps:List Str):Prop :=
 u4 X.prog X.w X.K X.mg X.base (CXE X.prog X.w) k fa fd ps (spD ex X.K ps.length (P f))/\Binds X.K fd ps []/\∀ds g Q E,P f ds g Q E->ds.length=ps.length
theorem al8{k f:Nat}{fa:Addr}{fd:FuncData}{ps:List Str}(F:FnR X P Ξ.1 k f fa fd ps){ρ ρ0:List Addr}{H H0:Hp}{g:G}{xs:List D}{vs:List V}{Q0:KD}{Q:VK}(e0:Ext ρ0 H0 ρ H)(R:Rl X.K ρ g H)(r:a9 X.K ρ H xs vs)(h:P f xs g Q0 (LX X.K ρ0 H0 Ξ))(k:∀d g',Q0 d g'->LQ X.K ρ H Q d g'):spD Ξ.1 X.K ps.length (P f) (vs++[]) H Q Ξ.2:=by
 rw[List.append_nil];exact⟨by rw[<- r.length];exact F.2.2 _ _ _ _ h,xs,g,ρ,r,R,hP _ _ _ _ _ _ _ k (fun _ _ z=>LX.ext e0 z) h⟩
theorem aY2{k f:Nat}{x:Str}{fa:Addr}{fd:FuncData}{ps:List Str}{es:List Expr}{e:Expr}{mes:ME}{p:Pos}(hx:Passes (CXE X.prog X.w) X Ξ.2)(F:FnR X P Ξ.1 k f fa fd ps)(hr:k9 k X.A)(hg:Gl X x)(hm:X.mg x=some (.ref fa))(hk:PySem.W.keepIn X.K (.ref fa)=true)(ha:PA X (e::es) (LA X.K Ξ (wpA P mes)))(hd:(x==("__debug__":Str))=false)(hst:starEach (e::es) X.env=(false,eval e X.env)::starEach es X.env)(hpl:(backTo pos (starEach es X.env)).any (·.1)=false):PE X (.Call (.Name x p) (e::es) [] pos) (LE X.K Ξ (wpE P (.call f mes))) :=
 (a02 F.1 hr hg hm hk F.2.1 .nil hx ha hd hst hpl).imp fun σv H Q ⟨σ,g,ρ,s,R,h⟩=>by
  simp only[wpE] at h;exact thA hP s R (.refl _ _) h fun xs g1 ρ1 H1 vs e1 R1 r1 h=>al8 hP F e1 R1 r1 h fun d g' h=>h.ext e1
theorem aw2{c:Str}{f k:Nat}{C fa:Addr}{fd:FuncData}{ps:List Str}(F:FnR X P Ξ.1 k f fa fd ps)(hC:l6 X.K c C)(hc:Cls X.K C){ρ ρ0:List Addr}{H H0:Hp}{g1:G}{xs:List D}{vs:List V}{Q:VK}(e0:Ext ρ0 H0 ρ H)(R:Rl X.K ρ g1 H)(r:a9 X.K ρ H xs vs)(h:P f (.ref g1.length::xs) (g1++[.ins c []]) (fun d g2=>d=.non/\LQ X.K ρ0 H0 Q (.ref g1.length) g2) (LX X.K ρ0 H0 Ξ)):∀x dx,H x=none->H dx=none->dx≠x->spD Ξ.1 X.K ps.length (P f) (.ref x::(vs++[])) (upd (upd H dx (.own x)) x (.ins C dx [])) (fun v H2=>v=.non/\Q (.ref x) H2) Ξ.2:=by
 intro x dx hx hdx hne;have hx2:upd H dx (.own x) x=none:=by rw[f6 (Ne.symm hne)];exact hx
 have R2:=R.grow (o:=.own x) hdx;have e2:Ext ρ H ρ (upd H dx (.own x)):=u7 hdx;have R3:=R2.new (o:=.ins c []) (u:=.ins C dx []) hx2 ⟨hC,hc,.nil,fun x hx=>absurd hx (by simp)⟩;have e3:Ext ρ (upd H dx (.own x)) (ρ++[x]) (upd (upd H dx (.own x)) x (.ins C dx [])):=C4 hx2;have:=al8 hP F (e0.trans (e2.trans e3)) R3 (.cons (.ref (R.u3 x)) (r.ext (e2.trans e3))) h (Q:=fun v H2=>v=.non/\Q (.ref x) H2) fun d g' q ρ' H' v e' R' r'=>by
  obtain⟨rfl,q⟩:=q;exact⟨r'.ad4,q ρ' H' _ (e0.trans (e2.trans (e3.trans e'))) R' (.ref (e'.get (R.u3 x)))⟩
 exact this
theorem aX9{k f:Nat}{x:Str}{C fa:Addr}{fd:FuncData}{ps:List Str}{es:List Expr}{e:Expr}{mes:ME}{p:Pos}(hx:Passes (CXE X.prog X.w) X Ξ.2)(F:FnR X P Ξ.1 k f fa fd ps)(M:Mk X.K C fa)(hC:l6 X.K x C)(hc:Cls X.K C)(hr:k9 (k+1) X.A)(hg:Gl X x)(hm:X.mg x=some (.ref C))(ha:PA X (e::es) (LA X.K Ξ (wpA P mes)))(hd:(x==("__debug__":Str))=false)(hst:starEach (e::es) X.env=(false,eval e X.env)::starEach es X.env)(hpl:(backTo pos (starEach es X.env)).any (·.1)=false):PE X (.Call (.Name x p) (e::es) [] pos) (LE X.K Ξ (wpE P (.make x f mes))) :=
 (a00 M F.1 hr hg hm F.2.1 .nil hx ha hd hst hpl).imp fun σv H Q ⟨σ,g,ρ,s,R,h⟩=>by
  simp only[wpE] at h;exact thA hP s R (.refl _ _) h fun xs g1 ρ1 H1 vs e1 R1 r1 h=>aw2 hP F hC hc e1 R1 r1 h
theorem aN0{k f:Nat}{x:Str}{C fa:Addr}{fd:FuncData}{ps:List Str}{p:Pos}(hx:Passes (CXE X.prog X.w) X Ξ.2)(F:FnR X P Ξ.1 k f fa fd ps)(M:Mk X.K C fa)(hC:l6 X.K x C)(hc:Cls X.K C)(hr:k9 (k+1) X.A)(hg:Gl X x)(hm:X.mg x=some (.ref C))(hd:(x==("__debug__":Str))=false):PE X (.Call (.Name x p) [] [] pos) (LE X.K Ξ (wpE P (.make x f .nil))) :=
 (aP0 M F.1 hr hg hm F.2.1 .nil hx hd).imp fun σv H Q ⟨σ,g,ρ,s,R,h⟩=>by
  simp only[wpE,wpA] at h;exact aw2 hP F hC hc (.refl _ _) R .nil h
omit hP in
noncomputable def ai1(X:Cx)(P:Sig)(ex:List Str)(m:Str)(cs:List (Str×Nat)):Prop:=∀c f C,cs.lookup c=some f->l6 X.K c C->∃k fa fd ps,Meth X.K C m fa/\FnR X P ex k f fa fd ps/\k9 k X.A
theorem aM8{m:Str}{cs:List (Str×Nat)}{o e:Expr}{es:List Expr}{mo mes:ME}{apos:Pos}{pl:Sem Bool}(hx:Passes (CXE X.prog X.w) X Ξ.2)(hM:ai1 X P Ξ.1 m cs)(ho:PE X o (LE X.K Ξ (wpE P mo)))(ha:PA X (e::es) (LA X.K Ξ (wpA P mes)))(hst:starEach (e::es) X.env=(false,eval e X.env)::starEach es X.env)(hpl:(backTo pos (starEach es X.env)).any (·.1)=false)(ht:eval (.Call (.Attribute o m apos) (e :: es) [] pos) X.env=(do
   let ov <- eval o X.env
   standAt apos.atName
   let (f,first) <- holding [ov] (getMethod ov m pl)
   callWith pos f first (backTo pos (starEach (e :: es) X.env)) (backToKw pos (keywordEach [] X.env)))):PE X (.Call (.Attribute o m apos) (e :: es) [] pos) (LE X.K Ξ (wpE P (.methc m cs mo mes))) :=
 (aO9 ho hx ha hst hpl ht).imp fun σv H Q ⟨σ,g,ρ,s,R,h⟩=>by
  simp only[wpE] at h;refine thE hP s R (.refl _ _) h fun x g1 ρ1 H1 v1 e1 R1 r1 h=>?_;obtain⟨i,c,fs,f,rfl,hi,hf,hcs,h⟩:=h;obtain⟨a',rfl,ra⟩:=r1.i5;obtain⟨C,dx,vs,hH,hC,hcl,rk,na⟩:=R1.ins hi ra;obtain⟨k,fa,fd,ps,M,F,hr⟩:=hM c f C hcs hC;have lk:=rk.look m;rw[hf] at lk;have hl:vs.lookup m=none:=by cases e:vs.lookup m with|none=>rfl|some w=>rw[e] at lk;exact lk.elim
  refine⟨a',C,dx,vs,fa,fd,ps,k,_,rfl,hH,hl,hcl,M,F.1,hr,F.2.1,?_⟩;exact thA hP (s.ext e1) R1 e1 h fun xs g2 ρ2 H2 ws e2 R2 r2 h=>al8 hP F (e1.trans e2) R2 (.cons (.ref (e2.get ra)) r2) h fun d g' h=>h.ext (e1.trans e2)
theorem aE5{m:Str}{cs:List (Str×Nat)}{o:Expr}{mo:ME}{apos:Pos}{pl:Sem Bool}(hx:Passes (CXE X.prog X.w) X Ξ.2)(hM:ai1 X P Ξ.1 m cs)(ho:PE X o (LE X.K Ξ (wpE P mo)))(ht:eval (.Call (.Attribute o m apos) [] [] pos) X.env=(do
   let ov <- eval o X.env
   standAt apos.atName
   let (f,first) <- holding [ov] (getMethod ov m pl)
   callWith pos f first (backTo pos (starEach [] X.env)) (backToKw pos (keywordEach [] X.env)))):PE X (.Call (.Attribute o m apos) [] [] pos) (LE X.K Ξ (wpE P (.methc m cs mo .nil))) :=
 (aG1 ho hx ht).imp fun σv H Q ⟨σ,g,ρ,s,R,h⟩=>by
  simp only[wpE,wpA] at h;refine thE hP s R (.refl _ _) h fun x g1 ρ1 H1 v1 e1 R1 r1 h=>?_;obtain⟨i,c,fs,f,rfl,hi,hf,hcs,h⟩:=h;obtain⟨a',rfl,ra⟩:=r1.i5;obtain⟨C,dx,vs,hH,hC,hcl,rk,na⟩:=R1.ins hi ra;obtain⟨k,fa,fd,ps,M,F,hr⟩:=hM c f C hcs hC;have lk:=rk.look m;rw[hf] at lk;have hl:vs.lookup m=none:=by cases e:vs.lookup m with|none=>rfl|some w=>rw[e] at lk;exact lk.elim
  exact⟨a',C,dx,vs,fa,fd,ps,k,_,rfl,hH,hl,hcl,M,F.1,hr,F.2.1,al8 hP F e1 R1 (.cons (.ref ra) .nil) h fun d g' h=>h.ext e1⟩
end
end M

namespace M
open PySem L2 PySem.Spec PyProof.Rows
inductive PRels(K:PySem.W.Frag)(ρ:List Addr)(H:Hp):List D->List (V×V)->Prop
 |nil:PRels K ρ H [] []
 |cons {k d:D} {x y:V} {ds:List D} {ps:List (V×V)} (h1:c8 K ρ H k x) (h2:c8 K ρ H d y) (r:PRels K ρ H ds ps):PRels K ρ H (k::d::ds) ((x,y)::ps)
theorem bf8{K ρ H}{xs:List D}{ps:List (V×V)}(r:PRels K ρ H xs ps):∀{acc kvs:List (Key×D)} {accV:List (Key×V)},ah0 xs acc=some kvs->f9 K ρ H acc accV->∃more:List (Key×V),ps=more.map (fun kv=>(kV kv.1,kv.2))/\2*more.length=xs.length/\f9 K ρ H kvs (N3 accV more):=by
 induction r with
 |nil =>
  intro acc kvs accV h ra;cases h;exact⟨[],rfl,rfl,ra⟩
 |cons h1 h2 r ih =>
  rename_i k d x y ds ps;intro acc kvs accV h ra;simp only[ah0] at h;cases hk:P6 k with
  |none=>rw[hk] at h;cases h
  |some c =>
   rw[hk] at h;obtain⟨more,e1,e2,r2⟩:=ih (show ah0 ds (putD acc c d)=some kvs from h) (ra.put h2);have ex:=Q8 hk h1;subst ex;refine⟨(c,y)::more,by rw[List.map_cons,<- e1],by simp only[List.length_cons];omega,r2⟩
section
variable{X:Cx}{Ξ:XKE}{P:Sig}(hP:i6 P){pos:Pos}
inductive DOk(X:Cx)(Ξ:XKE)(P:Sig):List (Option Expr)->List Expr->ME->List (TE×TE)->Prop
 |nil:DOk X Ξ P [] [] .nil []
 |cons {k v:Expr} {ks:List (Option Expr)} {vs:List Expr} {mk mv ms:ME} {trs:List (TE×TE)} (hk:PE X k (LE X.K Ξ (wpE P mk))) (hv:PE X v (LE X.K Ξ (wpE P mv))) (r:DOk X Ξ P ks vs ms trs) :
   DOk X Ξ P (some k::ks) (v::vs) (.cons mk (.cons mv ms)) ((LE X.K Ξ (wpE P mk),LE X.K Ξ (wpE P mv))::trs)
theorem DOk.pps{ks vs ms trs}(h:DOk X Ξ P ks vs ms trs):PPs X pos ks vs trs:=by
 induction h with
 |nil=>exact aZ6
 |cons hk hv r ih=>exact aO4 hk hv ih
theorem DOk.len{ks vs ms trs}(h:DOk X Ξ P ks vs ms trs):ks.all (·.isSome)=true/\ks.length=vs.length:=by
 induction h with
 |nil=>exact⟨rfl,rfl⟩
 |cons hk hv r ih=>exact⟨by simpa using ih.1,by simp[ih.2]⟩
include hP
theorem DOk.pairs{ks vs ms trs}(hd:DOk X Ξ P ks vs ms trs):∀{σv:L2.St} {σ:S} {g:G} {ρ ρ0:List Addr} {H H0:Hp} {Qd:List D->G->Prop} {Q:List (V×V)->Hp->Prop},j8 X.K ρ H σ σv->Rl X.K ρ g H->Ext ρ0 H0 ρ H->wpA P ms σ g Qd (LX X.K ρ0 H0 Ξ) ->
  (∀ds g' ρ' H' ps,Ext ρ H ρ' H'->Rl X.K ρ' g' H'->PRels X.K ρ' H' ds ps->Qd ds g'->Q ps H')->ac5 trs σv H Q:=by
 induction hd with
 |nil =>
  intro σv σ g ρ ρ0 H H0 Qd Q s R e0 h k;simp only[wpA] at h;exact k [] g ρ H [] (.refl _ _) R .nil h
 |cons hk hv r ih =>
  intro σv σ g ρ ρ0 H H0 Qd Q s R e0 h k;simp only[wpA] at h;refine thE hP s R e0 h fun x g1 ρ1 H1 v1 e1 R1 r1 h=>thE hP (s.ext e1) R1 (e0.trans e1) h fun y g2 ρ2 H2 v2 e2 R2 r2 h=>?_;refine ih (s.ext (e1.trans e2)) R2 (e0.trans (e1.trans e2)) h fun ds g' ρ' H' ps e' R' rp hq=>?_;exact k _ g' ρ' H' _ (e1.trans (e2.trans e')) R' (.cons (r1.ext (e2.trans e')) (r2.ext e') rp) hq
theorem a86{ks:List (Option Expr)}{vs:List Expr}{ms:ME}{trs:List (TE×TE)}(hd:DOk X Ξ P ks vs ms trs)(h0:ks≠[])(h15:ks.length<=15):PE X (.Dict ks vs pos) (LE X.K Ξ (wpE P (.dct ms))) :=
 (a01 hd.pps hd.len.1 hd.len.2 h0 h15).imp fun σv H Q ⟨σ,g,ρ,s,R,h⟩ p hp=>by
  simp only[wpE] at h;have e1:Ext ρ H (ρ++[p]) (upd H p (.dK [])):=C4 hp;refine DOk.pairs hP hd (s.ext e1) (R.new hp (o:=.dic []) (u:=.dK []) f9.nil) e1 h fun ds g2 ρ2 H2 ps e2 R2 rp hq=>?_;obtain⟨kvs,hk,hz,hg,q⟩:=hq;have hp2:ρ2[g.length]?=some p:=e2.get (R.u3 p);obtain⟨vs',hv,rv⟩:=R2.dic hg hp2;cases rv;obtain⟨more,em,hl,rk⟩:=bf8 rp hk (accV:=[]) .nil;refine⟨hv,more,em,by omega,?_⟩;obtain⟨R3,e3⟩:=R2.put (o':=.dic kvs) (u:=.dK (N3 [] more)) hg rfl hp2 rk;exact q ρ2 _ _ (e1.trans (e2.trans e3)) R3 (.ref hp2)
end
end M

namespace M
open PySem L2 PySem.Spec PyProof.Rows
theorem bm7{K:PySem.W.Frag}{ρ0:List Addr}{H0:Hp}{a:Addr}{l:List D}{vs:List V}(ht:TupAt K H0 a vs)(rs:a9 K ρ0 H0 l vs):X3 K ρ0 H0 (.fix l) (Itt K a):=by
 intro ρ g H e R i;have ht':=ht.ext e;have rs':=rs.ext e;refine⟨fun h=>⟨vs,ht'.sq,?_⟩,fun d h=>?_⟩
 ·simp only[IK.at] at h;have:=List.getElem?_eq_none_iff.mp (Option.some.inj h);rw[<- rs'.length];exact this
 ·simp only[IK.at] at h;obtain⟨v,hv,rv⟩:=rs'.get (Option.some.inj h);refine⟨⟨vs,v,ht'.sq,hv⟩,fun w H' y=>?_⟩;obtain⟨rfl,y⟩:=y;have:=y vs ht'.sq;rw[hv] at this;cases this;exact⟨.refl _ _,R,rv⟩
theorem bm8{K:PySem.W.Frag}{ρ0:List Addr}{H0:Hp}{a:Addr}{j:Nat}(ha:ρ0[j]?=some a):X3 K ρ0 H0 (.lst j) (Itl K a):=by
 intro ρ g H e R i;have ha':=e.get ha;refine⟨fun h=>?_,fun d h=>?_⟩
 ·simp only[IK.at] at h;cases el:d4 g j with
  |none=>rw[el] at h;cases h
  |some l =>
   rw[el] at h;obtain⟨vs,hq,rs⟩:=R.items el ha';refine⟨vs,hq,?_⟩;have:=List.getElem?_eq_none_iff.mp (Option.some.inj h);rw[<- rs.length];exact this
 ·simp only[IK.at] at h;cases el:d4 g j with
  |none=>rw[el] at h;cases h
  |some l =>
   rw[el] at h;obtain⟨vs,hq,rs⟩:=R.items el ha';obtain⟨v,hv,rv⟩:=rs.get (Option.some.inj h);refine⟨⟨vs,v,hq,hv⟩,fun w H' y=>?_⟩;obtain⟨rfl,y⟩:=y;have:=y vs hq;rw[hv] at this;cases this;exact⟨.refl _ _,R,rv⟩
theorem aU4{K:PySem.W.Frag}{ρ0:List Addr}{H0:Hp}{lo:Int}{n:Nat}:X3 K ρ0 H0 (.fix (i0 lo n)) (Itr lo n):=by
 unfold i0;intro ρ g H e R i;refine⟨fun h=>?_,fun d h=>?_⟩
 ·simp only[IK.at] at h;have:=List.getElem?_eq_none_iff.mp (Option.some.inj h);show n<=i;simpa using this
 ·simp only[IK.at] at h;have h:=Option.some.inj h;have hi:i<n:=by
   have:=(List.getElem?_eq_some_iff.mp h).1;simpa using this
  rw[List.getElem?_map,List.getElem?_range hi] at h;cases h;refine⟨hi,fun w H' y=>?_⟩;obtain⟨rfl,rfl⟩:=y;exact⟨.refl _ _,R,.int _⟩
theorem bm9{K:PySem.W.Frag}{ρ0:List Addr}{H0:Hp}{a:Addr}{j:Nat}(ha:ρ0[j]?=some a):X3 K ρ0 H0 (.enl j) (Ite K a):=by
 intro ρ g H e R i;have ha':=e.get ha;refine⟨fun h=>?_,fun d h=>?_⟩
 ·simp only[IK.at] at h;cases el:d4 g j with
  |none=>rw[el] at h;cases h
  |some l =>
   rw[el] at h;obtain⟨vs,hq,rs⟩:=R.items el ha';refine⟨vs,hq,?_⟩;have h:=Option.some.inj h;rw[Option.map_eq_none_iff] at h;have:=List.getElem?_eq_none_iff.mp h;rw[<- rs.length];exact this
 ·simp only[IK.at] at h;cases el:d4 g j with
  |none=>rw[el] at h;cases h
  |some l =>
   rw[el] at h;obtain⟨vs,hq,rs⟩:=R.items el ha';have h:=Option.some.inj h;rw[Option.map_eq_some_iff] at h;obtain⟨d',hd,rfl⟩:=h;obtain⟨v,hv,rv⟩:=rs.get hd;refine⟨⟨vs,v,hq,hv⟩,fun w H' y=>?_⟩;obtain⟨p,x,hp,rfl,y,rfl⟩:=y;have:=y vs hq;rw[hv] at this;cases this;exact⟨u7 hp,R.grow hp,.tup (.inl p8) (.cons (.int _) (.cons (rv.ext (u7 hp)) .nil))⟩
end M
namespace L2
open PySem PySem.Spec PyProof.Rows
theorem ba4{X:Cx}{tg l:Expr}{tl:TE}(hl:PE X l tl):PI X tg l (fun σ H R=>tl σ H fun x H1=>(∃a,x=.ref a/\(∃xs,SqL X.K H1 a xs)/\R (Itl X.K a) H1)\/(∃a,x=.ref a/\(∃xs,SqT X.K H1 a xs)/\R (Itt X.K a) H1)):=by
 intro pins s σ H R I h;refine thn (hl pins s σ H _ I h) fun v s1 ⟨x,H1,I1,r1,q1⟩=>?_;rcases q1 with⟨a,e,⟨xs,hq⟩,q⟩|⟨a,e,⟨xs,hq⟩,q⟩
 ·subst e;cases r1;obtain⟨its,rv,p,hz⟩:=I1.list hq;refine wpAny_pyIter_list p.isList ?_;refine⟨s1.heap.objs.size,[s1.heap.objs.size],_,_,H1,rfl,I1.kept (t':=s1.toks) fun b o e=>Heap.get?_push_of_some _ e,aD2 a _,⟨_,Heap.get?_push_size _ rfl,rfl,rfl⟩,fun b hb=>?_,q⟩;have e:b=s1.heap.objs.size:=by simpa using hb
  subst e;exact I1.ab2 (Nat.le_refl _) (I1.hok.fresh (Nat.le_refl _))
 ·subst e;cases r1;obtain⟨its,rv,p,hz⟩:=I1.tuple hq;refine wpAny_pyIter_tuple (show s1.heap.IsTuple a its.toArray from p) ?_;refine⟨s1.heap.objs.size,[s1.heap.objs.size],_,_,H1,rfl,I1.kept (t':=s1.toks) fun b o e=>Heap.get?_push_of_some _ e,ay3 a _,⟨_,Heap.get?_push_size _ rfl,rfl,rfl⟩,fun b hb=>?_,q⟩;have e:b=s1.heap.objs.size:=by simpa using hb
  subst e;exact I1.ab2 (Nat.le_refl _) (I1.hok.fresh (Nat.le_refl _))
end L2
namespace M
open PySem L2 PySem.Spec PyProof.Rows
section
variable{X:Cx}{Ξ:XKE}{P:Sig}(hP:i6 P){a b c tg:Expr}{ma mb mc:ME}{pos p:Pos}
include hP
theorem a77(ha:PE X a (LE X.K Ξ (wpE P ma))):PI X tg a (LI X.K Ξ (wpI P (.itE ma))) :=
 (ba4 ha).imp fun σv H R ⟨σ,g,ρ,s,Rr,h⟩=>by
  simp only[wpI] at h;refine thE hP s Rr (.refl _ _) h fun x g1 ρ1 H1 v1 e1 R1 r1 h=>?_;rcases h with⟨l,rfl,h⟩|⟨i,l,rfl,hl,h⟩
  ·obtain⟨a',vs,rfl,ht,rs⟩:=r1.B6;exact .inr ⟨_,rfl,⟨_,ht.sq⟩,h ρ1 H1 _ e1 R1 (bm7 ht rs)⟩
  ·obtain⟨a',rfl,ha'⟩:=r1.i5;obtain⟨vs,hq,rs⟩:=R1.items hl ha';exact .inl ⟨_,rfl,⟨_,hq⟩,h ρ1 H1 _ e1 R1 (bm8 ha')⟩
theorem aX5{elts:List Expr}{x1:Nat}{tp:Pos}(ha:PE X a (LE X.K Ξ (wpE P ma)))(hg:Gl X "enumerate")(hm:X.mg "enumerate"=none)(hs:starEach [a] X.env=[(false,eval a X.env)]):PI X (.Tuple elts x1 tp) (.Call (.Name "enumerate" p) [a] [] pos) (LI X.K Ξ (wpI P (.itN ma))) :=
 (aZ8 hg hm (A8 hP ha (M7 hP) (by rw[hs];rfl)) hs).imp fun σv H R ⟨σ,g,ρ,s,Rr,h⟩=>by
  simp only[wpI] at h;refine thA hP (m:=.cons ma .nil) s Rr (.refl _ _) (Q0:=fun xs g1=>∃a l,xs=[.ref a]/\d4 g1 a=some l/\∀ρ' H' J,Ext ρ H ρ' H'->Rl X.K ρ' g1 H'->X3 X.K ρ' H' (.enl a) J->R J H') ?_ fun xs g1 ρ1 H1 vs e1 R1 r1 h=>?_
  ·simp only[wpA];exact b7 hP ma _ _ _ _ _ _ (fun x g1 ⟨i,l,e,hl,h⟩=>⟨i,l,by rw[e],hl,h⟩) (fun _ _ z=>z) h
  ·obtain⟨j,l,rfl,hl,h⟩:=h;obtain⟨v,rfl,rv⟩:=r1.one;obtain⟨a',rfl,ra⟩:=rv.i5;obtain⟨vs,hq,rs⟩:=R1.items hl ra;exact⟨_,rfl,⟨_,hq⟩,h ρ1 H1 _ e1 R1 (bm9 ra)⟩
theorem aX4(ha:PE X a (LE X.K Ξ (wpE P ma)))(hg:Gl X "range")(hm:X.mg "range"=none)(hs:starEach [a] X.env=[(false,eval a X.env)]):PI X tg (.Call (.Name "range" p) [a] [] pos) (LI X.K Ξ (wpI P (.itR1 ma))) :=
 (aF7 hg hm (A8 hP ha (M7 hP) (by rw[hs];rfl)) hs).imp fun σv H R ⟨σ,g,ρ,s,Rr,h⟩=>by
  simp only[wpI] at h;refine thA hP (m:=.cons ma .nil) s Rr (.refl _ _) (Q0:=fun xs g1=>∃j:Int,xs=[.int j]/\-(2 ^ 62)<=j/\j<2 ^ 62/\∀ρ' H' J,Ext ρ H ρ' H'->Rl X.K ρ' g1 H'->X3 X.K ρ' H' (.fix (i0 0 j.toNat)) J->R J H') ?_ fun xs g1 ρ1 H1 vs e1 R1 r1 h=>?_
  ·simp only[wpA];exact b7 hP ma _ _ _ _ _ _ (fun x g1 ⟨j,e,h1,h2,h⟩=>⟨j,by rw[e],h1,h2,h⟩) (fun _ _ z=>z) h
  ·obtain⟨j,rfl,h1,h2,h⟩:=h;obtain⟨v,rfl,rv⟩:=r1.one;obtain rfl:=rv.i7;exact⟨_,rfl,h1,h2,h ρ1 H1 _ e1 R1 aU4⟩
theorem aX3(ha:PE X a (LE X.K Ξ (wpE P ma)))(hb:PE X b (LE X.K Ξ (wpE P mb)))(hg:Gl X "range")(hm:X.mg "range"=none)(hs:starEach [a,b] X.env=[(false,eval a X.env),(false,eval b X.env)])(hs2:starEach [b] X.env=[(false,eval b X.env)]) :
  PI X tg (.Call (.Name "range" p) [a,b] [] pos) (LI X.K Ξ (wpI P (.itR2 ma mb))) :=
 (aF6 hg hm (A8 hP ha (A8 hP hb (M7 hP) (by rw[hs2];rfl)) (by rw[hs,hs2])) hs hs2).imp fun σv H R ⟨σ,g,ρ,s,Rr,h⟩=>by
  simp only[wpI] at h;refine thA hP (m:=.cons ma (.cons mb .nil)) s Rr (.refl _ _) (Q0:=fun xs g1=>∃i j:Int,xs=[.int i,.int j]/\(-(2 ^ 62)<=i/\i<2 ^ 62/\-(2 ^ 62)<=j/\j<2 ^ 62)/\∀ρ' H' J,Ext ρ H ρ' H'->Rl X.K ρ' g1 H'->X3 X.K ρ' H' (.fix (i0 i (j-i).toNat)) J->R J H') ?_ fun xs g1 ρ1 H1 vs e1 R1 r1 h=>?_
  ·simp only[wpA];exact b7 hP ma _ _ _ _ _ _ (fun x g1 h=>b7 hP mb _ _ _ _ _ _ (fun y g2 ⟨i,j,e,e',h1,h⟩=>⟨i,j,by rw[e,e'],h1,h⟩) (fun _ _ z=>z) h) (fun _ _ z=>z) h
  ·obtain⟨i,j,rfl,h1,h⟩:=h;obtain⟨v,w,rfl,rv,rw'⟩:=r1.two;obtain rfl:=rv.i7;obtain rfl:=rw'.i7;exact⟨_,_,rfl,h1,h ρ1 H1 _ e1 R1 aU4⟩
end
section
variable{X:Cx}{pos:Pos}
theorem a78{i:Nat}{x:Str}(hN:X.N.Nodup)(hi:X.N[i]?=some x)(hx:Loc X.env.scope x)(hf:X.fn x=true\/X.env.scope.names.lookup x=some .local):PG X (.Name x pos) (LG X.K (.one i)) :=
 (av8 hN hi hx hf).imp fun v σv H Q ⟨d,σ,g,ρ,s,R,r,h⟩=>h _ (s.set i r)
inductive SlotsOk(X:Cx):List Expr->List Nat->Prop
 |nil:SlotsOk X [] []
 |cons {x:Str} {p:Pos} {i:Nat} {es:List Expr} {is:List Nat} (hi:X.N[i]?=some x) (hx:Loc X.env.scope x) (hf:X.fn x=true\/X.env.scope.names.lookup x=some .local) (r:SlotsOk X es is):SlotsOk X (.Name x p::es) (i::is)
noncomputable def ar0:List Nat->TGs
 |[]=>bf3
 |i::is=>aU7 (Y4 i) (ar0 is)
theorem ai8(hN:X.N.Nodup):∀{es:List Expr} {is:List Nat},SlotsOk X es is->PGs X es (ar0 is)
 |_,_,.nil=>aZ9
 |_,_,.cons hi hx hf r=>aO7 (av8 hN hi hx hf) (ai8 hN r) rfl
theorem V2:∀{es:List Expr} {is:List Nat},SlotsOk X es is->(assignEach es X.env).length=is.length/\(assignEach es X.env).findIdx? (·.1)=none
 |_,_,.nil=>⟨rfl,rfl⟩
 |_,_,.cons (x:=x) (p:=p) (es:=es) hi hx hf r=>by
  obtain⟨h1,h2⟩:=V2 r;have e:assignEach (.Name x p::es) X.env=(false,assign (.Name x p) X.env)::assignEach es X.env:=rfl;rw[e];refine⟨by simp[h1],?_⟩;rw[List.findIdx?_cons,h2]
  rfl
theorem aj9{K:PySem.W.Frag}{ρ:List Addr}{H:Hp}{k:S->Prop}{Q:L2.St->Hp->Prop}:∀{is:List Nat} {l:List D} {vs:List V} {σ σ':S} {σv:L2.St},y4 is l σ=some σ'->a9 K ρ H l vs->j8 K ρ H σ σv->(∀σv',j8 K ρ H σ' σv'->Q σv' H)->ar0 is vs σv H Q
 |[],_,_,_,_,_,h,.nil,s,q=>by
  simp only[y4] at h;cases h;exact⟨rfl,q _ s⟩
 |[],_,_,_,_,_,h,.cons _ _,s,q=>by simp only[y4] at h;cases h
 |i::is,_,_,_,_,_,h,.nil,s,q=>by simp only[y4] at h;cases h
 |i::is,_,_,_,_,_,h,.cons r rr,s,q=>by
  simp only[y4] at h;exact⟨_,_,rfl,aj9 (k:=k) h rr (s.set i r) q⟩
theorem S1:∀{is:List Nat} {l:List D} {σ σ':S},y4 is l σ=some σ'->l.length=is.length
 |[],[],_,_,_=>rfl
 |[],_::_,_,_,h=>by simp only[y4] at h;cases h
 |_::_,[],_,_,h=>by simp only[y4] at h;cases h
 |_::is,_::l,_,_,h=>by simp only[y4] at h;simp[S1 h]
theorem av0{es:List Expr}{is:List Nat}{k:Nat}(hc:X.calm=true)(hN:X.N.Nodup)(hs:SlotsOk X es is):PG X (.Tuple es k pos) (LG X.K (.many is)) :=
 (ba5 hc (ai8 hN hs) (V2 hs).1 (V2 hs).2).imp fun v σv H Q ⟨d,σ,g,ρ,s,R,r,h⟩=>by
  obtain⟨l,σ',rfl,e,h⟩:=h;obtain⟨a',vs,rfl,ht,rs⟩:=r.B6;exact⟨_,_,rfl,ht.sq,by rw[<- rs.length];exact S1 e,aj9 (k:=fun _=>True) e rs s h⟩
end
theorem LN.ext{K ρ H N ρ1 H1}(e:Ext ρ H ρ1 H1):(LN K ρ H N).le (LN K ρ1 H1 N) :=
 ⟨fun σ g h ρ' H' σv' e' R s=>h ρ' H' σv' (e.trans e') R s,fun d g h=>h.ext e,fun σ g h ρ' H' σv' e' R s=>h ρ' H' σv' (e.trans e') R s,fun σ g h ρ' H' σv' e' R s=>h ρ' H' σv' (e.trans e') R s⟩
section
variable{X:Cx}{Ξ:XKE}{P:Sig}(hP:i6 P){a b c tg:Expr}{ma mb mc:ME}{st:Stmt}{rest:List Stmt}{mst mrest:MS}{pos p:Pos}
include hP
theorem aE2:PSs X [] (LS X.K Ξ (wpS P .pass)) :=
 (aZ2 (X:=X)).imp fun N σv H ⟨σ,g,ρ,s,R,h⟩=>h ρ H σv (.refl _ _) R s
theorem au9(h1:PS X st (LS X.K Ξ (wpS P mst)))(h2:PSs X rest (LS X.K Ξ (wpS P mrest))):PSs X (st::rest) (LS X.K Ξ (wpS P (.seq mst mrest))) :=
 (aO1 h1 h2).imp fun N σv H ⟨σ,g,ρ,s,R,h⟩ =>
  thS hP s R (.refl _ _) (show wpS P mst { LN X.K ρ H N with nx:=fun σ1 g1=>wpS P mrest (LN X.K ρ H N) σ1 g1 (LX X.K ρ H Ξ) } σ g (LX X.K ρ H Ξ) from h) ⟨fun σ1 g1 h ρ1 H1 σv1 e1 R1 s1=>thS hP s1 R1 e1 h (LN.ext e1),fun _ _ z=>z,fun _ _ z=>z,fun _ _ z=>z⟩
theorem aW7(ha:PE X a (LE X.K Ξ (wpE P ma)))(hs:swapsWith a none pos.line X.env=pure false):PS X (.Expr a pos) (LS X.K Ξ (wpS P (.expr ma))) :=
 (aZ5 ha hs).imp fun N σv H ⟨σ,g,ρ,s,R,h⟩=>thE hP s R (.refl _ _) h fun x g1 ρ1 H1 v1 e1 R1 r1 h=>h ρ1 H1 σv e1 R1 (s.ext e1)
theorem aD8{i:Nat}{x:Str}{p:Pos}(h0:PS X (.Assign [.Name x p] a pos) (ao1 (LE X.K Ξ (wpE P ma)) (Y4 i))):PS X (.Assign [.Name x p] a pos) (LS X.K Ξ (wpS P (.set i ma))) :=
 h0.imp fun N σv H ⟨σ,g,ρ,s,R,h⟩=>thE hP s R (.refl _ _) h fun x g1 ρ1 H1 v1 e1 R1 r1 h=>h ρ1 H1 _ e1 R1 ((s.ext e1).set i r1)
theorem a61{t:MT}(h0:PS X (.Assign [tg] a pos) (ao1 (LE X.K Ξ (wpE P ma)) (LG X.K t))):PS X (.Assign [tg] a pos) (LS X.K Ξ (wpS P (.unp t ma))) :=
 h0.imp fun N σv H ⟨σ,g,ρ,s,R,h⟩=>thE hP s R (.refl _ _) h fun x g1 ρ1 H1 v1 e1 R1 r1 h=>⟨x,σ,g1,ρ1,s.ext e1,R1,r1,A5 (fun σ' h σv' s'=>h ρ1 H1 σv' e1 R1 s') h⟩
theorem aL9(hu:X.A.units+100<cLine){o i:Expr}{mo mi:ME}{tp:Pos}(ha:PE X a (LE X.K Ξ (wpE P ma)))(ho:PE X o (LE X.K Ξ (wpE P mo)))(hi:PE X i (LE X.K Ξ (wpE P mi)))(hs:swapsWithSole [.Subscript o i tp] a pos.line X.env=pure false)(ha':∀ v,assign (.Subscript o i tp) X.env v=(do
   let ov <- holding [v] (eval o X.env)
   let iv <- holding [v,ov] (eval i X.env)
   standAt tp
   holding [v,ov,iv] (setItem ov iv v)
   release [v,ov,iv] [])):PS X (.Assign [.Subscript o i tp] a pos) (LS X.K Ξ (wpS P (.setix mo mi ma))) :=
 (aF3 ha (ba6 ho hi (a79 hu) ha') hs).imp fun N σv H ⟨σ,g,ρ,s,R,h⟩ =>
  thE hP s R (.refl _ _) h fun x g1 ρ1 H1 v1 e1 R1 r1 h=>thE hP (s.ext e1) R1 e1 h fun y g2 ρ2 H2 v2 e2 R2 r2 h=>thE hP (s.ext (e1.trans e2)) R2 (e1.trans e2) h fun z g3 ρ3 H3 v3 e3 R3 r3 h =>
   ⟨y,z,x,g3,ρ3,R3,r2.ext e3,r3,r1.ext (e2.trans e3),ai7 (fun g4 h ρ4 H4 e4 R4=>h ρ4 H4 σv (e1.trans (e2.trans (e3.trans e4))) R4 (s.ext (e1.trans (e2.trans (e3.trans e4))))) h⟩
omit hP in
noncomputable def af7(K:PySem.W.Frag)(f:Str)(cs:List Str):Prop:=∀c C,c∈cs->l6 K c C->p9 K C f
omit hP in
theorem aX6{f:Str}{cs:List Str}(hF:af7 X.K f cs){ρ:List Addr}{H:Hp}{g g':G}{x v:D}{xv vv:V}(R:Rl X.K ρ g H)(rx:c8 X.K ρ H x xv)(rv:c8 X.K ρ H v vv)(h:aT7 f cs x v g g') :
  ∃a C dx fs,xv=.ref a/\H a=some (.ins C dx fs)/\Cls X.K C/\p9 X.K C f/\fs.length<1000/\Rl X.K ρ g' (upd H a (.ins C dx (p0 f vv fs)))/\Ext ρ H ρ (upd H a (.ins C dx (p0 f vv fs))):=by
 obtain⟨i,c,fs,rfl,hi,hc,hz,rfl⟩:=h;obtain⟨a',rfl,ra⟩:=rx.i5;obtain⟨C,dx,vs,hH,hC,hcl,rk,na⟩:=R.ins hi ra;obtain⟨R',e'⟩:=R.put (o':=.ins c (I9 f v fs)) (u:=.ins C dx (p0 f vv vs)) hi rfl ra ⟨hC,hcl,rk.p0 rv,S3 (p:=fun y=>p9 X.K C y) (hF c C hc hC) na⟩;exact⟨a',C,dx,vs,rfl,hH,hcl,hF c C hc hC,by rw[<- rk.length];omega,R',e'⟩
theorem aW6{f:Str}{cs:List Str}{o:Expr}{mo:ME}{tp:Pos}(hF:af7 X.K f cs)(ho:PE X o (LE X.K Ξ (wpE P mo)))(ha:PE X a (LE X.K Ξ (wpE P ma)))(hs:swapsWith a (some (.Attribute o f tp)) pos.line X.env=pure false):PS X (.Assign [.Attribute o f tp] a pos) (LS X.K Ξ (wpS P (.setf f cs mo ma))) :=
 (ba3 ho ha hs).imp fun N σv H ⟨σ,g,ρ,s,R,h⟩=>thE hP s R (.refl _ _) h fun x g1 ρ1 H1 v1 e1 R1 r1 h=>thE hP (s.ext e1) R1 e1 h fun y g2 ρ2 H2 v2 e2 R2 r2 h=>by
  obtain⟨g3,h,q⟩:=h;obtain⟨a',C,dx,fs,hx,hH,hcl,na,hz,R3,e3⟩:=aX6 hF R2 r2 (r1.ext e2) h;exact⟨a',C,dx,fs,hx,hH,hcl,na,hz,q ρ2 _ σv (e1.trans (e2.trans e3)) R3 (s.ext (e1.trans (e2.trans e3)))⟩
theorem aW8{f:Str}{cs:List Str}{o:Expr}{mo:ME}{tp:Pos}(hF:af7 X.K f cs)(ho:PE X o (LE X.K Ξ (wpE P mo)))(ha:PE X a (LE X.K Ξ (wpE P ma))):PS X (.AugAssign (.Attribute o f tp) .Add a pos) (LS X.K Ξ (wpS P (.augf f cs mo ma))) :=
 (aF2 ho ha a24).imp fun N σv H ⟨σ,g,ρ,s,R,h⟩=>thE hP s R (.refl _ _) h fun y g1 ρ1 H1 v1 e1 R1 r1 h=>by
  obtain⟨i,c,fs,x,rfl,hi,hc,hf,h⟩:=h;obtain⟨a',rfl,ra⟩:=r1.i5;obtain⟨C,dx,vs,hH,hC,hcl,rk,na⟩:=R1.ins hi ra;have lk:=rk.look f;rw[hf] at lk;obtain⟨v,hv,rv⟩:=lk.some;refine⟨a',C,dx,vs,v,rfl,hH,hcl,hF c C hc hC,hv,thE hP (s.ext e1) R1 e1 h fun z g3 ρ3 H3 v3 e3 R3 r3 h=>?_⟩;obtain⟨d',g',hR,fs',hi',hz,q⟩:=h;have fin:∀{ρ4:List Addr} {H4:Hp} {vv:V},Ext ρ3 H3 ρ4 H4->Rl X.K ρ4 g' H4->c8 X.K ρ4 H4 d' vv->∃dx' fs',H4 a'=some (.ins C dx' fs')/\fs'.length<1000/\N.nx σv (upd H4 a' (.ins C dx' (p0 f vv fs'))):=by
   intro ρ4 H4 vv e4 R4 r4;obtain⟨C2,dx2,vs2,hH2,hC2,hcl2,rk2,na2⟩:=R4.ins hi' ((e3.trans e4).get ra);have:C2=C:=by have h1:=hC2.symm.trans hC;cases h1;rfl
   subst this;obtain⟨R5,e5⟩:=R4.put (o':=.ins c (I9 f d' fs')) (u:=.ins C2 dx2 (p0 f vv vs2)) hi' rfl ((e3.trans e4).get ra) ⟨hC2,hcl2,rk2.p0 r4,S3 (p:=fun y=>p9 X.K C2 y) (hF c C2 hc hC2) na2⟩;exact⟨dx2,vs2,hH2,by rw[<- rk2.length];omega,q ρ4 _ σv (e1.trans (e3.trans (e4.trans e5))) R5 (s.ext (e1.trans (e3.trans (e4.trans e5))))⟩
  rcases hR with⟨j,l,ex,rfl,rfl⟩|⟨l,m,ex,hz2,rfl,rfl⟩
  ·obtain⟨rfl,rfl⟩:=t7 ex;obtain rfl:=rv.i7;obtain rfl:=r3.i7;exact .inl ⟨_,_,rfl,rfl,fin (.refl _ _) R3 (.int _)⟩
  ·obtain⟨rfl,rfl⟩:=t7 ex;obtain⟨p1,vs1,rfl,t1,rs1⟩:=(rv.ext e3).B6;obtain⟨p2,vs2,rfl,t2,rs2⟩:=r3.B6;refine .inr ⟨p1,p2,vs1,vs2,rfl,rfl,t1.sq,t2.sq,by rw[<- rs1.length,<- rs2.length];exact j3 hz2,fun z=>?_,fun z=>?_,fun p hp=>?_⟩
   ·subst z;cases rs1;exact fin (.refl _ _) R3 (.tup t2 rs2)
   ·subst z;cases rs2;rw[List.append_nil] at fin;exact fin (.refl _ _) R3 (.tup t1 rs1)
   ·exact fin (u7 hp) (R3.grow hp) (.tup (.inl p8) ((rs1.append rs2).ext (u7 hp)))
theorem bj4{sa sb:List Stmt}{msa msb:MS}(hc:PT X c (LT X.K Ξ (wpT P mc)))(ha:PSs X sa (LS X.K Ξ (wpS P msa)))(hb:PSs X sb (LS X.K Ξ (wpS P msb))):PS X (.If c sa sb pos) (LS X.K Ξ (wpS P (.ifs mc msa msb))) :=
 (bk7 hc ha hb).imp fun N σv H ⟨σ,g,ρ,s,R,h⟩=>thT hP s R (.refl _ _) h fun t g1 ρ1 H1 e1 R1 h=>by
  cases t
  ·exact thS hP (s.ext e1) R1 e1 h (LN.ext e1)
  ·exact thS hP (s.ext e1) R1 e1 h (LN.ext e1)
theorem aD9(ha:PE X a (LE X.K Ξ (wpE P ma))):PS X (.Return (some a) pos) (LS X.K Ξ (wpS P (.ret ma))) :=
 (ba0 ha).imp fun N σv H ⟨σ,g,ρ,s,R,h⟩=>⟨σ,g,ρ,s,R,h⟩
theorem aL8{body:List Stmt}{mb:MS}(hp:PassesOwn (model X.prog X.w) X.A X.env X.xe)(hc:PT X c (LT X.K Ξ (wpT P mc)))(hb:PSs X body (LS X.K Ξ (wpS P mb))):PS X (.While c body [] pos) (LS X.K Ξ (wpS P (.whil mc mb))) :=
 (aO2 hp hc hb).imp fun N σv H ⟨σ,g,ρ,s,R,h⟩=>by
  obtain⟨W,⟨m0,w0⟩,h⟩:=h;refine⟨fun m σv' H'=>∃σ' g' ρ',Ext ρ H ρ' H'/\j8 X.K ρ' H' σ' σv'/\Rl X.K ρ' g' H'/\W m σ' g',⟨m0,σ,g,ρ,.refl _ _,s,R,w0⟩,?_⟩;rintro m σv' H' ⟨σ',g',ρ',e1,s',R',w'⟩;refine thT hP s' R' e1 (h m σ' g' w') fun t g1 ρ1 H1 e2 R1 q=>?_;cases t
  ·exact q ρ1 H1 σv' (e1.trans e2) R1 (s'.ext e2)
  ·obtain⟨N2,hN2,q⟩:=q;refine⟨fun σv2 H2=>∃σ2 g2 ρ2,Ext ρ H ρ2 H2/\j8 X.K ρ2 H2 σ2 σv2/\Rl X.K ρ2 g2 H2/\N2 σ2 g2,?_,?_⟩
   ·rintro σv2 H2 ⟨σ2,g2,ρ2,e3,s2,R2,n2⟩;obtain⟨m',hm,w2⟩:=hN2 σ2 g2 n2;exact⟨m',hm,σ2,g2,ρ2,e3,s2,R2,w2⟩
   ·refine thS hP (s'.ext e2) R1 (e1.trans e2) q ⟨?_,?_,?_,?_⟩
    ·exact fun σ3 g3 n3 ρ3 H3 σv3 e3 R3 s3=>⟨σ3,g3,ρ3,(e1.trans e2).trans e3,s3,R3,n3⟩
    ·exact fun d g3 h=>h.ext (e1.trans e2)
    ·exact fun σ3 g3 h ρ3 H3 σv3 e3 R3 s3=>h ρ3 H3 σv3 ((e1.trans e2).trans e3) R3 s3
    ·exact fun σ3 g3 n3 ρ3 H3 σv3 e3 R3 s3=>⟨σ3,g3,ρ3,(e1.trans e2).trans e3,s3,R3,n3⟩
theorem a64{iter:Expr}{mi:ME}{body:List Stmt}{mb:MS}{t:MT}(hp:PassesOwn (model X.prog X.w) X.A X.env X.xe)(hc:X.calm=true)(hi:PI X tg iter (LI X.K Ξ (wpI P mi)))(hg:PG X tg (LG X.K t))(hb:PSs X body (LS X.K Ξ (wpS P mb)))(hs:∀x,foldedSetIterable iter X.env x=pure x):PS X (.For tg iter body [] pos) (LS X.K Ξ (wpS P (.for_ t mi mb))) :=
 (ba2 hp hc hi hg hb hs).imp fun N σv H ⟨σ,g,ρ,s,R,h⟩=>by
  refine⟨σ,g,ρ,s,R,v7 hP mi _ _ _ _ _ _ (fun k g1 h ρ1 H1 J e1 R1 j1=>?_) (fun _ _ z=>z) h⟩;obtain⟨W,⟨m0,w0⟩,h⟩:=h;refine⟨fun i m σv' H'=>∃σ' g' ρ',Ext ρ1 H1 ρ' H'/\j8 X.K ρ' H' σ' σv'/\Rl X.K ρ' g' H'/\W i m σ' g',⟨m0,σ,g1,ρ1,.refl _ _,s.ext e1,R1,w0⟩,?_⟩;rintro i m σv' H' ⟨σ',g',ρ',e',s',R',w'⟩;obtain⟨j1a,j1b⟩:=j1 ρ' g' H' e' R' i;rcases h i m σ' g' w' with⟨ek,q⟩|⟨x,ek,N2,hN2,q⟩
  ·exact .inl ⟨j1a ek,q ρ' H' σv' (e1.trans e') R' s'⟩
  ·obtain⟨go,yl⟩:=j1b x ek;refine .inr ⟨go,fun σv2 H2=>∃σ2 g2 ρ2,Ext ρ1 H1 ρ2 H2/\j8 X.K ρ2 H2 σ2 σv2/\Rl X.K ρ2 g2 H2/\N2 σ2 g2,?_,?_⟩
   ·rintro σv2 H2 ⟨σ2,g2,ρ2,e2,s2,R2,n2⟩;obtain⟨m',hm,w2⟩:=hN2 σ2 g2 n2;exact⟨m',hm,σ2,g2,ρ2,e2,s2,R2,w2⟩
   ·intro v H2 y;obtain⟨e2,R2,r2⟩:=yl v H2 y;refine⟨x,σ',g',ρ',s'.ext e2,R2,r2,A5 (fun σ2 q σv2 s2=>?_) q⟩;refine thS hP s2 R2 (e1.trans (e'.trans e2)) q ⟨?_,?_,?_,?_⟩
    ·exact fun σ3 g3 n3 ρ3 H3 σv3 e3 R3 s3=>⟨σ3,g3,ρ3,(e'.trans e2).trans e3,s3,R3,n3⟩
    ·exact fun d g3 h=>h.ext (e1.trans (e'.trans e2))
    ·exact fun σ3 g3 h ρ3 H3 σv3 e3 R3 s3=>h ρ3 H3 σv3 (e1.trans ((e'.trans e2).trans e3)) R3 s3
    ·exact fun σ3 g3 n3 ρ3 H3 σv3 e3 R3 s3=>⟨σ3,g3,ρ3,(e'.trans e2).trans e3,s3,R3,n3⟩
theorem ar8{d0:List Nat}{n:Nat}{t:MT}{mi mcond me:ME}:∀σv H Q,LE X.K Ξ (wpE P (.comp d0 n t mi mcond me)) σv H Q->ac6 (LI X.K Ξ (wpI P mi)) d0 n (LG X.K t) (LT X.K (XK0 Ξ.1) (wpT P mcond)) (LE X.K (XK0 Ξ.1) (wpE P me)) σv H Q:=fun σv H Q ⟨σ,g,ρ,s,R,h⟩=>by
 simp only[wpE] at h;refine⟨σ,g,ρ,s,R,v7 hP mi _ _ _ _ _ _ (fun k g1 h ρ1 H1 J e1 R1 j1=>?_) (fun _ _ z=>z) h⟩;obtain⟨W,⟨m0,w0⟩,h⟩:=h;refine⟨fun i m ysv σv' H'=>∃ys σ' g' ρ',Ext ρ1 H1 ρ' H'/\j8 X.K ρ' H' σ' σv'/\Rl X.K ρ' g' H'/\a9 X.K ρ' H' ys ysv/\W i m ys σ' g',⟨m0,[],_,g1,ρ1,.refl _ _,(s.ext e1).d0 d0 n,R1,.nil,w0⟩,?_⟩;rintro i m ysv σv' H' ⟨ys,σ',g',ρ',e',s',R',ry,w'⟩;obtain⟨j1a,j1b⟩:=j1 ρ' g' H' e' R' i;rcases h i m ys σ' g' w' with⟨ek,q⟩|⟨x,ek,hz,q⟩
 ·exact .inl ⟨j1a ek,fun p hp=>(q.ext (e1.trans e')).new R' hp ry⟩
 ·obtain⟨go,yl⟩:=j1b x ek;refine .inr ⟨go,by rw[<- ry.length];exact Y2 hz,fun v H2 y=>?_⟩;obtain⟨e2,R2,r2⟩:=yl v H2 y;refine⟨x,σ',g',ρ',s'.ext e2,R2,r2,A5 (fun σ2 q σv2 s2=>?_) q⟩;refine⟨σ2,g',ρ',s2,R2,n8 hP mcond _ _ _ _ _ _ (fun b g3 q ρ3 H3 e3 R3=>?_) (fun _ _ z=>z.elim) q⟩;cases b
  ·obtain⟨m',hm,w3⟩:=q;exact⟨m',hm,ys,σ2,g3,ρ3,(e'.trans e2).trans e3,s2.ext e3,R3,(ry.ext e2).ext e3,by simpa using w3⟩
  ·refine⟨σ2,g3,ρ3,s2.ext e3,R3,b7 hP me _ _ _ _ _ _ (fun z g4 q ρ4 H4 v4 e4 R4 r4=>?_) (fun _ _ z=>z.elim) q⟩;obtain⟨m',hm,w4⟩:=q;exact⟨m',hm,ys++[z],σ2,g4,ρ4,(e'.trans e2).trans (e3.trans e4),(s2.ext e3).ext e4,R4,(((ry.ext e2).ext e3).ext e4).append (.cons r4 .nil),by simpa using w4⟩
theorem aE9{d0:List Nat}{n:Nat}{t:MT}{mi mcond me:ME}:∀σv H Q,LE X.K Ξ (wpE P (.rcomp d0 n t mi mcond me)) σv H Q->ac6 (LI X.K Ξ (wpI P mi)) d0 n (LG X.K t) (LT X.K (XK0 Ξ.1) (wpT P mcond)) (LE X.K Ξ (wpE P me)) σv H Q:=fun σv H Q ⟨σ,g,ρ,s,R,h⟩=>by
 simp only[wpE] at h;refine⟨σ,g,ρ,s,R,v7 hP mi _ _ _ _ _ _ (fun k g1 h ρ1 H1 J e1 R1 j1=>?_) (fun _ _ z=>z) h⟩;obtain⟨W,⟨m0,w0⟩,h⟩:=h;refine⟨fun i m ysv σv' H'=>∃ys σ' g' ρ',Ext ρ1 H1 ρ' H'/\j8 X.K ρ' H' σ' σv'/\Rl X.K ρ' g' H'/\a9 X.K ρ' H' ys ysv/\W i m ys σ' g',⟨m0,[],_,g1,ρ1,.refl _ _,(s.ext e1).d0 d0 n,R1,.nil,w0⟩,?_⟩;rintro i m ysv σv' H' ⟨ys,σ',g',ρ',e',s',R',ry,w'⟩;obtain⟨j1a,j1b⟩:=j1 ρ' g' H' e' R' i;rcases h i m ys σ' g' w' with⟨ek,q⟩|⟨x,ek,hz,q⟩
 ·exact .inl ⟨j1a ek,fun p hp=>(q.ext (e1.trans e')).new R' hp ry⟩
 ·obtain⟨go,yl⟩:=j1b x ek;refine .inr ⟨go,by rw[<- ry.length];exact Y2 hz,fun v H2 y=>?_⟩;obtain⟨e2,R2,r2⟩:=yl v H2 y;refine⟨x,σ',g',ρ',s'.ext e2,R2,r2,A5 (fun σ2 q σv2 s2=>?_) q⟩;refine⟨σ2,g',ρ',s2,R2,n8 hP mcond _ _ _ _ _ _ (fun b g3 q ρ3 H3 e3 R3=>?_) (fun _ _ z=>z.elim) q⟩;cases b
  ·obtain⟨m',hm,w3⟩:=q;exact⟨m',hm,ys,σ2,g3,ρ3,(e'.trans e2).trans e3,s2.ext e3,R3,(ry.ext e2).ext e3,by simpa using w3⟩
  ·refine⟨σ2,g3,ρ3,s2.ext e3,R3,b7 hP me _ _ _ _ _ _ (fun z g4 q ρ4 H4 v4 e4 R4 r4=>?_) (fun _ _ z=>z.ext (e1.trans ((e'.trans e2).trans e3))) q⟩;obtain⟨m',hm,w4⟩:=q;exact⟨m',hm,ys++[z],σ2,g4,ρ4,(e'.trans e2).trans (e3.trans e4),(s2.ext e3).ext e4,R4,(((ry.ext e2).ext e3).ext e4).append (.cons r4 .nil),by simpa using w4⟩
end
end M

namespace M
open PySem L2 PySem.Spec PyProof.Rows
section
variable{X:Cx}{Ξ:XKE}{P:Sig}(hP:i6 P)
include hP
theorem aM0{x:Str}{C:Addr}{B newId initId:String}{bm:List Value}{np cpos pos:Pos}{e₀:Expr}{rest:List Expr}{mes:ME}(hc:X.calm=true)(O:OwnCls x C bm newId X.mg X.base)(FB:ExcBaseFacts B newId initId bm)(hg:Gl X x)(ha:PA X (e₀::rest) (LA X.K Ξ (wpA P mes)))(hr:Z1 X Ξ.2)(hx:x∈Ξ.1)(hC:l6 X.K x C)(he:starEach (e₀::rest) X.env=(false,eval e₀ X.env)::starEach rest X.env)(hplain:(backTo cpos (starEach rest X.env)).any (·.1)=false)(hd:(x==("__debug__":Str))=false):PS X (.Raise (some (.Call (.Name x np) (e₀::rest) [] cpos)) none pos) (LS X.K Ξ (wpS P (.raise x mes))) :=
 (aO3 hc O FB hg ha hr he hplain hd).imp fun N σv H ⟨σ,g,ρ,s,R,h⟩=>by
  refine thA hP s R (.refl _ _) h fun ds g1 ρ1 H1 vs e1 R1 r1 h=>?_;exact⟨by rw[<- r1.length];exact j3 (Nat.le_trans h.1 (by decide)),h.2 ρ1 H1 C e1 R1 hx hC⟩
noncomputable def ax4(X:Cx)(ex:List Str)(D:L2.Ends)(hs:List ExceptHandler):XKE:=(ex,fun v _ H=>∃C,v=.ref C/\U3 X D C H hs)
inductive HsOk(X:Cx)(Ξ:XKE)(P:Sig):List ExceptHandler->List (Str×ME)->Prop
 |nil (hh:R7 X Ξ.2):HsOk X Ξ P [] []
 |cons {y:Str} {C':Addr} {p p1 p2:Pos} {e:Expr} {me:ME} {hs:List ExceptHandler} {ms:List (Str×ME)} (hg:Gl X y) (hd:(y==("__debug__":Str))=false) (hm:X.mg y=some (.ref C'))
   (hx:∀x C,x∈Ξ.1->l6 X.K x C->PySem.W.exmOne X.K (.ref C) (.ref C')=some (decide (x=y\/y="MintError"))) (he:∀ea,PE (y6 X ea) e (LE X.K (XK0 Ξ.1) (wpE P me))) (r:HsOk X Ξ P hs ms) :
   HsOk X Ξ P (.ExceptHandler (some (.Name y p)) none [.Return (some e) p1] p2::hs) ((y,me)::ms)
theorem an9{N:L2.Ends}{ρ ρ':List Addr}{H H':Hp}{σ:S}{g:G}{x:Xn}{C:Addr}(hl:σ.length=X.N.length)(e:Ext ρ H ρ' H')(R:Rl X.K ρ' g H')(hx:x.cls∈Ξ.1)(hC:l6 X.K x.cls C) :
  ∀{hs:List ExceptHandler} {ms:List (Str×ME)},HsOk X Ξ P hs ms->wpH P (LN X.K ρ H N) (σ.map fun _=>none) (LX X.K ρ H Ξ) ms x g->U3 X N C H' hs
 |_,_,.nil hh,q=>⟨Ξ.2,hh,q ρ' H' C e R hx hC⟩
 |_,_,.cons (me:=me) hg hd hm hxm he r,q=>by
  refine⟨hg,hd,_,_,hm,hxm _ _ hx hC,?_⟩;unfold wpH at q;split at q
  ·rename_i ex;rw[if_pos (by simpa using ex)];refine⟨LS X.K (XK0 Ξ.1) (wpS P (.seq (.ret me) .pass)),fun ea=>au9 (X:=y6 X ea) (Ξ:=XK0 Ξ.1) hP (aD9 (X:=y6 X ea) hP (he ea)) (aE2 (X:=y6 X ea) hP),?_⟩;refine⟨σ.map fun _=>none,g,ρ',⟨by simp[hl],fun i d z=>?_⟩,R,?_⟩
   ·rw[List.getElem?_map] at z;cases e:σ[i]? with
    |none=>rw[e] at z;cases z
    |some y=>rw[e] at z;cases z
   ·simp only[wpS];refine b7 hP me _ _ _ _ _ _ (fun d g1 h=>?_) (fun _ _ z=>z.elim) q;exact h.ext e
  ·rename_i ex;rw[if_neg (by simpa using ex)];exact an9 hl e R hx hC r q
theorem a62{h₀:ExceptHandler}{hs:List ExceptHandler}{ms:List (Str×ME)}{body:List Stmt}{mb:MS}{pos:Pos}(hst:X.stack=X.env::X.outer)(hf:X.env.frame=some X.env.locals)(hb:∀pins D,PSs (O0 X pins (X6 X pins D (h₀::hs))) body (LS X.K (ax4 X Ξ.1 D (h₀::hs)) (wpS P mb)))(hh:HsOk X Ξ P (h₀::hs) ms):PS X (.Try body (h₀::hs) [] [] pos) (LS X.K Ξ (wpS P (.R8 mb ms))):=by
 intro pins s σv H N I ⟨σ,g,ρ,sr,R,h⟩;refine a99 (t:=fun D=>LS X.K (ax4 X Ξ.1 D (h₀::hs)) (wpS P mb)) (Ξ:=fun D=>(ax4 X Ξ.1 D (h₀::hs)).2) hst hf (fun pins D _=>hb pins D) pins s σv H N I ⟨fun C H' ⟨C',e,z⟩=>by cases e;exact z,?_⟩;simp only[wpS] at h;refine⟨σ,g,ρ,sr,R,wpS_mono hP mb _ _ _ _ _ _ ⟨fun _ _ z=>z,fun _ _ z=>z,fun _ _ z=>z,fun _ _ z=>z⟩ (fun x g1 q ρ' H' C e' R' hm hc=>⟨C,rfl,?_⟩) h⟩;exact an9 (Ξ:=Ξ) hP (sr.len.trans I.len) e' R' hm hc hh q
end
end M

namespace M
open PySem L2 PySem.Spec PyProof.Rows
structure d6 where
 N:List Str
 nm:List (Str×NameKind)
 fnb:Bool
 fns:List (Str×Nat)
 con:List (Str×D)
 blt:List Str
 exc:List Str
 gd:List (Str×List D)
 cls:List (Str×Nat)
 mts:List (Str×Str×Nat)
 fls:List (Str×Str)
 rais:Bool
 tryb:Bool
noncomputable def okE:Expr->Bool
 |.Set ..=>false
 |.Starred ..=>false
 |.Slice ..=>false
 |_=>true
noncomputable def s9:Expr->Bool
 |.ListComp ..=>false
 |.SetComp ..=>false
 |.DictComp ..=>false
 |_=>true
noncomputable def ad5:Expr->Bool
 |.Tuple ..=>false
 |_=>true
noncomputable def V4:Expr->Bool
 |.Name ..=>true
 |.Call ..=>true
 |.Subscript ..=>true
 |.Constant ..=>true
 |.Attribute ..=>true
 |_=>false
noncomputable def V8:Expr->Bool
 |.Call (.Name ..) ..=>false
 |_=>true
noncomputable def d6.idx(c:d6)(x:Str):Option Nat:=c.N.findIdx? fun y=>decide (y=x)
noncomputable def d6.vis(c:d6)(x:Str):Bool:=match c.nm.lookup x with
 |some .local=>true
 |some .cell=>true
 |some .free=>true
 |_=>false
noncomputable def d6.gl(c:d6)(x:Str):Bool:=decide (c.nm.lookup x=some .globalImplicit)
noncomputable def d6.w5(c:d6)(x:Str):Bool:=decide (c.nm.lookup x=some .local)||decide (c.nm.lookup x=some .cell)
noncomputable def S6(x:Str):Bool:=(x==("__debug__":Str))==false&&(x==("__classdict__":Str))==false&&decide (x≠"__name__")
noncomputable def ay1:List (Str×String):=[("int","int"),("bool","bool"),("str","str"),("tuple","tuple"),("list","list")]
noncomputable def as8:List (Str×Pr):=[("len",.len),("list",.list),("tuple",.tuple),("isinstance",.isin),("all",.all),("max",.max),("min",.min),("int",.int),("str",.str),("dict",.dcopy),("any",.any),("sorted",.sortd)]
noncomputable def Q7:List (Str×Pr):=[("clear",.clear),("pop",.pop0)]
noncomputable def ap5:List (Str×Pr):=[("append",.append),("pop",.pop),("get",.get),("extend",.extend)]
noncomputable def ah9:Expr->Option (Str×List Expr)
 |.Call (.Name x _) args [] _=>some (x,args)
 |_=>none
noncomputable def aV5:Expr->Bool
 |.Tuple ..=>true
 |_=>false
noncomputable def asName:Expr->Option Str
 |.Name x _=>some x
 |_=>none
noncomputable def frees(sc:Scope):List Str:=(sc.names.filter fun y=>decide (y.2=.free)).map (·.1)
noncomputable def locals(sc:Scope):List Str:=(sc.names.filter fun y=>decide (y.2=.local)||decide (y.2=.cell)).map (·.1)
noncomputable def d6.inner(c:d6)(sc:Scope):d6:={ c with N:=frees sc++locals sc,nm:=sc.names,fnb:=false,rais:=false,tryb:=false }
noncomputable def d6.d0(c:d6)(sc:Scope):List Nat:=(frees sc).map fun x=>(c.idx x).getD 0
noncomputable def d6.ag2(c:d6)(sc:Scope):Bool :=
 decide (sc.kind=.function)&&sc.names.all (fun y=>!decide (y.2=.cell)||decide (sc.names.lookup y.1=some .cell))&&sc.names.all (fun y=>!decide (y.2=.local)||decide (sc.names.lookup y.1=some .local)) &&
 decide (frees sc++locals sc).Nodup&&(frees sc).all (fun x=>(c.idx x).isSome&&decide (sc.names.lookup x=some .free)&&(decide (c.nm.lookup x=some .cell)||decide (c.nm.lookup x=some .free)))
noncomputable def d6.slot(c:d6)(e:Expr):Option Nat:=(asName e).bind fun x=>if c.w5 x then c.idx x else none
noncomputable def d6.slots(c:d6):List Expr->Option (List Nat)
 |[]=>some []
 |e::r=>(c.slot e).bind fun i=>(c.slots r).map fun is=>i::is
noncomputable def d6.tg(c:d6)(e:Expr):Option MT:=((c.slot e).map .one).orElse fun _=>match e with
 |.Tuple es _ _=>(c.slots es).map .many
 |_=>none
noncomputable def U0:Const->Option D
 |.int i=>some (.int i)
 |.bool b=>some (.bl b)
 |.none=>some .non
 |.str x=>some (.str x)
 |_=>none
structure CF where
 e:d6->Expr->Option ME
 t:d6->Expr->Option ME
 s:d6->Stmt->Option MS
section
variable(r:CF)(c:d6)
noncomputable def c1(p:Pr)(a:Expr):Option ME:=(r.e c a).map fun m=>.prim p (.cons m .nil)
noncomputable def c2(p:Pr)(a b:Expr):Option ME:=(r.e c a).bind fun ma=>(r.e c b).map fun mb=>.prim p (.cons ma (.cons mb .nil))
noncomputable def B4:List Expr->Option ME
 |[]=>some .nil
 |e::es=>if okE e then(r.e c e).bind fun m=>(B4 es).map fun ms=>.cons m ms else none
noncomputable def ae8:List (Option Expr)->List Expr->Option ME
 |[],[]=>some .nil
 |some k::ks,v::vs=>(r.e c k).bind fun mk=>(r.e c v).bind fun mv=>(ae8 ks vs).map fun ms=>.cons mk (.cons mv ms)
 |_,_=>none
noncomputable def am5(op:BoolOp):List Expr->Option ME
 |[]=>none
 |[a]=>r.e c a
 |a::b::rs=>(r.e c a).bind fun ma=>(am5 op (b::rs)).map fun mb=>match op with
  |.And=>.and_ ma mb
  |.Or=>.or_ ma mb
noncomputable def am4(op:BoolOp):List Expr->Option ME
 |[]=>none
 |[a]=>r.t c a
 |a::b::rs=>(r.t c a).bind fun ma=>(am4 op (b::rs)).map fun mb=>match op with
  |.And=>.and_ ma mb
  |.Or=>.or_ ma mb
noncomputable def aK2:List Expr->Option ME
 |[]=>some .no
 |[e]=>r.t c e
 |_=>none
noncomputable def o8:List Stmt->Option MS
 |[]=>some .pass
 |s::rs=>(r.s c s).bind fun m=>(o8 rs).map fun ms=>.seq m ms
noncomputable def ax5(x:Str):Option ME :=
 if S6 x then(if c.vis x then(c.idx x).map .var else if c.gl x then((c.con.lookup x).map .lit).orElse fun _=>if c.blt.contains x then(ay1.lookup x).map fun t=>.lit (.ty t) else none else none) else none
noncomputable def xUn(op:UnaryOp)(a:Expr):Option ME:=if op=.Not then(r.e c a).map .not_ else c1 r c (.un op) a
noncomputable def d6.aB0(b:Expr):Option (List D):=(asName b).bind fun x=>if c.gl x&&S6 x then c.gd.lookup x else none
noncomputable def bv2:CmpOp->Option Bool
 |.In=>some false
 |.NotIn=>some true
 |_=>none
noncomputable def am9(a:Expr)(ops:List CmpOp)(bs:List Expr):Option ME:=match ops,bs with
 |[op],[b]=>if behindInMarks op b then none else((bv2 op).bind fun neg=>(c.aB0 b).bind fun kvs=>(r.e c a).map fun ma=>.prim (am2 neg) (.cons (.lit (.tup kvs)) (.cons ma .nil))).orElse fun _=>c2 r c (.cmp op) a b
 |[op,op'],[b,d]=>if lastMarks [op,op'] [b,d] then none else(r.e c a).bind fun ma=>(r.e c b).bind fun mb=>(r.e c d).map fun md=>.chain op op' ma mb md
 |_,_=>none
noncomputable def bw6:Expr->Option (Option Expr×Option Expr×Option Expr)
 |.Slice lo hi st _=>some (lo,hi,st)
 |_=>none
noncomputable def xSl(a:Expr):Option Expr->Option Expr->Option Expr->Option ME
 |none,none,none=>c1 r c (.slc false false) a
 |some b,none,none=>c2 r c (.slc true false) a b
 |none,some b,none=>c2 r c (.slc false true) a b
 |_,_,_=>none
noncomputable def aL3(a b:Expr):Option ME:=((bw6 b).bind fun q=>xSl r c a q.1 q.2.1 q.2.2).orElse fun _=>if okE b then((c.aB0 a).bind fun kvs=>(r.e c b).map fun mb=>.prim .gget (.cons (.lit (.tup kvs)) (.cons mb .nil))).orElse fun _=>c2 r c .ix a b else none
noncomputable def xSp(x:Str)(e:Expr):Option ME:=(ah9 e).bind fun q =>
 if x="list" && q.1="range" && c.blt.contains "list" && c.blt.contains "range" && c.gl "range" then (match q.2 with
  |[a]=>if okE a then c1 r c .lrng1 a else none
  |[a,b]=>if okE a&&okE b then c2 r c .lrng2 a b else none
  | _=>none)
 else none
noncomputable def bq2(x:Str)(e:Expr):List Expr->Option ME
 |[]=>xSp r c x e
 |_=>none
noncomputable def an2(x:Str):Option ME:=if S6 x&&c.gl x then(c.cls.lookup x).map fun f=>.make x f .nil else none
noncomputable def an1(x:Str)(e:Expr)(es:List Expr):Option ME:=if S6 x&&c.gl x then(bq2 r c x e es).orElse fun _=>(B4 r c (e::es)).bind fun ms=>((c.fns.lookup x).map fun f=>.call f ms).orElse fun _=>((c.cls.lookup x).map fun f=>.make x f ms).orElse fun _=>if c.blt.contains x then(as8.lookup x).map fun p=>.prim p ms else none else none
noncomputable def aD0(x:Str):List Expr->Option ME
 |[]=>an2 c x
 |e::es=>an1 r c x e es
noncomputable def d6.meths(m:Str):List (Str×Nat):=(c.mts.filter fun y=>decide (y.1=m)).map (·.2)
noncomputable def an0(o:Expr)(m:Str)(apos pos:Pos)(args:List Expr):Option ME :=
 if V8 o && (apos.endLine == pos.line) && decide (args.length < 20) then (r.e c o).bind fun mo=>(B4 r c args).bind fun ms=>if m="index" then (if args.isEmpty then none else some (.meth .index mo ms)) else if args.isEmpty && (Q7.lookup m).isSome then (Q7.lookup m).map fun p=>.meth p mo ms else (match ap5.lookup m with
  |some p=>if args.isEmpty then none else some (.meth p mo ms)
  | none=>some (.methc m (c.meths m) mo ms)) else none
noncomputable def ax6(f:Expr)(args:List Expr)(kws:List Keyword)(pos:Pos):Option ME:=if kws.isEmpty then(match f with
 |.Name x _=>aD0 r c x args
 |.Attribute o m apos=>an0 r c o m apos pos args
 | _=>none) else none
noncomputable def ae6(tg e:Expr):Option ME:=(((ah9 e).bind fun q =>
  if q.1="enumerate" then (match q.2 with
   |[a]=>if c.gl "enumerate"&&c.blt.contains "enumerate"&&okE a&&aV5 tg then(r.e c a).map .itN else none
   | _=>none)
  else if q.1="range" then (match q.2 with
   |[a]=>if c.gl "range"&&c.blt.contains "range"&&okE a then(r.e c a).map .itR1 else none
   |[a,b]=>if c.gl "range"&&c.blt.contains "range"&&okE a&&okE b then(r.e c a).bind fun ma=>(r.e c b).map fun mb=>.itR2 ma mb else none
   | _=>none)
  else none):Option ME).orElse fun _=>if okE e then (r.e c e).map .itE else none
noncomputable def X5(elt:Expr)(gens:List Comprehension)(sc:Scope):Option ME:=match gens with
 |[⟨tg,it,ifs,isa⟩]=>if c.ag2 sc&&decide (isa=0)&&okE it then((c.inner sc).tg tg).bind fun t=>(ae6 r c tg it).bind fun mi=>(aK2 r (c.inner sc) ifs).bind fun mc=>(r.e (c.inner sc) elt).map fun me=>.comp (c.d0 sc) (frees sc++locals sc).length t mi mc me else none
 |_=>none
noncomputable def xSC(f:Expr)(args:List Expr)(kws:List Keyword):Option ME:=(fun(_:CF) (_:d6)=>none) r c
noncomputable def xSU(f:Expr)(args:List Expr)(kws:List Keyword):Option ME:=(fun(_:d6)=>none) c
noncomputable def aT6:Expr->Option ME
 |.Name x _=>ax5 c x
 |.Constant k _ _=>(U0 k).map .lit
 |.BinOp a op b _=>c2 r c (.bin op) a b
 |.UnaryOp op a _=>xUn r c op a
 |.Compare a ops bs _=>am9 r c a ops bs
 |.BoolOp op vs _=>am5 r c op vs
 |.IfExp t a b _=>(r.t c t).bind fun mt=>(r.e c a).bind fun ma=>(r.e c b).map fun mb=>.ite mt ma mb
 |.Tuple es _ _=>(B4 r c es).map (.prim .tup)
 |.List es _=>(B4 r c es).map (.prim .lst)
 |.Subscript a b _=>aL3 r c a b
 |.Dict ks vs _=>if ks.isEmpty&&vs.isEmpty then some (.prim .X0 .nil) else if decide (ks.length<=15) then(ae8 r c ks vs).map .dct else none
 |.Attribute o f _=>if V8 o then c1 r c (.fld f) o else none
 |.Call f args kws pos=>(xSC r c f args kws).orElse fun _=>(xSU c f args kws).orElse fun _=>ax6 r c f args kws pos
 |.ListComp elt gens sc _=>X5 r c elt gens sc
 |_=>none
noncomputable def stepT:Expr->Option ME
 |.UnaryOp op a _=>if op=.Not then(r.t c a).map .not_ else none
 |.BoolOp op vs _=>am4 r c op vs
 |.Compare a ops bs _=>(am9 r c a ops bs).map .tst
 |e=>if V4 e then(r.e c e).map .tst else none
noncomputable def d6.az0:List Expr->Expr->Bool
 |[.Name x px,.Name y py],.Tuple [a,b] _ _=>decide (c.nm.lookup x=some .local)&&decide (c.nm.lookup y=some .local)&&decide (x≠y)&&decide (py.line=px.line)&&okE a&&okE b&&!([a,b].all (foldedForSure 8))&&!([a,b].all (constantsAlone 8))
 |_,_=>false
noncomputable def aV1:Expr->Option ME
 |.Constant k _ _=>(U0 k).map .lit
 |_=>none
noncomputable def ae5:List Expr->Option ME
 |[]=>some .nil
 |e::es=>(aV1 e).bind fun m=>(ae5 es).map fun ms=>.cons m ms
noncomputable def aV2:Expr->Option ME
 |.List es _=>(ae5 es).map (.prim .lst)
 |.Constant k _ _=>(U0 k).map .lit
 |_=>none
noncomputable def at0:ExceptHandler->Option (Str×Expr)
 |.ExceptHandler (some (.Name y _)) none [.Return (some e) _] _=>some (y,e)
 |_=>none
noncomputable def ae7:List ExceptHandler->Option (List (Str×ME))
 |[]=>some []
 |h::hs=>(at0 h).bind fun q=>if c.exc.contains q.1&&c.gl q.1&&S6 q.1 then(aV2 q.2).bind fun m=>(ae7 hs).map fun ms=>(q.1,m)::ms else none
noncomputable def ah8:Option Expr->Option Expr->Option (Str×Expr×List Expr)
 |some (.Call (.Name x _) (e::es) [] _),none=>some (x,e,es)
 |_,_=>none
noncomputable def d6.ag8(f:Str):List Str:=(c.fls.filter fun y=>decide (y.1=f)).map (·.2)
noncomputable def a91(tg e:Expr):Option MS:=match tg with
 |.Name x _=>if c.w5 x then(c.idx x).bind fun i=>(r.e c e).map fun m=>.set i m else none
 |.Tuple es _ _=>if(ad5 e&&s9 e)||c.az0 es e then(c.slots es).bind fun is=>(r.e c e).map fun m=>.unp (.many is) m else none
 |.Subscript o i _=>if okE i&&s9 e then(r.e c o).bind fun mo=>(r.e c i).bind fun mi=>(r.e c e).map fun m=>.setix mo mi m else none
 |.Attribute o f _=>if s9 e then(r.e c o).bind fun mo=>(r.e c e).map fun m=>.setf f (c.ag8 f) mo m else none
 |_=>none
noncomputable def toR(e:Expr):ME->ME
 |.comp a n t i k (.methc x y z w)=>if !s9 e&&c.tryb then .rcomp a n t i k (.methc x y z w) else .comp a n t i k (.methc x y z w)
 |m=>m
noncomputable def aT5:Stmt->Option MS
 |.Expr e _=>if s9 e then(r.e c e).map .expr else none
 | .Assign tgs e _=>(match tgs with
  |[tg]=>a91 r c tg e
  | _=>none)
 | .AugAssign tg op e _=>(match tg with
  |.Attribute o f _=>if decide (op=.Add) then(r.e c o).bind fun mo=>(r.e c e).map fun m=>.augf f (c.ag8 f) mo m else none
  | _=>none)
 |.If t a b _=>(r.t c t).bind fun mt=>(o8 r c a).bind fun ma=>(o8 r c b).map fun mb=>.ifs mt ma mb
 |.For tg it body els _=>if c.fnb&&(els.isEmpty&&okE it) then(c.tg tg).bind fun t=>(ae6 r c tg it).bind fun mi=>(o8 r c body).map fun mb=>.for_ t mi mb else none
 |.While t body els _=>if c.fnb&&els.isEmpty then(r.t c t).bind fun mt=>(o8 r c body).map fun mb=>.whil mt mb else none
 | .Return e _=>(match e with
  |some e=>(r.e c e).map fun m=>.ret (toR c e m)
  | none=>some .retn)
 |.Pass _=>some .pass
 |.Raise e f _=>(ah8 e f).bind fun q=>if c.rais&&c.exc.contains q.1&&c.gl q.1&&S6 q.1 then(B4 r c (q.2.1::q.2.2)).map (.raise q.1) else none
 |.Try body hs el fi _=>if c.tryb&&!hs.isEmpty&&el.isEmpty&&fi.isEmpty then(o8 r { c with rais:=false,tryb:=false } body).bind fun mb=>(ae7 c hs).map fun ms=>.R8 mb ms else none
 |_=>none
end
noncomputable def comp:Nat->CF
 |0=>⟨fun _ _=>none,fun _ _=>none,fun _ _=>none⟩
 |n+1=>⟨aT6 (comp n),stepT (comp n),aT5 (comp n)⟩
end M

namespace M
open PySem L2 PySem.Spec PyProof.Rows
structure COk(X:Cx)(c:d6)(P:Sig)(Ξ:XKE):Prop where
 N:X.N=c.N
 nd:c.N.Nodup
 loc:∀x,c.nm.lookup x=some .local->X.env.scope.names.lookup x=some .local
 cel:∀x,c.nm.lookup x=some .cell->X.env.scope.names.lookup x=some .cell
 fre:∀x,c.nm.lookup x=some .free->X.env.scope.names.lookup x=some .cell\/X.env.scope.names.lookup x=some .free
 glo:∀x,c.nm.lookup x=some .globalImplicit->X.env.scope.names.lookup x=some .globalImplicit
 cells:∀x,(c.nm.lookup x=some .cell\/c.nm.lookup x=some .free)->∃a,X.env.cells.lookup x=some a
 fnb:∀x,c.nm.lookup x=some .cell->X.fn x=true
 calm:X.calm=true
 units:X.A.units+100<cLine
 own:c.fnb=true->PassesOwn (model X.prog X.w) X.A X.env X.xe
 mono:i6 P
 con:∀x d,c.con.lookup x=some d->∃v u,X.mg x=some u/\RelV v u/\∀ρ H,c8 X.K ρ H d v
 blt:∀x,c.blt.contains x=true->X.mg x=none
 fns:∀x f,c.fns.lookup x=some f->∃k fa fd ps,FnR X P Ξ.1 k f fa fd ps/\k9 k X.A/\X.mg x=some (.ref fa)/\PySem.W.keepIn X.K (.ref fa)=true
 cls:∀x f,c.cls.lookup x=some f->∃k C fa fd ps,FnR X P Ξ.1 k f fa fd ps/\k9 (k+1) X.A/\X.mg x=some (.ref C)/\l6 X.K x C/\Cls X.K C/\Mk X.K C fa
 mts:∀m y f C,(m,y,f)∈c.mts->l6 X.K y C->∃k fa fd ps,Meth X.K C m fa/\FnR X P Ξ.1 k f fa fd ps/\k9 k X.A
 fls:∀f y C,(f,y)∈c.fls->l6 X.K y C->p9 X.K C f
 exq:Ξ.1=c.exc
 pass:Passes (CXE X.prog X.w) X Ξ.2
 rais:c.rais=true->Z1 X Ξ.2
 tryb:c.tryb=true->X.stack=X.env::X.outer/\X.env.frame=some X.env.locals/\R7 X Ξ.2
 exc:∀x,c.exc.contains x=true->∃C,X.mg x=some (.ref C)/\l6 X.K x C/\∃B newId initId bm,OwnCls x C bm newId X.mg X.base/\ExcBaseFacts B newId initId bm
 exm:∀x y C C',c.exc.contains x=true->c.exc.contains y=true->l6 X.K x C->l6 X.K y C'->PySem.W.exmOne X.K (.ref C) (.ref C')=some (decide (x=y\/y="MintError"))
 gdc:∀x kvs,c.gd.lookup x=some kvs->am8 X x kvs
section
variable{X:Cx}{c:d6}{P:Sig}{Ξ:XKE}
theorem a25{c:d6}{x:Str}{i:Nat}(h:c.idx x=some i):c.N[i]?=some x:=by
 unfold d6.idx at h;rw[List.findIdx?_eq_some_iff_getElem] at h;obtain⟨h1,h2,_⟩:=h;rw[List.getElem?_eq_getElem h1,of_decide_eq_true h2]
theorem COk.bh5(C:COk X c P Ξ){x:Str}(h:c.vis x=true):Vis X.env.scope x:=by
 unfold d6.vis at h;split at h
 ·rename_i e;exact .inl (C.loc x e)
 ·rename_i e;exact .inr (.inl (C.cel x e))
 ·rename_i e;rcases C.fre x e with z|z
  ·exact .inr (.inl z)
  ·exact .inr (.inr z)
 ·cases h
theorem COk.z9(C:COk X c P Ξ){x:Str}(h:c.gl x=true):Gl X x:=C.glo x (of_decide_eq_true h)
theorem COk.w5(C:COk X c P Ξ){x:Str}(h:c.w5 x=true):Loc X.env.scope x/\(X.fn x=true\/X.env.scope.names.lookup x=some .local):=by
 unfold d6.w5 at h;rw[Bool.or_eq_true] at h;rcases h with h|h
 ·have:=C.loc x (of_decide_eq_true h);exact⟨.inl this,.inr this⟩
 ·exact⟨.inr (C.cel x (of_decide_eq_true h)),.inl (C.fnb x (of_decide_eq_true h))⟩
theorem COk.ag7(C:COk X c P Ξ){x:Str}{i:Nat}(h:c.idx x=some i):X.N[i]?=some x:=by rw[C.N];exact a25 h
theorem COk.ndN(C:COk X c P Ξ):X.N.Nodup:=by rw[C.N];exact C.nd
theorem af4{e:Expr}{x:Str}(h:asName e=some x):∃p,e=.Name x p:=by
 cases e<;>first|(cases h;exact⟨_,rfl⟩)|cases h
theorem ao3{e:Expr}{i:Nat}(h:c.slot e=some i):∃x p,e=.Name x p/\c.w5 x=true/\c.idx x=some i:=by
 unfold d6.slot at h;obtain⟨x,hx,h2⟩:=Option.bind_eq_some_iff.mp h;obtain⟨p,rfl⟩:=af4 hx;split at h2
 ·exact⟨x,p,rfl,by assumption,h2⟩
 ·cases h2
theorem COk.slots(C:COk X c P Ξ):∀{es:List Expr} {is:List Nat},c.slots es=some is->SlotsOk X es is:=by
 intro es
 induction es with
 |nil=>intro is h;cases h;exact .nil
 |cons e r ih =>
  intro is h;unfold d6.slots at h;obtain⟨i,hi,h⟩:=Option.bind_eq_some_iff.mp h;obtain⟨is',hs,rfl⟩:=Option.map_eq_some_iff.mp h;obtain⟨x,p,rfl,hl,hx⟩:=ao3 hi;exact .cons (C.ag7 hx) (C.w5 hl).1 (C.w5 hl).2 (ih hs)
theorem orElse_some{α:Type}{a:Option α}{b:Unit->Option α}{m:α}(h:a.orElse b=some m):a=some m\/b ()=some m:=by
 cases a with
 |none=>exact .inr h
 |some x=>exact .inl h
theorem COk.a51(C:COk X c P Ξ){tg:Expr}{t:MT}(h:c.tg tg=some t):PG X tg (LG X.K t):=by
 unfold d6.tg at h;rcases orElse_some h with h|h
 ·obtain⟨i,hi,rfl⟩:=Option.map_eq_some_iff.mp h;obtain⟨x,p,rfl,hl,hx⟩:=ao3 hi;exact a78 C.ndN (C.ag7 hx) (C.w5 hl).1 (C.w5 hl).2
 ·cases tg<;>first|(cases h;done)|skip
  obtain⟨is,hs,rfl⟩:=Option.map_eq_some_iff.mp (show(c.slots _).map MT.many=some t from h);exact av0 C.calm C.ndN (C.slots hs)
theorem k7{e:Expr}{es:List Expr}{env:Env}(h:okE e=true):starEach (e::es) env=(false,eval e env)::starEach es env:=by
 cases e<;>first|rfl|cases h
theorem S4{e:Expr}{env:Env}(h:okE e=true):∀x,foldedSetIterable e env x=pure x:=by
 intro x;cases e<;>first|rfl|cases h
theorem aG7{e:Expr}(h:okE e=true):ai0 e:=by
 intro o i;cases e<;>first|rfl|cases h
theorem a11{o i:Expr}{tp:Pos}{env:Env}(h:okE i=true):∀v,assign (.Subscript o i tp) env v=(do
      let ov <- holding [v] (eval o env)
      let iv <- holding [v,ov] (eval i env)
      standAt tp
      holding [v,ov,iv] (setItem ov iv v)
      release [v,ov,iv] []):=by
  intro v;cases i<;>first|rfl|cases h
theorem O1{e:Expr}{t:Option Expr}{n:Nat}{env:Env}(h:s9 e=true):swapsWith e t n env=pure false:=by
 cases e<;>first|rfl|cases h
theorem aP8{e:Expr}{es:List Expr}{k:Nat}{p:Pos}{env:Env}(h:ad5 e=true):swappedStores [.Tuple es k p] e env=pure none:=by
 cases e<;>first|rfl|cases h
theorem aF5{e:Expr}{env:Env}(h:V4 e=true):∀whole,isTrue e env whole=(do let v <- whole;standAt e.pos;holding [v] (truthy v)):=by
 intro w;cases e<;>first|rfl|cases h
theorem aa2{e:Expr}{q:Str×List Expr}(h:ah9 e=some q):∃p pos,e=.Call (.Name q.1 p) q.2 [] pos:=by
 cases e<;>first|(cases h;done)|skip
 rename_i f as kws pos;cases f<;>first|(cases h;done)|skip
 cases kws<;>first|(cases h;done)|skip
 cases h;exact⟨_,_,rfl⟩
theorem aK9{e:Expr}(h:aV5 e=true):∃es k p,e=.Tuple es k p:=by
 cases e<;>first|exact⟨_,_,_,rfl⟩|cases h
theorem aq9{b:Expr}{kvs:List D}(h:c.aB0 b=some kvs):∃x p,b=.Name x p/\c.gl x=true/\S6 x=true/\c.gd.lookup x=some kvs:=by
 unfold d6.aB0 at h;obtain⟨x,hx,h2⟩:=Option.bind_eq_some_iff.mp h;obtain⟨p,rfl⟩:=af4 hx;split at h2
 ·rename_i hc;rw[Bool.and_eq_true] at hc;exact⟨x,p,rfl,hc.1,hc.2,h2⟩
 ·cases h2
theorem C9{o:Expr}{f:Str}{env:Env}(h:V8 o=true):attributeBase o f env (eval o env)=eval o env:=by
 cases o<;>first|rfl|skip
 rename_i f as kws pos;cases f<;>first|rfl|cases h
theorem ah4{env:Env}:∀(names:List (Str×NameKind)) (acc:List (Str×Addr)),(∀y∈names,y.2=.free->∃a,env.cells.lookup y.1=some a)->(∀x a,acc.lookup x=some a->env.cells.lookup x=some a) ->
  ∃ cl,(forIn names acc fun (y:Str × NameKind) (cs:List (Str × Addr))=>(match y with
   |(name,kind)=>if(kind==NameKind.free)=true then do
     let __do_lift <- cellOf env name
     pure (ForInStep.yield ((name,__do_lift)::cs))
    else pure (ForInStep.yield cs):Sem (ForInStep (List (Str × Addr)))))=pure cl/\(∀ x a,cl.lookup x=some a->env.cells.lookup x=some a)/\(∀ y ∈ names,y.2=.free->∃ a,cl.lookup y.1=some a)/\∀ x a,acc.lookup x=some a->∃ a',cl.lookup x=some a'
 |[],acc,_,h2=>⟨acc,rfl,h2,fun y hy=>absurd hy (by simp),fun x a h=>⟨a,h⟩⟩
 |(n,k)::r,acc,h1,h2=>by
  rw[List.forIn_cons];by_cases hk:k=.free
  ·subst hk;obtain⟨a,ha⟩:=h1 (n,.free) (by simp) rfl;have hc:cellOf env n=pure a:=by unfold cellOf;rw[ha]
   obtain ⟨cl,e,q1,q2,q3⟩:=ah4 r ((n,a) :: acc) (fun y hy=>h1 y (by simp [hy])) (fun x b hb=>by
    rw[List.lookup_cons] at hb;cases hx:x==n with
    |true=>rw[hx] at hb;cases hb;rw[eq_of_beq hx];exact ha
    | false=>rw [hx] at hb;exact h2 x b hb)
   refine⟨cl,?_,q1,fun y hy hf=>?_,fun x b hb=>?_⟩
   ·simp only[beq_self_eq_true,if_true,hc];exact e
   ·rcases List.mem_cons.mp hy with z|z
    ·subst z;exact q3 n a (by simp[List.lookup_cons])
    ·exact q2 y z hf
   ·cases hx:x==n with
    |true=>exact q3 x a (by rw[List.lookup_cons,hx])
    |false=>exact q3 x b (by rw[List.lookup_cons,hx];exact hb)
  ·have hb:(k==NameKind.free)=false:=by simpa using hk
   obtain⟨cl,e,q1,q2,q3⟩:=ah4 r acc (fun y hy=>h1 y (by simp[hy])) h2;refine⟨cl,?_,q1,fun y hy hf=>?_,q3⟩
   ·simp only[hb,Bool.false_eq_true,if_false];exact e
   ·rcases List.mem_cons.mp hy with z|z
    ·subst z;exact absurd hf hk
    ·exact q2 y z hf
end
end M

namespace M
open PySem L2 PySem.Spec PyProof.Rows
theorem aG2{P:Program}{w:World}{X:Cx}:Passes (CXE P w) X (fun _ _ _=>False):=fun _ _ _ _ _ _ _ h=>by
 obtain⟨_,_,_,_,_,_,_,z⟩:=h;exact z.elim
theorem L0{env:Env}:∀{names:List (Str×NameKind)} {x:Str},names.lookup x=some .globalImplicit ->
  (names.map fun(n,k)=>if(k==NameKind.free&&env.scope.kind==.function&&env.kindOf n==some .cell) then(n,NameKind.cell) else(n,k)).lookup x=some .globalImplicit
 |[],_,h=>by simp at h
 |(n,k)::r,x,h=>by
  have ih:=@L0 env r x;show List.lookup x ((if(k==NameKind.free&&env.scope.kind==.function&&env.kindOf n==some .cell)=true then(n,NameKind.cell) else(n,k))::_)=_;cases hx:x==n with
  |true =>
   simp only[List.lookup_cons,hx] at h;cases h;simp[List.lookup_cons,hx]
  |false =>
   simp only[List.lookup_cons,hx] at h;by_cases hc:(k==NameKind.free&&env.scope.kind==.function&&env.kindOf n==some .cell)=true
   ·rw[if_pos hc];simp only[List.lookup_cons,hx];exact ih h
   ·rw[if_neg hc];simp only[List.lookup_cons,hx];exact ih h
section
variable{X:Cx}{c:d6}{P:Sig}{Ξ:XKE}
theorem COk.comp(C:COk X c P Ξ){sc:Scope}(h:c.ag2 sc=true):∃cl,CompScope X sc (frees sc++locals sc) (c.d0 sc) cl/\∀pins A s H fp,COk (d8 X pins sc (frees sc++locals sc) cl A s H fp) (c.inner sc) P (XK0 Ξ.1):=by
 unfold d6.ag2 at h;simp only[Bool.and_eq_true,decide_eq_true_eq,List.all_eq_true] at h;obtain⟨⟨⟨⟨h1,h2⟩,h3⟩,h4⟩,h5⟩:=h;have hfree:∀x,sc.names.lookup x=some .free->x∈frees sc:=fun x hx=>by
  unfold frees;exact List.mem_map.mpr ⟨(x,.free),List.mem_filter.mpr ⟨PySem.mem_of_lookup hx,by simp⟩,rfl⟩
 have fr:∀x∈frees sc,(∃i,c.idx x=some i)/\sc.names.lookup x=some .free/\(c.nm.lookup x=some .cell\/c.nm.lookup x=some .free):=fun x hx=>by
  have:=h5 x hx;rw[Option.isSome_iff_exists,Bool.or_eq_true] at this;simp only[decide_eq_true_eq] at this;exact⟨this.1.1,this.1.2,this.2⟩
 have cellOk:∀y∈sc.names,y.2=.free->∃a,X.env.cells.lookup y.1=some a:=fun y hy hf=>by
  have hm:y.1∈frees sc:=List.mem_map.mpr ⟨y,List.mem_filter.mpr ⟨hy,by simp[hf]⟩,rfl⟩;exact C.cells y.1 (fr y.1 hm).2.2
 obtain⟨cl,e,q1,q2,_⟩:=ah4 sc.names [] cellOk (fun x a h=>by simp at h);have h2:∀y∈sc.names,y.2=.cell->sc.names.lookup y.1=some .cell:=fun y hy hl=>by
  have:=h2 y hy;rw[Bool.or_eq_true] at this;simp only[Bool.not_eq_true',decide_eq_false_iff_not,decide_eq_true_eq] at this;exact this.resolve_left fun z=>z hl
 refine⟨cl,⟨h1,h2,fun y hy hl=>?_,?_,q1,fun x hx=>q2 (x,.free) (PySem.mem_of_lookup hx) rfl,h4,fun i j hij=>?_,?_⟩,fun pins A s H fp=>?_⟩
 ·have:=h3 y hy;rw[Bool.or_eq_true] at this;simp only[Bool.not_eq_true',decide_eq_false_iff_not,decide_eq_true_eq] at this;exact this.resolve_left fun z=>z hl
 ·simp only[closureFor];rw[e]
  rfl
 ·unfold d6.d0 at hij;rw[List.getElem?_map] at hij;cases ex:(frees sc)[i]? with
  |none=>rw[ex] at hij;cases hij
  |some x =>
   rw[ex] at hij;have hx:x∈frees sc:=List.mem_of_getElem? ex;obtain⟨⟨k,hk⟩,hl,hc⟩:=fr x hx;have hj:k=j:=by
    have:=Option.some.inj hij;dsimp only at this;rw[hk] at this;exact this
   subst hj;refine⟨x,?_,C.ag7 hk,hl,?_⟩
   ·rw[List.getElem?_append_left (List.getElem?_eq_some_iff.mp ex).1];exact ex
   ·rcases hc with z|z
    ·exact .inl (C.cel x z)
    ·exact C.fre x z
 ·unfold d6.d0;rw[List.length_map,List.length_append];omega
 ·refine⟨rfl,h4,fun x hx=>lookup_relabel_local hx,fun x hx=>?_,fun x hx=>y9 hx,fun x hx=>L0 hx,fun x hx=>?_,fun x _=>?_,rfl,C.units,(fun _=>PassesOwn.never),C.mono,C.con,C.blt,C.fns,C.cls,C.mts,C.fls,C.exq,aG2,(fun z=>by cases z),(fun z=>by cases z),C.exc,C.exm,C.gdc⟩
  ·exact F4 hx
  ·rcases hx with hx|hx
   ·exact ak2 (.inl hx)
   ·exact ak2 (.inr (q2 (x,.free) (PySem.mem_of_lookup hx) rfl))
  ·exact decide_eq_true ‹_›
theorem COk.block{pins:List (Addr×Obj)}{sc:Scope}{N':List Str}{cl:List (Str×Addr)}{A:Addr}{s:Shared}{H:Hp}{fp:List Addr}(I:COk (d8 X pins sc N' cl A s H fp) (c.inner sc) P (XK0 Ξ.1)):COk ((d8 X pins sc N' cl A s H fp).A3 (af3 X Ξ.2 pins sc N' cl fp A s H)) (c.inner sc) P Ξ :=
 ⟨I.N,I.nd,I.loc,I.cel,I.fre,I.glo,I.cells,I.fnb,I.calm,I.units,(fun z=>by cases z),I.mono,I.con,I.blt,I.fns,I.cls,I.mts,I.fls,I.exq,fun pins1 σ1 H1 s1 e s' J h=>⟨pins1,σ1,H1,s1,J.w6,h⟩,(fun z=>by cases z),(fun z=>by cases z),I.exc,I.exm,I.gdc⟩
theorem C5{x:Str}(h:S6 x=true):(x==("__debug__":Str))=false/\(x==("__classdict__":Str))=false/\x≠"__name__":=by
 unfold S6 at h;simp only[Bool.and_eq_true,decide_eq_true_eq,beq_iff_eq] at h;exact⟨h.1.1,h.1.2,h.2⟩
theorem aL6{x:Str}{t:String}(h:ay1.lookup x=some t):bootBuiltins x=some (.type t):=by
 have hm:=PySem.mem_of_lookup h;simp only[ay1,List.mem_cons,List.mem_nil_iff,or_false] at hm;rcases hm with z|z|z|z|z<;>(cases z;first|exact PyProof.Rows.boot_int|exact PyProof.Rows.boot_bool|exact PyProof.Rows.boot_str|exact PyProof.Rows.boot_tuple|exact PyProof.Rows.boot_list|decide +kernel|rfl)
theorem aK8{x:Str}{p:Pr}(hc:X.calm=true)(h:as8.lookup x=some p):∃v,((∃id,v=.builtin id)\/∃T,v=.type T)/\bootBuiltins x=some v/\i8 X v (rN X.K p):=by
 have hm:=PySem.mem_of_lookup h;simp only[as8,List.mem_cons,List.mem_nil_iff,or_false] at hm;rcases hm with z|z|z|z|z|z|z|z|z|z|z|z
 ·cases z;exact⟨.builtin "len",.inl ⟨_,rfl⟩,PySem.boot_len,bd7⟩
 ·cases z;exact⟨.type "list",.inr ⟨_,rfl⟩,by first|exact PyProof.Rows.boot_list|decide +kernel,a17⟩
 ·cases z;exact⟨.type "tuple",.inr ⟨_,rfl⟩,by first|exact PyProof.Rows.boot_tuple|decide +kernel,aL7⟩
 ·cases z;exact⟨.builtin "isinstance",.inl ⟨_,rfl⟩,by first|exact PyProof.Rows.boot_isinstance|decide +kernel,a23⟩
 ·cases z;exact⟨.builtin "all",.inl ⟨_,rfl⟩,by first|exact PyProof.Rows.boot_all|decide +kernel,bg6 hc⟩
 ·cases z;exact⟨.builtin "max",.inl ⟨_,rfl⟩,by first|exact PyProof.Rows.boot_max|decide +kernel,bd2 hc⟩
 ·cases z;exact⟨.builtin "min",.inl ⟨_,rfl⟩,by first|exact PyProof.Rows.boot_min|decide +kernel,bd1 hc⟩
 ·cases z;exact⟨.type "int",.inr ⟨_,rfl⟩,by first|exact PyProof.Rows.boot_int|decide +kernel,be6⟩
 ·cases z;exact⟨.type "str",.inr ⟨_,rfl⟩,by first|exact PyProof.Rows.boot_str|decide +kernel,a66⟩
 ·cases z;exact⟨.type "dict",.inr ⟨_,rfl⟩,by first|exact PyProof.Rows.boot_dict|decide +kernel,aR5⟩
 ·cases z;exact⟨.builtin "any",.inl ⟨_,rfl⟩,by first|exact PyProof.Rows.boot_any|decide +kernel,bg5 hc⟩
 ·cases z;exact⟨.builtin "sorted",.inl ⟨_,rfl⟩,by first|exact PyProof.Rows.boot_sorted|decide +kernel,aM3 hc⟩
theorem az8{x:Str}{p:Pr}(h:Q7.lookup x=some p):∃T id,PlainAttrs T/\Slot T x id/\typeOf (.builtin id)=pure (.type "method_descriptor")/\MtR X id (rM X.K p) /\
  ∀{d:D} {v:V} {g:G} {ρ:List Addr} {H:Hp},Rl X.K ρ g H->c8 X.K ρ H d v->mkP p d g->tyV X.K T v H:=by
 have hm:=PySem.mem_of_lookup h;simp only[Q7,List.mem_cons,List.mem_nil_iff,or_false] at hm;rcases hm with z|z
 ·cases z;exact⟨_,_,PySem.F.plainAttrs_list,PySem.F.slot_list_clear,PySem.F.type_list_clear,aS0,fun R r h=>ty_list R r h⟩
 ·cases z;exact⟨_,_,PySem.F.plainAttrs_list,PySem.F.slot_list_pop,PySem.F.type_list_pop,aZ7,fun R r h=>ty_list R r h⟩
theorem aH6{x:Str}{p:Pr}(hu:X.A.units+100<cLine)(h:ap5.lookup x=some p):∃T id,PlainAttrs T/\Slot T x id/\typeOf (.builtin id)=pure (.type "method_descriptor")/\MtR X id (rM X.K p) /\
  ∀{d:D} {v:V} {g:G} {ρ:List Addr} {H:Hp},Rl X.K ρ g H->c8 X.K ρ H d v->mkP p d g->tyV X.K T v H:=by
 have hm:=PySem.mem_of_lookup h;simp only[ap5,List.mem_cons,List.mem_nil_iff,or_false] at hm;rcases hm with z|z|z|z
 ·cases z;exact⟨_,_,PySem.F.plainAttrs_list,PySem.F.slot_list_append,PySem.F.type_list_append,aL0,fun R r h=>ty_list R r h⟩
 ·cases z;exact⟨_,_,PySem.F.plainAttrs_list,PySem.F.slot_list_pop,PySem.F.type_list_pop,aO5,fun R r h=>ty_list R r h⟩
 ·cases z;exact⟨_,_,PySem.F.plainAttrs_dict,PySem.F.slot_dict_get,PySem.F.type_dict_get,bf2 hu,fun R r h=>ty_dict R r h⟩
 ·cases z;exact⟨_,_,PySem.F.plainAttrs_list,PySem.F.slot_list_extend,PySem.F.type_list_extend,aJ2,fun R r h=>ty_list R r h⟩
theorem ao2{pos:Pos}{env:Env}:∀{es:List Expr},(∀e∈es,okE e=true)->(backTo pos (starEach es env)).all (fun x=>!x.1)=true
 |[],_=>rfl
 |e::es,h=>by
  rw[k7 (h e (by simp))];have ih:=ao2 (pos:=pos) (env:=env) (es:=es) fun x hx=>h x (by simp[hx]);unfold backTo at ih ⊢;rw[List.map_cons,List.all_cons,ih]
  rfl
theorem M5{pos:Pos}{env:Env}:∀{es:List Expr},(∀e∈es,okE e=true)->(backTo pos (starEach es env)).any (·.1)=false
 |[],_=>rfl
 |e::es,h=>by
  rw[k7 (h e (by simp))];have ih:=M5 (pos:=pos) (env:=env) (es:=es) fun x hx=>h x (by simp[hx]);unfold backTo at ih ⊢;rw[List.map_cons,List.any_cons,ih]
  rfl
theorem ab3{r:CF}:∀{es:List Expr} {m:ME},B4 r c es=some m->∀e∈es,okE e=true:=by
 intro es
 induction es with
 |nil=>intro m _ e he;exact absurd he (by simp)
 |cons a es ih =>
  intro m h e he;unfold B4 at h;split at h
  ·obtain⟨m1,h1,h⟩:=Option.bind_eq_some_iff.mp h;obtain⟨m2,h2,_⟩:=Option.map_eq_some_iff.mp h;rcases List.mem_cons.mp he with z|z
   ·rw[z];assumption
   ·exact ih h2 e z
  ·cases h
end
structure Snd(P:Sig)(r:CF):Prop where
 e:∀X c Ξ,COk X c P Ξ->∀e m,r.e c e=some m->PE X e (LE X.K Ξ (wpE P m))
 t:∀X c Ξ,COk X c P Ξ->∀e m,r.t c e=some m->PT X e (LT X.K Ξ (wpT P m))
 s:∀X c Ξ,COk X c P Ξ->∀st m,r.s c st=some m->PS X st (LS X.K Ξ (wpS P m))
section
variable{X:Cx}{c:d6}{P:Sig}{Ξ:XKE}{r:CF}(S:Snd P r)(C:COk X c P Ξ){a b d e:Expr}{m:ME}{pos:Pos}
include S C
theorem af2{p:Pr}(h:c1 r c p a=some m):∃ma,PE X a (LE X.K Ξ (wpE P ma))/\m=.prim p (.cons ma .nil):=by
 obtain⟨ma,ha,rfl⟩:=Option.map_eq_some_iff.mp h;exact⟨ma,S.e X c Ξ C _ _ ha,rfl⟩
theorem R6{p:Pr}(h:c2 r c p a b=some m):∃ma mb,PE X a (LE X.K Ξ (wpE P ma))/\PE X b (LE X.K Ξ (wpE P mb))/\m=.prim p (.cons ma (.cons mb .nil)):=by
 obtain⟨ma,ha,h⟩:=Option.bind_eq_some_iff.mp h;obtain⟨mb,hb,rfl⟩:=Option.map_eq_some_iff.mp h;exact⟨ma,mb,S.e X c Ξ C _ _ ha,S.e X c Ξ C _ _ hb,rfl⟩
theorem n_A:∀{es:List Expr} {m:ME},B4 r c es=some m->PA X es (LA X.K Ξ (wpA P m)):=by
 intro es
 induction es with
 |nil=>intro m h;cases h;exact M7 C.mono
 |cons a es ih =>
  intro m h;unfold B4 at h;split at h
  ·rename_i hok;obtain⟨m1,h1,h⟩:=Option.bind_eq_some_iff.mp h;obtain⟨m2,h2,rfl⟩:=Option.map_eq_some_iff.mp h;exact A8 C.mono (S.e X c Ξ C _ _ h1) (ih h2) (k7 hok)
  ·cases h
theorem n_D:∀{ks:List (Option Expr)} {vs:List Expr} {m:ME},ae8 r c ks vs=some m->∃trs,DOk X Ξ P ks vs m trs:=by
 intro ks
 induction ks with
 |nil=>intro vs m h;cases vs<;>first|(cases h;exact⟨_,.nil⟩)|cases h
 |cons k ks ih =>
  intro vs m h;cases k<;>first|(cases h;done)|skip
  cases vs<;>first|(cases h;done)|skip
  unfold ae8 at h;obtain⟨m1,h1,h⟩:=Option.bind_eq_some_iff.mp h;obtain⟨m2,h2,h⟩:=Option.bind_eq_some_iff.mp h;obtain⟨m3,h3,rfl⟩:=Option.map_eq_some_iff.mp h;obtain⟨trs,D⟩:=ih h3;exact⟨_,.cons (S.e X c Ξ C _ _ h1) (S.e X c Ξ C _ _ h2) D⟩
theorem n_B{op:BoolOp}:∀{vs:List Expr} {m:ME},am5 r c op vs=some m->PE X (.BoolOp op vs pos) (LE X.K Ξ (wpE P m)):=by
 intro vs
 induction vs with
 |nil=>intro m h;cases h
 |cons a vs ih =>
  intro m h;cases vs with
  |nil=>exact ba9 (S.e X c Ξ C _ _ h)
  |cons b vs =>
   unfold am5 at h;obtain⟨m1,h1,h⟩:=Option.bind_eq_some_iff.mp h;obtain⟨m2,h2,rfl⟩:=Option.map_eq_some_iff.mp h;cases op
   ·exact a88 C.mono (S.e X c Ξ C _ _ h1) (ih h2)
   ·exact bj8 C.mono (S.e X c Ξ C _ _ h1) (ih h2)
theorem n_W{op:BoolOp}:∀{vs:List Expr} {m:ME},am4 r c op vs=some m->PW X (.BoolOp op vs pos) (LT X.K Ξ (wpT P m)):=by
 intro vs
 induction vs with
 |nil=>intro m h;cases h
 |cons a vs ih =>
  intro m h;cases vs with
  |nil =>
   cases op
   ·exact aY8 (S.t X c Ξ C _ _ h)
   ·exact a96 (S.t X c Ξ C _ _ h)
  |cons b vs =>
   unfold am4 at h;obtain⟨m1,h1,h⟩:=Option.bind_eq_some_iff.mp h;obtain⟨m2,h2,rfl⟩:=Option.map_eq_some_iff.mp h;cases op
   ·exact a65 C.mono (S.t X c Ξ C _ _ h1) (ih h2)
   ·exact bj5 C.mono (S.t X c Ξ C _ _ h1) (ih h2)
theorem bt9{es:List Expr}(h:aK2 r c es=some m):PTs X es (LT X.K Ξ (wpT P m)):=by
 rcases es with _|⟨e,_|⟨_,_⟩⟩
 ·cases h;exact aW9 C.mono
 ·exact aZ0 (S.t X c Ξ C _ _ h)
 ·cases h
theorem ag5:∀{sts:List Stmt} {m:MS},o8 r c sts=some m->PSs X sts (LS X.K Ξ (wpS P m)):=by
 intro es
 induction es with
 |nil=>intro m h;cases h;exact aE2 C.mono
 |cons a es ih =>
  intro m h;unfold o8 at h;obtain⟨m1,h1,h⟩:=Option.bind_eq_some_iff.mp h;obtain⟨m2,h2,rfl⟩:=Option.map_eq_some_iff.mp h;exact au9 C.mono (S.s X c Ξ C _ _ h1) (ih h2)
end
theorem Z7{e t:Expr}{n:Nat}{env:Env}(h:s9 e=true):swapsWithSole [t] e n env=pure false:=by
 show swapsWith e (some t) n env=pure false;exact O1 h
theorem ay9{x y:Str}{px py pt pt2:Pos}{kt k2:Nat}{a b:Expr}{env:Env}(hk:env.scope.kind=.function)(hx:env.kindOf x=some .local)(hy:env.kindOf y=some .local)(hne:x≠y)(hl:py.line=px.line)(ha:okE a=true)(hb:okE b=true)(h1:[a,b].all (foldedForSure 8)=false)(h2:[a,b].all (constantsAlone 8)=false):swappedStores [.Tuple [.Name x px,.Name y py] kt pt] (.Tuple [a,b] k2 pt2) env=pure (some [x,y]):=by
 have hbk:env.blockKind=.function:=by simp[Env.blockKind,hk,ScopeKind.isAnnotationScope]
 have hd:[x,y].eraseDups.length=2:=by
  have:(y==x)=false:=by simpa using Ne.symm hne
  simp[List.eraseDups_cons,this]
 have hx':(env.kindOf x==some NameKind.local&&px.line==px.line)=true:=by simp[hx]
 have hy':(env.kindOf y==some NameKind.local&&py.line==px.line)=true:=by simp[hy,hl]
 have hp:Expr.pos (.Name x px)=px:=rfl;unfold swappedStores;simp only[List.length_cons,List.length_nil,hbk,List.head?_cons,Option.map_some,Option.getD_some,hp,List.filterMap_cons,List.filterMap_nil,hx',hy',if_true,hd,h1,h2];rw[if_neg (by decide),if_neg ?_]
 ·rfl
 ·simp only[List.any_cons,List.any_nil,Bool.or_false,Bool.or_eq_true,not_or];constructor
  ·cases a<;>first|(intro h;cases h;done)|cases ha
  ·cases b<;>first|(intro h;cases h;done)|cases hb
theorem a63{X:Cx}{Ξ:XKE}{P:Sig}(hP:i6 P){i j:Nat}{x y:Str}{a b:Expr}{px py pt pt2 pos:Pos}{kt k2:Nat}{mes:ME}(hc:X.calm=true)(hN:X.N.Nodup)(hi:X.N[i]?=some x)(hj:X.N[j]?=some y)(hne:x≠y)(hl:py.line=px.line)(hx:X.env.scope.names.lookup x=some .local)(hy:X.env.scope.names.lookup y=some .local)(oa:okE a=true)(ob:okE b=true)(h1:[a,b].all (foldedForSure 8)=false)(h2:[a,b].all (constantsAlone 8)=false)(ha:PA X [a,b] (LA X.K Ξ (wpA P mes))):PS X (.Assign [.Tuple [.Name x px,.Name y py] kt pt] (.Tuple [a,b] k2 pt2) pos) (LS X.K Ξ (wpS P (.unp (.many [i,j]) (.prim .tup mes)))):=by
 intro pins s σv H D I h;have hij:i≠j:=by
  rintro rfl;rw[hi] at hj;cases hj;exact hne rfl
 refine ba1 hc hN hi hj hij hx hy ha (ay9 I.ok.kind hx hy hne hl oa ob h1 h2) rfl pins s σv H D I ?_;obtain⟨σ,g,ρ,sr,R,h⟩:=h;refine thA hP sr R (.refl _ _) (show wpA P mes σ g (fun xs g1=>prP .tup xs g1 _) _ from h) fun ds g1 ρ1 H1 vs e1 R1 r1 h=>?_;obtain⟨d',g',⟨_,rfl,rfl⟩,l,σ',ex,hs,h⟩:=h;cases ex;have hl:=S1 hs;have e2:∃d1 d2,ds=[d1,d2]:=by
  rcases ds with _|⟨d1,_|⟨d2,_|⟨d3,r⟩⟩⟩<;>first|exact⟨_,_,rfl⟩|(simp at hl;done)|(simp at hl;omega)
 obtain⟨d1,d2,rfl⟩:=e2;obtain⟨v,w,rfl,q1,q2⟩:=r1.two;cases hs;exact⟨_,_,rfl,h ρ1 H1 _ e1 R1 (((sr.ext e1).set i q1).set j q2)⟩
theorem COk.R8{X:Cx}{c:d6}{Ξ:XKE}{P:Sig}(C:COk X c P Ξ)(hst:X.stack=X.env::X.outer)(hf:X.env.frame=some X.env.locals)(pins:List (Addr×Obj))(D:L2.Ends)(hs:List ExceptHandler) :
  COk (O0 X pins (X6 X pins D hs)) { c with rais:=false,tryb:=false } P (ax4 X Ξ.1 D hs) :=
 ⟨C.N,C.nd,C.loc,C.cel,C.fre,C.glo,C.cells,C.fnb,C.calm,C.units,(fun _=>PassesOwn.looking),C.mono,C.con,C.blt,C.fns,C.cls,C.mts,C.fls,C.exq,aP6 hst hf fun C H' ⟨C',e,z⟩=>(by cases e;exact z),(fun z=>by cases z),(fun z=>by cases z),C.exc,C.exm,C.gdc⟩
end M

namespace M
open PySem L2 PySem.Spec PyProof.Rows
theorem aj0{o:Expr}{m:Str}{apos pos:Pos}{args:List Expr}{env:Env}(hb:V8 o=true)(hl:(apos.endLine==pos.line)=true)(hf:methodCallForm args.length (backTo pos (starEach args env)) (backToKw pos (keywordEach [] env))=true) :
  eval (.Call (.Attribute o m apos) args [] pos) env=(do
   let ov <- eval o env
   standAt apos.atName
   let (f,first) <- holding [ov] (getMethod ov m (do return (<- importBound o env).getD true))
   callWith pos f first (backTo pos (starEach args env)) (backToKw pos (keywordEach [] env))):=by
 have h1:eval (.Call (.Attribute o m apos) args [] pos) env=(do
   let ov <- attributeBase o m env (eval o env)
   standAt apos.atName
   methodCall o m apos pos env ov (args.length + 0) (backTo pos (starEach args env)) (backToKw pos (keywordEach [] env))):=rfl
 rw[h1,C9 hb];have h2:∀ ov,methodCall o m apos pos env ov (args.length + 0) (backTo pos (starEach args env)) (backToKw pos (keywordEach [] env))=(do
   let (f,first) <- holding [ov] (getMethod ov m (do return (<- importBound o env).getD true))
   callWith pos f first (backTo pos (starEach args env)) (backToKw pos (keywordEach [] env))):=fun ov=>by
  unfold methodCall calleeOf methodCallPos;rw[Nat.add_zero,hf,hl];simp only[if_true,Bool.not_true,Bool.false_or,pure_bind]
 simp only[h2]
section
variable{X:Cx}{c:d6}{P:Sig}{Ξ:XKE}{r:CF}(S:Snd P r)(C:COk X c P Ξ){a b d e:Expr}{m:ME}{pos:Pos}
include C
theorem bc7{x:Str}(h:ax5 c x=some m):PE X (.Name x pos) (LE X.K Ξ (wpE P m)):=by
 unfold ax5 at h;split at h
 ·rename_i hdb;obtain⟨d1,d2,d3⟩:=C5 hdb;split at h
  ·rename_i hv;obtain⟨i,hi,rfl⟩:=Option.map_eq_some_iff.mp h;exact a80 (C.ag7 hi) (C.bh5 hv) d1 d2
  ·split at h
   ·rename_i hg;rcases orElse_some h with h|h
    ·obtain⟨d,hd,rfl⟩:=Option.map_eq_some_iff.mp h;obtain⟨v,u,hm,r,rr⟩:=C.con x d hd;exact Q3 (X9 (C.z9 hg) hm r d1) rr
    ·split at h
     ·rename_i hb;obtain⟨t,ht,rfl⟩:=Option.map_eq_some_iff.mp h;exact Q3 (v:=.ty t) (a03 (C.z9 hg) (C.blt x hb) (aL6 ht) rfl d3 d1) fun _ _=>.ty t
     ·cases h
   ·cases h
 ·cases h
omit C in
theorem n_K{k:Const}{j:Nat}{d:D}(h:U0 k=some d):PE X (.Constant k j pos) (LE X.K Ξ (wpE P (.lit d))):=by
 cases k<;>first|(cases h;done)|skip
 ·cases h;exact Q3 bb1 fun _ _=>.non
 ·cases h;exact Q3 bl3 fun _ _=>.bl _
 ·cases h;exact Q3 bb3 fun _ _=>.int _
 ·cases h;exact Q3 ba8 fun _ _=>.str _
include S
theorem bt8{op:UnaryOp}(h:xUn r c op a=some m):PE X (.UnaryOp op a pos) (LE X.K Ξ (wpE P m)):=by
 unfold xUn at h;split at h
 ·rename_i ho;subst ho;obtain⟨ma,ha,rfl⟩:=Option.map_eq_some_iff.mp h;exact a82 C.mono (S.e X c Ξ C _ _ ha)
 ·obtain⟨ma,ha,rfl⟩:=af2 S C h;exact bj7 C.mono ha
theorem aU3{ops:List CmpOp}{bs:List Expr}(h:am9 r c a ops bs=some m):PE X (.Compare a ops bs pos) (LE X.K Ξ (wpE P m))/\PT X (.Compare a ops bs pos) (LT X.K Ξ (wpT P (.tst m))):=by
 unfold am9 at h;split at h
 ·rename_i op b;split at h
  ·cases h
  ·rename_i hm;have hm:behindInMarks op b=false:=by simpa using hm
   rcases orElse_some h with h|h
   ·obtain⟨neg,hn,h⟩:=Option.bind_eq_some_iff.mp h;obtain⟨kvs,hk,h⟩:=Option.bind_eq_some_iff.mp h;obtain⟨ma,ha,rfl⟩:=Option.map_eq_some_iff.mp h;obtain⟨x,p,rfl,hg,hd,hk⟩:=aq9 hk;have ho:op=if neg then .NotIn else .In:=by cases op<;>cases hn<;>rfl
    subst ho;exact⟨a84 C.mono (C.z9 hg) (C5 hd).1 (C.gdc x kvs hk) (S.e X c Ξ C _ _ ha) hm,a70 C.mono (C.z9 hg) (C5 hd).1 (C.gdc x kvs hk) (S.e X c Ξ C _ _ ha) hm⟩
   ·obtain⟨ma,mb,ha,hb,rfl⟩:=R6 S C h;exact⟨ao5 C.mono (aw0 (Q5 C.units op) ha hb hm),a68 C.mono (av6 (Q5 C.units op) ha hb hm)⟩
 ·split at h
  ·cases h
  ·rename_i hm;obtain⟨ma,ha,h⟩:=Option.bind_eq_some_iff.mp h;obtain⟨mb,hb,h⟩:=Option.bind_eq_some_iff.mp h;obtain⟨md,hd,rfl⟩:=Option.map_eq_some_iff.mp h;exact⟨aN4 C.mono C.units (S.e X c Ξ C _ _ ha) (S.e X c Ξ C _ _ hb) (S.e X c Ξ C _ _ hd) (by simpa using hm),aM2 C.mono C.units (S.e X c Ξ C _ _ ha) (S.e X c Ξ C _ _ hb) (S.e X c Ξ C _ _ hd) (by simpa using hm)⟩
 ·cases h
theorem bu1{lo hi st:Option Expr}{p2:Pos}(h:xSl r c a lo hi st=some m):PE X (.Subscript a (.Slice lo hi st p2) pos) (LE X.K Ξ (wpE P m)):=by
 cases lo<;>cases hi<;>cases st<;>first|(cases h;done)|skip
 ·obtain⟨ma,ha,rfl⟩:=af2 S C h;exact aM7 C.mono ha
 ·obtain⟨ma,mb,ha,hb,rfl⟩:=R6 S C h;exact aM6 C.mono ha hb
 ·obtain⟨ma,mb,ha,hb,rfl⟩:=R6 S C h;exact aM5 C.mono ha hb
theorem bm1(h:aL3 r c a b=some m):PE X (.Subscript a b pos) (LE X.K Ξ (wpE P m)):=by
 unfold aL3 at h;rcases orElse_some h with h|h
 ·obtain⟨q,hq,h⟩:=Option.bind_eq_some_iff.mp h;have eb:∃p,b=.Slice q.1 q.2.1 q.2.2 p:=by cases b<;>first|(cases hq;exact⟨_,rfl⟩)|cases hq
  obtain⟨p,rfl⟩:=eb;exact bu1 S C h
 ·split at h
  ·rename_i hb;rcases orElse_some h with h|h
   ·obtain⟨kvs,hk,h⟩:=Option.bind_eq_some_iff.mp h;obtain⟨mb,hb',rfl⟩:=Option.map_eq_some_iff.mp h;obtain⟨x,p,rfl,hg,hd,hk⟩:=aq9 hk;exact aY0 C.mono (C.z9 hg) (C5 hd).1 (C.gdc x kvs hk) (S.e X c Ξ C _ _ hb') (aG7 hb)
   ·obtain⟨ma,mb,ha,hb',rfl⟩:=R6 S C h;exact ao5 C.mono (aU2 (bn0 C.units) ha hb' (aG7 hb))
  ·cases h
theorem bu0{x:Str}{px:Pos}(hg:c.gl x=true)(h:xSp r c x e=some m):PE X (.Call (.Name x px) [e] [] pos) (LE X.K Ξ (wpE P m)):=by
 unfold xSp at h;obtain⟨q,hq,h'⟩:=Option.bind_eq_some_iff.mp h;clear h;have h:=h';clear h';obtain⟨p,pos',rfl⟩:=aa2 hq;obtain⟨y,as⟩:=q;dsimp only at h ⊢;split at h
 ·rename_i hc;simp only[Bool.and_eq_true,decide_eq_true_eq] at hc;obtain⟨⟨⟨⟨rfl,rfl⟩,hl⟩,hr⟩,hgr⟩:=hc;rcases as with _|⟨a,_|⟨b,_|⟨_,_⟩⟩⟩
  ·cases h
  ·dsimp only at h;split at h
   ·rename_i ho;obtain⟨ma,ha,rfl⟩:=af2 S C h;exact aN2 C.mono C.calm ha (C.z9 hg) (C.blt _ hl) (C.z9 hgr) (C.blt _ hr) (k7 ho)
   ·cases h
  ·dsimp only at h;split at h
   ·rename_i ho;rw[Bool.and_eq_true] at ho;obtain⟨ma,mb,ha,hb,rfl⟩:=R6 S C h;exact aN1 C.mono C.calm ha hb (C.z9 hg) (C.blt _ hl) (C.z9 hgr) (C.blt _ hr) (by rw[k7 ho.1,k7 ho.2];rfl) (k7 ho.2)
   ·cases h
  ·cases h
 ·cases h
theorem a13{x:Str}{px:Pos}{args:List Expr}(h:aD0 r c x args=some m):PE X (.Call (.Name x px) args [] pos) (LE X.K Ξ (wpE P m)):=by
 cases args with
 |nil =>
  have h2:an2 c x=some m:=h;unfold an2 at h2;split at h2
  ·rename_i hdb;rw[Bool.and_eq_true] at hdb;obtain⟨f,hf,rfl⟩:=Option.map_eq_some_iff.mp h2;obtain⟨k,C',fa,fd,ps,F,hr,hm,hC,hcl,M⟩:=C.cls x f hf;exact aN0 C.mono C.pass F M hC hcl hr (C.z9 hdb.2) hm (C5 hdb.1).1
  ·cases h2
 |cons e es =>
  have h0:an1 r c x e es=some m:=h;clear h;have h:=h0;clear h0;unfold an1 at h;split at h
  ·rename_i hdb;rw[Bool.and_eq_true] at hdb;obtain⟨d1,d2,d3⟩:=C5 hdb.1;rcases orElse_some h with h|h
   ·cases es with
    |nil=>exact bu0 S C hdb.2 h
    |cons _ _=>cases h
   ·obtain⟨ms,hms,h⟩:=Option.bind_eq_some_iff.mp h;have ok:=ab3 hms;have pa:=n_A S C hms;have hst:=k7 (env:=X.env) (es:=es) (ok e (by simp));have hpl:=M5 (pos:=pos) (env:=X.env) (es:=es) fun z hz=>ok z (by simp[hz]);rcases orElse_some h with h|h
    ·obtain⟨f,hf,rfl⟩:=Option.map_eq_some_iff.mp h;obtain⟨k,fa,fd,ps,F,hr,hm,hk⟩:=C.fns x f hf;exact aY2 C.mono C.pass F hr (C.z9 hdb.2) hm hk pa d1 hst hpl
    ·rcases orElse_some h with h|h
     ·obtain⟨f,hf,rfl⟩:=Option.map_eq_some_iff.mp h;obtain⟨k,C',fa,fd,ps,F,hr,hm,hC,hcl,M⟩:=C.cls x f hf;exact aX9 C.mono C.pass F M hC hcl hr (C.z9 hdb.2) hm pa d1 hst hpl
     ·split at h
      ·rename_i hb;obtain⟨p,hp,rfl⟩:=Option.map_eq_some_iff.mp h;obtain⟨v,hv,hbb,hc⟩:=aK8 (X:=X) C.calm hp;exact a87 C.mono hv hc (C.z9 hdb.2) (C.blt x hb) hbb pa d3 d1 hst hpl
      ·cases h
  ·cases h
omit S in
theorem ap4{m:Str}:ai1 X P Ξ.1 m (c.meths m):=fun y f C' h hC=>by
 have hm:=PySem.mem_of_lookup h;unfold d6.meths at hm;obtain⟨⟨m',y',f'⟩,h1,h2⟩:=List.mem_map.mp hm;obtain⟨h3,h4⟩:=List.mem_filter.mp h1;cases h2;have:m'=m:=by simpa using h4
 subst this;exact C.mts m' y f C' h3 hC
theorem a14{o:Expr}{mt:Str}{apos:Pos}{args:List Expr}(h:an0 r c o mt apos pos args=some m):PE X (.Call (.Attribute o mt apos) args [] pos) (LE X.K Ξ (wpE P m)):=by
 unfold an0 at h;split at h
 ·rename_i hc;simp only[Bool.and_eq_true,decide_eq_true_eq] at hc;obtain⟨⟨hb,hl⟩,hn⟩:=hc;obtain⟨mo,ho,h⟩:=Option.bind_eq_some_iff.mp h;obtain⟨ms,hms,h⟩:=Option.bind_eq_some_iff.mp h;have ok:=ab3 hms;have pa:=n_A S C hms;have po:=S.e X c Ξ C _ _ ho;have hf:methodCallForm args.length (backTo pos (starEach args X.env)) (backToKw pos (keywordEach [] X.env))=true:=by
   unfold methodCallForm;rw[ao2 ok];have:args.length+0<30:=by omega
   show(true&&true&&decide (args.length+0<30))=true;rw[decide_eq_true this]
   rfl
  by_cases hix:mt="index"
  ·subst hix;rw[if_pos rfl] at h;cases args with
   |nil=>cases h
   |cons e es =>
    cases h;exact aN3 C.mono po pa (C9 hb) hf hl (k7 (env:=X.env) (es:=es) (ok e (by simp))) (M5 (pos:=pos) (env:=X.env) (es:=es) fun z hz=>ok z (by simp[hz]))
  rw[if_neg hix] at h;cases args with
  |nil =>
   cases hms;by_cases h0:(Q7.lookup mt).isSome=true
   ·rw[if_pos (by rw[h0];rfl)] at h;obtain⟨p,hp,rfl⟩:=Option.map_eq_some_iff.mp h;obtain⟨T,id,pa',sl,ty,mt',hk⟩:=az8 (X:=X) hp;exact aM9 C.mono pa' sl ty mt' hk po (C9 hb) hl
   rw[if_neg (by rw[Bool.and_eq_true];exact fun z=>h0 z.2)] at h;split at h
   ·cases h
   ·cases h;exact aE5 C.mono C.pass (ap4 C) po (aj0 hb hl hf)
  |cons e es =>
   have hst:=k7 (env:=X.env) (es:=es) (ok e (by simp));have hpl:=M5 (pos:=pos) (env:=X.env) (es:=es) fun z hz=>ok z (by simp[hz]);rw[if_neg (by simp)] at h;split at h
   ·rename_i p hp;cases h;obtain⟨T,id,pa',sl,ty,mt',hk⟩:=aH6 (X:=X) C.units hp;exact aX8 C.mono pa' sl ty mt' hk po pa (C9 hb) hf hl hst hpl
   ·cases h;exact aM8 C.mono C.pass (ap4 C) po pa hst hpl (aj0 hb hl hf)
 ·cases h
theorem n_I{tg:Expr}(h:ae6 r c tg e=some m):PI X tg e (LI X.K Ξ (wpI P m)):=by
 unfold ae6 at h;rcases orElse_some h with h|h
 ·obtain⟨q,hq,h'⟩:=Option.bind_eq_some_iff.mp h;rename_i h0;clear h h0;have h:=h';clear h';obtain⟨p,pos',rfl⟩:=aa2 hq;obtain⟨y,as⟩:=q;dsimp only at h ⊢;split at h
  ·rename_i hy;subst hy;rcases as with _|⟨a,_|⟨_,_⟩⟩
   ·cases h
   ·dsimp only at h;split at h
    ·rename_i hc;simp only[Bool.and_eq_true] at hc;obtain⟨⟨⟨hg,hb⟩,ho⟩,ht⟩:=hc;obtain⟨ma,ha,rfl⟩:=Option.map_eq_some_iff.mp h;obtain⟨es,k,tp,rfl⟩:=aK9 ht;exact aX5 C.mono (S.e X c Ξ C _ _ ha) (C.z9 hg) (C.blt _ hb) (k7 ho)
    ·cases h
   ·cases h
  ·split at h
   ·rename_i hy;subst hy;rcases as with _|⟨a,_|⟨b,_|⟨_,_⟩⟩⟩
    ·cases h
    ·dsimp only at h;split at h
     ·rename_i hc;simp only[Bool.and_eq_true] at hc;obtain⟨⟨hg,hb⟩,ho⟩:=hc;obtain⟨ma,ha,rfl⟩:=Option.map_eq_some_iff.mp h;exact aX4 C.mono (S.e X c Ξ C _ _ ha) (C.z9 hg) (C.blt _ hb) (k7 ho)
     ·cases h
    ·dsimp only at h;split at h
     ·rename_i hc;simp only[Bool.and_eq_true] at hc;obtain⟨⟨⟨hg,hb⟩,ho⟩,ho2⟩:=hc;obtain⟨ma,ha,h⟩:=Option.bind_eq_some_iff.mp h;obtain⟨mb,hb',rfl⟩:=Option.map_eq_some_iff.mp h;exact aX3 C.mono (S.e X c Ξ C _ _ ha) (S.e X c Ξ C _ _ hb') (C.z9 hg) (C.blt _ hb) (by rw[k7 ho,k7 ho2];rfl) (k7 ho2)
     ·cases h
    ·cases h
   ·cases h
 ·split at h
  ·obtain⟨ma,ha,rfl⟩:=Option.map_eq_some_iff.mp h;exact a77 C.mono (S.e X c Ξ C _ _ ha)
  ·cases h
theorem ag4{elt:Expr}{gens:List Comprehension}{sc:Scope}(h:X5 r c elt gens sc=some m):∃tg it ifs t mi mc me cl,gens=[⟨tg,it,ifs,0⟩]/\m=.comp (c.d0 sc) (frees sc++locals sc).length t mi mc me/\okE it=true /\
  CompScope X sc (frees sc++locals sc) (c.d0 sc) cl/\PI X tg it (LI X.K Ξ (wpI P mi))/\(∀pins A s H fp,PG (d8 X pins sc (frees sc++locals sc) cl A s H fp) tg (LG X.K t)) /\
   (∀pins A s H fp,PTs (d8 X pins sc (frees sc++locals sc) cl A s H fp) ifs (LT X.K (XK0 Ξ.1) (wpT P mc)))/\(∀pins A s H fp,PE (d8 X pins sc (frees sc++locals sc) cl A s H fp) elt (LE X.K (XK0 Ξ.1) (wpE P me)))/\∀pins A s H fp,PE ((d8 X pins sc (frees sc++locals sc) cl A s H fp).A3 (af3 X Ξ.2 pins sc (frees sc++locals sc) cl fp A s H)) elt (LE X.K Ξ (wpE P me)):=by
 unfold X5 at h;rcases gens with _|⟨⟨tg,it,ifs,isa⟩,_|⟨_,_⟩⟩
 ·cases h
 ·dsimp only at h;split at h
  ·rename_i hs;simp only[Bool.and_eq_true,decide_eq_true_eq] at hs;obtain⟨⟨hs,rfl⟩,hit⟩:=hs;obtain⟨t,h1,h⟩:=Option.bind_eq_some_iff.mp h;obtain⟨mi,h2,h⟩:=Option.bind_eq_some_iff.mp h;obtain⟨mc,h3,h⟩:=Option.bind_eq_some_iff.mp h;obtain⟨me,h4,rfl⟩:=Option.map_eq_some_iff.mp h;obtain⟨cl,Sc,I⟩:=C.comp hs;exact⟨tg,it,ifs,t,mi,mc,me,cl,rfl,rfl,hit,Sc,n_I S C h2,fun pins A s H fp=>(I pins A s H fp).a51 h1,fun pins A s H fp=>bt9 S (I pins A s H fp) h3,fun pins A s H fp=>S.e _ _ _ (I pins A s H fp) elt me h4,fun pins A s H fp=>S.e _ _ _ (I pins A s H fp).block elt me h4⟩
  ·cases h
 ·cases h
omit S in
theorem bu2{f:Expr}{args:List Expr}{kws:List Keyword}(h:xSU c f args kws=some m):PE X (.Call f args kws pos) (LE X.K Ξ (wpE P m)):=by
 unfold xSU at h;cases h
theorem n_E:∀e m,aT6 r c e=some m->PE X e (LE X.K Ξ (wpE P m)):=by
 intro e m h;cases e with
 |Name x p=>exact bc7 C h
 |Constant k j p =>
  obtain⟨d,hd,rfl⟩:=Option.map_eq_some_iff.mp (show(U0 k).map ME.lit=some m from h);exact n_K hd
 |BinOp a op b p =>
  obtain⟨ma,mb,ha,hb,rfl⟩:=R6 S C h;exact ao5 C.mono (bl1 (bc4 op) ha hb)
 |UnaryOp op a p=>exact bt8 S C h
 |Compare a ops bs p=>exact(aU3 S C h).1
 |BoolOp op vs p=>exact n_B S C h
 |IfExp t a b p =>
  obtain⟨mt,ht,h⟩:=Option.bind_eq_some_iff.mp h;obtain⟨ma,ha,h⟩:=Option.bind_eq_some_iff.mp h;obtain⟨mb,hb,rfl⟩:=Option.map_eq_some_iff.mp h;exact a83 C.mono (S.t X c Ξ C _ _ ht) (S.e X c Ξ C _ _ ha) (S.e X c Ξ C _ _ hb)
 |Tuple es k p =>
  obtain⟨ma,ha,rfl⟩:=Option.map_eq_some_iff.mp h;exact a81 C.mono (n_A S C ha)
 |List es p =>
  obtain⟨ma,ha,rfl⟩:=Option.map_eq_some_iff.mp h;exact aE6 C.mono (n_A S C ha)
 |Subscript a b p=>exact bm1 S C h
 |Dict ks vs p =>
  have h2:(if ks.isEmpty&&vs.isEmpty then some (ME.prim .X0 .nil) else if decide (ks.length<=15) then(ae8 r c ks vs).map .dct else none)=some m:=h;split at h2
  ·rename_i hc;cases ks<;>cases vs<;>first|(cases hc;done)|skip
   cases h2;exact aY1
  ·rename_i hc;split at h2
   ·rename_i hl;obtain⟨ms,hm,rfl⟩:=Option.map_eq_some_iff.mp h2;obtain⟨trs,D⟩:=n_D S C hm;refine a86 C.mono D (fun z=>hc ?_) (of_decide_eq_true hl);have:=D.len.2;subst z;cases vs<;>first|rfl|cases this
   ·cases h2
 |Attribute o f p =>
  have h2:(if V8 o then c1 r c (.fld f) o else none)=some m:=h;split at h2
  ·rename_i hb;obtain⟨ma,ha,rfl⟩:=af2 S C h2;exact a85 C.mono ha (C9 hb)
  ·cases h2
 |Call f args kws pos =>
  have h1:((xSC r c f args kws).orElse fun _=>(xSU c f args kws).orElse fun _=>ax6 r c f args kws pos)=some m:=h;rcases orElse_some h1 with h2|h2
  ·unfold xSC at h2;cases h2
  clear h h1;rcases orElse_some h2 with h3|h3
  ·exact bu2 C h3
  clear h2;unfold ax6 at h3;split at h3
  ·rename_i hk;cases kws<;>first|(cases hk;done)|skip
   cases f with
   |Name x p=>exact a13 S C h3
   |Attribute o a p=>exact a14 S C h3
   |_=>cases h3
  ·cases h3
 |ListComp elt gens sc p =>
  obtain⟨tg,it,ifs,t,mi,mc,me,cl,rfl,rfl,hit,Sc,q1,q2,q3,q4,_⟩:=ag4 S C h;exact(av9 Sc C.calm q1 q2 q3 q4 (S4 hit)).imp fun σ H Q h=>ar8 C.mono σ H Q h
 |_=>cases h
theorem n_T:∀e m,stepT r c e=some m->PT X e (LT X.K Ξ (wpT P m)):=by
 intro e m h;have plain:∀{e:Expr} {m:ME},(if V4 e then(r.e c e).map ME.tst else none)=some m->PT X e (LT X.K Ξ (wpT P m)):=fun{e m} h=>by
  split at h
  ·rename_i hp;obtain⟨ma,ha,rfl⟩:=Option.map_eq_some_iff.mp h;exact a67 C.mono (S.e X c Ξ C _ _ ha) (aF5 hp)
  ·cases h
 cases e with
 |UnaryOp op a p =>
  have h2:(if op=.Not then(r.t c a).map ME.not_ else none)=some m:=h;split at h2
  ·rename_i ho;subst ho;obtain⟨ma,ha,rfl⟩:=Option.map_eq_some_iff.mp h2;exact a69 C.mono (S.t X c Ξ C _ _ ha)
  ·cases h2
 |BoolOp op vs p=>exact(n_W S C h).pt
 |Compare a ops bs p =>
  obtain⟨ma,ha,rfl⟩:=Option.map_eq_some_iff.mp (show(am9 r c a ops bs).map ME.tst=some m from h);exact(aU3 S C ha).2
 |_=>exact plain h
end
end M

namespace M
open PySem L2 PySem.Spec PyProof.Rows
section
variable{X:Cx}{c:d6}{P:Sig}{Ξ:XKE}
theorem as0{e:Expr}{m:ME}(h:aV1 e=some m):PE X e (LE X.K Ξ (wpE P m))/\okE e=true:=by
 cases e<;>first|(cases h;done)|skip
 obtain⟨d,hd,rfl⟩:=Option.map_eq_some_iff.mp (show(U0 _).map ME.lit=some m from h);exact⟨n_K hd,rfl⟩
theorem aK1(hP:i6 P):∀{es:List Expr} {m:ME},ae5 es=some m->PA X es (LA X.K Ξ (wpA P m)):=by
 intro es
 induction es with
 |nil=>intro m h;cases h;exact M7 hP
 |cons e es ih =>
  intro m h;unfold ae5 at h;obtain⟨m1,h1,h⟩:=Option.bind_eq_some_iff.mp h;obtain⟨m2,h2,rfl⟩:=Option.map_eq_some_iff.mp h;exact A8 hP (as0 h1).1 (ih h2) (k7 (as0 (X:=X) (Ξ:=Ξ) (P:=P) h1).2)
theorem aR8(hP:i6 P){e:Expr}{m:ME}(h:aV2 e=some m):PE X e (LE X.K Ξ (wpE P m)):=by
 cases e<;>first|(cases h;done)|skip
 ·obtain⟨d,hd,rfl⟩:=Option.map_eq_some_iff.mp (show(U0 _).map ME.lit=some m from h);exact n_K hd
 ·obtain⟨ms,hm,rfl⟩:=Option.map_eq_some_iff.mp h;exact aE6 hP (aK1 hP hm)
theorem aC3{h:ExceptHandler}{q:Str×Expr}(hq:at0 h=some q):∃p p1 p2,h=.ExceptHandler (some (.Name q.1 p)) none [.Return (some q.2) p1] p2:=by
 unfold at0 at hq;split at hq
 ·cases hq;exact⟨_,_,_,rfl⟩
 ·cases hq
theorem aR9(C:COk X c P Ξ)(hhd:R7 X Ξ.2):∀{hs:List ExceptHandler} {ms:List (Str×ME)},ae7 c hs=some ms->HsOk X Ξ P hs ms:=by
 intro hs
 induction hs with
 |nil=>intro ms h;cases h;exact .nil hhd
 |cons hd hs ih =>
  intro ms h;unfold ae7 at h;obtain⟨q,hq,h'⟩:=Option.bind_eq_some_iff.mp h;clear h;have h:=h';clear h';obtain⟨p,p1,p2,rfl⟩:=aC3 hq;obtain⟨y,e⟩:=q;dsimp only at h ⊢;split at h
  ·rename_i hc;simp only[Bool.and_eq_true] at hc;obtain⟨m,h1,h⟩:=Option.bind_eq_some_iff.mp h;obtain⟨ms',h2,rfl⟩:=Option.map_eq_some_iff.mp h;obtain⟨C',hm,hi,_⟩:=C.exc y hc.1.1;refine .cons (C.z9 hc.1.2) (C5 hc.2).1 hm (fun x C1 hx h1=>C.exm x y C1 C' ?_ hc.1.1 h1 hi) (fun ea=>aR8 (X:=y6 X ea) C.mono h1) (ih h2);rw[C.exq] at hx;simpa using hx
  ·cases h
theorem au6{e f:Option Expr}{q:Str×Expr×List Expr}(h:ah8 e f=some q):f=none/\∃p p',e=some (.Call (.Name q.1 p) (q.2.1::q.2.2) [] p'):=by
 unfold ah8 at h;split at h
 ·cases h;exact⟨rfl,_,_,rfl⟩
 ·cases h
theorem aw8(C:COk X c P Ξ){f:Str}:af7 X.K f (c.ag8 f):=fun y C' h hC=>by
 unfold d6.ag8 at h;obtain⟨⟨f',y'⟩,h1,h2⟩:=List.mem_map.mp h;obtain⟨h3,h4⟩:=List.mem_filter.mp h1;cases h2;have:f'=f:=by simpa using h4
 subst this;exact C.fls f' y' C' h3 hC
variable{r:CF}(S:Snd P r)(C:COk X c P Ξ){pos:Pos}
include S C
theorem bm2{tg e:Expr}{m:MS}(hS:∀e m,r.e c e=some m->s9 e=false->∃elt gens sc p,e=.ListComp elt gens sc p/\∃r',Snd P r'/\X5 r' c elt gens sc=some m)(hT:∀a b k p m,r.e c (.Tuple [a,b] k p)=some m->∃r' ms,Snd P r'/\B4 r' c [a,b]=some ms/\m=.prim .tup ms)(h:a91 r c tg e=some m):PS X (.Assign [tg] e pos) (LS X.K Ξ (wpS P m)):=by
 cases tg with
 |Name x px =>
  have h2:(if c.w5 x then(c.idx x).bind fun i=>(r.e c e).map fun m=>MS.set i m else none)=some m:=h;split at h2
  ·rename_i hl;obtain⟨i,hi,h2⟩:=Option.bind_eq_some_iff.mp h2;obtain⟨me,he,rfl⟩:=Option.map_eq_some_iff.mp h2;cases hn:s9 e with
   |true=>exact aD8 C.mono (aF1 C.ndN (C.ag7 hi) (C.w5 hl).1 (S.e X c Ξ C _ _ he) (O1 hn) (C.w5 hl).2)
   |false =>
    obtain⟨elt,gens,sc,p,rfl,r',S',hx⟩:=hS e me he hn;obtain⟨tg,it,ifs,t,mi,mc,me,cl,rfl,rfl,hit,Sc,q1,q2,q3,q4,_⟩:=ag4 S' C hx;refine aD8 C.mono ?_;exact(at7 Sc C.calm q1 q2 q3 q4 (S4 hit) C.ndN (C.ag7 hi) (C.w5 hl).1 (C.w5 hl).2).imp fun N σ H h=>ar8 C.mono σ H _ h
  ·cases h2
 |Tuple es k pt =>
  have h2:(if(ad5 e&&s9 e)||c.az0 es e then(c.slots es).bind fun is=>(r.e c e).map fun m=>MS.unp (.many is) m else none)=some m:=h;split at h2
  ·rename_i hn;rw[Bool.or_eq_true,Bool.and_eq_true] at hn;obtain⟨is,hs,h2⟩:=Option.bind_eq_some_iff.mp h2;obtain⟨me,he,rfl⟩:=Option.map_eq_some_iff.mp h2;rcases hn with hn|hn
   ·exact a61 C.mono (aF3 (S.e X c Ξ C _ _ he) (av0 C.calm C.ndN (C.slots hs)) (Z7 hn.2) (aP8 hn.1))
   ·unfold d6.az0 at hn;split at hn
    ·rename_i x px y py a b k2 pt2 _;simp only[Bool.and_eq_true,decide_eq_true_eq,Bool.not_eq_true'] at hn;obtain⟨⟨⟨⟨⟨⟨⟨l1,l2⟩,hne⟩,hl⟩,oa⟩,ob⟩,f1⟩,f2⟩:=hn;obtain⟨r',ms,S',hms,rfl⟩:=hT _ _ _ _ _ he;have so:=C.slots hs;cases so with
     |cons hi _ _ so =>
     cases so with
     |cons hj _ _ so =>
     cases so;exact a63 C.mono C.calm C.ndN hi hj hne hl (C.loc x l1) (C.loc y l2) oa ob f1 f2 (n_A S' C hms)
    ·cases hn
  ·cases h2
 |Subscript o i pt =>
  have h2:(if okE i&&s9 e then(r.e c o).bind fun mo=>(r.e c i).bind fun mi=>(r.e c e).map fun m=>MS.setix mo mi m else none)=some m:=h;split at h2
  ·rename_i hn;rw[Bool.and_eq_true] at hn;obtain⟨mo,ho,h2⟩:=Option.bind_eq_some_iff.mp h2;obtain⟨mi,hi,h2⟩:=Option.bind_eq_some_iff.mp h2;obtain⟨me,he,rfl⟩:=Option.map_eq_some_iff.mp h2;exact aL9 C.mono C.units (S.e X c Ξ C _ _ he) (S.e X c Ξ C _ _ ho) (S.e X c Ξ C _ _ hi) (Z7 hn.2) (a11 hn.1)
  ·cases h2
 |Attribute o f pt =>
  have h2:(if s9 e then(r.e c o).bind fun mo=>(r.e c e).map fun m=>MS.setf f (c.ag8 f) mo m else none)=some m:=h;split at h2
  ·rename_i hn;obtain⟨mo,ho,h2⟩:=Option.bind_eq_some_iff.mp h2;obtain⟨me,he,rfl⟩:=Option.map_eq_some_iff.mp h2;exact aW6 C.mono (aw8 C) (S.e X c Ξ C _ _ ho) (S.e X c Ξ C _ _ he) (O1 hn)
  ·cases h2
 |_=>cases h
theorem n_S(hS:∀e m,r.e c e=some m->s9 e=false->∃elt gens sc p,e=.ListComp elt gens sc p/\∃r',Snd P r'/\X5 r' c elt gens sc=some m)(hT:∀a b k p m,r.e c (.Tuple [a,b] k p)=some m->∃r' ms,Snd P r'/\B4 r' c [a,b]=some ms/\m=.prim .tup ms) :
  ∀st m,aT5 r c st=some m->PS X st (LS X.K Ξ (wpS P m)):=by
 intro st m h;have hP:=C.mono;cases st with
 |AugAssign tg op e p =>
  cases tg with
  |Attribute o f tp =>
   have h2:(if decide (op=Operator.Add) then(r.e c o).bind fun mo=>(r.e c e).map fun m=>MS.augf f (c.ag8 f) mo m else none)=some m:=h;split at h2
   ·rename_i ho;obtain rfl:=of_decide_eq_true ho;obtain⟨mo,ho,h2⟩:=Option.bind_eq_some_iff.mp h2;obtain⟨me,he,rfl⟩:=Option.map_eq_some_iff.mp h2;exact aW8 C.mono (aw8 C) (S.e X c Ξ C _ _ ho) (S.e X c Ξ C _ _ he)
   ·cases h2
  |_=>cases h
 |Expr e p =>
  have h2:(if s9 e then(r.e c e).map MS.expr else none)=some m:=h;split at h2
  ·rename_i hn;obtain⟨me,he,rfl⟩:=Option.map_eq_some_iff.mp h2;exact aW7 hP (S.e X c Ξ C _ _ he) (O1 hn)
  ·cases h2
 |Assign tgs e p =>
  rcases tgs with _|⟨tg,_|⟨_,_⟩⟩
  ·cases h
  ·exact bm2 S C hS hT h
  ·cases h
 |If t a b p =>
  obtain⟨mt,ht,h⟩:=Option.bind_eq_some_iff.mp h;obtain⟨ma,ha,h⟩:=Option.bind_eq_some_iff.mp h;obtain⟨mb,hb,rfl⟩:=Option.map_eq_some_iff.mp h;exact bj4 hP (S.t X c Ξ C _ _ ht) (ag5 S C ha) (ag5 S C hb)
 |For tg it body els p =>
  have h2:(if c.fnb&&(els.isEmpty&&okE it) then(c.tg tg).bind fun t=>(ae6 r c tg it).bind fun mi=>(o8 r c body).map fun mb=>MS.for_ t mi mb else none)=some m:=h;split at h2
  ·rename_i hc;rw[Bool.and_eq_true,Bool.and_eq_true] at hc;cases els<;>first|(cases hc.2.1;done)|skip
   obtain⟨t,h1,h2⟩:=Option.bind_eq_some_iff.mp h2;obtain⟨mi,h3,h2⟩:=Option.bind_eq_some_iff.mp h2;obtain⟨mb,h4,rfl⟩:=Option.map_eq_some_iff.mp h2;exact a64 hP (C.own hc.1) C.calm (n_I S C h3) (C.a51 h1) (ag5 S C h4) (S4 hc.2.2)
  ·cases h2
 |While t body els p =>
  have h2:(if c.fnb&&els.isEmpty then(r.t c t).bind fun mt=>(o8 r c body).map fun mb=>MS.whil mt mb else none)=some m:=h;split at h2
  ·rename_i hc;rw[Bool.and_eq_true] at hc;cases els<;>first|(cases hc.2;done)|skip
   obtain⟨mt,h1,h2⟩:=Option.bind_eq_some_iff.mp h2;obtain⟨mb,h4,rfl⟩:=Option.map_eq_some_iff.mp h2;exact aL8 hP (C.own hc.1) (S.t X c Ξ C _ _ h1) (ag5 S C h4)
  ·cases h2
 |Return e p =>
  cases e with
  |none=>cases h;exact(aZ3 (X:=X)).imp fun N σv H ⟨σ,g,ρ,s,R,h⟩=>LQ.now h R .non
  |some e =>
   obtain⟨me,he,rfl⟩:=Option.map_eq_some_iff.mp (show(r.e c e).map (fun m=>MS.ret (toR c e m))=some m from h);refine aD9 hP ?_;unfold toR;split
   ·split
    ·rename_i hc;rw[Bool.and_eq_true] at hc;obtain⟨elt,gens,sc,p,rfl,r',S',hx⟩:=hS e _ he (by simpa using hc.1);obtain⟨tg,it,ifs,t,mi,mc,me,cl,rfl,em,hit,Sc,q1,q2,q3,_,q5⟩:=ag4 S' C hx;cases em;obtain⟨hst,hf,hh⟩:=C.tryb hc.2;exact(aO8 hst hf hh Sc C.calm q1 q2 q3 q5 (S4 hit)).imp fun σ H Q h=>aE9 C.mono σ H Q h
    ·exact S.e X c Ξ C _ _ he
   ·exact S.e X c Ξ C _ _ he
 |Raise e f p =>
  obtain⟨q,hq,h2⟩:=Option.bind_eq_some_iff.mp h;clear h;obtain⟨rfl,px,p2,rfl⟩:=au6 hq;obtain⟨x,e,es⟩:=q;dsimp only at h2 ⊢;split at h2
  ·rename_i hc;simp only[Bool.and_eq_true] at hc;obtain⟨ma,ha,rfl⟩:=Option.map_eq_some_iff.mp h2;have ok:=ab3 ha;obtain⟨C',hm,hi,B,nI,iI,bm,O,FB⟩:=C.exc x hc.1.1.2;exact aM0 hP C.calm O FB (C.z9 hc.1.2) (n_A S C ha) (C.rais hc.1.1.1) (by rw[C.exq];simpa using hc.1.1.2) hi (k7 (ok e (by simp))) (M5 fun z hz=>ok z (by simp[hz])) (C5 hc.2).1
  ·cases h2
 |Try body hs el fi p =>
  have h2:(if c.tryb&&!hs.isEmpty&&el.isEmpty&&fi.isEmpty then(o8 r { c with rais:=false,tryb:=false } body).bind fun mb=>(ae7 c hs).map fun ms=>MS.R8 mb ms else none)=some m:=h;split at h2
  ·rename_i hc;simp only[Bool.and_eq_true] at hc;obtain⟨⟨⟨ht,hh⟩,he⟩,hf⟩:=hc;cases el<;>first|(cases he;done)|skip
   cases fi<;>first|(cases hf;done)|skip
   cases hs<;>first|(cases hh;done)|skip
   obtain⟨mb,h1,h2⟩:=Option.bind_eq_some_iff.mp h2;obtain⟨ms,h3,rfl⟩:=Option.map_eq_some_iff.mp h2;obtain⟨hst,hf,hhd⟩:=C.tryb ht;exact a62 hP hst hf (fun pins D=>ag5 S (C.R8 hst hf pins D _) h1) (aR9 C hhd h3)
  ·cases h2
 |Pass p=>cases h;exact(aZ4 (X:=X)).imp fun N σv H ⟨σ,g,ρ,s,R,h⟩=>h ρ H σv (.refl _ _) R s
 |_=>cases h
end
theorem au3{n:Nat}{c:d6}{e:Expr}{m:ME}(h:(comp (n+1)).e c e=some m)(hn:s9 e=false):∃elt gens sc p,e=.ListComp elt gens sc p/\X5 (comp n) c elt gens sc=some m:=by
 cases e<;>first|(cases hn;done)|(cases h;done)|exact⟨_,_,_,_,rfl,h⟩
theorem snd{P:Sig}:∀n,(∀k,k<=n->Snd P (comp k)):=by
 intro n
 induction n with
 |zero =>
  intro k hk;obtain rfl:=Nat.le_zero.mp hk;exact⟨fun _ _ _ _ _ _ h=>(by cases h),fun _ _ _ _ _ _ h=>(by cases h),fun _ _ _ _ _ _ h=>(by cases h)⟩
 |succ n ih =>
  intro k hk;rcases Nat.lt_or_ge k (n+1) with hlt|hge
  ·exact ih k (by omega)
  obtain rfl:k=n+1:=by omega
  have I:=ih n (Nat.le_refl n);refine⟨fun X c Ξ C e m h=>n_E I C e m h,fun X c Ξ C e m h=>n_T I C e m h,fun X c Ξ C st m h=>n_S I C (fun e m he hn=>?_) (fun a b k p m he=>?_) st m h⟩
  ·cases n with
   |zero=>cases he
   |succ n =>
    obtain⟨elt,gens,sc,p,rfl,hx⟩:=au3 he hn;exact⟨_,_,_,_,rfl,comp n,ih n (by omega),hx⟩
  ·cases n with
   |zero=>cases he
   |succ n =>
    obtain⟨ms,hm,rfl⟩:=Option.map_eq_some_iff.mp (show(B4 (comp n) c [a,b]).map (ME.prim .tup)=some m from he);exact⟨comp n,ms,ih n (by omega),hm,rfl⟩
end M

namespace M
open PySem L2 PySem.Spec PyProof.Rows
structure DefI where
 nm:Str
 qn:Str
 N:List Str
 ps:List Str
 st:Stmt
noncomputable def d6.at(c:d6)(d:DefI):d6:={ c with N:=d.N,nm:=(i9 d.st).names,fnb:=true,rais:=true,tryb:=true }
structure DefOk(K:PySem.W.Frag)(c:d6)(d:DefI)(m:MDef)(f:Addr)(fd:FuncData):Prop where
 fn:Fun K d.nm d.qn d.st f fd
 bi:Binds K fd d.ps []
 sc:FnScope d.N d.ps (i9 d.st)
 co:o8 (comp 60) (c.at d) (j9 d.st)=some m.body
 ar:m.ar=d.ps.length
 nn:m.n=d.N.length
structure TabOk(w:World)(K:PySem.W.Frag)(mg:Str->Option Value)(c:d6)(T:Nat->Option MDef):Prop where
 fns:∀x i,c.fns.lookup x=some i->∃d m f fd,T i=some m/\DefOk K c d m f fd/\mg x=some (.ref f)
 cls:∀x i,c.cls.lookup x=some i->∃C d m f fd,T i=some m/\DefOk K c d m f fd/\mg x=some (.ref C)/\l6 K x C/\Cls K C/\Mk K C f
 mts:∀x y i C,(x,y,i)∈c.mts->l6 K y C->∃d m f fd,T i=some m/\DefOk K c d m f fd/\Meth K C x f
 fls:∀f y C,(f,y)∈c.fls->l6 K y C->p9 K C f
 con:∀x d,c.con.lookup x=some d->∃v u,mg x=some u/\RelV v u/\∀ρ H,c8 K ρ H d v
 blt:∀x,c.blt.contains x=true->mg x=none
 excs:∀x,c.exc.contains x=true->∃C,mg x=some (.ref C)/\l6 K x C/\∀base:Heap,K.In base->base.Ns mainGlobals mg->∃B newId initId bm,OwnCls x C bm newId mg base/\ExcBaseFacts B newId initId bm
 exms:∀x y C C',c.exc.contains x=true->c.exc.contains y=true->l6 K x C->l6 K y C'->PySem.W.exmOne K (.ref C) (.ref C')=some (decide (x=y\/y="MintError"))
 gdcs:∀x kvs,c.gd.lookup x=some kvs->∃A vs,mg x=some (.ref A)/\af6 K w.params A vs/\X4 K kvs vs
section
variable{Pg:Program}{w:World}{K:PySem.W.Frag}{mg:Str->Option Value}{base:Heap}{c:d6}{T:Nat->Option MDef}
theorem a04{N:List Str}{qual:Str}{scope:Scope}{f:Addr}{cd:Value}{A:Around}{outer:List Env}{s:Shared}{H:Hp}{E:XK}:Passes (CXE Pg w) (P8 (CXE Pg w) Pg w K mg base N qual scope f cd A outer s H E) E:=fun pins σ H1 s1 e s' I h=>by
 obtain⟨C,H',J,fl,hE⟩:=I.flew h;exact aq3 J fl (fun b o q=>I.base.there b o q (by intro z;cases z)) rfl rfl rfl hE
theorem aN7{N:List Str}{qual:Str}{scope:Scope}{f:Addr}{cd:Value}{A:Around}{outer:List Env}{s:Shared}{H:Hp}{E:XK}:Z1 (P8 (CXE Pg w) Pg w K mg base N qual scope f cd A outer s H E) E:=fun pins σ H1 s1 h' ea C vs I hm hE =>
 aA4 I hm rfl rfl rfl hE
theorem a26{N:List Str}{qual:Str}{scope:Scope}{f:Addr}{cd:Value}{A:Around}{outer:List Env}{s:Shared}{H:Hp}{E:XK}:R7 (P8 (CXE Pg w) Pg w K mg base N qual scope f cd A outer s H E) E:=fun pins σ H1 H2 s1 s2 B ea C a0 I l hh hE =>
 leave_held I l hh rfl rfl rfl hE
theorem ah6{k i:Nat}{m:MDef}(hT:T i=some m){ds:List D}{g:G}{Q:KD}{E:KX}(h:b8 T k i ds g Q E):ds.length=m.ar:=by
 cases k with
 |zero=>exact h.elim
 |succ k =>
  obtain⟨m',e,h,_⟩:=h;rw[hT] at e;cases e;exact h
theorem bg7(kin:K.In base)(gns:base.Ns mainGlobals mg)(A:TabOk w K mg c T):∀(k i:Nat) d m f fd,T i=some m->DefOk K c d m f fd->u4 Pg w K mg base (CXE Pg w) (2*k) f fd d.ps (spD c.exc K d.ps.length (b8 T k i)):=by
 intro k
 induction k with
 |zero =>
  intro i d m f fd hm O;refine⟨fun vs H Q E h=>h.1,fun A outer s H args us vs Q E _ _ _ _ h=>?_⟩;obtain⟨_,_,_,_,_,_,q⟩:=h;exact q.elim
 |succ k ih =>
  intro i d m f fd hm O;obtain⟨oc,od,kV,doc,pm,an,cdv,ct,osl,rfl,lk,hcd⟩:=O.fn.ex;refine aU8 (k:=2*k+1) lk hcd O.sc (fun vs H Q E h=>h.1) (fun A0 outer s H vs Q E hr h=>?_);obtain⟨hl,xs,g,ρ,rs,R,q⟩:=h;have C:COk (P8 (CXE Pg w) Pg w K mg base d.N d.qn (i9 d.st) f cdv A0 outer s H E) (c.at d) (b8 T k) (c.exc,E):=by
   refine⟨rfl,O.sc.nd,fun x h=>h,fun x h=>h,fun x h=>.inr h,fun x h=>h,fun x h=>?_,fun _ _=>rfl,rfl,?_,(fun _=>PassesOwn.leaving),b0 T k,A.con,A.blt,fun x j hj=>?_,fun x j hj=>?_,fun x y j C' hj hC=>?_,A.fls,rfl,a04,fun _=>aN7,fun _=>⟨rfl,rfl,a26⟩,fun x hx=>?_,A.exms,A.gdcs⟩
   ·rcases h with h|h
    ·exact ab4 h
    ·exact absurd rfl (O.sc.nofree _ (PySem.mem_of_lookup h))
   ·have:=hr.un;show(A0.deeper _).units+100<cLine;omega
   ·obtain⟨d',m',f',fd',hT,O',hmg⟩:=A.fns x j hj;exact⟨2*k,f',fd',d'.ps,⟨ih j d' m' f' fd' hT O',O'.bi,fun ds' g' Q' E' h'=>(ah6 hT h').trans O'.ar⟩,hr.mono (by omega),hmg,O'.fn.kp⟩
   ·obtain⟨C',d',m',f',fd',hT,O',hmg,hC,hcl,M⟩:=A.cls x j hj;exact⟨2*k,C',f',fd',d'.ps,⟨ih j d' m' f' fd' hT O',O'.bi,fun ds' g' Q' E' h'=>(ah6 hT h').trans O'.ar⟩,hr,hmg,hC,hcl,M⟩
   ·obtain⟨d',m',f',fd',hT,O',M⟩:=A.mts x y j C' hj hC;exact⟨2*k,f',fd',d'.ps,M,⟨ih j d' m' f' fd' hT O',O'.bi,fun ds' g' Q' E' h'=>(ah6 hT h').trans O'.ar⟩,hr.mono (by omega)⟩
   ·obtain⟨C,h1,h2,h3⟩:=A.excs x hx;exact⟨C,h1,h2,h3 base kin gns⟩
  refine⟨_,ag5 (snd (P:=b8 T k) 60 60 (Nat.le_refl _)) C O.co,?_⟩;obtain⟨m',e,q1,q⟩:=q;rw[hm] at e;cases e;refine⟨d5 m xs,g,ρ,?_,R,wpS_mono (b0 T k) m.body ⟨fun _ g'=>LQ K ρ H Q .non g',LQ K ρ H Q,fun _ _=>False,fun _ _=>False⟩ _ _ _ _ _ ⟨fun σ g' h ρ' H' σv' e R' s'=>h ρ' H' _ e R' .non,fun d g' h=>h,fun _ _ h=>h.elim,fun _ _ h=>h.elim⟩ (fun _ _ z=>z) q⟩;have:=j8.start (n:=d.N.length) rs;unfold d5 L2.start;rw[O.nn];exact this
theorem bd8{L k0:Nat}{H:Hp}{a:Addr}{ns:List Int}(hO:aC8 H)(hS:SqL K H a (ns.map V.int))(h:b8 T k0 L [.ref 0] [.fro (ns.map .int)] (fun d _=>d=.bl true) NoX) :
  spD exc K 1 (b8 T k0 L) [.ref a] H (fun v _=>v=.bl true) fun _ _ _=>False:=by
 refine⟨rfl,[.ref 0],[.fro (ns.map .int)],[a],.cons (.ref rfl) .nil,⟨rfl,fun i o b h1 h2=>?_,fun i j l m b h1 h2 m1=>?_⟩,b0 T k0 _ _ _ _ _ _ _ (fun d g' e ρ' H' v _ _ r=>?_) (fun _ _ z=>z.elim) h⟩
 ·cases i with
  |zero =>
   cases h1;cases h2;refine⟨_,?_,a9.ofInts ns⟩;rcases hS with(z|⟨o,z⟩)|z
   ·rcases hO a with q|⟨o,xs,q⟩
    ·rw[z] at q;cases q
    ·rw[z] at q;cases q
   ·exact .inl ⟨o,z⟩
   ·exact .inr z
  |succ i=>simp at h1
 ·cases i with
  |zero=>cases h1;cases m1
  |succ i=>simp at h1
 ·subst e;cases r
  rfl
end
end M

namespace M
open PySem L2
section
variable{P:Sig}{σ:S}{g:G}{Q:KD}{E:KX}{N:Ends}{a b c o:ME}{x y:MS}{p:Pr}
theorem A4(h:N.nx σ g):wpS P .pass N σ g E:=h
theorem ax9(h:wpS P x ⟨fun σ1 g1=>wpS P y N σ1 g1 E,N.rt,N.bk,N.ct⟩ σ g E):wpS P (.seq x y) N σ g E:=h
theorem ab9(h:wpS P x N σ g E):wpS P (.seq x .pass) N σ g E:=h
theorem a45(h:wpE P a σ g (fun _ g1=>N.nx σ g1) E):wpS P (.expr a) N σ g E:=h
theorem ax8{i:Nat}(h:wpE P a σ g (fun x g1=>N.nx (σ.set i (some x)) g1) E):wpS P (.set i a) N σ g E:=h
theorem bh0{t:MT}(h:wpE P a σ g (fun x g1=>tgP t x σ fun σ1=>N.nx σ1 g1) E):wpS P (.unp t a) N σ g E:=h
theorem au8{o i:ME}(h:wpE P a σ g (fun x g1=>wpE P o σ g1 (fun y g2=>wpE P i σ g2 (fun z g3=>aa8 y z x g3 fun g4=>N.nx σ g4) E) E) E):wpS P (.setix o i a) N σ g E:=h
theorem a40{f:Str}{cs:List Str}(h:wpE P a σ g (fun x g1=>wpE P o σ g1 (fun y g2=>al9 f cs y x g2 fun g3=>N.nx σ g3) E) E):wpS P (.setf f cs o a) N σ g E:=h
theorem ay0(h:wpT P c σ g (fun t g1=>if t=true then wpS P x N σ g1 E else wpS P y N σ g1 E) E):wpS P (.ifs c x y) N σ g E:=h
theorem bh3(h:wpE P a σ g N.rt E):wpS P (.ret a) N σ g E:=h
theorem a41(h:N.rt .non g):wpS P .retn N σ g E:=h
theorem aW1{x:Str}(h:wpA P a σ g (fun vs g1=>vs.length<=1000/\E ⟨x⟩ g1) E):wpS P (.raise x a) N σ g E:=h
theorem bh1{hs:List (Str×ME)}(h:wpS P x N σ g (wpH P N (σ.map fun _=>none) E hs)):wpS P (.R8 x hs) N σ g E:=h
theorem aU5{x:Xn}{y:Str}{e:ME}{r:List (Str×ME)}(hx:x.cls=y)(h:wpE P e σ g N.rt NoX):wpH P N σ E ((y,e)::r) x g:=by unfold wpH;rw[if_pos (.inl hx)];exact h
theorem bf1{x:Xn}{y:Str}{e:ME}{r:List (Str×ME)}(hx:¬(x.cls=y\/y="MintError"))(h:wpH P N σ E r x g):wpH P N σ E ((y,e)::r) x g:=by unfold wpH;rw[if_neg hx];exact h
theorem w_var{i:Nat}{d:D}(e:σ[i]?=some (some d))(h:Q d g):wpE P (.var i) σ g Q E:=by rw[wpE];exact⟨d,e,h⟩
theorem w_lit{d:D}(h:Q d g):wpE P (.lit d) σ g Q E:=by rw[wpE];exact h
theorem a42(h:wpA P a σ g (fun xs g1=>prP p xs g1 Q) E):wpE P (.prim p a) σ g Q E:=by rw[wpE];exact h
theorem bq3(h:prP p [] g Q):wpE P (.prim p .nil) σ g Q E:=by rw[wpE,wpA];exact h
theorem an5(h:wpE P a σ g (fun x g1=>prP p [x] g1 Q) E):wpE P (.prim p (.cons a .nil)) σ g Q E:=by simp only[wpE,wpA];exact h
theorem aa3(h:wpE P a σ g (fun x g1=>wpE P b σ g1 (fun y g2=>prP p [x,y] g2 Q) E) E):wpE P (.prim p (.cons a (.cons b .nil))) σ g Q E:=by simp only[wpE,wpA];exact h
theorem aW3{o1 o2:CmpOp}(h:wpE P a σ g (fun x g1=>wpE P b σ g1 (fun y g2=>prP (.cmp o1) [x,y] g2 fun z g3=>∃t,z=.bl t/\if t=true then wpE P c σ g3 (fun w g4=>prP (.cmp o2) [y,w] g4 Q) E else Q (.bl false) g3) E) E):wpE P (.chain o1 o2 a b c) σ g Q E:=by rw[wpE];exact h
theorem w_and(h:wpE P a σ g (fun x g1=>∃t,x=.bl t/\if t=true then wpE P b σ g1 Q E else Q (.bl false) g1) E):wpE P (.and_ a b) σ g Q E:=by rw[wpE];exact h
theorem w_or(h:wpE P a σ g (fun x g1=>∃t,x=.bl t/\if t=true then Q (.bl true) g1 else wpE P b σ g1 Q E) E):wpE P (.or_ a b) σ g Q E:=by rw[wpE];exact h
theorem w_not(h:wpE P a σ g (fun x g1=>∃t,x=.bl t/\Q (.bl (!t)) g1) E):wpE P (.not_ a) σ g Q E:=by rw[wpE];exact h
theorem w_ite(h:wpT P c σ g (fun t g1=>if t=true then wpE P a σ g1 Q E else wpE P b σ g1 Q E) E):wpE P (.ite c a b) σ g Q E:=by rw[wpE];exact h
theorem ac2{f:Nat}(h:wpA P a σ g (fun xs g1=>P f xs g1 Q E) E):wpE P (.call f a) σ g Q E:=by rw[wpE];exact h
theorem a44{f:Nat}{c:Str}(h:wpA P a σ g (fun xs g1=>P f (.ref g1.length::xs) (g1++[.ins c []]) (fun d g2=>d=.non/\Q (.ref g1.length) g2) E) E):wpE P (.make c f a) σ g Q E:=by rw[wpE];exact h
theorem aW2{m:Str}{cs:List (Str×Nat)}(h:wpE P o σ g (fun x g1=>∃a' c fs f,x=.ref a'/\g1[a']?=some (.ins c fs)/\fs.lookup m=none/\cs.lookup c=some f/\wpA P a σ g1 (fun xs g2=>P f (x::xs) g2 Q E) E) E):wpE P (.methc m cs o a) σ g Q E:=by rw[wpE];exact h
theorem a43(h:wpE P o σ g (fun x g1=>mkP p x g1/\wpA P a σ g1 (fun xs g2=>prP p (x::xs) g2 Q) E) E):wpE P (.meth p o a) σ g Q E:=by rw[wpE];exact h
theorem bh4(h:wpA P a σ (g++[.dic []]) (fun xs g1=>∃kvs,ah0 xs []=some kvs/\xs.length<=30/\g1[g.length]?=some (.dic [])/\Q (.ref g.length) (g1.set g.length (.dic kvs))) E):wpE P (.dct a) σ g Q E:=by rw[wpE];exact h
theorem al7{Q:List D->G->Prop}(h:Q [] g):wpA P .nil σ g Q E:=by rw[wpA];exact h
theorem M4{Q:List D->G->Prop}(h:wpE P a σ g (fun x g1=>wpA P b σ g1 (fun xs g2=>Q (x::xs) g2) E) E):wpA P (.cons a b) σ g Q E:=by rw[wpA];exact h
theorem a39{Q:Bool->G->Prop}(h:wpT P a σ g (fun t g1=>if t=true then wpT P b σ g1 Q E else Q false g1) E):wpT P (.and_ a b) σ g Q E:=by rw[wpT];exact h
theorem bh2{Q:Bool->G->Prop}(h:wpT P a σ g (fun t g1=>if t=true then Q true g1 else wpT P b σ g1 Q E) E):wpT P (.or_ a b) σ g Q E:=by rw[wpT];exact h
theorem a38{Q:Bool->G->Prop}(h:wpT P a σ g (fun t g1=>Q (!t) g1) E):wpT P (.not_ a) σ g Q E:=by rw[wpT];exact h
theorem aT1{Q:Bool->G->Prop}(h:Q true g):wpT P .no σ g Q E:=by rw[wpT];exact h
theorem ax7{Q:Bool->G->Prop}(h:wpE P a σ g (fun x g1=>O9 g1 x fun b=>Q b g1) E):wpT P (.tst a) σ g Q E:=by rw[wpT];exact h
end
section
variable{g:G}{Q:KD}{i j:Int}{kb:Bool->Prop}{t s:Bool}{l m:List D}
theorem bq1(h:Q (.int (i+j)) g):prP (.bin .Add) [.int i,.int j] g Q:=⟨_,_,.inl ⟨i,j,_,rfl,rfl,rfl,rfl⟩,h⟩
theorem bq0(h:Q (.int (i-j)) g):prP (.bin .Sub) [.int i,.int j] g Q:=⟨_,_,.inl ⟨i,j,_,rfl,rfl,rfl,rfl⟩,h⟩
theorem E8(c:U6 i j)(h:Q (.int (i*j)) g):prP (.bin .Mult) [.int i,.int j] g Q:=⟨_,_,.inl ⟨i,j,_,rfl,⟨c,rfl⟩,rfl,rfl⟩,h⟩
theorem J9(c:0<j)(h:Q (.int (i % j)) g):prP (.bin .Mod) [.int i,.int j] g Q:=⟨_,_,.inl ⟨i,j,_,rfl,⟨c,rfl⟩,rfl,rfl⟩,h⟩
theorem am7(c:aT0 i j)(h:Q (.int (i / j)) g):prP (.bin .FloorDiv) [.int i,.int j] g Q:=⟨_,_,.inl ⟨i,j,_,rfl,⟨c,rfl⟩,rfl,rfl⟩,h⟩
theorem bg8(h1:0<j)(h2:j<1073741824)(h:Q (.int (i / j)) g):prP (.bin .FloorDiv) [.int i,.int j] g Q:=am7 ⟨h1,h2⟩ h
theorem am6(c:ab8 i j)(h:Q (.int (i ^ j.toNat)) g):prP (.bin .Pow) [.int i,.int j] g Q:=⟨_,_,.inl ⟨i,j,_,rfl,⟨c,rfl⟩,rfl,rfl⟩,h⟩
theorem aC2{i j:Nat}(hi:g[i]?=some (.lst l))(hj:g[j]?=some (.lst m))(hl:l.length+m.length<=100000)(h:Q (.ref g.length) (g++[.lst (l++m)])):prP (.bin .Add) [.ref i,.ref j] g Q:=⟨_,_,.inr (.inl ⟨rfl,.inr (.inl ⟨i,j,l,m,rfl,hi,hj,hl,rfl,rfl⟩)⟩),h⟩
theorem bp8{i:Nat}{n:Int}(hi:g[i]?=some (.lst l))(h1:-(2 ^ 62)<=n)(h2:n<2 ^ 62)(hl:l.length*n.toNat<=100000)(h:Q (.ref g.length) (g++[.lst (List.replicate n.toNat l).flatten])):prP (.bin .Mult) [.ref i,.int n] g Q:=⟨_,_,.inr (.inr ⟨rfl,.inl ⟨i,l,n,rfl,hi,h1,h2,hl,rfl,rfl⟩⟩),h⟩
theorem bh6(h:Q (.int (-i)) g):prP (.un .USub) [.int i] g Q:=⟨_,_,⟨rfl,i,rfl,rfl,rfl⟩,h⟩
theorem P9{op:CmpOp}{x y:D}{b:Bool}(hb:bg2 g x y b op)(h:Q (.bl b) g):prP (.cmp op) [x,y] g Q:=⟨_,_,⟨x,y,b,rfl,hb,rfl,rfl⟩,h⟩
theorem bw1(h:Q (.bl (decide (i<j))) g):prP (.cmp .Lt) [.int i,.int j] g Q:=P9 ⟨i,j,rfl,rfl,rfl⟩ h
theorem bw2(h:Q (.bl (decide (i<=j))) g):prP (.cmp .LtE) [.int i,.int j] g Q:=P9 ⟨i,j,rfl,rfl,rfl⟩ h
theorem bw3(h:Q (.bl (decide (j<i))) g):prP (.cmp .Gt) [.int i,.int j] g Q:=P9 ⟨i,j,rfl,rfl,rfl⟩ h
theorem bw4(h:Q (.bl (decide (j<=i))) g):prP (.cmp .GtE) [.int i,.int j] g Q:=P9 ⟨i,j,rfl,rfl,rfl⟩ h
theorem aC1{x y:D}(h:eqP g x y fun b=>Q (.bl b) g):prP (.cmp .Eq) [x,y] g Q:=let ⟨_,hb,h⟩:=h;P9 hb h
theorem aC0{x y:D}(h:eqP g x y fun b=>Q (.bl (!b)) g):prP (.cmp .NotEq) [x,y] g Q:=let ⟨b,hb,h⟩:=h;P9 (b:=!b) (show eqR g x y (!(!b)) from by rw[Bool.not_not];exact hb) h
theorem bg4{x y:D}(h:inP g x y fun b=>Q (.bl b) g):prP (.cmp .In) [x,y] g Q:=let ⟨_,hb,h⟩:=h;P9 hb h
theorem aV3{x y:D}(h:inP g x y fun b=>Q (.bl (!b)) g):prP (.cmp .NotIn) [x,y] g Q:=let ⟨b,hb,h⟩:=h;P9 (b:=!b) (show inR g x y (!(!b)) from by rw[Bool.not_not];exact hb) h
theorem aU1(h:kb (decide (i=j))):eqP g (.int i) (.int j) kb:=⟨_,.inl ⟨i,j,rfl,rfl,rfl⟩,h⟩
theorem a95(h:kb (t==s)):eqP g (.bl t) (.bl s) kb:=⟨_,.inr (.inl ⟨t,s,rfl,rfl,rfl⟩),h⟩
theorem aU0{x y:Str}(h:kb (decide (x=y))):eqP g (.str x) (.str y) kb:=⟨_,.inr (.inr (.inl ⟨x,y,rfl,rfl,rfl⟩)),h⟩
theorem bp6(h:Q (.bl (decide (i=j))) g):prP (.cmp .Eq) [.int i,.int j] g Q:=aC1 (aU1 h)
theorem aV4(h:Q (.bl (!decide (i=j))) g):prP (.cmp .NotEq) [.int i,.int j] g Q:=aC0 (aU1 h)
theorem bp7(h:Q (.bl (t==s)) g):prP (.cmp .Eq) [.bl t,.bl s] g Q:=aC1 (a95 h)
theorem bo4(h:Q (.bl (!(t==s))) g):prP (.cmp .NotEq) [.bl t,.bl s] g Q:=aC0 (a95 h)
theorem bp5{p q:Str}(h:Q (.bl (decide (p=q))) g):prP (.cmp .Eq) [.str p,.str q] g Q:=aC1 (aU0 h)
theorem bo3{p q:Str}(h:Q (.bl (!decide (p=q))) g):prP (.cmp .NotEq) [.str p,.str q] g Q:=aC0 (aU0 h)
theorem ab6{d:D}(h:Q (.bl (O5 d)) g):prP (.cmp .Is) [d,.non] g Q:=P9 ⟨rfl,rfl⟩ h
theorem af1{d:D}(h:Q (.bl (!O5 d)) g):prP (.cmp .IsNot) [d,.non] g Q:=P9 ⟨rfl,rfl⟩ h
theorem bp0(h:Q (.bl true) g):prP (.cmp .Is) [.non,.non] g Q:=ab6 h
theorem bo8(h:Q (.bl false) g):prP (.cmp .Is) [.int i,.non] g Q:=ab6 h
theorem bo9(h:Q (.bl false) g):prP (.cmp .Is) [.bl t,.non] g Q:=ab6 h
theorem bo6{x:Str}(h:Q (.bl false) g):prP (.cmp .Is) [.str x,.non] g Q:=ab6 h
theorem bo5(h:Q (.bl false) g):prP (.cmp .Is) [.tup l,.non] g Q:=ab6 h
theorem bo7{n:Nat}(h:Q (.bl false) g):prP (.cmp .Is) [.ref n,.non] g Q:=ab6 h
theorem bp4(h:Q (.bl false) g):prP (.cmp .IsNot) [.non,.non] g Q:=af1 h
theorem bp3(h:Q (.bl true) g):prP (.cmp .IsNot) [.int i,.non] g Q:=af1 h
theorem bp1(h:Q (.bl true) g):prP (.cmp .IsNot) [.tup l,.non] g Q:=af1 h
theorem bp2{n:Nat}(h:Q (.bl true) g):prP (.cmp .IsNot) [.ref n,.non] g Q:=af1 h
theorem a53(h:kb t):O9 g (.bl t) kb:=⟨t,.inr (.inl rfl),h⟩
theorem bi4(h:kb false):O9 g .non kb:=⟨false,.inl ⟨rfl,rfl⟩,h⟩
theorem bi5(h:kb (i != 0)):O9 g (.int i) kb:=⟨_,.inr (.inr (.inl ⟨i,rfl,rfl⟩)),h⟩
theorem bi3{i:Nat}(hl:d4 g i=some l)(h:kb (!l.isEmpty)):O9 g (.ref i) kb:=⟨_,.inr (.inr (.inr (.inr ⟨i,l,rfl,hl,rfl⟩))),h⟩
theorem Y9{t:Bool}{p:Bool->Prop}(h:p t):∃s,D.bl t=D.bl s/\p s:=⟨t,rfl,h⟩
theorem be7{p:Int->Prop}(h:p i):∃s,D.int i=D.int s/\p s:=⟨i,rfl,h⟩
theorem if2{c:Prop}[Decidable c]{A B:Prop}(h1:c->A)(h2:¬c->B):if decide c=true then A else B:=by
 by_cases h:c
 ·rw[if_pos (decide_eq_true h)];exact h1 h
 ·rw[if_neg (by rw[decide_eq_false h];decide)];exact h2 h
theorem ift{A B:Prop}(h:A):if true=true then A else B:=by rw[if_pos rfl];exact h
theorem N7{A B:Prop}(h:B):if false=true then A else B:=by rw[if_neg (by decide)];exact h
theorem bf0{A B:Prop}(h:A):if(!false)=true then A else B:=by rw[if_pos (show(!false)=true from rfl)];exact h
theorem bv3{A B:Prop}(h:B):if(!true)=true then A else B:=by rw[if_neg (by decide)];exact h
theorem ifF{b:Bool}{A B:Prop}(hb:b=false)(h:B):if b=true then A else B:=by rw[hb];exact N7 h
theorem ifT{b:Bool}{A B:Prop}(hb:b=true)(h:A):if b=true then A else B:=by rw[hb];exact ift h
theorem m7{a:Nat}{d:D}(hl:d4 g a=some l)(h2:atI l i=some d)(h:Q d g):prP .ix [.ref a,.int i] g Q:=⟨_,_,⟨rfl,.inl ⟨_,l,i,rfl,hl,h2⟩⟩,h⟩
theorem K7{d:D}(h2:atI l i=some d)(h:Q d g):prP .ix [.tup l,.int i] g Q:=⟨_,_,⟨rfl,.inl ⟨_,l,i,rfl,rfl,h2⟩⟩,h⟩
theorem bv0{i:Nat}{kvs:List (Key×D)}{y v:D}{k:Key}(hg:g[i]?=some (.dic kvs))(hk:P6 y=some k)(hv:o7 kvs k=some v)(h:Q v g):prP .ix [.ref i,y] g Q:=⟨_,_,⟨rfl,.inr (.inl ⟨i,kvs,y,k,rfl,hg,hk,hv⟩)⟩,h⟩
theorem L3{a n:Nat}{v:D}{kg:G->Prop}(hl:g[a]?=some (.lst l))(hn:ixN l.length i=some n)(h:kg (g.set a (.lst (l.set n v)))):aa8 (.ref a) (.int i) v g kg:=⟨_,.inl ⟨a,i,l,n,rfl,rfl,hl,hn,rfl⟩,h⟩
theorem aT8{i:Nat}{kvs:List (Key×D)}{y v:D}{k:Key}{kg:G->Prop}(hg:g[i]?=some (.dic kvs))(hk:P6 y=some k)(hl:kvs.length<100000)(h:kg (g.set i (.dic (putD kvs k v)))):aa8 (.ref i) y v g kg:=⟨_,.inr ⟨i,kvs,k,rfl,hg,hk,hl,rfl⟩,h⟩
theorem a7{a:Nat}(h:g[a]?=some (.lst l)):d4 g a=some l:=by simp only[d4,h,aq5]
theorem aI3{a:Nat}(h:g[a]?=some (.fro l)):d4 g a=some l:=by simp only[d4,h,aq5]
theorem A2{a:Nat}(hl:d4 g a=some l)(h:Q (.int l.length) g):prP .len [.ref a] g Q:=⟨_,_,⟨rfl,.inl ⟨_,l,rfl,hl,rfl⟩⟩,h⟩
theorem bm6(h:Q (.int l.length) g):prP .len [.tup l] g Q:=⟨_,_,⟨rfl,.inl ⟨_,l,rfl,rfl,rfl⟩⟩,h⟩
theorem a76(h:Q (.tup (cut l none none)) g):prP (.slc false false) [.tup l] g Q:=⟨_,_,⟨_,rfl,.inl ⟨l,rfl,rfl,rfl⟩⟩,h⟩
theorem a73(h:Q (.tup (cut l (some i) none)) g):prP (.slc true false) [.tup l,.int i] g Q:=⟨_,_,⟨_,i,rfl,.inl ⟨l,rfl,rfl,rfl⟩⟩,h⟩
theorem a75(h:Q (.tup (cut l none (some i))) g):prP (.slc false true) [.tup l,.int i] g Q:=⟨_,_,⟨_,i,rfl,.inl ⟨l,rfl,rfl,rfl⟩⟩,h⟩
theorem a74{a:Nat}(hl:d4 g a=some l)(h:Q (.ref g.length) (g++[.lst (cut l (some i) none)])):prP (.slc true false) [.ref a,.int i] g Q:=⟨_,_,⟨_,i,rfl,.inr ⟨a,l,rfl,hl,rfl,rfl⟩⟩,h⟩
theorem ac9{a:Nat}(hl:d4 g a=some l)(h:Q (.ref g.length) (g++[.lst (cut l none (some i))])):prP (.slc false true) [.ref a,.int i] g Q:=⟨_,_,⟨_,i,rfl,.inr ⟨a,l,rfl,hl,rfl,rfl⟩⟩,h⟩
theorem bk0(h:Q (.tup l.reverse) g):prP .rev [.tup l] g Q:=⟨_,_,.inl ⟨l,rfl,rfl,rfl⟩,h⟩
theorem az1(hl:l.length<=1000)(h:Q (.tup l) g):prP .tup l g Q:=⟨_,_,⟨hl,rfl,rfl⟩,h⟩
theorem am0(hl:l.length<=1000)(h:Q (.ref g.length) (g++[.lst l])):prP .lst l g Q:=⟨_,_,⟨hl,rfl,rfl⟩,h⟩
theorem aA3{a:Nat}(hl:d4 g a=some l)(h:Q (.ref g.length) (g++[.lst l])):prP .list [.ref a] g Q:=⟨_,_,⟨_,l,rfl,hl,rfl,rfl⟩,h⟩
theorem bm4(h:Q (.ref g.length) (g++[.lst l])):prP .list [.tup l] g Q:=⟨_,_,⟨_,l,rfl,rfl,rfl,rfl⟩,h⟩
theorem bh9{a:Nat}(hl:d4 g a=some l)(h:Q (.tup l) g):prP .tuple [.ref a] g Q:=⟨_,_,⟨_,l,rfl,hl,rfl,rfl⟩,h⟩
theorem bh8(h:Q (.tup l) g):prP .tuple [.tup l] g Q:=⟨_,_,⟨_,l,rfl,rfl,rfl,rfl⟩,h⟩
theorem isi{d:D}{c:String}{b:Bool}(hc:c∈["int","bool","str","tuple","list"])(hb:W9 g d c=some b)(h:Q (.bl b) g):prP .isin [d,.ty c] g Q:=⟨_,_,⟨d,c,b,rfl,hc,hb,rfl,rfl⟩,h⟩
theorem L4{i:Nat}{y:D}(hg:g[i]?=some (.lst l))(hl:l.length<100000)(h:Q .non (g.set i (.lst (l++[y])))):prP .append [.ref i,y] g Q:=⟨_,_,⟨i,y,l,rfl,hg,hl,rfl,rfl⟩,h⟩
theorem bm3{i j:Nat}{y:D}{n:Int}(hg:g[i]?=some (.lst l))(hn:n=j)(hj:l[j]?=some y)(hl:l.length<100000)(h:Q y (g.set i (.lst (l.eraseIdx j)))):prP .pop [.ref i,.int n] g Q:=by
 have hlt:=(List.getElem?_eq_some_iff.mp hj).1;refine⟨_,_,⟨i,n,l,j,rfl,hg,by omega,by omega,?_,hj,rfl⟩,h⟩;rw[hn];exact PySem.StrLaws.seqIndex_nonneg (by omega) (by omega) |>.trans (by simp)
theorem aA2{i:Nat}{kvs:List (Key×D)}{y z:D}{k:Key}(hg:g[i]?=some (.dic kvs))(hk:P6 y=some k)(h:Q ((o7 kvs k).getD z) g):prP .get [.ref i,y,z] g Q:=⟨_,_,⟨i,y,z,kvs,k,rfl,hg,hk,rfl,rfl⟩,h⟩
theorem bp9{i:Nat}{v:Bool}{l:List D}(hl:d4 g i=some l)(hv:O7 l=some v)(h:Q (.bl v) g):prP .any [.ref i] g Q:=⟨_,_,⟨i,l,v,rfl,hl,hv,rfl,rfl⟩,h⟩
theorem a05{i:Nat}{kvs:List (Key×D)}{ns:List Int}(hg:g[i]?=some (.dic kvs))(hk:kvs.map (·.1)=ns.map Sum.inl)(hz:ns.length<60)(h:Q (.ref g.length) (g++[.lst ((A1 ns).map .int)])):prP .sortd [.ref i] g Q:=⟨_,_,⟨i,kvs,ns,rfl,hg,hk,hz,rfl,rfl⟩,h⟩
theorem N1{i:Nat}(hg:g[i]?=some (.lst l)):mkP .append (.ref i) g:=⟨i,l,rfl,a7 hg⟩
theorem bd0{i:Nat}(hg:g[i]?=some (.lst l)):mkP .pop (.ref i) g:=⟨i,l,rfl,a7 hg⟩
theorem bu3{i:Nat}{l:List (Key×D)}(hg:g[i]?=some (.dic l)):mkP .get (.ref i) g:=⟨i,l,rfl,hg⟩
theorem lr1{j:Int}(h1:-(2 ^ 62)<=j)(h2:j<=100000)(h:Q (.ref g.length) (g++[.lst (i0 0 j.toNat)])):prP .lrng1 [.int j] g Q:=⟨_,_,⟨j,rfl,h1,h2,rfl,rfl⟩,h⟩
theorem lr2{i j:Int}(h1:-(2 ^ 62)<=i/\i<2 ^ 62/\-(2 ^ 62)<=j/\j<2 ^ 62/\j-i<=100000)(h:Q (.ref g.length) (g++[.lst (i0 i (j-i).toNat)])):prP .lrng2 [.int i,.int j] g Q:=⟨_,_,⟨i,j,rfl,h1,rfl,rfl⟩,h⟩
theorem X0(h:Q (.ref g.length) (g++[.dic []])):prP .X0 [] g Q:=⟨_,_,⟨rfl,rfl,rfl⟩,h⟩
theorem max2{i j:Int}(h:Q (.int (if j>i then j else i)) g):prP .max [.int i,.int j] g Q:=⟨_,_,⟨i,j,rfl,rfl,rfl⟩,h⟩
theorem min2{i j:Int}(h:Q (.int (if j<i then j else i)) g):prP .min [.int i,.int j] g Q:=⟨_,_,⟨i,j,rfl,rfl,rfl⟩,h⟩
theorem bn3{v:Bool}(h:Q (.int (if v then 1 else 0)) g):prP .int [.bl v] g Q:=⟨_,_,⟨rfl,.inr ⟨v,rfl,rfl⟩⟩,h⟩
theorem bv5{kvs:List D}{x:Str}(h:Q (.bl (C0 kvs x).isSome) g):prP .gin [.tup kvs,.str x] g Q:=⟨_,_,⟨kvs,x,rfl,rfl,rfl⟩,by rw[Bool.false_xor];exact h⟩
theorem bn8{kvs:List D}{x:Str}(h:Q (.bl (!(C0 kvs x).isSome)) g):prP .gnin [.tup kvs,.str x] g Q:=⟨_,_,⟨kvs,x,rfl,rfl,rfl⟩,by rw[Bool.true_xor];exact h⟩
theorem aU6{kvs:List D}{x:Str}{v:D}(hv:C0 kvs x=some v)(h:Q v g):prP .gget [.tup kvs,.str x] g Q:=⟨_,_,⟨kvs,x,rfl,hv,rfl⟩,h⟩
theorem aV7{i:Nat}{v:Bool}(hl:d4 g i=some l)(hv:O8 l=some v)(h:Q (.bl v) g):prP .all [.ref i] g Q:=⟨_,_,⟨i,l,v,rfl,hl,hv,rfl,rfl⟩,h⟩
theorem w9{i:Nat}{x:D}{σ:S}{k:S->Prop}(h:k (σ.set i (some x))):tgP (.one i) x σ k:=h
theorem ag0{is:List Nat}{σ σ':S}{k:S->Prop}(e:y4 is l σ=some σ')(h:k σ'):tgP (.many is) (.tup l) σ k:=⟨l,σ',rfl,e,h⟩
end
theorem ak9:∀(bs:List Bool),O8 (bs.map D.bl)=some (bs.all id):=by
 intro bs
 induction bs with
 |nil=>rfl
 |cons b r ih=>simp[O8,ih]
theorem call_of{T:Nat->Option MDef}{k f:Nat}{m:MDef}{ds:List D}{g:G}{Q:KD}{E:KX}(hT:T f=some m)(hl:ds.length=m.ar)(h:wpS (b8 T k) m.body ⟨fun _ g'=>Q .non g',Q,fun _ _=>False,fun _ _=>False⟩ (d5 m ds) g E):b8 T (k+1) f ds g Q E:=⟨m,hT,hl,h⟩
noncomputable def IK.Is(k:IK)(l:List D)(g:G):Prop:=∀i,k.at i g=some l[i]?
theorem p7{l:List D}{g:G}:(IK.fix l).Is l g:=fun _=>rfl
theorem W7{a:Nat}{l:List D}{g:G}(h:d4 g a=some l):(IK.lst a).Is l g:=fun i=>by simp only[IK.at,h]
noncomputable def enD(l:List D):List D:=l.mapIdx fun i d=>.tup [.int i,d]
theorem be5{a:Nat}{l:List D}{g:G}(h:d4 g a=some l):(IK.enl a).Is (enD l) g:=fun i=>by
 simp only[IK.at,h,enD,List.getElem?_mapIdx]
theorem ax0(l:List D):(enD l).length=l.length:=by simp[enD]
theorem a30{l:List D}{i:Nat}{x:D}(h:(enD l)[i]?=some x):∃d,l[i]?=some d/\x=.tup [.int i,d]:=by
 rw[enD,List.getElem?_mapIdx,Option.map_eq_some_iff] at h;obtain⟨d,h1,h2⟩:=h;exact⟨d,h1,h2.symm⟩
theorem q9{lo:Int}{n i:Nat}{x:D}(h:(i0 lo n)[i]?=some x):i<n/\x=.int (lo+i):=by
 unfold i0 at h;have hi:i<n:=by
  have:=(List.getElem?_eq_some_iff.mp h).1;simpa using this
 rw[List.getElem?_map,List.getElem?_range hi] at h;cases h;exact⟨hi,rfl⟩
theorem o9(lo:Int)(n:Nat):(i0 lo n).length=n:=by simp[i0]
section
variable{P:Sig}{σ:S}{g:G}{E:KX}{N:Ends}{it a b c o:ME}{s:MS}{t:MT}{Q:KD}
theorem an7{k:IK}{l:List D}{fin:S->G->Prop}{turn:D->(S->G->Prop)->S->G->Prop}(I:Nat->S->G->Prop)(hk:∀i σ g,I i σ g->k.Is l g)(h0:I 0 σ g)(hs:∀i x σ g,l[i]?=some x->I i σ g->turn x (I (i+1)) σ g)(hd:∀σ g,I l.length σ g->fin σ g):turns k σ g fin turn:=by
 refine⟨fun i m σ g=>m=l.length-i/\i<=l.length/\I i σ g,⟨l.length,by simp,Nat.zero_le _,h0⟩,?_⟩;rintro i m σ g ⟨rfl,hi,p⟩;rw[hk i σ g p i];by_cases hlt:i<l.length
 ·rw[List.getElem?_eq_getElem hlt];exact .inr ⟨_,rfl,I (i+1),fun σ' g' p'=>⟨l.length-(i+1),by omega,rfl,hlt,p'⟩,hs i l[i] σ g (List.getElem?_eq_getElem hlt) p⟩
 ·have e:i=l.length:=by omega
  subst e;rw[List.getElem?_eq_none (Nat.le_refl _)];exact .inl ⟨rfl,hd σ g p⟩
theorem A7(hP:i6 P)(h:wpI P it σ g (fun k g1=>∃(l:List D) (I:Nat->S->G->Prop),(∀i σ g,I i σ g->k.Is l g)/\I 0 σ g1 /\
      (∀ i x σ g,l[i]?=some x->I i σ g->tgP t x σ fun σ2=>wpS P s ⟨I (i + 1),N.rt,N.nx,I (i + 1)⟩ σ2 g E)/\∀ σ g,I l.length σ g->N.nx σ g) E):wpS P (.for_ t it s) N σ g E :=
  v7 hP it _ _ _ _ _ _ (fun k g1 ⟨l,I,hk,h0,hs,hd⟩=>an7 I hk h0 hs hd) (fun _ _ z=>z) h
theorem ai4{n:Nat}(hn:(n:Int)<2 ^ 62)(I:Nat->S->G->Prop)(h0:I 0 σ g)(hs:∀(i:Nat) σ g,i<n->I i σ g->tgP t (.int i) σ fun σ2=>wpS P s ⟨I (i+1),N.rt,N.nx,I (i+1)⟩ σ2 g E)(hd:∀σ g,I n σ g->N.nx σ g):wpS P (.for_ t (.itR1 (.lit (.int n))) s) N σ g E:=by
 simp only[wpS,wpI,wpE];refine⟨n,rfl,by omega,hn,an7 (l:=i0 0 n) I (fun _ _ _ _=>p7) h0 (fun i x σ g hx p=>?_) (fun σ g p=>hd σ g (by rw[o9] at p;exact p))⟩;obtain⟨hi,rfl⟩:=q9 hx;have:=hs i σ g hi p;rw[show(0:Int)+(i:Int)=i by omega];exact this
theorem E0{d0:List Nat}{n:Nat}{cond elt:ME}(hP:i6 P)(h:wpI P it σ g (fun k g1=>∃(l:List D) (I:Nat->List D->S->G->Prop),l.length<=1000/\(∀i ys σ g,I i ys σ g->k.Is l g/\ys.length<=i)/\I 0 [] (J8 σ d0 n) g1 /\
      (∀i x ys σ g,l[i]?=some x->I i ys σ g->tgP t x σ fun σ2=>wpT P cond σ2 g (fun c g3=>if c=true then wpE P elt σ2 g3 (fun y g4=>I (i+1) (ys++[y]) σ2 g4) NoX else I (i+1) ys σ2 g3) NoX) /\
      ∀ ys σ g,I l.length ys σ g->Q (.ref g.length) (g ++ [.lst ys])) E):wpE P (.comp d0 n t it cond elt) σ g Q E:=by
  rw[wpE];refine v7 hP it _ _ _ _ _ _ (fun k g1 h=>?_) (fun _ _ z=>z) h;obtain⟨l,I,hl,hk,h0,hs,hd⟩:=h;refine⟨fun i m ys σ g=>m=l.length-i/\i<=l.length/\I i ys σ g,⟨l.length,by simp,Nat.zero_le _,h0⟩,?_⟩;rintro i m ys σ g ⟨rfl,hi,p⟩;obtain⟨hk',hy⟩:=hk i ys σ g p;rw[hk' i];by_cases hlt:i<l.length
  · rw[List.getElem?_eq_getElem hlt];refine .inr ⟨_,rfl,by omega,A5 (fun σ2 q=>n8 hP cond _ _ _ _ _ _ (fun c g3 q=>?_) (fun _ _ z=>z) q) (hs i l[i] ys σ g (List.getElem?_eq_getElem hlt) p)⟩;cases c
    · exact⟨l.length-(i+1),by omega,rfl,hlt,by simpa using(show I (i+1) ys σ2 g3 from q)⟩
    · exact b7 hP elt _ _ _ _ _ _ (fun y g4 q=>⟨l.length-(i+1),by omega,rfl,hlt,by simpa using q⟩) (fun _ _ z=>z) q
  · have e:i=l.length:=by omega
    subst e;rw[List.getElem?_eq_none (Nat.le_refl _)];exact .inl ⟨rfl,hd ys σ g p⟩
theorem ac1{d0:List Nat}{n:Nat}{cond elt:ME}(hP:i6 P)(h:wpE P a σ g (fun x g1=>∃j:Nat,x=.int j/\j<=1000/\∃I:Nat->List D->S->G->Prop,I 0 [] (J8 σ d0 n) g1/\(∀i ys σ g,I i ys σ g->ys.length<=i) /\
      (∀(i:Nat) ys σ g,i<j->I i ys σ g->tgP t (.int i) σ fun σ2=>wpT P cond σ2 g (fun c g3=>if c=true then wpE P elt σ2 g3 (fun y g4=>I (i+1) (ys++[y]) σ2 g4) NoX else I (i+1) ys σ2 g3) NoX) /\
      ∀ ys σ g,I j ys σ g->Q (.ref g.length) (g ++ [.lst ys])) E):wpE P (.comp d0 n t (.itR1 a) cond elt) σ g Q E:=by
  refine E0 hP ?_;rw[wpI];refine b7 hP a _ _ _ _ _ _ (fun x g1 h=>?_) (fun _ _ z=>z) h;obtain⟨j,rfl,hj,I,h0,hz,hs,hd⟩:=h;refine⟨j,rfl,by omega,by omega,_,I,by rw[o9];simpa using hj,fun i ys σ g p=>⟨p7,hz i ys σ g p⟩,h0,fun i x ys σ g hx p=>?_,fun ys σ g p=>hd ys σ g (by rw[o9] at p;simpa using p)⟩;obtain⟨hi,rfl⟩:=q9 hx;rw[show(0:Int)+(i:Int)=i by omega];exact hs i ys σ g (by simpa using hi) p
theorem ac0{d0:List Nat}{n:Nat}{cond elt:ME}(hP:i6 P)(h:wpE P a σ g (fun x g1=>∃l,x=.tup l/\l.length<=1000/\∃I:Nat->List D->S->G->Prop,I 0 [] (J8 σ d0 n) g1/\(∀i ys σ g,I i ys σ g->ys.length<=i) /\
      (∀(i:Nat) x ys σ g,l[i]?=some x->I i ys σ g->tgP t x σ fun σ2=>wpT P cond σ2 g (fun c g3=>if c=true then wpE P elt σ2 g3 (fun y g4=>I (i+1) (ys++[y]) σ2 g4) NoX else I (i+1) ys σ2 g3) NoX) /\
      ∀ ys σ g,I l.length ys σ g->Q (.ref g.length) (g ++ [.lst ys])) E):wpE P (.comp d0 n t (.itE a) cond elt) σ g Q E:=by
  refine E0 hP ?_;rw[wpI];refine b7 hP a _ _ _ _ _ _ (fun x g1 h=>?_) (fun _ _ z=>z) h;obtain⟨l,rfl,hj,I,h0,hz,hs,hd⟩:=h;exact .inl ⟨l,rfl,_,I,hj,fun i ys σ g p=>⟨p7,hz i ys σ g p⟩,h0,hs,hd⟩
theorem aW0(I:Nat->S->G->Prop)(m0:Nat)(h0:I m0 σ g)(hs:∀m σ g,I m σ g->wpT P c σ g (fun t g1=>if t=true then wpS P s ⟨fun σ' g'=>∃m',m'<m/\I m' σ' g',N.rt,N.nx,fun σ' g'=>∃m',m'<m/\I m' σ' g'⟩ σ g1 E else N.nx σ g1) E)(hP:i6 P):wpS P (.whil c s) N σ g E:=by
 refine⟨I,⟨m0,h0⟩,fun m σ g p=>n8 hP c _ _ _ _ _ _ (fun t g1 q=>?_) (fun _ _ z=>z) (hs m σ g p)⟩;cases t
 ·exact q
 ·exact⟨_,fun _ _ z=>z,q⟩
theorem K8(hP:i6 P){R:IK->G->Prop}(h:wpE P a σ g (fun x g1=>∃j:Int,x=.int j/\-(2 ^ 62)<=j/\j<2 ^ 62/\R (.fix (i0 0 j.toNat)) g1) E):wpI P (.itR1 a) σ g R E:=by rw[wpI];exact h
theorem i_t(hP:i6 P){R:IK->G->Prop}(h:wpE P a σ g (fun x g1=>∃l,x=.tup l/\R (.fix l) g1) E):wpI P (.itE a) σ g R E:=by
 rw[wpI];exact b7 hP a _ _ _ _ _ _ (fun x g1 h=>.inl h) (fun _ _ z=>z) h
theorem i_l(hP:i6 P){R:IK->G->Prop}(h:wpE P a σ g (fun x g1=>∃i l,x=.ref i/\d4 g1 i=some l/\R (.lst i) g1) E):wpI P (.itE a) σ g R E:=by
 rw[wpI];exact b7 hP a _ _ _ _ _ _ (fun x g1 h=>.inr h) (fun _ _ z=>z) h
theorem i_n{R:IK->G->Prop}(h:wpE P a σ g (fun x g1=>∃i l,x=.ref i/\d4 g1 i=some l/\R (.enl i) g1) E):wpI P (.itN a) σ g R E:=by rw[wpI];exact h
end
end M

namespace M
open PySem L2 PySem.Spec PyProof.Rows
structure RF where
 id:Nat
 nm:Str
 N:List Str
 k:Nat
 i:Nat
 m:MDef
structure RM where
 id:Nat
 cl:Str
 nm:Str
 qn:Str
 N:List Str
 k:Nat
 i:Nat
 j:Nat
 m:MDef
noncomputable def RF.d(tp:Nat->Stmt)(r:RF):DefI:=⟨r.nm,r.nm,r.N,r.N.take r.k,tp r.i⟩
noncomputable def RM.d(mt:Nat->Nat->Stmt)(r:RM):DefI:=⟨r.nm,r.qn,r.N,r.N.take r.k,mt r.i r.j⟩
noncomputable def ag1(F:List RF)(M:List RM)(i:Nat):Option MDef:=match F.find? fun r=>Nat.beq r.id i with
 |some r=>some r.m
 |none=>(M.find? fun r=>Nat.beq r.id i).map (·.m)
section
variable(tp:Nat->Stmt)(mt:Nat->Nat->Stmt)(K:PySem.W.Frag)
noncomputable def PF:List RF->Prop
 |[]=>True
 |r::l=>(∃f fd,PySem.W.nsIn K mainGlobals r.nm=some (some (.ref f))/\Fun K r.nm r.nm (tp r.i) f fd)/\PF l
noncomputable def PM:List RM->Prop
 |[]=>True
 |r::l=>(∃C f fd,PySem.W.nsIn K mainGlobals r.cl=some (some (.ref C))/\Meth K C r.nm f/\Fun K r.nm r.qn (mt r.i r.j) f fd)/\PM l
noncomputable def PC:List (Str×Nat)->Prop
 |[]=>True
 |r::l=>(∃C,PySem.W.nsIn K mainGlobals r.1=some (some (.ref C))/\Cls K C/\PySem.W.makesIn K C=true/\PySem.W.keepIn K (.ref C)=true)/\PC l
noncomputable def PA:List (Str×Str)->Prop
 |[]=>True
 |r::l=>(∃C,PySem.W.nsIn K mainGlobals r.2=some (some (.ref C))/\PySem.W.findIn K (.ref C) r.1=some none)/\PA l
noncomputable def PB:List Str->Prop
 |[]=>True
 |r::l=>PySem.W.nsIn K mainGlobals r=some none/\PB l
noncomputable def PX:List Str->Prop
 |[]=>True
 |r::l=>(∃C,PySem.W.nsIn K mainGlobals r=some (some (.ref C))/\PySem.W.excIn K C [.type "ValueError",.type "Exception",.type "BaseException",.type "object"] "ValueError.__new__"=true)/\PX l
noncomputable def BF:List RF->Prop
 |[]=>True
 |r::l=>(∀(kV doc pm:Value) (an:Option Addr) (cdv ct:Value) (us:List Value),us.length=(r.N.take r.k).length->bindArgs (PySem.W.fnOf r.nm r.nm (t8 (tp r.i)) (j9 (tp r.i)) (i9 (tp r.i)) .none kV doc pm an cdv ct) ⟨us,[]⟩=pure ((r.N.take r.k).zip us))/\BF l
noncomputable def BM:List RM->Prop
 |[]=>True
 |r::l=>(∀(kV doc pm:Value) (an:Option Addr) (cdv ct:Value) (us:List Value),us.length=(r.N.take r.k).length->bindArgs (PySem.W.fnOf r.nm r.qn (t8 (mt r.i r.j)) (j9 (mt r.i r.j)) (i9 (mt r.i r.j)) .none kV doc pm an cdv ct) ⟨us,[]⟩=pure ((r.N.take r.k).zip us))/\BM l
noncomputable def YF(c:d6):List RF->Prop
 |[]=>True
 |r::l=>o8 (comp 60) (c.at (r.d tp)) (j9 (tp r.i))=some r.m.body/\YF c l
noncomputable def YM(c:d6):List RM->Prop
 |[]=>True
 |r::l=>o8 (comp 60) (c.at (r.d mt)) (j9 (mt r.i r.j))=some r.m.body/\YM c l
end
section
variable{tp:Nat->Stmt}{mt:Nat->Nat->Stmt}{K:PySem.W.Frag}{c:d6}{id k i j:Nat}{cl nm qn x:Str}{N:List Str}{m:MDef}{f C:Addr}{oc kV doc pm cdv ct:Value}{od an:Option Addr}{osl:Array (Option Value)}
theorem PF.nil:PF tp K []:=trivial
theorem PF.cons{l:List RF}(a:PySem.W.nsIn K mainGlobals nm=some (some (.ref f)))(lk:K.lookup f=some ⟨oc,od,.func (PySem.W.fnOf nm nm (t8 (tp i)) (j9 (tp i)) (i9 (tp i)) .none kV doc pm an cdv ct),osl⟩)(cd:PySem.W.codeIn K cdv nm=true)(kp:PySem.W.keepIn K (.ref f)=true)(h:PF tp K l):PF tp K (⟨id,nm,N,k,i,m⟩::l):=⟨⟨f,_,a,aI9 lk cd kp⟩,h⟩
theorem PM.nil:PM mt K []:=trivial
theorem PM.cons{l:List RM}(c0:PySem.W.nsIn K mainGlobals cl=some (some (.ref C)))(a:PySem.W.findIn K (.ref C) nm=some (some (.ref f)))(af:PySem.W.isFn K (.ref f)=true)(lk:K.lookup f=some ⟨oc,od,.func (PySem.W.fnOf nm qn (t8 (mt i j)) (j9 (mt i j)) (i9 (mt i j)) .none kV doc pm an cdv ct),osl⟩)(cd:PySem.W.codeIn K cdv qn=true)(kp:PySem.W.keepIn K (.ref f)=true)(h:PM mt K l):PM mt K (⟨id,cl,nm,qn,N,k,i,j,m⟩::l):=⟨⟨C,f,_,c0,⟨a,af,kp⟩,aI9 lk cd kp⟩,h⟩
theorem PC.nil:PC K []:=trivial
theorem PC.cons{l:List (Str×Nat)}(cn:PySem.W.nsIn K mainGlobals x=some (some (.ref C)))(cp:PySem.W.plainGet K C Str.empty=true)(chd:PySem.W.hasDictIn K C=true)(cpo:PySem.W.plainOver K C=true)(csa:PySem.W.findIn K (.ref C) "__setattr__"=some (some (.builtin "object.__setattr__")))(cmk:PySem.W.makesIn K C=true)(ckp:PySem.W.keepIn K (.ref C)=true)(h:PC K l):PC K ((x,i)::l):=⟨⟨C,cn,⟨cp,chd,cpo,csa⟩,cmk,ckp⟩,h⟩
theorem PA.nil:PA K []:=trivial
theorem PA.cons{l:List (Str×Str)}(cn:PySem.W.nsIn K mainGlobals x=some (some (.ref C)))(fl:PySem.W.findIn K (.ref C) nm=some none)(h:PA K l):PA K ((nm,x)::l):=⟨⟨C,cn,fl⟩,h⟩
theorem PB.nil:PB K []:=trivial
theorem PB.cons{l:List Str}(cn:PySem.W.nsIn K mainGlobals x=some none)(h:PB K l):PB K (x::l):=⟨cn,h⟩
theorem PX.nil:PX K []:=trivial
theorem PX.cons{l:List Str}(cn:PySem.W.nsIn K mainGlobals x=some (some (.ref C)))(q:PySem.W.excIn K C [.type "ValueError",.type "Exception",.type "BaseException",.type "object"] "ValueError.__new__"=true)(h:PX K l):PX K (x::l):=⟨⟨C,cn,q⟩,h⟩
theorem BF.nil:BF tp []:=trivial
theorem BF.cons{l:List RF}(h:∀(kV doc pm:Value) (an:Option Addr) (cdv ct:Value) (us:List Value),us.length=(N.take k).length->bindArgs (PySem.W.fnOf nm nm (t8 (tp i)) (j9 (tp i)) (i9 (tp i)) .none kV doc pm an cdv ct) ⟨us,[]⟩=pure ((N.take k).zip us))(h2:BF tp l):BF tp (⟨id,nm,N,k,i,m⟩::l):=⟨h,h2⟩
theorem BM.nil:BM mt []:=trivial
theorem BM.cons{l:List RM}(h:∀(kV doc pm:Value) (an:Option Addr) (cdv ct:Value) (us:List Value),us.length=(N.take k).length->bindArgs (PySem.W.fnOf nm qn (t8 (mt i j)) (j9 (mt i j)) (i9 (mt i j)) .none kV doc pm an cdv ct) ⟨us,[]⟩=pure ((N.take k).zip us))(h2:BM mt l):BM mt (⟨id,cl,nm,qn,N,k,i,j,m⟩::l):=⟨h,h2⟩
theorem YF.nil:YF tp c []:=trivial
theorem YF.cons{l:List RF}(h:o8 (comp 60) (c.at ⟨nm,nm,N,N.take k,tp i⟩) (j9 (tp i))=some m.body)(h2:YF tp c l):YF tp c (⟨id,nm,N,k,i,m⟩::l):=⟨h,h2⟩
theorem YM.nil:YM mt c []:=trivial
theorem YM.cons{l:List RM}(h:o8 (comp 60) (c.at ⟨nm,qn,N,N.take k,mt i j⟩) (j9 (mt i j))=some m.body)(h2:YM mt c l):YM mt c (⟨id,cl,nm,qn,N,k,i,j,m⟩::l):=⟨h,h2⟩
theorem YF.get:∀{l:List RF},YF tp c l->∀r∈l,o8 (comp 60) (c.at (r.d tp)) (j9 (tp r.i))=some r.m.body
 |_::_,h,r,hr=>(List.mem_cons.mp hr).elim (fun z=>z▸h.1) (YF.get h.2 r)
theorem YM.get:∀{l:List RM},YM mt c l->∀r∈l,o8 (comp 60) (c.at (r.d mt)) (j9 (mt r.i r.j))=some r.m.body
 |_::_,h,r,hr=>(List.mem_cons.mp hr).elim (fun z=>z▸h.1) (YM.get h.2 r)
theorem PF.get:∀{l:List RF},PF tp K l->∀r∈l,∃f fd,PySem.W.nsIn K mainGlobals r.nm=some (some (.ref f))/\Fun K r.nm r.nm (tp r.i) f fd
 |_::_,h,r,hr=>(List.mem_cons.mp hr).elim (fun z=>z▸h.1) (PF.get h.2 r)
theorem PM.get:∀{l:List RM},PM mt K l->∀r∈l,∃C f fd,PySem.W.nsIn K mainGlobals r.cl=some (some (.ref C))/\Meth K C r.nm f/\Fun K r.nm r.qn (mt r.i r.j) f fd
 |_::_,h,r,hr=>(List.mem_cons.mp hr).elim (fun z=>z▸h.1) (PM.get h.2 r)
theorem PC.get:∀{l:List (Str×Nat)},PC K l->∀r∈l,∃C,PySem.W.nsIn K mainGlobals r.1=some (some (.ref C))/\Cls K C/\PySem.W.makesIn K C=true/\PySem.W.keepIn K (.ref C)=true
 |_::_,h,r,hr=>(List.mem_cons.mp hr).elim (fun z=>z▸h.1) (PC.get h.2 r)
theorem PA.get:∀{l:List (Str×Str)},PA K l->∀r∈l,∃C,PySem.W.nsIn K mainGlobals r.2=some (some (.ref C))/\PySem.W.findIn K (.ref C) r.1=some none
 |_::_,h,r,hr=>(List.mem_cons.mp hr).elim (fun z=>z▸h.1) (PA.get h.2 r)
theorem PB.get:∀{l:List Str},PB K l->∀r∈l,PySem.W.nsIn K mainGlobals r=some none
 |_::_,h,r,hr=>(List.mem_cons.mp hr).elim (fun z=>z▸h.1) (PB.get h.2 r)
theorem PX.get:∀{l:List Str},PX K l->∀r∈l,∃C,PySem.W.nsIn K mainGlobals r=some (some (.ref C))/\PySem.W.excIn K C [.type "ValueError",.type "Exception",.type "BaseException",.type "object"] "ValueError.__new__"=true
 |_::_,h,r,hr=>(List.mem_cons.mp hr).elim (fun z=>z▸h.1) (PX.get h.2 r)
theorem BF.get:∀{l:List RF},BF tp l->∀r∈l,∀(kV doc pm:Value) (an:Option Addr) (cdv ct:Value) (us:List Value),us.length=(r.N.take r.k).length->bindArgs (PySem.W.fnOf r.nm r.nm (t8 (tp r.i)) (j9 (tp r.i)) (i9 (tp r.i)) .none kV doc pm an cdv ct) ⟨us,[]⟩=pure ((r.N.take r.k).zip us)
 |_::_,h,r,hr=>(List.mem_cons.mp hr).elim (fun z=>z▸h.1) (BF.get h.2 r)
theorem BM.get:∀{l:List RM},BM mt l->∀r∈l,∀(kV doc pm:Value) (an:Option Addr) (cdv ct:Value) (us:List Value),us.length=(r.N.take r.k).length->bindArgs (PySem.W.fnOf r.nm r.qn (t8 (mt r.i r.j)) (j9 (mt r.i r.j)) (i9 (mt r.i r.j)) .none kV doc pm an cdv ct) ⟨us,[]⟩=pure ((r.N.take r.k).zip us)
 |_::_,h,r,hr=>(List.mem_cons.mp hr).elim (fun z=>z▸h.1) (BM.get h.2 r)
end
noncomputable def scB(N P:List Str)(sc:Scope):Bool:=decide (sc.kind=.function)&&!sc.isCoroutine&&!sc.isGenerator&&decide N.Nodup&&decide (N.take P.length=P)&&P.all (fun x=>decide (sc.names.lookup x=some .local)||decide (sc.names.lookup x=some .cell))&&sc.names.all fun y=>decide (y.2≠.free)
theorem aE8{N P:List Str}{sc:Scope}(h:scB N P sc=true):FnScope N P sc:=by
 unfold scB at h;simp only[Bool.and_eq_true,decide_eq_true_eq,Bool.not_eq_true',List.all_eq_true,Bool.or_eq_true] at h;obtain⟨⟨⟨⟨⟨⟨h1,h2⟩,h3⟩,h4⟩,h5⟩,h6⟩,h7⟩:=h;exact⟨h1,h2,h3,h4,h5,h6,h7⟩
theorem aG4{K:PySem.W.Frag}{h₀:Heap}{mg:Str->Option Value}{x:Str}{C:Addr}{bmB:List Value}{newId:String}(X:K.In h₀)(G:h₀.Ns mainGlobals mg)(e:PySem.W.nsIn K mainGlobals x=some (some (.ref C)))(q:PySem.W.excIn K C bmB newId=true):PyProof.Rows.OwnCls x C bmB newId mg h₀:=by
 refine⟨PySem.W.mg_of X G e,?_⟩;unfold PySem.W.excIn at q;split at q
 ·rename_i dd cd sl ho;split at q
  ·rename_i C' bm k0 k1 k2 k3 n k5 hm hs;simp only[Bool.and_eq_true,beq_iff_eq,Bool.not_eq_true'] at q;obtain⟨⟨⟨⟨⟨z1,z2⟩,hdel⟩,ht⟩,hok⟩,hni⟩:=q;subst z1;subst z2;obtain⟨nm,bs,mro,ns,qn,hd,sn,sub,ab,col,del⟩:=cd;dsimp only at hm hdel hok hni;subst hm hdel;have hsl:sl=#[k0,k1,k2,k3,some (.builtin n),k5]:=by
    obtain⟨l⟩:=sl;simp only at hs;rw[hs]
   subst hsl;exact⟨bm,ns,nm,qn,bs,hd,sn,sub,ab,col,dd,k0,k1,k2,k3,k5,_,X _ _ ho,.of_isNs (PySem.W.isNs_of_in X hok),PySem.W.nsMap_none_of_in X hok hni,PySem.W.tail_of_in X ht⟩
  ·cases q
 ·cases q
noncomputable def M3(K:PySem.W.Frag)(x:Str):Addr:=match PySem.W.nsIn K mainGlobals x with
 |some (some (.ref C))=>C
 |_=>0
noncomputable def aw9(K:PySem.W.Frag)(exc:List Str):Bool:=exc.all fun x=>exc.all fun y=>decide (PySem.W.exmOne K (.ref (M3 K x)) (.ref (M3 K y))=some (decide (x=y\/y="MintError")))
theorem bf4{K:PySem.W.Frag}{exc:List Str}(h:aw9 K exc=true){x y:Str}{C C':Addr}(hx:exc.contains x=true)(hy:exc.contains y=true)(hC:l6 K x C)(hC':l6 K y C'):PySem.W.exmOne K (.ref C) (.ref C')=some (decide (x=y\/y="MintError")):=by
 have h1:=List.all_eq_true.mp h x (by simpa using hx);have h2:=of_decide_eq_true (List.all_eq_true.mp h1 y (by simpa using hy));have e1:M3 K x=C:=by unfold M3;rw[show PySem.W.nsIn K mainGlobals x=_ from hC]
 have e2:M3 K y=C':=by unfold M3;rw[show PySem.W.nsIn K mainGlobals y=_ from hC']
 rw[e1,e2] at h2;exact h2
theorem ag9{α:Type}{f:α->Nat}:∀{l:List α},(l.map f).Nodup->∀r∈l,l.find? (fun x=>Nat.beq (f x) (f r))=some r
 |y::l,nd,r,hr=>by
  rw[List.map_cons,List.nodup_cons] at nd;rcases List.mem_cons.mp hr with rfl|hr
  ·rw[List.find?_cons_of_pos];exact Nat.beq_refl _
  ·rw[List.find?_cons_of_neg]
   ·exact ag9 nd.2 r hr
   ·intro z;exact nd.1 (List.mem_map.mpr ⟨r,hr,(Nat.eq_of_beq_eq_true z).symm⟩)
theorem a27{α β:Type}{f:α->Nat}{g:β->Nat}{l:List α}{r:β}(h:g r∉l.map f):l.find? (fun x=>Nat.beq (f x) (g r))=none:=by
 rw[List.find?_eq_none];intro x hx z;exact h (List.mem_map.mpr ⟨x,hx,Nat.eq_of_beq_eq_true z⟩)
section
variable{w:World}{K:PySem.W.Frag}{h₀:Heap}{mg:Str->Option Value}{c:d6}{F:List RF}{M:List RM}{tp:Nat->Stmt}{mt:Nat->Nat->Stmt}
structure TabIn(K:PySem.W.Frag)(c:d6)(F:List RF)(M:List RM)(tp:Nat->Stmt)(mt:Nat->Nat->Stmt):Prop where
 qF:PF tp K F
 qM:PM mt K M
 qC:PC K c.cls
 qA:PA K c.fls
 qB:PB K c.blt
 qX:PX K c.exc
 xm:aw9 K c.exc=true
structure TabTx(c:d6)(F:List RF)(M:List RM)(tp:Nat->Stmt)(mt:Nat->Nat->Stmt):Prop where
 cf:c.fns=F.map fun r=>(r.nm,r.id)
 cm:c.mts=M.map fun r=>(r.nm,r.cl,r.id)
 ci:c.cls.all (fun y=>M.any fun r=>decide (r.cl=y.1)&&decide (r.nm="__init__")&&Nat.beq r.id y.2)=true
 nd:(F.map (·.id)++M.map (·.id)).Nodup
 sF:F.all (fun r=>scB r.N (r.N.take r.k) (i9 (tp r.i))&&decide (r.m.ar=(r.N.take r.k).length)&&decide (r.m.n=r.N.length))=true
 sM:M.all (fun r=>scB r.N (r.N.take r.k) (i9 (mt r.i r.j))&&decide (r.m.ar=(r.N.take r.k).length)&&decide (r.m.n=r.N.length))=true
 oF:YF tp c F
 oM:YM mt c M
 bF:BF tp F
 bM:BM mt M
theorem av2(I:TabIn K c F M tp mt)(X:TabTx c F M tp mt)(r:RF)(hr:r∈F):∃f fd,DefOk K c (r.d tp) r.m f fd/\PySem.W.nsIn K mainGlobals r.nm=some (some (.ref f))/\ag1 F M r.id=some r.m:=by
 obtain⟨f,fd,a,q⟩:=I.qF.get r hr;have s:=List.all_eq_true.mp X.sF r hr;simp only[Bool.and_eq_true,decide_eq_true_eq] at s;have o:=X.oF.get r hr;refine⟨f,fd,⟨q,q.binds (X.bF.get r hr),aE8 s.1.1,o,s.1.2,s.2⟩,a,?_⟩;unfold ag1;rw[ag9 (f:=(·.id)) (List.nodup_append.mp X.nd).1 r hr]
theorem av1(I:TabIn K c F M tp mt)(X:TabTx c F M tp mt)(r:RM)(hr:r∈M):∃C f fd,DefOk K c (r.d mt) r.m f fd/\PySem.W.nsIn K mainGlobals r.cl=some (some (.ref C))/\Meth K C r.nm f/\ag1 F M r.id=some r.m:=by
 obtain⟨C,f,fd,a,q1,q⟩:=I.qM.get r hr;have s:=List.all_eq_true.mp X.sM r hr;simp only[Bool.and_eq_true,decide_eq_true_eq] at s;have o:=X.oM.get r hr;refine⟨C,f,fd,⟨q,q.binds (X.bM.get r hr),aE8 s.1.1,o,s.1.2,s.2⟩,a,q1,?_⟩;have nd:=List.nodup_append.mp X.nd;unfold ag1;rw[a27 (f:=fun r:RF=>r.id) (g:=fun r:RM=>r.id) (r:=r) (fun z=>nd.2.2 _ z _ (List.mem_map.mpr ⟨r,hr,rfl⟩) rfl),ag9 (f:=fun r:RM=>r.id) nd.2.1 r hr]
 rfl
theorem a52(I:TabIn K c F M tp mt)(Y:TabTx c F M tp mt)(X:K.In h₀)(G:h₀.Ns mainGlobals mg)(con:∀x d,c.con.lookup x=some d->∃v u,mg x=some u/\RelV v u/\∀ρ H,c8 K ρ H d v)(gdcs:∀x kvs,c.gd.lookup x=some kvs->∃A vs,mg x=some (.ref A)/\af6 K w.params A vs/\X4 K kvs vs):TabOk w K mg c (ag1 F M):=by
 refine⟨fun x i hx=>?_,fun x i hx=>?_,fun x y i C hx hC=>?_,fun f y C hx hC=>?_,con,fun x hx=>?_,fun x hx=>?_,fun x y C C' hx hy hC hC'=>bf4 I.xm hx hy hC hC',gdcs⟩
 ·have hm:=PySem.mem_of_lookup hx;rw[Y.cf] at hm;obtain⟨r,hr,e⟩:=List.mem_map.mp hm;cases e;obtain⟨f,fd,O,a,t⟩:=av2 I Y r hr;exact⟨_,_,f,fd,t,O,PySem.W.mg_of X G a⟩
 ·have hm:=PySem.mem_of_lookup hx;have h1:=List.all_eq_true.mp Y.ci _ hm;obtain⟨r,hr,e⟩:=List.any_eq_true.mp h1;simp only[Bool.and_eq_true,decide_eq_true_eq] at e;obtain⟨⟨e1,e2⟩,e3⟩:=e;have e3:=Nat.eq_of_beq_eq_true e3;obtain⟨C,f,fd,O,a,q,t⟩:=av1 I Y r hr;obtain⟨C',a',hc,mk,kp⟩:=I.qC.get _ hm;rw[e1] at a;cases a.symm.trans a';rw[e2] at q;rw[e3] at t;exact⟨C,_,_,f,fd,t,O,PySem.W.mg_of X G a,a,hc,⟨mk,q.at_,q.fn,kp⟩⟩
 ·rw[Y.cm] at hx;obtain⟨r,hr,e⟩:=List.mem_map.mp hx;cases e;obtain⟨C',f,fd,O,a,q,t⟩:=av1 I Y r hr;cases a.symm.trans hC;exact⟨_,_,f,fd,t,O,q⟩
 ·obtain⟨C',a,q⟩:=I.qA.get _ hx;cases a.symm.trans hC;exact q
 ·exact PySem.W.mg_none_of X G (I.qB.get x (by simpa using hx))
 ·obtain⟨C,a,q⟩:=I.qX.get x (by simpa using hx);exact⟨_,PySem.W.mg_of X G a,a,fun base kin gns=>⟨_,_,_,_,aG4 kin gns a q,PySem.F.excBase_ValueError⟩⟩
end
end M

namespace M
open PySem L2
local macro_rules | `(tactic| walk_at "w1") => `(tactic| first
 | with_reducible refine ab9 ?_ | with_reducible refine ax9 ?_ | with_reducible refine ax8 ?_ | with_reducible refine bh3 ?_ | with_reducible refine a45 ?_ | with_reducible refine bh0 ?_ | with_reducible refine au8 ?_ | with_reducible refine a40 ?_ | with_reducible refine ay0 ?_ | with_reducible refine A4 ?_ | with_reducible refine a41 ?_
 |(with_reducible refine w_var (d:=?_) ?_ ?_;rotate_left;· with_unfolding_all rfl)|with_reducible refine w_lit ?_|with_reducible refine aa3 ?_|with_reducible refine an5 ?_|with_reducible refine bq3 ?_|with_reducible refine a42 ?_|with_reducible refine aW3 ?_|with_reducible refine w_and ?_|with_reducible refine w_or ?_|with_reducible refine w_not ?_|with_reducible refine w_ite ?_
 | with_reducible refine ac2 ?_ | with_reducible refine a44 ?_ | with_reducible refine aW2 ?_ | with_reducible refine al7 ?_ | with_reducible refine M4 ?_
 | with_reducible refine a39 ?_ | with_reducible refine bh2 ?_ | with_reducible refine a38 ?_ | with_reducible refine aT1 ?_ | with_reducible refine ax7 ?_
 | with_reducible refine bq1 ?_ | with_reducible refine bq0 ?_ | with_reducible refine bh6 ?_ | with_reducible refine bw1 ?_ | with_reducible refine bw2 ?_ | with_reducible refine bw3 ?_ | with_reducible refine bw4 ?_ | with_reducible refine bp6 ?_ | with_reducible refine aV4 ?_ | with_reducible refine bp7 ?_ | with_reducible refine bo4 ?_ | with_reducible refine bp5 ?_ | with_reducible refine bp0 ?_ | with_reducible refine bo8 ?_ | with_reducible refine bo9 ?_ | with_reducible refine bo6 ?_ | with_reducible refine bo5 ?_ | with_reducible refine bo7 ?_ | with_reducible refine ab6 ?_ | with_reducible refine bp4 ?_ | with_reducible refine bp3 ?_ | with_reducible refine bp1 ?_ | with_reducible refine bp2 ?_ | with_reducible refine af1 ?_
 | with_reducible refine a53 ?_ | with_reducible refine Y9 ?_ | with_reducible refine be7 ?_ | with_reducible refine ift ?_ | with_reducible refine N7 ?_ | with_reducible refine bf0 ?_ | with_reducible refine bv3 ?_
 | with_reducible refine bm6 ?_ | with_reducible refine a76 ?_ | with_reducible refine a73 ?_ | with_reducible refine a75 ?_ | with_reducible refine bk0 ?_ | with_reducible refine bm4 ?_ | with_reducible refine bh8 ?_)
local macro_rules | `(tactic| walk_at "w2") => `(tactic| repeat (first | walk_at "w1" | with_reducible refine az1 (by simp) ?_ | with_reducible refine am0 (by simp) ?_ | with_reducible refine m7 (a7 (by assumption)) (by with_unfolding_all rfl) ?_ | with_reducible refine A2 (a7 (by assumption)) ?_ | with_reducible refine am6 (by unfold ab8; decide) ?_))
local macro_rules | `(tactic| walk_at "w3") => `(tactic| repeat (first | walk_at "w1" | with_reducible refine az1 (by simp) ?_ | with_reducible refine am0 (by simp) ?_ | with_reducible refine m7 (a7 (by assumption)) (by with_unfolding_all rfl) ?_ | with_reducible refine A2 (a7 (by assumption)) ?_ | with_reducible refine am6 (by unfold ab8; decide) ?_ | with_reducible refine And.intro (show List.length _ <= 1000 from by simp) ?_ | with_reducible refine ag0 (by with_unfolding_all rfl) ?_ | with_reducible refine w9 ?_ | with_reducible refine K7 (by with_unfolding_all rfl) ?_))
local macro_rules | `(tactic| walk_at "w5") => `(tactic| repeat (first | walk_at "w1" | with_reducible refine aW1 ?_ | with_reducible refine bh1 ?_ | with_reducible refine a43 ?_ | with_reducible refine bo3 ?_ | with_reducible refine bi5 ?_ | with_reducible refine bi4 ?_ | with_reducible refine max2 ?_ | with_reducible refine min2 ?_ | with_reducible refine bn3 ?_ | with_reducible refine X0 ?_ | with_reducible refine bv5 ?_ | with_reducible refine bn8 ?_ | with_reducible refine az1 (by simp) ?_ | with_reducible refine am0 (by simp) ?_ | with_reducible refine m7 (a7 (by assumption)) (by with_unfolding_all rfl) ?_ | with_reducible refine A2 (a7 (by assumption)) ?_ | with_reducible refine am6 (by unfold ab8; decide) ?_ | with_reducible refine And.intro (show List.length _ <= 1000 from by simp) ?_ | with_reducible refine ag0 (by with_unfolding_all rfl) ?_ | with_reducible refine w9 ?_ | with_reducible refine K7 (by with_unfolding_all rfl) ?_ | with_reducible refine And.intro (N1 (by assumption)) ?_ | with_reducible refine And.intro (bd0 (by assumption)) ?_ | with_reducible refine And.intro (bu3 (by assumption)) ?_ | with_reducible refine J9 (by decide) ?_ | with_reducible refine bg8 (by decide) (by decide) ?_ | with_reducible refine i_n ?_))
noncomputable def t6:MDef:=⟨2,5,(.seq (.ifs (.and_ (.tst (.prim (.cmp .Lt) (.cons (.prim .ix (.cons (.var 0) (.cons (.lit (.int 2)) .nil))) (.cons (.var 1) .nil)))) (.tst (.prim (.cmp .Lt) (.cons (.prim .ix (.cons (.var 0) (.cons (.lit (.int 1)) .nil))) (.cons (.prim .len (.cons (.prim .ix (.cons (.var 0) (.cons (.lit (.int 0)) .nil))) .nil)) .nil))))) (.seq (.set 2 (.prim .ix (.cons (.prim .ix (.cons (.var 0) (.cons (.lit (.int 0)) .nil))) (.cons (.prim .ix (.cons (.var 0) (.cons (.lit (.int 1)) .nil))) .nil)))) (.seq (.setix (.var 0) (.lit (.int 1)) (.prim (.bin .Add) (.cons (.prim .ix (.cons (.var 0) (.cons (.lit (.int 1)) .nil))) (.cons (.lit (.int 1)) .nil)))) (.seq (.setix (.var 0) (.lit (.int 2)) (.lit (.int 0))) (.seq (.ifs (.tst (.prim (.cmp .GtE) (.cons (.var 2) (.cons (.prim (.bin .Pow) (.cons (.lit (.int 10)) (.cons (.lit (.int 18)) .nil))) .nil)))) (.seq (.setix (.var 0) (.lit (.int 2)) (.var 2)) .pass) (.seq (.setix (.var 0) (.lit (.int 3)) (.prim (.bin .Mod) (.cons (.prim (.bin .Add) (.cons (.prim (.bin .Add) (.cons (.prim (.bin .Mult) (.cons (.prim .ix (.cons (.var 0) (.cons (.lit (.int 3)) .nil))) (.cons (.lit (.int 48271)) .nil))) (.cons (.prim (.bin .Mult) (.cons (.prim (.bin .Mod) (.cons (.var 2) (.cons (.lit (.int 2147483629)) .nil))) (.cons (.lit (.int 69621)) .nil))) .nil))) (.cons (.lit (.int 12345)) .nil))) (.cons (.lit (.int 2147483647)) .nil)))) .pass)) .pass)))) .pass) (.seq (.ifs (.tst (.prim (.cmp .GtE) (.cons (.prim .ix (.cons (.var 0) (.cons (.lit (.int 2)) .nil))) (.cons (.var 1) .nil)))) (.seq (.set 3 (.prim (.bin .Mod) (.cons (.prim .ix (.cons (.var 0) (.cons (.lit (.int 2)) .nil))) (.cons (.var 1) .nil)))) (.seq (.setix (.var 0) (.lit (.int 2)) (.prim (.bin .FloorDiv) (.cons (.prim .ix (.cons (.var 0) (.cons (.lit (.int 2)) .nil))) (.cons (.var 1) .nil)))) (.seq (.ret (.var 3)) .pass))) .pass) (.seq (.set 4 (.prim .ix (.cons (.var 0) (.cons (.lit (.int 3)) .nil)))) (.seq (.setix (.var 0) (.lit (.int 3)) (.prim (.bin .Mod) (.cons (.prim (.bin .Add) (.cons (.prim (.bin .Add) (.cons (.prim (.bin .Mult) (.cons (.prim (.bin .Mod) (.cons (.prim (.bin .Mult) (.cons (.var 4) (.cons (.var 4) .nil))) (.cons (.lit (.int 2147483629)) .nil))) (.cons (.lit (.int 5)) .nil))) (.cons (.prim (.bin .Mult) (.cons (.var 4) (.cons (.lit (.int 16811)) .nil))) .nil))) (.cons (.lit (.int 2531011)) .nil))) (.cons (.lit (.int 2147483647)) .nil)))) (.seq (.ret (.prim (.bin .Mod) (.cons (.prim (.bin .Add) (.cons (.prim (.bin .FloorDiv) (.cons (.prim .ix (.cons (.var 0) (.cons (.lit (.int 3)) .nil))) (.cons (.lit (.int 59)) .nil))) (.cons (.prim (.bin .Mult) (.cons (.prim (.bin .Mod) (.cons (.prim .ix (.cons (.var 0) (.cons (.lit (.int 3)) .nil))) (.cons (.lit (.int 8191)) .nil))) (.cons (.lit (.int 31)) .nil))) .nil))) (.cons (.var 1) .nil)))) .pass)))))⟩
noncomputable def W3:MDef:=⟨1,2,(.seq (.set 1 (.call 4 (.cons (.var 0) (.cons (.prim (.bin .Pow) (.cons (.lit (.int 10)) (.cons (.lit (.int 9)) .nil))) .nil)))) (.seq (.ifs (.tst (.prim (.cmp .Eq) (.cons (.call 4 (.cons (.var 0) (.cons (.lit (.int 2)) .nil))) (.cons (.lit (.int 0)) .nil)))) (.seq (.set 1 (.prim (.bin .Add) (.cons (.var 1) (.cons (.prim (.bin .Pow) (.cons (.lit (.int 10)) (.cons (.lit (.int 25)) .nil))) .nil)))) .pass) .pass) (.seq (.ifs (.tst (.prim (.cmp .Eq) (.cons (.call 4 (.cons (.var 0) (.cons (.lit (.int 2)) .nil))) (.cons (.lit (.int 0)) .nil)))) (.seq (.ret (.prim (.bin .Sub) (.cons (.prim (.un .USub) (.cons (.lit (.int 1)) .nil)) (.cons (.var 1) .nil)))) .pass) .pass) (.seq (.ret (.var 1)) .pass))))⟩
structure d9(g:G)(d:Nat):Prop where
 ex:∃(s:Nat) (p b r:Int) (xs:List Int),g[d]?=some (.lst [.ref s,.int p,.int b,.int r])/\g[s]?=some (.lst (xs.map .int))/\s<d/\0<=p/\0<=b/\0<=r/\r<2147483647
structure Gr(d:Nat)(g g':G):Prop where
 len:g.length<=g'.length
 old:∀i,i≠d->i<g.length->g'[i]?=g[i]?
theorem Gr.refl(d:Nat)(g:G):Gr d g g:=⟨Nat.le_refl _,fun _ _ _=>rfl⟩
theorem Gr.trans{d:Nat}{g g1 g2:G}(a:Gr d g g1)(b:Gr d g1 g2):Gr d g g2:=⟨Nat.le_trans a.len b.len,fun i h1 h2=>(b.old i h1 (Nat.lt_of_lt_of_le h2 a.len)).trans (a.old i h1 h2)⟩
theorem Gr.set(d:Nat)(g:G)(o:O):Gr d g (g.set d o):=⟨by simp,fun i h1 h2=>List.getElem?_set_ne (Ne.symm h1)⟩
theorem Gr.snoc(d:Nat)(g:G)(o:O):Gr d g (g++[o]):=⟨by simp,fun i h1 h2=>List.getElem?_append_left h2⟩
theorem Gr.at{d:Nat}{g g':G}(h:Gr d g g'){i:Nat}{o:O}(hi:i≠d)(e:g[i]?=some o):g'[i]?=some o:=(h.old i hi (List.getElem?_eq_some_iff.mp e).1).trans e
theorem m8{g:G}{i:Nat}{o:O}(h:g[i]?=some o):i<g.length:=(List.getElem?_eq_some_iff.mp h).1
theorem d9.lt{g:G}{d:Nat}(h:d9 g d):d<g.length:=let ⟨_,_,_,_,_,e,_⟩:=h.ex;m8 e
theorem d9.snoc{g:G}{d:Nat}(h:d9 g d)(o:O):d9 (g++[o]) d:=by
 obtain⟨s,p,b,r,xs,e1,e2,q⟩:=h.ex;exact⟨s,p,b,r,xs,by rw[List.getElem?_append_left (m8 e1)];exact e1,by rw[List.getElem?_append_left (m8 e2)];exact e2,q⟩
noncomputable def d7:MS->MS
 |.seq _ b=>b
 |x=>x
theorem as2{i j:Int}(h1:-(2 ^ 64)<i)(h2:i<2 ^ 64):U6 i j:=.inl ⟨h1,h2⟩
theorem R0{i j:Int}(h1:-(2 ^ 64)<j)(h2:j<2 ^ 64):U6 i j:=.inr ⟨h1,h2⟩
theorem aF0{P:Sig}{d:Nat}{n:Int}{g:G}{Q:KD}{E:KX}{N:Ends}{c2:Option D}(hN:N.rt=Q)(D0:d9 g d)(hn:0<n)(hn2:n<1073741824)(h:∀r g',0<=r->r<n->d9 g' d->Gr d g g'->Q (.int r) g'):wpS P (d7 t6.body) N [some (.ref d),some (.int n),c2,none,none] g E:=by
 obtain⟨s,p,b,r,xs,e1,e2,hsd,hp,hb,hr,hr2⟩:=D0.ex;have hlt:=m8 e1;subst hN;dsimp[t6,d7];walk_at "w2";refine if2 (fun c=>?_) (fun c=>?_)
 ·walk_at "w2";refine J9 hn ?_;walk_at "w2";refine am7 ⟨hn,hn2⟩ ?_;walk_at "w2";refine L3 e1 (by with_unfolding_all rfl) ?_;walk_at "w2";refine h _ _ (Int.emod_nonneg _ (by omega)) (Int.emod_lt_of_pos _ hn) ⟨s,p,b / n,r,xs,?_,?_,hsd,hp,Int.ediv_nonneg hb (by omega),hr,hr2⟩ (Gr.set d g _)
  ·rw[List.getElem?_set_self hlt];rfl
  ·rw[List.getElem?_set_ne (Nat.ne_of_gt hsd)];exact e2
 ·walk_at "w2";have r64:-(2 ^ 64)<r/\r<2 ^ 64:=⟨by omega,by omega⟩
  refine E8 (as2 r64.1 r64.2) ?_;walk_at "w2";refine J9 (by decide) ?_;walk_at "w2";refine E8 (R0 (by decide) (by decide)) ?_;walk_at "w2";refine E8 (R0 (by decide) (by decide)) ?_;walk_at "w2";refine J9 (by decide) ?_;walk_at "w2";refine L3 e1 (by with_unfolding_all rfl) ?_;generalize hr':(r*r % 2147483629*5+r*16811+2531011) % 2147483647=r';have q0:0<=r':=by rw[<- hr'];exact Int.emod_nonneg _ (by decide)
  have q1:r'<2147483647:=by rw[<- hr'];exact Int.emod_lt_of_pos _ (by decide)
  have e1':(g.set d (.lst [.ref s,.int p,.int b,.int r']))[d]?=some (.lst [.ref s,.int p,.int b,.int r']):=List.getElem?_set_self hlt;show wpS P _ _ _ (g.set d (.lst [.ref s,.int p,.int b,.int r'])) E;walk_at "w2";refine am7 ⟨by decide,by decide⟩ ?_;walk_at "w2";refine J9 (by decide) ?_;walk_at "w2";refine E8 (R0 (by decide) (by decide)) ?_;walk_at "w2";refine J9 hn ?_;walk_at "w2";refine h _ _ (Int.emod_nonneg _ (by omega)) (Int.emod_lt_of_pos _ hn) ⟨s,p,b,r',xs,e1',?_,hsd,hp,hb,q0,q1⟩ (Gr.set d g _);rw[List.getElem?_set_ne (Nat.ne_of_gt hsd)];exact e2
theorem c9{T:Nat->Option MDef}(hT:T 4=some t6){k d:Nat}{n:Int}{g:G}{Q:KD}{E:KX}(D0:d9 g d)(hn:0<n)(hn2:n<1073741824)(h:∀r g',0<=r->r<n->d9 g' d->Gr d g g'->Q (.int r) g'):b8 T (k+1) 4 [.ref d,.int n] g Q E:=by
 obtain⟨s,p,b,r,xs,e1,e2,hsd,hp,hb,hr,hr2⟩:=D0.ex;have hlt:=m8 e1;refine call_of hT rfl ?_;have tail:∀(g':G) (c2:Option D),d9 g' d->Gr d g g'->wpS (b8 T k) (d7 t6.body) ⟨fun _ g'=>Q .non g',Q,fun _ _=>False,fun _ _=>False⟩ [some (.ref d),some (.int n),c2,none,none] g' E :=
  fun g' c2 D1 gr=>aF0 rfl D1 hn hn2 fun r g2 a b c e=>h r g2 a b c (gr.trans e)
 dsimp[t6,d5,List.replicate];walk_at "w2";refine if2 (fun c=>?_) (fun c=>?_)
 ·walk_at "w2";refine if2 (fun c'=>?_) (fun c'=>?_)
  ·walk_at "w2";have hp':p.toNat<xs.length:=by
    rw[List.length_map] at c';omega
   have ea:atI (xs.map D.int) p=some (.int xs[p.toNat]):=by
    have:=o6 (xs:=xs.map D.int) (j:=p.toNat) (v:=.int xs[p.toNat]) (by rw[List.getElem?_map,List.getElem?_eq_getElem hp'];rfl)
    rwa [show((p.toNat:Nat):Int)=p by omega] at this
   refine m7 (a7 e2) ea ?_;generalize xs[p.toNat]=cell;walk_at "w2";refine L3 e1 (by with_unfolding_all rfl) ?_;have f1:(g.set d (.lst [.ref s,.int (p+1),.int b,.int r]))[d]?=some (.lst [.ref s,.int (p+1),.int b,.int r]):=List.getElem?_set_self hlt;show wpS (b8 T k) _ _ _ (g.set d (.lst [.ref s,.int (p+1),.int b,.int r])) E;walk_at "w2";refine L3 f1 (by with_unfolding_all rfl) ?_;rw[List.set_set];have f2:(g.set d (.lst [.ref s,.int (p+1),.int 0,.int r]))[d]?=some (.lst [.ref s,.int (p+1),.int 0,.int r]):=List.getElem?_set_self hlt;show wpS (b8 T k) _ _ _ (g.set d (.lst [.ref s,.int (p+1),.int 0,.int r])) E;walk_at "w2";refine if2 (fun c2=>?_) (fun c2=>?_)
   ·walk_at "w2";refine L3 f2 (by with_unfolding_all rfl) ?_;rw[List.set_set];refine tail _ _ ⟨s,p+1,cell,r,xs,List.getElem?_set_self hlt,by rw[List.getElem?_set_ne (Nat.ne_of_gt hsd)];exact e2,hsd,by omega,?_,hr,hr2⟩ (Gr.set d g _);have:(10:Int) ^ (18:Int).toNat<=cell:=c2;have h10:(0:Int)<=10 ^ (18:Int).toNat:=by decide
    omega
   ·walk_at "w2";refine E8 (R0 (by decide) (by decide)) ?_;walk_at "w2";refine J9 (by decide) ?_;walk_at "w2";refine E8 (R0 (by decide) (by decide)) ?_;walk_at "w2";refine J9 (by decide) ?_;walk_at "w2";refine L3 f2 (by with_unfolding_all rfl) ?_;rw[List.set_set];exact tail _ _ ⟨s,p+1,0,_,xs,List.getElem?_set_self hlt,by rw[List.getElem?_set_ne (Nat.ne_of_gt hsd)];exact e2,hsd,by omega,by decide,Int.emod_nonneg _ (by decide),Int.emod_lt_of_pos _ (by decide)⟩ (Gr.set d g _)
  ·walk_at "w1";exact tail _ _ D0 (Gr.refl _ _)
 ·walk_at "w1";walk_at "w1";exact tail _ _ D0 (Gr.refl _ _)
theorem aJ1{T:Nat->Option MDef}(hT:T 4=some t6)(hT5:T 5=some W3){k d:Nat}{g:G}{Q:KD}{E:KX}(D0:d9 g d)(h:∀r g',d9 g' d->Gr d g g'->Q (.int r) g'):b8 T (k+2) 5 [.ref d] g Q E:=by
 refine call_of hT5 rfl ?_;dsimp[W3,d5,List.replicate];walk_at "w2";refine c9 hT D0 (by decide) (by decide) fun r1 g1 _ _ D1 G1=>?_;walk_at "w2";refine c9 hT D1 (by decide) (by decide) fun r2 g2 _ _ D2 G2=>?_;walk_at "w2";have G12:=G1.trans G2;have last:∀(x:Int),wpS (b8 T (k+1)) (d7 (d7 W3.body)) ⟨fun _ g'=>Q .non g',Q,fun _ _=>False,fun _ _=>False⟩ [some (.ref d),some (.int x)] g2 E:=fun x=>by
  dsimp[W3,d7];walk_at "w2";refine c9 hT D2 (by decide) (by decide) fun r3 g3 _ _ D3 G3=>?_;walk_at "w2";refine if2 (fun c=>?_) (fun c=>?_)
  ·walk_at "w2";exact h _ _ D3 (G12.trans G3)
  ·walk_at "w2";exact h _ _ D3 (G12.trans G3)
 refine if2 (fun c=>?_) (fun c=>?_)
 ·refine ab9 ?_;refine ax8 ?_;refine aa3 ?_;walk_at "w1";refine aa3 ?_;walk_at "w1";walk_at "w1";refine am6 (by unfold ab8;decide) ?_;walk_at "w1";exact last _
 ·exact last _
noncomputable def W0:MDef:=⟨1,1,(.seq (.ret (.and_ (.prim .isin (.cons (.var 0) (.cons (.lit (.ty "int")) .nil))) (.not_ (.prim .isin (.cons (.var 0) (.cons (.lit (.ty "bool")) .nil)))))) .pass)⟩
noncomputable def P2:MDef:=⟨3,3,(.seq (.ret (.and_ (.call 38 (.cons (.var 0) .nil)) (.chain .LtE .LtE (.var 1) (.var 0) (.var 2)))) .pass)⟩
structure NF(T:Nat->Option MDef):Prop where
 nf:T 1=some P2
 is:T 38=some W0
noncomputable def v9:MDef:=⟨1,3,(.seq (.set 1 (.lit (.int 0))) (.seq (.for_ (.one 2) (.itE (.var 0)) (.seq (.ifs (.not_ (.tst (.call 1 (.cons (.var 2) (.cons (.var 1) (.cons (.lit (.int 7)) .nil)))))) (.seq (.ret (.lit (.bl false))) .pass) .pass) (.seq (.set 1 (.prim (.bin .Add) (.cons (.var 2) (.cons (.lit (.int 1)) .nil)))) .pass))) (.seq (.ret (.lit (.bl true))) .pass)))⟩
noncomputable def am1:MDef:=⟨1,1,(.seq (.ret (.prim .lst (.cons (.prim .list (.cons (.prim (.slc false true) (.cons (.var 0) (.cons (.lit (.int 63)) .nil))) .nil)) (.cons (.lit (.int 0)) (.cons (.lit (.int 0)) (.cons (.lit (.int 29)) .nil)))))) .pass)⟩
noncomputable def ap7:MDef:=⟨1,1,(.seq (.ret (.and_ (.prim .isin (.cons (.var 0) (.cons (.lit (.ty "int")) .nil))) (.not_ (.prim .isin (.cons (.var 0) (.cons (.lit (.ty "bool")) .nil)))))) .pass)⟩
noncomputable def v8:MDef:=⟨2,2,(.seq (.ifs (.tst (.prim (.cmp .Is) (.cons (.var 1) (.cons (.lit .non) .nil)))) (.seq (.ret (.prim (.cmp .Is) (.cons (.var 0) (.cons (.lit .non) .nil)))) .pass) .pass) (.seq (.ifs (.tst (.prim .isin (.cons (.var 1) (.cons (.lit (.ty "bool")) .nil)))) (.seq (.ret (.and_ (.prim .isin (.cons (.var 0) (.cons (.lit (.ty "bool")) .nil))) (.prim (.cmp .Eq) (.cons (.var 0) (.cons (.var 1) .nil))))) .pass) .pass) (.seq (.ifs (.tst (.prim .isin (.cons (.var 1) (.cons (.lit (.ty "int")) .nil)))) (.seq (.ret (.and_ (.call 6 (.cons (.var 0) .nil)) (.prim (.cmp .Eq) (.cons (.var 0) (.cons (.var 1) .nil))))) .pass) .pass) (.seq (.ifs (.tst (.prim .isin (.cons (.var 1) (.cons (.lit (.ty "str")) .nil)))) (.seq (.ret (.and_ (.prim .isin (.cons (.var 0) (.cons (.lit (.ty "str")) .nil))) (.prim (.cmp .Eq) (.cons (.var 0) (.cons (.var 1) .nil))))) .pass) .pass) (.seq (.ifs (.or_ (.tst (.prim (.cmp .NotEq) (.cons (.prim .isin (.cons (.var 1) (.cons (.lit (.ty "tuple")) .nil))) (.cons (.prim .isin (.cons (.var 0) (.cons (.lit (.ty "tuple")) .nil))) .nil)))) (.tst (.prim (.cmp .NotEq) (.cons (.prim .isin (.cons (.var 1) (.cons (.lit (.ty "list")) .nil))) (.cons (.prim .isin (.cons (.var 0) (.cons (.lit (.ty "list")) .nil))) .nil))))) (.seq (.ret (.lit (.bl false))) .pass) .pass) (.seq (.ifs (.tst (.prim (.cmp .NotEq) (.cons (.prim .len (.cons (.var 0) .nil)) (.cons (.prim .len (.cons (.var 1) .nil)) .nil)))) (.seq (.ret (.lit (.bl false))) .pass) .pass) (.seq (.ret (.prim .all (.cons (.comp [1,0] 4 (.one 3) (.itR1 (.prim .len (.cons (.var 1) .nil))) .no (.call 7 (.cons (.prim .ix (.cons (.var 1) (.cons (.var 3) .nil))) (.cons (.prim .ix (.cons (.var 0) (.cons (.var 3) .nil))) .nil)))) .nil))) .pass)))))))⟩
noncomputable def F9:MDef:=⟨1,1,(.seq (.ret (.prim (.cmp .Eq) (.cons (.prim .list (.cons (.var 0) .nil)) (.cons (.comp [0] 3 (.one 2) (.itR1 (.lit (.int 8))) (.tst (.prim (.cmp .In) (.cons (.var 2) (.cons (.var 0) .nil)))) (.var 2)) .nil)))) .pass)⟩
theorem K3{g:G}{n:Nat}:∀ms:List Int,(ms.map D.int).mapM (rd g n)=some (ms.map PyData.int)
 |[]=>rfl
 |m::r=>by
  rw[List.map_cons,List.mapM_cons,K3 r];cases n<;>rfl
theorem lay_ints:∀ms:List Int,PyData.canLayAll0 (ms.map PyData.int)=true
 |[]=>by simp[PyData.canLayAll0]
 |m::r=>by simp[PyData.canLayAll0,PyData.canLay0,lay_ints r]
theorem P7:∀ms ns:List Int,PyData.eqvAll (ms.map PyData.int) (ns.map PyData.int)=decide (ms=ns)
 |[],[]=>by simp[PyData.eqvAll]
 |[],_::_=>by simp[PyData.eqvAll]
 |_::_,[]=>by simp[PyData.eqvAll]
 |m::r,n::q=>by
  simp only[List.map_cons,PyData.eqvAll,PyData.eqv,P7 r q];by_cases h:m=n
  ·subst h;simp
  ·simp[h]
theorem aj7{g:G}{ms:List Int}{i:Int}{k:Bool->Prop}(h:k (ms.any fun m=>m==i)):inP g (.int i) (.tup (ms.map .int)) k:=by
 refine⟨_,.inr ⟨_,_,_,rfl,K3 ms,rfl,lay_ints ms,by simp[PyData.canLay0],rfl⟩,?_⟩;rw[List.any_map];exact h
theorem aJ4{g:G}{a b:Nat}{ms ns:List Int}{k:Bool->Prop}(ha:d4 g a=some (ms.map .int))(hb:d4 g b=some (ns.map .int))(h:k (decide (ms=ns))):eqP g (.ref a) (.ref b) k:=by
 refine⟨_,.inr (.inr (.inr ⟨.list (ms.map .int),.list (ns.map .int),?_,?_,?_,?_,rfl⟩)),?_⟩
 ·simp only[rd];rw[ha];dsimp only;rw[K3];rfl
 ·simp only[rd];rw[hb];dsimp only;rw[K3];rfl
 ·simp[PyData.canLay0,lay_ints]
 ·simp[PyData.canLay0,lay_ints]
 ·simp only[PyData.eqv,P7];exact h
section
variable{T:Nat->Option MDef}{k d:Nat}{g:G}{Q:KD}{E:KX}
theorem aq6(h1:NF T){i:Int}(h:Q (.bl true) g):b8 T (k+1) 38 [.int i] g Q E:=by
 refine call_of h1.is rfl ?_;dsimp[W0,d5,List.replicate];walk_at "w2";refine isi (c:="int") (b:=true) (by decide) rfl ?_;walk_at "w2";refine isi (c:="bool") (b:=false) (by decide) rfl ?_;walk_at "w2";exact h
theorem A9(h1:NF T){i l m:Int}(h:Q (.bl (decide (l<=i)&&decide (i<=m))) g):b8 T (k+2) 1 [.int i,.int l,.int m] g Q E:=by
 refine call_of h1.nf rfl ?_;dsimp[P2,d5,List.replicate];walk_at "w2";refine aq6 h1 ?_;walk_at "w2";refine if2 (fun c=>?_) (fun c=>?_)
 ·rw[decide_eq_true c] at h;walk_at "w2";exact h
 ·rw[decide_eq_false c] at h;exact h
noncomputable def gm:Int->List Int->Bool
 |_,[]=>true
 |l,x::r=>(decide (l<=x)&&decide (x<=7))&&gm (x+1) r
theorem U8(h1:NF T)(h2:T 2=some v9){ms:List Int}(h:Q (.bl (gm 0 ms)) g):b8 T (k+3) 2 [.tup (ms.map .int)] g Q E:=by
 refine call_of h2 rfl ?_;dsimp[v9,d5,List.replicate];walk_at "w2";refine A7 (b0 T _) (i_t (b0 T _) ?_);walk_at "w2";refine⟨_,rfl,_,fun i σ g'=>g'=g/\∃(l:Int) (z:Option D),σ=[some (.tup (ms.map .int)),some (.int l),z]/\gm 0 ms=gm l (ms.drop i),fun _ _ _ _=>p7,⟨rfl,0,none,rfl,rfl⟩,fun i x σ g' hx p=>?_,fun σ g' p=>?_⟩
 ·obtain⟨rfl,l,z,rfl,e⟩:=p;rw[List.getElem?_map] at hx;cases em:ms[i]? with
  |none=>rw[em] at hx;cases hx
  |some m =>
   rw[em] at hx;cases hx;have hi:=(List.getElem?_eq_some_iff.mp em).1;have ed:ms.drop i=m::ms.drop (i+1):=by
    rw[List.drop_eq_getElem_cons hi]
    congr 1
    exact(List.getElem?_eq_some_iff.mp em).2
   rw[ed] at e;simp only[gm] at e;show wpS _ _ _ _ _ _;walk_at "w2";refine A9 h1 ?_;walk_at "w2";cases hc:(decide (l<=m)&&decide (m<=7)) with
   |true =>
    rw[hc,Bool.true_and] at e;show wpS _ _ _ _ _ _;walk_at "w2";exact⟨rfl,m+1,some (.int m),rfl,e⟩
   |false =>
    rw[hc,Bool.false_and] at e;rw[e] at h;show wpS _ _ _ _ _ _;walk_at "w2";exact h
 ·obtain⟨rfl,l,z,rfl,e⟩:=p;rw[List.drop_eq_nil_of_le (by simp)] at e;simp only[gm] at e;rw[e] at h;show wpS _ _ _ _ _ _;walk_at "w2";exact h
theorem a06(h3:T 3=some am1){a:Nat}{ns:List Int}(hg:g[a]?=some (.fro (ns.map .int)))(h:∀d g',d9 g' d->g.length<=d->(∀i,i<g.length->g'[i]?=g[i]?)->Q (.ref d) g'):b8 T (k+1) 3 [.ref a] g Q E:=by
 refine call_of h3 rfl ?_;dsimp[am1,d5,List.replicate];walk_at "w2";refine ac9 (aI3 hg) ?_;walk_at "w2";refine aA3 (l:=cut (ns.map D.int) none (some 63)) (a7 (by simp)) ?_;walk_at "w2";have ec:cut (ns.map D.int) none (some 63)=(cut ns none (some 63)).map D.int:=by
  unfold cut;simp[List.map_take,List.map_drop]
 refine h _ _ ⟨g.length+1,0,0,29,cut ns none (some 63),?_,?_,?_,by decide,by decide,by decide,by decide⟩ (by simp) (fun i hi=>?_)
 ·simp
 ·rw[<- ec];simp
 ·simp
 ·simp[List.getElem?_append,hi,Nat.lt_of_lt_of_le hi (by omega:g.length<=g.length+1),Nat.lt_of_lt_of_le hi (by omega:g.length<=g.length+1+1)]
theorem Z8(h8:T 8=some F9){ms:List Int}(h:∀g',Gr d g g'->(d9 g d->d9 g' d)->Q (.bl (decide (ms=((List.range 8).map fun(n:Nat)=>(n:Int)).filter fun s=>ms.any fun m=>m==s))) g'):b8 T (k+1) 8 [.tup (ms.map .int)] g Q E:=by
 refine call_of h8 rfl ?_;dsimp[F9,d5,List.replicate];walk_at "w2";refine ac1 (b0 T _) ?_;walk_at "w2";refine⟨8,rfl,by decide,fun i ys σ g'=>g'=g++[.lst (ms.map .int)]/\ys.length<=i/\(∃z w,σ=[some (.tup (ms.map .int)),z,w])/\ys=((((List.range i).map fun(n:Nat)=>(n:Int)).filter fun s=>ms.any fun m=>m==s).map D.int),⟨rfl,by simp,⟨none,none,rfl⟩,rfl⟩,fun i ys σ g' p=>p.2.1,fun i ys σ g' hi p=>?_,fun ys σ g' p=>?_⟩
 ·obtain⟨rfl,hl,⟨z,w,rfl⟩,e⟩:=p;show wpT _ _ _ _ _ _;walk_at "w2";refine bg4 (aj7 ?_);walk_at "w2";have er:(List.range (i+1)).map (fun(n:Nat)=>(n:Int))=(List.range i).map (fun(n:Nat)=>(n:Int))++[(i:Int)]:=by rw[List.range_succ];simp
  cases hc:(ms.any fun m=>m==(i:Int)) with
  |true =>
   refine ift ?_;walk_at "w2";refine⟨rfl,by simp;omega,⟨_,_,rfl⟩,?_⟩;rw[er,List.filter_append,List.map_append,<- e];simp[hc]
  |false =>
   refine N7 ?_;refine⟨rfl,by omega,⟨_,_,rfl⟩,?_⟩;rw[er,List.filter_append,List.map_append,<- e];simp[hc]
 ·obtain⟨rfl,hl,_,e⟩:=p;rw[e];refine aC1 (aJ4 (ms:=ms) (a7 (by simp)) (a7 (by simp;rfl)) ?_);exact h _ ((Gr.snoc d g _).trans (Gr.snoc d _ _)) fun D0=>(D0.snoc _).snoc _
end
theorem ah3{α β:Type}(f:α->β)(l:List α)(lo hi:Option Int):cut (l.map f) lo hi=(cut l lo hi).map f:=by
 unfold cut;simp[List.map_take,List.map_drop]
theorem ax2{α:Type}(l:List α)(lo hi:Option Int):(cut l lo hi).length<=l.length:=by
 unfold cut;rw[List.length_take,List.length_drop];omega
theorem aA9:∀{ms:List Int} {l:Int},ms.Pairwise (· < ·)->(∀m∈ms,l<=m/\m<=7)->gm l ms=true
 |[],_,_,_=>rfl
 |m::r,l,hp,h=>by
  obtain⟨h1,h2⟩:=List.pairwise_cons.mp hp;have hm:=h m (by simp);simp only[gm];rw[decide_eq_true hm.1,decide_eq_true hm.2,aA9 h2 fun x hx=>⟨by have:=h1 x hx;omega,(h x (by simp[hx])).2⟩]
  rfl
theorem t4{α:Type}{l:List α}{r:Int}(h0:0<=r)(h1:r<l.length):∃v,atI l r=some v/\v∈l:=by
 have hi:r.toNat<l.length:=by omega
 refine⟨l[r.toNat],?_,List.getElem_mem hi⟩;have:=o6 (xs:=l) (j:=r.toNat) (v:=l[r.toNat]) (List.getElem?_eq_getElem hi)
 rwa [show((r.toNat:Nat):Int)=r by omega] at this
section
variable{T:Nat->Option MDef}{k d:Nat}{g:G}{Q:KD}{E:KX}
theorem aw3(h7:T 7=some v8){a b:Bool}(h:Q (.bl (a==b)) g):b8 T (k+1) 7 [.bl a,.bl b] g Q E:=by
 refine call_of h7 rfl ?_;dsimp[v8,d5,List.replicate];walk_at "w2";walk_at "w2";refine isi (c:="bool") (b:=true) (by decide) rfl ?_;walk_at "w2";refine isi (c:="bool") (b:=true) (by decide) rfl ?_;walk_at "w2";exact h
end
theorem aj2(ms:List Int):gm 0 ms=decide (ms=((List.range 8).map fun(n:Nat)=>(n:Int)).filter fun s=>ms.any fun m=>m==s):=by
 rw[Bool.eq_iff_iff,decide_eq_true_iff];constructor
 ·intro h;have key:∀(ms:List Int) (l:Int),gm l ms=true->ms.Pairwise (· < ·)/\∀m∈ms,l<=m/\m<=7:=by
   intro ms
   induction ms with
   |nil=>intro l _;exact⟨List.Pairwise.nil,by simp⟩
   |cons m r ih =>
    intro l h;simp only[gm,Bool.and_eq_true,decide_eq_true_eq] at h;obtain⟨⟨h1,h2⟩,h3⟩:=h;obtain⟨p1,p2⟩:=ih (m+1) h3;refine⟨List.pairwise_cons.mpr ⟨fun x hx=>by have:=p2 x hx;omega,p1⟩,fun x hx=>?_⟩;rcases List.mem_cons.mp hx with z|z
    ·subst z;exact⟨h1,h2⟩
    ·have:=p2 x z;omega
  obtain⟨p1,p2⟩:=key ms 0 h;have uniq:∀(xs ys:List Int),xs.Pairwise (· < ·)->ys.Pairwise (· < ·)->(∀z,z∈xs↔z∈ys)->xs=ys:=by
   intro xs
   induction xs with
   |nil =>
    intro ys _ _ h;cases ys with
    |nil=>rfl
    |cons y r=>exact absurd ((h y).mpr (by simp)) (by simp)
   |cons x xs ih =>
    intro ys hx hy h;cases ys with
    |nil=>exact absurd ((h x).mp (by simp)) (by simp)
    |cons y ys =>
     obtain⟨a1,a2⟩:=List.pairwise_cons.mp hx;obtain⟨b1,b2⟩:=List.pairwise_cons.mp hy;have exy:x=y:=by
      rcases List.mem_cons.mp ((h x).mp (by simp)) with z|z
      ·exact z
      ·rcases List.mem_cons.mp ((h y).mpr (by simp)) with w|w
       ·exact w.symm
       ·have:=b1 x z;have:=a1 y w;omega
     subst exy
     congr 1
     refine ih ys a2 b2 fun z=>⟨fun hz=>?_,fun hz=>?_⟩
     ·rcases List.mem_cons.mp ((h z).mp (by simp[hz])) with w|w
      ·subst w;exact absurd (a1 z hz) (by omega)
      ·exact w
     ·rcases List.mem_cons.mp ((h z).mpr (by simp[hz])) with w|w
      ·subst w;exact absurd (b1 z hz) (by omega)
      ·exact w
  refine uniq _ _ p1 ?_ fun z=>?_
  ·refine List.Pairwise.filter _ ?_
   decide
  ·simp only[List.mem_filter,List.any_eq_true,beq_iff_eq,exists_eq_right,List.mem_map,List.mem_range];refine⟨fun hz=>⟨⟨z.toNat,by have:=p2 z hz;omega,by have:=p2 z hz;omega⟩,hz⟩,fun hz=>hz.2⟩
 ·intro h;rw[h];refine aA9 ?_ fun m hm=>?_
  ·refine List.Pairwise.filter _ ?_
   decide
  ·obtain⟨hm,_⟩:=List.mem_filter.mp hm;obtain⟨n,hn,rfl⟩:=List.mem_map.mp hm;have:=List.mem_range.mp hn;omega
noncomputable def q8:MDef:=⟨1,8,(.seq (.unp (.many [1,2,3,4,5]) (.var 0)) (.seq (.set 6 (.and_ (.call 1 (.cons (.var 1) (.cons (.lit (.int 1)) (.cons (.lit (.int 99)) .nil)))) (.call 2 (.cons (.var 2) .nil)))) (.seq (.set 7 (.and_ (.call 1 (.cons (.var 3) (.cons (.lit (.int 1)) (.cons (.lit (.int 99)) .nil)))) (.call 2 (.cons (.var 4) .nil)))) (.seq (.ret (.and_ (.var 6) (.and_ (.var 7) (.call 1 (.cons (.var 5) (.cons (.lit (.int 0)) (.cons (.lit (.int 9999)) .nil))))))) .pass))))⟩
noncomputable def C6:MDef:=⟨1,1,(.seq (.ifs (.or_ (.not_ (.tst (.chain .LtE .LtE (.lit (.int 1)) (.prim .ix (.cons (.var 0) (.cons (.lit (.int 0)) .nil))) (.lit (.int 99))))) (.or_ (.not_ (.tst (.chain .LtE .LtE (.lit (.int 1)) (.prim .ix (.cons (.var 0) (.cons (.lit (.int 2)) .nil))) (.lit (.int 99))))) (.not_ (.tst (.chain .LtE .LtE (.lit (.int 0)) (.prim .ix (.cons (.var 0) (.cons (.lit (.int 4)) .nil))) (.lit (.int 9999))))))) (.seq (.ret (.lit (.bl false))) .pass) .pass) (.seq (.ret (.and_ (.call 8 (.cons (.prim .ix (.cons (.var 0) (.cons (.lit (.int 1)) .nil))) .nil)) (.call 8 (.cons (.prim .ix (.cons (.var 0) (.cons (.lit (.int 3)) .nil))) .nil)))) .pass))⟩
noncomputable def K4:MDef:=⟨2,10,(.seq (.set 2 (.call 4 (.cons (.var 0) (.cons (.lit (.int 12)) .nil)))) (.seq (.unp (.many [3,4,5,6,7]) (.var 1)) (.seq (.set 8 (.prim .ix (.cons (.prim .lst (.cons (.prim .tup (.cons (.lit (.int 1)) (.cons (.lit (.int 0)) .nil))) (.cons (.prim .tup (.cons (.lit (.int 3)) (.cons (.lit (.int 3)) .nil))) (.cons (.prim .tup (.cons (.lit (.int 8)) .nil)) (.cons (.prim .tup (.cons (.prim (.un .USub) (.cons (.lit (.int 1)) .nil)) (.cons (.lit (.int 2)) .nil))) (.cons (.prim .tup (.cons (.lit (.int 0)) (.cons (.lit (.int 9)) .nil))) (.cons (.prim .tup (.cons (.lit (.int 7)) (.cons (.prim (.bin .Pow) (.cons (.lit (.int 10)) (.cons (.lit (.int 20)) .nil))) .nil))) .nil))))))) (.cons (.call 4 (.cons (.var 0) (.cons (.lit (.int 6)) .nil))) .nil)))) (.seq (.set 9 (.prim .ix (.cons (.prim .lst (.cons (.lit (.int 0)) (.cons (.lit (.int 100)) (.cons (.prim (.un .USub) (.cons (.lit (.int 1)) .nil)) (.cons (.call 5 (.cons (.var 0) .nil)) .nil))))) (.cons (.call 4 (.cons (.var 0) (.cons (.lit (.int 4)) .nil))) .nil)))) (.seq (.ifs (.tst (.prim (.cmp .Eq) (.cons (.var 2) (.cons (.lit (.int 0)) .nil)))) (.seq (.ret (.prim .tup (.cons (.var 9) (.cons (.var 4) (.cons (.var 5) (.cons (.var 6) (.cons (.var 7) .nil))))))) .pass) .pass) (.seq (.ifs (.tst (.prim (.cmp .Eq) (.cons (.var 2) (.cons (.lit (.int 1)) .nil)))) (.seq (.ret (.prim .tup (.cons (.var 3) (.cons (.var 8) (.cons (.var 5) (.cons (.var 6) (.cons (.var 7) .nil))))))) .pass) .pass) (.seq (.ifs (.tst (.prim (.cmp .Eq) (.cons (.var 2) (.cons (.lit (.int 2)) .nil)))) (.seq (.ret (.prim .tup (.cons (.var 3) (.cons (.var 4) (.cons (.var 9) (.cons (.var 6) (.cons (.var 7) .nil))))))) .pass) .pass) (.seq (.ifs (.tst (.prim (.cmp .Eq) (.cons (.var 2) (.cons (.lit (.int 3)) .nil)))) (.seq (.ret (.prim .tup (.cons (.var 3) (.cons (.var 4) (.cons (.var 5) (.cons (.var 8) (.cons (.var 7) .nil))))))) .pass) .pass) (.seq (.ifs (.tst (.prim (.cmp .Eq) (.cons (.var 2) (.cons (.lit (.int 4)) .nil)))) (.seq (.ret (.prim .tup (.cons (.var 3) (.cons (.var 4) (.cons (.var 5) (.cons (.var 6) (.cons (.prim .ix (.cons (.prim .lst (.cons (.prim (.un .USub) (.cons (.lit (.int 1)) .nil)) (.cons (.lit (.int 10000)) (.cons (.lit (.int 9999)) (.cons (.call 5 (.cons (.var 0) .nil)) .nil))))) (.cons (.call 4 (.cons (.var 0) (.cons (.lit (.int 4)) .nil))) .nil))) .nil))))))) .pass) .pass) (.seq (.ret (.var 1)) .pass))))))))))⟩
structure a8 where
 lo:Int
 lm:List Int
 up:Int
 um:List Int
 yr:Int
noncomputable def a8.d(c:a8):D:=.tup [.int c.lo,.tup (c.lm.map .int),.int c.up,.tup (c.um.map .int),.int c.yr]
noncomputable def j7(c:a8):Bool:=((decide (1<=c.lo)&&decide (c.lo<=99))&&gm 0 c.lm)&&(((decide (1<=c.up)&&decide (c.up<=99))&&gm 0 c.um)&&(decide (0<=c.yr)&&decide (c.yr<=9999)))
section
variable{T:Nat->Option MDef}{k d:Nat}{g:G}{Q:KD}{E:KX}
theorem aq8(h1:NF T)(h2:T 2=some v9)(h12:T 12=some q8){c:a8}(h:Q (.bl (j7 c)) g):b8 T (k+4) 12 [c.d] g Q E:=by
 refine call_of h12 rfl ?_;dsimp[q8,d5,List.replicate,a8.d];walk_at "w3";refine A9 h1 ?_;have s1:∀b:Bool,b=((decide (1<=c.lo)&&decide (c.lo<=99))&&gm 0 c.lm)->wpS (b8 T (k+3)) (d7 (d7 q8.body)) ⟨fun _ g'=>Q .non g',Q,fun _ _=>False,fun _ _=>False⟩ [some c.d,some (.int c.lo),some (.tup (c.lm.map .int)),some (.int c.up),some (.tup (c.um.map .int)),some (.int c.yr),some (.bl b),none] g E:=by
  intro b hb;dsimp[q8,d7];walk_at "w3";refine A9 h1 ?_;have s2:∀b':Bool,b'=((decide (1<=c.up)&&decide (c.up<=99))&&gm 0 c.um)->wpS (b8 T (k+3)) (d7 (d7 (d7 q8.body))) ⟨fun _ g'=>Q .non g',Q,fun _ _=>False,fun _ _=>False⟩ [some c.d,some (.int c.lo),some (.tup (c.lm.map .int)),some (.int c.up),some (.tup (c.um.map .int)),some (.int c.yr),some (.bl b),some (.bl b')] g E:=by
   intro b' hb';dsimp[q8,d7];have e:j7 c=(b&&(b'&&(decide (0<=c.yr)&&decide (c.yr<=9999)))):=by unfold j7;rw[hb,hb']
   rw[e] at h;walk_at "w3";cases b
   ·exact N7 h
   ·refine ift ?_;walk_at "w3";cases b'
    ·exact N7 h
    ·refine ift ?_;walk_at "w3";exact A9 h1 h
  refine Y9 ?_;cases hc:(decide (1<=c.up)&&decide (c.up<=99)) with
  |false=>exact N7 (s2 false (by rw[hc];rfl))
  |true =>
   refine ift ?_;walk_at "w1";walk_at "w1";walk_at "w1";walk_at "w1";exact U8 h1 h2 (s2 _ (by rw[hc];rfl))
 refine Y9 ?_;cases hc:(decide (1<=c.lo)&&decide (c.lo<=99)) with
 |false=>exact N7 (s1 false (by rw[hc];rfl))
 |true =>
  refine ift ?_;walk_at "w1";walk_at "w1";walk_at "w1";walk_at "w1";exact U8 h1 h2 (s1 _ (by rw[hc];rfl))
theorem aB7(h8:T 8=some F9)(h13:T 13=some C6){c:a8}(h:∀g',Gr d g g'->(d9 g d->d9 g' d)->Q (.bl (j7 c)) g'):b8 T (k+2) 13 [c.d] g Q E:=by
 refine call_of h13 rfl ?_;have no:j7 c=false->Q (.bl false) g:=fun e=>by
  have:=h g (Gr.refl _ _) id
  rwa [e] at this
 dsimp[C6,d5,List.replicate,a8.d];walk_at "w3";have fin:j7 c=(gm 0 c.lm&&gm 0 c.um)->wpS (b8 T (k+1)) (d7 C6.body) ⟨fun _ g'=>Q .non g',Q,fun _ _=>False,fun _ _=>False⟩ [some c.d] g E:=fun e=>by
  dsimp[C6,d7,a8.d];walk_at "w3";refine Z8 h8 (d:=d) fun g1 G1 D1=>?_;rw[<- aj2];refine Y9 ?_;have h':=h;rw[e] at h';cases hl:gm 0 c.lm with
  |false =>
   rw[hl,Bool.false_and] at h';exact N7 (h' g1 G1 D1)
  |true =>
   rw[hl,Bool.true_and] at h';refine ift ?_;walk_at "w3";refine Z8 h8 (d:=d) fun g2 G2 D2=>?_;rw[<- aj2];exact h' g2 (G1.trans G2) fun z=>D2 (D1 z)
 have out:j7 c=false->wpS (b8 T (k+1)) (.seq (.ret (.lit (.bl false))) .pass) ⟨fun σ1 g1=>wpS (b8 T (k+1)) (d7 C6.body) ⟨fun _ g'=>Q .non g',Q,fun _ _=>False,fun _ _=>False⟩ σ1 g1 E,Q,fun _ _=>False,fun _ _=>False⟩ [some c.d] g E:=fun e=>by
  walk_at "w3";exact no e
 refine if2 (fun c1=>?_) (fun c1=>?_)
 ·walk_at "w3";cases c2:decide (c.lo<=99) with
  |false=>exact out (by unfold j7;rw[c2];simp)
  |true =>
   walk_at "w3";refine if2 (fun c3=>?_) (fun c3=>?_)
   ·walk_at "w3";cases c4:decide (c.up<=99) with
    |false=>exact out (by unfold j7;rw[c4];simp)
    |true =>
     walk_at "w3";refine if2 (fun c5=>?_) (fun c5=>?_)
     ·walk_at "w3";cases c6:decide (c.yr<=9999) with
      |false=>exact out (by unfold j7;rw[c6];simp)
      |true=>exact fin (by unfold j7;rw[decide_eq_true c1,c2,decide_eq_true c3,c4,decide_eq_true c5,c6];simp)
     ·walk_at "w3";exact no (by unfold j7;rw[decide_eq_false c5];simp)
   ·walk_at "w3";exact no (by unfold j7;rw[decide_eq_false c3];simp)
 ·walk_at "w3";exact no (by unfold j7;rw[decide_eq_false c1];simp)
end
noncomputable def N5:MDef:=⟨2,5,(.seq (.set 2 (.prim .list (.cons (.var 1) .nil))) (.seq (.set 3 (.prim .lst .nil)) (.seq (.for_ (.one 4) (.itR1 (.prim .len (.cons (.var 1) .nil))) (.seq (.expr (.meth .append (.var 3) (.cons (.meth .pop (.var 2) (.cons (.call 4 (.cons (.var 0) (.cons (.prim .len (.cons (.var 2) .nil)) .nil))) .nil)) .nil))) .pass)) (.seq (.ret (.var 3)) .pass))))⟩
theorem ad3{α:Type}:∀{l:List α} {j:Nat} (h:j<l.length),(l[j]::l.eraseIdx j).Perm l
 |a::r,0,_=>by simp
 |a::r,j+1,h=>by
  simp only[List.getElem_cons_succ,List.eraseIdx_cons_succ];exact(List.Perm.swap _ _ _).trans ((ad3 (l:=r) (j:=j) (by simpa using h)).cons a)
theorem Gr.F6{d x:Nat}{g g':G}{o:O}(h:Gr d g g')(hx:g.length<=x):Gr d g (g'.set x o):=⟨by simp[h.len],fun i h1 h2=>by rw[List.getElem?_set_ne (by omega)];exact h.old i h1 h2⟩
theorem d9.F6{g:G}{d x:Nat}{o:O}(h:d9 g d)(hx:d<x):d9 (g.set x o) d:=by
 obtain⟨s,p,b,r,xs,e1,e2,hs,q⟩:=h.ex;exact⟨s,p,b,r,xs,by rw[List.getElem?_set_ne (by omega)];exact e1,by rw[List.getElem?_set_ne (by omega)];exact e2,hs,q⟩
theorem b9{g:G}{o:O}:(g++[o])[g.length]?=some o:=by simp
theorem i3{g:G}{i:Nat}{o o':O}(h:g[i]?=some o):(g++[o'])[i]?=some o:=by rw[List.getElem?_append_left (m8 h)];exact h
theorem get_set{g:G}{i:Nat}{o o':O}(h:g[i]?=some o):(g.set i o')[i]?=some o':=List.getElem?_set_self (m8 h)
theorem k8{g:G}{i j:Nat}{o o':O}(h:g[i]?=some o)(hn:j≠i):(g.set j o')[i]?=some o:=by rw[List.getElem?_set_ne hn];exact h
section
variable{T:Nat->Option MDef}{k d:Nat}{g:G}{Q:KD}{E:KX}
theorem Z6(h4:T 4=some t6)(h21:T 21=some N5){a:Nat}{l:List D}(ha:g[a]?=some (.lst l))(hl:l.length<=1000)(hd:a≠d)(D0:d9 g d)(h:∀(l':List D) b g',l'.Perm l->g'[b]?=some (.lst l')->g.length<=b->d9 g' d->Gr d g g'->Q (.ref b) g'):b8 T (k+2) 21 [.ref d,.ref a] g Q E:=by
 refine call_of h21 rfl ?_;dsimp[N5,d5,List.replicate];walk_at "w5";refine aA3 (a7 ha) ?_;walk_at "w5";have dl:=D0.lt;refine A7 (b0 T _) (K8 (b0 T _) ?_);walk_at "w5";have ha2:(g++[O.lst l]++[O.lst []])[a]?=some (.lst l):=i3 (i3 ha);refine A2 (a7 ha2) ?_;refine ⟨_,rfl,by omega,by omega,i0 0 l.length,fun i σ g'=>∃ left found w,σ=[some (.ref d),some (.ref a),some (.ref g.length),some (.ref (g.length + 1)),w]/\(left ++ found).Perm l/\left.length + i=l.length/\g'[g.length]?=some (.lst left)/\g'[g.length + 1]?=some (.lst found)/\d9 g' d/\Gr d g g',
  fun i σ g p=>p7,?_,fun i x σ g' hx p=>?_,fun σ g' p=>?_⟩
 ·refine⟨l,[],none,?_,by simp,by simp,?_,?_,(D0.snoc _).snoc _,(Gr.snoc _ _ _).trans (Gr.snoc _ _ _)⟩
  ·simp
  ·exact i3 b9
  ·have:=b9 (g:=g++[O.lst l]) (o:=O.lst []);simpa using this
 ·obtain⟨left,found,w,rfl,hp,hn,e1,e2,D1,G1⟩:=p;obtain⟨hi,rfl⟩:=q9 hx;show wpS _ _ _ _ _ _;walk_at "w5";refine c9 (n:=(left.length:Int)) h4 D1 (by omega) (by omega) fun r g2 r0 r1 D2 G2=>?_;have f1:=G2.at (by omega) e1;have f2:=G2.at (by omega) e2;have hr:r.toNat<left.length:=by omega
  walk_at "w5";refine bm3 (j:=r.toNat) f1 (by omega) (List.getElem?_eq_getElem hr) (by omega) ?_;walk_at "w5";refine L4 (k8 f2 (by omega)) ?_ ?_
  ·have:=hp.length_eq;simp at this;omega
  walk_at "w5";refine⟨_,_,_,rfl,?_,?_,k8 (get_set f1) (by omega),get_set (k8 f2 (by omega)),(D2.F6 (by omega)).F6 (by omega),((G1.trans G2).F6 (by omega)).F6 (by omega)⟩
  ·refine List.Perm.trans ?_ hp;have:=ad3 hr;refine List.Perm.trans ?_ (List.Perm.append_right found this);simp only[List.cons_append];rw[<- List.append_assoc];exact(List.perm_append_singleton _ _)
  ·rw[List.length_eraseIdx_of_lt hr];omega
 ·obtain⟨left,found,w,rfl,hp,hn,e1,e2,D1,G1⟩:=p;show wpS _ _ _ _ _ _;walk_at "w5";rw[o9] at hn;have:left=[]:=List.eq_nil_of_length_eq_zero (by omega);subst this;exact h _ _ _ (by simpa using hp) e2 (by omega) D1 G1
end
noncomputable def T1:MDef:=⟨1,5,(.seq (.set 1 (.prim .lst (.cons (.prim .tup .nil) (.cons (.prim .tup (.cons (.lit (.int 0)) .nil)) (.cons (.prim .tup (.cons (.lit (.int 0)) (.cons (.lit (.int 1)) .nil))) (.cons (.prim .tup (.cons (.lit (.int 1)) .nil)) (.cons (.prim .tup (.cons (.lit (.int 0)) (.cons (.lit (.int 1)) (.cons (.lit (.int 2)) .nil)))) (.cons (.prim .tup (.cons (.lit (.int 0)) (.cons (.lit (.int 1)) (.cons (.lit (.int 2)) (.cons (.lit (.int 7)) .nil))))) (.cons (.prim .tup (.cons (.lit (.int 2)) .nil)) .nil))))))))) (.seq (.set 2 (.prim .ix (.cons (.var 1) (.cons (.call 4 (.cons (.var 0) (.cons (.prim .ix (.cons (.prim .tup (.cons (.lit (.int 4)) (.cons (.lit (.int 7)) .nil))) (.cons (.prim .int (.cons (.prim (.cmp .Eq) (.cons (.call 4 (.cons (.var 0) (.cons (.lit (.int 4)) .nil))) (.cons (.lit (.int 0)) .nil))) .nil)) .nil))) .nil))) .nil)))) (.seq (.set 3 (.prim .ix (.cons (.var 1) (.cons (.call 4 (.cons (.var 0) (.cons (.lit (.int 5)) .nil))) .nil)))) (.seq (.set 4 (.prim .ix (.cons (.prim .lst (.cons (.lit (.int 0)) (.cons (.lit (.int 0)) (.cons (.lit (.int 1400)) (.cons (.lit (.int 1400)) (.cons (.lit (.int 1401)) (.cons (.lit (.int 1)) .nil))))))) (.cons (.call 4 (.cons (.var 0) (.cons (.lit (.int 6)) .nil))) .nil)))) (.seq (.ret (.prim .tup (.cons (.prim (.bin .Add) (.cons (.lit (.int 1)) (.cons (.call 4 (.cons (.var 0) (.cons (.lit (.int 3)) .nil))) .nil))) (.cons (.var 2) (.cons (.prim (.bin .Add) (.cons (.lit (.int 1)) (.cons (.call 4 (.cons (.var 0) (.cons (.lit (.int 4)) .nil))) .nil))) (.cons (.var 3) (.cons (.var 4) .nil))))))) .pass)))))⟩
noncomputable def B1:MDef:=⟨4,4,(.seq (.ifs (.or_ (.tst (.prim (.cmp .Eq) (.cons (.prim .len (.cons (.var 1) .nil)) (.cons (.lit (.int 0)) .nil)))) (.and_ (.tst (.prim (.cmp .Lt) (.cons (.prim .len (.cons (.var 1) .nil)) (.cons (.var 3) .nil)))) (.tst (.prim (.cmp .Eq) (.cons (.call 4 (.cons (.var 0) (.cons (.lit (.int 3)) .nil))) (.cons (.lit (.int 0)) .nil)))))) (.seq (.expr (.meth .append (.var 1) (.cons (.var 2) .nil))) (.seq (.ret (.prim (.bin .Add) (.cons (.var 2) (.cons (.lit (.int 1)) .nil)))) .pass)) .pass) (.seq (.ifs (.tst (.prim (.cmp .Eq) (.cons (.call 4 (.cons (.var 0) (.cons (.lit (.int 5)) .nil))) (.cons (.lit (.int 0)) .nil)))) (.seq (.setix (.var 1) (.call 4 (.cons (.var 0) (.cons (.prim .len (.cons (.var 1) .nil)) .nil))) (.var 2)) (.seq (.ret (.prim (.bin .Add) (.cons (.var 2) (.cons (.lit (.int 1)) .nil)))) .pass)) .pass) (.seq (.ret (.var 2)) .pass)))⟩
structure GCn(c:a8):Prop where
 good:j7 c=true
 l8:c.lm.length<=8
 u8:c.um.length<=8
theorem GCn.mk'{lo up yr:Int}{lm um:List Int}(h1:1<=lo)(h2:lo<=99)(h3:1<=up)(h4:up<=99)(h5:0<=yr)(h6:yr<=9999)(h7:gm 0 lm=true)(h8:gm 0 um=true)(h9:lm.length<=8)(h10:um.length<=8):GCn ⟨lo,lm,up,um,yr⟩:=by
 refine⟨?_,h9,h10⟩;simp only[j7,h7,h8,decide_eq_true h1,decide_eq_true h2,decide_eq_true h3,decide_eq_true h4,decide_eq_true h5,decide_eq_true h6]
 rfl
theorem GCn.inv{c:a8}(h:GCn c):(1<=c.lo/\c.lo<=99)/\gm 0 c.lm=true/\(1<=c.up/\c.up<=99)/\gm 0 c.um=true/\0<=c.yr/\c.yr<=9999:=by
 have:=h.good;unfold j7 at this;simp only[Bool.and_eq_true,decide_eq_true_eq] at this;obtain⟨⟨⟨a,b⟩,e⟩,⟨⟨c',d⟩,f⟩,p,q⟩:=this;exact⟨⟨a,b⟩,e,⟨c',d⟩,f,p,q⟩
noncomputable def J5:List (List Int):=[[],[0],[0,1],[1],[0,1,2],[0,1,2,7],[2]]
theorem a15:∀ms∈J5,gm 0 ms=true/\ms.length<=8:=by decide
theorem aw1{r:Int}(h0:0<=r)(h7:r<7):∃ms,atI (J5.map fun ms=>D.tup (ms.map .int)) r=some (.tup (ms.map .int))/\gm 0 ms=true/\ms.length<=8:=by
 obtain⟨v,hv,hm⟩:=t4 (l:=J5.map fun ms=>D.tup (ms.map .int)) h0 (by simpa[J5] using h7);obtain⟨ms,h1,rfl⟩:=List.mem_map.mp hm;exact⟨ms,hv,a15 ms h1⟩
section
variable{T:Nat->Option MDef}{k d:Nat}{g:G}{Q:KD}{E:KX}
theorem au7(h4:T 4=some t6)(h22:T 22=some T1)(D0:d9 g d)(h:∀c g',GCn c->d9 g' d->Gr d g g'->Q c.d g'):b8 T (k+2) 22 [.ref d] g Q E:=by
 refine call_of h22 rfl ?_;dsimp[T1,d5,List.replicate];have dl:=D0.lt;walk_at "w5";have D1:=D0.snoc (.lst (J5.map fun ms=>D.tup (ms.map .int)));have G1:=Gr.snoc d g (.lst (J5.map fun ms=>D.tup (ms.map .int)));have e1:(g++[O.lst (J5.map fun ms=>D.tup (ms.map .int))])[g.length]?=some (.lst (J5.map fun ms=>D.tup (ms.map .int))):=b9;show b8 _ _ _ _ (g++[O.lst (J5.map fun ms=>D.tup (ms.map .int))]) _ _;generalize g++[O.lst (J5.map fun ms=>D.tup (ms.map .int))]=g1 at *;refine c9 h4 D1 (by decide) (by decide) fun r g2 r0 r1 D2 G2=>?_;walk_at "w5";have e2:=G2.at (by omega) e1;have hn:∃n:Int,atI [D.int 4,D.int 7] (if decide (r=0)=true then 1 else 0)=some (.int n)/\0<n/\n<=7:=by
  by_cases hr:r=0
  ·exact⟨7,by rw[decide_eq_true hr];rfl,by decide,by decide⟩
  ·exact⟨4,by rw[decide_eq_false hr];rfl,by decide,by decide⟩
 obtain⟨n,en,n0,n7⟩:=hn;refine K7 en ?_;walk_at "w5";refine c9 h4 D2 n0 (by omega) fun r3 g3 r30 r31 D3 G3=>?_;have e3:=G3.at (by omega) e2;obtain⟨lm,el,gl,ll⟩:=aw1 r30 (by omega);refine m7 (a7 e3) el ?_;walk_at "w5";refine c9 h4 D3 (by decide) (by decide) fun r4 g4 r40 r41 D4 G4=>?_;have e4:=G4.at (by omega) e3;obtain⟨um,eu,gu,lu⟩:=aw1 r40 (by omega);refine m7 (a7 e4) eu ?_;walk_at "w5";have e5:(g4++[O.lst [.int 0,.int 0,.int 1400,.int 1400,.int 1401,.int 1]])[g4.length]?=some (.lst [.int 0,.int 0,.int 1400,.int 1400,.int 1401,.int 1]):=b9;refine c9 h4 (D4.snoc _) (by decide) (by decide) fun r5 g5 r50 r51 D5 G5=>?_;have e6:=G5.at (by have:=D4.lt;omega) e5;obtain⟨v,hv,hm⟩:=t4 (l:=[D.int 0,.int 0,.int 1400,.int 1400,.int 1401,.int 1]) r50 (by simpa using r51);have hy:∃y:Int,v=.int y/\0<=y/\y<=9999:=by
  simp only[List.mem_cons,List.mem_nil_iff,or_false] at hm;rcases hm with rfl|rfl|rfl|rfl|rfl|rfl<;>exact⟨_,rfl,by decide,by decide⟩
 obtain⟨y,rfl,y0,y1⟩:=hy;refine m7 (a7 e6) hv ?_;walk_at "w5";refine c9 h4 D5 (by decide) (by decide) fun r6 g6 r60 r61 D6 G6=>?_;walk_at "w5";refine c9 h4 D6 (by decide) (by decide) fun r7 g7 r70 r71 D7 G7=>?_;walk_at "w5";exact h ⟨1+r6,lm,1+r7,um,y⟩ _ (GCn.mk' (by omega) (by omega) (by omega) (by omega) y0 y1 gl gu ll lu) D7 (G1.trans (G2.trans (G3.trans (G4.trans ((Gr.snoc _ _ _).trans (G5.trans (G6.trans G7)))))))
noncomputable def Z0(l:List D)(f:Int):Prop:=∃ns:List Int,l=ns.map .int/\∀n∈ns,1<=n/\n<f
theorem Z0.mono{l:List D}{f f':Int}(h:Z0 l f)(hf:f<=f'):Z0 l f':=let ⟨ns,e,h⟩:=h;⟨ns,e,fun n hn=>by have:=h n hn;omega⟩
theorem aE4(h4:T 4=some t6)(h23:T 23=some B1){a:Nat}{l:List D}{f v:Int}(ha:g[a]?=some (.lst l))(hl:l.length<1000)(hs:Z0 l f)(f1:1<=f)(hd:d<a)(D0:d9 g d)(h:∀(l':List D) (f':Int) g',l'≠[]->l'.length<=l.length+1->Z0 l' f'->f<=f'->f'<=f+1->g'[a]?=some (.lst l')->d9 g' d->(∀i,i≠d->i≠a->i<g.length->g'[i]?=g[i]?)->g.length<=g'.length->Q (.int f') g'):b8 T (k+2) 23 [.ref d,.ref a,.int f,.int v] g Q E:=by
 refine call_of h23 rfl ?_;have dl:=D0.lt;obtain⟨ns,rfl,hns⟩:=id hs;have app:∀g':G,g'[a]?=some (.lst (ns.map D.int))->d9 g' d->Gr d g g'->wpS (b8 T (k+1)) (.seq (.expr (.meth .append (.var 1) (.cons (.var 2) .nil))) (.seq (.ret (.prim (.bin .Add) (.cons (.var 2) (.cons (.lit (.int 1)) .nil)))) .pass)) ⟨fun σ1 g1=>wpS (b8 T (k+1)) (d7 B1.body) ⟨fun _ g'=>Q .non g',Q,fun _ _=>False,fun _ _=>False⟩ σ1 g1 E,Q,fun _ _=>False,fun _ _=>False⟩ [some (.ref d),some (.ref a),some (.int f),some (.int v)] g' E:=by
  intro g' e D1 G1;walk_at "w5";refine L4 e (by simp at hl ⊢;omega) ?_;walk_at "w5";refine h _ _ _ (by simp) (by simp) ⟨ns++[f],by simp,fun n hn=>?_⟩ (by omega) (by omega) (get_set e) (D1.F6 hd) (fun i h1 h2 h3=>?_) (by simp[G1.len])
  ·rcases List.mem_append.mp hn with z|z
   ·have:=hns n z;omega
   ·simp at z;omega
  ·rw[List.getElem?_set_ne (Ne.symm h2)];exact G1.old i h1 h3
 have rest:∀g':G,g'[a]?=some (.lst (ns.map D.int))->ns≠[]->d9 g' d->Gr d g g'->wpS (b8 T (k+1)) (d7 B1.body) ⟨fun _ g'=>Q .non g',Q,fun _ _=>False,fun _ _=>False⟩ [some (.ref d),some (.ref a),some (.int f),some (.int v)] g' E:=by
  intro g' e hne D1 G1;dsimp[B1,d7];walk_at "w5";refine c9 h4 D1 (by decide) (by decide) fun r g2 r0 r1 D2 G2=>?_;have e2:=G2.at (by omega) e;have hlen:0<ns.length:=List.length_pos_iff.mpr hne;walk_at "w5";refine if2 (fun c=>?_) (fun c=>?_)
  ·walk_at "w5";rw[List.length_map];refine c9 h4 D2 (by omega) (by simp at hl;omega) fun r3 g3 r30 r31 D3 G3=>?_;have e3:=G3.at (by omega) e2;have hj:ixN (ns.map D.int).length r3=some r3.toNat:=by
    unfold ixN;rw[if_pos r30,if_pos (by rw[List.length_map];exact r31)]
   refine L3 e3 hj ?_;walk_at "w5";refine h _ _ _ (by simp[hne]) (by simp) ⟨ns.set r3.toNat f,by simp,fun n hn=>?_⟩ (by omega) (by omega) (get_set e3) (D3.F6 hd) (fun i h1 h2 h3=>?_) (by simp[((G1.trans G2).trans G3).len])
   ·rcases List.mem_or_eq_of_mem_set hn with z|z
    ·have:=hns n z;omega
    ·omega
   ·rw[List.getElem?_set_ne (Ne.symm h2)];exact((G1.trans G2).trans G3).old i h1 h3
  ·walk_at "w5";exact h _ _ _ (by simp[hne]) (by simp) hs (by omega) (by omega) e2 D2 (fun i h1 h2 h3=>(G1.trans G2).old i h1 h3) (G1.trans G2).len
 dsimp[B1,d5,List.replicate];walk_at "w5";refine if2 (fun c=>?_) (fun c=>?_)
 ·refine ift ?_;exact app g ha D0 (Gr.refl _ _)
 ·have hne:ns≠[]:=fun z=>c (by rw[z];rfl);walk_at "w5";refine if2 (fun c2=>?_) (fun c2=>?_)
  ·walk_at "w5";refine c9 h4 D0 (by decide) (by decide) fun r g2 r0 r1 D2 G2=>?_;walk_at "w5";refine if2 (fun c3=>?_) (fun c3=>?_)
   ·exact app g2 (G2.at (by omega) ha) D2 G2
   ·walk_at "w1";exact rest g2 (G2.at (by omega) ha) hne D2 G2
  ·walk_at "w1";walk_at "w1";exact rest g ha hne D0 (Gr.refl _ _)
end
noncomputable def B0:MDef:=⟨3,17,(.seq (.set 3 (.prim .lst .nil)) (.seq (.set 4 (.lit (.int 1))) (.seq (.set 5 (.prim .X0 .nil)) (.seq (.set 6 (.prim .ix (.cons (.prim .lst (.cons (.lit (.int 0)) (.cons (.lit (.int 1)) (.cons (.lit (.int 1350)) .nil)))) (.cons (.call 4 (.cons (.var 0) (.cons (.lit (.int 3)) .nil))) .nil)))) (.seq (.set 7 (.prim (.bin .Add) (.cons (.lit (.int 1)) (.cons (.call 4 (.cons (.var 0) (.cons (.lit (.int 96)) .nil))) .nil)))) (.seq (.set 8 (.prim (.bin .Add) (.cons (.lit (.int 2)) (.cons (.call 4 (.cons (.var 0) (.cons (.lit (.int 4)) .nil))) .nil)))) (.seq (.set 9 (.prim .max (.cons (.lit (.int 0)) (.cons (.prim (.bin .Sub) (.cons (.call 4 (.cons (.var 0) (.cons (.lit (.int 9)) .nil))) (.cons (.lit (.int 6)) .nil))) .nil)))) (.seq (.set 10 (.prim .lst .nil)) (.seq (.for_ (.one 11) (.itR1 (.var 1)) (.seq (.set 4 (.call 23 (.cons (.var 0) (.cons (.var 3) (.cons (.var 4) (.cons (.var 2) .nil)))))) (.seq (.set 12 (.prim .tup (.cons (.prim .ix (.cons (.var 3) (.cons (.call 4 (.cons (.var 0) (.cons (.prim .len (.cons (.var 3) .nil)) .nil))) .nil))) (.cons (.prim (.bin .Add) (.cons (.lit (.int 50)) (.cons (.call 4 (.cons (.var 0) (.cons (.prim (.bin .Add) (.cons (.lit (.int 2)) (.cons (.var 2) .nil))) .nil))) .nil))) .nil)))) (.seq (.for_ (.one 13) (.itE (.var 12)) (.seq (.ifs (.tst (.prim (.cmp .Eq) (.cons (.call 4 (.cons (.var 0) (.cons (.var 8) .nil))) (.cons (.lit (.int 0)) .nil)))) (.seq (.set 14 (.call 4 (.cons (.var 0) (.cons (.lit (.int 8)) .nil)))) (.seq (.setix (.var 5) (.var 13) (.prim .tuple (.cons (.comp [13,14,5] 5 (.one 4) (.itR1 (.lit (.int 8))) (.or_ (.tst (.prim (.cmp .Eq) (.cons (.var 4) (.cons (.var 1) .nil)))) (.tst (.prim (.cmp .In) (.cons (.var 4) (.cons (.meth .get (.var 2) (.cons (.var 0) (.cons (.prim .tup .nil) .nil))) .nil))))) (.var 4)) .nil))) .pass)) .pass) .pass)) (.seq (.ifs (.tst (.prim (.cmp .Eq) (.cons (.call 4 (.cons (.var 0) (.cons (.lit (.int 5)) .nil))) (.cons (.lit (.int 0)) .nil)))) (.seq (.set 6 (.prim .min (.cons (.lit (.int 9999)) (.cons (.prim (.bin .Add) (.cons (.prim (.bin .Add) (.cons (.var 6) (.cons (.lit (.int 1)) .nil))) (.cons (.call 4 (.cons (.var 0) (.cons (.lit (.int 9)) .nil))) .nil))) .nil)))) .pass) .pass) (.seq (.set 15 (.comp [9,7] 4 (.one 3) (.itE (.var 12)) .no (.prim (.bin .Add) (.cons (.prim (.bin .Add) (.cons (.lit (.int 1)) (.cons (.var 0) .nil))) (.cons (.prim (.bin .Mod) (.cons (.prim (.bin .Mult) (.cons (.var 3) (.cons (.var 1) .nil))) (.cons (.lit (.int 97)) .nil))) .nil))))) (.seq (.set 16 (.prim (.bin .Mult) (.cons (.var 6) (.cons (.prim .int (.cons (.prim (.cmp .Gt) (.cons (.call 4 (.cons (.var 0) (.cons (.lit (.int 4)) .nil))) (.cons (.lit (.int 0)) .nil))) .nil)) .nil)))) (.seq (.expr (.meth .append (.var 10) (.cons (.prim .tup (.cons (.prim .ix (.cons (.var 15) (.cons (.lit (.int 0)) .nil))) (.cons (.meth .get (.var 5) (.cons (.prim .ix (.cons (.var 12) (.cons (.lit (.int 0)) .nil))) (.cons (.prim .tup .nil) .nil))) (.cons (.prim .ix (.cons (.var 15) (.cons (.lit (.int 1)) .nil))) (.cons (.meth .get (.var 5) (.cons (.prim .ix (.cons (.var 12) (.cons (.lit (.int 1)) .nil))) (.cons (.prim .tup .nil) .nil))) (.cons (.var 16) .nil)))))) .nil))) .pass)))))))) (.seq (.ret (.var 10)) .pass))))))))))⟩
noncomputable def U2(kvs:List (Key×D)):Prop:=∀k v,o7 kvs k=some v->∃ms:List Int,v=.tup (ms.map .int)/\gm 0 ms=true/\ms.length<=8
theorem aL4(kvs:List (Key×D))(k k':Key)(v:D):o7 (putD kvs k v) k'=if k'=k then some v else o7 kvs k':=by
 unfold putD;split
 ·rename_i hany;have go:∀l:List (Key×D),o7 (l.map fun kv=>if kv.1=k then(kv.1,v) else kv) k'=if k'=k then(if(l.any fun kv=>decide (kv.1=k))=true then some v else none) else o7 l k':=by
   intro l
   induction l with
   |nil=>simp[o7]
   |cons p r ih =>
    obtain⟨pk,pv⟩:=p;by_cases e:pk=k
    ·subst e;by_cases e2:k'=pk
     ·subst e2;simp[o7]
     ·have:¬pk=k':=fun z=>e2 z.symm;unfold o7 at ih ⊢;simp[this,e2] at ih ⊢;exact ih
    ·by_cases e2:k'=k
     ·subst e2;unfold o7 at ih ⊢;rw[List.any_cons,show decide (pk=k')=false from decide_eq_false e,Bool.false_or];simp[e] at ih ⊢;exact ih
     ·unfold o7 at ih ⊢;simp only[List.map_cons,e,if_false,List.find?_cons];by_cases e3:pk=k'
      ·simp[e3,e2]
      ·simp[e3];simp[e2] at ih;simp[e2];exact ih
  rw[go,hany]
  rfl
 ·rename_i hany;unfold o7;rw[List.find?_append];by_cases e:k'=k
  ·subst e;have:kvs.find? (fun kv=>decide (kv.1=k'))=none:=by
    rw[List.find?_eq_none];intro x hx hd;exact hany (List.any_eq_true.mpr ⟨x,hx,hd⟩)
   rw[this];simp
  ·have:¬k=k':=fun z=>e z.symm;simp[this,e]
theorem aN8(kvs:List (Key×D))(k:Key)(v:D):(putD kvs k v).length<=kvs.length+1:=by
 unfold putD;split<;>simp
theorem U2.put{kvs:List (Key×D)}{k:Key}{ms:List Int}(h:U2 kvs)(h1:gm 0 ms=true)(h2:ms.length<=8):U2 (putD kvs k (.tup (ms.map .int))):=fun k' v hv=>by
 rw[aL4] at hv;split at hv
 ·cases hv;exact⟨ms,rfl,h1,h2⟩
 ·exact h k' v hv
theorem U2.get{kvs:List (Key×D)}(h:U2 kvs)(k:Key):∃ms:List Int,(o7 kvs k).getD (.tup [])=.tup (ms.map .int)/\gm 0 ms=true/\ms.length<=8:=by
 cases e:o7 kvs k with
 |none=>exact⟨[],rfl,rfl,by simp⟩
 |some v=>obtain⟨ms,rfl,h1,h2⟩:=h k v e;exact⟨ms,rfl,h1,h2⟩
theorem aI8(p:Int->Bool):gm 0 (((List.range 8).map fun(n:Nat)=>(n:Int)).filter p)=true/\(((List.range 8).map fun(n:Nat)=>(n:Int)).filter p).length<=8:=by
 refine⟨aA9 (List.Pairwise.filter _ (by decide)) fun m hm=>?_,Nat.le_trans (List.length_filter_le _ _) (by decide)⟩;have:=(List.mem_filter.mp hm).1;revert this;revert m;intro m _ hm;simp at hm;obtain⟨a,ha,rfl⟩:=hm;omega
theorem List.V3{α:Type}{l:List α}{i:Nat}{x:α}(h:l[i]?=some x):l.set i x=l:=by
 apply List.ext_getElem?;intro j;by_cases e:i=j
 ·subst e;rw[List.getElem?_set_self (List.getElem?_eq_some_iff.mp h).1];exact h.symm
 ·rw[List.getElem?_set_ne e]
section
variable{T:Nat->Option MDef}{k d:Nat}{g:G}{Q:KD}{E:KX}
noncomputable def an4:MS:=match B0.body with
 |.seq _ (.seq _ (.seq _ (.seq _ (.seq _ (.seq _ (.seq _ (.seq _ (.seq (.for_ _ _ (.seq _ (.seq _ (.seq (.for_ _ _ b) _)))) _))))))))=>b
 |x=>x
theorem aV8(h4:T 4=some t6){w0:Nat}{key wr:Int}{kvs:List (Key×D)}{σ:S}{N:Ends}(hw:g[w0]?=some (.dic kvs))(W:U2 kvs)(hk:kvs.length<1000)(hr:0<wr)(hr2:wr<1000)(hd:d<w0)(D0:d9 g d)(s0:σ[0]?=some (some (.ref d)))(s5:σ[5]?=some (some (.ref w0)))(s8:σ[8]?=some (some (.int wr)))(s13:σ[13]?=some (some (.int key)))(sl:σ.length=17)(h:∀z kvs' g',g'[w0]?=some (.dic kvs')->U2 kvs'->kvs'.length<=kvs.length+1->d9 g' d->(∀i,i≠d->i≠w0->i<g.length->g'[i]?=g[i]?)->g.length<=g'.length->N.nx (σ.set 14 z) g'):wpS (b8 T (k+1)) an4 N σ g E:=by
 obtain⟨z14,e14⟩:∃z,σ[14]?=some z:=⟨_,List.getElem?_eq_getElem (by omega)⟩
 dsimp[an4,B0];refine ab9 (ay0 (ax7 (aa3 (ac2 (M4 (w_var s0 (M4 (w_var s8 (al7 ?_)))))))));refine c9 h4 D0 hr (by omega) fun r g2 r0 r1 D2 G2=>?_;have dl:=D0.lt;walk_at "w5";refine if2 (fun c=>?_) (fun c=>?_)
 ·refine ax9 (ax8 (ac2 (M4 (w_var s0 (M4 (w_lit (al7 ?_)))))));refine c9 h4 D2 (by decide) (by decide) fun r3 g3 r30 r31 D3 G3=>?_;have e3:=(G2.trans G3).at (by omega) hw;have t0:(σ.set 14 (some (.int r3)))[0]?=some (some (.ref d)):=by rw[List.getElem?_set_ne (by decide)];exact s0
  have t5:(σ.set 14 (some (.int r3)))[5]?=some (some (.ref w0)):=by rw[List.getElem?_set_ne (by decide)];exact s5
  have t13:(σ.set 14 (some (.int r3)))[13]?=some (some (.int key)):=by rw[List.getElem?_set_ne (by decide)];exact s13
  have t14:(σ.set 14 (some (.int r3)))[14]?=some (some (.int r3)):=List.getElem?_set_self (by omega);obtain⟨ms,em,_,_⟩:=W.get (.inl key);refine ab9 (au8 (an5 ?_));refine ac1 (b0 T _) (w_lit ⟨8,rfl,by decide,fun i ys σ' g'=>g'=g3/\ys.length<=i/\(∃z w,σ'=[some (.int key),some (.int r3),some (.ref w0),z,w])/\ys=((((List.range i).map fun(n:Nat)=>(n:Int)).filter fun s=>decide (s=r3)||ms.any fun m=>m==s).map D.int),⟨rfl,by simp,⟨none,none,?_⟩,rfl⟩,fun i ys σ g' p=>p.2.1,fun i ys σ' g' hi p=>?_,fun ys σ' g' p=>?_⟩)
  ·simp[J8,t13,t14,t5,List.replicate]
  ·obtain⟨rfl,hl,⟨z,w,rfl⟩,e⟩:=p;have er:(List.range (i+1)).map (fun(n:Nat)=>(n:Int))=(List.range i).map (fun(n:Nat)=>(n:Int))++[(i:Int)]:=by rw[List.range_succ];simp
   have yes:(decide ((i:Int)=r3)||ms.any fun m=>m==(i:Int))=true->wpE (b8 T (k+1)) (.var 4) [some (.int key),some (.int r3),some (.ref w0),z,some (.int i)] g' (fun y g4=>g4=g'/\(ys++[y]).length<=i+1/\(∃z' w',[some (.int key),some (.int r3),some (.ref w0),z,some (D.int i)]=[some (.int key),some (.int r3),some (.ref w0),z',w'])/\(ys++[y])=((((List.range (i+1)).map fun(n:Nat)=>(n:Int)).filter fun s=>decide (s=r3)||ms.any fun m=>m==s).map D.int)) NoX:=fun hc=>by
    walk_at "w5";refine⟨rfl,by simp;omega,⟨_,_,rfl⟩,?_⟩;rw[er,List.filter_append,List.map_append,<- e];simp[hc]
   show wpT _ _ _ _ _ _;walk_at "w5";refine if2 (fun c1=>?_) (fun c1=>?_)
   ·refine ift ?_;exact yes (by rw[decide_eq_true c1];rfl)
   ·walk_at "w5";refine aA2 e3 (k:=.inl key) rfl ?_;rw[em];walk_at "w5";refine bg4 (aj7 ?_);walk_at "w5";cases hc:(ms.any fun m=>m==(i:Int)) with
    |true =>
     refine ift ?_;exact yes (by rw[hc];simp)
    |false =>
     refine N7 ?_;refine⟨rfl,by omega,⟨_,_,rfl⟩,?_⟩;rw[er,List.filter_append,List.map_append,<- e];simp[hc,c1]
  ·obtain⟨rfl,hl,_,e⟩:=p;subst e;refine bh9 (a7 b9) ?_;obtain⟨f1,f2⟩:=aI8 fun s=>decide (s=r3)||ms.any fun m=>m==s
   refine w_var t5 (w_var t13 ?_);refine aT8 (i3 e3) (k:=.inl key) rfl (by omega) ?_;refine h _ _ _ (get_set (i3 e3)) (W.put f1 f2) (aN8 _ _ _) ((D3.snoc _).F6 hd) (fun i h1 h2 h3=>?_) ?_
   ·rw[List.getElem?_set_ne (Ne.symm h2),List.getElem?_append_left (Nat.lt_of_lt_of_le h3 (G2.trans G3).len)];exact(G2.trans G3).old i h1 h3
   ·have:=(G2.trans G3).len;simp;omega
 ·refine A4 ?_;have e2:=G2.at (by omega) hw;have:=h z14 kvs g2 e2 W (by omega) D2 (fun i h1 h2 h3=>G2.old i h1 h3) G2.len
  rwa [List.V3 e14] at this
end
section
variable{T:Nat->Option MDef}{k d:Nat}{g:G}{Q:KD}{E:KX}
noncomputable def E1:MS:=match B0.body with
 |.seq _ (.seq _ (.seq _ (.seq _ (.seq _ (.seq _ (.seq _ (.seq _ (.seq (.for_ _ _ b) _))))))))=>b
 |x=>x
structure StruckSt(d s0 w0 f0 i:Nat)(g:G)(f y:Int):Prop where
 seats:∃l,g[s0]?=some (.lst l)/\Z0 l f/\l.length<=i
 fr:1<=f/\f<=1+i
 worn:∃kvs,g[w0]?=some (.dic kvs)/\U2 kvs/\kvs.length<=2*i
 found:∃cs:List a8,g[f0]?=some (.lst (cs.map a8.d))/\cs.length=i/\∀c∈cs,GCn c
 year:0<=y/\y<=9999
 dr:d9 g d
theorem at5{s0 w0 f0 i n0:Nat}{n v f y st wr sh:Int}{x11 x12 x13 x14 x15 x16:Option D}(h4:T 4=some t6)(h23:T 23=some B1)(S:StruckSt d s0 w0 f0 i g f y)(hi:i<=100)(hv:1<=v/\v<=100)(hst:1<=st/\st<=96)(hwr:0<wr/\wr<1000)(hsh:0<=sh/\sh<=2)(o1:d<n0)(o2:n0<=s0)(o3:s0<w0)(o4:w0<f0){N:Ends}(h:∀f' y' z12 z13 z14 z15 z16 g',StruckSt d s0 w0 f0 (i+1) g' f' y'->(∀j,j≠d->j<n0->g'[j]?=g[j]?)->g.length<=g'.length->N.nx [some (.ref d),some (.int n),some (.int v),some (.ref s0),some (.int f'),some (.ref w0),some (.int y'),some (.int st),some (.int wr),some (.int sh),some (.ref f0),x11,z12,z13,z14,z15,z16] g') :
  wpS (b8 T (k+2)) E1 N [some (.ref d),some (.int n),some (.int v),some (.ref s0),some (.int f),some (.ref w0),some (.int y),some (.int st),some (.int wr),some (.int sh),some (.ref f0),x11,x12,x13,x14,x15,x16] g E:=by
 obtain⟨⟨l,es,hs,hl⟩,⟨f1,f2⟩,⟨kvs,ew,W,hk⟩,⟨cs,ef,hc,hg⟩,⟨y0,y1⟩,D0⟩:=S;have lf:=m8 ef;dsimp[E1,B0];walk_at "w5";refine aE4 h4 h23 es (by omega) hs f1 (by omega) D0 fun l1 f' g1 hne hl1 hs1 f3 f5 es1 D1 old1 len1=>?_;have ew1:g1[w0]?=some (.dic kvs):=(old1 w0 (by omega) (by omega) (m8 ew)).trans ew;have ef1:g1[f0]?=some (.lst (cs.map a8.d)):=(old1 f0 (by omega) (by omega) lf).trans ef;walk_at "w5";have hl1p:0<l1.length:=List.length_pos_iff.mpr hne;refine c9 (n:=(l1.length:Int)) h4 D1 (by omega) (by omega) fun r2 g2 r20 r21 D2 G2=>?_;have es2:=G2.at (by omega) es1;have ew2:=G2.at (by omega) ew1;have ef2:=G2.at (by omega) ef1;obtain⟨x,hx,hm⟩:=t4 (l:=l1) r20 r21;obtain⟨ns,rfl,hns⟩:=id hs1;obtain⟨k1,hk1,rfl⟩:=List.mem_map.mp hm;refine m7 (a7 es2) hx ?_;walk_at "w5";refine c9 (n:=2+v) h4 D2 (by omega) (by omega) fun r3 g3 r30 r31 D3 G3=>?_;have es3:=G3.at (by omega) es2;have ew3:=G3.at (by omega) ew2;have ef3:=G3.at (by omega) ef2;walk_at "w5";have kb1:=hns k1 hk1;have old3:∀j,j≠d->j<n0->g3[j]?=g[j]?:=fun j a b=>by
  have lj:j<g.length:=by omega
  rw[G3.old j a (by have:=G2.len;omega),G2.old j a (by omega),old1 j a (by omega) lj]
 have len3:g.length<=g3.length:=by have:=G2.len;have:=G3.len;omega
 refine A7 (b0 T _) (i_t (b0 T _) ?_);walk_at "w5";refine ⟨_,rfl,_,fun j σ g'=>∃ kvs' z13 z14,σ=[some (.ref d),some (.int n),some (.int v),some (.ref s0),some (.int f'),some (.ref w0),some (.int y),some (.int st),some (.int wr),some (.int sh),some (.ref f0),x11,some (.tup [.int k1,.int (50 + r3)]),z13,z14,x15,x16]/\g'[w0]?=some (.dic kvs')/\U2 kvs'/\kvs'.length <= 2 * i + j/\d9 g' d/\(∀ j,j ≠ d->j ≠ w0->j < g3.length->g'[j]?=g3[j]?)/\g3.length <= g'.length,
  fun _ _ _ _=>p7,⟨kvs,_,_,rfl,ew3,W,by omega,D3,fun _ _ _ _=>rfl,Nat.le_refl _⟩,fun j x σ g' hx p=>?_,fun σ g' p=>?_⟩
 ·obtain⟨kvs',z13,z14,rfl,ew',W',hk',D',old',len'⟩:=p;have hkey:∃key:Int,x=.int key/\j<2:=by
   match j,hx with
   |0,hx=>cases hx;exact⟨_,rfl,by decide⟩
   |1,hx=>cases hx;exact⟨_,rfl,by decide⟩
   |j+2,hx=>simp at hx
  obtain⟨key,rfl,hj⟩:=hkey;show wpS _ _ _ _ _ _;refine aV8 (k:=k+1) h4 ew' W' (by omega) hwr.1 hwr.2 (by omega) D' rfl rfl rfl rfl rfl fun z kvs2 g2' e2 W2 hk2 D2' old2 len2=>?_;exact⟨kvs2,_,_,rfl,e2,W2,by omega,D2',fun j a b c=>(old2 j a b (by omega)).trans (old' j a b c),by omega⟩
 obtain⟨kvs4,z13,z14,rfl,ew4,W4,hk4,D4,old4,len4⟩:=p;have es4:g'[s0]?=some (.lst (ns.map D.int)):=(old4 s0 (by omega) (by omega) (m8 es3)).trans es3;have ef4:g'[f0]?=some (.lst (cs.map a8.d)):=(old4 f0 (by omega) (by omega) (m8 ef3)).trans ef3;have old4':∀j,j≠d->j<n0->g'[j]?=g[j]?:=fun j a b=>(old4 j a (by omega) (by omega)).trans (old3 j a b);clear old4 old3 G2 G3 es1 ew1 ef1 es2 ew2 ef2 es3 ew3 ef3 old1;have hk4:kvs4.length<=2*(i+1):=by simp at hk4;omega
 show wpS _ _ _ _ _ _;walk_at "w5";refine c9 h4 D4 (by decide) (by decide) fun r5 g5 r50 r51 D5 G5=>?_;walk_at "w5";have tail:∀(y':Int) (g6:G),0<=y'->y'<=9999->d9 g6 d->Gr d g' g6->wpS (b8 T (k+2)) (d7 (d7 (d7 (d7 E1)))) N [some (.ref d),some (.int n),some (.int v),some (.ref s0),some (.int f'),some (.ref w0),some (.int y'),some (.int st),some (.int wr),some (.int sh),some (.ref f0),x11,some (.tup [.int k1,.int (50+r3)]),z13,z14,x15,x16] g6 E:=by
  intro y' g6 y0' y1' D6 G6;have es6:=G6.at (by omega) es4;have ew6:=G6.at (by omega) ew4;have ef6:=G6.at (by omega) ef4;dsimp[E1,B0,d7];walk_at "w5";refine ac0 (b0 T _) ?_;walk_at "w5";refine⟨_,rfl,by simp,fun j ys σ g7=>g7=g6/\(∃z w,σ=[some (.int sh),some (.int st),z,w])/\ys=([k1,50+r3].take j).map (fun key=>D.int (1+sh+key*st % 97)),⟨rfl,⟨none,none,rfl⟩,rfl⟩,fun j ys σ g7 p=>?_,fun j x ys σ g7 hx p=>?_,fun ys σ g7 p=>?_⟩
  ·obtain⟨rfl,_,rfl⟩:=p;simp;omega
  ·obtain⟨rfl,⟨z,w,rfl⟩,rfl⟩:=p;have hkey:∃key:Int,x=.int key/\([k1,50+r3].take j).map (fun key=>D.int (1+sh+key*st % 97))++[D.int (1+sh+key*st % 97)]=([k1,50+r3].take (j+1)).map (fun key=>D.int (1+sh+key*st % 97)):=by
    match j,hx with
    |0,hx=>cases hx;exact⟨_,rfl,rfl⟩
    |1,hx=>cases hx;exact⟨_,rfl,rfl⟩
    |j+2,hx=>simp at hx
   obtain⟨key,rfl,he⟩:=hkey;show wpT _ _ _ _ _ _;walk_at "w5";refine E8 (R0 (by omega) (by omega)) ?_;walk_at "w5";exact⟨rfl,⟨_,_,rfl⟩,he⟩
  obtain⟨rfl,_,rfl⟩:=p;have eN:(g7++[O.lst [D.int (1+sh+k1*st % 97),D.int (1+sh+(50+r3)*st % 97)]])[g7.length]?=some (.lst [D.int (1+sh+k1*st % 97),D.int (1+sh+(50+r3)*st % 97)]):=b9;show wpS _ _ _ _ (g7++[O.lst [D.int (1+sh+k1*st % 97),D.int (1+sh+(50+r3)*st % 97)]]) _;walk_at "w5";refine c9 h4 (D6.snoc _) (by decide) (by decide) fun r8 g8 r80 r81 D8 G8=>?_;have l7:=D6.lt;have eN8:=G8.at (by omega) eN;have es8:=G8.at (by omega) (i3 es6);have ew8:=G8.at (by omega) (i3 ew6);have ef8:=G8.at (by omega) (i3 ef6);walk_at "w5";refine E8 (as2 (by omega) (by omega)) ?_;walk_at "w5";obtain⟨lm,el,gl,ll⟩:=W4.get (.inl k1);obtain⟨um,eu,gu,lu⟩:=W4.get (.inl (50+r3));refine aA2 ew8 (k:=.inl k1) rfl ?_;rw[el];walk_at "w5";refine aA2 ew8 (k:=.inl (50+r3)) rfl ?_;rw[eu];walk_at "w5";refine L4 ef8 (by simp;omega) ?_;generalize hty:y'*(if decide (0<r8)=true then 1 else 0)=ty;have ty0:0<=ty/\ty<=9999:=by
   rw[<- hty];split<;>simp<;>omega
  walk_at "w5";refine h f' y' _ _ _ _ _ _ ⟨⟨_,k8 es8 (by omega),hs1,by omega⟩,⟨by omega,by omega⟩,⟨kvs4,k8 ew8 (by omega),W4,hk4⟩,⟨cs++[⟨1+sh+k1*st % 97,lm,1+sh+(50+r3)*st % 97,um,ty⟩],?_,by simp[hc],?_⟩,⟨y0',y1'⟩,D8.F6 (by omega)⟩ (fun j a b=>?_) ?_
  ·rw[get_set ef8];simp[a8.d]
  ·intro c hc';rcases List.mem_append.mp hc' with z|z
   ·exact hg c z
   ·simp at z;subst z;have m1:=Int.emod_nonneg (k1*st) (show(97:Int)≠0 by decide);have m2:=Int.emod_lt_of_pos (k1*st) (show(0:Int)<97 by decide);have m3:=Int.emod_nonneg ((50+r3)*st) (show(97:Int)≠0 by decide);have m4:=Int.emod_lt_of_pos ((50+r3)*st) (show(0:Int)<97 by decide);exact GCn.mk' (by omega) (by omega) (by omega) (by omega) ty0.1 ty0.2 gl gu ll lu
  ·have lj:j<g'.length:=by omega
   rw[List.getElem?_set_ne (by omega),G8.old j a (by have:=G6.len;simp;omega),List.getElem?_append_left (by have:=G6.len;omega),G6.old j a lj];exact old4' j a b
  ·have:=G6.len;have:=G8.len;simp at this ⊢;omega
 refine if2 (fun c=>?_) (fun c=>?_)
 ·walk_at "w5";refine c9 h4 D5 (by decide) (by decide) fun r6 g6 r60 r61 D6 G6=>?_;walk_at "w5";generalize hy':(if y+1+r6<9999 then y+1+r6 else 9999)=y';have:0<=y'/\y'<=9999:=by rw[<- hy'];split<;>omega
  exact tail y' g6 this.1 this.2 D6 (G5.trans G6)
 ·refine A4 ?_;exact tail y g5 y0 y1 D5 G5
theorem aE0(h4:T 4=some t6)(h23:T 23=some B1)(h24:T 24=some B0){n v:Int}(hn:0<=n/\n<=100)(hv:1<=v/\v<=100)(D0:d9 g d)(h:∀(cs:List a8) a g',(cs.length:Int)=n->(∀c∈cs,GCn c)->g'[a]?=some (.lst (cs.map a8.d))->g.length<=a->d9 g' d->Gr d g g'->Q (.ref a) g'):b8 T (k+3) 24 [.ref d,.int n,.int v] g Q E:=by
 refine call_of h24 rfl ?_;dsimp[B0,d5,List.replicate];have dl:=D0.lt;walk_at "w5";have D1:d9 (g++[O.lst []]++[O.dic []]++[O.lst [.int 0,.int 1,.int 1350]]) d:=((D0.snoc _).snoc _).snoc _;have G1:Gr d g (g++[O.lst []]++[O.dic []]++[O.lst [.int 0,.int 1,.int 1350]]):=((Gr.snoc _ _ _).trans (Gr.snoc _ _ _)).trans (Gr.snoc _ _ _);have e0:(g++[O.lst []]++[O.dic []]++[O.lst [.int 0,.int 1,.int 1350]])[g.length]?=some (.lst []):=i3 (i3 b9);have e1:(g++[O.lst []]++[O.dic []]++[O.lst [.int 0,.int 1,.int 1350]])[(g++[O.lst []]).length]?=some (.dic []):=i3 b9;have e2:(g++[O.lst []]++[O.dic []]++[O.lst [.int 0,.int 1,.int 1350]])[(g++[O.lst []]++[O.dic []]).length]?=some (.lst [.int 0,.int 1,.int 1350]):=b9;have n1:(g++[O.lst []]).length=g.length+1:=by simp
 have n2:(g++[O.lst []]++[O.dic []]).length=g.length+2:=by simp
 rw[n1] at e1 ⊢;rw[n2] at e2 ⊢;generalize g++[O.lst []]++[O.dic []]++[O.lst [.int 0,.int 1,.int 1350]]=g1 at *;refine c9 h4 D1 (by decide) (by decide) fun r2 g2 r20 r21 D2 G2=>?_;have e02:=G2.at (by omega) e0;have e12:=G2.at (by omega) e1;have e22:=G2.at (by omega) e2;obtain⟨x,hx,hm⟩:=t4 (l:=[D.int 0,.int 1,.int 1350]) r20 (by simpa using r21);have hy:∃y:Int,x=.int y/\0<=y/\y<=9999:=by
  simp only[List.mem_cons,List.mem_nil_iff,or_false] at hm;rcases hm with rfl|rfl|rfl<;>exact⟨_,rfl,by decide,by decide⟩
 obtain⟨y,rfl,y0,y1⟩:=hy;refine m7 (a7 e22) hx ?_;walk_at "w5";refine c9 h4 D2 (by decide) (by decide) fun r3 g3 r30 r31 D3 G3=>?_;walk_at "w5";refine c9 h4 D3 (by decide) (by decide) fun r4 g4 r40 r41 D4 G4=>?_;walk_at "w5";refine c9 h4 D4 (by decide) (by decide) fun r5 g5 r50 r51 D5 G5=>?_;have G25:=G3.trans (G4.trans G5);have e05:=G25.at (by omega) e02;have e15:=G25.at (by omega) e12;have l5:=(G1.trans (G2.trans G25)).len;have lw:=m8 e15;walk_at "w5";generalize hsh:(if r5-6>0 then r5-6 else 0)=sh;have sh0:0<=sh/\sh<=2:=by rw[<- hsh];split<;>omega
 have e35:(g5++[O.lst []])[g5.length]?=some (.lst []):=b9;refine A7 (b0 T _) (K8 (b0 T _) ?_);walk_at "w5";refine ⟨by omega,by omega,i0 0 n.toNat,fun i σ g'=>∃ f' y' z11 z12 z13 z14 z15 z16,σ=[some (.ref d),some (.int n),some (.int v),some (.ref g.length),some (.int f'),some (.ref (g.length + 1)),some (.int y'),some (.int (1 + r3)),some (.int (2 + r4)),some (.int sh),some (.ref g5.length),z11,z12,z13,z14,z15,z16]/\StruckSt d g.length (g.length + 1) g5.length i g' f' y'/\Gr d g g',
  fun _ _ _ _=>p7,⟨1,y,none,none,none,none,none,none,rfl,⟨⟨[],i3 e05,⟨[],rfl,by simp⟩,by simp⟩,⟨by omega,by omega⟩,⟨[],i3 e15,(fun k v hv=>by cases hv),by simp⟩,⟨[],e35,rfl,by simp⟩,⟨y0,y1⟩,D5.snoc _⟩,(G1.trans (G2.trans G25)).trans (Gr.snoc _ _ _)⟩,fun i x σ g' hx p=>?_,fun σ g' p=>?_⟩
 ·obtain⟨f',y',z11,z12,z13,z14,z15,z16,rfl,S,G'⟩:=p;obtain⟨hi,rfl⟩:=q9 hx;show wpS _ E1 _ _ _ _;refine at5 (n0:=g.length) h4 h23 S (by omega) hv ⟨by omega,by omega⟩ ⟨by omega,by omega⟩ sh0 dl (Nat.le_refl _) (by omega) (by omega) fun f2 y2 a b c e f g2 S2 old2 len2=>?_;exact⟨f2,y2,_,_,_,_,_,_,rfl,S2,⟨by have:=G'.len;omega,fun j h1 h2=>(old2 j h1 h2).trans (G'.old j h1 h2)⟩⟩
 ·obtain⟨f',y',z11,z12,z13,z14,z15,z16,rfl,S,G'⟩:=p;show wpS _ _ _ _ _ _;walk_at "w5";obtain⟨cs,ef,hc,hg⟩:=S.found;rw[o9] at hc;exact h cs _ _ (by omega) hg ef (by omega) S.dr G'
end
noncomputable def Y0:MDef:=⟨2,8,(.seq (.set 2 (.prim .lrng2 (.cons (.lit (.int 1)) (.cons (.prim (.bin .Add) (.cons (.prim (.bin .Add) (.cons (.prim (.bin .FloorDiv) (.cons (.var 1) (.cons (.lit (.int 2)) .nil))) (.cons (.prim (.bin .Mod) (.cons (.var 1) (.cons (.lit (.int 2)) .nil))) .nil))) (.cons (.lit (.int 1)) .nil))) .nil)))) (.seq (.set 3 (.prim (.bin .Add) (.cons (.var 2) (.cons (.prim (.slc false true) (.cons (.call 21 (.cons (.var 0) (.cons (.var 2) .nil))) (.cons (.prim (.bin .FloorDiv) (.cons (.var 1) (.cons (.lit (.int 2)) .nil))) .nil))) .nil)))) (.seq (.set 4 (.call 4 (.cons (.var 0) (.cons (.lit (.int 3)) .nil)))) (.seq (.set 5 (.prim .lst .nil)) (.seq (.for_ (.one 6) (.itR1 (.var 1)) (.seq (.set 7 (.prim .ix (.cons (.prim .lst (.cons (.prim (.bin .Add) (.cons (.lit (.int 1000)) (.cons (.var 6) .nil))) (.cons (.lit (.int 0)) (.cons (.prim (.bin .Add) (.cons (.lit (.int 1)) (.cons (.prim (.bin .FloorDiv) (.cons (.prim (.bin .Mult) (.cons (.lit (.int 2)) (.cons (.var 6) .nil))) (.cons (.prim .max (.cons (.lit (.int 1)) (.cons (.var 1) .nil))) .nil))) .nil))) .nil)))) (.cons (.var 4) .nil)))) (.seq (.expr (.meth .append (.var 5) (.cons (.prim .tup (.cons (.prim .ix (.cons (.var 3) (.cons (.var 6) .nil))) (.cons (.prim .tup .nil) (.cons (.prim (.bin .Add) (.cons (.lit (.int 1)) (.cons (.call 4 (.cons (.var 0) (.cons (.lit (.int 9)) .nil))) .nil))) (.cons (.prim .tup .nil) (.cons (.var 7) .nil)))))) .nil))) .pass))) (.seq (.ret (.var 5)) .pass))))))⟩
noncomputable def L6:MDef:=⟨2,9,(.seq (.set 2 (.call 4 (.cons (.var 0) (.cons (.prim (.bin .Add) (.cons (.var 1) (.cons (.lit (.int 1)) .nil))) .nil)))) (.seq (.set 3 (.prim (.bin .Add) (.cons (.lit (.int 1)) (.cons (.call 4 (.cons (.var 0) (.cons (.lit (.int 3)) .nil))) .nil)))) (.seq (.set 4 (.call 4 (.cons (.var 0) (.cons (.lit (.int 5)) .nil)))) (.seq (.ifs (.tst (.prim (.cmp .Eq) (.cons (.var 4) (.cons (.lit (.int 0)) .nil)))) (.seq (.ret (.prim .tup (.cons (.comp [0] 3 (.one 2) (.itR1 (.var 2)) .no (.call 22 (.cons (.var 0) .nil))) (.cons (.var 3) .nil)))) .pass) .pass) (.seq (.ifs (.tst (.prim (.cmp .Eq) (.cons (.var 4) (.cons (.lit (.int 4)) .nil)))) (.seq (.set 3 (.prim (.bin .Add) (.cons (.lit (.int 1)) (.cons (.call 4 (.cons (.var 0) (.cons (.lit (.int 6)) .nil))) .nil)))) .pass) .pass) (.seq (.set 5 (.ite (.tst (.prim (.cmp .Eq) (.cons (.var 4) (.cons (.lit (.int 4)) .nil)))) (.call 25 (.cons (.var 0) (.cons (.var 2) .nil))) (.call 24 (.cons (.var 0) (.cons (.var 2) (.cons (.var 3) .nil)))))) (.seq (.set 5 (.comp [5] 3 (.one 2) (.itE (.call 21 (.cons (.var 0) (.cons (.prim .lrng1 (.cons (.var 2) .nil)) .nil)))) .no (.prim .ix (.cons (.var 0) (.cons (.var 2) .nil))))) (.seq (.ifs (.and_ (.tst (.prim (.cmp .Eq) (.cons (.var 4) (.cons (.lit (.int 1)) .nil)))) (.tst (.prim (.cmp .Gt) (.cons (.var 2) (.cons (.lit (.int 0)) .nil))))) (.seq (.set 6 (.call 4 (.cons (.var 0) (.cons (.var 2) .nil)))) (.seq (.set 7 (.prim .ix (.cons (.var 5) (.cons (.var 6) .nil)))) (.seq (.set 8 (.prim .ix (.cons (.var 5) (.cons (.call 4 (.cons (.var 0) (.cons (.var 2) .nil))) .nil)))) (.seq (.setix (.var 5) (.var 6) (.prim .tup (.cons (.prim .ix (.cons (.var 7) (.cons (.lit (.int 0)) .nil))) (.cons (.prim .ix (.cons (.var 8) (.cons (.lit (.int 1)) .nil))) (.cons (.prim .ix (.cons (.var 8) (.cons (.lit (.int 2)) .nil))) (.cons (.prim .ix (.cons (.var 7) (.cons (.lit (.int 3)) .nil))) (.cons (.prim .ix (.cons (.prim .lst (.cons (.prim .ix (.cons (.var 7) (.cons (.lit (.int 4)) .nil))) (.cons (.prim .ix (.cons (.var 8) (.cons (.lit (.int 4)) .nil))) (.cons (.lit (.int 9999)) .nil)))) (.cons (.call 4 (.cons (.var 0) (.cons (.lit (.int 3)) .nil))) .nil))) .nil))))))) .pass)))) .pass) (.seq (.ifs (.tst (.prim (.cmp .Eq) (.cons (.var 4) (.cons (.lit (.int 2)) .nil)))) (.seq (.set 3 (.lit (.int 1))) .pass) .pass) (.seq (.ret (.prim .tup (.cons (.var 5) (.cons (.var 3) .nil)))) .pass))))))))))⟩
theorem aw6{p:Int->Prop}:∀{l:List D},(∀x∈l,∃i:Int,x=.int i/\p i)->∃ns:List Int,l=ns.map .int/\∀i∈ns,p i
 |[],_=>⟨[],rfl,by simp⟩
 |x::r,h=>by
  obtain⟨i,rfl,hi⟩:=h x (by simp);obtain⟨ns,rfl,hn⟩:=aw6 (l:=r) fun y hy=>h y (by simp[hy]);exact⟨i::ns,rfl,fun j hj=>(List.mem_cons.mp hj).elim (fun z=>z▸hi) (hn j)⟩
theorem av3{lo:Int}{n:Nat}{x:D}(h:x∈i0 lo n):∃i:Int,x=.int i/\lo<=i/\i<lo+n:=by
 unfold i0 at h;obtain⟨k,hk,rfl⟩:=List.mem_map.mp h;exact⟨_,rfl,by omega,by have:=List.mem_range.mp hk;omega⟩
theorem ah2{α:Type}{l:List α}{lo hi:Option Int}{x:α}(h:x∈cut l lo hi):x∈l:=by
 unfold cut at h;exact List.mem_of_mem_drop (List.mem_of_mem_take h)
theorem aJ8{α:Type}{l:List α}{n:Nat}(h:n<=l.length):cut l none (some (n:Int))=l.take n:=by
 have:¬((n:Int)<0):=by omega
 unfold cut HT.sIx;simp[this]
theorem a35{ns:List Int}{r:Int}(h0:0<=r)(h1:r<ns.length):∃i∈ns,atI (ns.map D.int) r=some (.int i):=by
 obtain⟨v,hv,hm⟩:=t4 (l:=ns.map D.int) h0 (by simpa using h1);obtain⟨i,hi,rfl⟩:=List.mem_map.mp hm;exact⟨i,hi,hv⟩
theorem U1{cs:List a8}{r:Int}(h0:0<=r)(h1:r<cs.length):∃c∈cs,atI (cs.map a8.d) r=some c.d:=by
 obtain⟨v,hv,hm⟩:=t4 (l:=cs.map a8.d) h0 (by simpa using h1);obtain⟨i,hi,rfl⟩:=List.mem_map.mp hm;exact⟨i,hi,hv⟩
section
variable{T:Nat->Option MDef}{k d:Nat}{g:G}{Q:KD}{E:KX}
theorem aG5(h4:T 4=some t6)(h21:T 21=some N5)(h25:T 25=some Y0){n:Int}(hn:0<=n/\n<=100)(D0:d9 g d)(h:∀(cs:List a8) a g',(cs.length:Int)=n->(∀c∈cs,GCn c)->g'[a]?=some (.lst (cs.map a8.d))->g.length<=a->d9 g' d->Gr d g g'->Q (.ref a) g'):b8 T (k+3) 25 [.ref d,.int n] g Q E:=by
 refine call_of h25 rfl ?_;dsimp[Y0,d5,List.replicate];have dl:=D0.lt;walk_at "w5";refine lr2 (i:=1) (j:=n / 2+n % 2+1) (by omega) ?_;walk_at "w5";have hh:∃hf:Nat,(n / 2+n % 2+1-1).toNat=hf/\(hf:Int)=n / 2+n % 2/\hf<=50:=⟨_,rfl,by omega,by omega⟩
 obtain⟨hf,hh1,hh2,hh3⟩:=hh;rw[hh1];have e1:(g++[O.lst (i0 1 hf)])[g.length]?=some (.lst (i0 1 hf)):=b9;refine Z6 h4 h21 e1 (by rw[o9];omega) (by omega) (D0.snoc _) fun l' b g2 hp e2 hb D2 G2=>?_;have e12:=G2.at (by omega) e1;walk_at "w5";refine ac9 (a7 e2) ?_;have hle:l'.length=hf:=by rw[hp.length_eq,o9]
 have hc:cut l' none (some (n / 2))=l'.take (n / 2).toNat:=by
  have:=aJ8 (l:=l') (n:=(n / 2).toNat) (by omega)
  rwa [show(((n / 2).toNat:Nat):Int)=n / 2 by omega] at this
 rw[hc];refine aC2 (i3 e12) b9 (by rw[o9,List.length_take];omega) ?_;obtain⟨rl,er,hr⟩:=aw6 (p:=fun i=>1<=i/\i<=50) (l:=i0 1 hf++l'.take (n / 2).toNat) fun x hx=>by
  have hx':x∈i0 1 hf:=by
   rcases List.mem_append.mp hx with z|z
   ·exact z
   ·exact hp.mem_iff.mp (List.mem_of_mem_take z)
  obtain⟨i,rfl,h1,h2⟩:=av3 hx';exact⟨i,rfl,h1,by omega⟩
 have hrl:(rl.length:Int)=n:=by
  have:=congrArg List.length er;rw[List.length_append,o9,List.length_take,List.length_map] at this;omega
 rw[er];have D3:=(D2.snoc (.lst (l'.take (n / 2).toNat))).snoc (.lst (rl.map D.int));have G3:=(Gr.snoc d g (.lst (i0 1 hf))).trans (G2.trans ((Gr.snoc d g2 (.lst (l'.take (n / 2).toNat))).trans (Gr.snoc d _ (.lst (rl.map D.int)))));have e3:(g2++[O.lst (l'.take (n / 2).toNat)]++[O.lst (rl.map D.int)])[(g2++[O.lst (l'.take (n / 2).toNat)]).length]?=some (.lst (rl.map D.int)):=b9;have l3:g.length+1<=(g2++[O.lst (l'.take (n / 2).toNat)]).length:=by have:=G2.len;simp at this ⊢;omega
 generalize (g2++[O.lst (l'.take (n / 2).toNat)]).length=rw0 at *;generalize g2++[O.lst (l'.take (n / 2).toNat)]++[O.lst (rl.map D.int)]=g3 at *;walk_at "w5";refine c9 h4 D3 (by decide) (by decide) fun r4 g4 r40 r41 D4 G4=>?_;have e4:=G4.at (by omega) e3;walk_at "w5";have G04:=G3.trans G4;have l4:=G04.len;have e5:(g4++[O.lst []])[g4.length]?=some (.lst ([].map a8.d)):=b9;have lr4:=m8 e4;refine A7 (b0 T _) (K8 (b0 T _) ?_);walk_at "w5";refine ⟨by omega,by omega,i0 0 n.toNat,fun i σ g'=>∃ cs z6 z7,σ=[some (.ref d),some (.int n),some (.ref g.length),some (.ref rw0),some (.int r4),some (.ref g4.length),z6,z7]/\cs.length=i/\(∀ c ∈ cs,GCn c)/\g'[g4.length]?=some (.lst (cs.map a8.d))/\g'[rw0]?=some (.lst (rl.map D.int))/\d9 g' d/\Gr d g g',
  fun _ _ _ _=>p7,⟨[],none,none,rfl,rfl,by simp,e5,i3 e4,D4.snoc _,G04.trans (Gr.snoc _ _ _)⟩,fun i x σ g' hx p=>?_,fun σ g' p=>?_⟩
 ·obtain⟨cs,z6,z7,rfl,hc,hg,ef,erw,D',G'⟩:=p;obtain⟨hi,rfl⟩:=q9 hx;show wpS _ _ _ _ _ _;walk_at "w5";refine E8 (as2 (by decide) (by decide)) ?_;walk_at "w5";refine am7 ⟨by split<;>omega,by split<;>omega⟩ ?_;walk_at "w5";obtain⟨yv,hy,hyr⟩:∃yv:Int,atI [D.int (1000+(0+(i:Int))),D.int 0,D.int (1+2*(0+(i:Int)) / (if n>1 then n else 1))] r4=some (.int yv)/\0<=yv/\yv<=9999:=by
   have dv0:0<=2*(0+(i:Int)) / (if n>1 then n else 1):=Int.ediv_nonneg (by omega) (by split<;>omega);have dv1:2*(0+(i:Int)) / (if n>1 then n else 1)<=2*(0+(i:Int)):=Int.ediv_le_self _ (by omega);have:r4=0\/r4=1\/r4=2:=by omega
   rcases this with rfl|rfl|rfl
   ·exact⟨_,rfl,by omega,by omega⟩
   ·exact⟨_,rfl,by omega,by omega⟩
   ·exact⟨_,rfl,by omega,by omega⟩
  refine m7 (a7 b9) hy ?_;walk_at "w5";obtain⟨lo,hlo,hlo2⟩:=a35 (ns:=rl) (r:=0+(i:Int)) (by omega) (by omega);have lf:=m8 ef;refine And.intro (N1 (i3 ef)) ?_;walk_at "w5";refine m7 (a7 (i3 erw)) hlo2 ?_;walk_at "w5";refine c9 h4 (D'.snoc _) (by decide) (by decide) fun r6 g6 r60 r61 D6 G6=>?_;have ef6:=G6.at (by omega) (i3 ef);have er6:=G6.at (by omega) (i3 erw);walk_at "w5";refine L4 ef6 (by simp;omega) ?_;walk_at "w5";have hlb:=hr lo hlo;refine⟨cs++[⟨lo,[],1+r6,[],yv⟩],_,_,rfl,by simp[hc],?_,?_,k8 er6 (by omega),D6.F6 (by omega),(G'.trans ((Gr.snoc _ _ _).trans G6)).F6 (by omega)⟩
  ·intro c hc';rcases List.mem_append.mp hc' with z|z
   ·exact hg c z
   ·simp at z;subst z;exact GCn.mk' (by omega) (by omega) (by omega) (by omega) hyr.1 hyr.2 rfl rfl (by simp) (by simp)
  ·rw[get_set ef6];simp[a8.d]
 ·obtain⟨cs,z6,z7,rfl,hc,hg,ef,erw,D',G'⟩:=p;show wpS _ _ _ _ _ _;walk_at "w5";rw[o9] at hc;exact h cs _ _ (by omega) hg ef (by omega) D' G'
end
section
variable{T:Nat->Option MDef}{k d:Nat}{g:G}{Q:KD}{E:KX}
structure LF(T:Nat->Option MDef):Prop where
 pull:T 4=some t6
 order:T 21=some N5
 any:T 22=some T1
 seated:T 23=some B1
 struck:T 24=some B0
 opened:T 25=some Y0
 list:T 26=some L6
theorem aA5(hT:LF T){n:Int}(hn:0<=n/\n<=99)(D0:d9 g d)(h:∀(cs:List a8) a (v:Int) g',(cs.length:Int)<=n->(∀c∈cs,GCn c)->g'[a]?=some (.lst (cs.map a8.d))->g.length<=a->1<=v->v<=6->d9 g' d->Gr d g g'->Q (.tup [.ref a,.int v]) g'):b8 T (k+4) 26 [.ref d,.int n] g Q E:=by
 refine call_of hT.list rfl ?_;dsimp[L6,d5,List.replicate];have dl:=D0.lt;walk_at "w5";refine c9 (n:=n+1) hT.pull D0 (by omega) (by omega) fun m g1 m0 m1 D1 G1=>?_;walk_at "w5";refine c9 hT.pull D1 (by decide) (by decide) fun r2 g2 r20 r21 D2 G2=>?_;walk_at "w5";refine c9 hT.pull D2 (by decide) (by decide) fun way g3 w0 w1 D3 G3=>?_;have G03:=G1.trans (G2.trans G3);have l3:=G03.len;walk_at "w5";refine if2 (fun c=>?_) (fun c=>?_)
 ·walk_at "w5";refine E0 (b0 T _) (K8 (b0 T _) ?_);walk_at "w5";refine⟨by omega,by omega,i0 0 m.toNat,fun i ys σ g'=>∃cs z1 z2,ys=cs.map a8.d/\cs.length=i/\(∀c∈cs,GCn c)/\σ=[some (.ref d),z1,z2]/\d9 g' d/\Gr d g g',by rw[o9];omega,fun i ys σ g' p=>⟨p7,?_⟩,⟨[],none,none,rfl,rfl,by simp,rfl,D3,G03⟩,fun i x ys σ g' hx p=>?_,fun ys σ g' p=>?_⟩
  ·obtain⟨cs,z1,z2,rfl,hc,_⟩:=p;simp[hc]
  ·obtain⟨cs,z1,z2,rfl,hc,hg,rfl,D',G'⟩:=p;show wpT _ _ _ _ _ _;walk_at "w5";refine au7 hT.pull hT.any D' fun c0 g4 gc D4 G4=>?_;refine⟨cs++[c0],_,_,by simp,by simp[hc],fun c1 hc1=>?_,rfl,D4,G'.trans G4⟩;rcases List.mem_append.mp hc1 with z|z
   ·exact hg c1 z
   ·simp at z;subst z;exact gc
  ·obtain⟨cs,z1,z2,rfl,hc,hg,rfl,D',G'⟩:=p;rw[o9] at hc;walk_at "w5";exact h cs _ _ _ (by omega) hg b9 G'.len (by omega) (by omega) (D'.snoc _) (G'.trans (Gr.snoc _ _ _))
 have tail:∀(v:Int) (g4:G),1<=v->v<=6->d9 g4 d->Gr d g g4->wpS (b8 T (k+3)) (d7 (d7 (d7 (d7 (d7 L6.body))))) ⟨fun _ g'=>Q .non g',Q,fun _ _=>False,fun _ _=>False⟩ [some (.ref d),some (.int n),some (.int m),some (.int v),some (.int way),none,none,none,none] g4 E:=by
  intro v g4 v0 v1 D4 G4;dsimp[L6,d7];have after:∀(cs:List a8) a g5,(cs.length:Int)=m->(∀c∈cs,GCn c)->g5[a]?=some (.lst (cs.map a8.d))->g4.length<=a->d9 g5 d->Gr d g4 g5->wpS (b8 T (k+3)) (d7 (d7 (d7 (d7 (d7 (d7 L6.body)))))) ⟨fun _ g'=>Q .non g',Q,fun _ _=>False,fun _ _=>False⟩ [some (.ref d),some (.int n),some (.int m),some (.int v),some (.int way),some (.ref a),none,none,none] g5 E:=by
   intro cs a g5 hc hg ea la D5 G5;have G05:=G4.trans G5;have l4:=G4.len;dsimp[L6,d7];walk_at "w5";refine E0 (b0 T _) (i_l (b0 T _) ?_);walk_at "w5";refine lr1 (by omega) (by omega) ?_;walk_at "w5";have e6:(g5++[O.lst (i0 0 m.toNat)])[g5.length]?=some (.lst (i0 0 m.toNat)):=b9;have l5:=D5.lt;refine Z6 hT.pull hT.order e6 (by rw[o9];omega) (by omega) (D5.snoc _) fun l' b g7 hp eb lb D7 G7=>?_;have ea7:=G7.at (by omega) (i3 ea);have hl':l'.length=m.toNat:=by rw[hp.length_eq,o9]
   refine⟨b,l',rfl,a7 eb,l',fun i ys σ g'=>∃cs' z1 z2,ys=cs'.map a8.d/\cs'.length=i/\(∀c∈cs',GCn c)/\σ=[some (.ref a),z1,z2]/\g'=g7,by omega,fun i ys σ g' p=>?_,⟨[],none,none,rfl,rfl,by simp,rfl,rfl⟩,fun i x ys σ g' hx p=>?_,fun ys σ g' p=>?_⟩
   ·obtain⟨cs',z1,z2,rfl,hc',_,_,rfl⟩:=p;exact⟨W7 (a7 eb),by simp[hc']⟩
   ·obtain⟨cs',z1,z2,rfl,hc',hg',rfl,rfl⟩:=p;obtain⟨j,rfl,j0,j1⟩:=av3 (hp.mem_iff.mp (List.mem_of_getElem? hx));show wpT _ _ _ _ _ _;walk_at "w5";obtain⟨c0,hc0,e0⟩:=U1 (cs:=cs) j0 (by omega);refine m7 (a7 ea7) e0 ?_;refine⟨cs'++[c0],_,_,by simp,by simp[hc'],fun c1 hc1=>?_,rfl,rfl⟩;rcases List.mem_append.mp hc1 with z|z
    ·exact hg' c1 z
    ·simp at z;subst z;exact hg c1 hc0
   ·obtain⟨cs',z1,z2,rfl,hc',hg',rfl,rfl⟩:=p;have e8:(g'++[O.lst (cs'.map a8.d)])[g'.length]?=some (.lst (cs'.map a8.d)):=b9;have D8:=D7.snoc (.lst (cs'.map a8.d));have G8:=(G05.trans ((Gr.snoc d g5 (.lst (i0 0 m.toNat))).trans G7)).trans (Gr.snoc d g' (.lst (cs'.map a8.d)));have l8:g.length<=g'.length:=(G05.trans ((Gr.snoc d g5 (.lst (i0 0 m.toNat))).trans G7)).len;have fin:∀(cs2:List a8) z6 z7 z8 g9,(cs2.length:Int)=m->(∀c∈cs2,GCn c)->g9[g'.length]?=some (.lst (cs2.map a8.d))->d9 g9 d->Gr d g g9->wpS (b8 T (k+3)) (d7 (d7 (d7 (d7 (d7 (d7 (d7 (d7 L6.body)))))))) ⟨fun _ g'=>Q .non g',Q,fun _ _=>False,fun _ _=>False⟩ [some (.ref d),some (.int n),some (.int m),some (.int v),some (.int way),some (.ref g'.length),z6,z7,z8] g9 E:=by
     intro cs2 z6 z7 z8 g9 hc2 hg2 e9 D9 G9;dsimp[L6,d7];walk_at "w5";refine if2 (fun c=>?_) (fun c=>?_)
     ·walk_at "w5";exact h cs2 _ _ _ (by omega) hg2 e9 l8 (by omega) (by omega) D9 G9
     ·walk_at "w5";exact h cs2 _ _ _ (by omega) hg2 e9 l8 v0 v1 D9 G9
    show wpS _ _ _ _ (g'++[O.lst (cs'.map a8.d)]) _;have hm':(cs'.length:Int)=m:=by omega
    have l7':=D7.lt;generalize hg8:g'++[O.lst (cs'.map a8.d)]=g8 at *;walk_at "w5";refine if2 (fun c1=>?_) (fun c1=>?_)
    ·walk_at "w5";refine if2 (fun c2=>?_) (fun c2=>?_)
     ·walk_at "w5";refine c9 (n:=m) hT.pull D8 c2 (by omega) fun r g9 r0 r1 D9 G9=>?_;have e9:=G9.at (by omega) e8;obtain⟨c0,hc0,e0⟩:=U1 (cs:=cs') r0 (by omega);walk_at "w5";refine m7 (a7 e9) e0 ?_;walk_at "w5";refine c9 (n:=m) hT.pull D9 c2 (by omega) fun r' g10 r0' r1' D10 G10=>?_;have e10:=G10.at (by omega) e9;obtain⟨c3,hc3,e3⟩:=U1 (cs:=cs') r0' (by omega);refine m7 (a7 e10) e3 ?_;dsimp only[a8.d];walk_at "w5";refine c9 hT.pull (D10.snoc _) (by decide) (by decide) fun r'' g11 r0'' r1'' D11 G11=>?_;have l10:=D10.lt;have e11:=G11.at (by omega) (b9 (g:=g10) (o:=.lst [.int c0.yr,.int c3.yr,.int 9999]));have e10':=G11.at (by omega) (i3 (o':=.lst [.int c0.yr,.int c3.yr,.int 9999]) e10);obtain⟨x,hx,hm⟩:=t4 (l:=[D.int c0.yr,.int c3.yr,.int 9999]) r0'' (by simpa using r1'');obtain⟨a1,a2,a3,a4,a5,a6⟩:=(hg' c0 hc0).inv;obtain⟨b1,b2,b3,b4,b5,b6⟩:=(hg' c3 hc3).inv;have hy:∃y:Int,x=.int y/\0<=y/\y<=9999:=by
       simp only[List.mem_cons,List.mem_nil_iff,or_false] at hm;rcases hm with rfl|rfl|rfl
       ·exact⟨_,rfl,a5,a6⟩
       ·exact⟨_,rfl,b5,b6⟩
       ·exact⟨_,rfl,by decide,by decide⟩
      obtain⟨y,rfl,y0,y1⟩:=hy;refine m7 (a7 e11) hx ?_;walk_at "w5";have hj:ixN (cs'.map a8.d).length r=some r.toNat:=by
       unfold ixN;rw[if_pos r0,if_pos (by rw[List.length_map];omega)]
      refine L3 e10' hj ?_;have gr:GCn ⟨c0.lo,c3.lm,c3.up,c0.um,y⟩:=GCn.mk' a1.1 a1.2 b3.1 b3.2 y0 y1 b2 a4 (hg' c3 hc3).l8 (hg' c0 hc0).u8;refine fin (cs'.set r.toNat ⟨c0.lo,c3.lm,c3.up,c0.um,y⟩) _ _ _ _ (by simp;omega) (fun c4 hc4=>?_) ?_ (D11.F6 (by omega)) ((G8.trans (G9.trans (G10.trans ((Gr.snoc _ _ _).trans G11)))).F6 l8)
      ·rcases List.mem_or_eq_of_mem_set hc4 with z|z
       ·exact hg' c4 z
       ·rw[z];exact gr
      ·rw[get_set e10',List.map_set]
       rfl
     ·refine A4 ?_;exact fin cs' _ _ _ _ hm' hg' e8 D8 G8
    ·exact fin cs' _ _ _ _ hm' hg' e8 D8 G8
  walk_at "w5";refine if2 (fun c=>?_) (fun c=>?_)
  ·walk_at "w5";refine aG5 hT.pull hT.order hT.opened ⟨m0,by omega⟩ D4 fun cs a g5 hc hg ea la D5 G5=>?_;exact after cs a g5 hc hg ea la D5 G5
  ·walk_at "w5";refine aE0 hT.pull hT.seated hT.struck ⟨m0,by omega⟩ ⟨v0,by omega⟩ D4 fun cs a g5 hc hg ea la D5 G5=>?_;exact after cs a g5 hc hg ea la D5 G5
 walk_at "w5";refine if2 (fun c=>?_) (fun c=>?_)
 ·walk_at "w5";refine c9 hT.pull D3 (by decide) (by decide) fun r4 g4 r40 r41 D4 G4=>?_;walk_at "w1";walk_at "w1";exact tail _ _ (by omega) (by omega) D4 (G03.trans G4)
 ·refine A4 ?_;exact tail _ _ (by omega) (by omega) D3 G03
end
noncomputable def S9:MDef:=⟨1,1,(.seq (.ifs (.not_ (.tst (.call 12 (.cons (.var 0) .nil)))) (.seq (.raise "BadCoin" (.cons (.lit (.str "it is no coin")) .nil)) .pass) .pass) .pass)⟩
noncomputable def P4:MDef:=⟨1,2,(.seq (.ifs (.tst (.prim (.cmp .Gt) (.cons (.prim .len (.cons (.var 0) .nil)) (.cons (.lit (.int 9)) .nil)))) (.seq (.raise "TooMany" (.cons (.lit (.str "at most nine coins are asked about at once")) .nil)) .pass) .pass) (.seq (.for_ (.one 1) (.itE (.var 0)) (.seq (.expr (.call 39 (.cons (.var 1) .nil))) .pass)) .pass))⟩
noncomputable def L7:MDef:=⟨1,1,(.seq (.ifs (.tst (.prim (.cmp .NotIn) (.cons (.var 0) (.cons (.lit (.tup [(.str "lower"),(.str "upper")])) .nil)))) (.seq (.raise "BadSide" (.cons (.lit (.str "a side is lower or upper")) .nil)) .pass) .pass) .pass)⟩
noncomputable def W5:MDef:=⟨1,1,(.seq (.expr (.call 40 (.cons (.var 0) .nil))) (.seq (.ret (.prim .gget (.cons (.lit (.tup [(.tup [(.str "lower"),(.int 0)]),(.tup [(.str "upper"),(.int 2)])])) (.cons (.var 0) .nil)))) .pass))⟩
noncomputable abbrev CkC(T:Nat->Option MDef):Prop:=T 18=some P4/\T 39=some S9
noncomputable abbrev DfC(T:Nat->Option MDef):Prop:=T 19=some W5/\T 40=some L7
noncomputable def C7:MDef:=⟨2,3,(.seq (.ifs (.and_ (.tst (.prim (.cmp .Gt) (.cons (.prim .len (.cons (.var 1) .nil)) (.cons (.lit (.int 0)) .nil)))) (.tst (.prim (.cmp .Eq) (.cons (.call 4 (.cons (.var 0) (.cons (.lit (.int 4)) .nil))) (.cons (.lit (.int 0)) .nil))))) (.seq (.set 2 (.call 4 (.cons (.var 0) (.cons (.prim .len (.cons (.var 1) .nil)) .nil)))) (.seq (.set 1 (.prim (.bin .Add) (.cons (.prim (.bin .Add) (.cons (.prim (.slc false true) (.cons (.var 1) (.cons (.var 2) .nil))) (.cons (.prim .lst (.cons (.call 14 (.cons (.var 0) (.cons (.prim .ix (.cons (.var 1) (.cons (.var 2) .nil))) .nil))) .nil)) .nil))) (.cons (.prim (.slc true false) (.cons (.var 1) (.cons (.prim (.bin .Add) (.cons (.var 2) (.cons (.lit (.int 1)) .nil))) .nil))) .nil)))) .pass)) .pass) (.seq (.ifs (.and_ (.tst (.prim (.cmp .Gt) (.cons (.prim .len (.cons (.var 1) .nil)) (.cons (.lit (.int 0)) .nil)))) (.tst (.prim (.cmp .Eq) (.cons (.call 4 (.cons (.var 0) (.cons (.lit (.int 8)) .nil))) (.cons (.lit (.int 0)) .nil))))) (.seq (.set 1 (.prim (.slc false true) (.cons (.prim (.bin .Mult) (.cons (.var 1) (.cons (.lit (.int 10)) .nil))) (.cons (.prim .ix (.cons (.prim .lst (.cons (.lit (.int 10)) (.cons (.lit (.int 11)) (.cons (.lit (.int 9)) .nil)))) (.cons (.call 4 (.cons (.var 0) (.cons (.lit (.int 3)) .nil))) .nil))) .nil)))) .pass) .pass) (.seq (.ret (.var 1)) .pass)))⟩
noncomputable def O3:MDef:=⟨1,1,(.seq (.ifs (.tst (.prim (.cmp .Gt) (.cons (.prim .len (.cons (.var 0) .nil)) (.cons (.lit (.int 9)) .nil)))) (.seq (.ret (.lit (.str "TooMany"))) .pass) .pass) (.seq (.ifs (.not_ (.tst (.prim .all (.cons (.comp [] 2 (.one 1) (.itE (.var 0)) .no (.call 13 (.cons (.var 1) .nil))) .nil)))) (.seq (.ret (.lit (.str "BadCoin"))) .pass) .pass) (.seq (.ret (.lit (.str ""))) .pass)))⟩
structure Ex(g g':G):Prop where
 len:g.length<=g'.length
 old:∀i,i<g.length->g'[i]?=g[i]?
theorem Ex.refl(g:G):Ex g g:=⟨Nat.le_refl _,fun _ _=>rfl⟩
theorem Ex.trans{g g1 g2:G}(a:Ex g g1)(b:Ex g1 g2):Ex g g2:=⟨Nat.le_trans a.len b.len,fun i h=>(b.old i (Nat.lt_of_lt_of_le h a.len)).trans (a.old i h)⟩
theorem Ex.snoc(g:G)(o:O):Ex g (g++[o]):=⟨by simp,fun i h=>List.getElem?_append_left h⟩
theorem Ex.at{g g':G}(h:Ex g g'){i:Nat}{o:O}(e:g[i]?=some o):g'[i]?=some o:=(h.old i (m8 e)).trans e
theorem Ex.gr{g g':G}(h:Ex g g')(d:Nat):Gr d g g':=⟨h.len,fun i _ h2=>h.old i h2⟩
theorem Ex.draw{g g':G}{d:Nat}(h:Ex g g')(D0:d9 g d):d9 g' d:=by
 obtain⟨s,p,b,r,xs,e1,e2,q⟩:=D0.ex;exact⟨s,p,b,r,xs,h.at e1,h.at e2,q⟩
inductive u6(g:G):Nat->D->D->Prop
 |non {n:Nat}:u6 g n .non .non
 |bl {n:Nat} (b:Bool):u6 g n (.bl b) (.bl b)
 |int {n:Nat} (i:Int):u6 g n (.int i) (.int i)
 |str {n:Nat} (x:Str):u6 g n (.str x) (.str x)
 |tup {n:Nat} {l m:List D} (hl:l.length=m.length) (h:∀(i:Nat) x y,l[i]?=some x->m[i]?=some y->u6 g n x y) (hz:m.length<=1000):u6 g (n+1) (.tup l) (.tup m)
 |lst {n a b:Nat} {l m:List D} (ha:g[a]?=some (.lst l)) (hb:g[b]?=some (.lst m)) (hl:l.length=m.length) (h:∀(i:Nat) x y,l[i]?=some x->m[i]?=some y->u6 g n x y) (hz:m.length<=1000):u6 g (n+1) (.ref a) (.ref b)
theorem u6.ex{g g':G}(e:Ex g g'){n:Nat}{x y:D}(h:u6 g n x y):u6 g' n x y:=by
 induction h with
 |non=>exact .non
 |bl b=>exact .bl b
 |int i=>exact .int i
 |str x=>exact .str x
 |tup hl h hz ih=>exact .tup hl ih hz
 |lst ha hb hl h hz ih=>exact .lst (e.at ha) (e.at hb) hl ih hz
section
variable{T:Nat->Option MDef}{k d:Nat}{g:G}{Q:KD}{E:KX}
theorem aG9(h6:T 6=some ap7){i:Int}(h:Q (.bl true) g):b8 T (k+1) 6 [.int i] g Q E:=by
 refine call_of h6 rfl ?_;dsimp[ap7,d5,List.replicate];walk_at "w5";refine isi (c:="int") (b:=true) (by decide) rfl ?_;walk_at "w5";refine isi (c:="bool") (b:=false) (by decide) rfl ?_;walk_at "w5";exact h
noncomputable def aw4:MS:=match v8.body with
 |.seq _ (.seq _ (.seq _ (.seq _ (.seq _ b))))=>b
 |x=>x
theorem aH8(h6:T 6=some ap7)(h7:T 7=some v8):∀(n:Nat) {k:Nat} {g:G} {x y:D} {Q:KD} {E:KX},u6 g n x y->(∀g',Ex g g'->Q (.bl true) g')->b8 T (k+n+2) 7 [x,y] g Q E:=by
 have seqs:∀(n:Nat),(∀{k:Nat} {g:G} {x y:D} {Q:KD} {E:KX},u6 g n x y->(∀g',Ex g g'->Q (.bl true) g')->b8 T (k+n+2) 7 [x,y] g Q E) ->
   ∀{k:Nat} {g:G} {x y:D} {l m:List D} {Q:KD} {E:KX},(∀g',Ex g g'->B7 g' x=some l)->(∀g',Ex g g'->B7 g' y=some m)->l.length=m.length->m.length<=1000->(∀(i:Nat) x y,l[i]?=some x->m[i]?=some y->u6 g n x y)->(∀g',Ex g g'->Q (.bl true) g') ->
   wpS (b8 T (k+n+2)) aw4 ⟨fun _ g'=>Q .non g',Q,fun _ _=>False,fun _ _=>False⟩ [some x,some y] g E:=by
  intro n ih k g x y l m Q E hx hy hl hz hs hQ;have len:∀(z:D) (l:List D) (g':G) (Q':KD),B7 g' z=some l->Q' (.int l.length) g'->prP .len [z] g' Q':=fun z l g' Q' e q=>⟨_,_,⟨rfl,.inl ⟨z,l,rfl,e,rfl⟩⟩,q⟩
  dsimp[aw4,v8];refine ax9 (ay0 (ax7 (aa3 (an5 (w_var rfl (len _ _ _ _ (hx g (Ex.refl g)) ?_))))));refine an5 (w_var rfl (len _ _ _ _ (hy g (Ex.refl g)) ?_));refine aV4 ?_;rw[hl,decide_eq_true rfl];walk_at "w5";refine E0 (b0 T _) (K8 (b0 T _) ?_);refine an5 (w_var rfl (len _ _ _ _ (hy g (Ex.refl g)) ?_));refine⟨_,rfl,by omega,by omega,i0 0 m.length,fun i ys σ g'=>∃z w,ys=List.replicate i (.bl true)/\σ=[some y,some x,z,w]/\Ex g g',by rw[o9];exact hz,fun i ys σ g' p=>⟨p7,?_⟩,⟨none,none,rfl,rfl,Ex.refl g⟩,fun i z ys σ g' hz p=>?_,fun ys σ g' p=>?_⟩
  ·obtain⟨z,w,rfl,_⟩:=p;simp
  ·obtain⟨z,w,rfl,rfl,e⟩:=p;obtain⟨hi,rfl⟩:=q9 hz;have h1:l[i]?=some l[i]:=List.getElem?_eq_getElem (by omega);have h2:m[i]?=some m[i]:=List.getElem?_eq_getElem hi;have a1:atI l (0+(i:Int))=some l[i]:=by rw[Int.zero_add];exact o6 h1
   have a2:atI m (0+(i:Int))=some m[i]:=by rw[Int.zero_add];exact o6 h2
   show wpT _ _ _ _ _ _;refine aT1 (ift (ac2 (M4 (aa3 (w_var rfl (w_var rfl ⟨_,_,⟨rfl,.inl ⟨_,l,_,rfl,hx g' e,a1⟩⟩,?_⟩))))));refine M4 (aa3 (w_var rfl (w_var rfl ⟨_,_,⟨rfl,.inl ⟨_,m,_,rfl,hy g' e,a2⟩⟩,?_⟩)));refine al7 (ih ((hs i _ _ h1 h2).ex e) fun g2 e2=>?_);exact⟨_,_,by rw[List.replicate_succ'],rfl,e.trans e2⟩
  ·obtain⟨z,w,rfl,rfl,e⟩:=p;refine aV7 (a7 b9) (v:=true) ?_ (hQ _ (e.trans (Ex.snoc _ _)));have:List.replicate (i0 0 m.length).length (D.bl true)=(List.replicate (i0 0 m.length).length true).map D.bl:=by simp
   rw[this,ak9];simp
 intro n
 induction n with
 |zero =>
  intro k g x y Q E h hQ;have h0:=hQ g (Ex.refl g);cases h with
  |non =>
   refine call_of h7 rfl ?_;dsimp[v8,d5,List.replicate];walk_at "w5";exact h0
  |bl b=>exact aw3 h7 (by simpa using h0)
  |int i =>
   refine call_of h7 rfl ?_;dsimp[v8,d5,List.replicate];walk_at "w5"
   try show wpS _ _ _ _ _ _
   walk_at "w5";refine isi (c:="bool") (b:=false) (by decide) rfl ?_;walk_at "w5";refine isi (c:="int") (b:=true) (by decide) rfl ?_;walk_at "w5";refine aG9 h6 ?_;walk_at "w5";simpa using h0
  |str x =>
   refine call_of h7 rfl ?_;dsimp[v8,d5,List.replicate];walk_at "w5"
   try show wpS _ _ _ _ _ _
   walk_at "w5";refine isi (c:="bool") (b:=false) (by decide) rfl ?_;walk_at "w5";refine isi (c:="int") (b:=false) (by decide) rfl ?_;walk_at "w5";refine isi (c:="str") (b:=true) (by decide) rfl ?_;walk_at "w5";refine isi (c:="str") (b:=true) (by decide) rfl ?_;walk_at "w5";simpa using h0
 |succ n ih =>
  intro k g x y Q E h hQ;have h0:=hQ g (Ex.refl g);cases h with
  |non =>
   refine call_of h7 rfl ?_;dsimp[v8,d5,List.replicate];walk_at "w5";exact h0
  |bl b=>exact aw3 h7 (by simpa using h0)
  |int i =>
   refine call_of h7 rfl ?_;dsimp[v8,d5,List.replicate];walk_at "w5"
   try show wpS _ _ _ _ _ _
   walk_at "w5";refine isi (c:="bool") (b:=false) (by decide) rfl ?_;walk_at "w5";refine isi (c:="int") (b:=true) (by decide) rfl ?_;walk_at "w5";refine aG9 h6 ?_;walk_at "w5";simpa using h0
  |str x =>
   refine call_of h7 rfl ?_;dsimp[v8,d5,List.replicate];walk_at "w5"
   try show wpS _ _ _ _ _ _
   walk_at "w5";refine isi (c:="bool") (b:=false) (by decide) rfl ?_;walk_at "w5";refine isi (c:="int") (b:=false) (by decide) rfl ?_;walk_at "w5";refine isi (c:="str") (b:=true) (by decide) rfl ?_;walk_at "w5";refine isi (c:="str") (b:=true) (by decide) rfl ?_;walk_at "w5";simpa using h0
  |@tup _ l m hl hs hz =>
   refine call_of h7 rfl ?_;have body:=seqs n ih (k:=k) (x:=.tup l) (y:=.tup m) (E:=E) (fun _ _=>rfl) (fun _ _=>rfl) hl hz hs hQ;dsimp[v8,d5,List.replicate];walk_at "w5"
   try show wpS _ _ _ _ _ _
   walk_at "w5";refine isi (c:="bool") (b:=false) (by decide) rfl ?_;walk_at "w5";refine isi (c:="int") (b:=false) (by decide) rfl ?_;walk_at "w5";refine isi (c:="str") (b:=false) (by decide) rfl ?_;walk_at "w5";refine isi (c:="tuple") (b:=true) (by decide) rfl ?_;walk_at "w5";refine isi (c:="tuple") (b:=true) (by decide) rfl ?_;walk_at "w5";refine ifF rfl ?_;walk_at "w5";refine isi (c:="list") (b:=false) (by decide) rfl ?_;walk_at "w5";refine isi (c:="list") (b:=false) (by decide) rfl ?_;walk_at "w5";refine ifF rfl (A4 ?_);exact body
  |@lst _ a b l m ha hb hl hs hz =>
   refine call_of h7 rfl ?_;have body:=seqs n ih (k:=k) (x:=.ref a) (y:=.ref b) (E:=E) (fun g' e=>a7 (e.at ha)) (fun g' e=>a7 (e.at hb)) hl hz hs hQ;have ta:∀c,W9 g (.ref a) c=some (c=="list"):=fun c=>by simp only[W9,ha]
   have tb:∀c,W9 g (.ref b) c=some (c=="list"):=fun c=>by simp only[W9,hb]
   dsimp[v8,d5,List.replicate];walk_at "w5"
   try show wpS _ _ _ _ _ _
   walk_at "w5";refine isi (c:="bool") (b:=false) (by decide) (tb _) ?_;walk_at "w5";refine isi (c:="int") (b:=false) (by decide) (tb _) ?_;walk_at "w5";refine isi (c:="str") (b:=false) (by decide) (tb _) ?_;walk_at "w5";refine isi (c:="tuple") (b:=false) (by decide) (tb _) ?_;walk_at "w5";refine isi (c:="tuple") (b:=false) (by decide) (ta _) ?_;walk_at "w5";refine ifF rfl ?_;walk_at "w5";refine isi (c:="list") (b:=true) (by decide) (tb _) ?_;walk_at "w5";refine isi (c:="list") (b:=true) (by decide) (ta _) ?_;walk_at "w5";refine ifF rfl (A4 ?_);exact body
end
theorem Ex.bt6{g g':G}(h:Gr g.length g g'):Ex g g':=⟨h.len,fun i hi=>h.old i (by omega) hi⟩
section
variable{T:Nat->Option MDef}{k d:Nat}{g:G}{Q:KD}{E:KX}
theorem aQ6{g:G}{x:Str}{kb:Bool->Prop}(hx:PyData.strOk x=true)(h:kb (decide (x="lower")||decide (x="upper"))):inP g (.str x) (.tup [.str "lower",.str "upper"]) kb:=by
 refine⟨_,.inr ⟨_,[.str "lower",.str "upper"],.str x,rfl,rfl,rfl,by simp only[PyData.canLayAll0,PyData.canLay0,Bool.and_true];decide +kernel,by simp only[PyData.canLay0];exact hx,rfl⟩,?_⟩;have e:∀y:Str,PyData.eqv (.str y) (.str x)=decide (x=y):=fun y=>by
  simp only[PyData.eqv];rw[Bool.eq_iff_iff,beq_iff_eq,decide_eq_true_iff];exact eq_comm
 simp only[List.any_cons,List.any_nil,Bool.or_false,e];exact h
theorem al4(h40:T 40=some L7){x:Str}(ho:PyData.strOk x=true)(h1:x="lower"\/x="upper"->Q .non g)(h3:x≠"lower"->x≠"upper"->E ⟨"BadSide"⟩ g):b8 T (k+1) 40 [.str x] g Q E:=by
 refine call_of h40 rfl ?_;dsimp[L7,d5,List.replicate];walk_at "w5";refine aV3 (aQ6 ho ?_);walk_at "w5";by_cases e:x="lower"\/x="upper"
 ·refine ifF (by rw[Bool.not_eq_false',Bool.or_eq_true,decide_eq_true_iff,decide_eq_true_iff];exact e) ?_;walk_at "w5";exact h1 e
 ·refine ifT (by rw[Bool.not_eq_true',Bool.or_eq_false_iff,decide_eq_false_iff_not,decide_eq_false_iff_not];exact not_or.mp e) ?_;walk_at "w5";exact h3 (fun z=>e (.inl z)) (fun z=>e (.inr z))
theorem E5(h19:DfC T){x:Str}(ho:PyData.strOk x=true)(h1:x="lower"->Q (.int 0) g)(h2:x="upper"->Q (.int 2) g)(h3:x≠"lower"->x≠"upper"->E ⟨"BadSide"⟩ g):b8 T (k+2) 19 [.str x] g Q E:=by
 refine call_of h19.1 rfl ?_;dsimp[W5,d5,List.replicate];walk_at "w5";refine al4 h19.2 ho (fun hx=>?_) h3;walk_at "w5";by_cases e1:x="lower"
 ·have el:C0 [.tup [.str "lower",.int 0],.tup [.str "upper",.int 2]] x=some (.int 0):=by simp[C0,e1]
  refine aU6 el ?_;exact h1 e1
 ·have e2:x="upper":=hx.resolve_left e1;have el:C0 [.tup [.str "lower",.int 0],.tup [.str "upper",.int 2]] x=some (.int 2):=by simp[C0,e1];simp[e2]
  refine aU6 el ?_;exact h2 e2
noncomputable def CB(c:a8):Prop:=c.lm.length<=8/\c.um.length<=8
theorem ah5(h1:NF T)(h2:T 2=some v9)(h12:T 12=some q8)(h18:CkC T){a:Nat}{cs:List a8}(ha:g[a]?=some (.lst (cs.map a8.d)))(hz:cs.length<=1000)(hm:9<cs.length->E ⟨"TooMany"⟩ g)(hb:cs.length<=9->cs.all j7=false->E ⟨"BadCoin"⟩ g)(h:cs.length<=9->cs.all j7=true->Q .non g):b8 T (k+6) 18 [.ref a] g Q E:=by
 refine call_of h18.1 rfl ?_;dsimp[P4,d5,List.replicate];walk_at "w5";rw[List.length_map];refine if2 (fun c=>?_) (fun c=>?_)
 ·walk_at "w5";exact hm (by omega)
 have h9:cs.length<=9:=by omega
 walk_at "w5";refine A7 (b0 T _) (i_l (b0 T _) ?_);walk_at "w5";refine⟨a,_,rfl,a7 ha,cs.map a8.d,fun i σ g'=>∃z,σ=[some (.ref a),z]/\g'=g/\(cs.take i).all j7=true,fun i σ g' p=>?_,⟨none,rfl,rfl,by simp⟩,fun i x σ g' hx p=>?_,fun σ g' p=>?_⟩
 ·obtain⟨z,rfl,rfl,_⟩:=p;exact W7 (a7 ha)
 ·obtain⟨z,rfl,rfl,hg⟩:=p;rw[List.getElem?_map,Option.map_eq_some_iff] at hx;obtain⟨c,hc,rfl⟩:=hx;refine w9 ?_
  try show wpS _ _ _ _ _ _
  walk_at "w5";refine call_of h18.2 rfl ?_;dsimp[S9,d5,List.replicate];walk_at "w5";refine aq8 h1 h2 h12 ?_;walk_at "w5";cases e:j7 c with
  |true =>
   walk_at "w5";refine⟨_,rfl,rfl,?_⟩;rw[List.take_succ,hc];simp[hg,e]
  |false =>
   refine bf0 ?_;walk_at "w5";refine hb h9 ?_;rw[List.all_eq_false];exact⟨c,List.mem_of_getElem? hc,by rw[e];decide⟩
 ·obtain⟨z,rfl,rfl,hg⟩:=p;rw[List.length_map,List.take_length] at hg;exact h h9 hg
noncomputable def wordOf(cs:List a8):Str:=if 9<cs.length then "TooMany" else if cs.all j7=true then "" else "BadCoin"
theorem aq1(h8:T 8=some F9)(h13:T 13=some C6)(h28:T 28=some O3){a:Nat}{cs:List a8}(ha:g[a]?=some (.lst (cs.map a8.d)))(hz:cs.length<=1000)(h:∀g',Ex g g'->Q (.str (wordOf cs)) g'):b8 T (k+3) 28 [.ref a] g Q E:=by
 refine call_of h28 rfl ?_;dsimp[O3,d5,List.replicate];walk_at "w5";rw[List.length_map];refine if2 (fun c=>?_) (fun c=>?_)
 ·walk_at "w5";have:=h g (Ex.refl g);unfold wordOf at this
  rwa [if_pos (by omega)] at this
 have h9:¬9<cs.length:=by omega
 walk_at "w5";refine E0 (b0 T _) (i_l (b0 T _) ?_);walk_at "w5";refine⟨a,_,rfl,a7 ha,cs.map a8.d,fun i ys σ g'=>∃z w,ys=((cs.take i).map j7).map D.bl/\σ=[z,w]/\Ex g g',by simpa using hz,fun i ys σ g' p=>?_,⟨none,none,rfl,rfl,Ex.refl g⟩,fun i x ys σ g' hx p=>?_,fun ys σ g' p=>?_⟩
 ·obtain⟨z,w,rfl,rfl,e⟩:=p;exact⟨W7 (a7 (e.at ha)),by simp;omega⟩
 ·obtain⟨z,w,rfl,rfl,e⟩:=p;rw[List.getElem?_map,Option.map_eq_some_iff] at hx;obtain⟨c,hc,rfl⟩:=hx;show wpT _ _ _ _ _ _;walk_at "w5";refine aB7 (d:=g'.length) h8 h13 fun g2 G2 _=>?_;refine⟨_,_,?_,rfl,e.trans (Ex.bt6 G2)⟩;rw[List.take_succ,hc];simp
 ·obtain⟨z,w,rfl,rfl,e⟩:=p;refine aV7 (a7 b9) (ak9 _) ?_;have eb:((cs.take (cs.map a8.d).length).map j7).all id=cs.all j7:=by
   rw[List.length_map,List.take_length,List.all_map]
   rfl
  rw[eb];have h':=h _ (e.trans (Ex.snoc _ (.lst (((cs.take (cs.map a8.d).length).map j7).map D.bl))));unfold wordOf at h';rw[if_neg h9] at h';cases hc:cs.all j7 with
  |true =>
   rw[hc,if_pos rfl] at h';walk_at "w5";exact h'
  |false =>
   rw[hc,if_neg (by decide)] at h';walk_at "w5";exact h'
end
section
variable{T:Nat->Option MDef}{k d:Nat}{g:G}{Q:KD}{E:KX}
theorem al6(h4:T 4=some t6)(h5:T 5=some W3)(h14:T 14=some K4){c:a8}(hB:CB c)(D0:d9 g d)(h:∀(c':a8) g',CB c'->d9 g' d->Gr d g g'->Q c'.d g'):b8 T (k+3) 14 [.ref d,c.d] g Q E:=by
 refine call_of h14 rfl ?_;dsimp[K4,d5,List.replicate,a8.d];walk_at "w5";refine c9 h4 D0 (by decide) (by decide) fun way g1 _ _ D1 G1=>?_;walk_at "w5";refine c9 h4 (D1.snoc _) (by decide) (by decide) fun r g2 r0 r1 D2 G2=>?_;have e2:=G2.at (i:=g1.length) (by have:=D1.lt;omega) (o:=.lst ([[1,0],[3,3],[8],[-1,2],[0,9],[7,10 ^ 20]].map fun l=>D.tup (l.map D.int))) (by simp);obtain⟨v,hv,hm⟩:=t4 (l:=[[1,0],[3,3],[8],[-1,2],[0,9],[7,10 ^ 20]].map fun l=>D.tup (l.map D.int)) r0 (by simpa using r1);obtain⟨odd,ho,rfl⟩:=List.mem_map.mp hm;have hodd:odd.length<=8:=by
  simp only[List.mem_cons,List.mem_nil_iff,or_false] at ho;rcases ho with rfl|rfl|rfl|rfl|rfl|rfl<;>decide
 refine m7 (a7 e2) hv ?_;walk_at "w5";refine aJ1 h4 h5 D2 fun f g3 D3 G3=>?_;walk_at "w5";refine c9 h4 (D3.snoc _) (by decide) (by decide) fun r' g4 r0' r1' D4 G4=>?_;have e4:=G4.at (i:=g3.length) (by have:=D3.lt;omega) (o:=.lst ([0,100,-1,f].map D.int)) (by simp);obtain⟨v',hv',hm'⟩:=t4 (l:=[0,100,-1,f].map D.int) r0' (by simpa using r1');obtain⟨num,_,rfl⟩:=List.mem_map.mp hm';refine m7 (a7 e4) hv' ?_;have G:Gr d g g4:=G1.trans ((Gr.snoc _ _ _).trans (G2.trans (G3.trans ((Gr.snoc _ _ _).trans G4))));walk_at "w5";refine if2 (fun _=>?_) (fun _=>?_)
 ·walk_at "w5";exact h ⟨num,c.lm,c.up,c.um,c.yr⟩ g4 hB D4 G
 walk_at "w5";refine if2 (fun _=>?_) (fun _=>?_)
 ·walk_at "w5";exact h ⟨c.lo,odd,c.up,c.um,c.yr⟩ g4 ⟨hodd,hB.2⟩ D4 G
 walk_at "w5";refine if2 (fun _=>?_) (fun _=>?_)
 ·walk_at "w5";exact h ⟨c.lo,c.lm,num,c.um,c.yr⟩ g4 hB D4 G
 walk_at "w5";refine if2 (fun _=>?_) (fun _=>?_)
 ·walk_at "w5";exact h ⟨c.lo,c.lm,c.up,odd,c.yr⟩ g4 ⟨hB.1,hodd⟩ D4 G
 walk_at "w5";refine if2 (fun _=>?_) (fun _=>?_)
 ·walk_at "w5";refine aJ1 h4 h5 D4 fun f' g5 D5 G5=>?_;walk_at "w5";refine c9 h4 (D5.snoc _) (by decide) (by decide) fun r'' g6 r0'' r1'' D6 G6=>?_;have e6:=G6.at (i:=g5.length) (by have:=D5.lt;omega) (o:=.lst ([-1,10000,9999,f'].map D.int)) (by simp);obtain⟨v'',hv'',hm''⟩:=t4 (l:=[-1,10000,9999,f'].map D.int) r0'' (by simpa using r1'');obtain⟨num',_,rfl⟩:=List.mem_map.mp hm'';refine m7 (a7 e6) hv'' ?_;walk_at "w5";exact h ⟨c.lo,c.lm,c.up,c.um,num'⟩ g6 hB D6 (G.trans (G5.trans ((Gr.snoc _ _ _).trans G6)))
 walk_at "w5";exact h c g4 hB D4 G
theorem bg1{α:Type}{l:List α}{n:Nat}:cut l (some (n:Int)) none=l.drop n:=by
 have:¬((n:Int)<0):=by omega
 unfold cut HT.sIx;simp[this];by_cases h:n<=l.length
 ·rw[Nat.min_eq_left h,List.take_of_length_le (by simp)]
 ·rw[Nat.min_eq_right (by omega),List.drop_eq_nil_of_le (Nat.le_refl _),List.drop_eq_nil_of_le (by omega)];simp
theorem as9(h4:T 4=some t6)(h5:T 5=some W3)(h14:T 14=some K4)(h27:T 27=some C7){a:Nat}{cs:List a8}(ha:g[a]?=some (.lst (cs.map a8.d)))(hB:∀c∈cs,CB c)(hz:cs.length<=9)(hd:d<a)(D0:d9 g d)(h:∀(cs':List a8) b g',(∀c∈cs',CB c)->cs'.length<=11->g'[b]?=some (.lst (cs'.map a8.d))->(b=a\/g.length<=b)->d9 g' d->Gr d g g'->Q (.ref b) g'):b8 T (k+4) 27 [.ref d,.ref a] g Q E:=by
 refine call_of h27 rfl ?_;have dl:=D0.lt;have rest:∀(cs1:List a8) b z g1,(∀c∈cs1,CB c)->cs1.length<=9->g1[b]?=some (.lst (cs1.map a8.d))->(b=a\/g.length<=b)->d9 g1 d->Gr d g g1->wpS (b8 T (k+3)) (d7 C7.body) ⟨fun _ g'=>Q .non g',Q,fun _ _=>False,fun _ _=>False⟩ [some (.ref d),some (.ref b),z] g1 E:=by
  intro cs1 b z g1 hB1 hz1 eb hb D1 G1;have lb:d<b:=by rcases hb with z|z<;>omega
  dsimp[C7,d7];walk_at "w5";rw[List.length_map];refine if2 (fun c=>?_) (fun c=>?_)
  ·walk_at "w5";refine c9 h4 D1 (by decide) (by decide) fun r g2 r0 r1 D2 G2=>?_;have eb2:=G2.at (by omega) eb;walk_at "w5";refine if2 (fun c=>?_) (fun c=>?_)
   ·walk_at "w5";refine bp8 eb2 (by decide) (by decide) (by simp;omega) ?_;walk_at "w5";have D3:=(D2.snoc (.lst (List.replicate (Int.toNat 10) (cs1.map a8.d)).flatten)).snoc (.lst [.int 10,.int 11,.int 9]);refine c9 h4 D3 (by decide) (by decide) fun r3 g3 r30 r31 D4 G4=>?_;have l2:=D2.lt;have e5:=G4.at (by simp;omega) (b9 (g:=g2++[.lst (List.replicate (Int.toNat 10) (cs1.map a8.d)).flatten]) (o:=.lst [.int 10,.int 11,.int 9]));have e6:=G4.at (by omega) (i3 (o':=.lst [.int 10,.int 11,.int 9]) (b9 (g:=g2) (o:=.lst (List.replicate (Int.toNat 10) (cs1.map a8.d)).flatten)));obtain⟨x,hx,hm⟩:=t4 (l:=[D.int 10,.int 11,.int 9]) r30 (by simpa using r31);have hn:∃n:Nat,x=.int n/\n<=11:=by
     simp only[List.mem_cons,List.mem_nil_iff,or_false] at hm;rcases hm with rfl|rfl|rfl
     ·exact⟨10,rfl,by decide⟩
     ·exact⟨11,rfl,by decide⟩
     ·exact⟨9,rfl,by decide⟩
    obtain⟨n,rfl,hn⟩:=hn;refine m7 (a7 e5) hx ?_;walk_at "w5";refine ac9 (a7 e6) ?_;have er:(List.replicate (Int.toNat 10) (cs1.map a8.d)).flatten=((List.replicate 10 cs1).flatten).map a8.d:=by
     rw[List.map_flatten,List.map_replicate]
     rfl
    rw[er,ah3];have lc:(cut (List.replicate 10 cs1).flatten none (some (n:Int))).length<=11:=by
     unfold cut;rw[List.length_take];have:HT.sIx (List.replicate 10 cs1).flatten.length (List.replicate 10 cs1).flatten.length (some (n:Int))<=n:=by
      have h0:¬((n:Int)<0):=by omega
      simp only[HT.sIx,h0,if_false];omega
     omega
    walk_at "w5";refine h _ _ _ (fun c hc=>?_) lc b9 (.inr ?_) (D4.snoc _) ((G1.trans (G2.trans ((Gr.snoc _ _ _).trans ((Gr.snoc _ _ _).trans G4)))).trans (Gr.snoc _ _ _))
    ·have:=ah2 hc;obtain⟨l,hl,hc⟩:=List.mem_flatten.mp this;rw[List.eq_of_mem_replicate hl] at hc;exact hB1 c hc
    ·exact(G1.trans (G2.trans ((Gr.snoc _ _ _).trans ((Gr.snoc _ _ _).trans G4)))).len
   ·walk_at "w5";exact h _ _ _ hB1 (by omega) eb2 hb D2 (G1.trans G2)
  ·walk_at "w5";exact h _ _ _ hB1 (by omega) eb hb D1 G1
 dsimp[C7,d5,List.replicate];walk_at "w5";rw[List.length_map];refine if2 (fun c=>?_) (fun c=>?_)
 ·walk_at "w5";refine c9 h4 D0 (by decide) (by decide) fun r g2 r0 r1 D2 G2=>?_;have ea2:=G2.at (by omega) ha;walk_at "w5";refine if2 (fun c=>?_) (fun c=>?_)
  ·walk_at "w5";rw[List.length_map];refine c9 (n:=(cs.length:Int)) h4 D2 (by omega) (by omega) fun r3 g3 r30 r31 D3 G3=>?_;have ea3:=G3.at (by omega) ea2;walk_at "w5";refine ac9 (a7 ea3) ?_;walk_at "w5";obtain⟨c0,hc0,e0⟩:=U1 (cs:=cs) r30 r31;refine m7 (a7 (i3 ea3)) e0 ?_;walk_at "w5";refine al6 h4 h5 h14 (hB c0 hc0) (D3.snoc _) fun c' g4 hc' D4 G4=>?_;walk_at "w5";have l3:=D3.lt;have f1:=G4.at (by omega) (b9 (g:=g3) (o:=.lst (cut (cs.map a8.d) none (some r3))));have ea4:=G4.at (by omega) (i3 (o':=.lst (cut (cs.map a8.d) none (some r3))) ea3);rw[ah3] at f1;have lc1:=ax2 cs none (some r3);have lc2:=ax2 cs (some (r3+1)) none;refine aC2 (i3 f1) b9 (by simp;omega) ?_;walk_at "w5";refine a74 (a7 (i3 (i3 ea4))) ?_;rw[ah3];refine aC2 (l:=(cut cs none (some r3)).map a8.d++[c'.d]) (m:=(cut cs (some (r3+1)) none).map a8.d) (i3 b9) b9 (by simp;omega) ?_;have er:List.map a8.d (cut cs none (some r3))++[c'.d]++List.map a8.d (cut cs (some (r3+1)) none)=(cut cs none (some r3)++[c']++cut cs (some (r3+1)) none).map a8.d:=by simp
   rw[er];walk_at "w1";walk_at "w1";have G04:=G2.trans (G3.trans ((Gr.snoc _ _ _).trans G4));have r3n:∃n:Nat,r3=n:=⟨r3.toNat,by omega⟩
   obtain⟨n3,rfl⟩:=r3n;have l9:(cut cs none (some (n3:Int))++[c']++cut cs (some ((n3:Int)+1)) none).length<=9:=by
    rw[aJ8 (by omega),show((n3:Int)+1)=((n3+1:Nat):Int) by omega,bg1];simp;omega
   refine rest _ _ _ _ (fun c hc=>?_) l9 b9 (.inr ?_) ((((D4.snoc _).snoc _).snoc _).snoc _) (G04.trans ((Gr.snoc _ _ _).trans ((Gr.snoc _ _ _).trans ((Gr.snoc _ _ _).trans (Gr.snoc _ _ _)))))
   ·rcases List.mem_append.mp hc with z|z
    ·rcases List.mem_append.mp z with z|z
     ·exact hB c (ah2 z)
     ·simp at z;subst z;exact hc'
    ·exact hB c (ah2 z)
   ·have:=G04.len;simp;omega
  ·refine A4 ?_;exact rest _ _ _ _ hB hz ea2 (.inl rfl) D2 G2
 ·walk_at "w1";refine A4 ?_;exact rest _ _ _ _ hB hz ha (.inl rfl) D0 (Gr.refl _ _)
end
noncomputable def a8.py(c:a8):PyData:=.tuple [.int c.lo,.tuple (c.lm.map .int),.int c.up,.tuple (c.um.map .int),.int c.yr]
theorem aY5{g:G}{n:Nat}(c:a8):rd g (n+2) c.d=some c.py:=by
 unfold a8.d a8.py;simp only[rd,List.mapM_cons,List.mapM_nil,K3]
 rfl
theorem ao9{g:G}{a:Nat}{cs:List a8}(h:d4 g a=some (cs.map a8.d)):rd g 6 (.ref a)=some (.list (cs.map a8.py)):=by
 simp only[rd];rw[h];dsimp only;have:(cs.map a8.d).mapM (rd g 5)=some (cs.map a8.py):=by
  clear h
  induction cs with
  |nil=>rfl
  |cons c r ih =>
   rw[List.map_cons,List.mapM_cons,aY5 (n:=3) c];simp[ih]
 rw[this]
 rfl
theorem aQ4(c:a8):c.py.canLay0=true:=by
 unfold a8.py;simp[PyData.canLay0,PyData.canLayAll0,lay_ints]
theorem aj5(cs:List a8):(PyData.list (cs.map a8.py)).canLay0=true:=by
 simp only[PyData.canLay0]
 induction cs with
 |nil=>rfl
 |cons c r ih=>simp[PyData.canLayAll0,aQ4,ih]
theorem aR2(ms:List Int):PyData.eqvAll (ms.map PyData.int) (ms.map PyData.int)=true:=by rw[P7];simp
theorem aR3(c:a8):PyData.eqv c.py c.py=true:=by
 unfold a8.py;simp[PyData.eqv,PyData.eqvAll,aR2]
theorem aJ3(cs:List a8):PyData.eqv (.list (cs.map a8.py)) (.list (cs.map a8.py))=true:=by
 simp only[PyData.eqv]
 induction cs with
 |nil=>rfl
 |cons c r ih=>simp[PyData.eqvAll,aR3,ih]
theorem aR4{g:G}{a b:Nat}{cs:List a8}{k:Bool->Prop}(ha:g[a]?=some (.lst (cs.map a8.d)))(hb:g[b]?=some (.lst (cs.map a8.d)))(h:k true):eqP g (.ref a) (.ref b) k:=by
 refine⟨_,.inr (.inr (.inr ⟨_,_,ao9 (a7 ha),ao9 (a7 hb),aj5 cs,aj5 cs,rfl⟩)),?_⟩;rw[aJ3];exact h
section
variable{T:Nat->Option MDef}{k d:Nat}{g:G}{Q:KD}{E:KX}
end
theorem aH9{g:G}{a b:Nat}{l:List D}(ha:g[a]?=some (.lst l))(hb:g[b]?=some (.lst l))(h:∀x∈l,(∃i,x=.int i)\/∃y,x=.str y)(hz:l.length<=1000):u6 g 1 (.ref a) (.ref b):=by
 refine .lst ha hb rfl (fun i x y hx hy=>?_) hz;rw[hx] at hy;cases hy;rcases h x (List.mem_of_getElem? hx) with⟨j,rfl⟩|⟨y,rfl⟩
 ·exact .int _
 ·exact .str _
noncomputable def G0:MDef:=⟨2,2,(.seq (.ret (.prim .any (.cons (.comp [0,1] 4 (.one 3) (.itE (.lit (.tup [(.str "lower"),(.str "upper")]))) .no (.prim (.cmp .Eq) (.cons (.prim .ix (.cons (.var 0) (.cons (.call 19 (.cons (.var 3) .nil)) .nil))) (.cons (.prim .ix (.cons (.var 1) (.cons (.call 19 (.cons (.var 3) .nil)) .nil))) .nil)))) .nil))) .pass)⟩
noncomputable def y8:MDef:=⟨2,2,(.seq (.ret (.comp [0,1] 5 (.many [3,4]) (.itN (.var 0)) (.and_ (.tst (.prim (.cmp .NotEq) (.cons (.var 3) (.cons (.var 1) .nil)))) (.tst (.call 76 (.cons (.var 4) (.cons (.prim .ix (.cons (.var 0) (.cons (.var 1) .nil))) .nil))))) (.var 3))) .pass)⟩
noncomputable def N4:MDef:=⟨2,7,(.seq (.set 2 (.dct (.cons (.var 1) (.cons (.lit (.int 0)) .nil)))) (.seq (.set 3 (.prim .lst (.cons (.var 1) .nil))) (.seq (.whil (.tst (.var 3)) (.seq (.set 4 (.prim .lst .nil)) (.seq (.for_ (.one 5) (.itE (.var 3)) (.seq (.for_ (.one 6) (.itE (.call 77 (.cons (.var 0) (.cons (.var 5) .nil)))) (.seq (.ifs (.tst (.prim (.cmp .NotIn) (.cons (.var 6) (.cons (.var 2) .nil)))) (.seq (.setix (.var 2) (.var 6) (.prim (.bin .Add) (.cons (.prim .ix (.cons (.var 2) (.cons (.var 5) .nil))) (.cons (.lit (.int 1)) .nil)))) (.seq (.expr (.meth .append (.var 4) (.cons (.var 6) .nil))) .pass)) .pass) .pass)) .pass)) (.seq (.set 3 (.var 4)) .pass)))) (.seq (.ret (.var 2)) .pass))))⟩
noncomputable def ad7:MDef:=⟨1,4,(.seq (.expr (.call 18 (.cons (.var 0) .nil))) (.seq (.set 1 (.prim .lst .nil)) (.seq (.for_ (.one 2) (.itR1 (.prim .len (.cons (.var 0) .nil))) (.seq (.set 3 (.prim .sortd (.cons (.call 78 (.cons (.var 0) (.cons (.var 2) .nil))) .nil))) (.seq (.ifs (.tst (.prim (.cmp .Eq) (.cons (.prim .ix (.cons (.var 3) (.cons (.lit (.int 0)) .nil))) (.cons (.var 2) .nil)))) (.seq (.expr (.meth .append (.var 1) (.cons (.var 3) .nil))) .pass) .pass) .pass))) (.seq (.ret (.var 1)) .pass))))⟩
noncomputable def lk(c c':a8):Bool:=decide (c.lo=c'.lo)||decide (c.up=c'.up)
noncomputable def n9(cs:List a8)(i j:Nat):Bool:=match cs[i]?,cs[j]? with
 |some c,some c'=>lk c c'
 |_,_=>false
inductive j6(cs:List a8):Nat->Nat->Prop
 |refl {i:Nat} (h:i<cs.length):j6 cs i i
 |step {i j l:Nat} (h:j6 cs i j) (a:n9 cs j l=true):j6 cs i l
noncomputable def O2(cs:List a8)(p:Nat):List Nat:=(List.range cs.length).filter fun j=>decide (j≠p)&&n9 cs j p
theorem L9{cs:List a8}{i j:Nat}(h:n9 cs i j=true):i<cs.length/\j<cs.length:=by
 unfold n9 at h;split at h
 ·rename_i h1 h2;exact⟨(List.getElem?_eq_some_iff.mp h1).1,(List.getElem?_eq_some_iff.mp h2).1⟩
 ·cases h
theorem a16{c c':a8}:lk c c'=lk c' c:=by
 unfold lk;rw[decide_eq_decide.mpr (show c.lo=c'.lo↔c'.lo=c.lo from⟨Eq.symm,Eq.symm⟩),decide_eq_decide.mpr (show c.up=c'.up↔c'.up=c.up from⟨Eq.symm,Eq.symm⟩)]
theorem O4{cs:List a8}{i j:Nat}(h:n9 cs i j=true):n9 cs j i=true:=by
 unfold n9 at h ⊢;split at h
 ·rename_i h1 h2;rw[h1,h2];exact a16.trans h
 ·cases h
theorem j6.lt{cs:List a8}{i j:Nat}(h:j6 cs i j):i<cs.length/\j<cs.length:=by
 induction h with
 |refl h=>exact⟨h,h⟩
 |step _ a ih=>exact⟨ih.1,(L9 a).2⟩
theorem j6.trans{cs:List a8}{i j l:Nat}(a:j6 cs i j)(b:j6 cs j l):j6 cs i l:=by
 induction b with
 |refl _=>exact a
 |step _ e ih=>exact .step ih e
theorem j6.symm{cs:List a8}{i j:Nat}(h:j6 cs i j):j6 cs j i:=by
 induction h with
 |refl h=>exact .refl h
 |step _ a ih=>exact(j6.step (.refl (L9 a).2) (O4 a)).trans ih
theorem aj1{cs:List a8}{p j:Nat}:j∈O2 cs p↔j≠p/\n9 cs j p=true:=by
 unfold O2;simp only[List.mem_filter,List.mem_range,Bool.and_eq_true,decide_eq_true_eq];exact⟨fun h=>h.2,fun h=>⟨(L9 h.2).1,h⟩⟩
section
variable{T:Nat->Option MDef}{k d:Nat}{g g':G}{Q:KD}{E:KX}{a p:Nat}{cs:List a8}
theorem aH7(h19:DfC T)(h76:T 76=some G0){c c':a8}(h:∀g',Ex g g'->Q (.bl (lk c c')) g'):b8 T (k+3) 76 [c.d,c'.d] g Q E:=by
 refine call_of h76 rfl ?_;dsimp[G0,d5,List.replicate];walk_at "w5";refine ac0 (b0 T _) ?_;walk_at "w5";refine⟨_,rfl,by decide,fun i ys σ g'=>∃z2 z3,ys=([D.bl (decide (c.lo=c'.lo)),.bl (decide (c.up=c'.up))].take i)/\σ=[some c.d,some c'.d,z2,z3]/\g'=g,⟨none,none,rfl,rfl,rfl⟩,fun i ys σ g' q=>?_,fun i x ys σ g' hx q=>?_,fun ys σ g' q=>?_⟩
 ·obtain⟨_,_,rfl,_⟩:=q;rw[List.length_take];omega
 ·obtain⟨z2,z3,rfl,rfl,rfl⟩:=q;refine w9 ?_
  try show wpT _ _ _ _ _ _
  match i,hx with
  |0,hx =>
   cases hx;walk_at "w5";refine E5 (k:=k) h19 (by decide +kernel) (fun _=>?_) (fun z=>absurd z (by decide +kernel)) (fun z=>absurd rfl z);walk_at "w5";refine K7 (l:=[.int c.lo,.tup (c.lm.map .int),.int c.up,.tup (c.um.map .int),.int c.yr]) rfl ?_;walk_at "w5";refine E5 (k:=k) h19 (by decide +kernel) (fun _=>?_) (fun z=>absurd z (by decide +kernel)) (fun z=>absurd rfl z);walk_at "w5";refine K7 (l:=[.int c'.lo,.tup (c'.lm.map .int),.int c'.up,.tup (c'.um.map .int),.int c'.yr]) rfl ?_;walk_at "w5";exact⟨_,_,rfl,rfl,rfl⟩
  |1,hx =>
   cases hx;walk_at "w5";refine E5 (k:=k) h19 (by decide +kernel) (fun z=>absurd z (by decide +kernel)) (fun _=>?_) (fun _ z=>absurd rfl z);walk_at "w5";refine K7 (l:=[.int c.lo,.tup (c.lm.map .int),.int c.up,.tup (c.um.map .int),.int c.yr]) rfl ?_;walk_at "w5";refine E5 (k:=k) h19 (by decide +kernel) (fun z=>absurd z (by decide +kernel)) (fun _=>?_) (fun _ z=>absurd rfl z);walk_at "w5";refine K7 (l:=[.int c'.lo,.tup (c'.lm.map .int),.int c'.up,.tup (c'.um.map .int),.int c'.yr]) rfl ?_;walk_at "w5";exact⟨_,_,rfl,rfl,rfl⟩
  |i+2,hx=>simp at hx
 ·obtain⟨z2,z3,rfl,rfl,rfl⟩:=q;refine bp9 (a7 b9) (v:=lk c c') ?_ ?_
  ·show(O7 [D.bl (decide (c.lo=c'.lo)),.bl (decide (c.up=c'.up))])=some (lk c c');simp[O7,lk]
  ·walk_at "w5";exact h _ (Ex.snoc _ _)
theorem aP9(h19:DfC T)(h76:T 76=some G0)(h77:T 77=some y8)(ha:g[a]?=some (.lst (cs.map a8.d)))(hz:cs.length<=9)(hp:p<cs.length)(h:∀g' i,Ex g g'->g.length<=i->g'[i]?=some (.lst ((O2 cs p).map fun j=>.int (j:Nat)))->Q (.ref i) g'):b8 T (k+4) 77 [.ref a,.int (p:Nat)] g Q E:=by
 refine call_of h77 rfl ?_;dsimp[y8,d5,List.replicate];walk_at "w5";refine E0 (b0 T _) (i_n ?_);walk_at "w5";have hcp:=List.getElem?_eq_getElem hp;generalize cs[p]=cp at hcp;have gp:atI (cs.map a8.d) (p:Int)=some cp.d:=o6 (by rw[List.getElem?_map,hcp];rfl);refine⟨a,_,rfl,a7 ha,enD (cs.map a8.d),fun i ys σ g'=>Ex g g'/\ys=(((List.range i).filter fun j=>decide (j≠p)&&n9 cs j p).map fun j=>D.int (j:Nat))/\∃z2 z3 z4,σ=[some (.ref a),some (.int (p:Nat)),z2,z3,z4],by rw[ax0];simp;omega,fun i ys σ g' q=>⟨be5 (a7 (q.1.at ha)),?_⟩,⟨Ex.refl _,rfl,none,none,none,rfl⟩,fun i x ys σ g' hx q=>?_,fun ys σ g' q=>?_⟩
 ·obtain⟨_,rfl,_⟩:=q;rw[List.length_map];exact Nat.le_trans (List.length_filter_le _ _) (by simp)
 ·obtain⟨e1,rfl,z2,z3,z4,rfl⟩:=q;obtain⟨dd,hd,rfl⟩:=a30 hx;rw[List.getElem?_map,Option.map_eq_some_iff] at hd;obtain⟨c,hc,rfl⟩:=hd;refine ag0 rfl ?_
  try show wpT _ _ _ _ _ _
  have el:n9 cs i p=lk c cp:=by unfold n9;rw[hc,hcp]
  have ef:(List.range (i+1)).filter (fun j=>decide (j≠p)&&n9 cs j p)=(List.range i).filter (fun j=>decide (j≠p)&&n9 cs j p)++if(decide (i≠p)&&n9 cs i p)=true then[i] else[]:=by
   rw[List.range_succ,List.filter_append]
   congr 1
   cases z:(decide (i≠p)&&n9 cs i p)<;>simp only[List.filter_cons,z,List.filter_nil]<;>rfl
  walk_at "w5";have ei:decide (((i:Nat):Int)=((p:Nat):Int))=decide (i=p):=by
   rw[decide_eq_decide];omega
  rw[ei];by_cases hip:i=p
  ·refine ifF (by simp[hip]) ?_;refine⟨e1,?_,_,_,_,rfl⟩;rw[ef,if_neg (by simp[hip]),List.append_nil]
  ·refine ifT (by simp[hip]) ?_;walk_at "w5";refine m7 (a7 (e1.at ha)) gp ?_;walk_at "w5";refine aH7 (k:=k) h19 h76 fun g2 e2=>?_;walk_at "w5";cases hlk:lk c cp with
   |true =>
    refine ifT rfl ?_;walk_at "w5";refine⟨e1.trans e2,?_,_,_,_,rfl⟩;rw[ef,if_pos (by rw[el,hlk];simp[hip])];simp
   |false =>
    refine ifF rfl ?_;refine⟨e1.trans e2,?_,_,_,_,rfl⟩;rw[ef,if_neg (by rw[el,hlk];simp),List.append_nil]
 ·obtain⟨e1,rfl,z2,z3,z4,rfl⟩:=q;walk_at "w5";rw[ax0,List.length_map];exact h _ _ (e1.trans (Ex.snoc _ _)) e1.len b9
end
theorem aa4{kvs:List (Key×D)}{c:Key}:(o7 kvs c).isSome=true↔c∈kvs.map (·.1):=by
 unfold o7;rw[Option.isSome_map,List.find?_isSome];simp only[List.mem_map,decide_eq_true_eq]
theorem aY9{kvs:List (Key×D)}{c:Key}{v:D}(h:c∉kvs.map (·.1)):putD kvs c v=kvs++[(c,v)]:=by
 unfold putD;rw[if_neg];intro z;rw[List.any_eq_true] at z;obtain⟨kv,h1,h2⟩:=z;exact h (List.mem_map.mpr ⟨kv,h1,of_decide_eq_true h2⟩)
noncomputable abbrev kI(j:Nat):Key:=.inl (j:Int)
theorem aq4{S:List Nat}{j:Nat}:kI j∈S.map kI↔j∈S:=by
 rw[List.mem_map];constructor
 ·rintro⟨i,h,e⟩;have:(i:Int)=j:=Sum.inl.inj e;rw[show j=i by omega];exact h
 ·exact fun h=>⟨j,h,rfl⟩
theorem M9:∀{n:Nat} {S:List Nat},S.Nodup->(∀j∈S,j<n)->S.length<=n
 |0,S,_,h=>by
  cases S with
  |nil=>simp
  |cons a l=>exact absurd (h a (by simp)) (by omega)
 |n+1,S,nd,h=>by
  have:=M9 (n:=n) (nd.erase n) fun j hj=>by
   have h1:=(nd.mem_erase_iff.mp hj)
   have h2:=h j h1.2;omega
  by_cases hn:n∈S
  ·rw[List.length_erase_of_mem hn] at this;omega
  ·rw[List.erase_of_not_mem hn] at this;omega
structure Stp(g:G)(sd:Nat)(S:List Nat):Prop where
 ex:∃kvs:List (Key×D),g[sd]?=some (.dic kvs)/\kvs.map (·.1)=S.map kI/\∀kv∈kvs,∃v,kv.2=.int v
section
variable{T:Nat->Option MDef}{k d:Nat}{g g':G}{Q:KD}{E:KX}{a p sd:Nat}{cs:List a8}{S:List Nat}
theorem Stp.ex'(h:Stp g sd S)(e:Ex g g'):Stp g' sd S:=let ⟨kvs,h1,h2⟩:=h.ex;⟨⟨kvs,e.at h1,h2⟩⟩
theorem Stp.val(h:Stp g sd S){j:Nat}(hj:j∈S):∃kvs v,g[sd]?=some (.dic kvs)/\o7 kvs (kI j)=some (.int v):=by
 obtain⟨kvs,h1,h2,h3⟩:=h.ex;have:(o7 kvs (kI j)).isSome=true:=aa4.mpr (by rw[h2];exact aq4.mpr hj);obtain⟨x,hx⟩:=Option.isSome_iff_exists.mp this;have:∃kv∈kvs,kv.2=x:=by
  unfold o7 at hx;obtain⟨kv,h4,h5⟩:=Option.map_eq_some_iff.mp hx;exact⟨kv,List.mem_of_find?_eq_some h4,h5⟩
 obtain⟨kv,h4,rfl⟩:=this;obtain⟨v,hv⟩:=h3 kv h4;exact⟨kvs,v,h1,by rw[hx,hv]⟩
theorem aM1(h19:DfC T)(h76:T 76=some G0)(h77:T 77=some y8)(h78:T 78=some N4)(ha:g[a]?=some (.lst (cs.map a8.d)))(hz:cs.length<=9)(hp:p<cs.length)(h:∀g' sd S,Ex g g'->g.length<=sd->Stp g' sd S->S.Nodup->(∀j,j∈S↔j6 cs p j)->Q (.ref sd) g'):b8 T (k+5) 78 [.ref a,.int (p:Nat)] g Q E:=by
 refine call_of h78 rfl ?_;dsimp[N4,d5,List.replicate];walk_at "w5";refine bh4 ?_;walk_at "w5";refine⟨[(kI p,.int 0)],rfl,by simp,by simp,?_⟩;have s1:Stp ((g++[O.dic []]).set g.length (.dic [(kI p,.int 0)])) g.length [p]:=⟨⟨[(kI p,.int 0)],by simp,rfl,fun kv hk=>by cases List.mem_singleton.mp hk;exact⟨0,rfl⟩⟩⟩
 have x1:Ex g ((g++[O.dic []]).set g.length (.dic [(kI p,.int 0)])):=⟨by simp,fun i hi=>by rw[List.getElem?_set_ne (by omega),List.getElem?_append_left hi]⟩
 have l1:((g++[O.dic []]).set g.length (.dic [(kI p,.int 0)])).length=g.length+1:=by simp
 generalize (g++[O.dic []]).set g.length (.dic [(kI p,.int 0)])=g1 at *;walk_at "w5";have x2:=x1.trans (Ex.snoc g1 (O.lst [.int (p:Nat)]));have s2:=s1.ex' (Ex.snoc g1 (O.lst [.int (p:Nat)]));have e2:(g1++[O.lst [.int (p:Nat)]])[g1.length]?=some (.lst (([p]:List Nat).map fun j=>D.int (j:Nat))):=b9;generalize g1++[O.lst [.int (p:Nat)]]=g2 at *;refine aW0 (fun m σ g'=>∃e S F z4 z5 z6,σ=[some (.ref a),some (.int (p:Nat)),some (.ref g.length),some (.ref e),z4,z5,z6]/\Ex g g'/\Stp g' g.length S/\g'[e]?=some (.lst (F.map fun j=>D.int (j:Nat)))/\g.length<e/\S.Nodup/\(∀j∈S,j6 cs p j)/\p∈S/\(∀j∈F,j∈S)/\(∀x∈S,x∉F->∀y,n9 cs x y=true->y∈S)/\m=2*(cs.length-S.length)+(if F=[] then 0 else 1)) _ ⟨g1.length,[p],[p],none,none,none,rfl,x2,s2,e2,by omega,by simp,fun j hj=>(by cases List.mem_singleton.mp hj;exact .refl hp),by simp,by simp,fun x hx hn=>absurd hx hn,rfl⟩ (fun m σ g' q=>?_) (b0 T _);obtain⟨e,S,F,z4,z5,z6,rfl,x3,s3,e3,le3,nd,hS,pS,hF,cl,rfl⟩:=q;walk_at "w5";refine bi3 (a7 e3) ?_;cases hF0:F with
 |nil =>
  refine ifF rfl ?_;walk_at "w5";refine h _ _ S x3 (Nat.le_refl _) s3 nd fun j=>⟨hS j,fun hc=>?_⟩
  have all:∀{i l:Nat},j6 cs i l->i∈S->l∈S:=fun{i l} hc hi=>by
   induction hc with
   |refl _=>exact hi
   |step _ e ih=>exact cl _ ih (by rw[hF0];simp) _ e
  exact all hc pS
 |cons f0 fr =>
  refine ifT rfl ?_;rw[<- hF0];have Fne:F≠[]:=by rw[hF0];simp
  walk_at "w5";have x4:=x3.trans (Ex.snoc g' (O.lst []));have s4:=s3.ex' (Ex.snoc g' (O.lst []));have e4:=(Ex.snoc g' (O.lst [])).at e3;have f4:(g'++[O.lst []])[g'.length]?=some (.lst (([]:List Nat).map fun j=>D.int (j:Nat))):=b9;have l3:=x3.len;have el:=m8 e3;generalize g'++[O.lst []]=g4 at *;generalize g'.length=f at *;refine A7 (b0 T _) (i_l (b0 T _) ?_);walk_at "w5";refine⟨e,_,rfl,a7 e4,F.map fun j=>D.int (j:Nat),fun i σ g5=>∃F2 z5 z6,σ=[some (.ref a),some (.int (p:Nat)),some (.ref g.length),some (.ref e),some (.ref f),z5,z6]/\Ex g g5/\Stp g5 g.length (S++F2)/\g5[e]?=some (.lst (F.map fun j=>D.int (j:Nat)))/\g5[f]?=some (.lst (F2.map fun j=>D.int (j:Nat)))/\(S++F2).Nodup/\(∀j∈S++F2,j6 cs p j)/\∀x∈F.take i,∀y,n9 cs x y=true->y∈S++F2,fun i σ g5 q=>W7 (a7 (by obtain⟨_,_,_,_,_,_,q,_⟩:=q;exact q)),⟨[],z5,z6,rfl,x4,by rw[List.append_nil];exact s4,e4,f4,by rw[List.append_nil];exact nd,by rw[List.append_nil];exact hS,fun x hx=>by simp at hx⟩,fun i x σ g5 hx q=>?_,fun σ g5 q=>?_⟩
  ·obtain⟨F2,z5,z6,rfl,x5,s5,e5,f5,nd5,c5,done⟩:=q;rw[List.getElem?_map,Option.map_eq_some_iff] at hx;obtain⟨x,hx,rfl⟩:=hx;have hxF:=List.mem_of_getElem? hx;have hxS:=hF x hxF;have hxn:x<cs.length:=(hS x hxS).lt.2;refine w9 ?_
   try show wpS _ _ _ _ _ _
   walk_at "w5";refine A7 (b0 T _) (i_l (b0 T _) ?_);walk_at "w5";refine aP9 (k:=k) h19 h76 h77 (x5.at ha) hz hxn fun g6 nl e6 hnl n6=>?_;have lf:=m8 f5;have le5:=m8 e5;refine⟨nl,_,rfl,a7 n6,(O2 cs x).map fun j=>D.int (j:Nat),fun j σ g7=>∃F3 z6,σ=[some (.ref a),some (.int (p:Nat)),some (.ref g.length),some (.ref e),some (.ref f),some (.int (x:Nat)),z6]/\Ex g g7/\Stp g7 g.length (S++F3)/\g7[e]?=some (.lst (F.map fun j=>D.int (j:Nat)))/\g7[f]?=some (.lst (F3.map fun j=>D.int (j:Nat)))/\g7[nl]?=some (.lst ((O2 cs x).map fun j=>D.int (j:Nat)))/\(S++F3).Nodup/\(∀j∈S++F3,j6 cs p j)/\(∀y∈S++F2,y∈S++F3)/\∀y∈(O2 cs x).take j,y∈S++F3,fun j σ g7 q=>W7 (a7 (by obtain⟨_,_,_,_,_,_,_,q,_⟩:=q;exact q)),⟨F2,z6,rfl,x5.trans e6,s5.ex' e6,e6.at e5,e6.at f5,n6,nd5,c5,fun y hy=>hy,fun y hy=>by simp at hy⟩,fun j y σ g7 hy q=>?_,fun σ g7 q=>?_⟩
   ·obtain⟨F3,z6,rfl,x7,s7,e7,f7,n7,nd7,c7,sub,don⟩:=q;rw[List.getElem?_map,Option.map_eq_some_iff] at hy;obtain⟨y,hy,rfl⟩:=hy;have hyn:=aj1.mp (List.mem_of_getElem? hy);have cy:j6 cs p y:=.step (hS x hxS) (O4 hyn.2);have tk:(O2 cs x).take (j+1)=(O2 cs x).take j++[y]:=by rw[List.take_succ,hy];rfl
    refine w9 ?_
    try show wpS _ _ _ _ _ _
    walk_at "w5";obtain⟨kvs,k1,k2,k3⟩:=s7.ex;refine aV3 ⟨(o7 kvs (kI y)).isSome,.inl ⟨_,kvs,kI y,rfl,k1,rfl,rfl⟩,?_⟩;walk_at "w5";by_cases hin:y∈S++F3
    ·refine ifF (by rw[aa4.mpr (by rw[k2];exact aq4.mpr hin)];rfl) ?_;walk_at "w5";refine⟨F3,_,rfl,x7,s7,e7,f7,n7,nd7,c7,sub,fun w hw=>?_⟩;rw[tk] at hw;rcases List.mem_append.mp hw with hw|hw
     ·exact don w hw
     ·cases List.mem_singleton.mp hw;exact hin
    ·have hno:kI y∉kvs.map (·.1):=by rw[k2];exact fun z=>hin (aq4.mp z)
     refine ifT (by cases z:(o7 kvs (kI y)).isSome with|true=>exact absurd (aa4.mp z) hno|false=>rfl) ?_;walk_at "w5";obtain⟨kvs',v,m1,m2⟩:=s7.val (List.mem_append_left F3 hxS);refine bv0 m1 rfl m2 ?_;walk_at "w5";have hlen:kvs.length<=9:=by
      have l1:kvs.length=(S++F3).length:=by simpa using congrArg List.length k2
      have:=M9 nd7 fun j hj=>(c7 j hj).lt.2;omega
     refine aT8 k1 rfl (by omega) ?_;rw[aY9 hno];have nf:g.length≠f:=by omega
     have ne:g.length≠e:=by omega
     have f8:=k8 f7 nf (o':=O.dic (kvs++[(kI y,.int (v+1))]));walk_at "w5"
     try refine⟨N1 f8,?_⟩
     walk_at "w5";have F3l:F3.length<=9:=by
      have:=M9 nd7 fun j hj=>(c7 j hj).lt.2;simp at this;omega
     refine L4 f8 (by simp;omega) ?_;walk_at "w5";have hne:f≠e:=by omega
     refine⟨F3++[y],_,rfl,⟨by simp;exact x7.len,fun i hi=>by rw[List.getElem?_set_ne (by omega),List.getElem?_set_ne (by omega)];exact x7.old i hi⟩,⟨⟨_,k8 (get_set k1) (by omega),by rw[List.map_append,k2];simp,fun kv hk=>?_⟩⟩,k8 (k8 e7 ne) hne,by rw[List.map_append];exact get_set f8,k8 (k8 n7 (by omega)) (by omega),?_,fun w hw=>?_,fun w hw=>?_,fun w hw=>?_⟩
     ·rcases List.mem_append.mp hk with hk|hk
      ·exact k3 kv hk
      ·cases List.mem_singleton.mp hk;exact⟨_,rfl⟩
     ·rw[<- List.append_assoc,List.nodup_append];exact⟨nd7,by simp,fun w hw w' hw'=>by cases List.mem_singleton.mp hw';exact fun z=>hin (z▸hw)⟩
     ·rw[<- List.append_assoc] at hw;rcases List.mem_append.mp hw with hw|hw
      ·exact c7 w hw
      ·cases List.mem_singleton.mp hw;exact cy
     ·rw[<- List.append_assoc];exact List.mem_append_left _ (sub w hw)
     ·rw[tk] at hw;rw[<- List.append_assoc];rcases List.mem_append.mp hw with hw|hw
      ·exact List.mem_append_left _ (don w hw)
      ·exact List.mem_append_right _ hw
   ·obtain⟨F3,z6,rfl,x7,s7,e7,f7,n7,nd7,c7,sub,don⟩:=q;rw[List.length_map,List.take_length] at don
    try show wpS _ _ _ _ _ _
    walk_at "w5";refine⟨F3,_,_,rfl,x7,s7,e7,f7,nd7,c7,fun w hw y hy=>?_⟩;rw[List.take_succ,hx] at hw;rcases List.mem_append.mp hw with hw|hw
    ·exact sub y (done w hw y hy)
    ·have:w=x:=by simpa using hw
     subst this;by_cases hyx:y=w
     ·subst hyx;exact List.mem_append_left _ hxS
     ·exact don y (aj1.mpr ⟨hyx,O4 hy⟩)
  ·obtain⟨F2,z5,z6,rfl,x5,s5,e5,f5,nd5,c5,done⟩:=q;rw[List.length_map,List.take_length] at done
   try show wpS _ _ _ _ _ _
   walk_at "w5";have lS:=M9 nd5 fun j hj=>(c5 j hj).lt.2;rw[List.length_append] at lS;refine⟨_,?_,f,S++F2,F2,_,_,_,rfl,x5,s5,f5,by omega,nd5,c5,List.mem_append_left _ pS,fun j hj=>List.mem_append_right _ hj,fun w hw hn y hy=>?_,rfl⟩
   ·rw[if_neg Fne,List.length_append];cases hF2:F2 with
    |nil=>simp
    |cons u v =>
     rw[hF2] at lS;simp at lS ⊢;omega
   ·rcases List.mem_append.mp hw with hw|hw
    ·by_cases hwF:w∈F
     ·exact done w hwF y hy
     ·exact List.mem_append_left _ (cl w hw hwF y hy)
    ·exact absurd hw hn
end
noncomputable def V9:MDef:=⟨2,2,(.seq (.ret (.or_ (.prim (.cmp .Eq) (.cons (.prim .ix (.cons (.var 0) (.cons (.lit (.int 0)) .nil))) (.cons (.prim .ix (.cons (.var 1) (.cons (.lit (.int 0)) .nil))) .nil))) (.prim (.cmp .Eq) (.cons (.prim .ix (.cons (.var 0) (.cons (.lit (.int 2)) .nil))) (.cons (.prim .ix (.cons (.var 1) (.cons (.lit (.int 2)) .nil))) .nil))))) .pass)⟩
noncomputable def Y1:MDef:=⟨1,5,(.seq (.set 1 (.prim .lrng1 (.cons (.prim .len (.cons (.var 0) .nil)) .nil))) (.seq (.for_ (.one 2) (.itR1 (.prim .len (.cons (.var 0) .nil))) (.seq (.for_ (.one 3) (.itR1 (.prim .len (.cons (.var 0) .nil))) (.seq (.for_ (.one 4) (.itR1 (.prim .len (.cons (.var 0) .nil))) (.seq (.ifs (.tst (.call 80 (.cons (.prim .ix (.cons (.var 0) (.cons (.var 3) .nil))) (.cons (.prim .ix (.cons (.var 0) (.cons (.var 4) .nil))) .nil)))) (.seq (.setix (.var 1) (.var 4) (.prim .min (.cons (.prim .ix (.cons (.var 1) (.cons (.var 3) .nil))) (.cons (.prim .ix (.cons (.var 1) (.cons (.var 4) .nil))) .nil)))) .pass) .pass) .pass)) .pass)) .pass)) (.seq (.ret (.comp [0,1] 4 (.one 3) (.itR1 (.prim .len (.cons (.var 0) .nil))) (.tst (.prim (.cmp .Eq) (.cons (.prim .ix (.cons (.var 1) (.cons (.var 3) .nil))) (.cons (.var 3) .nil)))) (.comp [3,1] 4 (.one 3) (.itR1 (.prim .len (.cons (.var 0) .nil))) (.tst (.prim (.cmp .Eq) (.cons (.prim .ix (.cons (.var 1) (.cons (.var 3) .nil))) (.cons (.var 0) .nil)))) (.var 3)))) .pass)))⟩
noncomputable def cb(p:Prop):Bool:=@decide p (Classical.propDecidable p)
theorem ae9{p:Prop}:cb p=true↔p:=by
 unfold cb;exact @decide_eq_true_iff p (Classical.propDecidable p)
theorem aB8{p:Prop}{b:Bool}(h:b=true↔p):cb p=b:=by
 cases b with
 |true=>exact ae9.mpr (h.mp rfl)
 |false =>
  cases z:cb p with
  |false=>rfl
  |true=>exact absurd (h.mpr (ae9.mp z)) (by decide)
noncomputable def u5(cs:List a8)(p:Nat):List Nat:=(List.range cs.length).filter fun j=>cb (j6 cs p j)
noncomputable def Top(cs:List a8)(p:Nat):Prop:=∀j,j6 cs p j->p<=j
noncomputable def C8(cs:List a8)(n:Nat):List (List Nat):=((List.range n).filter fun p=>cb (Top cs p)).map (u5 cs)
noncomputable abbrev E3(cs:List a8):List (List Nat):=C8 cs cs.length
noncomputable abbrev u9(l:List Nat):List D:=l.map fun j=>.int (j:Nat)
theorem S8{cs:List a8}{p j:Nat}:j∈u5 cs p↔j6 cs p j:=by
 unfold u5;rw[List.mem_filter,ae9,List.mem_range];exact⟨fun h=>h.2,fun h=>⟨h.lt.2,h⟩⟩
theorem ak3(cs:List a8)(p:Nat):(u5 cs p).Pairwise (· < ·):=List.pairwise_lt_range.sublist List.filter_sublist
theorem aJ9{cs:List a8}{p:Nat}{S:List Nat}(nd:S.Nodup)(h:∀j,j∈S↔j6 cs p j):A1 (S.map fun j:Nat=>(j:Int))=(u5 cs p).map fun j:Nat=>(j:Int):=by
 have h1:((u5 cs p).map fun j:Nat=>(j:Int)).Pairwise (· < ·):=by
  rw[List.pairwise_map];exact(ak3 cs p).imp fun h=>by omega
 refine V6 ?_ (ac7 _) (h1.imp fun h=>Int.le_of_lt h);refine(S0 _).trans ?_;refine(List.perm_ext_iff_of_nodup (ST.ai9 _ _ List.nodup_nil) (h1.imp fun h=>Int.ne_of_lt h)).mpr fun i=>?_;rw[ST.ad6];simp only[List.not_mem_nil,false_or,List.mem_map];constructor
 ·rintro⟨j,hj,rfl⟩;exact⟨j,S8.mpr ((h j).mp hj),rfl⟩
 ·rintro⟨j,hj,rfl⟩;exact⟨j,(h j).mpr (S8.mp hj),rfl⟩
theorem ar7{cs:List a8}{p:Nat}:(u5 cs p).length<=cs.length:=Nat.le_trans (List.length_filter_le _ _) (by simp)
theorem aK0{cs:List a8}{p:Nat}(hp:p<cs.length):∃m,(u5 cs p)[0]?=some m/\(m=p↔Top cs p):=by
 have h1:=S8.mpr (.refl hp:j6 cs p p);have h2:=ak3 cs p;have h3:=fun j=>(S8 (cs:=cs) (p:=p) (j:=j))
 cases z:u5 cs p with
 |nil=>rw[z] at h1;cases h1
 |cons m t =>
  rw[z] at h1 h2 h3;rw[List.pairwise_cons] at h2;refine⟨m,rfl,fun e j hj=>?_,fun e=>?_⟩
  ·rcases List.mem_cons.mp ((h3 j).mpr hj) with w|w
   ·omega
   ·have:=h2.1 j w;omega
  ·have:=e m ((h3 m).mp (by simp));rcases List.mem_cons.mp h1 with w|w
   ·exact w.symm
   ·have:=h2.1 p w;omega
theorem E2{cs:List a8}{n:Nat}:C8 cs (n+1)=C8 cs n++if cb (Top cs n)=true then[u5 cs n] else[]:=by
 unfold C8;rw[List.range_succ,List.filter_append,List.map_append]
 congr 1
 cases z:cb (Top cs n)<;>simp only[List.filter_cons,z,List.filter_nil]<;>rfl
theorem J7{cs:List a8}{n:Nat}:(C8 cs n).length<=n:=by
 unfold C8;rw[List.length_map];exact Nat.le_trans (List.length_filter_le _ _) (by simp)
structure Lie(g:G)(lo r:Nat)(rs:List Nat)(hs:List (List Nat)):Prop where
 len:rs.length=hs.length
 at_:∀(i a:Nat) (h:List Nat),rs[i]?=some a->hs[i]?=some h->lo<=a/\a≠r/\g[a]?=some (.lst (u9 h))
theorem Lie.nil{g:G}{lo r:Nat}:Lie g lo r [] []:=⟨rfl,fun i a h e=>by simp at e⟩
theorem Lie.ex{g g':G}{lo r:Nat}{rs:List Nat}{hs:List (List Nat)}(L:Lie g lo r rs hs)(e:Ex g g'):Lie g' lo r rs hs:=⟨L.len,fun i a h h1 h2=>let ⟨x,y,z⟩:=L.at_ i a h h1 h2;⟨x,y,e.at z⟩⟩
theorem Lie.set{g:G}{lo r:Nat}{rs:List Nat}{hs:List (List Nat)}(L:Lie g lo r rs hs)(o:O):Lie (g.set r o) lo r rs hs:=⟨L.len,fun i a h h1 h2=>let ⟨x,y,z⟩:=L.at_ i a h h1 h2;⟨x,y,k8 z (Ne.symm y)⟩⟩
theorem Lie.add{g:G}{lo r a:Nat}{rs:List Nat}{hs:List (List Nat)}{h:List Nat}(L:Lie g lo r rs hs)(h1:lo<=a)(h2:a≠r)(h3:g[a]?=some (.lst (u9 h))):Lie g lo r (rs++[a]) (hs++[h]):=by
 refine⟨by simp[L.len],fun i b h' e1 e2=>?_⟩;have hl:=L.len;rcases Nat.lt_trichotomy i rs.length with w|w|w
 ·rw[List.getElem?_append_left w] at e1;rw[List.getElem?_append_left (by omega)] at e2;exact L.at_ i b h' e1 e2
 ·subst w;rw[List.getElem?_append_right (Nat.le_refl _)] at e1;rw[hl,List.getElem?_append_right (Nat.le_refl _)] at e2;simp at e1 e2;subst e1 e2;exact⟨h1,h2,h3⟩
 ·rw[List.getElem?_eq_none (by simp;omega)] at e1;cases e1
section
variable{T:Nat->Option MDef}{k d:Nat}{g g':G}{Q:KD}{E:KX}{a p sd:Nat}{cs:List a8}{S:List Nat}
theorem aQ9(h1:NF T)(h2:T 2=some v9)(h12:T 12=some q8)(h18:CkC T)(h19:DfC T)(h76:T 76=some G0)(h77:T 77=some y8)(h78:T 78=some N4)(h79:T 79=some ad7)(ha:g[a]?=some (.lst (cs.map a8.d)))(hz:cs.length<=1000)(hm:9<cs.length->E ⟨"TooMany"⟩ g)(hb:cs.length<=9->cs.all j7=false->E ⟨"BadCoin"⟩ g)(h:∀(g':G) (r:Nat) (rs:List Nat),cs.length<=9->cs.all j7=true->Ex g g'->g.length<=r->g'[r]?=some (.lst (rs.map .ref))->Lie g' g.length r rs (E3 cs)->Q (.ref r) g'):b8 T (k+7) 79 [.ref a] g Q E:=by
 refine call_of h79 rfl ?_;dsimp[ad7,d5,List.replicate];walk_at "w5";refine ah5 (k:=k) h1 h2 h12 h18 ha hz hm hb fun h9 hg=>?_;walk_at "w5";have x1:=Ex.snoc g (O.lst []);have e1:(g++[O.lst []])[g.length]?=some (.lst (([]:List Nat).map D.ref)):=b9;generalize g++[O.lst []]=g1 at *;refine A7 (b0 T _) (K8 (b0 T _) ?_);walk_at "w5";refine A2 (a7 (x1.at ha)) ?_;rw[List.length_map];refine⟨_,rfl,by omega,by omega,i0 0 cs.length,fun i σ g'=>∃rs z2 z3,σ=[some (.ref a),some (.ref g.length),z2,z3]/\Ex g g'/\g'[g.length]?=some (.lst (rs.map .ref))/\Lie g' g.length g.length rs (C8 cs i),fun i σ g p=>p7,⟨[],none,none,rfl,x1,e1,.nil⟩,fun i x σ g' hx p=>?_,fun σ g' p=>?_⟩
 ·obtain⟨rs,z2,z3,rfl,x2,e2,L⟩:=p;obtain⟨hi,rfl⟩:=q9 hx;have ez:(0:Int)+(i:Nat)=(i:Nat):=by omega
  rw[ez]
  try show wpS _ _ _ _ _ _
  walk_at "w5";refine aM1 (k:=k+1) h19 h76 h77 h78 (x2.at ha) h9 hi fun g3 sd S x3 l3 s3 nd hS=>?_;obtain⟨kvs,k1,k2,k3⟩:=s3.ex;have hSl:S.length<=cs.length:=M9 nd fun j hj=>((hS j).mp hj).lt.2;refine a05 (ns:=S.map fun j:Nat=>(j:Int)) k1 (by rw[k2,List.map_map];rfl) (by simp;omega) ?_;rw[aJ9 nd hS,List.map_map];have x4:=Ex.snoc g3 (O.lst (u9 (u5 cs i)));have e4:(g3++[O.lst (u9 (u5 cs i))])[g3.length]?=some (.lst (u9 (u5 cs i))):=b9;have l4:=x3.len;have l2:=x2.len;have lt2:=m8 e2;have e5:=x4.at (x3.at e2);have L5:=(L.ex x3).ex x4;have x5:=(x2.trans x3).trans x4;show wpS _ _ _ _ (g3++[O.lst (u9 (u5 cs i))]) _;generalize g3++[O.lst (u9 (u5 cs i))]=g5 at *;walk_at "w5";obtain⟨m,hm0,hmt⟩:=aK0 (p:=i) hi;refine m7 (d:=.int (m:Nat)) (a7 e4) (o6 (j:=0) (by rw[List.getElem?_map,hm0];rfl)) ?_;walk_at "w5";have ec:cb (Top cs i)=decide ((m:Int)=(i:Int)):=aB8 (by rw[decide_eq_true_iff,<- hmt];omega);by_cases hmi:m=i
  ·refine ifT (by rw[hmi];simp) ?_;walk_at "w5"
   try refine⟨N1 e5,?_⟩
   walk_at "w5";have hrl:=L.len;have hrl2:=J7 (cs:=cs) (n:=i);refine L4 e5 (by rw[List.length_map];omega) ?_;walk_at "w5";refine⟨rs++[g3.length],_,_,rfl,⟨by rw[List.length_set];exact x5.len,fun j hj=>by rw[List.getElem?_set_ne (by omega)];exact x5.old j hj⟩,by rw[List.map_append];exact get_set e5,?_⟩;rw[E2,ec,if_pos (by rw[hmi];simp)];exact(L5.set _).add (by omega) (by omega) (k8 e4 (by omega))
  ·refine ifF (decide_eq_false (by omega)) ?_;walk_at "w5";refine⟨rs,_,_,rfl,x5,e5,?_⟩;rw[E2,ec,if_neg (by rw[decide_eq_true_iff];omega),List.append_nil];exact L5
 ·obtain⟨rs,z2,z3,rfl,x2,e2,L⟩:=p;walk_at "w5";rw[show(i0 0 cs.length).length=cs.length by simp[i0]] at L;exact h _ _ rs h9 hg x2 (Nat.le_refl _) e2 L
end
inductive m5(cs:List a8):Nat->Nat->Nat->Prop where
 |refl (t:Nat) {i:Nat} (h:i<cs.length):m5 cs t i i
 |step {t i j l:Nat} (h:m5 cs t i j) (a:n9 cs j l=true):m5 cs (t+1) i l
section
variable{cs:List a8}{t i j m x y:Nat}{h:List Nat}
theorem m5.up(h:m5 cs t i j):m5 cs (t+1) i j:=by
 induction h with
 |refl t h=>exact .refl _ h
 |step _ a ih=>exact .step ih a
theorem m5.conn(h:m5 cs t i j):j6 cs i j:=by
 induction h with
 |refl t h=>exact .refl h
 |step _ a ih=>exact .step ih a
theorem aH1:∀{a b:List Nat},a.Nodup->(∀x∈a,x∈b)->a.length<=b.length
 |[],b,_,_=>Nat.zero_le _
 |x::a,b,nd,h=>by
  rw[List.nodup_cons] at nd;have h1:=h x (by simp);have:=aH1 (b:=b.erase x) nd.2 fun y hy=>(List.mem_erase_of_ne (fun z=>nd.1 (by rw[<- z];exact hy))).mpr (h y (by simp[hy]));rw[List.length_erase_of_mem h1] at this;have:=List.length_pos_of_mem h1;rw[List.length_cons];omega
noncomputable def M8(cs:List a8)(m t:Nat):List Nat:=(List.range cs.length).filter fun j=>cb (m5 cs t m j)
theorem K2:j∈M8 cs m t↔m5 cs t m j:=by
 unfold M8;rw[List.mem_filter,ae9,List.mem_range];exact⟨fun h=>h.2,fun h=>⟨h.conn.lt.2,h⟩⟩
theorem aN6:(M8 cs m t).Nodup:=List.Nodup.sublist List.filter_sublist List.nodup_range
theorem ad2(hm:m<cs.length):∀t,t+1<=(M8 cs m t).length\/∀x y,m5 cs t m x->n9 cs x y=true->m5 cs t m y
 |0=>.inl (List.length_pos_of_mem (K2.mpr (.refl 0 hm)))
 |t+1=>by
  have fin:(∀x y,m5 cs t m x->n9 cs x y=true->m5 cs t m y)->∀x y,m5 cs (t+1) m x->n9 cs x y=true->m5 cs (t+1) m y:=by
   intro h;have back:∀y,m5 cs (t+1) m y->m5 cs t m y:=fun y hy=>by
    cases hy with
    |refl _ h=>exact .refl _ h
    |step a b=>exact h _ _ a b
   exact fun x y hx hl=>(h x y (back x hx) hl).up
  rcases ad2 hm t with h|h
  ·by_cases c:∀x y,m5 cs t m x->n9 cs x y=true->m5 cs t m y
   ·exact .inr (fin c)
   ·left;simp only[Classical.not_forall] at c;obtain⟨x,y,hx,hl,hn⟩:=c;have:=aH1 (a:=y :: M8 cs m t) (b:=M8 cs m (t + 1)) (List.nodup_cons.mpr ⟨fun z=>hn (K2.mp z),aN6⟩) (fun z hz=>by
     rcases List.mem_cons.mp hz with rfl|hz
     ·exact K2.mpr (.step hx hl)
     ·exact K2.mpr (K2.mp hz).up)
    rw[List.length_cons] at this;omega
  ·exact .inr (fin h)
theorem aB5(h:j6 cs i j):m5 cs cs.length i j:=by
 have cl:∀x y,m5 cs cs.length i x->n9 cs x y=true->m5 cs cs.length i y:=by
  rcases ad2 h.lt.1 cs.length with g|g
  ·have:(M8 cs i cs.length).length<=cs.length:=Nat.le_trans (List.length_filter_le _ _) (by simp);omega
  ·exact g
 induction h with
 |refl h=>exact .refl _ h
 |step _ a ih=>exact cl _ _ ih a
structure Lw(cs:List a8)(t i j:Nat)(h:List Nat):Prop where
 len:h.length=cs.length
 inn:∀(k v:Nat),h[k]?=some v->j6 cs k v
 old:∀(m k v:Nat),h[k]?=some v->m5 cs t m k->v<=m
 row:∀(x m k v:Nat),h[k]?=some v->x<i->m5 cs t m x->n9 cs x k=true->v<=m
 now:∀(m k v:Nat),h[k]?=some v->k<j->m5 cs t m i->n9 cs i k=true->v<=m
theorem Lw.start:Lw cs 0 0 0 (List.range cs.length):=by
 have e:∀{k v:Nat},(List.range cs.length)[k]?=some v->k=v/\k<cs.length:=fun{k v} e=>by
  have:=(List.getElem?_eq_some_iff.mp e)
  obtain⟨h1,h2⟩:=this;rw[List.getElem_range] at h2;exact⟨h2,by simpa using h1⟩
 refine⟨by simp,fun k v h=>?_,fun m k v h c=>?_,fun x m k v h hx=>absurd hx (by omega),fun m k v h hx=>absurd hx (by omega)⟩
 ·obtain⟨rfl,h1⟩:=e h;exact .refl h1
 ·obtain⟨rfl,h1⟩:=e h;cases c with
  |refl _ _=>exact Nat.le_refl _
theorem Lw.skip(L:Lw cs t i j h)(hn:n9 cs i j=false):Lw cs t i (j+1) h:=by
 refine⟨L.len,L.inn,L.old,L.row,fun m k v h1 h2 h3 h4=>?_⟩;by_cases e:k=j
 ·rw[e,hn] at h4;cases h4
 ·exact L.now m k v h1 (by omega) h3 h4
theorem Lw.put{u v w:Nat}(L:Lw cs t i j h)(h1:h[i]?=some u)(h2:h[j]?=some v)(hl:n9 cs i j=true)(hw:w=if v<u then v else u):Lw cs t i (j+1) (h.set j w):=by
 have wu:w<=u:=by rw[hw];split<;>omega
 have wv:w<=v:=by rw[hw];split<;>omega
 have hj:=(List.getElem?_eq_some_iff.mp h2).1;have dn:∀{k v':Nat},(h.set j w)[k]?=some v'->(k=j/\v'=w)\/(k≠j/\h[k]?=some v'):=fun{k v'} e=>by
  by_cases z:k=j
  ·subst z;rw[List.getElem?_set_self hj] at e;exact .inl ⟨rfl,(Option.some.inj e).symm⟩
  ·rw[List.getElem?_set_ne (Ne.symm z)] at e;exact .inr ⟨z,e⟩
 have le:∀{k v':Nat},(h.set j w)[k]?=some v'->∃v0,h[k]?=some v0/\v'<=v0:=fun{k v'} e=>by
  rcases dn e with⟨rfl,rfl⟩|⟨_,e⟩
  ·exact⟨v,h2,wv⟩
  ·exact⟨v',e,Nat.le_refl _⟩
 refine⟨by rw[List.length_set];exact L.len,fun k v' e=>?_,fun m k v' e c=>?_,fun x m k v' e hx c a=>?_,fun m k v' e hk c a=>?_⟩
 ·rcases dn e with⟨rfl,rfl⟩|⟨_,e⟩
  ·rw[hw];split
   ·exact L.inn _ _ h2
   ·exact(j6.step (.refl (L9 hl).2) (O4 hl)).trans (L.inn _ _ h1)
  ·exact L.inn _ _ e
 ·obtain⟨v0,e0,l0⟩:=le e;exact Nat.le_trans l0 (L.old m k v0 e0 c)
 ·obtain⟨v0,e0,l0⟩:=le e;exact Nat.le_trans l0 (L.row x m k v0 e0 hx c a)
 ·rcases dn e with⟨rfl,rfl⟩|⟨hn,e⟩
  ·exact Nat.le_trans wu (L.old m i u h1 c)
  ·exact L.now m k v' e (by omega) c a
theorem Lw.bj9(L:Lw cs t i cs.length h):Lw cs t (i+1) 0 h:=by
 refine⟨L.len,L.inn,L.old,fun x m k v h1 hx c a=>?_,fun m k v h hx=>absurd hx (by omega)⟩;by_cases e:x=i
 ·subst e;exact L.now m k v h1 (L9 a).2 c a
 ·exact L.row x m k v h1 (by omega) c a
theorem Lw.up(L:Lw cs t cs.length 0 h):Lw cs (t+1) 0 0 h:=by
 refine⟨L.len,L.inn,fun m k v h1 c=>?_,fun x m k v h hx=>absurd hx (by omega),fun m k v h hx=>absurd hx (by omega)⟩;cases c with
 |refl _ hk=>exact L.old m m v h1 (.refl _ hk)
 |step a b=>exact L.row _ m k v h1 (L9 b).1 a b
theorem Lw.least{k v:Nat}(L:Lw cs cs.length 0 0 h)(e:h[k]?=some v)(hm:j6 cs m k):v<=m:=L.old m k v e (aB5 hm)
theorem Lw.top{k v:Nat}(L:Lw cs cs.length 0 0 h)(e:h[k]?=some v):v=k↔Top cs k:=by
 constructor
 ·rintro rfl j hj;exact L.least e hj.symm
 ·intro ht;have h1:=L.inn k v e;have h2:=L.least e (.refl h1.lt.1:j6 cs k k);have h3:=ht v h1;omega
theorem Lw.same{k v:Nat}(L:Lw cs cs.length 0 0 h)(ht:Top cs i)(e:h[k]?=some v):v=i↔j6 cs i k:=by
 constructor
 ·rintro rfl;exact(L.inn k v e).symm
 ·intro hc;have h1:=L.least e hc;have h2:=ht v (hc.trans (L.inn k v e));omega
end
section
variable{T:Nat->Option MDef}{k d:Nat}{g g':G}{Q:KD}{E:KX}{a p sd:Nat}{cs:List a8}
theorem aM4(h80:T 80=some V9){c c':a8}(h:Q (.bl (lk c c')) g):b8 T (k+1) 80 [c.d,c'.d] g Q E:=by
 refine call_of h80 rfl ?_;dsimp[V9,d5,List.replicate];walk_at "w5";refine K7 (l:=[.int c.lo,.tup (c.lm.map .int),.int c.up,.tup (c.um.map .int),.int c.yr]) rfl ?_;walk_at "w5";refine K7 (l:=[.int c'.lo,.tup (c'.lm.map .int),.int c'.up,.tup (c'.um.map .int),.int c'.yr]) rfl ?_;walk_at "w5";by_cases e:c.lo=c'.lo
 ·refine ifT (decide_eq_true e) ?_;walk_at "w5";unfold lk at h;rw[decide_eq_true e] at h;exact h
 ·refine ifF (decide_eq_false e) ?_;walk_at "w5";refine K7 (l:=[.int c.lo,.tup (c.lm.map .int),.int c.up,.tup (c.um.map .int),.int c.yr]) rfl ?_;walk_at "w5";refine K7 (l:=[.int c'.lo,.tup (c'.lm.map .int),.int c'.up,.tup (c'.um.map .int),.int c'.yr]) rfl ?_;walk_at "w5";unfold lk at h;rw[decide_eq_false e,Bool.false_or] at h;exact h
theorem aY4{n:Nat}:i0 0 n=u9 (List.range n):=by
 unfold i0;simp only[u9,Int.zero_add]
theorem aI0(h80:T 80=some V9)(h81:T 81=some Y1)(ha:g[a]?=some (.lst (cs.map a8.d)))(hz:cs.length<=1000)(hQ:∀(g':G) (r:Nat) (rs:List Nat),Ex g g'->g.length<=r->g'[r]?=some (.lst (rs.map .ref))->Lie g' g.length r rs (E3 cs)->Q (.ref r) g'):b8 T (k+2) 81 [.ref a] g Q E:=by
 refine call_of h81 rfl ?_;dsimp[Y1,d5,List.replicate];walk_at "w5"
 try refine A2 (a7 ha) ?_
 try rw[List.length_map]
 walk_at "w5"
 try refine lr1 (by omega) (by omega) ?_
 rw[show((cs.length:Nat):Int).toNat=cs.length by omega,aY4];walk_at "w5";have x1:=Ex.snoc g (O.lst (u9 (List.range cs.length)));have e1:(g++[O.lst (u9 (List.range cs.length))])[g.length]?=some (.lst (u9 (List.range cs.length))):=b9;generalize g++[O.lst (u9 (List.range cs.length))]=g1 at *;have fx:∀{g':G} {o:O},Ex g g'->Ex g (g'.set g.length o):=fun{g' o} x=>⟨by rw[List.length_set];exact x.len,fun j hj=>by rw[List.getElem?_set_ne (by omega)];exact x.old j hj⟩
 have rl:(i0 0 cs.length).length=cs.length:=by simp[i0]
 have ez:∀i:Nat,(0:Int)+(i:Nat)=(i:Nat):=fun i=>by omega
 refine A7 (b0 T _) (K8 (b0 T _) ?_);walk_at "w5"
 try refine A2 (a7 (x1.at ha)) ?_
 try rw[List.length_map]
 refine⟨_,rfl,by omega,by omega,i0 0 cs.length,fun t σ g'=>∃h z2 z3 z4,σ=[some (.ref a),some (.ref g.length),z2,z3,z4]/\Ex g g'/\g'[g.length]?=some (.lst (u9 h))/\Lw cs t 0 0 h,fun i σ g p=>p7,⟨List.range cs.length,none,none,none,rfl,x1,e1,.start⟩,fun t x σ g2 hx p=>?_,fun σ g2 p=>?_⟩
 ·obtain⟨h,z2,z3,z4,rfl,x2,e2,L⟩:=p;obtain⟨ht,rfl⟩:=q9 hx;rw[ez];refine w9 ?_
  try show wpS _ _ _ _ _ _
  walk_at "w5";refine A7 (b0 T _) (K8 (b0 T _) ?_);walk_at "w5"
  try refine A2 (a7 (x2.at ha)) ?_
  try rw[List.length_map]
  refine⟨_,rfl,by omega,by omega,i0 0 cs.length,fun i σ g'=>∃h z3 z4,σ=[some (.ref a),some (.ref g.length),some (.int (t:Nat)),z3,z4]/\Ex g g'/\g'[g.length]?=some (.lst (u9 h))/\Lw cs t i 0 h,fun i σ g p=>p7,⟨h,_,_,rfl,x2,e2,L⟩,fun i x σ g3 hx p=>?_,fun σ g3 p=>?_⟩
  ·obtain⟨h,z3,z4,rfl,x3,e3,L⟩:=p;obtain⟨hi,rfl⟩:=q9 hx;rw[ez];refine w9 ?_
   try show wpS _ _ _ _ _ _
   walk_at "w5";refine A7 (b0 T _) (K8 (b0 T _) ?_);walk_at "w5"
   try refine A2 (a7 (x3.at ha)) ?_
   try rw[List.length_map]
   refine⟨_,rfl,by omega,by omega,i0 0 cs.length,fun j σ g'=>∃h z4,σ=[some (.ref a),some (.ref g.length),some (.int (t:Nat)),some (.int (i:Nat)),z4]/\Ex g g'/\g'[g.length]?=some (.lst (u9 h))/\Lw cs t i j h,fun i σ g p=>p7,⟨h,_,rfl,x3,e3,L⟩,fun j x σ g4 hx p=>?_,fun σ g4 p=>?_⟩
   ·obtain⟨h,z4,rfl,x4,e4,L⟩:=p;obtain⟨hj,rfl⟩:=q9 hx;rw[ez];have hci:=List.getElem?_eq_getElem hi;have hcj:=List.getElem?_eq_getElem hj;generalize cs[i]=ci at hci;generalize cs[j]=cj at hcj;have el:n9 cs i j=lk ci cj:=by unfold n9;rw[hci,hcj]
    have hl:=L.len;have hhi:=List.getElem?_eq_getElem (show i<h.length by omega);have hhj:=List.getElem?_eq_getElem (show j<h.length by omega);generalize h[i]=u at hhi;generalize h[j]=v at hhj;refine w9 ?_
    try show wpS _ _ _ _ _ _
    walk_at "w5";refine m7 (d:=ci.d) (a7 (x4.at ha)) (o6 (by rw[List.getElem?_map,hci];rfl)) ?_;walk_at "w5";refine m7 (d:=cj.d) (a7 (x4.at ha)) (o6 (by rw[List.getElem?_map,hcj];rfl)) ?_;walk_at "w5";refine aM4 (k:=k) h80 ?_;walk_at "w5";cases hlk:lk ci cj with
    |false =>
     refine ifF rfl ?_;walk_at "w5";exact⟨h,_,rfl,x4,e4,L.skip (by rw[el,hlk])⟩
    |true =>
     refine ifT rfl ?_;walk_at "w5";refine m7 (d:=.int (u:Nat)) (a7 e4) (o6 (by rw[List.getElem?_map,hhi];rfl)) ?_;walk_at "w5";refine m7 (d:=.int (v:Nat)) (a7 e4) (o6 (by rw[List.getElem?_map,hhj];rfl)) ?_;walk_at "w5";rw[show(if((v:Nat):Int)<(u:Nat) then((v:Nat):Int) else(u:Nat))=(((if v<u then v else u:Nat):Nat):Int) by split<;>split<;>omega];refine L3 (n:=j) e4 (by simp[ixN];omega) ?_;walk_at "w5";refine⟨h.set j (if v<u then v else u),_,rfl,fx x4,?_,L.put hhi hhj (by rw[el,hlk]) rfl⟩;rw[get_set e4];simp only[u9,List.map_set]
   ·obtain⟨h,z4,rfl,x4,e4,L⟩:=p;rw[rl] at L;walk_at "w5";exact⟨h,_,_,rfl,x4,e4,L.bj9⟩
  ·obtain⟨h,z3,z4,rfl,x3,e3,L⟩:=p;rw[rl] at L;walk_at "w5";exact⟨h,_,_,_,rfl,x3,e3,L.up⟩
 ·obtain⟨h,z2,z3,z4,rfl,x2,e2,L⟩:=p;rw[rl] at L;have hl:=L.len;walk_at "w5";refine E0 (b0 T _) (K8 (b0 T _) ?_);walk_at "w5"
  try refine A2 (a7 (x2.at ha)) ?_
  try rw[List.length_map]
  refine⟨_,rfl,by omega,by omega,i0 0 cs.length,fun i ys σ g'=>∃rs z2 z3,ys=rs.map D.ref/\σ=[some (.ref a),some (.ref g.length),z2,z3]/\Ex g2 g'/\Lie g' g2.length g.length rs (C8 cs i),by rw[rl];omega,fun i ys σ g' q=>⟨p7,?_⟩,⟨[],none,none,rfl,rfl,Ex.refl _,.nil⟩,fun i x ys σ g3 hx q=>?_,fun ys σ g3 q=>?_⟩
  ·obtain⟨rs,z2,z3,rfl,_,_,L1⟩:=q;rw[List.length_map,L1.len];exact J7
  ·obtain⟨rs,z2,z3,rfl,rfl,x3,L1⟩:=q;obtain⟨hi,rfl⟩:=q9 hx;rw[ez];have hhi:=List.getElem?_eq_getElem (show i<h.length by omega);generalize h[i]=u at hhi;have e3:=x3.at e2;have ec:cb (Top cs i)=decide ((u:Int)=(i:Int)):=aB8 (by rw[decide_eq_true_iff,<- L.top hhi];omega);refine w9 ?_
   try show wpT _ _ _ _ _ _
   walk_at "w5";refine m7 (d:=.int (u:Nat)) (a7 e3) (o6 (by rw[List.getElem?_map,hhi];rfl)) ?_;walk_at "w5";by_cases hui:u=i
   ·refine ifT (by rw[hui];simp) ?_;have htop:=(L.top hhi).mp hui;refine E0 (b0 T _) (K8 (b0 T _) ?_);walk_at "w5"
    try refine A2 (a7 (x3.at (x2.at ha))) ?_
    try rw[List.length_map]
    refine⟨_,rfl,by omega,by omega,i0 0 cs.length,fun j ys σ g'=>∃z2 z3,ys=u9 ((List.range j).filter fun l=>cb (j6 cs i l))/\σ=[some (.int (i:Nat)),some (.ref g.length),z2,z3]/\g'=g3,by rw[rl];omega,fun j ys σ g' q=>⟨p7,?_⟩,⟨none,none,rfl,rfl,rfl⟩,fun j x ys σ g4 hx q=>?_,fun ys σ g4 q=>?_⟩
    ·obtain⟨_,_,rfl,_⟩:=q
     try rw[List.length_map]
     exact Nat.le_trans (List.length_filter_le _ _) (by simp)
    ·obtain⟨z2,z3,rfl,rfl,rfl⟩:=q;obtain⟨hj,rfl⟩:=q9 hx;rw[ez];have hhj:=List.getElem?_eq_getElem (show j<h.length by omega);generalize h[j]=v at hhj;have ec2:cb (j6 cs i j)=decide ((v:Int)=(i:Int)):=aB8 (by rw[decide_eq_true_iff,<- L.same htop hhj];omega);have ef:(List.range (j+1)).filter (fun l=>cb (j6 cs i l))=(List.range j).filter (fun l=>cb (j6 cs i l))++if cb (j6 cs i j)=true then[j] else[]:=by
      rw[List.range_succ,List.filter_append]
      congr 1
      cases z:cb (j6 cs i j)<;>simp only[List.filter_cons,z,List.filter_nil]<;>rfl
     refine w9 ?_
     try show wpT _ _ _ _ _ _
     walk_at "w5";refine m7 (d:=.int (v:Nat)) (a7 e3) (o6 (by rw[List.getElem?_map,hhj];rfl)) ?_;walk_at "w5";by_cases hvi:v=i
     ·refine ifT (by rw[hvi];simp) ?_;walk_at "w5";refine⟨_,_,?_,rfl,rfl⟩;rw[ef,ec2,if_pos (by rw[hvi];simp)];simp
     ·refine ifF (decide_eq_false (by omega)) ?_;refine⟨_,_,?_,rfl,rfl⟩;rw[ef,ec2,if_neg (by rw[decide_eq_true_iff];omega),List.append_nil]
    ·obtain⟨z2,z3,rfl,rfl,rfl⟩:=q;rw[rl];have x5:=x3.trans (Ex.snoc g4 (O.lst (u9 (u5 cs i))));have l3:=x3.len;have l2:=m8 e2;refine⟨rs++[g4.length],_,_,by simp,rfl,x5,?_⟩;rw[E2,ec,if_pos (by rw[hui];simp)];exact(L1.ex (Ex.snoc _ _)).add l3 (by omega) b9
   ·refine ifF (decide_eq_false (by omega)) ?_;refine⟨rs,_,_,rfl,rfl,x3,?_⟩;rw[E2,ec,if_neg (by rw[decide_eq_true_iff];omega),List.append_nil];exact L1
  ·obtain⟨rs,z2,z3,rfl,rfl,x3,L1⟩:=q;rw[rl] at L1;have l2:=x2.len;have l3:=x3.len;walk_at "w5";refine hQ _ _ rs ((x2.trans x3).trans (Ex.snoc _ _)) (by omega) b9 ⟨L1.len,fun i b hh q1 q2=>?_⟩;obtain⟨y1,y2,y3⟩:=L1.at_ i b hh q1 q2;have:=m8 y3;exact⟨by omega,by omega,(Ex.snoc _ _).at y3⟩
end
noncomputable def J6:MDef:=⟨2,6,(.seq (.ifs (.tst (.prim (.cmp .Gt) (.cons (.call 4 (.cons (.var 0) (.cons (.lit (.int 3)) .nil))) (.cons (.lit (.int 0)) .nil)))) (.seq (.ret (.var 1)) .pass) .pass) (.seq (.set 2 (.prim .lst .nil)) (.seq (.for_ (.one 3) (.itR1 (.prim .len (.cons (.var 1) .nil))) (.seq (.set 4 (.prim .ix (.cons (.var 1) (.cons (.var 3) .nil)))) (.seq (.set 5 (.prim (.bin .Add) (.cons (.lit (.int 1)) (.cons (.prim (.bin .Mod) (.cons (.prim (.bin .Add) (.cons (.prim .ix (.cons (.var 4) (.cons (.lit (.int 0)) .nil))) (.cons (.prim (.bin .Mult) (.cons (.prim (.bin .FloorDiv) (.cons (.var 3) (.cons (.lit (.int 2)) .nil))) (.cons (.lit (.int 7)) .nil))) .nil))) (.cons (.lit (.int 99)) .nil))) .nil)))) (.seq (.expr (.meth .append (.var 2) (.cons (.prim .tup (.cons (.var 5) (.cons (.prim .ix (.cons (.var 4) (.cons (.lit (.int 1)) .nil))) (.cons (.prim (.bin .Add) (.cons (.lit (.int 1)) (.cons (.prim (.bin .Mod) (.cons (.prim (.bin .Add) (.cons (.prim .ix (.cons (.var 4) (.cons (.lit (.int 2)) .nil))) (.cons (.prim (.bin .Mult) (.cons (.prim (.bin .FloorDiv) (.cons (.var 3) (.cons (.lit (.int 3)) .nil))) (.cons (.lit (.int 31)) .nil))) .nil))) (.cons (.lit (.int 99)) .nil))) .nil))) (.cons (.prim .ix (.cons (.var 4) (.cons (.lit (.int 3)) .nil))) (.cons (.prim .ix (.cons (.var 4) (.cons (.lit (.int 4)) .nil))) .nil)))))) .nil))) .pass)))) (.seq (.ret (.var 2)) .pass))))⟩
noncomputable def ap9:MDef:=⟨1,1,(.seq (.R8 (.seq (.ret (.call 79 (.cons (.var 0) .nil))) .pass) [("TooMany",(.prim .lst (.cons (.lit (.str "TooMany")) .nil))),("BadCoin",(.prim .lst (.cons (.lit (.str "BadCoin")) .nil)))]) .pass)⟩
noncomputable def ap8:MDef:=⟨1,9,(.seq (.set 1 (.call 3 (.cons (.var 0) .nil))) (.seq (.for_ (.one 2) (.itR1 (.lit (.int 4))) (.seq (.set 3 (.call 27 (.cons (.var 1) (.cons (.call 82 (.cons (.var 1) (.cons (.prim .ix (.cons (.call 26 (.cons (.var 1) (.cons (.lit (.int 9)) .nil))) (.cons (.lit (.int 0)) .nil))) .nil))) .nil)))) (.seq (.set 4 (.call 28 (.cons (.var 3) .nil))) (.seq (.set 5 (.ite (.tst (.prim (.cmp .NotEq) (.cons (.var 4) (.cons (.lit (.str "")) .nil)))) (.prim .lst (.cons (.var 4) .nil)) (.call 81 (.cons (.var 3) .nil)))) (.seq (.set 6 (.prim .list (.cons (.var 3) .nil))) (.seq (.for_ (.one 7) (.itR1 (.lit (.int 2))) (.seq (.set 8 (.call 30 (.cons (.var 6) .nil))) (.seq (.ifs (.or_ (.tst (.prim (.cmp .NotEq) (.cons (.var 6) (.cons (.var 3) .nil)))) (.not_ (.tst (.call 7 (.cons (.var 8) (.cons (.var 5) .nil)))))) (.seq (.ret (.lit (.bl false))) .pass) .pass) (.seq (.ifs (.and_ (.tst (.prim (.cmp .Gt) (.cons (.prim .len (.cons (.var 8) .nil)) (.cons (.lit (.int 0)) .nil)))) (.tst (.prim .isin (.cons (.prim .ix (.cons (.var 8) (.cons (.lit (.int 0)) .nil))) (.cons (.lit (.ty "list")) .nil))))) (.seq (.expr (.meth .append (.prim .ix (.cons (.var 8) (.cons (.lit (.int 0)) .nil))) (.cons (.lit (.int 9)) .nil))) .pass) .pass) (.seq (.expr (.meth .append (.var 8) (.cons (.prim .lst .nil) .nil))) .pass))))) .pass)))))) (.seq (.ret (.lit (.bl true))) .pass)))⟩
structure T7(T:Nat->Option MDef):Prop where
 nf:NF T
 lf:LF T
 h2:T 2=some v9
 h3:T 3=some am1
 h5:T 5=some W3
 h6:T 6=some ap7
 h7:T 7=some v8
 h8:T 8=some F9
 h11:T 11=some ap8
 h12:T 12=some q8
 h13:T 13=some C6
 h14:T 14=some K4
 h18:CkC T
 h19:DfC T
 h27:T 27=some C7
 h28:T 28=some O3
 h30:T 30=some ap9
 h76:T 76=some G0
 h77:T 77=some y8
 h78:T 78=some N4
 h79:T 79=some ad7
 h80:T 80=some V9
 h81:T 81=some Y1
 h82:T 82=some J6
noncomputable def Due(g:G)(lo r:Nat)(cs:List a8):Prop:=lo<=r/\((wordOf cs=""/\∃rs:List Nat,g[r]?=some (.lst (rs.map .ref))/\Lie g lo r rs (E3 cs))\/(wordOf cs≠""/\g[r]?=some (.lst [.str (wordOf cs)])))
theorem Due.ex{g g':G}{lo r:Nat}{cs:List a8}(h:Due g lo r cs)(e:Ex g g'):Due g' lo r cs:=⟨h.1,by
 rcases h.2 with⟨hw,rs,h1,h2⟩|⟨hw,h1⟩
 ·exact .inl ⟨hw,rs,e.at h1,h2.ex e⟩
 ·exact .inr ⟨hw,e.at h1⟩⟩
theorem Due.bu7{g:G}{lo r lo' r':Nat}{cs:List a8}(h:Due g lo r cs)(h':Due g lo' r' cs)(hz:cs.length<=1000):u6 g 2 (.ref r) (.ref r'):=by
 rcases h.2 with⟨hw,rs,h1,h2⟩|⟨hw,h1⟩
 ·rcases h'.2 with⟨_,rs',h3,h4⟩|⟨z,_⟩
  ·have hl:=h2.len;have hl':=h4.len;have hz2:(E3 cs).length<=cs.length:=J7;refine .lst h1 h3 (by simp;omega) (fun i x y hx hy=>?_) (by simp;omega);rw[List.getElem?_map,Option.map_eq_some_iff] at hx hy;obtain⟨a,hx,rfl⟩:=hx;obtain⟨b,hy,rfl⟩:=hy;have hi:=(List.getElem?_eq_some_iff.mp hx).1;have hh:=List.getElem?_eq_getElem (show i<(E3 cs).length by omega);have q1:=(h2.at_ i a _ hx hh).2.2;have q2:=(h4.at_ i b _ hy hh).2.2;have hm:=List.mem_of_getElem? hh;generalize (E3 cs)[i]=hp at *;refine aH9 q1 q2 (fun z hz=>?_) ?_
   ·obtain⟨j,_,rfl⟩:=List.mem_map.mp hz;exact .inl ⟨_,rfl⟩
   ·obtain⟨p,_,rfl⟩:=List.mem_map.mp hm;rw[List.length_map];exact Nat.le_trans ar7 hz
  ·exact absurd hw z
 ·rcases h'.2 with⟨z,_⟩|⟨_,h3⟩
  ·exact absurd z hw
  ·refine .lst h1 h3 rfl (fun i x y hx hy=>?_) (by simp);rw[hx] at hy;cases hy;cases List.mem_singleton.mp (List.mem_of_getElem? hx);exact .str _
section
variable{T:Nat->Option MDef}{k d:Nat}{g:G}{Q:KD}{E:KX}{a:Nat}{cs:List a8}
theorem aG3(h4:T 4=some t6)(h82:T 82=some J6)(ha:g[a]?=some (.lst (cs.map a8.d)))(hB:∀c∈cs,CB c)(hz:cs.length<=9)(hd:d<a)(D0:d9 g d)(h:∀(cs':List a8) b g',(∀c∈cs',CB c)->cs'.length<=9->g'[b]?=some (.lst (cs'.map a8.d))->(b=a\/g.length<=b)->d9 g' d->Gr d g g'->Q (.ref b) g'):b8 T (k+2) 82 [.ref d,.ref a] g Q E:=by
 refine call_of h82 rfl ?_;dsimp[J6,d5,List.replicate];walk_at "w5";have dl:=D0.lt;refine c9 h4 D0 (by decide) (by decide) fun r g2 r0 r1 D2 G2=>?_;have e2:=G2.at (by omega) ha;walk_at "w5";refine if2 (fun hr=>?_) (fun hr=>?_)
 ·walk_at "w5";exact h cs a g2 hB hz e2 (.inl rfl) D2 G2
 ·walk_at "w5";have x1:=Ex.snoc g2 (O.lst []);have e3:(g2++[O.lst []])[g2.length]?=some (.lst (([]:List a8).map a8.d)):=b9;have l2:=G2.len;generalize g2++[O.lst []]=g3 at *;refine A7 (b0 T _) (K8 (b0 T _) ?_);walk_at "w5"
  try refine A2 (a7 (x1.at e2)) ?_
  try rw[List.length_map]
  have rl:(i0 0 cs.length).length=cs.length:=by simp[i0]
  refine⟨_,rfl,by omega,by omega,i0 0 cs.length,fun i σ g'=>∃cs' z3 z4 z5,σ=[some (.ref d),some (.ref a),some (.ref g2.length),z3,z4,z5]/\cs'.length=i/\(∀c∈cs',CB c)/\g'[g2.length]?=some (.lst (cs'.map a8.d))/\Ex g2 g',fun i σ g p=>p7,⟨[],none,none,none,rfl,rfl,by simp,e3,x1⟩,fun i x σ g4 hx p=>?_,fun σ g4 p=>?_⟩
  ·obtain⟨cs',z3,z4,z5,rfl,hl,hB',e4,x4⟩:=p;obtain⟨hi,rfl⟩:=q9 hx;have ez:(0:Int)+(i:Nat)=(i:Nat):=by omega
   rw[ez];have hci:=List.getElem?_eq_getElem hi;generalize cs[i]=c at hci;refine w9 ?_
   try show wpS _ _ _ _ _ _
   walk_at "w5";refine m7 (d:=c.d) (a7 (x4.at e2)) (o6 (by rw[List.getElem?_map,hci];rfl)) ?_;walk_at "w5";have ct:∀{q:Int} {v:D} {gq:G} {Q:KD},atI [D.int c.lo,.tup (c.lm.map .int),.int c.up,.tup (c.um.map .int),.int c.yr] q=some v->Q v gq->prP .ix [c.d,.int q] gq Q:=fun e h=>K7 e h;refine ct rfl ?_;walk_at "w5";refine E8 (by unfold U6;omega) ?_;walk_at "w5"
   try refine J9 (by decide) ?_
   walk_at "w5"
   try refine ct rfl ?_
   walk_at "w5"
   try refine ct rfl ?_
   walk_at "w5";refine E8 (by unfold U6;omega) ?_;walk_at "w5"
   try refine J9 (by decide) ?_
   walk_at "w5"
   try refine ct rfl ?_
   walk_at "w5"
   try refine ct rfl ?_
   walk_at "w5"
   try refine⟨N1 e4,?_⟩
   try walk_at "w5"
   refine L4 e4 (by rw[List.length_map];omega) ?_;walk_at "w5";refine⟨cs'++[⟨1+(c.lo+(i:Nat) / 2*7) % 99,c.lm,1+(c.up+(i:Nat) / 3*31) % 99,c.um,c.yr⟩],_,_,_,rfl,by simp[hl],fun c' hc'=>?_,by rw[get_set e4,List.map_append];rfl,⟨by rw[List.length_set];exact x4.len,fun q hq=>by rw[List.getElem?_set_ne (by omega)];exact x4.old q hq⟩⟩;rcases List.mem_append.mp hc' with z|z
   ·exact hB' c' z
   ·cases List.mem_singleton.mp z;exact hB c (List.mem_of_getElem? hci)
  ·obtain⟨cs',z3,z4,z5,rfl,hl,hB',e4,x4⟩:=p;walk_at "w5";rw[rl] at hl;exact h cs' _ g4 hB' (by omega) e4 (.inr l2) (x4.draw D2) (G2.trans (x4.gr d))
theorem aS4(hT:T7 T)(ha:g[a]?=some (.lst (cs.map a8.d)))(hz:cs.length<=1000)(h:∀g' r,Ex g g'->Due g' g.length r cs->Q (.ref r) g'):b8 T (k+8) 30 [.ref a] g Q E:=by
 refine call_of hT.h30 rfl ?_;dsimp[ap9,d5,List.replicate];walk_at "w5";refine aQ9 (k:=k) hT.nf hT.h2 hT.h12 hT.h18 hT.h19 hT.h76 hT.h77 hT.h78 hT.h79 ha hz (fun hm=>?_) (fun h9 hb=>?_) (fun g' r rs h9 hg x1 l1 e1 L=>?_)
 ·have e:wordOf cs="TooMany":=by unfold wordOf;rw[if_pos hm]
  refine aU5 rfl ?_;walk_at "w5";exact h _ _ (Ex.snoc _ _) ⟨Nat.le_refl _,.inr ⟨by rw[e];decide,by rw[e];exact b9⟩⟩
 ·have e:wordOf cs="BadCoin":=by unfold wordOf;rw[if_neg (by omega),if_neg (by rw[hb];decide)]
  refine bf1 (by decide) (aU5 rfl ?_);walk_at "w5";exact h _ _ (Ex.snoc _ _) ⟨Nat.le_refl _,.inr ⟨by rw[e];decide,by rw[e];exact b9⟩⟩
 ·have e:wordOf cs="":=by unfold wordOf;rw[if_neg (by omega),if_pos hg]
  exact h _ _ x1 ⟨l1,.inl ⟨e,rs,e1,L⟩⟩
theorem a18(hT:T7 T){ns:List Int}:b8 T (k+9) 11 [.ref 0] [.fro (ns.map .int)] (fun d _=>d=.bl true) NoX:=by
 refine call_of hT.h11 rfl ?_;dsimp[ap8,d5,List.replicate];walk_at "w5";refine a06 hT.h3 (a:=0) (ns:=ns) rfl fun d g D0 _ _=>?_;walk_at "w5";refine ai4 (n:=4) (by decide) (fun i σ g=>d9 g d/\∃z2 z3 z4 z5 z6 z7 z8,σ=[some (.ref 0),some (.ref d),z2,z3,z4,z5,z6,z7,z8]) ⟨D0,none,none,none,none,none,none,none,rfl⟩ (fun i σ g hi p=>?_) (fun σ g p=>?_)
 ·obtain⟨D1,z2,z3,z4,z5,z6,z7,z8,rfl⟩:=p
  try show wpS _ _ _ _ _ _
  walk_at "w5";refine aA5 (k:=k+4) hT.lf ⟨by decide,by decide⟩ D1 fun cs0 a0 v g2 hc hg ea la _ _ D2 G2=>?_;have dl:=D1.lt;walk_at "w5";refine aG3 (k:=k+6) hT.lf.pull hT.h82 ea (fun c hc=>⟨(hg c hc).l8,(hg c hc).u8⟩) (by omega) (by omega) D2 fun cs1 a g2' hB1 hz1 ea1 ha1 D2' G2'=>?_;have hda:d<a:=by rcases ha1 with z|z<;>(have:=D2.lt;omega)
  walk_at "w5";refine as9 (k:=k+4) hT.lf.pull hT.h5 hT.h14 hT.h27 ea1 hB1 hz1 hda D2' fun cs b g3 hB hz eb hb D3 G3=>?_;have hdb:d<b:=by rcases hb with z|z<;>(have:=D2'.lt;omega)
  walk_at "w5";refine aq1 (k:=k+5) hT.h8 hT.h13 hT.h28 eb (by omega) fun g5 e5=>?_;have eb5:=e5.at eb;have D5:=e5.draw D3;walk_at "w5";have fin:∀(N:Ends) (g7:G) (E:KX) (lo r:Nat),Ex g5 g7->Due g7 lo r cs->(∀z6 z7 z8 g',d9 g' d->N.nx [some (.ref 0),some (.ref d),some (.int i),some (.ref b),some (.str (wordOf cs)),some (.ref r),z6,z7,z8] g') ->
    wpS (b8 T (k+8)) (match ap8.body with|.seq _ (.seq (.for_ _ _ (.seq _ (.seq _ (.seq _ b)))) _)=>b|x=>x) N [some (.ref 0),some (.ref d),some (.int i),some (.ref b),some (.str (wordOf cs)),some (.ref r),z6,z7,z8] g7 E:=by
   intro N g7 E lo r e7 W hN;dsimp[ap8];walk_at "w5";have eb7:=e7.at eb5;have D7:=e7.draw D5
   try refine aA3 (a7 eb7) ?_
   have e8:Ex g7 (g7++[O.lst (cs.map a8.d)]):=Ex.snoc _ _;have eh:(g7++[O.lst (cs.map a8.d)])[g7.length]?=some (.lst (cs.map a8.d)):=b9;generalize g7++[O.lst (cs.map a8.d)]=g8 at *;have eb8:=e8.at eb7;have D8:=e8.draw D7;have W8:=W.ex e8;walk_at "w5";refine ai4 (n:=2) (by decide) (fun j σ g=>Ex g8 g/\∃z7 z8,σ=[some (.ref 0),some (.ref d),some (.int i),some (.ref b),some (.str (wordOf cs)),some (.ref r),some (.ref g7.length),z7,z8])
    ⟨Ex.refl _,_,_,rfl⟩ (fun j σ g hj p=>?_) (fun σ g p=>?_)
   ·obtain⟨x9,z7,z8,rfl⟩:=p
    try show wpS _ _ _ _ _ _
    walk_at "w5";refine aS4 hT (x9.at eh) (by omega) fun gA f xA WA=>?_;walk_at "w5";have x10:=x9.trans xA;refine aC0 (aR4 (x10.at eh) (x10.at eb8) ?_);walk_at "w5";refine aH8 hT.h6 hT.h7 2 (k:=k+4) (WA.bu7 (W8.ex x10) (by omega)) fun gB eB=>?_;walk_at "w5";have WB:=WA.ex eB;have xB:=xA.trans eB;have fs:∀{g9:G} {o:O} {m:Nat},g.length<=m->Ex g g9->Ex g (g9.set m o):=fun{g9 o m} hm x=>⟨by rw[List.length_set];exact x.len,fun q hq=>by rw[List.getElem?_set_ne (by omega)];exact x.old q hq⟩
    have last:∀(N:Ends) (z7:Option D) (g9:G) (l:List D) (E:KX),Ex g g9->g9[f]?=some (.lst l)->l.length<=1000->(∀g',Ex g g'->N.nx [some (.ref 0),some (.ref d),some (.int i),some (.ref b),some (.str (wordOf cs)),some (.ref r),some (.ref g7.length),z7,some (.ref f)] g')->wpS (b8 T (k+8)) (.seq (.expr (.meth .append (.var 8) (.cons (.prim .lst .nil) .nil))) .pass) N [some (.ref 0),some (.ref d),some (.int i),some (.ref b),some (.str (wordOf cs)),some (.ref r),some (.ref g7.length),z7,some (.ref f)] g9 E:=by
     intro N z7 g9 l E x e hl hN;walk_at "w5"
     try refine⟨N1 e,?_⟩
     walk_at "w5";refine L4 ((Ex.snoc _ _).at e) (by omega) ?_;walk_at "w5";exact hN _ (fs WA.1 (x.trans (Ex.snoc _ _)))
    rcases WB.2 with⟨hw,rs,f1,L⟩|⟨hw,f1⟩
    ·have hrl:=L.len;have hz2:(E3 cs).length<=cs.length:=J7
     try refine A2 (a7 f1) ?_
     try rw[List.length_map]
     walk_at "w5";cases hrs:rs with
     |nil =>
      refine ifF (by simp) ?_;refine N7 (A4 ?_);exact last _ _ gB _ _ xB f1 (by rw[List.length_map];omega) fun g' x=>⟨x9.trans x,_,_,rfl⟩
     |cons r0 rt =>
      refine ifT (decide_eq_true (by rw[List.length_cons];omega)) ?_;walk_at "w5";refine m7 (d:=.ref r0) (a7 f1) (o6 (j:=0) (by rw[hrs];rfl)) ?_;walk_at "w5";have hp:0<(E3 cs).length:=by rw[<- hrl,hrs];simp
      obtain⟨h0,hh⟩:∃h0,(E3 cs)[0]?=some h0:=⟨_,List.getElem?_eq_getElem hp⟩
      obtain⟨y1,y2,y3⟩:=L.at_ 0 r0 h0 (by rw[hrs];rfl) hh;refine isi (b:=true) (by decide) (by simp[W9,y3]) ?_;walk_at "w5";refine m7 (d:=.ref r0) (a7 f1) (o6 (j:=0) (by rw[hrs];rfl)) ?_;refine⟨N1 y3,?_⟩;walk_at "w5";have hl0:(u9 h0).length<=1000:=by
       obtain⟨p,_,rfl⟩:=List.mem_map.mp (List.mem_of_getElem? hh);rw[List.length_map];exact Nat.le_trans ar7 (by omega)
      refine L4 y3 (by omega) ?_;show wpS _ _ _ _ _ _;refine last _ _ _ _ _ (fs y1 xB) (k8 f1 y2) (by rw[List.length_map];omega) (fun g' x=>?_);exact⟨x9.trans x,_,_,rfl⟩
    ·try refine A2 (a7 f1) ?_
     walk_at "w5"
     try refine ifT rfl ?_
     walk_at "w5"
     try refine m7 (d:=.str (wordOf cs)) (a7 f1) (o6 (j:=0) rfl) ?_
     refine isi (b:=false) (by decide) rfl ?_;refine a53 (N7 (A4 ?_));refine last _ _ _ _ _ xB f1 (by simp) (fun g' x=>?_);exact⟨x9.trans x,_,_,rfl⟩
   ·obtain⟨x9,z7,z8,rfl⟩:=p
    try show wpS _ _ _ _ _ _
    walk_at "w5";exact hN _ _ _ _ (x9.draw D8)
  by_cases hw:wordOf cs=""
  ·refine ifF (by rw[decide_eq_true hw];rfl) ?_
   try walk_at "w1"
   try walk_at "w1"
   try walk_at "w1"
   try walk_at "w1"
   refine aI0 (k:=k+6) hT.h80 hT.h81 eb5 (by omega) fun g7 r rs x7 l7 e7 L=>?_
   try show wpS _ _ _ _ _ _
   refine fin _ g7 _ g5.length r x7 ⟨l7,.inl ⟨hw,rs,e7,L⟩⟩ (fun z6 z7 z8 g' D'=>?_);exact⟨D',_,_,_,_,_,_,_,rfl⟩
  ·refine ifT (by rw[decide_eq_false hw];rfl) ?_
   try walk_at "w1"
   try walk_at "w1"
   try walk_at "w1"
   try walk_at "w1"
   try refine am0 (by simp) ?_
   try show wpS _ _ _ _ _ _
   refine fin _ _ _ g5.length _ (Ex.snoc _ _) ⟨Nat.le_refl _,.inr ⟨hw,b9⟩⟩ (fun z6 z7 z8 g' D'=>?_);exact⟨D',_,_,_,_,_,_,_,rfl⟩
 ·obtain⟨_,z2,z3,z4,z5,z6,z7,z8,rfl⟩:=p
  try show wpS _ _ _ _ _ _
  walk_at "w5"
  rfl
end
end M

namespace Lk
open PySem L2 M
noncomputable def top(i:Nat):Stmt:=PySem.Challenge.pw_trussel_k07_coins_that_hang_together.main.body.getD i (.Pass ⟨0,0,0,0⟩)
noncomputable def a32:Stmt->List Stmt
 |.ClassDef (body:=b) ..=>b
 |_=>[]
noncomputable def bc8(i j:Nat):Stmt:=(a32 (top i)).getD j (.Pass ⟨0,0,0,0⟩)
noncomputable def F:List RF:=[⟨38,"is_number",["thing"],1,7,W0⟩,⟨1,"number_from",["number","least","most"],3,8,P2⟩,⟨2,"good_marks",["marks","least","spot"],1,9,v9⟩,⟨12,"good_coin",["coin","lower","lower_marks","upper","upper_marks","year","good_lower","good_upper"],1,16,q8⟩,⟨39,"check_coin",["coin"],1,17,S9⟩,⟨18,"check_coins",["coins","coin"],1,18,P4⟩,⟨40,"check_side",["side"],1,19,L7⟩,⟨19,"die_field",["side"],1,20,W5⟩,⟨76,"linked",["one","other"],2,22,G0⟩,⟨77,"near_places",["coins","place"],2,23,y8⟩,⟨78,"steps_to",["coins","goal","steps","edge","further","place","near"],2,24,N4⟩,⟨79,"heaps",["coins","told","place","heap"],1,25,ad7⟩,⟨3,"_law_open",["_law_script"],1,27,am1⟩,⟨4,"_law_pull",["_law_draw","_law_total_of","_law_cell","_law_got","_law_seed"],2,28,t6⟩,⟨5,"_law_far",["_law_draw","_law_number"],1,29,W3⟩,⟨6,"_law_num",["_law_found"],1,30,ap7⟩,⟨7,"_law_like",["_law_found","_law_due"],2,31,v8⟩,⟨21,"_law_order_of",["_law_draw","_law_numbers","_law_left","_law_found","_law_step"],2,32,N5⟩,⟨8,"_law_marks_ok",["_law_marks"],1,33,F9⟩,⟨13,"_law_coin_ok",["_law_coin"],1,34,C6⟩,⟨22,"_law_any_coin",["_law_draw","_law_menu","_law_lower","_law_upper","_law_year"],1,35,T1⟩,⟨23,"_law_seated",["_law_draw","_law_seats","_law_fresh","_law_anvils"],4,36,B1⟩,⟨24,"_law_struck",["_law_draw","_law_size","_law_anvils","_law_seats","_law_fresh","_law_worn","_law_year","_law_step","_law_wear","_law_shift","_law_found","_law_k","_law_keys","_law_key","_law_spot","_law_named","_law_told_year"],3,37,B0⟩,⟨25,"_law_opened",["_law_draw","_law_size","_law_dies","_law_row","_law_held","_law_found","_law_k","_law_year"],2,38,Y0⟩,⟨26,"_law_list",["_law_draw","_law_most","_law_size","_law_anvils","_law_way","_law_found","_law_at","_law_coin","_law_other"],2,39,L6⟩,⟨14,"_law_bent_coin",["_law_draw","_law_coin","_law_way","_law_lower","_law_lower_marks","_law_upper","_law_upper_marks","_law_year","_law_odd","_law_number"],2,40,K4⟩,⟨27,"_law_bent_list",["_law_draw","_law_coins","_law_at"],2,41,C7⟩,⟨28,"_law_list_word",["_law_coins"],1,42,O3⟩,⟨80,"_law_share",["_law_one","_law_other"],2,43,V9⟩,⟨81,"_law_heaps",["_law_coins","_law_heap_of","_law_step","_law_i","_law_j"],1,44,Y1⟩,⟨82,"_law_parted_dies",["_law_draw","_law_coins","_law_found","_law_k","_law_coin","_law_lower"],2,45,J6⟩,⟨30,"_law_asked",["_law_coins"],1,46,ap9⟩,⟨11,"law",["_law_script","_law_draw","_law_turn","_law_coins","_law_word","_law_due","_law_handed","_law_step","_law_found"],1,47,ap8⟩]
noncomputable def Ms:List RM:=[]
noncomputable def con:List (Str×D):=[("LAST_SPOT",.int 7),("MOST_COINS",.int 9),("LAST_DIE",.int 99),("LAST_YEAR",.int 9999),("SIDES",.tup [(.str "lower"),(.str "upper")])]
noncomputable def gd:List (Str×List D):=[("DIE_FIELDS",[.tup [.str "lower",.int 0],.tup [.str "upper",.int 2]])]
noncomputable def exc:List Str:=["BadCoin","BadSide","TooMany"]
noncomputable def c0:d6:=⟨[],[],true,F.map fun r=>(r.nm,r.id),con,["len","enumerate","list","tuple","isinstance","all","range","int","bool","str","max","min","sorted","any"],exc,gd,[],Ms.map fun r=>(r.nm,r.cl,r.id),[],true,true⟩
noncomputable abbrev T:Nat->Option MDef:=ag1 F Ms
theorem tx:TabTx c0 F Ms top bc8:=by
 refine⟨rfl,rfl,by decide +kernel,by decide +kernel,by decide +kernel,by decide +kernel,?_,?_,?_,?_⟩
 all_goals
  repeat first
   |exact BF.nil
   |exact BM.nil
   |exact YF.nil
   |exact YM.nil
   |refine YF.cons (by kernel_rfl) ?_
   |refine YM.cons (by kernel_rfl) ?_
   |refine BF.cons (fun _ _ _ _ _ _ us hl=>(by rcases us with _|⟨_,_|⟨_,_|⟨_,_|⟨_,_|⟨_,_|⟨_,_|⟨_,_⟩⟩⟩⟩⟩⟩⟩<;>first|(simp at hl;done)|(exfalso;simp at hl;omega)|rfl)) ?_
   |refine BM.cons (fun _ _ _ _ _ _ us hl=>(by rcases us with _|⟨_,_|⟨_,_|⟨_,_|⟨_,_|⟨_,_|⟨_,_|⟨_,_⟩⟩⟩⟩⟩⟩⟩<;>first|(simp at hl;done)|(exfalso;simp at hl;omega)|rfl)) ?_
inductive ai2:List DictEntry->List (Str×V)->Prop
 |nil:ai2 [] []
 |cons {h:Int} {x:Str} {t:Tok} {u:Value} {v:V} {es:List DictEntry} {vs:List (Str×V)} (r:RelV v u) (q:ai2 es vs):ai2 (⟨h,.str x t,u⟩::es) ((x,v)::vs)
theorem ai2.find{es vs}(x:Str)(h:ai2 es vs):v5 (vs.lookup x) (findBy Value.isStrOf es.toArray x):=by
 induction h with
 |nil=>trivial
 |cons r q ih =>
  rename_i h y t u v es vs;unfold findBy at ih ⊢;rw[List.find?_toArray] at ih ⊢;rw[List.find?_cons,List.lookup_cons];by_cases e:x=y
  ·rw[show(x==y)=true from by simp[e],show Value.isStrOf x (.str y t)=true from by simp[Value.isStrOf,e]];exact r
  ·rw[show(x==y)=false from by simpa using e,show Value.isStrOf x (.str y t)=false from by simp[Value.isStrOf];exact fun z=>e (z.symm)];exact ih
theorem all_mk{l:PySem.W.OpenLaw}{w:World}{K:PySem.W.Frag}{h:Heap}{mg:Str->Option Value}{fa:Addr}{ca4 ga0:Addr}{t0 t1 t2 t3 ct4_0 ct4_1 gt0_0 gt0_1 gt0_2 gt0_3:Tok}{csl4:Array (Option Value)}{cnn4:Nat}{gn0:Nat}{gh0_0 gh0_1:Int}(X:K.In h)(G:h.Ns mainGlobals mg)(hfa:mg "law"=some (.ref fa))(I:TabIn K c0 F Ms top bc8)(e0:PySem.W.nsIn K mainGlobals "LAST_SPOT"=some (some (Value.int 7 t0)))(e1:PySem.W.nsIn K mainGlobals "MOST_COINS"=some (some (Value.int 9 t1)))(e2:PySem.W.nsIn K mainGlobals "LAST_DIE"=some (some (Value.int 99 t2)))(e3:PySem.W.nsIn K mainGlobals "LAST_YEAR"=some (some (Value.int 9999 t3)))(e4:PySem.W.nsIn K mainGlobals "SIDES"=some (some (.ref ca4)))(ce4:K.lookup ca4=some ⟨.type "tuple",none,.seq #[Value.str "lower" ct4_0,Value.str "upper" ct4_1] cnn4,csl4⟩)(g0:PySem.W.nsIn K mainGlobals "DIE_FIELDS"=some (some (.ref ga0)))(ge0:K.lookup ga0=some ⟨.type "dict",none,.dict #[⟨gh0_0,Value.str "lower" gt0_0,Value.int 0 gt0_1⟩,⟨gh0_1,Value.str "upper" gt0_2,Value.int 2 gt0_3⟩] gn0,#[]⟩)(qgh0_0:gh0_0=PyData.keyHash w.params "lower")(qgh0_1:gh0_1=PyData.keyHash w.params "upper")(gs0:(ga0==sysModules)=false)
  : ∃fd:FuncData,(∀(s:Shared) (v:Value),BindsTo s fd ⟨[v],[]⟩ [("_law_script",v)])/\∀base:Heap,K.In base->base.Ns mainGlobals mg->u4 l.prog w K mg base (CXE l.prog w) 80 fa fd ["_law_script"] (spD exc K 1 (b8 T 40 11)):=by
 have A:TabOk w K mg c0 T:=by
  refine a52 I tx X G (fun x d hx=>?_) (fun x kvs hx=>?_)
  ·have hm:=PySem.mem_of_lookup hx;simp only[c0,con,List.mem_cons,List.mem_nil_iff,or_false] at hm;rcases hm with z|z|z|z|z
   ·cases z;exact⟨(.int 7),_,PySem.W.mg_of X G e0,⟨_,rfl⟩,fun _ _=>.int _⟩
   ·cases z;exact⟨(.int 9),_,PySem.W.mg_of X G e1,⟨_,rfl⟩,fun _ _=>.int _⟩
   ·cases z;exact⟨(.int 99),_,PySem.W.mg_of X G e2,⟨_,rfl⟩,fun _ _=>.int _⟩
   ·cases z;exact⟨(.int 9999),_,PySem.W.mg_of X G e3,⟨_,rfl⟩,fun _ _=>.int _⟩
   ·cases z;exact⟨.ref ca4,_,PySem.W.mg_of X G e4,rfl,fun _ _=>.tup (vs:=[.str "lower",.str "upper"]) (.inr ⟨_,_,_,ce4,rfl,rfl,rfl,(by show 2<=sizeLine;decide),.cons ⟨_,rfl⟩ (.cons ⟨_,rfl⟩ (.nil))⟩) (.cons (.str _) (.cons (.str _) (.nil)))⟩
  ·have hm:=PySem.mem_of_lookup hx;simp only[c0,gd,List.mem_cons,List.mem_nil_iff,or_false] at hm;have z:=hm
   ·cases z;have er:ai2 [⟨gh0_0,Value.str "lower" gt0_0,Value.int 0 gt0_1⟩,⟨gh0_1,Value.str "upper" gt0_2,Value.int 2 gt0_3⟩] [("lower",.int 0),("upper",.int 2)]:=.cons (v:=.int 0) ⟨_,rfl⟩ (.cons (v:=.int 2) ⟨_,rfl⟩ (.nil));exact⟨ga0,_,PySem.W.mg_of X G g0,⟨_,_,ge0,⟨⟨_,_,rfl,qgh0_0⟩,⟨⟨_,_,rfl,qgh0_1⟩,True.intro⟩⟩,gs0,fun x=>er.find x⟩,.cons (fun _ _=>.int _) (.cons (fun _ _=>.int _) (.nil))⟩
 obtain⟨f,fd,O,a,t⟩:=av2 I tx _ (List.mem_of_getElem? (i:=32) rfl);cases hfa.symm.trans (PySem.W.mg_of X G a);obtain⟨oc,od,kV,doc,pm,an,cdv,ct,osl,rfl,lk,hcd⟩:=O.fn.ex;exact⟨_,fun s v=>.of_eq rfl,fun base kin gns=>bg7 kin gns A 40 11 _ _ fa _ rfl O⟩
theorem walk{l:PySem.W.OpenLaw}{q:Program}{loose:List Str}{XP:(Str->Option Value)->Heap->Prop}{YP:World->Heap->Prop}{d:DefRec}{K:Params->PySem.W.Frag}(hn:l.most=some 63)(hdf:d.params.defaults=[])(hY:∀(w:World) (h:Heap),YP w h->(K w.params).In h)(F:∀ (w:World) (mg:Str->Option Value) (fa:Addr) (h:Heap),(K w.params).In h->h.Ns mainGlobals mg->mg d.name=some (.ref fa) ->
   ∃ fd:FuncData,(∀ (s:Shared) (u:Value),BindsTo s fd ⟨[u],[]⟩ [("_law_script",u)])/\∀ base:Heap,(K w.params).In base->base.Ns mainGlobals mg->u4 l.prog w (K w.params) mg base (CXE l.prog w) 80 fa fd ["_law_script"] (spD exc (K w.params) 1 (b8 T 40 11))) :
  PySem.W.WalkO q loose XP YP l.row.toRowW d [] (fun f vs=>PySem.call f vs) :=
 L2.aV9 (n:=63) (k:=80) (x:="_law_script") (CX:=fun w=>CXE l.prog w) (sp:=fun w=>spD exc (K w.params) 1 (b8 T 40 11)) hn (by decide) hdf ⟨rfl,by decide,by decide⟩ hY F (fun w H a ns hl hO hS=>bd8 hO hS (a18 (k:=31) ⟨⟨rfl,rfl⟩,⟨rfl,rfl,rfl,rfl,rfl,rfl,rfl⟩,rfl,rfl,rfl,rfl,rfl,rfl,rfl,rfl,rfl,rfl,⟨rfl,rfl⟩,⟨rfl,rfl⟩,rfl,rfl,rfl,rfl,rfl,rfl,rfl,rfl,rfl,rfl⟩)) fun _ _ _ _ _ ⟨_,_,_,_,_,_,_,z⟩=>z
end Lk
open PySem PySem.W PyProof.Rows
set_option maxRecDepth 100000 in
set_option maxHeartbeats 0 in
theorem PySem.Challenge.cw_trussel_k07_coins_that_hang_together_holds : PySem.Challenge.rw_trussel_k07_coins_that_hang_together.Holds := by
 w_on;o_law;k_head;(case hw=>w_witness2)
 k_fill
 refine Lk.walk (l:=PySem.Challenge.rw_trussel_k07_coins_that_hang_together) rfl rfl (fun w h Y=>PySem.W.kIn_of Y) ?F
 case F =>
  intro w mg fa h KX G hmg
  refine' Lk.all_mk KX G hmg ⟨?zz1,?zz2,?zz3,?zz4,?zz5,?zz6,?zz7⟩ ?_ ?_ ?_ ?_ ?_ ?_ ?_ ?_ ?_ ?_ ?_
  (case zz1=>repeat' first | (with_reducible show _=_;k_is) | exact M.PF.nil | apply M.PF.cons)
  (case zz2=>repeat' first | (with_reducible show _=_;k_is) | exact M.PM.nil | apply M.PM.cons)
  (case zz3=>repeat' first | (with_reducible show _=_;k_is) | exact M.PC.nil | apply M.PC.cons)
  (case zz4=>repeat' first | (with_reducible show _=_;k_is) | exact M.PA.nil | apply M.PA.cons)
  (case zz5=>repeat' first | (with_reducible show _=_;k_is) | exact M.PB.nil | apply M.PB.cons)
  (case zz6=>repeat' first | (with_reducible show _=_;first | (with_reducible show PySem.W.excIn _ _ _ _=true;k_exc) | k_is) | exact M.PX.nil | apply M.PX.cons)
  (case zz7=>kernel_rfl)
  all_goals try (with_reducible show _=_;k_is)
  all_goals try ((with_reducible show _=_);rfl)
#print axioms PySem.Challenge.cw_trussel_k07_coins_that_hang_together_holds
