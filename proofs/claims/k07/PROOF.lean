import PyProof.Rows.All
import Wide.All
import OpenK.AllK
import Wide.FinOn
import Lean
import PyProof.EqAt
import PyProof.EqKinds
import PyProof.TupleCall
import PyProof.ZipIter
import PyProof.EnumIter
import KE.KDictSum
import KE.KItemsList
import KE.KSortKey
import KE.KLam
import PyProof.SeqI3
import PyProof.WalkInts
import PyProof.EqLayable
import KE.KSortTup
import PyProof.SetNew
import PyProof.Rows.SetFrom
import PyProof.EnumFor
import PyProof.EnumStmt
import PyProof.WalksMore
import PyProof.SetRoads
import PyProof.ListRange
import PyProof.Conv_int_bool
import KE.KRevSl
import KE.KTryMore
import KE.KIsAll
import PyProof.FString
import PySem.Challenge.RW_storejudge_k07_histories_looked_over
set_option genInjectivity false
set_option compiler.extract_closed false
set_option bootstrap.genMatcherCode false
set_option genSizeOf false
section
open PySem PySem.W PyProof.Rows
set_option Elab.async false
set_option maxRecDepth 100000
set_option maxHeartbeats 0
namespace PySem.W.Fast
def tw12896217097532216654:=0
def tw861502493610598483:=0
def tw66635256119213503:=0
def tw7774113678449685934:=0
def tw15087040717287816588:=0
def tw4529759306923343198:=0
def tw14902404871612966209:=0
def tw13700598899030691371:=0
def tw9380741260308362100:=0
def tw11018145951921344529:=0
def tw3615178456390077923:=0
def tw3998647374267775353:=0
def tw9368122197164973604:=0
def tw8448305426059154538:=0
def tw13788375583471885543:=0
def tw6420159726195949164:=0
def tw1915925776726481438:=0
def tw8997383693586321770:=0
def tw4323258101793500111:=0
def tw16636501806038632012:=0
def tw17590705303994421779:=0
def tw7867829370405329436:=0
def tw9784134513789038367:=0
def tw1467881925912835984:=0
def tw17170472223608059050:=0
def tw140001813534094272:=0
def tw209982475168477708:=0
def tw18262670878535919901:=0
def tw15925456577456769635:=0
def tw11066385474520676512:=0
def tw15621415185263527259:=0
def tw11429584451438056573:=0
def tw1070438729232803039:=0
def tw10206956779759575209:=0
def tw16248296213531012650:=0
def tw18157406047293677543:=0
def tw10159399881129095643:=0
def tw10910644110388302437:=0
def tw12670982853097334264:=0
def tw10341888390210383824:=0
def tw13913613514976480042:=0
def tw13437419889732721216:=0
def tw10295913840692754127:=0
def tw15805137534098808535:=0
def tw7086961617601330827:=0
def tw9404705873571188630:=0
def tw2228412568605170491:=0
def tw13135312941875745310:=0
def tw5101696844757716304:=0
def tw17613222154834848340:=0
def tw14903569129155370506:=0
def tw8285278889055680438:=0
def tw1708089923452030704:=0
def tw2931988195819169919:=0
def tw5072417060200589145:=0
def tw6968137755033780318:=0
def tw15254633091992210921:=0
def tw5362036446546632119:=0
def tw14424681132571578402:=0
def tw726351398001015727:=0
def tw12727641955093265886:=0
def tw8733291241859026926:=0
def tw14226173905949225808:=0
def tw14243238205550065757:=0
def tw17013487888433625170:=0
def tw16756451883985382160:=0
def tw11898673842065290130:=0
def tw4635989785427082552:=0
def tw16864618592142003386:=0
def tw1717767836212652739:=0
def tw6798380500665416597:=0
def tw4884199854448574:=0
def tw4493901809537577575:=0
def tw13622603851894308203:=0
def tw1725486776273817318:=0
def tw3681537716864247207:=0
def tw6549852094080907030:=0
def tw5217270863462422736:=0
def tw3985964047577975286:=0
def tw10510056951384868246:=0
def tw14664691819916384248:=0
def tw6105849179199505303:=0
def tw1840220198017710270:=0
def tw896239598344801917:=0
def tw4039707410889071942:=0
def tw4490611911172417597:=0
def tw14842496431369740429:=0
def tw10258873121960336067:=0
def tw6162269159774324313:=0
def tw6548459193220583526:=0
def tw2295934692909999376:=0
def tw10792498714594961201:=0
def tw523537741815420091:=0
def tw8949853181751564097:=0
def tw3235425350174046738:=0
def tw4971374062829452455:=0
def tw9402243437249704421:=0
def tw16140922888777852060:=0
def tw16615150188913437886:=0
def tw10698057553749749337:=0
def tw7322748291113730364:=0
def tw4321966507151631593:=0
def tw2144661209622563809:=0
def tw6128106870883400570:=0
def tw2570914705882880060:=0
def tw3919386906821981792:=0
def tw13953587524928339648:=0
def tw9879335643197240621:=0
def tw6822071536725586909:=0
def tw1532491051758110099:=0
def tw13810262117814702294:=0
def tw4171853373547519906:=0
def tw12903330217458380548:=0
def tw2080317491765294665:=0
def tw896878414759379649:=0
def tw16902440903046159558:=0
def tw16298917771340976007:=0
def tw11738243743197964597:=0
def tw1972164579936704799:=0
def tw4734895289157585001:=0
def tw11266997524610791606:=0
def tw1205274952441263945:=0
def tw15402603294489630176:=0
def tw5537553045615171315:=0
def tw4562827626845409882:=0
def tw4683681711962371626:=0
def tw3308634892276815127:=0
def tw13034982811429478159:=0
def tw866717566613908145:=0
def tw2353497105660221152:=0
def tw2340837018749705212:=0
def tw6056707288978253535:=0
def tw11907897558876765624:=0
def tw14520296925931582552:=0
def tw12330612334027959195:=0
def tw10879749546641988924:=0
def tw13053770412826190925:=0
def tw9919008367099125623:=0
def tw8760152093665844161:=0
def tw14904681115217272601:=0
def tw16053306600634468012:=0
def tw4015202173357781934:=0
def tw12431713363859531893:=0
def tw13769103115541136327:=0
def tw5444512763150141072:=0
def tw8159993647027272844:=0
def tw2400638427578300857:=0
def tw772564365185477556:=0
def tw11373181179767321252:=0
def tw13674586047789940208:=0
def tw18146532975450069615:=0
def tw14703100239697439463:=0
def tw2646887283097553488:=0
def tw17318462890700432884:=0
def tw12652081859355081885:=0
def tw15861351967447197489:=0
def tw8297923619242306668:=0
def tw17338325484393633139:=0
def tw8737599933303070863:=0
def tw16409965706819354750:=0
def tw15590096980072825465:=0
def tw8219003486749837733:=0
def tw12147665669636231765:=0
def tw8972062959192195235:=0
def tw6472337539984862722:=0
def tw3671519592330383864:=0
def tw2403389108928632939:=0
def tw384561282630992784:=0
def tw1383625962624193546:=0
def tw10876078143196172821:=0
def tw4849480874435393781:=0
def tw13861969467909019144:=0
def tw2941924889016668590:=0
def tw14564479935002850509:=0
def tw2692750590507578028:=0
def tw6148498323302512570:=0
def tw3215387988796971590:=0
def tw8431482922422412695:=0
def tw1979317910248211280:=0
def tw11024694936033576346:=0
def tw16279288168775177219:=0
def tw17710873009340938204:=0
def tw3543459598558145280:=0
def tw52312688904243638:=0
def tw14383893971135437652:=0
def tw938635154573522699:=0
def tw4436474186459923750:=0
def tw6170744672141170255:=0
def tw18418582437962087742:=0
def tw7480016910919988345:=0
def tw9972681490609642005:=0
def tw15779231459743154856:=0
def tw3721919958574915784:=0
def tw2261719852989239553:=0
def tw9860861378791804195:=0
def tw18101783494082082527:=0
def tw4953865588907285216:=0
def tw14172470266813156586:=0
def tw3300257896294614128:=0
def tw11384182702204212275:=0
def tw3351686833078692295:=0
def tw5667099127317398114:=0
def tw643336161829623379:=0
def tw10374632558016547081:=0
def tw12099505692703838030:=0
def tw1864683662541468164:=0
def tw17760279517084355780:=0
def tw14935467056822913822:=0
def tw3419001889969749887:=0
def tw8157277791214410489:=0
def tw3300454383303005205:=0
def tw11401859456886640639:=0
def tw11161164713144168021:=0
def tw2950685276103557050:=0
def tw8080008513338510535:=0
def tw11766667032028208565:=0
def tw4480162626587320490:=0
def tw5344687154915797982:=0
def tw14760874974797668852:=0
def tw6953138203311097117:=0
def tw12459912946257978736:=0
def tw14689541978594310382:=0
def tw4548300405975405348:=0
def tw9536688357841153863:=0
def tw14827714588952709054:=0
def tw17464319187374939960:=0
def tw443766864951011646:=0
def tw4804111812005502284:=0
def tw740290905518256060:=0
def tw4547051000311932777:=0
def tw16919654943277366748:=0
def tw16723463757517087524:=0
def tw11962351593759143498:=0
def tw2455152089536381482:=0
def tw1000662321505670351:=0
def tw12269216009862288129:=0
def tw16120054744476736488:=0
def tw12917704675397863716:=0
def tw1825952489489211193:=0
def tw3270257207059953099:=0
def tw15539815450414544023:=0
def tw13946496683202179788:=0
def tw4684226298888400098:=0
def tw4077048163395320219:=0
def tw10519837036962490867:=0
def tw9387514328989991554:=0
def tw8060666987683057360:=0
def tw4075453323654395381:=0
def tw9495317472360511255:=0
def tw8480184845173159842:=0
end PySem.W.Fast
open_top hd for PySem.Challenge.rw_storejudge_k07_histories_looked_over
end
theorem ZR0 (h:True:=by rfl):True:=h
def ZR:Lean.Syntax:=ZR0._auto_1
theorem ZD0 (h:True:=by decide):True:=h
def ZD:Lean.Syntax:=ZD0._auto_1
theorem ZI0 (h:True:=by intro _;rfl):True:=h
def ZI:Lean.Syntax:=ZI0._auto_1
theorem ZW0 (h:True:=by with_unfolding_all rfl):True:=h
def ZW:Lean.Syntax:=ZW0._auto_1
open PySem.W (Frag)
set_option Elab.async false
set_option linter.all false
set_option maxRecDepth 100000
namespace L2
open PySem PySem.Spec PyProof.Rows
abbrev Key:=Sum Int Str
noncomputable def oO:Key->Value->Bool
 | .inl k,v=>Value.isInt k v
 | .inr x,v=>Value.isStrOf x v
noncomputable def cW6 (w:World):Key->Int
 | .inl k=>hashInt k
 | .inr x=>hashStr w x
theorem keyIs_shape:∀ {k:Key} {v:Value},oO k v=true->(∃ i t,k=Sum.inl i/\v=Value.int i t)\/(∃ x t,k=Sum.inr x/\v=Value.str x t)
 | .inl i,v,h=>by
  obtain ⟨t,e⟩:=Value.isInt_shape (k:=i) (v:=v) h;exact .inl ⟨i,t,rfl,e⟩
 | .inr x,v,h=>by
  obtain ⟨t,e⟩:=Value.isStrOf_shape (x:=x) (v:=v) h;exact .inr ⟨x,t,rfl,e⟩
def xX (i:Int) (t:Tok):oO (.inl i) (.int i t)=true:=by simp [oO,Value.isInt]
def xY (x:Str) (t:Tok):oO (.inr x) (.str x t)=true:=by simp [oO,Value.isStrOf]
def bL7 (a b:Int):decide ((Sum.inl a:Key)=Sum.inl b)=(a==b):=by
 by_cases e:a=b
 ·subst e;simp
 ·have h:¬ (Sum.inl a:Key)=Sum.inl b:=fun q=>e (Sum.inl.inj q);rw [decide_eq_false h];exact (beq_eq_false_iff_ne.mpr e).symm
def bL8 (a b:Str):decide ((Sum.inr a:Key)=Sum.inr b)=decide (a=b):=by
 by_cases e:a=b
 ·subst e;simp
 ·have h:¬ (Sum.inr a:Key)=Sum.inr b:=fun q=>e (Sum.inr.inj q);rw [decide_eq_false h,decide_eq_false e]
def bL9 (a:Int) (b:Str):decide ((Sum.inl a:Key)=Sum.inr b)=false:=decide_eq_false (fun q=>nomatch q)
def bM0 (a:Str) (b:Int):decide ((Sum.inr a:Key)=Sum.inl b)=false:=decide_eq_false (fun q=>nomatch q)
noncomputable def cO (prog:Program) (w:World):PySem.KeyKind prog w Key where
 is:=oO
 hash:=cW6 w
 inj:=fun v a b ha hb=>by
  rcases keyIs_shape ha with ⟨i,t,rfl,rfl⟩ | ⟨x,t,rfl,rfl⟩
  ·rcases keyIs_shape hb with ⟨j,u,rfl,e⟩ | ⟨y,u,rfl,e⟩
   ·injection e with e1 _;rw [e1]
   ·exact nomatch e
  ·rcases keyIs_shape hb with ⟨j,u,rfl,e⟩ | ⟨y,u,rfl,e⟩
   ·exact nomatch e
   ·injection e with e1 _;rw [e1]
 byValue:=fun k v h=>by
  rcases keyIs_shape h with ⟨i,t,rfl,rfl⟩ | ⟨x,t,rfl,rfl⟩<;>rfl
 pyHash:=fun hv h=>by
  rcases keyIs_shape hv with ⟨i,t,rfl,rfl⟩ | ⟨x,t,rfl,rfl⟩
  ·exact wpAny_pyHash_int h
  ·exact wpAny_pyHash_str h
 eqBool:=fun hu hv h=>by
  rcases keyIs_shape hu with ⟨i,t,rfl,rfl⟩ | ⟨x,t,rfl,rfl⟩
  ·rcases keyIs_shape hv with ⟨j,u,rfl,rfl⟩ | ⟨y,u,rfl,rfl⟩
   ·rw [bL7] at h;exact wpAny_eqBool_int h
   ·rw [bL9] at h;exact SeqAt.EqAt.int_str i t y u _ _ _ _ h
  ·rcases keyIs_shape hv with ⟨j,u,rfl,rfl⟩ | ⟨y,u,rfl,rfl⟩
   ·rw [bM0] at h;exact SeqAt.EqAt.str_int x t j u _ _ _ _ h
   ·rw [bL8] at h;exact wpAny_eqBool_str h
 «strs»:=fun k x t v h=>by
  rcases keyIs_shape h with ⟨i,u,rfl,e⟩ | ⟨y,u,rfl,e⟩
  ·exact nomatch e
  ·injection e with e1 _
   subst e1;cases v<;>rfl
def rJ (prog:Program) (w:World) (i:Int) (t:Tok):(cO prog w).is (.inl i) (.int i t)=true:=xX i t
def rK (prog:Program) (w:World) (x:Str) (t:Tok):(cO prog w).is (.inr x) (.str x t)=true:=xY x t
def IsTupD (h:Heap) (a:Addr) (items:Array Value):Prop:=∃ o,h.get? a=some o/\o.cls=.type "tuple"/\(∃ n,o.data=.seq items n)/\o.dict=none
def IsTupD.tup {h:Heap} {a:Addr} {items:Array Value} (x:IsTupD h a items):IsTup h a items:=let ⟨o,h1,h2,h3,_⟩:=x;⟨o,h1,h2,h3⟩
def IsTupD.lt {h:Heap} {a:Addr} {items:Array Value} (x:IsTupD h a items):a < h.objs.size:=let ⟨_,h1,_⟩:=x;Heap.lt_size h1
def IsTupD.new (h:Heap) (items:Array Value):IsTupD (h.push { cls:=.type "tuple",data:=.seq items }) h.objs.size items:=⟨_,Heap.get?_push_size _ rfl,rfl,⟨_,rfl⟩,rfl⟩
set_option genInjectivity true in
inductive V where
 | non | bl (b:Bool) | int (i:Int) | str (x:Str) | byt (b:Array UInt8) | flt (b:UInt64) | ref (a:Addr) | ty (n:String)
 deriving DecidableEq
noncomputable def RelV:V->Value->Prop
 | .non,u=>u=Value.none
 | .bl b,u=>u=Value.bool b
 | .int i,u=>∃ t,u=Value.int i t
 | .str x,u=>∃ t,u=Value.str x t
 | .byt b,u=>∃ t,u=Value.bytes b t
 | .flt b,u=>∃ t,u=Value.float b t
 | .ref a,u=>u=Value.ref a
 | .ty n,u=>u=Value.type n
abbrev Vals:List V->List Value->Prop:=Paired RelV
def Vals.length {xs:List V} {us:List Value} (r:Vals xs us):xs.length=us.length:=Paired.length r
theorem Vals.get:∀ {xs:List V} {us:List Value} {i:Nat} {x:V},Vals xs us->xs[i]?=some x->∃ u,us[i]?=some u/\RelV x u
 | _,_,_,_,.nil,e=>by simp at e
 | _,_,0,_,.cons r _,e=>by simp at e;subst e;exact ⟨_,rfl,r⟩
 | _,_,i+1,x,.cons _ t,e=>by
  obtain ⟨u,h1,h2⟩:=Vals.get (i:=i) (x:=x) t (by simpa using e);exact ⟨u,by simpa using h1,h2⟩
theorem Vals.set {x:V} {u:Value} (r:RelV x u):∀ {xs:List V} {us:List Value} (i:Nat),Vals xs us->Vals (xs.set i x) (us.set i u)
 | _,_,_,.nil=>.nil
 | _,_,0,.cons _ t=>.cons r t
 | _,_,i+1,.cons q t=>.cons q (Vals.set r i t)
theorem Vals.append:∀ {xs ys:List V} {us ws:List Value},Vals xs us->Vals ys ws->Vals (xs++ys) (us++ws)
 | _,_,_,_,.nil,s=>s
 | _,_,_,_,.cons r t,s=>.cons r (Vals.append t s)
theorem Vals.take:∀ {xs:List V} {us:List Value} (n:Nat),Vals xs us->Vals (xs.take n) (us.take n)
 | _,_,0,_=>.nil
 | _,_,_+1,.nil=>.nil
 | _,_,n+1,.cons r t=>.cons r (Vals.take n t)
theorem Vals.drop:∀ {xs:List V} {us:List Value} (n:Nat),Vals xs us->Vals (xs.drop n) (us.drop n)
 | _,_,0,r=>r
 | _,_,_+1,.nil=>.nil
 | _,_,n+1,.cons _ t=>Vals.drop n t
noncomputable def RelO:Option V->Option Value->Prop
 | some v,some u=>RelV v u
 | none,none=>True
 | _,_=>False
noncomputable def KV {κ:Type}:List (κ×V)->List (κ×Value)->Prop:=Paired fun (p:κ×V) (q:κ×Value)=>p.1=q.1/\RelV p.2 q.2
noncomputable def kV:Key->V
 | .inl i=>.int i
 | .inr x=>.str x
set_option genInjectivity true in
inductive HO where
 | lst (xs:List V)
 | tup (xs:List V)
 | dK (kvs:List (Key×V)) | dT (kvs:List (List Key×V))
 | set (S:Int->Bool) (n:Nat)
 | ins (C dx:Addr) (fs:List (Str×V))
 | own (x:Addr)
 | xd (fs:List (Str×V))
 | met (f x:Addr)
 | rng (lo hi:Int)
 | frz (o:Obj) (u:HO)
 | tbl (ps:Array Value)
 | ext (φ:Heap->Prop)
abbrev Hp:=Addr->Option HO
noncomputable def upd (H:Hp) (a:Addr) (o:HO):Hp:=fun b=>if b=a then some o else H b
def aN {H:Hp} {a:Addr} {o:HO}:upd H a o a=some o:=by unfold upd;rw [if_pos rfl]
def aF {H:Hp} {a b:Addr} {o:HO} (h:b≠a):upd H a o b=H b:=by unfold upd;rw [if_neg h]
def wI {H:Hp} {a:Addr} {o u:HO}:upd (upd H a o) a u=upd H a u:=by
 funext b;unfold upd;split<;>rfl
def aS {H:Hp} {a b:Addr} {o:HO} (h:H a=some o) (h':H b=none):a≠b:=by
 intro e;subst e;rw [h] at h';cases h'
section
variable (P:Program) (w:World)
noncomputable def ObjOk (H:Hp) (h:Heap) (a:Addr):HO->Prop
 | .lst xs=>xs.length<=sizeLine/\∃ (its:List Value) (n:Nat),Vals xs its/\h.get? a=some { cls:=.type "list",data:=.seq its.toArray n }
 | .tup xs=>xs.length<=sizeLine/\∃ its:List Value,Vals xs its/\IsTupD h a its.toArray
 | .dK kvs=>kvs.length<=sizeLine/\(a==sysModules)=false/\∃ vs,KV kvs vs/\h.DictOf (cO P w) a vs
 | .dT kvs=>kvs.length<=sizeLine/\(a==sysModules)=false/\∃ xs:List (List Key×Addr×Value),
   Paired (fun (p:List Key×V) (q:List Key×Addr×Value)=>p.1=q.1/\H q.2.1=some (.tup (p.1.map kV))/\RelV p.2 q.2.2) kvs xs /\
   ∃ o es ep,h.get? a=some o/\o.ExactDict/\o.data=.dict es ep/\es.toList=xs.map (entryOfKey (tupleKind (cO P w)))/\(xs.map (·.1)).Nodup
 | .set S n=>h.SetOf (intKind P w) a S n
 | .ins C dx fs=>H dx=some (.own a)/\fs.length<=1000/\dx≠a/\h.get? a=some (PySem.W.instObj C dx) /\
   ∃ mA,h.Ns1 dx mA/\(∀ f,RelO (fs.lookup f) (mA f))/\PySem.Within mA (fs.map (·.1))
 | .own _=>∃ o,h.get? a=some o
 | .xd fs=>∃ mA,h.Ns1 a mA/\∀ f,RelO (fs.lookup f) (mA f)
 | .rng lo hi=>∃ t u v,h.get? a=some { cls:=.type "range",data:=.fields #[.int lo t,.int hi u,.int 1 v] }
 | .frz o u=>h.get? a=some o/\ObjOk H h a u
 | .tbl ps=>h.get? a=some { cls:=.none,data:=.fields ps }
 | .met f x=>h.get? a=some (PySem.W.methodObj (.ref f) (.ref x))
 | .ext φ=>φ h/\(∃ o,h.get? a=some o)/\∀ h1 h2:Heap,φ h1->(∀ o,h1.get? a=some o->h2.get? a=some o)->φ h2
def HOk (H:Hp) (h:Heap):Prop:=∀ a o,H a=some o->ObjOk P w H h a o
end
section
variable {P:Program} {w:World} {H H':Hp} {h h':Heap} {a:Addr} {o:HO}
def ObjOk.lt (x:ObjOk P w H h a o):a < h.objs.size:=by
 cases o with
 | lst xs=>obtain ⟨_,_,_,_,e⟩:=x;exact Heap.lt_size e
 | tup xs=>obtain ⟨_,_,_,p⟩:=x;exact p.lt
 | dK kvs=>obtain ⟨_,_,_,_,o,_,_,e,_⟩:=x;exact Heap.lt_size e
 | dT kvs=>obtain ⟨_,_,_,_,o,_,_,e,_⟩:=x;exact Heap.lt_size e
 | set S n=>obtain ⟨o,_,_,_,e,_⟩:=x;exact Heap.lt_size e
 | ins C dx fs=>obtain ⟨_,_,_,e,_⟩:=x;exact Heap.lt_size e
 | own y=>obtain ⟨_,e⟩:=x;exact Heap.lt_size e
 | xd fs=>obtain ⟨_,⟨_,_,_,e,_⟩,_⟩:=x;exact Heap.lt_size e
 | rng lo hi=>obtain ⟨_,_,_,e⟩:=x;exact Heap.lt_size e
 | frz ob u=>obtain ⟨e,_⟩:=x;exact Heap.lt_size e
 | tbl ps=>exact Heap.lt_size (show h.get? a=some _ from x)
 | met f y=>exact Heap.lt_size (show h.get? a=some _ from x)
 | ext φ=>obtain ⟨_,⟨_,e⟩,_⟩:=x;exact Heap.lt_size e
theorem Paired.mapP {α β:Type} {F G:α->β->Prop}:∀ {l₁:List α} {l₂:List β},Paired F l₁ l₂->(∀ a b,F a b->G a b)->Paired G l₁ l₂
 | _,_,.nil,_=>.nil
 | _,_,.cons r t,f=>.cons (f _ _ r) (Paired.mapP t f)
def ObjOk.stay (x:ObjOk P w H h a o) (k:∀ b u,(b=a\/H b=some (.own a))->h.get? b=some u->h'.get? b=some u)
  (ho:∀ b,H b=some (.own a)->H' b=some (.own a)) (ht:∀ b xs,H b=some (.tup xs)->H' b=some (.tup xs)):ObjOk P w H' h' a o:=by
 induction o with
 | lst xs=>obtain ⟨z,its,n,r,e⟩:=x;exact ⟨z,its,n,r,k _ _ (.inl rfl) e⟩
 | tup xs=>obtain ⟨z,its,r,ob,e,c⟩:=x;exact ⟨z,its,r,ob,k _ _ (.inl rfl) e,c⟩
 | dK kvs=>obtain ⟨z,y,vs,r,ob,es,ep,e,c⟩:=x;exact ⟨z,y,vs,r,ob,es,ep,k _ _ (.inl rfl) e,c⟩
 | dT kvs =>
  obtain ⟨z,y,xs,r,ob,es,ep,e,c⟩:=x;exact ⟨z,y,xs,Paired.mapP r fun p q z=>⟨z.1,ht _ _ z.2.1,z.2.2⟩,ob,es,ep,k _ _ (.inl rfl) e,c⟩
 | set S n=>obtain ⟨ob,es,ep,t,e,c⟩:=x;exact ⟨ob,es,ep,t,k _ _ (.inl rfl) e,c⟩
 | ins C dx fs =>
  obtain ⟨d,z,ne,e,mA,⟨od,es,ep,e2,c⟩,r⟩:=x;exact ⟨ho _ d,z,ne,k _ _ (.inl rfl) e,mA,⟨od,es,ep,k _ _ (.inr d) e2,c⟩,r⟩
 | own y=>obtain ⟨ob,e⟩:=x;exact ⟨ob,k _ _ (.inl rfl) e⟩
 | xd fs=>obtain ⟨mA,⟨od,es,ep,e,c⟩,r⟩:=x;exact ⟨mA,⟨od,es,ep,k _ _ (.inl rfl) e,c⟩,r⟩
 | rng lo hi=>obtain ⟨t,u,v,e⟩:=x;exact ⟨t,u,v,k _ _ (.inl rfl) e⟩
 | frz ob u ih=>obtain ⟨e,q⟩:=x;exact ⟨k _ _ (.inl rfl) e,ih q⟩
 | tbl ps =>
  have e:h.get? a=some { cls:=.none,data:=.fields ps }:=x;show h'.get? a=some { cls:=.none,data:=.fields ps };exact k a _ (.inl rfl) e
 | met f y =>
  have e:h.get? a=some (PySem.W.methodObj (.ref f) (.ref y)):=x;show h'.get? a=some (PySem.W.methodObj (.ref f) (.ref y));exact k a _ (.inl rfl) e
 | ext φ=>obtain ⟨p,⟨o,e⟩,st⟩:=x;exact ⟨st _ _ p fun o q=>k _ _ (.inl rfl) q,⟨o,k _ _ (.inl rfl) e⟩,st⟩
def HOk.lt (x:HOk P w H h) (e:H a=some o):a < h.objs.size:=(x a o e).lt
def HOk.fresh (x:HOk P w H h) (e:h.objs.size<=a):H a=none:=by
 cases q:H a with
 | none=>rfl
 | some u=>exact absurd (Nat.lt_of_lt_of_le (x.lt q) e) (Nat.lt_irrefl _)
def HOk.kept (x:HOk P w H h) (k:∀ b u,h.get? b=some u->h'.get? b=some u):HOk P w H h':=fun a o e =>
 (x a o e).stay (fun b u _ q=>k b u q) (fun _ q=>q) fun _ _ q=>q
def HOk.laid (x:HOk P w H h) (k:∀ b u,h.get? b=some u->h'.get? b=some u) (hp:h.objs.size<=a) (new:ObjOk P w (upd H a o) h' a o):HOk P w (upd H a o) h':=fun b u e=>by
 have hn:=x.fresh hp
 by_cases hb:b=a
 ·subst hb;rw [aN] at e;cases e;exact new
 ·rw [aF hb] at e;exact (x b u e).stay (fun c v _ q=>k c v q) (fun c q=>by rw [aF (aS q hn)];exact q) fun c xs q=>by rw [aF (aS q hn)];exact q
end
def Rd (H:Hp) (a:Addr) (u:HO):Prop:=H a=some u\/∃ o,H a=some (.frz o u)
def Rd.ok {P:Program} {w:World} {H:Hp} {h:Heap} {a:Addr} {u:HO} (r:Rd H a u) (x:HOk P w H h):ObjOk P w H h a u:=by
 rcases r with r | ⟨o,r⟩
 ·exact x a u r
 ·obtain ⟨_,q⟩:=x a _ r;exact q
noncomputable def Mut:Option HO->Prop
 | some (.lst _)=>True
 | some (.dK _)=>True
 | some (.dT _)=>True
 | some (.set _ _)=>True
 | some (.ins _ _ _)=>True
 | some (.ext _)=>True
 | _=>False
section
variable {P:Program} {w:World} {H:Hp} {h h':Heap} {x e:Addr} {o':HO}
def HOk.write (ok:HOk P w H h) (mu:Mut (H x)) (he:e=x\/H e=some (.own x)) (k:∀ b u,b≠e->h.get? b=some u->h'.get? b=some u) (heo:∃ u,h'.get? e=some u)
  (new:ObjOk P w (upd H x o') h' x o'):HOk P w (upd H x o') h':=fun b u q=>by
 have nown:∀ c y,H c=some (.own y)->c≠x:=fun c y r z=>by subst z;rw [r] at mu;exact mu
 have ntup:∀ c xs,H c=some (.tup xs)->c≠x:=fun c xs r z=>by subst z;rw [r] at mu;exact mu
 by_cases hb:b=x
 ·subst hb;rw [aN] at q;cases q;exact new
 ·rw [aF hb] at q
  by_cases hbe:b=e
  ·have q':H b=some (.own x):=by
    rcases he with z | z
    ·exact absurd (hbe.trans z) hb
    ·rw [hbe];exact z
   rw [q] at q';cases q';obtain ⟨v,hv⟩:=heo;exact ⟨v,by rw [hbe];exact hv⟩
  ·refine (ok b u q).stay (fun c v hc r=>k c v ?_ r) (fun c r=>by rw [aF (nown c b r)];exact r) fun c xs r=>by rw [aF (ntup c xs r)];exact r
   rcases hc with rfl | hc
   ·exact hbe
   ·rintro rfl;rcases he with z | z
    ·exact nown c b hc z
    ·rw [hc] at z;cases z;exact hb rfl
end
structure Un (fs ex:List Addr) (H H':Hp) (h h':Heap):Prop where
 keep:∀ b o,h.get? b=some o->H b=none->b∉fs->b∉ex->h'.get? b=some o
 slot:∀ b o,h.get? b=some o->H b=none->b∈fs->b∉ex->∃ sl,h'.get? b=some { o with slots:=sl }
 free:∀ b o,h.get? b=some o->H b=none->b∉ex->H' b=none
 there:∀ b o,h.get? b=some o->b∉ex->∃ o',h'.get? b=some o'
 tups:∀ b xs,H b=some (.tup xs)->H' b=some (.tup xs)
 frzs:∀ b o u,H b=some (.frz o u)->H' b=some (.frz o u)
 tbls:∀ b ps,H b=some (.tbl ps)->∃ more,H' b=some (.tbl (ps++more))
section
variable {fs fs' ex ex':List Addr} {H H1 H2:Hp} {h h1 h2 h':Heap} {a x e:Addr} {o:HO}
def Un.any (u:Un fs ex H H1 h h1) {b:Addr} {ob:Obj} (q:h.get? b=some ob) (n:H b=none) (hx:b∉ex):∃ sl,h1.get? b=some { ob with slots:=sl }:=by
 by_cases hb:b∈fs
 ·exact u.slot b ob q n hb hx
 ·exact ⟨ob.slots,u.keep b ob q n hb hx⟩
def Un.kept (k:∀ b u,h.get? b=some u->h'.get? b=some u):Un fs ex H H h h' :=
 ⟨fun b ob q _ _ _=>k b ob q,fun b ob q _ _ _=>⟨ob.slots,k b ob q⟩,fun _ _ _ n _=>n,fun b ob q _=>⟨ob,k b ob q⟩,fun _ _ q=>q,fun _ _ _ q=>q,fun _ ps q=>⟨#[],by rw [q];simp⟩⟩
def Un.refl:Un fs ex H H h h:=Un.kept fun _ _ q=>q
def Un.laid (k:∀ b u,h.get? b=some u->h'.get? b=some u) (hp:h.objs.size<=a) (hn:H a=none):Un fs ex H (upd H a o) h h' where
 keep:=fun b u q _ _ _=>k b u q
 slot:=fun b u q _ _ _=>⟨u.slots,k b u q⟩
 free:=fun b u q n _=>by rw [aF (Nat.ne_of_lt (Nat.lt_of_lt_of_le (Heap.lt_size q) hp))];exact n
 there:=fun b u q _=>⟨u,k b u q⟩
 tups:=fun b xs q=>by rw [aF (aS q hn)];exact q
 frzs:=fun b u xs q=>by rw [aF (aS q hn)];exact q
 tbls:=fun b ps q=>⟨#[],by rw [aF (aS q hn),q];simp⟩
def Un.write (mu:Mut (H x)) (he:e=x\/H e=some (.own x)) (k:∀ b u,b≠e->h.get? b=some u->h'.get? b=some u) (heo:∃ u,h'.get? e=some u):Un fs ex H (upd H x o) h h':=by
 have hx:∀ b,H b=none->b≠x:=fun b n z=>by subst z;rw [n] at mu;exact mu
 have hb:∀ b,H b=none->b≠e:=fun b n z=>by
  subst z;rcases he with r | r
  ·exact hx b n r
  ·rw [n] at r;cases r
 have hm:∀ b u,H b=some u->¬ Mut (some u)->b≠x:=fun b u q nm z=>by subst z;rw [q] at mu;exact nm mu
 refine ⟨fun b u q n _ _=>k b u (hb b n) q,fun b u q n _ _=>⟨u.slots,k b u (hb b n) q⟩,fun b u q n _=>by rw [aF (hx b n)];exact n,fun b u q _=>?_,
  fun b xs q=>by rw [aF (hm b _ q fun z=>z)];exact q,fun b u xs q=>by rw [aF (hm b _ q fun z=>z)];exact q,fun b ps q=>⟨#[],by rw [aF (hm b _ q fun z=>z),q];simp⟩⟩
 by_cases hbe:b=e
 ·subst hbe;exact heo
 ·exact ⟨u,k b u hbe q⟩
end
noncomputable def trk (h:Heap) (H:Hp):List Addr:=(List.range h.objs.size).filter fun a=>(H a).isSome
noncomputable def pX (h:Heap) (H:Hp):Heap:=PySem.W.hideAll h (trk h H)
def xZ (h:Heap) (H:Hp):(pX h H).objs.size=h.objs.size:=PySem.W.hideAll_size _ _
def aC4 {h:Heap} {H:Hp} {b:Addr} {o:Obj} (e:h.get? b=some o) (n:H b=none):(pX h H).get? b=some o :=
 PySem.W.hideAll_get _ e fun hm=>by
  have q:(H b).isSome=true:=(List.mem_filter.mp hm).2;rw [n] at q;simp at q
def aQ5 {h:Heap} {H:Hp} {b:Addr} {o:Obj} (e:(pX h H).get? b=some o):h.get? b=some o/\H b=none:=by
 have e':h.get? b=some o:=PySem.W.of_hideAll (trk h H) e;refine ⟨e',?_⟩;cases q:H b with
 | none=>rfl
 | some x =>
  have hm:b∈trk h H:=List.mem_filter.mpr ⟨List.mem_range.mpr (Heap.lt_size e'),by simp [q]⟩;have z:(pX h H).get? b=none:=PySem.W.hideAll_none (trk h H) hm;rw [z] at e;cases e
structure Mod (K:Frag) (mg:Str->Option Value) (base:Heap):Prop where
 kin:K.In base
 glob:base.Ns mainGlobals mg
 blt:∃ mb,base.Ns builtinsNs mb/\∀ x:Str,x≠"__name__"->mb x=bootBuiltins x
 nolimit:base.NoLimit
structure Cx where
 prog:Program
 w:World
 K:Frag
 mg:Str->Option Value
 base:Heap
 A:Around
 N:List Str
 s₀:Shared
 H₀:Hp
 env:Env
 outer:List Env
 stack:List Env
 ex:List Addr
 fn:Str->Bool
 calm:Bool
 pn:List (Addr×Obj)
 xe:Value->Shared->Prop
noncomputable def frs (l:List Env):List Addr:=l.filterMap (·.frame)
noncomputable abbrev Cx.fs (X:Cx):List Addr:=frs X.outer
def Vis (sc:Scope) (x:Str):Prop:=sc.names.lookup x=some .local\/sc.names.lookup x=some .cell\/sc.names.lookup x=some .free
def Loc (sc:Scope) (x:Str):Prop:=sc.names.lookup x=some .local\/sc.names.lookup x=some .cell
def cW7 (env:Env) (h:Heap) (m:Str->Option Value) (x:Str) (u:Value):Prop :=
 (env.kindOf x=some .local/\m x=some u)\/((env.kindOf x=some .cell\/env.kindOf x=some .free)/\∃ c,env.cells.lookup x=some c/\h.IsCell c (some u))
structure Cx.Ok (X:Cx):Prop where
 mod:Mod X.K X.mg X.base
 kind:X.env.scope.kind=.function
 glob:X.env.globals=mainGlobals
 blt:X.env.builtins=builtinsNs
 above:X.s₀.heap.objs.size<=X.env.locals
 inj:∀ x y c,X.env.cells.lookup x=some c->X.env.cells.lookup y=some c->x=y
 has:∀ x,(X.env.kindOf x=some .cell\/X.env.kindOf x=some .free)->∃ c,X.env.cells.lookup x=some c
 cab:∀ x c,X.fn x=true->X.env.cells.lookup x=some c->X.s₀.heap.objs.size<=c
 hd:X.calm=true->X.A.handled=none
 frames:X.A.frames=some X.stack
 stk:X.stack=X.outer\/(X.stack=X.env::X.outer/\X.env.frame=some X.env.locals)
 exf:∀ b∈X.ex,b≠X.env.locals/\∀ x c,X.env.cells.lookup x=some c->c≠b
 bs:∀ b o,X.base.get? b=some o->X.s₀.heap.get? b=some o/\X.H₀ b=none
 bsz:X.base.objs.size<=X.s₀.heap.objs.size
 noex:∀ b o,X.base.get? b=some o->b∉X.ex
 exfs:∀ b∈X.ex,b∉X.fs
 funs:X.s₀.heap.FunFrames X.base X.outer
 frf:∀ b∈X.fs,X.H₀ b=none
structure Inv (X:Cx) (pins:List (Addr×Obj)) (σ:List (Option V)) (H:Hp) (s:Shared):Prop where
 ok:X.Ok
 os:s.os=X.s₀.os
 bare:AllBare s.gens
 base:Un X.fs X.ex X.H₀ H X.s₀.heap s.heap
 loc:∃ m,s.heap.Ns X.env.locals m/\∀ (i:Nat) (x:Str) (v:V),X.N[i]?=some x->σ[i]?=some (some v)->Vis X.env.scope x->∃ u,RelV v u/\cW7 X.env s.heap m x u
 cell:∀ x c,X.env.cells.lookup x=some c->∃ v,s.heap.IsCell c v
 free:H X.env.locals=none
 freeC:∀ x c,X.env.cells.lookup x=some c->H c=none
 pin:∀ p∈X.pn++pins,s.heap.get? p.1=some p.2/\H p.1=none/\p.1≠X.env.locals/\p.1∉X.fs/\∀ v,p.2.data≠.cell v
 hok:HOk X.prog X.w H s.heap
 len:σ.length=X.N.length
section
variable {X:Cx} {pins:List (Addr×Obj)} {σ:List (Option V)} {H H':Hp} {s:Shared} {h':Heap}
def Cx.Ok.nofr (ok:X.Ok) {b:Addr} {o:Obj} (e:X.base.get? b=some o):b∉X.fs:=fun hb=>by
 have:=(ok.funs.mem hb).1;rw [e] at this;cases this
def Inv.bs (I:Inv X pins σ H s):∀ b o,X.base.get? b=some o->s.heap.get? b=some o/\H b=none:=fun b o e =>
 ⟨I.base.keep b o (I.ok.bs b o e).1 (I.ok.bs b o e).2 (I.ok.nofr e) (I.ok.noex b o e),I.base.free b o (I.ok.bs b o e).1 (I.ok.bs b o e).2 (I.ok.noex b o e)⟩
def Inv.bk (I:Inv X pins σ H s):∀ b o,X.base.get? b=some o->s.heap.get? b=some o:=fun b o e=>(I.bs b o e).1
def Inv.mod (I:Inv X pins σ H s):Mod X.K X.mg X.base:=I.ok.mod
def Inv.kIn (I:Inv X pins σ H s):X.K.In s.heap:=I.ok.mod.kin.keeps I.bk
def Inv.lt (I:Inv X pins σ H s):X.env.locals < s.heap.objs.size:=let ⟨_,hn,_⟩:=I.loc;hn.lt
def Inv.sz (I:Inv X pins σ H s):X.s₀.heap.objs.size<=s.heap.objs.size:=Nat.le_trans I.ok.above (Nat.le_of_lt I.lt)
def Inv.nofs (I:Inv X pins σ H s) {a:Addr} (h:s.heap.objs.size<=a):a∉X.fs:=fun hb=>by
 obtain ⟨_,o,ho,_⟩:=I.ok.funs.mem hb;exact absurd (Nat.lt_of_lt_of_le (Heap.lt_size ho) (Nat.le_trans I.sz h)) (Nat.lt_irrefl _)
def Inv.cne (I:Inv X pins σ H s):∀ x c,X.env.cells.lookup x=some c->c≠X.env.locals:=fun x c e z=>by
 obtain ⟨v,o,ho,hd⟩:=I.cell x c e;obtain ⟨m,⟨o',es,ep,ho',hd',_⟩,_⟩:=I.loc;rw [z,ho'] at ho;cases ho;rw [hd'] at hd;cases hd
def Inv.funs (I:Inv X pins σ H s):s.heap.FunFrames X.base X.outer:=by
 have all:∀ (l:List Env),(∀ b∈frs l,b∈X.fs)->X.s₀.heap.FunFrames X.base l->s.heap.FunFrames X.base l:=by
  intro l;induction l with
  | nil=>intro _ _;trivial
  | cons env r ih =>
   intro hs hl;obtain ⟨hk,⟨L,o,hf,hn,ho,hd⟩,hr⟩:=hl;have hL:L∈X.fs:=hs L (by unfold frs;rw [List.filterMap_cons,hf];exact List.mem_cons_self);obtain ⟨sl,e⟩:=I.base.slot L o ho (I.ok.frf L hL) hL fun z=>I.ok.exfs L z hL;exact ⟨hk,⟨L,_,hf,hn,e,hd⟩,ih (fun b hb=>hs b (by unfold frs;rw [List.filterMap_cons,hf];exact List.mem_cons_of_mem _ hb)) hr⟩
 exact all X.outer (fun _ hb=>hb) I.ok.funs
def Inv.stack (I:Inv X pins σ H s):s.heap.FunFrames X.base X.stack:=by
 rcases I.ok.stk with e | ⟨e,hf⟩
 ·rw [e];exact I.funs
 ·rw [e];obtain ⟨m,hn,_⟩:=I.loc;refine .cons (by rw [I.ok.kind];decide) hf hn ?_ I.funs;exact Heap.get?_none_of_le (Nat.le_trans I.ok.bsz I.ok.above)
def Inv.stkSub (I:Inv X pins σ H s):∀ b∈frs X.stack,b∈X.env.locals::X.fs:=fun b hb=>by
 rcases I.ok.stk with e | ⟨e,hf⟩
 ·rw [e] at hb;exact List.mem_cons_of_mem _ hb
 ·rw [e] at hb;unfold frs at hb;rw [List.filterMap_cons,hf] at hb;exact hb
def Inv.stkFree (I:Inv X pins σ H s):∀ b∈frs X.stack,H b=none:=fun b hb=>by
 rcases List.mem_cons.mp (I.stkSub b hb) with e | hb
 ·rw [e];exact I.free
 ·obtain ⟨_,o,ho,_⟩:=I.ok.funs.mem hb;exact I.base.free b o ho (I.ok.frf b hb) fun z=>I.ok.exfs b z hb
def Inv.step {g':Array GenState} {t':Nat} {d':Drawn} {ch:List Addr} (I:Inv X pins σ H s)
  (hch:∀ b∈ch,(b∈X.ex\/X.s₀.heap.objs.size<=b)/\b≠X.env.locals/\(∀ x c,X.env.cells.lookup x=some c->c≠b)/\∀ p∈X.pn++pins,p.1≠b)
  (keep:∀ b o,b≠X.env.locals->b∉X.fs->b∉ch->s.heap.get? b=some o->H b=none->h'.get? b=some o)
  (slot:∀ b o,b≠X.env.locals->b∈X.fs->b∉ch->s.heap.get? b=some o->H b=none->∃ sl,h'.get? b=some { o with slots:=sl }) (free:∀ b o,b∉ch->s.heap.get? b=some o->H b=none->H' b=none)
  (there:∀ b o,b∉ch->s.heap.get? b=some o->∃ o',h'.get? b=some o')
  (tups:∀ b xs,H b=some (.tup xs)->H' b=some (.tup xs)) (frzs:∀ b o u,H b=some (.frz o u)->H' b=some (.frz o u)) (tbls:∀ b ps,H b=some (.tbl ps)->∃ more,H' b=some (.tbl (ps++more)))
  (ns:∀ m,s.heap.Ns X.env.locals m->h'.Ns X.env.locals m) (hok:HOk X.prog X.w H' h') (hg:AllBare g') :
  Inv X pins σ H' { s with heap:=h',gens:=g',drawn:=d',toks:=t' }:=by
 have neL:∀ b o,X.s₀.heap.get? b=some o->b≠X.env.locals:=fun b o e=>Nat.ne_of_lt (Nat.lt_of_lt_of_le (Heap.lt_size e) I.ok.above);have neC:∀ b o,X.s₀.heap.get? b=some o->b∉X.ex->b∉ch:=fun b o e hx hb=>by
  rcases (hch b hb).1 with z | z
  ·exact hx z
  ·exact absurd (Nat.lt_of_lt_of_le (Heap.lt_size e) z) (Nat.lt_irrefl _)
 have cellK:∀ x c,X.env.cells.lookup x=some c->∀ v,s.heap.IsCell c v->h'.IsCell c v:=fun x c e v ⟨o,ho,hd⟩=>by
  have nch:c∉ch:=fun z=>(hch c z).2.2.1 x c e rfl
  by_cases hc:c∈X.fs
  ·obtain ⟨sl,q⟩:=slot c o (I.cne x c e) hc nch ho (I.freeC x c e);exact ⟨_,q,hd⟩
  ·exact ⟨o,keep c o (I.cne x c e) hc nch ho (I.freeC x c e),hd⟩
 refine ⟨I.ok,I.os,hg,⟨fun b o e n hb hx=>?_,fun b o e n hb hx=>?_,fun b o e n hx=>?_,fun b o e hx=>?_,fun b xs e=>tups b xs (I.base.tups b xs e),fun b o xs e=>frzs b o xs (I.base.frzs b o xs e),fun b ps e=>?_⟩,?_,fun x c e=>?_,?_,fun x c e=>?_,fun p hp=>?_,hok,I.len⟩
 ·exact keep b o (neL b o e) hb (neC b o e hx) (I.base.keep b o e n hb hx) (I.base.free b o e n hx)
 ·obtain ⟨sl,e1⟩:=I.base.slot b o e n hb hx;obtain ⟨sl',e2⟩:=slot b _ (neL b o e) hb (neC b o e hx) e1 (I.base.free b o e n hx);exact ⟨sl',e2⟩
 ·obtain ⟨o',e1⟩:=I.base.there b o e hx;exact free b o' (neC b o e hx) e1 (I.base.free b o e n hx)
 ·obtain ⟨o',e1⟩:=I.base.there b o e hx;exact there b o' (neC b o e hx) e1
 ·obtain ⟨m1,e1⟩:=I.base.tbls b ps e;obtain ⟨m2,e2⟩:=tbls b _ e1;exact ⟨m1++m2,by rw [e2,Array.append_assoc]⟩
 ·obtain ⟨m,hn,hl⟩:=I.loc;refine ⟨m,ns m hn,fun i x v e1 e2 e3=>?_⟩;obtain ⟨u,r,l⟩:=hl i x v e1 e2 e3;refine ⟨u,r,?_⟩;rcases l with l | ⟨k,c,e,z⟩
  ·exact .inl l
  ·exact .inr ⟨k,c,e,cellK x c e _ z⟩
 ·obtain ⟨v,z⟩:=I.cell x c e;exact ⟨v,cellK x c e v z⟩
 ·obtain ⟨m,⟨o,_,_,ho,_⟩,_⟩:=I.loc;exact free _ o (fun z=>(hch _ z).2.1 rfl) ho I.free
 ·obtain ⟨v,o,ho,hd⟩:=I.cell x c e;exact free c o (fun z=>(hch c z).2.2.1 x c e rfl) ho (I.freeC x c e)
 ·obtain ⟨e,n,ne,nf,d⟩:=I.pin p hp;have nch:p.1∉ch:=fun z=>(hch p.1 z).2.2.2 p hp rfl;exact ⟨keep p.1 p.2 ne nf nch e n,free p.1 p.2 nch e n,ne,nf,d⟩
def Inv.un {t':Nat} (I:Inv X pins σ H s) (u:Un X.fs [] H H' s.heap h') (hok:HOk X.prog X.w H' h'):Inv X pins σ H' { s with heap:=h',toks:=t' }:=by
 obtain ⟨m,⟨o,es,ep,ho,r⟩,_⟩:=id I.loc;obtain ⟨sl,hL⟩:=u.any ho I.free (by simp);exact I.step (g':=s.gens) (d':=s.drawn) (ch:=[]) (fun _ z=>nomatch z) (fun b o _ hb _ e n=>u.keep b o e n hb (by simp)) (fun b o _ hb _ e n=>u.slot b o e n hb (by simp)) (fun b o _ e n=>u.free b o e n (by simp)) (fun b o _ e=>u.there b o e (by simp)) u.tups u.frzs u.tbls (fun m' hm=>by
  obtain ⟨o',es',ep',ho',r'⟩:=hm;rw [ho] at ho';cases ho';exact ⟨_,es',ep',hL,r'⟩) hok I.bare
def Inv.call {g':Array GenState} {t':Nat} {d':Drawn} {ch:List Addr} (I:Inv X pins σ H s) (u:Un (frs X.stack) ch H H' s.heap h') (hok:HOk X.prog X.w H' h') (hg:AllBare g')
  (hch:∀ b∈ch,(b∈X.ex\/X.s₀.heap.objs.size<=b)/\b≠X.env.locals/\(∀ x c,X.env.cells.lookup x=some c->c≠b)/\∀ p∈X.pn++pins,p.1≠b) :
  Inv X pins σ H' { s with heap:=h',gens:=g',drawn:=d',toks:=t' }:=by
 obtain ⟨m,⟨o,es,ep,ho,r⟩,_⟩:=id I.loc;obtain ⟨sl,hL⟩:=u.any ho I.free fun z=>(hch _ z).2.1 rfl;exact I.step (ch:=ch) hch (fun b o hL hb hc e n=>u.keep b o e n (fun z=>(List.mem_cons.mp (I.stkSub b z)).elim hL hb) hc) (fun b o _ _ hc e n=>u.any e n hc) (fun b o hc e n=>u.free b o e n hc) (fun b o hc e=>u.there b o e hc) u.tups u.frzs u.tbls (fun m' hm=>by
  obtain ⟨o',es',ep',ho',r'⟩:=hm;rw [ho] at ho';cases ho';exact ⟨_,es',ep',hL,r'⟩) hok hg
def Inv.turned {t':Nat} {it:Addr} (I:Inv X pins σ H s) (k:∀ b o,b≠it->s.heap.get? b=some o->h'.get? b=some o) (hn:H it=none) (hL:it≠X.env.locals)
  (h1:it∈X.ex\/X.s₀.heap.objs.size<=it) (h2:∀ x c,X.env.cells.lookup x=some c->c≠it) (h3:∀ p∈X.pn++pins,p.1≠it):Inv X pins σ H { s with heap:=h',toks:=t' }:=by
 have nit:∀ b u,H b=some u->b≠it:=fun b u e z=>by rw [z,hn] at e;cases e
 refine I.step (g':=s.gens) (d':=s.drawn) (ch:=[it]) (fun b hb=>?_) (fun b o _ _ hc e _=>k b o (fun z=>hc (by simp [z])) e) (fun b o _ _ hc e _=>⟨o.slots,k b o (fun z=>hc (by simp [z])) e⟩) (fun _ _ _ _ n=>n)
  (fun b o hc e=>⟨o,k b o (fun z=>hc (by simp [z])) e⟩) (fun _ _ e=>e) (fun _ _ _ e=>e) (fun b ps e=>⟨#[],by rw [e];simp⟩) (fun m hm=>?_) (fun b u e=>?_) I.bare
 ·have e:b=it:=by simpa using hb
  subst e;exact ⟨h1,hL,h2,h3⟩
 ·obtain ⟨o,es,ep,ho,r⟩:=hm;exact ⟨o,es,ep,k _ o (Ne.symm hL) ho,r⟩
 ·refine (I.hok b u e).stay (fun c v hc q=>k c v ?_ q) (fun _ q=>q) fun _ _ q=>q;rcases hc with z | z
  ·rw [z];exact nit b u e
  ·exact nit c _ z
def Inv.tok (I:Inv X pins σ H s) (t:Nat):Inv X pins σ H { s with toks:=t }:=I.un (h':=s.heap) (t':=t) Un.refl I.hok
def Inv.kept {t':Nat} (I:Inv X pins σ H s) (k:∀ b u,s.heap.get? b=some u->h'.get? b=some u):Inv X pins σ H { s with heap:=h',toks:=t' }:=I.un (Un.kept k) (I.hok.kept k)
def Inv.laid {a:Addr} {o:HO} {t':Nat} (I:Inv X pins σ H s) (k:∀ b u,s.heap.get? b=some u->h'.get? b=some u) (hp:s.heap.objs.size<=a) (new:ObjOk X.prog X.w (upd H a o) h' a o) :
  Inv X pins σ (upd H a o) { s with heap:=h',toks:=t' }:=I.un (Un.laid k hp (I.hok.fresh hp)) (I.hok.laid k hp new)
def Inv.write {x e:Addr} {o:HO} {t':Nat} (I:Inv X pins σ H s) (mu:Mut (H x)) (he:e=x\/H e=some (.own x)) (k:∀ b u,b≠e->s.heap.get? b=some u->h'.get? b=some u) (heo:∃ u,h'.get? e=some u)
  (new:ObjOk X.prog X.w (upd H x o) h' x o):Inv X pins σ (upd H x o) { s with heap:=h',toks:=t' }:=I.un (Un.write mu he k heo) (I.hok.write mu he k heo new)
def Inv.pins_of {pins':List (Addr×Obj)} (I:Inv X pins σ H s) (h:∀ p∈pins',s.heap.get? p.1=some p.2/\H p.1=none/\p.1≠X.env.locals/\p.1∉X.fs/\∀ v,p.2.data≠.cell v):Inv X pins' σ H s :=
 ⟨I.ok,I.os,I.bare,I.base,I.loc,I.cell,I.free,I.freeC,fun p hp=>(List.mem_append.mp hp).elim (fun z=>I.pin p (List.mem_append_left _ z)) (h p),I.hok,I.len⟩
def rL {N:List Str} (hN:N.Nodup) {i j:Nat} {x:Str} (a:N[i]?=some x) (b:N[j]?=some x):i=j:=by
 obtain ⟨h1,e1⟩:=List.getElem?_eq_some_iff.mp a;obtain ⟨h2,e2⟩:=List.getElem?_eq_some_iff.mp b;exact (List.getElem_inj hN).mp (e1.trans e2.symm)
def oP {M:Model} {A:Around} {E:Value->Shared->Prop} {i:Nat} {x:Str} {v:V} {u:Value} {Q:Unit->Shared->Prop} (I:Inv X pins σ H s) (hN:X.N.Nodup) (hi:X.N[i]?=some x) (hx:Loc X.env.scope x) (r:RelV v u)
  (h:∀ s',Inv X pins (σ.set i (some v)) H s'->(∃ a,Heap.SameBut a s.heap s'.heap/\(a=X.env.locals\/X.env.cells.lookup x=some a))->Q () s') (hf:X.fn x=true\/X.env.scope.names.lookup x=some .local:=by first | exact .inl rfl | exact .inr rfl | assumption):wpAny M A (storeName X.env x u) Q E s:=by
 obtain ⟨m,hn,hl⟩:=id I.loc;have hcls:(X.env.scope.kind==.class||(X.env.scope.kind==.module&&X.env.locals != X.env.globals))=false:=by rw [I.ok.kind];rfl
 have hiσ:i < σ.length:=by rw [I.len];exact (List.getElem?_eq_some_iff.mp hi).1
 have cne:=I.cne;have tracked:∀ {a:Addr} {h':Heap},(∃ o,s.heap.get? a=some o/\H a=none)->Heap.SameBut a s.heap h'->HOk X.prog X.w H h':=fun {a h'} ha hs b ob e=>by
  obtain ⟨_,_,hfree⟩:=ha;refine (I.hok b ob e).stay (fun c w' hc q=>(hs.2 c ?_).trans q) (fun _ q=>q) fun _ _ q=>q;rintro rfl;rcases hc with rfl | hc
  ·rw [hfree] at e;cases e
  ·rw [hfree] at hc;cases hc
 rcases hx with hk | hk
 ·refine wpAny_storeName_local hk hn (fun h' hn' hs=>?_) hcls;obtain ⟨oL,_,_,hoL,_⟩:=id hn;refine h _ ⟨I.ok,I.os,I.bare,⟨fun b o e n hb hx=>?_,fun b o e n hb hx=>?_,I.base.free,fun b o e hx=>?_,I.base.tups,I.base.frzs,I.base.tbls⟩,⟨_,hn',fun j y v' e1 e2 e3=>?_⟩,fun y c e=>?_,I.free,I.freeC,fun p hp=>?_,tracked ⟨oL,hoL,I.free⟩ hs,by simpa using I.len⟩ ⟨_,hs,.inl rfl⟩
  ·exact (hs.2 b (Nat.ne_of_lt (Nat.lt_of_lt_of_le (Heap.lt_size e) I.ok.above))).trans (I.base.keep b o e n hb hx)
  ·obtain ⟨sl,e1⟩:=I.base.slot b o e n hb hx;exact ⟨sl,(hs.2 b (Nat.ne_of_lt (Nat.lt_of_lt_of_le (Heap.lt_size e) I.ok.above))).trans e1⟩
  ·obtain ⟨o',e1⟩:=I.base.there b o e hx;exact ⟨o',(hs.2 b (Nat.ne_of_lt (Nat.lt_of_lt_of_le (Heap.lt_size e) I.ok.above))).trans e1⟩
  ·by_cases hj:j=i
   ·subst hj;rw [hi] at e1;cases e1;rw [List.getElem?_set_self hiσ] at e2;cases e2;exact ⟨u,r,.inl ⟨hk,by simp⟩⟩
   ·rw [List.getElem?_set_ne (Ne.symm hj)] at e2;obtain ⟨u',r',q⟩:=hl j y v' e1 e2 e3;refine ⟨u',r',?_⟩;rcases q with ⟨k,e⟩ | ⟨k,c,e,z⟩
    ·refine .inl ⟨k,?_⟩;have:y≠x:=fun e=>hj (rL hN e1 (e ▸ hi));simp [this,e]
    ·exact .inr ⟨k,c,e,z.sameBut hs (cne y c e)⟩
  ·obtain ⟨w',z⟩:=I.cell y c e;exact ⟨w',z.sameBut hs (cne y c e)⟩
  ·obtain ⟨e,n,ne,nf,d⟩:=I.pin p hp;exact ⟨(hs.2 p.1 ne).trans e,n,ne,nf,d⟩
 ·have hfn:X.fn x=true:=by
   rcases hf with z | z
   ·exact z
   ·rw [z] at hk;cases hk
  obtain ⟨c,hc⟩:=I.ok.has x (.inl hk);obtain ⟨w',z⟩:=I.cell x c hc;refine wpAny_storeName_cell I.ok.kind hk hc z (fun h' hc' hs=>?_);obtain ⟨oc,hoc,hocd⟩:=id z;refine h { s with heap:=h' } ⟨I.ok,I.os,I.bare,⟨fun b o e n hb hx=>?_,fun b o e n hb hx=>?_,I.base.free,fun b o e hx=>?_,I.base.tups,I.base.frzs,I.base.tbls⟩,⟨m,hn.sameBut hs (Ne.symm (cne x c hc)),fun j y v' e1 e2 e3=>?_⟩,fun y c' e=>?_,I.free,I.freeC,fun p hp=>?_,tracked ⟨oc,hoc,I.freeC x c hc⟩ hs,by simpa using I.len⟩ ⟨c,hs,.inr hc⟩
  ·exact (hs.2 b (Nat.ne_of_lt (Nat.lt_of_lt_of_le (Heap.lt_size e) (I.ok.cab x c hfn hc)))).trans (I.base.keep b o e n hb hx)
  ·obtain ⟨sl,e1⟩:=I.base.slot b o e n hb hx;exact ⟨sl,(hs.2 b (Nat.ne_of_lt (Nat.lt_of_lt_of_le (Heap.lt_size e) (I.ok.cab x c hfn hc)))).trans e1⟩
  ·obtain ⟨o',e1⟩:=I.base.there b o e hx;exact ⟨o',(hs.2 b (Nat.ne_of_lt (Nat.lt_of_lt_of_le (Heap.lt_size e) (I.ok.cab x c hfn hc)))).trans e1⟩
  ·by_cases hj:j=i
   ·subst hj;rw [hi] at e1;cases e1;rw [List.getElem?_set_self hiσ] at e2;cases e2;exact ⟨u,r,.inr ⟨.inl hk,c,hc,hc'⟩⟩
   ·rw [List.getElem?_set_ne (Ne.symm hj)] at e2;obtain ⟨u',r',q⟩:=hl j y v' e1 e2 e3;refine ⟨u',r',?_⟩;rcases q with q | ⟨k,c',e,z'⟩
    ·exact .inl q
    ·refine .inr ⟨k,c',e,z'.sameBut hs ?_⟩;rintro rfl;exact hj (rL hN e1 (I.ok.inj _ _ _ e hc ▸ hi))
  ·by_cases hcc:c'=c
   ·subst hcc;exact ⟨_,hc'⟩
   ·obtain ⟨w2,z2⟩:=I.cell y c' e;exact ⟨w2,z2.sameBut hs hcc⟩
  ·obtain ⟨e,n,ne,nf,d⟩:=I.pin p hp;refine ⟨(hs.2 p.1 ?_).trans e,n,ne,nf,d⟩;intro q;rw [q,hoc] at e;have q':oc=p.2:=Option.some.inj e;exact d w' (by rw [<- q'];exact hocd)
def lO {M:Model} {A:Around} {E:Value->Shared->Prop} {i:Nat} {x:Str} {v:V} {u:Value} {Q:Unit->Shared->Prop} (I:Inv X pins σ H s) (hN:X.N.Nodup) (hi:X.N[i]?=some x) (hx:Loc X.env.scope x) (r:RelV v u)
  (h:∀ s',Inv X pins (σ.set i (some v)) H s'->Q () s') (hf:X.fn x=true\/X.env.scope.names.lookup x=some .local:=by first | exact .inl rfl | exact .inr rfl | assumption):wpAny M A (storeName X.env x u) Q E s :=
 oP I hN hi hx r (fun s' I' _=>h s' I') hf
def Inv.call' {s':Shared} {ch:List Addr} (I:Inv X pins σ H s) (ho:s'.os=s.os) (u:Un (frs X.stack) ch H H' s.heap s'.heap) (hok:HOk X.prog X.w H' s'.heap) (hg:AllBare s'.gens)
  (hch:∀ b∈ch,(b∈X.ex\/X.s₀.heap.objs.size<=b)/\b≠X.env.locals/\(∀ x c,X.env.cells.lookup x=some c->c≠b)/\∀ p∈X.pn++pins,p.1≠b):Inv X pins σ H' s':=by
 obtain ⟨h',g',d',t',o'⟩:=s';have e:o'=s.os:=ho;subst e;exact I.call (g':=g') (t':=t') (d':=d') u hok hg hch
end
abbrev XK:=Value->Option Addr->Hp->Prop
abbrev St:=List (Option V)
abbrev VK:=V->Hp->Prop
abbrev TE:=St->Hp->VK->Prop
abbrev TT:=St->Hp->(Bool->Hp->Prop)->Prop
abbrev TA:=St->Hp->(List V->Hp->Prop)->Prop
structure Ends where
 nx:St->Hp->Prop
 rt:VK
 bk:St->Hp->Prop:=fun _ _=>False
 ct:St->Hp->Prop:=fun _ _=>False
abbrev TS:=Ends->St->Hp->Prop
def EP (X:Cx) (pins:List (Addr×Obj)) (σ:St) (Q:VK) (u:Value) (s':Shared):Prop:=∃ v H',Inv X pins σ H' s'/\RelV v u/\Q v H'
def TP (X:Cx) (pins:List (Addr×Obj)) (σ:St) (Q:Bool->Hp->Prop) (b:Bool) (s':Shared):Prop:=∃ H',Inv X pins σ H' s'/\Q b H'
def AP (X:Cx) (pins:List (Addr×Obj)) (σ:St) (Q:List V->Hp->Prop) (us:List Value) (s':Shared):Prop:=∃ vs H',Inv X pins σ H' s'/\Vals vs us/\Q vs H'
def SP (X:Cx) (pins:List (Addr×Obj)) (D:Ends) (f:Flow) (s':Shared):Prop :=
 match f with
 | .next=>∃ σ' H',Inv X pins σ' H' s'/\D.nx σ' H'
 | .brk=>∃ σ' H',Inv X pins σ' H' s'/\D.bk σ' H'
 | .cont=>∃ σ' H',Inv X pins σ' H' s'/\D.ct σ' H'
 | .ret u=>∃ v σ' H',Inv X pins σ' H' s'/\RelV v u/\D.rt v H'
def PE (X:Cx) (e:Expr) (t:TE):Prop :=
 ∀ (pins:List (Addr×Obj)) (s:Shared) (σ:St) (H:Hp) (Q:VK),Inv X pins σ H s->t σ H Q->wpAny (model X.prog X.w) X.A (eval e X.env) (EP X pins σ Q) X.xe s
def PT (X:Cx) (e:Expr) (t:TT):Prop :=
 ∀ (pins:List (Addr×Obj)) (s:Shared) (σ:St) (H:Hp) (Q:Bool->Hp->Prop),Inv X pins σ H s->t σ H Q->wpAny (model X.prog X.w) X.A (isTrue e X.env (eval e X.env)) (TP X pins σ Q) X.xe s
def PW (X:Cx) (e:Expr) (t:TT):Prop :=
 ∀ (whole:Sem Value) (pins:List (Addr×Obj)) (s:Shared) (σ:St) (H:Hp) (Q:Bool->Hp->Prop),Inv X pins σ H s->t σ H Q->wpAny (model X.prog X.w) X.A (isTrue e X.env whole) (TP X pins σ Q) X.xe s
def PW.pt {X:Cx} {e:Expr} {t:TT} (h:PW X e t):PT X e t:=h _
def PA (X:Cx) (es:List Expr) (t:TA):Prop :=
 ∀ (pos:Pos) (pins:List (Addr×Obj)) (s:Shared) (σ:St) (H:Hp) (Q:List V->Hp->Prop),Inv X pins σ H s->t σ H Q->wpAny (model X.prog X.w) X.A (spliced (backTo pos (starEach es X.env))) (AP X pins σ Q) X.xe s
def PS (X:Cx) (st:Stmt) (t:TS):Prop :=
 ∀ (pins:List (Addr×Obj)) (s:Shared) (σ:St) (H:Hp) (D:Ends),Inv X pins σ H s->t D σ H->wpAny (model X.prog X.w) X.A (exec st X.env) (SP X pins D) X.xe s
def PSs (X:Cx) (st:List Stmt) (t:TS):Prop :=
 ∀ (pins:List (Addr×Obj)) (s:Shared) (σ:St) (H:Hp) (D:Ends),Inv X pins σ H s->t D σ H->wpAny (model X.prog X.w) X.A (execs st X.env) (SP X pins D) X.xe s
def thn {α:Type} {t:Sem α} {Q Q':α->Shared->Prop} {M:Model} {A:Around} {E:Value->Shared->Prop} {s:Shared} (h:wpAny M A t Q E s) (hQ:∀ a s,Q a s->Q' a s):wpAny M A t Q' E s:=wpAny_mono h hQ fun _ _ x=>x
section
variable {X:Cx}
def bM1 (i:Nat):TE:=fun σ H Q=>∃ v,σ[i]?=some (some v)/\Q v H
def tC (v:V):TE:=fun _ H Q=>Q v H
def eL {i:Nat} {x:Str} {pos:Pos} (hN:X.N[i]?=some x) (hv:Vis X.env.scope x) (hd:autoParam ((x==("__debug__":Str))=false) ZD) (hcd:autoParam ((x==("__classdict__":Str))=false) ZD):PE X (.Name x pos) (bM1 i):=by
 intro pins s σ H Q I h;obtain ⟨v,e,h⟩:=h;obtain ⟨m,hn,hl⟩:=I.loc;obtain ⟨u,r,l⟩:=hl i x v hN e hv;have fin:EP X pins σ Q u s:=⟨v,H,I,r,h⟩;rcases l with ⟨hk,hm⟩ | ⟨hk,c,hc,hcell⟩
 ·exact wpAny_Name (wpAny_loadName_local I.ok.kind hk hn hm fin) hd
 ·rcases hk with hk | hk
  ·exact wpAny_Name (wpAny_loadName_cell I.ok.kind hk hc hcell fin) hd
  ·exact wpAny_Name (wpAny_loadName_free I.ok.kind hk hc hcell fin hcd) hd
def bM2 {i j pos}:PE X (.Constant (.int i) j pos) (tC (.int i)):=fun _ _ _ H _ I h=>wpAny_Constant_int ⟨.int i,H,I.tok _,⟨_,rfl⟩,h⟩
def cH7 {b j pos}:PE X (.Constant (.bool b) j pos) (tC (.bl b)):=fun _ _ _ H _ I h=>Constant_bool ⟨.bl b,H,I,rfl,h⟩
def aC5 {j pos}:PE X (.Constant .none j pos) (tC .non):=fun _ _ _ H _ I h=>Constant_none ⟨.non,H,I,rfl,h⟩
def uJ {x j pos}:PE X (.Constant (.str x) j pos) (tC (.str x)):=fun _ _ _ H _ I h=>Calls.Constant_str ⟨.str x,H,I.tok _,⟨_,rfl⟩,h⟩
def Gl (X:Cx) (x:Str):Prop:=X.env.kindOf x=some .globalImplicit
def gU {E:Value->Shared->Prop} {pins:List (Addr×Obj)} {s:Shared} {σ:St} {H:Hp} {x:Str} {u:Value} {pos:Pos} {Q:Value->Shared->Prop} (I:Inv X pins σ H s) (hg:Gl X x) (hm:X.mg x=some u) (h:Q u s)
  (hd:autoParam ((x==("__debug__":Str))=false) ZD):wpAny (model X.prog X.w) X.A (eval (.Name x pos) X.env) Q E s :=
 Calls.Name_function_global I.ok.kind hg (Calls.loadGlobal_global (by rw [I.ok.glob];exact I.mod.glob.keeps I.bk) hm h) hd
def iI {E:Value->Shared->Prop} {pins:List (Addr×Obj)} {s:Shared} {σ:St} {H:Hp} {x:Str} {u:Value} {pos:Pos} {Q:Value->Shared->Prop} (I:Inv X pins σ H s) (hg:Gl X x) (hm:X.mg x=none) (hv:bootBuiltins x=some u) (h:Q u s)
  (hn:autoParam (x≠"__name__") ZD) (hd:autoParam ((x==("__debug__":Str))=false) ZD):wpAny (model X.prog X.w) X.A (eval (.Name x pos) X.env) Q E s:=by
 obtain ⟨mb,h1,h2⟩:=I.mod.blt;exact Calls.Name_function_global I.ok.kind hg (Calls.loadGlobal_builtin (by rw [I.ok.glob];exact I.mod.glob.keeps I.bk) hm (by rw [I.ok.blt];exact h1.keeps I.bk) ((h2 x hn).trans hv) h) hd
def dW {x:Str} {v:V} {u:Value} {pos:Pos} (hg:Gl X x) (hm:X.mg x=some u) (r:RelV v u) (hd:autoParam ((x==("__debug__":Str))=false) ZD):PE X (.Name x pos) (tC v) :=
 fun _ _ _ H _ I h=>gU I hg hm ⟨v,H,I,r,h⟩ hd
def wJ {x:Str} {v:V} {u:Value} {pos:Pos} (hg:Gl X x) (hm:X.mg x=none) (hv:bootBuiltins x=some u) (r:RelV v u) (hn:autoParam (x≠"__name__") ZD) (hd:autoParam ((x==("__debug__":Str))=false) ZD):PE X (.Name x pos) (tC v) :=
 fun _ _ _ H _ I h=>iI I hg hm hv ⟨v,H,I,r,h⟩ hn hd
variable {a b:Expr} {ta tb:TE} {pos:Pos}
def PC (X:Cx) (op:CmpOp) (a b:Expr) (t:TE):Prop :=
 ∀ (pins:List (Addr×Obj)) (s:Shared) (σ:St) (H:Hp) (Q:VK),Inv X pins σ H s->t σ H Q ->
  wpAny (model X.prog X.w) X.A (eval a X.env) (fun v s₁=>wpAny (model X.prog X.w) X.A (eval b X.env) (fun u s₂=>wpAny (model X.prog X.w) X.A (compareOp op v u) (EP X pins σ Q) X.xe s₂) X.xe s₁) X.xe s
def lP (b:Expr) {op:CmpOp} (h:op≠.In) (h2:op≠.NotIn):behindInMarks op b=false:=by
 have e1:(op==CmpOp.In)=false:=by cases op<;>first | rfl | exact absurd rfl h
 have e2:(op==CmpOp.NotIn)=false:=by cases op<;>first | rfl | exact absurd rfl h2
 cases b<;>simp [behindInMarks,e1,e2]
def cW8 (ta:TE):TE:=fun σ H Q=>ta σ H fun x H1=>Q (.bl (decide (x=.non))) H1
def RelV.none_iff {x:V} {v:Value} (r:RelV x v):(v==Value.none)=decide (x=.non):=by
 cases x with
 | non=>cases r;rfl
 | bl _=>cases r;rfl
 | int _=>obtain ⟨t,rfl⟩:=r;rfl
 | str _=>obtain ⟨t,rfl⟩:=r;rfl
 | byt _=>obtain ⟨t,rfl⟩:=r;rfl
 | flt _=>obtain ⟨t,rfl⟩:=r;rfl
 | ref _=>cases r;rfl
 | ty _=>cases r;rfl
def bM3 {j pos'} (ha:PE X a ta):PC X .Is a (.Constant .none j pos') (cW8 ta):=by
 intro pins s σ H Q I h;refine thn (ha pins s σ H _ I h) fun v s1 ⟨x,H1,I1,r1,q1⟩=>?_;exact Constant_none (is_none_gen ⟨.bl _,H1,I1,by rw [r1.none_iff];rfl,q1⟩)
def tB (t:TE):TT:=fun σ H Q=>t σ H fun x H1=>∃ c,x=.bl c/\Q c H1
def bM4 {op:CmpOp} {t:TE} (h:PC X op a b t) (h1:behindInMarks op b=false:=by first | exact lP _ (by decide) (by decide) | rfl):PT X (.Compare a [op] [b] pos) (tB t):=by
 intro pins s σ H Q I hw;refine wpAny_isTrue_Compare1 (thn (h pins s σ H _ I hw) fun v s1 h1=>thn h1 fun u s2 h2=>thn h2 fun c s3 ⟨x,H1,I1,r1,q1⟩=>?_) h1;obtain ⟨d,rfl,q⟩:=q1;cases r1;exact wpAny_truthy_bool ⟨H1,I1,q⟩
def uK {e:Expr} {t:TE} (h:PE X e t) (he:autoParam (∀ whole,isTrue e X.env whole=(do let v <- whole;standAt e.pos;holding [v] (truthy v))) ZI):PT X e (tB t):=by
 intro pins s σ H Q I hw;refine isTrue_plain (thn (h pins s σ H _ I hw) fun v s1 ⟨x,H1,I1,r1,q1⟩=>?_) (he _);obtain ⟨d,rfl,q⟩:=q1;cases r1;exact wpAny_truthy_bool ⟨H1,I1,q⟩
variable {tA tB':TT} {rest:List Expr}
def cW9 (t u:TT):TT:=fun σ H Q=>t σ H fun c H1=>if c=true then u σ H1 Q else Q false H1
def tOr (t u:TT):TT:=fun σ H Q=>t σ H fun c H1=>if c=true then Q true H1 else u σ H1 Q
def cX0 (t:TT):TT:=fun σ H Q=>t σ H fun c H1=>Q (!c) H1
def aQ6 (ha:PT X a tA):PW X (.BoolOp .And [a] pos) tA:=by
 intro wh pins s σ H Q I h;refine isTrue_and (thn (ha pins s σ H Q I h) fun c s1 e=>?_);cases c with
 | true=>exact isTrue_and_nil e
 | false=>exact e
def aC6 (ha:PT X a tA):PW X (.BoolOp .Or [a] pos) tA:=by
 intro wh pins s σ H Q I h;refine isTrue_or (thn (ha pins s σ H Q I h) fun c s1 e=>?_);cases c with
 | false=>exact isTrue_or_nil e
 | true=>exact e
def bM5 (ha:PT X a tA) (hb:PW X (.BoolOp .And (b::rest) pos) tB'):PW X (.BoolOp .And (a::b::rest) pos) (cW9 tA tB'):=by
 intro wh pins s σ H Q I h;refine isTrue_and (thn (ha pins s σ H _ I h) fun c s1 ⟨H1,I1,q1⟩=>?_);cases c with
 | true=>exact hb wh pins s1 σ H1 Q I1 q1
 | false=>exact ⟨H1,I1,q1⟩
def bF4 (ha:PT X a tA) (hb:PW X (.BoolOp .Or (b::rest) pos) tB'):PW X (.BoolOp .Or (a::b::rest) pos) (tOr tA tB'):=by
 intro wh pins s σ H Q I h;refine isTrue_or (thn (ha pins s σ H _ I h) fun c s1 ⟨H1,I1,q1⟩=>?_);cases c with
 | true=>exact ⟨H1,I1,q1⟩
 | false=>exact hb wh pins s1 σ H1 Q I1 q1
def aC7 (ha:PT X a tA):PT X (.UnaryOp .Not a pos) (cX0 tA):=by
 intro pins s σ H Q I h;exact isTrue_not (ha pins s σ H (fun c H1=>Q (!c) H1) I h)
def cH8 (ta tb:TE):TE:=fun σ H Q=>ta σ H fun x H1=>∃ c,x=.bl c/\if c=true then tb σ H1 Q else Q (.bl false) H1
def cX1 (ta tb:TE):TE:=fun σ H Q=>ta σ H fun x H1=>∃ c,x=.bl c/\if c=true then Q (.bl true) H1 else tb σ H1 Q
def cH9 (ta:TE):TE:=fun σ H Q=>ta σ H fun x H1=>∃ c,x=.bl c/\Q (.bl (!c)) H1
def bM6 {op} {t:TE} (h:PE X a t):PE X (.BoolOp op [a] pos) t:=fun pins s σ H Q I hw=>BoolOp_one (h pins s σ H Q I hw)
def bM7 (ha:PE X a ta) (hb:PE X (.BoolOp .And (b::rest) pos) tb):PE X (.BoolOp .And (a::b::rest) pos) (cH8 ta tb):=by
 intro pins s σ H Q I h;refine BoolOp_and (thn (ha pins s σ H _ I h) fun v s1 ⟨x,H1,I1,r1,q1⟩=>?_);obtain ⟨c,rfl,q1⟩:=q1;cases r1;refine wpAny_truthy_bool ?_;cases c with
 | true=>exact hb pins s1 σ H1 Q I1 q1
 | false=>exact ⟨.bl false,H1,I1,rfl,q1⟩
def cI0 (ha:PE X a ta) (hb:PE X (.BoolOp .Or (b::rest) pos) tb):PE X (.BoolOp .Or (a::b::rest) pos) (cX1 ta tb):=by
 intro pins s σ H Q I h;refine BoolOp_or (thn (ha pins s σ H _ I h) fun v s1 ⟨x,H1,I1,r1,q1⟩=>?_);obtain ⟨c,rfl,q1⟩:=q1;cases r1;refine wpAny_truthy_bool ?_;cases c with
 | false=>exact hb pins s1 σ H1 Q I1 q1
 | true=>exact ⟨.bl true,H1,I1,rfl,q1⟩
def aC8 (ha:PE X a ta):PE X (.UnaryOp .Not a pos) (cH9 ta):=by
 intro pins s σ H Q I h;refine UnaryOp_ (thn (ha pins s σ H _ I h) fun v s1 ⟨x,H1,I1,r1,q1⟩=>?_);obtain ⟨c,rfl,q1⟩:=q1;cases r1;exact not_of (wpAny_truthy_bool ⟨.bl (!c),H1,I1,rfl,q1⟩)
def tIf (t:TT) (ta tb:TE):TE:=fun σ H Q=>t σ H fun c H1=>if c=true then ta σ H1 Q else tb σ H1 Q
def aC9 {c:Expr} (hc:PT X c tA) (ha:PE X a ta) (hb:PE X b tb):PE X (.IfExp c a b pos) (tIf tA ta tb):=by
 intro pins s σ H Q I h;refine wpAny_IfExp (thn (hc pins s σ H _ I h) fun d s1 ⟨H1,I1,q1⟩=>?_);cases d with
 | true=>exact ha pins s1 σ H1 Q I1 q1
 | false=>exact hb pins s1 σ H1 Q I1 q1
end
def SqL (K:Frag) (H:Hp) (a:Addr) (xs:List V):Prop :=
 Rd H a (.lst xs) \/
  ∃ (o:Obj) (its:Array Value) (n:Nat),K.lookup a=some o/\o.cls=.type "list"/\o.dict=none/\o.data=.seq its n/\its.size<=sizeLine/\Vals xs its.toList
def SqT (K:Frag) (H:Hp) (a:Addr) (xs:List V):Prop :=
 Rd H a (.tup xs) \/
  ∃ (o:Obj) (its:Array Value) (n:Nat),K.lookup a=some o/\o.cls=.type "tuple"/\o.data=.seq its n/\its.size<=sizeLine/\Vals xs its.toList
noncomputable def cX2:Value->Option V
 | .none=>some .non
 | .bool b=>some (.bl b)
 | .int i _=>some (.int i)
 | .str x _=>some (.str x)
 | .bytes b _=>some (.byt b)
 | .float b _=>some (.flt b)
 | .ref a=>some (.ref a)
 | .type n=>some (.ty n)
 | _=>none
def RelV.abs {x:V} {u:Value} (r:RelV x u):cX2 u=some x:=by
 cases x with
 | non=>cases r;rfl
 | bl _=>cases r;rfl
 | int _=>obtain ⟨t,rfl⟩:=r;rfl
 | str _=>obtain ⟨t,rfl⟩:=r;rfl
 | byt _=>obtain ⟨t,rfl⟩:=r;rfl
 | flt _=>obtain ⟨t,rfl⟩:=r;rfl
 | ref _=>cases r;rfl
 | ty _=>cases r;rfl
def RelV.inj {x y:V} {u:Value} (r:RelV x u) (q:RelV y u):x=y:=Option.some.inj (r.abs.symm.trans q.abs)
theorem Vals.inj:∀ {xs ys:List V} {us:List Value},Vals xs us->Vals ys us->xs=ys
 | _,_,_,.nil,.nil=>rfl
 | _,_,_,.cons r t,.cons r' t'=>by rw [r.inj r',Vals.inj t t']
section
variable {X:Cx} {pins:List (Addr×Obj)} {σ:St} {H:Hp} {s:Shared} {a:Addr} {xs ys:List V}
def SqL.of {K:Frag} (h:H a=some (.lst xs)):SqL K H a xs:=.inl (.inl h)
def Inv.list (I:Inv X pins σ H s) (h:SqL X.K H a xs):∃ its:List Value,Vals xs its/\PlainL s.heap a its.toArray/\xs.length<=sizeLine:=by
 rcases h with h | ⟨o,its,n,hk,hc,hd,hs,hz,r⟩
 ·obtain ⟨z,its,n,r,e⟩:=h.ok I.hok;exact ⟨its,r,⟨_,n,e,rfl,rfl,rfl⟩,z⟩
 ·refine ⟨its.toList,r,⟨o,n,I.kIn a o hk,hc,hd,by simpa using hs⟩,?_⟩;have e:=r.length;simp only [Array.length_toList] at e;omega
def Inv.tuple (I:Inv X pins σ H s) (h:SqT X.K H a xs):∃ its:List Value,Vals xs its/\IsTup s.heap a its.toArray/\xs.length<=sizeLine:=by
 rcases h with h | ⟨o,its,n,hk,hc,hs,hz,r⟩
 ·obtain ⟨z,its,r,p⟩:=h.ok I.hok;exact ⟨its,r,p.tup,z⟩
 ·refine ⟨its.toList,r,⟨o,I.kIn a o hk,hc,n,by simpa using hs⟩,?_⟩;have e:=r.length;simp only [Array.length_toList] at e;omega
def Inv.list_inj (I:Inv X pins σ H s) (h:SqL X.K H a xs) (h':SqL X.K H a ys):xs=ys:=by
 obtain ⟨its,r,⟨o,n,e,_,_,d⟩,_⟩:=I.list h;obtain ⟨its',r',⟨o',n',e',_,_,d'⟩,_⟩:=I.list h';rw [e] at e';cases e';rw [d] at d';injection d' with d1 _
 have:its=its':=by simpa using congrArg Array.toList d1
 subst this;exact r.inj r'
def Inv.tuple_inj (I:Inv X pins σ H s) (h:SqT X.K H a xs) (h':SqT X.K H a ys):xs=ys:=by
 obtain ⟨its,r,⟨o,e,_,n,d⟩,_⟩:=I.tuple h;obtain ⟨its',r',⟨o',e',_,n',d'⟩,_⟩:=I.tuple h';rw [e] at e';cases e';rw [d] at d';injection d' with d1 _
 have:its=its':=by simpa using congrArg Array.toList d1
 subst this;exact r.inj r'
end
abbrev Cx.wish (X:Cx) (E:Value->Shared->Prop):Cx:={ X with xe:=E }
abbrev Cx.nox (X:Cx):Cx:=X.wish fun _ _=>False
def Cx.Ok.wish {X:Cx} (ok:X.Ok) (E:Value->Shared->Prop):(X.wish E).Ok :=
 ⟨ok.mod,ok.kind,ok.glob,ok.blt,ok.above,ok.inj,ok.has,ok.cab,ok.hd,ok.frames,ok.stk,ok.exf,ok.bs,ok.bsz,ok.noex,ok.exfs,ok.funs,ok.frf⟩
def Cx.Ok.unwish {X:Cx} {E:Value->Shared->Prop} (ok:(X.wish E).Ok):X.Ok :=
 ⟨ok.mod,ok.kind,ok.glob,ok.blt,ok.above,ok.inj,ok.has,ok.cab,ok.hd,ok.frames,ok.stk,ok.exf,ok.bs,ok.bsz,ok.noex,ok.exfs,ok.funs,ok.frf⟩
section
variable {X:Cx} {pins:List (Addr×Obj)} {σ:St} {H:Hp} {s:Shared} {E:Value->Shared->Prop}
def Inv.wish (I:Inv X pins σ H s) (E:Value->Shared->Prop):Inv (X.wish E) pins σ H s:=⟨I.ok.wish E,I.os,I.bare,I.base,I.loc,I.cell,I.free,I.freeC,I.pin,I.hok,I.len⟩
def Inv.unwish (I:Inv (X.wish E) pins σ H s):Inv X pins σ H s:=⟨I.ok.unwish,I.os,I.bare,I.base,I.loc,I.cell,I.free,I.freeC,I.pin,I.hok,I.len⟩
def SP.unwish {D:Ends} {f:Flow} {s':Shared} (h:SP (X.wish E) pins D f s'):SP X pins D f s':=by
 cases f with
 | next=>obtain ⟨σ',H',I,q⟩:=h;exact ⟨σ',H',I.unwish,q⟩
 | brk=>obtain ⟨σ',H',I,q⟩:=h;exact ⟨σ',H',I.unwish,q⟩
 | cont=>obtain ⟨σ',H',I,q⟩:=h;exact ⟨σ',H',I.unwish,q⟩
 | ret u=>obtain ⟨v,σ',H',I,r,q⟩:=h;exact ⟨v,σ',H',I.unwish,r,q⟩
def PE.nox {e:Expr} {t:TE} (h:PE X.nox e t):PE X e t:=fun pins s σ H Q I hw =>
 wpAny_mono (h pins s σ H Q (I.wish _) hw) (fun _ _ ⟨v,H',I',r,q⟩=>⟨v,H',I'.unwish,r,q⟩) fun _ _ z=>False.elim z
def PT.nox {e:Expr} {t:TT} (h:PT X.nox e t):PT X e t:=fun pins s σ H Q I hw =>
 wpAny_mono (h pins s σ H Q (I.wish _) hw) (fun _ _ ⟨H',I',q⟩=>⟨H',I'.unwish,q⟩) fun _ _ z=>False.elim z
def PSs.nox {st:List Stmt} {t:TS} (h:PSs X.nox st t):PSs X st t:=fun pins s σ H D I hw =>
 wpAny_mono (h pins s σ H D (I.wish _) hw) (fun _ _ q=>q.unwish) fun _ _ z=>False.elim z
end
section
variable {X:Cx} {st:Stmt} {rest:List Stmt} {t u:TS} {e:Expr} {te:TE} {pos:Pos}
def bF5:TS:=fun D σ H=>D.nx σ H
def cX3 (t u:TS):TS:=fun D σ H=>t { D with nx:=u D } σ H
def pY:PSs X [] bF5:=fun _ _ σ H _ I h=>wpAny_execs_nil ⟨σ,H,I,h⟩
def dI (h1:PS X st t) (h2:PSs X rest u):PSs X (st::rest) (cX3 t u):=by
 intro pins s σ H D I h;refine wpAny_execs_cons (thn (h1 pins s σ H { D with nx:=u D } I h) fun f s1 q=>?_);cases f with
 | next =>
  obtain ⟨σ',H',I',q⟩:=q;exact h2 pins s1 σ' H' D I' q
 | ret v=>exact q
 | brk=>exact q
 | cont=>exact q
def lF (h1:PS X st t):PSs X [st] t:=by
 intro pins s σ H D I h;refine wpAny_execs_cons (thn (h1 pins s σ H D I h) fun f s1 q=>?_);cases f with
 | next=>exact wpAny_execs_nil q
 | ret v=>exact q
 | brk=>exact q
 | cont=>exact q
def bM8:TS:=fun D σ H=>D.bk σ H
def cI1:TS:=fun D σ H=>D.ct σ H
def aQ7:PS X (.Pass pos) bF5:=fun _ _ σ H _ I h=>wpAny_Pass ⟨σ,H,I,h⟩
def aD0:PS X (.Break pos) bM8:=fun _ _ σ H _ I h=>wpAny_Break ⟨σ,H,I,h⟩
def rM:PS X (.Continue pos) cI1:=fun _ _ σ H _ I h=>wpAny_Continue ⟨σ,H,I,h⟩
def Inv.quiet {pins:List (Addr×Obj)} {σ:St} {H:Hp} {s:Shared} (I:Inv X pins σ H s):interactive X.env=false:=by simp [interactive,I.ok.kind]
def cI2 (te:TE):TS:=fun D σ H=>te σ H fun _ H1=>D.nx σ H1
def aQ8 (he:PE X e te) (hs:autoParam (swapsWith e none pos.line X.env=pure false) ZR):PS X (.Expr e pos) (cI2 te):=by
 intro pins s σ H D I h;exact wpAny_Expr_any (thn (he pins s σ H _ I h) fun v s1 ⟨x,H1,I1,r1,q1⟩=>⟨σ,H1,I1,q1⟩) I.quiet hs
def cX4 (te:TE):TS:=fun D σ H=>te σ H D.rt
def aD1 (he:PE X e te):PS X (.Return (some e) pos) (cX4 te):=by
 intro pins s σ H D I h;exact wpAny_Return_some (thn (he pins s σ H _ I h) fun v s1 ⟨x,H1,I1,r1,q1⟩=>⟨x,σ,H1,I1,r1,q1⟩)
def cX5 (c:TT) (t u:TS):TS:=fun D σ H=>c σ H fun b H1=>if b=true then t D σ H1 else u D σ H1
def wK {c:Expr} {a b:List Stmt} {tc:TT} (hc:PT X c tc) (ha:PSs X a t) (hb:PSs X b u):PS X (.If c a b pos) (cX5 tc t u):=by
 intro pins s σ H D I h;refine wpAny_If (thn (hc pins s σ H _ I h) fun d s1 ⟨H1,I1,q1⟩=>?_);cases d with
 | true=>exact ha pins s1 σ H1 D I1 q1
 | false=>exact hb pins s1 σ H1 D I1 q1
def bM9:TS:=fun _ _ _=>False
def jK {sts:List Stmt}:PSs X sts bM9:=fun _ _ _ _ _ _ h=>h.elim
end
abbrev TG:=V->St->Hp->(St->Hp->Prop)->Prop
abbrev TGs:=List V->St->Hp->(St->Hp->Prop)->Prop
def PG (X:Cx) (target:Expr) (t:TG):Prop :=
 ∀ (pins:List (Addr×Obj)) (s:Shared) (σ:St) (H:Hp) (v:V) (u:Value) (Q:St->Hp->Prop),Inv X pins σ H s->RelV v u->t v σ H Q ->
  wpAny (model X.prog X.w) X.A (assign target X.env u) (fun _ s'=>∃ σ' H',Inv X pins σ' H' s'/\Q σ' H') X.xe s
def PGs (X:Cx) (ts:List Expr) (t:TGs):Prop :=
 ∀ (pins:List (Addr×Obj)) (s:Shared) (σ:St) (H:Hp) (vs:List V) (us:List Value) (Q:St->Hp->Prop),Inv X pins σ H s->Vals vs us->t vs σ H Q ->
  wpAny (model X.prog X.w) X.A (assignInOrder ((assignEach ts X.env).map (·.2)) us) (fun _ s'=>∃ σ' H',Inv X pins σ' H' s'/\Q σ' H') X.xe s
abbrev bN0:=V->V->V->Hp->(Hp->Prop)->Prop
def bN1 (X:Cx) (t:bN0):Prop :=
 ∀ (pins:List (Addr×Obj)) (s:Shared) (σ:St) (H:Hp) (o i v:V) (ov iv u:Value) (Q:Hp->Prop),Inv X pins σ H s->RelV o ov->RelV i iv->RelV v u->t o i v H Q ->
  wpAny (model X.prog X.w) X.A (setItem ov iv u) (fun _ s'=>∃ H',Inv X pins σ H' s'/\Q H') X.xe s
section
variable {X:Cx} {pos:Pos}
def wL (i:Nat):TG:=fun v σ H Q=>Q (σ.set i (some v)) H
def aQ9 {i:Nat} {x:Str} (hN:X.N.Nodup) (hi:X.N[i]?=some x) (hx:Loc X.env.scope x) (hf:X.fn x=true\/X.env.scope.names.lookup x=some .local:=by first | exact .inl rfl | exact .inr rfl | assumption):PG X (.Name x pos) (wL i):=by
 intro pins s σ H v u Q I r h;exact wpAny_assign_Name (lO I hN hi hx r (fun s' I'=>⟨_,H,I',h⟩) hf)
noncomputable def cX6:TGs:=fun vs σ H Q=>vs=[]/\Q σ H
noncomputable def cI3 (t:TG) (u:TGs):TGs:=fun vs σ H Q=>∃ v r,vs=v::r/\t v σ H fun σ' H'=>u r σ' H' Q
def aR0:PGs X [] cX6:=by
 intro pins s σ H vs us Q I r h;obtain ⟨e,h⟩:=h;subst e;cases r;exact assignInOrder_nil ⟨σ,H,I,h⟩
def aD2 {e:Expr} {es:List Expr} {t:TG} {u:TGs} (h1:PG X e t) (h2:PGs X es u)
  (hs:autoParam ((assignEach (e::es) X.env).map (·.2)=assign e X.env::(assignEach es X.env).map (·.2)) ZR):PGs X (e::es) (cI3 t u):=by
 intro pins s σ H vs us Q I r h;obtain ⟨v,vr,e1,h⟩:=h;subst e1;cases r with
 | cons r rr =>
  rw [hs];refine assignInOrder_cons (thn (h1 pins s σ H _ _ _ I r h) fun _ s1 ⟨σ1,H1,I1,q1⟩=>?_);exact h2 pins s1 σ1 H1 _ _ Q I1 rr q1
def cX7 (K:Frag) (n:Nat) (t:TGs):TG:=fun v σ H Q=>∃ a xs,v=.ref a/\SqT K H a xs/\xs.length=n/\t xs σ H Q
def bN2 {es:List Expr} {k:Nat} {t:TGs} {n:Nat} (hc:X.calm=true) (h:PGs X es t)
  (hn:autoParam ((assignEach es X.env).length=n) ZR) (hst:autoParam ((assignEach es X.env).findIdx? (·.1)=none) ZR):PG X (.Tuple es k pos) (cX7 X.K n t):=by
 intro pins s σ H v u Q I r hw;obtain ⟨a,xs,e1,hq,hl,hw⟩:=hw;subst e1;cases r;obtain ⟨its,rv,ht,hz⟩:=I.tuple hq;refine assign_Tuple_tuple (I.ok.hd hc) ht (by simp [hn,<- hl,rv.length]) hst fun h' hx=>?_;have I1:Inv X pins σ H { s with heap:=h' }:=I.kept (t':=s.toks) fun b o e=>hx b o (Nat.ne_of_lt (Heap.lt_size e)) e;exact h pins _ σ H xs _ Q I1 (by simpa using rv) hw
def cX8 (to ti:TE) (t:bN0):TG:=fun v σ H Q=>to σ H fun o H1=>ti σ H1 fun i H2=>t o i v H2 fun H3=>Q σ H3
def bN3 {o i:Expr} {to ti:TE} {t:bN0} (ho:PE X o to) (hi:PE X i ti) (hs:bN1 X t)
  (ha:∀ v,assign (.Subscript o i pos) X.env v=(do
   let ov <- holding [v] (eval o X.env)
   let iv <- holding [v,ov] (eval i X.env)
   standAt pos
   holding [v,ov,iv] (setItem ov iv v)
   release [v,ov,iv] []):=by intro _;rfl):PG X (.Subscript o i pos) (cX8 to ti t):=by
 intro pins s σ H v u Q I r h;rw [ha];refine wpAny_bind (wpAny_holding (thn (ho pins s σ H _ I h) fun ov s1 ⟨x,H1,I1,r1,q1⟩=>?_));refine wpAny_bind (wpAny_holding (thn (hi pins s1 σ H1 _ I1 q1) fun iv s2 ⟨y,H2,I2,r2,q2⟩=>?_));refine wpAny_bind (wpAny_standAt (wpAny_bind (wpAny_holding (thn (hs pins s2 σ H2 x y v ov iv u _ I2 r1 r2 r q2) fun _ s3 ⟨H3,I3,q3⟩=>?_))));exact wpAny_release ⟨σ,H3,I3,q3⟩
def aR1 (te:TE) (g:TG):TS:=fun D σ H=>te σ H fun x H1=>g x σ H1 D.nx
def bN4 {tg e:Expr} {te:TE} {g:TG} (he:PE X e te) (hg:PG X tg g) (hs:autoParam (swapsWithSole [tg] e pos.line X.env=pure false) ZR) (hw:autoParam (swappedStores [tg] e X.env=pure none) ZR)
  (h1:autoParam ((assignEach [tg] X.env).map (·.2)=[assign tg X.env]) ZR):PS X (.Assign [tg] e pos) (aR1 te g):=by
 intro pins s σ H D I h;refine wpAny_Assign_stores (thn (he pins s σ H _ I h) fun v s1 ⟨x,H1,I1,r1,q1⟩=>?_) hs hw;rw [h1];exact thn (hg pins s1 σ H1 x v _ I1 r1 q1) fun _ s2 q=>q
def lQ {i:Nat} {x:Str} {e:Expr} {te:TE} {pos':Pos} (hN:X.N.Nodup) (hi:X.N[i]?=some x) (hx:Loc X.env.scope x) (he:PE X e te) (hs:autoParam (swapsWith e (some (.Name x pos')) pos.line X.env=pure false) ZR) (hf:X.fn x=true\/X.env.scope.names.lookup x=some .local:=by first | exact .inl rfl | exact .inr rfl | assumption) :
  PS X (.Assign [.Name x pos'] e pos) (aR1 te (wL i)):=by
 intro pins s σ H D I h;refine wpAny_Assign_Name (thn (he pins s σ H _ I h) fun v s1 ⟨y,H1,I1,r1,q1⟩=>?_) hs;exact lO I1 hN hi hx r1 (fun s2 I2=>⟨_,H1,I2,q1⟩) hf
end
section
variable {X:Cx} {pos:Pos}
def bN5 (c:TT) (tb:TS):TS:=fun D σ H=>∃ W:Nat->St->Hp->Prop,(∃ m,W m σ H)/\∀ m σ H,W m σ H ->
 c σ H fun b H1=>if b=true then ∃ N:St->Hp->Prop,(∀ σ' H',N σ' H'->∃ m',m' < m/\W m' σ' H')/\tb { D with nx:=N,ct:=N,bk:=D.nx } σ H1 else D.nx σ H1
def aD3 {c:Expr} {body:List Stmt} {tc:TT} {tb:TS} (hp:PassesOwn (model X.prog X.w) X.A X.env X.xe) (hc:PT X c tc) (hb:PSs X body tb):PS X (.While c body [] pos) (bN5 tc tb):=by
 intro pins s σ H D I h;obtain ⟨W,⟨m0,w0⟩,turn⟩:=h;refine wpAny_While (codeAny_whileLoop (fun n s'=>∃ σ' H',Inv X pins σ' H' s'/\W n σ' H') ?_ m0 ⟨σ,H,I,w0⟩);rintro n s1 ⟨σ1,H1,I1,w1⟩;refine wpAny_passesOwn hp (thn (hc pins s1 σ1 H1 _ I1 (turn n σ1 H1 w1)) fun b s2 ⟨H2,I2,q2⟩=>?_);cases b with
 | true =>
  obtain ⟨N,hN,q2⟩:=q2;rw [if_pos rfl];refine wpAny_passesOwn hp (thn (hb pins s2 σ1 H2 _ I2 q2) fun f s3 q3=>?_);cases f with
  | next =>
   obtain ⟨σ3,H3,I3,n3⟩:=q3;obtain ⟨m',hm,w3⟩:=hN σ3 H3 n3;exact ⟨m',hm,σ3,H3,I3,w3⟩
  | cont =>
   obtain ⟨σ3,H3,I3,n3⟩:=q3;obtain ⟨m',hm,w3⟩:=hN σ3 H3 n3;exact ⟨m',hm,σ3,H3,I3,w3⟩
  | brk=>exact q3
  | ret v=>exact q3
 | false =>
  rw [if_neg Bool.false_ne_true];exact wpAny_execs_nil ⟨σ1,H2,I2,q2⟩
end
structure It where
 go:Nat->Hp->Prop
 yld:Nat->Hp->V->Hp->Prop
 stop:Nat->Hp->Prop
def iJ (X:Cx) (pins:List (Addr×Obj)) (H:Hp) (b:Addr):Prop :=
 H b=none/\b≠X.env.locals/\b∉X.fs/\(b∈X.ex\/X.s₀.heap.objs.size<=b)/\(∀ x c,X.env.cells.lookup x=some c->c≠b)/\∀ p∈X.pn++pins,p.1≠b
def Inv.fpOk {X:Cx} {pins:List (Addr×Obj)} {σ:St} {H H':Hp} {s:Shared} {b:Addr} (I:Inv X pins σ H s) (hb:s.heap.objs.size<=b) (hn:H' b=none):iJ X pins H' b:=by
 refine ⟨hn,Nat.ne_of_gt (Nat.lt_of_lt_of_le I.lt hb),I.nofs hb,.inr (Nat.le_trans I.sz hb),fun x c e z=>?_,fun p hp z=>?_⟩
 ·obtain ⟨v,q⟩:=I.cell x c e;exact absurd (Nat.lt_of_lt_of_le q.lt (by rw [z];exact hb)) (Nat.lt_irrefl _)
 ·exact absurd (Nat.lt_of_lt_of_le (Heap.lt_size (I.pin p hp).1) (by rw [z];exact hb)) (Nat.lt_irrefl _)
structure Turn (P:Program) (w:World) (K:Frag) (tg:Expr) (J:It) (fp:List Addr) (it:Addr) (tn:Nat->Heap->Prop):Prop where
 mem:it∈fp
 obj:∀ i h,tn i h->∀ b∈fp,∃ o,h.get? b=some o/\∀ v,o.data≠.cell v
 keep:∀ i h h',tn i h->(∀ b∈fp,∀ o,h.get? b=some o->h'.get? b=some o)->tn i h'
 item:∀ (X:Cx),X.prog=P->X.w=w->X.K=K->X.calm=true->∀ (i:Nat) (pins:List (Addr×Obj)) (s:Shared) (σ:St) (H:Hp) (E:Value->Shared->Prop),Inv X pins σ H s->(∀ b∈fp,iJ X pins H b)->tn i s.heap->J.go i H ->
  wpAny (model P w) X.A (pyNext (.ref it)) (fun r s1=>∃ u,r=some u /\
   wpAny (model P w) X.A (letOwnedTupleGo tg (.ref it) u) (fun _ s2=>∃ x H',Inv X pins σ H' s2/\RelV x u/\J.yld i H x H'/\tn (i+1) s2.heap/\∀ b∈fp,H' b=none) E s1) E s
 done:∀ (X:Cx),X.prog=P->X.w=w->X.K=K->X.calm=true->∀ (i:Nat) (pins:List (Addr×Obj)) (s:Shared) (σ:St) (H:Hp) (E:Value->Shared->Prop),Inv X pins σ H s->(∀ b∈fp,iJ X pins H b)->tn i s.heap->J.stop i H ->
  wpAny (model P w) X.A (pyNext (.ref it)) (fun r s1=>r=none/\Inv X pins σ H s1) E s
 self:∀ (A:Around) (i:Nat) (s:Shared) (Q:Value->Shared->Prop) (E:Value->Shared->Prop),tn i s.heap->Q (.ref it) s->wpAny (model P w) A (pyIter (.ref it)) Q E s
abbrev TI:=St->Hp->(It->Hp->Prop)->Prop
def PIE (X:Cx) (pins:List (Addr×Obj)) (σ:St) (tg:Expr) (R:It->Hp->Prop) (itv:Value) (s2:Shared):Prop :=
 ∃ (it:Addr) (fp:List Addr) (tn:Nat->Heap->Prop) (J:It) (H':Hp),itv=.ref it/\Inv X pins σ H' s2/\Turn X.prog X.w X.K tg J fp it tn/\tn 0 s2.heap/\(∀ b∈fp,iJ X pins H' b)/\R J H'
def PI (X:Cx) (tg iter:Expr) (wi:TI):Prop :=
 ∀ (pins:List (Addr×Obj)) (s:Shared) (σ:St) (H:Hp) (R:It->Hp->Prop),Inv X pins σ H s->wi σ H R ->
  wpAny (model X.prog X.w) X.A (eval iter X.env) (fun v s1=>wpAny (model X.prog X.w) X.A (pyIter v) (PIE X pins σ tg R) X.xe s1) X.xe s
def go_of {M:Model} {A:Around} {E:Value->Shared->Prop} {s:Shared} {tg:Expr} {it:Addr} {u:Value} {o:Obj} {n:String} {vs:Array Value} {Q:Unit->Shared->Prop} (ho:s.heap.get? it=some o) (hc:o.cls=.type n) (hd:o.data=.fields vs)
  (hn:["enumerate","zip","dict_itemiterator","dict_reverseitemiterator","odict_iterator","itertools.zip_longest","itertools.pairwise"].contains n=false) (hQ:Q () s):wpAny M A (letOwnedTupleGo tg (.ref it) u) Q E s:=by
 unfold letOwnedTupleGo;cases tg<;>first
  | exact wpAny_pure hQ
  | (cases u<;>first
    | exact wpAny_pure hQ
    | (refine wpAny_bind (wpAny_load ho ?_)
       rw [hc,hd];show wpAny M A (if (["enumerate","zip","dict_itemiterator","dict_reverseitemiterator","odict_iterator","itertools.zip_longest","itertools.pairwise"].contains n&&vs[0]?==some (rawInt _))=true then _ else _) Q E s;rw [if_neg (by intro h;rw [hn,Bool.false_and] at h;cases h)];exact wpAny_pure hQ))
def Itl (K:Frag) (a:Addr):It :=
 ⟨fun i H=>∃ xs x,SqL K H a xs/\xs[i]?=some x,fun i H x H'=>H'=H/\∀ xs,SqL K H a xs->xs[i]?=some x,fun i H=>∃ xs,SqL K H a xs/\xs.length<=i⟩
def Itt (K:Frag) (a:Addr):It :=
 ⟨fun i H=>∃ xs x,SqT K H a xs/\xs[i]?=some x,fun i H x H'=>H'=H/\∀ xs,SqT K H a xs->xs[i]?=some x,fun i H=>∃ xs,SqT K H a xs/\xs.length<=i⟩
def Itr (lo:Int) (n:Nat):It:=⟨fun i _=>i < n,fun i H x H'=>H'=H/\x=.int (lo+i),fun i _=>n<=i⟩
def yA {P:Program} {w:World} {K:Frag} {tg:Expr} (a it:Addr):Turn P w K tg (Itl K a) [it] it (fun i h=>h.IsListIter it a i) where
 mem:=by simp
 obj:=fun i h st b hb=>by
  have e:b=it:=by simpa using hb
  subst e;obtain ⟨o,e,c,d⟩:=st;exact ⟨o,e,fun v z=>by rw [d] at z;cases z⟩
 keep:=fun i h h' st k=>st.at fun o e=>k it (by simp) o e
 item:=by
  intro X hP hw hK hc i pins s σ H E I hf st hg;subst hP hw hK;obtain ⟨xs,x,hq,hx⟩:=hg;obtain ⟨its,rv,p,hz⟩:=I.list hq;obtain ⟨u,hu,ru⟩:=rv.get hx;obtain ⟨f0,f1,f2,f3,f4,f5⟩:=hf it (by simp);refine wpAny_pyNext_list_item st p.isList (x:=u) (by simpa using hu) fun h' st' sb=>?_;have I1:Inv X pins σ H { s with heap:=h' }:=I.turned (t':=s.toks) (fun b o hb e=>(sb.2 b hb).trans e) f0 f1 f3 f4 f5;obtain ⟨o,e,c,d⟩:=id st';exact ⟨u,rfl,go_of (s:={ s with heap:=h' }) e c d (by decide) ⟨x,H,I1,ru,⟨rfl,fun ys hy=>by rw [I.list_inj hy hq];exact hx⟩,st',fun b hb=>(hf b hb).1⟩⟩
 done:=by
  intro X hP hw hK hc i pins s σ H E I hf st hg;subst hP hw hK;obtain ⟨xs,hq,hx⟩:=hg;obtain ⟨its,rv,p,hz⟩:=I.list hq;obtain ⟨f0,f1,f2,f3,f4,f5⟩:=hf it (by simp);have hl:=rv.length;exact wpAny_pyNext_list_end (I.ok.hd hc) st p.isList (by simp;omega) fun h' eb=>⟨rfl,I.turned (t':=s.toks) (fun b o hb e=>eb b o hb e) f0 f1 f3 f4 f5⟩
 self:=fun _ _ _ _ _ st h=>wpAny_pyIter_listiter st h
def uL {P:Program} {w:World} {K:Frag} {tg:Expr} (a it:Addr):Turn P w K tg (Itt K a) [it] it (fun i h=>h.IsTupleIter it a i) where
 mem:=by simp
 obj:=fun i h st b hb=>by
  have e:b=it:=by simpa using hb
  subst e;obtain ⟨o,e,c,d⟩:=st;exact ⟨o,e,fun v z=>by rw [d] at z;cases z⟩
 keep:=fun i h h' st k=>st.at fun o e=>k it (by simp) o e
 item:=by
  intro X hP hw hK hc i pins s σ H E I hf st hg;subst hP hw hK;obtain ⟨xs,x,hq,hx⟩:=hg;obtain ⟨its,rv,p,hz⟩:=I.tuple hq;obtain ⟨u,hu,ru⟩:=rv.get hx;obtain ⟨f0,f1,f2,f3,f4,f5⟩:=hf it (by simp);refine wpAny_pyNext_tuple_item st (show s.heap.IsTuple a its.toArray from p) (x:=u) (by simpa using hu) fun h' st' sb=>?_;have I1:Inv X pins σ H { s with heap:=h' }:=I.turned (t':=s.toks) (fun b o hb e=>(sb.2 b hb).trans e) f0 f1 f3 f4 f5;obtain ⟨o,e,c,d⟩:=id st';exact ⟨u,rfl,go_of (s:={ s with heap:=h' }) e c d (by decide) ⟨x,H,I1,ru,⟨rfl,fun ys hy=>by rw [I.tuple_inj hy hq];exact hx⟩,st',fun b hb=>(hf b hb).1⟩⟩
 done:=by
  intro X hP hw hK hc i pins s σ H E I hf st hg;subst hP hw hK;obtain ⟨xs,hq,hx⟩:=hg;obtain ⟨its,rv,p,hz⟩:=I.tuple hq;obtain ⟨f0,f1,f2,f3,f4,f5⟩:=hf it (by simp);have hl:=rv.length;exact wpAny_pyNext_tuple_end (I.ok.hd hc) st (show s.heap.IsTuple a its.toArray from p) (by simp;omega) fun h' eb=>⟨rfl,I.turned (t':=s.toks) (fun b o hb e=>eb b o hb e) f0 f1 f3 f4 f5⟩
 self:=fun _ _ _ _ _ st h=>wpAny_pyIter_tupleiter st h
def uM {P:Program} {w:World} {K:Frag} {tg:Expr} (it:Addr) (lo:Int) (n:Nat):Turn P w K tg (Itr lo n) [it] it (fun i h=>IsRangeIter h it (lo+(i:Nat)*1) ((n:Int) - (i:Nat)) 1) where
 mem:=by simp
 obj:=fun i h st b hb=>by
  have e:b=it:=by simpa using hb
  subst e;exact ⟨_,st,fun v z=>by
   have z':Data.fields _=Data.cell v:=z;cases z'⟩
 keep:=fun i h h' st k=>k it (by simp) _ st
 item:=by
  intro X hP hw hK hc i pins s σ H E I hf st hg;subst hP hw hK;obtain ⟨f0,f1,f2,f3,f4,f5⟩:=hf it (by simp);have W:=Walks.range (prog:=X.prog) (w:=X.w) (I.ok.hd hc) it lo 1 n;refine W.item i s _ _ hg st fun v h' tk hv st' kk=>?_;obtain ⟨t,rfl⟩:=hv;have I1:Inv X pins σ H { s with heap:=h',toks:=tk }:=I.turned (fun b o hb e=>kk b o (by simpa using hb) e) f0 f1 f3 f4 f5;refine ⟨_,rfl,go_of (s:={ s with heap:=h',toks:=tk }) (n:="range_iterator") st' rfl rfl (by decide) ⟨.int (lo+i),H,I1,⟨t,?_⟩,⟨rfl,rfl⟩,st',fun b hb=>(hf b hb).1⟩⟩;rw [Int.mul_one]
 done:=by
  intro X hP hw hK hc i pins s σ H E I hf st hg;subst hP hw hK;obtain ⟨f0,f1,f2,f3,f4,f5⟩:=hf it (by simp);exact wpAny_pyNext_range_end (I.ok.hd hc) st (by have:n<=i:=hg;omega) fun h' eb=>⟨rfl,I.turned (t':=s.toks) (fun b o hb e=>eb b o hb e) f0 f1 f3 f4 f5⟩
 self:=fun _ _ _ _ _ st h=>wpAny_pyIter_rangeiter st h
section
variable {X:Cx} {tg:Expr}
def rN {pins:List (Addr×Obj)} {σ:St} {H:Hp} {s:Shared} {R:It->Hp->Prop} {E:Value->Shared->Prop} {lo hi:Int} {t u v:Tok} {tk:Nat} (I:Inv X pins σ H s) (h1:-(2^62)<=lo) (h2:lo < 2^62) (h3:-(2^62)<=hi) (h4:hi < 2^62)
  (q:R (Itr lo (hi - lo).toNat) H):wpAny (model X.prog X.w) X.A (pyIter (.ref s.heap.objs.size)) (PIE X pins σ tg R) E { s with heap:=s.heap.push { cls:=.type "range",data:=.fields #[.int lo t,.int hi u,.int 1 v] },toks:=tk }:=by
 refine wpAny_pyIter_range (IsRange.new ..) (small_one h1 h2 h3 h4) ?_;have I1:Inv X pins σ H { s with heap:=s.heap.push { cls:=.type "range",data:=.fields #[.int lo t,.int hi u,.int 1 v] },toks:=tk }:=I.kept fun b o e=>Heap.get?_push_of_some _ e;refine ⟨(s.heap.push { cls:=.type "range",data:=.fields #[.int lo t,.int hi u,.int 1 v] }).objs.size,[(s.heap.push { cls:=.type "range",data:=.fields #[.int lo t,.int hi u,.int 1 v] }).objs.size],_,_,H,rfl,
  I1.kept (t':=tk) fun b o e=>Heap.get?_push_of_some _ e,uM _ lo (hi - lo).toNat,?_,fun b hb=>?_,q⟩
 ·have e1:lo+((0:Nat):Int)*1=lo:=by simp
  have e2:(((hi - lo).toNat:Nat):Int) - ((0:Nat):Int)=Builtin.Range.rangeSize lo hi 1:=by rw [rangeSize_one];split<;>omega
  show IsRangeIter _ _ (lo+((0:Nat):Int)*1) ((((hi - lo).toNat:Nat):Int) - ((0:Nat):Int)) 1;rw [e1,e2];exact Heap.get?_push_size _ rfl
 ·have e:b=(s.heap.push { cls:=.type "range",data:=.fields #[.int lo t,.int hi u,.int 1 v] }).objs.size:=by simpa using hb
  subst e;exact I1.fpOk (Nat.le_refl _) (I1.hok.fresh (Nat.le_refl _))
def cI4 (ta:TA):TI:=fun σ H R=>ta σ H fun vs H1=>∃ j:Int,vs=[.int j]/\-(2^62)<=j/\j < 2^62/\R (Itr 0 j.toNat) H1
def cI5 (ta:TA):TI:=fun σ H R=>ta σ H fun vs H1=>∃ i j:Int,vs=[.int i,.int j]/\(-(2^62)<=i/\i < 2^62/\-(2^62)<=j/\j < 2^62)/\R (Itr i (j - i).toNat) H1
def yB {a:Expr} {ta:TA} {p pos:Pos} (hg:Gl X "range") (hm:X.mg "range"=none) (ha:PA X [a] ta) (hs:autoParam (starEach [a] X.env=[(false,eval a X.env)]) ZR):PI X tg (.Call (.Name "range" p) [a] [] pos) (cI4 ta):=by
 intro pins s σ H R I h;refine Call_ (iI I hg hm boot_range (PyProof.Rows.callWith_type1 (thn (ha pos pins s σ H _ I h) fun us s1 ⟨vs,H1,I1,r1,q1⟩=>?_) hs rfl));obtain ⟨j,e,q1,q2,q⟩:=q1;subst e;cases r1 with
 | cons r rr =>
  cases rr;obtain ⟨t,rfl⟩:=r;exact call_range_1 (rN I1 (by omega) (by omega) q1 q2 (by simpa using q))
def yC {a b:Expr} {ta:TA} {p pos:Pos} (hg:Gl X "range") (hm:X.mg "range"=none) (ha:PA X [a,b] ta) (hs:autoParam (starEach [a,b] X.env=[(false,eval a X.env),(false,eval b X.env)]) ZR) (hs2:autoParam (starEach [b] X.env=[(false,eval b X.env)]) ZR) :
  PI X tg (.Call (.Name "range" p) [a,b] [] pos) (cI5 ta):=by
 intro pins s σ H R I h;refine Call_ (iI I hg hm boot_range (PyProof.Rows.callWith_type1 (thn (ha pos pins s σ H _ I h) fun us s1 ⟨vs,H1,I1,r1,q1⟩=>?_) (by rw [hs,hs2]) (by rw [hs2];rfl)));obtain ⟨i,j,e,⟨q1,q2,q3,q4⟩,q⟩:=q1;subst e;cases r1 with
 | cons r rr =>
  cases rr with
  | cons r' rr =>
   cases rr;obtain ⟨t,rfl⟩:=r;obtain ⟨t',rfl⟩:=r';exact call_range_2 (rN I1 q1 q2 q3 q4 q)
def cX9 (wi:TI) (g:TG) (tb:TS):TS:=fun D σ H=>wi σ H fun J H1=>∃ W:Nat->Nat->St->Hp->Prop,(∃ m,W 0 m σ H1)/\∀ i m σ H,W i m σ H ->
 (J.stop i H/\D.nx σ H)\/(J.go i H/\∃ N:St->Hp->Prop,(∀ σ' H',N σ' H'->∃ m',m' < m/\W (i+1) m' σ' H')/\∀ x H',J.yld i H x H'->g x σ H' fun σ2 H2=>tb { D with nx:=N,ct:=N,bk:=D.nx } σ2 H2)
noncomputable def lR (fp:List Addr) (h:Heap):List (Addr×Obj):=fp.filterMap fun b=>(h.get? b).map fun o=>(b,o)
def fP {fp:List Addr} {h:Heap} {b:Addr} {o:Obj} (hb:b∈fp) (e:h.get? b=some o):(b,o)∈lR fp h:=List.mem_filterMap.mpr ⟨b,hb,by rw [e];rfl⟩
def yD {fp:List Addr} {h:Heap} {p:Addr×Obj} (hp:p∈lR fp h):p.1∈fp/\h.get? p.1=some p.2:=by
 obtain ⟨b,hb,e⟩:=List.mem_filterMap.mp hp;cases q:h.get? b with
 | none=>rw [q] at e;cases e
 | some o =>
  rw [q] at e;have e':(b,o)=p:=Option.some.inj e;subst e';exact ⟨hb,q⟩
def Inv.pinned {pins:List (Addr×Obj)} {σ:St} {H:Hp} {s:Shared} {fp:List Addr} (I:Inv X pins σ H s) (hf:∀ b∈fp,iJ X pins H b) (ho:∀ b∈fp,∃ o,s.heap.get? b=some o/\∀ v,o.data≠.cell v):Inv X (pins++lR fp s.heap) σ H s :=
 I.pins_of fun p hp=>(List.mem_append.mp hp).elim (fun z=>I.pin p (List.mem_append_right _ z)) fun z=>by
  obtain ⟨hb,e⟩:=yD z;obtain ⟨f0,f1,f2,_⟩:=hf p.1 hb;obtain ⟨o,e',d⟩:=ho p.1 hb;rw [e] at e';cases e';exact ⟨e,f0,f1,f2,d⟩
def Inv.unpinned {pins pl:List (Addr×Obj)} {σ:St} {H:Hp} {s:Shared} (I:Inv X (pins++pl) σ H s):Inv X pins σ H s:=I.pins_of fun p hp=>I.pin p (List.mem_append_right _ (List.mem_append_left _ hp))
def aD4 {iter:Expr} {body:List Stmt} {wi:TI} {g:TG} {tb:TS} {pos:Pos} (hp:PassesOwn (model X.prog X.w) X.A X.env X.xe) (hc:X.calm=true) (hi:PI X tg iter wi) (hg:PG X tg g) (hb:PSs X body tb)
  (hs:autoParam (∀ x,foldedSetIterable iter X.env x=pure x) ZI):PS X (.For tg iter body [] pos) (cX9 wi g tb):=by
 intro pins s σ H D I h;refine wpAny_For (thn (hi pins s σ H _ I h) fun v s1 h1=>thn h1 fun itv s2 h2=>?_) hs;obtain ⟨it,fp,tn,J,H2,e,I2,T,st2,f2,W,⟨m0,w0⟩,turn⟩:=h2;subst e;have stat:∀ {H':Hp},(∀ b∈fp,H' b=none)->∀ b∈fp,iJ X pins H' b:=fun hn b hb=>⟨hn b hb,(f2 b hb).2⟩;refine codeAny_forLoop_any (fun n s'=>∃ i σ' H',Inv X pins σ' H' s'/\tn i s'.heap/\(∀ b∈fp,H' b=none)/\W i n σ' H') ?_ m0 ⟨0,σ,H2,I2,st2,fun b hb=>(f2 b hb).1,w0⟩;rintro n s3 ⟨i,σ3,H3,I3,st3,fr3,w3⟩;rcases turn i n σ3 H3 w3 with ⟨stop,qn⟩ | ⟨go,N,hN,step⟩
 ·refine wpAny_passesOwn hp (thn (T.done X rfl rfl rfl hc i pins s3 σ3 H3 X.xe I3 (stat fr3) st3 stop) fun r s4 ⟨hr,I4⟩=>?_);subst hr;exact wpAny_execs_nil ⟨σ3,H3,I4,qn⟩
 ·refine wpAny_passesOwn hp (thn (T.item X rfl rfl rfl hc i pins s3 σ3 H3 X.xe I3 (stat fr3) st3 go) fun r s4 ⟨u,hr,h4⟩=>?_);subst hr;refine wpAny_passesOwn hp (thn h4 fun _ s5 ⟨x,H5,I5,r5,y5,st5,fr5⟩=>?_);have I5':=I5.pinned (stat fr5) (T.obj _ _ st5);refine wpAny_passesOwn hp (thn (hg _ s5 σ3 H5 x u _ I5' r5 (step x H5 y5)) fun _ s6 ⟨σ6,H6,I6,q6⟩=>?_);refine wpAny_passesOwn hp (thn (hb _ s6 σ6 H6 _ I6 q6) fun f s7 q7=>?_);have again:∀ {σ7:St} {H7:Hp},Inv X (pins++lR fp s5.heap) σ7 H7 s7->N σ7 H7->∃ m,m < n/\∃ i σ' H',Inv X pins σ' H' s7/\tn i s7.heap/\(∀ b∈fp,H' b=none)/\W i m σ' H':=fun {σ7 H7} I7 n7=>by
   obtain ⟨m',hm,w7⟩:=hN σ7 H7 n7;refine ⟨m',hm,i+1,σ7,H7,I7.unpinned,T.keep _ _ _ st5 fun b hb o e=>(I7.pin (b,o) (List.mem_append_right _ (List.mem_append_right _ (fP hb e)))).1,fun b hb=>?_,w7⟩;obtain ⟨o,e,d⟩:=T.obj _ _ st5 b hb;exact (I7.pin (b,o) (List.mem_append_right _ (List.mem_append_right _ (fP hb e)))).2.1
  cases f with
  | next=>obtain ⟨σ7,H7,I7,n7⟩:=q7;exact again I7 n7
  | cont=>obtain ⟨σ7,H7,I7,n7⟩:=q7;exact again I7 n7
  | brk=>obtain ⟨σ7,H7,I7,q7⟩:=q7;exact ⟨σ7,H7,I7.unpinned,q7⟩
  | ret v=>obtain ⟨x7,σ7,H7,I7,r7,q7⟩:=q7;exact ⟨x7,σ7,H7,I7.unpinned,r7,q7⟩
end
abbrev R2:=V->V->Hp->VK->Prop
def OpR (X:Cx) (f:Value->Value->Sem Value) (r:R2):Prop :=
 ∀ (pins:List (Addr×Obj)) (s:Shared) (σ:St) (H:Hp) (x y:V) (v u:Value) (Q:VK),Inv X pins σ H s->RelV x v->RelV y u->r x y H Q ->
  wpAny (model X.prog X.w) X.A (f v u) (EP X pins σ Q) X.xe s
def UnR (X:Cx) (f:Value->Sem Value) (r:V->Hp->VK->Prop):Prop :=
 ∀ (pins:List (Addr×Obj)) (s:Shared) (σ:St) (H:Hp) (x:V) (v:Value) (Q:VK),Inv X pins σ H s->RelV x v->r x H Q ->
  wpAny (model X.prog X.w) X.A (f v) (EP X pins σ Q) X.xe s
def bZ (X:Cx) (f:Value) (r:List V->Hp->VK->Prop):Prop :=
 ∀ (pins:List (Addr×Obj)) (s:Shared) (σ:St) (H:Hp) (xs:List V) (us:List Value) (Q:VK),Inv X pins σ H s->Vals xs us->r xs H Q ->
  wpAny (model X.prog X.w) X.A (call f us) (EP X pins σ Q) X.xe s
def tOp (r:R2) (ta tb:TE):TE:=fun σ H Q=>ta σ H fun x H1=>tb σ H1 fun y H2=>r x y H2 Q
def tUn (r:V->Hp->VK->Prop) (ta:TE):TE:=fun σ H Q=>ta σ H fun x H1=>r x H1 Q
noncomputable def rI (C:Int->Int->Prop) (g:Int->Int->V):R2:=fun x y H Q=>∃ i j,x=.int i/\y=.int j/\C i j/\Q (g i j) H
noncomputable def rI0 (g:Int->Int->V):R2:=fun x y H Q=>∃ i j,x=.int i/\y=.int j/\Q (g i j) H
noncomputable def rU (g:Int->V):V->Hp->VK->Prop:=fun x H Q=>∃ i,x=.int i/\Q (g i) H
section
variable {X:Cx} {a b c:Expr} {ta tb tc:TE} {pos:Pos}
def bN6 (ha:PE X a ta) (hb:PE X b tb) {pins:List (Addr×Obj)} {s:Shared} {σ:St} {H:Hp} {R:V->V->Hp->Prop} (I:Inv X pins σ H s)
  (h:ta σ H fun x H1=>tb σ H1 fun y H2=>R x y H2) {Q:Value->Shared->Prop} {f:Value->Value->Sem Value}
  (hf:∀ v u s2 x y H2,Inv X pins σ H2 s2->RelV x v->RelV y u->R x y H2->wpAny (model X.prog X.w) X.A (f v u) Q X.xe s2) :
  wpAny (model X.prog X.w) X.A (eval a X.env) (fun v s₁=>wpAny (model X.prog X.w) X.A (eval b X.env) (fun u s₂=>wpAny (model X.prog X.w) X.A (f v u) Q X.xe s₂) X.xe s₁) X.xe s:=by
 refine thn (ha pins s σ H _ I h) fun v s1 ⟨x,H1,I1,r1,q1⟩=>?_;refine thn (hb pins s1 σ H1 _ I1 q1) fun u s2 ⟨y,H2,I2,r2,q2⟩=>?_;exact hf v u s2 x y H2 I2 r1 r2 q2
def aD5 {op:Operator} {r:R2} (ho:OpR X (binaryOp op) r) (ha:PE X a ta) (hb:PE X b tb):PE X (.BinOp a op b pos) (tOp r ta tb):=by
 intro pins s σ H Q I h;exact wpAny_BinOp (bN6 ha hb I h fun v u s2 x y H2 I2 rx ry q=>ho pins s2 σ H2 x y v u Q I2 rx ry q)
def cI6 {op:UnaryOp} {r:V->Hp->VK->Prop} (ho:UnR X (unaryOp op) r) (ha:PE X a ta):PE X (.UnaryOp op a pos) (tUn r ta):=by
 intro pins s σ H Q I h;exact UnaryOp_ (thn (ha pins s σ H _ I h) fun v s1 ⟨x,H1,I1,r1,q1⟩=>ho pins s1 σ H1 x v Q I1 r1 q1)
def opI {f:Value->Value->Sem Value} {C:Int->Int->Prop} {g:Int->Int->Int}
  (rule:∀ (i j:Int) (t u:Tok) (s:Shared) (Q:Value->Shared->Prop) (E:Value->Shared->Prop),C i j->Q (.int (g i j) s.toks) { s with toks:=s.toks+1 }->wpAny (model X.prog X.w) X.A (f (.int i t) (.int j u)) Q E s) :
  OpR X f (rI C fun i j=>.int (g i j)):=by
 intro pins s σ H x y v u Q I rx ry h;obtain ⟨i,j,rfl,rfl,hc,q⟩:=h;obtain ⟨t,rfl⟩:=rx;obtain ⟨t',rfl⟩:=ry;exact rule i j t t' s _ _ hc ⟨.int (g i j),H,I.tok _,⟨_,rfl⟩,q⟩
def bN7 {f:Value->Value->Sem Value} {g:Int->Int->Int}
  (rule:∀ (i j:Int) (t u:Tok) (s:Shared) (Q:Value->Shared->Prop) (E:Value->Shared->Prop),Q (.int (g i j) s.toks) { s with toks:=s.toks+1 }->wpAny (model X.prog X.w) X.A (f (.int i t) (.int j u)) Q E s) :
  OpR X f (rI0 fun i j=>.int (g i j)):=by
 intro pins s σ H x y v u Q I rx ry h;obtain ⟨i,j,rfl,rfl,q⟩:=h;obtain ⟨t,rfl⟩:=rx;obtain ⟨t',rfl⟩:=ry;exact rule i j t t' s _ _ ⟨.int (g i j),H,I.tok _,⟨_,rfl⟩,q⟩
def aR2 {f:Value->Value->Sem Value} {g:Int->Int->Bool}
  (rule:∀ (i j:Int) (t u:Tok) (s:Shared) (Q:Value->Shared->Prop) (E:Value->Shared->Prop),Q (.bool (g i j)) s->wpAny (model X.prog X.w) X.A (f (.int i t) (.int j u)) Q E s) :
  OpR X f (rI0 fun i j=>.bl (g i j)):=by
 intro pins s σ H x y v u Q I rx ry h;obtain ⟨i,j,rfl,rfl,q⟩:=h;obtain ⟨t,rfl⟩:=rx;obtain ⟨t',rfl⟩:=ry;exact rule i j t t' s _ _ ⟨.bl (g i j),H,I,rfl,q⟩
def aR3 (i j:Int):Prop:=0<=j/\j<=1000000/\i.natAbs < 2^64
def CMul (i j:Int):Prop:=(-(2^64) < i/\i < 2^64)\/(-(2^64) < j/\j < 2^64)
def CMul.ok {i j:Int} (h:CMul i j):IntMulOk i j:=by
 rcases h with ⟨h1,h2⟩ | ⟨h1,h2⟩
 ·exact .of_left (intBits_le_64 h1 h2)
 ·exact .of_right (intBits_le_64 h1 h2)
def uN (k:Nat):(0:Int)<=2^k:=by
 rw [two_pow_cast];exact Int.natCast_nonneg _
def bN8:OpR X (binaryOp .Add) (rI0 fun i j=>.int (i+j)):=bN7 fun _ _ _ _ _ _ _ q=>add_int q
def bN9:OpR X (binaryOp .Sub) (rI0 fun i j=>.int (i - j)):=bN7 fun _ _ _ _ _ _ _ q=>sub_int q
def bO0:OpR X (binaryOp .Mult) (rI CMul fun i j=>.int (i*j)):=opI fun _ _ _ _ _ _ _ hc q=>mul_int q hc.ok
def bO1:OpR X (binaryOp .Mod) (rI (fun _ j=>0 < j) fun i j=>.int (i%j)):=opI fun i j _ _ _ _ _ hc q=>by
 have h1:(0:Int) < j:=hc;exact mod_int' (by omega) (by rw [Int.fmod_eq_emod_of_nonneg i (by omega)];exact q)
def bO2:OpR X (binaryOp .Pow) (rI aR3 fun i j=>.int (i^j.toNat)):=opI fun _ _ _ _ _ _ _ hc q=>pow_int_small hc.1 hc.2.1 hc.2.2 q
def bO3:OpR X (binaryOp .RShift) (rI (fun _ j=>0<=j) fun i j=>.int (i / 2^j.toNat)):=opI fun i j _ _ _ _ _ hc q =>
 rshift_int hc (by rw [Int.fdiv_eq_ediv_of_nonneg i (uN _)];exact q)
def bO4:OpR X (binaryOp .BitAnd) (rI0 fun i j=>.int (Builtin.bitAnd i j)):=bN7 fun _ _ _ _ _ _ _ q=>and_int q
def unI {f:Value->Sem Value} {g:Int->Int}
  (rule:∀ (i:Int) (t:Tok) (s:Shared) (Q:Value->Shared->Prop) (E:Value->Shared->Prop),Q (.int (g i) s.toks) { s with toks:=s.toks+1 }->wpAny (model X.prog X.w) X.A (f (.int i t)) Q E s) :
  UnR X f (rU fun i=>.int (g i)):=by
 intro pins s σ H x v Q I rx h;obtain ⟨i,rfl,q⟩:=h;obtain ⟨t,rfl⟩:=rx;exact rule i t s _ _ ⟨.int (g i),H,I.tok _,⟨_,rfl⟩,q⟩
def bO5:UnR X (unaryOp .USub) (rU fun i=>.int (-i)):=unI fun _ _ _ _ _ q=>neg_int q
end
section
variable {X:Cx} {a b c:Expr} {ta tb tc:TE} {pos:Pos}
def cI7:OpR X (compareOp .Lt) (rI0 fun i j=>.bl (decide (i < j))):=aR2 fun _ _ _ _ _ _ _ q=>lt_int q
def cI8:OpR X (compareOp .LtE) (rI0 fun i j=>.bl (decide (i<=j))):=aR2 fun _ _ _ _ _ _ _ q=>le_int q
def cI9:OpR X (compareOp .Gt) (rI0 fun i j=>.bl (decide (j < i))):=aR2 fun _ _ _ _ _ _ _ q=>gt_int q
def cJ0:OpR X (compareOp .GtE) (rI0 fun i j=>.bl (decide (j<=i))):=aR2 fun _ _ _ _ _ _ _ q=>ge_int q
def wM {op:CmpOp} {r:R2} (ho:OpR X (compareOp op) r) (ha:PE X a ta) (hb:PE X b tb) (hm:behindInMarks op b=false):PE X (.Compare a [op] [b] pos) (tOp r ta tb):=by
 intro pins s σ H Q I h;exact wpAny_Compare1 (bN6 ha hb I h fun v u s2 x y H2 I2 rx ry q=>ho pins s2 σ H2 x y v u Q I2 rx ry q) hm
def bF6 (t:TE):TT:=fun σ H Q=>t σ H fun x H'=>∃ k,x=.bl k/\Q k H'
def wN {op:CmpOp} {r:R2} (ho:OpR X (compareOp op) r) (ha:PE X a ta) (hb:PE X b tb) (hm:behindInMarks op b=false):PT X (.Compare a [op] [b] pos) (bF6 (tOp r ta tb)):=by
 intro pins s σ H Q I h;refine wpAny_isTrue_Compare1 (thn (ha pins s σ H _ I h) fun v s1 ⟨x,H1,I1,r1,q1⟩=>thn (hb pins s1 σ H1 _ I1 q1) fun u s2 ⟨y,H2,I2,r2,q2⟩ =>
  thn (ho pins s2 σ H2 x y v u _ I2 r1 r2 q2) fun c s3 ⟨z,H3,I3,r3,k,e,q3⟩=>?_) hm
 subst e;cases r3;exact wpAny_truthy_bool ⟨H3,I3,q3⟩
def uO (r r':R2) (ta tb tc:TE):TE:=fun σ H Q=>ta σ H fun x H1=>tb σ H1 fun y H2=>r x y H2 fun z H3=>∃ k,z=.bl k /\
 (if k=true then tc σ H3 fun w' H4=>r' y w' H4 Q else Q (.bl false) H3)
def aD6 {op op':CmpOp} {r r':R2} (ho:OpR X (compareOp op) r) (ho':OpR X (compareOp op') r') (ha:PE X a ta) (hb:PE X b tb) (hc:PE X c tc)
  (hm:autoParam (lastMarks [op,op'] [b,c]=false) ZW):PE X (.Compare a [op,op'] [b,c] pos) (uO r r' ta tb tc):=by
 intro pins s σ H Q I h;refine Compare_chain (thn (ha pins s σ H _ I h) fun v s1 ⟨x,H1,I1,r1,q1⟩=>chain_link (thn (hb pins s1 σ H1 _ I1 q1) fun u s2 ⟨y,H2,I2,r2,q2⟩ =>
  thn (ho pins s2 σ H2 x y v u _ I2 r1 r2 q2) fun d s3 ⟨z,H3,I3,r3,k,e,q3⟩=>?_)) hm
 subst e;cases r3;refine wpAny_truthy_bool ?_;cases k with
 | false=>exact ite_ff ⟨.bl false,H3,I3,rfl,q3⟩
 | true=>exact ite_tt (chain_last (thn (hc pins s3 σ H3 _ I3 q3) fun w' s4 ⟨z',H4,I4,r4,q4⟩=>ho' pins s4 σ H4 y z' u w' Q I4 r2 r4 q4))
def aD7 {op op':CmpOp} {r r':R2} (ho:OpR X (compareOp op) r) (ho':OpR X (compareOp op') r') (ha:PE X a ta) (hb:PE X b tb) (hc:PE X c tc)
  (hm:autoParam (lastMarks [op,op'] [b,c]=false) ZW):PT X (.Compare a [op,op'] [b,c] pos) (bF6 (uO r r' ta tb tc)):=by
 intro pins s σ H Q I h;refine isTrue_chain (thn (ha pins s σ H _ I h) fun v s1 ⟨x,H1,I1,r1,q1⟩=>test_link (thn (hb pins s1 σ H1 _ I1 q1) fun u s2 ⟨y,H2,I2,r2,q2⟩ =>
  thn (ho pins s2 σ H2 x y v u _ I2 r1 r2 q2) fun d s3 ⟨z,H3,I3,r3,k,e,q3⟩=>?_)) hm
 subst e;cases r3;refine wpAny_truthy_bool ?_;cases k with
 | false =>
  obtain ⟨k',e',q'⟩:=q3;cases e';exact ite_ff ⟨H3,I3,q'⟩
 | true =>
  refine ite_tt (test_last (thn (hc pins s3 σ H3 _ I3 q3) fun w' s4 ⟨z',H4,I4,r4,q4⟩=>thn (ho' pins s4 σ H4 y z' u w' _ I4 r2 r4 q4) fun d' s5 ⟨z2,H5,I5,r5,k2,e2,q5⟩=>?_));subst e2;cases r5;exact wpAny_truthy_bool ⟨H5,I5,q5⟩
def pZ:(sizeLine:Nat) < 2^63:=by rw [sizeLine_eq];decide
def iU {x:V} {us:List Value} (r:Vals [x] us):∃ u,us=[u]/\RelV x u:=by
 cases r with
 | cons r1 r2=>cases r2;exact ⟨_,rfl,r1⟩
def yE:bZ X (.type "int") (fun xs H Q=>(∃ i,xs=[.int i]/\Q (.int i) H)\/∃ k,xs=[.bl k]/\Q (.int (if k then 1 else 0)) H):=by
 intro pins s σ H xs us Q I r h;rcases h with ⟨i,rfl,q⟩ | ⟨k,rfl,q⟩
 ·obtain ⟨u,rfl,t,rfl⟩:=iU r;exact call_int_int ⟨.int i,H,I,⟨_,rfl⟩,q⟩
 ·obtain ⟨u,rfl,r1⟩:=iU r;cases r1;exact call_int_bool ⟨.int (if k then 1 else 0),H,I.tok _,⟨_,rfl⟩,q⟩
end
structure ObjM (h:Heap) (x dx C:Addr) (mA:Str->Option Value):Prop where
 obj:h.get? x=some (PySem.W.instObj C dx)
 ns:h.Ns1 dx mA
 ne:dx≠x
def yF {h:Heap} {dx:Addr} {mA:Str->Option Value} (n:h.Ns1 dx mA):∃ od,h.get? dx=some od/\∀ name,PySem.W.lookIn name od=some (mA name):=by
 obtain ⟨o,es,ep,ho,hd,hk,_,hm⟩:=n;refine ⟨o,ho,fun name=>?_⟩;have e:=hm name;unfold nsFind findBy at e;rw [<- Array.find?_toList] at e;unfold PySem.W.lookIn;rw [hd];dsimp only;split
 ·rename_i y q;rw [q] at e;exact congrArg some e
 ·rename_i q;rw [q] at e;have a:es.toList.any (·.refKey)=false:=by
   rw [List.any_eq_false];intro y hy;obtain ⟨z,t,hkey⟩:=hk y (Array.mem_toList_iff.mp hy);simp [DictEntry.refKey,hkey]
  have a':¬ es.toList.any (·.refKey)=true:=by rw [a];exact Bool.false_ne_true
  rw [if_neg a'];exact congrArg some e
section
variable {prog:Program} {w:World} {A:Around} {E:Value->Shared->Prop} {s:Shared} {K:Frag} {x dx C f:Addr} {mA:Str->Option Value} {name:Str} {v:Value}
end
def RelO.some_of {v:V} {o:Option Value} (r:RelO (some v) o):∃ u,o=some u/\RelV v u:=by
 cases o with
 | none=>exact (show False from r).elim
 | some u=>exact ⟨u,rfl,r⟩
section
variable {P:Program} {w:World} {H H':Hp} {h h':Heap} {a C dx:Addr} {fs fs':List (Str×V)}
end
structure Cls (K:Frag) (C:Addr):Prop where
 pg:PySem.W.plainGet K C Str.empty=true
 hd:PySem.W.hasDictIn K C=true
 po:PySem.W.plainOver K C=true
 sa:PySem.W.findIn K (.ref C) "__setattr__"=some (some (.builtin "object.__setattr__"))
def uP (K:Frag) (C:Addr) (f:Str):Prop:=PySem.W.findIn K (.ref C) f=some none
structure Meth (K:Frag) (C:Addr) (m:Str) (f:Addr):Prop where
 at_:PySem.W.findIn K (.ref C) m=some (some (.ref f))
 fn:PySem.W.isFn K (.ref f)=true
 kp:PySem.W.keepIn K (.ref f)=true
section
variable {X:Cx} {pins:List (Addr×Obj)} {σ:St} {H:Hp} {s:Shared} {a C dx:Addr} {fs:List (Str×V)} {f:Str} {v:V} {A:Around} {E:Value->Shared->Prop}
def aR4 {prog:Program} {w:World} {env:Env} {e:Expr} {f:Str} {pos:Pos} {s:Shared} {Q:Value->Shared->Prop} (hb:attributeBase e f env (eval e env)=eval e env)
  (h:wpAny (model prog w) A (eval e env) (fun o s₁=>wpAny (model prog w) A (getAttr o f true) Q E s₁) E s):wpAny (model prog w) A (eval (.Attribute e f pos) env) Q E s :=
 Attribute_any_ h (by rw [arm_eval_Attribute,hb])
end
section
variable {X:Cx} {o e value:Expr} {f:Str} {pos pos' tpos:Pos} {ta tv:TE}
end
section
variable {X:Cx} {pins:List (Addr×Obj)} {σ:St} {H:Hp} {s:Shared} {A:Around} {E:Value->Shared->Prop} {Q:Value->Shared->Prop} {c:Value} {b:Bool}
end
structure Room (k:Nat) (A:Around):Prop where
 hd:A.handled=none
 dp:A.depth+3*k+5 < recursionLimit
 un:A.units+16*k+200 < cLine
def Room.mono {j k:Nat} {A:Around} (r:Room k A) (h:j<=k):Room j A:=⟨r.hd,by have:=r.dp;omega,by have:=r.un;omega⟩
def Room.deeper {k:Nat} {A:Around} (r:Room (k+1) A) (env:Env):Room k (A.deeper env) :=
 ⟨r.hd,by have:=r.dp;show A.depth+1+3*k+5 < _;omega,by have:=r.un;show A.units+3+16*k+200 < _;omega⟩
def uQ {A:Around} {C:Addr} {us:List Value} {kw:List (Str×Value)}:(A.under (.builtin "type.__call__" ⟨.ref C::us,kw⟩)).depth=A.depth+1:=by
 first | rfl | simp [Around.under,Code.weight,Code.isCreation,Code.isGuard,Code.isCaller,Code.frames,Code.isFrame,guardIds]
def uR {A:Around} {C:Addr} {us:List Value} {kw:List (Str×Value)}:(A.under (.builtin "type.__call__" ⟨.ref C::us,kw⟩)).units=A.units+1:=by
 first | rfl | simp [Around.under,Code.cUnits,Code.frames,Code.isFrame]
def Room.make {k:Nat} {A:Around} (r:Room (k+1) A) (C:Addr) (us:List Value) (kw:List (Str×Value)):Room k (A.under (.builtin "type.__call__" ⟨.ref C::us,kw⟩)) :=
 ⟨r.hd,by have:=r.dp;rw [uQ];omega,by have:=r.un;rw [uR];omega⟩
def Room.depth {k:Nat} {A:Around} (r:Room k A):A.depth < recursionLimit:=by have:=r.dp;omega
def Room.units {k:Nat} {A:Around} (r:Room k A):A.units+64 < cLine:=by have:=r.un;omega
def yG:TA:=fun _ H Q=>Q [] H
def eO (ta:TE) (tr:TA):TA:=fun σ H Q=>ta σ H fun x H1=>tr σ H1 fun xs H2=>Q (x::xs) H2
section
variable {X:Cx} {e:Expr} {es:List Expr} {te:TE} {t:TA} {pos:Pos}
def fQ:PA X [] yG:=fun _ _ _ _ H Q I h=>Calls.spliced_nil ⟨[],H,I,.nil,h⟩
def bN (ha:PE X e te) (hr:PA X es t) (hs:autoParam (starEach (e::es) X.env=(false,eval e X.env)::starEach es X.env) ZR):PA X (e::es) (eO te t):=by
 intro pos pins s σ H Q I h;rw [hs];show wpAny _ _ (spliced ((false,eval e X.env)::backTo pos (starEach es X.env))) _ _ s;refine Calls.spliced_cons (thn (ha pins s σ H _ I h) fun u s1 ⟨x,H1,I1,r1,q1⟩=>?_);exact thn (hr pos pins s1 σ H1 _ I1 q1) fun us s2 ⟨xs,H2,I2,r2,q2⟩=>⟨x::xs,H2,I2,.cons r1 r2,q2⟩
def bO6 (t:TA):TE:=fun σ H Q=>t σ H fun xs H1=>xs.length<=sizeLine/\∀ p,H1 p=none->Q (.ref p) (upd H1 p (.tup xs))
def cY0 (t:TA):TE:=fun σ H Q=>t σ H fun xs H1=>xs.length<=sizeLine/\∀ p,H1 p=none->Q (.ref p) (upd H1 p (.lst xs))
def aD8 {x1} (h:PA X es t):PE X (.Tuple es x1 pos) (bO6 t):=by
 intro pins s σ H Q I hq;refine wpAny_Tuple_spliced (thn (h pos pins s σ H _ I hq) fun us s1 ⟨xs,H1,I1,r,z,q⟩=>⟨by rw [<- r.length];exact z,?_⟩);have hf:H1 s1.heap.objs.size=none:=I1.hok.fresh (Nat.le_refl _);refine ⟨.ref s1.heap.objs.size,upd H1 s1.heap.objs.size (.tup xs),I1.laid (t':=s1.toks) (fun b u e=>Heap.get?_push_of_some _ e) (Nat.le_refl _) ?_,rfl,q _ hf⟩;exact ⟨z,us,r,⟨_,Heap.get?_push_size _ rfl,rfl,⟨_,rfl⟩,rfl⟩⟩
def aD9 (h:PA X es t):PE X (.List es pos) (cY0 t):=by
 intro pins s σ H Q I hq;refine wpAny_List_spliced (thn (h pos pins s σ H _ I hq) fun us s1 ⟨xs,H1,I1,r,z,q⟩=>⟨by rw [<- r.length];exact z,?_⟩);have hf:H1 s1.heap.objs.size=none:=I1.hok.fresh (Nat.le_refl _);refine ⟨.ref s1.heap.objs.size,upd H1 s1.heap.objs.size (.lst xs),I1.laid (t':=s1.toks) (fun b u e=>Heap.get?_push_of_some _ e) (Nat.le_refl _) ?_,rfl,q _ hf⟩;exact ⟨z,us,0,r,Heap.get?_push_size _ rfl⟩
end
abbrev Sp:=List V->Hp->VK->XK->Prop
abbrev CXT:=List Env->Hp->Shared->XK->Value->Shared->Prop
structure Env0 (P:Program) (w:World) (K:Frag) (mg:Str->Option Value) (base:Heap) (A:Around) (outer:List Env) (s:Shared) (H:Hp):Prop where
 frames:A.frames=some outer
 mod:Mod K mg base
 bs:∀ b o,base.get? b=some o->s.heap.get? b=some o/\H b=none
 bsz:base.objs.size<=s.heap.objs.size
 funs:s.heap.FunFrames base outer
 frf:∀ b∈frs outer,H b=none
 hok:HOk P w H s.heap
 bare:AllBare s.gens
def CE (outer:List Env) (P:Program) (w:World) (H:Hp) (s:Shared) (Q:VK) (u:Value) (s':Shared):Prop :=
 ∃ v H',s'.os=s.os/\AllBare s'.gens/\Un (frs outer) [] H H' s.heap s'.heap/\HOk P w H' s'.heap/\RelV v u/\Q v H'
def CR (CX:CXT) (outer:List Env) (P:Program) (w:World) (H:Hp) (s:Shared) (Q:VK) (E:XK) (r:Result) (s':Shared):Prop :=
 match r with
 | .ok (.ret u)=>CE outer P w H s Q u s'
 | .ok _=>False
 | .error e=>CX outer H s E e s'
structure FnOk (P:Program) (w:World) (K:Frag) (mg:Str->Option Value) (base:Heap) (CX:CXT) (k:Nat) (f:Addr) (fd:FuncData) (ps:List Str) (sp:Sp):Prop where
 len:∀ vs H Q E,sp vs H Q E->vs.length=ps.length
 run:∀ (A:Around) (outer:List Env) (s:Shared) (H:Hp) (args:Args) (us:List Value) (vs:List V) (Q:VK) (E:XK),Room k A->Env0 P w K mg base A outer s H->BindsTo s fd args (ps.zip us)->Vals vs us->sp vs H Q E ->
  codeAny (model P w) A (.call (.ref f) args) (CR CX outer P w H s Q E) s
def Env0.make {P:Program} {w:World} {K:Frag} {mg:Str->Option Value} {base:Heap} {A:Around} {outer:List Env} {s:Shared} {H:Hp} (e:Env0 P w K mg base A outer s H) (C:Addr) (us:List Value) (kw:List (Str×Value)) :
  Env0 P w K mg base (A.under (.builtin "type.__call__" ⟨.ref C::us,kw⟩)) outer s H:=⟨by first | exact e.frames | (simpa [Around.under,Code.envs,Code.isFrame,pushEnvs] using e.frames),e.mod,e.bs,e.bsz,e.funs,e.frf,e.hok,e.bare⟩
section
variable {X:Cx} {pins:List (Addr×Obj)} {σ:St} {H:Hp} {s s':Shared}
def Inv.env0 (I:Inv X pins σ H s):Env0 X.prog X.w X.K X.mg X.base X.A X.stack s H :=
 ⟨I.ok.frames,I.ok.mod,I.bs,Nat.le_trans I.ok.bsz I.sz,I.stack,I.stkFree,I.hok,I.bare⟩
def Inv.after {Q:VK} {u:Value} (I:Inv X pins σ H s) (h:CE X.stack X.prog X.w H s Q u s'):EP X pins σ Q u s':=by
 obtain ⟨v,H',os,bare,un,hok,r,q⟩:=h;obtain ⟨hh,g,d,t,os'⟩:=s';obtain rfl:os'=s.os:=os;exact ⟨v,H',I.call (h':=hh) (g':=g) (d':=d) (t':=t) (ch:=[]) un hok bare (fun b z=>absurd z (by simp)),r,q⟩
end
def aE0 (sp:Sp) (dvs:List V) (E:XK) (t:TA):TE:=fun σ H Q=>t σ H fun vs H1=>sp (vs++dvs) H1 Q E
def Binds (K:Frag) (fd:FuncData) (ps:List Str) (ds:List Value):Prop :=
 ∀ (s:Shared) (us:List Value),K.In s.heap->(us++ds).length=ps.length->BindsTo s fd ⟨us,[]⟩ (ps.zip (us++ds))
def Binds.all {K:Frag} {fd:FuncData} {ps:List Str} (h:∀ us:List Value,us.length=ps.length->bindArgs fd ⟨us,[]⟩=pure (ps.zip us)):Binds K fd ps []:=fun s us _ hl=>by
 rw [List.append_nil] at hl ⊢;exact .of_eq (h us hl)
def uS (CX:CXT) (X:Cx) (E:XK):Prop:=∀ (pins:List (Addr×Obj)) (σ:St) (H:Hp) (s:Shared) (e:Value) (s':Shared),Inv X pins σ H s->CX X.stack H s E e s'->X.xe e s'
section
variable {X:Cx} {CX:CXT} {k:Nat} {f C:Addr} {fd:FuncData} {ps:List Str} {sp:Sp} {dvs:List V} {ds:List Value} {E:XK} {x m:Str} {p pos apos:Pos} {e o:Expr} {es:List Expr} {ta:TE} {t:TA}
def bO7 {pins:List (Addr×Obj)} {σ:St} {H:Hp} {s:Shared} {Q:VK} {us:List Value} {vs:List V} (F:FnOk X.prog X.w X.K X.mg X.base CX k f fd ps sp) (hr:Room k X.A) (hb:Binds X.K fd ps ds) (hd:Vals dvs ds) (hx:uS CX X E)
  (I:Inv X pins σ H s) (r:Vals vs us) (h:sp (vs++dvs) H Q E):wpAny (model X.prog X.w) X.A (call (.ref f) us) (EP X pins σ Q) X.xe s:=by
 have r2:Vals (vs++dvs) (us++ds):=r.append hd;have hl:(us++ds).length=ps.length:=by rw [<- r2.length];exact F.len _ _ _ _ h
 refine wpAny_call (codeAny_mono (F.run X.A X.stack s H ⟨us,[]⟩ (us++ds) (vs++dvs) Q E hr I.env0 (hb s us I.kIn hl) r2 h) fun r s' hq=>?_);cases r with
 | error e=>exact hx pins σ H s e s' I hq
 | ok fl =>
  cases fl with
  | ret u=>exact I.after hq
  | next=>exact False.elim hq
  | brk=>exact False.elim hq
  | cont=>exact False.elim hq
def wO (F:FnOk X.prog X.w X.K X.mg X.base CX k f fd ps sp) (hr:Room k X.A) (hg:Gl X x) (hm:X.mg x=some (.ref f)) (hk:PySem.W.keepIn X.K (.ref f)=true) (hb:Binds X.K fd ps ds) (hd:Vals dvs ds) (hx:uS CX X E)
  (ha:PA X (e::es) t) (hdb:autoParam ((x==("__debug__":Str))=false) ZD) (he:autoParam (starEach (e::es) X.env=(false,eval e X.env)::starEach es X.env) ZR) (hpl:autoParam ((backTo pos (starEach es X.env)).any (·.1)=false) ZR) :
  PE X (.Call (.Name x p) (e::es) [] pos) (aE0 sp dvs E t):=by
 intro pins s σ H Q I h;refine wpAny_Call_Name_kw (gU I hg hm ?_ hdb);refine PySem.W.callWith_K (h₀:=X.base) I.ok.mod.kin hk (thn (ha pos pins s σ H _ I h) fun us s1 ⟨vs,H1,I1,r,q⟩=>⟨I1.kIn,?_⟩) he hpl;exact bO7 F hr hb hd hx I1 r q
structure Mk (K:Frag) (C f:Addr):Prop where
 makes:PySem.W.makesIn K C=true
 init:PySem.W.findIn K (.ref C) "__init__"=some (some (.ref f))
 fn:PySem.W.isFn K (.ref f)=true
 kp:PySem.W.keepIn K (.ref C)=true
end
section
variable {X:Cx} {CX:CXT} {k:Nat} {f C:Addr} {fd:FuncData} {ps ks:List Str} {sp:Sp} {E:XK} {x m:Str} {p pos apos kpos:Pos} {e o:Expr} {es:List Expr} {kws:List Keyword} {te ta:TE} {t tk:TA} {nm:Option Str}
variable {g:List Value->List Value->List Value} {gV:List V->List V->List V}
end
structure FnScope (N P:List Str) (sc:Scope):Prop where
 kind:sc.kind=.function
 co:sc.isCoroutine=false
 gen:sc.isGenerator=false
 nd:N.Nodup
 pre:N.take P.length=P
 par:∀ x∈P,sc.names.lookup x=some .local\/sc.names.lookup x=some .cell
 nofree:∀ y∈sc.names,y.2≠.free
theorem oQ {kindOf:Str->Option NameKind} {x:Str}:∀ {binds:List (Str×Value)} {m:Str->Option Value},(∀ v,(x,v)∉binds)->bindL kindOf binds m x=m x
 | [],_,_=>rfl
 | (n,v)::r,m,h=>by
  unfold bindL;rw [oQ fun w hw=>h w (List.mem_cons_of_mem _ hw)];split
  ·have:x≠n:=by rintro rfl;exact h v List.mem_cons_self
   simp [this]
  ·rfl
theorem oR {kindOf:Str->Option NameKind} {x:Str}:∀ {binds:List (Str×Value)} {m:Str->Option Value},(∀ v,(x,v)∉binds)->bindC kindOf binds m x=m x
 | [],_,_=>rfl
 | (n,v)::r,m,h=>by
  unfold bindC;rw [oR fun w hw=>h w (List.mem_cons_of_mem _ hw)];split
  ·rfl
  ·have:x≠n:=by rintro rfl;exact h v List.mem_cons_self
   simp [this]
theorem oT {kindOf:Str->Option NameKind} {x:Str} {v:Value}:∀ {P:List Str} {vs:List Value} {i:Nat} {m:Str->Option Value},P.Nodup->P[i]?=some x->vs[i]?=some v->kindOf x=some .local ->
  bindL kindOf (P.zip vs) m x=some v
 | [],_,_,_,_,h,_,_=>by simp at h
 | _::_,[],_,_,_,_,h,_=>by simp at h
 | p::P,w::vs,0,m,nd,h1,h2,hk=>by
  simp at h1 h2;subst h1;subst h2;show bindL kindOf ((p,w)::P.zip vs) m p=_;unfold bindL;rw [oQ fun v hv=>(List.nodup_cons.mp nd).1 (List.of_mem_zip hv).1,if_pos hk];simp
 | p::P,w::vs,i+1,m,nd,h1,h2,hk=>by
  show bindL kindOf ((p,w)::P.zip vs) m x=_;unfold bindL;exact oT (i:=i) (List.nodup_cons.mp nd).2 (by simpa using h1) (by simpa using h2) hk
theorem oU {kindOf:Str->Option NameKind} {x:Str} {v:Value}:∀ {P:List Str} {vs:List Value} {i:Nat} {m:Str->Option Value},P.Nodup->P[i]?=some x->vs[i]?=some v->kindOf x≠some .local ->
  bindC kindOf (P.zip vs) m x=some v
 | [],_,_,_,_,h,_,_=>by simp at h
 | _::_,[],_,_,_,_,h,_=>by simp at h
 | p::P,w::vs,0,m,nd,h1,h2,hk=>by
  simp at h1 h2;subst h1;subst h2;show bindC kindOf ((p,w)::P.zip vs) m p=_;unfold bindC;rw [oR fun v hv=>(List.nodup_cons.mp nd).1 (List.of_mem_zip hv).1,if_neg hk];simp
 | p::P,w::vs,i+1,m,nd,h1,h2,hk=>by
  show bindC kindOf ((p,w)::P.zip vs) m x=_;unfold bindC;exact oU (i:=i) (List.nodup_cons.mp nd).2 (by simpa using h1) (by simpa using h2) hk
noncomputable def start (N:List Str) (vs:List V):St:=vs.map some++List.replicate (N.length - vs.length) none
noncomputable def gB (CX:CXT) (P:Program) (w:World) (K:Frag) (mg:Str->Option Value) (base:Heap) (N:List Str) (qual:Str) (scope:Scope) (f:Addr) (cd:Value) (A:Around) (outer:List Env) (s:Shared) (H:Hp) (E:XK):Cx where
 prog:=P
 w:=w
 K:=K
 mg:=mg
 base:=base
 A:=A.deeper (envOfC qual scope s.heap.objs.size f cd)
 N:=N
 s₀:=s
 H₀:=H
 env:=envOfC qual scope s.heap.objs.size f cd
 outer:=outer
 stack:=envOfC qual scope s.heap.objs.size f cd::outer
 ex:=[]
 calm:=true
 fn:=fun _=>true
 pn:=[]
 xe:=fun e s'=>wpAny (model P w) (A.deeper (envOfC qual scope s.heap.objs.size f cd)) (leaving (envOfC qual scope s.heap.objs.size f cd) e) (fun _ s''=>CX outer H s E e s'') (fun e' s''=>CX outer H s E e' s'') s'
def rO {sc:Scope} {n:Nat} {x:Str} (h:sc.names.lookup x=some .cell):∃ c,(cellsFrom n sc.names []).lookup x=some c:=by
 have q:=PySem.W.cellsFrom_some sc.names n [] (.inl h);exact Option.isSome_iff_exists.mp q
def yH {CX:CXT} {P:Program} {w:World} {K:Frag} {mg:Str->Option Value} {base:Heap} {N ps:List Str} {qual:Str} {scope:Scope} {f:Addr} {cd:Value} {A:Around} {outer:List Env} {s s1:Shared} {H:Hp} {E:XK} {us:List Value} {vs:List V}
  (S:FnScope N ps scope) (hd:A.handled=none) (e0:Env0 P w K mg base A outer s H) (hl:vs.length=ps.length) (r:Vals vs us)
  (x:InCallC s s.heap.objs.size (bindL (envOfC qual scope s.heap.objs.size f cd).kindOf (ps.zip us) fun _=>none) (cellsFrom (s.heap.objs.size+1) scope.names []) (bindC (envOfC qual scope s.heap.objs.size f cd).kindOf (ps.zip us) fun _=>none) s1) :
  Inv (gB CX P w K mg base N qual scope f cd A outer s H E) [] (start N vs) H s1:=by
 have hpl:ps.length<=N.length:=by have:=congrArg List.length S.pre;rw [List.length_take] at this;omega
 obtain ⟨h1,tk,rfl,hk⟩:=x.done;have noA:∀ b:Addr,b∉(gB CX P w K mg base N qual scope f cd A outer s H E).ex:=fun b z=>absurd (show b∈([]:List Addr) from z) (by simp);refine ⟨⟨e0.mod,S.kind,rfl,rfl,Nat.le_refl _,fun y z c h1 h2=>?_,fun y hy=>?_,fun y c _ h=>?_,fun _=>hd,Around.frames_deeper e0.frames,.inr ⟨rfl,rfl⟩,fun b z=>absurd z (noA b),e0.bs,e0.bsz,fun b _ _=>noA b,fun b z=>absurd z (noA b),e0.funs,e0.frf⟩,
  rfl,e0.bare,Un.kept hk,⟨_,x.toInCall.ns,fun i y v h1 h2 h3=>?_⟩,fun y c h=>⟨_,x.cell y c h⟩,e0.hok.fresh (Nat.le_refl _),fun y c h=>?_,fun p hp=>absurd (show p∈([]:List (Addr×Obj)) from hp) (by simp),e0.hok.kept hk,?_⟩
 ·exact name_of_addr x.apart (PySem.mem_of_lookup h1) (PySem.mem_of_lookup h2)
 ·have hy:scope.names.lookup y=some .cell\/scope.names.lookup y=some .free:=hy;rcases hy with hy | hy
  ·exact rO hy
  ·exact absurd rfl (S.nofree _ (PySem.mem_of_lookup hy))
 ·exact Nat.le_of_lt (x.above y c (PySem.mem_of_lookup h))
 ·have hi:i < vs.length:=by
   unfold start at h2
   by_cases hi:i < vs.length
   ·exact hi
   ·rw [List.getElem?_append_right (by simpa using hi)] at h2;rw [List.getElem?_replicate] at h2;split at h2<;>cases h2
  have ha:vs[i]?=some v:=by
   unfold start at h2;rw [List.getElem?_append_left (by simpa using hi),List.getElem?_map] at h2;cases e:vs[i]? with
   | none=>rw [e] at h2;cases h2
   | some a=>rw [e] at h2;cases h2;rfl
  obtain ⟨u,hu,rv⟩:=r.get ha;have hp:ps[i]?=some y:=by
   rw [<- S.pre,List.getElem?_take_of_lt (by omega)];exact h1
  have ndP:ps.Nodup:=by rw [<- S.pre];exact S.nd.sublist (List.take_sublist _ _)
  refine ⟨u,rv,?_⟩;rcases S.par y (List.mem_of_getElem? hp) with k | k
  ·exact .inl ⟨k,oT ndP hp hu k⟩
  ·obtain ⟨c,e⟩:=rO (n:=s.heap.objs.size+1) k;refine .inr ⟨.inl k,c,e,?_⟩;have q:=x.cell y c e;rw [oU ndP hp hu (by show scope.names.lookup y≠_;rw [k];decide)] at q;exact q
 ·exact e0.hok.fresh (Nat.le_of_lt (x.above y c (PySem.mem_of_lookup h)))
 ·unfold start;show _=N.length;rw [List.length_append,List.length_map,List.length_replicate];omega
def aE1 {CX:CXT} {P:Program} {w:World} {K:Frag} {mg:Str->Option Value} {base:Heap} {k:Nat} {f:Addr} {name qual:Str} {params:Arguments} {body:List Stmt} {scope:Scope} {dV kV doc pm cdv ct oc:Value} {an od:Option Addr}
  {osl:Array (Option Value)} {N ps:List Str} {sp:Sp} (lk:K.lookup f=some ⟨oc,od,.func (PySem.W.fnOf name qual params body scope dV kV doc pm an cdv ct),osl⟩) (hcd:PySem.W.codeIn K cdv qual=true) (S:FnScope N ps scope)
  (len:∀ vs H Q E,sp vs H Q E->vs.length=ps.length)
  (hbody:∀ (A:Around) (outer:List Env) (s:Shared) (H:Hp) (vs:List V) (Q:VK) (E:XK),Room k (A.deeper (envOfC qual scope s.heap.objs.size f cdv))->sp vs H Q E ->
   ∃ t,PSs (gB CX P w K mg base N qual scope f cdv A outer s H E) body t/\t { nx:=fun _ H'=>Q .non H',rt:=Q } (start N vs) H) :
  FnOk P w K mg base CX (k+1) f (PySem.W.fnOf name qual params body scope dV kV doc pm an cdv ct) ps sp:=by
 refine ⟨len,fun A outer s H args us vs Q E hr e0 hb r hsp=>?_⟩;have hl:=len _ _ _ _ hsp;have KX:K.In s.heap:=e0.mod.kin.keeps fun b o e=>(e0.bs b o e).1;have lim:s.heap.NoLimit:=e0.mod.nolimit.keeps fun b o e=>(e0.bs b o e).1;have hkind:∀ y∈ps.zip us,scope.names.lookup y.1=some .local\/(scope.names.lookup y.1=some .cell/\((cellsFrom (s.heap.objs.size+1) scope.names []).lookup y.1).isSome=true):=fun ⟨n,v⟩ hy=>by
  rcases S.par n (List.of_mem_zip hy).1 with q | q
  ·exact .inl q
  ·exact .inr ⟨q,PySem.W.cellsFrom_some _ _ _ (.inl q)⟩
 refine codeAny_call_function hr.depth (KX _ _ lk) rfl S.co S.gen rfl (PySem.W.codeRec_of KX hcd) (hb _ _ _ _ ?_);refine wpAny_newFunctionEnv_cells S.kind hkind fun env he s1 x=>?_;subst he;refine ⟨lim.keeps x.toInCall.keep,codeAny_func ?_⟩;obtain ⟨t,ht,hq⟩:=hbody A outer s H vs Q E (hr.deeper _) hsp;have I:Inv (gB CX P w K mg base N qual scope f cdv A outer s H E) [] (start N vs) H s1:=yH S hr.hd e0 hl r x;refine wpAny_mono (ht [] s1 (start N vs) H _ I hq) (fun fl s' hs=>?_) fun e s' hs=>hs;have fin:∀ {σ':St} {H':Hp} {v:V} {u:Value},Inv (gB CX P w K mg base N qual scope f cdv A outer s H E) [] σ' H' s'->RelV v u->Q v H'->CE outer P w H s Q u s' :=
  fun {σ' H' v u} J rv q=>⟨v,H',J.os,J.bare,J.base,J.hok,rv,q⟩
 cases fl with
 | ret u =>
  obtain ⟨v,σ',H',J,rv,q⟩:=hs;exact fin J rv q
 | next =>
  obtain ⟨σ',H',J,q⟩:=hs;exact fin (v:=V.non) (u:=Value.none) J rfl q
 | brk =>
  obtain ⟨_,_,_,q⟩:=hs;exact False.elim q
 | cont =>
  obtain ⟨_,_,_,q⟩:=hs;exact False.elim q
section
variable {X:Cx} {x:Str} {p pos:Pos} {e:Expr} {es:List Expr} {t:TA} {id T:String} {r:List V->Hp->VK->Prop}
def tCB (r:List V->Hp->VK->Prop) (t:TA):TE:=fun σ H Q=>t σ H fun vs H1=>r vs H1 Q
def iV (hc:bZ X (.builtin id) r) (hg:Gl X x) (hm:X.mg x=none) (hv:bootBuiltins x=some (.builtin id)) (ha:PA X (e::es) t) (hn:autoParam (x≠"__name__") ZD) (hdb:autoParam ((x==("__debug__":Str))=false) ZD)
  (he:autoParam (starEach (e::es) X.env=(false,eval e X.env)::starEach es X.env) ZR) (hpl:autoParam ((backTo pos (starEach es X.env)).any (·.1)=false) ZR):PE X (.Call (.Name x p) (e::es) [] pos) (tCB r t):=by
 intro pins s σ H Q I h;refine wpAny_Call_Name_kw (iI I hg hm hv ?_ hn hdb);exact PyProof.Rows.callWith_builtin1 (thn (ha pos pins s σ H _ I h) fun us s1 ⟨vs,H1,I1,r1,q1⟩=>hc pins s1 σ H1 vs us Q I1 r1 q1) he hpl
def jL (hc:bZ X (.type T) r) (hg:Gl X x) (hm:X.mg x=none) (hv:bootBuiltins x=some (.type T)) (ha:PA X (e::es) t) (hn:autoParam (x≠"__name__") ZD) (hdb:autoParam ((x==("__debug__":Str))=false) ZD)
  (he:autoParam (starEach (e::es) X.env=(false,eval e X.env)::starEach es X.env) ZR) (hpl:autoParam ((backTo pos (starEach es X.env)).any (·.1)=false) ZR):PE X (.Call (.Name x p) (e::es) [] pos) (tCB r t):=by
 intro pins s σ H Q I h;refine wpAny_Call_Name_kw (iI I hg hm hv ?_ hn hdb);exact PyProof.Rows.callWith_type1 (thn (ha pos pins s σ H _ I h) fun us s1 ⟨vs,H1,I1,r1,q1⟩=>hc pins s1 σ H1 vs us Q I1 r1 q1) he hpl
end
end L2
namespace HT
open PySem PyProof.Rows
section
open PySem.SeqAt
open PySem.AutoSeq1 (wpAny_loadPart')
open PySem.MeetsSeq PySem.MeetsSeq2 PySem.MeetsSeq3
end
section
variable {prog:Program} {w:World} {A:Around} {E:Value->Shared->Prop} {s:Shared}
def cat_tup {t b:Addr} {vs ws:List Value} {Q:Value->Shared->Prop} (ht:IsTup s.heap t vs.toArray) (hb:IsTup s.heap b ws.toArray) (hv:vs≠[])
  (h1:ws=[]->Q (.ref t) s) (h2:ws≠[]->Q (.ref s.heap.objs.size) { s with heap:=s.heap.push { cls:=.type "tuple",data:=.seq (vs++ws).toArray } })
  (hsz:vs.length+ws.length<=sizeLine):wpAny (model prog w) A (binaryOp .Add (.ref t) (.ref b)) Q E s:=by
 obtain ⟨⟨cls,dd,data,sl⟩,ho,hc,n,hd⟩:=id ht;obtain ⟨⟨cls2,dd2,data2,sl2⟩,ho2,hc2,n2,hd2⟩:=id hb;simp only at hc hd hc2 hd2;subst hc hd hc2 hd2;have e:vs.toArray++ws.toArray=(vs++ws).toArray:=by simp
 by_cases hw:ws=[]
 ·exact concat_meets ⟨_,ho,rfl⟩ ⟨_,ho2,rfl⟩ noFill_tuple_add seq_tuple_add PySem.F.slot_tuple_add PySem.F.entry_tuple_add (PySem.F.args_tuple_add_2 _ _)
   (tuple_addW1 t b vs.toArray ws.toArray n n2 dd dd2 sl sl2 (by simpa using hv) (by simp [hw])) ⟨ho,ho2,h1 hw⟩
 ·refine concat_meets ⟨_,ho,rfl⟩ ⟨_,ho2,rfl⟩ noFill_tuple_add seq_tuple_add PySem.F.slot_tuple_add PySem.F.entry_tuple_add (PySem.F.args_tuple_add_2 _ _)
   (tuple_addW2 t b vs.toArray ws.toArray n n2 dd dd2 sl sl2 (by simpa using hv) (by simpa using hw) (by rw [List.size_toArray,List.size_toArray];exact hsz)) ⟨ho,ho2,?_⟩
  rw [e];exact h2 hw
noncomputable def sIx (n d:Nat):Option Int->Nat
 | none=>d
 | some v=>if v < 0 then (v+(n:Int)).toNat else min v.toNat n
def bO8 (n d:Nat) (hd:d<=n) (o:Option Int):sIx n d o<=n:=by
 cases o with
 | none=>exact hd
 | some v =>
  show (if v < 0 then (v+(n:Int)).toNat else min v.toNat n)<=n
  by_cases hv:v < 0
  ·rw [if_pos hv];omega
  ·rw [if_neg hv];exact Nat.min_le_right _ _
def wP (v:Int) (n d:Nat):(if v < 0 then max (v+(n:Int)) 0 else min v (n:Int))=((sIx n d (some v):Nat):Int):=by
 show (if v < 0 then max (v+(n:Int)) 0 else min v (n:Int))=(((if v < 0 then (v+(n:Int)).toNat else min v.toNat n):Nat):Int)
 by_cases hv:v < 0
 ·simp only [if_pos hv];omega
 ·simp only [if_neg hv];omega
def uT (lo hi:Option Int) (n:Nat):Builtin.Slice.sliceAdjust lo hi 1 (n:Int)=(((sIx n 0 lo:Nat):Int),((sIx n n hi:Nat):Int)):=by
 have h1:¬ ((1:Int) < 0):=by omega
 unfold Builtin.Slice.sliceAdjust;simp only [h1,if_false];refine Prod.ext ?_ ?_
 ·cases lo with
  | none=>rfl
  | some v=>exact wP v n 0
 ·cases hi with
  | none=>rfl
  | some v=>exact wP v n n
def uU (i j:Nat):Builtin.Slice.slicePlaces (i:Int) (j:Int) 1=j - i:=by
 unfold Builtin.Slice.slicePlaces;have h1:(1:Int) > 0:=by omega
 simp only [h1,if_true,Int.ediv_one];split<;>omega
def lS {v:Value} {o:Option Int} {Q:Option Int->Shared->Prop} (p:IsPart v o) (h:Q o s):wpAny (model prog w) A (Builtin.Slice.slicePartIndex v) Q E s:=by
 cases p with
 | none=>exact slicePart_none h
 | int i t=>exact slicePart_int h
def sliceApplied_gen {sl:Addr} {vl vu:Value} {lo hi:Option Int} {n:Nat} {Q:Int×Int×Nat->Shared->Prop} (hs:s.heap.IsSliceOf sl vl vu .none) (pl:IsPart vl lo) (pu:IsPart vu hi)
  (h:Q (((sIx n 0 lo:Nat):Int),1,sIx n n hi - sIx n 0 lo) s):wpAny (model prog w) A (Builtin.Slice.sliceApplied (.ref sl) (pure (n:Int))) Q E s:=by
 obtain ⟨os,hos,hcs,hds⟩:=id hs;unfold Builtin.Slice.sliceApplied Builtin.Slice.sliceFields;refine wpAny_bind (wpAny_bind (wpAny_field hos hds (x:=vl) rfl (wpAny_bind (wpAny_field hos hds (x:=vu) rfl (wpAny_bind (wpAny_field hos hds (x:=.none) rfl (wpAny_pure ?_)))))));refine wpAny_bind (slicePart_none ?_);show wpAny _ _ (if ((1:Int)==0)=true then _ else _) _ _ s;rw [if_neg (by decide)];refine wpAny_bind (lS pl (wpAny_bind (lS pu (wpAny_bind (wpAny_pure ?_)))));show wpAny _ _ (match Builtin.Slice.sliceAdjust lo hi 1 (n:Int) with | (lo,hi)=>pure (lo,(1:Int),Builtin.Slice.slicePlaces lo hi 1)) _ _ s;rw [uT lo hi n];show wpAny _ _ (pure (((sIx n 0 lo:Nat):Int),(1:Int),Builtin.Slice.slicePlaces ((sIx n 0 lo:Nat):Int) ((sIx n n hi:Nat):Int) 1)) _ _ s;rw [uU];exact wpAny_pure h
def aE2 (xs:Array Value) (i k:Nat):((List.range k).filterMap fun (m:Nat)=>xs[((i:Int)+(m:Int)*1).toNat]?).toArray=((xs.toList.drop i).take k).toArray:=by
 have e:(fun (m:Nat)=>xs[((i:Int)+(m:Int)*1).toNat]?)=fun m=>xs[i+m]?:=by
  funext m
  have:((i:Int)+(m:Int)*1).toNat=i+m:=by omega
  rw [this]
 rw [e];have:=pick_run xs i k;rw [List.filterMap_map] at this;have e2:((fun x=>xs[x]?) ∘ fun x=>i+x)=fun m=>xs[i+m]?:=rfl;rw [e2] at this;rw [this]
def getItem_tuple_cut {t sl:Addr} {items:Array Value} {vl vu:Value} {lo hi:Option Int} {Q:Value->Shared->Prop} (ht:IsTup s.heap t items) (hs:s.heap.IsSliceOf sl vl vu .none) (pl:IsPart vl lo) (pu:IsPart vu hi)
  (hw:¬ (sIx items.size 0 lo=0/\sIx items.size items.size hi=items.size))
  (h:Q (.ref s.heap.objs.size) { s with heap:=s.heap.push { cls:=.type "tuple",data:=.seq ((items.toList.drop (sIx items.size 0 lo)).take (sIx items.size items.size hi - sIx items.size 0 lo)).toArray } })
  (hsz:items.size<=sizeLine):wpAny (model prog w) A (getItem (.ref t) (.ref sl)) Q E s:=by
 have htake:sizeOk (.seq ((items.toList.drop (sIx items.size 0 lo)).take (sIx items.size items.size hi - sIx items.size 0 lo)).toArray):=by
  show ((items.toList.drop (sIx items.size 0 lo)).take (sIx items.size items.size hi - sIx items.size 0 lo)).toArray.size<=sizeLine;rw [List.size_toArray,List.length_take,List.length_drop,Array.length_toList];omega
 have hj:sIx items.size items.size hi<=items.size:=bO8 _ _ (Nat.le_refl _) hi;obtain ⟨os,hos,hcs,hds⟩:=id hs;have hTs:s.TypeIs (.ref sl) "slice":=⟨os,hos,hcs⟩;unfold getItem;try with_reducible refine wpAny_holding ?_
 first | refine wpAny_bind (wpAny_pure ?_) | skip
 refine wpAny_bind (wpAny_sequenceKey ht.typeIs (by decide) ?_);refine wpAny_bind (wpAny_callSpecial?_slot (name:=Str.ofString "__getitem__") ht.typeIs PyProof.Rows.slot_tuple_getitem
  (wpAny_call_entry PyProof.Rows.slot_tuple_getitem ht.typeIs entry_tuple_getitem ?_ (args_tuple_getitem _ _)))
 show wpAny _ _ (Builtin.Tuple.tupleItemsOf (.ref t) >>= _) _ _ s;refine wpAny_bind (tupleItemsOf_ ht ?_);refine wpAny_bind (wpAny_typeOf hTs ?_);rw [if_pos (by decide)];refine wpAny_bind (sliceApplied_gen hs pl pu ?_);have hno:¬ ((((sIx items.size 0 lo:Nat):Int)==0&&(1:Int)==1&&(sIx items.size items.size hi - sIx items.size 0 lo)==items.size)=true):=by
  intro q;rw [Bool.and_eq_true,Bool.and_eq_true] at q;have q1:((sIx items.size 0 lo:Nat):Int)=0:=eq_of_beq q.1.1;have q2:sIx items.size items.size hi - sIx items.size 0 lo=items.size:=eq_of_beq q.2;exact hw ⟨by omega,by omega⟩
 show wpAny _ _ (if (((sIx items.size 0 lo:Nat):Int)==0&&(1:Int)==1&&(sIx items.size items.size hi - sIx items.size 0 lo)==items.size)=true then _ else _) _ _ s;rw [if_neg hno,aE2]
 first
  | exact wpAny_bind (m:=Builtin.Tuple.tupleExact _) (wpAny_newObj_type (wpAny_pure ⟨_,rfl,wpAny_pure h⟩) htake)
  | exact wpAny_bind (m:=Builtin.Tuple.tupleExact _) (wpAny_newObj_type (wpAny_bind (wpAny_pure (wpAny_pure ⟨_,rfl,wpAny_pure h⟩))) htake)
  | exact wpAny_bind (wpAny_bind (m:=Builtin.Tuple.tupleExact _) (wpAny_newObj_type (wpAny_pure (wpAny_pure ⟨_,rfl,wpAny_pure h⟩)) htake))
  | exact wpAny_bind (wpAny_bind (m:=Builtin.Tuple.tupleExact _) (wpAny_newObj_type (wpAny_pure ⟨_,rfl,wpAny_pure h⟩) htake))
end
end HT
namespace L2
open PySem PySem.Spec PyProof.Rows
abbrev TO:=St->Hp->(Option Int->Hp->Prop)->Prop
def PO (X:Cx) (e:Option Expr) (t:TO):Prop :=
 ∀ (pins:List (Addr×Obj)) (s:Shared) (σ:St) (H:Hp) (Q:Option Int->Hp->Prop),Inv X pins σ H s->t σ H Q ->
  wpAny (model X.prog X.w) X.A (evalPart e X.env) (fun u s'=>∃ o H',Inv X pins σ H' s'/\IsPart u o/\Q o H') X.xe s
noncomputable def aR5:TO:=fun _ H Q=>Q none H
noncomputable def cJ1 (t:TE):TO:=fun σ H Q=>t σ H fun x H1=>∃ i,x=.int i/\Q (some i) H1
section
variable {X:Cx} {e:Expr} {te:TE} {lo hi:Option Expr} {tl th:TO} {pos p2:Pos}
def aR6:PO X none aR5:=by
 intro pins s σ H Q I h;rw [evalPart_none];exact wpAny_pure ⟨none,H,I,.none,h⟩
def aR7 (h:PE X e te):PO X (some e) (cJ1 te):=by
 intro pins s σ H Q I hw;rw [evalPart_some];refine thn (h pins s σ H _ I hw) fun u s1 ⟨x,H1,I1,r1,q1⟩=>?_;obtain ⟨i,rfl,q⟩:=q1;obtain ⟨t,rfl⟩:=r1;exact ⟨some i,H1,I1,.int i t,q⟩
def SlR (X:Cx) (r:V->Option Int->Option Int->Hp->VK->Prop):Prop :=
 ∀ (pins:List (Addr×Obj)) (s:Shared) (σ:St) (H:Hp) (x:V) (v vl vu:Value) (lo hi:Option Int) (sl:Addr) (Q:VK),Inv X pins σ H s->RelV x v->s.heap.IsSliceOf sl vl vu .none->IsPart vl lo->IsPart vu hi->r x lo hi H Q ->
  ∃ T id,typeLookup (.type T) "__getitem__"=pure (some (.builtin id))/\s.TypeIs v T/\wpAny (model X.prog X.w) X.A (getItem v (.ref sl)) (EP X pins σ Q) X.xe s
def SlR.or {r r':V->Option Int->Option Int->Hp->VK->Prop} (h:SlR X r) (h':SlR X r'):SlR X (fun x lo hi H Q=>r x lo hi H Q\/r' x lo hi H Q):=by
 intro pins s σ H x v vl vu lo hi sl Q I rx hs pl pu q;rcases q with q | q
 ·exact h pins s σ H x v vl vu lo hi sl Q I rx hs pl pu q
 ·exact h' pins s σ H x v vl vu lo hi sl Q I rx hs pl pu q
def tSl (r:V->Option Int->Option Int->Hp->VK->Prop) (te:TE) (tl th:TO):TE:=fun σ H Q=>te σ H fun x H1=>tl σ H1 fun l H2=>th σ H2 fun u H3=>r x l u H3 Q
def rP {r:V->Option Int->Option Int->Hp->VK->Prop} (hr:SlR X r) (he:PE X e te) (hl:PO X lo tl) (hu:PO X hi th):PE X (.Subscript e (.Slice lo hi none p2) pos) (tSl r te tl th):=by
 intro pins s σ H Q I h;refine Subscript_ (thn (he pins s σ H _ I h) fun v s1 ⟨x,H1,I1,r1,q1⟩=>?_);refine wpAny_Slice (thn (hl pins s1 σ H1 _ I1 q1) fun vl s2 ⟨l,H2,I2,pl,q2⟩=>thn (hu pins s2 σ H2 _ I2 q2) fun vu s3 ⟨u,H3,I3,pu,q3⟩=>?_);rw [evalPart_none];refine wpAny_pure ?_;have I4:Inv X pins σ H3 { s3 with heap:=s3.heap.push { cls:=.type "slice",data:=.fields #[vl,vu,.none] } }:=I3.kept (t':=s3.toks) fun b ob q=>Heap.get?_push_of_some _ q;obtain ⟨T,id,hT,ht,hg⟩:=hr pins { s3 with heap:=s3.heap.push { cls:=.type "slice",data:=.fields #[vl,vu,.none] } } σ H3 x v vl vu l u s3.heap.objs.size Q I4 r1 (Heap.IsSliceOf.new ..) pl pu q3;show wpAny (model X.prog X.w) X.A (subscriptTail e (.Slice lo hi none p2) v (.ref s3.heap.objs.size)) (EP X pins σ Q) X.xe { s3 with heap:=s3.heap.push { cls:=.type "slice",data:=.fields #[vl,vu,.none] } };exact tail_any (ops:=[.ref s3.heap.objs.size,v]) ht hT hg (by with_unfolding_all rfl)
noncomputable def rQ (xs:List V) (lo hi:Option Int):List V:=(xs.drop (HT.sIx xs.length 0 lo)).take (HT.sIx xs.length xs.length hi - HT.sIx xs.length 0 lo)
def kJ (xs:List V) (lo hi:Option Int):(rQ xs lo hi).length<=xs.length:=by
 unfold rQ;rw [List.length_take,List.length_drop];omega
noncomputable def cY1 (K:Frag):V->Option Int->Option Int->Hp->VK->Prop:=fun x lo hi H Q=>∃ a xs,x=.ref a/\SqT K H a xs /\
 ¬ (HT.sIx xs.length 0 lo=0/\HT.sIx xs.length xs.length hi=xs.length)/\∀ p,H p=none->Q (.ref p) (upd H p (.tup (rQ xs lo hi)))
def sl_tup:SlR X (cY1 X.K):=by
 intro pins s σ H x v vl vu lo hi sl Q I rx hs pl pu h;obtain ⟨a,xs,rfl,hx,hw,q⟩:=h;cases rx;obtain ⟨its,r,ht,hz⟩:=I.tuple hx;have hlen:its.toArray.size=xs.length:=by rw [List.size_toArray];exact r.length.symm
 refine ⟨"tuple",_,PyProof.Rows.slot_tuple_getitem.lookup,ht.typeIs,?_⟩;refine HT.getItem_tuple_cut ht hs pl pu (by rw [hlen];exact hw) ?_ (by rw [hlen];exact hz);rw [hlen];refine ⟨.ref s.heap.objs.size,_,I.laid (t':=s.toks) (o:=.tup (rQ xs lo hi)) (fun b ob q=>Heap.get?_push_of_some _ q) (Nat.le_refl _) ?_,rfl,q _ (I.hok.fresh (Nat.le_refl _))⟩;exact ⟨Nat.le_trans (kJ xs lo hi) hz,_,(r.drop (HT.sIx xs.length 0 lo)).take (HT.sIx xs.length xs.length hi - HT.sIx xs.length 0 lo),IsTupD.new _ _⟩
noncomputable def cJ2 (K:Frag):R2:=fun x y H Q=>∃ a b xs ys,x=.ref a/\y=.ref b/\SqT K H a xs/\SqT K H b ys/\xs≠[]/\xs.length+ys.length<=sizeLine /\
 (ys=[]->Q (.ref a) H)/\(ys≠[]->∀ p,H p=none->Q (.ref p) (upd H p (.tup (xs++ys))))
def Vals.nil_iff {xs:List V} {us:List Value} (r:Vals xs us):us=[] ↔ xs=[]:=by
 cases r with
 | nil=>simp
 | cons _ _=>simp
def aR8:OpR X (binaryOp .Add) (cJ2 X.K):=by
 intro pins s σ H x y v u Q I rx ry h;obtain ⟨a,b,xs,ys,rfl,rfl,ha,hb,hx,hz,q1,q2⟩:=h;cases rx;cases ry;obtain ⟨its,r1,p1,_⟩:=I.tuple ha;obtain ⟨its2,r2,p2,_⟩:=I.tuple hb;refine HT.cat_tup p1 p2 (fun z=>hx (r1.nil_iff.mp z)) (fun z=>⟨.ref a,H,I,rfl,q1 (r2.nil_iff.mp z)⟩) (fun z=>?_) (by rw [<- r1.length,<- r2.length];exact hz);refine ⟨.ref s.heap.objs.size,_,I.laid (t':=s.toks) (o:=.tup (xs++ys)) (fun b ob q=>Heap.get?_push_of_some _ q) (Nat.le_refl _) ?_,rfl,q2 (fun w=>z (r2.nil_iff.mpr w)) _ (I.hok.fresh (Nat.le_refl _))⟩;exact ⟨by rw [List.length_append];exact hz,_,r1.append r2,IsTupD.new _ _⟩
end
noncomputable def ixN (n:Nat) (i:Int):Option Nat:=if 0<=i then (if i < n then some i.toNat else none) else if -(n:Int)<=i then some (i+n).toNat else none
noncomputable def atI {α:Type} (xs:List α) (i:Int):Option α:=(ixN xs.length i).bind fun j=>xs[j]?
def qA {n:Nat} {i:Int} {j:Nat} (h:ixN n i=some j):seqIndex? i n=some j/\j < n/\-(n:Int)<=i/\i < n:=by
 unfold ixN at h
 by_cases h0:0<=i
 ·rw [if_pos h0] at h
  by_cases h1:i < n
  ·rw [if_pos h1] at h;have e:i.toNat=j:=Option.some.inj h;exact ⟨by rw [seqIndex_of h0 h1,e],by omega,by omega,h1⟩
  ·rw [if_neg h1] at h;cases h
 ·rw [if_neg h0] at h
  by_cases h1:-(n:Int)<=i
  ·rw [if_pos h1] at h;have e:(i+n).toNat=j:=Option.some.inj h;exact ⟨by rw [seqIndex_neg (by omega) h1,e],by omega,h1,by omega⟩
  ·rw [if_neg h1] at h;cases h
def wQ {α:Type} {xs:List α} {i:Int} {v:α} (h:atI xs i=some v):∃ j,seqIndex? i xs.length=some j/\xs[j]?=some v/\j < xs.length/\-(xs.length:Int)<=i/\i < xs.length:=by
 unfold atI at h;cases e:ixN xs.length i with
 | none=>rw [e] at h;cases h
 | some j =>
  rw [e] at h;obtain ⟨h1,h2,h3,h4⟩:=qA e;exact ⟨j,h1,h,h2,h3,h4⟩
def gW {α:Type} {xs:List α} {j:Nat} {v:α} (h:xs[j]?=some v):atI xs (j:Int)=some v:=by
 have hj:j < xs.length:=(List.getElem?_eq_some_iff.mp h).1;have e:ixN xs.length (j:Int)=some j:=by
  unfold ixN;rw [if_pos (by omega),if_pos (by omega)];simp
 unfold atI;rw [e];exact h
def iW (b:Expr):Prop:=∀ o i,subscripted b false o i=operate [o,i] (getItem o i)
def IxR (X:Cx) (r:R2):Prop :=
 ∀ (value slice:Expr) (pins:List (Addr×Obj)) (s:Shared) (σ:St) (H:Hp) (x y:V) (v u:Value) (Q:VK),Inv X pins σ H s->RelV x v->RelV y u->r x y H Q ->
  subscripted slice false v u=operate [v,u] (getItem v u)->wpAny (model X.prog X.w) X.A (subscriptTail value slice v u) (EP X pins σ Q) X.xe s
def MtR (X:Cx) (id:String) (r:V->List V->Hp->VK->Prop):Prop :=
 ∀ (pins:List (Addr×Obj)) (s:Shared) (σ:St) (H:Hp) (x:V) (xs:List V) (v:Value) (us:List Value) (Q:VK),Inv X pins σ H s->RelV x v->Vals xs us->r x xs H Q ->
  wpAny (model X.prog X.w) X.A (call (.builtin id) (v::us)) (EP X pins σ Q) X.xe s
section
variable {X:Cx} {a b:Expr} {ta tb:TE} {pos:Pos}
def wR {r:R2} (hr:IxR X r) (ha:PE X a ta) (hb:PE X b tb) (hs:iW b):PE X (.Subscript a b pos) (tOp r ta tb):=by
 intro pins s σ H Q I h;exact Subscript_ (bN6 ha hb I h fun v u s2 x y H2 I2 rx ry q=>hr a b pins s2 σ H2 x y v u Q I2 rx ry q (hs _ _))
noncomputable def cY2 (K:Frag):R2:=fun x y H Q=>∃ p xs i v,x=.ref p/\y=.int i/\SqL K H p xs/\atI xs i=some v/\Q v H
noncomputable def cY3 (K:Frag):R2:=fun x y H Q=>∃ p xs i v,x=.ref p/\y=.int i/\SqT K H p xs/\atI xs i=some v/\Q v H
def qB:IxR X (cY2 X.K):=by
 intro value slice pins s σ H x y v u Q I rx ry h hs;obtain ⟨p,xs,i,z,rfl,rfl,hq,he,q⟩:=h;cases rx;obtain ⟨t,rfl⟩:=ry;obtain ⟨its,r,pl,hz⟩:=I.list hq;obtain ⟨j,h1,h2,h3,h4,h5⟩:=wQ he;obtain ⟨w,ew,rw'⟩:=r.get h2;have hl:=r.length;have hn:=pZ;have fin:EP X pins σ Q w s:=⟨z,H,I,rw',q⟩
 by_cases h0:0<=i
 ·have hj:i.toNat=j:=by
   rw [seqIndex_of h0 h5] at h1;exact Option.some.inj h1
  exact item_listR pl.isList h0 (by omega) (by rw [hj];simpa using ew) fin hs
 ·have hj:(i+(its.toArray.size:Int)).toNat=j:=by
   rw [seqIndex_neg (by omega) h4] at h1;rw [List.size_toArray,<- hl];exact Option.some.inj h1
  exact subscriptTail_builtinR (x:=w) pl.isList.typeIs slot_list_getitem.lookup
   (wpAny_getItem_list_neg (Q:=fun r s'=>r=w/\EP X pins σ Q r s') pl.isList (by omega) (by rw [List.size_toArray]<;>omega) (by omega) (by rw [hj];simpa using ew) ⟨rfl,fin⟩) hs
def bO9:IxR X (cY3 X.K):=by
 intro value slice pins s σ H x y v u Q I rx ry h hs;obtain ⟨p,xs,i,z,rfl,rfl,hq,he,q⟩:=h;cases rx;obtain ⟨t,rfl⟩:=ry;obtain ⟨its,r,pl,hz⟩:=I.tuple hq;obtain ⟨j,h1,h2,h3,h4,h5⟩:=wQ he;obtain ⟨w,ew,rw'⟩:=r.get h2;have hl:=r.length;have hn:=pZ;have fin:EP X pins σ Q w s:=⟨z,H,I,rw',q⟩;exact subscriptTail_builtinR (x:=w) pl.typeIs slot_tuple_getitem.lookup
  (getItem_tuple (j:=j) (Q:=fun r s'=>r=w/\EP X pins σ Q r s') pl (by omega) (by omega) (by rw [List.size_toArray,<- hl];exact h1) (by simpa using ew) ⟨rfl,fin⟩) hs
def uV (its:List Value) (n j:Nat) (u:Value):Obj.mapSeq (·.setIfInBounds j u) { cls:=.type "list",data:=.seq its.toArray n }={ cls:=.type "list",data:=.seq (its.set j u).toArray n }:=by
 simp [Obj.mapSeq]
def Inv.lst {pins:List (Addr×Obj)} {σ:St} {H:Hp} {s:Shared} {p:Addr} {xs:List V} (I:Inv X pins σ H s) (h:H p=some (.lst xs)) :
  ∃ (its:List Value) (n:Nat),Vals xs its/\s.heap.get? p=some { cls:=.type "list",data:=.seq its.toArray n }/\xs.length<=sizeLine:=by
 obtain ⟨z,its,n,r,e⟩:=I.hok p _ h;exact ⟨its,n,r,e,z⟩
def Inv.lstUpd {pins:List (Addr×Obj)} {σ:St} {H:Hp} {s:Shared} {p:Addr} {xs ys:List V} {its its':List Value} {n n':Nat} {f:Obj->Obj} (I:Inv X pins σ H s) (h:H p=some (.lst xs))
  (ho:s.heap.get? p=some { cls:=.type "list",data:=.seq its.toArray n }) (hf:f { cls:=.type "list",data:=.seq its.toArray n }={ cls:=.type "list",data:=.seq its'.toArray n' }) (r:Vals ys its') (hz:ys.length<=sizeLine) (t:Nat) :
  Inv X pins σ (upd H p (.lst ys)) { s with heap:=s.heap.update p f,toks:=t }:=by
 have e:(s.heap.update p f).get? p=some { cls:=.type "list",data:=.seq its'.toArray n' }:=by
  rw [Heap.get?_update_self f ho (by rw [hf]<;>rfl),hf]
 refine I.write (x:=p) (e:=p) (by rw [h];trivial) (.inl rfl) (fun b u hb q=>(Heap.get?_update_other _ _ (Ne.symm hb)).trans q) ⟨_,e⟩ ?_;exact ⟨hz,its',n',r,e⟩
noncomputable def bF7:V->V->V->Hp->(Hp->Prop)->Prop:=fun o i v H Q=>∃ p xs k j,o=.ref p/\i=.int k/\H p=some (.lst xs)/\ixN xs.length k=some j/\Q (upd H p (.lst (xs.set j v)))
def aE3:bN1 X bF7:=by
 intro pins s σ H o i v ov iv u Q I ro ri rv h;obtain ⟨p,xs,k,j,rfl,rfl,hp,hj,q⟩:=h;cases ro;obtain ⟨t,rfl⟩:=ri;obtain ⟨its,n,r,ho,hz⟩:=I.lst hp;obtain ⟨h1,h2,h3,h4⟩:=qA hj;have hl:=r.length;have hn:=pZ;have I':Inv X pins σ (upd H p (.lst (xs.set j v))) { s with heap:=s.heap.update p (Obj.mapSeq (·.setIfInBounds j u)) } :=
  I.lstUpd hp ho (uV its n j u) (r.set rv j) (by rw [List.length_set];exact hz) s.toks
 by_cases h0:0<=k
 ·have hk:k.toNat=j:=by
   rw [seqIndex_of h0 h4] at h1;exact Option.some.inj h1
  exact PySem.W.ki_setAt ho h0 (by omega) (by rw [List.size_toArray,<- hl];exact h4) (by rw [hk];exact ⟨_,I',q⟩)
 ·have hk:(k+(its.toArray.size:Int)).toNat=j:=by
   rw [seqIndex_neg (by omega) h3] at h1;rw [List.size_toArray,<- hl];exact Option.some.inj h1
  exact PySem.W.ki_setBack ho (by omega) (by rw [List.size_toArray,<- hl];exact h3) (by omega) (by rw [hk];exact ⟨_,I',q⟩)
def qD (lo hi:Option Int) (n:Nat):(sliceBounds lo hi none n).1=((HT.sIx n 0 lo:Nat):Int)/\(sliceBounds lo hi none n).2.1=((HT.sIx n n hi:Nat):Int)/\(sliceBounds lo hi none n).2.2=1:=by
 refine ⟨?_,?_,rfl⟩
 ·cases lo with
  | none=>simp [sliceBounds,HT.sIx]
  | some i =>
   simp only [sliceBounds,HT.sIx,Option.getD_none,show (1:Int) > 0 by decide,if_true]
   by_cases h:i < 0
   ·simp only [h,if_true]<;>omega
   ·simp only [h,if_false]<;>omega
 ·cases hi with
  | none=>simp [sliceBounds,HT.sIx]
  | some i =>
   simp only [sliceBounds,HT.sIx,Option.getD_none,show (1:Int) > 0 by decide,if_true]
   by_cases h:i < 0
   ·simp only [h,if_true]<;>omega
   ·simp only [h,if_false]<;>omega
def nY (its:List Value) (lo hi:Option Int):slicePick its.toArray lo hi none=((its.drop (HT.sIx its.length 0 lo)).take (HT.sIx its.length its.length hi - HT.sIx its.length 0 lo)).toArray:=by
 obtain ⟨h1,h2,h3⟩:=qD lo hi its.toArray.size;unfold slicePick;rw [h1,h2,h3];simp only [sliceRange_one,pick_run,List.size_toArray]<;>rfl
noncomputable def cY4 (K:Frag):V->Option Int->Option Int->Hp->VK->Prop:=fun x lo hi H Q=>∃ a xs,x=.ref a/\SqL K H a xs/\∀ p,H p=none->Q (.ref p) (upd H p (.lst (rQ xs lo hi)))
def aR9:SlR X (cY4 X.K):=by
 intro pins s σ H x v vl vu lo hi sl Q I rx hs pl pu h;obtain ⟨a,xs,rfl,hx,q⟩:=h;cases rx;obtain ⟨its,r,ht,hz⟩:=I.list hx;have hlen:=r.length;refine ⟨"list",_,slot_list_getitem.lookup,ht.isList.typeIs,?_⟩;refine wpAny_getItem_list_slice ht.isList hs pl pu .none (by simp) ?_ (by rw [List.size_toArray]<;>omega);rw [nY,<- hlen];refine ⟨.ref s.heap.objs.size,_,I.laid (t':=s.toks) (o:=.lst (rQ xs lo hi)) (fun b ob q=>Heap.get?_push_of_some _ q) (Nat.le_refl _) ?_,rfl,q _ (I.hok.fresh (Nat.le_refl _))⟩;exact ⟨Nat.le_trans (kJ xs lo hi) hz,_,0,(r.drop (HT.sIx xs.length 0 lo)).take (HT.sIx xs.length xs.length hi - HT.sIx xs.length 0 lo),Heap.get?_push_size _ rfl⟩
def iX:bZ X (.builtin "len") (fun xs H Q=>∃ p ys,xs=[.ref p]/\(SqL X.K H p ys\/SqT X.K H p ys)/\Q (.int ys.length) H):=by
 intro pins s σ H xs us Q I r h;obtain ⟨p,ys,rfl,hq,q⟩:=h;obtain ⟨u,rfl,rx⟩:=iU r;cases rx;have hn:=pZ;rcases hq with hq | hq
 ·obtain ⟨its,r',pl,hz⟩:=I.list hq;have hlen:=r'.length;exact Calls.call_len_list pl.isList (by simp only [List.size_toArray]<;>omega) ⟨.int ys.length,H,I.tok _,⟨s.toks+1,by rw [List.size_toArray,hlen]⟩,q⟩
 ·obtain ⟨its,r',pl,hz⟩:=I.tuple hq;have hlen:=r'.length;exact len_tuple pl (by simp only [List.size_toArray]<;>omega) ⟨.int ys.length,H,I.tok _,⟨s.toks+1,by rw [List.size_toArray,hlen]⟩,q⟩
def qE:bZ X (.type "list") (fun xs H Q=>∃ p ys,xs=[.ref p]/\(SqL X.K H p ys\/SqT X.K H p ys)/\∀ l,H l=none->Q (.ref l) (upd H l (.lst ys))):=by
 intro pins s σ H xs us Q I r h;obtain ⟨p,ys,rfl,hq,q⟩:=h;obtain ⟨u,rfl,rx⟩:=iU r;cases rx;have fin:∀ (its:List Value),Vals ys its->ys.length<=sizeLine->∀ (h':Heap) (c':Nat),(∀ b o',s.heap.get? b=some o'->h'.get? b=some o') ->
   h'.get? s.heap.objs.size=some { cls:=.type "list",dict:=none,data:=.seq its.toArray c',slots:=#[] }->EP X pins σ Q (.ref s.heap.objs.size) { s with heap:=h' }:=fun its r' hz h' c' kp e =>
  ⟨.ref s.heap.objs.size,_,I.laid (t':=s.toks) kp (Nat.le_refl _) (show ObjOk X.prog X.w _ h' _ (.lst ys) from ⟨hz,its,c',r',e⟩),rfl,q _ (I.hok.fresh (Nat.le_refl _))⟩
 rcases hq with hq | hq
 ·obtain ⟨its,r',pl,hz⟩:=I.list hq;have hlen:=r'.length;obtain ⟨o,ho,hc,n,hd⟩:=pl.isList;exact call_list_seq p (.inl rfl) ho hc hd (fun h' c' kp e=>fin its r' hz h' c' kp e) (by simp only [List.size_toArray]<;>omega)
 ·obtain ⟨its,r',pl,hz⟩:=I.tuple hq;have hlen:=r'.length;obtain ⟨o,ho,hc,n,hd⟩:=pl;exact call_list_seq p (.inr rfl) ho hc hd (fun h' c' kp e=>fin its r' hz h' c' kp e) (by simp only [List.size_toArray]<;>omega)
def iD:bZ X (.type "tuple") (fun xs H Q=>∃ p ys,xs=[.ref p]/\((SqL X.K H p ys/\∀ l,H l=none->Q (.ref l) (upd H l (.tup ys)))\/(SqT X.K H p ys/\Q (.ref p) H))):=by
 intro pins s σ H xs us Q I r h;obtain ⟨p,ys,rfl,h⟩:=h;obtain ⟨u,rfl,rx⟩:=iU r;cases rx;rcases h with ⟨hq,q⟩ | ⟨hq,q⟩
 ·obtain ⟨its,r',pl,hz⟩:=I.list hq;have hlen:=r'.length;refine call_tuple_list pl.isList (fun h' kp=>?_) (by simp only [List.size_toArray]<;>omega);have I1:Inv X pins σ H { s with heap:=h' }:=I.kept (t':=s.toks) kp;have I2:Inv X pins σ (upd H h'.objs.size (.tup ys)) { s with heap:=h'.push { cls:=.type "tuple",data:=.seq its.toArray } } :=
   I1.laid (t':=s.toks) (fun b o e=>Heap.get?_push_of_some _ e) (Nat.le_refl _) (show ObjOk X.prog X.w _ _ _ (.tup ys) from ⟨hz,its,r',IsTupD.new _ _⟩)
  exact ⟨.ref h'.objs.size,_,I2,rfl,q _ (I1.hok.fresh (Nat.le_refl _))⟩
 ·obtain ⟨its,r',pl,hz⟩:=I.tuple hq;exact call_tuple_same pl ⟨.ref p,H,I,rfl,q⟩
def tyV (K:Frag) (T:String) (x:V) (H:Hp):Prop:=match x with
 | .str _=>T="str"
 | .int _=>T="int"
 | .ref p=>(T="list"/\∃ xs,SqL K H p xs)\/(T="tuple"/\∃ o,K.lookup p=some o/\o.cls=.type "tuple"/\o.dict=none) \/
   (T="dict"/\((∃ kvs,H p=some (.dK kvs))\/∃ kvs,H p=some (.dT kvs)))\/(T="set"/\∃ S n,H p=some (.set S n))
 | _=>False
def bP0 {pins:List (Addr×Obj)} {σ:St} {H:Hp} {s:Shared} {T:String} {x:V} {v:Value} (I:Inv X pins σ H s) (r:RelV x v) (ty:tyV X.K T x H) :
  s.TypeIs v T/\∀ a,v=.ref a->∃ ob,s.heap.get? a=some ob/\ob.dict=none:=by
 cases x with
 | str z =>
  obtain ⟨t,rfl⟩:=r;cases (show T="str" from ty);exact ⟨typeIs_str s z t,fun _ e=>nomatch e⟩
 | int i =>
  obtain ⟨t,rfl⟩:=r;cases (show T="int" from ty);exact ⟨typeIs_int s i t,fun _ e=>nomatch e⟩
 | ref p =>
  cases r;rcases ty with ⟨rfl,xs,hq⟩ | ⟨rfl,o,hk,hc,hd⟩ | ⟨rfl,hk⟩ | ⟨rfl,S,n,hk⟩
  ·obtain ⟨its,_,pl,_⟩:=I.list hq;refine ⟨pl.isList.typeIs,fun a e=>?_⟩;cases e;obtain ⟨o,n,e,c,hd,_⟩:=pl;exact ⟨o,e,hd⟩
  ·refine ⟨⟨o,I.kIn p o hk,hc⟩,fun a e=>?_⟩;cases e;exact ⟨o,I.kIn _ o hk,hd⟩
  ·have z:∃ o,s.heap.get? p=some o/\o.ExactDict:=by
    rcases hk with ⟨kvs,hk⟩ | ⟨kvs,hk⟩
    ·obtain ⟨_,_,_,_,o,_,_,e,ex,_⟩:=I.hok p _ hk;exact ⟨o,e,ex⟩
    ·obtain ⟨_,_,_,_,o,_,_,e,ex,_⟩:=I.hok p _ hk;exact ⟨o,e,ex⟩
   obtain ⟨o,e,ex⟩:=z;refine ⟨⟨o,e,ex.1⟩,fun a e2=>?_⟩;cases e2;exact ⟨o,e,ex.2.1⟩
  ·obtain ⟨o,_,_,_,e,ex,_⟩:=I.hok p _ hk;refine ⟨⟨o,e,ex.1⟩,fun a e2=>?_⟩;cases e2;exact ⟨o,e,ex.2.1⟩
 | _=>exact False.elim ty
def tBM (K:Frag) (T:String) (r:V->List V->Hp->VK->Prop) (to:TE) (t:TA):TE:=fun σ H Q=>to σ H fun x H1=>tyV K T x H1/\t σ H1 fun xs H2=>r x xs H2 Q
variable {o e:Expr} {es:List Expr} {to:TE} {t:TA} {name:Str} {apos cpos:Pos} {T id:String} {r:V->List V->Hp->VK->Prop}
def bF8 (pa:PlainAttrs T) (slot:Slot T name id) (hty:typeOf (.builtin id)=pure (.type "method_descriptor")) (hm:MtR X id r) (ho:PE X o to) (ha:PA X (e::es) t)
  (hbase:autoParam (attributeBase o name X.env (eval o X.env)=eval o X.env) ZR)
  (hfew:((backTo cpos (starEach (e::es) X.env)).all (fun x=>!x.1)&&(backToKw cpos (keywordEach [] X.env)).all (fun x=>x.1.isSome)
   && decide ((e::es).length+([]:List Keyword).length+(if ([]:List Keyword).isEmpty then 0 else 1) < 30))=true:=by rfl)
  (hline:autoParam ((apos.endLine==cpos.line)=true) ZR) (hs:autoParam (starEach (e::es) X.env=(false,eval e X.env)::starEach es X.env) ZR) (hplain:autoParam ((backTo cpos (starEach es X.env)).any (·.1)=false) ZR) :
  PE X (.Call (.Attribute o name apos) (e::es) [] cpos) (tBM X.K T r to t):=by
 intro pins s σ H Q I h;refine wpAny_Call_method_late hbase hfew hline rfl (thn (ho pins s σ H _ I h) fun v s1 ⟨x,H1,I1,r1,ty,q1⟩=>?_);obtain ⟨h1,h2⟩:=bP0 I1 r1 ty;refine ⟨T,id,pa,slot,hty,h1,h2,?_⟩;have hA:=ha cpos pins s1 σ H1 _ I1 q1;rw [hs] at hA ⊢;refine Calls.callWith_builtin (by show (false||(backTo cpos (starEach es X.env)).any (·.1))=false;rw [hplain]<;>rfl) (Calls.evalArgs_plain ?_);exact thn hA fun us s2 ⟨vs,H2,I2,r2,q2⟩=>hm pins s2 σ H2 x vs v us Q I2 r1 r2 q2
/- xs.append(e),list.index on a module's tuple .. are MtR facts of 06m -/
end
def MtM (X:Cx) (id:String) (r:V->List V->Hp->VK->Prop):Prop :=
 ∀ (pins:List (Addr×Obj)) (s:Shared) (σ:St) (H:Hp) (x:V) (xs:List V) (v:Value) (us:List Value) (Q:VK),Inv X pins σ H s->RelV x v->Vals xs us->r x xs H Q ->
  wpAny (model X.prog X.w) X.A (call (.builtin id) (v::us)) (EP X pins σ Q) X.xe s
theorem Vals.one:∀ {x:V} {us:List Value},Vals [x] us->∃ u,us=[u]/\RelV x u
 | _,_,.cons r .nil=>⟨_,rfl,r⟩
theorem Vals.eraseIdx:∀ {xs:List V} {us:List Value} (i:Nat),Vals xs us->Vals (xs.eraseIdx i) (us.eraseIdx i)
 | _,_,_,.nil=>.nil
 | _,_,0,.cons _ t=>t
 | _,_,i+1,.cons r t=>.cons r (Vals.eraseIdx i t)
theorem Vals.rep {xs:List V} {us:List Value} (h:Vals xs us):∀ k:Nat,Vals (List.replicate k xs).flatten (List.replicate k us).flatten
 | 0=>.nil
 | k+1=>by
  rw [List.replicate_succ,List.replicate_succ,List.flatten_cons,List.flatten_cons];exact Vals.append h (Vals.rep h k)
theorem oV {α:Type}:∀ (l:List α) (i:Nat),(l.eraseIdx i).length<=l.length
 | [],_=>Nat.le_refl _
 | _::_,0=>Nat.le_succ _
 | _::r,i+1=>Nat.succ_le_succ (oV r i)
theorem jM (its:List Value):∀ (k:Nat) (acc:List Value),
  List.foldl (fun x1 x2=>x1++x2) acc.toArray (List.replicate k its.toArray)=(acc++(List.replicate k its).flatten).toArray
 | 0,acc=>by simp
 | k+1,acc=>by
  have e:acc.toArray++its.toArray=(acc++its).toArray:=by simp
  have e2:(acc++its)++(List.replicate k its).flatten=acc++(List.replicate (k+1) its).flatten:=by
   rw [List.replicate_succ,List.flatten_cons,List.append_assoc]
  rw [<- e2,<- jM its k (acc++its),<- e,List.replicate_succ,List.foldl_cons]
section
variable {X:Cx} {pins:List (Addr×Obj)} {σ:St} {H:Hp} {s:Shared} {l b:Addr} {xs ys zs:List V}
def Inv.lset {its its':List Value} {n:Nat} {f:Array Value->Array Value} {t':Nat} (I:Inv X pins σ H s) (hH:H l=some (.lst xs))
  (e:s.heap.get? l=some { cls:=.type "list",data:=.seq its.toArray n }) (hf:f its.toArray=its'.toArray) (hv:Vals ys its') (hz:ys.length<=sizeLine) :
  Inv X pins σ (upd H l (.lst ys)) { s with heap:=s.heap.update l (Obj.mapSeq f),toks:=t' }:=by
 have q:=PySem.IsL.update e f;rw [hf] at q;refine I.write (x:=l) (e:=l) (by rw [hH];exact trivial) (.inl rfl) (fun b' u hb hu=>(Heap.get?_update_other s.heap (Obj.mapSeq f) (Ne.symm hb)).trans hu) ⟨_,q⟩ ?_;exact ⟨hz,its',_,hv,q⟩
def Inv.lnew {its:List Value} {t':Nat} (I:Inv X pins σ H s) (hv:Vals ys its) (hz:ys.length<=sizeLine) :
  Inv X pins σ (upd H s.heap.objs.size (.lst ys)) { s with heap:=s.heap.push { cls:=.type "list",data:=.seq its.toArray },toks:=t' } :=
 I.laid (fun _ _ q=>Heap.get?_push_of_some _ q) (Nat.le_refl _) ⟨hz,its,0,hv,Heap.get?_push_size _ rfl⟩
def Inv.fresh (I:Inv X pins σ H s):H s.heap.objs.size=none:=I.hok.fresh (Nat.le_refl _)
def Inv.lstM (I:Inv X pins σ H s) (hH:H l=some (.lst xs)):xs.length<=sizeLine/\∃ (its:List Value) (n:Nat),Vals xs its/\xs.length=its.length/\s.heap.get? l=some { cls:=.type "list",data:=.seq its.toArray n }:=by
 obtain ⟨z,its,n,r,e⟩:=I.hok l _ hH;exact ⟨z,its,n,r,r.length,e⟩
def aE4 {n:Nat} (h:n<=sizeLine):Builtin.List.listTooLong n=false:=by
 unfold Builtin.List.listTooLong;exact decide_eq_false (by omega)
end
section
variable {X:Cx}
noncomputable def aS0:V->List V->Hp->VK->Prop:=fun x vs H Q=>∃ l xs y,x=.ref l/\vs=[y]/\H l=some (.lst xs)/\xs.length < sizeLine/\Q .non (upd H l (.lst (xs++[y])))
def oW:MtM X "list.append" aS0:=by
 intro pins s σ H x vs v us Q I rx rv h;obtain ⟨l,xs,y,rfl,rfl,hH,hz,q⟩:=h;cases rx;obtain ⟨u,rfl,ru⟩:=rv.one;obtain ⟨z,its,n,r,hl,e⟩:=I.lstM hH;refine call_meets F.slot_list_append ⟨_,e,rfl⟩ F.entry_list_append (F.args_list_append_2 _ _) (PySem.list_append l its.toArray n u (by rw [List.size_toArray];omega)) ⟨e,?_⟩;refine ⟨.non,_,I.lset (its':=its++[u]) hH e (by simp) (r.append (.cons ru .nil)) ?_,rfl,q⟩;rw [List.length_append,List.length_singleton];omega
noncomputable def bP1:V->List V->Hp->VK->Prop:=fun x vs H Q=>∃ l xs i k y,x=.ref l/\vs=[.int i]/\H l=some (.lst xs)/\-(2^63)<=i/\i < 2^63/\seqIndex? i xs.length=some k/\xs[k]?=some y/\Q y (upd H l (.lst (xs.eraseIdx k)))
def aE5:MtM X "list.pop" bP1:=by
 intro pins s σ H x vs v us Q I rx rv h;obtain ⟨l,xs,i,k,y,rfl,rfl,hH,h1,h2,hk,hy,q⟩:=h;cases rx;obtain ⟨u,rfl,ru⟩:=rv.one;obtain ⟨t,rfl⟩:=ru;obtain ⟨z,its,n,r,hl,e⟩:=I.lstM hH;obtain ⟨w,hw,rw'⟩:=r.get hy;refine call_meets F.slot_list_pop ⟨_,e,rfl⟩ F.entry_list_pop (F.args_list_pop_2 _ _)
  (MeetsSeq.list_pop_at l its.toArray n i t k w (fitsIndex_both h1 h2) (by rw [List.size_toArray,<- hl];exact hk) (by rw [<- Array.getElem?_toList];exact hw) (by rw [List.size_toArray];omega)) ⟨e,?_⟩
 refine ⟨y,_,I.lset (its':=its.eraseIdx k) hH e ?_ (r.eraseIdx k) ?_,rw',q⟩
 ·show its.toArray.eraseIdxIfInBounds k=(its.eraseIdx k).toArray;rw [List.eraseIdxIfInBounds_toArray]
 ·have:=oV xs k;omega
noncomputable def cY5:R2:=fun x y H Q=>∃ l k xs,x=.ref l/\y=.int k/\H l=some (.lst xs)/\-(2^63)<=k/\k < 2^63/\xs.length*k.toNat<=sizeLine /\
 ∀ p,H p=none->Q (.ref p) (upd H p (.lst (List.replicate k.toNat xs).flatten))
def qF {α:Type} (xs:List α) (k:Nat):(List.replicate k xs).flatten.length=k*xs.length:=by
 induction k with
 | zero=>simp
 | succ k ih=>rw [List.replicate_succ,List.flatten_cons,List.length_append,ih,Nat.succ_mul,Nat.add_comm]
def bP2:OpR X (binaryOp .Mult) cY5:=by
 intro pins s σ H x y v u Q I rx ry h;obtain ⟨l,k,xs,rfl,rfl,hH,h1,h2,hz,q⟩:=h;cases rx;obtain ⟨t,rfl⟩:=ry;obtain ⟨z,its,n,r,hl,e⟩:=I.lstM hH;have hlen:its.toArray.size*k.toNat<=sizeLine:=by rw [List.size_toArray,<- hl];exact hz
 have hcap:¬ its.toArray.size*k.toNat > (2^63 - 1) / 8:=by
  have:(sizeLine:Nat)<=(2^63 - 1) / 8:=by decide
  omega
 have hfit:¬ (!Builtin.List.listFitsIndex k)=true:=by
  rw [fitsIndex_both h1 h2];exact Bool.false_ne_true
 have hlong:¬ Builtin.List.listTooLong (its.toArray.size*k.toNat)=true:=by
  rw [aE4 hlen];exact Bool.false_ne_true
 have hnew:List.foldl (fun x1 x2=>x1++x2) #[] (List.replicate (if its.toArray.isEmpty=true then 0 else k.toNat) its.toArray)=(List.replicate k.toNat its).flatten.toArray:=by
  have f0:∀ m:Nat,List.foldl (fun x1 x2=>x1++x2) #[] (List.replicate m its.toArray)=(List.replicate m its).flatten.toArray:=fun m=>by
   have:=jM its m [];rw [List.nil_append] at this;exact this
  rw [f0];cases its with
  | nil=>simp
  | cons a r'=>rw [if_neg (by simp)]
 refine wpAny_binaryOp_repeat_ref (T:="list") (U:="int") (by decide) ⟨_,e,rfl⟩ (fun s'=>typeIs_int s' k t) noFill_list_mul F.fills_int_mul F.slot_int_rmul repeat_list F.slot_int_index.lookup
  (call_meets F.slot_int_rmul (typeIs_int s k t) F.entry_int_rmul (F.args_int_rmul_2 _ _) (int___rmul___int_list k t l its.toArray n)
   ⟨e,rfl,⟨_,e,rfl⟩,call_meets F.slot_list_mul ⟨_,e,rfl⟩ F.entry_list_mul (F.args_list_mul_2 _ _) (AutoListH.list___mul___list_int_3 l its.toArray n k t hfit hcap hlong) ⟨e,?_⟩⟩)
 rw [hnew];exact ⟨.ref _,_,I.lnew (t':=s.toks) (r.rep k.toNat) (by rw [qF,Nat.mul_comm];exact hz),rfl,q _ I.fresh⟩
end
section
variable {prog:Program} {w:World} {A:Around} {E:Value->Shared->Prop} {s:Shared}
set_option maxRecDepth 100000 in
end
section
variable {X:Cx}
end
end L2
namespace Att
open PySem PySem.W PySem.Calls PyProof.Rows
def kY {P:Params} {h:Heap}:∀ (ns:List Int) (vs:List Value),WellAll P h vs (ns.map WData.int)->IntsAre vs ns:=by
 intro ns;induction ns with
 | nil =>
  intro vs w;rw [List.map_nil] at w;cases w;exact .nil
 | cons n ns ih =>
  intro vs w;rw [List.map_cons] at w;cases w with
  | cons a b =>
   cases a;exact .cons _ _ (ih _ b)
def yI {l:OpenLaw} {n:Nat} (hn:l.most=some n) {P:Params} {h:Heap} {args:List WData} {vals:List Value}
  (hpre:l.row.toRowW.claim.pre args=true) (hwl:WellAll P h vals args) :
  ∃ a vs ns,vals=[Value.ref a]/\args=[WData.list (ns.map WData.int)]/\h.get? a=some { cls:=.type "list",data:=.seq vs.toArray }/\IntsAre vs ns/\ns.length<=n:=by
 have hsh:WShape.hasAll [] args [.list .int]=true:=(pre_splitW hpre).1;have hc:l.pre.holds [] { args:=args }=true:=(pre_splitW hpre).2;obtain ⟨d,r,rfl,h1,h2⟩:=hasAllW_cons hsh;obtain rfl:=hasAllW_nil h2;obtain ⟨xs,rfl,h3⟩:=hasW_list h1;obtain ⟨ns,rfl⟩:=items_int h3;have hlen:ns.length<=n:=by
  unfold OpenLaw.pre at hc;have h4:(WTm.not (.lt (.lit (.int (n:Int))) (.len (.arg 0)))).holds [] { args:=[.list (ns.map .int)] }=true:=by
   have h4:=(holds_andW hc).1;rw [hn] at h4;exact h4
  have h5:=condW_of h4 (w_not (w_lt w_lit (w_len_list (w_arg rfl))));rw [List.length_map] at h5;refine Nat.le_of_not_lt fun q=>?_;have q':(n:Int) < ((ns.length:Nat):Int):=by omega
  first
   | (rw [decide_eq_true q'] at h5;exact absurd h5 (by decide))
   | (simp at h5;omega)
 cases hwl with
 | cons w1 w2 =>
  cases w2;cases w1 with
  | list ho hall=>exact ⟨_,_,ns,rfl,rfl,ho,kY ns _ hall,hlen⟩
def yJ (l:OpenLaw) (args:List WData):l.row.toRowW.claim.post args (.bool true) args=true :=
 postW_of (r:=l.row.toRowW) (X:=(true==true))
  (show WShape.has [] (.bool true) .bool=true by first | rfl | decide | simp [WShape.has,WShape.arms,WShape.armsAll])
  (show (WTm.eq .res (.lit (.bool true))).value [] { args:=args,res:=some (.bool true),after:=args }=some (.bool (true==true)) from w_eq_bool (w_res rfl) w_lit) rfl
def attach_call {l:OpenLaw} {n:Nat} {q:Program} {loose:List Str} {XP:(Str->Option Value)->Heap->Prop} {YP:World->Heap->Prop} {d:DefRec}
  (hn:l.most=some n) (hdf:d.params.defaults=[])
  (call:∀ (w:World) (s₀ s₁:Shared) (mg mb:Str->Option Value) (fa:Addr) (o:Obj) (pm cd doc:Value) (a:Addr) (vs:List Value) (ns:List Int),
   Ground q loose [] XP w s₀ mg mb s₁.heap->YP w s₁.heap ->
   s₁.heap.get? fa=some o->o.data=.func (docDef d.name d.params d.body d.scope pm cd doc)->s₁.heap.CodeRec cd d.name->mg d.name=some (.ref fa) ->
   s₁.heap.get? a=some { cls:=.type "list",data:=.seq vs.toArray }->IntsAre vs ns->ns.length<=n->s₁.gens=#[] ->
   codeAny (model l.prog w) callerA (.call (.ref fa) ⟨[.ref a],[]⟩) (fun r s'=>r=.ok (.ret (.bool true))/\OldK s₁.heap s'.heap/\s'.os=s₁.os/\AllBare s'.gens) s₁) :
  WalkO q loose XP YP l.row.toRowW d [] (fun f vs=>PySem.call f vs):=by
 intro w s₀ s₁ mg mb G Y fa o pm cd doc dV kV ho hd hcd hD hmg hg args vals as hpre hlay hrd hwl hlo;obtain rfl:dV=.none:=Dflts.none hD hdf;obtain rfl:kV=.none:=Dflts.noKw hD;obtain ⟨a,vs,ns,rfl,rfl,hobj,hints,hlen⟩:=yI hn hpre hwl;refine enter_call (codeAny_mono (call w s₀ s₁ mg mb fa o pm cd doc a vs ns G Y ho (fd_plain hd) hcd hmg hobj hints hlen hg) fun r s' hq=>?_);obtain ⟨rfl,h2,h3,h4⟩:=hq;exact ⟨.inl ⟨.bool true,.bool true,[],rfl,fun _=>rfl,.bool true,yJ l _,fun _=>⟨List.Pairwise.nil,fun _ hm=>(nomatch hm)⟩⟩,h2,h3,h4⟩
section
variable {prog:Program} {w:World} {A:Around} {E:Value->Shared->Prop} {s:Shared} {K:Frag}
end
end Att
namespace L2
open PySem PySem.Spec PyProof.Rows
theorem oZ:∀ {vs:List Value} {ns:List Int},IntsAre vs ns->Vals (ns.map V.int) vs
 | _,_,.nil=>.nil
 | _,_,.cons n t h=>.cons ⟨t,rfl⟩ (oZ h)
def bP3 (H:Hp):Prop:=∀ b,H b=none\/∃ o xs,H b=some (.frz o (.lst xs))
def aE6 {P:Program} {w:World} {K:Frag} {mg mb:Str->Option Value} {CX:CXT} {k:Nat} {fa a:Addr} {fd:FuncData} {x:Str} {sp:Sp} {s₁:Shared} {vs:List Value} {ns:List Int}
  (KX:K.In s₁.heap) (hns:s₁.heap.Ns mainGlobals mg) (hb:s₁.heap.Ns builtinsNs mb) (hbb:∀ x:Str,x≠"__name__"->mb x=bootBuiltins x) (hlim:s₁.heap.NoLimit) (hg:s₁.gens=#[])
  (ha:s₁.heap.get? a=some { cls:=.type "list",data:=.seq vs.toArray }) (hi:IntsAre vs ns) (hl:ns.length<=sizeLine) (hr:Room k callerA)
  (F:∀ base:Heap,K.In base->base.Ns mainGlobals mg->FnOk P w K mg base CX k fa fd [x] sp) (hbind:∀ (s:Shared) (u:Value),BindsTo s fd ⟨[u],[]⟩ [(x,u)])
  (hsp:∀ H:Hp,bP3 H->SqL K H a (ns.map V.int)->sp [.ref a] H (fun v _=>v=.bl true) fun _ _ _=>False)
  (hCX:∀ H e s',CX [] H s₁ (fun _ _ _=>False) e s'->False) :
  codeAny (model P w) callerA (.call (.ref fa) ⟨[.ref a],[]⟩) (fun r s'=>r=.ok (.ret (.bool true))/\OldK s₁.heap s'.heap/\s'.os=s₁.os/\AllBare s'.gens) s₁:=by
 have rv:=oZ hi;have lenV:=hi.length;have core:∀ H:Hp,bP3 H->SqL K H a (ns.map V.int)->HOk P w H s₁.heap->(∀ b,H b≠none->b=a)->(H a≠none->K.lookup a=none) ->
   codeAny (model P w) callerA (.call (.ref fa) ⟨[.ref a],[]⟩) (fun r s'=>r=.ok (.ret (.bool true))/\OldK s₁.heap s'.heap/\s'.os=s₁.os/\AllBare s'.gens) s₁:=by
  intro H hO hS hok hA hK;have base_of:∀ {b:Addr} {o:Obj},s₁.heap.get? b=some o->H b=none->(pX s₁.heap H).get? b=some o:=fun e n=>aC4 e n;have noA:∀ {b:Addr} {o:Obj} {es:Array DictEntry} {ep:Nat},s₁.heap.get? b=some o->o.data=.dict es ep->H b=none:=fun {b o es ep} e d=>by
   cases q:H b with
   | none=>rfl
   | some u =>
    have e':b=a:=hA b (by rw [q];simp);subst e';rw [ha] at e;cases e;have d':Data.seq vs.toArray _=Data.dict es ep:=d;cases d'
  have nsK:∀ {b:Addr} {m:Str->Option Value},s₁.heap.Ns b m->(pX s₁.heap H).Ns b m:=fun {b m} ⟨o,es,ep,e,d,r⟩=>⟨o,es,ep,base_of e (noA e d),d,r⟩;have hKb:K.In (pX s₁.heap H):=fun b o e=>base_of (KX b o e) (by
   cases q:H b with
   | none=>rfl
   | some u =>
    have e':b=a:=hA b (by rw [q];simp);subst e';rw [hK (by rw [q];simp)] at e;cases e)
  have hM:Mod K mg (pX s₁.heap H):=⟨hKb,nsK hns,⟨mb,nsK hb,hbb⟩,let ⟨mc,h1,h2⟩:=hlim;⟨mc,nsK h1,h2⟩⟩;have e0:Env0 P w K mg (pX s₁.heap H) callerA [] s₁ H:=⟨rfl,hM,fun b o e=>aQ5 e,Nat.le_of_eq (xZ _ _),trivial,fun b hb=>absurd (show b∈([]:List Addr) from hb) (by simp),hok,.of_eq hg⟩;refine codeAny_mono ((F _ hKb (nsK hns)).run callerA [] s₁ H ⟨[.ref a],[]⟩ [.ref a] [.ref a] _ _ hr e0 (hbind s₁ (.ref a)) (.cons rfl .nil) (hsp H hO hS)) fun r s' h=>?_;cases r with
  | error e=>exact (hCX H e s' h).elim
  | ok fl =>
   cases fl with
   | next=>exact False.elim h
   | brk=>exact False.elim h
   | cont=>exact False.elim h
   | ret u =>
    obtain ⟨v,H',os,bare,un,hok',r',q⟩:=h;have q':v=.bl true:=q;subst q';obtain rfl:u=Value.bool true:=r';refine ⟨rfl,OldK.of_keep fun b o e=>?_,os,bare⟩;cases q:H b with
    | none=>exact un.keep b o e q (by intro z;exact absurd (show b∈([]:List Addr) from z) (by simp)) (by simp)
    | some u =>
     rcases hO b with z | ⟨ob,xs,z⟩
     ·rw [q] at z;cases z
     ·have z2:=un.frzs b ob _ z;obtain ⟨e1,_⟩:=hok b _ z;obtain ⟨e2,_⟩:=hok' b _ z2;rw [e] at e1;cases e1;exact e2
 cases hk:K.lookup a with
 | some o =>
  have e:=KX a o hk;rw [ha] at e;cases e;refine core (fun _=>none) (fun _=>.inl rfl) (.inr ⟨_,vs.toArray,_,hk,rfl,rfl,rfl,by rw [List.size_toArray,lenV];exact hl,by simpa using rv⟩) (fun b u z=>by have z':(none:Option HO)=some u:=z;cases z') (fun b z=>absurd rfl z) fun z=>absurd rfl z
 | none =>
  refine core (fun b=>if b=a then some (.frz { cls:=.type "list",data:=.seq vs.toArray } (.lst (ns.map V.int))) else none) (fun b=>?_) (.inl (.inr ⟨{ cls:=.type "list",data:=.seq vs.toArray },if_pos rfl⟩)) (fun b u z=>?_) (fun b z=>?_) fun _=>hk
  ·by_cases hb:b=a
   ·exact .inr ⟨_,_,if_pos hb⟩
   ·exact .inl (if_neg hb)
  ·by_cases hb:b=a
   ·have z':=(if_pos hb).symm.trans z;cases z';subst hb;exact ⟨ha,by rw [List.length_map];exact hl,vs,_,rv,ha⟩
   ·have z':=(if_neg hb).symm.trans z;cases z'
  ·by_cases hb:b=a
   ·exact hb
   ·exact absurd (if_neg hb) z
def walk_of {l:PySem.W.OpenLaw} {n k:Nat} {q:Program} {loose:List Str} {XP:(Str->Option Value)->Heap->Prop} {YP:World->Heap->Prop} {d:DefRec} {K:Params->Frag} {CX:World->CXT} {sp:World->Sp} {x:Str}
  (hn:l.most=some n) (hn2:n<=sizeLine) (hdf:d.params.defaults=[]) (hr:Room k callerA)
  (hY:∀ (w:World) (h:Heap),YP w h->(K w.params).In h)
  (F:∀ (w:World) (mg:Str->Option Value) (fa:Addr) (h:Heap),(K w.params).In h->h.Ns mainGlobals mg->mg d.name=some (.ref fa) ->
   ∃ fd:FuncData,(∀ (s:Shared) (u:Value),BindsTo s fd ⟨[u],[]⟩ [(x,u)]) /\
    ∀ base:Heap,(K w.params).In base->base.Ns mainGlobals mg->FnOk l.prog w (K w.params) mg base (CX w) k fa fd [x] (sp w))
  (hsp:∀ (w:World) (H:Hp) (a:Addr) (ns:List Int),ns.length<=n->bP3 H->SqL (K w.params) H a (ns.map V.int)->sp w [.ref a] H (fun v _=>v=.bl true) fun _ _ _=>False)
  (hCX:∀ (w:World) (H:Hp) (s:Shared) (e:Value) (s':Shared),CX w [] H s (fun _ _ _=>False) e s'->False) :
  PySem.W.WalkO q loose XP YP l.row.toRowW d [] (fun f vs=>PySem.call f vs):=by
 refine Att.attach_call hn hdf fun w s₀ s₁ mg mb fa o pm cd doc a vs ns G Y ho hd hcd hmg hobj hints hlen hg=>?_;have KX:=hY w _ Y;obtain ⟨fd,hb,hF⟩:=F w mg fa _ KX G.T.g hmg;exact aE6 KX G.T.g G.T.b G.T.builtins G.T.nolimit hg hobj hints (Nat.le_trans hlen hn2) hr hF hb (fun H hO hS=>hsp w H a ns hlen hO hS) fun H e s'=>hCX w H s₁ e s'
end L2
/- THE LAST THEOREM (shape;LID,My.* are yours):
  My.Adr: a structure of the addresses that your layer names (classes,functions);My.Txt K t: a structure (Prop) of the equations over K;
  My.txt_mk:{K} {implicit addresses ..} (e1:nsIn K mainGlobals "law"=some (some (.ref f))) (e2:K.lookup f=some ⟨oc,od,.func (fnOf "law" "law" params body scope dV kV doc pm an cdv ct),sl⟩) (e3:codeIn K cdv "law"=true) ..:∃ t,My.Txt K t
set_option maxRecDepth 100000 in
set_option maxHeartbeats 0 in
theorem PySem.Challenge.cw_LID_holds : PySem.Challenge.rw_LID.Holds := by
 w_on;o_law;k_head;(case hw=>w_witness2)
 k_fill
 refine L2.walk_of (l:=PySem.Challenge.rw_LID) (n:=63) (k:=40) (x:="script") (CX:=fun w=>..) (sp:=fun _=>My.sp_law) rfl (by decide) rfl ⟨rfl,by decide,by decide⟩ (fun w h Y=>PySem.W.kIn_of Y) ?F ?S ?C
 case F =>
  intro w mg fa h KX G hmg;have T:∃ t,My.Txt (L2.KOf KX) t:=by
   dsimp only [L2.KOf]                          -- K must stand as «<heap const> w.params» for k_is;refine' My.txt_mk ?e1 ?e2 ?e3 ..
   (case e1=>PySem.W.k_is)                    -- in the order: a name->its address->its object->its parts
   (case e2=>PySem.W.k_is)
   ..
  obtain ⟨t,T⟩:=T;have e0:=hmg.symm.trans (PySem.W.mg_of KX G T.law);cases e0                                       -- fa is the law's own address;exact ⟨_,fun s u=>.of_eq rfl,fun base kb nb=>My.law_fn T kb nb⟩     -- if «.of_eq rfl» comes too early: refine' ⟨_,?b,fun base kb nb=>My.law_fn T kb nb⟩;exact fun s u=>.of_eq rfl
 case S=>exact fun w H a ns hl hO hS=>..
 case C=>exact ..
(the tactic k_is has no namespace: write k_is) -/
namespace L2
open PySem PySem.Spec PyProof.Rows
noncomputable def cE (s:Stmt):Arguments:=match s with
 | .FunctionDef _ a _ _ _ _ _ _ _ _=>a
 | _=>{ posonlyargs:=[],args:=[],vararg:=none,kwonlyargs:=[],kw_defaults:=[],kwarg:=none,defaults:=[] }
noncomputable def aX (s:Stmt):List Stmt:=match s with
 | .FunctionDef _ _ b _ _ _ _ _ _ _=>b
 | _=>[]
noncomputable def aH (s:Stmt):Scope:=match s with
 | .FunctionDef _ _ _ _ _ _ sc _ _ _=>sc
 | _=>{ kind:=.function,names:=[],isGenerator:=false,isCoroutine:=false }
abbrev CX0:CXT:=fun _ _ _ _ _ _=>False
abbrev E0:XK:=fun _ _ _=>False
def aE7 {X:Cx}:uS CX0 X E0:=fun _ _ _ _ _ _ _ h=>h.elim
structure Fun (K:Frag) (x qual:Str) (st:Stmt) (f:Addr) (fd:FuncData):Prop where
 ex:∃ (oc:Value) (od:Option Addr) (kV doc pm:Value) (an:Option Addr) (cdv ct:Value) (osl:Array (Option Value)),
  fd=PySem.W.fnOf x qual (cE st) (aX st) (aH st) .none kV doc pm an cdv ct/\K.lookup f=some ⟨oc,od,.func fd,osl⟩/\PySem.W.codeIn K cdv qual=true
 kp:PySem.W.keepIn K (.ref f)=true
section
variable {P:Program} {w:World} {K:Frag} {mg:Str->Option Value} {base:Heap}
def Fun.ok {x qual:Str} {st:Stmt} {f:Addr} {fd:FuncData} {N ps:List Str} {k:Nat} {sp:Sp} (F:Fun K x qual st f fd) (S:FnScope N ps (aH st)) (len:∀ vs H Q E,sp vs H Q E->vs.length=ps.length)
  (hbody:∀ (cdv:Value) (A:Around) (outer:List Env) (s:Shared) (H:Hp) (vs:List V) (Q:VK) (E:XK),Room k (A.deeper (envOfC qual (aH st) s.heap.objs.size f cdv))->sp vs H Q E ->
   ∃ t,PSs (gB CX0 P w K mg base N qual (aH st) f cdv A outer s H E).nox (aX st) t/\t { nx:=fun _ H'=>Q .non H',rt:=Q } (start N vs) H):FnOk P w K mg base CX0 (k+1) f fd ps sp:=by
 obtain ⟨oc,od,kV,doc,pm,an,cdv,ct,osl,rfl,lk,hcd⟩:=F.ex;refine aE1 lk hcd S len fun A outer s H vs Q E hr hsp=>?_;obtain ⟨t,h,q⟩:=hbody cdv A outer s H vs Q E hr hsp;exact ⟨t,h.nox,q⟩
def Fun.binds {x qual:Str} {st:Stmt} {f:Addr} {fd:FuncData} {ps:List Str} (F:Fun K x qual st f fd)
  (h:∀ (kV doc pm:Value) (an:Option Addr) (cdv ct:Value) (us:List Value),us.length=ps.length->bindArgs (PySem.W.fnOf x qual (cE st) (aX st) (aH st) .none kV doc pm an cdv ct) ⟨us,[]⟩=pure (ps.zip us)):Binds K fd ps []:=by
 obtain ⟨oc,od,kV,doc,pm,an,cdv,ct,osl,rfl,lk,hcd⟩:=F.ex;exact .all (h kV doc pm an cdv ct)
def uW {x qual:Str} {st:Stmt} {f:Addr} {oc:Value} {od an:Option Addr} {osl:Array (Option Value)} {kV doc pm cdv ct:Value} (l:K.lookup f=some ⟨oc,od,.func (PySem.W.fnOf x qual (cE st) (aX st) (aH st) .none kV doc pm an cdv ct),osl⟩)
  (c:PySem.W.codeIn K cdv qual=true) (k:PySem.W.keepIn K (.ref f)=true):Fun K x qual st f (PySem.W.fnOf x qual (cE st) (aX st) (aH st) .none kV doc pm an cdv ct):=⟨⟨oc,od,kV,doc,pm,an,cdv,ct,osl,rfl,l,c⟩,k⟩
end
section
variable {X:Cx}
end
end L2
set_option maxHeartbeats 4000000
namespace L2
open PySem PySem.Spec PyProof.Rows
section
variable {κ:Type} [DecidableEq κ]
noncomputable def fR (kvs:List (κ×V)) (k:κ):Option V:=(kvs.find? fun kv=>decide (kv.1=k)).map (·.2)
noncomputable def qG (kvs:List (κ×V)) (k:κ) (v:V):List (κ×V) :=
 if (kvs.any fun kv=>decide (kv.1=k))=true then kvs.map (fun kv=>if kv.1=k then (kv.1,v) else kv) else kvs++[(k,v)]
def rR {p:κ×V} {r:List (κ×V)} {k:κ} (e:p.1=k):fR (p::r) k=some p.2:=by simp [fR,List.find?_cons,e]
def rS {p:κ×V} {r:List (κ×V)} {k:κ} (e:¬ p.1=k):fR (p::r) k=fR r k:=by simp [fR,List.find?_cons,e]
def rT (kvs:List (κ×V)) (k:κ) (v:V):(qG kvs k v).length<=kvs.length+1:=by
 unfold qG;split
 ·rw [List.length_map];omega
 ·rw [List.length_append,List.length_cons,List.length_nil];omega
def RelO.isSome_eq {o:Option V} {u:Option Value} (r:RelO o u):o.isSome=u.isSome:=by
 cases o with
 | none=>cases u with
  | none=>rfl
  | some _=>exact (show False from r).elim
 | some _=>cases u with
  | none=>exact (show False from r).elim
  | some _=>rfl
def KV.val {kvs:List (κ×V)} {vs:List (κ×Value)} (r:KV kvs vs) (k:κ):RelO (fR kvs k) (valueAt vs k):=by
 unfold KV at r;induction r with
 | nil=>exact True.intro
 | @cons p q ps qs h t ih =>
  obtain ⟨h1,h2⟩:=h
  by_cases e:p.1=k
  ·have e':q.1=k:=h1.symm.trans e;have b:valueAt (q::qs) k=some q.2:=by simp [valueAt,List.find?_cons,e']
   rw [rR e,b];exact h2
  ·have e':¬ q.1=k:=fun z=>e (h1.trans z);have b:valueAt (q::qs) k=valueAt qs k:=by simp [valueAt,List.find?_cons,e']
   rw [rS e,b];exact ih
def KV.any {kvs:List (κ×V)} {vs:List (κ×Value)} (r:KV kvs vs) (k:κ):(kvs.any fun kv=>decide (kv.1=k))=vs.any fun kv=>decide (kv.1=k):=by
 unfold KV at r;induction r with
 | nil=>rfl
 | cons h t ih=>rw [List.any_cons,List.any_cons,ih,h.1]
def KV.repl {kvs:List (κ×V)} {vs:List (κ×Value)} (r:KV kvs vs) (k:κ) {y:V} {u:Value} (ry:RelV y u) :
  KV (kvs.map fun kv=>if kv.1=k then (kv.1,y) else kv) (vs.map fun kv=>if kv.1=k then (kv.1,u) else kv):=by
 unfold KV at r ⊢;induction r with
 | nil=>exact .nil
 | @cons p q ps qs h t ih =>
  rw [List.map_cons,List.map_cons];refine .cons ?_ ih;obtain ⟨h1,h2⟩:=h
  by_cases e:p.1=k
  ·rw [if_pos e,if_pos (h1.symm.trans e)];exact ⟨h1,ry⟩
  ·rw [if_neg e,if_neg (fun z=>e (h1.trans z))];exact ⟨h1,h2⟩
def KV.put {kvs:List (κ×V)} {vs:List (κ×Value)} (r:KV kvs vs) (k:κ) {y:V} {u:Value} (ry:RelV y u):KV (qG kvs k y) (stored vs k u):=by
 unfold qG stored;rw [r.any k]
 by_cases e:(vs.any fun kv=>decide (kv.1=k))=true
 ·rw [if_pos e,if_pos e];exact r.repl k ry
 ·rw [if_neg e,if_neg e];exact Paired.snoc r ⟨rfl,ry⟩
def KV.length {kvs:List (κ×V)} {vs:List (κ×Value)} (r:KV kvs vs):kvs.length=vs.length:=Paired.length r
end
def rV {P:Program} {w:World} {k:Key} {u:Value} (r:RelV (kV k) u):(cO P w).is k u=true:=by
 cases k with
 | inl i=>obtain ⟨t,e⟩:=(show ∃ t,u=Value.int i t from r);subst e;exact rJ P w i t
 | inr x=>obtain ⟨t,e⟩:=(show ∃ t,u=Value.str x t from r);subst e;exact rK P w x t
theorem pA {P:Program} {w:World}:∀ {ks:List Key} {us:List Value},Vals (ks.map kV) us->ItemsAre (cO P w) ks us
 | [],_,r=>by rw [List.map_nil] at r;cases r;exact .nil
 | k::ks,_,r=>by
  rw [List.map_cons] at r;cases r with
  | cons h t=>exact .cons (rV h) (pA t)
abbrev KT (H:Hp):List (List Key×V)->List (List Key×Addr×Value)->Prop:=Paired fun p q=>p.1=q.1/\H q.2.1=some (.tup (p.1.map kV))/\RelV p.2 q.2.2
def KT.val {H:Hp} {kvs:List (List Key×V)} {xs:List (List Key×Addr×Value)} (r:KT H kvs xs) (k:List Key):RelO (fR kvs k) ((atKey xs k).map (·.2)):=by
 induction r with
 | nil=>exact True.intro
 | @cons p q ps qs h t ih =>
  obtain ⟨h1,_,h2⟩:=h
  by_cases e:p.1=k
  ·have e':q.1=k:=h1.symm.trans e;have b:atKey (q::qs) k=some q.2:=by simp [atKey,List.find?_cons,e']
   rw [rR e,b];exact h2
  ·have e':¬ q.1=k:=fun z=>e (h1.trans z);have b:atKey (q::qs) k=atKey qs k:=by simp [atKey,List.find?_cons,e']
   rw [rS e,b];exact ih
section
variable {P:Program} {w:World} {H:Hp} {h:Heap} {a:Addr}
def bF9 {u:HO} (ok:HOk P w H h) (e:Rd H a u):ObjOk P w H h a u:=e.ok ok
def lT {kvs:List (Key×V)} (ok:HOk P w H h) (e:Rd H a (.dK kvs)):kvs.length<=sizeLine/\(a==sysModules)=false/\∃ vs,KV kvs vs/\h.DictOf (cO P w) a vs :=
 show ObjOk P w H h a (.dK kvs) from bF9 ok e
def cJ3 {kvs:List (Key×V)} (ok:HOk P w H h) (e:H a=some (.dK kvs)):kvs.length<=sizeLine/\(a==sysModules)=false/\∃ vs,KV kvs vs/\h.DictOf (cO P w) a vs:=lT ok (.inl e)
def qH {ks:List Key} (ok:HOk P w H h) (e:H a=some (.tup (ks.map kV))):(tupleKind (cO P w)).is h ks a:=by
 obtain ⟨_,its,r,o,h1,h2,⟨n,h3⟩,_⟩:=(show ObjOk P w H h a (.tup (ks.map kV)) from ok a _ e);exact ⟨o,its.toArray,n,h1,h2,h3,by simpa using pA r⟩
def wS {kvs:List (List Key×V)} (ok:HOk P w H h) (e:Rd H a (.dT kvs)):kvs.length<=sizeLine/\(a==sysModules)=false /\
  ∃ xs,KT H kvs xs/\h.DictOfH (tupleKind (cO P w)) a xs:=by
 obtain ⟨z,y,xs,r,o,es,ep,h1,h2,h3,h4,h5⟩:=(show ObjOk P w H h a (.dT kvs) from bF9 ok e);refine ⟨z,y,xs,r,o,es,ep,h1,h2,h3,h4,fun x hx=>?_,h5⟩;have all:∀ {l:List (List Key×V)} {m:List (List Key×Addr×Value)},KT H l m->∀ x∈m,(tupleKind (cO P w)).is h x.1 x.2.1:=by
  intro l m q;induction q with
  | nil=>intro x hx;exact nomatch hx
  | @cons p q ps qs hq t ih =>
   intro x hx;rcases List.mem_cons.mp hx with e | hx
   ·subst e;exact qH ok (by rw [<- hq.1];exact hq.2.1)
   ·exact ih x hx
 exact all r x hx
end
def aE8 (H:Hp) (a:Addr) (y:V) (r:Option V):Prop :=
 (∃ kvs k,Rd H a (.dK kvs)/\y=kV k/\r=fR kvs k)\/∃ kvs k b,Rd H a (.dT kvs)/\y=.ref b/\H b=some (.tup (k.map kV))/\r=fR kvs k
section
variable {X:Cx} {pins:List (Addr×Obj)} {σ:St} {H:Hp} {s:Shared} {a:Addr} {y v:V} {u r:Value} {o:Option V} {A:Around} {E:Value->Shared->Prop}
def yK {Q:Value->Shared->Prop} (hu:A.units+1 < cLine) (I:Inv X pins σ H s) (g:aE8 H a y (some v)) (ry:RelV y u) (h:∀ w' s',Inv X pins σ H s'->RelV v w'->Q w' s') :
  wpAny (model X.prog X.w) A (getItem (.ref a) u) Q E s:=by
 rcases g with ⟨kvs,k,e,ey,l⟩ | ⟨kvs,k,b,e,ey,eb,l⟩
 ·subst ey;obtain ⟨z,hd,vs,rel,dd⟩:=lT I.hok e;obtain ⟨w',hw,rw'⟩:=RelO.some_of (v:=v) (o:=valueAt vs k) (by rw [l];exact rel.val k);exact wpAny_getItem_of (rV ry) dd.mapOf hw (h w' _ (I.tok _) rw')
 ·subst ey;cases (show u=Value.ref b from ry);obtain ⟨z,hd,xs,rel,dd⟩:=wS I.hok e;obtain ⟨w',hw,rw'⟩:=RelO.some_of (v:=v) (o:=(atKey xs k).map (·.2)) (by rw [l];exact rel.val k);obtain ⟨p,hp,hp2⟩:=Option.map_eq_some_iff.mp hw;refine wpAny_getItem_heap (tupleKind_room_in1 hu) (qH I.hok eb) dd hp ?_;rw [hp2];exact h w' _ (I.tok _) rw'
def cY6 {Q:Value->Shared->Prop} (hu:A.units+1 < cLine) (I:Inv X pins σ H s) (g:aE8 H a y o) (ry:RelV y u) (h:∀ s',Inv X pins σ H s'->Q (.bool o.isSome) s') :
  wpAny (model X.prog X.w) A (compareOp .In u (.ref a)) Q E s:=by
 rcases g with ⟨kvs,k,e,ey,l⟩ | ⟨kvs,k,b,e,ey,eb,l⟩
 ·subst ey;obtain ⟨z,hd,vs,rel,dd⟩:=lT I.hok e;refine wpAny_in_of (rV ry) hd dd.mapOf ?_;rw [<- (rel.val k).isSome_eq,<- l];exact h _ (I.tok _)
 ·subst ey;cases (show u=Value.ref b from ry);obtain ⟨z,hd,xs,rel,dd⟩:=wS I.hok e;refine wpAny_in_heap (tupleKind_room_in1 hu) (qH I.hok eb) hd dd ?_;have q:=(rel.val k).isSome_eq;rw [Option.isSome_map] at q;rw [<- q,<- l];exact h _ (I.tok _)
def aS1 {Q:Value->Shared->Prop} (hu:A.units+1 < cLine) (I:Inv X pins σ H s) (g:aE8 H a y o) (ry:RelV y u) (h:∀ s',Inv X pins σ H s'->Q (.bool (!o.isSome)) s') :
  wpAny (model X.prog X.w) A (compareOp .NotIn u (.ref a)) Q E s:=by
 rcases g with ⟨kvs,k,e,ey,l⟩ | ⟨kvs,k,b,e,ey,eb,l⟩
 ·subst ey;obtain ⟨z,hd,vs,rel,dd⟩:=lT I.hok e;refine wpAny_notIn_of (rV ry) hd dd.mapOf ?_;rw [<- (rel.val k).isSome_eq,<- l];exact h _ (I.tok _)
 ·subst ey;cases (show u=Value.ref b from ry);obtain ⟨z,hd,xs,rel,dd⟩:=wS I.hok e;refine wpAny_notIn_heap (tupleKind_room_in1 hu) (qH I.hok eb) hd dd ?_;have q:=(rel.val k).isSome_eq;rw [Option.isSome_map] at q;rw [<- q,<- l];exact h _ (I.tok _)
def aS2 {h':Heap} {t':Nat} {ob:HO} (I:Inv X pins σ H s) (mu:Mut (H a)) (hs:Heap.SameBut a s.heap h') (he:∃ q,h'.get? a=some q) (new:ObjOk X.prog X.w (upd H a ob) h' a ob) :
  Inv X pins σ (upd H a ob) { s with heap:=h',toks:=t' } :=
 I.write (x:=a) (e:=a) mu (.inl rfl) (fun b q hb z=>(hs.2 b hb).trans z) he new
def bP4 {P:Program} {w:World} {H':Hp} {h':Heap} {kvs:List (Key×V)} {vs:List (Key×Value)} (z:kvs.length<=sizeLine) (hd:(a==sysModules)=false) (rel:KV kvs vs) (dd:h'.DictOf (cO P w) a vs) :
  ObjOk P w H' h' a (.dK kvs):=⟨z,hd,vs,rel,dd⟩
end
section
variable {X:Cx} {pins:List (Addr×Obj)} {σ:St} {H:Hp} {s:Shared} {a:Addr} {kvs:List (Key×V)} {k:Key} {u:Value} {A:Around} {E:Value->Shared->Prop}
end
def rW {X:Cx} {pins:List (Addr×Obj)} {σ:St} {H:Hp} {s:Shared} {a:Addr} {y:V} {o:Option V} (I:Inv X pins σ H s) (g:aE8 H a y o):s.TypeIs (.ref a) "dict":=by
 rcases g with ⟨kvs,k,e,_,_⟩ | ⟨kvs,k,b,e,_,_,_⟩
 ·obtain ⟨_,_,vs,_,dd⟩:=lT I.hok e;exact dd.typeIs
 ·obtain ⟨_,_,xs,_,dd⟩:=wS I.hok e;exact dd.typeIs
section
variable {X:Cx} {o i e value:Expr} {pos pos' tpos:Pos} {td ty tv:TE}
end
section
variable {X:Cx} {pos:Pos}
end
section
variable {X:Cx} {pins:List (Addr×Obj)} {σ:St} {H:Hp} {s:Shared} {a:Addr} {y d:V} {u r:Value} {o:Option V} {A:Around} {E:Value->Shared->Prop}
end
section
variable {X:Cx} {o e f:Expr} {apos cpos:Pos} {td ty tx:TE}
end
section
variable {X:Cx} {pins:List (Addr×Obj)} {σ:St} {H:Hp} {s:Shared} {a:Addr} {kvs:List (Key×V)} {A:Around} {E:Value->Shared->Prop}
end
section
variable {X:Cx} {pins:List (Addr×Obj)} {σ:St} {H:Hp} {s:Shared} {a:Addr} {y:V} {u:Value} {A:Around} {E:Value->Shared->Prop}
end
def qI {a b:Nat} (z:a=b+1) (h:a < b):False:=by omega
structure CompSc (N N':List Str) (ixs:List (Option Nat)) (S sc:Scope):Prop where
 kind:sc.kind=.function
 nocell:∀ y∈sc.names,y.2≠.cell
 loc:∀ y∈sc.names,y.2=.local->sc.names.lookup y.1=some .local
 free:∀ y∈sc.names,y.2=.free->S.names.lookup y.1=some .cell\/S.names.lookup y.1=some .free
 nd:N'.Nodup
 len:ixs.length=N'.length
 cap:((ixs.zip N').all fun p=>match p.1 with
  | none=>true
  | some i=>decide (N[i]?=some p.2)&&decide (sc.names.lookup p.2=some NameKind.free))=true
noncomputable def nZ (ixs:List (Option Nat)) (σ:St):St:=ixs.map fun o=>o.bind fun i=>(σ[i]?).bind id
def CompSc.at {N N':List Str} {ixs:List (Option Nat)} {S sc:Scope} (h:CompSc N N' ixs S sc) {j i:Nat} {x:Str} (e1:N'[j]?=some x) (e2:ixs[j]?=some (some i)) :
  N[i]?=some x/\sc.names.lookup x=some .free:=by
 have hm:(some i,x)∈ixs.zip N':=by
  refine List.mem_of_getElem? (i:=j) ?_;rw [List.getElem?_zip_eq_some];exact ⟨e2,e1⟩
 have q:=List.all_eq_true.mp h.cap _ hm;simp only [Bool.and_eq_true,decide_eq_true_eq] at q;exact q
def aS3 {ixs:List (Option Nat)} {σ:St} {j:Nat} {v:V} (e:(nZ ixs σ)[j]?=some (some v)):∃ i,ixs[j]?=some (some i)/\σ[i]?=some (some v):=by
 unfold nZ at e;rw [List.getElem?_map] at e;cases h:ixs[j]? with
 | none=>rw [h] at e;cases e
 | some o =>
  rw [h] at e;cases o with
  | none=>cases e
  | some i =>
   refine ⟨i,rfl,?_⟩;have e':(σ[i]?).bind id=some v:=Option.some.inj e;cases q:σ[i]? with
   | none=>rw [q] at e';cases e'
   | some w=>rw [q] at e';exact congrArg some e'
theorem gE {env:Env}:∀ (names:List (Str×NameKind)) (acc:List (Str×Addr)),(∀ y∈names,y.2=.free->∃ c,env.cells.lookup y.1=some c) ->
  (∀ x c,acc.lookup x=some c->env.cells.lookup x=some c) ->
  ∃ cl,(∀ x c,cl.lookup x=some c->env.cells.lookup x=some c)/\(∀ y∈names,y.2=.free->∃ c,cl.lookup y.1=some c)/\(∀ x c,acc.lookup x=some c->∃ d,cl.lookup x=some d) /\
   (forIn names acc fun (x:Str×NameKind) (r:List (Str×Addr))=>(if (x.2==NameKind.free)=true then (do let a <- cellOf env x.1;pure (ForInStep.yield ((x.1,a)::r))) else pure (ForInStep.yield r):Sem (ForInStep (List (Str×Addr)))))=(pure cl:Sem (List (Str×Addr)))
 | [],acc,_,ha=>⟨acc,ha,fun _ h=>(nomatch h),fun x c h=>⟨c,h⟩,rfl⟩
 | (n,k)::r,acc,h,ha=>by
  by_cases hk:k=.free
  ·subst hk;obtain ⟨c,hc⟩:=h (n,.free) List.mem_cons_self rfl;obtain ⟨cl,h1,h2,h3,h4⟩:=gE r ((n,c)::acc) (fun y hy=>h y (List.mem_cons_of_mem _ hy)) (fun x d hd=>by
    rw [List.lookup_cons] at hd;cases q:x==n with
    | true =>
     rw [q] at hd;have e1:x=n:=by simpa using q
     have e2:c=d:=Option.some.inj hd;rw [e1,<- e2];exact hc
    | false=>rw [q] at hd;exact ha x d hd)
   refine ⟨cl,h1,fun y hy hf=>?_,fun x d hd=>?_,?_⟩
   ·rcases List.mem_cons.mp hy with e | hy
    ·subst e;exact h3 n c (by simp [List.lookup_cons])
    ·exact h2 y hy hf
   ·cases q:x==n with
    | true =>
     have e1:x=n:=by simpa using q
     subst e1;exact h3 x c (by simp [List.lookup_cons])
    | false=>exact h3 x d (by rw [List.lookup_cons,q];exact hd)
   ·rw [<- h4,List.forIn_cons];have e:cellOf env n=pure c:=by unfold cellOf;rw [hc]
    show ((if (NameKind.free==NameKind.free)=true then (do let a <- cellOf env n;pure (ForInStep.yield ((n,a)::acc))) else pure (ForInStep.yield acc):Sem _) >>= _)=_;rw [if_pos (by decide),e];rfl
  ·obtain ⟨cl,h1,h2,h3,h4⟩:=gE r acc (fun y hy=>h y (List.mem_cons_of_mem _ hy)) ha;refine ⟨cl,h1,fun y hy hf=>?_,h3,?_⟩
   ·rcases List.mem_cons.mp hy with e | hy
    ·subst e;exact absurd hf hk
    ·exact h2 y hy hf
   ·rw [<- h4,List.forIn_cons];have e:(k==NameKind.free)=false:=by simpa using hk
    show ((if (k==NameKind.free)=true then (do let a <- cellOf env n;pure (ForInStep.yield ((n,a)::acc))) else pure (ForInStep.yield acc):Sem _) >>= _)=_;rw [if_neg (by rw [e];exact Bool.false_ne_true)];rfl
def lU {sc:Scope} {env:Env} (h:∀ y∈sc.names,y.2=.free->∃ c,env.cells.lookup y.1=some c) :
  ∃ cl,closureFor sc env=pure cl/\(∀ x c,cl.lookup x=some c->env.cells.lookup x=some c)/\(∀ y∈sc.names,y.2=.free->∃ c,cl.lookup y.1=some c):=by
 obtain ⟨cl,h1,h2,_,h4⟩:=gE (env:=env) sc.names [] h (fun x c e=>by simp at e);refine ⟨cl,?_,h1,h2⟩;unfold closureFor;exact (congrArg (fun m:Sem (List (Str×Addr))=>m >>= fun r=>pure r) h4).trans rfl
theorem eQ {env:Env} {x:Str}:∀ {names:List (Str×NameKind)} {k:NameKind},names.lookup x=some k ->
  (names.map fun (n,k)=>if (k==NameKind.free&&env.scope.kind==.function&&env.kindOf n==some .cell) then (n,NameKind.cell) else (n,k)).lookup x
   = some (if (k==NameKind.free&&env.scope.kind==.function&&env.kindOf x==some .cell) then NameKind.cell else k)
 | [],_,h=>by simp at h
 | (n,k0)::r,k,h=>by
  rw [List.lookup_cons] at h;rw [List.map_cons];cases q:x==n with
  | true =>
   have e1:x=n:=by simpa using q
   subst e1;rw [q] at h;have e2:k0=k:=Option.some.inj h;subst e2;dsimp only
   by_cases hc:(k0==NameKind.free&&env.scope.kind==.function&&env.kindOf x==some .cell)=true
   ·rw [if_pos hc,if_pos hc,List.lookup_cons,q]
   ·rw [if_neg hc,if_neg hc,List.lookup_cons,q]
  | false =>
   rw [q] at h;have ih:=eQ (env:=env) h;dsimp only
   by_cases hc:(k0==NameKind.free&&env.scope.kind==.function&&env.kindOf n==some .cell)=true
   ·rw [if_pos hc,List.lookup_cons,q];exact ih
   ·rw [if_neg hc,List.lookup_cons,q];exact ih
theorem iY {env:Env} {x:Str}:∀ {names:List (Str×NameKind)},names.lookup x=none ->
  (names.map fun (n,k)=>if (k==NameKind.free&&env.scope.kind==.function&&env.kindOf n==some .cell) then (n,NameKind.cell) else (n,k)).lookup x=none
 | [],_=>rfl
 | (n,k0)::r,h=>by
  rw [List.lookup_cons] at h;rw [List.map_cons];cases q:x==n with
  | true=>rw [q] at h;cases h
  | false =>
   rw [q] at h;have ih:=iY (env:=env) h;dsimp only
   by_cases hc:(k0==NameKind.free&&env.scope.kind==.function&&env.kindOf n==some .cell)=true
   ·rw [if_pos hc,List.lookup_cons,q];exact ih
   ·rw [if_neg hc,List.lookup_cons,q];exact ih
noncomputable def blk (X:Cx) (N':List Str) (sc:Scope) (cl:List (Str×Addr)) (C:Addr) (s2:Shared) (H2:Hp) (fp:List Addr):Cx :=
 { X with N:=N',s₀:=s2,H₀:=H2,env:=compEnvC sc cl C X.env,outer:=X.stack,ex:=fp,fn:=fun _=>false,pn:=[] }
def yL {X:Cx} {pins:List (Addr×Obj)} {σ:St} {H2:Hp} {s2:Shared} {N':List Str} {ixs:List (Option Nat)} {S sc:Scope} {cl:List (Str×Addr)} {fp:List Addr} {h1:Heap} {tk n0:Nat}
  (I:Inv X pins σ H2 s2) (hS:X.env.scope=S) (SC:CompSc X.N N' ixs S sc) (hcl1:∀ x c,cl.lookup x=some c->X.env.cells.lookup x=some c) (hcl2:∀ y∈sc.names,y.2=.free->∃ c,cl.lookup y.1=some c)
  (hf:∀ b∈fp,iJ X pins H2 b) (hfl:∀ b∈fp,b < s2.heap.objs.size) (hns:h1.Ns (s2.heap.objs.size+1) fun _=>none)
  (keep:∀ b o,s2.heap.get? b=some o->h1.get? b=some o) (ha:h1.get? s2.heap.objs.size=some { cls:=.type "list",data:=.seq ([]:List Value).toArray n0 }) :
  Inv (blk X N' sc cl (s2.heap.objs.size+1) s2 H2 fp) [] (nZ ixs σ) (upd H2 s2.heap.objs.size (.lst [])) { s2 with heap:=h1,toks:=tk }:=by
 have kfree:∀ {x:Str} {k:NameKind},(relabel sc X.env).names.lookup x=some k->k=.cell\/k=.free->(x,NameKind.free)∈sc.names:=fun {x k} e hk=>by
  cases q:sc.names.lookup x with
  | none =>
   have z:=iY (env:=X.env) q;have z':(relabel sc X.env).names.lookup x=none:=z;rw [e] at z';cases z'
  | some k0 =>
   have z:=eQ (env:=X.env) q;have z':(relabel sc X.env).names.lookup x=_:=z;rw [e] at z';have m:=PySem.mem_of_lookup q;have hz:=Option.some.inj z'
   by_cases hc:(k0==NameKind.free&&X.env.scope.kind==.function&&X.env.kindOf x==some .cell)=true
   ·have h0:k0=.free:=by
     simp only [Bool.and_eq_true,beq_iff_eq] at hc;exact hc.1.1
    rw [<- h0];exact m
   ·rw [if_neg hc] at hz;subst hz;rcases hk with hk | hk
    ·exact absurd hk (SC.nocell _ m)
    ·rw [<- hk];exact m
 have fr:H2 s2.heap.objs.size=none:=I.hok.fresh (Nat.le_refl _);have frC:H2 (s2.heap.objs.size+1)=none:=I.hok.fresh (Nat.le_succ _);have cl_lt:∀ x c,X.env.cells.lookup x=some c->c < s2.heap.objs.size:=fun x c e=>by
  obtain ⟨v,q⟩:=I.cell x c e;exact q.lt
 have ok:(blk X N' sc cl (s2.heap.objs.size+1) s2 H2 fp).Ok:={
  mod:=I.ok.mod
  kind:=SC.kind
  glob:=I.ok.glob
  blt:=I.ok.blt
  above:=Nat.le_succ _
  inj:=fun x y c e1 e2=>I.ok.inj x y c (hcl1 x c e1) (hcl1 y c e2)
  has:=fun x hx=>by
   rcases hx with hx | hx
   ·exact hcl2 _ (kfree hx (.inl rfl)) rfl
   ·exact hcl2 _ (kfree hx (.inr rfl)) rfl
  cab:=fun x c h=>absurd (show false=true from h) Bool.false_ne_true
  hd:=I.ok.hd
  frames:=I.ok.frames
  stk:=.inl rfl
  exf:=fun b hb=>⟨Nat.ne_of_lt (Nat.lt_succ_of_lt (hfl b hb)),fun x c e=>(hf b hb).2.2.2.2.1 x c (hcl1 x c e)⟩
  bs:=I.bs
  bsz:=Nat.le_trans I.ok.bsz I.sz
  noex:=fun b o e hb=>by
   rcases (hf b hb).2.2.2.1 with z | z
   ·exact I.ok.noex b o e z
   ·exact absurd (Nat.lt_of_lt_of_le (Heap.lt_size e) (Nat.le_trans I.ok.bsz z)) (Nat.lt_irrefl _)
  exfs:=fun b hb hz=>by
   rcases List.mem_cons.mp (I.stkSub b hz) with z | z
   ·exact (hf b hb).2.1 z
   ·exact (hf b hb).2.2.1 z
  funs:=I.stack
  frf:=I.stkFree }
 refine ⟨ok,rfl,I.bare,Un.laid keep (Nat.le_refl _) fr,⟨_,hns,fun j x v e1 e2 e3=>?_⟩,fun x c e=>?_,?_,fun x c e=>?_,fun p hp=>absurd (show p∈([]:List (Addr×Obj)) from hp) (by simp),?_,?_⟩
 ·obtain ⟨i,ei,ev⟩:=aS3 e2;obtain ⟨eN,ef⟩:=SC.at e1 ei;have hm:=PySem.mem_of_lookup ef;have hvis:X.env.scope.names.lookup x=some .cell\/X.env.scope.names.lookup x=some .free:=by rw [hS];exact SC.free _ hm rfl
  obtain ⟨m,hn,hl⟩:=I.loc;obtain ⟨u,r,l⟩:=hl i x v eN ev (.inr hvis);refine ⟨u,r,?_⟩;rcases l with ⟨hk,_⟩ | ⟨_,c,ec,o,ho,hd⟩
  ·have hk':X.env.scope.names.lookup x=some .local:=hk;rcases hvis with z | z
   ·rw [hk'] at z;cases z
   ·rw [hk'] at z;cases z
  ·obtain ⟨c',ec'⟩:=hcl2 _ hm rfl;have e5:=hcl1 _ _ ec';rw [ec] at e5;have e6:c=c':=Option.some.inj e5;subst e6;refine .inr ⟨?_,c,ec',o,keep _ _ ho,hd⟩;have z:=eQ (env:=X.env) ef;have z':(relabel sc X.env).names.lookup x=_:=z
   by_cases hc:(NameKind.free==NameKind.free&&X.env.scope.kind==.function&&X.env.kindOf x==some .cell)=true
   ·rw [if_pos hc] at z';exact .inl z'
   ·rw [if_neg hc] at z';exact .inr z'
 ·obtain ⟨v,o,ho,hd⟩:=I.cell x c (hcl1 x c e);exact ⟨v,o,keep _ _ ho,hd⟩
 ·show upd H2 s2.heap.objs.size _ (s2.heap.objs.size+1)=none;rw [aF (Nat.ne_of_gt (Nat.lt_succ_self _))];exact frC
 ·show upd H2 s2.heap.objs.size _ c=none;rw [aF (Nat.ne_of_lt (cl_lt x c (hcl1 x c e)))];exact I.freeC x c (hcl1 x c e)
 ·exact I.hok.laid keep (Nat.le_refl _) ⟨Nat.zero_le _,[],n0,.nil,ha⟩
 ·show (nZ ixs σ).length=N'.length;unfold nZ;rw [List.length_map];exact SC.len
def aS4 {X:Cx} {pins:List (Addr×Obj)} {σ σ':St} {H2 H':Hp} {s2 s':Shared} {N':List Str} {sc:Scope} {cl:List (Str×Addr)} {fp:List Addr} {C:Addr}
  (I:Inv X pins σ H2 s2) (hf:∀ b∈fp,iJ X pins H2 b) (J:Inv (blk X N' sc cl C s2 H2 fp) [] σ' H' s'):Inv X pins σ H' s' :=
 I.call' (ch:=fp) J.os J.base J.hok J.bare fun b hb=>⟨(hf b hb).2.2.2.1,(hf b hb).2.1,(hf b hb).2.2.2.2.1,(hf b hb).2.2.2.2.2⟩
def yM {prog:Program} {w:World} {A:Around} {R:Result->Shared->Prop} {s:Shared} {elt target iter:Expr} {ifs:List Expr} {scope:Scope} {pos:Pos} {it acc:Value} {env:Env} (I:Nat->Shared->Prop)
  (turn:∀ n s,I n s->wpAny (model prog w) A (pyNext it) (fun r s₁=>match r with
   | none=>R (.ok .next) s₁
   | some v=>wpAny (model prog w) A (letOwnedTupleGo target it v) (fun _ t₁=>wpAny (model prog w) A (assign target env v) (fun _ s₂ =>
     wpAny (model prog w) A (forIn ifs true fun c r=>if r=true then do let ok <- isTrue c env (eval c env);pure (ForInStep.yield ok) else pure (ForInStep.yield r)) (fun ok s₃ =>
      if ok=true then wpAny (model prog w) A (eval elt env) (fun x s₄ =>
       wpAny (model prog w) A (call (.builtin "list.append") [acc,x]) (fun _ s₅=>∃ m,m < n/\I m s₅) (fun _ _=>False) s₄) (fun _ _=>False) s₃
      else ∃ m,m < n/\I m s₃) (fun _ _=>False) s₂) (fun _ _=>False) t₁) (fun _ _=>False) s₁) (fun _ _=>False) s)
  (n:Nat) (h:I n s):codeAny (model prog w) A (.compLoop (.ListComp elt [⟨target,iter,ifs,0⟩] scope pos) 0 it acc env) R s:=by
 refine codeAny_loop rfl I (fun n s hI=>?_) n h;show wpAny _ A ((compTurn (.ListComp elt [⟨target,iter,ifs,0⟩] scope pos) 0 it acc env).onRaise (fun x=>do noteFrame x env;theTreesLotGoes x)) _ _ s;refine wpAny_noted (wpAny_noRaise ?_);rw [compTurn_list];refine wpAny_bind (wpAny_standAt (wpAny_bind (thn (turn n s hI) fun r s₁ h₁=>?_)));cases r with
 | none=>exact wpAny_pure h₁
 | some v =>
  refine wpAny_bind (thn h₁ fun _ t₁ h₂=>wpAny_bind (thn h₂ fun _ s₂ h₃=>wpAny_bind (thn h₃ fun ok s₃ h₄=>?_)));cases ok with
  | false=>exact wpAny_pure ⟨rfl,h₄⟩
  | true=>exact wpAny_bind (wpAny_bind (thn h₄ fun x s₄ h₅=>wpAny_bind (thn h₅ fun _ s₅ h₆=>wpAny_pure (wpAny_pure ⟨rfl,h₆⟩))))
def PIf (X:Cx) (ifs:List Expr) (t:TT):Prop :=
 ∀ (pins:List (Addr×Obj)) (s:Shared) (σ:St) (H:Hp) (Q:Bool->Hp->Prop),Inv X pins σ H s->t σ H Q ->
  wpAny (model X.prog X.w) X.A (forIn ifs true fun c r=>if r=true then do let ok <- isTrue c X.env (eval c X.env);pure (ForInStep.yield ok) else pure (ForInStep.yield r)) (TP X pins σ Q) X.xe s
def cY7:TT:=fun _ H Q=>Q true H
def aS5 {X:Cx}:PIf X [] cY7:=fun _ _ _ H _ I h=>wpAny_tests_nil ⟨H,I,h⟩
def aS6 {X:Cx} {c:Expr} {t:TT} (h:PT X c t):PIf X [c] t:=fun pins s σ H Q I hw=>wpAny_tests_one (h pins s σ H Q I hw)
def bG0 (J:It) (g:TG) (tt:TT) (te:TE) (acc:Addr) (Fin:Hp->Prop) (W:Nat->Nat->List V->St->Hp->Prop):Prop :=
 ∀ i m ys σ H,W i m ys σ H->(J.stop i H/\H acc=some (.lst ys)/\Fin H) \/
  (J.go i H/\∀ x H',J.yld i H x H'->g x σ H' fun σ2 H3=>tt σ2 H3 fun b H4 =>
   if b=true then te σ2 H4 fun y H5=>H5 acc=some (.lst ys)/\ys.length < sizeLine/\∃ m',m' < m/\W (i+1) m' (ys++[y]) σ2 (upd H5 acc (.lst (ys++[y])))
   else ∃ m',m' < m/\W (i+1) m' ys σ2 H4)
def aE9 (ixs:List (Option Nat)) (wi:TI) (g:TG) (tt:TT) (te:TE):TE:=fun σ H Q=>wi σ H fun J H2=>∀ acc,H2 acc=none ->
 ∃ W:Nat->Nat->List V->St->Hp->Prop,(∃ m,W 0 m [] (nZ ixs σ) (upd H2 acc (.lst [])))/\bG0 J g tt te acc (Q (.ref acc)) W
section
variable {X:Cx} {tg iter elt:Expr} {ifs:List Expr} {sc S:Scope} {N':List Str} {ixs:List (Option Nat)} {pos:Pos} {wi:TI} {g:TG} {tt:TT} {te:TE}
def rX {pins:List (Addr×Obj)} {σ:St} {H2:Hp} {s2:Shared} {it:Addr} {fp:List Addr} {tn:Nat->Heap->Prop} {J:It} {cl:List (Str×Addr)} {R:Value->Addr->Result->Shared->Prop} {Fin:Hp->Prop} {W:Nat->Nat->List V->St->Hp->Prop} {m0:Nat}
  (hxe:X.xe=fun _ _=>False) (hc:X.calm=true) (hS:X.env.scope=S) (SC:CompSc X.N N' ixs S sc) (hcl1:∀ x c,cl.lookup x=some c->X.env.cells.lookup x=some c) (hcl2:∀ y∈sc.names,y.2=.free->∃ c,cl.lookup y.1=some c)
  (hg:∀ cl C s H fp,PG (blk X N' sc cl C s H fp) tg g) (ht:∀ cl C s H fp,PIf (blk X N' sc cl C s H fp) ifs tt) (he:∀ cl C s H fp,PE (blk X N' sc cl C s H fp) elt te)
  (I:Inv X pins σ H2 s2) (T:Turn X.prog X.w X.K tg J fp it tn) (st:tn 0 s2.heap) (hf:∀ b∈fp,iJ X pins H2 b)
  (w0:W 0 m0 [] (nZ ixs σ) (upd H2 s2.heap.objs.size (.lst []))) (hW:bG0 J g tt te s2.heap.objs.size Fin W)
  (hR:∀ H' s' m,Inv X pins σ H' s'->s'.heap.Ns (s2.heap.objs.size+1) m->H' (s2.heap.objs.size+1)=none->Fin H'->R (.ref s2.heap.objs.size) (s2.heap.objs.size+1) (.ok .next) s') :
  wpAny (model X.prog X.w) X.A (newList []) (fun acc s₃=>wpAny (model X.prog X.w) X.A (newFunctionEnv sc X.env.globals cl [] X.env.qual none .none (some X.env)) (fun cenv s₄ =>
   codeAny (model X.prog X.w) X.A (.compStart (.ListComp elt [⟨tg,iter,ifs,0⟩] sc pos) 0 (.ref it) acc { cenv with scope:=relabel sc X.env }) (R acc cenv.locals) s₄) X.xe s₃) X.xe s2:=by
 refine wpAny_newObj_type (wpAny_newFunctionEnv SC.nocell (by intro y hy;simp at hy) (fun h₁ hns₁ hsb₁=>?_) SC.kind);dsimp only at hns₁ hsb₁ ⊢;have eC:(s2.heap.push { cls:=.type "list",dict:=none,data:=.seq ([]:List Value).toArray }).objs.size=s2.heap.objs.size+1:=by rw [Heap.size_push]
 rw [eC] at hns₁ hsb₁ ⊢;have old:∀ b o,s2.heap.get? b=some o->h₁.get? b=some o:=fun b o e=>hsb₁.extBut b o (Nat.ne_of_lt (Nat.lt_succ_of_lt (Heap.lt_size e))) (Heap.get?_push_of_some _ (Heap.get?_push_of_some _ e));have hacc:h₁.get? s2.heap.objs.size=some { cls:=.type "list",data:=.seq ([]:List Value).toArray }:=hsb₁.extBut _ _ (Nat.ne_of_lt (Nat.lt_succ_self _)) (Heap.get?_push_of_some _ (Heap.get?_push_size _ rfl));have hfl:∀ b∈fp,b < s2.heap.objs.size:=fun b hb=>by
  obtain ⟨o,e,_⟩:=T.obj _ _ st b hb;exact Heap.lt_size e
 have I1:=yL (tk:=s2.toks+([]:List (Str×Value)).length) I hS SC hcl1 hcl2 hf hfl hns₁ old hacc;have st1:tn 0 h₁:=T.keep _ _ _ st fun b _ o e=>old b o e;generalize hY:blk X N' sc cl (s2.heap.objs.size+1) s2 H2 fp=Y at I1;have hfY:∀ {H':Hp},(∀ b∈fp,H' b=none)->∀ b∈fp,iJ Y [] H' b:=fun {H'} hn b hb=>by
  subst hY;refine ⟨hn b hb,Nat.ne_of_lt (Nat.lt_succ_of_lt (hfl b hb)),fun hz=>?_,.inl hb,fun x c e=>(hf b hb).2.2.2.2.1 x c (hcl1 x c e),fun p hp=>absurd (show p∈([]:List (Addr×Obj)) from hp) (by simp)⟩;rcases List.mem_cons.mp (I.stkSub b hz) with z | z
  ·exact (hf b hb).2.1 z
  ·exact (hf b hb).2.2.1 z
 have hg':PG Y tg g:=by subst hY;exact hg _ _ _ _ _
 have ht':PIf Y ifs tt:=by subst hY;exact ht _ _ _ _ _
 have he':PE Y elt te:=by subst hY;exact he _ _ _ _ _
 have hxY:Y.xe=fun _ _=>False:=by subst hY;exact hxe
 have hcY:Y.calm=true:=by subst hY;exact hc
 have hp0:∀ b∈fp,upd H2 s2.heap.objs.size (.lst []) b=none:=fun b hb=>by
  rw [aF (Nat.ne_of_lt (hfl b hb))];exact (hf b hb).1
 have loop:∀ s₃:Shared,s₃={ s2 with heap:=h₁,toks:=s2.toks+([]:List (Str×Value)).length } ->
   codeAny (model X.prog X.w) X.A (.compLoop (.ListComp elt [⟨tg,iter,ifs,0⟩] sc pos) 0 (.ref it) (.ref s2.heap.objs.size) Y.env) (R (.ref s2.heap.objs.size) (s2.heap.objs.size+1)) s₃:=by
  rintro s₃ rfl;have eP:X.prog=Y.prog:=by subst hY;rfl
  have eW:X.w=Y.w:=by subst hY;rfl
  have eA:X.A=Y.A:=by subst hY;rfl
  have eK:X.K=Y.K:=by subst hY;rfl
  have eM:model X.prog X.w=model Y.prog Y.w:=by rw [eP,eW]
  have back:∀ {σ' H' s'},Inv Y [] σ' H' s'->Inv X pins σ H' s'/\(∃ m,s'.heap.Ns (s2.heap.objs.size+1) m)/\H' (s2.heap.objs.size+1)=none:=fun {σ' H' s'} K=>by
   subst hY;obtain ⟨m,hn,_⟩:=K.loc;exact ⟨aS4 I hf K,⟨m,hn⟩,K.free⟩
  clear hY;refine yM (fun n s'=>∃ i ys σ' H',Inv Y [] σ' H' s'/\tn i s'.heap/\(∀ b∈fp,H' b=none)/\W i n ys σ' H') ?_ m0 ⟨0,[],_,_,I1,st1,hp0,w0⟩;rintro n s3 ⟨i,ys,σ3,H3,I3,st3,fr3,w3⟩;rcases hW i n ys σ3 H3 w3 with ⟨stop,ha3,fin⟩ | ⟨go,step⟩
  ·have td:=T.done Y eP.symm eW.symm eK.symm hcY i [] s3 σ3 H3 (fun _ _=>False) I3 (hfY fr3) st3 stop;rw [<- eA] at td;refine thn td fun r s4 ⟨hr,I4⟩=>?_;subst hr;obtain ⟨J4,⟨m,hn⟩,hC⟩:=back I4;exact hR H3 s4 m J4 hn hC fin
  ·have td:=T.item Y eP.symm eW.symm eK.symm hcY i [] s3 σ3 H3 (fun _ _=>False) I3 (hfY fr3) st3 go;rw [<- eA] at td;refine thn td fun r s4 ⟨u,hr,h4⟩=>?_;subst hr;refine thn h4 fun _ s5 ⟨x,H5,I5,r5,y5,st5,fr5⟩=>?_;have I5':=I5.pinned (hfY fr5) (T.obj _ _ st5);have unx:∀ {α:Type} {t:Sem α} {Q:α->Shared->Prop} {s:Shared},wpAny (model Y.prog Y.w) Y.A t Q Y.xe s->wpAny (model X.prog X.w) X.A t Q (fun _ _=>False) s:=fun h=>by rw [eM,eA,<- hxY];exact h
   refine thn (unx (hg' _ s5 σ3 H5 x u _ I5' r5 (step x H5 y5))) fun _ s6 ⟨σ6,H6,I6,q6⟩=>?_;refine thn (unx (ht' _ s6 σ6 H6 _ I6 q6)) fun b s7 ⟨H7,I7,q7⟩=>?_;have keepIt:∀ {σ' H' s'},Inv Y ([]++lR fp s5.heap) σ' H' s'->tn (i+1) s'.heap/\∀ b∈fp,H' b=none:=fun {σ' H' s'} K =>
    ⟨T.keep _ _ _ st5 fun b hb o e=>(K.pin (b,o) (List.mem_append_right _ (List.mem_append_right _ (fP hb e)))).1,fun b hb=>by
     obtain ⟨o,e,d⟩:=T.obj _ _ st5 b hb;exact (K.pin (b,o) (List.mem_append_right _ (List.mem_append_right _ (fP hb e)))).2.1⟩
   cases b with
   | false =>
    obtain ⟨m',hm,w7⟩:=q7;exact ⟨m',hm,i+1,ys,σ6,H7,I7.unpinned,(keepIt I7).1,(keepIt I7).2,w7⟩
   | true =>
    refine thn (unx (he' _ s7 σ6 H7 _ I7 q7)) fun v s8 ⟨y,H8,I8,r8,q8⟩=>?_;obtain ⟨ha8,hz8,m',hm,w8⟩:=q8;refine thn (unx (oW (X:=Y) _ s8 σ6 H8 (.ref s2.heap.objs.size) [y] (.ref s2.heap.objs.size) [v] (fun v9 H9=>v9=.non/\H9=upd H8 s2.heap.objs.size (.lst (ys++[y]))) I8 rfl (.cons r8 .nil) ⟨_,ys,y,rfl,rfl,ha8,hz8,rfl,rfl⟩)) fun v9 s9 ⟨z9,H9,I9,_,_,e9⟩=>?_;subst e9;exact ⟨m',hm,i+1,ys++[y],σ6,_,I9.unpinned,(keepIt I9).1,(keepIt I9).2,w8⟩
 have eEnv:Y.env={ (newEnv sc (s2.heap.objs.size+1) X.env.globals cl X.env.qual none .none (some X.env) builtinsNs) with scope:=relabel sc X.env }:=by subst hY;rfl
 rw [eEnv] at loop;exact codeAny_compStart_list (loop _ rfl) (T.self X.A 0 _ _ _ st1 (loop _ rfl))
def aS7 (hxe:X.xe=fun _ _=>False) (hc:X.calm=true) (hS:X.env.scope=S) (SC:CompSc X.N N' ixs S sc) (hi:PI X tg iter wi)
  (hg:∀ cl C s H fp,PG (blk X N' sc cl C s H fp) tg g) (ht:∀ cl C s H fp,PIf (blk X N' sc cl C s H fp) ifs tt) (he:∀ cl C s H fp,PE (blk X N' sc cl C s H fp) elt te)
  (hs:autoParam (∀ x,foldedSetIterable iter X.env x=pure x) ZI):PE X (.ListComp elt [⟨tg,iter,ifs,0⟩] sc pos) (aE9 ixs wi g tt te):=by
 intro pins s σ H Q I h;obtain ⟨cl,ecl,hcl1,hcl2⟩:=lU (sc:=sc) (env:=X.env) fun y hy hf=>I.ok.has y.1 (by
  have z:=SC.free y hy hf;rw [<- hS] at z;exact z)
 rw [eval_ListComp];refine wpAny_comprehension_free (use:=none) rfl hs ecl SC.kind SC.loc ?_;refine thn (hi pins s σ H _ I h) fun v s1 h1=>thn h1 fun itv s2 h2=>?_;obtain ⟨it,fp,tn,J,H2,e,I2,T,st2,f2,hw⟩:=h2;subst e;obtain ⟨W,⟨m0,w0⟩,hW⟩:=hw _ (I2.hok.fresh (Nat.le_refl _));refine rX (R:=fun acc C=>compPost (model X.prog X.w) X.A X.xe none (EP X pins σ Q) acc C) hxe hc hS SC hcl1 hcl2 hg ht he I2 T st2 f2 w0 hW fun H' s' m J' hn hC fin=>?_;refine ⟨m,hn,fun h' hs'=>?_⟩;have hlt:=J'.lt;refine ⟨.ref s2.heap.objs.size,H',J'.turned (it:=s2.heap.objs.size+1) (t':=s'.toks) (fun b o hb e=>hs'.extBut b o hb e) hC (Nat.ne_of_gt (Nat.lt_succ_of_lt I2.lt)) (.inr (Nat.le_succ_of_le I2.sz)) (fun x c e z=>?_) (fun p hp z=>?_),rfl,fin⟩
 ·obtain ⟨v',q⟩:=I2.cell x c e;exact qI z q.lt
 ·exact qI z (Heap.lt_size (I2.pin p hp).1)
def uX {y:Str} {i:Nat} {py spos:Pos} (hxe:X.xe=fun _ _=>False) (hc:X.calm=true) (hS:X.env.scope=S) (SC:CompSc X.N N' ixs S sc) (hi:PI X tg iter wi)
  (hg:∀ cl C s H fp,PG (blk X N' sc cl C s H fp) tg g) (ht:∀ cl C s H fp,PIf (blk X N' sc cl C s H fp) ifs tt) (he:∀ cl C s H fp,PE (blk X N' sc cl C s H fp) elt te)
  (hN:X.N.Nodup) (hiN:X.N[i]?=some y) (hy:X.env.scope.names.lookup y=some .local) (hsw:swapsWith (.ListComp elt [⟨tg,iter,ifs,0⟩] sc pos) (some (.Name y py)) spos.line X.env=pure true)
  (hs:autoParam (∀ x,foldedSetIterable iter X.env x=pure x) ZI):PS X (.Assign [.Name y py] (.ListComp elt [⟨tg,iter,ifs,0⟩] sc pos) spos) (aR1 (aE9 ixs wi g tt te) (wL i)):=by
 intro pins s σ H D I h;obtain ⟨cl,ecl,hcl1,hcl2⟩:=lU (sc:=sc) (env:=X.env) fun y hy hf=>I.ok.has y.1 (by
  have z:=SC.free y hy hf;rw [<- hS] at z;exact z)
 rw [exec_Assign_Name_used _ _ _ _ hsw];refine wpAny_bind (wpAny_standAt (wpAny_bind ?_));show wpAny _ _ (do let _ <- comprehension (.ListComp elt [⟨tg,iter,ifs,0⟩] sc pos) sc X.env _ (newList []) false (eval iter X.env) (some (assign (.Name y py) X.env))) _ _ s;refine wpAny_bind (thn (wpAny_comprehension_free (use:=some (assign (.Name y py) X.env)) (Q:=fun _ s'=>SP X pins D .next s') rfl hs ecl SC.kind SC.loc ?_) fun _ s' hq=>wpAny_pure (wpAny_pure hq));refine thn (hi pins s σ H _ I h) fun v s1 h1=>thn h1 fun itv s2 h2=>?_;obtain ⟨it,fp,tn,J,H2,e,I2,T,st2,f2,hw⟩:=h2;subst e;obtain ⟨W,⟨m0,w0⟩,hW⟩:=hw _ (I2.hok.fresh (Nat.le_refl _));refine rX (R:=fun acc C=>compPost (model X.prog X.w) X.A X.xe (some (assign (.Name y py) X.env)) (fun _ s'=>SP X pins D .next s') acc C) hxe hc hS SC hcl1 hcl2 hg ht he I2 T st2 f2 w0 hW fun H' s' m J' hn hC fin=>?_;show wpAny _ _ (assign (.Name y py) X.env (.ref s2.heap.objs.size)) _ _ s';refine wpAny_assign_Name (oP (v:=.ref s2.heap.objs.size) J' hN hiN (.inl hy) rfl (fun s'' J2 hch=>?_) (.inr hy));obtain ⟨a,hsb,ha⟩:=hch;have clt:∀ x c,X.env.cells.lookup x=some c->c < s2.heap.objs.size:=fun x c e=>by
  obtain ⟨v',q⟩:=I2.cell x c e;exact q.lt
 have hlt:=I2.lt;have hne:s2.heap.objs.size+1≠a:=by
  rcases ha with z | z
  ·rw [z];exact Nat.ne_of_gt (Nat.lt_succ_of_lt hlt)
  ·exact Nat.ne_of_gt (Nat.lt_succ_of_lt (clt _ _ z))
 refine ⟨m,hn.sameBut hsb hne,fun h' hs'=>⟨_,H',J2.turned (it:=s2.heap.objs.size+1) (t':=s''.toks) (fun b o hb e=>hs'.extBut b o hb e) hC (Nat.ne_of_gt (Nat.lt_succ_of_lt hlt)) (.inr (Nat.le_succ_of_le I2.sz)) (fun x c e z=>?_) (fun p hp z=>?_),fin⟩⟩
 ·exact qI z (clt x c e)
 ·exact qI z (Heap.lt_size (I2.pin p hp).1)
end
end L2
set_option autoImplicit false
namespace DL
open PySem PySem.Spec PyProof.Rows L2
set_option genInjectivity true in
inductive W where
 | d (x:PyData)
 | c (i:Nat)
 | v (u:V)
set_option genInjectivity true in
inductive Cell where
 | l (xs:List PyData)
 | k (kvs:List (PyData×PyData))
 | t (P:Addr) (pos:Pos) (q:Str)
 | o (C:Addr) (fs:List (Str×W))
 | r (is:List Nat)
abbrev aA:=List Cell
abbrev DSt:=List (Option W)
abbrev DK:=W->aA->Prop
abbrev DTE:=DSt->aA->DK->Prop
abbrev DTT:=DSt->aA->(Bool->aA->Prop)->Prop
abbrev DTA:=DSt->aA->(List W->aA->Prop)->Prop
abbrev DTF:=DSt->aA->(List PyData->aA->Prop)->Prop
def KT (K:Frag) (a:Addr) (xs:List V):Prop :=
 ∃ (o:Obj) (its:Array Value) (n:Nat),K.lookup a=some o/\o.cls=.type "tuple"/\o.dict=none/\o.data=.seq its n/\its.size<=sizeLine/\Vals xs its.toList
def KL (K:Frag) (a:Addr) (xs:List V):Prop :=
 ∃ (o:Obj) (its:Array Value) (n:Nat),K.lookup a=some o/\o.cls=.type "list"/\o.dict=none/\o.data=.seq its n/\its.size<=sizeLine/\Vals xs its.toList
def TupAt (K:Frag) (A:List Addr) (H:Hp) (a:Addr) (xs:List V):Prop:=(a∉A/\Rd H a (.tup xs))\/KT K a xs
def LstAt (K:Frag) (A:List Addr) (H:Hp) (a:Addr) (xs:List V):Prop:=(a∉A/\Rd H a (.lst xs))\/KL K a xs
def TupAt.sq {K:Frag} {A:List Addr} {H:Hp} {a:Addr} {xs:List V} (h:TupAt K A H a xs):SqT K H a xs:=h.elim (fun z=>.inl z.2) fun ⟨o,its,n,h1,h2,_,h4⟩=>.inr ⟨o,its,n,h1,h2,h4⟩
def LstAt.sq {K:Frag} {A:List Addr} {H:Hp} {a:Addr} {xs:List V} (h:LstAt K A H a xs):SqL K H a xs:=h.elim (fun z=>.inl z.2) .inr
noncomputable def bJ:PyData->Option Key
 | .int i=>some (.inl i)
 | .str x=>if PyData.strOk x=true then some (.inr x) else none
 | _=>none
mutual
noncomputable def Rep (K:Frag) (A:List Addr) (H:Hp):PyData->V->Prop
 | .none,v=>v=.non
 | .bool b,v=>v=.bl b
 | .int i,v=>v=.int i
 | .str x,v=>v=.str x/\PyData.strOk x=true
 | .list xs,v=>∃ a vs,v=.ref a/\LstAt K A H a vs/\Reps K A H xs vs
 | .tuple xs,v=>∃ a vs,v=.ref a/\TupAt K A H a vs/\Reps K A H xs vs
 | .dict kvs,v=>∃ a r,v=.ref a/\(a∉A/\Rd H a (.dK r))/\RepKs K A H kvs r
noncomputable def Reps (K:Frag) (A:List Addr) (H:Hp):List PyData->List V->Prop
 | [],vs=>vs=[]
 | x::xs,vs=>∃ v r,vs=v::r/\Rep K A H x v/\Reps K A H xs r
noncomputable def RepKs (K:Frag) (A:List Addr) (H:Hp):List (PyData×PyData)->List (Key×V)->Prop
 | [],r=>r=[]
 | p::kvs,r=>∃ q r',r=q::r'/\RepP K A H p q/\RepKs K A H kvs r'
noncomputable def RepP (K:Frag) (A:List Addr) (H:Hp):PyData×PyData->Key×V->Prop
 | (k,x),q=>bJ k=some q.1/\Rep K A H x q.2
end
theorem Reps.length {K:Frag} {A:List Addr} {H:Hp}:∀ {xs:List PyData} {vs:List V},Reps K A H xs vs->vs.length=xs.length
 | [],_,h=>by rw [Reps] at h;subst h;rfl
 | _::xs,_,h=>by
  rw [Reps] at h;obtain ⟨v,r,rfl,_,h⟩:=h;rw [List.length_cons,List.length_cons,Reps.length h]
theorem Reps.get {K:Frag} {A:List Addr} {H:Hp}:∀ {xs:List PyData} {vs:List V} {i:Nat} {x:PyData},Reps K A H xs vs->xs[i]?=some x->∃ v,vs[i]?=some v/\Rep K A H x v
 | [],_,_,_,_,e=>by simp at e
 | y::xs,_,0,x,h,e=>by
  rw [Reps] at h;obtain ⟨v,r,rfl,hv,_⟩:=h;simp at e;subst e;exact ⟨v,rfl,hv⟩
 | y::xs,_,i+1,x,h,e=>by
  rw [Reps] at h;obtain ⟨v,r,rfl,_,h⟩:=h;obtain ⟨w,e1,e2⟩:=Reps.get (i:=i) h (by simpa using e);exact ⟨w,by simpa using e1,e2⟩
theorem Reps.append {K:Frag} {A:List Addr} {H:Hp} {ys:List PyData} {ws:List V} (h2:Reps K A H ys ws):∀ {xs:List PyData} {vs:List V},Reps K A H xs vs->Reps K A H (xs++ys) (vs++ws)
 | [],_,h=>by rw [Reps] at h;subst h;exact h2
 | x::xs,_,h=>by
  rw [Reps] at h;obtain ⟨v,r,rfl,hv,h⟩:=h;rw [List.cons_append,Reps];exact ⟨v,r++ws,rfl,hv,Reps.append h2 h⟩
def Reps.one {K:Frag} {A:List Addr} {H:Hp} {x:PyData} {v:V} (h:Rep K A H x v):Reps K A H [x] [v]:=by
 rw [Reps];exact ⟨v,[],rfl,h,by rw [Reps]⟩
def Reps.nil {K:Frag} {A:List Addr} {H:Hp}:Reps K A H [] []:=by rw [Reps]
def Reps.cons {K:Frag} {A:List Addr} {H:Hp} {x:PyData} {xs:List PyData} {v:V} {vs:List V} (h:Rep K A H x v) (hs:Reps K A H xs vs):Reps K A H (x::xs) (v::vs):=by
 rw [Reps];exact ⟨v,vs,rfl,h,hs⟩
theorem Reps.drop {K:Frag} {A:List Addr} {H:Hp}:∀ {xs:List PyData} {vs:List V} (n:Nat),Reps K A H xs vs->Reps K A H (xs.drop n) (vs.drop n)
 | _,_,0,h=>h
 | [],_,n+1,h=>by rw [Reps] at h;subst h;rw [List.drop_nil,List.drop_nil];exact .nil
 | x::xs,_,n+1,h=>by
  rw [Reps] at h;obtain ⟨v,r,rfl,_,h⟩:=h;exact Reps.drop n h
theorem Reps.take {K:Frag} {A:List Addr} {H:Hp}:∀ {xs:List PyData} {vs:List V} (n:Nat),Reps K A H xs vs->Reps K A H (xs.take n) (vs.take n)
 | _,_,0,h=>.nil
 | [],_,n+1,h=>by rw [Reps] at h;subst h;rw [List.take_nil,List.take_nil];exact .nil
 | x::xs,_,n+1,h=>by
  rw [Reps] at h;obtain ⟨v,r,rfl,hv,h⟩:=h;rw [List.take_succ_cons,List.take_succ_cons];exact .cons hv (Reps.take n h)
theorem Reps.set {K:Frag} {A:List Addr} {H:Hp} {x:PyData} {v:V} (hx:Rep K A H x v):∀ {xs:List PyData} {vs:List V} (i:Nat),Reps K A H xs vs->Reps K A H (xs.set i x) (vs.set i v)
 | [],_,i,h=>by rw [Reps] at h;subst h;exact .nil
 | y::xs,_,0,h=>by
  rw [Reps] at h;obtain ⟨w,r,rfl,_,h⟩:=h;exact .cons hx h
 | y::xs,_,i+1,h=>by
  rw [Reps] at h;obtain ⟨w,r,rfl,hw,h⟩:=h;exact .cons hw (Reps.set hx i h)
mutual
theorem Rep.anti {K:Frag} {A B:List Addr} {H:Hp} (hs:∀ a∈B,a∈A):∀ {d:PyData} {v:V},Rep K A H d v->Rep K B H d v
 | .none,_,h=>by rw [Rep] at h ⊢;exact h
 | .bool _,_,h=>by rw [Rep] at h ⊢;exact h
 | .int _,_,h=>by rw [Rep] at h ⊢;exact h
 | .str _,_,h=>by rw [Rep] at h ⊢;exact h
 | .list xs,_,h=>by
  rw [Rep] at h ⊢;obtain ⟨a,vs,e,h1,h2⟩:=h;exact ⟨a,vs,e,h1.elim (fun z=>.inl ⟨fun w=>z.1 (hs _ w),z.2⟩) .inr,Reps.anti hs h2⟩
 | .tuple xs,_,h=>by
  rw [Rep] at h ⊢;obtain ⟨a,vs,e,h1,h2⟩:=h;exact ⟨a,vs,e,h1.elim (fun z=>.inl ⟨fun w=>z.1 (hs _ w),z.2⟩) .inr,Reps.anti hs h2⟩
 | .dict kvs,_,h=>by
  rw [Rep] at h ⊢;obtain ⟨a,r,e,h1,h2⟩:=h;exact ⟨a,r,e,⟨fun w=>h1.1 (hs _ w),h1.2⟩,RepKs.anti hs h2⟩
theorem Reps.anti {K:Frag} {A B:List Addr} {H:Hp} (hs:∀ a∈B,a∈A):∀ {ds:List PyData} {vs:List V},Reps K A H ds vs->Reps K B H ds vs
 | [],_,h=>by rw [Reps] at h ⊢;exact h
 | x::xs,_,h=>by
  rw [Reps] at h ⊢;obtain ⟨v,r,e,h1,h2⟩:=h;exact ⟨v,r,e,Rep.anti hs h1,Reps.anti hs h2⟩
theorem RepKs.anti {K:Frag} {A B:List Addr} {H:Hp} (hs:∀ a∈B,a∈A):∀ {ds:List (PyData×PyData)} {vs:List (Key×V)},RepKs K A H ds vs->RepKs K B H ds vs
 | [],_,h=>by rw [RepKs] at h ⊢;exact h
 | p::xs,_,h=>by
  rw [RepKs] at h ⊢;obtain ⟨v,r,e,h1,h2⟩:=h;exact ⟨v,r,e,RepP.anti hs h1,RepKs.anti hs h2⟩
theorem RepP.anti {K:Frag} {A B:List Addr} {H:Hp} (hs:∀ a∈B,a∈A):∀ {p:PyData×PyData} {q:Key×V},RepP K A H p q->RepP K B H p q
 | (k,x),q,h=>by
  rw [RepP] at h ⊢;exact ⟨h.1,Rep.anti hs h.2⟩
end
mutual
theorem Rep.go {K:Frag} {A B:List Addr} {H H':Hp} (hs:∀ a o,a∉A->H a=some o->a∉B/\H' a=some o):∀ {d:PyData} {v:V},Rep K A H d v->Rep K B H' d v
 | .none,_,h=>by rw [Rep] at h ⊢;exact h
 | .bool _,_,h=>by rw [Rep] at h ⊢;exact h
 | .int _,_,h=>by rw [Rep] at h ⊢;exact h
 | .str _,_,h=>by rw [Rep] at h ⊢;exact h
 | .list xs,_,h=>by
  rw [Rep] at h ⊢;obtain ⟨a,vs,e,h1,h2⟩:=h;refine ⟨a,vs,e,?_,Reps.go hs h2⟩;rcases h1 with ⟨ha,h1 | ⟨o,h1⟩⟩ | h1
  ·exact .inl ⟨(hs a _ ha h1).1,.inl (hs a _ ha h1).2⟩
  ·exact .inl ⟨(hs a _ ha h1).1,.inr ⟨o,(hs a _ ha h1).2⟩⟩
  ·exact .inr h1
 | .tuple xs,_,h=>by
  rw [Rep] at h ⊢;obtain ⟨a,vs,e,h1,h2⟩:=h;refine ⟨a,vs,e,?_,Reps.go hs h2⟩;rcases h1 with ⟨ha,h1 | ⟨o,h1⟩⟩ | h1
  ·exact .inl ⟨(hs a _ ha h1).1,.inl (hs a _ ha h1).2⟩
  ·exact .inl ⟨(hs a _ ha h1).1,.inr ⟨o,(hs a _ ha h1).2⟩⟩
  ·exact .inr h1
 | .dict kvs,_,h=>by
  rw [Rep] at h ⊢;obtain ⟨a,r,e,⟨ha,h1⟩,h2⟩:=h;refine ⟨a,r,e,?_,RepKs.go hs h2⟩;rcases h1 with h1 | ⟨o,h1⟩
  ·exact ⟨(hs a _ ha h1).1,.inl (hs a _ ha h1).2⟩
  ·exact ⟨(hs a _ ha h1).1,.inr ⟨o,(hs a _ ha h1).2⟩⟩
theorem Reps.go {K:Frag} {A B:List Addr} {H H':Hp} (hs:∀ a o,a∉A->H a=some o->a∉B/\H' a=some o):∀ {ds:List PyData} {vs:List V},Reps K A H ds vs->Reps K B H' ds vs
 | [],_,h=>by rw [Reps] at h ⊢;exact h
 | x::xs,_,h=>by
  rw [Reps] at h ⊢;obtain ⟨v,r,e,h1,h2⟩:=h;exact ⟨v,r,e,Rep.go hs h1,Reps.go hs h2⟩
theorem RepKs.go {K:Frag} {A B:List Addr} {H H':Hp} (hs:∀ a o,a∉A->H a=some o->a∉B/\H' a=some o):∀ {ds:List (PyData×PyData)} {vs:List (Key×V)},RepKs K A H ds vs->RepKs K B H' ds vs
 | [],_,h=>by rw [RepKs] at h ⊢;exact h
 | p::xs,_,h=>by
  rw [RepKs] at h ⊢;obtain ⟨v,r,e,h1,h2⟩:=h;exact ⟨v,r,e,RepP.go hs h1,RepKs.go hs h2⟩
theorem RepP.go {K:Frag} {A B:List Addr} {H H':Hp} (hs:∀ a o,a∉A->H a=some o->a∉B/\H' a=some o):∀ {p:PyData×PyData} {q:Key×V},RepP K A H p q->RepP K B H' p q
 | (k,x),q,h=>by
  rw [RepP] at h ⊢;exact ⟨h.1,Rep.go hs h.2⟩
end
def TbOk (A:List Addr) (H:Hp) (P:Addr) (pos:Pos) (q:Str):Prop:=∃ ps,H P=some (.tbl ps)/\TriplesOk ps.toList/\(codeAmong pos ps.toList=none\/∃ c,codeAmong pos ps.toList=some (.ref c)/\c∉A/\H c=some (.ext fun h=>h.CodeRec (.ref c) q))
def TbOk.go {A A':List Addr} {H H':Hp} {P:Addr} {pos:Pos} {q:Str} (k:TbOk A H P pos q) (e:H' P=H P) (hs:∀ a o,a∉A->H a=some o->a∉A'/\H' a=some o):TbOk A' H' P pos q:=by
 obtain ⟨ps,h1,h2,h3⟩:=k;refine ⟨ps,by rw [e];exact h1,h2,h3.imp id fun ⟨c,e1,e2,e3⟩=>⟨c,e1,hs c _ e2 e3⟩⟩
noncomputable def RepW (K:Frag) (A μ:List Addr) (H:Hp):W->V->Prop
 | .d x,v=>Rep K A H x v
 | .c i,v=>∃ a,μ[i]?=some a/\v=.ref a
 | .v u,v=>v=u
noncomputable def FsOk (K:Frag) (A μ:List Addr) (H:Hp):List (Str×W)->List (Str×V)->Prop
 | [],vs=>vs=[]
 | p::fs,vs=>∃ v vr,vs=(p.1,v)::vr/\RepW K A μ H p.2 v/\FsOk K A μ H fs vr
noncomputable def IsOk (μ:List Addr):List Nat->List V->Prop
 | [],vs=>vs=[]
 | i::is,vs=>∃ a vr,vs=V.ref a::vr/\μ[i]?=some a/\IsOk μ is vr
noncomputable def wRefs:W->List Nat
 | .c i=>[i]
 | _=>[]
noncomputable def cRefs:Cell->List Nat
 | .o _ fs=>(fs.map fun p=>wRefs p.2).flatten
 | .r is=>is
 | _=>[]
noncomputable def CellOk (K:Frag) (A μ:List Addr) (H:Hp) (a:Addr):Cell->Prop
 | .l xs=>∃ vs,H a=some (.lst vs)/\Reps K A H xs vs
 | .k kvs=>∃ r,H a=some (.dK r)/\RepKs K A H kvs r
 | .t P pos q=>a=P/\TbOk A H P pos q
 | .o C fs=>∃ dx vs,H a=some (.ins C dx vs)/\FsOk K A μ H fs vs
 | .r is=>∃ vs,H a=some (.lst vs)/\IsOk μ is vs
def RepW.go {K:Frag} {A A' μ μ':List Addr} {H H':Hp} (hs:∀ a o,a∉A->H a=some o->a∉A'/\H' a=some o) {w:W} {v:V} (hm:∀ i∈wRefs w,∀ a,μ[i]?=some a->μ'[i]?=some a) (r:RepW K A μ H w v):RepW K A' μ' H' w v:=by
 cases w with
 | d y=>exact Rep.go hs r
 | v u=>exact r
 | c i =>
  obtain ⟨a,e,z⟩:=r;exact ⟨a,hm i List.mem_cons_self a e,z⟩
theorem FsOk.go {K:Frag} {A A' μ μ':List Addr} {H H':Hp} (hs:∀ a o,a∉A->H a=some o->a∉A'/\H' a=some o):∀ {fs:List (Str×W)} {vs:List (Str×V)},(∀ i∈(fs.map fun p=>wRefs p.2).flatten,∀ a,μ[i]?=some a->μ'[i]?=some a)->FsOk K A μ H fs vs->FsOk K A' μ' H' fs vs
 | [],_,_,h=>h
 | p::fs,_,hm,⟨v,vr,e,r,h⟩=>⟨v,vr,e,r.go hs fun i hi=>hm i (by rw [List.map_cons,List.flatten_cons];exact List.mem_append_left _ hi),FsOk.go hs (fun i hi=>hm i (by rw [List.map_cons,List.flatten_cons];exact List.mem_append_right _ hi)) h⟩
theorem IsOk.go {μ μ':List Addr}:∀ {is:List Nat} {vs:List V},(∀ i∈is,∀ a,μ[i]?=some a->μ'[i]?=some a)->IsOk μ is vs->IsOk μ' is vs
 | [],_,_,h=>h
 | i::is,_,hm,⟨a,vr,e,r,h⟩=>⟨a,vr,e,hm i List.mem_cons_self a r,IsOk.go (fun j hj=>hm j (List.mem_cons_of_mem _ hj)) h⟩
theorem FsOk.lt {K:Frag} {A μ:List Addr} {H:Hp}:∀ {fs:List (Str×W)} {vs:List (Str×V)},FsOk K A μ H fs vs->∀ i∈(fs.map fun p=>wRefs p.2).flatten,i < μ.length
 | [],_,_,i,hi=>by simp at hi
 | p::fs,_,⟨v,vr,e,r,h⟩,i,hi=>by
  rw [List.map_cons,List.flatten_cons] at hi;rcases List.mem_append.mp hi with hi | hi
  ·obtain ⟨f,w⟩:=p;cases w with
   | c j =>
    obtain ⟨a,e1,_⟩:=r;rw [List.mem_singleton.mp hi];exact (List.getElem?_eq_some_iff.mp e1).1
   | d x=>cases hi
   | v x=>cases hi
  ·exact FsOk.lt h i hi
theorem IsOk.lt {μ:List Addr}:∀ {is:List Nat} {vs:List V},IsOk μ is vs->∀ i∈is,i < μ.length
 | [],_,_,i,hi=>by cases hi
 | j::is,_,⟨a,vr,e,r,h⟩,i,hi=>by
  rcases List.mem_cons.mp hi with hi | hi
  ·rw [hi];exact (List.getElem?_eq_some_iff.mp r).1
  ·exact IsOk.lt h i hi
def CellOk.go {K:Frag} {A A' μ μ':List Addr} {H H':Hp} (hs:∀ a o,a∉A->H a=some o->a∉A'/\H' a=some o) {a:Addr} {c:Cell} (hm:∀ i∈cRefs c,∀ b,μ[i]?=some b->μ'[i]?=some b) (k:CellOk K A μ H a c) (e:H' a=H a):CellOk K A' μ' H' a c:=by
 cases c with
 | l xs=>obtain ⟨vs,q,r⟩:=k;exact ⟨vs,by rw [e];exact q,r.go hs⟩
 | k kvs=>obtain ⟨vs,q,r⟩:=k;exact ⟨vs,by rw [e];exact q,r.go hs⟩
 | t P pos q=>obtain ⟨rfl,q⟩:=k;exact ⟨rfl,q.go e hs⟩
 | o C fs=>obtain ⟨dx,vs,q,r⟩:=k;exact ⟨dx,vs,by rw [e];exact q,r.go hs hm⟩
 | r is=>obtain ⟨vs,q,r⟩:=k;exact ⟨vs,by rw [e];exact q,r.go hm⟩
def CellOk.lt {K:Frag} {A μ:List Addr} {H:Hp} {a:Addr} {c:Cell} (k:CellOk K A μ H a c):∀ i∈cRefs c,i < μ.length:=by
 cases c with
 | l xs=>intro i hi;cases hi
 | k kvs=>intro i hi;cases hi
 | t P pos q=>intro i hi;cases hi
 | o C fs=>obtain ⟨dx,vs,q,r⟩:=k;exact r.lt
 | r is=>obtain ⟨vs,q,r⟩:=k;exact r.lt
def aF0 (h:aA):Prop:=∀ c∈h,∀ i∈cRefs c,i < h.length
def okP (h h1:aA):Prop:=∀ (i:Nat) (c:Cell),i < h.length->h1[i]?=some c->(∀ j∈cRefs c,j < h.length)\/h[i]?=some c
structure HeapRep (K:Frag) (A μ:List Addr) (h:aA) (H:Hp):Prop where
 len:μ.length=h.length
 nd:μ.Nodup
 sub:∀ a∈μ,a∈A
 trk:∀ a∈A,∃ o,H a=some o
 cel:∀ (i:Nat) (a:Addr) (c:Cell),μ[i]?=some a->h[i]?=some c->CellOk K A μ H a c
def HeapRep.val {K:Frag} {A μ:List Addr} {h:aA} {H:Hp} (R:HeapRep K A μ h H) (i:Nat) (a:Addr) (xs:List PyData) (e1:μ[i]?=some a) (e2:h[i]?=some (Cell.l xs)):∃ vs,H a=some (.lst vs)/\Reps K A H xs vs:=R.cel i a _ e1 e2
def HeapRep.vad {K:Frag} {A μ:List Addr} {h:aA} {H:Hp} (R:HeapRep K A μ h H) (i:Nat) (a:Addr) (kvs:List (PyData×PyData)) (e1:μ[i]?=some a) (e2:h[i]?=some (Cell.k kvs)):∃ r,H a=some (.dK r)/\RepKs K A H kvs r:=R.cel i a _ e1 e2
def HeapRep.refs {K:Frag} {A μ:List Addr} {h:aA} {H:Hp} (R:HeapRep K A μ h H):aF0 h:=fun c hc i hi=>by
 obtain ⟨j,hj,rfl⟩:=List.mem_iff_getElem.mp hc;have hj':j < μ.length:=by rw [R.len];exact hj
 rw [<- R.len];exact (R.cel j μ[j] h[j] (List.getElem?_eq_getElem hj') (List.getElem?_eq_getElem hj)).lt i hi
structure EnvRep (K:Frag) (A μ:List Addr) (H:Hp) (δ:DSt) (σ:L2.St):Prop where
 len:δ.length=σ.length
 val:∀ (i:Nat) (w:W),δ[i]?=some (some w)->∃ v,σ[i]?=some (some v)/\RepW K A μ H w v
structure Ext (A A' μ μ':List Addr) (H H':Hp):Prop where
 sub:∀ a∈A,a∈A'
 new:∀ a∈A',a∈A\/H a=none
 pre:∃ ν,μ'=μ++ν/\∀ a∈ν,H a=none
 keep:∀ a o,a∉μ->H a=some o->H' a=some o
 trk:∀ a o,H a=some o->∃ o',H' a=some o'
section
variable {K:Frag} {A A' A1 A2 μ μ' μ1 μ2:List Addr} {H H' H1 H2:Hp} {h h':aA}
def Ext.refl:Ext A A μ μ H H:=⟨fun _ z=>z,fun _ z=>.inl z,⟨[],by simp,fun _ z=>(nomatch z)⟩,fun _ _ _ z=>z,fun _ o z=>⟨o,z⟩⟩
def Ext.back (x:Ext A A' μ μ' H H') {a:Addr} (e:H' a=none):H a=none:=by
 cases q:H a with
 | none=>rfl
 | some o=>obtain ⟨o',z⟩:=x.trk a o q;rw [e] at z;cases z
def Ext.trans (x:Ext A A1 μ μ1 H H1) (y:Ext A1 A2 μ1 μ2 H1 H2):Ext A A2 μ μ2 H H2:=by
 obtain ⟨ν,e1,n1⟩:=x.pre;obtain ⟨ν',e2,n2⟩:=y.pre;refine ⟨fun a z=>y.sub a (x.sub a z),fun a z=>?_,⟨ν++ν',by rw [e2,e1,List.append_assoc],fun a z=>?_⟩,fun a o ha q=>y.keep a o (fun z=>?_) (x.keep a o ha q),fun a o q=>?_⟩
 ·rcases y.new a z with z | z
  ·exact x.new a z
  ·exact .inr (x.back z)
 ·rcases List.mem_append.mp z with z | z
  ·exact n1 a z
  ·exact x.back (n2 a z)
 ·rw [e1] at z;rcases List.mem_append.mp z with z | z
  ·exact ha z
  ·rw [n1 a z] at q;cases q
 ·obtain ⟨o1,q1⟩:=x.trk a o q;exact y.trk a o1 q1
def Ext.go (x:Ext A A' μ μ' H H') (hs:∀ a∈μ,a∈A):∀ a o,a∉A->H a=some o->a∉A'/\H' a=some o:=fun a o ha q=>by
 refine ⟨fun z=>?_,x.keep a o (fun z=>ha (hs a z)) q⟩;rcases x.new a z with z | z
 ·exact ha z
 ·rw [z] at q;cases q
def Rep.ext (x:Ext A A' μ μ' H H') (hs:∀ a∈μ,a∈A) {d:PyData} {v:V} (r:Rep K A H d v):Rep K A' H' d v:=r.go (x.go hs)
def Reps.ext (x:Ext A A' μ μ' H H') (hs:∀ a∈μ,a∈A) {d:List PyData} {v:List V} (r:Reps K A H d v):Reps K A' H' d v:=r.go (x.go hs)
def RepKs.ext (x:Ext A A' μ μ' H H') (hs:∀ a∈μ,a∈A) {d:List (PyData×PyData)} {v:List (Key×V)} (r:RepKs K A H d v):RepKs K A' H' d v:=r.go (x.go hs)
def CellOk.some {a:Addr} {c:Cell} (k:CellOk K A μ H a c):∃ o,H a=some o:=by
 cases c with
 | l xs=>obtain ⟨vs,q,_⟩:=k;exact ⟨_,q⟩
 | k kvs=>obtain ⟨vs,q,_⟩:=k;exact ⟨_,q⟩
 | t P pos q=>obtain ⟨rfl,vs,q,_⟩:=k;exact ⟨_,q⟩
 | o C fs=>obtain ⟨dx,vs,q,_⟩:=k;exact ⟨_,q⟩
 | r is=>obtain ⟨vs,q,_⟩:=k;exact ⟨_,q⟩
def Ext.look (x:Ext A A' μ μ' H H') (i:Nat) (a:Addr) (e:μ[i]?=some a):μ'[i]?=some a:=by
 obtain ⟨ν,e1,_⟩:=x.pre;rw [e1,List.getElem?_append_left (List.getElem?_eq_some_iff.mp e).1];exact e
def CellOk.ext (x:Ext A A' μ μ' H H') (hs:∀ a∈μ,a∈A) {a:Addr} {c:Cell} (k:CellOk K A μ H a c) (e:H' a=H a):CellOk K A' μ' H' a c:=k.go (x.go hs) (fun i _ a=>x.look i a) e
def CellOk.anti {a:Addr} {c:Cell} (hs:∀ a∈A',a∈A) (hm:∀ i∈cRefs c,∀ b,μ[i]?=Option.some b->μ'[i]?=Option.some b) (k:CellOk K A μ H a c):CellOk K A' μ' H a c:=k.go (fun a o n e=>⟨fun z=>n (hs a z),e⟩) hm rfl
def RepW.ext (x:Ext A A' μ μ' H H') (hs:∀ a∈μ,a∈A) {w:W} {v:V} (r:RepW K A μ H w v):RepW K A' μ' H' w v:=by
 cases w with
 | d y=>exact Rep.ext x hs r
 | v u=>exact r
 | c i =>
  obtain ⟨a,e,z⟩:=r;obtain ⟨ν,e1,_⟩:=x.pre;refine ⟨a,?_,z⟩;rw [e1,List.getElem?_append_left (List.getElem?_eq_some_iff.mp e).1];exact e
def EnvRep.ext (x:Ext A A' μ μ' H H') (hs:∀ a∈μ,a∈A) {δ:DSt} {σ:L2.St} (r:EnvRep K A μ H δ σ):EnvRep K A' μ' H' δ σ :=
 ⟨r.len,fun i w e=>by
  obtain ⟨v,e1,r1⟩:=r.val i w e;exact ⟨v,e1,r1.ext x hs⟩⟩
def EnvRep.set {δ:DSt} {σ:L2.St} {w:W} {v:V} (r:EnvRep K A μ H δ σ) (i:Nat) (rw':RepW K A μ H w v):EnvRep K A μ H (δ.set i (some w)) (σ.set i (some v)):=by
 refine ⟨by rw [List.length_set,List.length_set];exact r.len,fun j u e=>?_⟩
 by_cases hj:i=j
 ·subst hj;have hi:i < δ.length:=by
   have:=(List.getElem?_eq_some_iff.mp e).1
   rwa [List.length_set] at this
  rw [List.getElem?_set_self hi] at e;cases e;exact ⟨v,List.getElem?_set_self (by rw [<- r.len];exact hi),rw'⟩
 ·rw [List.getElem?_set_ne hj] at e ⊢;exact r.val j u e
def bB {p:Addr} {o:HO} (hp:H p=none):Ext A A μ μ H (upd H p o) :=
 ⟨fun _ z=>z,fun _ z=>.inl z,⟨[],by simp,fun _ z=>(nomatch z)⟩,fun a o' _ q=>by rw [aF (aS q hp)];exact q,fun a o' q=>⟨o',by rw [aF (aS q hp)];exact q⟩⟩
def HeapRep.fresh {p:Addr} {o:HO} (R:HeapRep K A μ h H) (hp:H p=none):HeapRep K A μ h (upd H p o) :=
 ⟨R.len,R.nd,R.sub,fun a z=>by
  obtain ⟨o',q⟩:=R.trk a z;exact ⟨o',by rw [aF (aS q hp)];exact q⟩,fun i a c e1 e2=>by
  have k:=R.cel i a c e1 e2;obtain ⟨o',q⟩:=k.some;exact k.ext (bB (μ:=μ) hp) R.sub (aF (aS q hp))⟩
def HeapRep.notA {p:Addr} (R:HeapRep K A μ h H) (hp:H p=none):p∉A:=fun z=>by
 obtain ⟨o,q⟩:=R.trk p z;rw [hp] at q;cases q
def dD {p:Addr} {xs:List PyData} {vs:List V} (R:HeapRep K A μ h H) (hp:H p=none) (r:Reps K A H xs vs):Rep K A (upd H p (.tup vs)) (.tuple xs) (.ref p):=by
 rw [Rep];exact ⟨p,vs,rfl,.inl ⟨R.notA hp,.inl aN⟩,r.ext (bB (μ:=μ) hp) R.sub⟩
def cM {p:Addr} {o:HO} (hp:H p=none):Ext A (p::A) μ (μ++[p]) H (upd H p o) :=
 ⟨fun _ z=>List.mem_cons_of_mem _ z,fun a z=>(List.mem_cons.mp z).elim (fun e=>.inr (by rw [e];exact hp)) .inl,⟨[p],rfl,fun a z=>by rw [List.mem_singleton.mp z];exact hp⟩,
  fun a o' _ q=>by rw [aF (aS q hp)];exact q,fun a o' q=>⟨o',by rw [aF (aS q hp)];exact q⟩⟩
def lV {p:Addr} {o:HO} {c:Cell} (R:HeapRep K A μ h H) (hp:H p=none) (hc:CellOk K (p::A) (μ++[p]) (upd H p o) p c):HeapRep K (p::A) (μ++[p]) (h++[c]) (upd H p o):=by
 have nA:=R.notA hp;have X:Ext A (p::A) μ (μ++[p]) H (upd H p o):=cM hp;refine ⟨by rw [List.length_append,List.length_append,R.len];rfl,?_,fun a z=>?_,fun a z=>?_,fun i a ys e1 e2=>?_⟩
 ·rw [List.nodup_append];refine ⟨R.nd,(by simp),fun a ha b hb=>?_⟩;rw [List.mem_singleton.mp hb];rintro rfl;exact nA (R.sub _ ha)
 ·rcases List.mem_append.mp z with z | z
  ·exact List.mem_cons_of_mem _ (R.sub a z)
  ·rw [List.mem_singleton.mp z];exact List.mem_cons_self
 ·rcases List.mem_cons.mp z with e | z
  ·subst e;exact ⟨_,aN⟩
  ·obtain ⟨o',q⟩:=R.trk a z;exact ⟨o',by rw [aF (aS q hp)];exact q⟩
 ·by_cases hi:i < μ.length
  ·rw [List.getElem?_append_left hi] at e1;rw [List.getElem?_append_left (by rw [<- R.len];exact hi)] at e2;have k:=R.cel i a ys e1 e2;obtain ⟨o',q⟩:=k.some;exact k.ext X R.sub (aF (aS q hp))
  ·have hle:μ.length<=i:=Nat.le_of_not_lt hi;rw [List.getElem?_append_right hle] at e1;rw [List.getElem?_append_right (by rw [<- R.len];exact hle),<- R.len] at e2;have hz:i - μ.length=0:=by
    have:=(List.getElem?_eq_some_iff.mp e1).1;simp at this;omega
   rw [hz] at e1 e2;simp at e1 e2;subst e1 e2;exact hc
def eE {p:Addr} {xs:List PyData} {vs:List V} (R:HeapRep K A μ h H) (hp:H p=none) (r:Reps K A H xs vs):HeapRep K (p::A) (μ++[p]) (h++[(Cell.l xs)]) (upd H p (.lst vs))/\aF0 h :=
 ⟨lV R hp ⟨vs,aN,r.ext (cM (μ:=μ) hp) R.sub⟩,R.refs⟩
def uY {p:Addr} {xs:List (PyData×PyData)} {vs:List (Key×V)} (R:HeapRep K A μ h H) (hp:H p=none) (r:RepKs K A H xs vs):HeapRep K (p::A) (μ++[p]) (h++[(Cell.k xs)]) (upd H p (.dK vs)) :=
 lV R hp ⟨vs,aN,r.ext (cM (μ:=μ) hp) R.sub⟩
def Rep.upd {p:Addr} {o:HO} (hp:p∈A) {d:PyData} {v:V} (r:Rep K A H d v):Rep K A (L2.upd H p o) d v:=r.go fun a o' ha q=>⟨ha,by rw [aF (fun e=>ha (by rw [e];exact hp))];exact q⟩
def Reps.upd {p:Addr} {o:HO} (hp:p∈A) {d:List PyData} {v:List V} (r:Reps K A H d v):Reps K A (L2.upd H p o) d v:=r.go fun a o' ha q=>⟨ha,by rw [aF (fun e=>ha (by rw [e];exact hp))];exact q⟩
def RepKs.upd {p:Addr} {o:HO} (hp:p∈A) {d:List (PyData×PyData)} {v:List (Key×V)} (r:RepKs K A H d v):RepKs K A (L2.upd H p o) d v:=r.go fun a o' ha q=>⟨ha,by rw [aF (fun e=>ha (by rw [e];exact hp))];exact q⟩
def CellOk.upd {p a:Addr} {o:HO} {c:Cell} (hp:p∈A) (ne:a≠p) (k:CellOk K A μ H a c):CellOk K A μ (L2.upd H p o) a c:=k.go (fun b o hb e=>⟨hb,by rw [aF (fun z=>hb (by rw [z];exact hp))];exact e⟩) (fun _ _ _ e=>e) (aF ne)
def gX {p:Addr} {o o0:HO} (hp:p∈μ) (h0:H p=some o0):Ext A A μ μ H (upd H p o) :=
 ⟨fun _ z=>z,fun _ z=>.inl z,⟨[],by simp,fun _ z=>(nomatch z)⟩,fun a o' ha q=>by rw [aF (fun e=>ha (by rw [e];exact hp))];exact q,fun a o' q=>by
  by_cases e:a=p
  ·subst e;exact ⟨_,aN⟩
  ·exact ⟨o',by rw [aF e];exact q⟩⟩
def kK {p:Addr} {i:Nat} {o:HO} {c:Cell} (R:HeapRep K A μ h H) (hp:μ[i]?=some p) (hc:CellOk K A μ (upd H p o) p c):HeapRep K A μ (h.set i c) (upd H p o):=by
 have hm:p∈μ:=List.mem_of_getElem? hp;have hA:=R.sub p hm;refine ⟨by rw [List.length_set];exact R.len,R.nd,R.sub,fun a z=>?_,fun j a ys e1 e2=>?_⟩
 ·by_cases e:a=p
  ·subst e;exact ⟨_,aN⟩
  ·obtain ⟨o',q⟩:=R.trk a z;exact ⟨o',by rw [aF e];exact q⟩
 ·by_cases hj:i=j
  ·subst hj;rw [hp] at e1;cases e1;have hi:i < h.length:=by rw [<- R.len];exact (List.getElem?_eq_some_iff.mp hp).1
   rw [List.getElem?_set_self hi] at e2;cases e2;exact hc
  ·rw [List.getElem?_set_ne hj] at e2;have ne:a≠p:=fun e=>by
    subst e;have h1:=List.getElem?_eq_some_iff.mp e1;have h2:=List.getElem?_eq_some_iff.mp hp;exact hj ((List.getElem_inj R.nd).mp (h2.2.trans h1.2.symm))
   exact (R.cel j a ys e1 e2).upd hA ne
def iK {p:Addr} {i:Nat} {xs:List PyData} {vs:List V} (R:HeapRep K A μ h H) (hp:μ[i]?=some p) (r:Reps K A H xs vs):HeapRep K A μ (h.set i (Cell.l xs)) (upd H p (.lst vs)) :=
 kK R hp ⟨vs,aN,r.upd (R.sub p (List.mem_of_getElem? hp))⟩
def rY {p:Addr} {i:Nat} {xs:List (PyData×PyData)} {vs:List (Key×V)} (R:HeapRep K A μ h H) (hp:μ[i]?=some p) (r:RepKs K A H xs vs):HeapRep K A μ (h.set i (Cell.k xs)) (upd H p (.dK vs)) :=
 kK R hp ⟨vs,aN,r.upd (R.sub p (List.mem_of_getElem? hp))⟩
def uZ {p:Addr} {o:HO} (R:HeapRep K A μ h H) (hA:p∈A) (hn:p∉μ):HeapRep K A μ h (upd H p o):=by
 refine ⟨R.len,R.nd,R.sub,fun a z=>?_,fun j a ys e1 e2=>?_⟩
 ·by_cases e:a=p
  ·subst e;exact ⟨_,aN⟩
  ·obtain ⟨o',q⟩:=R.trk a z;exact ⟨o',by rw [aF e];exact q⟩
 ·exact (R.cel j a ys e1 e2).upd hA fun e=>hn (by rw [<- e];exact List.mem_of_getElem? e1)
def kL {p:Addr} {xs:List PyData} (R:HeapRep K A (μ++[p]) (h++[(Cell.l xs)]) H) (hr:aF0 h):HeapRep K (A.filter fun a=>decide (a≠p)) μ h H/\Rep K (A.filter fun a=>decide (a≠p)) H (.list xs) (.ref p):=by
 have hl:μ.length=h.length:=by
  have:=R.len
  simpa using this
 have an:∀ a∈A.filter (fun a=>decide (a≠p)),a∈A:=fun a z=>(List.mem_filter.mp z).1;refine ⟨⟨hl,(List.nodup_append.mp R.nd).1,fun a z=>?_,fun a z=>R.trk a (an a z),fun i a ys e1 e2=>?_⟩,?_⟩
 ·refine List.mem_filter.mpr ⟨R.sub a (List.mem_append_left _ z),?_⟩;have:=(List.nodup_append.mp R.nd).2.2 a z p List.mem_cons_self
  simpa using this
 ·exact (R.cel i a ys (by rw [List.getElem?_append_left (List.getElem?_eq_some_iff.mp e1).1];exact e1) (by rw [List.getElem?_append_left (List.getElem?_eq_some_iff.mp e2).1];exact e2)).anti an fun j hj b eb=>by
   have hlt:j < μ.length:=by rw [hl];exact hr ys (List.mem_of_getElem? e2) j hj
   rw [List.getElem?_append_left hlt] at eb;exact eb
 ·obtain ⟨vs,q,r⟩:=R.val μ.length p xs (by simp) (by rw [hl];simp);rw [Rep];exact ⟨p,vs,rfl,.inl ⟨fun z=>by simpa using (List.mem_filter.mp z).2,.inl q⟩,r.anti an⟩
def lW {p:Addr} (R:HeapRep K A μ h H) (hp:H p=none) (x:Ext A A' μ (μ'++[p]) H H') (hm:∃ ν,μ'=μ++ν):Ext A (A'.filter fun a=>decide (a≠p)) μ μ' H H':=by
 obtain ⟨ν,e,n⟩:=x.pre;obtain ⟨ν',e'⟩:=hm;refine ⟨fun a z=>List.mem_filter.mpr ⟨x.sub a z,?_⟩,fun a z=>x.new a (List.mem_filter.mp z).1,⟨ν',e',fun a z=>n a ?_⟩,x.keep,x.trk⟩
 ·have:a≠p:=fun q=>R.notA hp (by rw [<- q];exact z)
  simpa using this
 ·rw [e',List.append_assoc] at e;rw [<- List.append_cancel_left e];exact List.mem_append_left _ z
end
def Ab (K:Frag) (A μ:List Addr) (δ:DSt) (h:aA) (σ:L2.St) (H:Hp):Prop:=HeapRep K A μ h H/\EnvRep K A μ H δ σ
def up (K:Frag) (t:DTE):TE:=fun σ H Q=>∃ (δ:DSt) (h:aA) (A μ:List Addr) (k:DK),Ab K A μ δ h σ H/\t δ h k /\
 ∀ w h' v H' A' μ',k w h'->Ext A A' μ μ' H H'->HeapRep K A' μ' h' H'->RepW K A' μ' H' w v->Q v H'
def upT (K:Frag) (t:DTT):TT:=fun σ H Q=>∃ (δ:DSt) (h:aA) (A μ:List Addr) (k:Bool->aA->Prop),Ab K A μ δ h σ H/\t δ h k /\
 ∀ b h' H' A' μ',k b h'->Ext A A' μ μ' H H'->HeapRep K A' μ' h' H'->Q b H'
noncomputable def fY (K:Frag) (A μ:List Addr) (H:Hp):List W->List V->Prop
 | [],vs=>vs=[]
 | w::ws,vs=>∃ v r,vs=v::r/\RepW K A μ H w v/\fY K A μ H ws r
def upA (K:Frag) (t:DTA):TA:=fun σ H Q=>∃ (δ:DSt) (h:aA) (A μ:List Addr) (k:List W->aA->Prop),Ab K A μ δ h σ H/\t δ h k /\
 ∀ ws h' vs H' A' μ',k ws h'->Ext A A' μ μ' H H'->HeapRep K A' μ' h' H'->fY K A' μ' H' ws vs->Q vs H'
def upF (K:Frag) (t:DTF):TE:=fun σ H Q=>∃ (δ:DSt) (h:aA) (A μ:List Addr) (k:List PyData->aA->Prop),Ab K A μ δ h σ H/\t δ h k /\
 ∀ xs h' a H' A' μ',k xs h'->Ext A A' μ (μ'++[a]) H H'->(∃ ν,μ'=μ++ν)->H a=none->HeapRep K A' (μ'++[a]) (h'++[(Cell.l xs)]) H'/\aF0 h'->Q (.ref a) H'
def DE (X:Cx) (e:Expr) (t:DTE):Prop:=PE X e (up X.K t)
def DT (X:Cx) (e:Expr) (t:DTT):Prop:=PT X e (upT X.K t)
def DW (X:Cx) (e:Expr) (t:DTT):Prop:=PW X e (upT X.K t)
def DA (X:Cx) (es:List Expr) (t:DTA):Prop:=PA X es (upA X.K t)
def DF (X:Cx) (e:Expr) (t:DTF):Prop:=PE X e (upF X.K t)
def aK {X:Cx} {e:Expr} {t t':TE} (h:PE X e t) (m:∀ σ H Q,t' σ H Q->t σ H Q):PE X e t':=fun pins s σ H Q I q=>h pins s σ H Q I (m σ H Q q)
def gY {X:Cx} {e:Expr} {t t':TT} (h:PT X e t) (m:∀ σ H Q,t' σ H Q->t σ H Q):PT X e t':=fun pins s σ H Q I q=>h pins s σ H Q I (m σ H Q q)
def qJ {X:Cx} {e:Expr} {t t':TT} (h:PW X e t) (m:∀ σ H Q,t' σ H Q->t σ H Q):PW X e t':=fun wh pins s σ H Q I q=>h wh pins s σ H Q I (m σ H Q q)
def qK {X:Cx} {e:List Expr} {t t':TA} (h:PA X e t) (m:∀ σ H Q,t' σ H Q->t σ H Q):PA X e t':=fun pos pins s σ H Q I q=>h pos pins s σ H Q I (m σ H Q q)
def bH {X:Cx} {e:Stmt} {t t':TS} (h:PS X e t) (m:∀ D σ H,t' D σ H->t D σ H):PS X e t':=fun pins s σ H D I q=>h pins s σ H D I (m D σ H q)
def fH {X:Cx} {e:List Stmt} {t t':TS} (h:PSs X e t) (m:∀ D σ H,t' D σ H->t D σ H):PSs X e t':=fun pins s σ H D I q=>h pins s σ H D I (m D σ H q)
section
variable {X:Cx} {a b e:Expr} {es:List Expr} {pos:Pos} {ta tb te:DTE} {tc tA tB:DTT} {t:DTA} {tf tg:DTF}
def bP5 (i:Nat):DTE:=fun δ h Q=>match δ[i]? with
 | some (some w)=>Q w h
 | _=>False
def dv (i:Nat) {x:Str} (hN:autoParam (X.N[i]?=some x) ZR) (hv:Vis X.env.scope x:=by first | exact Or.inl rfl | exact Or.inr (Or.inl rfl) | exact Or.inr (Or.inr rfl)) (hd:autoParam ((x==("__debug__":Str))=false) ZD)
  (hcd:autoParam ((x==("__classdict__":Str))=false) ZD):DE X (.Name x pos) (bP5 i):=aK (eL hN hv hd hcd) fun σ H Q h=>by
 obtain ⟨δ,h,A,μ,k,⟨R,E⟩,q,c⟩:=h;unfold bP5 at q;cases e1:δ[i]? with
 | none=>rw [e1] at q;exact q.elim
 | some o =>
  rw [e1] at q;cases o with
  | none=>exact q.elim
  | some w =>
   obtain ⟨v,e2,r⟩:=E.val i w e1;exact ⟨v,e2,c w h v H A μ q .refl R r⟩
def dC (x:PyData):DTE:=fun _ h Q=>Q (.d x) h
def gF {x:PyData} {v:V} (r:∀ A H,Rep X.K A H x v) (he:PE X e (tC v)):DE X e (dC x):=aK he fun σ H Q h=>by
 obtain ⟨δ,h,A,μ,k,⟨R,E⟩,q,c⟩:=h;exact c _ h v H A μ q .refl R (r A H)
def bP6 {i:Int} {j}:DE X (.Constant (.int i) j pos) (dC (.int i)):=gF (fun _ _=>by rw [Rep]) bM2
def cJ4 {b:Bool} {j}:DE X (.Constant (.bool b) j pos) (dC (.bool b)):=gF (fun _ _=>by rw [Rep]) cH7
def bP7 {j}:DE X (.Constant .none j pos) (dC .none):=gF (fun _ _=>by rw [Rep]) aC5
def bP8 {x:Str} {j} (hx:PyData.strOk x=true:=by decide +kernel):DE X (.Constant (.str x) j pos) (dC (.str x)):=gF (fun _ _=>by rw [Rep];exact ⟨rfl,hx⟩) uJ
def aS8 {x:Str} {v:V} {u:Value} {d:PyData} (hm:X.mg x=some u) (rv:RelV v u) (r:∀ A H,Rep X.K A H d v) (hg:autoParam (Gl X x) ZR) (hd:autoParam ((x==("__debug__":Str))=false) ZD):DE X (.Name x pos) (dC d) :=
 gF r (dW hg hm rv hd)
def bP9 (t:DTF):DTE:=fun δ h Q=>t δ h fun xs h1=>Q (.d (.list xs)) h1
def bQ0 (t:DTF):DTE:=fun δ h Q=>t δ h fun xs h1=>Q (.c h1.length) (h1++[(Cell.l xs)])
def aF1 (h:DF X e tf):DE X e (bP9 tf):=aK h fun σ H Q q=>by
 obtain ⟨δ,h,A,μ,k,R,q,c⟩:=q;refine ⟨δ,h,A,μ,_,R,q,fun xs h' p H' A' μ' kk x hm hp R'=>?_⟩;obtain ⟨R1,r1⟩:=kL R'.1 R'.2;exact c _ h' _ H' _ μ' kk (lW R.1 hp x hm) R1 r1
def bQ1 (h:DF X e tf):DE X e (bQ0 tf):=aK h fun σ H Q q=>by
 obtain ⟨δ,h,A,μ,k,R,q,c⟩:=q;refine ⟨δ,h,A,μ,_,R,q,fun xs h' p H' A' μ' kk x hm hp R'=>?_⟩;have hl:μ'.length=h'.length:=by simpa using R'.1.len
 exact c _ _ _ H' A' (μ'++[p]) kk x R'.1 ⟨p,by rw [<- hl];simp,rfl⟩
def vA:DTA:=fun _ h Q=>Q [] h
def aF2 (te:DTE) (t:DTA):DTA:=fun δ h Q=>te δ h fun w h1=>t δ h1 fun ws h2=>Q (w::ws) h2
def gG:DA X [] vA:=qK fQ fun σ H Q q=>by
 obtain ⟨δ,h,A,μ,k,R,q,c⟩:=q;exact c [] h [] H A μ q .refl R.1 rfl
def dH (ha:DE X e te) (hr:DA X es t) (hs:autoParam (starEach (e::es) X.env=(false,eval e X.env)::starEach es X.env) ZR):DA X (e::es) (aF2 te t):=qK (bN ha hr hs) fun σ H Q q=>by
 obtain ⟨δ,h,A,μ,k,R,q,c⟩:=q;refine ⟨δ,h,A,μ,_,R,q,fun w h1 v H1 A1 μ1 q1 x1 R1 r1=>?_⟩;refine ⟨δ,h1,A1,μ1,_,⟨R1,R.2.ext x1 R.1.sub⟩,q1,fun ws h2 vs H2 A2 μ2 q2 x2 R2 r2=>?_⟩;exact c _ h2 _ H2 A2 μ2 q2 (x1.trans x2) R2 ⟨v,vs,rfl,r1.ext x2 R1.sub,r2⟩
noncomputable def dE:List W->Option (List PyData)
 | []=>some []
 | .d x::r=>(dE r).map (x::·)
 | .c _::_=>none
 | .v _::_=>none
theorem gH {K:Frag} {A μ:List Addr} {H:Hp}:∀ {ws:List W} {xs:List PyData} {vs:List V},dE ws=some xs->fY K A μ H ws vs->Reps K A H xs vs
 | [],_,_,e,h=>by cases e;subst h;exact .nil
 | .c _::_,_,_,e,_=>by cases e
 | .v _::_,_,_,e,_=>by cases e
 | .d x::r,xs,_,e,h=>by
  obtain ⟨v,vs,rfl,h1,h2⟩:=h;unfold dE at e;cases q:dE r with
  | none=>rw [q] at e;cases e
  | some ys =>
   rw [q] at e;have e':x::ys=xs:=Option.some.inj e;subst e';exact .cons h1 (gH q h2)
def cY8 (t:DTA):DTE:=fun δ h Q=>t δ h fun ws h1=>match dE ws with
 | some xs=>xs.length<=sizeLine/\Q (.d (.tuple xs)) h1
 | none=>False
def cY9 (t:DTA):DTF:=fun δ h Q=>t δ h fun ws h1=>match dE ws with
 | some xs=>xs.length<=sizeLine/\Q xs h1
 | none=>False
def bQ2 {k} (h:DA X es t):DE X (.Tuple es k pos) (cY8 t):=aK (aD8 h) fun σ H Q q=>by
 obtain ⟨δ,h,A,μ,k,R,q,c⟩:=q;refine ⟨δ,h,A,μ,_,R,q,fun ws h1 vs H1 A1 μ1 q1 x1 R1 r1=>?_⟩;cases e:dE ws with
 | none=>rw [e] at q1;exact q1.elim
 | some xs =>
  rw [e] at q1;have rr:=gH e r1;refine ⟨by rw [rr.length];exact q1.1,fun p hp=>?_⟩;exact c _ h1 _ _ A1 μ1 q1.2 (x1.trans (bB hp)) (R1.fresh hp) (dD R1 hp rr)
def bQ3 (h:DA X es t):DF X (.List es pos) (cY9 t):=aK (aD9 h) fun σ H Q q=>by
 obtain ⟨δ,h,A,μ,k,R,q,c⟩:=q;refine ⟨δ,h,A,μ,_,R,q,fun ws h1 vs H1 A1 μ1 q1 x1 R1 r1=>?_⟩;cases e:dE ws with
 | none=>rw [e] at q1;exact q1.elim
 | some xs =>
  rw [e] at q1;have rr:=gH e r1;refine ⟨by rw [rr.length];exact q1.1,fun p hp=>?_⟩;obtain ⟨ν,e1,_⟩:=x1.pre;exact c xs h1 p _ (p::A1) μ1 q1.2 (x1.trans (cM hp)) ⟨ν,e1⟩ (x1.back hp) (eE R1 hp rr)
abbrev D2:=W->W->aA->DK->Prop
noncomputable def upR (K:Frag) (r:D2):R2:=fun x y H Q=>∃ (u w:W) (h:aA) (A μ:List Addr) (k:DK),HeapRep K A μ h H/\RepW K A μ H u x/\RepW K A μ H w y/\r u w h k /\
 ∀ w h' v H' A' μ',k w h'->Ext A A' μ μ' H H'->HeapRep K A' μ' h' H'->RepW K A' μ' H' w v->Q v H'
def dOp (r:D2) (ta tb:DTE):DTE:=fun δ h Q=>ta δ h fun x h1=>tb δ h1 fun y h2=>r x y h2 Q
def rZ {K:Frag} {r:D2} {σ:L2.St} {H:Hp} {Q:VK} (q:up K (dOp r ta tb) σ H Q):tOp (upR K r) (up K ta) (up K tb) σ H Q:=by
 obtain ⟨δ,h,A,μ,k,R,q,c⟩:=q;refine ⟨δ,h,A,μ,_,R,q,fun u h1 v H1 A1 μ1 q1 x1 R1 r1=>?_⟩;refine ⟨δ,h1,A1,μ1,_,⟨R1,R.2.ext x1 R.1.sub⟩,q1,fun w h2 v2 H2 A2 μ2 q2 x2 R2 r2=>?_⟩;exact ⟨u,w,h2,A2,μ2,k,R2,r1.ext x2 R1.sub,r2,q2,fun z h3 v3 H3 A3 μ3 q3 x3 R3 r3=>c z h3 v3 H3 A3 μ3 q3 ((x1.trans x2).trans x3) R3 r3⟩
def cJ5 {op:Operator} {r:D2} (ho:OpR X (binaryOp op) (upR X.K r)) (ha:DE X a ta) (hb:DE X b tb):DE X (.BinOp a op b pos) (dOp r ta tb):=aK (aD5 ho ha hb) fun _ _ _ q=>rZ q
def bQ4 {op:CmpOp} {r:D2} (ho:OpR X (compareOp op) (upR X.K r)) (ha:DE X a ta) (hb:DE X b tb) (hm:behindInMarks op b=false:=by first | exact lP _ (by decide) (by decide) | rfl):DE X (.Compare a [op] [b] pos) (dOp r ta tb) :=
 aK (wM ho ha hb hm) fun _ _ _ q=>rZ q
def dB (t:DTE):DTT:=fun δ h Q=>t δ h fun w h1=>match w with
 | .d (.bool b)=>Q b h1
 | _=>False
def lG {K:Frag} {σ:L2.St} {H:Hp} {Q:Bool->Hp->Prop} {t:DTE} (q:upT K (dB t) σ H Q):up K t σ H fun x H'=>∃ c,x=.bl c/\Q c H':=by
 obtain ⟨δ,h,A,μ,k,R,q,c⟩:=q;refine ⟨δ,h,A,μ,_,R,q,fun w h1 v H1 A1 μ1 q1 x1 R1 r1=>?_⟩;cases w with
 | c i=>exact q1.elim
 | v u=>exact q1.elim
 | d x =>
  cases x with
  | bool b =>
   have e:v=.bl b:=by
    have z:Rep K A1 H1 (.bool b) v:=r1;rw [Rep] at z;exact z
   exact ⟨b,e,c b h1 H1 A1 μ1 q1 x1 R1⟩
  | _=>exact q1.elim
def bQ5 (h:DE X e te) (he:autoParam (∀ whole,isTrue e X.env whole=(do let v <- whole;standAt e.pos;holding [v] (truthy v))) ZI):DT X e (dB te):=gY (uK h he) fun _ _ _ q=>lG q
def bQ6 {op:CmpOp} {r:D2} (ho:OpR X (compareOp op) (upR X.K r)) (ha:DE X a ta) (hb:DE X b tb) (hm:behindInMarks op b=false:=by first | exact lP _ (by decide) (by decide) | rfl):DT X (.Compare a [op] [b] pos) (dB (dOp r ta tb)) :=
 gY (wN ho ha hb hm) fun σ H Q q=>by
  obtain ⟨δ,h,A,μ,k,R,q1,c⟩:=lG q;exact rZ ⟨δ,h,A,μ,k,R,q1,c⟩
def cZ0 (t:DTT):DTT:=fun δ h Q=>t δ h fun b h1=>Q (!b) h1
def cZ1 (t u:DTT):DTT:=fun δ h Q=>t δ h fun b h1=>if b=true then u δ h1 Q else Q false h1
def dOr (t u:DTT):DTT:=fun δ h Q=>t δ h fun b h1=>if b=true then Q true h1 else u δ h1 Q
def bQ7 (h:DT X e tc):DT X (.UnaryOp .Not e pos) (cZ0 tc):=gY (aC7 h) fun σ H Q q=>by
 obtain ⟨δ,h,A,μ,k,R,q,c⟩:=q;exact ⟨δ,h,A,μ,_,R,q,fun b h' H' A' μ' k'=>c (!b) h' H' A' μ' k'⟩
def DW.dt (h:DW X e tc):DT X e tc:=h _
def aS9 (h:DT X a tc):DW X (.BoolOp .And [a] pos) tc:=aQ6 h
def bQ8 (h:DT X a tc):DW X (.BoolOp .Or [a] pos) tc:=aC6 h
def bQ9 (ha:DT X a tA) (hb:DW X (.BoolOp .And (b::es) pos) tB):DW X (.BoolOp .And (a::b::es) pos) (cZ1 tA tB):=qJ (bM5 ha hb) fun σ H Q q=>by
 obtain ⟨δ,h,A,μ,k,R,q,c⟩:=q;refine ⟨δ,h,A,μ,_,R,q,fun b h1 H1 A1 μ1 q1 x1 R1=>?_⟩;cases b with
 | true =>
  rw [if_pos rfl] at q1;rw [if_pos rfl];exact ⟨δ,h1,A1,μ1,k,⟨R1,R.2.ext x1 R.1.sub⟩,q1,fun b h2 H2 A2 μ2 q2 x2 R2=>c b h2 H2 A2 μ2 q2 (x1.trans x2) R2⟩
 | false =>
  rw [if_neg Bool.false_ne_true] at q1;rw [if_neg Bool.false_ne_true];exact c false h1 H1 A1 μ1 q1 x1 R1
def cJ6 (ha:DT X a tA) (hb:DW X (.BoolOp .Or (b::es) pos) tB):DW X (.BoolOp .Or (a::b::es) pos) (dOr tA tB):=qJ (bF4 ha hb) fun σ H Q q=>by
 obtain ⟨δ,h,A,μ,k,R,q,c⟩:=q;refine ⟨δ,h,A,μ,_,R,q,fun b h1 H1 A1 μ1 q1 x1 R1=>?_⟩;cases b with
 | false =>
  rw [if_neg Bool.false_ne_true] at q1;rw [if_neg Bool.false_ne_true];exact ⟨δ,h1,A1,μ1,k,⟨R1,R.2.ext x1 R.1.sub⟩,q1,fun b h2 H2 A2 μ2 q2 x2 R2=>c b h2 H2 A2 μ2 q2 (x1.trans x2) R2⟩
 | true =>
  rw [if_pos rfl] at q1;rw [if_pos rfl];exact c true h1 H1 A1 μ1 q1 x1 R1
def cJ7 (ta tb:DTE):DTE:=fun δ h Q=>ta δ h fun w h1=>match w with
 | .d (.bool b)=>if b=true then tb δ h1 Q else Q (.d (.bool false)) h1
 | _=>False
def cZ2 (ta tb:DTE):DTE:=fun δ h Q=>ta δ h fun w h1=>match w with
 | .d (.bool b)=>if b=true then Q (.d (.bool true)) h1 else tb δ h1 Q
 | _=>False
def cJ8 (ta:DTE):DTE:=fun δ h Q=>ta δ h fun w h1=>match w with
 | .d (.bool b)=>Q (.d (.bool (!b))) h1
 | _=>False
def eF {K:Frag} {A μ:List Addr} {H:Hp} {b:Bool} {v:V} (r:RepW K A μ H (.d (.bool b)) v):v=.bl b:=by
 have z:Rep K A H (.bool b) v:=r;rw [Rep] at z;exact z
def bE {K:Frag} {A μ:List Addr} {H:Hp} {b:Bool}:RepW K A μ H (.d (.bool b)) (.bl b):=by
 show Rep K A H (.bool b) (.bl b);rw [Rep]
def bC {K:Frag} {A μ:List Addr} {H:Hp} {b:Int} {v:V} (r:RepW K A μ H (.d (.int b)) v):v=.int b:=by
 have z:Rep K A H (.int b) v:=r;rw [Rep] at z;exact z
def lX {K:Frag} {A μ:List Addr} {H:Hp} {b:Int}:RepW K A μ H (.d (.int b)) (.int b):=by
 show Rep K A H (.int b) (.int b);rw [Rep]
def aF3 {op} (h:DE X a te):DE X (.BoolOp op [a] pos) te:=bM6 h
def bR0 (ha:DE X a ta) (hb:DE X (.BoolOp .And (b::es) pos) tb):DE X (.BoolOp .And (a::b::es) pos) (cJ7 ta tb):=aK (bM7 ha hb) fun σ H Q q=>by
 obtain ⟨δ,h,A,μ,k,R,q,c⟩:=q;refine ⟨δ,h,A,μ,_,R,q,fun w h1 v H1 A1 μ1 q1 x1 R1 r1=>?_⟩;cases w with
 | c i=>exact q1.elim
 | v u=>exact q1.elim
 | d x =>
  cases x with
  | bool b =>
   refine ⟨b,eF r1,?_⟩;cases b with
   | true=>exact ⟨δ,h1,A1,μ1,k,⟨R1,R.2.ext x1 R.1.sub⟩,q1,fun w h2 v H2 A2 μ2 q2 x2 R2 r2=>c w h2 v H2 A2 μ2 q2 (x1.trans x2) R2 r2⟩
   | false=>exact c _ h1 _ H1 A1 μ1 q1 x1 R1 bE
  | _=>exact q1.elim
def cJ9 (ha:DE X a ta) (hb:DE X (.BoolOp .Or (b::es) pos) tb):DE X (.BoolOp .Or (a::b::es) pos) (cZ2 ta tb):=aK (cI0 ha hb) fun σ H Q q=>by
 obtain ⟨δ,h,A,μ,k,R,q,c⟩:=q;refine ⟨δ,h,A,μ,_,R,q,fun w h1 v H1 A1 μ1 q1 x1 R1 r1=>?_⟩;cases w with
 | c i=>exact q1.elim
 | v u=>exact q1.elim
 | d x =>
  cases x with
  | bool b =>
   refine ⟨b,eF r1,?_⟩;cases b with
   | false=>exact ⟨δ,h1,A1,μ1,k,⟨R1,R.2.ext x1 R.1.sub⟩,q1,fun w h2 v H2 A2 μ2 q2 x2 R2 r2=>c w h2 v H2 A2 μ2 q2 (x1.trans x2) R2 r2⟩
   | true=>exact c _ h1 _ H1 A1 μ1 q1 x1 R1 bE
  | _=>exact q1.elim
def bR1 (ha:DE X a ta):DE X (.UnaryOp .Not a pos) (cJ8 ta):=aK (aC8 ha) fun σ H Q q=>by
 obtain ⟨δ,h,A,μ,k,R,q,c⟩:=q;refine ⟨δ,h,A,μ,_,R,q,fun w h1 v H1 A1 μ1 q1 x1 R1 r1=>?_⟩;cases w with
 | c i=>exact q1.elim
 | v u=>exact q1.elim
 | d x =>
  cases x with
  | bool b=>exact ⟨b,eF r1,c _ h1 _ H1 A1 μ1 q1 x1 R1 bE⟩
  | _=>exact q1.elim
def dIf (t:DTT) (ta tb:DTE):DTE:=fun δ h Q=>t δ h fun b h1=>if b=true then ta δ h1 Q else tb δ h1 Q
def aF4 {c:Expr} (hc:DT X c tc) (ha:DE X a ta) (hb:DE X b tb):DE X (.IfExp c a b pos) (dIf tc ta tb):=aK (aC9 hc ha hb) fun σ H Q q=>by
 obtain ⟨δ,h,A,μ,k,R,q,c⟩:=q;refine ⟨δ,h,A,μ,_,R,q,fun b h1 H1 A1 μ1 q1 x1 R1=>?_⟩;cases b with
 | true=>exact ⟨δ,h1,A1,μ1,k,⟨R1,R.2.ext x1 R.1.sub⟩,q1,fun w h2 v H2 A2 μ2 q2 x2 R2 r2=>c w h2 v H2 A2 μ2 q2 (x1.trans x2) R2 r2⟩
 | false=>exact ⟨δ,h1,A1,μ1,k,⟨R1,R.2.ext x1 R.1.sub⟩,q1,fun w h2 v H2 A2 μ2 q2 x2 R2 r2=>c w h2 v H2 A2 μ2 q2 (x1.trans x2) R2 r2⟩
end
noncomputable def ref (h:aA):W->Option PyData
 | .d x=>some x
 | .c i=>match h[i]? with
  | some (.l xs)=>some (.list xs)
  | some (.k kvs)=>some (.dict kvs)
  | _=>none
 | .v _=>none
mutual
noncomputable def See (K:Frag) (H:Hp):PyData->V->Prop
 | .none,v=>v=.non
 | .bool b,v=>v=.bl b
 | .int i,v=>v=.int i
 | .str x,v=>v=.str x
 | .list xs,v=>∃ a vs,v=.ref a/\SqL K H a vs/\Sees K H xs vs
 | .tuple xs,v=>∃ a vs,v=.ref a/\SqT K H a vs/\Sees K H xs vs
 | .dict _,_=>True
noncomputable def Sees (K:Frag) (H:Hp):List PyData->List V->Prop
 | [],vs=>vs=[]
 | x::xs,vs=>∃ v r,vs=v::r/\See K H x v/\Sees K H xs r
end
mutual
theorem Rep.see {K:Frag} {A:List Addr} {H:Hp}:∀ {d:PyData} {v:V},Rep K A H d v->See K H d v
 | .none,_,h=>by rw [Rep] at h;rw [See];exact h
 | .bool _,_,h=>by rw [Rep] at h;rw [See];exact h
 | .int _,_,h=>by rw [Rep] at h;rw [See];exact h
 | .str _,_,h=>by rw [Rep] at h;rw [See];exact h.1
 | .list xs,_,h=>by
  rw [Rep] at h;rw [See];obtain ⟨a,vs,e,h1,h2⟩:=h;exact ⟨a,vs,e,h1.sq,Reps.sees h2⟩
 | .tuple xs,_,h=>by
  rw [Rep] at h;rw [See];obtain ⟨a,vs,e,h1,h2⟩:=h;exact ⟨a,vs,e,h1.sq,Reps.sees h2⟩
 | .dict _,_,_=>by rw [See];trivial
theorem Reps.sees {K:Frag} {A:List Addr} {H:Hp}:∀ {d:List PyData} {v:List V},Reps K A H d v->Sees K H d v
 | [],_,h=>by rw [Reps] at h;rw [Sees];exact h
 | x::xs,_,h=>by
  rw [Reps] at h;rw [Sees];obtain ⟨v,r,e,h1,h2⟩:=h;exact ⟨v,r,e,Rep.see h1,Reps.sees h2⟩
end
mutual
theorem See.reads {X:Cx} {pins:List (Addr×Obj)} {σ:L2.St} {H:Hp} {s:Shared} (I:Inv X pins σ H s):∀ {d:PyData} {v:V} {u:Value},See X.K H d v->d.canLay0=true->RelV v u->∃ as,Reads s.heap u d as
 | .none,_,_,h,_,r=>by rw [See] at h;subst h;cases r;exact ⟨_,Reads.none⟩
 | .bool _,_,_,h,_,r=>by rw [See] at h;subst h;cases r;exact ⟨_,Reads.bool _⟩
 | .int _,_,_,h,_,r=>by rw [See] at h;subst h;obtain ⟨t,rfl⟩:=r;exact ⟨_,Reads.int _ _⟩
 | .str _,_,_,h,_,r=>by rw [See] at h;subst h;obtain ⟨t,rfl⟩:=r;exact ⟨_,Reads.str _ _⟩
 | .list xs,_,_,h,c,r=>by
  rw [See] at h;obtain ⟨a,vs,rfl,h1,h2⟩:=h;cases r;obtain ⟨its,rv,⟨o,n,ho,hc,_,hd⟩,_⟩:=I.list h1;rw [PyData.canLay0] at c;obtain ⟨as,z⟩:=Sees.reads I h2 c rv;exact ⟨_,Reads.list ho hc hd (by simpa using z)⟩
 | .tuple xs,_,_,h,c,r=>by
  rw [See] at h;obtain ⟨a,vs,rfl,h1,h2⟩:=h;cases r;obtain ⟨its,rv,⟨o,ho,hc,n,hd⟩,_⟩:=I.tuple h1;rw [PyData.canLay0] at c;obtain ⟨as,z⟩:=Sees.reads I h2 c rv;exact ⟨_,Reads.tuple ho hc hd (by simpa using z)⟩
 | .dict _,_,_,_,c,_=>by rw [PyData.canLay0] at c;cases c
theorem Sees.reads {X:Cx} {pins:List (Addr×Obj)} {σ:L2.St} {H:Hp} {s:Shared} (I:Inv X pins σ H s):∀ {d:List PyData} {v:List V} {u:List Value},Sees X.K H d v->PyData.canLayAll0 d=true->Vals v u->∃ as,ReadsAll s.heap u d as
 | [],_,_,h,_,r=>by rw [Sees] at h;subst h;cases r;exact ⟨_,ReadsAll.nil⟩
 | x::xs,_,_,h,c,r=>by
  rw [Sees] at h;obtain ⟨v,rr,rfl,h1,h2⟩:=h;rw [PyData.canLayAll0,Bool.and_eq_true] at c;cases r with
  | cons r1 r2 =>
   obtain ⟨as,z1⟩:=See.reads I h1 c.1 r1;obtain ⟨bs,z2⟩:=Sees.reads I h2 c.2 r2;exact ⟨_,ReadsAll.cons z1 z2⟩
end
def bL {K:Frag} {A μ:List Addr} {H:Hp} {h:aA} {w:W} {v:V} {d:PyData} (R:HeapRep K A μ h H) (r:RepW K A μ H w v) (e:ref h w=some d):See K H d v:=by
 cases w with
 | d x=>cases e;exact Rep.see r
 | v u=>cases e
 | c i =>
  obtain ⟨a,e1,rfl⟩:=r;dsimp only [DL.ref] at e;cases q:h[i]? with
  | none=>rw [q] at e;cases e
  | some cc =>
   cases cc with
   | t _ _ _=>rw [q] at e;cases e
   | o _ _=>rw [q] at e;cases e
   | r _=>rw [q] at e;cases e
   | l xs =>
    rw [q] at e;cases e;obtain ⟨vs,z1,z2⟩:=R.val i a xs e1 q;rw [See];exact ⟨a,vs,rfl,.inl (.inl z1),z2.sees⟩
   | k kvs =>
    rw [q] at e;cases e;rw [See];trivial
def bX {K:Frag} {A μ:List Addr} {H:Hp} {h:aA} {w:W} {v:V} {xs:List PyData} (R:HeapRep K A μ h H) (r:RepW K A μ H w v) (e:ref h w=some (.list xs)):∃ a vs,v=.ref a/\SqL K H a vs/\Reps K A H xs vs:=by
 cases w with
 | d x =>
  cases e;have z:Rep K A H (.list xs) v:=r;rw [Rep] at z;obtain ⟨a,vs,e,h1,h2⟩:=z;exact ⟨a,vs,e,h1.sq,h2⟩
 | v u=>cases e
 | c i =>
  obtain ⟨a,e1,rfl⟩:=r;dsimp only [DL.ref] at e;cases q:h[i]? with
  | none=>rw [q] at e;cases e
  | some cc =>
   cases cc with
   | t _ _ _=>rw [q] at e;cases e
   | o _ _=>rw [q] at e;cases e
   | r _=>rw [q] at e;cases e
   | l ys =>
    rw [q] at e;cases e;obtain ⟨vs,z1,z2⟩:=R.val i a xs e1 q;exact ⟨a,vs,rfl,.inl (.inl z1),z2⟩
   | k kvs=>rw [q] at e;cases e
def bF {K:Frag} {A μ:List Addr} {H:Hp} {h:aA} {w:W} {v:V} {xs:List PyData} (r:RepW K A μ H w v) (e:ref h w=some (.tuple xs)):∃ a vs,v=.ref a/\TupAt K A H a vs/\Reps K A H xs vs:=by
 cases w with
 | d x =>
  cases e;have z:Rep K A H (.tuple xs) v:=r;rw [Rep] at z;exact z
 | v u=>cases e
 | c i =>
  dsimp only [DL.ref] at e;cases q:h[i]? with
  | none=>rw [q] at e;cases e
  | some cc =>
   cases cc with
   | t _ _ _=>rw [q] at e;cases e
   | o _ _=>rw [q] at e;cases e
   | r _=>rw [q] at e;cases e
   | l ys=>rw [q] at e;cases e
   | k ys=>rw [q] at e;cases e
noncomputable def cK0:D2
 | .d (.int i),.d (.int j),h,Q=>Q (.d (.int (i+j))) h
 | .d (.tuple xs),.d (.tuple ys),h,Q=>xs.length+ys.length<=sizeLine/\Q (.d (.tuple (xs++ys))) h
 | _,_,_,_=>False
noncomputable def cK1:D2
 | .d (.int i),.d (.int j),h,Q=>Q (.d (.int (i - j))) h
 | _,_,_,_=>False
noncomputable def cK2:D2
 | .d (.int i),.d (.int j),h,Q=>CMul i j/\Q (.d (.int (i*j))) h
 | _,_,_,_=>False
noncomputable def cK3:D2
 | .d (.int i),.d (.int j),h,Q=>0 < j/\Q (.d (.int (i%j))) h
 | _,_,_,_=>False
noncomputable def cK4:D2
 | .d (.int i),.d (.int j),h,Q=>aR3 i j/\Q (.d (.int (i^j.toNat))) h
 | _,_,_,_=>False
noncomputable def pB (p:Int->Int->Bool):D2
 | .d (.int i),.d (.int j),h,Q=>Q (.d (.bool (p i j))) h
 | _,_,_,_=>False
def dEq:D2:=fun x y h Q=>match ref h x,ref h y with
 | some a,some b=>SeqAt.shaped a=true/\SeqAt.shaped b=true/\Q (.d (.bool (PyData.eqv a b))) h
 | _,_=>False
def dNe:D2:=fun x y h Q=>match ref h x,ref h y with
 | some a,some b=>SeqAt.shaped a=true/\SeqAt.shaped b=true/\Q (.d (.bool (!PyData.eqv a b))) h
 | _,_=>False
section
variable {X:Cx}
def eR {op:Value->Value->Sem Value} {f:Int->Int->PyData} {g:Int->Int->V} {C:Int->Int->Prop} {r:D2} (ho:OpR X op (rI C g)) (hf:∀ i j A H,Rep X.K A H (f i j) (g i j))
  (hr:∀ u w h k,r u w h k->∃ i j,u=.d (.int i)/\w=.d (.int j)/\C i j/\k (.d (f i j)) h):OpR X op (upR X.K r):=by
 intro pins s σ H x y v u Q I rx ry h;obtain ⟨a,b,h,A,μ,k,R,ra,rb,q,c⟩:=h;obtain ⟨i,j,rfl,rfl,hc,q⟩:=hr _ _ _ _ q;have ea:=bC ra;have eb:=bC rb;subst ea eb;exact ho pins s σ H _ _ v u Q I rx ry ⟨i,j,rfl,rfl,hc,c _ _ _ _ _ _ q .refl R (hf i j A H)⟩
def OpR.i0 {op:Value->Value->Sem Value} {g:Int->Int->V} (ho:OpR X op (rI0 g)):OpR X op (rI (fun _ _=>True) g):=fun pins s σ H x y v u Q I rx ry ⟨i,j,e1,e2,_,q⟩=>ho pins s σ H x y v u Q I rx ry ⟨i,j,e1,e2,q⟩
def jN {K:Frag} {A:List Addr} {H:Hp} {i:Int}:Rep K A H (.int i) (.int i):=by rw [Rep]
def aT1 {K:Frag} {A:List Addr} {H:Hp} {i:Bool}:Rep K A H (.bool i) (.bl i):=by rw [Rep]
def aF5:OpR X (binaryOp .Add) (fun x y H Q=>∃ a b ys,x=.ref a/\y=.ref b/\SqT X.K H a []/\SqT X.K H b ys/\Q (.ref b) H):=by
 intro pins s σ H x y v u Q I rx ry h;obtain ⟨a,b,ys,rfl,rfl,ha,hb,q⟩:=h;cases rx;cases ry;obtain ⟨its,r1,p1,_⟩:=I.tuple ha;obtain ⟨its2,r2,p2,_⟩:=I.tuple hb;have e0:its=[]:=by cases r1;rfl
 subst e0;obtain ⟨⟨cls,dd,data,sl⟩,ho,hc,n,hd⟩:=id p1;obtain ⟨⟨cls2,dd2,data2,sl2⟩,ho2,hc2,n2,hd2⟩:=id p2;simp only at hc hd hc2 hd2;subst hc hd hc2 hd2;exact concat_meets ⟨_,ho,rfl⟩ ⟨_,ho2,rfl⟩ noFill_tuple_add seq_tuple_add PySem.F.slot_tuple_add PySem.F.entry_tuple_add (PySem.F.args_tuple_add_2 _ _) (tuple_addW0 a b _ _ n n2 dd dd2 sl sl2 rfl) ⟨ho,ho2,⟨.ref b,H,I,rfl,q⟩⟩
def aT2:OpR X (binaryOp .Add) (upR X.K cK0):=by
 intro pins s σ H x y v u Q I rx ry h;obtain ⟨a,b,h,A,μ,k,R,ra,rb,q,c⟩:=h;unfold cK0 at q;split at q
 ·have ea:=bC ra;have eb:=bC rb;subst ea eb;exact bN8 pins s σ H _ _ v u Q I rx ry ⟨_,_,rfl,rfl,c _ _ _ _ _ _ q .refl R lX⟩
 ·rename_i xs ys;obtain ⟨pa,va,rfl,ta,sa⟩:=bF (h:=h) ra rfl;obtain ⟨pb,vb,rfl,tb,sb⟩:=bF (h:=h) rb rfl;have la:=sa.length;have lb:=sb.length;have all:Reps X.K A H (xs++ys) (va++vb):=sb.append sa
  by_cases e1:va=[]
  ·subst e1;have ex:xs=[]:=List.eq_nil_of_length_eq_zero la.symm;subst ex;refine aF5 pins s σ H _ _ v u Q I rx ry ⟨pa,pb,vb,rfl,rfl,ta.sq,tb.sq,c _ _ _ _ _ _ q.2 .refl R rb⟩
  ·refine aR8 pins s σ H _ _ v u Q I rx ry ⟨pa,pb,va,vb,rfl,rfl,ta.sq,tb.sq,e1,by rw [la,lb];exact q.1,fun z=>?_,fun _ p hp=>?_⟩
   ·subst z;have ey:ys=[]:=List.eq_nil_of_length_eq_zero lb.symm;subst ey;have q2:=q.2;rw [List.append_nil] at q2;exact c _ _ _ _ _ _ q2 .refl R ra
   ·exact c _ _ _ _ _ _ q.2 (bB hp) (R.fresh hp) (dD R hp all)
 ·exact q.elim
def aT3:OpR X (binaryOp .Sub) (upR X.K cK1):=eR (f:=fun i j=>.int (i - j)) (OpR.i0 bN9) (fun _ _ _ _=>jN) fun u w h k q=>by
 unfold cK1 at q;split at q
 ·exact ⟨_,_,rfl,rfl,trivial,q⟩
 ·exact q.elim
def aT4:OpR X (binaryOp .Mult) (upR X.K cK2):=eR (f:=fun i j=>.int (i*j)) bO0 (fun _ _ _ _=>jN) fun u w h k q=>by
 unfold cK2 at q;split at q
 ·exact ⟨_,_,rfl,rfl,q.1,q.2⟩
 ·exact q.elim
def aT5:OpR X (binaryOp .Mod) (upR X.K cK3):=eR (f:=fun i j=>.int (i%j)) bO1 (fun _ _ _ _=>jN) fun u w h k q=>by
 unfold cK3 at q;split at q
 ·exact ⟨_,_,rfl,rfl,q.1,q.2⟩
 ·exact q.elim
def aT6:OpR X (binaryOp .Pow) (upR X.K cK4):=eR (f:=fun i j=>.int (i^j.toNat)) bO2 (fun _ _ _ _=>jN) fun u w h k q=>by
 unfold cK4 at q;split at q
 ·exact ⟨_,_,rfl,rfl,q.1,q.2⟩
 ·exact q.elim
def lJ {p:Int->Int->Bool} (u w:W) (h:aA) (k:DK) (q:pB p u w h k):∃ i j,u=.d (.int i)/\w=.d (.int j)/\True/\k (.d (.bool (p i j))) h:=by
 unfold pB at q;split at q
 ·exact ⟨_,_,rfl,rfl,trivial,q⟩
 ·exact q.elim
abbrev dLt:=pB fun i j=>decide (i < j)
abbrev dLe:=pB fun i j=>decide (i<=j)
abbrev dGt:=pB fun i j=>decide (j < i)
abbrev dGe:=pB fun i j=>decide (j<=i)
def bR2:OpR X (compareOp .Lt) (upR X.K dLt):=eR (f:=fun i j=>.bool (decide (i < j))) (OpR.i0 cI7) (fun _ _ _ _=>aT1) lJ
def bR3:OpR X (compareOp .LtE) (upR X.K dLe):=eR (f:=fun i j=>.bool (decide (i<=j))) (OpR.i0 cI8) (fun _ _ _ _=>aT1) lJ
def bR4:OpR X (compareOp .Gt) (upR X.K dGt):=eR (f:=fun i j=>.bool (decide (j < i))) (OpR.i0 cI9) (fun _ _ _ _=>aT1) lJ
def bR5:OpR X (compareOp .GtE) (upR X.K dGe):=eR (f:=fun i j=>.bool (decide (j<=i))) (OpR.i0 cJ0) (fun _ _ _ _=>aT1) lJ
def bR6 {n:Nat} (hr:Room n X.A):OpR X (compareOp .Eq) (upR X.K dEq):=by
 intro pins s σ H x y v u Q I rx ry h;obtain ⟨a,b,h,A,μ,k,R,ra,rb,q,c⟩:=h;unfold dEq at q;split at q
 ·rename_i da db ea eb;obtain ⟨as,z1⟩:=(bL R ra ea).reads I (SeqAt.canLay_of_shaped q.1) rx;obtain ⟨bs,z2⟩:=(bL R rb eb).reads I (SeqAt.canLay_of_shaped q.2.1) ry;exact eq_dataH z1 z2 q.1 q.2.1 hr.units ⟨.bl _,H,I,rfl,c _ _ _ _ _ _ q.2.2 .refl R bE⟩
 ·exact q.elim
def bR7 {n:Nat} (hr:Room n X.A):OpR X (compareOp .NotEq) (upR X.K dNe):=by
 intro pins s σ H x y v u Q I rx ry h;obtain ⟨a,b,h,A,μ,k,R,ra,rb,q,c⟩:=h;unfold dNe at q;split at q
 ·rename_i da db ea eb;obtain ⟨as,z1⟩:=(bL R ra ea).reads I (SeqAt.canLay_of_shaped q.1) rx;obtain ⟨bs,z2⟩:=(bL R rb eb).reads I (SeqAt.canLay_of_shaped q.2.1) ry;exact ne_dataH z1 z2 q.1 q.2.1 hr.units ⟨.bl _,H,I,rfl,c _ _ _ _ _ _ q.2.2 .refl R bE⟩
 ·exact q.elim
noncomputable def isSame:PyData->PyData->Option Bool
 | .none,.none=>some true
 | .bool a,.bool b=>some (a==b)
 | .none,.bool _=>some false
 | .bool _,.none=>some false
 | .int _,.none=>some false
 | .int _,.bool _=>some false
 | .str _,.none=>some false
 | .str _,.bool _=>some false
 | .list _,.none=>some false
 | .list _,.bool _=>some false
 | .tuple _,.none=>some false
 | .tuple _,.bool _=>some false
 | _,_=>none
noncomputable def dIs (neg:Bool):D2
 | .d a,.d b,h,Q=>match isSame a b with
  | some k=>Q (.d (.bool (if neg then !k else k))) h
  | none=>False
 | _,_,_,_=>False
def lY {K:Frag} {A:List Addr} {H:Hp} {a b:PyData} {x y:V} {v u:Value} {k:Bool} (ra:Rep K A H a x) (rb:Rep K A H b y) (rx:RelV x v) (ry:RelV y u) (e:isSame a b=some k):plainIs v u=true/\(v==u)=k:=by
 cases b with
 | none =>
  rw [Rep] at rb;subst rb;cases ry;cases a with
  | none=>rw [Rep] at ra;subst ra;cases rx;cases e;exact ⟨rfl,rfl⟩
  | bool c=>rw [Rep] at ra;subst ra;cases rx;cases e;exact ⟨rfl,rfl⟩
  | int c=>rw [Rep] at ra;subst ra;obtain ⟨t,rfl⟩:=rx;cases e;exact ⟨rfl,rfl⟩
  | str c=>rw [Rep] at ra;obtain ⟨ra,_⟩:=ra;subst ra;obtain ⟨t,rfl⟩:=rx;cases e;exact ⟨rfl,rfl⟩
  | list c=>rw [Rep] at ra;obtain ⟨p,vs,rfl,_⟩:=ra;cases rx;cases e;exact ⟨rfl,rfl⟩
  | tuple c=>rw [Rep] at ra;obtain ⟨p,vs,rfl,_⟩:=ra;cases rx;cases e;exact ⟨rfl,rfl⟩
  | dict c=>cases e
 | bool b =>
  rw [Rep] at rb;subst rb;cases ry;cases a with
  | none=>rw [Rep] at ra;subst ra;cases rx;cases e;exact ⟨rfl,rfl⟩
  | bool c=>rw [Rep] at ra;subst ra;cases rx;cases e;cases b<;>cases c<;>exact ⟨rfl,rfl⟩
  | int c=>rw [Rep] at ra;subst ra;obtain ⟨t,rfl⟩:=rx;cases e;exact ⟨rfl,rfl⟩
  | str c=>rw [Rep] at ra;obtain ⟨ra,_⟩:=ra;subst ra;obtain ⟨t,rfl⟩:=rx;cases e;exact ⟨rfl,rfl⟩
  | list c=>rw [Rep] at ra;obtain ⟨p,vs,rfl,_⟩:=ra;cases rx;cases e;exact ⟨rfl,rfl⟩
  | tuple c=>rw [Rep] at ra;obtain ⟨p,vs,rfl,_⟩:=ra;cases rx;cases e;exact ⟨rfl,rfl⟩
  | dict c=>cases e
 | _=>cases a<;>cases e
def bR8:OpR X (compareOp .Is) (upR X.K (dIs false)):=by
 intro pins s σ H x y v u Q I rx ry h;obtain ⟨a,b,h,A,μ,k,R,ra,rb,q,c⟩:=h;unfold dIs at q;split at q
 ·split at q
  ·rename_i e;obtain ⟨h1,h2⟩:=lY ra rb rx ry e;exact wpAny_is_plain h1 ⟨.bl _,H,I,by rw [h2];rfl,c _ _ _ _ _ _ q .refl R bE⟩
  ·exact q.elim
 ·exact q.elim
def yN:OpR X (compareOp .IsNot) (upR X.K (dIs true)):=by
 intro pins s σ H x y v u Q I rx ry h;obtain ⟨a,b,h,A,μ,k,R,ra,rb,q,c⟩:=h;unfold dIs at q;split at q
 ·split at q
  ·rename_i e;obtain ⟨h1,h2⟩:=lY ra rb rx ry e;exact wpAny_isNot_plain h1 ⟨.bl _,H,I,by rw [h2];rfl,c _ _ _ _ _ _ q .refl R bE⟩
  ·exact q.elim
 ·exact q.elim
def dIx:D2:=fun x y h Q=>match ref h x,y with
 | some (.list xs),.d (.int i)=>match atI xs i with
  | some v=>Q (.d v) h
  | none=>False
 | some (.tuple xs),.d (.int i)=>match atI xs i with
  | some v=>Q (.d v) h
  | none=>False
 | _,_=>False
def sB {K:Frag} {A:List Addr} {H:Hp} {xs:List PyData} {vs:List V} {i:Int} {x:PyData} (r:Reps K A H xs vs) (e:atI xs i=some x):∃ v,atI vs i=some v/\Rep K A H x v:=by
 unfold atI at e ⊢;rw [r.length];cases q:ixN xs.length i with
 | none=>rw [q] at e;cases e
 | some j =>
  rw [q] at e;obtain ⟨v,e1,e2⟩:=r.get (i:=j) e;exact ⟨v,e1,e2⟩
def cZ3:IxR X (upR X.K dIx):=by
 intro value slice pins s σ H x y v u Q I rx ry h hs;obtain ⟨a,b,h,A,μ,k,R,ra,rb,q,c⟩:=h;unfold dIx at q;split at q
 ·rename_i xs i ea;obtain ⟨p,vs,rfl,sq,rr⟩:=bX R ra ea;have eb:=bC rb;subst eb;split at q
  ·rename_i z ez;obtain ⟨z',e1,e2⟩:=sB rr ez;exact qB value slice pins s σ H _ _ v u Q I rx ry ⟨p,vs,i,z',rfl,rfl,sq,e1,c _ _ _ _ _ _ q .refl R e2⟩ hs
  ·exact q.elim
 ·rename_i xs i ea;obtain ⟨p,vs,rfl,sq,rr⟩:=bF ra ea;have eb:=bC rb;subst eb;split at q
  ·rename_i z ez;obtain ⟨z',e1,e2⟩:=sB rr ez;exact bO9 value slice pins s σ H _ _ v u Q I rx ry ⟨p,vs,i,z',rfl,rfl,sq.sq,e1,c _ _ _ _ _ _ q .refl R e2⟩ hs
  ·exact q.elim
 ·exact q.elim
abbrev DTO:=DSt->aA->(Option Int->aA->Prop)->Prop
noncomputable def upO (K:Frag) (t:DTO):TO:=fun σ H Q=>∃ (δ:DSt) (h:aA) (A μ:List Addr) (k:Option Int->aA->Prop),Ab K A μ δ h σ H/\t δ h k /\
 ∀ b h' H' A' μ',k b h'->Ext A A' μ μ' H H'->HeapRep K A' μ' h' H'->Q b H'
def DO (X:Cx) (e:Option Expr) (t:DTO):Prop:=PO X e (upO X.K t)
def qL {X:Cx} {e:Option Expr} {t t':TO} (h:PO X e t) (m:∀ σ H Q,t' σ H Q->t σ H Q):PO X e t':=fun pins s σ H Q I q=>h pins s σ H Q I (m σ H Q q)
def aT7:DTO:=fun _ h Q=>Q none h
def cK5 (t:DTE):DTO:=fun δ h Q=>t δ h fun w h1=>match w with
 | .d (.int i)=>Q (some i) h1
 | _=>False
def aT8:DO X none aT7:=qL aR6 fun σ H Q q=>by
 obtain ⟨δ,h,A,μ,k,R,q,c⟩:=q;exact c none h H A μ q .refl R.1
def aT9 {e:Expr} {te:DTE} (he:DE X e te):DO X (some e) (cK5 te):=qL (aR7 he) fun σ H Q q=>by
 obtain ⟨δ,h,A,μ,k,R,q,c⟩:=q;refine ⟨δ,h,A,μ,_,R,q,fun w h1 v H1 A1 μ1 q1 x1 R1 r1=>?_⟩;cases w with
 | c i=>exact q1.elim
 | v u=>exact q1.elim
 | d x =>
  cases x with
  | int i=>exact ⟨i,bC r1,c _ h1 H1 A1 μ1 q1 x1 R1⟩
  | _=>exact q1.elim
noncomputable def cut (xs:List PyData) (lo hi:Option Int):List PyData:=(xs.drop (HT.sIx xs.length 0 lo)).take (HT.sIx xs.length xs.length hi - HT.sIx xs.length 0 lo)
noncomputable def cK6 (te:DTE) (tl th:DTO) (r:W->Option Int->Option Int->aA->Prop):DSt->aA->Prop:=fun δ h=>te δ h fun x h1=>tl δ h1 fun lo h2=>th δ h2 fun hi h3=>r x lo hi h3
def cZ4 (te:DTE) (tl th:DTO):DTE:=fun δ h Q=>cK6 te tl th (fun x lo hi h3=>match x with
 | .d (.tuple xs)=>Q (.d (.tuple (cut xs lo hi))) h3
 | _=>False) δ h
def cZ5 (te:DTE) (tl th:DTO):DTF:=fun δ h Q=>cK6 te tl th (fun x lo hi h3=>match ref h3 x with
 | some (.list xs)=>Q (cut xs lo hi) h3
 | _=>False) δ h
def sC {K:Frag} {A:List Addr} {H:Hp} {xs:List PyData} {vs:List V} (r:Reps K A H xs vs) (lo hi:Option Int):Reps K A H (cut xs lo hi) (rQ vs lo hi):=by
 unfold cut rQ;rw [r.length];exact (r.drop _).take _
def yO {prog:Program} {w:World} {A:Around} {E:Value->Shared->Prop} {s:Shared} {t sl:Addr} {items:Array Value} {vl vu:Value} {lo hi:Option Int} {Q:Value->Shared->Prop} (ht:IsTup s.heap t items) (hs:s.heap.IsSliceOf sl vl vu .none) (pl:IsPart vl lo) (pu:IsPart vu hi)
  (hw:HT.sIx items.size 0 lo=0/\HT.sIx items.size items.size hi=items.size) (h:Q (.ref t) s):wpAny (model prog w) A (getItem (.ref t) (.ref sl)) Q E s:=by
 obtain ⟨os,hos,hcs,hds⟩:=id hs;have hTs:s.TypeIs (.ref sl) "slice":=⟨os,hos,hcs⟩;unfold getItem;try with_reducible refine wpAny_holding ?_
 first | refine wpAny_bind (wpAny_pure ?_) | skip
 refine wpAny_bind (wpAny_sequenceKey ht.typeIs (by decide) ?_);refine wpAny_bind (wpAny_callSpecial?_slot (name:=Str.ofString "__getitem__") ht.typeIs PyProof.Rows.slot_tuple_getitem
  (wpAny_call_entry PyProof.Rows.slot_tuple_getitem ht.typeIs entry_tuple_getitem ?_ (args_tuple_getitem _ _)))
 show wpAny _ _ (Builtin.Tuple.tupleItemsOf (.ref t) >>= _) _ _ s;refine wpAny_bind (tupleItemsOf_ ht (wpAny_bind (wpAny_typeOf hTs ?_)));rw [if_pos (by decide)];refine wpAny_bind (HT.sliceApplied_gen hs pl pu ?_);have hy:(((HT.sIx items.size 0 lo:Nat):Int)==0&&(1:Int)==1&&(HT.sIx items.size items.size hi - HT.sIx items.size 0 lo)==items.size)=true:=by
  rw [hw.1,hw.2];simp
 show wpAny _ _ (if (((HT.sIx items.size 0 lo:Nat):Int)==0&&(1:Int)==1&&(HT.sIx items.size items.size hi - HT.sIx items.size 0 lo)==items.size)=true then _ else _) _ _ s;rw [if_pos hy];refine wpAny_bind (wpAny_bind (wpAny_typeOf ht.typeIs (wpAny_pure ?_)));rw [if_pos (by decide)];exact wpAny_bind (wpAny_rule (wpAny_pure ⟨_,rfl,wpAny_pure h⟩))
noncomputable def cZ6 (K:Frag):V->Option Int->Option Int->Hp->VK->Prop:=fun x lo hi H Q=>∃ a xs,x=.ref a/\SqT K H a xs/\(HT.sIx xs.length 0 lo=0/\HT.sIx xs.length xs.length hi=xs.length)/\Q (.ref a) H
def aU0:SlR X (cZ6 X.K):=by
 intro pins s σ H x v vl vu lo hi sl Q I rx hs pl pu h;obtain ⟨a,xs,rfl,hx,hw,q⟩:=h;cases rx;obtain ⟨its,r,ht,hz⟩:=I.tuple hx;have hlen:its.toArray.size=xs.length:=by rw [List.size_toArray];exact r.length.symm
 exact ⟨"tuple",_,PyProof.Rows.slot_tuple_getitem.lookup,ht.typeIs,yO ht hs pl pu (by rw [hlen];exact hw) ⟨.ref a,H,I,rfl,q⟩⟩
def yP {xs:List PyData} {lo hi:Option Int} (h:HT.sIx xs.length 0 lo=0/\HT.sIx xs.length xs.length hi=xs.length):cut xs lo hi=xs:=by
 unfold cut;rw [h.1,h.2];simp
def bR9 {e:Expr} {te:DTE} {lo hi:Option Expr} {tl th:DTO} {p2 pos:Pos} (he:DE X e te) (hl:DO X lo tl) (hh:DO X hi th):DE X (.Subscript e (.Slice lo hi none p2) pos) (cZ4 te tl th):=aK (rP (sl_tup.or aU0) he hl hh) fun σ H Q q=>by
 obtain ⟨δ,h,A,μ,k,R,q,c⟩:=q;refine ⟨δ,h,A,μ,_,R,q,fun w h1 v H1 A1 μ1 q1 x1 R1 r1=>?_⟩;refine ⟨δ,h1,A1,μ1,_,⟨R1,R.2.ext x1 R.1.sub⟩,q1,fun l h2 H2 A2 μ2 q2 x2 R2=>?_⟩;refine ⟨δ,h2,A2,μ2,_,⟨R2,R.2.ext (x1.trans x2) R.1.sub⟩,q2,fun u h3 H3 A3 μ3 q3 x3 R3=>?_⟩;have r3:=r1.ext (x2.trans x3) R1.sub;dsimp only at q3 ⊢;split at q3
 ·rename_i xs;obtain ⟨p,vs,rfl,sq,rr⟩:=bF (h:=h3) r3 rfl
  by_cases hw:HT.sIx xs.length 0 l=0/\HT.sIx xs.length xs.length u=xs.length
  ·rw [yP hw] at q3;exact .inr ⟨p,vs,rfl,sq.sq,by rw [rr.length];exact hw,c _ _ _ _ _ _ q3 ((x1.trans x2).trans x3) R3 r3⟩
  ·refine .inl ⟨p,vs,rfl,sq.sq,by rw [rr.length];exact hw,fun p hp=>?_⟩;exact c _ _ _ _ _ _ q3 (((x1.trans x2).trans x3).trans (bB hp)) (R3.fresh hp) (dD R3 hp (sC rr l u))
 ·exact q3.elim
def aF6 {e:Expr} {te:DTE} {lo hi:Option Expr} {tl th:DTO} {p2 pos:Pos} (he:DE X e te) (hl:DO X lo tl) (hh:DO X hi th):DF X (.Subscript e (.Slice lo hi none p2) pos) (cZ5 te tl th):=aK (rP aR9 he hl hh) fun σ H Q q=>by
 obtain ⟨δ,h,A,μ,k,R,q,c⟩:=q;refine ⟨δ,h,A,μ,_,R,q,fun w h1 v H1 A1 μ1 q1 x1 R1 r1=>?_⟩;refine ⟨δ,h1,A1,μ1,_,⟨R1,R.2.ext x1 R.1.sub⟩,q1,fun l h2 H2 A2 μ2 q2 x2 R2=>?_⟩;refine ⟨δ,h2,A2,μ2,_,⟨R2,R.2.ext (x1.trans x2) R.1.sub⟩,q2,fun u h3 H3 A3 μ3 q3 x3 R3=>?_⟩;have r3:=r1.ext (x2.trans x3) R1.sub;dsimp only at q3 ⊢;split at q3
 ·rename_i xs ex;obtain ⟨p,vs,rfl,sq,rr⟩:=bX R3 r3 ex;refine ⟨p,vs,rfl,sq,fun p hp=>?_⟩;have x4:=(x1.trans x2).trans x3;obtain ⟨ν,e1,_⟩:=x4.pre;exact c _ _ _ _ _ _ q3 (x4.trans (cM hp)) ⟨ν,e1⟩ (x4.back hp) (eE R3 hp (sC rr l u))
 ·exact q3.elim
end
abbrev DC:=List W->aA->DK->Prop
noncomputable def upC (K:Frag) (r:DC):List V->Hp->VK->Prop:=fun vs H Q=>∃ (ws:List W) (h:aA) (A μ:List Addr) (k:DK),HeapRep K A μ h H/\fY K A μ H ws vs/\r ws h k /\
 ∀ w h' v H' A' μ',k w h'->Ext A A' μ μ' H H'->HeapRep K A' μ' h' H'->RepW K A' μ' H' w v->Q v H'
def dCB (r:DC) (t:DTA):DTE:=fun δ h Q=>t δ h fun ws h1=>r ws h1 Q
def bG1 {K:Frag} {r:DC} {t:DTA} {σ:L2.St} {H:Hp} {Q:VK} (q:up K (dCB r t) σ H Q):tCB (upC K r) (upA K t) σ H Q:=by
 obtain ⟨δ,h,A,μ,k,R,q,c⟩:=q;refine ⟨δ,h,A,μ,_,R,q,fun ws h1 vs H1 A1 μ1 q1 x1 R1 r1=>?_⟩;exact ⟨ws,h1,A1,μ1,k,R1,r1,q1,fun w h2 v H2 A2 μ2 q2 x2 R2 r2=>c w h2 v H2 A2 μ2 q2 (x1.trans x2) R2 r2⟩
def cV {K:Frag} {A μ:List Addr} {H:Hp} {w:W} {vs:List V} (r:fY K A μ H [w] vs):∃ v,vs=[v]/\RepW K A μ H w v:=by
 obtain ⟨v,r,rfl,h1,h2⟩:=r;have e:r=[]:=h2;subst e;exact ⟨v,rfl,h1⟩
section
variable {X:Cx} {x:Str} {p pos:Pos} {e:Expr} {es:List Expr} {t:DTA} {id T:String} {r:DC}
def aF7 (hc:bZ X (.builtin id) (upC X.K r)) (hm:X.mg x=none) (ha:DA X (e::es) t) (hv:autoParam (bootBuiltins x=some (.builtin id)) ZR) (hg:autoParam (Gl X x) ZR) (hn:autoParam (x≠"__name__") ZD) (hdb:autoParam ((x==("__debug__":Str))=false) ZD)
  (he:autoParam (starEach (e::es) X.env=(false,eval e X.env)::starEach es X.env) ZR) (hpl:autoParam ((backTo pos (starEach es X.env)).any (·.1)=false) ZR):DE X (.Call (.Name x p) (e::es) [] pos) (dCB r t) :=
 aK (iV hc hg hm hv ha hn hdb he hpl) fun _ _ _ q=>bG1 q
def yQ (hc:bZ X (.type T) (upC X.K r)) (hm:X.mg x=none) (ha:DA X (e::es) t) (hv:autoParam (bootBuiltins x=some (.type T)) ZR) (hg:autoParam (Gl X x) ZR) (hn:autoParam (x≠"__name__") ZD) (hdb:autoParam ((x==("__debug__":Str))=false) ZD)
  (he:autoParam (starEach (e::es) X.env=(false,eval e X.env)::starEach es X.env) ZR) (hpl:autoParam ((backTo pos (starEach es X.env)).any (·.1)=false) ZR):DE X (.Call (.Name x p) (e::es) [] pos) (dCB r t) :=
 aK (jL hc hg hm hv ha hn hdb he hpl) fun _ _ _ q=>bG1 q
noncomputable def bS0:DC
 | [w],h,Q=>match ref h w with
  | some (.list xs)=>Q (.d (.int xs.length)) h
  | some (.tuple xs)=>Q (.d (.int xs.length)) h
  | _=>False
 | _,_,_=>False
def yR:bZ X (.builtin "len") (upC X.K bS0):=by
 intro pins s σ H xs us Q I r h;obtain ⟨ws,h,A,μ,k,R,rw',q,c⟩:=h;unfold bS0 at q;split at q
 ·rename_i w h0 k0;obtain ⟨v,rfl,rv⟩:=cV rw';split at q
  ·rename_i ys ey;obtain ⟨p,vs,rfl,sq,rr⟩:=bX R rv ey;exact iX pins s σ H _ us Q I r ⟨p,vs,rfl,.inl sq,by rw [rr.length];exact c _ _ _ _ _ _ q .refl R lX⟩
  ·rename_i ys ey;obtain ⟨p,vs,rfl,sq,rr⟩:=bF rv ey;exact iX pins s σ H _ us Q I r ⟨p,vs,rfl,.inr sq.sq,by rw [rr.length];exact c _ _ _ _ _ _ q .refl R lX⟩
  ·exact q.elim
 ·exact q.elim
noncomputable def vB:DC
 | [w],h,Q=>match ref h w with
  | some (.list xs)=>Q (.d (.tuple xs)) h
  | some (.tuple xs)=>Q (.d (.tuple xs)) h
  | _=>False
 | _,_,_=>False
def sD:bZ X (.type "tuple") (upC X.K vB):=by
 intro pins s σ H xs us Q I r h;obtain ⟨ws,h,A,μ,k,R,rw',q,c⟩:=h;unfold vB at q;split at q
 ·rename_i w h0 k0;obtain ⟨v,rfl,rv⟩:=cV rw';split at q
  ·rename_i ys ey;obtain ⟨p,vs,rfl,sq,rr⟩:=bX R rv ey;exact iD pins s σ H _ us Q I r ⟨p,vs,rfl,.inl ⟨sq,fun l hl=>c _ _ _ _ _ _ q (bB hl) (R.fresh hl) (dD R hl rr)⟩⟩
  ·rename_i ys ey;obtain ⟨p,vs,rfl,sq,rr⟩:=bF rv ey;refine iD pins s σ H _ us Q I r ⟨p,vs,rfl,.inr ⟨sq.sq,c _ _ _ _ _ _ q .refl R ?_⟩⟩;show Rep X.K A H (.tuple ys) (.ref p);rw [Rep];exact ⟨p,vs,rfl,sq,rr⟩
  ·exact q.elim
 ·exact q.elim
def bS1 (t:DTA):DTF:=fun δ h Q=>t δ h fun ws h1=>match ws with
 | [w]=>(match ref h1 w with
  | some (.list xs)=>Q xs h1
  | some (.tuple xs)=>Q xs h1
  | _=>False)
 | _=>False
def aU1 (hm:X.mg "list"=none) (ha:DA X (e::es) t) (hg:autoParam (Gl X "list") ZR)
  (he:autoParam (starEach (e::es) X.env=(false,eval e X.env)::starEach es X.env) ZR) (hpl:autoParam ((backTo pos (starEach es X.env)).any (·.1)=false) ZR):DF X (.Call (.Name "list" p) (e::es) [] pos) (bS1 t) :=
 aK (jL qE hg hm rfl ha (by decide) (by decide) he hpl) fun σ H Q q=>by
  obtain ⟨δ,h,A,μ,k,R,q,c⟩:=q;refine ⟨δ,h,A,μ,_,R,q,fun ws h1 vs H1 A1 μ1 q1 x1 R1 r1=>?_⟩;obtain ⟨ν,e1,_⟩:=x1.pre;split at q1
  ·rename_i w;obtain ⟨v,rfl,rv⟩:=cV r1;split at q1
   ·rename_i ys ey;obtain ⟨p,vs,rfl,sq,rr⟩:=bX R1 rv ey;exact ⟨p,vs,rfl,.inl sq,fun l hl=>c _ _ _ _ _ _ q1 (x1.trans (cM hl)) ⟨ν,e1⟩ (x1.back hl) (eE R1 hl rr)⟩
   ·rename_i ys ey;obtain ⟨p,vs,rfl,sq,rr⟩:=bF rv ey;exact ⟨p,vs,rfl,.inr sq.sq,fun l hl=>c _ _ _ _ _ _ q1 (x1.trans (cM hl)) ⟨ν,e1⟩ (x1.back hl) (eE R1 hl rr)⟩
   ·exact q1.elim
  ·exact q1.elim
end
abbrev DSp:=List W->aA->(PyData->aA->Prop)->Prop
noncomputable def jO (K:Frag) (d:DSp):Sp:=fun vs H Q _=>∃ (ws:List W) (h:aA) (A μ:List Addr) (k:PyData->aA->Prop),HeapRep K A μ h H/\fY K A μ H ws vs/\d ws h k /\
 ∀ z h' v H' A',k z h'->Ext A A' μ μ H H'->HeapRep K A' μ h' H'->Rep K A' H' z v->Q v H'
def bG2 (d:DSp) (t:DTA):DTE:=fun δ h Q=>t δ h fun ws h1=>d ws h1 fun z h2=>Q (.d z) h2
def aU2 {K:Frag} {d:DSp} {t:DTA} {σ:L2.St} {H:Hp} {Q:VK} (q:up K (bG2 d t) σ H Q):aE0 (jO K d) [] E0 (upA K t) σ H Q:=by
 obtain ⟨δ,h,A,μ,k,R,q,c⟩:=q;refine ⟨δ,h,A,μ,_,R,q,fun ws h1 vs H1 A1 μ1 q1 x1 R1 r1=>?_⟩;show jO K d (vs++[]) H1 Q E0;rw [List.append_nil];exact ⟨ws,h1,A1,μ1,_,R1,r1,q1,fun z h2 v H2 A2 q2 x2 R2 r2=>c _ h2 v H2 A2 μ1 q2 (x1.trans x2) R2 r2⟩
structure DFn (P:Program) (w:World) (K:Frag) (mg:Str->Option Value) (base:Heap) (k:Nat) (x:Str) (d:DSp):Prop where
 ok:∃ (f:Addr) (fd:FuncData) (ps:List Str),FnOk P w K mg base CX0 k f fd ps (jO K d)/\mg x=some (.ref f)/\PySem.W.keepIn K (.ref f)=true/\Binds K fd ps []
section
variable {X:Cx} {x:Str} {p pos:Pos} {e:Expr} {es:List Expr} {t:DTA} {d:DSp} {k:Nat}
def aU3 (F:DFn X.prog X.w X.K X.mg X.base k x d) (hr:Room k X.A) (ha:DA X (e::es) t) (hg:autoParam (Gl X x) ZR) (hdb:autoParam ((x==("__debug__":Str))=false) ZD)
  (he:autoParam (starEach (e::es) X.env=(false,eval e X.env)::starEach es X.env) ZR) (hpl:autoParam ((backTo pos (starEach es X.env)).any (·.1)=false) ZR):DE X (.Call (.Name x p) (e::es) [] pos) (bG2 d t):=by
 obtain ⟨f,fd,ps,h1,h2,h3,h4⟩:=F.ok;exact aK (wO h1 hr hg h2 h3 h4 .nil aE7 ha hdb he hpl) fun _ _ _ q=>aU2 q
end
structure DEnds where
 nx:DSt->aA->Prop
 rt:DK
 bk:DSt->aA->Prop:=fun _ _=>False
 ct:DSt->aA->Prop:=fun _ _=>False
abbrev DTS:=DEnds->DSt->aA->Prop
structure Lnk (K:Frag) (A μ:List Addr) (H:Hp) (E:DEnds) (D:Ends):Prop where
 nx:∀ δ' h' σ' H' A' μ',E.nx δ' h'->Ext A A' μ μ' H H'->Ab K A' μ' δ' h' σ' H'->D.nx σ' H'
 bk:∀ δ' h' σ' H' A' μ',E.bk δ' h'->Ext A A' μ μ' H H'->Ab K A' μ' δ' h' σ' H'->D.bk σ' H'
 ct:∀ δ' h' σ' H' A' μ',E.ct δ' h'->Ext A A' μ μ' H H'->Ab K A' μ' δ' h' σ' H'->D.ct σ' H'
 rt:∀ w h' v H' A' μ',E.rt w h'->Ext A A' μ μ' H H'->HeapRep K A' μ' h' H'->RepW K A' μ' H' w v->D.rt v H'
def Lnk.ext {K:Frag} {A A1 μ μ1:List Addr} {H H1:Hp} {E:DEnds} {D:Ends} (L:Lnk K A μ H E D) (x:Ext A A1 μ μ1 H H1):Lnk K A1 μ1 H1 E D :=
 ⟨fun δ h σ H' A' μ' q y=>L.nx δ h σ H' A' μ' q (x.trans y),fun δ h σ H' A' μ' q y=>L.bk δ h σ H' A' μ' q (x.trans y),fun δ h σ H' A' μ' q y=>L.ct δ h σ H' A' μ' q (x.trans y),fun w h v H' A' μ' q y=>L.rt w h v H' A' μ' q (x.trans y)⟩
def upS (K:Frag) (t:DTS):TS:=fun D σ H=>∃ (δ:DSt) (h:aA) (A μ:List Addr) (E:DEnds),Ab K A μ δ h σ H/\t E δ h/\Lnk K A μ H E D
def DS (X:Cx) (st:Stmt) (t:DTS):Prop:=PS X st (upS X.K t)
def DSs (X:Cx) (st:List Stmt) (t:DTS):Prop:=PSs X st (upS X.K t)
def bG3:DTS:=fun E δ h=>E.nx δ h
def cZ7 (t u:DTS):DTS:=fun E δ h=>t { E with nx:=u E } δ h
def cZ8 (te:DTE):DTS:=fun E δ h=>te δ h E.rt
def cK7 (te:DTE):DTS:=fun E δ h=>te δ h fun _ h1=>E.nx δ h1
def cZ9 (c:DTT) (t u:DTS):DTS:=fun E δ h=>c δ h fun b h1=>if b=true then t E δ h1 else u E δ h1
abbrev DTG:=W->DSt->aA->(DSt->aA->Prop)->Prop
abbrev sE:=List PyData->DSt->aA->(DSt->aA->Prop)->Prop
def upG (K:Frag) (t:DTG):TG:=fun v σ H Q=>∃ (w:W) (δ:DSt) (h:aA) (A μ:List Addr) (k:DSt->aA->Prop),Ab K A μ δ h σ H/\RepW K A μ H w v/\t w δ h k /\
 ∀ δ' h' σ' H' A' μ',k δ' h'->Ext A A' μ μ' H H'->Ab K A' μ' δ' h' σ' H'->Q σ' H'
noncomputable def dA0 (K:Frag) (t:sE):TGs:=fun vs σ H Q=>∃ (xs:List PyData) (δ:DSt) (h:aA) (A μ:List Addr) (k:DSt->aA->Prop),Ab K A μ δ h σ H/\Reps K A H xs vs/\t xs δ h k /\
 ∀ δ' h' σ' H' A' μ',k δ' h'->Ext A A' μ μ' H H'->Ab K A' μ' δ' h' σ' H'->Q σ' H'
def DG (X:Cx) (tg:Expr) (t:DTG):Prop:=PG X tg (upG X.K t)
def DGs (X:Cx) (tg:List Expr) (t:sE):Prop:=PGs X tg (dA0 X.K t)
def lK {X:Cx} {e:Expr} {t t':TG} (h:PG X e t) (m:∀ v σ H Q,t' v σ H Q->t v σ H Q):PG X e t':=fun pins s σ H v u Q I r q=>h pins s σ H v u Q I r (m v σ H Q q)
def iZ {X:Cx} {e:List Expr} {t t':TGs} (h:PGs X e t) (m:∀ v σ H Q,t' v σ H Q->t v σ H Q):PGs X e t':=fun pins s σ H v u Q I r q=>h pins s σ H v u Q I r (m v σ H Q q)
def pC (i:Nat):DTG:=fun w δ h Q=>Q (δ.set i (some w)) h
noncomputable def cK8:sE:=fun xs δ h Q=>xs=[]/\Q δ h
noncomputable def bS2 (t:DTG) (u:sE):sE:=fun xs δ h Q=>match xs with
 | x::r=>t (.d x) δ h fun δ1 h1=>u r δ1 h1 Q
 | []=>False
def aF8 (n:Nat) (t:sE):DTG:=fun w δ h Q=>match w with
 | .d (.tuple xs)=>xs.length=n/\t xs δ h Q
 | _=>False
def yS (te:DTE) (g:DTG):DTS:=fun E δ h=>te δ h fun w h1=>g w δ h1 E.nx
section
variable {X:Cx} {st:Stmt} {rest:List Stmt} {t u:DTS} {e tg:Expr} {te:DTE} {tc:DTT} {g:DTG} {pos:Pos}
def aU4:DSs X [] bG3:=fH pY fun D σ H q=>by
 obtain ⟨δ,h,A,μ,E,R,q,L⟩:=q;exact L.nx δ h σ H A μ q .refl R
def jA (h1:DS X st t) (h2:DSs X rest u):DSs X (st::rest) (cZ7 t u):=fH (dI h1 h2) fun D σ H q=>by
 obtain ⟨δ,h,A,μ,E,R,q,L⟩:=q;exact ⟨δ,h,A,μ,_,R,q,⟨fun δ' h' σ' H' A' μ' q' x R'=>⟨δ',h',A',μ',E,R',q',L.ext x⟩,L.bk,L.ct,L.rt⟩⟩
def aU5:DS X (.Pass pos) bG3:=bH aQ7 fun D σ H q=>by
 obtain ⟨δ,h,A,μ,E,R,q,L⟩:=q;exact L.nx δ h σ H A μ q .refl R
def bS3 (he:DE X e te):DS X (.Return (some e) pos) (cZ8 te):=bH (aD1 he) fun D σ H q=>by
 obtain ⟨δ,h,A,μ,E,R,q,L⟩:=q;exact ⟨δ,h,A,μ,_,R,q,fun w h' v H' A' μ' q' x R' r'=>L.rt w h' v H' A' μ' q' x R' r'⟩
def aU6 (he:DE X e te) (hs:autoParam (swapsWith e none pos.line X.env=pure false) ZR):DS X (.Expr e pos) (cK7 te):=bH (aQ8 he hs) fun D σ H q=>by
 obtain ⟨δ,h,A,μ,E,R,q,L⟩:=q;exact ⟨δ,h,A,μ,_,R,q,fun w h' v H' A' μ' q' x R' _=>L.nx δ h' σ H' A' μ' q' x ⟨R',R.2.ext x R.1.sub⟩⟩
def cK9 {c:Expr} {a b:List Stmt} (hc:DT X c tc) (ha:DSs X a t) (hb:DSs X b u):DS X (.If c a b pos) (cZ9 tc t u):=bH (wK hc ha hb) fun D σ H q=>by
 obtain ⟨δ,h,A,μ,E,R,q,L⟩:=q;refine ⟨δ,h,A,μ,_,R,q,fun b h1 H1 A1 μ1 q1 x1 R1=>?_⟩;cases b with
 | true=>exact ⟨δ,h1,A1,μ1,E,⟨R1,R.2.ext x1 R.1.sub⟩,q1,L.ext x1⟩
 | false=>exact ⟨δ,h1,A1,μ1,E,⟨R1,R.2.ext x1 R.1.sub⟩,q1,L.ext x1⟩
def aU7 {i:Nat} {x:Str} (hN:X.N.Nodup) (hi:autoParam (X.N[i]?=some x) ZR) (hx:Loc X.env.scope x:=by first | exact Or.inl rfl | exact Or.inr rfl) (hf:X.fn x=true\/X.env.scope.names.lookup x=some .local:=by first | exact .inl rfl | exact .inr rfl):DG X (.Name x pos) (pC i) :=
 lK (aQ9 hN hi hx hf) fun v σ H Q q=>by
  obtain ⟨w,δ,h,A,μ,k,R,r,q,c⟩:=q;exact c _ h _ H A μ q .refl ⟨R.1,R.2.set i r⟩
def aU8:DGs X [] cK8:=iZ aR0 fun v σ H Q q=>by
 obtain ⟨xs,δ,h,A,μ,k,R,r,⟨e,q⟩,c⟩:=q;subst e;rw [Reps] at r;exact ⟨r,c δ h σ H A μ q .refl R⟩
def aF9 {es:List Expr} {tu:sE} (h1:DG X e g) (h2:DGs X es tu) (hs:autoParam ((assignEach (e::es) X.env).map (·.2)=assign e X.env::(assignEach es X.env).map (·.2)) ZR):DGs X (e::es) (bS2 g tu) :=
 iZ (aD2 h1 h2 hs) fun v σ H Q q=>by
  obtain ⟨xs,δ,h,A,μ,k,R,r,q,c⟩:=q;cases xs with
  | nil=>exact q.elim
  | cons x xs =>
   rw [Reps] at r;obtain ⟨v1,vr,rfl,r1,r2⟩:=r;refine ⟨v1,vr,rfl,.d x,δ,h,A,μ,_,R,r1,q,fun δ1 h1 σ1 H1 A1 μ1 q1 x1 R1=>?_⟩;exact ⟨xs,δ1,h1,A1,μ1,k,R1,r2.ext x1 R.1.sub,q1,fun δ2 h2 σ2 H2 A2 μ2 q2 x2 R2=>c δ2 h2 σ2 H2 A2 μ2 q2 (x1.trans x2) R2⟩
def bS4 {es:List Expr} {kk:Nat} {tu:sE} {n:Nat} (hc:X.calm=true) (h:DGs X es tu) (hn:autoParam ((assignEach es X.env).length=n) ZR) (hst:autoParam ((assignEach es X.env).findIdx? (·.1)=none) ZR):DG X (.Tuple es kk pos) (aF8 n tu) :=
 lK (bN2 hc h hn hst) fun v σ H Q q=>by
  obtain ⟨w,δ,h,A,μ,k,R,r,q,c⟩:=q;unfold aF8 at q;split at q
  ·rename_i xs;obtain ⟨p,vs,rfl,sq,rr⟩:=bF (h:=h) r rfl;exact ⟨p,vs,rfl,sq.sq,by rw [rr.length];exact q.1,xs,δ,h,A,μ,k,R,rr,q.2,c⟩
  ·exact q.elim
def bS5 (he:DE X e te) (hg:DG X tg g) (hs:autoParam (swapsWithSole [tg] e pos.line X.env=pure false) ZR) (hw:autoParam (swappedStores [tg] e X.env=pure none) ZR)
  (h1:autoParam ((assignEach [tg] X.env).map (·.2)=[assign tg X.env]) ZR):DS X (.Assign [tg] e pos) (yS te g):=bH (bN4 he hg hs hw h1) fun D σ H q=>by
 obtain ⟨δ,h,A,μ,E,R,q,L⟩:=q;refine ⟨δ,h,A,μ,_,R,q,fun w h1 v H1 A1 μ1 q1 x1 R1 r1=>?_⟩;exact ⟨w,δ,h1,A1,μ1,E.nx,⟨R1,R.2.ext x1 R.1.sub⟩,r1,q1,fun δ2 h2 σ2 H2 A2 μ2 q2 x2 R2=>L.nx δ2 h2 σ2 H2 A2 μ2 q2 (x1.trans x2) R2⟩
def bS6 {i:Nat} {x:Str} {pos':Pos} (hN:X.N.Nodup) (he:DE X e te) (hi:autoParam (X.N[i]?=some x) ZR) (hx:Loc X.env.scope x:=by first | exact Or.inl rfl | exact Or.inr rfl) (hs:autoParam (swapsWith e (some (.Name x pos')) pos.line X.env=pure false) ZR)
  (hf:X.fn x=true\/X.env.scope.names.lookup x=some .local:=by first | exact .inl rfl | exact .inr rfl):DS X (.Assign [.Name x pos'] e pos) (yS te (pC i)):=bH (lQ hN hi hx he hs hf) fun D σ H q=>by
 obtain ⟨δ,h,A,μ,E,R,q,L⟩:=q;refine ⟨δ,h,A,μ,_,R,q,fun w h1 v H1 A1 μ1 q1 x1 R1 r1=>?_⟩;exact L.nx _ h1 _ H1 A1 μ1 q1 x1 ⟨R1,(R.2.ext x1 R.1.sub).set i r1⟩
def DFS (X:Cx) (i:Nat) (st:Stmt) (tf:DTF):Prop:=PS X st (aR1 (upF X.K tf) (wL i))
def aG0 {tf:DTF} {i:Nat} {x:Str} {pos':Pos} (hN:X.N.Nodup) (he:DF X e tf) (hi:autoParam (X.N[i]?=some x) ZR) (hx:Loc X.env.scope x:=by first | exact Or.inl rfl | exact Or.inr rfl) (hs:autoParam (swapsWith e (some (.Name x pos')) pos.line X.env=pure false) ZR)
  (hf:X.fn x=true\/X.env.scope.names.lookup x=some .local:=by first | exact .inl rfl | exact .inr rfl):DFS X i (.Assign [.Name x pos'] e pos) tf:=lQ hN hi hx he hs hf
def bS7 {tf:DTF} {i:Nat} (h:DFS X i st tf):DS X st (yS (bP9 tf) (pC i)):=bH h fun D σ H q=>by
 obtain ⟨δ,h,A,μ,E,R,q,L⟩:=q;refine ⟨δ,h,A,μ,_,R,q,fun xs h' p H' A' μ' kk x hm hp R'=>?_⟩;obtain ⟨R1,r1⟩:=kL R'.1 R'.2;have x1:=lW R.1 hp x hm;exact L.nx _ h' _ H' _ μ' kk x1 ⟨R1,(R.2.ext x1 R.1.sub).set i r1⟩
def aG1 {tf:DTF} {i:Nat} (h:DFS X i st tf):DS X st (yS (bQ0 tf) (pC i)):=bH h fun D σ H q=>by
 obtain ⟨δ,h,A,μ,E,R,q,L⟩:=q;refine ⟨δ,h,A,μ,_,R,q,fun xs h' p H' A' μ' kk x hm hp R'=>?_⟩;have hl:μ'.length=h'.length:=by simpa using R'.1.len
 exact L.nx _ _ _ H' A' (μ'++[p]) kk x ⟨R'.1,(R.2.ext x R.1.sub).set i ⟨p,by rw [<- hl];simp,rfl⟩⟩
def dA1 (to:DTE) (t:DTA):DTE:=fun δ h Q=>to δ h fun o h1=>match o with
 | .c j=>(match h1[j]? with
  | some (.l _)=>t δ h1 fun ws h2=>(match ws,h2[j]? with
   | [.d x],some (.l xs)=>xs.length < sizeLine/\Q (.d .none) (h2.set j (.l (xs++[x])))
   | _,_=>False)
  | _=>False)
 | _=>False
def bS8 {o e0:Expr} {es:List Expr} {to:DTE} {t:DTA} {apos cpos:Pos} (ho:DE X o to) (ha:DA X (e0::es) t)
  (hbase:autoParam (attributeBase o "append" X.env (eval o X.env)=eval o X.env) ZR)
  (hfew:((backTo cpos (starEach (e0::es) X.env)).all (fun x=>!x.1)&&(backToKw cpos (keywordEach [] X.env)).all (fun x=>x.1.isSome)
   && decide ((e0::es).length+([]:List Keyword).length+(if ([]:List Keyword).isEmpty then 0 else 1) < 30))=true:=by rfl)
  (hline:autoParam ((apos.endLine==cpos.line)=true) ZR) (hs:autoParam (starEach (e0::es) X.env=(false,eval e0 X.env)::starEach es X.env) ZR) (hplain:autoParam ((backTo cpos (starEach es X.env)).any (·.1)=false) ZR) :
  DE X (.Call (.Attribute o "append" apos) (e0::es) [] cpos) (dA1 to t):=aK (bF8 PySem.F.plainAttrs_list PySem.F.slot_list_append PySem.F.type_list_append oW ho ha hbase hfew hline hs hplain) fun σ H Q q=>by
 obtain ⟨δ,h,A,μ,k,R,q,c⟩:=q;refine ⟨δ,h,A,μ,_,R,q,fun o h1 vo H1 A1 μ1 q1 x1 R1 r1=>?_⟩;split at q1
 ·rename_i j;obtain ⟨a,ea,rfl⟩:=r1;split at q1
  rotate_left
  ·exact q1.elim
  rename_i xs1 ex1;obtain ⟨vs1,hv1,_⟩:=R1.val j a xs1 ea ex1;refine ⟨.inl ⟨rfl,_,SqL.of hv1⟩,δ,h1,A1,μ1,_,⟨R1,R.2.ext x1 R.1.sub⟩,q1,fun ws h2 vs H2 A2 μ2 q2 x2 R2 r2=>?_⟩;split at q2
  ·rename_i x xs ex;obtain ⟨v,rfl,rv⟩:=cV r2;have ea2:μ2[j]?=some a:=by
    obtain ⟨ν,e1,_⟩:=x2.pre;rw [e1,List.getElem?_append_left (List.getElem?_eq_some_iff.mp ea).1];exact ea
   obtain ⟨vs,hv,rr⟩:=R2.val j a xs ea2 ex;refine ⟨a,vs,v,rfl,rfl,hv,by rw [rr.length];exact q2.1,?_⟩;have hm:=List.mem_of_getElem? ea2;exact c _ _ _ _ A2 μ2 q2.2 ((x1.trans x2).trans (gX hm hv)) (iK R2 ea2 ((Reps.one rv).append rr)) (by show Rep _ _ _ _ _;rw [Rep])
  ·exact q2.elim
 ·exact q1.elim
end
def cond (c:Option Nat) (xs:List PyData) (h:aA):Prop:=match c with
 | none=>True
 | some i=>h[i]?=some (.l xs)
abbrev DTI:=DSt->aA->(List PyData->Option Nat->aA->Prop)->Prop
def aU9 (K:Frag) (A μ:List Addr) (H:Hp) (J:It) (xs:List PyData) (c:Option Nat):Prop:=∀ A' μ' H' h',Ext A A' μ μ' H H'->HeapRep K A' μ' h' H'->cond c xs h' ->
 (∀ i x,xs[i]?=some x->J.go i H'/\∀ v H2,J.yld i H' v H2->Ext A' A' μ' μ' H' H2/\HeapRep K A' μ' h' H2/\Rep K A' H2 x v)/\∀ i,xs.length<=i->J.stop i H'
def upI (K:Frag) (t:DTI):TI:=fun σ H R=>∃ (δ:DSt) (h:aA) (A μ:List Addr) (k:List PyData->Option Nat->aA->Prop),Ab K A μ δ h σ H/\t δ h k /\
 ∀ xs c h' J H' A' μ',k xs c h'->Ext A A' μ μ' H H'->HeapRep K A' μ' h' H'->xs.length<=sizeLine->cond c xs h'->aU9 K A' μ' H' J xs c->R J H'
def DI (X:Cx) (tg iter:Expr) (t:DTI):Prop:=PI X tg iter (upI X.K t)
def gZ {X:Cx} {tg e:Expr} {t t':TI} (h:PI X tg e t) (m:∀ σ H R,t' σ H R->t σ H R):PI X tg e t':=fun pins s σ H R I q=>h pins s σ H R I (m σ H R q)
def cL0 (te:DTE):DTI:=fun δ h Q=>te δ h fun w h1=>match w with
 | .d (.list xs)=>Q xs none h1
 | .d (.tuple xs)=>Q xs none h1
 | .c i=>(match h1[i]? with
  | some (.l xs)=>Q xs (some i) h1
  | _=>False)
 | _=>False
def dA2 (K:Frag) (tl:TE):TI:=fun σ H R=>tl σ H fun x H1=>∃ a,x=.ref a/\((∃ xs,SqL K H1 a xs/\(xs.length<=sizeLine->R (Itl K a) H1))\/∃ xs,SqT K H1 a xs/\(xs.length<=sizeLine->R (Itt K a) H1))
def bS9 {X:Cx} {tg l:Expr} {tl:TE} (hl:PE X l tl):PI X tg l (dA2 X.K tl):=by
 intro pins s σ H R I h;refine thn (hl pins s σ H _ I h) fun v s1 ⟨x,H1,I1,r1,q1⟩=>?_;obtain ⟨a,e,q⟩:=q1;subst e;cases r1;rcases q with ⟨xs,hq,q⟩ | ⟨xs,hq,q⟩
 ·obtain ⟨its,rv,p,hz⟩:=I1.list hq;refine wpAny_pyIter_list p.isList ⟨s1.heap.objs.size,[s1.heap.objs.size],_,_,H1,rfl,I1.kept (t':=s1.toks) fun b o e=>Heap.get?_push_of_some _ e,yA a _,⟨_,Heap.get?_push_size _ rfl,rfl,rfl⟩,fun b hb=>?_,q hz⟩;rw [List.mem_singleton.mp hb];exact I1.fpOk (Nat.le_refl _) (I1.hok.fresh (Nat.le_refl _))
 ·obtain ⟨its,rv,p,hz⟩:=I1.tuple hq;refine wpAny_pyIter_tuple (show s1.heap.IsTuple a its.toArray from p) ⟨s1.heap.objs.size,[s1.heap.objs.size],_,_,H1,rfl,I1.kept (t':=s1.toks) fun b o e=>Heap.get?_push_of_some _ e,uL a _,⟨_,Heap.get?_push_size _ rfl,rfl,rfl⟩,fun b hb=>?_,q hz⟩;rw [List.mem_singleton.mp hb];exact I1.fpOk (Nat.le_refl _) (I1.hok.fresh (Nat.le_refl _))
def aV0 {X:Cx} {tg e:Expr} {te:DTE} (he:DE X e te):DI X tg e (cL0 te):=gZ (bS9 he) fun σ H R q=>by
 obtain ⟨δ,h,A,μ,k,Rr,q,c⟩:=q;refine ⟨δ,h,A,μ,_,Rr,q,fun w h1 v H1 A1 μ1 q1 x1 R1 r1=>?_⟩;have listCase:∀ {xs:List PyData} {cc:Option Nat} {p:Addr} {vs:List V},cond cc xs h1->SqL X.K H1 p vs->Reps X.K A1 H1 xs vs ->
   (∀ A' μ' H' h',Ext A1 A' μ1 μ' H1 H'->HeapRep X.K A' μ' h' H'->cond cc xs h'->∃ ws,SqL X.K H' p ws/\Reps X.K A' H' xs ws)->k xs cc h1->vs.length<=sizeLine->R (Itl X.K p) H1:=fun {xs cc p vs} hc sq rr st kk hz=>by
  refine c xs cc h1 _ H1 A1 μ1 kk x1 R1 (by rw [<- rr.length];exact hz) hc fun A' μ' H' h' y R' hc'=>?_;obtain ⟨ws,sq',rr'⟩:=st A' μ' H' h' y R' hc';refine ⟨fun i x ex=>?_,fun i hi=>⟨ws,sq',by rw [rr'.length];exact hi⟩⟩;obtain ⟨z,ez,rz⟩:=rr'.get ex;refine ⟨⟨ws,z,sq',ez⟩,fun v H2 hy=>?_⟩;obtain ⟨e2,hy⟩:=hy;subst e2;have:=hy ws sq';rw [ez] at this;cases this;exact ⟨.refl,R',rz⟩
 split at q1
 ·rename_i xs;have z:Rep X.K A1 H1 (.list xs) v:=r1;rw [Rep] at z;obtain ⟨p,vs,rfl,la,rr⟩:=z;refine ⟨p,rfl,.inl ⟨vs,la.sq,fun hz=>listCase (cc:=none) trivial la.sq rr (fun A' μ' H' h' y R' _=>?_) q1 hz⟩⟩;have z:Rep X.K A' H' (.list xs) (.ref p):=Rep.ext y R1.sub (by rw [Rep];exact ⟨p,vs,rfl,la,rr⟩);rw [Rep] at z;obtain ⟨p',ws,e,la',rr'⟩:=z;cases e;exact ⟨ws,la'.sq,rr'⟩
 ·rename_i xs;obtain ⟨p,vs,rfl,ta,rr⟩:=bF (h:=h1) r1 rfl;refine ⟨p,rfl,.inr ⟨vs,ta.sq,fun hz=>?_⟩⟩;refine c xs none h1 _ H1 A1 μ1 q1 x1 R1 (by rw [<- rr.length];exact hz) trivial fun A' μ' H' h' y R' _=>?_;obtain ⟨p',ws,e,ta',rr'⟩:=bF (h:=h1) (r1.ext y R1.sub) rfl;cases e;refine ⟨fun i x ex=>?_,fun i hi=>⟨ws,ta'.sq,by rw [rr'.length];exact hi⟩⟩;obtain ⟨z,ez,rz⟩:=rr'.get ex;refine ⟨⟨ws,z,ta'.sq,ez⟩,fun v H2 hy=>?_⟩;obtain ⟨e2,hy⟩:=hy;subst e2;have:=hy ws ta'.sq;rw [ez] at this;cases this;exact ⟨.refl,R',rz⟩
 ·rename_i i;split at q1
  ·rename_i xs ex;obtain ⟨p,ep,rfl⟩:=r1;obtain ⟨vs,hv,rr⟩:=R1.val i p xs ep ex;refine ⟨p,rfl,.inl ⟨vs,.of hv,fun hz=>listCase (cc:=some i) ex (.of hv) rr (fun A' μ' H' h' y R' hc'=>?_) q1 hz⟩⟩;have ep':μ'[i]?=some p:=by
    obtain ⟨ν,e1,_⟩:=y.pre;rw [e1,List.getElem?_append_left (List.getElem?_eq_some_iff.mp ep).1];exact ep
   obtain ⟨ws,hw,rr'⟩:=R'.val i p xs ep' hc';exact ⟨ws,.of hw,rr'⟩
  ·exact q1.elim
 ·exact q1.elim
noncomputable def rng (lo:Int) (n:Nat):List PyData:=(List.range n).map fun (i:Nat)=>.int (lo+(i:Int))
def aV1 (t:DTA):DTI:=fun δ h Q=>t δ h fun ws h1=>match ws with
 | [.d (.int j)]=>(j<=16000000/\-(2^62)<=j)/\Q (rng 0 j.toNat) none h1
 | _=>False
def aV2 (t:DTA):DTI:=fun δ h Q=>t δ h fun ws h1=>match ws with
 | [.d (.int i),.d (.int j)]=>(j - i<=16000000/\-(2^62)<=i/\i < 2^62/\-(2^62)<=j/\j < 2^62)/\Q (rng i (j - i).toNat) none h1
 | _=>False
def rng_len (lo:Int) (n:Nat):(rng lo n).length=n:=by unfold rng;simp
def aG2 {K:Frag} {A μ:List Addr} {H:Hp} (lo:Int) (n:Nat):aU9 K A μ H (Itr lo n) (rng lo n) none:=fun A' μ' H' h' y R' _=>by
 refine ⟨fun i x ex=>?_,fun i hi=>by rw [rng_len] at hi;exact hi⟩;have hi:i < n:=by rw [<- rng_len lo n];exact (List.getElem?_eq_some_iff.mp ex).1
 refine ⟨hi,fun v H2 hy=>?_⟩;obtain ⟨e,hv⟩:=hy;subst e hv;unfold rng at ex;rw [List.getElem?_map,List.getElem?_range hi] at ex;cases ex;exact ⟨.refl,R',jN⟩
def yT {X:Cx} {tg a:Expr} {t:DTA} {p pos:Pos} (hm:X.mg "range"=none) (ha:DA X [a] t) (hg:autoParam (Gl X "range") ZR) (hs:autoParam (starEach [a] X.env=[(false,eval a X.env)]) ZR):DI X tg (.Call (.Name "range" p) [a] [] pos) (aV1 t) :=
 gZ (yB hg hm ha hs) fun σ H R q=>by
  obtain ⟨δ,h,A,μ,k,Rr,q,c⟩:=q;refine ⟨δ,h,A,μ,_,Rr,q,fun ws h1 vs H1 A1 μ1 q1 x1 R1 r1=>?_⟩;split at q1
  ·rename_i j;obtain ⟨v,rfl,rv⟩:=cV r1;have e:=bC rv;subst e;obtain ⟨⟨z1,z2⟩,q1⟩:=q1;refine ⟨j,rfl,z2,by omega,c _ _ h1 _ H1 A1 μ1 q1 x1 R1 ?_ trivial (aG2 0 j.toNat)⟩;rw [rng_len];show j.toNat<=2^24;omega
  ·exact q1.elim
def yU {X:Cx} {tg a b:Expr} {t:DTA} {p pos:Pos} (hm:X.mg "range"=none) (ha:DA X [a,b] t) (hg:autoParam (Gl X "range") ZR) (hs:autoParam (starEach [a,b] X.env=[(false,eval a X.env),(false,eval b X.env)]) ZR) (hs2:autoParam (starEach [b] X.env=[(false,eval b X.env)]) ZR) :
  DI X tg (.Call (.Name "range" p) [a,b] [] pos) (aV2 t) :=
 gZ (yC hg hm ha hs hs2) fun σ H R q=>by
  obtain ⟨δ,h,A,μ,k,Rr,q,c⟩:=q;refine ⟨δ,h,A,μ,_,Rr,q,fun ws h1 vs H1 A1 μ1 q1 x1 R1 r1=>?_⟩;split at q1
  ·rename_i i j;obtain ⟨v,r,rfl,rv,r2⟩:=r1;obtain ⟨v',rfl,rv'⟩:=cV r2;have e:=bC rv;have e':=bC rv';subst e e';obtain ⟨⟨z1,z2⟩,q1⟩:=q1;refine ⟨i,j,rfl,z2,c _ _ h1 _ H1 A1 μ1 q1 x1 R1 ?_ trivial (aG2 i (j - i).toNat)⟩;rw [rng_len];show (j - i).toNat<=2^24;omega
  ·exact q1.elim
noncomputable def yV (g:DTG) (tb:DTS) (c:Option Nat) (all:List PyData):List PyData->DTS
 | [],E,δ,h=>cond c all h/\E.nx δ h
 | x::r,E,δ,h=>cond c all h/\g (.d x) δ h fun δ2 h2=>tb { nx:=yV g tb c all r E,ct:=yV g tb c all r E,bk:=E.nx,rt:=E.rt } δ2 h2
def dA3 (ti:DTI) (g:DTG) (tb:DTS):DTS:=fun E δ h=>ti δ h fun xs c h1=>yV g tb c xs xs E δ h1
noncomputable def sF (g:DTG) (tt:DTT) (te:DTE) (c:Option Nat) (all:List PyData):List PyData->DSt->aA->List PyData->(List PyData->aA->Prop)->Prop
 | [],_,h,ac,Q=>cond c all h/\Q ac h
 | x::r,δ,h,ac,Q=>cond c all h/\g (.d x) δ h fun δ2 h2=>tt δ2 h2 fun b h3 =>
  if b=true then te δ2 h3 fun w h4=>(match w with
   | .d y=>sF g tt te c all r δ2 h4 (ac++[y]) Q
   | .c _=>False
   | .v _=>False)
  else sF g tt te c all r δ2 h3 ac Q
noncomputable def bS (ixs:List (Option Nat)) (δ:DSt):DSt:=ixs.map fun o=>o.bind fun i=>(δ[i]?).bind id
def aG3 (ixs:List (Option Nat)) (ti:DTI) (g:DTG) (tt:DTT) (te:DTE):DTF:=fun δ h Q=>ti δ h fun xs c h1=>sF g tt te c xs xs (bS ixs δ) h1 [] Q
def DIf (X:Cx) (ifs:List Expr) (t:DTT):Prop:=PIf X ifs (upT X.K t)
def dA4:DTT:=fun _ h Q=>Q true h
section
variable {K:Frag} {A A' μ μ':List Addr} {H H':Hp} {h h':aA}
def yW {δ:DSt} {σ:L2.St} {ixs:List (Option Nat)} (r:EnvRep K A μ H δ σ):EnvRep K A μ H (bS ixs δ) (nZ ixs σ):=by
 refine ⟨by unfold bS nZ;rw [List.length_map,List.length_map],fun j w e=>?_⟩;unfold bS at e;rw [List.getElem?_map] at e;cases q:ixs[j]? with
 | none=>rw [q] at e;cases e
 | some o =>
  rw [q] at e;cases o with
  | none=>cases e
  | some i =>
   have e':(δ[i]?).bind id=some w:=Option.some.inj e;cases q2:δ[i]? with
   | none=>rw [q2] at e';cases e'
   | some z =>
    rw [q2] at e';have e3:z=some w:=e';subst e3;obtain ⟨v,e4,r4⟩:=r.val i w q2;refine ⟨v,?_,r4⟩;unfold nZ;rw [List.getElem?_map,q];show some ((σ[i]?).bind id)=_;rw [e4];rfl
def iL {p:Addr} {o:HO} (hp:H p=none):Ext A (p::A) μ μ H (upd H p o) :=
 ⟨fun _ z=>List.mem_cons_of_mem _ z,fun a z=>(List.mem_cons.mp z).elim (fun e=>.inr (by rw [e];exact hp)) .inl,⟨[],by simp,fun _ z=>(nomatch z)⟩,
  fun a o' _ q=>by rw [aF (aS q hp)];exact q,fun a o' q=>⟨o',by rw [aF (aS q hp)];exact q⟩⟩
def sG {p:Addr} {o:HO} (R:HeapRep K A μ h H) (hp:H p=none):HeapRep K (p::A) μ h (upd H p o):=by
 refine ⟨R.len,R.nd,fun a z=>List.mem_cons_of_mem _ (R.sub a z),fun a z=>?_,fun i a xs e1 e2=>?_⟩
 ·rcases List.mem_cons.mp z with e | z
  ·subst e;exact ⟨_,aN⟩
  ·obtain ⟨o',q⟩:=R.trk a z;exact ⟨o',by rw [aF (aS q hp)];exact q⟩
 ·have k:=R.cel i a xs e1 e2;obtain ⟨o',q⟩:=k.some;exact k.ext (iL (μ:=μ) hp) R.sub (aF (aS q hp))
def sH {p:Addr} {o:HO} (x:Ext A A' μ μ' H H') (h1:H p=some o) (h2:p∈A) (h3:p∉μ):H' p=some o/\p∈A'/\p∉μ':=by
 refine ⟨x.keep p o h3 h1,x.sub p h2,fun z=>?_⟩;obtain ⟨ν,e,n⟩:=x.pre;rw [e] at z;rcases List.mem_append.mp z with z | z
 ·exact h3 z
 ·rw [n p z] at h1;cases h1
def RepW.upd {p:Addr} {o:HO} (hp:p∈A) {w:W} {v:V} (r:RepW K A μ H w v):RepW K A μ (L2.upd H p o) w v:=by
 cases w with
 | d x=>exact Rep.upd hp r
 | c i=>exact r
 | v u=>exact r
def EnvRep.upd {p:Addr} {o:HO} (hp:p∈A) {δ:DSt} {σ:L2.St} (r:EnvRep K A μ H δ σ):EnvRep K A μ (L2.upd H p o) δ σ:=⟨r.len,fun i w e=>by
 obtain ⟨v,e1,r1⟩:=r.val i w e;exact ⟨v,e1,r1.upd hp⟩⟩
def Ext.aside {p:Addr} {o:HO} (x:Ext A A' μ μ' H H') (hp:H p=none):Ext A A' μ μ' H (upd H' p o) :=
 ⟨x.sub,x.new,x.pre,fun a o' ha q=>by rw [aF (aS q hp)];exact x.keep a o' ha q,fun a o' q=>by rw [aF (aS q hp)];exact x.trk a o' q⟩
def Ext.addc {p:Addr} (x:Ext A A' μ μ' H H') (hp:H p=none):Ext A A' μ (μ'++[p]) H H':=by
 obtain ⟨ν,e,n⟩:=x.pre;exact ⟨x.sub,x.new,⟨ν++[p],by rw [e,List.append_assoc],fun a z=>(List.mem_append.mp z).elim (n a) fun z=>by rw [List.mem_singleton.mp z];exact hp⟩,x.keep,x.trk⟩
def yX {p:Addr} {xs:List PyData} {vs:List V} (R:HeapRep K A μ h H) (h1:H p=some (.lst vs)) (h2:p∈A) (h3:p∉μ) (r:Reps K A H xs vs):HeapRep K A (μ++[p]) (h++[(.l xs)]) H/\aF0 h:=by
 refine ⟨?_,R.refs⟩;refine ⟨by rw [List.length_append,List.length_append,R.len];rfl,?_,fun a z=>?_,R.trk,fun i a ys e1 e2=>?_⟩
 ·rw [List.nodup_append];refine ⟨R.nd,(by simp),fun a ha b hb=>?_⟩;rw [List.mem_singleton.mp hb];rintro rfl;exact h3 ha
 ·rcases List.mem_append.mp z with z | z
  ·exact R.sub a z
  ·rw [List.mem_singleton.mp z];exact h2
 ·by_cases hi:i < μ.length
  ·rw [List.getElem?_append_left hi] at e1;rw [List.getElem?_append_left (by rw [<- R.len];exact hi)] at e2;exact (R.cel i a ys e1 e2).anti (fun _ z=>z) fun j _ b eb=>by rw [List.getElem?_append_left (List.getElem?_eq_some_iff.mp eb).1];exact eb
  ·have hle:μ.length<=i:=Nat.le_of_not_lt hi;rw [List.getElem?_append_right hle] at e1;rw [List.getElem?_append_right (by rw [<- R.len];exact hle),<- R.len] at e2;have hz:i - μ.length=0:=by
    have:=(List.getElem?_eq_some_iff.mp e1).1;simp at this;omega
   rw [hz] at e1 e2;simp at e1 e2;subst e1 e2;exact ⟨vs,h1,r⟩
end
section
variable {X:Cx} {tg iter elt:Expr} {ifs:List Expr} {sc S:Scope} {N':List Str} {ixs:List (Option Nat)} {body:List Stmt} {ti:DTI} {g:DTG} {tb:DTS} {tt:DTT} {te:DTE} {pos:Pos}
def aV3:DIf X [] dA4:=fun pins s σ H Q I q=>by
 obtain ⟨δ,h,A,μ,k,R,q,c⟩:=q;exact aS5 pins s σ H Q I (c true h H A μ q .refl R.1)
def aV4 {c:Expr} (h:DT X c tt):DIf X [c] tt:=aS6 h
def bT0 (hxe:X.xe=fun _ _=>False) (hc:X.calm=true) (hi:DI X tg iter ti) (hg:DG X tg g) (hb:DSs X body tb) (hs:autoParam (∀ x,foldedSetIterable iter X.env x=pure x) ZI):DS X (.For tg iter body [] pos) (dA3 ti g tb) :=
 bH (aD4 (by rw [hxe];exact PassesOwn.never) hc hi hg hb hs) fun D σ H q=>by
  obtain ⟨δ,h,A,μ,E,R,q,L⟩:=q;refine ⟨δ,h,A,μ,_,R,q,fun xs c h1 J H1 A1 μ1 q1 x1 R1 hz hcd it=>?_⟩;refine ⟨fun i m σ' H'=>∃ δ' h' A' μ',m=xs.length - i/\i<=xs.length/\Ext A1 A' μ1 μ' H1 H'/\Ab X.K A' μ' δ' h' σ' H'/\yV g tb c xs (xs.drop i) E δ' h',⟨_,δ,h1,A1,μ1,rfl,Nat.zero_le _,.refl,⟨R1,R.2.ext x1 R.1.sub⟩,by simpa using q1⟩,?_⟩;rintro i m σ' H' ⟨δ',h',A',μ',rfl,hi,y,R',q'⟩
  by_cases hlt:i < xs.length
  ·rw [List.drop_eq_getElem_cons hlt] at q';obtain ⟨hcond,q'⟩:=q';obtain ⟨it1,_⟩:=it A' μ' H' h' y R'.1 hcond;obtain ⟨go,yl⟩:=it1 i xs[i] (by simp [hlt]);refine .inr ⟨go,fun σ2 H2=>∃ δ2 h2 A2 μ2,Ext A1 A2 μ1 μ2 H1 H2/\Ab X.K A2 μ2 δ2 h2 σ2 H2/\yV g tb c xs (xs.drop (i+1)) E δ2 h2,fun σ2 H2 ⟨δ2,h2,A2,μ2,z1,z2,z3⟩=>⟨xs.length - (i+1),by omega,δ2,h2,A2,μ2,rfl,hlt,z1,z2,z3⟩,fun v H2 hy=>?_⟩;obtain ⟨y2,R2,r2⟩:=yl v H2 hy;refine ⟨.d xs[i],δ',h',A',μ',_,⟨R2,R'.2.ext y2 R'.1.sub⟩,r2,q',fun δ3 h3 σ3 H3 A3 μ3 q3 x3 R3=>?_⟩;have y3:=(y.trans y2).trans x3;refine ⟨δ3,h3,A3,μ3,_,R3,q3,⟨fun δ4 h4 σ4 H4 A4 μ4 q4 x4 R4=>⟨δ4,h4,A4,μ4,y3.trans x4,R4,q4⟩,fun δ4 h4 σ4 H4 A4 μ4 q4 x4 R4=>L.nx δ4 h4 σ4 H4 A4 μ4 q4 (x1.trans (y3.trans x4)) R4,
    fun δ4 h4 σ4 H4 A4 μ4 q4 x4 R4=>⟨δ4,h4,A4,μ4,y3.trans x4,R4,q4⟩,fun w h4 v H4 A4 μ4 q4 x4 R4 r4=>L.rt w h4 v H4 A4 μ4 q4 (x1.trans (y3.trans x4)) R4 r4⟩⟩
  ·have e:i=xs.length:=by omega
   subst e;rw [List.drop_length] at q';obtain ⟨hcond,q'⟩:=q';obtain ⟨_,it2⟩:=it A' μ' H' h' y R'.1 hcond;exact .inl ⟨it2 _ (Nat.le_refl _),L.nx δ' h' σ' H' A' μ' q' (x1.trans y) R'⟩
def wT {σ:L2.St} {H:Hp} {Q:VK} (q:upF X.K (aG3 ixs ti g tt te) σ H Q):aE9 ixs (upI X.K ti) (upG X.K g) (upT X.K tt) (up X.K te) σ H Q:=by
 obtain ⟨δ,h,A,μ,k,R,q,c⟩:=q;refine ⟨δ,h,A,μ,_,R,q,fun xs cc h1 J H2 A1 μ1 q1 x1 R1 hz hcd it=>?_⟩;intro acc hacc;have nA:=R1.notA hacc;have E1:=yW (ixs:=ixs) (R.2.ext x1 R.1.sub);refine ⟨fun i m ys σ' H'=>∃ δ' h' A' μ' ac,m=xs.length - i/\i<=xs.length/\H' acc=some (.lst ys)/\acc∈A'/\acc∉μ'/\Ext A1 A' μ1 μ' H2 H'/\Ab X.K A' μ' δ' h' σ' H'/\Reps X.K A' H' ac ys/\ys.length<=i/\sF g tt te cc xs (xs.drop i) δ' h' ac k,
  ⟨_,bS ixs δ,h1,acc::A1,μ1,[],rfl,Nat.zero_le _,aN,List.mem_cons_self,fun z=>nA (R1.sub _ z),iL hacc,⟨sG R1 hacc,E1.ext (iL hacc) R1.sub⟩,.nil,Nat.le_refl _,by simpa using q1⟩,?_⟩
 rintro i m ys σ' H' ⟨δ',h',A',μ',ac,rfl,hi,a1,a2,a3,y,R',rr,hyl,q'⟩
 by_cases hlt:i < xs.length
 ·rw [List.drop_eq_getElem_cons hlt] at q';obtain ⟨hcond,q'⟩:=q';obtain ⟨it1,_⟩:=it A' μ' H' h' y R'.1 hcond;obtain ⟨go,yl⟩:=it1 i xs[i] (by simp [hlt]);refine .inr ⟨go,fun v H3 hy=>?_⟩;obtain ⟨y2,R2,r2⟩:=yl v H3 hy;refine ⟨.d xs[i],δ',h',A',μ',_,⟨R2,R'.2.ext y2 R'.1.sub⟩,r2,q',fun δ4 h4 σ4 H4 A4 μ4 q4 x4 R4=>?_⟩;refine ⟨δ4,h4,A4,μ4,_,R4,q4,fun b h5 H5 A5 μ5 q5 x5 R5=>?_⟩;have z5:=(y2.trans x4).trans x5;obtain ⟨b1,b2,b3⟩:=sH z5 a1 a2 a3;dsimp only at q5 ⊢;cases b with
  | false =>
   rw [if_neg Bool.false_ne_true] at q5;rw [if_neg Bool.false_ne_true];exact ⟨xs.length - (i+1),by omega,δ4,h5,A5,μ5,ac,rfl,hlt,b1,b2,b3,y.trans z5,⟨R5,R4.2.ext x5 R4.1.sub⟩,rr.ext z5 R'.1.sub,by omega,q5⟩
  | true =>
   rw [if_pos rfl] at q5;rw [if_pos rfl];refine ⟨δ4,h5,A5,μ5,_,⟨R5,R4.2.ext x5 R4.1.sub⟩,q5,fun w h6 v6 H6 A6 μ6 q6 x6 R6 r6=>?_⟩;have z6:=z5.trans x6;obtain ⟨c1,c2,c3⟩:=sH z6 a1 a2 a3;cases w with
   | c j=>exact q6.elim
   | v u=>exact q6.elim
   | d d6 =>
    have hl6:ys.length < sizeLine:=by omega
    refine ⟨c1,hl6,xs.length - (i+1),by omega,δ4,h6,A6,μ6,ac++[d6],rfl,hlt,aN,c2,c3,(y.trans z6).aside hacc,⟨uZ R6 c2 c3,((R4.2.ext x5 R4.1.sub).ext x6 R5.sub).upd c2⟩,?_,?_,q6⟩
    ·exact ((Reps.one r6).append (rr.ext z6 R'.1.sub)).upd c2
    ·rw [List.length_append,List.length_singleton];omega
 ·have e:i=xs.length:=by omega
  subst e;rw [List.drop_length] at q';obtain ⟨hcond,q'⟩:=q';obtain ⟨_,it2⟩:=it A' μ' H' h' y R'.1 hcond;have x2:=x1.trans y;obtain ⟨ν,e1,_⟩:=x2.pre;exact .inl ⟨it2 _ (Nat.le_refl _),a1,c _ h' acc H' A' μ' q' (x2.addc (x1.back hacc)) ⟨ν,e1⟩ (x1.back hacc) (yX R'.1 a1 a2 a3 rr)⟩
def aV5 {N:List Str} (hxe:X.xe=fun _ _=>False) (hc:X.calm=true) (hS:X.env.scope=S) (hXN:X.N=N) (SC:CompSc N N' ixs S sc) (hi:DI X tg iter ti)
  (hg:∀ cl C s H fp,DG (blk X N' sc cl C s H fp) tg g) (ht:∀ cl C s H fp,DIf (blk X N' sc cl C s H fp) ifs tt) (he:∀ cl C s H fp,DE (blk X N' sc cl C s H fp) elt te)
  (hs:autoParam (∀ x,foldedSetIterable iter X.env x=pure x) ZI):DF X (.ListComp elt [⟨tg,iter,ifs,0⟩] sc pos) (aG3 ixs ti g tt te) :=
 aK (aS7 (N':=N') (ixs:=ixs) (g:=upG X.K g) (tt:=upT X.K tt) (te:=up X.K te) hxe hc hS (by rw [hXN];exact SC) hi hg ht he hs) fun _ _ _ q=>wT q
def aG4 {y:Str} {i:Nat} {py spos:Pos} {N:List Str} (hN:X.N.Nodup) (hxe:X.xe=fun _ _=>False) (hc:X.calm=true) (hS:X.env.scope=S) (hXN:X.N=N) (SC:CompSc N N' ixs S sc) (hi:DI X tg iter ti)
  (hg:∀ cl C s H fp,DG (blk X N' sc cl C s H fp) tg g) (ht:∀ cl C s H fp,DIf (blk X N' sc cl C s H fp) ifs tt) (he:∀ cl C s H fp,DE (blk X N' sc cl C s H fp) elt te)
  (hiN:autoParam (X.N[i]?=some y) ZR) (hy:autoParam (X.env.scope.names.lookup y=some .local) ZR) (hsw:autoParam (swapsWith (.ListComp elt [⟨tg,iter,ifs,0⟩] sc pos) (some (.Name y py)) spos.line X.env=pure true) ZR)
  (hs:autoParam (∀ x,foldedSetIterable iter X.env x=pure x) ZI):DFS X i (.Assign [.Name y py] (.ListComp elt [⟨tg,iter,ifs,0⟩] sc pos) spos) (aG3 ixs ti g tt te) :=
 bH (uX (N':=N') (ixs:=ixs) (g:=upG X.K g) (tt:=upT X.K tt) (te:=up X.K te) hxe hc hS (by rw [hXN];exact SC) hi hg ht he hN hiN hy hsw hs) fun _ _ _ q=>wT q
end
noncomputable def eU (N:List Str) (ws:List W):DSt:=ws.map some++List.replicate (N.length - ws.length) none
noncomputable def bG4 (h0:aA) (k:PyData->aA->Prop):DEnds where
 nx:=fun _ h=>okP h0 h/\k .none (h.take h0.length)
 rt:=fun w h=>okP h0 h/\(match w with
  | .d x=>k x (h.take h0.length)
  | .c i=>(match h[i]? with
   | some (.l xs)=>h0.length<=i/\k (.list xs) (h.take h0.length)
   | some (.k kvs)=>h0.length<=i/\k (.dict kvs) (h.take h0.length)
   | _=>False)
  | .v _=>False)
theorem eG {K:Frag} {A μ:List Addr} {H:Hp}:∀ {ws:List W} {vs:List V},fY K A μ H ws vs->vs.length=ws.length
 | [],_,h=>by have e:_=[]:=h;subst e;rfl
 | w::ws,_,h=>by
  obtain ⟨v,r,rfl,_,h⟩:=h;rw [List.length_cons,List.length_cons,eG h]
theorem pD {K:Frag} {A μ:List Addr} {H:Hp}:∀ {ws:List W} {vs:List V} {i:Nat} {w:W},fY K A μ H ws vs->ws[i]?=some w->∃ v,vs[i]?=some v/\RepW K A μ H w v
 | [],_,_,_,_,e=>by simp at e
 | y::ws,_,0,w,h,e=>by
  obtain ⟨v,r,rfl,hv,_⟩:=h;simp at e;subst e;exact ⟨v,rfl,hv⟩
 | y::ws,_,i+1,w,h,e=>by
  obtain ⟨v,r,rfl,_,h⟩:=h;obtain ⟨u,e1,e2⟩:=pD (i:=i) h (by simpa using e);exact ⟨u,by simpa using e1,e2⟩
def jP {K:Frag} {A μ:List Addr} {H:Hp} {N:List Str} {ws:List W} {vs:List V} (r:fY K A μ H ws vs):EnvRep K A μ H (eU N ws) (L2.start N vs):=by
 have hl:=eG r;refine ⟨by unfold eU L2.start;simp [hl],fun i w e=>?_⟩;unfold eU at e
 by_cases hi:i < ws.length
 ·rw [List.getElem?_append_left (by simpa using hi),List.getElem?_map] at e;cases q:ws[i]? with
  | none=>rw [q] at e;cases e
  | some w' =>
   rw [q] at e;cases e;obtain ⟨v,e1,r1⟩:=pD r q;refine ⟨v,?_,r1⟩;unfold L2.start;rw [List.getElem?_append_left (by simp;omega),List.getElem?_map,e1];rfl
 ·rw [List.getElem?_append_right (by simpa using hi),List.getElem?_replicate] at e;split at e<;>cases e
def jQ {K:Frag} {A A1 μ μ1:List Addr} {h h1:aA} {H H1:Hp} (R:HeapRep K A μ h H) (R1:HeapRep K A1 μ1 h1 H1) (x:Ext A A1 μ μ1 H H1) (ok:okP h h1):Ext A A μ μ H H1/\HeapRep K A μ (h1.take h.length) H1:=by
 obtain ⟨ν,e,n⟩:=x.pre;have hle:μ.length<=h1.length:=by
  rw [<- R1.len,e,List.length_append];omega
 refine ⟨⟨fun _ z=>z,fun _ z=>.inl z,⟨[],by simp,fun _ z=>(nomatch z)⟩,x.keep,x.trk⟩,⟨by rw [List.length_take,<- R.len];omega,R.nd,R.sub,fun a z=>?_,fun i a xs e1 e2=>?_⟩⟩
 ·obtain ⟨o,q⟩:=R.trk a z;exact x.trk a o q
 ·have hi:i < μ.length:=(List.getElem?_eq_some_iff.mp e1).1;have e3:h1[i]?=some xs:=by rw [<- R.len] at e2;rw [List.getElem?_take_of_lt hi] at e2;exact e2
  refine (R1.cel i a xs (by rw [e,List.getElem?_append_left hi];exact e1) e3).anti x.sub fun j hj b eb=>?_;have hlt:j < μ.length:=by
   rcases ok i xs (by rw [<- R.len];exact hi) e3 with z | z
   ·rw [R.len];exact z j hj
   ·exact (R.cel i a xs e1 z).lt j hj
  rw [e,List.getElem?_append_left hlt] at eb;exact eb
section
variable {P:Program} {w:World} {K:Frag} {mg:Str->Option Value} {base:Heap}
def cL1 {x qual:Str} {st:Stmt} {f:Addr} {fd:FuncData} {N ps:List Str} {k:Nat} {sp:Sp} (F:Fun K x qual st f fd) (S:FnScope N ps (aH st)) (len:∀ vs H Q E,sp vs H Q E->vs.length=ps.length)
  (hbody:∀ (cdv:Value) (A:Around) (outer:List Env) (s:Shared) (H:Hp) (vs:List V) (Q:VK) (E:XK),fd.code=cdv->Room k (A.deeper (envOfC qual (aH st) s.heap.objs.size f cdv))->sp vs H Q E ->
   ∃ t,PSs (gB CX0 P w K mg base N qual (aH st) f cdv A outer s H E).nox (aX st) t/\t { nx:=fun _ H'=>Q .non H',rt:=Q } (start N vs) H):FnOk P w K mg base CX0 (k+1) f fd ps sp:=by
 obtain ⟨oc,od,kV,doc,pm,an,cdv,ct,osl,rfl,lk,hcd⟩:=F.ex;refine aE1 lk hcd S len fun A outer s H vs Q E hr hsp=>?_;obtain ⟨t,h,q⟩:=hbody cdv A outer s H vs Q E rfl hr hsp;exact ⟨t,h.nox,q⟩
def dfn {x qual:Str} {st:Stmt} {f:Addr} {fd:FuncData} {N ps:List Str} {k:Nat} {d:DSp} (F:Fun K x qual st f fd) (S:FnScope N ps (aH st)) (len:∀ ws h k,d ws h k->ws.length=ps.length)
  (hbody:∀ (cdv:Value) (A:Around) (outer:List Env) (s:Shared) (H:Hp) (E:XK),fd.code=cdv->Room k (A.deeper (envOfC qual (aH st) s.heap.objs.size f cdv)) ->
   ∃ t,DSs (gB CX0 P w K mg base N qual (aH st) f cdv A outer s H E).nox (aX st) t/\∀ ws h kk,d ws h kk->t (bG4 h kk) (eU N ws) h):FnOk P w K mg base CX0 (k+1) f fd ps (jO K d):=by
 refine cL1 F S (fun vs H Q E ⟨ws,h,A,μ,kk,R,r,q,c⟩=>by rw [eG r];exact len _ _ _ q) fun cdv A outer s H vs Q E hcd hr hsp=>?_;obtain ⟨ws,h,B,μ,kk,R,r,q,c⟩:=hsp;obtain ⟨t,ht,hq⟩:=hbody cdv A outer s H E hcd hr;refine ⟨_,ht,eU N ws,h,B,μ,bG4 h kk,⟨R,jP r⟩,hq ws h kk q,⟨fun δ' h' σ' H' A' μ' q' x' R'=>?_,fun δ' h' σ' H' A' μ' q' x' R'=>q'.elim,fun δ' h' σ' H' A' μ' q' x' R'=>q'.elim,fun z h' v H' A' μ' q' x' R' r'=>?_⟩⟩
 ·obtain ⟨y,R2⟩:=jQ R R'.1 x' q'.1;exact c _ _ _ _ B q'.2 y R2 (by rw [Rep])
 ·obtain ⟨ok,q'⟩:=q';obtain ⟨y,R2⟩:=jQ R R' x' ok;cases z with
  | d z=>exact c _ _ _ _ B q' y R2 (Rep.anti x'.sub r')
  | v u=>exact q'.elim
  | c i =>
   obtain ⟨a,ea,rfl⟩:=r';have q2:(match h'[i]? with | some (.l xs)=>h.length<=i/\kk (.list xs) (h'.take h.length) | some (.k kvs)=>h.length<=i/\kk (.dict kvs) (h'.take h.length) | _=>False):=q';cases e:h'[i]? with
   | none=>rw [e] at q2;exact q2.elim
   | some cc =>
    cases cc with
    | t _ _ _=>rw [e] at q2;exact q2.elim
    | o _ _=>rw [e] at q2;exact q2.elim
    | r _=>rw [e] at q2;exact q2.elim
    | l xs =>
     rw [e] at q2;obtain ⟨hi,q3⟩:=q2;obtain ⟨vs,hv,rr⟩:=R'.val i a xs ea e;refine c _ _ _ _ B q3 y R2 ?_;rw [Rep];refine ⟨a,vs,rfl,.inl ⟨fun z=>?_,.inl hv⟩,rr.anti x'.sub⟩;obtain ⟨ν,e1,n⟩:=x'.pre;rw [e1,List.getElem?_append_right (by rw [R.len];exact hi)] at ea;have:=n a (List.mem_of_getElem? ea);obtain ⟨o,q⟩:=R.trk a z;rw [this] at q;cases q
    | k kvs =>
     rw [e] at q2;obtain ⟨hi,q3⟩:=q2;obtain ⟨vs,hv,rr⟩:=R'.vad i a kvs ea e;refine c _ _ _ _ B q3 y R2 ?_;rw [Rep];refine ⟨a,vs,rfl,⟨fun z=>?_,.inl hv⟩,rr.anti x'.sub⟩;obtain ⟨ν,e1,n⟩:=x'.pre;rw [e1,List.getElem?_append_right (by rw [R.len];exact hi)] at ea;have:=n a (List.mem_of_getElem? ea);obtain ⟨o,q⟩:=R.trk a z;rw [this] at q;cases q
def aG5 {x qual:Str} {st:Stmt} {f:Addr} {fd:FuncData} {ps:List Str} {k:Nat} {d:DSp} (h:FnOk P w K mg base CX0 k f fd ps (jO K d)) (hm:mg x=some (.ref f)) (F:Fun K x qual st f fd) (b:Binds K fd ps []):DFn P w K mg base k x d:=⟨f,fd,ps,h,hm,F.kp,b⟩
end
section
variable {X:Cx} {a b e:Expr} {es:List Expr} {ta tb te:DTE} {t:DTA} {pos p p2:Pos} {x:Str}
def wU:OpR X (binaryOp .Add) (fun x y H Q=>∃ a b xs ys,x=.ref a/\y=.ref b/\SqL X.K H a xs/\SqL X.K H b ys/\xs.length+ys.length<=sizeLine/\∀ p,H p=none->Q (.ref p) (upd H p (.lst (xs++ys)))):=by
 intro pins s σ H x y v u Q I rx ry h;obtain ⟨a,b,xs,ys,rfl,rfl,ha,hb,hz,q⟩:=h;cases rx;cases ry;obtain ⟨its,r1,p1,_⟩:=I.list ha;obtain ⟨its2,r2,p2,_⟩:=I.list hb;obtain ⟨⟨cls,dd,data,sl⟩,n,ho,hc,_,hd⟩:=id p1;obtain ⟨⟨cls2,dd2,data2,sl2⟩,n2,ho2,hc2,_,hd2⟩:=id p2;simp only at hc hd hc2 hd2;subst hc hd hc2 hd2;have l1:=r1.length;have l2:=r2.length;have ea:its.toArray++its2.toArray=(its++its2).toArray:=by simp
 refine concat_meets ⟨_,ho,rfl⟩ ⟨_,ho2,rfl⟩ noFill_list_add seq_list_add PySem.F.slot_list_add PySem.F.entry_list_add (PySem.F.args_list_add_2 _ _) (list_addW a b its.toArray its2.toArray n n2 dd dd2 sl sl2 (by rw [List.size_toArray,List.size_toArray];omega)) ⟨ho,ho2,?_⟩;rw [ea];exact ⟨.ref _,_,I.lnew (t':=s.toks) (r1.append r2) (by rw [List.length_append];exact hz),rfl,q _ I.fresh⟩
noncomputable def dJ:List PyData->Option (List Bool)
 | []=>some []
 | .bool b::r=>(dJ r).map (b::·)
 | _::_=>none
theorem iM {K:Frag} {A:List Addr} {H:Hp}:∀ {xs:List PyData} {bs:List Bool} {vs:List V},dJ xs=some bs->Reps K A H xs vs->vs=bs.map V.bl
 | [],_,_,e,h=>by rw [Reps] at h;cases e;exact h
 | x::r,bs,vs,e,h=>by
  rw [Reps] at h;obtain ⟨v,rr,rfl,hv,h⟩:=h;cases x with
  | bool b =>
   unfold dJ at e;cases q:dJ r with
   | none=>rw [q] at e;cases e
   | some cs =>
    rw [q] at e;have e':b::cs=bs:=Option.some.inj e;subst e';rw [Rep] at hv;rw [hv,iM q h];rfl
  | _=>cases e
def yY {f:Nat->Bool} (bs:List Bool) (h:∀ i b,bs[i]?=some b->f i=b):(List.range bs.length).all f=bs.all id:=by
 rw [Bool.eq_iff_iff,List.all_eq_true,List.all_eq_true];constructor
 ·intro z b hb;obtain ⟨i,hi,e⟩:=List.mem_iff_getElem.mp hb;have:=z i (by simpa using hi);rw [h i b (by simp [hi,e])] at this;exact this
 ·intro z i hi;have hi':i < bs.length:=by simpa using hi
  rw [h i bs[i] (by simp [hi'])];exact z _ (List.getElem_mem hi')
def yZ (hc:X.calm=true):bZ X (.builtin "all") (fun xs H Q=>∃ (p:Addr) (bs:List Bool),xs=[.ref p]/\SqL X.K H p (bs.map V.bl)/\Q (.bl (bs.all id)) H):=by
 intro pins s σ H xs us Q I r h;obtain ⟨p,bs,rfl,sq,q⟩:=h;obtain ⟨u,rfl,ru⟩:=iU r;cases ru;obtain ⟨its,rv,pl,hz⟩:=I.list sq;have hl:=rv.length;rw [List.length_map] at hl;have hlt:p < s.heap.objs.size:=by obtain ⟨o,n,e,_⟩:=pl;exact Heap.lt_size e
 refine call_all_walk (wpAny_pyIter_list pl.isList ?_);refine ⟨s.heap.objs.size,_,_,its.toArray.size,_,_,fun i=>(bs[i]?).getD true,rfl,Walks.list (A:=X.A.in1) (I.ok.hd hc) s.heap.objs.size p (Nat.ne_of_lt hlt) its.toArray,⟨⟨_,Heap.get?_push_size _ rfl,rfl,rfl⟩,?_⟩,fun i v s' Q' E' hP hQ=>?_,fun h' tk hk=>?_⟩
 ·obtain ⟨o,ho,r⟩:=pl.isList;exact ⟨o,Heap.get?_push_of_some _ ho,r⟩
 ·have hi:i < its.length:=by
   have:=(Array.getElem?_eq_some_iff.mp hP).1
   simpa using this
  have eb:bs[i]?=some (bs[i]'(by omega)):=by simp
  obtain ⟨u',e1,e2⟩:=rv.get (i:=i) (x:=V.bl (bs[i]'(by omega))) (by rw [List.getElem?_map,eb];rfl);have e3:v=u':=by
   have hP':its[i]?=some v:=by simpa using hP
   rw [hP'] at e1;exact Option.some.inj e1
  subst e3;cases e2;dsimp only at hQ;rw [eb] at hQ;exact wpAny_truthy_bool hQ
 ·have e:(List.range its.toArray.size).all (fun i=>(bs[i]?).getD true)=bs.all id:=by
   have:=yY (f:=fun i=>(bs[i]?).getD true) bs (fun i b e=>by simp [e]);rw [List.size_toArray,<- hl];exact this
  refine ⟨.bl (bs.all id),H,I.kept fun b o eo=>hk b o ?_ (Heap.get?_push_of_some _ eo),by rw [e];rfl,q⟩;intro z;rw [List.mem_singleton.mp z] at eo;exact absurd (Heap.lt_size eo) (Nat.lt_irrefl _)
noncomputable def bT1:DC
 | [w],h,Q=>match ref h w with
  | some (.list xs)=>(match dJ xs with
   | some bs=>Q (.d (.bool (bs.all id))) h
   | none=>False)
  | _=>False
 | _,_,_=>False
def zA (hc:X.calm=true):bZ X (.builtin "all") (upC X.K bT1):=by
 intro pins s σ H xs us Q I r h;obtain ⟨ws,h,A,μ,k,R,rw',q,c⟩:=h;unfold bT1 at q;split at q
 ·rename_i w h0 k0;obtain ⟨v,rfl,rv⟩:=cV rw';split at q
  ·rename_i ys ey;split at q
   ·rename_i bs eb;obtain ⟨p,vs,rfl,sq,rr⟩:=bX R rv ey;have ev:=iM eb rr;subst ev;exact yZ hc pins s σ H _ us Q I r ⟨p,bs,rfl,sq,c _ _ _ _ _ _ q .refl R bE⟩
   ·exact q.elim
  ·exact q.elim
 ·exact q.elim
noncomputable def dF:PyData->String
 | .none=>"NoneType"
 | .bool _=>"bool"
 | .int _=>"int"
 | .str _=>"str"
 | .list _=>"list"
 | .tuple _=>"tuple"
 | .dict _=>"dict"
noncomputable def isi (d:PyData) (T:String):Bool:=dF d==T||(dF d=="bool"&&T=="int")
def kM (T:String):Prop:=∀ (K:Frag) (d:PyData),PySem.W.kitOne K (.type (dF d)) (.type T)=some (isi d T)
def aV6:kM "int":=fun K d=>by cases d<;>kernel_rfl
def aG6:kM "bool":=fun K d=>by cases d<;>kernel_rfl
def aV7:kM "str":=fun K d=>by cases d<;>kernel_rfl
def zB:kM "tuple":=fun K d=>by cases d<;>kernel_rfl
def aG7:kM "list":=fun K d=>by cases d<;>kernel_rfl
def dA5 (T:String) (te:DTE):DTE:=fun δ h Q=>te δ h fun w h1=>match ref h1 w with
 | some d=>Q (.d (.bool (isi d T))) h1
 | none=>False
def aG8 {pins:List (Addr×Obj)} {σ:L2.St} {H:Hp} {s:Shared} {A μ:List Addr} {h:aA} {w:W} {d:PyData} {v:V} {u:Value} {T:String} {Q:Value->Shared->Prop} {Ar:Around} {E:Value->Shared->Prop}
  (I:Inv X pins σ H s) (R:HeapRep X.K A μ h H) (r:RepW X.K A μ H w v) (e:ref h w=some d) (rv:RelV v u) (hk:kM T) (q:∀ tk,Q (.bool (isi d T)) { s with toks:=tk }) :
  wpAny (model X.prog X.w) Ar (call (.builtin "isinstance") [u,.type T]) Q E s:=by
 have ek:=hk X.K d;cases d with
 | none =>
  have z:=bL R r e;rw [See] at z;subst z;cases rv;exact PySem.W.kia_one PySem.W.kitx_none I.kIn True.intro ek (fun z=>nomatch z) q
 | bool b =>
  have z:=bL R r e;rw [See] at z;subst z;cases rv;exact PySem.W.kia_one PySem.W.kitx_bool I.kIn True.intro ek (fun z=>nomatch z) q
 | int b =>
  have z:=bL R r e;rw [See] at z;subst z;obtain ⟨t,rfl⟩:=rv;exact PySem.W.kia_one PySem.W.kitx_int I.kIn True.intro ek (fun z=>nomatch z) q
 | str b =>
  have z:=bL R r e;rw [See] at z;subst z;obtain ⟨t,rfl⟩:=rv;exact PySem.W.kia_one PySem.W.kitx_str I.kIn True.intro ek (fun z=>nomatch z) q
 | list xs =>
  obtain ⟨p,vs,rfl,sq,_⟩:=bX R r e;cases rv;obtain ⟨its,_,⟨o,n,ho,hc,_⟩,_⟩:=I.list sq;exact PySem.W.kia_one PySem.W.kitx_list I.kIn ⟨o,ho,hc⟩ ek (fun z=>nomatch z) q
 | tuple xs =>
  obtain ⟨p,vs,rfl,sq,_⟩:=bF r e;cases rv;obtain ⟨its,_,⟨o,ho,hc,_⟩,_⟩:=I.tuple sq.sq;exact PySem.W.kia_one PySem.W.kitx_tuple I.kIn ⟨o,ho,hc⟩ ek (fun z=>nomatch z) q
 | dict kvs =>
  cases w with
  | v u=>cases e
  | c i =>
   obtain ⟨p,ep,rfl⟩:=r;dsimp only [DL.ref] at e;cases q0:h[i]? with
   | none=>rw [q0] at e;cases e
   | some cc =>
    cases cc with
    | t _ _ _=>rw [q0] at e;cases e
    | o _ _=>rw [q0] at e;cases e
    | r _=>rw [q0] at e;cases e
    | l ys=>rw [q0] at e;cases e
    | k ys =>
     obtain ⟨rr,hp,_⟩:=R.vad i p ys ep q0;cases rv;obtain ⟨_,_,vs,_,o,es,ep',h1,h2,_⟩:=lT I.hok (.inl hp);exact PySem.W.kia_one PySem.W.kitx_dict I.kIn ⟨o,h1,h2.1⟩ ek (fun z=>nomatch z) q
  | d y =>
   cases e;have z:Rep X.K A H (.dict kvs) v:=r;rw [Rep] at z;obtain ⟨p,kv',rfl,⟨_,hp⟩,_⟩:=z;cases rv;obtain ⟨_,_,vs,_,o,es,ep,h1,h2,_⟩:=lT I.hok hp;exact PySem.W.kia_one PySem.W.kitx_dict I.kIn ⟨o,h1,h2.1⟩ ek (fun z=>nomatch z) q
def bT2 {T:Str} {Ts:String} (hk:kM Ts) (hm:X.mg "isinstance"=none) (hT:X.mg T=none) (he:DE X e te) (hv:autoParam (bootBuiltins T=some (.type Ts)) ZR) (hg:autoParam (Gl X "isinstance") ZR) (hgT:autoParam (Gl X T) ZR) (hTn:autoParam (T≠"__name__") ZD) (hTd:autoParam ((T==("__debug__":Str))=false) ZD)
  (hs:autoParam (starEach (e::[.Name T p2]) X.env=(false,eval e X.env)::starEach [.Name T p2] X.env) ZR) (hs2:autoParam (starEach ([.Name T p2]:List Expr) X.env=(false,eval (.Name T p2) X.env)::starEach [] X.env) ZR)
  (hpl:autoParam ((backTo pos (starEach ([.Name T p2]:List Expr) X.env)).any (·.1)=false) ZR):DE X (.Call (.Name "isinstance" p) [e,.Name T p2] [] pos) (dA5 Ts te):=by
 have hT':PE X (.Name T p2) (tC (.ty Ts)):=wJ hgT hT hv rfl hTn hTd;have ha:PA X [e,.Name T p2] (eO (up X.K te) (eO (tC (.ty Ts)) yG)):=bN he (bN hT' fQ hs2) hs;have hc:bZ X (.builtin "isinstance") (fun xs H Q=>∃ x h A μ w d,xs=[x,.ty Ts]/\HeapRep X.K A μ h H/\RepW X.K A μ H w x/\ref h w=some d/\Q (.bl (isi d Ts)) H):=by
  intro pins s σ H xs us Q I r h;obtain ⟨x,h,A,μ,w,d,rfl,R,rx,e,q⟩:=h;cases r with
  | cons r1 r2 =>
   cases r2 with
   | cons r3 r4 =>
    cases r4;cases r3;exact aG8 I R rx e r1 hk fun tk=>⟨.bl _,H,I.tok tk,rfl,q⟩
 refine aK (iV hc hg hm (by rfl) ha (by decide) (by decide) hs hpl) fun σ H Q q=>?_;obtain ⟨δ,h,A,μ,k,R,q,c⟩:=q;refine ⟨δ,h,A,μ,_,R,q,fun w h1 v H1 A1 μ1 q1 x1 R1 r1=>?_⟩;split at q1
 ·rename_i d ed;exact ⟨v,h1,A1,μ1,w,d,rfl,R1,r1,ed,c _ h1 _ H1 A1 μ1 q1 x1 R1 bE⟩
 ·exact q1.elim
end
end DL
namespace SJ
open PySem
set_option genInjectivity true in
inductive One where
 | read (k:Nat) | write (k:Nat) (v:Int) | add (k:Nat) (n:Int) | swap (k:Nat) (o n:Int)
set_option genInjectivity true in
inductive Call where
 | one (c:One) | span (lo hi:Nat) | deal (cs:List One)
set_option genInjectivity true in
inductive Stp where
 | call (c:Call) | look (c:Call) | lay (ps:List (Nat×Int))
noncomputable def One.dat:One->PyData
 | .read k=>.tuple [.str "read",.int k]
 | .write k v=>.tuple [.str "write",.int k,.int v]
 | .add k n=>.tuple [.str "add",.int k,.int n]
 | .swap k o n=>.tuple [.str "swap",.int k,.int o,.int n]
noncomputable def One.key:One->Nat
 | .read k=>k | .write k _=>k | .add k _=>k | .swap k _ _=>k
noncomputable def Call.dat:Call->PyData
 | .one c=>c.dat
 | .span lo hi=>.tuple [.str "span",.int lo,.int hi]
 | .deal cs=>.tuple [.str "deal",.tuple (cs.map One.dat)]
def One.ok (c:One):Prop:=c.key < 8
noncomputable def Call.ok:Call->Prop
 | .one c=>c.ok
 | .span lo hi=>lo < hi/\hi<=8
 | .deal cs=>cs.length<=4/\1<=cs.length/\∀ c∈cs,c.ok
noncomputable def got (v:Int):PyData:=.tuple [.str "got",.int v]
noncomputable def dn:PyData:=.tuple [.str "done"]
noncomputable def yes:PyData:=.tuple [.str "yes"]
noncomputable def no:PyData:=.tuple [.str "no"]
mutual
noncomputable def fit:Nat->PyData->Bool
 | _,.none=>true
 | _,.bool _=>true
 | _,.int _=>true
 | _,.str x=>PyData.strOk x
 | 0,.list _=>false
 | 0,.tuple _=>false
 | n+1,.list xs=>fits n xs
 | n+1,.tuple xs=>fits n xs
 | _,.dict _=>false
noncomputable def fits:Nat->List PyData->Bool
 | _,[]=>true
 | n,x::xs=>fit n x&&fits n xs
end
end SJ
namespace DL
open PySem PySem.Spec PyProof.Rows L2
@[simp] theorem dA6 (i:Int):SeqAt.shaped (.int i)=true:=by simp [SeqAt.shaped,PyData.canLay0,PyData.depth]
@[simp] theorem cU9 (i:Bool):SeqAt.shaped (.bool i)=true:=by simp [SeqAt.shaped,PyData.canLay0,PyData.depth]
@[simp] theorem cV0:SeqAt.shaped .none=true:=by simp [SeqAt.shaped,PyData.canLay0,PyData.depth]
@[simp] theorem dA7 (i j:Int):PyData.eqv (.int i) (.int j)=decide (i=j):=by rw [PyData.eqv];exact Bool.beq_eq_decide_eq i j
@[simp] theorem dA8 (i j:Str):PyData.eqv (.str i) (.str j)=(i==j):=by rw [PyData.eqv]
@[simp] theorem aV8:((Str.ofString "read")==(Str.ofString "write"))=false:=by decide +kernel
@[simp] theorem bT3:((Str.ofString "read")==(Str.ofString "add"))=false:=by decide +kernel
@[simp] theorem bG5:((Str.ofString "read")==(Str.ofString "swap"))=false:=by decide +kernel
@[simp] theorem bG6:((Str.ofString "read")==(Str.ofString "span"))=false:=by decide +kernel
@[simp] theorem bG7:((Str.ofString "read")==(Str.ofString "deal"))=false:=by decide +kernel
@[simp] theorem bG8:((Str.ofString "read")==(Str.ofString "look"))=false:=by decide +kernel
@[simp] theorem bT4:((Str.ofString "read")==(Str.ofString "lay"))=false:=by decide +kernel
@[simp] theorem aV9:((Str.ofString "write")==(Str.ofString "read"))=false:=by decide +kernel
@[simp] theorem bG9:((Str.ofString "write")==(Str.ofString "add"))=false:=by decide +kernel
@[simp] theorem aW0:((Str.ofString "write")==(Str.ofString "swap"))=false:=by decide +kernel
@[simp] theorem aW1:((Str.ofString "write")==(Str.ofString "span"))=false:=by decide +kernel
@[simp] theorem aW2:((Str.ofString "write")==(Str.ofString "deal"))=false:=by decide +kernel
@[simp] theorem aW3:((Str.ofString "write")==(Str.ofString "look"))=false:=by decide +kernel
@[simp] theorem bH0:((Str.ofString "write")==(Str.ofString "lay"))=false:=by decide +kernel
@[simp] theorem bT5:((Str.ofString "add")==(Str.ofString "read"))=false:=by decide +kernel
@[simp] theorem bH1:((Str.ofString "add")==(Str.ofString "write"))=false:=by decide +kernel
@[simp] theorem bT6:((Str.ofString "add")==(Str.ofString "swap"))=false:=by decide +kernel
@[simp] theorem bT7:((Str.ofString "add")==(Str.ofString "span"))=false:=by decide +kernel
@[simp] theorem bT8:((Str.ofString "add")==(Str.ofString "deal"))=false:=by decide +kernel
@[simp] theorem bT9:((Str.ofString "add")==(Str.ofString "look"))=false:=by decide +kernel
@[simp] theorem cG0:((Str.ofString "add")==(Str.ofString "lay"))=false:=by decide +kernel
@[simp] theorem bH2:((Str.ofString "swap")==(Str.ofString "read"))=false:=by decide +kernel
@[simp] theorem aW4:((Str.ofString "swap")==(Str.ofString "write"))=false:=by decide +kernel
@[simp] theorem bU0:((Str.ofString "swap")==(Str.ofString "add"))=false:=by decide +kernel
@[simp] theorem bH3:((Str.ofString "swap")==(Str.ofString "span"))=false:=by decide +kernel
@[simp] theorem bH4:((Str.ofString "swap")==(Str.ofString "deal"))=false:=by decide +kernel
@[simp] theorem bH5:((Str.ofString "swap")==(Str.ofString "look"))=false:=by decide +kernel
@[simp] theorem bU1:((Str.ofString "swap")==(Str.ofString "lay"))=false:=by decide +kernel
@[simp] theorem bH6:((Str.ofString "span")==(Str.ofString "read"))=false:=by decide +kernel
@[simp] theorem aW5:((Str.ofString "span")==(Str.ofString "write"))=false:=by decide +kernel
@[simp] theorem bU2:((Str.ofString "span")==(Str.ofString "add"))=false:=by decide +kernel
@[simp] theorem bH7:((Str.ofString "span")==(Str.ofString "swap"))=false:=by decide +kernel
@[simp] theorem bH8:((Str.ofString "span")==(Str.ofString "deal"))=false:=by decide +kernel
@[simp] theorem bH9:((Str.ofString "span")==(Str.ofString "look"))=false:=by decide +kernel
@[simp] theorem bU3:((Str.ofString "span")==(Str.ofString "lay"))=false:=by decide +kernel
@[simp] theorem bI0:((Str.ofString "deal")==(Str.ofString "read"))=false:=by decide +kernel
@[simp] theorem aW6:((Str.ofString "deal")==(Str.ofString "write"))=false:=by decide +kernel
@[simp] theorem bU4:((Str.ofString "deal")==(Str.ofString "add"))=false:=by decide +kernel
@[simp] theorem bI1:((Str.ofString "deal")==(Str.ofString "swap"))=false:=by decide +kernel
@[simp] theorem bI2:((Str.ofString "deal")==(Str.ofString "span"))=false:=by decide +kernel
@[simp] theorem bI3:((Str.ofString "deal")==(Str.ofString "look"))=false:=by decide +kernel
@[simp] theorem bU5:((Str.ofString "deal")==(Str.ofString "lay"))=false:=by decide +kernel
@[simp] theorem bI4:((Str.ofString "look")==(Str.ofString "read"))=false:=by decide +kernel
@[simp] theorem aW7:((Str.ofString "look")==(Str.ofString "write"))=false:=by decide +kernel
@[simp] theorem bU6:((Str.ofString "look")==(Str.ofString "add"))=false:=by decide +kernel
@[simp] theorem bI5:((Str.ofString "look")==(Str.ofString "swap"))=false:=by decide +kernel
@[simp] theorem bI6:((Str.ofString "look")==(Str.ofString "span"))=false:=by decide +kernel
@[simp] theorem bI7:((Str.ofString "look")==(Str.ofString "deal"))=false:=by decide +kernel
@[simp] theorem bU7:((Str.ofString "look")==(Str.ofString "lay"))=false:=by decide +kernel
@[simp] theorem bU8:((Str.ofString "lay")==(Str.ofString "read"))=false:=by decide +kernel
@[simp] theorem bI8:((Str.ofString "lay")==(Str.ofString "write"))=false:=by decide +kernel
@[simp] theorem cG1:((Str.ofString "lay")==(Str.ofString "add"))=false:=by decide +kernel
@[simp] theorem bU9:((Str.ofString "lay")==(Str.ofString "swap"))=false:=by decide +kernel
@[simp] theorem bV0:((Str.ofString "lay")==(Str.ofString "span"))=false:=by decide +kernel
@[simp] theorem bV1:((Str.ofString "lay")==(Str.ofString "deal"))=false:=by decide +kernel
@[simp] theorem bV2:((Str.ofString "lay")==(Str.ofString "look"))=false:=by decide +kernel
@[simp] theorem at0 {a:PyData} {r:List PyData}:atI (a::r) 0=some a:=by simp [atI,ixN]
@[simp] theorem at1 {a b:PyData} {r:List PyData}:atI (a::b::r) 1=some b:=by
 have:(1:Int) < (r.length:Int)+1+1:=by omega
 simp [atI,ixN,this]
@[simp] theorem at2 {a b c:PyData} {r:List PyData}:atI (a::b::c::r) 2=some c:=by
 have:(2:Int) < (r.length:Int)+1+1+1:=by omega
 simp [atI,ixN,this]
@[simp] theorem at3 {a b c d:PyData} {r:List PyData}:atI (a::b::c::d::r) 3=some d:=by
 have:(3:Int) < (r.length:Int)+1+1+1+1:=by omega
 simp [atI,ixN,this]
@[simp] theorem ix0 (n:Nat):ixN (n+1) 0=some 0:=by
 have:(0:Int) < ((n+1:Nat):Int):=by omega
 simp only [ixN,this,Int.le_refl,if_true];rfl
def vC {n i:Nat} (h:i < n):ixN n (i:Int)=some i:=by
 have h1:(i:Int) < (n:Int):=by omega
 have h2:(0:Int)<=(i:Int):=by omega
 simp [ixN,h1,h2]
@[simp] theorem take_set (h:aA) (i:Nat) (a:Cell):(h.set i a).take h.length=h.set i a:=by
 rw [List.take_of_length_le (by simp)]
@[simp] theorem dI3:ixN 3 2=some 2:=rfl
@[simp] theorem dI4:ixN 3 0=some 0:=rfl
def szl:sizeLine=16777216:=rfl
section
variable {X:Cx} {a b c e tg:Expr} {st:Stmt} {ta tb tc te:DTE} {pos:Pos}
def dNo:DTE:=fun _ _ _=>False
def dA9:DTF:=fun _ _ _=>False
def dB0:DTI:=fun _ _ _=>False
def dB1:DTS:=fun _ _ _=>False
def fJ:DE X e dNo:=fun pins s σ H Q I ⟨_,_,_,_,_,_,q,_⟩=>q.elim
def bI9:DF X e dA9:=fun pins s σ H Q I ⟨_,_,_,_,_,_,q,_⟩=>q.elim
def cL2:DI X tg e dB0:=fun pins s σ H R I ⟨_,_,_,_,_,_,q,_⟩=>q.elim
def cL3:DS X st dB1:=fun pins s σ H D I ⟨_,_,_,_,_,_,q,_⟩=>q.elim
def zC (neg:Bool):D2:=fun x y h Q=>match ref h x,ref h y with
 | some d,some (.list xs)=>SeqAt.shaped (.list xs)=true/\SeqAt.shaped d=true/\Q (.d (.bool (neg ^^ xs.any fun z=>PyData.eqv z d))) h
 | some d,some (.tuple xs)=>SeqAt.shaped (.tuple xs)=true/\SeqAt.shaped d=true/\Q (.d (.bool (neg ^^ xs.any fun z=>PyData.eqv z d))) h
 | _,_=>False
def Room.units65 {k:Nat} {A:Around} (r:Room k A):A.units+65 < cLine:=by have:=r.un;omega
def bV3 {n:Nat} (hr:Room n X.A):OpR X (compareOp .In) (upR X.K (zC false)):=by
 intro pins s σ H x y v u Q I rx ry h;obtain ⟨a,b,h,A,μ,k,R,ra,rb,q,c⟩:=h;unfold zC at q;split at q
 ·rename_i d xs ea eb;obtain ⟨as,z1⟩:=(bL R ra ea).reads I (SeqAt.canLay_of_shaped q.2.1) rx;obtain ⟨bs,z2⟩:=(bL R rb eb).reads I (SeqAt.canLay_of_shaped q.1) ry;exact SeqAt.in_list_reads z2 z1 (SeqAt.canLay_of_shaped q.1) (SeqAt.canLay_of_shaped q.2.1) (room_in_shaped q.2.1 (Room.units65 hr)) ⟨.bl _,H,I,rfl,c _ _ _ _ _ _ q.2.2 .refl R (by simpa using bE)⟩
 ·rename_i d xs ea eb;obtain ⟨as,z1⟩:=(bL R ra ea).reads I (SeqAt.canLay_of_shaped q.2.1) rx;obtain ⟨bs,z2⟩:=(bL R rb eb).reads I (SeqAt.canLay_of_shaped q.1) ry;exact SeqAt.in_tuple_reads z2 z1 (SeqAt.canLay_of_shaped q.1) (SeqAt.canLay_of_shaped q.2.1) (room_in_shaped q.2.1 (Room.units65 hr)) ⟨.bl _,H,I,rfl,c _ _ _ _ _ _ q.2.2 .refl R (by simpa using bE)⟩
 ·exact q.elim
def zD {n:Nat} (hr:Room n X.A):OpR X (compareOp .NotIn) (upR X.K (zC true)):=by
 intro pins s σ H x y v u Q I rx ry h;obtain ⟨a,b,h,A,μ,k,R,ra,rb,q,c⟩:=h;unfold zC at q;split at q
 ·rename_i d xs ea eb;obtain ⟨as,z1⟩:=(bL R ra ea).reads I (SeqAt.canLay_of_shaped q.2.1) rx;obtain ⟨bs,z2⟩:=(bL R rb eb).reads I (SeqAt.canLay_of_shaped q.1) ry;exact SeqAt.notIn_list_reads z2 z1 (SeqAt.canLay_of_shaped q.1) (SeqAt.canLay_of_shaped q.2.1) (room_in_shaped q.2.1 (Room.units65 hr)) ⟨.bl _,H,I,rfl,c _ _ _ _ _ _ q.2.2 .refl R (by simpa using bE)⟩
 ·rename_i d xs ea eb;obtain ⟨as,z1⟩:=(bL R ra ea).reads I (SeqAt.canLay_of_shaped q.2.1) rx;obtain ⟨bs,z2⟩:=(bL R rb eb).reads I (SeqAt.canLay_of_shaped q.1) ry;exact SeqAt.notIn_tuple_reads z2 z1 (SeqAt.canLay_of_shaped q.1) (SeqAt.canLay_of_shaped q.2.1) (room_in_shaped q.2.1 (Room.units65 hr)) ⟨.bl _,H,I,rfl,c _ _ _ _ _ _ q.2.2 .refl R (by simpa using bE)⟩
 ·exact q.elim
def jR (r r':D2) (ta tb tc:DTE):DTE:=fun δ h Q=>ta δ h fun x h1=>tb δ h1 fun y h2=>r x y h2 fun z h3=>match z with
 | .d (.bool k)=>if k=true then tc δ h3 fun u h4=>r' y u h4 Q else Q (.d (.bool false)) h3
 | _=>False
def sJ {K:Frag} {r r':D2} {σ:L2.St} {H:Hp} {Q:VK} (q:up K (jR r r' ta tb tc) σ H Q):uO (upR K r) (upR K r') (up K ta) (up K tb) (up K tc) σ H Q:=by
 obtain ⟨δ,h,A,μ,k,R,q,c⟩:=q;refine ⟨δ,h,A,μ,_,R,q,fun u h1 v H1 A1 μ1 q1 x1 R1 r1=>?_⟩;refine ⟨δ,h1,A1,μ1,_,⟨R1,R.2.ext x1 R.1.sub⟩,q1,fun w h2 v2 H2 A2 μ2 q2 x2 R2 r2=>?_⟩;refine ⟨u,w,h2,A2,μ2,_,R2,r1.ext x2 R1.sub,r2,q2,fun z h3 v3 H3 A3 μ3 q3 x3 R3 r3=>?_⟩;have x13:=(x1.trans x2).trans x3;split at q3
 ·rename_i kk;refine ⟨kk,eF r3,?_⟩;cases kk with
  | true =>
   rw [if_pos rfl] at q3 ⊢;refine ⟨δ,h3,A3,μ3,_,⟨R3,R.2.ext x13 R.1.sub⟩,q3,fun u4 h4 v4 H4 A4 μ4 q4 x4 R4 r4=>?_⟩;exact ⟨w,u4,h4,A4,μ4,k,R4,(r2.ext x3 R2.sub).ext x4 R3.sub,r4,q4,fun z h5 v5 H5 A5 μ5 q5 x5 R5 r5=>c z h5 v5 H5 A5 μ5 q5 ((x13.trans x4).trans x5) R5 r5⟩
  | false =>
   rw [if_neg Bool.false_ne_true] at q3 ⊢;exact c _ h3 _ H3 A3 μ3 q3 x13 R3 bE
 ·exact q3.elim
def aG9 {op op':CmpOp} {r r':D2} (ho:OpR X (compareOp op) (upR X.K r)) (ho':OpR X (compareOp op') (upR X.K r')) (ha:DE X a ta) (hb:DE X b tb) (hc:DE X c tc)
  (hm:autoParam (lastMarks [op,op'] [b,c]=false) ZW):DE X (.Compare a [op,op'] [b,c] pos) (jR r r' ta tb tc):=aK (aD6 ho ho' ha hb hc hm) fun _ _ _ q=>sJ q
def aH0 {op op':CmpOp} {r r':D2} (ho:OpR X (compareOp op) (upR X.K r)) (ho':OpR X (compareOp op') (upR X.K r')) (ha:DE X a ta) (hb:DE X b tb) (hc:DE X c tc)
  (hm:autoParam (lastMarks [op,op'] [b,c]=false) ZW):DT X (.Compare a [op,op'] [b,c] pos) (dB (jR r r' ta tb tc)):=gY (aD7 ho ho' ha hb hc hm) fun σ H Q q=>by
  obtain ⟨δ,h,A,μ,k,R,q1,c⟩:=lG q;exact sJ ⟨δ,h,A,μ,k,R,q1,c⟩
def dB2 (ta:DTE):DTE:=fun δ h Q=>ta δ h fun w h1=>match w with
 | .d (.int i)=>Q (.d (.int (-i))) h1
 | _=>False
def bV4 (ha:DE X a ta):DE X (.UnaryOp .USub a pos) (dB2 ta):=aK (cI6 bO5 ha) fun σ H Q q=>by
 obtain ⟨δ,h,A,μ,k,R,q,c⟩:=q;refine ⟨δ,h,A,μ,_,R,q,fun w h1 v H1 A1 μ1 q1 x1 R1 r1=>?_⟩;split at q1
 ·exact ⟨_,bC r1,c _ h1 _ H1 A1 μ1 q1 x1 R1 lX⟩
 ·exact q1.elim
noncomputable def cL4:D2
 | .d (.int i),.d (.int j),h,Q=>0<=j/\Q (.d (.int (i / 2^j.toNat))) h
 | _,_,_,_=>False
noncomputable def bJ0:D2
 | .d (.int i),.d (.int j),h,Q=>Q (.d (.int (Builtin.bitAnd i j))) h
 | _,_,_,_=>False
def aW8:OpR X (binaryOp .RShift) (upR X.K cL4):=eR (f:=fun i j=>.int (i / 2^j.toNat)) bO3 (fun _ _ _ _=>jN) fun u w h k q=>by
 unfold cL4 at q;split at q
 ·exact ⟨_,_,rfl,rfl,q.1,q.2⟩
 ·exact q.elim
def aH1:OpR X (binaryOp .BitAnd) (upR X.K bJ0):=eR (f:=fun i j=>.int (Builtin.bitAnd i j)) (OpR.i0 bO4) (fun _ _ _ _=>jN) fun u w h k q=>by
 unfold bJ0 at q;split at q
 ·exact ⟨_,_,rfl,rfl,trivial,q⟩
 ·exact q.elim
end
noncomputable def oIs:Option Str->Value->Bool
 | some x,v=>Value.isStrOf x v
 | none,.none=>true
 | none,_=>false
def oIs_shape {k:Option Str} {v:Value} (h:oIs k v=true):(∃ x t,k=some x/\v=.str x t)\/(k=none/\v=.none):=by
 cases k with
 | some x =>
  obtain ⟨t,e⟩:=Value.isStrOf_shape (x:=x) (v:=v) h;exact .inl ⟨x,t,rfl,e⟩
 | none=>cases v<;>first | exact .inr ⟨rfl,rfl⟩ | cases h
def qM (x:Str) (t:Tok):oIs (some x) (.str x t)=true:=by simp [oIs,Value.isStrOf]
noncomputable def cL5 (w:World):Option Str->Int
 | some x=>hashStr w x
 | none=>reduceHash 0xFCA86420
noncomputable def cL6 (prog:Program) (w:World):PySem.KeyKind prog w (Option Str) where
 is:=oIs
 hash:=cL5 w
 inj:=fun v a b ha hb=>by
  rcases oIs_shape ha with ⟨x,t,rfl,rfl⟩ | ⟨rfl,rfl⟩
  ·rcases oIs_shape hb with ⟨y,u,rfl,e⟩ | ⟨rfl,e⟩
   ·injection e with e1 _;rw [e1]
   ·exact nomatch e
  ·rcases oIs_shape hb with ⟨y,u,rfl,e⟩ | ⟨rfl,e⟩
   ·exact nomatch e
   ·rfl
 byValue:=fun k v h=>by
  rcases oIs_shape h with ⟨x,t,rfl,rfl⟩ | ⟨rfl,rfl⟩<;>rfl
 pyHash:=fun {A E s k v Q} hv h=>by
  rcases oIs_shape hv with ⟨x,t,rfl,rfl⟩ | ⟨rfl,rfl⟩
  ·exact wpAny_pyHash_str h
  ·exact PySem.W.pyHash_slot (T:="NoneType") rfl PySem.F.slot_NoneType_hash PySem.F.entry_NoneType_hash (PySem.F.args_NoneType_hash_1 _) (by decide) (.inl rfl) (wpAny_bind (wpAny_pure (wpAny_bind (wpAny_mkInt (wpAny_pure ⟨_,_,rfl,h⟩)))))
 eqBool:=fun {A E s a b u v Q} hu hv h=>by
  rcases oIs_shape hu with ⟨x,t,rfl,rfl⟩ | ⟨rfl,rfl⟩
  ·rcases oIs_shape hv with ⟨y,u,rfl,rfl⟩ | ⟨rfl,rfl⟩
   ·refine wpAny_eqBool_str ?_;have e:decide (some x=some y)=decide (x=y):=by simp
    rwa [e] at h
   ·exact SeqAt.EqAt.str_none x t _ _ _ _ (by simpa using h)
  ·rcases oIs_shape hv with ⟨y,u,rfl,rfl⟩ | ⟨rfl,rfl⟩
   ·exact SeqAt.EqAt.none_str y u _ _ _ _ (by simpa using h)
   ·exact SeqAt.EqAt.same _ _ _ _ _ (by simpa using h)
 «strs»:=fun k x t v h=>by
  rcases oIs_shape h with ⟨y,u,rfl,e⟩ | ⟨rfl,e⟩
  ·injection e with e1 _
   subst e1;cases v<;>rfl
  ·exact nomatch e
structure TabK (w:World) (K:Frag) (p:Addr) (f:Str->Option Int):Prop where
 lk:∃ es n,K.lookup p=some ⟨.type "dict",none,.dict es n,#[]⟩/\PySem.W.KeysLit w.params es.toList/\(∀ x i,f x=some i->∃ t,findBy Value.isStrOf es x=some (.int i t))/\∀ x,f x=none->findBy Value.isStrOf es x=none
 sm:(p==sysModules)=false
def TabK.map {w:World} {K:Frag} {p:Addr} {f:Str->Option Int} {prog:Program} {h:Heap} (T:TabK w K p f) (X:K.In h):∃ g:Option Str->Option Value,h.MapOf (cL6 prog w) p g/\g none=none/\(∀ x i,f x=some i->∃ t,g (some x)=some (.int i t))/\∀ x,f x=none->g (some x)=none:=by
 obtain ⟨es,n,l,hk,h1,h2⟩:=T.lk;refine ⟨fun k=>findBy oIs es k,⟨_,es,n,X _ _ l,⟨rfl,rfl,rfl⟩,rfl,fun e he=>?_,fun _=>rfl⟩,?_,h1,h2⟩
 ·obtain ⟨x,t,e1,e2⟩:=hk.all e (Array.mem_toList_iff.mpr he);exact ⟨some x,by rw [e1];exact qM x t,e2⟩
 ·unfold findBy;have e:es.find? (fun e=>oIs none e.key)=none:=by
   rw [Array.find?_eq_none];intro e he;obtain ⟨x,t,e1,_⟩:=hk.all e (Array.mem_toList_iff.mpr he);rw [e1];exact Bool.false_ne_true
  show Option.map _ (es.find? fun e=>oIs none e.key)=none;rw [e];rfl
section
variable {X:Cx} {a b c d e:Expr} {ta tb tc td:DTE} {pos:Pos}
def pE {p:Addr} {f:Str->Option Int} (T:TabK X.w X.K p f):OpR X (compareOp .NotIn) (fun x y H Q=>y=.ref p/\((∃ s,x=.str s/\Q (.bl (!(f s).isSome)) H)\/(x=.non/\Q (.bl true) H))):=by
 intro pins s σ H x y v u Q I rx ry h;obtain ⟨rfl,h⟩:=h;cases ry;obtain ⟨g,m,g0,g1,g2⟩:=T.map (prog:=X.prog) I.kIn;rcases h with ⟨z,rfl,q⟩ | ⟨rfl,q⟩
 ·obtain ⟨t,rfl⟩:=rx;refine wpAny_notIn_of (k:=some z) (qM z t) T.sm m ⟨.bl _,H,I.tok _,?_,q⟩;cases e:f z with
  | none=>rw [g2 z e];rfl
  | some i=>obtain ⟨t',e'⟩:=g1 z i e;rw [e'];rfl
 ·cases rx;exact wpAny_notIn_of (k:=none) rfl T.sm m ⟨.bl _,H,I.tok _,by rw [g0];rfl,q⟩
def dB3 {p:Addr} {f:Str->Option Int} (T:TabK X.w X.K p f):IxR X (fun x y H Q=>x=.ref p/\∃ s i,y=.str s/\f s=some i/\Q (.int i) H):=by
 intro value slice pins s σ H x y v u Q I rx ry h hs;obtain ⟨rfl,z,i,rfl,e,q⟩:=h;cases rx;obtain ⟨t,rfl⟩:=ry;obtain ⟨g,m,g0,g1,g2⟩:=T.map (prog:=X.prog) I.kIn;obtain ⟨t',e'⟩:=g1 z i e;exact tail_any m.typeIs slot_dict_getitem.lookup (wpAny_getItem_of (k:=some z) (qM z t) m e' ⟨.int i,H,I.tok _,⟨t',rfl⟩,q⟩) hs
def qN (f:Str->Option Int) (ta:DTE):DTE:=fun δ h Q=>ta δ h fun w h1=>match w with
 | .d (.str s)=>Q (.d (.bool (!(f s).isSome))) h1
 | .d .none=>Q (.d (.bool true)) h1
 | _=>False
def sK {K:Frag} {A μ:List Addr} {H:Hp} {x:Str} {v:V} (r:RepW K A μ H (.d (.str x)) v):v=.str x:=by
 have z:Rep K A H (.str x) v:=r;rw [Rep] at z;exact z.1
def aH2 {K:Frag} {A μ:List Addr} {H:Hp} {v:V} (r:RepW K A μ H (.d .none) v):v=.non:=by
 have z:Rep K A H .none v:=r;rw [Rep] at z;exact z
def pF {p:Addr} {f:Str->Option Int} {σ:L2.St} {H:Hp} {Q:VK} (q:up X.K (qN f ta) σ H Q) :
  tOp (fun x y H Q=>y=.ref p/\((∃ s,x=.str s/\Q (.bl (!(f s).isSome)) H)\/(x=.non/\Q (.bl true) H))) (up X.K ta) (tC (.ref p)) σ H Q:=by
 obtain ⟨δ,h,A,μ,k,R,q,c⟩:=q;refine ⟨δ,h,A,μ,_,R,q,fun w h1 v H1 A1 μ1 q1 x1 R1 r1=>?_⟩;show _/\_;refine ⟨rfl,?_⟩;split at q1
 ·exact .inl ⟨_,sK r1,c _ h1 _ H1 A1 μ1 q1 x1 R1 bE⟩
 ·exact .inr ⟨aH2 r1,c _ h1 _ H1 A1 μ1 q1 x1 R1 bE⟩
 ·exact q1.elim
def zE {p:Addr} {f:Str->Option Int} {x:Str} {pos':Pos} (T:TabK X.w X.K p f) (hm:X.mg x=some (.ref p)) (ha:DE X a ta) (hg:autoParam (Gl X x) ZR) (hd:autoParam ((x==("__debug__":Str))=false) ZD) (hb:autoParam (behindInMarks .NotIn (.Name x pos')=false) ZR) :
  DE X (.Compare a [.NotIn] [.Name x pos'] pos) (qN f ta):=aK (wM (pE T) ha (dW (v:=.ref p) hg hm rfl hd) hb) fun _ _ _ q=>pF q
def zF {p:Addr} {f:Str->Option Int} {x:Str} {pos':Pos} (T:TabK X.w X.K p f) (hm:X.mg x=some (.ref p)) (ha:DE X a ta) (hg:autoParam (Gl X x) ZR) (hd:autoParam ((x==("__debug__":Str))=false) ZD) (hb:autoParam (behindInMarks .NotIn (.Name x pos')=false) ZR) :
  DT X (.Compare a [.NotIn] [.Name x pos'] pos) (dB (qN f ta)):=gY (wN (pE T) ha (dW (v:=.ref p) hg hm rfl hd) hb) fun σ H Q q=>by
  obtain ⟨δ,h,A,μ,k,R,q1,c⟩:=lG q;exact pF ⟨δ,h,A,μ,k,R,q1,c⟩
def dB4 (f:Str->Option Int) (ta:DTE):DTE:=fun δ h Q=>ta δ h fun w h1=>match w with
 | .d (.str s)=>(match f s with
  | some i=>Q (.d (.int i)) h1
  | none=>False)
 | _=>False
def bV5 {p:Addr} {f:Str->Option Int} {x:Str} {pos':Pos} (T:TabK X.w X.K p f) (hm:X.mg x=some (.ref p)) (ha:DE X a ta) (hg:autoParam (Gl X x) ZR) (hd:autoParam ((x==("__debug__":Str))=false) ZD) (hs:iW a:=by intro _ _;rfl) :
  DE X (.Subscript (.Name x pos') a pos) (dB4 f ta):=aK (wR (dB3 T) (dW (v:=.ref p) hg hm rfl hd) ha hs) fun σ H Q q=>by
 obtain ⟨δ,h,A,μ,k,R,q,c⟩:=q;show up X.K ta σ H _;refine ⟨δ,h,A,μ,_,R,q,fun w h1 v H1 A1 μ1 q1 x1 R1 r1=>?_⟩;refine ⟨rfl,?_⟩;split at q1
 ·split at q1
  ·rename_i e;exact ⟨_,_,sK r1,e,c _ h1 _ H1 A1 μ1 q1 x1 R1 lX⟩
  ·exact q1.elim
 ·exact q1.elim
def lL (r r' r'':D2) (ta tb tc td:DTE):DTE:=fun δ h Q=>ta δ h fun x h1=>tb δ h1 fun y h2=>r x y h2 fun z h3=>match z with
 | .d (.bool k)=>if k=true then tc δ h3 fun u h4=>r' y u h4 fun z' h5=>(match z' with
   | .d (.bool k')=>if k'=true then td δ h5 fun u' h6=>r'' u u' h6 Q else Q (.d (.bool false)) h5
   | _=>False) else Q (.d (.bool false)) h3
 | _=>False
def aW9 (r r' r'':R2) (ta tb tc td:TE):TE:=fun σ H Q=>ta σ H fun x H1=>tb σ H1 fun y H2=>r x y H2 fun z H3=>∃ k,z=.bl k /\
 (if k=true then tc σ H3 fun u H4=>r' y u H4 fun z' H5=>∃ k',z'=.bl k'/\(if k'=true then td σ H5 fun u' H6=>r'' u u' H6 Q else Q (.bl false) H5) else Q (.bl false) H3)
def zG {ta tb tc td:TE} {op op' op'':CmpOp} {r r' r'':R2} (ho:OpR X (compareOp op) r) (ho':OpR X (compareOp op') r') (ho'':OpR X (compareOp op'') r'') (ha:PE X a ta) (hb:PE X b tb) (hc:PE X c tc) (hd:PE X d td)
  (hm:autoParam (lastMarks [op,op',op''] [b,c,d]=false) ZW):PE X (.Compare a [op,op',op''] [b,c,d] pos) (aW9 r r' r'' ta tb tc td):=by
 intro pins s σ H Q I h;refine Compare_chain (thn (ha pins s σ H _ I h) fun v s1 ⟨x,H1,I1,r1,q1⟩=>chain_link (thn (hb pins s1 σ H1 _ I1 q1) fun u s2 ⟨y,H2,I2,r2,q2⟩ =>
  thn (ho pins s2 σ H2 x y v u _ I2 r1 r2 q2) fun d' s3 ⟨z,H3,I3,r3,k,e,q3⟩=>?_)) hm
 subst e;cases r3;refine wpAny_truthy_bool ?_;cases k with
 | false=>exact ite_ff ⟨.bl false,H3,I3,rfl,q3⟩
 | true =>
  refine ite_tt (chain_link (thn (hc pins s3 σ H3 _ I3 q3) fun w' s4 ⟨z',H4,I4,r4,q4⟩=>thn (ho' pins s4 σ H4 y z' u w' _ I4 r2 r4 q4) fun d2 s5 ⟨z2,H5,I5,r5,k2,e2,q5⟩=>?_));subst e2;cases r5;refine wpAny_truthy_bool ?_;cases k2 with
  | false=>exact ite_ff ⟨.bl false,H5,I5,rfl,q5⟩
  | true=>exact ite_tt (chain_last (thn (hd pins s5 σ H5 _ I5 q5) fun w6 s6 ⟨z6,H6,I6,r6,q6⟩=>ho'' pins s6 σ H6 z' z6 w' w6 Q I6 r4 r6 q6))
def zH {op op' op'':CmpOp} {r r' r'':D2} (ho:OpR X (compareOp op) (upR X.K r)) (ho':OpR X (compareOp op') (upR X.K r')) (ho'':OpR X (compareOp op'') (upR X.K r'')) (ha:DE X a ta) (hb:DE X b tb) (hc:DE X c tc) (hd:DE X d td)
  (hm:autoParam (lastMarks [op,op',op''] [b,c,d]=false) ZW):DE X (.Compare a [op,op',op''] [b,c,d] pos) (lL r r' r'' ta tb tc td):=aK (zG ho ho' ho'' ha hb hc hd hm) fun σ H Q q=>by
 obtain ⟨δ,h,A,μ,k,R,q,c⟩:=q;refine ⟨δ,h,A,μ,_,R,q,fun u h1 v H1 A1 μ1 q1 x1 R1 r1=>?_⟩;refine ⟨δ,h1,A1,μ1,_,⟨R1,R.2.ext x1 R.1.sub⟩,q1,fun w h2 v2 H2 A2 μ2 q2 x2 R2 r2=>?_⟩;refine ⟨u,w,h2,A2,μ2,_,R2,r1.ext x2 R1.sub,r2,q2,fun z h3 v3 H3 A3 μ3 q3 x3 R3 r3=>?_⟩;have x13:=(x1.trans x2).trans x3;split at q3
 ·rename_i kk;refine ⟨kk,eF r3,?_⟩;cases kk with
  | true =>
   rw [if_pos rfl] at q3 ⊢;refine ⟨δ,h3,A3,μ3,_,⟨R3,R.2.ext x13 R.1.sub⟩,q3,fun u4 h4 v4 H4 A4 μ4 q4 x4 R4 r4=>?_⟩;refine ⟨w,u4,h4,A4,μ4,_,R4,(r2.ext x3 R2.sub).ext x4 R3.sub,r4,q4,fun z h5 v5 H5 A5 μ5 q5 x5 R5 r5=>?_⟩;have x15:=(x13.trans x4).trans x5;split at q5
   ·rename_i k5;refine ⟨k5,eF r5,?_⟩;cases k5 with
    | true =>
     rw [if_pos rfl] at q5 ⊢;refine ⟨δ,h5,A5,μ5,_,⟨R5,R.2.ext x15 R.1.sub⟩,q5,fun u6 h6 v6 H6 A6 μ6 q6 x6 R6 r6=>?_⟩;exact ⟨u4,u6,h6,A6,μ6,k,R6,(r4.ext x5 R4.sub).ext x6 R5.sub,r6,q6,fun z h7 v7 H7 A7 μ7 q7 x7 R7 r7=>c z h7 v7 H7 A7 μ7 q7 ((x15.trans x6).trans x7) R7 r7⟩
    | false =>
     rw [if_neg Bool.false_ne_true] at q5 ⊢;exact c _ h5 _ H5 A5 μ5 q5 x15 R5 bE
   ·exact q5.elim
  | false =>
   rw [if_neg Bool.false_ne_true] at q3 ⊢;exact c _ h3 _ H3 A3 μ3 q3 x13 R3 bE
 ·exact q3.elim
end
end DL
namespace SJ
open PySem
mutual
noncomputable def sok:PyData->Bool
 | .str x=>PyData.strOk x
 | .list xs=>decide (xs.length<=1000)&&soks xs
 | .tuple xs=>decide (xs.length<=1000)&&soks xs
 | _=>true
noncomputable def soks:List PyData->Bool
 | []=>true
 | x::r=>sok x&&soks r
end
def zI {x:PyData} {xs:List PyData}:soks (x::xs)=true ↔ sok x=true/\soks xs=true:=by rw [soks,Bool.and_eq_true]
noncomputable def iC:PyData->Bool
 | .int _=>true
 | _=>false
noncomputable def hU (x:PyData) (lo hi:Int):Bool:=match x with
 | .int i=>decide (lo<=i)&&decide (i<=hi)
 | _=>false
noncomputable def jB (x:PyData):Bool:=hU x 0 7
noncomputable def dU:PyData->Int->Bool
 | .tuple xs,n=>decide ((xs.length:Int)=n)
 | _,_=>false
noncomputable def fS:PyData->PyData
 | .tuple (.str s::_)=>.str s
 | _=>.none
noncomputable def aO (x:PyData) (s:Str) (n:Int):Bool:=match x with
 | .tuple (.str t::r)=>(t==s)&&decide ((r.length:Int)+1=n)
 | _=>false
noncomputable def nb (s:Str):Option Int:=if s=Str.ofString "read" then some 0 else if s=Str.ofString "write" then some 1 else if s=Str.ofString "add" then some 1 else if s=Str.ofString "swap" then some 2 else none
noncomputable def cA:PyData->Bool
 | .tuple (.str s::r)=>match nb s with
  | some n=>(decide ((r.length:Int)+1=2+n))&&(match r with
   | k::vs=>jB k&&vs.all iC
   | []=>false)
  | none=>false
 | _=>false
noncomputable def iN:PyData->Bool
 | .tuple [.str s,.int a,.int b]=>(s==Str.ofString "span")&&decide (0<=a)&&decide (a < b)&&decide (b<=8)
 | _=>false
noncomputable def iO:PyData->Bool
 | .tuple [.str s,.tuple ps]=>(s==Str.ofString "deal")&&decide (1<=ps.length)&&decide (ps.length<=4)&&ps.all cA
 | _=>false
noncomputable def dQ (x:PyData):Bool:=cA x||iN x||iO x
noncomputable def jS:PyData->Bool
 | .tuple [.str s,c]=>(s==Str.ofString "look")&&dQ c
 | _=>false
noncomputable def fE:PyData->Bool
 | .tuple [k,v]=>jB k&&iC v
 | _=>false
noncomputable def sM:PyData->Int
 | .int i=>i
 | _=>0
noncomputable def sN:PyData->PyData
 | .tuple (k::_)=>k
 | _=>.none
noncomputable def cL7 (ns:List Int):Bool:=(List.range (ns.length - 1)).all fun k=>decide (ns.getD k 0 < ns.getD (k+1) 0)
noncomputable def sO:PyData->Bool
 | .tuple [.str s,.tuple ps]=>(s==Str.ofString "lay")&&!ps.isEmpty&&ps.all fE&&cL7 (ps.map fun p=>sM (sN p))
 | _=>false
noncomputable def qO (x:PyData):Bool:=dQ x||jS x||sO x
end SJ
namespace SJ
open PySem PySem.Spec PyProof.Rows L2 DL
def aX0:nb "read"=some 0:=by decide +kernel
def aH3:nb "write"=some 1:=by decide +kernel
def bV6:nb "add"=some 1:=by decide +kernel
def aX1:nb "swap"=some 2:=by decide +kernel
def aX2:PyData.strOk "read"=true:=by decide +kernel
def aH4:PyData.strOk "write"=true:=by decide +kernel
def bV7:PyData.strOk "add"=true:=by decide +kernel
def aX3:PyData.strOk "swap"=true:=by decide +kernel
def aX4:PyData.strOk "span"=true:=by decide +kernel
def aX5:PyData.strOk "deal"=true:=by decide +kernel
def bV8 {k:Nat} (h:k < 8):jB (.int k)=true:=by
 simp [jB,hU];omega
def lZ {o:One} (h:o.ok):cA o.dat=true/\sok o.dat=true:=by
 have h':o.key < 8:=h;cases o<;>simp [One.key] at h'<;>simp [One.dat,cA,aX0,aH3,bV6,aX1,bV8 h',iC,sok,soks,aX2,aH4,bV7,aX3]
theorem sP:∀ {cs:List One},(∀ c∈cs,c.ok)->(cs.map One.dat).all cA=true/\soks (cs.map One.dat)=true
 | [],_=>⟨rfl,rfl⟩
 | c::r,h=>by
  obtain ⟨h1,h2⟩:=lZ (h c List.mem_cons_self);obtain ⟨h3,h4⟩:=sP fun z hz=>h z (List.mem_cons_of_mem _ hz);rw [List.map_cons,List.all_cons,h1,h3,zI];exact ⟨rfl,h2,h4⟩
def hV {o:SJ.Call} (h:o.ok):dQ o.dat=true/\qO o.dat=true/\sok o.dat=true:=by
 have hc:dQ o.dat=true/\sok o.dat=true:=by
  cases o with
  | one c =>
   obtain ⟨h1,h2⟩:=lZ (o:=c) h;exact ⟨by simp [dQ,Call.dat,h1],h2⟩
  | span lo hi =>
   obtain ⟨h1,h2⟩:=h;refine ⟨?_,by simp [Call.dat,sok,soks,aX4]⟩;have e1:(0:Int)<=lo:=by omega
   have e2:(lo:Int) < hi:=by omega
   have e3:(hi:Int)<=8:=by omega
   simp [dQ,Call.dat,iN,e2,e3]
  | deal cs =>
   obtain ⟨h1,h2,h3⟩:=h;obtain ⟨h4,h5⟩:=sP h3;refine ⟨?_,by simp [Call.dat,sok,soks,aX5,h5];omega⟩;simp only [dQ,Call.dat,iO,h4,List.length_map];simp [h1,h2]
 exact ⟨hc.1,by simp [qO,hc.1],hc.2⟩
end SJ
namespace SJ
open PySem
set_option genInjectivity true in
inductive An1 where
 | got (v:Int) | dn | yes | no
noncomputable def An1.fits:One->An1->Prop
 | .read _,.got _=>True
 | .add _ _,.got _=>True
 | .write _ _,.dn=>True
 | .swap _ _ _,.yes=>True
 | .swap _ _ _,.no=>True
 | _,_=>False
set_option genInjectivity true in
inductive Ans where
 | one (a:An1) | all (ns:List Int) | each (as:List An1)
set_option genInjectivity true in
inductive Fit2:List One->List An1->Prop
 | nil:Fit2 [] []
 | cons {o:One} {a:An1} {os:List One} {as:List An1} (h:An1.fits o a) (t:Fit2 os as):Fit2 (o::os) (a::as)
noncomputable def cQ (o:One) (t:PyData):Bool:=match o with
 | .read _=>(match t with
  | .tuple [.str s,v]=>(s==Str.ofString "got")&&iC v
  | _=>false)
 | .add _ _=>(match t with
  | .tuple [.str s,v]=>(s==Str.ofString "got")&&iC v
  | _=>false)
 | .write _ _=>aO t "done" 1
 | .swap _ _ _=>aO t "yes" 1||aO t "no" 1
noncomputable def fA:List One->List PyData->Bool
 | o::os,t::ts=>cQ o t&&fA os ts
 | _,_=>true
noncomputable def bU (c:Call) (t:PyData):Bool:=match c with
 | .one o=>cQ o t
 | .span lo hi=>(match t with
  | .tuple [.str s,.tuple xs]=>(s==Str.ofString "all")&&decide ((xs.length:Int)=(hi:Int) - lo)&&xs.all iC
  | _=>false)
 | .deal cs=>(match t with
  | .tuple [.str s,.tuple xs]=>(s==Str.ofString "each")&&decide (xs.length=cs.length)&&fA cs xs
  | _=>false)
end SJ
namespace DL
open PySem PySem.Spec PyProof.Rows L2
section
variable {X:Cx} {a b c d e:Expr} {ta tb tc td te:DTE} {tl th:DTO} {pos:Pos}
def sQ:PE X (.Dict [] [] pos) (fun _ H Q=>∀ p,H p=none->Q (.ref p) (upd H p (.dK []))):=by
 intro pins s σ H Q I q;refine wpAny_Dict_empty ?_;have hn:(s.heap.objs.size==sysModules)=false:=by
  have h:mainGlobals < s.heap.objs.size:=(I.mod.glob.keeps I.bk).lt;have:sysModules < s.heap.objs.size:=Nat.lt_trans (by decide) h;exact beq_eq_false_iff_ne.mpr (Nat.ne_of_gt this)
 refine ⟨.ref s.heap.objs.size,_,I.laid (t':=s.toks) (o:=.dK []) (fun b ob q=>Heap.get?_push_of_some _ q) (Nat.le_refl _) ?_,rfl,q _ (I.hok.fresh (Nat.le_refl _))⟩;exact ⟨Nat.zero_le _,hn,[],.nil,Heap.DictOf.new s.heap⟩
def aH5:DE X (.Dict [] [] pos) (dC (.dict [])):=aK sQ fun σ H Q q=>by
 obtain ⟨δ,h,A,μ,k,R,q,c⟩:=q;intro p hp;refine c _ h _ _ A μ q (bB hp) (R.1.fresh hp) ?_;show Rep _ _ _ _ _;rw [Rep];exact ⟨p,[],rfl,⟨R.1.notA hp,.inl aN⟩,by rw [RepKs]⟩
theorem mB {K:Frag} {A:List Addr} {H:Hp} {xs:List PyData} {vs:List V} (r:Reps K A H xs vs):∀ n:Nat,Reps K A H (List.replicate n xs).flatten (List.replicate n vs).flatten
 | 0=>.nil
 | n+1=>by
  rw [List.replicate_succ,List.replicate_succ,List.flatten_cons,List.flatten_cons];exact (mB r n).append r
def cL8 (ta tb:DTE):DTF:=fun δ h Q=>ta δ h fun u h1=>tb δ h1 fun w h2=>match u,w with
 | .c i,.d (.int k)=>(match h2[i]? with
  | some (.l xs)=>(-(2^63)<=k/\k < 2^63/\xs.length*k.toNat<=sizeLine)/\Q (List.replicate k.toNat xs).flatten h2
  | _=>False)
 | _,_=>False
def bV9 (ha:DE X a ta) (hb:DE X b tb):DF X (.BinOp a .Mult b pos) (cL8 ta tb):=aK (aD5 bP2 ha hb) fun σ H Q q=>by
 obtain ⟨δ,h,A,μ,k,R,q,c⟩:=q;refine ⟨δ,h,A,μ,_,R,q,fun u h1 v H1 A1 μ1 q1 x1 R1 r1=>?_⟩;refine ⟨δ,h1,A1,μ1,_,⟨R1,R.2.ext x1 R.1.sub⟩,q1,fun w h2 v2 H2 A2 μ2 q2 x2 R2 r2=>?_⟩;split at q2
 ·rename_i i n;split at q2
  ·rename_i xs ex;obtain ⟨p,ep,rfl⟩:=r1.ext x2 R1.sub;obtain ⟨vs,hv,rr⟩:=R2.val i p xs ep ex;obtain ⟨⟨n1,n2,n3⟩,q2⟩:=q2;refine ⟨p,n,vs,rfl,bC r2,hv,n1,n2,by rw [rr.length];exact n3,fun l hl=>?_⟩;have x12:=x1.trans x2;obtain ⟨ν,e1,_⟩:=x12.pre;exact c _ _ _ _ _ _ q2 (x12.trans (cM hl)) ⟨ν,e1⟩ (x12.back hl) (eE R2 hl (mB rr _))
  ·exact q2.elim
 ·exact q2.elim
end
section
variable {X:Cx} {a b c d e:Expr} {ta tb tc td te:DTE} {pos:Pos}
end
def gI:fillsNumberSlot (.type "tuple") "mul"=pure false :=
 PySem.fillsNumberSlot_seq (id:="tuple.__mul__") (r:=some (.builtin "tuple.__rmul__")) PySem.F.slot_tuple_mul.lookup (by decide +kernel) PySem.F.slot_tuple_rmul.lookup (by decide +kernel)
def iE:seqRepeat? (.type "tuple")=pure (some (.builtin "tuple.__mul__")):=by
 unfold seqRepeat?;rw [PySem.seqSlot_of (T:="tuple") (name:="__mul__") (id:="tuple.__mul__") PySem.F.slot_tuple_mul.lookup (by decide +kernel),PySem.seqSlot_of (T:="tuple") (name:="__rmul__") (id:="tuple.__rmul__") PySem.F.slot_tuple_rmul.lookup (by decide +kernel)];rfl
def gJ (a:Int) (t:Tok) (l:Addr) (items:Array Value) (n:Nat) (dd:Option Addr) (sl:Array (Option Value)) :
  Meets (Builtin.«int.__rmul__» ⟨[.int a t,.ref l],[]⟩) (fun _ R s=>s.heap.get? l=some { cls:=.type "tuple",dict:=dd,data:=.seq items n,slots:=sl }/\R (.ok (.ret Value.notImplemented)) s) :=
 .of_wp fun prog w A R s h=>by
  obtain ⟨hp,g,d,tk,os⟩:=s;obtain ⟨hl,h⟩:=h
  wp_walk
  exact ⟨_,rfl,h⟩
def sR (l:Addr) (items:Array Value) (n:Nat) (dd:Option Addr) (sl:Array (Option Value)) (k:Int) (u:Tok) (h1:¬ (k < -(2^63)||k ≥ 2^63)=true) (h2:¬ (items.isEmpty||k==1)=true) (h3:¬ (decide (k<=0)||items.isEmpty)=true)
  (h4:¬ (items.size*k > (2^63 - 1) / 8)) (h6:¬ Builtin.Tuple.tupleTooMany (items.size*k)=true) (h5:¬ ((List.replicate k.toNat items).foldl (·++·) #[]).size > sizeLine) :
  Meets (Builtin.«tuple.__mul__» ⟨[.ref l,.int k u],[]⟩) (fun _ R s=>s.heap.get? l=some { cls:=.type "tuple",dict:=dd,data:=.seq items n,slots:=sl } /\
   R (.ok (.ret (.ref s.heap.objs.size))) { s with heap:=s.heap.push { cls:=.type "tuple",data:=.seq ((List.replicate k.toNat items).foldl (·++·) #[]) 0 } }) :=
 .of_wp fun prog w A R s h=>by
  obtain ⟨hp,g,d,tk,os⟩:=s;obtain ⟨hl,h⟩:=h;have f2:=AutoSeq1.sub_tuple_tuple
  wp_walk
  refine wpAny_ite_false (decide_eq_false h1) ?_
  wp_walk using wpAny_loadPart' hl
  refine wpAny_ite_false (decide_eq_false h4) ?_
  wp_walk
  exact ⟨_,rfl,h⟩
section
variable {X:Cx} {a b c d e:Expr} {ta tb tc td te:DTE} {pos:Pos}
def aX6:OpR X (binaryOp .Mult) (fun x y H Q=>∃ l k xs,x=.ref l/\y=.int k/\SqT X.K H l xs/\xs≠[]/\1 < k/\k < 2^63/\xs.length*k.toNat<=sizeLine/\∀ p,H p=none->Q (.ref p) (upd H p (.tup (List.replicate k.toNat xs).flatten))):=by
 intro pins s σ H x y v u Q I rx ry h;obtain ⟨l,k,xs,rfl,rfl,sq,hne,k1,k2,hz,q⟩:=h;cases rx;obtain ⟨t,rfl⟩:=ry;obtain ⟨its,r,p,hz0⟩:=I.tuple sq;obtain ⟨⟨cls,dd,data,sl⟩,ho,hc,n,hd⟩:=id p;simp only at hc hd;subst hc hd;have hl:=r.length;have hn:its≠[]:=fun z=>hne (r.nil_iff.mp z);have he:its.toArray.isEmpty=false:=by
  cases its with
  | nil=>exact absurd rfl hn
  | cons=>rfl
 have hf:(List.replicate k.toNat its.toArray).foldl (·++·) #[]=(List.replicate k.toNat its).flatten.toArray:=by
  have:=jM its k.toNat [];rw [List.nil_append] at this;exact this
 have hm:(its.length:Int)*k=((its.length*k.toNat:Nat):Int):=by
  rw [Int.natCast_mul,Int.toNat_of_nonneg (by omega)]
 have hz':its.length*k.toNat<=sizeLine:=by rw [<- hl];exact hz
 have hsl:(sizeLine:Int)<=(2^63 - 1) / 8:=by decide
 refine wpAny_binaryOp_repeat_ref (T:="tuple") (U:="int") (by decide) ⟨_,ho,rfl⟩ (fun s'=>typeIs_int s' k t) gI PySem.F.fills_int_mul PySem.F.slot_int_rmul iE PySem.F.slot_int_index.lookup
  (call_meets PySem.F.slot_int_rmul (typeIs_int s k t) PySem.F.entry_int_rmul (PySem.F.args_int_rmul_2 _ _) (gJ k t l its.toArray n dd sl)
   ⟨ho,rfl,⟨_,ho,rfl⟩,call_meets PySem.F.slot_tuple_mul ⟨_,ho,rfl⟩ PySem.F.entry_tuple_mul (PySem.F.args_tuple_mul_2 _ _) (sR l its.toArray n dd sl k t ?_ ?_ ?_ ?_ ?_ ?_) ⟨ho,?_⟩⟩)
 ·simp;omega
 ·rw [he];simp;omega
 ·rw [he];simp;omega
 ·rw [List.size_toArray,hm];omega
 ·unfold Builtin.Tuple.tupleTooMany;rw [List.size_toArray,hm,decide_eq_true_eq];omega
 ·rw [hf,List.size_toArray,qF,Nat.mul_comm];omega
 ·rw [hf];refine ⟨.ref s.heap.objs.size,_,I.laid (t':=s.toks) (o:=.tup (List.replicate k.toNat xs).flatten) (fun b ob q=>Heap.get?_push_of_some _ q) (Nat.le_refl _) ?_,rfl,q _ (I.hok.fresh (Nat.le_refl _))⟩;exact ⟨by rw [qF,Nat.mul_comm];exact hz,_,r.rep k.toNat,IsTupD.new _ _⟩
noncomputable def bJ1:D2
 | .d (.tuple xs),.d (.int k),h,Q=>(xs≠[]/\1 < k/\k < 2^63/\xs.length*k.toNat<=sizeLine)/\Q (.d (.tuple (List.replicate k.toNat xs).flatten)) h
 | _,_,_,_=>False
def aH6:OpR X (binaryOp .Mult) (upR X.K bJ1):=by
 intro pins s σ H x y v u Q I rx ry h;obtain ⟨a,b,h,A,μ,k,R,ra,rb,q,c⟩:=h;unfold bJ1 at q;split at q
 ·rename_i xs n;obtain ⟨p,vs,rfl,ta,sa⟩:=bF (h:=h) ra rfl;have eb:=bC rb;subst eb;obtain ⟨⟨n0,n1,n2,n3⟩,q⟩:=q;refine aX6 pins s σ H _ _ v u Q I rx ry ⟨p,n,vs,rfl,rfl,ta.sq,fun z=>n0 (List.eq_nil_of_length_eq_zero (by rw [<- sa.length,z];rfl)),n1,n2,by rw [sa.length];exact n3,fun p' hp=>?_⟩;exact c _ _ _ _ _ _ q (bB hp) (R.fresh hp) (dD R hp (mB sa _))
 ·exact q.elim
end
section
variable {X:Cx} {a b:Expr} {ta tb:DTE} {pos:Pos}
def cL9 (ta tb:DTE):DTF:=fun δ h Q=>ta δ h fun u h1=>tb δ h1 fun w h2=>match ref h2 u,ref h2 w with
 | some (.list xs),some (.list ys)=>xs.length+ys.length<=sizeLine/\Q (xs++ys) h2
 | _,_=>False
def aX7 (ha:DE X a ta) (hb:DE X b tb):DF X (.BinOp a .Add b pos) (cL9 ta tb):=aK (aD5 wU ha hb) fun σ H Q q=>by
 obtain ⟨δ,h,A,μ,k,R,q,c⟩:=q;refine ⟨δ,h,A,μ,_,R,q,fun u h1 v H1 A1 μ1 q1 x1 R1 r1=>?_⟩;refine ⟨δ,h1,A1,μ1,_,⟨R1,R.2.ext x1 R.1.sub⟩,q1,fun w h2 v2 H2 A2 μ2 q2 x2 R2 r2=>?_⟩;split at q2
 ·rename_i xs ys ex ey;obtain ⟨p,vs,rfl,s1,rr1⟩:=bX R2 (r1.ext x2 R1.sub) ex;obtain ⟨p',vs',rfl,s2,rr2⟩:=bX R2 r2 ey;refine ⟨p,p',vs,vs',rfl,rfl,s1,s2,by rw [rr1.length,rr2.length];exact q2.1,fun l hl=>?_⟩;have x12:=x1.trans x2;obtain ⟨ν,e1,_⟩:=x12.pre;exact c _ _ _ _ _ _ q2.2 (x12.trans (cM hl)) ⟨ν,e1⟩ (x12.back hl) (eE R2 hl (rr2.append rr1))
 ·exact q2.elim
end
end DL
namespace L2
open PySem PySem.Spec PyProof.Rows
section
variable {prog:Program} {w:World} {A:Around} {R:Result->Shared->Prop} {I:Addr} {fp wr:List Addr} {n:Nat} {P:Nat->Value->Prop} {St:Nat->Heap->Prop}
end
section
variable {prog:Program} {w:World} {A:Around} {E:Value->Shared->Prop} {s:Shared}
end
end L2
namespace DL
open PySem PySem.Spec PyProof.Rows L2
noncomputable def jT (kvs:List (PyData×PyData)) (k v:PyData):List (PyData×PyData) :=
 if (kvs.any fun p=>decide (bJ p.1=bJ k))=true then kvs.map (fun p=>if bJ p.1=bJ k then (p.1,v) else p) else kvs++[(k,v)]
section
variable {K:Frag} {A μ:List Addr} {H:Hp} {h:aA}
def repKs_cons {p:PyData×PyData} {kvs:List (PyData×PyData)} {r:List (Key×V)}:RepKs K A H (p::kvs) r ↔ ∃ q r',r=q::r'/\(bJ p.1=some q.1/\Rep K A H p.2 q.2)/\RepKs K A H kvs r':=by
 obtain ⟨a,b⟩:=p;rw [RepKs];constructor
 ·rintro ⟨q,r',e,h1,h2⟩;rw [RepP] at h1;exact ⟨q,r',e,h1,h2⟩
 ·rintro ⟨q,r',e,h1,h2⟩;exact ⟨q,r',e,by rw [RepP];exact h1,h2⟩
def repKs_nil {r:List (Key×V)}:RepKs K A H [] r ↔ r=[]:=by rw [RepKs]
theorem pG {k:PyData} {q:Key} (hk:bJ k=some q):∀ {kvs:List (PyData×PyData)} {r:List (Key×V)},RepKs K A H kvs r->(kvs.any fun p=>decide (bJ p.1=bJ k))=r.any fun kv=>decide (kv.1=q)
 | [],r,h=>by rw [repKs_nil.mp h];rfl
 | p::kvs,r,h=>by
  obtain ⟨q',r',rfl,⟨h1,h2⟩,h3⟩:=repKs_cons.mp h;rw [List.any_cons,List.any_cons,pG hk h3,h1,hk];simp
theorem pH:∀ {kvs more:List (PyData×PyData)} {r r2:List (Key×V)},RepKs K A H kvs r->RepKs K A H more r2->RepKs K A H (kvs++more) (r++r2)
 | [],_,r,r2,h,h2=>by rw [repKs_nil.mp h];exact h2
 | p::kvs,more,r,r2,h,h2=>by
  obtain ⟨q',r',rfl,h1,h3⟩:=repKs_cons.mp h;exact repKs_cons.mpr ⟨q',r'++r2,rfl,h1,pH h3 h2⟩
theorem mC {k:PyData} {q:Key} {x:PyData} {y:V} (hk:bJ k=some q) (rx:Rep K A H x y):∀ {kvs:List (PyData×PyData)} {r:List (Key×V)},RepKs K A H kvs r ->
  RepKs K A H (kvs.map fun p=>if bJ p.1=bJ k then (p.1,x) else p) (r.map fun kv=>if kv.1=q then (kv.1,y) else kv)
 | [],r,h=>by rw [repKs_nil.mp h];exact repKs_nil.mpr rfl
 | p::kvs,r,h=>by
  obtain ⟨q',r',rfl,⟨h1,h2⟩,h3⟩:=repKs_cons.mp h;rw [List.map_cons,List.map_cons];refine repKs_cons.mpr ⟨_,_,rfl,?_,mC hk rx h3⟩;rw [h1,hk]
  by_cases e:q'.1=q
  ·rw [if_pos e,if_pos (by rw [e])];exact ⟨h1,rx⟩
  ·rw [if_neg e,if_neg (fun z=>e (Option.some.inj z))];exact ⟨h1,h2⟩
def zJ {k:PyData} {q:Key} {x:PyData} {y:V} (hk:bJ k=some q) (rx:Rep K A H x y) {kvs:List (PyData×PyData)} {r:List (Key×V)} (h:RepKs K A H kvs r):RepKs K A H (jT kvs k x) (qG r q y):=by
 unfold jT qG;rw [pG hk h];split
 ·exact mC hk rx h
 ·exact pH h (repKs_cons.mpr ⟨_,_,rfl,⟨hk,rx⟩,repKs_nil.mpr rfl⟩)
end
variable {X:Cx}
end DL
namespace PySem
open PyProof.Rows
section
variable {prog:Program} {w:World} {A:Around} {E:Value->Shared->Prop} {s:Shared}
def jC {it t:Addr} {i:Nat} {items:Array Value} {x:Value} {Q:Value->Shared->Prop} (hit:s.heap.IsTupleIter it t i) (hl:s.heap.IsTuple t items) (hx:items[i]?=some x)
  (hQ:∀ h',h'.IsTupleIter it t (i+1)->Heap.SameBut it s.heap h'->Q x { s with heap:=h' }):wpAny (model prog w) A (Builtin.SmallTypes.nextOf (.ref it)) Q E s:=by
 obtain ⟨o,ho,hc,hd⟩:=id hit;obtain ⟨ol,hol,hlc,nl,hdl⟩:=hl;unfold Builtin.SmallTypes.nextOf;refine wpAny_bind (wpAny_callSpecial?_slot (hit.typeIs) F.slot_tuple_iterator_next (wpAny_call_entry F.slot_tuple_iterator_next hit.typeIs F.entry_tuple_iterator_next ?_ (F.args_tuple_iterator_next_1 _)));refine wpAny_bind (wpAny_pure (a:=(Value.ref it,[])) ?_);refine wpAny_bind (wpAny_field ho hd rfl ?_);rw [if_neg (by exact Bool.false_ne_true)];refine wpAny_bind (wpAny_field ho hd rfl ?_);refine wpAny_bind (wpAny_seqItems hol hdl ?_);show wpAny _ _ (match items[((i:Int)).toNat]? with | some x=>_ | none=>_) _ _ _;rw [Int.toNat_natCast,hx];refine wpAny_bind (wpAny_setField ho hd (by simp) ?_);refine wpAny_pure ⟨x,rfl,wpAny_pure (hQ _ ⟨_,Heap.get?_update_self _ ho (Obj.isFreed_of_fields (Obj.data_mapFields hd _)),(Obj.cls_mapFields o _).trans hc,?_⟩ (Heap.SameBut.update _ _ _))⟩;rw [Obj.data_mapFields hd];rfl
def jU {it t:Addr} {i:Nat} {items:Array Value} {Q:Value->Shared->Prop} (hh:A.handled=none) (hit:s.heap.IsTupleIter it t i) (hl:s.heap.IsTuple t items) (hx:items[i]?=none)
  (hE:∀ h' e,Heap.ExtBut it s.heap h'->(∃ o,h'.get? e=some o/\o.cls=.type "StopIteration")->E (.ref e) { s with heap:=h' }):wpAny (model prog w) A (Builtin.SmallTypes.nextOf (.ref it)) Q E s:=by
 obtain ⟨o,ho,hc,hd⟩:=id hit;obtain ⟨ol,hol,hlc,nl,hdl⟩:=hl;unfold Builtin.SmallTypes.nextOf;refine wpAny_bind (wpAny_callSpecial?_slot (hit.typeIs) F.slot_tuple_iterator_next (wpAny_call_entry F.slot_tuple_iterator_next hit.typeIs F.entry_tuple_iterator_next ?_ (F.args_tuple_iterator_next_1 _)));refine wpAny_bind (wpAny_pure (a:=(Value.ref it,[])) ?_);refine wpAny_bind (wpAny_field ho hd rfl ?_);rw [if_neg (by exact Bool.false_ne_true)];refine wpAny_bind (wpAny_field ho hd rfl ?_);refine wpAny_bind (wpAny_seqItems hol hdl ?_);show wpAny _ _ (match items[((i:Int)).toNat]? with | some x=>_ | none=>_) _ _ _;rw [Int.toNat_natCast,hx];refine wpAny_bind (wpAny_rule ?_);refine wpAny_bind (wpAny_setField ho hd (by simp) ?_);unfold Builtin.SmallTypes.stopIteration newExc;refine wpAny_bind (wpAny_bind (wpAny_newObj_type ?_ (by show (([]:List Value).toArray.size<=sizeLine);simp)));refine wpAny_bind (wpAny_pure (a:=Value.none) ?_);refine wpAny_newObj_type ?_ (sizeOk_excFields ..);unfold raiseNew;refine wpAny_bind (wpAny_handled ?_);rw [show A.in1.handled=none from hh];refine wpAny_throw (hE _ _ (fun b o' hb e=>?_) ⟨_,Heap.get?_push_size _ rfl,rfl⟩);refine Heap.get?_push_of_some _ (Heap.get?_push_of_some _ ?_);rw [(Heap.SameBut.update s.heap it _).2 b hb];exact e
noncomputable def SqAt:Bool->Heap->Addr->Array Value->Prop
 | true,h,l,xs=>h.IsTuple l xs
 | false,h,l,xs=>h.IsList l xs
noncomputable def ItAt:Bool->Heap->Addr->Addr->Nat->Prop
 | true,h,it,l,k=>h.IsTupleIter it l k
 | false,h,it,l,k=>h.IsListIter it l k
noncomputable def jV (b:Bool) (l:Addr):Obj:={ cls:=.type (if b=true then "tuple_iterator" else "list_iterator"),data:=.fields #[.ref l,.int 0 0] }
def SqAt.keep {b:Bool} {h h':Heap} {l:Addr} {xs:Array Value} (x:SqAt b h l xs) (k:∀ o,h.get? l=some o->h'.get? l=some o):SqAt b h' l xs:=by
 cases b<;>exact let ⟨o,h1,h2⟩:=x;⟨o,k o h1,h2⟩
def ItAt.keep {b:Bool} {h h':Heap} {it l:Addr} {i:Nat} (x:ItAt b h it l i) (k:∀ o,h.get? it=some o->h'.get? it=some o):ItAt b h' it l i:=by
 cases b<;>exact let ⟨o,h1,h2⟩:=x;⟨o,k o h1,h2⟩
def ItAt.new {b:Bool} {h:Heap} {it l:Addr} (e:h.get? it=some (jV b l)):ItAt b h it l 0:=by
 cases b<;>exact ⟨_,e,rfl,rfl⟩
def fK {b:Bool} {l:Addr} {xs:Array Value} {Q:Value->Shared->Prop} (hl:SqAt b s.heap l xs) (h:Q (.ref s.heap.objs.size) { s with heap:=s.heap.push (jV b l) }):wpAny (model prog w) A (pyIter (.ref l)) Q E s:=by
 cases b
 ·exact wpAny_pyIter_list hl h
 ·exact wpAny_pyIter_tuple hl h
def fB {b:Bool} {it l:Addr} {i:Nat} {items:Array Value} {x:Value} {Q:Value->Shared->Prop} (hit:ItAt b s.heap it l i) (hl:SqAt b s.heap l items) (hx:items[i]?=some x)
  (hQ:∀ h',ItAt b h' it l (i+1)->Heap.SameBut it s.heap h'->Q x { s with heap:=h' }):wpAny (model prog w) A (Builtin.SmallTypes.nextOf (.ref it)) Q E s:=by
 cases b
 ·exact wpAny_nextOf_list_item hit hl hx hQ
 ·exact jC hit hl hx hQ
def iP {b:Bool} {it l:Addr} {i:Nat} {items:Array Value} {Q:Value->Shared->Prop} (hh:A.handled=none) (hit:ItAt b s.heap it l i) (hl:SqAt b s.heap l items) (hx:items[i]?=none)
  (hE:∀ h' e,Heap.ExtBut it s.heap h'->(∃ o,h'.get? e=some o/\o.cls=.type "StopIteration")->E (.ref e) { s with heap:=h' }):wpAny (model prog w) A (Builtin.SmallTypes.nextOf (.ref it)) Q E s:=by
 cases b
 ·exact wpAny_nextOf_list_end hh hit hl hx hE
 ·exact jU hh hit hl hx hE
noncomputable abbrev zH1 (b:Bool) (h:Heap) (l1:Addr):Heap:=h.push (jV b l1)
noncomputable abbrev zH2 (b c:Bool) (h:Heap) (l1 l2:Addr):Heap:=(zH1 b h l1).push (jV c l2)
noncomputable abbrev zH3 (b c:Bool) (h:Heap) (l1 l2:Addr):Heap:=(zH2 b c h l1 l2).push { cls:=.type "tuple",data:=.seq #[.ref h.objs.size,.ref (zH1 b h l1).objs.size] }
noncomputable abbrev zH4 (b c:Bool) (h:Heap) (l1 l2:Addr):Heap:=(zH3 b c h l1 l2).push { cls:=.type "tuple",data:=.seq #[.none,.none] }
noncomputable abbrev zH5 (b c:Bool) (h:Heap) (l1 l2:Addr):Heap:=(zH4 b c h l1 l2).push { cls:=.type "zip",data:=.fields #[.none,.bool false,.bool false,.ref (zH2 b c h l1 l2).objs.size,.ref (zH3 b c h l1 l2).objs.size] }
def aX8 (b c:Bool) (l1 l2:Addr) (xs ys:Array Value):Meets (Builtin.«zip.__new__» { pos:=[.type "zip",.ref l1,.ref l2] }) fun _ R s=>SqAt b s.heap l1 xs/\SqAt c s.heap l2 ys /\
  R (.ok (.ret (.ref (zH4 b c s.heap l1 l2).objs.size))) { s with heap:=zH5 b c s.heap l1 l2 }:=by
 refine Meets.of_wp fun prog w A R s h=>?_;obtain ⟨h1,h2,h⟩:=h;unfold Builtin.«zip.__new__»;refine wpAny_bind (wpAny_pure (a:=(Value.type "zip",[Value.ref l1,Value.ref l2])) ?_);dsimp only;rw [if_neg (by decide)];refine wpAny_bind ?_;unfold Builtin.SmallTypes.iterAll;refine wpAny_bind ?_;rw [List.forIn_cons];refine wpAny_bind (wpAny_bind (wpAny_holding (fK h1 (wpAny_pure ?_))));dsimp only;rw [List.forIn_cons];refine wpAny_bind (wpAny_bind (wpAny_holding (fK (h2.keep fun o e=>Heap.get?_push_of_some _ e) (wpAny_pure ?_))));dsimp only;rw [List.forIn_nil];refine wpAny_pure (wpAny_pure ?_);refine wpAny_bind (wpAny_newObj_type ?_ (by show (_:Array Value).size<=sizeLine;simp [sizeLine_eq]));refine wpAny_bind (wpAny_newObj_type ?_ (by show (_:Array Value).size<=sizeLine;simp [sizeLine_eq]));refine wpAny_bind ?_;unfold Builtin.SmallTypes.newRecord;refine wpAny_newObj_type (wpAny_pure ⟨_,rfl,h⟩) ?_;simp [sizeOk,Builtin.SmallTypes.ownedTupleFields,sizeLine_eq]
def aH7 {b c:Bool} {l1 l2:Addr} {xs ys:Array Value} {Q:Value->Shared->Prop} (h1:SqAt b s.heap l1 xs) (h2:SqAt c s.heap l2 ys)
  (h:∀ h',IsZip h' (s.heap.objs.size+4) (s.heap.objs.size+2) (s.heap.objs.size+3) .none->IsPair h' (s.heap.objs.size+2) (.ref s.heap.objs.size) (.ref (s.heap.objs.size+1))->IsPair h' (s.heap.objs.size+3) .none .none ->
   ItAt b h' s.heap.objs.size l1 0->ItAt c h' (s.heap.objs.size+1) l2 0->h'.objs.size=s.heap.objs.size+5->(∀ a o,s.heap.get? a=some o->h'.get? a=some o)->Q (.ref (s.heap.objs.size+4)) { s with heap:=h' }) :
  wpAny (model prog w) A (call (.type "zip") [.ref l1,.ref l2]) Q E s:=by
 have z1:(zH1 b s.heap l1).objs.size=s.heap.objs.size+1:=Heap.size_push ..;have z2:(zH2 b c s.heap l1 l2).objs.size=s.heap.objs.size+2:=by rw [zH2,Heap.size_push,z1]
 have z3:(zH3 b c s.heap l1 l2).objs.size=s.heap.objs.size+3:=by rw [zH3,Heap.size_push,z2]
 have z4:(zH4 b c s.heap l1 l2).objs.size=s.heap.objs.size+4:=by rw [zH4,Heap.size_push,z3]
 have z5:(zH5 b c s.heap l1 l2).objs.size=s.heap.objs.size+5:=by rw [zH5,Heap.size_push,z4]
 have g5:(zH5 b c s.heap l1 l2).get? (zH4 b c s.heap l1 l2).objs.size=_:=Heap.get?_push_size _ rfl;have g4:(zH5 b c s.heap l1 l2).get? (zH3 b c s.heap l1 l2).objs.size=_:=Heap.get?_push_of_some _ (Heap.get?_push_size _ rfl);have g3:(zH5 b c s.heap l1 l2).get? (zH2 b c s.heap l1 l2).objs.size=_:=Heap.get?_push_of_some _ (Heap.get?_push_of_some _ (Heap.get?_push_size _ rfl));have g2:(zH5 b c s.heap l1 l2).get? (zH1 b s.heap l1).objs.size=_:=Heap.get?_push_of_some _ (Heap.get?_push_of_some _ (Heap.get?_push_of_some _ (Heap.get?_push_size _ rfl)));have g1:(zH5 b c s.heap l1 l2).get? s.heap.objs.size=_:=Heap.get?_push_of_some _ (Heap.get?_push_of_some _ (Heap.get?_push_of_some _ (Heap.get?_push_of_some _ (Heap.get?_push_size _ rfl))));refine callType_new F.called_zip (by decide) (F.typeCall_zip_2 _ _) (F.newCall_zip_2 _ _) (fun obj=>F.args_object_init_3 obj _ _) F.entry_zip_new (aX8 b c l1 l2 xs ys) ⟨h1,h2,?_⟩;have q:=h (zH5 b c s.heap l1 l2) (by rw [z4,z3,z2] at g5;exact g5) (by rw [z2,z1] at g3;exact g3) (by rw [z3] at g4;exact g4) (.new g1) (.new (by rw [z1] at g2;exact g2)) z5
  (fun a o e=>Heap.get?_push_of_some _ (Heap.get?_push_of_some _ (Heap.get?_push_of_some _ (Heap.get?_push_of_some _ (Heap.get?_push_of_some _ e)))))
 rw [<- z4] at q;exact ⟨⟨_,g5,rfl⟩,q⟩
def qP {h:Heap} {z TI TO:Addr} {f0 x:Value} (hz:IsZip h z TI TO f0):IsZip (h.update z (Obj.mapFields fun a=>a.setIfInBounds 0 x)) z TI TO x:=by
 refine (Heap.get?_update_self _ hz (Obj.isFreed_of_fields (Obj.data_mapFields rfl _))).trans ?_;rfl
def aH8 {h:Heap} {z TI TO:Addr} {f0:Value} (hz:IsZip h z TI TO f0):IsZip (h.update z (Obj.mapFields fun a=>a.setIfInBounds 1 (.bool false))) z TI TO f0:=by
 refine (Heap.get?_update_self _ hz (Obj.isFreed_of_fields (Obj.data_mapFields rfl _))).trans ?_;rfl
structure ZApart (z TI TO i1 i2:Addr):Prop where
 TIz:TI≠z
 TOz:TO≠z
 i1z:i1≠z
 i2z:i2≠z
 TITO:TI≠TO
 TOi1:TO≠i1
 TOi2:TO≠i2
 TIi1:TI≠i1
 TIi2:TI≠i2
 i12:i1≠i2
def zK {b c:Bool} {z TI TO i1 i2 l1 l2:Addr} {k:Nat} {xs ys:Array Value} {x y u v:Value} {Q:Value->Shared->Prop} (D:ZApart z TI TO i1 i2) (hz:IsZip s.heap z TI TO .none) (hTI:IsPair s.heap TI (.ref i1) (.ref i2)) (hTO:IsPair s.heap TO u v)
  (h1:ItAt b s.heap i1 l1 k) (h2:ItAt c s.heap i2 l2 k) (q1:SqAt b s.heap l1 xs) (q2:SqAt c s.heap l2 ys) (nz1:l1≠z) (nz2:l2≠z) (nT2:l2≠TO) (n21:l2≠i1) (hx:xs[k]?=some x) (hy:ys[k]?=some y)
  (hQ:∀ h',IsZip h' z TI TO (rawInt s.heap.objs.size)->IsPair h' TO x y->ItAt b h' i1 l1 (k+1)->ItAt c h' i2 l2 (k+1)->IsPair h' s.heap.objs.size x y->h'.objs.size=s.heap.objs.size+1 ->
   (∀ a o,a≠z->a≠TO->a≠i1->a≠i2->s.heap.get? a=some o->h'.get? a=some o)->Q (.ref s.heap.objs.size) { s with heap:=h' }) :
  wpAny (model prog w) A (Builtin.«zip.__next__» { pos:=[.ref z] }) (fun fin s'=>∃ v,fin=Fin.done (.ret v)/\Q v s') E s:=by
 unfold Builtin.«zip.__next__»;refine wpAny_bind (wpAny_pure (a:=(Value.ref z,[])) ?_);refine wpAny_bind (wpAny_field hz rfl rfl ?_);refine wpAny_bind (wpAny_field hz rfl rfl ?_);refine wpAny_bind (wpAny_seqItems hTI rfl ?_);dsimp only;rw [if_neg (by simp)];refine wpAny_bind ?_;unfold Builtin.SmallTypes.ownedTupleIsFree;refine wpAny_bind (wpAny_field hz rfl rfl ?_);refine wpAny_pure ?_;rw [if_pos rfl];refine wpAny_bind (wpAny_rule ?_);refine wpAny_bind (wpAny_field hz rfl rfl ?_);refine wpAny_bind (wpAny_setField hz rfl (by simp) ?_);have e1:=Heap.SameBut.update s.heap z (Obj.mapFields fun a=>a.setIfInBounds 0 Value.ellipsis);have hz1:=qP (x:=Value.ellipsis) hz;generalize s.heap.update z (Obj.mapFields fun a=>a.setIfInBounds 0 Value.ellipsis)=H1 at e1 hz1 ⊢;have h11:ItAt b H1 i1 l1 k:=h1.keep fun o e=>(e1.2 _ D.i1z).trans e;have q11:SqAt b H1 l1 xs:=q1.keep fun o e=>(e1.2 _ nz1).trans e;have hTO1:IsPair H1 TO u v:=(e1.2 _ D.TOz).trans hTO;refine wpAny_bind ?_;rw [show [Value.ref i1,Value.ref i2].zipIdx=[(Value.ref i1,0),(Value.ref i2,1)] from rfl,List.forIn_cons];refine wpAny_bind (wpAny_bind (wpAny_onRaise ?_))
 change wpAny _ _ (Builtin.SmallTypes.nextOf (Value.ref i1) >>= fun v=>pure (some v)) _ _ _
 refine wpAny_bind (fB h11 q11 hx fun H2 h12 e2=>wpAny_pure ?_);have hz2:IsZip H2 z TI TO .ellipsis:=(e2.2 _ D.i1z.symm).trans hz1;have hTO2:IsPair H2 TO u v:=(e2.2 _ D.TOi1).trans hTO1;refine wpAny_bind (wpAny_seqItems hTO2 rfl (wpAny_bind (wpAny_updateSeq_pair hTO2 fun H3 hTO3 e3=>wpAny_bind (wpAny_letGo (wpAny_pure ?_)))));have hTO3:IsPair H3 TO x v:=hTO3;have hz3:IsZip H3 z TI TO .ellipsis:=(e3.2 _ D.TOz.symm).trans hz2;have h23:ItAt c H3 i2 l2 k:=h2.keep fun o e=>(e3.2 _ D.TOi2.symm).trans ((e2.2 _ D.i12.symm).trans ((e1.2 _ D.i2z).trans e));have q23:SqAt c H3 l2 ys:=q2.keep fun o e=>(e3.2 _ nT2).trans ((e2.2 _ n21).trans ((e1.2 _ nz2).trans e));dsimp only;rw [List.forIn_cons];refine wpAny_bind (wpAny_bind (wpAny_onRaise ?_))
 change wpAny _ _ (Builtin.SmallTypes.nextOf (Value.ref i2) >>= fun v=>pure (some v)) _ _ _
 refine wpAny_bind (fB h23 q23 hy fun H4 h24 e4=>wpAny_pure ?_);have hz4:IsZip H4 z TI TO .ellipsis:=(e4.2 _ D.i2z.symm).trans hz3;have hTO4:IsPair H4 TO x v:=(e4.2 _ D.TOi2).trans hTO3;refine wpAny_bind (wpAny_seqItems hTO4 rfl (wpAny_bind (wpAny_updateSeq_pair hTO4 fun H5 hTO5 e5=>wpAny_bind (wpAny_letGo (wpAny_pure ?_)))));have hTO5:IsPair H5 TO x y:=hTO5;have hz5:IsZip H5 z TI TO .ellipsis:=(e5.2 _ D.TOz.symm).trans hz4;dsimp only;rw [List.forIn_nil];refine wpAny_pure ?_;refine wpAny_bind (wpAny_seqItems hTO5 rfl ?_);refine wpAny_bind (wpAny_newObj_type ?_ (by simp [sizeOk,sizeLine_eq]));have es:H5.objs.size=s.heap.objs.size:=by rw [e5.1,e4.1,e3.1,e2.1,e1.1]
 have g6:IsPair (H5.push { cls:=.type "tuple",data:=.seq #[x,y] }) H5.objs.size x y:=Heap.get?_push_size _ rfl;have k6:∀ a o,H5.get? a=some o->(H5.push { cls:=.type "tuple",data:=.seq #[x,y] }).get? a=some o:=fun a o e=>Heap.get?_push_of_some _ e;have s6:(H5.push { cls:=.type "tuple",data:=.seq #[x,y] }).objs.size=s.heap.objs.size+1:=by rw [Heap.size_push,es]
 have hz6:=k6 _ _ hz5;refine wpAny_bind ?_;unfold Builtin.SmallTypes.ownedTupleHandOut;refine wpAny_bind (wpAny_setField hz6 rfl (by simp) ?_);have hz7:=qP (x:=rawInt H5.objs.size) hz6;refine wpAny_setField hz7 rfl (by simp) ?_;have hz8:=aH8 hz7;have e7:=Heap.SameBut.update (H5.push { cls:=.type "tuple",data:=.seq #[x,y] }) z (Obj.mapFields fun a=>a.setIfInBounds 0 (rawInt H5.objs.size));have e8:=Heap.SameBut.update ((H5.push { cls:=.type "tuple",data:=.seq #[x,y] }).update z (Obj.mapFields fun a=>a.setIfInBounds 0 (rawInt H5.objs.size))) z (Obj.mapFields fun a=>a.setIfInBounds 1 (.bool false));have kk:∀ a o,a≠z->H5.get? a=some o->(((H5.push { cls:=.type "tuple",data:=.seq #[x,y] }).update z (Obj.mapFields fun a=>a.setIfInBounds 0 (rawInt H5.objs.size))).update z (Obj.mapFields fun a=>a.setIfInBounds 1 (.bool false))).get? a=some o :=
  fun a o n e=>(e8.2 a n).trans ((e7.2 a n).trans (k6 a o e))
 have nsz:H5.objs.size≠z:=fun e=>by
  have:=Heap.lt_size hz5;rw [<- e] at this;exact Nat.lt_irrefl _ this
 have g8:=(e8.2 _ nsz).trans ((e7.2 _ nsz).trans g6);have hs8:=e8.1.trans (e7.1.trans s6);have h15:ItAt b H5 i1 l1 (k+1):=h12.keep fun o e=>(e5.2 _ D.TOi1.symm).trans ((e4.2 _ D.i12).trans ((e3.2 _ D.TOi1.symm).trans e));have h25:ItAt c H5 i2 l2 (k+1):=h24.keep fun o e=>(e5.2 _ D.TOi2.symm).trans e;have q:=hQ _ (by rw [es] at hz8;rw [es];exact hz8) (kk _ _ D.TOz hTO5) (h15.keep fun o e=>kk _ _ D.i1z e) (h25.keep fun o e=>kk _ _ D.i2z e) (by rw [<- es];exact g8) hs8
  (fun a o n1 n2 n3 n4 e=>kk _ _ n1 ((e5.2 _ n2).trans ((e4.2 _ n4).trans ((e3.2 _ n2).trans ((e2.2 _ n3).trans ((e1.2 _ n1).trans e))))))
 refine wpAny_pure ⟨_,rfl,?_⟩;rw [<- es] at q;exact q
def aH9 {b c:Bool} {z TI TO i1 i2 l1 l2:Addr} {k:Nat} {xs ys:Array Value} {u v:Value} {Q:Fin->Shared->Prop} (hh:A.handled=none) (D:ZApart z TI TO i1 i2) (hz:IsZip s.heap z TI TO .none) (hTI:IsPair s.heap TI (.ref i1) (.ref i2)) (hTO:IsPair s.heap TO u v)
  (h1:ItAt b s.heap i1 l1 k) (h2:ItAt c s.heap i2 l2 k) (q1:SqAt b s.heap l1 xs) (q2:SqAt c s.heap l2 ys) (nz1:l1≠z) (nz2:l2≠z) (nT2:l2≠TO) (n21:l2≠i1) (hn:xs[k]?=none\/ys[k]?=none)
  (hE:∀ h' e,(∀ a o,a≠z->a≠TO->a≠i1->a≠i2->s.heap.get? a=some o->h'.get? a=some o)->(∃ o,h'.get? e=some o/\o.cls=.type "StopIteration")->E (.ref e) { s with heap:=h' }) :
  wpAny (model prog w) A (Builtin.«zip.__next__» { pos:=[.ref z] }) Q E s:=by
 unfold Builtin.«zip.__next__»;refine wpAny_bind (wpAny_pure (a:=(Value.ref z,[])) ?_);refine wpAny_bind (wpAny_field hz rfl rfl ?_);refine wpAny_bind (wpAny_field hz rfl rfl ?_);refine wpAny_bind (wpAny_seqItems hTI rfl ?_);dsimp only;rw [if_neg (by simp)];refine wpAny_bind ?_;unfold Builtin.SmallTypes.ownedTupleIsFree;refine wpAny_bind (wpAny_field hz rfl rfl ?_);refine wpAny_pure ?_;rw [if_pos rfl];refine wpAny_bind (wpAny_rule ?_);refine wpAny_bind (wpAny_field hz rfl rfl ?_);refine wpAny_bind (wpAny_setField hz rfl (by simp) ?_);have e1:=Heap.SameBut.update s.heap z (Obj.mapFields fun a=>a.setIfInBounds 0 Value.ellipsis);have hz1:=qP (x:=Value.ellipsis) hz;generalize s.heap.update z (Obj.mapFields fun a=>a.setIfInBounds 0 Value.ellipsis)=H1 at e1 hz1 ⊢;have h11:ItAt b H1 i1 l1 k:=h1.keep fun o e=>(e1.2 _ D.i1z).trans e;have q11:SqAt b H1 l1 xs:=q1.keep fun o e=>(e1.2 _ nz1).trans e;have hTO1:IsPair H1 TO u v:=(e1.2 _ D.TOz).trans hTO;have ends:∀ (H4 H5:Heap) (e:Addr),IsZip H5 z TI TO .ellipsis->(∀ a o,a≠z->a≠TO->a≠i1->a≠i2->s.heap.get? a=some o->H5.get? a=some o)->(∃ o,H5.get? e=some o/\o.cls=.type "StopIteration") ->
   wpAny (model prog w) A (setField (.ref z) 0 .none) (fun _ s''=>E (.ref e) s'') E { s with heap:=H5 }:=fun H4 H5 e hz5 kk ⟨o,ho,hc⟩=>by
  refine wpAny_setField hz5 rfl (by simp) ?_;have e6:=Heap.SameBut.update H5 z (Obj.mapFields fun a=>a.setIfInBounds 0 Value.none);refine hE _ e (fun a o n1 n2 n3 n4 g=>(e6.2 _ n1).trans (kk a o n1 n2 n3 n4 g)) ⟨o,(e6.2 _ fun z'=>?_).trans ho,hc⟩;rw [z'] at ho;have hz5:H5.get? z=_:=hz5;rw [ho] at hz5;cases hz5;simp at hc
 refine wpAny_bind ?_;rw [show [Value.ref i1,Value.ref i2].zipIdx=[(Value.ref i1,0),(Value.ref i2,1)] from rfl,List.forIn_cons];refine wpAny_bind (wpAny_bind (wpAny_onRaise ?_))
 change wpAny _ _ (Builtin.SmallTypes.nextOf (Value.ref i1) >>= fun v=>pure (some v)) _ _ _
 by_cases hx:xs[k]?=none
 ·refine wpAny_bind (iP hh h11 q11 hx fun H2 e g2 he=>ends H2 H2 e ?_ (fun a o n1 n2 n3 n4 g=>?_) he)
  ·exact g2 _ _ D.i1z.symm hz1
  ·exact g2 _ _ n3 ((e1.2 _ n1).trans g)
 obtain ⟨x,hx⟩:=Option.ne_none_iff_exists'.mp hx;have hy:ys[k]?=none:=hn.resolve_left (by rw [hx];simp);refine wpAny_bind (fB h11 q11 hx fun H2 h12 e2=>wpAny_pure ?_);have hz2:IsZip H2 z TI TO .ellipsis:=(e2.2 _ D.i1z.symm).trans hz1;have hTO2:IsPair H2 TO u v:=(e2.2 _ D.TOi1).trans hTO1;refine wpAny_bind (wpAny_seqItems hTO2 rfl (wpAny_bind (wpAny_updateSeq_pair hTO2 fun H3 hTO3 e3=>wpAny_bind (wpAny_letGo (wpAny_pure ?_)))));have hz3:IsZip H3 z TI TO .ellipsis:=(e3.2 _ D.TOz.symm).trans hz2;have h23:ItAt c H3 i2 l2 k:=h2.keep fun o e=>(e3.2 _ D.TOi2.symm).trans ((e2.2 _ D.i12.symm).trans ((e1.2 _ D.i2z).trans e));have q23:SqAt c H3 l2 ys:=q2.keep fun o e=>(e3.2 _ nT2).trans ((e2.2 _ n21).trans ((e1.2 _ nz2).trans e));dsimp only;rw [List.forIn_cons];refine wpAny_bind (wpAny_bind (wpAny_onRaise ?_))
 change wpAny _ _ (Builtin.SmallTypes.nextOf (Value.ref i2) >>= fun v=>pure (some v)) _ _ _
 refine wpAny_bind (iP hh h23 q23 hy fun H4 e g4 he=>ends H4 H4 e ?_ (fun a o n1 n2 n3 n4 g=>?_) he)
 ·exact g4 _ _ D.i2z.symm hz3
 ·exact g4 _ _ n4 ((e3.2 _ n2).trans ((e2.2 _ n3).trans ((e1.2 _ n1).trans g)))
end
end PySem
namespace L2
open PySem PySem.Spec PyProof.Rows
section
variable {X:Cx} {pins:List (Addr×Obj)} {σ:List (Option V)} {H:Hp} {s:Shared} {h':Heap}
def Inv.turnedL {t':Nat} {ch:List Addr} (I:Inv X pins σ H s) (k:∀ b o,b∉ch->s.heap.get? b=some o->h'.get? b=some o) (hf:∀ b∈ch,iJ X pins H b):Inv X pins σ H { s with heap:=h',toks:=t' }:=by
 have nit:∀ b u,H b=some u->b∉ch:=fun b u e z=>by rw [(hf b z).1] at e;cases e
 have hL:X.env.locals∉ch:=fun z=>(hf _ z).2.1 rfl;refine I.step (g':=s.gens) (d':=s.drawn) (ch:=ch) (fun b hb=>?_) (fun b o _ _ hc e _=>k b o hc e) (fun b o _ _ hc e _=>⟨o.slots,k b o hc e⟩) (fun _ _ _ _ n=>n)
  (fun b o hc e=>⟨o,k b o hc e⟩) (fun _ _ e=>e) (fun _ _ _ e=>e) (fun b ps e=>⟨#[],by rw [e];simp⟩) (fun m hm=>?_) (fun b u e=>?_) I.bare
 ·obtain ⟨_,f1,_,f3,f4,f5⟩:=hf b hb;exact ⟨f3,f1,f4,f5⟩
 ·obtain ⟨o,es,ep,ho,r⟩:=hm;exact ⟨o,es,ep,k _ o hL ho,r⟩
 ·refine (I.hok b u e).stay (fun c v hc q=>k c v ?_ q) (fun _ q=>q) fun _ _ q=>q;rcases hc with z | z
  ·rw [z];exact nit b u e
  ·exact nit c _ z
noncomputable def SqB (K:Frag):Bool->Hp->Addr->List V->Prop
 | true,H,a,xs=>SqT K H a xs
 | false,H,a,xs=>SqL K H a xs
def bJ2 {a c:Addr} {u:HO} (h:Rd H a u) (f:H c=none):a≠c:=fun e=>by
 subst e;rcases h with h | ⟨o,h⟩<;>· rw [f] at h;cases h
def cM0 {a c:Addr} {o:Obj} (I:Inv X pins σ H s) (h:X.K.lookup a=some o) (f:iJ X pins H c):a≠c:=fun e=>by
 subst e;have b:=I.ok.mod.kin a o h;rcases f.2.2.2.1 with z | z
 ·exact I.ok.noex _ _ b z
 ·exact absurd (Nat.lt_of_lt_of_le (Heap.lt_size (I.ok.bs _ _ b).1) z) (Nat.lt_irrefl _)
def Inv.sq_ne {b:Bool} {a c:Addr} {xs:List V} (I:Inv X pins σ H s) (h:SqB X.K b H a xs) (f:iJ X pins H c):a≠c:=by
 cases b
 ·rcases h with h | ⟨o,its,n,hk,_⟩
  ·exact bJ2 h f.1
  ·exact cM0 I hk f
 ·rcases h with h | ⟨o,its,n,hk,_⟩
  ·exact bJ2 h f.1
  ·exact cM0 I hk f
def Inv.sqB {b:Bool} {a:Addr} {xs:List V} (I:Inv X pins σ H s) (h:SqB X.K b H a xs):∃ its:List Value,Vals xs its/\SqAt b s.heap a its.toArray/\xs.length<=sizeLine:=by
 cases b
 ·obtain ⟨its,rv,p,hz⟩:=I.list h;exact ⟨its,rv,p.isList,hz⟩
 ·obtain ⟨its,rv,p,hz⟩:=I.tuple h;exact ⟨its,rv,p,hz⟩
def Inv.sqB_inj {b:Bool} {a:Addr} {xs ys:List V} (I:Inv X pins σ H s) (h:SqB X.K b H a xs) (h':SqB X.K b H a ys):xs=ys:=by
 cases b
 ·exact I.list_inj h h'
 ·exact I.tuple_inj h h'
def Itz (K:Frag) (b c:Bool) (l1 l2:Addr):It :=
 ⟨fun i H=>∃ xs ys x y,SqB K b H l1 xs/\SqB K c H l2 ys/\xs[i]?=some x/\ys[i]?=some y,
  fun i H v H'=>∃ p x y,v=.ref p/\H p=none/\H'=upd H p (.tup [x,y])/\(∀ xs,SqB K b H l1 xs->xs[i]?=some x)/\(∀ ys,SqB K c H l2 ys->ys[i]?=some y),
  fun i H=>∃ xs ys,SqB K b H l1 xs/\SqB K c H l2 ys/\(xs.length<=i\/ys.length<=i)⟩
end
def ZSt (b c:Bool) (z TI TO i1 i2 l1 l2:Addr) (i:Nat) (h:Heap):Prop :=
 IsZip h z TI TO .none/\IsPair h TI (.ref i1) (.ref i2)/\(∃ u v,IsPair h TO u v)/\ItAt b h i1 l1 i/\ItAt c h i2 l2 i
def aI0 {P:Program} {w:World} {K:Frag} {elts:List Expr} {n:Nat} {pos:Pos} (b c:Bool) (z TI TO i1 i2 l1 l2:Addr) (D:ZApart z TI TO i1 i2) :
  Turn P w K (.Tuple elts n pos) (Itz K b c l1 l2) [z,TI,TO,i1,i2] z (ZSt b c z TI TO i1 i2 l1 l2) where
 mem:=by simp
 obj:=fun i h st a ha=>by
  obtain ⟨s1,s2,⟨u,v,s3⟩,s4,s5⟩:=st;have it:∀ {b:Bool} {i1 l1:Addr},ItAt b h i1 l1 i->∃ o,h.get? i1=some o/\∀ v,o.data≠.cell v:=fun {b i1 l1} q=>by
   cases b<;>· obtain ⟨o,e,_,d⟩:=q;exact ⟨o,e,fun v z=>by rw [d] at z;cases z⟩
  simp only [List.mem_cons,List.not_mem_nil,or_false] at ha;rcases ha with rfl | rfl | rfl | rfl | rfl
  ·exact ⟨_,s1,fun v z=>by cases z⟩
  ·exact ⟨_,s2,fun v z=>by cases z⟩
  ·exact ⟨_,s3,fun v z=>by cases z⟩
  ·exact it s4
  ·exact it s5
 keep:=fun i h h' st k=>by
  obtain ⟨s1,s2,⟨u,v,s3⟩,s4,s5⟩:=st;exact ⟨k z (by simp) _ s1,k TI (by simp) _ s2,⟨u,v,k TO (by simp) _ s3⟩,s4.keep fun o e=>k i1 (by simp) o e,s5.keep fun o e=>k i2 (by simp) o e⟩
 item:=by
  intro X hP hw hK hc i pins s σ H E I hf st hg;subst hP hw hK;obtain ⟨xs,ys,x,y,hq1,hq2,hx,hy⟩:=hg;obtain ⟨s1,s2,⟨u,v,s3⟩,s4,s5⟩:=st;obtain ⟨its1,rv1,p1,hz1⟩:=I.sqB hq1;obtain ⟨its2,rv2,p2,hz2⟩:=I.sqB hq2;obtain ⟨u1,hu1,ru1⟩:=rv1.get hx;obtain ⟨u2,hu2,ru2⟩:=rv2.get hy;have hT:s.TypeIs (.ref z) "zip":=⟨_,s1,rfl⟩;have fz:=hf z (by simp);have fTO:=hf TO (by simp);have fi1:=hf i1 (by simp);refine wpAny_bind (wpAny_attempt (wpAny_callSpecial?_slot hT F.slot_zip_next (wpAny_call_entry F.slot_zip_next hT F.entry_zip_next
   (zK D s1 s2 s3 s4 s5 p1 p2 (I.sq_ne hq1 fz) (I.sq_ne hq2 fz) (I.sq_ne hq2 fTO) (I.sq_ne hq2 fi1) (x:=u1) (y:=u2) (by simpa using hu1) (by simpa using hu2)
    fun h' a1 a2 a3 a4 a5 a6 a7=>wpAny_pure ?_) (F.args_zip_next_1 _))))
  refine ⟨_,rfl,wpAny_letOwnedTupleGo_zip (s:={ s with heap:=h' }) a1 fun h'' b1 b2=>?_⟩;have nz:∀ {a o},s.heap.get? a=some o->a≠s.heap.objs.size:=fun e z=>by
   have:=Heap.lt_size e;rw [z] at this;exact Nat.lt_irrefl _ this
  have I1:Inv X pins σ (upd H s.heap.objs.size (.tup [x,y])) { s with heap:=s.heap.push { cls:=.type "tuple",data:=.seq #[u1,u2] } } :=
   I.laid (t':=s.toks) (fun b o e=>Heap.get?_push_of_some _ e) (Nat.le_refl _) (show ObjOk X.prog X.w _ _ _ (.tup [x,y]) from ⟨by simp [sizeLine_eq],[u1,u2],.cons ru1 (.cons ru2 .nil),IsTupD.new _ _⟩)
  have obj:∀ a∈[z,TI,TO,i1,i2],∃ o,s.heap.get? a=some o:=fun a ha=>by
   have it:∀ {b:Bool} {i1 l1:Addr},ItAt b s.heap i1 l1 i->∃ o,s.heap.get? i1=some o:=fun {b i1 l1} q=>by
    cases b<;>· obtain ⟨o,e,_,d⟩:=q;exact ⟨o,e⟩
   simp only [List.mem_cons,List.not_mem_nil,or_false] at ha;rcases ha with rfl | rfl | rfl | rfl | rfl
   ·exact ⟨_,s1⟩
   ·exact ⟨_,s2⟩
   ·exact ⟨_,s3⟩
   ·exact it s4
   ·exact it s5
  have un:∀ a∈[z,TI,TO,i1,i2],upd H s.heap.objs.size (.tup [x,y]) a=none:=fun a ha=>by
   obtain ⟨o,e⟩:=obj a ha;rw [aF (nz e)];exact (hf a ha).1
  have hf1:∀ a∈[z,TI,TO,i1,i2],iJ X pins (upd H s.heap.objs.size (.tup [x,y])) a:=fun a ha=>⟨un a ha,(hf a ha).2⟩;have zs:s.heap.objs.size≠z:=fun e=>nz s1 e.symm;have I2:Inv X pins σ (upd H s.heap.objs.size (.tup [x,y])) { s with heap:=h'' }:=Inv.turnedL (s:={ s with heap:=s.heap.push { cls:=.type "tuple",data:=.seq #[u1,u2] } }) I1 (t':=s.toks) (ch:=[z,TI,TO,i1,i2]) (fun a o ha e=>by
   simp only [List.mem_cons,List.not_mem_nil,or_false,not_or] at ha;obtain ⟨n1,n2,n3,n4,n5⟩:=ha;refine (b2.2 a n1).trans ?_
   by_cases hs:a=s.heap.objs.size
   ·subst hs;have e':(s.heap.push { cls:=.type "tuple",data:=.seq #[u1,u2] }).get? s.heap.objs.size=some o:=e;rw [Heap.get?_push_size _ rfl] at e';cases e';exact a5
   ·have e':(s.heap.push { cls:=.type "tuple",data:=.seq #[u1,u2] }).get? a=some o:=e;rw [Heap.get?_push_ne _ _ _ hs] at e';exact a7 a o n1 n3 n4 n5 e') hf1
  refine ⟨.ref s.heap.objs.size,_,I2,rfl,⟨_,x,y,rfl,I.hok.fresh (Nat.le_refl _),rfl,fun zs hz=>?_,fun zs hz=>?_⟩,⟨b1,?_,⟨u1,u2,?_⟩,?_,?_⟩,un⟩
  ·rw [I.sqB_inj hz hq1];exact hx
  ·rw [I.sqB_inj hz hq2];exact hy
  ·exact (b2.2 _ D.TIz).trans (a7 _ _ D.TIz D.TITO D.TIi1 D.TIi2 s2)
  ·exact (b2.2 _ D.TOz).trans a2
  ·exact a3.keep fun o e=>(b2.2 _ D.i1z).trans e
  ·exact a4.keep fun o e=>(b2.2 _ D.i2z).trans e
 done:=by
  intro X hP hw hK hc i pins s σ H E I hf st hg;subst hP hw hK;obtain ⟨xs,ys,hq1,hq2,hl⟩:=hg;obtain ⟨s1,s2,⟨u,v,s3⟩,s4,s5⟩:=st;obtain ⟨its1,rv1,p1,hz1⟩:=I.sqB hq1;obtain ⟨its2,rv2,p2,hz2⟩:=I.sqB hq2;have l1:=rv1.length;have l2:=rv2.length;have hT:s.TypeIs (.ref z) "zip":=⟨_,s1,rfl⟩;have fz:=hf z (by simp);have fTO:=hf TO (by simp);have fi1:=hf i1 (by simp);refine wpAny_bind (wpAny_attempt (wpAny_callSpecial?_slot hT F.slot_zip_next (wpAny_call_entry F.slot_zip_next hT F.entry_zip_next
   (aH9 (I.ok.hd hc) D s1 s2 s3 s4 s5 p1 p2 (I.sq_ne hq1 fz) (I.sq_ne hq2 fz) (I.sq_ne hq2 fTO) (I.sq_ne hq2 fi1) (by simp;omega)
    fun h' e kk ⟨o,ho,hc⟩=>wpAny_bind (wpAny_isInstance ⟨o,ho,hc⟩ isSubtype_stop (wpAny_pure ⟨rfl,?_⟩))) (F.args_zip_next_1 _))))
  exact I.turnedL (t':=s.toks) (ch:=[z,TI,TO,i1,i2]) (fun a o ha e=>by
   simp only [List.mem_cons,List.not_mem_nil,or_false,not_or] at ha;exact kk a o ha.1 ha.2.2.1 ha.2.2.2.1 ha.2.2.2.2 e) hf
 self:=fun _ _ _ _ _ st h=>wpAny_pyIter_zip st.1 h
section
variable {X:Cx} {elts:List Expr} {n:Nat} {tpos:Pos}
def dB5 (K:Frag) (ta:TA):TI:=fun σ H R=>ta σ H fun vs H1=>∃ p q b c xs ys,vs=[.ref p,.ref q]/\SqB K b H1 p xs/\SqB K c H1 q ys/\(xs.length<=sizeLine->R (Itz K b c p q) H1)
def bW0 {a b:Expr} {ta:TA} {p pos:Pos} (hg:Gl X "zip") (hm:X.mg "zip"=none) (ha:PA X [a,b] ta) (hs:autoParam (starEach [a,b] X.env=[(false,eval a X.env),(false,eval b X.env)]) ZR) (hs2:autoParam (starEach [b] X.env=[(false,eval b X.env)]) ZR) :
  PI X (.Tuple elts n tpos) (.Call (.Name "zip" p) [a,b] [] pos) (dB5 X.K ta):=by
 intro pins s σ H R I h;refine Call_ (iI I hg hm rfl (PyProof.Rows.callWith_type1 (thn (ha pos pins s σ H _ I h) fun us s1 ⟨vs,H1,I1,r1,q1⟩=>?_) (by rw [hs,hs2]) (by rw [hs2];rfl)));obtain ⟨l1,l2,b,c,xs,ys,e,hq1,hq2,q⟩:=q1;subst e;cases r1 with
 | cons r rr =>
  cases rr with
  | cons r' rr =>
   cases rr;cases r;cases r';obtain ⟨its1,rv1,p1,hz1⟩:=I1.sqB hq1;obtain ⟨its2,rv2,p2,hz2⟩:=I1.sqB hq2;refine aH7 p1 p2 fun h' a1 a2 a3 a4 a5 a6 a7=>?_;have hN:∀ k,s1.heap.objs.size<=s1.heap.objs.size+k:=fun k=>Nat.le_add_right _ _;have D:ZApart (s1.heap.objs.size+4) (s1.heap.objs.size+2) (s1.heap.objs.size+3) s1.heap.objs.size (s1.heap.objs.size+1):=by
    constructor<;>(intro e;exact absurd e (by simp [Addr]<;>omega))
   have I2:Inv X pins σ H1 { s1 with heap:=h' }:=I1.kept (t':=s1.toks) a7;refine wpAny_pyIter_zip a1 ⟨_,_,_,_,H1,rfl,I2,aI0 b c _ _ _ _ _ l1 l2 D,⟨a1,a2,⟨_,_,a3⟩,a4,a5⟩,fun x hx=>?_,q hz1⟩;have hx':s1.heap.objs.size<=x:=by
    simp only [List.mem_cons,List.not_mem_nil,or_false] at hx;rcases hx with rfl | rfl | rfl | rfl | rfl<;>simp
   obtain ⟨f0,f1,f2,f3,f4,f5⟩:=I1.fpOk (H':=H1) hx' (I1.hok.fresh hx');exact ⟨f0,f1,f2,f3,f4,f5⟩
end
end L2
namespace DL
open PySem PySem.Spec PyProof.Rows L2
section
variable {X:Cx} {elts:List Expr} {n:Nat} {tpos:Pos}
noncomputable def gC:W->Option (List PyData)
 | .d (.list xs)=>some xs
 | .d (.tuple xs)=>some xs
 | _=>none
noncomputable def mD (xs ys:List PyData):List PyData:=List.zipWith (fun x y=>.tuple [x,y]) xs ys
def dB6 (t:DTA):DTI:=fun δ h Q=>t δ h fun ws h1=>∃ u w xs ys,ws=[u,w]/\gC u=some xs/\gC w=some ys/\Q (mD xs ys) none h1
noncomputable def aX9:W->Bool
 | .d (.tuple _)=>true
 | _=>false
def hX {K:Frag} {A μ:List Addr} {H:Hp} {u:W} {v:V} {xs:List PyData} (e:gC u=some xs) (r:RepW K A μ H u v):∃ p vs,v=.ref p/\SqB K (aX9 u) H p vs/\Reps K A H xs vs:=by
 unfold gC at e;split at e
 ·cases e;have z:Rep K A H (.list xs) v:=r;rw [Rep] at z;obtain ⟨p,vs,rfl,la,rr⟩:=z;exact ⟨p,vs,rfl,la.sq,rr⟩
 ·cases e;obtain ⟨p,vs,rfl,ta,rr⟩:=bF (h:=[]) r rfl;exact ⟨p,vs,rfl,ta.sq,rr⟩
 ·cases e
def bW1 {K:Frag} {A μ:List Addr} {H:Hp} {h:aA} {u w:W} {p q:Addr} {xs ys:List PyData} (R:HeapRep K A μ h H) (e1:gC u=some xs) (e2:gC w=some ys) (r1:RepW K A μ H u (.ref p)) (r2:RepW K A μ H w (.ref q)) :
  aU9 K A μ H (Itz K (aX9 u) (aX9 w) p q) (mD xs ys) none:=fun A' μ' H' h' y R' _=>by
 obtain ⟨p',vs,ep,sq1,rr1⟩:=hX e1 (r1.ext y R.sub);obtain ⟨q',ws,eq,sq2,rr2⟩:=hX e2 (r2.ext y R.sub);cases ep;cases eq;have l1:=rr1.length;have l2:=rr2.length;refine ⟨fun i z ez=>?_,fun i hi=>⟨vs,ws,sq1,sq2,?_⟩⟩
 ·unfold mD at ez;rw [List.getElem?_zipWith] at ez;have:∃ x y,xs[i]?=some x/\ys[i]?=some y/\z=.tuple [x,y]:=by
   cases h1:xs[i]?<;>cases h2:ys[i]?<;>rw [h1,h2] at ez<;>cases ez;exact ⟨_,_,rfl,rfl,rfl⟩
  obtain ⟨x,y,ex,ey,rfl⟩:=this;obtain ⟨vx,hvx,rx⟩:=rr1.get ex;obtain ⟨vy,hvy,ry⟩:=rr2.get ey;refine ⟨⟨vs,ws,vx,vy,sq1,sq2,hvx,hvy⟩,fun v H2 hy=>?_⟩;obtain ⟨a,x',y',rfl,ha,rfl,g1,g2⟩:=hy;have c1:=g1 vs sq1;have c2:=g2 ws sq2;rw [hvx] at c1;rw [hvy] at c2;cases c1;cases c2;refine ⟨bB ha,R'.fresh ha,dD R' ha ?_⟩;rw [Reps];exact ⟨_,_,rfl,rx,.one ry⟩
 ·unfold mD at hi;rw [List.length_zipWith] at hi;omega
def bW2 {a b:Expr} {t:DTA} {p pos:Pos} (hm:X.mg "zip"=none) (ha:DA X [a,b] t) (hg:Gl X "zip") (hs:starEach [a,b] X.env=[(false,eval a X.env),(false,eval b X.env)]) (hs2:starEach [b] X.env=[(false,eval b X.env)]) :
  DI X (.Tuple elts n tpos) (.Call (.Name "zip" p) [a,b] [] pos) (dB6 t) :=
 gZ (bW0 hg hm ha hs hs2) fun σ H R q=>by
  obtain ⟨δ,h,A,μ,k,Rr,q,c⟩:=q;refine ⟨δ,h,A,μ,_,Rr,q,fun ws h1 vs H1 A1 μ1 q1 x1 R1 r1=>?_⟩;obtain ⟨u,w,xs,ys,rfl,e1,e2,q1⟩:=q1;obtain ⟨v,r,rfl,rv,r2⟩:=r1;obtain ⟨v',rfl,rv'⟩:=cV r2;obtain ⟨p,vs,rfl,sq1,rr1⟩:=hX e1 rv;obtain ⟨q,ws,rfl,sq2,rr2⟩:=hX e2 rv';refine ⟨p,q,_,_,vs,ws,rfl,sq1,sq2,fun hz=>c _ _ h1 _ H1 A1 μ1 q1 x1 R1 ?_ trivial (bW1 R1 e1 e2 rv rv')⟩;unfold mD;rw [List.length_zipWith];have l1:=rr1.length;omega
end
end DL
namespace ST
open PySem PySem.Spec PyProof.Rows
def Ris (xs:Array Nat):Prop:=xs.toList.Pairwise (· < ·)
def free (t:SetTable) (j:Nat):Prop:=t.place[SetTable.below t.place j]?≠some j
def bK (by_:Bool) (t:SetTable):Prop:=Ris t.place/\(by_=false->t.led=true)
noncomputable def dB7:Value->Int
 | .int k _=>k
 | _=>0
section
variable {prog:Program} {w:World} {A:Around} {E:Value->Shared->Prop} {s:Shared}
abbrev txt (w:World):Bool:=w.params.followText "set-order"
structure Parts (prog:Program) (w:World) (o:Obj) (es:Array (Int×Value)) (ep:Nat) (t:SetTable) (ks:List Int):Prop where
 ex:o.ExactSet
 dat:o.data=.set es ep t
 el:ElemsOf (intKind prog w) es.toList
 ks:(es.toList.map fun e=>dB7 e.2).Perm ks
 few:es.size < scanBound
 fit:t.fits es.size=true
 good:bK (txt w) t
end
section
variable {prog:Program} {w:World} {A:Around} {E:Value->Shared->Prop} {s:Shared} {R:Result->Shared->Prop}
noncomputable def dd (ns:List Int):List Int:=ns.foldl step_dedup []
end
section
variable {prog:Program} {w:World} {A:Around} {E:Value->Shared->Prop} {s:Shared} {o:Obj} {es:Array (Int×Value)} {ep:Nat} {t:SetTable} {ks:List Int} {a:Addr}
end
section
variable {prog:Program} {w:World} {A:Around} {E:Value->Shared->Prop} {s:Shared} {o:Obj} {es:Array (Int×Value)} {ep:Nat} {t:SetTable} {ks:List Int} {a:Addr}
end
section
variable {prog:Program} {w:World} {A:Around} {E:Value->Shared->Prop} {s:Shared} {o:Obj} {es:Array (Int×Value)} {ep:Nat} {t:SetTable} {ks:List Int} {a:Addr}
end
end ST
namespace L2
open PySem PySem.Spec PyProof.Rows ST
section
variable {X:Cx}
end
end L2
namespace ST
open PySem PySem.Spec PyProof.Rows
section
variable {prog:Program} {w:World} {A:Around} {E:Value->Shared->Prop} {s:Shared}
end
section
variable {prog:Program} {w:World} {A:Around} {E:Value->Shared->Prop} {s:Shared}
end
end ST
namespace L2
open PySem PySem.Spec PyProof.Rows ST
section
variable {X:Cx}
end
end L2
namespace PySem
open PySem.Spec PyProof.Rows
section
variable {prog:Program} {w:World} {A:Around} {E:Value->Shared->Prop} {s:Shared}
end
section
variable {prog:Program} {w:World} {A:Around} {E:Value->Shared->Prop} {s:Shared} {R:Result->Shared->Prop} {b c:Bool} {z TI TO i1 i2 l1 l2 S lo:Addr} {xs ys:Array Value} {as bs:List Addr} {cnt:Nat}
end
section
variable {prog:Program} {w:World} {A:Around} {E:Value->Shared->Prop} {s:Shared} {R:Result->Shared->Prop} {b c:Bool} {z TI TO i1 i2 l1 l2 S lo:Addr} {xs ys:Array Value}
end
end PySem
namespace L2
open PySem PySem.Spec PyProof.Rows ST
section
variable {X:Cx} {pins:List (Addr×Obj)} {σ:St} {H:Hp} {s:Shared} {h':Heap} {news:List (Addr×HO)}
end
end L2
namespace DL
open PySem PySem.Spec PyProof.Rows L2 ST
noncomputable def wV:List PyData->Option (List Int)
 | []=>some []
 | .int i::r=>(wV r).map (i::·)
 | _=>none
section
variable {K:Frag} {A μ:List Addr} {H H':Hp} {h:aA}
end
section
variable {X:Cx}
end
end DL
namespace PySem
open PySem.Spec PyProof.Rows
def SqAt.ob {b:Bool} {h:Heap} {l:Addr} {xs:Array Value} (x:SqAt b h l xs):∃ o,h.get? l=some o:=by cases b<;>exact ⟨_,x.choose_spec.1⟩
def ItAt.ob {b:Bool} {h:Heap} {it l:Addr} {i:Nat} (x:ItAt b h it l i):∃ o,h.get? it=some o:=by cases b<;>exact ⟨_,x.choose_spec.1⟩
def aI1 (b:Bool) (l:Addr) (xs:Array Value):Meets (Builtin.«enumerate.__new__» ⟨[.type "enumerate",.ref l],[]⟩) fun _ R s=>SqAt b s.heap l xs /\
  R (.ok (.ret (.ref (s.heap.push (jV b l)).objs.size))) { s with heap:=(s.heap.push (jV b l)).push { cls:=.type "enumerate",data:=.fields #[.none,.bool false,.ref s.heap.objs.size,rawInt 0,.none,.none] } }:=by
 refine Meets.of_wp fun prog w A R s h=>?_;obtain ⟨h1,h⟩:=h;obtain ⟨o,ho⟩:=h1.ob;obtain ⟨hp,g,d,tk,os⟩:=s;have hsub:=sub_enumerate
 wp_walk using AutoSeq1.wpAny_loadPart' ho
 refine wpAny_stack_any fun st=>wpAny_pure ?_;split
 ·rename_i c _ _ _ _ _;cases (c==Value.type "enumerate")
  ·wp_walk using AutoSeq1.wpAny_loadPart' ho,fK h1
   exact ⟨_,rfl,h⟩
  ·wp_walk using AutoSeq1.wpAny_loadPart' ho,fK h1
   exact ⟨_,rfl,h⟩
 ·wp_walk using AutoSeq1.wpAny_loadPart' ho,fK h1
  exact ⟨_,rfl,h⟩
section
variable {prog:Program} {w:World} {A:Around} {E:Value->Shared->Prop} {s:Shared}
def aY0 {b:Bool} {e it l:Addr} {i:Nat} {items:Array Value} {x old:Value} {Q:Option Value->Shared->Prop}
  (he:IsEnum s.heap e it i old) (hit:ItAt b s.heap it l i) (hl:SqAt b s.heap l items) (hx:items[i]?=some x) (hne:e≠it)
  (hQ:∀ h',IsEnumOut h' e it ((i:Int)+1) x s.heap.objs.size->ItAt b h' it l (i+1)->h'.get? s.heap.objs.size=some { cls:=.type "tuple",data:=.seq #[.int i s.toks,x] }->h'.objs.size=s.heap.objs.size+1 ->
   (∀ c o,c≠e->c≠it->s.heap.get? c=some o->h'.get? c=some o)->Q (some (.ref s.heap.objs.size)) { s with heap:=h',toks:=s.toks+1 }):wpAny (model prog w) A (pyNext (.ref e)) Q E s:=by
 have hT:s.TypeIs (.ref e) "enumerate":=⟨_,he,rfl⟩;have ne':∀ {h1 h2:Heap},Heap.SameBut e h1 h2->∀ o,h1.get? it=some o->h2.get? it=some o:=fun sb o q=>(sb.2 _ hne.symm).trans q;unfold pyNext;refine wpAny_bind (wpAny_attempt (wpAny_callSpecial?_slot (name:=Str.ofString "__next__") hT F.slot_enumerate_next (wpAny_call_entry F.slot_enumerate_next hT F.entry_enumerate_next ?_ (F.args_enumerate_next_1 _))));unfold Builtin.«enumerate.__next__»;refine wpAny_bind (wpAny_pure (a:=(Value.ref e,[])) (wpAny_bind (wpAny_field he rfl (x:=.ref it) rfl (wpAny_bind (fB hit hl hx fun H1 it1 e1=>?_)))));have he1:IsEnum H1 e it i old:=(e1.2 _ hne).trans he;refine wpAny_bind (wpAny_field he1 rfl (x:=rawInt i) rfl ?_);dsimp only [rawInt];refine wpAny_bind (wpAny_field he1 rfl (x:=.none) rfl ?_);rw [if_pos (by rfl)];refine wpAny_bind (wpAny_mkInt ?_);refine wpAny_bind (wpAny_setField_rec he1 (by simp) fun H2 he2 s2=>wpAny_bind (wpAny_setField_rec (s:={ s with heap:=H2,toks:=s.toks+1 }) he2 (by simp) fun H3 he3 s3=>?_));have he3':IsEnum H3 e it ((i:Int)+1) old:=he3;have z3:H3.objs.size=s.heap.objs.size:=by
  have q2:H2.objs.size=H1.objs.size:=s2.1;have q3:H3.objs.size=H2.objs.size:=s3.1;rw [q3,q2];exact e1.1
 refine wpAny_bind (wpAny_newTuple (items:=[.int i s.toks,x]) ?_);have he4:IsEnum (H3.push { cls:=.type "tuple",data:=.seq #[.int i s.toks,x] }) e it ((i:Int)+1) old:=Heap.get?_push_of_some _ he3';have g4:(H3.push { cls:=.type "tuple",data:=.seq #[.int i s.toks,x] }).get? s.heap.objs.size=some { cls:=.type "tuple",data:=.seq #[.int i s.toks,x] }:=by rw [<- z3];exact Heap.get?_push_size _ rfl
 have z4:(H3.push { cls:=.type "tuple",data:=.seq #[.int i s.toks,x] }).objs.size=s.heap.objs.size+1:=by rw [Heap.size_push,z3]
 have k4:∀ c o,c≠e->c≠it->s.heap.get? c=some o->(H3.push { cls:=.type "tuple",data:=.seq #[.int i s.toks,x] }).get? c=some o:=fun c o n1 n2 q=>Heap.get?_push_of_some _ ((s3.2 _ n1).trans ((s2.2 _ n1).trans ((e1.2 _ n2).trans q)));have it4:ItAt b (H3.push { cls:=.type "tuple",data:=.seq #[.int i s.toks,x] }) it l (i+1):=it1.keep fun o q=>Heap.get?_push_of_some _ (ne' s3 o (ne' s2 o q));refine wpAny_bind ?_;unfold Builtin.SmallTypes.ownedTupleIsFree;refine wpAny_bind (wpAny_field he4 rfl (x:=.none) rfl (wpAny_pure ?_));rw [if_pos rfl];have el:s.heap.objs.size≠e:=Nat.ne_of_gt (Heap.lt_size he);refine wpAny_bind (wpAny_rule (wpAny_bind (wpAny_field he4 rfl (x:=old) rfl (wpAny_bind (wpAny_setField_rec (s:={ s with heap:=H3.push { cls:=.type "tuple",data:=.seq #[.int i s.toks,x] },toks:=s.toks+1 }) he4 (by simp) fun H5 he5 s5=>wpAny_bind ?_)))));unfold Builtin.SmallTypes.ownedTupleHandOut;rw [z3];refine wpAny_bind (wpAny_setField_rec (s:={ s with heap:=H5,toks:=s.toks+1 }) he5 (by simp) fun H6 he6 s6=>wpAny_setField_rec (s:={ s with heap:=H6,toks:=s.toks+1 }) he6 (by simp) fun H7 he7 s7=>wpAny_bind (wpAny_letGo (wpAny_pure ⟨_,rfl,wpAny_pure (hQ H7 he7 ?_ ?_ ?_ fun c o n1 n2 q=>?_)⟩)))
 ·exact it4.keep fun o q=>ne' s7 o (ne' s6 o (ne' s5 o q))
 ·exact (s7.2 _ el).trans ((s6.2 _ el).trans ((s5.2 _ el).trans g4))
 ·have q5:H5.objs.size=_:=s5.1;have q6:H6.objs.size=H5.objs.size:=s6.1;have q7:H7.objs.size=H6.objs.size:=s7.1;rw [q7,q6,q5];exact z4
 ·exact (s7.2 _ n1).trans ((s6.2 _ n1).trans ((s5.2 _ n1).trans (k4 c o n1 n2 q)))
def bW3 {b:Bool} {e it l:Addr} {i:Nat} {items:Array Value} {old:Value} {Q:Option Value->Shared->Prop} (hh:A.handled=none) (he:IsEnum s.heap e it i old) (hit:ItAt b s.heap it l i) (hl:SqAt b s.heap l items) (hx:items[i]?=none)
  (hQ:∀ h',(∀ c o,c≠it->s.heap.get? c=some o->h'.get? c=some o)->Q none { s with heap:=h' }):wpAny (model prog w) A (pyNext (.ref e)) Q E s:=by
 have hT:s.TypeIs (.ref e) "enumerate":=⟨_,he,rfl⟩;unfold pyNext;refine wpAny_bind (wpAny_attempt (wpAny_callSpecial?_slot (name:=Str.ofString "__next__") hT F.slot_enumerate_next (wpAny_call_entry F.slot_enumerate_next hT F.entry_enumerate_next ?_ (F.args_enumerate_next_1 _))));unfold Builtin.«enumerate.__next__»;refine wpAny_bind (wpAny_pure (a:=(Value.ref e,[])) (wpAny_bind (wpAny_field he rfl (x:=.ref it) rfl (wpAny_bind (iP (A:=A.in1) hh hit hl hx fun H1 x k1 ⟨o,ho,hc⟩=>?_)))));exact wpAny_bind (wpAny_isInstance ⟨o,ho,hc⟩ isSubtype_stop (wpAny_pure (hQ H1 k1)))
end
end PySem
namespace L2
open PySem PySem.Spec PyProof.Rows ST
def Ite (K:Frag) (b:Bool) (l:Addr):It :=
 ⟨fun i H=>∃ xs x,SqB K b H l xs/\xs[i]?=some x,
  fun i H v H'=>∃ p x,v=.ref p/\H p=none/\H'=upd H p (.tup [.int i,x])/\∀ xs,SqB K b H l xs->xs[i]?=some x,
  fun i H=>∃ xs,SqB K b H l xs/\xs.length<=i⟩
def ESt (b:Bool) (e it l:Addr) (i:Nat) (h:Heap):Prop:=(∃ old,IsEnum h e it i old)/\ItAt b h it l i
def zL {P:Program} {w:World} {K:Frag} {elts:List Expr} {n:Nat} {pos:Pos} (b:Bool) (e it l:Addr) (hne:e≠it):Turn P w K (.Tuple elts n pos) (Ite K b l) [e,it] e (ESt b e it l) where
 mem:=by simp
 obj:=fun i h st a ha=>by
  obtain ⟨⟨old,s1⟩,s2⟩:=st;simp only [List.mem_cons,List.not_mem_nil,or_false] at ha;rcases ha with rfl | rfl
  ·exact ⟨_,s1,fun v z=>by cases z⟩
  ·cases b<;>· obtain ⟨o,e,_,d⟩:=s2;exact ⟨o,e,fun v z=>by rw [d] at z;cases z⟩
 keep:=fun i h h' st k=>by
  obtain ⟨⟨old,s1⟩,s2⟩:=st;exact ⟨⟨old,k e (by simp) _ s1⟩,s2.keep fun o q=>k it (by simp) o q⟩
 item:=by
  intro X hP hw hK hc i pins s σ H E I hf st hg;subst hP hw hK;obtain ⟨xs,x,hq,hx⟩:=hg;obtain ⟨⟨old,s1⟩,s2⟩:=st;obtain ⟨its,rv,p1,hz⟩:=I.sqB hq;obtain ⟨u,hu,ru⟩:=rv.get hx;refine aY0 s1 s2 p1 (x:=u) (by simpa using hu) hne fun h' a1 a2 a3 a4 a5=>⟨_,rfl,wpAny_letOwnedTupleGo_enum (s:={ s with heap:=h',toks:=s.toks+1 }) a1 fun h'' b1 b2=>?_⟩;have nz:∀ {a o},s.heap.get? a=some o->a≠s.heap.objs.size:=fun q=>Nat.ne_of_lt (Heap.lt_size q);have I1:Inv X pins σ (upd H s.heap.objs.size (.tup [.int i,x])) { s with heap:=s.heap.push { cls:=.type "tuple",data:=.seq #[.int i s.toks,u] },toks:=s.toks+1 } :=
   I.laid (t':=s.toks+1) (fun b o q=>Heap.get?_push_of_some _ q) (Nat.le_refl _) (show ObjOk X.prog X.w _ _ _ (.tup [.int i,x]) from ⟨by simp [sizeLine_eq],[.int i s.toks,u],.cons ⟨_,rfl⟩ (.cons ru .nil),IsTupD.new _ _⟩)
  have ob:∀ a∈[e,it],∃ o,s.heap.get? a=some o:=fun a ha=>by
   simp only [List.mem_cons,List.not_mem_nil,or_false] at ha;rcases ha with rfl | rfl
   ·exact ⟨_,s1⟩
   ·exact s2.ob
  have un:∀ a∈[e,it],upd H s.heap.objs.size (.tup [.int i,x]) a=none:=fun a ha=>by
   obtain ⟨o,q⟩:=ob a ha;rw [aF (nz q)];exact (hf a ha).1
  have hf1:∀ a∈[e,it],iJ X pins (upd H s.heap.objs.size (.tup [.int i,x])) a:=fun a ha=>⟨un a ha,(hf a ha).2⟩;have I2:Inv X pins σ (upd H s.heap.objs.size (.tup [.int i,x])) { s with heap:=h'',toks:=s.toks+1 }:=Inv.turnedL (s:={ s with heap:=s.heap.push { cls:=.type "tuple",data:=.seq #[.int i s.toks,u] },toks:=s.toks+1 }) I1 (t':=s.toks+1) (ch:=[e,it]) (fun a o ha q=>by
   simp only [List.mem_cons,List.not_mem_nil,or_false,not_or] at ha;refine (b2.2 a ha.1).trans ?_
   by_cases hs:a=s.heap.objs.size
   ·subst hs;have q':(s.heap.push { cls:=.type "tuple",data:=.seq #[.int i s.toks,u] }).get? s.heap.objs.size=some o:=q;rw [Heap.get?_push_size _ rfl] at q';cases q';exact a3
   ·have q':(s.heap.push { cls:=.type "tuple",data:=.seq #[.int i s.toks,u] }).get? a=some o:=q;rw [Heap.get?_push_ne _ _ _ hs] at q';exact a5 a o ha.1 ha.2 q') hf1
  refine ⟨.ref s.heap.objs.size,_,I2,rfl,⟨_,x,rfl,I.hok.fresh (Nat.le_refl _),rfl,fun zs hz=>?_⟩,⟨⟨u,?_⟩,?_⟩,un⟩
  ·rw [I.sqB_inj hz hq];exact hx
  ·have:((i+1:Nat):Int)=(i:Int)+1:=by omega
   unfold IsEnum;rw [this];exact b1
  ·exact a2.keep fun o q=>(b2.2 _ hne.symm).trans q
 done:=by
  intro X hP hw hK hc i pins s σ H E I hf st hg;subst hP hw hK;obtain ⟨xs,hq,hl⟩:=hg;obtain ⟨⟨old,s1⟩,s2⟩:=st;obtain ⟨its,rv,p1,hz⟩:=I.sqB hq;have l1:=rv.length;refine bW3 (I.ok.hd hc) s1 s2 p1 (by simp;omega) fun h' kk=>⟨rfl,?_⟩;exact I.turnedL (t':=s.toks) (ch:=[e,it]) (fun a o ha q=>by
   simp only [List.mem_cons,List.not_mem_nil,or_false,not_or] at ha;exact kk a o ha.2 q) hf
 self:=fun _ _ s _ _ st h=>by
  obtain ⟨⟨old,s1⟩,s2⟩:=st;have hT:s.TypeIs (.ref e) "enumerate":=⟨_,s1,rfl⟩;refine wpAny_pyIter_slot hT PySem.F.slot_enumerate_iter (wpAny_call_entry PySem.F.slot_enumerate_iter hT PySem.F.entry_enumerate_iter ?_ (PySem.F.args_enumerate_iter_1 _));show wpAny _ _ (ret (.ref e)) _ _ s;exact wpAny_pure ⟨_,rfl,"enumerate",_,hT,PySem.F.slot_enumerate_next.lookup,h⟩
section
variable {X:Cx} {elts:List Expr} {n:Nat} {tpos:Pos}
def cM1 (K:Frag) (t:TA):TI:=fun σ H R=>t σ H fun vs H1=>∃ p b xs,vs=[.ref p]/\SqB K b H1 p xs/\(xs.length<=sizeLine->R (Ite K b p) H1)
def aY1 {a:Expr} {ta:TA} {p pos:Pos} (hg:Gl X "enumerate") (hm:X.mg "enumerate"=none) (ha:PA X [a] ta) (hs:starEach [a] X.env=[(false,eval a X.env)]) :
  PI X (.Tuple elts n tpos) (.Call (.Name "enumerate" p) [a] [] pos) (cM1 X.K ta):=by
 intro pins s σ H R I h;refine Call_ (iI (u:=.type "enumerate") I hg hm (by decide +kernel) (PyProof.Rows.callWith_type1 (thn (ha pos pins s σ H _ I h) fun us s1 ⟨vs,H1,I1,r1,q1⟩=>?_) hs rfl));obtain ⟨l,b,xs,e,hq,q⟩:=q1;subst e;obtain ⟨u,rfl,ru⟩:=iU r1;cases ru;obtain ⟨its,rv,p1,hz⟩:=I1.sqB hq;refine callType_new PySem.F.called_enumerate (by decide) (PySem.F.typeCall_enumerate_1 _) (PySem.F.newCall_enumerate_1 _) (fun obj=>PySem.F.args_object_init_2 obj _) PySem.F.entry_enumerate_new (aI1 b l its.toArray) ⟨p1,⟨_,Heap.get?_push_size _ rfl,rfl⟩,?_⟩;have z1:(s1.heap.push (jV b l)).objs.size=s1.heap.objs.size+1:=by rw [Heap.size_push]
 have ge:((s1.heap.push (jV b l)).push { cls:=.type "enumerate",data:=.fields #[.none,.bool false,.ref s1.heap.objs.size,rawInt 0,.none,.none] }).get? (s1.heap.push (jV b l)).objs.size=some { cls:=.type "enumerate",data:=.fields #[.none,.bool false,.ref s1.heap.objs.size,rawInt 0,.none,.none] }:=Heap.get?_push_size _ rfl;have gi:((s1.heap.push (jV b l)).push { cls:=.type "enumerate",data:=.fields #[.none,.bool false,.ref s1.heap.objs.size,rawInt 0,.none,.none] }).get? s1.heap.objs.size=some (jV b l):=Heap.get?_push_of_some _ (Heap.get?_push_size _ rfl);have I2:Inv X pins σ H1 { s1 with heap:=(s1.heap.push (jV b l)).push { cls:=.type "enumerate",data:=.fields #[.none,.bool false,.ref s1.heap.objs.size,rawInt 0,.none,.none] } }:=I1.kept (t':=s1.toks) fun c o e=>Heap.get?_push_of_some _ (Heap.get?_push_of_some _ e);have hne:(s1.heap.push (jV b l)).objs.size≠s1.heap.objs.size:=by rw [z1];exact Nat.succ_ne_self _
 refine wpAny_pyIter_enum (s:={ s1 with heap:=_ }) ge ⟨_,_,_,_,H1,rfl,I2,zL b _ s1.heap.objs.size l hne,⟨⟨.none,ge⟩,ItAt.new gi⟩,fun x hx=>?_,q hz⟩;have hx':s1.heap.objs.size<=x:=by
  simp only [List.mem_cons,List.not_mem_nil,or_false] at hx;rcases hx with rfl | rfl
  ·rw [z1];exact Nat.le_succ _
  ·exact Nat.le_refl _
 obtain ⟨f0,f1,f2,f3,f4,f5⟩:=I1.fpOk (H':=H1) hx' (I1.hok.fresh hx');exact ⟨f0,f1,f2,f3,f4,f5⟩
end
end L2
namespace DL
open PySem PySem.Spec PyProof.Rows L2 ST
section
variable {X:Cx} {elts:List Expr} {n:Nat} {tpos:Pos}
noncomputable def iF (k:Nat):List PyData->List PyData
 | []=>[]
 | x::r=>.tuple [.int k,x]::iF (k+1) r
noncomputable def cW (xs:List PyData):List PyData:=iF 0 xs
theorem pI:∀ {xs:List PyData} {k i:Nat} {z:PyData},(iF k xs)[i]?=some z->∃ x,xs[i]?=some x/\z=.tuple [.int (k+i:Nat),x]
 | [],k,i,z,e=>by simp [iF] at e
 | x::r,k,0,z,e=>by simp [iF] at e;exact ⟨x,rfl,by rw [<- e];rfl⟩
 | x::r,k,i+1,z,e=>by
  rw [iF] at e;obtain ⟨y,e1,e2⟩:=pI (xs:=r) (k:=k+1) (i:=i) (by simpa using e);exact ⟨y,by simpa using e1,by rw [e2,show k+1+i=k+(i+1) by omega]⟩
theorem jW:∀ (xs:List PyData) (k:Nat),(iF k xs).length=xs.length
 | [],_=>rfl
 | x::r,k=>by rw [iF,List.length_cons,jW,List.length_cons]
def cM2 (t:DTA):DTI:=fun δ h Q=>t δ h fun ws h1=>∃ u xs,ws=[u]/\gC u=some xs/\Q (cW xs) none h1
def bW4 {K:Frag} {A μ:List Addr} {H:Hp} {h:aA} {u:W} {p:Addr} {xs:List PyData} (R:HeapRep K A μ h H) (e1:gC u=some xs) (r1:RepW K A μ H u (.ref p)) :
  aU9 K A μ H (Ite K (aX9 u) p) (cW xs) none:=fun A' μ' H' h' y R' _=>by
 obtain ⟨p',vs,ep,sq1,rr1⟩:=hX e1 (r1.ext y R.sub);cases ep;have l1:=rr1.length;refine ⟨fun i z ez=>?_,fun i hi=>⟨vs,sq1,?_⟩⟩
 ·obtain ⟨x,ex,rfl⟩:=pI ez;obtain ⟨vx,hvx,rx⟩:=rr1.get ex;refine ⟨⟨vs,vx,sq1,hvx⟩,fun v H2 hy=>?_⟩;obtain ⟨a,x',rfl,ha,rfl,g1⟩:=hy;have c1:=g1 vs sq1;rw [hvx] at c1;cases c1;refine ⟨bB ha,R'.fresh ha,dD R' ha (.cons ?_ (.one rx))⟩;rw [Rep,Nat.zero_add]
 ·unfold cW at hi;rw [jW] at hi;omega
def aY2 {a:Expr} {t:DTA} {p pos:Pos} (hm:X.mg "enumerate"=none) (ha:DA X [a] t) (hg:Gl X "enumerate") (hs:starEach [a] X.env=[(false,eval a X.env)]) :
  DI X (.Tuple elts n tpos) (.Call (.Name "enumerate" p) [a] [] pos) (cM2 t) :=
 gZ (aY1 hg hm ha hs) fun σ H R q=>by
  obtain ⟨δ,h,A,μ,k,Rr,q,c⟩:=q;refine ⟨δ,h,A,μ,_,Rr,q,fun ws h1 vs H1 A1 μ1 q1 x1 R1 r1=>?_⟩;obtain ⟨u,xs,rfl,e1,q1⟩:=q1;obtain ⟨v,rfl,rv⟩:=cV r1;obtain ⟨p,vs,rfl,sq1,rr1⟩:=hX e1 rv;refine ⟨p,_,vs,rfl,sq1,fun hz=>c _ _ h1 _ H1 A1 μ1 q1 x1 R1 ?_ trivial (bW4 R1 e1 rv)⟩;unfold cW;rw [jW];have l1:=rr1.length;omega
end
end DL
namespace L2
open PySem PySem.Spec PyProof.Rows
section
variable {prog:Program} {w:World} {A:Around} {E:Value->Shared->Prop} {s:Shared}
end
end L2
namespace DL
open PySem PySem.Spec PyProof.Rows L2 ST
section
variable {X:Cx}
def zM {f:Nat->Bool} (bs:List Bool) (h:∀ i b,bs[i]?=some b->f i=b):(List.range bs.length).any f=bs.any id:=by
 rw [Bool.eq_iff_iff,List.any_eq_true,List.any_eq_true];constructor
 ·rintro ⟨i,hi,e⟩;have hi':i < bs.length:=by simpa using hi
  rw [h i bs[i] (by simp [hi'])] at e;exact ⟨_,List.getElem_mem hi',e⟩
 ·rintro ⟨b,hb,e⟩;obtain ⟨i,hi,rfl⟩:=List.mem_iff_getElem.mp hb;exact ⟨i,by simpa using hi,by rw [h i bs[i] (by simp [hi])];exact e⟩
def zN (hc:X.calm=true):bZ X (.builtin "any") (fun xs H Q=>∃ (p:Addr) (bs:List Bool),xs=[.ref p]/\SqL X.K H p (bs.map V.bl)/\Q (.bl (bs.any id)) H):=by
 intro pins s σ H xs us Q I r h;obtain ⟨p,bs,rfl,sq,q⟩:=h;obtain ⟨u,rfl,ru⟩:=iU r;cases ru;obtain ⟨its,rv,pl,hz⟩:=I.list sq;have hl:=rv.length;rw [List.length_map] at hl;have hlt:p < s.heap.objs.size:=by obtain ⟨o,n,e,_⟩:=pl;exact Heap.lt_size e
 refine call_any_walk (wpAny_pyIter_list pl.isList ⟨s.heap.objs.size,_,_,its.toArray.size,_,_,fun i=>(bs[i]?).getD true,rfl,Walks.list (A:=X.A.in1) (I.ok.hd hc) s.heap.objs.size p (Nat.ne_of_lt hlt) its.toArray,⟨⟨_,Heap.get?_push_size _ rfl,rfl,rfl⟩,?_⟩,fun i v s' Q' E' hP hQ=>?_,fun h' tk hk=>?_⟩)
 ·obtain ⟨o,ho,r⟩:=pl.isList;exact ⟨o,Heap.get?_push_of_some _ ho,r⟩
 ·have hi:i < its.length:=by
   have:=(Array.getElem?_eq_some_iff.mp hP).1
   simpa using this
  have eb:bs[i]?=some (bs[i]'(by omega)):=by simp
  obtain ⟨u',e1,e2⟩:=rv.get (i:=i) (x:=V.bl (bs[i]'(by omega))) (by rw [List.getElem?_map,eb];rfl);have e3:v=u':=by
   have hP':its[i]?=some v:=by simpa using hP
   rw [hP'] at e1;exact Option.some.inj e1
  subst e3;cases e2;dsimp only at hQ;rw [eb] at hQ;exact wpAny_truthy_bool hQ
 ·have e:(List.range its.toArray.size).any (fun i=>(bs[i]?).getD true)=bs.any id:=by
   have:=zM (f:=fun i=>(bs[i]?).getD true) bs (fun i b e=>by simp [e]);rw [List.size_toArray,<- hl];exact this
  refine ⟨.bl (bs.any id),H,I.kept fun b o eo=>hk b o ?_ (Heap.get?_push_of_some _ eo),by rw [e];rfl,q⟩;intro z;rw [List.mem_singleton.mp z] at eo;exact absurd (Heap.lt_size eo) (Nat.lt_irrefl _)
noncomputable def zO:List W->aA->Option (W×aA)
 | [w],h=>(match ref h w with
  | some (.list xs)=>(dJ xs).map fun bs=>(.d (.bool (bs.any id)),h)
  | _=>none)
 | _,_=>none
abbrev OfX (f:List W->aA->Option (W×aA)):DC:=fun ws h Q=>∃ r h',f ws h=some (r,h')/\Q r h'
def zP (hc:X.calm=true):bZ X (.builtin "any") (upC X.K (OfX zO)):=by
 intro pins s σ H xs us Q I r h;obtain ⟨ws,h,A,μ,k,R,rw',⟨rr,h',e,q⟩,c⟩:=h;unfold zO at e;split at e
 ·rename_i w h0;obtain ⟨v,rfl,rv⟩:=cV rw';split at e
  ·rename_i ys ey;obtain ⟨bs,eb,e2⟩:=Option.map_eq_some_iff.mp e;cases e2;obtain ⟨p,vs,rfl,sq,rr⟩:=bX R rv ey;have ev:=iM eb rr;subst ev;exact zN hc pins s σ H _ us Q I r ⟨p,bs,rfl,sq,c _ _ _ _ _ _ q .refl R bE⟩
  ·cases e
 ·cases e
end
end DL
namespace ST
open PySem PySem.Spec PyProof.Rows PySem.W
section
variable {prog:Program} {w:World} {A:Around} {E:Value->Shared->Prop} {s:Shared}
end
section
variable {prog:Program} {w:World} {A:Around} {E:Value->Shared->Prop} {s:Shared}
end
end ST
namespace L2
open PySem PySem.Spec PyProof.Rows ST
section
variable {X:Cx}
end
end L2
namespace L2
open PySem PySem.Spec PyProof.Rows
section
variable {X:Cx}
noncomputable def cM3:V->V->V->Hp->(Hp->Prop)->Prop:=fun o i v H Q=>bF7 o i v H Q\/∃ a k kvs,o=.ref a/\i=kV k/\H a=some (.dK kvs)/\kvs.length < sizeLine/\Q (upd H a (.dK (qG kvs k v)))
def cM4:bN1 X cM3:=by
 intro pins s σ H o i v ov iv u Q I ro ri rv h;rcases h with h | ⟨a,k,kvs,rfl,rfl,e,l,q⟩
 ·exact aE3 pins s σ H o i v ov iv u Q I ro ri rv h
 ·cases ro;obtain ⟨z,hd,vs,rel,dd⟩:=cJ3 I.hok e;have hz:vs.length<=sizeLine:=by rw [<- rel.length];exact z
  have hl:(qG kvs k v).length<=sizeLine:=by have:=rT kvs k v;omega
  refine wpAny_setItem_pairs (hsz:=hz) (rV ri) dd fun h' dd' hs=>⟨_,?_,q⟩;have he:∃ q,h'.get? a=some q:=let ⟨q,_,_,hq,_⟩:=dd';⟨q,hq⟩
  exact aS2 I (by rw [e];exact True.intro) hs he (bP4 hl hd (rel.put k rv) dd')
end
end L2
namespace DL
open PySem PySem.Spec PyProof.Rows L2 ST
variable {X:Cx} {e:Expr} {pos:Pos}
def cM5 (to ti:DTE):DTG:=fun v δ h Q=>to δ h fun o h1=>ti δ h1 fun i h2=>match o,i,v with
 | .c j,.d y,.d x=>(match h2[j]?,y with
  | some (.l xs),.int k=>(match ixN xs.length k with
   | some n=>Q δ (h2.set j (.l (xs.set n x)))
   | none=>False)
  | some (.k kvs),_=>(bJ y).isSome=true/\kvs.length < sizeLine/\Q δ (h2.set j (.k (jT kvs y x)))
  | _,_=>False)
 | _,_,_=>False
def aY3 {K:Frag} {A:List Addr} {H:Hp} {y:PyData} {v:V} {q:Key} (r:Rep K A H y v) (hk:bJ y=some q):v=kV q:=by
 cases y<;>first | (simp [bJ] at hk;done) | skip
 ·rw [Rep] at r;simp only [bJ,Option.some.injEq] at hk;subst hk;exact r
 ·rw [Rep] at r;simp only [bJ] at hk;rw [if_pos r.2] at hk;cases hk;exact r.1
theorem pJ {K:Frag} {A:List Addr} {H:Hp}:∀ {kvs:List (PyData×PyData)} {r:List (Key×V)},RepKs K A H kvs r->r.length=kvs.length
 | [],r,h=>by rw [repKs_nil.mp h];rfl
 | p::kvs,r,h=>by
  obtain ⟨q',r',rfl,h1,h3⟩:=repKs_cons.mp h;simp [pJ h3]
def aY4 {o i:Expr} {to ti:DTE} (ho:DE X o to) (hi:DE X i ti)
  (ha:∀ v,assign (.Subscript o i pos) X.env v=(do
   let ov <- holding [v] (eval o X.env)
   let iv <- holding [v,ov] (eval i X.env)
   standAt pos
   holding [v,ov,iv] (setItem ov iv v)
   release [v,ov,iv] []):=by intro _;rfl):DG X (.Subscript o i pos) (cM5 to ti):=lK (bN3 ho hi cM4 ha) fun v σ H Q q=>by
 obtain ⟨w,δ,h,A,μ,k,R,r,q,c⟩:=q;refine ⟨δ,h,A,μ,_,R,q,fun o h1 vo H1 A1 μ1 q1 x1 R1 r1=>?_⟩;refine ⟨δ,h1,A1,μ1,_,⟨R1,R.2.ext x1 R.1.sub⟩,q1,fun i h2 vi H2 A2 μ2 q2 x2 R2 r2=>?_⟩;have x12:=x1.trans x2;split at q2
 ·rename_i j y x;split at q2
  ·rename_i xs kk ex;split at q2
   ·rename_i n en;obtain ⟨a,ea,rfl⟩:=r1.ext x2 R1.sub;have ei:=bC r2;subst ei;obtain ⟨vs,hv,rr⟩:=R2.val j a xs ea ex;refine .inl ⟨a,vs,kk,n,rfl,rfl,hv,by rw [rr.length];exact en,?_⟩;have rx:Rep X.K A2 H2 x v:=r.ext x12 R.1.sub;have hm:=List.mem_of_getElem? ea;have y:=gX (A:=A2) (o:=.lst (vs.set n v)) hm hv;exact c _ _ _ _ A2 μ2 q2 (x12.trans y) ⟨iK R2 ea (rr.set rx n),(R.2.ext x12 R.1.sub).ext y R2.sub⟩
   ·exact q2.elim
  ·rename_i kvs ex;obtain ⟨hk,hl,q2⟩:=q2;obtain ⟨kq,hk⟩:=Option.isSome_iff_exists.mp hk;obtain ⟨a,ea,rfl⟩:=r1.ext x2 R1.sub;have ei:=aY3 (K:=X.K) (A:=A2) (H:=H2) r2 hk;subst ei;obtain ⟨vs,hv,rr⟩:=R2.vad j a kvs ea ex;refine .inr ⟨a,kq,vs,rfl,rfl,hv,by rw [pJ rr];exact hl,?_⟩;have rx:Rep X.K A2 H2 x v:=r.ext x12 R.1.sub;have hm:=List.mem_of_getElem? ea;have y:=gX (A:=A2) (o:=.dK (qG vs kq v)) hm hv;exact c _ _ _ _ A2 μ2 q2 (x12.trans y) ⟨rY R2 ea (zJ hk rx rr),(R.2.ext x12 R.1.sub).ext y R2.sub⟩
  ·exact q2.elim
 ·exact q2.elim
def cM6:DTE:=fun δ h Q=>Q (.c h.length) (h++[Cell.k []])
def aY5 {i:Nat} {x:Str} {pos' pos2:Pos} (hN:X.N.Nodup) (hi:X.N[i]?=some x) (hx:Loc X.env.scope x) (hs:swapsWith (.Dict [] [] pos2) (some (.Name x pos')) pos.line X.env=pure false)
  (hf:X.fn x=true\/X.env.scope.names.lookup x=some .local):DS X (.Assign [.Name x pos'] (.Dict [] [] pos2) pos) (yS cM6 (pC i)):=bH (lQ hN hi hx sQ hs hf) fun D σ H q=>by
 obtain ⟨δ,h,A,μ,E,R,q,L⟩:=q;intro p hp;have hl:μ.length=h.length:=R.1.len;have x:=cM (μ:=μ) (A:=A) (o:=.dK []) hp;exact L.nx _ _ _ _ (p::A) (μ++[p]) q x ⟨uY R.1 hp (repKs_nil.mpr rfl),(R.2.ext x R.1.sub).set i ⟨p,by rw [<- hl];simp,rfl⟩⟩
end DL
namespace DL
open PySem PySem.Spec PyProof.Rows L2 ST
section
variable {X:Cx}
def dB8 (to:DTE) (t:DTA):DTE:=fun δ h Q=>to δ h fun o h1=>match o with
 | .c j=>(match h1[j]? with
  | some (.l _)=>t δ h1 fun ws h2=>(match ws,h2[j]? with
   | [.d (.int i)],some (.l xs)=>∃ n x,ixN xs.length i=some n/\xs[n]?=some x/\-(2^63)<=i/\i < 2^63/\Q (.d x) (h2.set j (.l (xs.eraseIdx n)))
   | _,_=>False)
  | _=>False)
 | _=>False
theorem mE {K:Frag} {A:List Addr} {H:Hp}:∀ {xs:List PyData} {vs:List V} (n:Nat),Reps K A H xs vs->Reps K A H (xs.eraseIdx n) (vs.eraseIdx n)
 | [],vs,n,r=>by
  rw [Reps] at r;subst r;exact .nil
 | x::xs,vs,0,r=>by
  rw [Reps] at r;obtain ⟨v,vr,rfl,_,r⟩:=r;exact r
 | x::xs,vs,n+1,r=>by
  rw [Reps] at r;obtain ⟨v,vr,rfl,r1,r2⟩:=r;exact .cons r1 (mE n r2)
def bW5 {o e0:Expr} {es:List Expr} {to:DTE} {t:DTA} {apos cpos:Pos} (ho:DE X o to) (ha:DA X (e0::es) t)
  (hbase:autoParam (attributeBase o "pop" X.env (eval o X.env)=eval o X.env) ZR)
  (hfew:((backTo cpos (starEach (e0::es) X.env)).all (fun x=>!x.1)&&(backToKw cpos (keywordEach [] X.env)).all (fun x=>x.1.isSome)
   && decide ((e0::es).length+([]:List Keyword).length+(if ([]:List Keyword).isEmpty then 0 else 1) < 30))=true:=by rfl)
  (hline:autoParam ((apos.endLine==cpos.line)=true) ZR) (hs:autoParam (starEach (e0::es) X.env=(false,eval e0 X.env)::starEach es X.env) ZR) (hplain:autoParam ((backTo cpos (starEach es X.env)).any (·.1)=false) ZR) :
  DE X (.Call (.Attribute o "pop" apos) (e0::es) [] cpos) (dB8 to t):=aK (bF8 PySem.F.plainAttrs_list PySem.F.slot_list_pop PySem.F.type_list_pop aE5 ho ha hbase hfew hline hs hplain) fun σ H Q q=>by
 obtain ⟨δ,h,A,μ,k,R,q,c⟩:=q;refine ⟨δ,h,A,μ,_,R,q,fun o h1 vo H1 A1 μ1 q1 x1 R1 r1=>?_⟩;split at q1
 ·rename_i j;obtain ⟨a,ea,rfl⟩:=r1;split at q1
  rotate_left
  ·exact q1.elim
  rename_i xs1 ex1;obtain ⟨vs1,hv1,_⟩:=R1.val j a xs1 ea ex1;refine ⟨.inl ⟨rfl,_,SqL.of hv1⟩,δ,h1,A1,μ1,_,⟨R1,R.2.ext x1 R.1.sub⟩,q1,fun ws h2 vs H2 A2 μ2 q2 x2 R2 r2=>?_⟩;split at q2
  ·rename_i i xs ex;obtain ⟨n,x,e1,e2,i1,i2,q2⟩:=q2;obtain ⟨v,rfl,rv⟩:=cV r2;have ei:=bC rv;subst ei;have ea2:μ2[j]?=some a:=by
    obtain ⟨ν,e1,_⟩:=x2.pre;rw [e1,List.getElem?_append_left (List.getElem?_eq_some_iff.mp ea).1];exact ea
   obtain ⟨vs,hv,rr⟩:=R2.val j a xs ea2 ex;obtain ⟨y,ey,ry⟩:=rr.get e2;refine ⟨a,vs,i,n,y,rfl,rfl,hv,i1,i2,by rw [rr.length];exact (qA e1).1,ey,?_⟩;have hm:=List.mem_of_getElem? ea2;exact c _ _ _ _ A2 μ2 q2 ((x1.trans x2).trans (gX hm hv)) (iK R2 ea2 (mE n rr)) (ry.upd (R2.sub a hm))
  ·exact q2.elim
 ·exact q1.elim
def vD (l:Addr) (items:Array Value) (n:Nat) (dd:Option Addr) (sl:Array (Option Value)) (u:Tok) :
  Meets (Builtin.«tuple.__mul__» ⟨[.ref l,.int 1 u],[]⟩) (fun _ R s=>s.heap.get? l=some { cls:=.type "tuple",dict:=dd,data:=.seq items n,slots:=sl }/\R (.ok (.ret (.ref l))) s) :=
 .of_wp fun prog w A R s h=>by
  obtain ⟨hp,g,d,tk,os⟩:=s;obtain ⟨hl,h⟩:=h;have f2:=AutoSeq1.sub_tuple_tuple
  wp_walk
  exact ⟨_,rfl,h⟩
def aI2:OpR X (binaryOp .Mult) (fun x y H Q=>∃ l xs,x=.ref l/\y=.int 1/\SqT X.K H l xs/\Q (.ref l) H):=by
 intro pins s σ H x y v u Q I rx ry h;obtain ⟨l,xs,rfl,rfl,sq,q⟩:=h;cases rx;obtain ⟨t,rfl⟩:=ry;obtain ⟨its,r,p,hz0⟩:=I.tuple sq;obtain ⟨⟨cls,dd,data,sl⟩,ho,hc,n,hd⟩:=id p;simp only at hc hd;subst hc hd;refine wpAny_binaryOp_repeat_ref (T:="tuple") (U:="int") (by decide) ⟨_,ho,rfl⟩ (fun s'=>typeIs_int s' 1 t) gI PySem.F.fills_int_mul PySem.F.slot_int_rmul iE PySem.F.slot_int_index.lookup
  (call_meets PySem.F.slot_int_rmul (typeIs_int s 1 t) PySem.F.entry_int_rmul (PySem.F.args_int_rmul_2 _ _) (gJ 1 t l its.toArray n dd sl)
   ⟨ho,rfl,⟨_,ho,rfl⟩,call_meets PySem.F.slot_tuple_mul ⟨_,ho,rfl⟩ PySem.F.entry_tuple_mul (PySem.F.args_tuple_mul_2 _ _) (vD l its.toArray n dd sl t) ⟨ho,?_⟩⟩)
 exact ⟨.ref l,H,I,rfl,q⟩
noncomputable def bJ3:D2
 | .d (.tuple xs),.d (.int k),h,Q=>(k=1/\Q (.d (.tuple xs)) h)\/((xs≠[]/\1 < k/\k < 2^63/\xs.length*k.toNat<=sizeLine)/\Q (.d (.tuple (List.replicate k.toNat xs).flatten)) h)
 | _,_,_,_=>False
def aI3:OpR X (binaryOp .Mult) (upR X.K bJ3):=by
 intro pins s σ H x y v u Q I rx ry h;obtain ⟨a,b,h,A,μ,k,R,ra,rb,q,c⟩:=h;unfold bJ3 at q;split at q
 ·rename_i xs n;rcases q with ⟨e,q⟩ | q
  ·obtain ⟨p,vs,rfl,ta,sa⟩:=bF (h:=h) ra rfl;have eb:=bC rb;subst eb;subst e;exact aI2 pins s σ H _ _ v u Q I rx ry ⟨p,vs,rfl,rfl,ta.sq,c _ _ _ _ _ _ q .refl R ra⟩
  ·exact aH6 pins s σ H x y v u Q I rx ry ⟨.d (.tuple xs),.d (.int n),h,A,μ,k,R,ra,rb,q,c⟩
 ·exact q.elim
end
end DL
namespace L2
open PySem PySem.Spec PyProof.Rows
section
variable {X:Cx} {CX:CXT} {k:Nat} {f C:Addr} {fd:FuncData} {ps:List Str} {sp:Sp} {dvs:List V} {ds:List Value} {E:XK} {m:Str} {pos apos:Pos} {e o:Expr} {es:List Expr} {ta:TE} {t:TA}
end
end L2
namespace DL
open PySem PySem.Spec PyProof.Rows L2 ST
section
variable {K:Frag} {A A' μ μ':List Addr} {H H':Hp}
def IsOk.at {is:List Nat} {vs:List V}:IsOk μ is vs->∀ {k:Int} {m:Nat},atI is k=some m->∃ a,atI vs k=some (V.ref a)/\μ[m]?=some a:=by
 have len:∀ {is:List Nat} {vs:List V},IsOk μ is vs->vs.length=is.length:=fun {is}=>by
  induction is with
  | nil=>intro vs h;have e:vs=[]:=h;subst e;rfl
  | cons i is ih=>rintro vs ⟨a,vr,e,_,h⟩;subst e;rw [List.length_cons,List.length_cons,ih h]
 have get:∀ {is:List Nat} {vs:List V},IsOk μ is vs->∀ (n m:Nat),is[n]?=some m->∃ a,vs[n]?=some (V.ref a)/\μ[m]?=some a:=fun {is}=>by
  induction is with
  | nil=>intro vs h n m e;simp at e
  | cons i is ih =>
   rintro vs ⟨a,vr,e,r,h⟩ n m em;subst e;cases n with
   | zero=>simp at em;subst em;exact ⟨a,rfl,r⟩
   | succ n=>simp at em;obtain ⟨b,e1,e2⟩:=ih h n m em;exact ⟨b,by simpa using e1,e2⟩
 intro h k m e;unfold atI at e ⊢;rw [len h];cases q:ixN is.length k with
 | none=>rw [q] at e;cases e
 | some n=>rw [q] at e;exact get h n m e
end
section
variable {X:Cx} {o e value:Expr} {f:Str} {pos pos':Pos} {to tv:DTE}
end
abbrev vE:=List W->aA->DK->Prop
noncomputable def fZ (K:Frag) (d:vE):Sp:=fun vs H Q _=>∃ (ws:List W) (h:aA) (A μ:List Addr) (k:DK),HeapRep K A μ h H/\fY K A μ H ws vs/\d ws h k /\
 ∀ w h' v H' A' μ',k w h'->Ext A A' μ μ' H H'->HeapRep K A' μ' h' H'->RepW K A' μ' H' w v->Q v H'
structure DFnW (P:Program) (w:World) (K:Frag) (mg:Str->Option Value) (base:Heap) (k:Nat) (x:Str) (d:vE):Prop where
 ok:∃ (f:Addr) (fd:FuncData) (ps:List Str),FnOk P w K mg base CX0 k f fd ps (fZ K d)/\mg x=some (.ref f)/\PySem.W.keepIn K (.ref f)=true/\Binds K fd ps []
def aI4 (d:vE) (t:DTA):DTE:=fun δ h Q=>t δ h fun ws h1=>d ws h1 Q
def aI5 {K:Frag} {d:vE} {t:DTA} {σ:L2.St} {H:Hp} {Q:VK} (q:up K (aI4 d t) σ H Q):aE0 (fZ K d) [] E0 (upA K t) σ H Q:=by
 obtain ⟨δ,h,A,μ,k,R,q,c⟩:=q;refine ⟨δ,h,A,μ,_,R,q,fun ws h1 vs H1 A1 μ1 q1 x1 R1 r1=>?_⟩;show fZ K d (vs++[]) H1 Q E0;rw [List.append_nil];exact ⟨ws,h1,A1,μ1,_,R1,r1,q1,fun w h2 v H2 A2 μ2 q2 x2 R2 r2=>c w h2 v H2 A2 μ2 q2 (x1.trans x2) R2 r2⟩
section
variable {X:Cx} {x m:Str} {p pos apos:Pos} {e o:Expr} {es:List Expr} {to:DTE} {t:DTA} {d:vE} {k:Nat} {C f:Addr} {fd:FuncData} {ps:List Str}
def aI6 (F:DFnW X.prog X.w X.K X.mg X.base k x d) (hr:Room k X.A) (ha:DA X (e::es) t) (hg:autoParam (Gl X x) ZR) (hdb:autoParam ((x==("__debug__":Str))=false) ZD)
  (he:autoParam (starEach (e::es) X.env=(false,eval e X.env)::starEach es X.env) ZR) (hpl:autoParam ((backTo pos (starEach es X.env)).any (·.1)=false) ZR):DE X (.Call (.Name x p) (e::es) [] pos) (aI4 d t):=by
 obtain ⟨f,fd,ps,h1,h2,h3,h4⟩:=F.ok;exact aK (wO h1 hr hg h2 h3 h4 .nil aE7 ha hdb he hpl) fun _ _ _ q=>aI5 q
end
noncomputable def cM7:W->W->aA->DK->Prop:=fun o i h Q=>match o,i with
 | .c j,.d (.int k)=>(match h[j]? with
  | some (.r is)=>(match atI is k with
   | some m=>Q (.c m) h
   | none=>False)
  | _=>False)
 | _,_=>False
noncomputable def cM8:W->W->aA->DK->Prop:=fun o i h Q=>dIx o i h Q\/cM7 o i h Q
section
variable {X:Cx}
def cM9:IxR X (upR X.K cM8):=by
 intro value slice pins s σ H x y v u Q I rx ry h hs;obtain ⟨a,b,h,A,μ,k,R,ra,rb,q,c⟩:=h;rcases q with q | q
 ·exact cZ3 value slice pins s σ H x y v u Q I rx ry ⟨a,b,h,A,μ,k,R,ra,rb,q,c⟩ hs
 ·unfold cM7 at q;split at q
  ·rename_i j i;obtain ⟨p,ep,rfl⟩:=ra;have eb:=bC rb;subst eb;split at q
   ·rename_i is ej;obtain ⟨vs,hv,io⟩:=R.cel j p _ ep ej;split at q
    ·rename_i m em;obtain ⟨b,e1,e2⟩:=io.at em;exact qB value slice pins s σ H _ _ v u Q I rx ry ⟨p,vs,i,.ref b,rfl,rfl,SqL.of hv,e1,c _ _ _ _ _ _ q .refl R ⟨b,e2,rfl⟩⟩ hs
    ·exact q.elim
   ·exact q.elim
  ·exact q.elim
def bW6 {a b:Expr} {pos:Pos} {ta tb:DTE} (ha:DE X a ta) (hb:DE X b tb) (hs:iW b:=by intro _ _;rfl):DE X (.Subscript a b pos) (dOp cM8 ta tb):=aK (wR cM9 ha hb hs) fun _ _ _ q=>rZ q
end
section
variable {K:Frag} {A A' μ μ':List Addr} {H H':Hp} {h h':aA}
end
section
variable {X:Cx} {tg iter elt:Expr} {ifs:List Expr} {sc S:Scope} {N':List Str} {ixs:List (Option Nat)} {body:List Stmt} {ti:DTI} {g:DTG} {tb:DTS} {tt:DTT} {te:DTE} {pos:Pos}
end
noncomputable def aI7 (k:DK):DEnds where
 nx:=fun _ h=>k (.d .none) h
 rt:=k
section
variable {P:Program} {w:World} {K:Frag} {mg:Str->Option Value} {base:Heap}
def dB9 {x qual:Str} {st:Stmt} {f:Addr} {fd:FuncData} {N ps:List Str} {k:Nat} {d:vE} (F:Fun K x qual st f fd) (S:FnScope N ps (aH st)) (len:∀ ws h k,d ws h k->ws.length=ps.length)
  (hbody:∀ (cdv:Value) (A:Around) (outer:List Env) (s:Shared) (H:Hp) (E:XK),fd.code=cdv->Room k (A.deeper (envOfC qual (aH st) s.heap.objs.size f cdv)) ->
   ∃ t,DSs (gB CX0 P w K mg base N qual (aH st) f cdv A outer s H E).nox (aX st) t/\∀ ws h kk,d ws h kk->t (aI7 kk) (eU N ws) h):FnOk P w K mg base CX0 (k+1) f fd ps (fZ K d):=by
 refine cL1 F S (fun vs H Q E ⟨ws,h,A,μ,kk,R,r,q,c⟩=>by rw [eG r];exact len _ _ _ q) fun cdv A outer s H vs Q E hcd hr hsp=>?_;obtain ⟨ws,h,B,μ,kk,R,r,q,c⟩:=hsp;obtain ⟨t,ht,hq⟩:=hbody cdv A outer s H E hcd hr;refine ⟨_,ht,eU N ws,h,B,μ,aI7 kk,⟨R,jP r⟩,hq ws h kk q,⟨fun δ' h' σ' H' A' μ' q' x' R'=>?_,fun δ' h' σ' H' A' μ' q' x' R'=>q'.elim,fun δ' h' σ' H' A' μ' q' x' R'=>q'.elim,fun z h' v H' A' μ' q' x' R' r'=>?_⟩⟩
 ·exact c _ h' _ H' A' μ' q' x' R'.1 (show Rep K A' H' .none .non by rw [Rep])
 ·exact c z h' v H' A' μ' q' x' R' r'
end
end DL
namespace ST
open PySem PySem.Spec PyProof.Rows
section
variable {prog:Program} {w:World} {A:Around} {E:Value->Shared->Prop} {s:Shared} {R:Result->Shared->Prop}
end
end ST
namespace L2
open PySem PySem.Spec PyProof.Rows ST
section
variable {X:Cx}
def zQ:bZ X (.type "int") (fun xs H Q=>∃ b:Bool,xs=[.bl b]/\Q (.int (if b then 1 else 0)) H):=by
 intro pins s σ H xs us Q I r h;obtain ⟨b,rfl,q⟩:=h;obtain ⟨u,rfl,ru⟩:=iU r;cases (show u=Value.bool b from ru);exact call_int_bool ⟨.int (if b then 1 else 0),H,I.tok _,⟨_,rfl⟩,q⟩
end
end L2
namespace DL
open PySem PySem.Spec PyProof.Rows L2 ST
section
variable {X:Cx}
noncomputable def bW7:List W->aA->Option (W×aA)
 | [.d (.bool b)],h=>some (.d (.int (if b then 1 else 0)),h)
 | _,_=>none
def zR:bZ X (.type "int") (upC X.K (OfX bW7)):=by
 intro pins s σ H xs us Q I r h;obtain ⟨ws,h,A,μ,k,R,rw',⟨rr,h',e,q⟩,c⟩:=h;unfold bW7 at e;split at e
 ·rename_i h0 b;cases e;obtain ⟨v,rfl,rv⟩:=cV rw';have ev:v=.bl b:=by have z:Rep X.K A H (.bool b) v:=rv;rw [Rep] at z;exact z
  subst ev;exact zQ pins s σ H _ us Q I r ⟨b,rfl,c _ _ _ _ _ _ q .refl R (show Rep X.K A H (.int _) _ by rw [Rep])⟩
 ·cases e
end
end DL
namespace CI
open PySem PySem.Spec PyProof.Rows L2 DL ST
abbrev XR (α:Type):=DSt->aA->Option (α×aA)
set_option genInjectivity true in
inductive Fl where
 | nx (δ:DSt) | rt (w:W) | bk (δ:DSt) | ct (δ:DSt)
abbrev XS:=DSt->aA->Option (Fl×aA)
abbrev XG:=W->DSt->aA->Option (DSt×aA)
abbrev XF:=List W->aA->Option (PyData×aA)
abbrev XFW:=List W->aA->Option (W×aA)
structure ObS where
 fnW:Str->Option XFW
 cls:Str->Option (Addr×XFW)
 om:Str->Option (Addr×XFW)
 fo:Addr->Str->Bool
noncomputable def xno {α:Type}:XR α:=fun _ _=>none
noncomputable def aD {α:Type} (a:α):XR α:=fun _ h=>some (a,h)
noncomputable def xb {α β:Type} (x:XR α) (f:α->XR β):XR β:=fun δ h=>(x δ h).bind fun p=>f p.1 δ p.2
structure Sta where
 bl:List Str
 gc:Str->Option PyData
 tk:Str->Option (Str->Option Int)
 fn:Str->Option XF
 ac:Str->List Nat
 cv:List Str
 N:List Str
 S:Scope
 top:Bool
 fuel:Nat
 ob:ObS
structure Evs where
 E:Sta->Expr->XR W
 T:Sta->Expr->XR Bool
 F:Sta->Expr->XR (List PyData)
 G:Sta->Expr->XG
 S:Sta->Stmt->XS
noncomputable def Evs.no:Evs:=⟨fun _ _=>xno,fun _ _=>xno,fun _ _=>xno,fun _ _ _ _ _=>none,fun _ _ _ _=>none⟩
noncomputable def fF (x:Str):Bool:=!(x==("__debug__":Str))&&(!(x==("__classdict__":Str))&&!(x==("__name__":Str)))
noncomputable def bW8 (S:Scope) (x:Str):Bool:=match S.names.lookup x with
 | some .local=>true
 | some .cell=>true
 | some .free=>true
 | _=>false
noncomputable def vF (S:Scope) (x:Str):Bool:=match S.names.lookup x with
 | some .local=>true
 | some .cell=>true
 | _=>false
noncomputable def eV (S:Scope) (x:Str):Bool:=match S.names.lookup x with
 | some .local=>true
 | _=>false
noncomputable def glB (S:Scope) (x:Str):Bool:=match S.names.lookup x with
 | some .globalImplicit=>true
 | _=>false
noncomputable def slot (st:Sta) (x:Str):Option Nat:=st.N.findIdx? (·==x)
noncomputable def aB (i:Nat):XR W:=fun δ h=>match δ[i]? with
 | some (some w)=>some (w,h)
 | _=>none
noncomputable def oA (st:Sta) (x:Str):Bool:=fF x&&glB st.S x
noncomputable def aI8 (st:Sta) (x:Str):XR W:=if fF x=true then
  (match slot st x with
   | some i=>if bW8 st.S x=true then aB i else xno
   | none=>(match st.gc x with
    | some d=>if glB st.S x=true then aD (.d d) else xno
    | none=>xno))
 else xno
noncomputable def aI9:Const->XR W
 | .none=>aD (.d .none)
 | .bool b=>aD (.d (.bool b))
 | .int i=>aD (.d (.int i))
 | .str x=>if PyData.strOk x=true then aD (.d (.str x)) else xno
 | _=>xno
mutual
noncomputable def aI:Nat->PyData->Bool
 | _,.none=>true
 | _,.bool _=>true
 | _,.int _=>true
 | _,.str _=>true
 | n+1,.list xs=>plainsB n xs
 | n+1,.tuple xs=>plainsB n xs
 | _,_=>false
noncomputable def plainsB:Nat->List PyData->Bool
 | _,[]=>true
 | n,x::xs=>aI n x&&plainsB n xs
end
noncomputable def gK (i j:Int):Bool:=(decide (-(2^64) < i)&&decide (i < 2^64))||(decide (-(2^64) < j)&&decide (j < 2^64))
noncomputable def bG (j:Int):Bool:=decide (0 < j)&&(decide (j < 1073741824)||decide (j.natAbs.log2 < 8000))
noncomputable def sT (i j:Int):Bool:=decide (0<=j)&&(decide (j<=1000000)&&decide (i.natAbs < 2^64))
noncomputable def bW9 (u w:W) (h:aA):Option (W×aA):=match u,w with
 | .d (.int i),.d (.int j)=>some (.d (.int (i+j)),h)
 | .d (.tuple xs),.d (.tuple ys)=>if xs.length+ys.length<=sizeLine then some (.d (.tuple (xs++ys)),h) else none
 | _,_=>(match ref h u,ref h w with
  | some (.list xs),some (.list ys)=>if xs.length+ys.length<=sizeLine then some (.d (.list (xs++ys)),h) else none
  | _,_=>none)
noncomputable def bX0 (u w:W) (h:aA):Option (W×aA):=match u,w with
 | .d (.int i),.d (.int j)=>if gK i j=true then some (.d (.int (i*j)),h) else none
 | .d (.tuple xs),.d (.int k)=>if k=1 then some (.d (.tuple xs),h) else if xs≠[]/\1 < k/\k < 2^63/\xs.length*k.toNat<=sizeLine then some (.d (.tuple (List.replicate k.toNat xs).flatten),h) else none
 | _,_=>none
noncomputable def dX (op:Operator) (u w:W) (h:aA):Option (W×aA):=match op with
 | .Add=>bW9 u w h
 | .Mult=>bX0 u w h
 | _=>(match u,w with
  | .d (.int i),.d (.int j)=>(match op with
   | .Sub=>some (.d (.int (i - j)),h)
   | .FloorDiv=>if bG j=true then some (.d (.int (i / j)),h) else none
   | .Mod=>if 0 < j then some (.d (.int (i%j)),h) else none
   | .Pow=>if sT i j=true then some (.d (.int (i^j.toNat)),h) else none
   | .RShift=>if 0<=j then some (.d (.int (i / 2^j.toNat)),h) else none
   | .BitAnd=>some (.d (.int (Builtin.bitAnd i j)),h)
   | _=>none)
  | _,_=>none)
noncomputable def aJ0:CmpOp->Option (Int->Int->Bool)
 | .Lt=>some fun i j=>decide (i < j)
 | .LtE=>some fun i j=>decide (i<=j)
 | .Gt=>some fun i j=>decide (j < i)
 | .GtE=>some fun i j=>decide (j<=i)
 | _=>none
noncomputable def xEq (u w:W) (h:aA):Option Bool:=match ref h u,ref h w with
 | some a,some b=>if (aI 64 a&&aI 64 b)=true then some (PyData.eqv a b) else none
 | _,_=>none
noncomputable def xIs (u w:W):Option Bool:=match u,w with
 | .d a,.d b=>DL.isSame a b
 | _,_=>none
noncomputable def xIn (u w:W) (h:aA):Option Bool:=match ref h u,ref h w with
 | some d,some (.list xs)=>if (aI 64 (.list xs)&&aI 64 d)=true then some (xs.any fun z=>PyData.eqv z d) else none
 | some d,some (.tuple xs)=>if (aI 64 (.tuple xs)&&aI 64 d)=true then some (xs.any fun z=>PyData.eqv z d) else none
 | some d,some (.dict kvs)=>(match bJ d with
  | some k=>some (kvs.any fun p=>decide (bJ p.1=some k))
  | none=>none)
 | _,_=>none
noncomputable def cK (op:CmpOp) (u w:W) (h:aA):Option (Bool×aA):=match op with
 | .Eq=>(xEq u w h).map fun b=>(b,h)
 | .NotEq=>(xEq u w h).map fun b=>(!b,h)
 | .Is=>(xIs u w).map fun b=>(b,h)
 | .IsNot=>(xIs u w).map fun b=>(!b,h)
 | .In=>(xIn u w h).map fun b=>(b,h)
 | .NotIn=>(xIn u w h).map fun b=>(!b,h)
 | _=>(match u,w with
  | .d (.int i),.d (.int j)=>(aJ0 op).map fun p=>(p i j,h)
  | _,_=>none)
noncomputable def asW (p:Bool×aA):W×aA:=(.d (.bool p.1),p.2)
noncomputable def xIx (u w:W) (h:aA):Option (W×aA):=match ref h u,w with
 | some (.list xs),.d (.int i)=>(atI xs i).map fun v=>(.d v,h)
 | some (.tuple xs),.d (.int i)=>(atI xs i).map fun v=>(.d v,h)
 | some (.dict kvs),.d d=>(match bJ d with
  | some k=>(kvs.find? fun p=>decide (bJ p.1=some k)).map fun p=>(.d p.2,h)
  | none=>none)
 | _,_=>none
noncomputable def xSl (u:W) (lo hi:Option Int) (h:aA):Option (W×aA):=match u with
 | .d (.tuple xs)=>some (.d (.tuple (cut xs lo hi)),h)
 | _=>(match ref h u with
  | some (.list xs)=>some (.d (.list (cut xs lo hi)),h)
  | _=>none)
noncomputable def cN:List W->aA->Option (W×aA)
 | [w],h=>(match ref h w with
  | some (.list xs)=>some (.d (.int xs.length),h)
  | some (.tuple xs)=>some (.d (.int xs.length),h)
  | _=>none)
 | _,_=>none
noncomputable def gM:List W->aA->Option (W×aA)
 | [w],h=>(match ref h w with
  | some (.list xs)=>some (.d (.tuple xs),h)
  | some (.tuple xs)=>some (.d (.tuple xs),h)
  | _=>none)
 | _,_=>none
noncomputable def kZ:List W->aA->Option (W×aA)
 | [w],h=>(match ref h w with
  | some (.list xs)=>(dJ xs).map fun bs=>(.d (.bool (bs.all id)),h)
  | _=>none)
 | _,_=>none
noncomputable def bX1 (x:Str):Option (List W->aA->Option (W×aA)) :=
 if x="len" then some cN else if x="tuple" then some gM else if x="all" then some kZ else if x="any" then some zO else if x="int" then some bW7 else none
noncomputable def bX2 (T:Str):Option String :=
 if T="int" then some "int" else if T="bool" then some "bool" else if T="str" then some "str" else if T="tuple" then some "tuple" else if T="list" then some "list" else none
mutual
noncomputable def peq:PyData->PyData->Bool
 | .none,.none=>true
 | .bool a,.bool b=>a==b
 | .int a,.int b=>a==b
 | .str a,.str b=>a==b
 | .list a,.list b=>peqs a b
 | .tuple a,.tuple b=>peqs a b
 | _,_=>false
noncomputable def peqs:List PyData->List PyData->Bool
 | [],[]=>true
 | x::a,y::b=>peq x y&&peqs a b
 | _,_=>false
end
noncomputable def condB:Option Nat->List PyData->aA->Bool
 | none,_,_=>true
 | some i,xs,h=>(match h[i]? with
  | some (.l ys)=>peqs ys xs
  | _=>false)
noncomputable def cF (g:XG) (tb:XS) (c:Option Nat) (all:List PyData):List PyData->DSt->aA->Option (Fl×aA)
 | [],δ,h=>if condB c all h=true then some (.nx δ,h) else none
 | x::r,δ,h=>if condB c all h=true then
   (g (.d x) δ h).bind fun p=>(tb p.1 p.2).bind fun q=>(match q.1 with
    | .nx δ'=>cF g tb c all r δ' q.2
    | .ct δ'=>cF g tb c all r δ' q.2
    | .bk δ'=>some (.nx δ',q.2)
    | .rt w=>some (.rt w,q.2))
  else none
noncomputable def aW (g:XG) (tt:XR Bool) (te:XR W) (c:Option Nat) (all:List PyData):List PyData->DSt->aA->List PyData->Option (List PyData×aA)
 | [],_,h,ac=>if condB c all h=true then some (ac,h) else none
 | x::r,δ,h,ac=>if condB c all h=true then
   (g (.d x) δ h).bind fun p=>(tt p.1 p.2).bind fun q=>if q.1=true then
     (te p.1 q.2).bind fun y=>(match y.1 with
      | .d z=>aW g tt te c all r p.1 y.2 (ac++[z])
      | _=>none)
    else aW g tt te c all r p.1 q.2 ac
  else none
noncomputable def cB (c:XR Bool) (tb:XS):Nat->DSt->aA->Option (Fl×aA)
 | 0,_,_=>none
 | n+1,δ,h=>(c δ h).bind fun p=>if p.1=true then
   (tb δ p.2).bind fun q=>(match q.1 with
    | .nx δ'=>cB c tb n δ' q.2
    | .ct δ'=>cB c tb n δ' q.2
    | .bk δ'=>some (.nx δ',q.2)
    | .rt w=>some (.rt w,q.2))
  else some (.nx δ,p.2)
noncomputable def aU:Expr->Bool
 | .Starred _ _=>false
 | _=>true
noncomputable def fC (x:XR (List PyData)):XR W:=fun δ h=>(x δ h).bind fun p=>some (.c p.2.length,p.2++[.l p.1])
noncomputable def aQ (x:XR (List PyData)):XR W:=fun δ h=>(x δ h).bind fun p=>some (.d (.list p.1),p.2)
noncomputable def pK (f:Str->Option Int) (x:XR W):XR Bool:=xb x fun w=>(match w with
 | .d (.str s)=>aD (!(f s).isSome)
 | .d .none=>aD true
 | _=>xno)
noncomputable def xC1 (op:CmpOp) (x y:XR W):XR Bool:=xb x fun u=>xb y fun w=>fun _ h=>cK op u w h
noncomputable def xC2 (op op':CmpOp) (x y z:XR W):XR Bool:=xb x fun u=>xb y fun w=>fun δ h=>(cK op u w h).bind fun p=>if p.1=true then (z δ p.2).bind fun q=>cK op' w q.1 q.2 else some (false,p.2)
noncomputable def xC3 (op op' op'':CmpOp) (x y z t:XR W):XR Bool:=xb x fun u=>xb y fun w=>fun δ h=>(cK op u w h).bind fun p =>
 if p.1=true then (z δ p.2).bind fun q=>(cK op' w q.1 q.2).bind fun p'=>if p'.1=true then (t δ p'.2).bind fun q'=>cK op'' q.1 q'.1 q'.2 else some (false,p'.2) else some (false,p.2)
noncomputable def bD (x:XR Bool):XR W:=fun δ h=>(x δ h).map asW
noncomputable def sU:List XG->List PyData->DSt->aA->Option (DSt×aA)
 | [],[],δ,h=>some (δ,h)
 | g::gs,x::xs,δ,h=>(g (.d x) δ h).bind fun p=>sU gs xs p.1 p.2
 | _,_,_,_=>none
noncomputable def bW (gs:List XG):XG:=fun w δ h=>(match w with
 | .d (.tuple xs)=>sU gs xs δ h
 | _=>none)
section
variable (v:Evs) (st:Sta)
noncomputable def eX:List Expr->XR (List W)
 | []=>aD []
 | e::es=>if aU e=true then xb (v.E st e) fun w=>xb (eX es) fun ws=>aD (w::ws) else xno
noncomputable def dC0:Expr->Bool
 | .Name _ _=>true
 | _=>false
noncomputable def zS:Option Expr->XR (Option Int)
 | none=>aD none
 | some e=>xb (v.E st e) fun w=>(match w with
  | .d (.int i)=>aD (some i)
  | _=>xno)
noncomputable def aJ1:List Expr->XR W
 | []=>xno
 | [a]=>v.E st a
 | a::b::r=>xb (v.E st a) fun w=>(match w with
  | .d (.bool true)=>aJ1 (b::r)
  | .d (.bool false)=>aD (.d (.bool false))
  | _=>xno)
noncomputable def bX3:List Expr->XR W
 | []=>xno
 | [a]=>v.E st a
 | a::b::r=>xb (v.E st a) fun w=>(match w with
  | .d (.bool true)=>aD (.d (.bool true))
  | .d (.bool false)=>bX3 (b::r)
  | _=>xno)
noncomputable def aJ2:List Expr->XR Bool
 | []=>xno
 | [a]=>v.T st a
 | a::b::r=>xb (v.T st a) fun c=>if c=true then aJ2 (b::r) else aD false
noncomputable def bX4:List Expr->XR Bool
 | []=>xno
 | [a]=>v.T st a
 | a::b::r=>xb (v.T st a) fun c=>if c=true then aD true else bX4 (b::r)
noncomputable def kO:Expr->Option (Str->Option Int)
 | .Name x _=>if oA st x&&(slot st x).isNone then st.tk x else none
 | _=>none
noncomputable def jD (a:Expr) (ops:List CmpOp) (cs:List Expr):XR Bool:=match ops,cs with
 | [op],[b]=>(match kO st b with
  | some f=>if op=.NotIn then pK f (v.E st a) else xno
  | none=>if behindInMarks op b=true then xno else xC1 op (v.E st a) (v.E st b))
 | [op,op'],[b,c]=>if lastMarks [op,op'] [b,c]=true then xno else xC2 op op' (v.E st a) (v.E st b) (v.E st c)
 | _,_=>xno
noncomputable def jX (a:Expr) (ops:List CmpOp) (cs:List Expr):XR Bool:=match ops,cs with
 | [op,op',op''],[b,c,d]=>if lastMarks [op,op',op''] [b,c,d]=true then xno else xC3 op op' op'' (v.E st a) (v.E st b) (v.E st c) (v.E st d)
 | _,_=>jD v st a ops cs
noncomputable def lA (i j:Int):Bool:=decide (j - i<=16000000)&&(decide (-(2^62)<=i)&&(decide (i < 2^62)&&(decide (-(2^62)<=j)&&decide (j < 2^62))))
noncomputable def cS (x:XR W):XR (List PyData×Option Nat):=xb x fun w=>fun _ h=>(match w with
 | .d (.list xs)=>some ((xs,none),h)
 | .d (.tuple xs)=>some ((xs,none),h)
 | .c i=>(match h[i]? with
  | some (.l xs)=>some ((xs,some i),h)
  | _=>none)
 | _=>none)
noncomputable def pL:Expr->Bool
 | .Set _ _ _=>true
 | _=>false
noncomputable def sV:Expr->Bool
 | .Tuple _ _ _=>true
 | _=>false
noncomputable def mF (tg e:Expr):XR (List PyData×Option Nat):=match e with
 | .Call (.Name x _) [a] [] _=>if x="range" then (if oA st x&&(slot st x).isNone&&st.bl.contains x&&aU a then xb (v.E st a) fun w=>fun _ h=>(match w with
   | .d (.int j)=>if lA 0 j=true then some ((rng 0 j.toNat,none),h) else none
   | _=>none) else xno)
  else if x="enumerate" then (if oA st x&&(slot st x).isNone&&st.bl.contains x&&aU a&&sV tg then xb (v.E st a) fun u=>fun _ h=>(match gC u with
   | some xs=>some ((cW xs,none),h)
   | none=>none) else xno)
  else cS (v.E st e)
 | .Call (.Name x _) [a,b] [] _=>if x="range" then (if oA st x&&(slot st x).isNone&&st.bl.contains x&&aU a&&aU b then xb (v.E st a) fun u=>xb (v.E st b) fun w=>fun _ h=>(match u,w with
   | .d (.int i),.d (.int j)=>if lA i j=true then some ((rng i (j - i).toNat,none),h) else none
   | _,_=>none) else xno)
  else if x="zip" then (if oA st x&&(slot st x).isNone&&st.bl.contains x&&aU a&&aU b&&sV tg then xb (v.E st a) fun u=>xb (v.E st b) fun w=>fun _ h=>(match gC u,gC w with
   | some xs,some ys=>some ((mD xs ys,none),h)
   | _,_=>none) else xno)
  else cS (v.E st e)
 | _=>if pL e=true then xno else cS (v.E st e)
noncomputable def vG (sc:Scope):List Str:=(sc.names.filter fun p=>(p.2==.local||p.2==.free)&&!(p.1==(".0":Str))).map (·.1)
noncomputable def sW (N:List Str) (sc:Scope):List (Option Nat):=(vG sc).map fun x=>if sc.names.lookup x=some .free then N.findIdx? (·==x) else none
noncomputable def bX5 (sc S:Scope):Scope:={ sc with names:=sc.names.map fun (n,k)=>if (k==.free&&S.kind==.function&&S.names.lookup n==some .cell) then (n,.cell) else (n,k) }
noncomputable def wW (N:List Str) (sc S:Scope):Bool :=
 decide (sc.kind=.function)&&((sc.names.all fun y=>!(y.2==.cell))&&((sc.names.all fun y=>!(y.2==.local)||(sc.names.lookup y.1==some .local)) &&
  ((sc.names.all fun y=>!(y.2==.free)||(S.names.lookup y.1==some .cell||S.names.lookup y.1==some .free))&&(decide (vG sc).Nodup &&
   (((sW N sc).zip (vG sc)).all fun p=>match p.1 with
    | none=>true
    | some i=>decide (N[i]?=some p.2)&&decide (sc.names.lookup p.2=some NameKind.free))))))
noncomputable def Sta.blk (sc:Scope):Sta:={ st with N:=vG sc,S:=bX5 sc st.S,top:=false }
noncomputable def cN0:List Expr->XR Bool
 | []=>aD true
 | [c]=>v.T st c
 | _=>xno
noncomputable def pM (elt tg iter:Expr) (ifs:List Expr) (sc:Scope):XR (List PyData) :=
 if wW st.N sc st.S&&!pL iter then xb (mF v st tg iter) fun p=>fun δ h=>aW (v.G (st.blk sc) tg) (cN0 v (st.blk sc) ifs) (v.E (st.blk sc) elt) p.2 p.1 p.1 (bS (sW st.N sc) δ) h [] else xno
noncomputable def xPl (x:XR (List W)):XR (List PyData):=xb x fun ws=>fun _ h=>(match dE ws with
 | some xs=>if xs.length<=sizeLine then some (xs,h) else none
 | none=>none)
noncomputable def dM (e:Expr):XR (List PyData):=match e with
 | .List es _=>xPl (eX v st es)
 | .ListComp elt [⟨tg,iter,ifs,a⟩] sc _=>if a=0 then pM v st elt tg iter ifs sc else xno
 | .Subscript a (.Slice lo hi none _) _=>xb (v.E st a) fun x=>xb (zS v st lo) fun l=>xb (zS v st hi) fun u=>fun _ h=>(match ref h x with
  | some (.list xs)=>some (cut xs l u,h)
  | _=>none)
 | .BinOp a .Add b _=>xb (v.E st a) fun u=>xb (v.E st b) fun w=>fun _ h=>(match ref h u,ref h w with
  | some (.list xs),some (.list ys)=>if xs.length+ys.length<=sizeLine then some (xs++ys,h) else none
  | _,_=>none)
 | .BinOp (.List es p) .Mult b _=>xb (fC (xPl (eX v st es))) fun u=>xb (v.E st b) fun w=>fun _ h=>(match u,w with
  | .c i,.d (.int k)=>(match h[i]? with
   | some (.l xs)=>if -(2^63)<=k/\k < 2^63/\xs.length*k.toNat<=sizeLine then some ((List.replicate k.toNat xs).flatten,h) else none
   | _=>none)
  | _,_=>none)
 | .Call (.Name x _) (a::es) [] _=>if x="list" then (if oA st x&&(slot st x).isNone&&st.bl.contains x then xb (eX v st (a::es)) fun ws=>fun _ h=>(match ws with
  | [w]=>(match ref h w with
   | some (.list xs)=>some (xs,h)
   | some (.tuple xs)=>some (xs,h)
   | _=>none)
  | _=>none) else xno) else xno
 | _=>xno
noncomputable def aY6:Expr->Bool
 | .Slice _ _ _ _=>true
 | _=>false
noncomputable def qQ:Expr->Bool
 | .Call _ _ _ _=>false
 | _=>true
noncomputable def bX6 (m:Str):Option (W->List W->aA->Option (W×aA)) :=
 if m="append" then some fun o ws h=>(match o,ws with
  | .c j,[.d x]=>(match h[j]? with
   | some (.l xs)=>if xs.length < sizeLine then some (.d .none,h.set j (.l (xs++[x]))) else none
   | _=>none)
  | _,_=>none)
 else none
noncomputable def vH (m:Str) (w:W) (h:aA):Bool:=if m="append" then (match w with
  | .c j=>(match h[j]? with
   | some (.l _)=>true
   | _=>false)
  | _=>false) else true
noncomputable def bJ4 (o:Expr) (m:Str) (g:W->List W->aA->Option (W×aA)) (args:List Expr):XR W:=xb (v.E st o) fun w=>fun δ h=>if vH m w h=true then (eX v st args δ h).bind fun p=>g w p.1 p.2 else none
noncomputable def aJ3 (j:Nat) (ws:List W) (h:aA):Option (W×aA):=match ws,h[j]? with
 | [.d (.int i)],some (.l xs)=>(ixN xs.length i).bind fun n=>(xs[n]?).bind fun x=>if -(2^63)<=i/\i < 2^63 then some (.d x,h.set j (.l (xs.eraseIdx n))) else none
 | _,_=>none
noncomputable def cN1 (o a:Expr):XR W:=xb (v.E st o) fun w=>fun δ h=>match w with
 | .c j=>(match h[j]? with
  | some (.l _)=>(eX v st [a] δ h).bind fun p=>aJ3 j p.1 p.2
  | _=>none)
 | _=>none
noncomputable def aJ4 (f:Expr) (args:List Expr) (pos:Pos):XR W:=match f with
 | .Name x _=>if oA st x&&(slot st x).isNone then
   (match st.ob.fnW x with
   | some m=>(match args with
     | []=>xno
     | _::_=>xb (eX v st args) fun ws=>fun _ h=>m ws h)
   | none=>match st.fn x with
    | some m=>(match args with
     | []=>xno
     | _::_=>xb (eX v st args) fun ws=>fun _ h=>(m ws h).bind fun p=>some (.d p.1,p.2))
    | none=>if st.bl.contains x then
      (match bX1 x with
       | some g=>(match args with
        | []=>xno
        | _::_=>xb (eX v st args) fun ws=>fun _ h=>g ws h)
       | none=>if x="isinstance" then
         (match args with
          | [e,.Name T _]=>if aU e&&oA st T&&(slot st T).isNone&&st.bl.contains T then (match bX2 T with
            | some Ts=>xb (v.E st e) fun w=>fun _ h=>(ref h w).bind fun d=>some (.d (.bool (isi d Ts)),h)
            | none=>xno) else xno
          | _=>xno)
        else aQ (dM v st (.Call f args [] pos)))
     else xno)
   else xno
 | .Attribute o m apos=>if qQ o&&(apos.endLine==pos.line) then
   (match args with
    | []=>xno
    | a::es=>if m="pop" then (match es with
      | []=>if aU a=true then cN1 v st o a else xno
      | _=>xno)
     else if decide (args.length < 29) then (match bX6 m with
     | some g=>bJ4 v st o m g args
     | none=>xno) else xno)
   else xno
 | _=>xno
noncomputable def kP (e:Expr):XR W:=match e with
 | .Name x _=>aI8 st x
 | .Constant c _ _=>aI9 c
 | .BinOp a op b _=>(match a,op with
  | .List es p,.Mult=>aQ (dM v st (.BinOp (.List es p) .Mult b p))
  | _,_=>xb (v.E st a) fun u=>xb (v.E st b) fun w=>fun _ h=>dX op u w h)
 | .Compare a ops cs _=>bD (jX v st a ops cs)
 | .BoolOp .And vs _=>aJ1 v st vs
 | .BoolOp .Or vs _=>bX3 v st vs
 | .UnaryOp .Not a _=>xb (v.E st a) fun w=>(match w with
  | .d (.bool b)=>aD (.d (.bool (!b)))
  | _=>xno)
 | .UnaryOp .USub a _=>xb (v.E st a) fun w=>(match w with
  | .d (.int i)=>aD (.d (.int (-i)))
  | _=>xno)
 | .IfExp c a b _=>xb (v.T st c) fun t=>if t=true then v.E st a else v.E st b
 | .Tuple es _ _=>xb (xPl (eX v st es)) fun xs=>aD (.d (.tuple xs))
 | .List es p=>aQ (dM v st (.List es p))
 | .ListComp elt gs sc p=>aQ (dM v st (.ListComp elt gs sc p))
 | .Subscript a s _=>(match s with
  | .Slice lo hi none _=>xb (v.E st a) fun x=>xb (zS v st lo) fun l=>xb (zS v st hi) fun u=>fun _ h=>xSl x l u h
  | _=>if aY6 s=true then xno else (match kO st a with
   | some f=>xb (v.E st s) fun w=>(match w with
    | .d (.str z)=>(match f z with
     | some i=>aD (.d (.int i))
     | none=>xno)
    | _=>xno)
   | none=>xb (v.E st a) fun x=>xb (v.E st s) fun y=>fun _ h=>xIx x y h))
 | .Call f args [] p=>aJ4 v st f args p
 | .Dict [] [] _=>aD (.d (.dict []))
 | _=>xno
noncomputable def aJ5 (e:Expr):XR Bool:=match e with
 | .UnaryOp .Not a _=>xb (v.T st a) fun b=>aD (!b)
 | .BoolOp .And vs _=>aJ2 v st vs
 | .BoolOp .Or vs _=>bX4 v st vs
 | .Compare a ops cs _=>jD v st a ops cs
 | .IfExp _ _ _ _=>xno
 | _=>xb (v.E st e) fun w=>(match w with
  | .d (.bool b)=>aD b
  | _=>xno)
noncomputable def aJ6:List Expr->List XG
 | []=>[]
 | e::es=>v.G st e::aJ6 es
noncomputable def cN2 (es:List Expr) (xs:List PyData) (δ:DSt) (h:aA):Option (DSt×aA):=sU (aJ6 v st es) xs δ h
noncomputable def sX (e:Expr):XG:=match e with
 | .Name x _=>(match slot st x with
  | some i=>if vF st.S x&&(st.top||eV st.S x) then fun w δ h=>some (δ.set i (some w),h) else fun _ _ _=>none
  | none=>fun _ _ _=>none)
 | .Tuple es _ _=>if es.all aU=true then bW (aJ6 v st es) else fun _ _ _=>none
 | .Subscript o i _=>if aY6 i=true then fun _ _ _=>none else fun w δ h=>(v.E st o δ h).bind fun p=>(v.E st i δ p.2).bind fun q=>(match p.1,q.1,w with
  | .c j,.d y,.d x=>(match q.2[j]?,y with
   | some (.l xs),.int k=>(ixN xs.length k).map fun n=>(δ,q.2.set j (.l (xs.set n x)))
   | some (.k kvs),_=>if (bJ y).isSome=true/\kvs.length < sizeLine then some (δ,q.2.set j (.k (jT kvs y x))) else none
   | _,_=>none)
  | _,_,_=>none)
 | _=>fun _ _ _=>none
noncomputable def jY:Expr->Bool
 | .ListComp _ _ _ _=>true
 | .SetComp _ _ _ _=>true
 | .DictComp _ _ _ _ _=>true
 | _=>false
noncomputable def bX7 (e tg:Expr):Bool:=sV e&&(match tg with
 | .Tuple _ _ _=>true
 | .List _ _=>true
 | _=>false)
noncomputable def xSs:List Stmt->XS
 | [],δ,h=>some (.nx δ,h)
 | s::r,δ,h=>(v.S st s δ h).bind fun p=>(match p.1 with
  | .nx δ'=>xSs r δ' p.2
  | f=>some (f,p.2))
noncomputable def cN3:Expr->Bool
 | .Dict [] [] _=>true
 | _=>false
noncomputable def aJ7:XR W:=fun _ h=>some (.c h.length,h++[.k []])
noncomputable def bA (i:Nat) (x:XR W):XS:=fun δ h=>(x δ h).bind fun p=>some (.nx (δ.set i (some p.1)),p.2)
noncomputable def swB (e:Expr) (x:Str) (px:Pos):Bool:=match e with
 | .ListComp _ _ sc p=>eV st.S x&&(px.line==p.line)&&!(sc.names.any fun (n,k)=>n==x&&(k==.local||k==.cell))
 | _=>false
noncomputable def mG (s:Stmt):XS:=match s with
 | .Return (some e) _=>fun δ h=>(v.E st e δ h).bind fun p=>some (.rt p.1,p.2)
 | .If c a b _=>fun δ h=>(v.T st c δ h).bind fun p=>if p.1=true then xSs v st a δ p.2 else xSs v st b δ p.2
 | .Expr e _=>if jY e=true then fun _ _=>none else fun δ h=>(v.E st e δ h).bind fun p=>some (.nx δ,p.2)
 | .Pass _=>fun δ h=>some (.nx δ,h)
 | .Break _=>fun δ h=>some (.bk δ,h)
 | .Continue _=>fun δ h=>some (.ct δ,h)
 | .For tg iter body [] _=>if pL iter=true then fun _ _=>none else fun δ h=>(mF v st tg iter δ h).bind fun p=>cF (v.G st tg) (xSs v st body) p.1.2 p.1.1 p.1.1 δ p.2
 | .While c body [] _=>cB (v.T st c) (xSs v st body) st.fuel
 | .Assign [.Name x px] e _=>(match slot st x with
  | some i=>if vF st.S x&&(st.top||eV st.S x) then
    (if jY e=true then (if (swB st e x px||!(eV st.S x))=true then bA i (if st.cv.contains x=true then fC (dM v st e) else aQ (dM v st e)) else fun _ _=>none)
    else if (st.cv.contains x&&cN3 e)=true then bA i aJ7
    else if (st.cv.contains x&&!dC0 e)=true then bA i (fC (v.F st e)) else bA i (v.E st e))
   else fun _ _=>none
  | none=>fun _ _=>none)
 | .Assign [tg] e _=>if (jY e||bX7 e tg||!(aU tg))=true then fun _ _=>none else fun δ h=>(v.E st e δ h).bind fun p=>(v.G st tg p.1 δ p.2).bind fun q=>some (.nx q.1,q.2)
 | _=>fun _ _=>none
end
noncomputable def step (v:Evs):Evs:=⟨kP v,aJ5 v,dM v,sX v,mG v⟩
noncomputable def evs:Nat->Evs
 | 0=>.no
 | n+1=>step (evs n)
noncomputable def aV (s:Stmt):List Str:=(cE s).args.map (·.arg)
noncomputable def dR (s:Stmt):List Str:=aV s++((aH s).names.filter fun p=>(p.2==.local||p.2==.cell)&&!((aV s).contains p.1)).map (·.1)
noncomputable def fnB (s:Stmt):Bool:=decide ((aH s).kind=.function)&&(!(aH s).isCoroutine&&(!(aH s).isGenerator&&(decide (dR s).Nodup&&(((aV s).all fun x=>vF (aH s) x)&&((aH s).names.all fun y=>!(y.2==.free))))))
open Classical in
noncomputable def ends (h0:aA) (p:Fl×aA):Option (PyData×aA):=if okP h0 p.2 then (match p.1 with
 | .nx _=>some (.none,p.2.take h0.length)
 | .rt (.d z)=>some (z,p.2.take h0.length)
 | .rt (.c i)=>(match p.2[i]? with
  | some (.l xs)=>if h0.length<=i then some (.list xs,p.2.take h0.length) else none
  | some (.k kvs)=>if h0.length<=i then some (.dict kvs,p.2.take h0.length) else none
  | _=>none)
 | _=>none) else none
noncomputable def mH (p:Fl×aA):Option (W×aA):=match p.1 with
 | .nx _=>some (.d .none,p.2)
 | .rt w=>some (w,p.2)
 | _=>none
structure Top where
 bl:List Str
 gc:Str->Option PyData
 tk:Str->Option (Str->Option Int)
 defs:Str->Option Stmt
 ac:Str->List Nat
 cv:Str->List Str
 fuel:Nat
 deep:Nat
 wf:Str->Bool
 ini:Str->Option (Addr×Stmt)
 mt:Str->Option (Addr×Stmt)
 fo:Addr->Str->Bool
noncomputable def Top.sta (t:Top) (fn:Str->Option XF) (ob:ObS) (x:Str) (s:Stmt):Sta:=⟨t.bl,t.gc,t.tk,fn,t.ac,t.cv x,dR s,aH s,true,t.fuel,ob⟩
noncomputable def kQ (t:Top) (fn:Str->Option XF) (ob:ObS) (x:Str) (s:Stmt):XF:=fun ws h =>
 if fnB s=true/\ws.length=(aV s).length then (xSs (evs t.deep) (t.sta fn ob x s) (aX s) (eU (dR s) ws) h).bind (ends h) else none
noncomputable def gN (t:Top) (fn:Str->Option XF) (ob:ObS) (x:Str) (s:Stmt):XFW:=fun ws h =>
 if fnB s=true/\ws.length=(aV s).length then (xSs (evs t.deep) (t.sta fn ob x s) (aX s) (eU (dR s) ws) h).bind mH else none
abbrev fnT (t:Top) (D:Str->XF):Str->Option XF:=fun y=>(t.defs y).map fun _=>D y
abbrev obT (t:Top) (W I M:Str->XFW):ObS:=⟨fun y=>if t.wf y=true then (t.defs y).map fun _=>W y else none,fun y=>(t.ini y).map fun p=>(p.1,I y),fun y=>(t.mt y).map fun p=>(p.1,M y),t.fo⟩
mutual
noncomputable def aE (t:Top):Nat->Str->XF
 | 0,_=>fun _ _=>none
 | d+1,x=>(match t.defs x with
  | some s=>kQ t (fnT t fun y=>aE t d y) (obT t (fun y=>callW t d y) (fun y=>callI t d y) fun y=>callM t d y) x s
  | none=>fun _ _=>none)
noncomputable def callW (t:Top):Nat->Str->XFW
 | 0,_=>fun _ _=>none
 | d+1,x=>(match t.defs x with
  | some s=>gN t (fnT t fun y=>aE t d y) (obT t (fun y=>callW t d y) (fun y=>callI t d y) fun y=>callM t d y) x s
  | none=>fun _ _=>none)
noncomputable def callM (t:Top):Nat->Str->XFW
 | 0,_=>fun _ _=>none
 | d+1,x=>(match t.mt x with
  | some (_,s)=>gN t (fnT t fun y=>aE t d y) (obT t (fun y=>callW t d y) (fun y=>callI t d y) fun y=>callM t d y) x s
  | none=>fun _ _=>none)
noncomputable def callI (t:Top):Nat->Str->XFW
 | 0,_=>fun _ _=>none
 | 1,_=>fun _ _=>none
 | d+2,x=>(match t.ini x with
  | some (_,s)=>gN t (fnT t fun y=>aE t d y) (obT t (fun y=>callW t d y) (fun y=>callI t d y) fun y=>callM t d y) x s
  | none=>fun _ _=>none)
end
end CI
namespace CI
open PySem PySem.Spec PyProof.Rows L2 DL
noncomputable def Of {α:Type} (x:XR α):DSt->aA->(α->aA->Prop)->Prop:=fun δ h Q=>∃ a h',x δ h=some (a,h')/\Q a h'
def OfG (g:XG):DTG:=fun w δ h Q=>∃ δ' h',g w δ h=some (δ',h')/\Q δ' h'
noncomputable def pN (E:DEnds) (h:aA):Fl->Prop
 | .nx δ=>E.nx δ h
 | .rt w=>E.rt w h
 | .bk δ=>E.bk δ h
 | .ct δ=>E.ct δ h
def OfS (x:XS):DTS:=fun E δ h=>∃ fl h',x δ h=some (fl,h')/\pN E h' fl
def OfI (x:XR (List PyData×Option Nat)):DTI:=fun δ h Q=>∃ xs c h',x δ h=some ((xs,c),h')/\Q xs c h'
def Of2 (f:W->W->aA->Option (W×aA)):D2:=fun u w h Q=>∃ r h',f u w h=some (r,h')/\Q r h'
def OfC (f:List W->aA->Option (W×aA)):DC:=fun ws h Q=>∃ r h',f ws h=some (r,h')/\Q r h'
noncomputable def jZ (m:XF):DSp:=fun ws h k=>∃ z h',m ws h=some (z,h')/\k z h'
section
variable {α β:Type} {x:XR α} {f:α->XR β} {δ:DSt} {h:aA} {Q:α->aA->Prop} {Q':β->aA->Prop}
def bO (q:Of (xb x f) δ h Q'):Of x δ h fun a h1=>Of (f a) δ h1 Q':=by
 obtain ⟨b,h',e,q⟩:=q;unfold xb at e;cases e1:x δ h with
 | none=>rw [e1] at e;cases e
 | some p =>
  rw [e1] at e;obtain ⟨a,h1⟩:=p;exact ⟨a,h1,e1,b,h',e,q⟩
def bP (q:Of (xno:XR α) δ h Q):False:=by obtain ⟨_,_,e,_⟩:=q;cases e
def aY {a:α} (q:Of (aD a) δ h Q):Q a h:=by
 obtain ⟨b,h',e,q⟩:=q;cases e;exact q
end
def bind_some {α β:Type} {x:Option α} {f:α->Option β} {b:β} (e:x.bind f=some b):∃ a,x=some a/\f a=some b:=Option.bind_eq_some_iff.mp e
def map_some {α β:Type} {x:Option α} {f:α->β} {b:β} (e:x.map f=some b):∃ a,x=some a/\f a=b:=Option.map_eq_some_iff.mp e
section
variable {X:Cx} {e tg:Expr} {es:List Expr} {eo:Option Expr} {s:Stmt} {ss:List Stmt}
def bT {t t':DTE} (d:DE X e t) (m:∀ δ h Q,t' δ h Q->t δ h Q):DE X e t':=aK d fun σ H Q ⟨δ,h,A,μ,k,R,q,c⟩=>⟨δ,h,A,μ,k,R,m δ h k q,c⟩
def aJ8 {t t':DTT} (d:DT X e t) (m:∀ δ h Q,t' δ h Q->t δ h Q):DT X e t':=gY d fun σ H Q ⟨δ,h,A,μ,k,R,q,c⟩=>⟨δ,h,A,μ,k,R,m δ h k q,c⟩
def cN4 {t t':DTT} (d:DW X e t) (m:∀ δ h Q,t' δ h Q->t δ h Q):DW X e t':=qJ d fun σ H Q ⟨δ,h,A,μ,k,R,q,c⟩=>⟨δ,h,A,μ,k,R,m δ h k q,c⟩
def cN5 {t t':DTA} (d:DA X es t) (m:∀ δ h Q,t' δ h Q->t δ h Q):DA X es t':=qK d fun σ H Q ⟨δ,h,A,μ,k,R,q,c⟩=>⟨δ,h,A,μ,k,R,m δ h k q,c⟩
def sY {t t':DTF} (d:DF X e t) (m:∀ δ h Q,t' δ h Q->t δ h Q):DF X e t':=aK d fun σ H Q ⟨δ,h,A,μ,k,R,q,c⟩=>⟨δ,h,A,μ,k,R,m δ h k q,c⟩
def cN6 {t t':DTO} (d:DO X eo t) (m:∀ δ h Q,t' δ h Q->t δ h Q):DO X eo t':=qL d fun σ H Q ⟨δ,h,A,μ,k,R,q,c⟩=>⟨δ,h,A,μ,k,R,m δ h k q,c⟩
def sZ {t t':DTS} (d:DS X s t) (m:∀ E δ h,t' E δ h->t E δ h):DS X s t':=bH d fun D σ H ⟨δ,h,A,μ,E,R,q,L⟩=>⟨δ,h,A,μ,E,R,m E δ h q,L⟩
def bJ5 {t t':DTS} (d:DSs X ss t) (m:∀ E δ h,t' E δ h->t E δ h):DSs X ss t':=fH d fun D σ H ⟨δ,h,A,μ,E,R,q,L⟩=>⟨δ,h,A,μ,E,R,m E δ h q,L⟩
def bX8 {t t':DTG} (d:DG X e t) (m:∀ w δ h Q,t' w δ h Q->t w δ h Q):DG X e t':=lK d fun v σ H Q ⟨w,δ,h,A,μ,k,R,r,q,c⟩=>⟨w,δ,h,A,μ,k,R,r,m w δ h k q,c⟩
def zT {t t':DTI} (d:DI X tg e t) (m:∀ δ h Q,t' δ h Q->t δ h Q):DI X tg e t':=gZ d fun σ H R ⟨δ,h,A,μ,k,R0,q,c⟩=>⟨δ,h,A,μ,k,R0,m δ h k q,c⟩
def cN7 {t t':DTT} (d:DIf X es t) (m:∀ δ h Q,t' δ h Q->t δ h Q):DIf X es t':=fun pins s σ H Q I ⟨δ,h,A,μ,k,R,q,c⟩=>d pins s σ H Q I ⟨δ,h,A,μ,k,R,m δ h k q,c⟩
def aJ9 {t t':DTE} (d:DE X e t) (d':DE X e t'):DE X e (fun δ h Q=>t δ h Q\/t' δ h Q):=fun pins s σ H Q I ⟨δ,h,A,μ,k,R,q,c⟩=>q.elim (fun q=>d pins s σ H Q I ⟨δ,h,A,μ,k,R,q,c⟩) fun q=>d' pins s σ H Q I ⟨δ,h,A,μ,k,R,q,c⟩
def cU:DE X e (Of xno):=bT fJ fun _ _ _ q=>bP q
def iQ:DF X e (Of xno):=sY bI9 fun _ _ _ q=>(bP q).elim
def lB:DT X e (Of xno):=fun pins s σ H Q I ⟨_,_,_,_,_,_,q,_⟩=>(bP q).elim
def kA {x:XS} (n:∀ δ h,x δ h=none):DS X s (OfS x):=sZ cL3 fun E δ h q=>by obtain ⟨_,_,e,_⟩:=q;rw [n] at e;cases e
def zU {x:XG} (n:∀ w δ h,x w δ h=none):DG X e (OfG x):=fun pins s σ H v u Q I r ⟨w,δ,h,A,μ,k,R,rr,q,c⟩=>by obtain ⟨_,_,e,_⟩:=q;rw [n] at e;cases e
def gD {f:Value->Value->Sem Value} {r r':D2} (ho:OpR X f (upR X.K r)) (m:∀ u w h Q,r' u w h Q->r u w h Q):OpR X f (upR X.K r'):=fun pins s σ H x y v u Q I rx ry ⟨a,b,h,A,μ,k,R,ra,rb,q,c⟩=>ho pins s σ H x y v u Q I rx ry ⟨a,b,h,A,μ,k,R,ra,rb,m _ _ _ _ q,c⟩
def wX {f:Value->Value->Sem Value} {r r':D2} (ho:OpR X f (upR X.K r)) (ho':OpR X f (upR X.K r')):OpR X f (upR X.K fun u w h Q=>r u w h Q\/r' u w h Q):=fun pins s σ H x y v u Q I rx ry ⟨a,b,h,A,μ,k,R,ra,rb,q,c⟩ =>
 q.elim (fun q=>ho pins s σ H x y v u Q I rx ry ⟨a,b,h,A,μ,k,R,ra,rb,q,c⟩) fun q=>ho' pins s σ H x y v u Q I rx ry ⟨a,b,h,A,μ,k,R,ra,rb,q,c⟩
def cN8 {f:Value->Value->Sem Value} {r:D2} (m:∀ u w h Q,¬ r u w h Q):OpR X f (upR X.K r):=fun pins s σ H x y v u Q I rx ry ⟨a,b,h,A,μ,k,R,ra,rb,q,c⟩=>(m _ _ _ _ q).elim
def vI {f:Value} {r r':DC} (ho:bZ X f (upC X.K r)) (m:∀ ws h Q,r' ws h Q->r ws h Q):bZ X f (upC X.K r'):=fun pins s σ H xs us Q I rx ⟨ws,h,A,μ,k,R,rw',q,c⟩=>ho pins s σ H xs us Q I rx ⟨ws,h,A,μ,k,R,rw',m _ _ _ q,c⟩
end
mutual
theorem wY {K:Frag} {A:List Addr} {H:Hp}:∀ {x:PyData} {v:V} (n:Nat),Rep K A H x v->aI n x=true->x.canLay0=true/\x.depth<=n
 | .none,_,n,_,_=>by simp [PyData.canLay0,PyData.depth]
 | .bool _,_,n,_,_=>by simp [PyData.canLay0,PyData.depth]
 | .int _,_,n,_,_=>by simp [PyData.canLay0,PyData.depth]
 | .str x,_,n,h,_=>by
  rw [Rep] at h;simp [PyData.canLay0,PyData.depth,h.2]
 | .list xs,_,0,_,p=>by simp [aI] at p
 | .tuple xs,_,0,_,p=>by simp [aI] at p
 | .list xs,_,n+1,h,p=>by
  rw [Rep] at h;obtain ⟨a,vs,_,_,h⟩:=h;have z:=Reps_lay n h (by simpa [aI] using p);simp [PyData.canLay0,PyData.depth,z.1,z.2]
 | .tuple xs,_,n+1,h,p=>by
  rw [Rep] at h;obtain ⟨a,vs,_,_,h⟩:=h;have z:=Reps_lay n h (by simpa [aI] using p);simp [PyData.canLay0,PyData.depth,z.1,z.2]
 | .dict _,_,n,_,p=>by cases n<;>simp [aI] at p
theorem Reps_lay {K:Frag} {A:List Addr} {H:Hp}:∀ {xs:List PyData} {vs:List V} (n:Nat),Reps K A H xs vs->plainsB n xs=true->PyData.canLayAll0 xs=true/\PyData.depthAll xs<=n
 | [],_,n,_,_=>by simp [PyData.canLayAll0,PyData.depthAll]
 | x::xs,_,n,h,p=>by
  rw [Reps] at h;obtain ⟨v,r,_,h1,h2⟩:=h;rw [plainsB,Bool.and_eq_true] at p;have a:=wY n h1 p.1;have b:=Reps_lay n h2 p.2;simp [PyData.canLayAll0,PyData.depthAll,a.1,b.1];omega
end
def zW {K:Frag} {A:List Addr} {H:Hp} {x:PyData} {v:V} (r:Rep K A H x v) (p:aI 64 x=true):SeqAt.shaped x=true:=by
 have z:=wY 64 r p;unfold SeqAt.shaped;rw [z.1]
 simpa using z.2
def cC {K:Frag} {A μ:List Addr} {H:Hp} {h:aA} {w:W} {v:V} {x:PyData} (R:HeapRep K A μ h H) (r:RepW K A μ H w v) (e:ref h w=some x) (p:aI 64 x=true):SeqAt.shaped x=true:=by
 cases w with
 | d y=>cases e;exact zW r p
 | v u=>cases e
 | c i =>
  obtain ⟨a,e1,rfl⟩:=r;dsimp only [DL.ref] at e;cases q:h[i]? with
  | none=>rw [q] at e;cases e
  | some cc =>
   cases cc with
   | t _ _ _=>rw [q] at e;cases e
   | o _ _=>rw [q] at e;cases e
   | r _=>rw [q] at e;cases e
   | k ys=>rw [q] at e;cases e;simp [aI] at p
   | l ys =>
    rw [q] at e;cases e;obtain ⟨vs,z1,z2⟩:=R.val i a ys e1 q;have z:=Reps_lay 63 z2 (by simpa [aI] using p);unfold SeqAt.shaped;simp [PyData.canLay0,PyData.depth,z.1];exact z.2
abbrev gA (m:XFW):vE:=fun ws h k=>∃ w h',m ws h=some (w,h')/\k w h'
structure bK (X:Cx) (st:Sta) (d:Nat):Prop where
 bl:∀ x,st.bl.contains x=true->X.mg x=none
 gc:∀ x z,st.gc x=some z->∃ v u,X.mg x=some u/\RelV v u/\∀ A H,Rep X.K A H z v
 tk:∀ x f,st.tk x=some f->∃ p,X.mg x=some (.ref p)/\TabK X.w X.K p f
 fn:∀ x m,st.fn x=some m->DFn X.prog X.w X.K X.mg X.base d x (jZ m)
 N:X.N=st.N
 S:X.env.scope=st.S
 nd:st.N.Nodup
 xe:X.xe=fun _ _=>False
 calm:X.calm=true
 rm:Room d X.A
 fnT:st.top=true->∀ x,X.fn x=true
 kind:st.S.kind=.function
 fnW:∀ x m,st.ob.fnW x=some m->DFnW X.prog X.w X.K X.mg X.base d x (gA m)
 cls:∀ x C m,st.ob.cls x=some (C,m)->(∀ ws h,m ws h=none)\/∃ k f fd ps,k+1<=d/\Mk X.K C f/\FnOk X.prog X.w X.K X.mg X.base CX0 k f fd ps (fZ X.K (gA m))/\X.mg x=some (.ref C)/\Binds X.K fd ps []
 om:∀ x C m,st.ob.om x=some (C,m)->Cls X.K C/\∃ f fd ps,Meth X.K C x f/\FnOk X.prog X.w X.K X.mg X.base CX0 d f fd ps (fZ X.K (gA m))/\Binds X.K fd ps []
 fo:∀ C f,st.ob.fo C f=true->Cls X.K C/\uP X.K C f
structure Snd (v:Evs):Prop where
 E:∀ {X:Cx} {st:Sta} {d:Nat},bK X st d->∀ e,DE X e (Of (v.E st e))
 T:∀ {X:Cx} {st:Sta} {d:Nat},bK X st d->∀ e,DT X e (Of (v.T st e))
 F:∀ {X:Cx} {st:Sta} {d:Nat},bK X st d->∀ e,DF X e (Of (v.F st e))
 G:∀ {X:Cx} {st:Sta} {d:Nat},bK X st d->∀ e,DG X e (OfG (v.G st e))
 S:∀ {X:Cx} {st:Sta} {d:Nat},bK X st d->∀ s,DS X s (OfS (v.S st s))
section
variable {X:Cx} {st:Sta} {d:Nat} {x:Str}
def bX9 {N:List Str} {i:Nat} (e:N.findIdx? (·==x)=some i):N[i]?=some x:=by
 obtain ⟨h1,h2,_⟩:=List.findIdx?_eq_some_iff_getElem.mp e;rw [List.getElem?_eq_getElem h1,eq_of_beq h2]
def fT (G:bK X st d) {i:Nat} (e:slot st x=some i):X.N[i]?=some x:=by rw [G.N];exact bX9 e
def bY0 (G:bK X st d) (h:bW8 st.S x=true):Vis X.env.scope x:=by
 unfold Vis;rw [G.S];unfold bW8 at h;split at h
 ·rename_i e;exact .inl e
 ·rename_i e;exact .inr (.inl e)
 ·rename_i e;exact .inr (.inr e)
 ·cases h
def mI (G:bK X st d) (h:vF st.S x=true):L2.Loc X.env.scope x:=by
 unfold L2.Loc;rw [G.S];unfold vF at h;split at h
 ·rename_i e;exact .inl e
 ·rename_i e;exact .inr e
 ·cases h
def tD (h:eV st.S x=true):st.S.names.lookup x=some .local:=by
 unfold eV at h;split at h
 ·rename_i e;exact e
 ·cases h
def aK0 (G:bK X st d) (h:(st.top||eV st.S x)=true):X.fn x=true\/X.env.scope.names.lookup x=some .local:=by
 rw [Bool.or_eq_true] at h;rcases h with h | h
 ·exact .inl (G.fnT h x)
 ·rw [G.S];exact .inr (tD h)
def bJ6 (G:bK X st d) (h:glB st.S x=true):Gl X x:=by
 unfold Gl Env.kindOf;rw [G.S];unfold glB at h;split at h
 ·rename_i e;exact e
 ·cases h
def bY (h:fF x=true):(x==("__debug__":Str))=false:=by
 unfold fF at h;rw [Bool.and_eq_true] at h
 simpa using h.1
def zX (h:fF x=true):(x==("__classdict__":Str))=false:=by
 unfold fF at h;rw [Bool.and_eq_true,Bool.and_eq_true] at h
 simpa using h.2.1
def kD (h:fF x=true):x≠"__name__":=by
 unfold fF at h;rw [Bool.and_eq_true,Bool.and_eq_true] at h
 simpa using h.2.2
def gO (G:bK X st d) (h:oA st x=true):fF x=true/\Gl X x:=by
 unfold oA at h;rw [Bool.and_eq_true] at h;exact ⟨h.1,bJ6 G h.2⟩
def bY1 (G:bK X st d) {pos:Pos}:DE X (.Name x pos) (Of (aI8 st x)):=by
 unfold aI8;split
 ·rename_i hn;split
  ·rename_i i hi;split
   ·rename_i hv;refine bT (dv i (fT G hi) (bY0 G hv) (bY hn) (zX hn)) fun δ h Q q=>?_;obtain ⟨w,h',e,q⟩:=q;unfold aB at e;unfold bP5;split at e
    ·rename_i w' e';try rw [e']
     cases e;exact q
    ·cases e
   ·exact cU
  ·split
   ·rename_i z hz;split
    ·rename_i hg;obtain ⟨v,u,m,r1,r2⟩:=G.gc _ _ hz;exact bT (aS8 m r1 r2 (bJ6 G hg) (bY hn)) fun δ h Q q=>aY q
    ·exact cU
   ·exact cU
 ·exact cU
def aY7 {c:Const} {j:Nat} {pos:Pos}:DE X (.Constant c j pos) (Of (aI9 c)):=by
 cases c with
 | none=>exact bT bP7 fun _ _ _ q=>aY q
 | bool b=>exact bT cJ4 fun _ _ _ q=>aY q
 | int i=>exact bT bP6 fun _ _ _ q=>aY q
 | str x =>
  show DE X _ (Of (if PyData.strOk x=true then aD (.d (.str x)) else xno));split
  ·rename_i hx;exact bT (bP8 hx) fun _ _ _ q=>aY q
  ·exact cU
 | _=>exact cU
def aK1 {K:Frag} {A μ:List Addr} {H:Hp} {h:aA} {p:Addr} {xs:List PyData} {vs:List V} (R:HeapRep K A μ h H) (hp:H p=none) (r:Reps K A H xs vs):Rep K A (upd H p (.lst vs)) (.list xs) (.ref p):=by
 rw [Rep];exact ⟨p,vs,rfl,.inl ⟨R.notA hp,.inl aN⟩,r.ext (bB (μ:=μ) hp) R.sub⟩
def aK2:D2:=fun u w h Q=>match ref h u,ref h w with
 | some (.list xs),some (.list ys)=>xs.length+ys.length<=sizeLine/\Q (.d (.list (xs++ys))) h
 | _,_=>False
def aY8:OpR X (binaryOp .Add) (upR X.K aK2):=by
 intro pins s σ H x y v u Q I rx ry h;obtain ⟨a,b,h,A,μ,k,R,ra,rb,q,c⟩:=h;unfold aK2 at q;split at q
 ·rename_i xs ys ea eb;obtain ⟨pa,va,rfl,sa,rra⟩:=bX R ra ea;obtain ⟨pb,vb,rfl,sb,rrb⟩:=bX R rb eb;refine wU pins s σ H _ _ v u Q I rx ry ⟨pa,pb,va,vb,rfl,rfl,sa,sb,by rw [rra.length,rrb.length];exact q.1,fun p hp=>?_⟩;exact c _ _ _ _ _ _ q.2 (bB hp) (R.fresh hp) (aK1 R hp (rrb.append rra))
 ·exact q.elim
def aK3:OpR X (binaryOp .FloorDiv) (rI (fun _ j=>0 < j/\j.natAbs.log2 < 9000) fun i j=>.int (i / j)):=opI fun i j _ _ _ _ _ hc q=>by
 have h1:(0:Int) < j:=hc.1;exact floordiv_int (by omega) (by rw [Int.fdiv_eq_ediv_of_nonneg i (by omega)];exact q) (.inl (PyProof.noPylong_of_log2 hc.2))
noncomputable def bJ7:D2
 | .d (.int i),.d (.int j),h,Q=>(0 < j/\j.natAbs.log2 < 9000)/\Q (.d (.int (i / j))) h
 | _,_,_,_=>False
def aK4:OpR X (binaryOp .FloorDiv) (upR X.K bJ7):=eR (f:=fun i j=>.int (i / j)) aK3 (fun _ _ _ _=>jN) fun u w h k q=>by
 unfold bJ7 at q;split at q
 ·exact ⟨_,_,rfl,rfl,q.1,q.2⟩
 ·exact q.elim
def bY2 {j:Int} (h:bG j=true):0 < j/\j.natAbs.log2 < 9000:=by
 unfold bG at h;simp only [Bool.and_eq_true,Bool.or_eq_true,decide_eq_true_eq] at h;refine ⟨h.1,?_⟩;rcases h.2 with h2 | h2
 ·have h0:j.natAbs≠0:=by omega
  have:=(Nat.log2_lt h0 (k:=30)).mpr (by omega);omega
 ·omega
def bY3 {i j:Int} (h:gK i j=true):CMul i j:=by
 unfold gK at h;unfold CMul
 simpa only [Bool.and_eq_true,Bool.or_eq_true,decide_eq_true_eq] using h
def bY4 {i j:Int} (h:sT i j=true):aR3 i j:=by
 unfold sT at h;unfold aR3
 simpa only [Bool.and_eq_true,decide_eq_true_eq] using h
def aY9:OpR X (binaryOp .Add) (upR X.K (Of2 bW9)):=by
 refine gD (wX aT2 aY8) fun u w h Q q=>?_;obtain ⟨r,h',e,q⟩:=q;unfold bW9 at e;split at e
 ·cases e;exact .inl q
 ·split at e
  ·rename_i hl;cases e;exact .inl ⟨hl,q⟩
  ·cases e
 ·refine .inr ?_;unfold aK2;split at e
  ·rename_i e1 e2;try rw [e1,e2]
   split at e
   ·rename_i hl;cases e;exact ⟨hl,q⟩
   ·cases e
  ·cases e
def aZ0:OpR X (binaryOp .Mult) (upR X.K (Of2 bX0)):=by
 refine gD (wX aT4 aI3) fun u w h Q q=>?_;obtain ⟨r,h',e,q⟩:=q;unfold bX0 at e;split at e
 ·split at e
  ·rename_i hl;cases e;exact .inl ⟨bY3 hl,q⟩
  ·cases e
 ·split at e
  ·rename_i hl;cases e;exact .inr (.inl ⟨hl,q⟩)
  split at e
  ·rename_i hl;cases e;exact .inr (.inr ⟨hl,q⟩)
  ·cases e
 ·cases e
def aZ1 (op:Operator):OpR X (binaryOp op) (upR X.K (Of2 (dX op))):=by
 cases op with
 | Add=>exact aY9
 | Mult=>exact aZ0
 | Sub =>
  refine gD aT3 fun u w h Q ⟨a,h',e,q⟩=>?_;dsimp only [dX] at e;split at e
  ·cases e;exact q
  ·cases e
 | FloorDiv =>
  refine gD aK4 fun u w h Q ⟨a,h',e,q⟩=>?_;dsimp only [dX] at e;split at e
  ·split at e
   ·rename_i hd;cases e;exact ⟨bY2 hd,q⟩
   ·cases e
  ·cases e
 | Mod =>
  refine gD aT5 fun u w h Q ⟨a,h',e,q⟩=>?_;dsimp only [dX] at e;split at e
  ·split at e
   ·rename_i hd;cases e;exact ⟨hd,q⟩
   ·cases e
  ·cases e
 | Pow =>
  refine gD aT6 fun u w h Q ⟨a,h',e,q⟩=>?_;dsimp only [dX] at e;split at e
  ·split at e
   ·rename_i hd;cases e;exact ⟨bY4 hd,q⟩
   ·cases e
  ·cases e
 | RShift =>
  refine gD aW8 fun u w h Q ⟨a,h',e,q⟩=>?_;dsimp only [dX] at e;split at e
  ·split at e
   ·rename_i hd;cases e;exact ⟨hd,q⟩
   ·cases e
  ·cases e
 | BitAnd =>
  refine gD aH1 fun u w h Q ⟨a,h',e,q⟩=>?_;dsimp only [dX] at e;split at e
  ·cases e;exact q
  ·cases e
 | _ =>
  refine cN8 fun u w h Q ⟨a,h',e,q⟩=>?_;dsimp only [dX] at e;split at e<;>cases e
def tE {x:Str}:bJ (.str x)=if PyData.strOk x=true then some (Sum.inr x) else none:=rfl
def aK5 {K:Frag} {A:List Addr} {H:Hp} {z:PyData} {k:Key} {v:V} (e:bJ z=some k) (r:Rep K A H z v):v=kV k:=by
 cases z with
 | int i=>cases e;rw [Rep] at r;exact r
 | str x =>
  rw [tE] at e;split at e
  ·cases e;rw [Rep] at r;exact r.1
  ·cases e
 | _=>cases e
theorem fU {K:Frag} {A:List Addr} {H:Hp} (k:Key):∀ {kvs:List (PyData×PyData)} {r:List (Key×V)},RepKs K A H kvs r ->
  (∀ p,(kvs.find? fun p=>decide (bJ p.1=some k))=some p->∃ v,fR r k=some v/\Rep K A H p.2 v)/\((kvs.find? fun p=>decide (bJ p.1=some k))=none->fR r k=none)
 | [],r,h=>by
  rw [RepKs] at h;subst h;exact ⟨fun p e=>(nomatch e),fun _=>rfl⟩
 | (a,b)::kvs,r,h=>by
  rw [RepKs] at h;obtain ⟨q,r',rfl,hp,hr⟩:=h;rw [RepP] at hp;obtain ⟨h1,h2⟩:=fU k hr;obtain ⟨qk,qv⟩:=q
  by_cases e:qk=k
  ·subst e;have ek:decide (bJ a=some qk)=true:=decide_eq_true hp.1;refine ⟨fun p ep=>?_,fun ep=>?_⟩
   ·rw [List.find?_cons_of_pos (by exact ek)] at ep;cases ep;exact ⟨qv,by unfold fR;rw [List.find?_cons_of_pos (by simp)];rfl,hp.2⟩
   ·rw [List.find?_cons_of_pos (by exact ek)] at ep;cases ep
  ·have ek:¬ decide (bJ a=some k)=true:=fun z=>e (Option.some.inj (hp.1.symm.trans (of_decide_eq_true z)));have ev:fR ((qk,qv)::r') k=fR r' k:=by unfold fR;rw [List.find?_cons_of_neg (by simpa using e)]
   rw [ev];refine ⟨fun p ep=>?_,fun ep=>?_⟩
   ·rw [List.find?_cons_of_neg (by exact ek)] at ep;exact h1 p ep
   ·rw [List.find?_cons_of_neg (by exact ek)] at ep;exact h2 ep
theorem mK {α:Type} (p:α->Bool):∀ xs:List α,xs.any p=(xs.find? p).isSome
 | []=>rfl
 | x::r=>by
  rw [List.any_cons];cases e:p x with
  | true=>rw [List.find?_cons_of_pos e];rfl
  | false=>rw [List.find?_cons_of_neg (by rw [e];exact Bool.false_ne_true),<- mK p r];rfl
def mM {K:Frag} {A μ:List Addr} {H:Hp} {h:aA} {w:W} {v:V} {kvs:List (PyData×PyData)} (R:HeapRep K A μ h H) (r:RepW K A μ H w v) (e:ref h w=some (.dict kvs)):∃ a rs,v=.ref a/\Rd H a (.dK rs)/\RepKs K A H kvs rs:=by
 cases w with
 | d x =>
  cases e;have z:Rep K A H (.dict kvs) v:=r;rw [Rep] at z;obtain ⟨a,rs,e,h1,h2⟩:=z;exact ⟨a,rs,e,h1.2,h2⟩
 | v u=>cases e
 | c i =>
  obtain ⟨a,e1,rfl⟩:=r;dsimp only [DL.ref] at e;cases q:h[i]? with
  | none=>rw [q] at e;cases e
  | some cc =>
   cases cc with
   | t _ _ _=>rw [q] at e;cases e
   | o _ _=>rw [q] at e;cases e
   | r _=>rw [q] at e;cases e
   | l ys=>rw [q] at e;cases e
   | k ys =>
    rw [q] at e;cases e;obtain ⟨vs,z1,z2⟩:=R.vad i a kvs e1 q;exact ⟨a,vs,rfl,.inl z1,z2⟩
def zY (neg:Bool):D2:=fun u w h Q=>match ref h u,ref h w with
 | some d,some (.dict kvs)=>(match bJ d with
  | some k=>Q (.d (.bool (neg ^^ kvs.any fun p=>decide (bJ p.1=some k)))) h
  | none=>False)
 | _,_=>False
def wZ {K:Frag} {H:Hp} {z:PyData} {k:Key} {v:V} (e:bJ z=some k) (r:See K H z v):v=kV k:=by
 cases z with
 | int i=>cases e;rw [See] at r;exact r
 | str x =>
  rw [tE] at e;split at e
  ·cases e;rw [See] at r;exact r
  ·cases e
 | _=>cases e
def aK6 {A:Around} {n:Nat} (hr:Room n A):A.units+1 < cLine:=by have:=hr.un;omega
def aZ2 (hr:Room d X.A):OpR X (compareOp .In) (upR X.K (zY false)):=by
 intro pins s σ H x y v u Q I rx ry h;obtain ⟨a,b,h,A,μ,k,R,ra,rb,q,c⟩:=h;unfold zY at q;split at q
 ·rename_i z kvs ea eb;split at q
  ·rename_i kk ek;obtain ⟨p,rs,rfl,hd,rr⟩:=mM R rb eb;obtain ⟨f1,f2⟩:=fU kk rr;have ev:=wZ ek (bL R ra ea);subst ev;cases ry;refine cY6 (aK6 hr) I (o:=fR rs kk) (.inl ⟨rs,kk,hd,rfl,rfl⟩) rx fun s' I'=>?_;have e:(kvs.any fun p=>decide (bJ p.1=some kk))=(fR rs kk).isSome:=by
    rw [mK];cases z:kvs.find? (fun p=>decide (bJ p.1=some kk)) with
    | none=>rw [f2 z];rfl
    | some p=>obtain ⟨v,e1,_⟩:=f1 p z;rw [e1];rfl
   rw [e] at q;exact ⟨.bl _,H,I',rfl,c _ _ _ _ _ _ q .refl R (by simpa using bE)⟩
  ·exact q.elim
 ·exact q.elim
def vJ (hr:Room d X.A):OpR X (compareOp .NotIn) (upR X.K (zY true)):=by
 intro pins s σ H x y v u Q I rx ry h;obtain ⟨a,b,h,A,μ,k,R,ra,rb,q,c⟩:=h;unfold zY at q;split at q
 ·rename_i z kvs ea eb;split at q
  ·rename_i kk ek;obtain ⟨p,rs,rfl,hd,rr⟩:=mM R rb eb;obtain ⟨f1,f2⟩:=fU kk rr;have ev:=wZ ek (bL R ra ea);subst ev;cases ry;refine aS1 (aK6 hr) I (o:=fR rs kk) (.inl ⟨rs,kk,hd,rfl,rfl⟩) rx fun s' I'=>?_;have e:(kvs.any fun p=>decide (bJ p.1=some kk))=(fR rs kk).isSome:=by
    rw [mK];cases z:kvs.find? (fun p=>decide (bJ p.1=some kk)) with
    | none=>rw [f2 z];rfl
    | some p=>obtain ⟨v,e1,_⟩:=f1 p z;rw [e1];rfl
   rw [e] at q;exact ⟨.bl _,H,I',rfl,c _ _ _ _ _ _ q .refl R (by simpa using bE)⟩
  ·exact q.elim
 ·exact q.elim
def aZ3:D2:=fun u w h Q=>match ref h u,w with
 | some (.dict kvs),.d z=>(match bJ z with
  | some k=>(match kvs.find? fun p=>decide (bJ p.1=some k) with
   | some p=>Q (.d p.2) h
   | none=>False)
  | none=>False)
 | _,_=>False
def cN9 (hr:Room d X.A):IxR X (upR X.K aZ3):=by
 intro value slice pins s σ H x y v u Q I rx ry h hs;obtain ⟨a,b,h,A,μ,k,R,ra,rb,q,c⟩:=h;unfold aZ3 at q;split at q
 ·rename_i kvs z ea;split at q
  ·rename_i kk ek;split at q
   ·rename_i p ep;obtain ⟨pa,rs,rfl,hd,rr⟩:=mM R ra ea;obtain ⟨v0,e1,r1⟩:=(fU kk rr).1 p ep;have ev:=aK5 ek rb;subst ev;cases rx;have g:aE8 H pa (kV kk) (some v0):=.inl ⟨rs,kk,hd,rfl,e1.symm⟩;exact tail_any (rW I g) slot_dict_getitem.lookup (yK (aK6 hr) I g ry fun w' s' I' rw'=>⟨v0,H,I',rw',c _ _ _ _ _ _ q .refl R r1⟩) hs
   ·exact q.elim
  ·exact q.elim
 ·exact q.elim
def zZ (neg:Bool):D2:=fun x y h Q=>match ref h x,ref h y with
 | some a,some b=>(aI 64 a&&aI 64 b)=true/\Q (.d (.bool (neg ^^ PyData.eqv a b))) h
 | _,_=>False
def bY5 (hr:Room d X.A):OpR X (compareOp .Eq) (upR X.K (zZ false)):=fun pins s σ H x y v u Q I rx ry ⟨a,b,h,A,μ,k,R,ra,rb,q,c⟩=>by
 unfold zZ at q;split at q
 ·rename_i z1 z2 e1 e2;rw [Bool.and_eq_true] at q;refine bR6 hr pins s σ H x y v u Q I rx ry ⟨a,b,h,A,μ,k,R,ra,rb,?_,c⟩;unfold dEq;rw [e1,e2];exact ⟨cC R ra e1 q.1.1,cC R rb e2 q.1.2,by simpa using q.2⟩
 ·exact q.elim
def bY6 (hr:Room d X.A):OpR X (compareOp .NotEq) (upR X.K (zZ true)):=fun pins s σ H x y v u Q I rx ry ⟨a,b,h,A,μ,k,R,ra,rb,q,c⟩=>by
 unfold zZ at q;split at q
 ·rename_i z1 z2 e1 e2;rw [Bool.and_eq_true] at q;refine bR7 hr pins s σ H x y v u Q I rx ry ⟨a,b,h,A,μ,k,R,ra,rb,?_,c⟩;unfold dNe;rw [e1,e2];exact ⟨cC R ra e1 q.1.1,cC R rb e2 q.1.2,by simpa using q.2⟩
 ·exact q.elim
def aK7 (neg:Bool):D2:=fun x y h Q=>match ref h x,ref h y with
 | some d,some (.list xs)=>(aI 64 (.list xs)&&aI 64 d)=true/\Q (.d (.bool (neg ^^ xs.any fun z=>PyData.eqv z d))) h
 | some d,some (.tuple xs)=>(aI 64 (.tuple xs)&&aI 64 d)=true/\Q (.d (.bool (neg ^^ xs.any fun z=>PyData.eqv z d))) h
 | _,_=>False
def inP {neg:Bool} {f:Value->Value->Sem Value} (ho:OpR X f (upR X.K (zC neg))):OpR X f (upR X.K (aK7 neg)):=fun pins s σ H x y v u Q I rx ry ⟨a,b,h,A,μ,k,R,ra,rb,q,c⟩=>by
 refine ho pins s σ H x y v u Q I rx ry ⟨a,b,h,A,μ,k,R,ra,rb,?_,c⟩;unfold aK7 at q;unfold zC;split at q
 ·rename_i z1 xs e1 e2;rw [Bool.and_eq_true] at q;try rw [e1,e2]
  exact ⟨cC R rb e2 q.1.1,cC R ra e1 q.1.2,q.2⟩
 ·rename_i z1 xs e1 e2;rw [Bool.and_eq_true] at q;try rw [e1,e2]
  exact ⟨cC R rb e2 q.1.1,cC R ra e1 q.1.2,q.2⟩
 ·exact q.elim
def tF {neg:Bool} {u w:W} {h:aA} {b:Bool} {Q:DK} (e:xIn u w h=some b) (q:Q (.d (.bool (neg ^^ b))) h):aK7 neg u w h Q\/zY neg u w h Q:=by
 unfold xIn at e;split at e
 ·rename_i z1 z2;split at e
  ·rename_i hs;cases e;refine .inl ?_;unfold aK7;rw [z1,z2];exact ⟨hs,q⟩
  ·cases e
 ·rename_i z1 z2;split at e
  ·rename_i hs;cases e;refine .inl ?_;unfold aK7;rw [z1,z2];exact ⟨hs,q⟩
  ·cases e
 ·rename_i z1 z2;split at e
  ·rename_i k ek;cases e;refine .inr ?_;unfold zY;rw [z1,z2];dsimp only;rw [ek];exact q
  ·cases e
 ·cases e
def xA {neg:Bool} {u w:W} {h:aA} {b:Bool} {Q:DK} (e:xEq u w h=some b) (q:Q (.d (.bool (neg ^^ b))) h):zZ neg u w h Q:=by
 unfold xEq at e;split at e
 ·rename_i x y e1 e2;split at e
  ·rename_i hs;cases e;unfold zZ;rw [e1,e2];exact ⟨hs,q⟩
  ·cases e
 ·cases e
def dY (hr:Room d X.A) (op:CmpOp):OpR X (compareOp op) (upR X.K (Of2 fun u w h=>(cK op u w h).map asW)):=by
 have isc:∀ {u w:W} {b:Bool},xIs u w=some b->∃ x y,u=.d x/\w=.d y/\DL.isSame x y=some b:=fun {u w b} e=>by
  unfold xIs at e;split at e
  ·exact ⟨_,_,rfl,rfl,e⟩
  ·cases e
 cases op with
 | Eq =>
  refine gD (bY5 hr) fun u w h Q ⟨a,h',e,q⟩=>?_;obtain ⟨p,e1,e2⟩:=map_some e;obtain ⟨b,e3,e4⟩:=map_some e1;subst e4;cases e2;exact xA e3 (by simpa using q)
 | NotEq =>
  refine gD (bY6 hr) fun u w h Q ⟨a,h',e,q⟩=>?_;obtain ⟨p,e1,e2⟩:=map_some e;obtain ⟨b,e3,e4⟩:=map_some e1;subst e4;cases e2;exact xA e3 (by simpa using q)
 | Is =>
  refine gD bR8 fun u w h Q ⟨a,h',e,q⟩=>?_;obtain ⟨p,e1,e2⟩:=map_some e;obtain ⟨b,e3,e4⟩:=map_some e1;subst e4;cases e2;obtain ⟨x,y,rfl,rfl,e5⟩:=isc e3;show (match DL.isSame x y with | some k=>_ | none=>_);rw [e5];exact q
 | IsNot =>
  refine gD yN fun u w h Q ⟨a,h',e,q⟩=>?_;obtain ⟨p,e1,e2⟩:=map_some e;obtain ⟨b,e3,e4⟩:=map_some e1;subst e4;cases e2;obtain ⟨x,y,rfl,rfl,e5⟩:=isc e3;show (match DL.isSame x y with | some k=>_ | none=>_);rw [e5];exact q
 | In =>
  refine gD (wX (inP (bV3 hr)) (aZ2 hr)) fun u w h Q ⟨a,h',e,q⟩=>?_;obtain ⟨p,e1,e2⟩:=map_some e;obtain ⟨b,e3,e4⟩:=map_some e1;subst e4;cases e2;exact tF e3 (by simpa using q)
 | NotIn =>
  refine gD (wX (inP (zD hr)) (vJ hr)) fun u w h Q ⟨a,h',e,q⟩=>?_;obtain ⟨p,e1,e2⟩:=map_some e;obtain ⟨b,e3,e4⟩:=map_some e1;subst e4;cases e2;exact tF e3 (by simpa using q)
 | Lt =>
  refine gD bR2 fun u w h Q ⟨a,h',e,q⟩=>?_;obtain ⟨p,e1,e2⟩:=map_some e;dsimp only [cK,aJ0,Option.map] at e1;split at e1
  ·cases e1;cases e2;exact q
  ·cases e1
 | LtE =>
  refine gD bR3 fun u w h Q ⟨a,h',e,q⟩=>?_;obtain ⟨p,e1,e2⟩:=map_some e;dsimp only [cK,aJ0,Option.map] at e1;split at e1
  ·cases e1;cases e2;exact q
  ·cases e1
 | Gt =>
  refine gD bR4 fun u w h Q ⟨a,h',e,q⟩=>?_;obtain ⟨p,e1,e2⟩:=map_some e;dsimp only [cK,aJ0,Option.map] at e1;split at e1
  ·cases e1;cases e2;exact q
  ·cases e1
 | GtE =>
  refine gD bR5 fun u w h Q ⟨a,h',e,q⟩=>?_;obtain ⟨p,e1,e2⟩:=map_some e;dsimp only [cK,aJ0,Option.map] at e1;split at e1
  ·cases e1;cases e2;exact q
  ·cases e1
end
section
variable {X:Cx} {st:Sta} {d:Nat} {x:Str} {v:Evs} {a b c e:Expr} {es:List Expr} {pos:Pos}
def aM (h:aU e=true) (env:Env):starEach (e::es) env=(false,eval e env)::starEach es env:=by
 cases e<;>first | rfl | cases h
theorem cX:∀ (es:List Expr) (env:Env) (pos:Pos),es.all aU=true->(backTo pos (starEach es env)).any (·.1)=false
 | [],_,_,_=>rfl
 | e::es,env,pos,h=>by
  rw [List.all_cons,Bool.and_eq_true] at h;rw [aM h.1];show (false||(backTo pos (starEach es env)).any (·.1))=false;rw [cX es env pos h.2];rfl
theorem tG:∀ (es:List Expr) (env:Env) (pos:Pos),es.all aU=true->(backTo pos (starEach es env)).all (fun x=>!x.1)=true
 | [],_,_,_=>rfl
 | e::es,env,pos,h=>by
  rw [List.all_cons,Bool.and_eq_true] at h;rw [aM h.1];show (true&&(backTo pos (starEach es env)).all fun x=>!x.1)=true;rw [tG es env pos h.2];rfl
theorem eI:∀ (es:List Expr) (δ:DSt) (h:aA) (p:List W×aA),eX v st es δ h=some p->es.all aU=true
 | [],_,_,_,_=>rfl
 | e::es,δ,h,p,q=>by
  unfold eX at q;split at q
  ·rename_i hn;obtain ⟨a,e1,q⟩:=bind_some q;obtain ⟨b,e2,q⟩:=bind_some q;rw [List.all_cons,hn,eI es δ _ _ e2];rfl
  ·cases q
def aZ4 {x:XR W} (p:Prop) (hp:∀ δ h r,x δ h=some r->p) (he:p->DE X e (Of x)):DE X e (Of x):=by
 by_cases h:p
 ·exact he h
 ·exact bT fJ fun δ h' Q q=>by
   obtain ⟨r,h2,e,_⟩:=q;exact (h (hp _ _ _ e)).elim
def dC1 {x:XR (List PyData)} (p:Prop) (hp:∀ δ h r,x δ h=some r->p) (he:p->DF X e (Of x)):DF X e (Of x):=by
 by_cases h:p
 ·exact he h
 ·exact sY bI9 fun δ h' Q q=>by
   obtain ⟨r,h2,e,_⟩:=q;exact (h (hp _ _ _ e)).elim
theorem fG (S:Snd v) (G:bK X st d):∀ es,DA X es (Of (eX v st es))
 | []=>cN5 gG fun δ h Q q=>aY q
 | e::es=>by
  unfold eX;split
  ·rename_i hn;refine cN5 (dH (S.E G e) (fG S G es) (aM hn _)) fun δ h Q q=>?_;obtain ⟨w,h1,e1,q⟩:=bO q;obtain ⟨ws,h2,e2,q⟩:=bO q;exact ⟨w,h1,e1,ws,h2,e2,aY q⟩
  ·exact fun p pins s σ H Q I ⟨_,_,_,_,_,_,q,_⟩=>(bP q).elim
def bY7 {x:XR (List PyData)} (h:DF X e (Of x)):DE X e (Of (fC x)):=bT (bQ1 h) fun δ h Q q=>by
 obtain ⟨w,h',e,q⟩:=q;obtain ⟨p,e1,e2⟩:=bind_some e;cases e2;exact ⟨p.1,p.2,e1,q⟩
def xB {x:XR (List PyData)} (h:DF X e (Of x)):DE X e (Of (aQ x)):=bT (aF1 h) fun δ h Q q=>by
 obtain ⟨w,h',e,q⟩:=q;obtain ⟨p,e1,e2⟩:=bind_some e;cases e2;exact ⟨p.1,p.2,e1,q⟩
theorem pO (S:Snd v) (G:bK X st d):∀ eo,DO X eo (Of (zS v st eo))
 | none=>cN6 aT8 fun δ h Q q=>aY q
 | some e=>cN6 (aT9 (S.E G e)) fun δ h Q q=>by
  unfold zS at q;obtain ⟨w,h1,e1,q⟩:=bO q;refine ⟨w,h1,e1,?_⟩;dsimp only at q ⊢;split at q
  ·exact aY q
  ·exact (bP q).elim
theorem aK8 (S:Snd v) (G:bK X st d):∀ vs,DE X (.BoolOp .And vs pos) (Of (aJ1 v st vs))
 | []=>cU
 | [a]=>aF3 (S.E G a)
 | a::b::r=>bT (bR0 (S.E G a) (aK8 S G (b::r))) fun δ h Q q=>by
  obtain ⟨w,h1,e1,q⟩:=bO q;refine ⟨w,h1,e1,?_⟩;dsimp only at q ⊢;split at q
  ·exact (if_pos rfl).mpr q
  ·exact (if_neg Bool.false_ne_true).mpr (aY q)
  ·exact (bP q).elim
theorem bJ8 (S:Snd v) (G:bK X st d):∀ vs,DE X (.BoolOp .Or vs pos) (Of (bX3 v st vs))
 | []=>cU
 | [a]=>aF3 (S.E G a)
 | a::b::r=>bT (cJ9 (S.E G a) (bJ8 S G (b::r))) fun δ h Q q=>by
  obtain ⟨w,h1,e1,q⟩:=bO q;refine ⟨w,h1,e1,?_⟩;dsimp only at q ⊢;split at q
  ·exact (if_pos rfl).mpr (aY q)
  ·exact (if_neg Bool.false_ne_true).mpr q
  ·exact (bP q).elim
theorem aK9 (S:Snd v) (G:bK X st d):∀ vs,DW X (.BoolOp .And vs pos) (Of (aJ2 v st vs))
 | []=>fun wh pins s σ H Q I ⟨_,_,_,_,_,_,q,_⟩=>(bP q).elim
 | [a]=>aS9 (S.T G a)
 | a::b::r=>cN4 (bQ9 (S.T G a) (aK9 S G (b::r))) fun δ h Q q=>by
  obtain ⟨w,h1,e1,q⟩:=bO q;refine ⟨w,h1,e1,?_⟩;dsimp only at q ⊢;split at q
  ·rename_i hw;rw [if_pos hw];exact q
  ·rename_i hw;rw [if_neg hw];exact aY q
theorem bJ9 (S:Snd v) (G:bK X st d):∀ vs,DW X (.BoolOp .Or vs pos) (Of (bX4 v st vs))
 | []=>fun wh pins s σ H Q I ⟨_,_,_,_,_,_,q,_⟩=>(bP q).elim
 | [a]=>bQ8 (S.T G a)
 | a::b::r=>cN4 (cJ6 (S.T G a) (bJ9 S G (b::r))) fun δ h Q q=>by
  obtain ⟨w,h1,e1,q⟩:=bO q;refine ⟨w,h1,e1,?_⟩;dsimp only at q ⊢;split at q
  ·rename_i hw;rw [if_pos hw];exact aY q
  ·rename_i hw;rw [if_neg hw];exact q
def vK {f:Str->Option Int} (G:bK X st d) (e1:kO st b=some f):∃ y p q,b=.Name y q/\fF y=true/\Gl X y/\X.mg y=some (.ref p)/\TabK X.w X.K p f:=by
 cases b with
 | Name y q =>
  unfold kO at e1;dsimp only at e1;split at e1
  ·rename_i ht;rw [Bool.and_eq_true] at ht;obtain ⟨h1,h2⟩:=gO G ht.1;obtain ⟨p,h3,h4⟩:=G.tk _ _ e1;exact ⟨y,p,q,rfl,h1,h2,h3,h4⟩
  ·cases e1
 | _=>cases e1
section
variable {xa xb' xc xd:XR W} {op op' op'':CmpOp} {c':Expr}
def iR {x:XR Bool} {δ:DSt} {h:aA} {Q:DK} (q:Of (bD x) δ h Q):Of x δ h fun b h'=>Q (.d (.bool b)) h':=by
 obtain ⟨w,h',e,q⟩:=q;obtain ⟨⟨b,h2⟩,e1,e2⟩:=map_some e;cases e2;exact ⟨b,_,e1,q⟩
def cO0 {δ:DSt} {h:aA} {Q:Bool->aA->Prop} (q:Of (xC1 op xa xb') δ h Q):dOp (Of2 fun u w h=>(cK op u w h).map asW) (Of xa) (Of xb') δ h (fun w h'=>match w with | .d (.bool b)=>Q b h' | _=>False):=by
 obtain ⟨x,h1,e1,q⟩:=bO q;obtain ⟨y,h2,e2,q⟩:=bO q;obtain ⟨k,h3,e3,q⟩:=q;exact ⟨x,h1,e1,y,h2,e2,.d (.bool k),h3,congrArg (Option.map asW) e3,q⟩
def cO1 {δ:DSt} {h:aA} {Q:Bool->aA->Prop} (q:Of (xC2 op op' xa xb' xc) δ h Q):jR (Of2 fun u w h=>(cK op u w h).map asW) (Of2 fun u w h=>(cK op' u w h).map asW) (Of xa) (Of xb') (Of xc) δ h (fun w h'=>match w with | .d (.bool b)=>Q b h' | _=>False):=by
 obtain ⟨x,h1,e1,q⟩:=bO q;obtain ⟨y,h2,e2,q⟩:=bO q;obtain ⟨r,hr,e,q⟩:=q;obtain ⟨⟨k,h3⟩,e3,e⟩:=bind_some e;refine ⟨x,h1,e1,y,h2,e2,.d (.bool k),h3,congrArg (Option.map asW) e3,?_⟩;dsimp only at e ⊢;cases k with
 | false =>
  rw [if_neg Bool.false_ne_true] at e ⊢;cases e;exact q
 | true =>
  rw [if_pos rfl] at e ⊢;obtain ⟨⟨z,h4⟩,e4,e⟩:=bind_some e;exact ⟨z,h4,e4,.d (.bool r),hr,congrArg (Option.map asW) e,q⟩
def dC2 {δ:DSt} {h:aA} {Q:Bool->aA->Prop} (q:Of (xC3 op op' op'' xa xb' xc xd) δ h Q):lL (Of2 fun u w h=>(cK op u w h).map asW) (Of2 fun u w h=>(cK op' u w h).map asW) (Of2 fun u w h=>(cK op'' u w h).map asW) (Of xa) (Of xb') (Of xc) (Of xd) δ h (fun w h'=>match w with | .d (.bool b)=>Q b h' | _=>False):=by
 obtain ⟨x,h1,e1,q⟩:=bO q;obtain ⟨y,h2,e2,q⟩:=bO q;obtain ⟨r,hr,e,q⟩:=q;obtain ⟨⟨k,h3⟩,e3,e⟩:=bind_some e;refine ⟨x,h1,e1,y,h2,e2,.d (.bool k),h3,congrArg (Option.map asW) e3,?_⟩;dsimp only at e ⊢;cases k with
 | false =>
  rw [if_neg Bool.false_ne_true] at e ⊢;cases e;exact q
 | true =>
  rw [if_pos rfl] at e ⊢;obtain ⟨⟨z,h4⟩,e4,e⟩:=bind_some e;obtain ⟨⟨k',h5⟩,e5,e⟩:=bind_some e;refine ⟨z,h4,e4,.d (.bool k'),h5,congrArg (Option.map asW) e5,?_⟩;dsimp only at e ⊢;cases k' with
  | false =>
   rw [if_neg Bool.false_ne_true] at e ⊢;cases e;exact q
  | true =>
   rw [if_pos rfl] at e ⊢;obtain ⟨⟨z',h6⟩,e6,e⟩:=bind_some e;exact ⟨z',h6,e6,.d (.bool r),hr,congrArg (Option.map asW) e,q⟩
def aL0 {Q:DK} {w:W} {h:aA} (q:match w with | .d (.bool b)=>Q (.d (.bool b)) h | _=>False):Q w h:=by
 split at q
 ·exact q
 ·exact q.elim
end
def dZ {α:Type} {x:XR α} {δ:DSt} {h:aA} {Q Q':α->aA->Prop} (m:∀ a h,Q a h->Q' a h) (q:Of x δ h Q):Of x δ h Q':=by
 obtain ⟨a,h',e,q⟩:=q;exact ⟨a,h',e,m _ _ q⟩
def fL {f:W->W->aA->Option (W×aA)} {u w:W} {h:aA} {Q Q':DK} (m:∀ a h,Q a h->Q' a h) (q:Of2 f u w h Q):Of2 f u w h Q':=by
 obtain ⟨a,h',e,q⟩:=q;exact ⟨a,h',e,m _ _ q⟩
def aZ5 {f g:W->W->aA->Option (W×aA)} {xa xb' xc:XR W} {δ:DSt} {h:aA} {Q Q':DK} (m:∀ a h,Q a h->Q' a h) (q:jR (Of2 f) (Of2 g) (Of xa) (Of xb') (Of xc) δ h Q):jR (Of2 f) (Of2 g) (Of xa) (Of xb') (Of xc) δ h Q':=by
 refine dZ (fun x h1 q=>dZ (fun y h2 q=>fL (fun z h3 q=>?_) q) q) q;split at q
 ·rename_i k;cases k with
  | false=>exact m _ _ q
  | true=>exact dZ (fun u h4 q=>fL m q) q
 ·exact q.elim
def aZ6 {f g k:W->W->aA->Option (W×aA)} {xa xb' xc xd:XR W} {δ:DSt} {h:aA} {Q Q':DK} (m:∀ a h,Q a h->Q' a h) (q:lL (Of2 f) (Of2 g) (Of2 k) (Of xa) (Of xb') (Of xc) (Of xd) δ h Q):lL (Of2 f) (Of2 g) (Of2 k) (Of xa) (Of xb') (Of xc) (Of xd) δ h Q':=by
 refine dZ (fun x h1 q=>dZ (fun y h2 q=>fL (fun z h3 q=>?_) q) q) q;split at q
 ·rename_i k;cases k with
  | false=>exact m _ _ q
  | true =>
   refine dZ (fun u h4 q=>fL (fun z' h5 q=>?_) q) q;split at q
   ·rename_i k';cases k' with
    | false=>exact m _ _ q
    | true=>exact dZ (fun u' h6 q=>fL m q) q
   ·exact q.elim
 ·exact q.elim
theorem mO (S:Snd v) (G:bK X st d):∀ {ops:List CmpOp} {cs:List Expr},DE X (.Compare a ops cs pos) (Of (bD (jD v st a ops cs)))
 | [op],[b]=>by
  show DE X _ (Of (bD (match kO st b with
   | some f=>if op=.NotIn then pK f (v.E st a) else xno
   | none=>if behindInMarks op b=true then xno else xC1 op (v.E st a) (v.E st b))))
  cases ht:kO st b with
  | some f =>
   obtain ⟨y,p,pp,rfl,h1,h2,h3,h4⟩:=vK G ht;dsimp only;split
   ·rename_i ho;subst ho;refine bT (zE h4 h3 (S.E G a) h2 (bY h1)) fun δ h Q q=>?_;obtain ⟨w,h1,e1,q⟩:=bO (iR q);refine ⟨w,h1,e1,?_⟩;dsimp only at q ⊢;split at q
    ·have z:=aY q;exact z
    ·have z:=aY q;exact z
    ·exact (bP q).elim
   ·exact bT fJ fun δ h Q q=>(bP (iR q)).elim
  | none =>
   dsimp only;split
   ·exact bT fJ fun δ h Q q=>(bP (iR q)).elim
   ·rename_i hm;exact bT (bQ4 (dY G.rm op) (S.E G a) (S.E G b) (by simpa using hm)) fun δ h Q q=>dZ (fun x h1 q=>dZ (fun y h2 q=>fL (fun _ _=>aL0) q) q) (cO0 (iR q))
 | [op,op'],[b,c]=>by
  show DE X _ (Of (bD (if lastMarks [op,op'] [b,c]=true then xno else xC2 op op' (v.E st a) (v.E st b) (v.E st c))));split
  ·exact bT fJ fun δ h Q q=>(bP (iR q)).elim
  ·rename_i hm;exact bT (aG9 (dY G.rm op) (dY G.rm op') (S.E G a) (S.E G b) (S.E G c) (by simpa using hm)) fun δ h Q q=>aZ5 (fun _ _=>aL0) (cO1 (iR q))
 | [],_=>bT fJ fun δ h Q q=>(bP (iR q)).elim
 | [_],[]=>bT fJ fun δ h Q q=>(bP (iR q)).elim
 | [_],_::_::_=>bT fJ fun δ h Q q=>(bP (iR q)).elim
 | [_,_],[]=>bT fJ fun δ h Q q=>(bP (iR q)).elim
 | [_,_],[_]=>bT fJ fun δ h Q q=>(bP (iR q)).elim
 | [_,_],_::_::_::_=>bT fJ fun δ h Q q=>(bP (iR q)).elim
 | _::_::_::_,_=>bT fJ fun δ h Q q=>(bP (iR q)).elim
def aA0 (S:Snd v) (G:bK X st d):∀ {ops:List CmpOp} {cs:List Expr},DE X (.Compare a ops cs pos) (Of (bD (jX v st a ops cs))):=fun {ops cs}=>by
 rcases ops with _ | ⟨op,_ | ⟨op',_ | ⟨op'',_ | ⟨o4,r⟩⟩⟩⟩<;>first | exact mO S G | skip
 rcases cs with _ | ⟨b,_ | ⟨c,_ | ⟨d',_ | ⟨c4,r⟩⟩⟩⟩<;>first | exact mO S G | skip
 unfold jX;dsimp only;split
 ·exact bT fJ fun δ h Q q=>(bP (iR q)).elim
 ·rename_i hm;exact bT (zH (dY G.rm op) (dY G.rm op') (dY G.rm op'') (S.E G a) (S.E G b) (S.E G c) (S.E G d') (by simpa using hm)) fun δ h Q q=>aZ6 (fun _ _=>aL0) (dC2 (iR q))
theorem aA1 (S:Snd v) (G:bK X st d):∀ {ops:List CmpOp} {cs:List Expr},DT X (.Compare a ops cs pos) (Of (jD v st a ops cs))
 | [op],[b]=>by
  show DT X _ (Of (match kO st b with
   | some f=>if op=.NotIn then pK f (v.E st a) else xno
   | none=>if behindInMarks op b=true then xno else xC1 op (v.E st a) (v.E st b)))
  cases ht:kO st b with
  | some f =>
   obtain ⟨y,p,pp,rfl,h1,h2,h3,h4⟩:=vK G ht;dsimp only;split
   ·rename_i ho;subst ho;refine aJ8 (zF h4 h3 (S.E G a) h2 (bY h1)) fun δ h Q q=>?_;obtain ⟨w,h1,e1,q⟩:=bO q;refine ⟨w,h1,e1,?_⟩;dsimp only at q ⊢;split at q
    ·exact aY q
    ·exact aY q
    ·exact (bP q).elim
   ·exact lB
  | none =>
   dsimp only;split
   ·exact lB
   ·rename_i hm;exact aJ8 (bQ6 (dY G.rm op) (S.E G a) (S.E G b) (by simpa using hm)) fun δ h Q q=>cO0 q
 | [op,op'],[b,c]=>by
  show DT X _ (Of (if lastMarks [op,op'] [b,c]=true then xno else xC2 op op' (v.E st a) (v.E st b) (v.E st c)));split
  ·exact lB
  ·rename_i hm;exact aJ8 (aH0 (dY G.rm op) (dY G.rm op') (S.E G a) (S.E G b) (S.E G c) (by simpa using hm)) fun δ h Q q=>cO1 q
 | [],_=>lB
 | [_],[]=>lB
 | [_],_::_::_=>lB
 | [_,_],[]=>lB
 | [_,_],[_]=>lB
 | [_,_],_::_::_::_=>lB
 | _::_::_::_,_=>lB
def aL1:(∀ x y:PyData,peq x y=true->x=y)/\True:=⟨fun x=>by
 intro y h;exact (PyData.rec (motive_1:=fun x=>∀ y,peq x y=true->x=y) (motive_2:=fun xs=>∀ ys,peqs xs ys=true->xs=ys) (motive_3:=fun _=>True) (motive_4:=fun _=>True)
  (fun y h=>by cases y<;>first | rfl | (simp [peq] at h))
  (fun b y h=>by cases y<;>first | (simp only [peq] at h;rw [eq_of_beq h]) | (simp [peq] at h))
  (fun b y h=>by cases y<;>first | (simp only [peq] at h;rw [eq_of_beq h]) | (simp [peq] at h))
  (fun b y h=>by cases y<;>first | (simp only [peq] at h;rw [eq_of_beq h]) | (simp [peq] at h))
  (fun xs ih y h=>by cases y<;>first | (simp only [peq] at h;rw [ih _ h]) | (simp [peq] at h))
  (fun xs ih y h=>by cases y<;>first | (simp only [peq] at h;rw [ih _ h]) | (simp [peq] at h))
  (fun kvs _ y h=>by cases y<;>simp [peq] at h)
  (fun ys h=>by cases ys<;>first | rfl | (simp [peqs] at h))
  (fun x xs ih1 ih2 ys h=>by
   cases ys with
   | nil=>simp [peqs] at h
   | cons y ys =>
    simp only [peqs,Bool.and_eq_true] at h;rw [ih1 _ h.1,ih2 _ h.2])
  trivial (fun _ _ _ _=>trivial) (fun _ _ _ _=>trivial) x) y h,trivial⟩
theorem xC:∀ {xs ys:List PyData},peqs xs ys=true->xs=ys
 | [],[],_=>rfl
 | [],_::_,h=>by simp [peqs] at h
 | _::_,[],h=>by simp [peqs] at h
 | x::xs,y::ys,h=>by
  simp only [peqs,Bool.and_eq_true] at h;rw [aL1.1 x y h.1,xC h.2]
def lM {c:Option Nat} {xs:List PyData} {h:aA} (e:condB c xs h=true):DL.cond c xs h:=by
 cases c with
 | none=>trivial
 | some i =>
  show h[i]?=some (.l xs);unfold condB at e;dsimp only at e;split at e
  ·rename_i ys q;rw [q,xC e]
  ·cases e
def gP {tg:Expr} {y:XR W} (h:DE X e (Of y)):DI X tg e (OfI (cS y)):=zT (aV0 h) fun δ h Q q=>by
 obtain ⟨xs,c,h',e,q⟩:=q;obtain ⟨⟨w,h1⟩,e1,e⟩:=bind_some e;refine ⟨w,h1,e1,?_⟩;dsimp only at e ⊢;split at e
 ·cases e;exact q
 ·cases e;exact q
 ·split at e
  ·rename_i ys ey;try dsimp only
   try rw [ey]
   cases e;exact q
  ·cases e
 ·cases e
def aL2 {i j:Int} (h:lA i j=true):j - i<=16000000/\-(2^62)<=i/\i < 2^62/\-(2^62)<=j/\j < 2^62:=by
 unfold lA at h
 simpa only [Bool.and_eq_true,decide_eq_true_eq] using h
def aL3 {tg:Expr} {y:XR (List PyData×Option Nat)} (n:∀ δ h,y δ h=none):DI X tg e (OfI y):=zT cL2 fun δ h Q q=>by
 obtain ⟨_,_,_,e,_⟩:=q;rw [n] at e;cases e
def mQ (S:Snd v) (G:bK X st d) {tg:Expr}:∀ e,DI X tg e (OfI (mF v st tg e)):=fun e=>by
 cases e<;>first | exact gP (S.E G _) | exact aL3 fun _ _=>rfl | skip
 case Call f args kw p' =>
  cases f<;>first | exact gP (S.E G _) | skip
  case Name x p =>
   rcases args with _ | ⟨a,_ | ⟨b,_ | ⟨c,r⟩⟩⟩
   ·exact gP (S.E G _)
   ·cases kw with
    | cons _ _=>exact gP (S.E G _)
    | nil =>
     unfold mF;dsimp only;split
     ·rename_i hx;subst hx;split
      ·rename_i hc;simp only [Bool.and_eq_true] at hc;obtain ⟨⟨⟨ht,_⟩,hb⟩,hs⟩:=hc;refine zT (yT (G.bl _ hb) (dH (S.E G a) gG (aM hs _)) (gO G ht).2 (aM hs _)) fun δ h Q q=>?_;obtain ⟨xs,c,h',e,q⟩:=q;obtain ⟨⟨w,h1⟩,e1,e⟩:=bind_some e;refine ⟨w,h1,e1,?_⟩;dsimp only [vA] at e ⊢;split at e
       ·split at e
        ·rename_i hr;have z:=aL2 hr;cases e;exact ⟨⟨by omega,z.2.2.2.1⟩,q⟩
        ·cases e
       ·cases e
      ·exact aL3 fun _ _=>rfl
     ·split
      ·rename_i hx;subst hx;split
       ·rename_i hc;simp only [Bool.and_eq_true] at hc;obtain ⟨⟨⟨⟨ht,_⟩,hb⟩,hs⟩,htg⟩:=hc;have htu:∃ es n tp,tg=.Tuple es n tp:=by
         unfold sV at htg;split at htg
         ·exact ⟨_,_,_,rfl⟩
         ·cases htg
        obtain ⟨es,n,tp,rfl⟩:=htu;refine zT (aY2 (G.bl _ hb) (dH (S.E G a) gG (aM hs _)) (gO G ht).2 (aM hs _)) fun δ h Q q=>?_;obtain ⟨xs,c,h',e,q⟩:=q;obtain ⟨⟨u,h1⟩,e1,e⟩:=bind_some e;refine ⟨u,h1,e1,?_⟩;dsimp only [vA] at e ⊢;split at e
        ·rename_i xs' ex;cases e;exact ⟨u,xs',rfl,ex,q⟩
        ·cases e
       ·exact aL3 fun _ _=>rfl
      ·exact gP (S.E G _)
   ·cases kw with
    | cons _ _=>exact gP (S.E G _)
    | nil =>
     unfold mF;dsimp only;split
     ·rename_i hx;subst hx;split
      ·rename_i hc;simp only [Bool.and_eq_true] at hc;obtain ⟨⟨⟨⟨ht,_⟩,hb⟩,hs⟩,hs2⟩:=hc;refine zT (yU (G.bl _ hb) (dH (S.E G a) (dH (S.E G b) gG (aM hs2 _)) (aM hs _)) (gO G ht).2 (by rw [aM hs,aM hs2];rfl) (aM hs2 _)) fun δ h Q q=>?_;obtain ⟨xs,c,h',e,q⟩:=q;obtain ⟨⟨u,h1⟩,e1,e⟩:=bind_some e;obtain ⟨⟨w,h2⟩,e2,e⟩:=bind_some e;refine ⟨u,h1,e1,w,h2,e2,?_⟩;dsimp only [vA] at e ⊢;split at e
       ·split at e
        ·rename_i hr;have z:=aL2 hr;cases e;exact ⟨z,q⟩
        ·cases e
       ·cases e
      ·exact aL3 fun _ _=>rfl
     ·split
      ·rename_i hx;subst hx;split
       ·rename_i hc;simp only [Bool.and_eq_true] at hc;obtain ⟨⟨⟨⟨⟨ht,_⟩,hb⟩,hs⟩,hs2⟩,htg⟩:=hc;have htu:∃ es n tp,tg=.Tuple es n tp:=by
         unfold sV at htg;split at htg
         ·exact ⟨_,_,_,rfl⟩
         ·cases htg
        obtain ⟨es,n,tp,rfl⟩:=htu;refine zT (bW2 (G.bl _ hb) (dH (S.E G a) (dH (S.E G b) gG (aM hs2 _)) (aM hs _)) (gO G ht).2 (by rw [aM hs,aM hs2];rfl) (aM hs2 _)) fun δ h Q q=>?_;obtain ⟨xs,c,h',e,q⟩:=q;obtain ⟨⟨u,h1⟩,e1,e⟩:=bind_some e;obtain ⟨⟨w,h2⟩,e2,e⟩:=bind_some e;refine ⟨u,h1,e1,w,h2,e2,?_⟩;dsimp only [vA] at e ⊢;split at e
        ·rename_i xs' ys' ex ey;cases e;exact ⟨u,w,xs',ys',rfl,ex,ey,q⟩
        ·cases e
       ·exact aL3 fun _ _=>rfl
      ·exact gP (S.E G _)
   ·exact gP (S.E G _)
def vL (h:pL e=false) (env:Env) (y:Value):foldedSetIterable e env y=pure y:=by
 cases e<;>first | rfl | cases h
theorem jE {g:XG} {tt:XR Bool} {te:XR W} {c:Option Nat} {all:List PyData} {Q:List PyData->aA->Prop}:∀ (rest:List PyData) (δ:DSt) (h:aA) (ac r:List PyData) (h':aA),aW g tt te c all rest δ h ac=some (r,h')->Q r h'->sF (OfG g) (Of tt) (Of te) c all rest δ h ac Q
 | [],δ,h,ac,r,h',e,q=>by
  unfold aW at e;split at e
  ·rename_i hc;cases e;exact ⟨lM hc,q⟩
  ·cases e
 | x::rest,δ,h,ac,r,h',e,q=>by
  unfold aW at e;split at e
  ·rename_i hc;obtain ⟨⟨δ2,h2⟩,e1,e⟩:=bind_some e;obtain ⟨⟨k,h3⟩,e2,e⟩:=bind_some e;refine ⟨lM hc,δ2,h2,e1,k,h3,e2,?_⟩;dsimp only at e ⊢;split at e
   ·rename_i hk;rw [if_pos hk];obtain ⟨⟨w,h4⟩,e3,e⟩:=bind_some e;refine ⟨w,h4,e3,?_⟩;cases w with
    | d z=>exact jE rest δ2 h4 (ac++[z]) r h' e q
    | c i=>cases e
    | v u=>cases e
   ·rename_i hk;rw [if_neg hk];exact jE rest δ2 h3 ac r h' e q
  ·cases e
def aA2 (N:List Str) (sc:Scope):(sW N sc).length=(vG sc).length:=by unfold sW;rw [List.length_map]
def qR {N:List Str} {sc S:Scope} (h:wW N sc S=true):CompSc N (vG sc) (sW N sc) S sc:=by
 unfold wW at h;simp only [Bool.and_eq_true,decide_eq_true_eq,List.all_eq_true] at h;obtain ⟨h1,h2,h3,h4,h5,h6⟩:=h;refine ⟨h1,fun y hy e=>?_,fun y hy e=>?_,fun y hy e=>?_,h5,aA2 N sc,?_⟩
 ·have:=h2 y hy;rw [e] at this;simp at this
 ·have:=h3 y hy;rw [e] at this
  simpa using this
 ·have:=h4 y hy;rw [e] at this
  simpa using this
 ·rw [List.all_eq_true];exact h6
def fM (G:bK X st d) {sc:Scope} (hc:wW st.N sc st.S=true) (cl:List (Str×Addr)) (C:Addr) (s:Shared) (H:Hp) (fp:List Addr):bK (blk X (vG sc) sc cl C s H fp) (st.blk sc) d:=by
 have SC:=qR hc;refine ⟨G.bl,G.gc,G.tk,G.fn,rfl,?_,SC.nd,G.xe,G.calm,G.rm,(fun z=>nomatch z),SC.kind,G.fnW,G.cls,G.om,G.fo⟩;show relabel sc X.env=bX5 sc st.S;unfold relabel bX5 Env.kindOf;rw [G.S]
theorem aL4 (S:Snd v) (G:bK X st d):∀ ifs,DIf X ifs (Of (cN0 v st ifs))
 | []=>cN7 aV3 fun δ h Q q=>aY q
 | [c]=>aV4 (S.T G c)
 | _::_::_=>fun pins s σ H Q I ⟨_,_,_,_,_,_,q,_⟩=>(bP q).elim
def bY8 (S:Snd v) (G:bK X st d) {elt tg iter:Expr} {ifs:List Expr} {sc:Scope}:DF X (.ListComp elt [⟨tg,iter,ifs,0⟩] sc pos) (Of (pM v st elt tg iter ifs sc)):=by
 unfold pM;split
 ·rename_i hc;rw [Bool.and_eq_true] at hc;have hs:pL iter=false:=by simpa using hc.2
  refine sY (aV5 G.xe G.calm G.S G.N (qR hc.1) (mQ S G iter) (fun cl C s H fp=>S.G (fM G hc.1 cl C s H fp) tg) (fun cl C s H fp=>aL4 S (fM G hc.1 cl C s H fp) ifs)
   (fun cl C s H fp=>S.E (fM G hc.1 cl C s H fp) elt) (vL hs _)) fun δ h Q q=>?_
  obtain ⟨r,h',e,q⟩:=q;obtain ⟨⟨⟨xs,c⟩,h1⟩,e1,e⟩:=bind_some e;exact ⟨xs,c,h1,e1,jE _ _ _ _ _ _ e q⟩
 ·exact iQ
def cO2 (S:Snd v) (G:bK X st d):DF X (.List es pos) (Of (xPl (eX v st es))):=sY (bQ3 (fG S G es)) fun δ h Q q=>by
 obtain ⟨ws,h1,e1,q⟩:=bO q;refine ⟨ws,h1,e1,?_⟩;obtain ⟨r,h',e,q⟩:=q;dsimp only at e ⊢;split at e
 ·rename_i xs ex;try rw [ex]
  split at e
  ·rename_i hl;cases e;exact ⟨hl,q⟩
  ·cases e
 ·cases e
def kE (S:Snd v) (G:bK X st d):∀ e,DF X e (Of (dM v st e)):=fun e=>by
 cases e<;>first | exact iQ | skip
 case List=>exact cO2 S G
 case ListComp elt gs sc p =>
  cases gs with
  | nil=>exact iQ
  | cons g r =>
   obtain ⟨tg,iter,ifs,a'⟩:=g;cases r with
   | cons _ _=>exact iQ
   | nil =>
    unfold dM;dsimp only;split
    ·rename_i ha;subst ha;exact bY8 S G
    ·exact iQ
 case Subscript a s p =>
  cases s<;>first | exact iQ | skip
  case Slice lo hi stp p2 =>
   cases stp with
   | some _=>exact iQ
   | none =>
    unfold dM;dsimp only;refine sY (aF6 (S.E G a) (pO S G lo) (pO S G hi)) fun δ h Q q=>?_;obtain ⟨x,h1,e1,q⟩:=bO q;obtain ⟨l,h2,e2,q⟩:=bO q;obtain ⟨u,h3,e3,q⟩:=bO q;obtain ⟨r,h',e,q⟩:=q;refine ⟨x,h1,e1,l,h2,e2,u,h3,e3,?_⟩;dsimp only at e ⊢;split at e
    ·rename_i xs ex;try rw [ex]
     cases e;exact q
    ·cases e
 case BinOp a op b p' =>
  cases op<;>first | exact iQ | skip
  case Add =>
   unfold dM;dsimp only;refine sY (aX7 (S.E G a) (S.E G b)) fun δ h Q q=>?_;obtain ⟨x,h1,e1,q⟩:=bO q;obtain ⟨y,h2,e2,q⟩:=bO q;obtain ⟨r,h',e,q⟩:=q;refine ⟨x,h1,e1,y,h2,e2,?_⟩;dsimp only at e ⊢;split at e
   ·rename_i xs ys ex ey;try rw [ex,ey]
    split at e
    ·rename_i hl;cases e;exact ⟨hl,q⟩
    ·cases e
   ·cases e
  case Mult =>
   cases a<;>first | exact iQ | skip
   case List es p =>
    unfold dM;dsimp only;refine sY (bV9 (bY7 (cO2 S G)) (S.E G b)) fun δ h Q q=>?_;obtain ⟨x,h1,e1,q⟩:=bO q;obtain ⟨y,h2,e2,q⟩:=bO q;obtain ⟨r,h',e,q⟩:=q;refine ⟨x,h1,e1,y,h2,e2,?_⟩;dsimp only at e ⊢;split at e
    ·split at e
     ·rename_i xs ex;try dsimp only
      try rw [ex]
      split at e
      ·rename_i hl;cases e;exact ⟨hl,q⟩
      ·cases e
     ·cases e
    ·cases e
 case Call f args kw p' =>
  cases f<;>first | exact iQ | skip
  case Name x p =>
   cases args with
   | nil=>exact iQ
   | cons a es =>
    cases kw with
    | cons _ _=>exact iQ
    | nil =>
     unfold dM;dsimp only;split
     ·rename_i hx;subst hx;split
      ·rename_i hc;simp only [Bool.and_eq_true] at hc;obtain ⟨⟨ht,_⟩,hb⟩:=hc;refine dC1 ((a::es).all aU=true) (fun δ h r e=>?_) fun hst=>?_
       ·obtain ⟨p,e1,_⟩:=bind_some e;exact eI _ _ _ _ e1
       ·have hst':=hst;rw [List.all_cons,Bool.and_eq_true] at hst';refine sY (aU1 (G.bl _ hb) (fG S G (a::es)) (gO G ht).2 (aM hst'.1 _) (cX es _ _ hst'.2)) fun δ h Q q=>?_;obtain ⟨ws,h1,e1,q⟩:=bO q;obtain ⟨r,h',e,q⟩:=q;refine ⟨ws,h1,e1,?_⟩;dsimp only at e ⊢;split at e
        ·split at e
         ·rename_i xs ex;try dsimp only
          try rw [ex]
          cases e;exact q
         ·rename_i xs ex;try dsimp only
          try rw [ex]
          cases e;exact q
         ·cases e
        ·cases e
      ·exact iQ
     ·exact iQ
end
section
variable {X:Cx} {st:Sta} {d:Nat} {x:Str} {v:Evs} {a b c e:Expr} {es:List Expr} {pos:Pos}
def bfun_ok (G:bK X st d) {g:List W->aA->Option (W×aA)} (e:bX1 x=some g) :
  (∃ id,bootBuiltins x=some (.builtin id)/\bZ X (.builtin id) (upC X.K (OfC g)))\/∃ T,bootBuiltins x=some (.type T)/\bZ X (.type T) (upC X.K (OfC g)):=by
 unfold bX1 at e;split at e
 ·rename_i hx;subst hx;cases e;refine .inl ⟨"len",rfl,vI yR fun ws h Q ⟨r,h',e,q⟩=>?_⟩;unfold cN at e;unfold bS0;split at e
  ·split at e
   ·rename_i ey;dsimp only;rw [ey];cases e;exact q
   ·rename_i ey;dsimp only;rw [ey];cases e;exact q
   ·cases e
  ·cases e
 split at e
 ·rename_i hx;subst hx;cases e;refine .inr ⟨"tuple",rfl,vI sD fun ws h Q ⟨r,h',e,q⟩=>?_⟩;unfold gM at e;unfold vB;split at e
  ·split at e
   ·rename_i ey;dsimp only;rw [ey];cases e;exact q
   ·rename_i ey;dsimp only;rw [ey];cases e;exact q
   ·cases e
  ·cases e
 split at e
 ·rename_i hx;subst hx;cases e;refine .inl ⟨"all",rfl,vI (zA G.calm) fun ws h Q ⟨r,h',e,q⟩=>?_⟩;unfold kZ at e;unfold bT1;split at e
  ·split at e
   ·rename_i ey;dsimp only;rw [ey];obtain ⟨bs,e1,e2⟩:=map_some e;dsimp only;rw [e1];cases e2;exact q
   ·cases e
  ·cases e
 split at e
 ·rename_i hx;subst hx;cases e;exact .inl ⟨"any",rfl,zP G.calm⟩
 split at e
 ·rename_i hx;subst hx;cases e;exact .inr ⟨"int",rfl,zR⟩
 ·cases e
def bY9 {T:Str} {Ts:String} (e:bX2 T=some Ts):kM Ts/\bootBuiltins T=some (.type Ts):=by
 unfold bX2 at e
 repeat' split at e
 all_goals first | (rename_i h;subst h;cases e;exact ⟨aV6,rfl⟩) | (rename_i h;subst h;cases e;exact ⟨aG6,rfl⟩) | (rename_i h;subst h;cases e;exact ⟨aV7,rfl⟩) | (rename_i h;subst h;cases e;exact ⟨zB,rfl⟩) | (rename_i h;subst h;cases e;exact ⟨aG7,rfl⟩) | cases e
def base_of {o:Expr} (h:qQ o=true) (m:Str) (env:Env):attributeBase o m env (eval o env)=eval o env:=by
 cases o<;>first | rfl | cases h
def aL5 (h:(e::es).all aU=true) (hl:(e::es).length < 29) (env:Env) (cpos:Pos) :
  ((backTo cpos (starEach (e::es) env)).all (fun x=>!x.1)&&(backToKw cpos (keywordEach [] env)).all (fun x=>x.1.isSome)
   && decide ((e::es).length+([]:List Keyword).length+(if ([]:List Keyword).isEmpty then 0 else 1) < 30))=true:=by
 rw [tG _ _ _ h];have:(e::es).length+0+0 < 30:=by omega
 show (true&&true&&decide _)=true;simp only [Bool.true_and,decide_eq_true_eq];exact this
def aL6 (S:Snd v) (G:bK X st d) {o:Expr} {m:Str} {apos:Pos} {g:W->List W->aA->Option (W×aA)} (ho:qQ o=true) (hl:(apos.endLine==pos.line)=true) (hn:(a::es).length < 29) (hm:bX6 m=some g) :
  DE X (.Call (.Attribute o m apos) (a::es) [] pos) (Of (bJ4 v st o m g (a::es))):=by
 refine aZ4 ((a::es).all aU=true) (fun δ h r e=>?_) fun hst=>?_
 ·obtain ⟨p,e1,e⟩:=bind_some e;dsimp only at e;split at e
  ·obtain ⟨p,e2,e⟩:=bind_some e;exact eI _ _ _ _ e2
  ·cases e
 have hst':=hst;rw [List.all_cons,Bool.and_eq_true] at hst';unfold bX6 at hm;split at hm
 ·rename_i hx;subst hx;cases hm;refine bT (bS8 (S.E G o) (fG S G (a::es)) (base_of ho _ _) (aL5 hst hn _ _) hl (aM hst'.1 _) (cX _ _ _ hst'.2)) fun δ h Q q=>?_;obtain ⟨w,h1,e1,q⟩:=bO q;refine ⟨w,h1,e1,?_⟩;obtain ⟨r,h',e,q⟩:=q;dsimp only at e ⊢;split at e
  ·rename_i hp;obtain ⟨⟨ws,h2⟩,e2,e⟩:=bind_some e;dsimp only at e;split at e
   ·rename_i j x _;dsimp only;have hp':∃ ys,h1[j]?=some (.l ys):=by
     unfold vH at hp;rw [if_pos rfl] at hp;dsimp only at hp;split at hp
     ·rename_i ys ey;exact ⟨ys,ey⟩
     ·cases hp
    obtain ⟨ys,ey⟩:=hp';rw [ey];refine ⟨_,h2,e2,?_⟩;dsimp only;split at e
    ·rename_i xs ex;rw [ex];split at e
     ·rename_i hl;cases e;exact ⟨hl,q⟩
     ·cases e
    ·cases e
   ·cases e
  ·cases e
 ·cases hm
def cO3 (S:Snd v) (G:bK X st d) {o:Expr} {apos:Pos} (ho:qQ o=true) (hl:(apos.endLine==pos.line)=true) (ha:aU a=true) :
  DE X (.Call (.Attribute o "pop" apos) [a] [] pos) (Of (cN1 v st o a)):=by
 intro pins s σ H Q I hq;obtain ⟨δ,h,A,μ,k,R,⟨r,h',e,q⟩,c⟩:=hq;obtain ⟨⟨w,h1⟩,e1,e⟩:=bind_some e;dsimp only at e;have hst:[a].all aU=true:=by simp [ha]
 split at e
 ·rename_i j;split at e
  ·rename_i xs ex;obtain ⟨⟨ws,h2⟩,e2,e⟩:=bind_some e;refine bW5 (S.E G o) (fG S G [a]) (base_of ho _ _) (aL5 hst (by simp) _ _) hl (aM ha _) (cX _ _ _ rfl) pins s σ H Q I ⟨δ,h,A,μ,k,R,⟨.c j,h1,e1,?_⟩,c⟩;dsimp only;rw [ex];refine ⟨ws,h2,e2,?_⟩;unfold aJ3 at e;dsimp only at e ⊢;split at e
   ·rename_i i ys ey;obtain ⟨n,e3,e⟩:=bind_some e;obtain ⟨x,e4,e⟩:=bind_some e;split at e
    ·rename_i hi;cases e;try rw [ey]
     exact ⟨n,x,e3,e4,hi.1,hi.2,q⟩
    ·cases e
   ·cases e
  ·cases e
 ·cases e
def bZ0 (S:Snd v) (G:bK X st d) {f:Expr} {args:List Expr}:DE X (.Call f args [] pos) (Of (aJ4 v st f args pos)):=by
 unfold aJ4;split
 ·rename_i y p;split
  ·rename_i hc;rw [Bool.and_eq_true] at hc;obtain ⟨ht,hs⟩:=hc;obtain ⟨hn,hg⟩:=gO G ht;split
   ·rename_i m hm;split
    ·exact cU
    ·rename_i a es;refine aZ4 ((a::es).all aU=true) (fun δ h r e=>?_) fun hst=>?_
     ·obtain ⟨p,e1,e⟩:=bind_some e;exact eI _ _ _ _ e1
     have hst':=hst;rw [List.all_cons,Bool.and_eq_true] at hst';refine bT (aI6 (G.fnW y m hm) G.rm (fG S G (a::es)) hg (bY hn) (aM hst'.1 _) (cX _ _ _ hst'.2)) fun δ h Q q=>?_;obtain ⟨ws,h1,e1,q⟩:=bO q;exact ⟨ws,h1,e1,q⟩
   split
   ·rename_i m hm;split
    ·exact cU
    ·rename_i a es;refine aZ4 ((a::es).all aU=true) (fun δ h r e=>?_) fun hst=>?_
     ·obtain ⟨p,e1,e⟩:=bind_some e;exact eI _ _ _ _ e1
     have hst':=hst;rw [List.all_cons,Bool.and_eq_true] at hst';refine bT (aU3 (G.fn y m hm) G.rm (fG S G (a::es)) hg (bY hn) (aM hst'.1 _) (cX _ _ _ hst'.2)) fun δ h Q q=>?_;obtain ⟨ws,h1,e1,q⟩:=bO q;refine ⟨ws,h1,e1,?_⟩;obtain ⟨r,h',e,q⟩:=q;obtain ⟨p,e2,e3⟩:=bind_some e;cases e3;exact ⟨p.1,p.2,e2,q⟩
   ·split
    ·rename_i hb;split
     ·rename_i g hg';split
      ·exact cU
      ·rename_i a es;refine aZ4 ((a::es).all aU=true) (fun δ h r e=>?_) fun hst=>?_
       ·obtain ⟨p,e1,e⟩:=bind_some e;exact eI _ _ _ _ e1
       have hst':=hst;rw [List.all_cons,Bool.and_eq_true] at hst';rcases bfun_ok G hg' with ⟨id,hv,hcr⟩ | ⟨T,hv,hcr⟩
       ·refine bT (aF7 hcr (G.bl _ hb) (fG S G (a::es)) hv hg (kD hn) (bY hn) (aM hst'.1 _) (cX _ _ _ hst'.2)) fun δ h Q q=>?_;obtain ⟨ws,h1,e1,q⟩:=bO q;exact ⟨ws,h1,e1,q⟩
       ·refine bT (yQ hcr (G.bl _ hb) (fG S G (a::es)) hv hg (kD hn) (bY hn) (aM hst'.1 _) (cX _ _ _ hst'.2)) fun δ h Q q=>?_;obtain ⟨ws,h1,e1,q⟩:=bO q;exact ⟨ws,h1,e1,q⟩
     ·split
      ·rename_i hx;subst hx;split
       ·rename_i e0 T pT;split
        ·rename_i hc;simp only [Bool.and_eq_true] at hc;obtain ⟨⟨⟨h1,h2⟩,h3⟩,h4⟩:=hc;obtain ⟨hnT,hgT⟩:=gO G h2;split
         ·rename_i Ts hT;obtain ⟨hk,hv⟩:=bY9 hT;refine bT (bT2 hk (G.bl _ hb) (G.bl _ h4) (S.E G e0) hv hg hgT (kD hnT) (bY hnT) (aM h1 _) (aM rfl _) (cX _ _ _ rfl)) fun δ h Q q=>?_;obtain ⟨w,h1,e1,q⟩:=bO q;refine ⟨w,h1,e1,?_⟩;obtain ⟨r,h',e,q⟩:=q;obtain ⟨z,e2,e3⟩:=bind_some e;rw [e2];cases e3;exact q
         ·exact cU
        ·exact cU
       ·exact cU
      ·exact xB (kE S G _)
    ·exact cU
  ·exact cU
 ·rename_i o m apos;split
  ·rename_i hc;rw [Bool.and_eq_true] at hc;split
   ·exact cU
   ·rename_i a es;split
    ·rename_i hm;subst hm;split
     ·split
      ·rename_i hz;exact cO3 S G hc.1 hc.2 hz
      ·exact cU
     ·exact cU
    split
    ·rename_i hl;split
     ·rename_i g hg;exact aL6 S G hc.1 hc.2 (by simpa using hl) hg
     ·exact cU
    ·exact cU
  ·exact cU
 ·exact cU
def aZ7 (h:aY6 e=false):iW e:=by
 intro o i;cases e<;>first | rfl | cases h
def bZ1 (S:Snd v) (G:bK X st d):∀ e,DE X e (Of (kP v st e)):=fun e=>by
 cases e<;>first | exact cU | skip
 case Name=>exact bY1 G
 case Constant=>exact aY7
 case BinOp a op b p =>
  unfold kP;dsimp only;split
  ·rename_i es p';exact xB (kE S G (.BinOp (.List es p') .Mult b p))
  ·refine bT (cJ5 (aZ1 op) (S.E G a) (S.E G b)) fun δ h Q q=>?_;obtain ⟨x,h1,e1,q⟩:=bO q;obtain ⟨y,h2,e2,q⟩:=bO q;exact ⟨x,h1,e1,y,h2,e2,q⟩
 case Compare=>exact aA0 S G
 case BoolOp op vs p=>cases op with
  | And=>exact aK8 S G _
  | Or=>exact bJ8 S G _
 case UnaryOp op a p =>
  cases op<;>first | exact cU | skip
  case Not =>
   unfold kP;dsimp only;refine bT (bR1 (S.E G a)) fun δ h Q q=>?_;obtain ⟨w,h1,e1,q⟩:=bO q;refine ⟨w,h1,e1,?_⟩;dsimp only at q ⊢;split at q
   ·exact aY q
   ·exact (bP q).elim
  case USub =>
   unfold kP;dsimp only;refine bT (bV4 (S.E G a)) fun δ h Q q=>?_;obtain ⟨w,h1,e1,q⟩:=bO q;refine ⟨w,h1,e1,?_⟩;dsimp only at q ⊢;split at q
   ·exact aY q
   ·exact (bP q).elim
 case IfExp c a b p =>
  unfold kP;dsimp only;refine bT (aF4 (S.T G c) (S.E G a) (S.E G b)) fun δ h Q q=>?_;obtain ⟨t,h1,e1,q⟩:=bO q;refine ⟨t,h1,e1,?_⟩;dsimp only at q ⊢;split at q
  ·rename_i ht;rw [if_pos ht];exact q
  ·rename_i ht;rw [if_neg ht];exact q
 case Tuple es k p =>
  unfold kP;dsimp only;refine bT (bQ2 (fG S G es)) fun δ h Q q=>?_;obtain ⟨xs,h1,e1,q⟩:=bO q;obtain ⟨⟨ws,h2⟩,e2,e3⟩:=bind_some e1;refine ⟨ws,h2,e2,?_⟩;dsimp only at e3 ⊢;split at e3
  ·rename_i ys ey;try rw [ey]
   split at e3
   ·rename_i hl;cases e3;exact ⟨hl,aY q⟩
   ·cases e3
  ·cases e3
 case List=>exact xB (kE S G _)
 case ListComp=>exact xB (kE S G _)
 case Subscript a s p =>
  unfold kP;dsimp only;split
  ·rename_i lo hi p2;refine bT (aJ9 (bR9 (S.E G a) (pO S G lo) (pO S G hi)) (aF1 (aF6 (S.E G a) (pO S G lo) (pO S G hi)))) fun δ h Q q=>?_;obtain ⟨x,h1,e1,q⟩:=bO q;obtain ⟨l,h2,e2,q⟩:=bO q;obtain ⟨u,h3,e3,q⟩:=bO q;obtain ⟨r,h',e,q⟩:=q;dsimp only at e;unfold xSl at e;split at e
   ·cases e;exact .inl ⟨_,h1,e1,l,h2,e2,u,_,e3,q⟩
   ·split at e
    ·rename_i xs ex;cases e;refine .inr ⟨x,h1,e1,l,h2,e2,u,_,e3,?_⟩;dsimp only;rw [ex];exact q
    ·cases e
  ·split
   ·exact cU
   ·rename_i hsl;have hs:iW s:=aZ7 (by simpa using hsl);split
    ·rename_i f hf;obtain ⟨y,p,pp,rfl,h1,h2,h3,h4⟩:=vK G hf;refine bT (bV5 h4 h3 (S.E G s) h2 (bY h1) hs) fun δ h Q q=>?_;obtain ⟨w,h1,e1,q⟩:=bO q;refine ⟨w,h1,e1,?_⟩;dsimp only at q ⊢;split at q
     ·split at q
      ·rename_i ei;try dsimp only
       try rw [ei]
       exact aY q
      ·exact (bP q).elim
     ·exact (bP q).elim
    ·refine bT (aJ9 (bW6 (S.E G a) (S.E G s) hs) (aK (wR (cN9 G.rm) (S.E G a) (S.E G s) hs) fun _ _ _ q=>rZ q)) fun δ h Q q=>?_;obtain ⟨x,h1,e1,q⟩:=bO q;obtain ⟨y,h2,e2,q⟩:=bO q;obtain ⟨r,h',e,q⟩:=q;dsimp only at e;unfold xIx at e;split at e
     ·rename_i xs i ex;obtain ⟨z,e3,e4⟩:=map_some e;cases e4;refine .inl ⟨x,h1,e1,_,h2,e2,.inl ?_⟩;show dIx x _ h2 Q;unfold dIx;rw [ex];dsimp only;rw [e3];exact q
     ·rename_i xs i ex;obtain ⟨z,e3,e4⟩:=map_some e;cases e4;refine .inl ⟨x,h1,e1,_,h2,e2,.inl ?_⟩;show dIx x _ h2 Q;unfold dIx;rw [ex];dsimp only;rw [e3];exact q
     ·rename_i kvs z ex;split at e
      ·rename_i k ek;obtain ⟨p,e3,e4⟩:=map_some e;cases e4;refine .inr ⟨x,h1,e1,_,h2,e2,?_⟩;show aZ3 x _ h2 Q;unfold aZ3;rw [ex];dsimp only;rw [ek];dsimp only;rw [e3];exact q
      ·cases e
     ·cases e
 case Call f args kw p =>
  cases kw with
  | cons _ _=>exact cU
  | nil=>exact bZ0 S G
 case Dict ks vs p =>
  cases ks with
  | cons _ _=>exact cU
  | nil =>
   cases vs with
   | cons _ _=>exact cU
   | nil=>exact bT aH5 fun δ h Q q=>aY q
def bZ2 (S:Snd v) (G:bK X st d):∀ e,DT X e (Of (aJ5 v st e)):=fun e=>by
 have val:∀ {e:Expr},(∀ whole,isTrue e X.env whole=(do let v <- whole;standAt e.pos;holding [v] (truthy v)))->DT X e (Of (xb (v.E st e) fun w=>(match w with
  | .d (.bool b)=>aD b
  | _=>xno))):=fun {e} he=>aJ8 (bQ5 (S.E G e) he) fun δ h Q q=>by
   obtain ⟨w,h1,e1,q⟩:=bO q;refine ⟨w,h1,e1,?_⟩;dsimp only at q ⊢;split at q
   ·exact aY q
   ·exact (bP q).elim
 cases e<;>first | exact val fun _=>rfl | skip
 case UnaryOp op a p =>
  cases op<;>first | exact val fun _=>rfl | skip
  unfold aJ5;dsimp only;refine aJ8 (bQ7 (S.T G a)) fun δ h Q q=>?_;obtain ⟨w,h1,e1,q⟩:=bO q;exact ⟨w,h1,e1,aY q⟩
 case BoolOp op vs p=>cases op with
  | And=>exact (aK9 S G _).dt
  | Or=>exact (bJ9 S G _).dt
 case Compare=>exact aA1 S G
 case IfExp=>exact lB
end
section
variable {X:Cx} {st:Sta} {d:Nat} {x:Str} {v:Evs} {a b c e:Expr} {es:List Expr} {pos:Pos}
def tH (h:aU e=true) (env:Env):(assignEach (e::es) env).map (·.2)=assign e env::(assignEach es env).map (·.2):=by
 cases e<;>first | rfl | cases h
theorem mS:∀ (es:List Expr) (env:Env),(assignEach es env).length=es.length
 | [],_=>rfl
 | e::es,env=>by
  cases e<;>(show (assignEach es env).length+1=es.length+1;rw [mS es env])
theorem kR:∀ (es:List Expr) (env:Env),es.all aU=true->(assignEach es env).findIdx? (·.1)=none
 | [],_,_=>rfl
 | e::es,env,h=>by
  rw [List.all_cons,Bool.and_eq_true] at h;have ih:=kR es env h.2;rw [List.findIdx?_eq_none_iff] at ih ⊢;intro p hp;have:assignEach (e::es) env=(false,assign e env)::assignEach es env:=by cases e<;>first | rfl | cases h.1
  rw [this] at hp;rcases List.mem_cons.mp hp with z | z
  ·rw [z]
  ·exact ih p z
theorem bK0:∀ (es:List Expr) (xs:List PyData) (δ:DSt) (h:aA) (p:DSt×aA),cN2 v st es xs δ h=some p->xs.length=es.length
 | [],[],_,_,_,_=>rfl
 | [],_::_,_,_,_,e=>by cases e
 | _::_,[],_,_,_,e=>by cases e
 | e::es,x::xs,δ,h,p,q=>by
  obtain ⟨⟨δ2,h2⟩,_,q⟩:=bind_some (show (v.G st e (.d x) δ h).bind _=some p from q);rw [List.length_cons,List.length_cons,bK0 es xs _ _ p q]
theorem bK1 (S:Snd v) (G:bK X st d):∀ es,es.all aU=true->DGs X es (fun xs δ h Q=>∃ δ' h',cN2 v st es xs δ h=some (δ',h')/\Q δ' h')
 | [],_=>iZ aU8 fun vs σ H Q ⟨xs,δ,h,A,μ,k,R,r,⟨δ',h',e,q⟩,c⟩=>by
  refine ⟨xs,δ,h,A,μ,k,R,r,?_,c⟩;cases xs with
  | nil=>cases e;exact ⟨rfl,q⟩
  | cons y ys=>cases e
 | e::es,hs=>by
  rw [List.all_cons,Bool.and_eq_true] at hs;refine iZ (aF9 (S.G G e) (bK1 S G es hs.2) (tH hs.1 _)) fun vs σ H Q ⟨xs,δ,h,A,μ,k,R,r,⟨δ',h',e,q⟩,c⟩=>?_;refine ⟨xs,δ,h,A,μ,k,R,r,?_,c⟩;cases xs with
  | nil=>cases e
  | cons y ys =>
   obtain ⟨⟨δ2,h2⟩,e1,e⟩:=bind_some e;exact ⟨δ2,h2,e1,δ',h',e,q⟩
def vM {o i:Expr} (h:aY6 i=false) (env:Env) (v:Value):assign (.Subscript o i pos) env v=(do
   let ov <- holding [v] (eval o env)
   let iv <- holding [v,ov] (eval i env)
   standAt pos
   holding [v,ov,iv] (setItem ov iv v)
   release [v,ov,iv] []):=by
 cases i<;>first | rfl | cases h
def bZ3 (S:Snd v) (G:bK X st d):∀ e,DG X e (OfG (sX v st e)):=fun e=>by
 cases e<;>first | exact zU fun _ _ _=>rfl | skip
 case Name =>
  unfold sX;dsimp only;split
  ·rename_i i hi;split
   ·rename_i hc;rw [Bool.and_eq_true] at hc;refine bX8 (aU7 (i:=i) (by rw [G.N];exact G.nd) (fT G hi) (mI G hc.1) (aK0 G hc.2)) fun w δ h Q q=>?_;obtain ⟨δ',h',e,q⟩:=q;cases e;exact q
   ·exact zU fun _ _ _=>rfl
  ·exact zU fun _ _ _=>rfl
 case Tuple es k p =>
  unfold sX;dsimp only
  by_cases hs:es.all aU=true
  ·rw [if_pos hs];refine bX8 (bS4 (n:=es.length) G.calm (bK1 S G es hs) (mS _ _) (kR _ _ hs)) fun w δ h Q q=>?_;obtain ⟨δ',h',e,q⟩:=q;unfold bW at e;unfold aF8;split at e
   ·rename_i xs;exact ⟨bK0 es xs δ h _ e,δ',h',e,q⟩
   ·cases e
  ·rw [if_neg hs];exact zU fun w δ h=>rfl
 case Subscript o i p =>
  unfold sX;dsimp only;split
  ·exact zU fun _ _ _=>rfl
  ·rename_i hsl;refine bX8 (aY4 (S.E G o) (S.E G i) (vM (by simpa using hsl) _)) fun w δ h Q q=>?_;obtain ⟨δ',h',e,q⟩:=q;dsimp only at e;obtain ⟨⟨u,h1⟩,e1,e⟩:=bind_some e;obtain ⟨⟨z,h2⟩,e2,e⟩:=bind_some e;refine ⟨u,h1,e1,z,h2,e2,?_⟩;dsimp only at e ⊢;split at e
   ·split at e
    ·rename_i xs ex;obtain ⟨n,e3,e4⟩:=map_some e;cases e4;try dsimp only
     try rw [ex]
     try dsimp only
     try rw [e3]
     exact q
    ·rename_i kvs ex;split at e
     ·rename_i hk;cases e;try dsimp only
      try rw [ex]
      try dsimp only
      exact ⟨hk.1,hk.2,q⟩
     ·cases e
    ·cases e
   ·cases e
theorem iG (S:Snd v) (G:bK X st d):∀ ss,DSs X ss (OfS (xSs v st ss))
 | []=>bJ5 aU4 fun E δ h q=>by
  obtain ⟨fl,h',e,q⟩:=q;cases e;exact q
 | s::r=>bJ5 (jA (S.S G s) (iG S G r)) fun E δ h q=>by
  obtain ⟨fl,h',e,q⟩:=q;obtain ⟨⟨f1,h1⟩,e1,e⟩:=bind_some e;refine ⟨f1,h1,e1,?_⟩;dsimp only at e;cases f1 with
  | nx δ'=>exact ⟨fl,h',e,q⟩
  | rt w=>cases e;exact q
  | bk δ'=>cases e;exact q
  | ct δ'=>cases e;exact q
theorem qS {g:XG} {tb:XS} {c:Option Nat} {all:List PyData} {E:DEnds}:∀ (rest:List PyData) (δ:DSt) (h:aA) (fl:Fl) (h':aA),cF g tb c all rest δ h=some (fl,h')->pN E h' fl->yV (OfG g) (OfS tb) c all rest E δ h
 | [],δ,h,fl,h',e,q=>by
  unfold cF at e;split at e
  ·rename_i hc;cases e;exact ⟨lM hc,q⟩
  ·cases e
 | x::rest,δ,h,fl,h',e,q=>by
  unfold cF at e;split at e
  ·rename_i hc;obtain ⟨⟨δ2,h2⟩,e1,e⟩:=bind_some e;obtain ⟨⟨f2,h3⟩,e2,e⟩:=bind_some e;refine ⟨lM hc,δ2,h2,e1,f2,h3,e2,?_⟩;dsimp only at e;cases f2 with
   | nx δ'=>exact qS rest δ' h3 fl h' e q
   | ct δ'=>exact qS rest δ' h3 fl h' e q
   | bk δ'=>cases e;exact q
   | rt w=>cases e;exact q
  ·cases e
def aL7 {body:List Stmt} {xc:XR Bool} {xbd:XS} (hxe:X.xe=fun _ _=>False) (hc:DT X c (Of xc)) (hb:DSs X body (OfS xbd)) (n:Nat):DS X (.While c body [] pos) (OfS (cB xc xbd n)) :=
 bH (aD3 (by rw [hxe];exact PassesOwn.never) hc hb) fun D σ H q=>by
  obtain ⟨δ,h,A,μ,E,R,⟨fl,h',e,q⟩,L⟩:=q;refine ⟨fun m σ' H'=>∃ δ' h0 A' μ',Ext A A' μ μ' H H'/\Ab X.K A' μ' δ' h0 σ' H'/\∃ fl h',cB xc xbd m δ' h0=some (fl,h')/\pN E h' fl,⟨n,δ,h,A,μ,.refl,R,fl,h',e,q⟩,?_⟩;rintro m σ' H' ⟨δ',h0,A',μ',y,R',fl,h1,e,q⟩;cases m with
  | zero=>cases e
  | succ m =>
   obtain ⟨⟨k,h2⟩,e1,e⟩:=bind_some e;refine ⟨δ',h0,A',μ',fun b h''=>b=k/\h''=h2,R',⟨k,h2,e1,rfl,rfl⟩,?_⟩;rintro b h'' H1 A1 μ1 ⟨rfl,rfl⟩ x1 R1;have y1:=y.trans x1;dsimp only at e;cases b with
   | false =>
    rw [if_neg Bool.false_ne_true] at e ⊢;cases e;exact L.nx δ' _ σ' H1 A1 μ1 q y1 ⟨R1,R'.2.ext x1 R'.1.sub⟩
   | true =>
    rw [if_pos rfl] at e ⊢;obtain ⟨⟨f2,h3⟩,e2,e⟩:=bind_some e;refine ⟨fun σ2 H2=>∃ δ2 h2 A2 μ2,Ext A A2 μ μ2 H H2/\Ab X.K A2 μ2 δ2 h2 σ2 H2/\∃ fl h',cB xc xbd m δ2 h2=some (fl,h')/\pN E h' fl,fun σ2 H2 z=>⟨m,Nat.lt_succ_self m,z⟩,?_⟩;refine ⟨δ',_,A1,μ1,{ nx:=fun δ h=>∃ fl h',cB xc xbd m δ h=some (fl,h')/\pN E h' fl,ct:=fun δ h=>∃ fl h',cB xc xbd m δ h=some (fl,h')/\pN E h' fl,bk:=E.nx,rt:=E.rt },⟨R1,R'.2.ext x1 R'.1.sub⟩,⟨f2,h3,e2,?_⟩,⟨?_,?_,?_,?_⟩⟩
    ·dsimp only at e;cases f2 with
     | nx δ2=>exact ⟨fl,h1,e,q⟩
     | ct δ2=>exact ⟨fl,h1,e,q⟩
     | bk δ2=>cases e;exact q
     | rt w=>cases e;exact q
    ·exact fun δ2 h2 σ2 H2 A2 μ2 z x2 R2=>⟨δ2,h2,A2,μ2,y1.trans x2,R2,z⟩
    ·exact fun δ2 h2 σ2 H2 A2 μ2 z x2 R2=>L.nx δ2 h2 σ2 H2 A2 μ2 z (y1.trans x2) R2
    ·exact fun δ2 h2 σ2 H2 A2 μ2 z x2 R2=>⟨δ2,h2,A2,μ2,y1.trans x2,R2,z⟩
    ·exact fun w h2 v H2 A2 μ2 z x2 R2 r2=>L.rt w h2 v H2 A2 μ2 z (y1.trans x2) R2 r2
def aL8:DS X (.Break pos) (OfS fun δ h=>some (.bk δ,h)):=bH aD0 fun D σ H q=>by
 obtain ⟨δ,h,A,μ,E,R,⟨fl,h',e,q⟩,L⟩:=q;cases e;exact L.bk δ _ σ H A μ q .refl R
def tI:DS X (.Continue pos) (OfS fun δ h=>some (.ct δ,h)):=bH rM fun D σ H q=>by
 obtain ⟨δ,h,A,μ,E,R,⟨fl,h',e,q⟩,L⟩:=q;cases e;exact L.ct δ _ σ H A μ q .refl R
def mU (h:jY e=false) (t:Option Expr) (l:Nat) (env:Env):swapsWith e t l env=pure false:=by
 cases e<;>first | rfl | cases h
def aL9 (G:bK X st d):X.env.blockKind=.function:=by
 unfold Env.blockKind;rw [G.S,G.kind];rfl
def tJ (G:bK X st d) {elt:Expr} {gs:List Comprehension} {sc:Scope} {p px:Pos} {l:Nat} :
  swapsWith (.ListComp elt gs sc p) (some (.Name x px)) l X.env=pure (swB st (.ListComp elt gs sc p) x px):=by
 show (pure (X.env.blockKind==.function&&X.env.kindOf x==some .local&&px.line==p.line&&!(sc.names.any fun (n,k)=>n==x&&(k==.local||k==.cell))):Sem Bool)=_;unfold swB;dsimp only;have e1:(X.env.blockKind==.function)=true:=by rw [aL9 G];rfl
 have e2:(X.env.kindOf x==some .local)=eV st.S x:=by
  unfold Env.kindOf eV;rw [G.S];cases q:st.S.names.lookup x with
  | none=>rfl
  | some k=>cases k<;>rfl
 rw [e1,e2,Bool.true_and]
def tK {i:Nat} {px:Pos} {y:XR W} {te:DTE} (hd:DS X (.Assign [.Name x px] e pos) (yS te (pC i))) (m:∀ δ h Q,Of y δ h Q->te δ h Q):DS X (.Assign [.Name x px] e pos) (OfS (bA i y)):=sZ hd fun E δ h q=>by
 obtain ⟨fl,h',e,q⟩:=q;obtain ⟨⟨w,h1⟩,e1,e⟩:=bind_some e;cases e;exact m δ h _ ⟨w,h1,e1,q⟩
def xD {y:XR (List PyData)} (δ:DSt) (h:aA) (Q:DK) (q:Of (fC y) δ h Q):bQ0 (Of y) δ h Q:=by
 obtain ⟨w,h',e,q⟩:=q;obtain ⟨p,e1,e2⟩:=bind_some e;cases e2;exact ⟨p.1,p.2,e1,q⟩
def bZ4 {y:XR (List PyData)} (δ:DSt) (h:aA) (Q:DK) (q:Of (aQ y) δ h Q):bP9 (Of y) δ h Q:=by
 obtain ⟨w,h',e,q⟩:=q;obtain ⟨p,e1,e2⟩:=bind_some e;cases e2;exact ⟨p.1,p.2,e1,q⟩
def aZ8 (S:Snd v) (G:bK X st d) {i:Nat} {px:Pos} (hi:slot st x=some i) (hl:vF st.S x=true) (hf:(st.top||eV st.S x)=true) (hc:jY e=true) (hs:(swB st e x px||!(eV st.S x))=true) :
  DFS X i (.Assign [.Name x px] e pos) (Of (dM v st e)):=by
 have no:∀ {e:Expr},(∀ δ h,dM v st e δ h=none)->DFS X i (.Assign [.Name x px] e pos) (Of (dM v st e)):=fun {e} n pins s σ H D I q=>by
  obtain ⟨δ,h,A,μ,k,R,⟨r,h',e,_⟩,c⟩:=q;rw [n] at e;cases e
 cases e with
 | ListComp elt gs sc p =>
  by_cases hw:swB st (.ListComp elt gs sc p) x px=true
  ·match gs with
   | [⟨tg,iter,ifs,a⟩] =>
    by_cases ha:a=0
    ·subst ha;have e0:dM v st (.ListComp elt [⟨tg,iter,ifs,0⟩] sc p)=pM v st elt tg iter ifs sc:=rfl;rw [e0];unfold pM;split
     ·rename_i hc;rw [Bool.and_eq_true] at hc;have hset:pL iter=false:=by simpa using hc.2
      have hloc:st.S.names.lookup x=some .local:=by
       unfold swB at hw;simp only [Bool.and_eq_true] at hw;exact tD hw.1.1
      refine bH (aG4 (by rw [G.N];exact G.nd) G.xe G.calm G.S G.N (qR hc.1) (mQ S G iter) (fun cl C s H fp=>S.G (fM G hc.1 cl C s H fp) tg) (fun cl C s H fp=>aL4 S (fM G hc.1 cl C s H fp) ifs)
       (fun cl C s H fp=>S.E (fM G hc.1 cl C s H fp) elt) (fT G hi) (by rw [G.S];exact hloc) (by rw [tJ G,hw]) (vL hset _)) fun D σ H q=>?_
      obtain ⟨δ,h,A,μ,k,R,⟨r,h',e,q⟩,c⟩:=q;refine ⟨δ,h,A,μ,k,R,?_,c⟩;obtain ⟨⟨⟨xs,c⟩,h1⟩,e1,e⟩:=bind_some e;exact ⟨xs,c,h1,e1,jE _ _ _ _ _ _ e q⟩
     ·exact fun pins s σ H D I q=>by
       obtain ⟨δ,h,A,μ,k,R,q,c⟩:=q;exact (bP q).elim
    ·exact no fun δ h=>by
      show (if a=0 then pM v st elt tg iter ifs sc else xno) δ h=none;rw [if_neg ha];rfl
   | []=>exact no fun _ _=>rfl
   | ⟨_,_,_,_⟩::_::_=>exact no fun _ _=>rfl
  ·have hw':swB st (.ListComp elt gs sc p) x px=false:=by simpa using hw
   exact aG0 (by rw [G.N];exact G.nd) (kE S G _) (fT G hi) (mI G hl) (by rw [tJ G,hw']) (aK0 G hf)
 | SetComp elt gs sc p=>exact no fun _ _=>rfl
 | DictComp k w gs sc p=>exact no fun _ _=>rfl
 | _=>cases hc
def vN {tg:Expr} (h:bX7 e tg=false) (env:Env):swappedStores [tg] e env=pure none:=by
 cases tg<;>first | rfl | (cases e<;>first | rfl | cases h)
def aZ9 (h:∀ t p,e≠.Starred t p) (env:Env):(assignEach [e] env).map (·.2)=[assign e env]:=by
 cases e<;>first | rfl | exact absurd rfl (h _ _)
def cO4 (S:Snd v) (G:bK X st d) {tg e:Expr} {p:Pos}:DS X (.Assign [tg] e p) (OfS (if (jY e||bX7 e tg||!(aU tg))=true then fun _ _=>none else fun δ h=>(v.E st e δ h).bind fun p=>(v.G st tg p.1 δ p.2).bind fun q=>some (.nx q.1,q.2))):=by
 split
 ·exact kA fun _ _=>rfl
 ·rename_i hc;simp only [Bool.or_eq_true,not_or,Bool.not_eq_true,Bool.not_eq_true',Bool.not_eq_false] at hc;have hst:aU tg=true:=by simpa using hc.2
  refine sZ (bS5 (S.E G e) (S.G G tg) (mU hc.1.1 _ _ _) (vN hc.1.2 _) (aZ9 (fun t p z=>by rw [z] at hst;cases hst) _)) fun E δ h q=>?_;obtain ⟨fl,h',e,q⟩:=q;obtain ⟨⟨w,h1⟩,e1,e⟩:=bind_some e;obtain ⟨⟨δ2,h2⟩,e2,e⟩:=bind_some e;cases e;exact ⟨w,h1,e1,δ2,_,e2,q⟩
def bZ5 (S:Snd v) (G:bK X st d):∀ s,DS X s (OfS (mG v st s)):=fun s=>by
 cases s<;>first | exact kA fun _ _=>rfl | skip
 case Return o p =>
  cases o with
  | none=>exact kA fun _ _=>rfl
  | some e =>
   unfold mG;dsimp only;refine sZ (bS3 (S.E G e)) fun E δ h q=>?_;obtain ⟨fl,h',e,q⟩:=q;obtain ⟨⟨w,h1⟩,e1,e⟩:=bind_some e;cases e;exact ⟨w,_,e1,q⟩
 case Assign ts e p =>
  cases ts with
  | nil=>exact kA fun _ _=>rfl
  | cons tg r =>
   cases r with
   | cons _ _=>exact kA fun _ _=>by cases tg<;>rfl
   | nil =>
    cases tg
    case Name y px =>
     unfold mG;dsimp only;split
     ·rename_i i hi;split
      ·rename_i hc;rw [Bool.and_eq_true] at hc;split
       ·rename_i hcm;split
        ·rename_i hw;have hfs:=aZ8 S G hi hc.1 hc.2 hcm hw (pos:=p);split
         ·exact tK (aG1 hfs) xD
         ·exact tK (bS7 hfs) bZ4
        ·exact kA fun _ _=>rfl
       ·rename_i hcm;have hsw:∀ t l,swapsWith e t l X.env=pure false:=fun t l=>mU (by simpa using hcm) _ _ _;split
        ·rename_i hz;rw [Bool.and_eq_true] at hz;have hd:∃ pp,e=.Dict [] [] pp:=by
          unfold cN3 at hz;have:=hz.2;split at this
          ·exact ⟨_,rfl⟩
          ·cases this
         obtain ⟨pp,rfl⟩:=hd;refine tK (aY5 (by rw [G.N];exact G.nd) (fT G hi) (mI G hc.1) (hsw _ _) (aK0 G hc.2)) fun δ h Q q=>?_;obtain ⟨w,h',e,q⟩:=q;cases e;exact q
        split
        ·exact tK (aG1 (aG0 (by rw [G.N];exact G.nd) (S.F G e) (fT G hi) (mI G hc.1) (hsw _ _) (aK0 G hc.2))) xD
        ·exact tK (bS6 (by rw [G.N];exact G.nd) (S.E G e) (fT G hi) (mI G hc.1) (hsw _ _) (aK0 G hc.2)) fun _ _ _ q=>q
      ·exact kA fun _ _=>rfl
     ·exact kA fun _ _=>rfl
    all_goals exact cO4 S G
 case For tg iter body o p =>
  cases o with
  | cons _ _=>exact kA fun _ _=>rfl
  | nil =>
   unfold mG;dsimp only;split
   ·exact kA fun _ _=>rfl
   ·rename_i hs;refine sZ (bT0 G.xe G.calm (mQ S G iter) (S.G G tg) (iG S G body) (vL (by simpa using hs) _)) fun E δ h q=>?_;obtain ⟨fl,h',e,q⟩:=q;obtain ⟨⟨⟨xs,c⟩,h1⟩,e1,e⟩:=bind_some e;exact ⟨xs,c,h1,e1,qS _ _ _ _ _ e q⟩
 case If c a b p =>
  unfold mG;dsimp only;refine sZ (cK9 (S.T G c) (iG S G a) (iG S G b)) fun E δ h q=>?_;obtain ⟨fl,h',e,q⟩:=q;obtain ⟨⟨t,h1⟩,e1,e⟩:=bind_some e;refine ⟨t,h1,e1,?_⟩;dsimp only at e ⊢;split at e
  ·rename_i ht;rw [if_pos ht];exact ⟨fl,h',e,q⟩
  ·rename_i ht;rw [if_neg ht];exact ⟨fl,h',e,q⟩
 case Expr e p =>
  unfold mG;dsimp only;split
  ·exact kA fun _ _=>rfl
  ·rename_i hc;refine sZ (aU6 (S.E G e) (mU (by simpa using hc) _ _ _)) fun E δ h q=>?_;obtain ⟨fl,h',e,q⟩:=q;obtain ⟨⟨w,h1⟩,e1,e⟩:=bind_some e;cases e;exact ⟨w,_,e1,q⟩
 case Pass =>
  refine sZ aU5 fun E δ h q=>?_;obtain ⟨fl,h',e,q⟩:=q;cases e;exact q
 case Break=>exact aL8
 case Continue=>exact tI
 case While c body o p =>
  cases o with
  | cons _ _=>exact kA fun _ _=>rfl
  | nil=>exact aL7 G.xe (S.T G _) (iG S G _) _
end
def aM0 {v:Evs} (S:Snd v):Snd (step v):=⟨fun G=>bZ1 S G,fun G=>bZ2 S G,fun G=>kE S G,fun G=>bZ3 S G,fun G=>bZ5 S G⟩
def bZ6:Snd Evs.no:=⟨fun _ _=>cU,fun _ _=>lB,fun _ _=>iQ,fun _ _=>zU fun _ _ _=>rfl,fun _ _=>kA fun _ _=>rfl⟩
theorem jF:∀ n,Snd (evs n)
 | 0=>bZ6
 | n+1=>aM0 (jF n)
def eY {s:Stmt} (h:fnB s=true):FnScope (dR s) (aV s) (aH s):=by
 unfold fnB at h;simp only [Bool.and_eq_true,decide_eq_true_eq,List.all_eq_true,Bool.not_eq_true'] at h;obtain ⟨h1,h2,h3,h4,h5,h6⟩:=h;refine ⟨h1,h2,h3,h4,?_,fun x hx=>?_,fun y hy e=>?_⟩
 ·unfold dR;rw [List.take_left'];rfl
 ·have:=h5 x hx;unfold vF at this;split at this
  ·rename_i q;exact .inl q
  ·rename_i q;exact .inr q
  ·cases this
 ·have:=h6 y hy;rw [e] at this;cases this
section
variable {P:Program} {w:World} {K:Frag} {mg:Str->Option Value} {base:Heap}
structure TopOk (t:Top) (P:Program) (w:World) (K:Frag) (mg:Str->Option Value) (base:Heap):Prop where
 bl:∀ x,t.bl.contains x=true->mg x=none
 gc:∀ x z,t.gc x=some z->∃ v u,mg x=some u/\RelV v u/\∀ A H,Rep K A H z v
 tk:∀ x f,t.tk x=some f->∃ p,mg x=some (.ref p)/\TabK w K p f
 defs:∀ x s,t.defs x=some s->∃ f fd,Fun K x x s f fd/\mg x=some (.ref f)/\Binds K fd (aV s) []
 ini:∀ x C s,t.ini x=some (C,s)->∃ n q f fd,Fun K n q s f fd/\Mk K C f/\mg x=some (.ref C)/\Binds K fd (aV s) []
 mt:∀ x C s,t.mt x=some (C,s)->Cls K C/\∃ n q f fd,Fun K n q s f fd/\Meth K C x f/\Binds K fd (aV s) []
 fo:∀ C f,t.fo C f=true->Cls K C/\uP K C f
structure TabOk (P:Program) (w:World) (K:Frag) (mg:Str->Option Value) (base:Heap) (d:Nat) (fn:Str->Option XF) (ob:ObS):Prop where
 fn:∀ x m,fn x=some m->DFn P w K mg base d x (jZ m)
 fnW:∀ x m,ob.fnW x=some m->DFnW P w K mg base d x (gA m)
 cls:∀ x C m,ob.cls x=some (C,m)->(∀ ws h,m ws h=none)\/∃ k f fd ps,k+1<=d/\Mk K C f/\FnOk P w K mg base CX0 k f fd ps (fZ K (gA m))/\mg x=some (.ref C)/\Binds K fd ps []
 om:∀ x C m,ob.om x=some (C,m)->Cls K C/\∃ f fd ps,Meth K C x f/\FnOk P w K mg base CX0 d f fd ps (fZ K (gA m))/\Binds K fd ps []
 fo:∀ C f,ob.fo C f=true->Cls K C/\uP K C f
def lN {t:Top} {fn:Str->Option XF} {ob:ObS} {x q:Str} {s:Stmt} {f:Addr} {k:Nat} {cdv:Value} {A:Around} {outer:List Env} {s':Shared} {H:Hp} {E:XK} (T:TopOk t P w K mg base) (B:TabOk P w K mg base k fn ob) (hb:fnB s=true) (hr:Room k (A.deeper (envOfC q (aH s) s'.heap.objs.size f cdv))) :
  bK ((gB CX0 P w K mg base (dR s) q (aH s) f cdv A outer s' H E).nox) (t.sta fn ob x s) k :=
 ⟨T.bl,T.gc,T.tk,B.fn,rfl,rfl,(eY hb).nd,rfl,rfl,hr,fun _ _=>rfl,(eY hb).kind,B.fnW,B.cls,B.om,B.fo⟩
def bK2 {t:Top} {fn:Str->Option XF} {ob:ObS} {x n q:Str} {s:Stmt} {f:Addr} {fd:FuncData} {k:Nat} (T:TopOk t P w K mg base) (F:Fun K n q s f fd) (B:TabOk P w K mg base k fn ob) :
  FnOk P w K mg base CX0 (k+1) f fd (aV s) (jO K (jZ (kQ t fn ob x s))):=by
 by_cases hb:fnB s=true
 ·refine dfn F (eY hb) (fun ws h kk ⟨z,h',e,_⟩=>?_) fun cdv A outer s' H E hcd hr=>?_
  ·unfold kQ at e;split at e
   ·rename_i hc;exact hc.2
   ·cases e
  ·refine ⟨_,iG (jF t.deep) (lN (x:=x) T B hb hr) _,fun ws h kk ⟨z,h',e,q⟩=>?_⟩;unfold kQ at e;split at e
   ·obtain ⟨⟨fl,h1⟩,e1,e2⟩:=bind_some e;refine ⟨fl,h1,e1,?_⟩;unfold ends at e2;dsimp only at e2;split at e2
    ·rename_i ok;cases fl with
     | nx δ=>cases e2;exact ⟨ok,q⟩
     | bk δ=>cases e2
     | ct δ=>cases e2
     | rt w =>
      refine ⟨ok,?_⟩;cases w with
      | d z=>cases e2;exact q
      | v u=>cases e2
      | c i =>
       show (match h1[i]? with
        | some (.l xs)=>h.length<=i/\kk (.list xs) (h1.take h.length)
        | some (.k kvs)=>h.length<=i/\kk (.dict kvs) (h1.take h.length)
        | _=>False)
       dsimp only at e2;split at e2
       ·rename_i xs ex;try rw [ex]
        split at e2
        ·rename_i hi;cases e2;exact ⟨hi,q⟩
        ·cases e2
       ·rename_i xs ex;try rw [ex]
        split at e2
        ·rename_i hi;cases e2;exact ⟨hi,q⟩
        ·cases e2
       ·cases e2
    ·cases e2
   ·cases e
 ·have no:∀ ws h kk,¬ jZ (kQ t fn ob x s) ws h kk:=fun ws h kk ⟨z,h',e,_⟩=>by
   unfold kQ at e;rw [if_neg fun z=>hb z.1] at e;cases e
  exact ⟨fun vs H Q E ⟨_,_,_,_,_,_,_,q,_⟩=>(no _ _ _ q).elim,fun A outer s H args us vs Q E _ _ _ _ ⟨_,_,_,_,_,_,_,q,_⟩=>(no _ _ _ q).elim⟩
def aM1 {t:Top} {fn:Str->Option XF} {ob:ObS} {x n q:Str} {s:Stmt} {f:Addr} {fd:FuncData} {k:Nat} (T:TopOk t P w K mg base) (F:Fun K n q s f fd) (B:TabOk P w K mg base k fn ob) :
  FnOk P w K mg base CX0 (k+1) f fd (aV s) (fZ K (gA (gN t fn ob x s))):=by
 by_cases hb:fnB s=true
 ·refine dB9 F (eY hb) (fun ws h kk ⟨z,h',e,_⟩=>?_) fun cdv A outer s' H E hcd hr=>?_
  ·unfold gN at e;split at e
   ·rename_i hc;exact hc.2
   ·cases e
  ·refine ⟨_,iG (jF t.deep) (lN (x:=x) T B hb hr) _,fun ws h kk ⟨z,h',e,q⟩=>?_⟩;unfold gN at e;split at e
   ·obtain ⟨⟨fl,h1⟩,e1,e2⟩:=bind_some e;refine ⟨fl,h1,e1,?_⟩;unfold mH at e2;dsimp only at e2;cases fl with
    | nx δ=>cases e2;exact q
    | bk δ=>cases e2
    | ct δ=>cases e2
    | rt w=>cases e2;exact q
   ·cases e
 ·have no:∀ ws h kk,¬ gA (gN t fn ob x s) ws h kk:=fun ws h kk ⟨z,h',e,_⟩=>by
   unfold gN at e;rw [if_neg fun z=>hb z.1] at e;cases e
  exact ⟨fun vs H Q E ⟨_,_,_,_,_,_,_,q,_⟩=>(no _ _ _ q).elim,fun A outer s H args us vs Q E _ _ _ _ ⟨_,_,_,_,_,_,_,q,_⟩=>(no _ _ _ q).elim⟩
def bK3 {m:XFW} (hm:∀ ws h,m ws h=none) {f:Addr} {fd:FuncData} {ps:List Str} {d:Nat}:FnOk P w K mg base CX0 d f fd ps (fZ K (gA m)):=by
 have no:∀ ws h kk,¬ gA m ws h kk:=fun ws h kk ⟨z,h',e,_⟩=>by rw [hm] at e;cases e
 exact ⟨fun vs H Q E ⟨_,_,_,_,_,_,_,q,_⟩=>(no _ _ _ q).elim,fun A outer s H args us vs Q E _ _ _ _ ⟨_,_,_,_,_,_,_,q,_⟩=>(no _ _ _ q).elim⟩
abbrev xE (t:Top) (P:Program) (w:World) (K:Frag) (mg:Str->Option Value) (base:Heap) (d:Nat):Prop:=TabOk P w K mg base d (fnT t fun y=>aE t d y) (obT t (fun y=>callW t d y) (fun y=>callI t d y) fun y=>callM t d y)
def tL {t:Top} (T:TopOk t P w K mg base):xE t P w K mg base 0:=by
 refine ⟨fun x m e=>?_,fun x m e=>?_,fun x C m e=>?_,fun x C m e=>?_,T.fo⟩
 ·obtain ⟨s,hs,rfl⟩:=map_some e;obtain ⟨f,fd,F,hm,hb⟩:=T.defs x s hs;have no:∀ ws h kk,¬ jZ (aE t 0 x) ws h kk:=fun ws h kk ⟨z,h',e,_⟩=>nomatch e
  exact ⟨f,fd,aV s,⟨fun vs H Q E ⟨_,_,_,_,_,_,_,q,_⟩=>(no _ _ _ q).elim,fun A outer s H args us vs Q E _ _ _ _ ⟨_,_,_,_,_,_,_,q,_⟩=>(no _ _ _ q).elim⟩,hm,F.kp,hb⟩
 ·dsimp only at e;split at e
  ·obtain ⟨s,hs,rfl⟩:=map_some e;obtain ⟨f,fd,F,hm,hb⟩:=T.defs x s hs;exact ⟨f,fd,aV s,bK3 fun _ _=>rfl,hm,F.kp,hb⟩
  ·cases e
 ·obtain ⟨p,hs,e2⟩:=map_some e;cases e2;exact .inl fun _ _=>rfl
 ·obtain ⟨⟨C',s⟩,hs,e2⟩:=map_some e;cases e2;obtain ⟨hc,n,q,f,fd,F,hM,hb⟩:=T.mt x _ s hs;exact ⟨hc,f,fd,aV s,hM,bK3 fun _ _=>rfl,hb⟩
def tM {t:Top} (T:TopOk t P w K mg base) {d:Nat} (B:xE t P w K mg base d) (hI:∀ x C s,t.ini x=some (C,s)->(∀ ws h,callI t (d+1) x ws h=none)\/∃ k f fd ps,k+1<=d+1/\Mk K C f/\FnOk P w K mg base CX0 k f fd ps (fZ K (gA (callI t (d+1) x)))/\mg x=some (.ref C)/\Binds K fd ps []):xE t P w K mg base (d+1):=by
 refine ⟨fun x m e=>?_,fun x m e=>?_,fun x C m e=>?_,fun x C m e=>?_,T.fo⟩
 ·obtain ⟨s,hs,rfl⟩:=map_some e;obtain ⟨f,fd,F,hm,hb⟩:=T.defs x s hs;have e:aE t (d+1) x=kQ t (fnT t fun y=>aE t d y) (obT t (fun y=>callW t d y) (fun y=>callI t d y) fun y=>callM t d y) x s:=by
   rw [aE,hs]
  dsimp only;rw [e];exact aG5 (bK2 T F B) hm F hb
 ·dsimp only at e;split at e
  ·obtain ⟨s,hs,rfl⟩:=map_some e;obtain ⟨f,fd,F,hm,hb⟩:=T.defs x s hs;have e:callW t (d+1) x=gN t (fnT t fun y=>aE t d y) (obT t (fun y=>callW t d y) (fun y=>callI t d y) fun y=>callM t d y) x s:=by
    rw [callW,hs]
   try dsimp only
   rw [e];exact ⟨f,fd,aV s,aM1 T F B,hm,F.kp,hb⟩
  ·cases e
 ·obtain ⟨⟨C',s⟩,hs,e2⟩:=map_some e;cases e2;exact hI x _ s hs
 ·obtain ⟨⟨C',s⟩,hs,e2⟩:=map_some e;cases e2;obtain ⟨hc,n,q,f,fd,F,hM,hb⟩:=T.mt x _ s hs;have e:callM t (d+1) x=gN t (fnT t fun y=>aE t d y) (obT t (fun y=>callW t d y) (fun y=>callI t d y) fun y=>callM t d y) x s:=by
   rw [callM,hs]
  dsimp only;rw [e];exact ⟨hc,f,fd,aV s,hM,aM1 T F B,hb⟩
theorem mW {t:Top} (T:TopOk t P w K mg base):∀ d,xE t P w K mg base d
 | 0=>tL T
 | 1=>tM T (tL T) fun x C s _=>.inl fun _ _=>rfl
 | d+2=>tM T (mW T (d+1)) fun x C s hs=>by
  obtain ⟨n,q,f,fd,F,hM,hm,hb⟩:=T.ini x C s hs;have e:callI t (d+2) x=gN t (fnT t fun y=>aE t d y) (obT t (fun y=>callW t d y) (fun y=>callI t d y) fun y=>callM t d y) x s:=by
   rw [callI,hs]
  refine .inr ⟨d+1,f,fd,aV s,Nat.le_refl _,hM,?_,hm,hb⟩;show FnOk P w K mg base CX0 (d+1) f fd (aV s) (fZ K (gA (callI t (d+2) x)));rw [e];exact aM1 T F (mW T d)
end
noncomputable def bK4 (x:Str):Stmt->Bool
 | .FunctionDef n _ _ _ _ _ _ _ _ _=>n==x
 | _=>false
noncomputable def vO (b:List Stmt) (x:Str):Option Stmt:=b.find? (bK4 x)
noncomputable def aM2:Nat->Expr->Option PyData
 | _,.Constant (.int i) _ _=>some (.int i)
 | _,.Constant (.str x) _ _=>some (.str x)
 | _,.Constant (.bool x) _ _=>some (.bool x)
 | _,.Constant .none _ _=>some .none
 | n+1,.Tuple es _ _=>(es.mapM (aM2 n)).map .tuple
 | _,_=>none
noncomputable def bZ7 (b:List Stmt) (x:Str):Option PyData:=b.findSome? fun s=>match s with
 | .Assign [.Name y _] e _=>if y==x&&!(x==("__name__":Str)) then aM2 4 e else none
 | _=>none
noncomputable def bZ8:List (Option Expr)->List Expr->Option (List (Str×Int))
 | [],[]=>some []
 | some (.Constant (.str x) _ _)::ks,.Constant (.int i) _ _::vs=>(bZ8 ks vs).map ((x,i)::·)
 | _,_=>none
noncomputable def bZ9 (b:List Stmt) (x:Str):Option (Str->Option Int):=b.findSome? fun s=>match s with
 | .Assign [.Name y _] (.Dict ks vs _) _=>if y==x then (bZ8 ks vs).map fun t z=>t.lookup z else none
 | _=>none
noncomputable def blAll:List Str:=["len","tuple","all","any","isinstance","int","bool","str","list","range","sorted","set","zip","enumerate","dict","max","min","sum","reversed","abs"]
noncomputable def cO5 (b:List Stmt) (ac:Str->List Nat) (cv:Str->List Str) (fuel deep:Nat) (wf:Str->Bool:=fun _=>false) (ini mt:Str->Option (Addr×Stmt):=fun _=>none) (fo:Addr->Str->Bool:=fun _ _=>false):Top:=⟨blAll,bZ7 b,bZ9 b,vO b,ac,cv,fuel,deep,wf,ini,mt,fo⟩
end CI
namespace CI
open PySem DL
@[simp] theorem iH {α β:Type} (x:XR α) (f:α->XR β) (δ:DSt) (h:aA):xb x f δ h=(x δ h).bind fun p=>f p.1 δ p.2:=rfl
@[simp] theorem dN {α:Type} (a:α) (δ:DSt) (h:aA):aD a δ h=some (a,h):=rfl
@[simp] theorem dC3 {α:Type} (δ:DSt) (h:aA):(xno:XR α) δ h=none:=rfl
@[simp] theorem cY (i:Nat) (δ:DSt) (h:aA):aB i δ h=match δ[i]? with
 | some (some w)=>some (w,h)
 | _=>none:=rfl
def eB (h:aA):okP h h:=fun i c _ e=>.inr e
def mX {h h1:aA} (L:aA) (hl:h1.length=h.length) (k:okP h h1):okP h (h1++L):=fun i c hi e=>k i c hi (by rwa [List.getElem?_append_left (by omega)] at e)
def aM3 {h h1:aA} (i:Nat) (xs:List PyData) (k:okP h h1):okP h (h1.set i (.l xs)):=fun j c hj e=>by
 by_cases q:i=j
 ·subst q
  by_cases hi:i < h1.length
  ·rw [List.getElem?_set_self hi] at e;cases e;exact .inl fun m hm=>by cases hm
  ·rw [List.set_eq_of_length_le (by omega)] at e;exact k i c hj e
 ·rw [List.getElem?_set_ne q] at e;exact k j c hj e
@[simp] theorem dI5 (h:aA):okP h h=True:=eq_true (eB h)
@[simp] theorem dI6 (h L:aA):okP h (h++L)=True:=eq_true (mX L rfl (eB h))
def aM4 (h0:aA) (z:PyData) (h:aA) (ok:okP h0 h):ends h0 (.rt (.d z),h)=some (z,h.take h0.length):=by
 unfold ends;rw [if_pos ok]
def aM5 (h0:aA) (δ:DSt) (h:aA) (ok:okP h0 h):ends h0 (.nx δ,h)=some (.none,h.take h0.length):=by
 unfold ends;rw [if_pos ok]
@[simp] theorem bA0 (h:aA) (z:PyData):ends h (.rt (.d z),h)=some (z,h):=by rw [aM4 _ _ _ (eB h),List.take_length]
@[simp] theorem cV1 (h:aA) (δ:DSt):ends h (.nx δ,h)=some (.none,h):=by rw [aM5 _ _ _ (eB h),List.take_length]
@[simp] theorem cV2 (h L:aA) (z:PyData):ends h (.rt (.d z),h++L)=some (z,h):=by rw [aM4 _ _ _ (mX L rfl (eB h)),List.take_left'];rfl
@[simp] theorem cV3 (h L:aA) (δ:DSt):ends h (.nx δ,h++L)=some (.none,h):=by rw [aM5 _ _ _ (mX L rfl (eB h)),List.take_left'];rfl
@[simp] theorem cV4 (δ:DSt) (h:aA):mH (.nx δ,h)=some (.d .none,h):=rfl
@[simp] theorem cV5 (w:W) (h:aA):mH (.rt w,h)=some (w,h):=rfl
@[simp] theorem cG2 (δ:DSt):bS [] δ=[]:=rfl
@[simp] theorem cA0 (r:List (Option Nat)) (δ:DSt):bS (none::r) δ=none::bS r δ:=rfl
@[simp] theorem cA1 (i:Nat) (r:List (Option Nat)) (δ:DSt):bS (some i::r) δ=(δ[i]?).bind id::bS r δ:=rfl
@[simp] theorem cO6 (gs:List XG) (xs:List PyData) (δ:DSt) (h:aA):bW gs (.d (.tuple xs)) δ h=sU gs xs δ h:=rfl
@[simp] theorem cO7 (δ:DSt) (h:aA):sU [] [] δ h=some (δ,h):=rfl
@[simp] theorem cG3 (g:XG) (gs:List XG) (x:PyData) (xs:List PyData) (δ:DSt) (h:aA):sU (g::gs) (x::xs) δ h=(g (.d x) δ h).bind fun p=>sU gs xs p.1 p.2:=rfl
@[simp] theorem bK5 (h:aA) (x:PyData):ref h (.d x)=some x:=rfl
end CI
namespace CI
open PySem PySem.Spec PyProof.Rows L2 DL
section
variable {δ:DSt} {h:aA}
@[simp] theorem cO8 (x:XR Bool):bD x δ h=(x δ h).map asW:=rfl
@[simp] theorem dC4 (b:Bool):asW (b,h)=(.d (.bool b),h):=rfl
@[simp] theorem cA2 (op:CmpOp) (x y:XR W):xC1 op x y δ h=(x δ h).bind fun u=>(y δ u.2).bind fun w=>cK op u.1 w.1 w.2:=rfl
@[simp] theorem dC5 (op op':CmpOp) (x y z:XR W):xC2 op op' x y z δ h=(x δ h).bind fun u=>(y δ u.2).bind fun w=>(cK op u.1 w.1 w.2).bind fun p=>if p.1=true then (z δ p.2).bind fun q=>cK op' w.1 q.1 q.2 else some (false,p.2):=rfl
@[simp] theorem dC6 (op op' op'':CmpOp) (x y z t:XR W):xC3 op op' op'' x y z t δ h=(x δ h).bind fun u=>(y δ u.2).bind fun w=>(cK op u.1 w.1 w.2).bind fun p =>
 if p.1=true then (z δ p.2).bind fun q=>(cK op' w.1 q.1 q.2).bind fun p'=>if p'.1=true then (t δ p'.2).bind fun q'=>cK op'' q.1 q'.1 q'.2 else some (false,p'.2) else some (false,p.2):=rfl
@[simp] theorem cO9 (f:Str->Option Int) (x:XR W):pK f x δ h=(x δ h).bind fun p=>(match p.1 with
 | .d (.str s)=>some (!(f s).isSome,p.2)
 | .d .none=>some (true,p.2)
 | _=>none):=by
 unfold pK;rw [iH]
 congr 1
 funext p
 obtain ⟨w,h'⟩:=p;cases w with
 | d x=>cases x<;>rfl
 | c i=>rfl
 | v u=>rfl
@[simp] theorem cV6 (x:XR (List PyData)):aQ x δ h=(x δ h).bind fun p=>some (.d (.list p.1),p.2):=rfl
@[simp] theorem cP0 (x:XR (List PyData)):fC x δ h=(x δ h).bind fun p=>some (.c p.2.length,p.2++[.l p.1]):=rfl
@[simp] theorem dC7 (x:XR (List W)):xPl x δ h=(x δ h).bind fun p=>(match dE p.1 with
 | some xs=>if xs.length<=sizeLine then some (xs,p.2) else none
 | none=>none):=rfl
@[simp] theorem bA1 (i:Nat) (x:XR W):bA i x δ h=(x δ h).bind fun p=>some (.nx (δ.set i (some p.1)),p.2):=rfl
@[simp] theorem cP1 (x:XR W):cS x δ h=(x δ h).bind fun p=>(match p.1 with
 | .d (.list xs)=>some ((xs,none),p.2)
 | .d (.tuple xs)=>some ((xs,none),p.2)
 | .c i=>(match p.2[i]? with
  | some (.l xs)=>some ((xs,some i),p.2)
  | _=>none)
 | _=>none):=rfl
@[simp] theorem cA3:dE []=some []:=rfl
@[simp] theorem cP2 (x:PyData) (r:List W):dE (.d x::r)=(dE r).map (x::·):=rfl
@[simp] theorem dC8 (i j:Int):cK .Lt (.d (.int i)) (.d (.int j)) h=some (decide (i < j),h):=rfl
@[simp] theorem dC9 (i j:Int):cK .LtE (.d (.int i)) (.d (.int j)) h=some (decide (i<=j),h):=rfl
@[simp] theorem dD0 (i j:Int):cK .Gt (.d (.int i)) (.d (.int j)) h=some (decide (j < i),h):=rfl
@[simp] theorem dD1 (i j:Int):cK .GtE (.d (.int i)) (.d (.int j)) h=some (decide (j<=i),h):=rfl
@[simp] theorem dD2 (u w:W):cK .Eq u w h=(xEq u w h).map fun b=>(b,h):=rfl
@[simp] theorem dD3 (u w:W):cK .NotEq u w h=(xEq u w h).map fun b=>(!b,h):=rfl
@[simp] theorem dD4 (u w:W):cK .Is u w h=(xIs u w).map fun b=>(b,h):=rfl
@[simp] theorem cG4 (u w:W):cK .IsNot u w h=(xIs u w).map fun b=>(!b,h):=rfl
@[simp] theorem cA4 (u w:W):cK .In u w h=(xIn u w h).map fun b=>(b,h):=rfl
@[simp] theorem cG5 (u w:W):cK .NotIn u w h=(xIn u w h).map fun b=>(!b,h):=rfl
def dP (a b:PyData):xEq (.d a) (.d b) h=if (aI 64 a&&aI 64 b)=true then some (PyData.eqv a b) else none:=rfl
@[simp] theorem cV7 (n:Nat):aI n .none=true:=by rw [aI]
@[simp] theorem cV8 (n:Nat) (b:Bool):aI n (.bool b)=true:=by rw [aI]
@[simp] theorem dD5 (n:Nat) (i:Int):aI n (.int i)=true:=by rw [aI]
@[simp] theorem dD6 (n:Nat) (x:Str):aI n (.str x)=true:=by rw [aI]
@[simp] theorem bA2 (n:Nat) (xs:List PyData):aI (n+1) (.list xs)=plainsB n xs:=by rw [aI]
@[simp] theorem aM6 (n:Nat) (xs:List PyData):aI (n+1) (.tuple xs)=plainsB n xs:=by rw [aI]
@[simp] theorem cV9 (n:Nat):plainsB n []=true:=by rw [plainsB]
@[simp] theorem aM7 (n:Nat) (x:PyData) (xs:List PyData):plainsB n (x::xs)=(aI n x&&plainsB n xs):=by rw [plainsB]
@[simp] theorem cW0 (i j:Int):xEq (.d (.int i)) (.d (.int j)) h=some (decide (i=j)):=by rw [dP];simp [PyData.eqv];exact Bool.beq_eq_decide_eq i j
@[simp] theorem cW1 (x y:Str):xEq (.d (.str x)) (.d (.str y)) h=some (x==y):=by simp [dP,PyData.eqv]
@[simp] theorem cP3 (x y:Bool):xEq (.d (.bool x)) (.d (.bool y)) h=some (x==y):=by cases x<;>cases y<;>simp [dP,PyData.eqv]
@[simp] theorem bK6 (y:Str):xEq (.d .none) (.d (.str y)) h=some false:=by simp [dP,PyData.eqv]
@[simp] theorem dH1 (x:PyData):cN [.d x] h=(match x with
  | .list xs=>some (.d (.int xs.length),h)
  | .tuple xs=>some (.d (.int xs.length),h)
  | _=>none):=by cases x<;>rfl
@[simp] theorem cW2 (xs:List PyData):gM [.d (.list xs)] h=some (.d (.tuple xs),h):=rfl
@[simp] theorem cW3 (xs:List PyData):gM [.d (.tuple xs)] h=some (.d (.tuple xs),h):=rfl
@[simp] theorem tN (xs:List PyData):kZ [.d (.list xs)] h=(dJ xs).map fun bs=>(.d (.bool (bs.all id)),h):=rfl
@[simp] theorem dI7 (xs:List PyData) (i:Int):xIx (.d (.tuple xs)) (.d (.int i)) h=(atI xs i).map fun v=>(.d v,h):=rfl
@[simp] theorem dI8 (xs:List PyData) (i:Int):xIx (.d (.list xs)) (.d (.int i)) h=(atI xs i).map fun v=>(.d v,h):=rfl
@[simp] theorem dI9 (xs:List PyData) (lo hi:Option Int):xSl (.d (.tuple xs)) lo hi h=some (.d (.tuple (cut xs lo hi)),h):=rfl
@[simp] theorem dJ0 (xs:List PyData) (lo hi:Option Int):xSl (.d (.list xs)) lo hi h=some (.d (.list (cut xs lo hi)),h):=rfl
@[simp] theorem cG6 (i j:Int):dX .Add (.d (.int i)) (.d (.int j)) h=some (.d (.int (i+j)),h):=rfl
@[simp] theorem cG7 (i j:Int):dX .Sub (.d (.int i)) (.d (.int j)) h=some (.d (.int (i - j)),h):=rfl
@[simp] theorem cG8 (i j:Int):dX .Mult (.d (.int i)) (.d (.int j)) h=if gK i j=true then some (.d (.int (i*j)),h) else none:=rfl
@[simp] theorem cG9 (i j:Int):dX .FloorDiv (.d (.int i)) (.d (.int j)) h=if bG j=true then some (.d (.int (i / j)),h) else none:=rfl
@[simp] theorem cH0 (i j:Int):dX .Mod (.d (.int i)) (.d (.int j)) h=if 0 < j then some (.d (.int (i%j)),h) else none:=rfl
@[simp] theorem cH1 (i j:Int):dX .Pow (.d (.int i)) (.d (.int j)) h=if sT i j=true then some (.d (.int (i^j.toNat)),h) else none:=rfl
@[simp] theorem cH2 (xs ys:List PyData):dX .Add (.d (.tuple xs)) (.d (.tuple ys)) h=if xs.length+ys.length<=sizeLine then some (.d (.tuple (xs++ys)),h) else none:=rfl
@[simp] theorem cH3 (xs ys:List PyData):dX .Add (.d (.list xs)) (.d (.list ys)) h=if xs.length+ys.length<=sizeLine then some (.d (.list (xs++ys)),h) else none:=rfl
@[simp] theorem fN (xs:List PyData):condB none xs h=true:=rfl
theorem eJ {g:XG} {te:XR W} {all:List PyData} (f:PyData->PyData) (k:Nat) (hg:∀ w δ h,g w δ h=some (δ.set k (some w),h)) :
  ∀ (rest:List PyData) (δ:DSt) (ac:List PyData),(∀ x∈rest,∀ u,te ((δ.set k u).set k (some (.d x))) h=some (.d (f x),h))->aW g (aD true) te none all rest δ h ac=some (ac++rest.map f,h)
 | [],δ,ac,_=>by simp [aW]
 | x::r,δ,ac,hf=>by
  have e:=hf x List.mem_cons_self none;rw [List.set_set] at e;rw [aW,fN,if_pos rfl,hg];simp only [Option.bind_some,dN,if_true,e];rw [eJ f k hg r _ _ fun y hy u=>by
   have:=hf y (List.mem_cons_of_mem _ hy) u;rw [List.set_set] at this ⊢;rw [List.set_set];exact this]
  simp
theorem iA {f:PyData->Bool}:∀ xs:List PyData,dJ (xs.map fun x=>.bool (f x))=some (xs.map f)
 | []=>rfl
 | x::r=>by rw [List.map_cons,dJ,iA r];rfl
theorem all_map {f:PyData->Bool} {h:aA} (xs:List PyData):kZ [.d (.list (xs.map fun x=>.bool (f x)))] h=some (.d (.bool (xs.all f)),h):=by
 rw [tN,iA,Option.map_some,List.all_map];rfl
end
abbrev S3:=Int×Int×Int
noncomputable def stL (s:S3):Cell:=.l [.int s.1,.int s.2.1,.int s.2.2]
def qT {i:Int} (h1:-(2^64) < i) (h2:i < 2^64) (j:Int):gK i j=true:=by
 unfold gK;rw [decide_eq_true h1,decide_eq_true h2];rfl
def bA3 {j:Int} (h1:-(2^64) < j) (h2:j < 2^64) (i:Int):gK i j=true:=by
 unfold gK;rw [decide_eq_true h1,decide_eq_true h2,Bool.and_self,Bool.or_true]
def pP {h L:aA} {i:Nat} {c:Cell} (hi:i < h.length):h.set i c++L=(h++L).set i c:=(List.set_append_left _ _ hi).symm
def xF {h:aA} {i:Nat} {xs:List PyData} (hi:i < h.length):ref (h.set i (.l xs)) (.c i)=some (.list xs):=by
 simp [ref,hi]
@[simp] theorem dJ1 {h:aA} {i:Nat} {xs:List PyData} (hi:i < h.length) (k:Int):xIx (.c i) (.d (.int k)) (h.set i (.l xs))=(atI xs k).map fun v=>(.d v,h.set i (.l xs)):=by
 unfold xIx;rw [xF hi]
variable (h:aA)
def aA3 (xs:List PyData) (k:Int):dX .Mult (.d (.tuple xs)) (.d (.int k)) h=if k=1 then some (.d (.tuple xs),h) else if xs≠[]/\1 < k/\k < 2^63/\xs.length*k.toNat<=sizeLine then some (.d (.tuple (List.replicate k.toNat xs).flatten),h) else none:=rfl
@[simp] theorem dD7 (L:aA) (i:Nat) (c:Cell):(h.set i c++L).take h.length=h.set i c:=by
 rw [List.take_append_of_le_length (by simp)];simp
end CI
namespace CI
open PySem PySem.Spec PyProof.Rows L2 DL
theorem mY {g:XG} {te:XR W} {all:List PyData} {h:aA} (J:DSt->Prop) :
  ∀ (ps:List (PyData×PyData)) (δ:DSt) (ac:List PyData),J δ->(∀ p∈ps,∀ δ,J δ->∃ δ1,g (.d p.1) δ h=some (δ1,h)/\J δ1/\te δ1 h=some (.d p.2,h))->aW g (aD true) te none all (ps.map (·.1)) δ h ac=some (ac++ps.map (·.2),h)
 | [],δ,ac,_,_=>by simp [aW]
 | x::r,δ,ac,j,hf=>by
  obtain ⟨δ1,e1,j1,e2⟩:=hf x List.mem_cons_self δ j;rw [List.map_cons,aW];simp [e1,e2,aD];rw [mY J r δ1 (ac++[x.2]) j1 fun y hy=>hf y (List.mem_cons_of_mem _ hy)];simp
@[simp] theorem dD8 (xs:List PyData):gC (.d (.tuple xs))=some xs:=rfl
@[simp] theorem dD9 (xs:List PyData):gC (.d (.list xs))=some xs:=rfl
def cA5 (a:PyData) (xs:List PyData) (h:aA):xIn (.d a) (.d (.tuple xs)) h=if (aI 64 (.tuple xs)&&aI 64 a)=true then some (xs.any fun z=>PyData.eqv z a) else none:=rfl
@[simp] theorem cP4 (x a b:Str) (h:aA):xIn (.d (.str x)) (.d (.tuple [.str a,.str b])) h=some (a==x||b==x):=by
 rw [cA5];simp [PyData.eqv]
end CI
namespace CI
open PySem PySem.Spec PyProof.Rows L2 DL ST
def cA6 {a b:String} (h:Str.ofString a=Str.ofString b):a=b:=by
 simp only [Str.ofString_eq_byList] at h;unfold Str.ofStringByList at h;have h1:=congrArg Str.cps h;have h2:(a.toList.map Char.toNat)=(b.toList.map Char.toNat):=by
  have:=congrArg Array.toList h1
  simpa using this
 have h3:a.toList=b.toList:=by
  refine (List.map_inj_right ?_).mp h2;intro x y e;exact Char.toNat_inj.mp e
 exact String.toList_inj.mp h3
@[simp] theorem cP5 (a b:String):(Str.ofString a=Str.ofString b)=(a=b):=propext ⟨cA6,fun e=>by rw [e]⟩
@[simp] theorem dE0 (a b:String):(Str.ofString a==Str.ofString b)=(a==b):=by
 rw [Bool.eq_iff_iff,beq_iff_eq,beq_iff_eq,cP5]
theorem tO {g:XG} {tb:XS} {all:List PyData} (I:DSt->aA->Prop):∀ (rest:List PyData),(∀ x∈rest,∀ δ h,I δ h->∃ δ1 h1 δ2 h2,g (.d x) δ h=some (δ1,h1)/\tb δ1 h1=some (.nx δ2,h2)/\I δ2 h2) ->
  ∀ (δ:DSt) (h:aA),I δ h->∃ δ' h',cF g tb none all rest δ h=some (.nx δ',h')/\I δ' h'
 | [],_,δ,h,i=>⟨δ,h,by simp [cF],i⟩
 | x::r,ht,δ,h,i=>by
  obtain ⟨δ1,h1,δ2,h2,e1,e2,i2⟩:=ht x List.mem_cons_self δ h i;obtain ⟨δ3,h3,e3,i3⟩:=tO I r (fun y hy=>ht y (List.mem_cons_of_mem _ hy)) δ2 h2 i2;refine ⟨δ3,h3,?_,i3⟩;rw [cF,fN,if_pos rfl,e1];simp only [Option.bind_some,e2];exact e3
def kF {g:XG} {tb:XS} {all:List PyData} (I:DSt->aA->Prop) (rest:List PyData) (ht:∀ x∈rest,∀ δ h,I δ h->∃ δ1 h1,g (.d x) δ h=some (δ1,h1)/\∃ δ2 h2,tb δ1 h1=some (.nx δ2,h2)/\I δ2 h2) (δ:DSt) (h:aA) (i:I δ h) :
  ∃ δ' h',cF g tb none all rest δ h=some (.nx δ',h')/\I δ' h':=tO I rest (fun x hx δ h i=>let ⟨δ1,h1,e1,δ2,h2,e2,i2⟩:=ht x hx δ h i;⟨δ1,h1,δ2,h2,e1,e2,i2⟩) δ h i
def bQ {x:Option (Fl×aA)} {f:Fl×aA->Option (Fl×aA)} {P:DSt->aA->Prop} (δ':DSt) (h':aA) (e:x=some (.nx δ',h')) (k:∃ δ2 h2,f (.nx δ',h')=some (.nx δ2,h2)/\P δ2 h2):∃ δ2 h2,x.bind f=some (.nx δ2,h2)/\P δ2 h2:=by
 rw [e];exact k
def aA4 {x:Option (Fl×aA)} {f:Fl×aA->Option (Fl×aA)} {P:DSt->aA->Prop} (J:DSt->aA->Prop) (e:∃ δ' h',x=some (.nx δ',h')/\J δ' h') (k:∀ δ' h',J δ' h'->∃ δ2 h2,f (.nx δ',h')=some (.nx δ2,h2)/\P δ2 h2):∃ δ2 h2,x.bind f=some (.nx δ2,h2)/\P δ2 h2:=by
 obtain ⟨δ',h',e,j⟩:=e;rw [e];exact k δ' h' j
section
variable (h:aA)
@[simp] theorem cP6:wV []=some []:=rfl
@[simp] theorem cH4 (i:Int) (r:List PyData):wV (.int i::r)=(wV r).map (i::·):=rfl
@[simp] theorem bK7 (xs:List PyData):zO [.d (.list xs)] h=(dJ xs).map fun bs=>(.d (.bool (bs.any id)),h):=rfl
@[simp] theorem dH2:xIs (.d .none) (.d .none)=some true:=rfl
@[simp] theorem dH3 (i:Int):xIs (.d (.int i)) (.d .none)=some false:=rfl
@[simp] theorem dH4 (xs:List PyData):xIs (.d (.tuple xs)) (.d .none)=some false:=rfl
def bA4 {lo:Int} {n:Nat} {x:PyData} (hx:x∈rng lo n):∃ k:Nat,k < n/\x=.int (lo+k):=by
 unfold rng at hx;obtain ⟨k,hk,rfl⟩:=List.mem_map.mp hx;exact ⟨k,by simpa using hk,rfl⟩
end
@[simp high] theorem bs {α β:Type} (a:α) (f:α->Option β):(some a).bind f=f a:=id rfl
@[simp high] theorem xv0 (w:W) (l:DSt) (h:aA):aB 0 (some w::l) h=some (w,h):=id rfl
@[simp high] theorem xv1 {x0:Option W} (w:W) (l:DSt) (h:aA):aB 1 (x0::some w::l) h=some (w,h):=id rfl
@[simp high] theorem xv2 {x0 x1:Option W} (w:W) (l:DSt) (h:aA):aB 2 (x0::x1::some w::l) h=some (w,h):=id rfl
@[simp high] theorem xv3 {x0 x1 x2:Option W} (w:W) (l:DSt) (h:aA):aB 3 (x0::x1::x2::some w::l) h=some (w,h):=id rfl
@[simp high] theorem xv4 {x0 x1 x2 x3:Option W} (w:W) (l:DSt) (h:aA):aB 4 (x0::x1::x2::x3::some w::l) h=some (w,h):=id rfl
@[simp high] theorem xv5 {x0 x1 x2 x3 x4:Option W} (w:W) (l:DSt) (h:aA):aB 5 (x0::x1::x2::x3::x4::some w::l) h=some (w,h):=id rfl
@[simp high] theorem xv6 {x0 x1 x2 x3 x4 x5:Option W} (w:W) (l:DSt) (h:aA):aB 6 (x0::x1::x2::x3::x4::x5::some w::l) h=some (w,h):=id rfl
@[simp high] theorem xv8 {x0 x1 x2 x3 x4 x5 x6 x7:Option W} (w:W) (l:DSt) (h:aA):aB 8 (x0::x1::x2::x3::x4::x5::x6::x7::some w::l) h=some (w,h):=id rfl
@[simp high] theorem xv9 {x0 x1 x2 x3 x4 x5 x6 x7 x8:Option W} (w:W) (l:DSt) (h:aA):aB 9 (x0::x1::x2::x3::x4::x5::x6::x7::x8::some w::l) h=some (w,h):=id rfl
@[simp high] theorem dJ2 {x0 x1 x2 x3 x4 x5 x6 x7 x8 x9:Option W} (w:W) (l:DSt) (h:aA):aB 10 (x0::x1::x2::x3::x4::x5::x6::x7::x8::x9::some w::l) h=some (w,h):=id rfl
@[simp high] theorem dJ3 {x0 x1 x2 x3 x4 x5 x6 x7 x8 x9 x10:Option W} (w:W) (l:DSt) (h:aA):aB 11 (x0::x1::x2::x3::x4::x5::x6::x7::x8::x9::x10::some w::l) h=some (w,h):=id rfl
@[simp high] theorem dJ4 {x0 x1 x2 x3 x4 x5 x6 x7 x8 x9 x10 x11:Option W} (w:W) (l:DSt) (h:aA):aB 12 (x0::x1::x2::x3::x4::x5::x6::x7::x8::x9::x10::x11::some w::l) h=some (w,h):=id rfl
def forX_find {α β:Type} {g:XG} {tb:XS} {all:List PyData} {h:aA} (F:α->PyData) (fd:α->Option β) (wd:β->W) (I:DSt->Prop) (qs:List α) {δ:DSt} (hi:I δ)
  (ht:∀ q∈qs,∀ δ,I δ->∃ δ1,g (.d (F q)) δ h=some (δ1,h)/\((∃ b,fd q=some b/\tb δ1 h=some (.rt (wd b),h))\/(fd q=none/\∃ δ2,tb δ1 h=some (.nx δ2,h)/\I δ2))) :
  (∃ b,qs.findSome? fd=some b/\cF g tb none all (qs.map F) δ h=some (.rt (wd b),h))\/(qs.findSome? fd=none/\∃ δ',I δ'/\cF g tb none all (qs.map F) δ h=some (.nx δ',h)):=by
 induction qs generalizing δ with
 | nil=>exact .inr ⟨rfl,δ,hi,by simp [cF]⟩
 | cons q r ih =>
  obtain ⟨δ1,e1,hh⟩:=ht q List.mem_cons_self δ hi;rw [List.map_cons,cF,fN,if_pos rfl,e1];rcases hh with ⟨b,e2,e3⟩ | ⟨e2,δ2,e3,i2⟩
  ·refine .inl ⟨b,by rw [List.findSome?_cons,e2],?_⟩;simp only [bs,e3]
  ·rw [List.findSome?_cons,e2];simp only [bs,e3];exact ih i2 fun y hy=>ht y (List.mem_cons_of_mem _ hy)
def aA5 {g:XG} {tb:XS} {all:List PyData} {P:DSt->aA->Prop} (I:Nat->DSt->aA->Prop) {rest:List PyData} {δ:DSt} {h:aA} (hi:I 0 δ h) (hP:∀ δ h,I rest.length δ h->P δ h)
  (ht:∀ n (hn:n < rest.length) δ h,I n δ h->∃ δ1 h1,g (.d rest[n]) δ h=some (δ1,h1)/\∃ δ2 h2,tb δ1 h1=some (.nx δ2,h2)/\I (n+1) δ2 h2):∃ δ' h',cF g tb none all rest δ h=some (.nx δ',h')/\P δ' h':=by
 suffices H:∀ (r:List PyData) (n:Nat) (δ:DSt) (h:aA),(∃ p,rest=p++r/\p.length=n)->I n δ h->∃ δ' h',cF g tb none all r δ h=some (.nx δ',h')/\I rest.length δ' h' by
  obtain ⟨δ',h',e,i⟩:=H rest 0 δ h ⟨[],rfl,rfl⟩ hi;exact ⟨δ',h',e,hP δ' h' i⟩
 intro r;induction r with
 | nil =>
  rintro n δ h ⟨p,e1,e2⟩ i;subst e2;simp at e1;subst e1;exact ⟨δ,h,by simp [cF],i⟩
 | cons x r ih =>
  rintro n δ h ⟨p,e1,e2⟩ i;have hn:n < rest.length:=by rw [e1];simp;omega
  have hx:rest[n]=x:=by subst e2;subst e1;simp
  obtain ⟨δ1,h1,e1',δ2,h2,e2',i2⟩:=ht n hn δ h i;rw [hx] at e1';obtain ⟨δ3,h3,e3,i3⟩:=ih (n+1) δ2 h2 ⟨p++[x],by simp [e1],by simp [e2]⟩ i2;refine ⟨δ3,h3,?_,i3⟩;rw [cF,fN,if_pos rfl,e1'];simp only [bs,e2'];exact e3
def rng_len (lo:Int) (n:Nat):(rng lo n).length=n:=by simp [rng]
def bA5 (lo:Int) (n k:Nat) (hk:k < (rng lo n).length):(rng lo n)[k]=.int (lo+k):=by simp [rng]
def tP {i j:Nat} (hi:i<=100) (hj:j<=100):lA i j=true:=by
 unfold lA;simp only [Bool.and_eq_true,decide_eq_true_eq];omega
@[simp] theorem at4 (a b c e f:PyData) (r:List PyData):atI (a::b::c::e::f::r) 4=some f:=gW (j:=4) (by simp)
@[simp] theorem at5 (a b c e f g:PyData) (r:List PyData):atI (a::b::c::e::f::g::r) 5=some g:=gW (j:=5) (by simp)
end CI
namespace CI
open PySem PySem.Spec PyProof.Rows L2 DL
noncomputable def gcl (b:List Stmt):List (Str×PyData):=b.filterMap fun s=>match s with
 | .Assign [.Name y _] e _=>if !(y==("__name__":Str)) then (aM2 4 e).map (y,·) else none
 | _=>none
def cA7 {b:List Stmt} {x:Str} {z:PyData} (h:bZ7 b x=some z):(x,z)∈gcl b:=by
 obtain ⟨s,hs,e⟩:=List.exists_of_findSome?_eq_some h;refine List.mem_filterMap.mpr ⟨s,hs,?_⟩;split at e
 ·rename_i y p e0 q;split at e
  ·rename_i hc;rw [Bool.and_eq_true] at hc;have:y=x:=eq_of_beq hc.1;subst this;try simp only []
   rw [if_pos hc.2,e];rfl
  ·cases e
 ·cases e
noncomputable def tkl (b:List Stmt):List (Str×List (Str×Int)):=b.filterMap fun s=>match s with
 | .Assign [.Name y _] (.Dict ks vs _) _=>(bZ8 ks vs).map (y,·)
 | _=>none
def cA8 {b:List Stmt} {x:Str} {f:Str->Option Int} (h:bZ9 b x=some f):∃ t,(x,t)∈tkl b/\f=fun z=>t.lookup z:=by
 obtain ⟨s,hs,e⟩:=List.exists_of_findSome?_eq_some h;split at e
 ·rename_i y p ks vs p2 q;split at e
  ·rename_i hc;have:y=x:=eq_of_beq hc;subst this;obtain ⟨t,et,rfl⟩:=Option.map_eq_some_iff.mp e;refine ⟨t,List.mem_filterMap.mpr ⟨_,hs,?_⟩,rfl⟩;simp only [];rw [et];rfl
  ·cases e
 ·cases e
noncomputable def dfl (b:List Stmt):List (Str×Stmt):=b.filterMap fun s=>match s with
 | .FunctionDef n _ _ _ _ _ _ _ _ _=>some (n,s)
 | _=>none
def cA9 {b:List Stmt} {x:Str} {s:Stmt} (h:vO b x=some s):(x,s)∈dfl b:=by
 have h1:=List.find?_some h;have h2:=List.mem_of_find?_eq_some h;refine List.mem_filterMap.mpr ⟨s,h2,?_⟩;unfold bK4 at h1;split at h1
 ·simp only [eq_of_beq h1]
 ·cases h1
section
variable {P:Program} {w:World} {K:Frag} {mg:Str->Option Value} {base:Heap}
theorem pQ (K:Frag) (A:List Addr) (H:Hp):∀ ns:List Int,Reps K A H (ns.map .int) (ns.map V.int)
 | []=>.nil
 | n::r=>.cons jN (pQ K A H r)
def tQ {x k:Str} {hh:Int} {t:Tok} {v:Value} {es:List DictEntry}:findBy Value.isStrOf (⟨hh,.str k t,v⟩::es).toArray x=if k=x then some v else findBy Value.isStrOf es.toArray x:=by
 unfold findBy;simp only [List.find?_toArray,List.find?_cons,Value.isStrOf]
 by_cases e:k=x
 ·simp [e]
 ·have:(k==x)=false:=beq_eq_false_iff_ne.mpr e;simp [e,this]
end
def FI (K:Frag) (n:Str) (s:Stmt):Prop:=∃ (f:Addr) (od an:Option Addr) (sl:Array (Option Value)) (oc kV dc pm cd ct:Value),PySem.W.nsIn K mainGlobals n=some (some (.ref f))/\K.lookup f=some ⟨oc,od,.func (PySem.W.fnOf n n (cE s) (aX s) (aH s) .none kV dc pm an cd ct),sl⟩/\PySem.W.codeIn K cd n=true/\PySem.W.keepIn K (.ref f)=true
def fi_mk {K:Frag} {n:Str} {s:Stmt} {f:Addr} {od an:Option Addr} {sl:Array (Option Value)} {oc kV dc pm cd ct:Value} (a:PySem.W.nsIn K mainGlobals n=some (some (.ref f))) (l:K.lookup f=some ⟨oc,od,.func (PySem.W.fnOf n n (cE s) (aX s) (aH s) .none kV dc pm an cd ct),sl⟩) (c:PySem.W.codeIn K cd n=true) (k:PySem.W.keepIn K (.ref f)=true):FI K n s:=⟨_,_,_,_,_,_,_,_,_,_,a,l,c,k⟩
def FI.ok {K:Frag} {n:Str} {s:Stmt} {h:Heap} {mg:Str->Option Value} {ps:List Str} (a:FI K n s) (X:K.In h) (G:h.Ns mainGlobals mg) (hp:aV s=ps)
  (hb:∀ (kV doc pm:Value) (an:Option Addr) (cdv ct:Value) (us:List Value),us.length=ps.length->bindArgs (PySem.W.fnOf n n (cE s) (aX s) (aH s) .none kV doc pm an cdv ct) ⟨us,[]⟩=pure (ps.zip us)):∃ f fd,Fun K n n s f fd/\mg n=some (.ref f)/\Binds K fd (aV s) []:=by
 obtain ⟨f,od,an,sl,oc,kV,dc,pm,cd,ct,a,l,c,k⟩:=a;have F:=uW (st:=s) l c k;exact ⟨f,_,F,PySem.W.mg_of X G a,by rw [hp];exact F.binds hb⟩
def FI.ok1 {K:Frag} {n:Str} {s:Stmt} {h:Heap} {mg:Str->Option Value} (a:FI K n s) (X:K.In h) (G:h.Ns mainGlobals mg) (hn:(aV s).length=1) (hb:∀ (kV doc pm:Value) (an:Option Addr) (cdv ct u:Value),bindArgs (PySem.W.fnOf n n (cE s) (aX s) (aH s) .none kV doc pm an cdv ct) ⟨[u],[]⟩=pure ((aV s).zip [u])):∃ f fd,Fun K n n s f fd/\mg n=some (.ref f)/\Binds K fd (aV s) []:=a.ok X G rfl fun kV doc pm an cdv ct us hl=>by
 rw [hn] at hl
 match us,hl with
 | [u],_=>exact hb kV doc pm an cdv ct u
def FI.ok2 {K:Frag} {n:Str} {s:Stmt} {h:Heap} {mg:Str->Option Value} (a:FI K n s) (X:K.In h) (G:h.Ns mainGlobals mg) (hn:(aV s).length=2) (hb:∀ (kV doc pm:Value) (an:Option Addr) (cdv ct u v:Value),bindArgs (PySem.W.fnOf n n (cE s) (aX s) (aH s) .none kV doc pm an cdv ct) ⟨[u,v],[]⟩=pure ((aV s).zip [u,v])):∃ f fd,Fun K n n s f fd/\mg n=some (.ref f)/\Binds K fd (aV s) []:=a.ok X G rfl fun kV doc pm an cdv ct us hl=>by
 rw [hn] at hl
 match us,hl with
 | [u,v],_=>exact hb kV doc pm an cdv ct u v
def FI.ok3 {K:Frag} {n:Str} {s:Stmt} {h:Heap} {mg:Str->Option Value} (a:FI K n s) (X:K.In h) (G:h.Ns mainGlobals mg) (hn:(aV s).length=3) (hb:∀ (kV doc pm:Value) (an:Option Addr) (cdv ct u v x:Value),bindArgs (PySem.W.fnOf n n (cE s) (aX s) (aH s) .none kV doc pm an cdv ct) ⟨[u,v,x],[]⟩=pure ((aV s).zip [u,v,x])):∃ f fd,Fun K n n s f fd/\mg n=some (.ref f)/\Binds K fd (aV s) []:=a.ok X G rfl fun kV doc pm an cdv ct us hl=>by
 rw [hn] at hl
 match us,hl with
 | [u,v,x],_=>exact hb kV doc pm an cdv ct u v x
end CI
namespace CI
open PySem DL
variable {h L:aA} {i:Nat} {c c':Cell}
open Classical in
@[simp] theorem dE1 (h0:aA) (z:PyData) (h1:aA):ends h0 (.rt (.d z),h1)=if okP h0 h1 then some (z,h1.take h0.length) else none:=rfl
open Classical in
@[simp] theorem dE2 (h0:aA) (δ:DSt) (h1:aA):ends h0 (.nx δ,h1)=if okP h0 h1 then some (PyData.none,h1.take h0.length) else none:=rfl
def xG (xs:List PyData):okP (h.set i c) (h.set i (.l xs)):=by
 have:=aM3 i xs (eB (h.set i c))
 rwa [List.set_set] at this
@[simp] theorem dH5 (xs:List PyData):okP (h.set i c) (h.set i (.l xs))=True:=eq_true (xG xs)
@[simp] theorem dH6 (s:S3):okP (h.set i c) (h.set i (stL s))=True:=eq_true (xG _)
@[simp] theorem dH7 (xs:List PyData):okP (h.set i c) (h.set i (.l xs)++L)=True:=eq_true (mX L (by simp) (xG xs))
@[simp] theorem cB0 (s:S3):okP (h.set i c) (h.set i (stL s)++L)=True:=eq_true (mX L (by simp) (xG _))
@[simp] theorem dH8 (s:S3) (hi:i < h.length):okP (h.set i c) ((h++L).set i (stL s))=True:=by rw [<- pP hi,cB0]
@[simp] theorem dE3:(h.set i c).take h.length=h.set i c:=List.take_of_length_le (by simp)
@[simp] theorem cP7:(h.set i c++L).take h.length=h.set i c:=by rw [List.take_append_of_le_length (by simp),dE3]
@[simp] theorem dH9 (hi:i < h.length):((h++L).set i c).take h.length=h.set i c:=by rw [<- pP hi,cP7]
end CI
namespace L2
open PySem PySem.Spec PyProof.Rows
section
variable {P:Program} {w:World} {H H':Hp} {h h':Heap} {a:Addr} {o:HO}
def ObjOk.ex (x:ObjOk P w H h a o):∃ u,h.get? a=some u:=by
 cases o with
 | lst xs=>obtain ⟨_,_,_,_,e⟩:=x;exact ⟨_,e⟩
 | tup xs=>obtain ⟨_,_,_,ob,e,_⟩:=x;exact ⟨_,e⟩
 | dK kvs=>obtain ⟨_,_,_,_,ob,_,_,e,_⟩:=x;exact ⟨_,e⟩
 | dT kvs=>obtain ⟨_,_,_,_,ob,_,_,e,_⟩:=x;exact ⟨_,e⟩
 | set S n=>obtain ⟨ob,_,_,_,e,_⟩:=x;exact ⟨_,e⟩
 | ins C dx fs=>obtain ⟨_,_,_,e,_⟩:=x;exact ⟨_,e⟩
 | own y=>exact x
 | xd fs=>obtain ⟨_,⟨ob,_,_,e,_⟩,_⟩:=x;exact ⟨_,e⟩
 | rng lo hi=>obtain ⟨_,_,_,e⟩:=x;exact ⟨_,e⟩
 | frz ob u=>exact ⟨_,x.1⟩
 | tbl ps=>exact ⟨_,show h.get? a=some _ from x⟩
 | met f y=>exact ⟨_,show h.get? a=some _ from x⟩
 | ext φ=>exact x.2.1
def HOk.keptT (x:HOk P w H h) (k:∀ b u,H b≠none->h.get? b=some u->h'.get? b=some u):HOk P w H h':=fun a o e =>
 (x a o e).stay (fun b u hb q=>k b u (by
  rcases hb with z | z
  ·rw [z,e];exact fun n=>nomatch n
  ·rw [z];exact fun n=>nomatch n) q) (fun _ q=>q) fun _ _ q=>q
def HOk.exT (x:HOk P w H h) (n:H a≠none):∃ u,h.get? a=some u:=by
 cases z:H a with
 | none=>exact absurd z n
 | some o'=>exact (x a o' z).ex
end
def aM8 {env:Env} {l:List Env} {L:Addr} (hf:env.frame=some L):frs (env::l)=L::frs l:=by
 show List.filterMap _ _=_;rw [List.filterMap_cons,hf];rfl
structure Flies (P:Program) (w:World) (C:Addr) (outer:List Env) (H:Hp) (s:Shared) (E:XK) (ea:Addr) (H':Hp) (s':Shared):Prop where
 os:s'.os=s.os
 bare:AllBare s'.gens
 un:Un (frs outer) [] H H' s.heap s'.heap
 hok:HOk P w H' s'.heap
 want:E (.ref C) none H'
 fly:∃ B t,Heap.FlyingW B outer ea (.ref C) (.ref t) s'.heap/\∀ b o,s'.heap.get? b=some o->b∉frs outer->(H' b≠none\/∃ u,s.heap.get? b=some u)->B.get? b=some o
noncomputable def CXN (P:Program) (w:World) (C:Addr):CXT:=fun outer H s E e s'=>∃ ea H',e=.ref ea/\Flies P w C outer H s E ea H' s'
structure Cx.Body (X:Cx):Prop where
 st:X.stack=X.env::X.outer
 fr:X.env.frame=some X.env.locals
 ex:X.ex=[]
section
variable {X:Cx} {C:Addr} {E E':XK} {Ex:Value->Shared->Prop} {pins:List (Addr×Obj)} {σ:St} {H H':Hp} {s s':Shared} {h1:Heap} {e:Addr} {vs:List Value}
def Inv.neL (I:Inv X pins σ H s) {b:Addr} {o:Obj} (q:X.s₀.heap.get? b=some o):b≠X.env.locals:=Nat.ne_of_lt (Nat.lt_of_lt_of_le (Heap.lt_size q) I.ok.above)
def Cx.Body.fs (b:X.Body):frs X.stack=X.env.locals::frs X.outer:=by rw [b.st];exact aM8 b.fr
def Cx.Body.out (b:X.Body) {a:Addr} (h1:a≠X.env.locals) (h2:a∉frs X.outer):a∉frs X.stack:=fun z=>by
 rw [b.fs] at z;exact (List.mem_cons.mp z).elim h1 h2
end
section
variable {X:Cx} {CX:CXT} {k:Nat} {f C:Addr} {fd:FuncData} {ps:List Str} {sp:Sp} {E:XK} {Ex:Value->Shared->Prop} {x:Str} {p pos epos:Pos} {e:Expr} {es:List Expr} {t:TA}
def tR {pins:List (Addr×Obj)} {σ:St} {H:Hp} {s:Shared} (F:FnOk X.prog X.w X.K X.mg X.base CX k f fd ps sp) (hr:Room k X.A) (hg:Gl X x) (hm:X.mg x=some (.ref f)) (hk:PySem.W.keepIn X.K (.ref f)=true) (hb:Binds X.K fd ps [])
  (ha:PA (X.wish Ex) (e::es) t) (I:Inv X pins σ H s) (q:t σ H fun vs H1=>sp vs H1 (fun _ _=>False) E) (hE:∀ H1 s1 ex s',Inv X pins σ H1 s1->CX X.stack H1 s1 E ex s'->Ex ex s')
  (hdb:autoParam ((x==("__debug__":Str))=false) ZD) (he:autoParam (starEach (e::es) X.env=(false,eval e X.env)::starEach es X.env) ZR) (hpl:autoParam ((backTo pos (starEach es X.env)).any (·.1)=false) ZR) :
  wpAny (model X.prog X.w) X.A (eval (.Call (.Name x p) (e::es) [] pos) X.env) (fun _ _=>False) Ex s:=by
 refine wpAny_Call_Name_kw (gU I hg hm ?_ hdb);refine PySem.W.callWith_K (h₀:=X.base) I.ok.mod.kin hk (thn (ha pos pins s σ H _ (I.wish Ex) q) fun us s1 ⟨vs,H1,I1,r,q1⟩=>⟨I1.kIn,?_⟩) he hpl;have I2:Inv X pins σ H1 s1:=I1.unwish;have hl:us.length=ps.length:=by rw [<- r.length];exact F.len _ _ _ _ q1
 have hb2:BindsTo s1 fd ⟨us,[]⟩ (ps.zip us):=by
  have:=hb s1 us I2.kIn (by rw [List.append_nil];exact hl)
  rwa [List.append_nil] at this
 refine wpAny_call (codeAny_mono (F.run X.A X.stack s1 H1 ⟨us,[]⟩ us vs _ E hr I2.env0 hb2 r q1) fun r s' hq=>?_);cases r with
 | error ex=>exact hE H1 s1 ex s' I2 hq
 | ok fl =>
  cases fl with
  | ret u=>obtain ⟨_,_,_,_,_,_,_,z⟩:=hq;exact False.elim z
  | next=>exact False.elim hq
  | brk=>exact False.elim hq
  | cont=>exact False.elim hq
end
abbrev Cx.suite (X:Cx) (ea:Addr) (oe:Obj):Cx:={ X with A:=X.A.mark (some (.ref ea)),calm:=false,pn:=(ea,oe)::X.pn,xe:=fun _ _=>False }
def Cx.Ok.suite {X:Cx} (ok:X.Ok) (ea:Addr) (oe:Obj):(X.suite ea oe).Ok :=
 ⟨ok.mod,ok.kind,ok.glob,ok.blt,ok.above,ok.inj,ok.has,ok.cab,(fun z=>nomatch z),ok.frames,ok.stk,ok.exf,ok.bs,ok.bsz,ok.noex,ok.exfs,ok.funs,ok.frf⟩
section
variable {X:Cx} {pins:List (Addr×Obj)} {σ:St} {H:Hp} {s:Shared} {ea:Addr} {oe:Obj}
def Inv.suite (I:Inv X pins σ H s) (h1:s.heap.get? ea=some oe) (h2:H ea=none) (h3:ea≠X.env.locals) (h4:ea∉X.fs) (h5:∀ v,oe.data≠.cell v):Inv (X.suite ea oe) pins σ H s :=
 ⟨I.ok.suite ea oe,I.os,I.bare,I.base,I.loc,I.cell,I.free,I.freeC,fun p hp=>by
  rcases List.mem_cons.mp hp with z | z
  ·rw [z];exact ⟨h1,h2,h3,h4,h5⟩
  ·exact I.pin p z,I.hok,I.len⟩
def Inv.unsuite (I:Inv (X.suite ea oe) pins σ H s) (ok:X.Ok):Inv X pins σ H s :=
 ⟨ok,I.os,I.bare,I.base,I.loc,I.cell,I.free,I.freeC,fun p hp=>I.pin p (List.mem_cons_of_mem _ hp),I.hok,I.len⟩
def bA6 {A:Around} {Ex:Value->Shared->Prop} {i:Nat} {n:Str} {pos:Pos} {Q:Unit->Shared->Prop} (I:Inv X pins σ H s) (hN:X.N.Nodup) (hi:X.N[i]?=some n) (hk:X.env.scope.names.lookup n=some .local)
  (h:∀ s',Inv X pins (σ.set i none) H s'->Q () s'):wpAny (model X.prog X.w) A (do bindName X.env n .none;unbindBehindTheSuite X.env n pos) Q Ex s:=by
 obtain ⟨m,hn,hl⟩:=id I.loc;refine wpAny_nameGoes_keeps (m:=m) hk hn (by rw [I.ok.kind];rfl) fun h' v hn' hs=>h _ ?_;have far:∀ a,a≠X.env.locals->h'.get? a=s.heap.get? a:=fun a z=>hs.2 a z;have trk:∀ a,H a≠none->a≠X.env.locals:=fun a z q=>z (by rw [q];exact I.free);refine ⟨I.ok,I.os,I.bare,⟨fun a o q n1 ha hx=>?_,fun a o q n1 ha hx=>?_,I.base.free,fun a o q hx=>?_,I.base.tups,I.base.frzs,I.base.tbls⟩,⟨_,hn',fun j y v' e1 e2 e3=>?_⟩,fun y c e=>?_,I.free,I.freeC,fun p hp=>?_,
  I.hok.keptT fun a u z q=>by rw [far a (trk a z)];exact q,by rw [List.length_set];exact I.len⟩
 ·rw [far a (I.neL q)];exact I.base.keep a o q n1 ha hx
 ·rw [far a (I.neL q)];exact I.base.slot a o q n1 ha hx
 ·rw [far a (I.neL q)];exact I.base.there a o q hx
 ·have hj:i≠j:=by
   intro z;subst z;have hlt:i < σ.length:=by
    have:=(List.getElem?_eq_some_iff.mp e2).1
    rwa [List.length_set] at this
   rw [List.getElem?_set_self hlt] at e2;cases e2
  rw [List.getElem?_set_ne hj] at e2;obtain ⟨u,r,lk⟩:=hl j y v' e1 e2 e3;refine ⟨u,r,?_⟩;rcases lk with ⟨z1,z2⟩ | ⟨z1,c,z2,o,z3,z4⟩
  ·refine .inl ⟨z1,?_⟩;have ny:y≠n:=by
    intro z;subst z;have a1:=List.getElem?_eq_some_iff.mp e1;have a2:=List.getElem?_eq_some_iff.mp hi;exact hj ((List.getElem_inj hN).mp (a2.2.trans a1.2.symm))
   show (if y=n then v else m y)=some u;rw [if_neg ny];exact z2
  ·exact .inr ⟨z1,c,z2,o,by rw [far c (I.cne y c z2)];exact z3,z4⟩
 ·obtain ⟨v,o,ho,hd⟩:=I.cell y c e;exact ⟨v,o,by rw [far c (I.cne y c e)];exact ho,hd⟩
 ·obtain ⟨p1,p2,p3,p4,p5⟩:=I.pin p hp;exact ⟨by rw [far _ p3];exact p1,p2,p3,p4,p5⟩
end
section
variable {X:Cx} {k:Nat} {f C CJ:Addr} {fd:FuncData} {ps:List Str} {sp:Sp} {x n J:Str} {p pos epos jp hpos tpos:Pos} {e:Expr} {es:List Expr} {t:TA} {i:Nat} {b₀:Stmt} {su:List Stmt} {ts:Addr->TS}
end
section
variable {prog:Program} {w:World} {A:Around} {E:Value->Shared->Prop} {h:Heap} {g:Array GenState} {d:Drawn} {t:Nat} {os:OsState} {K:Frag} {x C:Addr} {ox:Obj}
structure XCls (K:Frag) (C:Addr):Prop where
 ga:PySem.W.findIn K (.ref C) "__getattribute__"=some (some (.builtin "BaseException.__getattribute__"))
 gn:PySem.W.findIn K (.ref C) "__getattr__"=some none
 cl:PySem.W.findIn K (.ref C) "__class__"=some (some (.builtin "object.__class__"))
 be:PySem.W.mroIn K C (.type "BaseException")=some true
 ob:PySem.W.mroIn K C (.type "object")=some true
def cB1 {tp:Value} {R:Result->Shared->Prop} (Z:XCls K C) (X:K.In h) (hx:h.get? x=some ox) (hc:ox.cls=.ref C) (hq:R (.ok (.ret (.ref C))) ⟨h,g,d,t,os⟩) :
  codeAny (model prog w) A (.call (.builtin "getset_descriptor.__get__") ⟨[.builtin "object.__class__",.ref x,tp],[]⟩) R ⟨h,g,d,t,os⟩:=by
 have L0:PySem.W.Looks (model prog w) h (typeOf (.ref x)) (.ref C):=hc ▸ (PySem.W.Looks.ld hx).andThen .now;have L1:PySem.W.Looks (model prog w) h (isSubtype (.ref C) (.type "object")) true:=PySem.W.looks_mroIn X Z.ob;have hT5:(⟨h,g,d,t,os⟩:Shared).TypeIs (.builtin "object.__class__") "getset_descriptor":=F.typeOf_object_class;have ow:=F.owner_object_class;refine codeAny_call_builtin F.slot_gs_get.plain F.entry_gs_get ?_;refine F.slot_gs_get.check _ _ _ _ _ _ _ _ hT5 (F.args_gs_get _ _ _) ?_
 repeat (any_goals (first | assumption | (with_reducible refine wpAny_loadPart_at hx ?_;rw [hc]) | (rw [ow];with_reducible refine L1.at ?_) | with_reducible refine L1.at ?_ | wp_step))
 refine ⟨Code.quiet_builtin _ (by decide +kernel),codeAny_builtin F.entry_object_class ?_⟩
 repeat (any_goals (first | assumption | (with_reducible refine wpAny_loadPart_at hx ?_;rw [hc]) | wp_step))
def aM9 {tk:Tok} {Q:Fin->Shared->Prop} (Z:XCls K C) (X:K.In h) (hx:h.get? x=some ox) (hc:ox.cls=.ref C) (hq:Q (.done (.ret (.ref C))) ⟨h,g,d,t,os⟩) :
  wpAny (model prog w) A (Builtin.«object.__getattribute__» ⟨[.ref x,.str "__class__" tk],[]⟩) Q E ⟨h,g,d,t,os⟩:=by
 have L6:PySem.W.Looks (model prog w) h (typeLookup (.ref C) "__class__") (some (.builtin "object.__class__")):=PySem.W.looks_findIn X Z.cl;have hT5:(⟨h,g,d,t,os⟩:Shared).TypeIs (.builtin "object.__class__") "getset_descriptor":=F.typeOf_object_class;have f5:=F.typeOf_object_class;have f6:=F.slot_gs_get.lookup;have f7:=F.slot_gs_set.lookup
 repeat (any_goals (first | assumption | (with_reducible refine wpAny_loadPart_at hx ?_;rw [hc]) | with_reducible refine L6.at ?_ | wp_step))
 refine cB1 Z X hx hc ?_
 repeat (any_goals (first | assumption | wp_step))
def tS {M:Model} {nameV:Value} {Q:Unit->Shared->Prop} (Z:XCls K C) (X:K.In h) (hx:h.get? x=some ox) (hc:ox.cls=.ref C) (hq:Q () ⟨h,g,d,t,os⟩) :
  wpAny M A (checkBuiltinCall "BaseException.__getattribute__" ⟨[.ref x,nameV],[]⟩) Q E ⟨h,g,d,t,os⟩:=by
 have k1:builtinKind "BaseException.__getattribute__"=some .slot:=by decide +kernel
 have k2:splitId "BaseException.__getattribute__"=some ("BaseException","__getattribute__"):=by decide +kernel
 have L3:PySem.W.Looks M h (isSubtype (.ref C) (.type "BaseException")) true:=PySem.W.looks_mroIn X Z.be;have k3:=F.args_bexc_ga (.ref x) nameV;simp only [checkBuiltinCall,k1,k2];unfold isInstance
 repeat (any_goals (first | assumption | (with_reducible refine wpAny_loadPart_at hx ?_;rw [hc]) | with_reducible refine L3.at ?_ | wp_step))
def cP8 {tk:Tok} {Q:Value->Shared->Prop} (FB:Slot "ValueError" "__getattribute__" "BaseException.__getattribute__") (Z:XCls K C) (X:K.In h) (hx:h.get? x=some ox) (hc:ox.cls=.ref C) (hq:Q (.ref C) ⟨h,g,d,t,os⟩) :
  wpAny (model prog w) A (getAttrBy (.ref x) (.str "__class__" tk) false) Q E ⟨h,g,d,t,os⟩:=by
 have L4:PySem.W.Looks (model prog w) h (typeLookup (.ref C) "__getattribute__") (some (.builtin "BaseException.__getattribute__")):=PySem.W.looks_findIn X Z.ga;have L5:PySem.W.Looks (model prog w) h (typeLookup (.ref C) "__getattr__") none:=PySem.W.looks_findIn X Z.gn;have f3:=FB.bind (.ref x);have y2:(Value.builtin "BaseException.__getattribute__"==Value.builtin "object.__getattribute__")=false:=by decide +kernel
 have y1:(onTheHeap (Value.ref C)&&Value.builtin "BaseException.__getattribute__"==Value.builtin "object.__getattribute__")=false:=by rw [y2];rfl
 repeat (any_goals (first | assumption | (with_reducible refine wpAny_loadPart_at hx ?_;rw [hc]) | with_reducible refine L4.at ?_ | with_reducible refine L5.at ?_ | wp_step))
 refine codeAny_call_builtin FB.plain F.entry_bexc_ga ?_;refine tS Z X hx hc (aM9 Z X hx hc ?_)
 repeat (any_goals (first | assumption | wp_step))
def bA7 {Q:Option Value->Shared->Prop} (FB:Slot "ValueError" "__getattribute__" "BaseException.__getattribute__") (Z:XCls K C) (X:K.In h) (hx:h.get? x=some ox) (hc:ox.cls=.ref C) (hq:Q (some (.ref C)) ⟨h,g,d,t+1,os⟩) :
  wpAny (model prog w) A (getAttr? (.ref x) "__class__") Q E ⟨h,g,d,t,os⟩:=by
 unfold getAttr? getAttrBy?
 repeat (any_goals (first | assumption | with_reducible apply cP8 FB Z X hx hc | wp_step))
def tT (FB:Slot "ValueError" "__getattribute__" "BaseException.__getattribute__") (Z:XCls K C) (hc:ox.cls=.ref C):PySem.W.KitX K (.ref x) (.ref C) (fun h=>h.get? x=some ox) where
 ty:=fun M h _ hx=>hc ▸ (PySem.W.Looks.ld hx).andThen .now
 it:=fun M h X _=>by
  have z:=Z.ob;unfold PySem.W.mroIn at z;obtain ⟨cd,a,_⟩:=Option.bind_eq_some_iff.mp z;unfold PySem.W.clsIn at a;split at a
  ·rename_i ho;intro A' Q' E' s' k q;unfold isType loadHead;exact wpAny_bind (wpAny_loadPart (k _ _ (X _ _ ho)) (wpAny_pure q))
  ·cases a
 ne:=fun h tp dd its n sl X htp=>by
  refine Bool.eq_false_iff.mpr fun q=>?_;have e:C=tp:=Value.ref.inj (beq_iff_eq.mp q);subst e;have z:=Z.ob;unfold PySem.W.mroIn at z;obtain ⟨cd,a,_⟩:=Option.bind_eq_some_iff.mp z;unfold PySem.W.clsIn at a;split at a
  ·rename_i ho;cases (X _ _ ho).symm.trans htp
  ·cases a
 ca:=fun {_ _ _ _ _ s} X hx q=>by
  obtain ⟨h,g,d,t,os⟩:=s;exact bA7 FB Z X hx hc q
end
end L2
namespace DL
open PySem PySem.Spec PyProof.Rows L2
abbrev DTR:=DSt->aA->Prop
section
variable {X:Cx} {C:Addr} {E:XK} {st:Stmt} {rest sa:List Stmt} {e c:Expr} {es:List Expr} {t:DTA} {tr:DTR} {x:Str} {p np pos epos:Pos} {f:Addr} {fd:FuncData} {ps:List Str} {k:Nat} {pre:List W->Prop} {tc:DTT} {t1:DTS}
end
section
variable {P:Program} {w:World} {K:Frag} {mg:Str->Option Value} {base:Heap}
end
section
variable {X:Cx} {k:Nat} {f C CJ:Addr} {fd:FuncData} {ps:List Str} {x n J:Str} {p pos epos jp hpos tpos:Pos} {e:Expr} {es:List Expr} {t:DTA} {i:Nat} {b₀:Stmt} {su:List Stmt} {ts:Addr->DTS} {pre:List W->Prop}
end
section
variable {X:Cx} {C:Addr} {ea:Addr} {oe:Obj} {i:Nat} {n Cn:Str} {b:Bool} {p p1 p2 pos:Pos} {cv:V} {cu:Value}
end
section
variable {X:Cx}
end
section
variable {X:Cx} {a:Expr} {ta:DTE} {pos:Pos}
end
end DL
set_option maxHeartbeats 400000
namespace DL
open PySem PySem.Spec PyProof.Rows L2
section
variable {X:Cx} {C ea a1 a2 a3 a4:Addr} {oe:Obj} {i k:Nat} {n c1 c2 c3 c4:Str} {b:Bool} {p p1 q1 q2 q3 q4 pt pos:Pos}
end
end DL
set_option maxHeartbeats 4000000
namespace PySem
section
variable {prog:Program} {w:World} {A:Around} {E:Value->Shared->Prop} {h:Heap} {g:Array GenState} {d:Drawn} {t:Nat} {os:OsState}
variable {nm q:Str} {C N:Addr} {bs bm bmB:List Value} {hdct:Bool} {sn:List Str} {sub:List Value} {ab:Bool} {col:Option Bool} {dd:Option Addr} {k0 k1 k2 k3 k5:Option Value} {B newId initId:String}
def tU (F:ExcBaseFacts B newId initId bmB) (T:OwnTail h bmB bm) {mN:Str->Option Value} {us:List Value} {fI:Addr} {oI:Obj} {Q:Fin->Shared->Prop}
  (hC:h.get? C=some (excClassObj nm q C N bs bm hdct sn sub ab col dd k0 k1 k2 k3 k5 newId)) (hn:h.Ns N mN) (hi:mN "__init__"=some (.ref fI)) (hfI:h.get? fI=some oI) (hfc:oI.cls=.type "function")
  (hq:∀ h' e,Heap.MadeExcOf h h' e (.ref C) us->h.objs.size<=e->wpAny (model prog w) A (call (.ref fI) (.ref e::us)) (fun r s'=>r=.none/\Q (.done (.ret (.ref e))) s') E ⟨h',g,d,t,os⟩) (hus:us.length<=sizeLine:=by size_fits) :
  wpAny (model prog w) A (Builtin.«type.__call__» ⟨.ref C::us,[]⟩) Q E ⟨h,g,d,t,os⟩:=by
 let o1:Obj:={ cls:=.type "tuple",data:=.seq us.toArray }
 let o2:Obj:={ cls:=.ref C,data:=.fields #[.ref h.objs.size,.none,.none,.none,.bool false,.none] }
 have up:∀ b o,h.get? b=some o->((h.push o1).push o2).get? b=some o:=fun b o e=>Heap.get?_push_of_some _ (Heap.get?_push_of_some _ e)
 repeat (first | with_reducible refine wpAny_loadPart_at hC ?_ | with_reducible refine wpAny_madeBy_exc hC ?_ | wp_step)
 refine codeAny_call_builtin_code (Code.quiet_builtin _ F.quiet) (wpAny_check_new_subT F T hC (codeAny_exc_new_subT F T hC ?_ hus));show wpAny _ _ _ _ _ _;have kC:=up _ _ hC;have kN:=hn.keeps up;have kf:=up _ _ hfI;have ke:((h.push o1).push o2).get? (h.objs.size+1)=some o2:=by heap_get
 have hcC:(Value.ref C::bm).contains (.ref C)=true:=by simp
 unfold isInstance
 repeat (first | with_reducible refine wpAny_loadPart_at ke ?_ | (with_reducible refine wpAny_isSubtype_exc kC ?_;rw [hcC]) | wp_step)
 show wpAny _ _ (typeLookup (.ref C) _) _ _ _;refine wpAny_typeLookup_tail kC kN (T.keeps up) F.mroIs F.init.lookup ?_;rw [hi];refine wpAny_holding (wpAny_bind ?_);unfold bindSpecial;refine wpAny_bind (wpAny_typeOf (T:="function") ⟨_,kf,hfc⟩ ?_);rw [if_pos (by decide)];refine wpAny_pure (wpAny_bind (wpAny_mono (hq _ (h.objs.size+1) ⟨up,Heap.get?_none_of_le (Nat.le_succ _),h.objs.size,ke,Heap.get?_none_of_le (Nat.le_refl _),?_⟩ (Nat.le_succ _)) (fun r s' hr=>?_) fun _ _ x=>x))
 ·exact Heap.get?_push_of_some _ (Heap.get?_push_at rfl rfl)
 ·obtain ⟨rfl,hQ⟩:=hr
  wp_walk
  exact hQ
def vP (F:ExcBaseFacts B newId initId bmB) (T:OwnTail h bmB bm) {mN:Str->Option Value} {us:List Value} {fI:Addr} {oI:Obj} {Q:Value->Shared->Prop}
  (hC:h.get? C=some (excClassObj nm q C N bs bm hdct sn sub ab col dd k0 k1 k2 k3 k5 newId)) (hn:h.Ns N mN) (hi:mN "__init__"=some (.ref fI)) (hfI:h.get? fI=some oI) (hfc:oI.cls=.type "function")
  (hq:∀ h' e,Heap.MadeExcOf h h' e (.ref C) us->h.objs.size<=e->wpAny (model prog w) (A.under (.builtin "type.__call__" ⟨.ref C::us,[]⟩)) (call (.ref fI) (.ref e::us)) (fun r s'=>r=.none/\Q (.ref e) s') E ⟨h',g,d,t,os⟩) (hus:us.length<=sizeLine:=by size_fits) :
  wpAny (model prog w) A (call (.ref C) us) Q E ⟨h,g,d,t,os⟩:=by
 have f1:=tc_lookup;have f2:=tc_bind (.ref C);have hT:(⟨h,g,d,t,os⟩:Shared).TypeIs (.ref C) "type":=⟨_,hC,rfl⟩;refine wpAny_call (codeAny_of_tree ?_);show wpAny _ _ (callAny (.ref C) _) _ _ _
 repeat (any_goals (first | assumption | with_reducible refine wpAny_loadPart_at hC ?_ | wp_step))
 exact ⟨rfl,codeAny_call_builtin_at (Code.quiet_builtin _ (by decide +kernel)) entry_typeCall (wpAny_check_type_call_sub hC (tU (hus:=hus) F T hC hn hi hfI hfc fun h' e hm hl=>hq h' e hm hl))⟩
end
end PySem
set_option maxHeartbeats 200000
namespace PySem
noncomputable def Kp (P:Obj->Prop) {α:Type}:Sem α->Prop
 | .rule _ k=>Kp P (k ())
 | .at _ k=>Kp P (k ())
 | .load _ _ k=>∀ o,Kp P (k o)
 | .update _ _ f k=>(∀ o,P o->P (f o))/\Kp P (k ())
 | .alloc _ k=>∀ a,Kp P (k a)
 | .loadIfAlive _ k=>∀ o,Kp P (k o)
 | .point _ k=>Kp P (k ())
 | .fresh k=>∀ x,Kp P (k x)
 | .ask k=>∀ x,Kp P (k x)
 | .stack k=>∀ x,Kp P (k x)
 | .pure _=>True
 | .unsupported _=>True
 | .raise _=>True
 | _=>False
def Kp.bind {P:Obj->Prop} {α β:Type} {f:α->Sem β} (hf:∀ a,Kp P (f a)) {x:Sem α} (h:Kp P x):Kp P (x >>= f):=by
 show Kp P (x.bind f);induction x with
 | pure a=>exact hf a
 | raise e=>exact True.intro
 | unsupported u=>exact True.intro
 | rule t k ih=>exact ih () h
 | «at» t k ih=>exact ih () h
 | load a p k ih=>exact fun o=>ih o (h o)
 | update a p g k ih=>exact ⟨h.1,ih () h.2⟩
 | alloc o k ih=>exact fun o=>ih o (h o)
 | loadIfAlive a k ih=>exact fun o=>ih o (h o)
 | point l k ih=>exact ih () h
 | fresh k ih=>exact fun o=>ih o (h o)
 | ask k ih=>exact fun o=>ih o (h o)
 | stack k ih=>exact fun o=>ih o (h o)
 | _=>exact False.elim h
def AtP (P:Obj->Prop) (e:Addr) (h:Heap):Prop:=∃ o,h.get? e=some o/\P o
def AtP.upd {P:Obj->Prop} {e a:Addr} {h:Heap} {f:Obj->Obj} (hP:∀ o,P o->o.isFreed=false) (x:AtP P e h) (hf:∀ o,P o->P (f o)):AtP P e (h.update a f):=by
 obtain ⟨o,e1,p⟩:=x
 by_cases q:a=e
 ·subst q;exact ⟨_,Heap.get?_update_self _ e1 (hP _ (hf _ p)),hf _ p⟩
 ·exact ⟨o,(Heap.get?_update_other _ _ q).trans e1,p⟩
def Kp.wp {P:Obj->Prop} (hP:∀ o,P o->o.isFreed=false) {M:Model} {Γ:Ctx} {e:Addr} {α:Type} {Q:α->Pos->Shared->Prop} {E:Value->Pos->Shared->Prop} {t:Sem α} (h:Kp P t):∀ {p:Pos} {s:Shared},AtP P e s.heap->Sem.wp M Γ t Q E p s->Sem.wp M Γ t (fun a p s'=>Q a p s'/\AtP P e s'.heap) E p s:=by
 induction t with
 | pure a=>exact fun x w=>⟨w,x⟩
 | raise e=>exact fun x w=>w
 | unsupported u=>exact fun x w=>w
 | rule t k ih=>exact fun x w=>ih () h x w
 | «at» t k ih=>exact fun x w=>ih () h x w
 | load a p k ih=>exact fun x ⟨o,e1,w⟩=>⟨o,e1,ih o (h o) x w⟩
 | update a p g k ih=>exact fun x ⟨e1,w⟩=>⟨e1,ih () h.2 (x.upd hP h.1) w⟩
 | alloc o k ih=>exact fun x w=>ih _ (h _) (let ⟨o',e1,p1⟩:=x;⟨o',Heap.get?_push_of_some _ e1,p1⟩) w
 | loadIfAlive a k ih=>exact fun x w=>ih _ (h _) x w
 | point l k ih=>exact fun x w=>ih () h x w
 | fresh k ih=>exact fun x w=>ih _ (h _) x w
 | ask k ih=>exact fun x w=>ih _ (h _) x w
 | stack k ih=>exact fun x w=>ih _ (h _) x w
 | _=>exact False.elim h
def Kp.any {P:Obj->Prop} (hP:∀ o,P o->o.isFreed=false) {M:Model} {A:Around} {e:Addr} {α:Type} {Q:α->Shared->Prop} {E:Value->Shared->Prop} {t:Sem α} {s:Shared} (h:Kp P t) (x:AtP P e s.heap) (w:wpAny M A t Q E s):wpAny M A t (fun a s'=>Q a s'/\AtP P e s'.heap) E s :=
 fun Γ p hΓ=>Kp.wp hP h x (w Γ p hΓ)
def ErP (c:Value) (D:Addr) (o:Obj):Prop:=o.cls=c/\o.dict=some D/\∃ vs,o.data=.fields vs
def ErP.freed {c:Value} {D:Addr} (o:Obj) (h:ErP c D o):o.isFreed=false:=let ⟨_,_,_,e⟩:=h;Obj.isFreed_of_fields e
def ErP.map {c:Value} {D:Addr} {f:Array Value->Array Value} (o:Obj) (h:ErP c D o):ErP c D (Obj.mapFields f o):=by
 obtain ⟨h1,h2,vs,h3⟩:=h;refine ⟨(Obj.cls_mapFields _ _).trans h1,?_,_,Obj.data_mapFields h3 f⟩;obtain ⟨c1,d1,dt,sl⟩:=o;cases dt<;>exact h2
section
variable {c:Value} {D:Addr}
def aA6 (v:Value):Kp (ErP c D) (fieldsOf v):=by
 unfold fieldsOf;cases v with
 | ref a=>exact Kp.bind (fun o=>by cases o.data<;>trivial) (x:=load a) (fun _=>trivial)
 | _=>trivial
def jG (v:Value) (i:Nat):Kp (ErP c D) (field v i):=Kp.bind (fun vs=>by cases vs[i]?<;>trivial) (aA6 v)
def gQ (v:Value) (i:Nat) (x:Value):Kp (ErP c D) (setField v i x):=by
 unfold setField;cases v with
 | ref a =>
  refine Kp.bind (fun o=>?_) (x:=load a) (fun _=>trivial);cases o.data with
  | fields vs =>
   dsimp only;split
   ·exact ⟨ErP.map,trivial⟩
   ·trivial
  | _=>trivial
 | _=>trivial
def kG (e:Value) (f:Option Addr):Kp (ErP c D) (setFlight e f):=Kp.bind (fun tb=>by split<;>first | exact gQ _ _ _ | trivial) (jG e 1)
def mZ:Kp (ErP c D) stack:=fun _=>True.intro
theorem tV:∀ l:List Env,Kp (ErP c D) (readyFrames l)
 | []=>trivial
 | env::outer=>by
  have ih:=tV outer;unfold readyFrames;cases env.frame with
  | none=>trivial
  | some f =>
   refine Kp.bind (fun o=>?_) (x:=load f) (fun _=>trivial);split
   ·trivial
   ·refine Kp.bind (fun b=>?_) ?_
    ·refine Kp.bind (fun b'=>?_) ?_
     ·refine Kp.bind (fun _=>ih) ?_;exact ⟨fun o h=>h,True.intro⟩
     ·unfold keptBack;split
      ·split
       ·exact True.intro
       ·refine Kp.bind (fun _=>?_) ?_
        ·exact True.intro
        ·unfold underTheClaimsCaller;refine Kp.bind (fun _=>?_) mZ;exact True.intro
      ·exact True.intro
    ·unfold behindIsImport;split
     ·trivial
     ·split
      ·trivial
      ·refine Kp.bind (fun _=>?_) (jG _ _);exact True.intro
def bA8:Kp (ErP c D) frameEnvs:=by
 unfold frameEnvs;refine Kp.bind (fun _=>?_) mZ;exact True.intro
def vQ (env:Env):Kp (ErP c D) (frameOf env):=by
 unfold frameOf;refine Kp.bind (fun l=>Kp.bind (fun o=>by cases o<;>trivial) ?_) bA8;unfold frameObject;cases List.dropWhile (fun x=>x.frame != env.frame) l with
 | nil=>trivial
 | cons a r =>
  refine Kp.bind (fun _=>?_) (tV _);exact True.intro
def xH (e:Value) (env:Env):Kp (ErP c D) (noteFrame e env):=by
 unfold noteFrame;cases env.frame with
 | none=>trivial
 | some f =>
  have tail:∀ head:Value,Kp (ErP c D) (do setField e 1 (<- EntryCells.newEntry head (<- frameOf env) .none (rawInt f) .none (<- entryPlaceOf f (head != .none)))):=fun head=>by
   refine Kp.bind (fun fr=>Kp.bind (fun pl=>Kp.bind (fun b=>gQ _ _ _) ?_) ?_) (vQ env)
   ·unfold EntryCells.newEntry newFields newObj;dsimp only;generalize ([head,fr,Value.none,rawInt f,Value.none]++(if pl.isEmpty=true then List.replicate 6 Value.none else pl))=L;split
    ·exact True.intro
    ·unfold newObjAsIs;refine Kp.bind (fun _=>?_) ?_
     ·exact True.intro
     ·exact fun _=>True.intro
   ·unfold entryPlaceOf;exact Kp.bind (fun _=>by split<;>trivial) mZ
  refine Kp.bind (fun head=>?_) (jG e 1);dsimp only;split
  ·refine Kp.bind (fun y=>?_) (jG _ _);split
   ·trivial
   ·exact Kp.bind (fun _=>tail _) (gQ _ _ _)
  ·exact tail _
def vR (e:Value) (env:Env):Kp (ErP c D) (leaving env e):=Kp.bind (fun _=>kG _ _) (xH e env)
end
end PySem
set_option maxHeartbeats 400000
namespace L2
open PySem PySem.Spec PyProof.Rows
abbrev nB:List Value:=[.type "ValueError",.type "Exception",.type "BaseException",.type "object"]
structure ECls (K:Frag) (C CJ:Addr):Prop where
 mro:(PySem.W.clsIn K C).any (fun cd=>cd.hasDict&&cd.mro==.ref C::.ref CJ::nB)=true
 sa:PySem.W.findIn K (.ref C) "__setattr__"=some (some (.builtin "object.__setattr__"))
 nat:PySem.W.findIn K (.ref C) "at"=some none
section
variable {prog:Program} {w:World} {A:Around} {E:Value->Shared->Prop} {s:Shared} {K:Frag} {C CJ ea:Addr} {oe:Obj} {vs:Array Value} {u:Value}
def bA9 {Q:Unit->Shared->Prop} (Z:ECls K C CJ) (X:K.In s.heap) (he:s.heap.get? ea=some oe) (hc:oe.cls=.ref C) (hd:oe.dict=none) (hv:oe.data=.fields vs)
  (h:∀ h',h'.get? ea=some { oe with dict:=some s.heap.objs.size }->h'.Ns1 s.heap.objs.size (fun y=>if y="at" then some u else none)->(∀ b o,b≠ea->s.heap.get? b=some o->h'.get? b=some o)->Q () { s with heap:=h',toks:=s.toks+2 }) :
  wpAny (model prog w) A (setAttr (.ref ea) "at" u) Q E s:=by
 have J:PySem.W.InstAt s.heap ea oe C none:=⟨he,hc,by unfold PySem.W.notCls;rw [hv],by rw [hd];trivial⟩;have SF:=PySem.F.store_object;obtain ⟨cd,hcd,hb⟩:=PySem.W.any_some Z.mro;obtain ⟨hdi,hm⟩:=Bool.and_eq_true_iff.mp hb;have hm:=eq_of_beq hm;refine PySem.W.set_plain X J Z.sa ?_;obtain ⟨hh,g,dr,t,os⟩:=s;dsimp only at X he h J ⊢;have sub:PySem.W.Looks (model prog w) hh (isInstance (.ref ea) (.type "object")) true:=J.type.andThen (PySem.W.looks_mroIn X (by unfold PySem.W.mroIn;rw [hcd,Option.bind_some,hm];rfl));have hmr:PySem.W.Looks (model prog w) hh (mroOf (.ref C)) (.ref C::.ref CJ::nB):=hm ▸ (PySem.W.looks_clsIn X hcd).andThen .now;refine codeAny_call_builtin SF.slot.plain SF.entry (@PySem.W.check_slot (model prog w) _ _ ⟨hh,g,dr,t+1,os⟩ "object.__setattr__" "object" "__setattr__" (.ref ea) [.str "at" t,u] [] _ SF.kind SF.split sub (SF.args (.ref ea) (.str "at" t) u) ?_);rw [PySem.W.osa_eq,refuse_eq];refine wpAny_bind (wpAny_bind (J.type.here (wpAny_bind (hmr.here ?_))));rw [refuseLoop_ref,refuseLoop_ref,PySem.F.store_ValueError.passes];refine wpAny_pure (wpAny_bind (J.type.here (wpAny_bind ((PySem.W.looks_findIn X Z.nat).here (wpAny_bind (wpAny_pure ?_))))));dsimp only;obtain ⟨oc,od,odt,osl⟩:=oe;dsimp only at hc hd hv h;subst hc;subst hd;subst hv;refine wpAny_bind (wpAny_pure (wpAny_bind (wpAny_bind (wpAny_loadPart he (wpAny_bind ((PySem.W.looks_clsIn X hcd).here ?_))))));rw [hdi];have hx1:(hh.push { cls:=.type "dict",data:=.dict #[] }).get? ea=some ⟨.ref C,none,.fields vs,osl⟩:=Heap.get?_push_of_some _ he;have hxs:ea≠hh.objs.size:=Nat.ne_of_lt (Heap.lt_size he);refine wpAny_bind (wpAny_alloc ?_);refine wpAny_bind (wpAny_update hx1 ?_);refine wpAny_pure ?_;have hgd:((hh.push { cls:=.type "dict",data:=.dict #[] }).update ea fun o=>{ o with dict:=some hh.objs.size }).get? hh.objs.size=some { cls:=.type "dict",data:=.dict #[] } :=
  (Heap.get?_update_ne _ _ _ _ hxs.symm).trans (Heap.get?_push_at rfl rfl)
 have hnd:((hh.push { cls:=.type "dict",data:=.dict #[] }).update ea fun o=>{ o with dict:=some hh.objs.size }).Ns hh.objs.size (fun _=>none):=⟨_,#[],_,hgd,rfl,fun e he=>absurd he (by simp),fun _=>rfl⟩;refine wpAny_bind (wpAny_pure (wpAny_bind (wpAny_nsSet1 (Heap.Ns1.of_empty hnd) fun h' hn' hs=>?_)));obtain ⟨oD,esD,epD,hoD,hdD,hcD⟩:=hn'.count (Within.cons "at" u Within.nil);refine wpAny_bind (wpAny_lookBehind hoD (by rw [hdD];exact pastItsLine_dict (Nat.le_trans hcD (by rw [List.length_cons,List.length_nil,sizeLine_eq];omega))) ?_);refine wpAny_pure (h h' ?_ hn' fun b o hb q=>?_)
 ·exact (hs.2 ea hxs).trans (Heap.get?_update_self _ hx1 rfl)
 ·exact (hs.2 b (Nat.ne_of_lt (Heap.lt_size q))).trans ((Heap.get?_update_ne _ _ _ _ hb).trans (Heap.get?_push_of_some _ q))
end
section
variable {prog:Program} {w:World} {A:Around} {E:Value->Shared->Prop} {h:Heap} {g:Array GenState} {d:Drawn} {t:Nat} {os:OsState} {K:Frag} {C CJ x D:Addr} {ox:Obj} {v:Value} {vs:Array Value} {m:Str->Option Value}
def aN0 {tk:Tok} {Q:Fin->Shared->Prop} (Y:ECls K C CJ) (X:K.In h) (hx:h.get? x=some ox) (hc:ox.cls=.ref C) (hv:ox.data=.fields vs) (hd:ox.dict=some D) (hn:h.Ns1 D m) (hm:m "at"=some v) (hq:Q (.done (.ret v)) ⟨h,g,d,t,os⟩) :
  wpAny (model prog w) A (Builtin.«object.__getattribute__» ⟨[.ref x,.str "at" tk],[]⟩) Q E ⟨h,g,d,t,os⟩:=by
 obtain ⟨cd,hcd,hb⟩:=PySem.W.any_some Y.mro;obtain ⟨hdi,_⟩:=Bool.and_eq_true_iff.mp hb;have L6:PySem.W.Looks (model prog w) h (typeLookup (.ref C) "at") none:=PySem.W.looks_findIn X Y.nat;obtain ⟨od,ho,hl⟩:=yF hn;have J:PySem.W.InstAt h x ox C (some od):=⟨hx,hc,by unfold PySem.W.notCls;rw [hv],by rw [hd];exact ho⟩;have L7:PySem.W.Looks (model prog w) h (Builtin.ObjectAttr.inOwnDict "at" (.ref x)) (some v):=PySem.W.looks_own X J hcd (by unfold PySem.W.ownOf;rw [if_pos hdi];show PySem.W.lookIn "at" od=_;rw [hl,hm]);unfold Builtin.«object.__getattribute__» Builtin.ObjectAttr.find Builtin.ObjectAttr.ownThenClass
 repeat (any_goals (first | assumption | (with_reducible refine wpAny_loadPart_at hx ?_;rw [hc]) | with_reducible refine L6.at ?_ | with_reducible refine L7.at ?_ | wp_step))
def bB0 {b:Bool} {Q:Value->Shared->Prop} (FB:Slot "ValueError" "__getattribute__" "BaseException.__getattribute__") (Z:XCls K C) (Y:ECls K C CJ) (X:K.In h) (hx:h.get? x=some ox) (hc:ox.cls=.ref C) (hv:ox.data=.fields vs) (hd:ox.dict=some D) (hn:h.Ns1 D m) (hm:m "at"=some v) (hh:handedOut v=pure v) (hq:Q v ⟨h,g,d,t+1,os⟩) :
  wpAny (model prog w) A (getAttr (.ref x) "at" b) Q E ⟨h,g,d,t,os⟩:=by
 have L4:PySem.W.Looks (model prog w) h (typeLookup (.ref C) "__getattribute__") (some (.builtin "BaseException.__getattribute__")):=PySem.W.looks_findIn X Z.ga;have L5:PySem.W.Looks (model prog w) h (typeLookup (.ref C) "__getattr__") none:=PySem.W.looks_findIn X Z.gn;have f3:=FB.bind (.ref x);have y2:(Value.builtin "BaseException.__getattribute__"==Value.builtin "object.__getattribute__")=false:=by decide +kernel
 have y1:(onTheHeap (Value.ref C)&&Value.builtin "BaseException.__getattribute__"==Value.builtin "object.__getattribute__")=false:=by rw [y2];rfl
 have y0:(b&&onTheHeap (Value.builtin "BaseException.__getattribute__"))=false:=by cases b<;>rfl
 unfold getAttr
 repeat (any_goals (first | assumption | (with_reducible refine wpAny_loadPart_at hx ?_;rw [hc]) | with_reducible refine L4.at ?_ | with_reducible refine L5.at ?_ | wp_step))
 refine codeAny_call_builtin FB.plain F.entry_bexc_ga ?_;refine tS Z X hx hc (aN0 Y X hx hc hv hd hn hm ?_)
 repeat (any_goals (first | assumption | wp_step))
end
section
variable {prog:Program} {w:World} {A:Around} {E:Value->Shared->Prop} {s:Shared} {K:Frag} {C CJ ea:Addr} {oe:Obj} {vs:Array Value} {us:List Value}
def aN1 {Q:Value->Shared->Prop} (FB:ExcBaseFacts "ValueError" "ValueError.__new__" "ValueError.__init__" nB) (Y:ECls K C CJ) (X:K.In s.heap) (he:s.heap.get? ea=some oe) (hc:oe.cls=.ref C) (hd:oe.data=.fields vs) {t0:Addr} (h0:vs[0]?=some (.ref t0)) (hz:us.length<=sizeLine)
  (h:Q .none { s with heap:=(s.heap.push { cls:=.type "tuple",data:=.seq us.toArray }).update ea (Obj.mapFields (·.setIfInBounds 0 (.ref s.heap.objs.size))) }) :
  wpAny (model prog w) A (call (.builtin "ValueError.__init__") (.ref ea::us)) Q E s:=by
 obtain ⟨cd,hcd,hb⟩:=PySem.W.any_some Y.mro;have hm:=eq_of_beq (Bool.and_eq_true_iff.mp hb).2;have L3:∀ {M:Model},PySem.W.Looks M s.heap (isSubtype (.ref C) (.type "ValueError")) true:=fun {M}=>PySem.W.looks_mroIn X (by unfold PySem.W.mroIn;rw [hcd,Option.bind_some,hm];rfl);refine wpAny_call (codeAny_call_builtin FB.init.plain FB.initEntry ?_);have hshort:=FB.noStar;obtain ⟨c0,d0,sl,hCo⟩:∃ c0 d0 sl,s.heap.get? C=some ⟨c0,d0,.cls cd,sl⟩:=by
  unfold PySem.W.clsIn at hcd;split at hcd
  ·rename_i c0 d0 c1 sl e;cases hcd;exact ⟨_,_,_,X _ _ e⟩
  ·cases hcd
 obtain ⟨hh,g,dr,t,os⟩:=s;dsimp only at X he h L3 hCo ⊢;simp only [checkBuiltinCall,FB.initKind,FB.initSplit,FB.initRow];unfold isInstance
 repeat (first | (with_reducible refine wpAny_loadPart_at he ?_;rw [hc]) | with_reducible refine L3.at ?_ | with_reducible refine wpAny_load hCo ?_ | with_reducible refine wpAny_loadPart_at hCo ?_ | wp_step)
 refine wpAny_onRaise ?_;rw [show ∀ (a b:String) (n:Nat),Bind.check ⟨.positional,"*","ValueError",.self,[⟨"args",.varPos,false⟩]⟩ a b n (List.map (fun x=>x.fst) ({ pos:=Value.ref ea::us }:Args).kw)=pure () from fun a b n=>check_star_args _ _ _ _ _ _];refine wpAny_pure ?_;unfold Builtin.«BaseException.__init__»;dsimp only;rw [if_neg (by simp)];unfold newTuple Builtin.BaseException.bexcPut;have hsz:0 < vs.size:=(Array.getElem?_eq_some_iff.mp h0).1;have he1:=Heap.get?_push_of_some (h:=hh) { cls:=.type "tuple",data:=.seq us.toArray } he;refine wpAny_bind (wpAny_newObj_type (wpAny_bind (wpAny_bind (wpAny_field he1 hd h0 (wpAny_bind (wpAny_setField he1 hd hsz ?_))))) (by show us.toArray.size<=sizeLine;rw [List.size_toArray];exact hz));exact wpAny_letGo (wpAny_pure h)
end
abbrev isO (a:Addr) (o:Obj):HO:=.ext fun h=>h.get? a=some o
section
variable {X:Cx} {a e:Expr} {te ta:TE} {pos p1 p2 ap cp ep:Pos} {x J:Str} {j:Option Str} {C CJ:Addr}
def bB1 {kd} (he:PE X e te) (hx:(Str.empty++x).length<=sizeLine):PE X (.JoinedStr [.Constant (.str x) kd p1,.FormattedValue e (-1) none p2] pos) (fun σ H Q=>te σ H fun v H1=>∃ i:Int,v=.int i/\i.natAbs.log2 < 1920/\(Str.empty++x++Str.ofString (toString i)).length<=sizeLine/\∀ y,Q (.str y) H1):=by
 intro pins s σ H Q I q;refine wpAny_JoinedStr ?_;refine thn (uJ (X:=X) (x:=x) (j:=kd) (pos:=p1) pins s σ H (fun v H1=>v=.str x/\H1=H) I ⟨rfl,rfl⟩) fun v s1 ⟨v',H1,I1,r1,ev,eH⟩=>?_;subst ev eH;obtain ⟨t1,rfl⟩:=r1;refine ⟨x,t1,rfl,hx,?_⟩;refine wpAny_FormattedValue_plain (thn (he pins s1 σ _ _ I1 q) fun u s2 ⟨v,H2,I2,r2,i,ev,hi,hz,q2⟩=>?_);subst ev;obtain ⟨t2,rfl⟩:=r2;exact wpAny_formatField_int hi ⟨_,_,rfl,hz,hz,⟨.str _,H2,I2.tok _,⟨_,rfl⟩,q2 _⟩⟩
def Inv.two {pins:List (Addr×Obj)} {σ:St} {H:Hp} {s:Shared} {h':Heap} {t':Nat} {ea D:Addr} {oe oe':Obj} {o:HO} (I:Inv X pins σ H s) (hH:H ea=some (isO ea oe)) (hD:s.heap.objs.size<=D) (k:∀ b u,b≠ea->s.heap.get? b=some u->h'.get? b=some u) (he:h'.get? ea=some oe')
  (new:ObjOk X.prog X.w (upd (upd H ea (isO ea oe')) D o) h' D o):Inv X pins σ (upd (upd H ea (isO ea oe')) D o) { s with heap:=h',toks:=t' }:=by
 have nD:H D=none:=I.hok.fresh hD;have ne:D≠ea:=fun z=>by rw [z,hH] at nD;cases nD
 have old:∀ b u,s.heap.get? b=some u->b≠D:=fun b u q z=>by
  rw [z] at q;exact absurd (Nat.lt_of_lt_of_le (Heap.lt_size q) hD) (Nat.lt_irrefl _)
 have same:∀ b,b≠ea->b≠D->upd (upd H ea (isO ea oe')) D o b=H b:=fun b h1 h2=>by rw [aF h2,aF h1]
 have nx:∀ b,H b=none->b≠ea:=fun b q z=>by rw [z,hH] at q;cases q
 have trk:∀ b u,H b=some u->b≠D:=fun b u q z=>by rw [z,nD] at q;cases q
 refine I.un ⟨fun b u q n _ _=>k b u (nx b n) q,fun b u q n _ _=>⟨u.slots,k b u (nx b n) q⟩,fun b u q n _=>by rw [same b (nx b n) (old b u q)];exact n,fun b u q _=>?_,fun b xs q=>?_,fun b u v q=>?_,fun b ps q=>⟨#[],?_⟩⟩ fun b u q=>?_
 ·by_cases z:b=ea
  ·rw [z];exact ⟨_,he⟩
  ·exact ⟨u,k b u z q⟩
 ·rw [same b (fun z=>by rw [z,hH] at q;cases q) (trk b _ q)];exact q
 ·rw [same b (fun z=>by rw [z,hH] at q;cases q) (trk b _ q)];exact q
 ·rw [same b (fun z=>by rw [z,hH] at q;cases q) (trk b _ q),Array.append_empty];exact q
 ·by_cases z:b=D
  ·subst z;rw [aN] at q;cases q;exact new
  ·rw [aF z] at q
   by_cases z':b=ea
   ·subst z';rw [aN] at q;cases q;exact ⟨he,⟨_,he⟩,fun h1 h2 p q=>q _ p⟩
   ·rw [aF z'] at q;refine (I.hok b u q).stay (fun c v hc r=>k c v ?_ r) (fun c r=>?_) fun c xs r=>?_
    ·rcases hc with rfl | hc
     ·exact z'
     ·exact fun z=>by rw [z,hH] at hc;cases hc
    ·rw [same c (fun z=>by rw [z,hH] at r;cases r) (trk c _ r)];exact r
    ·rw [same c (fun z=>by rw [z,hH] at r;cases r) (trk c _ r)];exact r
def aN2 {b:Expr} {t:TA} {pl:Sem Bool} (FB:ExcBaseFacts "ValueError" "ValueError.__new__" "ValueError.__init__" nB) (Y:ECls X.K C CJ) (hm:X.mg J=some (.ref CJ)) (hga:PySem.W.specialIn X.K (.ref CJ) "__getattribute__"=some (some (.builtin "type.__getattribute__")))
  (hr:PySem.W.readsIn X.K CJ (.type "type")=true) (hfc:PySem.W.findCls X.K (.ref CJ) (.type "type") "__init__"=some (.val (.builtin "ValueError.__init__"))) (ha:PA X [a,b] t) (hg:autoParam (Gl X J) ZR) (hdb:autoParam ((J==("__debug__":Str))=false) ZD)
  (hs:autoParam (swapsWith (.Call (.Attribute (.Name J p1) "__init__" ap) [a,b] [] cp) none ep.line X.env=pure false) ZR) (he:autoParam (starEach [a,b] X.env=(false,eval a X.env)::starEach [b] X.env) ZR) (hpl:autoParam ((backTo cp (starEach [b] X.env)).any (·.1)=false) ZR)
  (ht:eval (.Call (.Attribute (.Name J p1) "__init__" ap) [a,b] [] cp) X.env=(do
   let ov <- eval (.Name J p1) X.env
   standAt ap.atName
   let (f,first) <- holding [ov] (getMethod ov "__init__" pl)
   callWith cp f first (backTo cp (starEach [a,b] X.env)) (backToKw cp (keywordEach [] X.env))):=by rfl) :
  PS X (.Expr (.Call (.Attribute (.Name J p1) "__init__" ap) [a,b] [] cp) ep) (fun D σ H=>t σ H fun vs H1=>∃ ea oe fs t0 y,vs=[.ref ea,.str y]/\H1 ea=some (isO ea oe)/\oe.cls=.ref C/\oe.data=.fields fs/\fs[0]?=some (.ref t0) /\
   ∀ tt,D.nx σ (upd H1 ea (isO ea (Obj.mapFields (·.setIfInBounds 0 (.ref tt)) oe)))):=by
 intro pins s σ H D I q;refine wpAny_Expr_any ?_ I.quiet hs;refine PySem.W.methodCall_KW (pl:=pl) (gU I hg hm ?_ hdb) ht;refine PySem.W.method_cls I.kIn hga (PySem.W.cls_value I.kIn hr hfc rfl ?_);refine PyProof.Rows.callWith_builtin1 (thn (ha cp pins _ σ H _ (I.tok _) q) fun us s1 ⟨vs,H1,I1,r1,ea,oe,fs,t0,y,ev,hH,hc,hd,h0,q2⟩=>?_) he hpl;subst ev;cases r1 with
 | cons r1 r2 =>
  cases r2 with
  | cons r3 r4 =>
   cases r4;cases r1;obtain ⟨tt,rfl⟩:=r3;obtain ⟨g1,g2,g3⟩:=(show ObjOk X.prog X.w H1 s1.heap ea (isO ea oe) from I1.hok ea _ hH);have g1:s1.heap.get? ea=some oe:=g1;have gp:=Heap.get?_push_of_some (h:=s1.heap) { cls:=.type "tuple",data:=.seq #[Value.str y tt] } g1;have gu:=Heap.get?_update_self (Obj.mapFields (·.setIfInBounds 0 (.ref s1.heap.objs.size))) gp (Obj.isFreed_of_fields (Obj.data_mapFields hd _));refine aN1 FB Y I1.kIn g1 hc hd h0 (show (1:Nat)<=sizeLine by decide) ⟨σ,_,I1.write (x:=ea) (e:=ea) (o:=isO ea (Obj.mapFields (·.setIfInBounds 0 (.ref s1.heap.objs.size)) oe)) (by rw [hH];exact True.intro) (.inl rfl) (fun b u hb z=>?_) ⟨_,gu⟩ ⟨gu,⟨_,gu⟩,fun h1 h2 p q=>q _ p⟩,q2 _⟩;exact (Heap.get?_update_other _ _ (Ne.symm hb)).trans (Heap.get?_push_of_some _ z)
def aN3 {o v:Expr} {to tv:TE} {p':Pos} (Y:ECls X.K C CJ) (hv:PE X v tv) (ho:PE X o to) (hs:autoParam (swapsWith v (some (.Attribute o "at" p')) pos.line X.env=pure false) ZR) :
  PS X (.Assign [.Attribute o "at" p'] v pos) (fun D σ H=>tv σ H fun y H1=>to σ H1 fun x H2=>∃ ea oe fs,x=.ref ea/\H2 ea=some (isO ea oe)/\oe.cls=.ref C/\oe.dict=none/\oe.data=.fields fs /\
   ∀ d,H2 d=none->D.nx σ (upd (upd H2 ea (isO ea { oe with dict:=some d })) d (.xd [("at",y)]))):=by
 intro pins s σ H D I q;refine plainObj_wpAny_Assign_Attribute (thn (hv pins s σ H _ I q) fun u s1 ⟨y,H1,I1,ry,q1⟩=>thn (ho pins s1 σ H1 _ I1 q1) fun ov s2 ⟨x,H2,I2,rx,ea,oe,fs,ex,hH,hc,hd,hf,q2⟩=>?_) hs;subst ex;obtain rfl:ov=Value.ref ea:=rx;have g1:s2.heap.get? ea=some oe:=(show ObjOk X.prog X.w H2 s2.heap ea (isO ea oe) from I2.hok ea _ hH).1;refine bA9 Y I2.kIn g1 hc hd hf fun h' e1 n1 k1=>⟨σ,_,I2.two (o:=.xd [("at",y)]) hH (Nat.le_refl _) (fun b u hb z=>k1 b u hb z) e1 ⟨_,n1,fun f=>?_⟩,q2 _ (I2.hok.fresh (Nat.le_refl _))⟩
 by_cases z:f="at"
 ·subst z;rw [if_pos rfl];exact ry
 ·have:List.lookup f [(("at":Str),y)]=none:=by
   show (match f==("at":Str) with | true=>some y | false=>none)=none;rw [beq_eq_false_iff_ne.mpr z]
  rw [this,if_neg z];exact True.intro
end
end L2
namespace PySem
section
variable {M:Model} {A:Around} {E:Value->Shared->Prop} {env:Env}
variable {nm q:Str} {C N:Addr} {bs bm:List Value} {hdct:Bool} {sn:List Str} {sub:List Value} {ab:Bool} {col:Option Bool} {dd:Option Addr} {k0 k1 k2 k3 k5:Option Value} {newId:String}
def kS {s:Shared} {x:Sem Value} {Q:Flow->Shared->Prop} (hbase:bm.contains (.type "BaseException")=true) (hh:A.handled=none)
  (h:wpAny M A x (fun v s₁=>∃ e t D sl,v=.ref e/\s₁.heap.get? C=some (excClassObj nm q C N bs bm hdct sn sub ab col dd k0 k1 k2 k3 k5 newId) /\
   s₁.heap.get? e=some ⟨.ref C,some D,.fields #[.ref t,.none,.none,.none,.bool false,.none],sl⟩/\E (.ref e) s₁) E s):wpAny M A (raiseStmt env (some x) none) Q E s:=by
 have hcB:(Value.ref C::bm).contains (.type "BaseException")=true:=by rw [List.contains_cons,hbase,Bool.or_true]
 unfold raiseStmt;refine wpAny_bind (wpAny_mono h (fun v s₁ h₁=>?_) fun _ _ x=>x);obtain ⟨e,t,D,sl,rfl,hC,he,hE⟩:=h₁;obtain ⟨hp,g,d,tk,os⟩:=s₁
 repeat (first | with_reducible refine wpAny_loadPart_at he ?_ | with_reducible refine wpAny_loadPart_at hC ?_ | (with_reducible refine wpAny_isSubtype_exc hC ?_;rw [hcB]) | wp_step)
 exact wpAny_raiseNew_none hh hE
end
end PySem
namespace L2
open PySem PySem.Spec PyProof.Rows
abbrev erO (C t D:Addr):Obj:=⟨.ref C,some D,.fields #[.ref t,.none,.none,.none,.bool false,.none],#[]⟩
noncomputable def spI (C:Addr):Sp:=fun vs H Q _=>∃ ea t0 i,vs=[.ref ea,.int i]/\(-1<=i/\i<=100)/\H ea=some (isO ea ⟨.ref C,none,.fields #[.ref t0,.none,.none,.none,.bool false,.none],#[]⟩) /\
 ∀ tt d,H d=none->Q .non (upd (upd H ea (isO ea (erO C tt d))) d (.xd [("at",.int i)]))
structure OwnI (x:Str) (C fI:Addr) (mg:Str->Option Value) (h:Heap):Prop where
 bound:mg x=some (.ref C)
 obj:∃ bm N nm q bs hdct sn sub ab col dd k0 k1 k2 k3 k5 mN oI,h.get? C=some (excClassObj nm q C N bs bm hdct sn sub ab col dd k0 k1 k2 k3 k5 "ValueError.__new__")/\h.Ns N mN/\mN "__init__"=some (.ref fI)/\h.get? fI=some oI/\oI.cls=.type "function"/\OwnTail h nB bm
section
variable {X:Cx} {C fI:Addr} {fd:FuncData} {k:Nat} {x:Str} {e:Expr} {t:TA} {np pos epos:Pos} {EX:Int->Addr->Hp->Prop}
def aA7 (FB:ExcBaseFacts "ValueError" "ValueError.__new__" "ValueError.__init__" nB) (O:OwnI x C fI X.mg X.base) (FI:FnOk X.prog X.w X.K X.mg X.base CX0 k fI fd ["self","at"] (spI C)) (hb:Binds X.K fd ["self","at"] []) (hr:Room (k+1) X.A) (ha:PA X [e] t)
  (hx:∀ pins σ H s ea t D i,Inv X pins σ (upd (upd H ea (isO ea (erO C t D))) D (.xd [("at",.int i)])) s->H ea=none->H D=none->D≠ea->X.s₀.heap.get? ea=none->EX i D (upd H D (.xd [("at",.int i)]))->X.xe (.ref ea) s)
  (hc:autoParam (X.calm=true) ZR) (hg:autoParam (Gl X x) ZR) (hdb:autoParam ((x==("__debug__":Str))=false) ZD) (he:autoParam (starEach [e] X.env=[(false,eval e X.env)]) ZR) :
  PS X (.Raise (some (.Call (.Name x np) [e] [] pos)) none epos) (fun _ σ H=>t σ H fun vs H1=>∃ i:Int,vs=[.int i]/\(-1<=i/\i<=100)/\∀ D,H1 D=none->EX i D (upd H1 D (.xd [("at",.int i)]))):=by
 intro pins s σ H D I q;obtain ⟨tl,N,nm,qn,bs,hdct,sn,sub,ab,col,dd,k0,k1,k2,k3,k5,mN,oI,hC,hN,hi,hfI,hfc,T⟩:=O.obj;have hall:(backTo pos (starEach [e] X.env)).any (·.1)=false:=by rw [he];rfl
 have hh:=I.ok.hd hc;have main:wpAny (model X.prog X.w) X.A (eval (.Call (.Name x np) [e] [] pos) X.env) (fun v s₁=>∃ ea t D sl,v=.ref ea/\s₁.heap.get? C=some (excClassObj nm qn C N bs tl hdct sn sub ab col dd k0 k1 k2 k3 k5 "ValueError.__new__") /\
   s₁.heap.get? ea=some ⟨.ref C,some D,.fields #[.ref t,.none,.none,.none,.bool false,.none],sl⟩/\X.xe (.ref ea) s₁) X.xe s:=by
  refine wpAny_Call_ofName (gU I hg O.bound ?_ hdb);unfold callWith;have hq:=ha pos pins s σ H _ I q;rw [he] at hq ⊢;refine wpAny_bind (wpAny_holding (Calls.evalArgs_plain (thn hq fun us s2 ⟨vs,H2,I2,r,i,ev,hi',z⟩=>wpAny_bind (wpAny_standAt ?_))));subst ev;cases r with
  | cons r1 r2 =>
  cases r2;obtain ⟨ti,rfl⟩:=r1;have hC2:=I2.bk _ _ hC;obtain ⟨hp,g,d,tk,os⟩:=s2;rw [he] at hall;simp only [hall];refine wpAny_bind (wpAny_keeperOf_exc hC2 ?_);refine wpAny_bind (vP FB (T.keeps I2.bk) hC2 (hN.keeps I2.bk) hi (I2.bk _ _ hfI) hfc (fun h' ea hm hle=>?_) (show (1:Nat)<=sizeLine by decide));obtain ⟨t0,h1,h2,h3⟩:=hm.there;have I3:Inv X pins σ (upd H2 ea (isO ea ⟨.ref C,none,.fields #[.ref t0,.none,.none,.none,.bool false,.none],#[]⟩)) ⟨h',g,d,tk,os⟩:=I2.laid (t':=tk) hm.keeps hle ⟨h1,⟨_,h1⟩,fun h1 h2 p q=>q _ p⟩;have nea:H2 ea=none:=I2.hok.fresh hle;have r3:Vals [V.ref ea,V.int i] [Value.ref ea,Value.int i ti]:=.cons rfl (.cons ⟨ti,rfl⟩ .nil);refine wpAny_call (codeAny_mono (FI.run _ X.stack _ _ ⟨[Value.ref ea,Value.int i ti],[]⟩ [Value.ref ea,Value.int i ti] _ (fun v H'=>v=.non/\∃ tt d,upd H2 ea (isO ea ⟨.ref C,none,.fields #[.ref t0,.none,.none,.none,.bool false,.none],#[]⟩) d=none/\H'=upd (upd (upd H2 ea (isO ea ⟨.ref C,none,.fields #[.ref t0,.none,.none,.none,.bool false,.none],#[]⟩)) ea (isO ea (erO C tt d))) d (.xd [("at",.int i)])) E0 (hr.make C _ [])
   (I3.env0.make C _ []) (by have:=hb ⟨h',g,d,tk,os⟩ [Value.ref ea,Value.int i ti] I3.kIn rfl;rwa [List.append_nil] at this) r3 ⟨ea,t0,i,rfl,hi',aN,fun tt d hd=>⟨rfl,tt,d,hd,rfl⟩⟩) fun r s' hq'=>?_)
  cases r with
  | error e'=>exact (aE7 pins σ _ _ e' s' I3 hq')
  | ok fl =>
   cases fl with
   | next=>exact False.elim hq'
   | brk=>exact False.elim hq'
   | cont=>exact False.elim hq'
   | ret u =>
    obtain ⟨v,H',I4,rv,ev,tt,d',hd,eH⟩:=I3.after hq';subst ev eH;rw [wI] at I4;refine ⟨rv,wpAny_bind (wpAny_holding (wpAny_point (wpAny_pure ?_)))⟩;have nd:d'≠ea:=fun z=>by rw [z,aN] at hd;cases hd
    rw [aF nd] at hd;have g4:s'.heap.get? ea=some (erO C tt d'):=(show ObjOk X.prog X.w _ s'.heap ea (isO ea (erO C tt d')) from I4.hok ea _ (by rw [aF (Ne.symm nd),aN])).1;exact ⟨ea,tt,d',#[],rfl,I4.bk _ _ hC,g4,hx pins σ H2 s' ea tt d' i I4 nea hd nd (Heap.get?_none_of_le (Nat.le_trans I2.sz hle)) (z d' hd)⟩
 rw [arm_exec_Raise]
 first
  | exact wpAny_bind (wpAny_standAt (kS (T.hasType FB.hasBase) hh (wpAny_bind (wpAny_mono main (fun v s₃ h₃=>wpAny_bind (wpAny_standAt (wpAny_pure h₃))) fun _ _ x=>x))))
  | (simp only [evalOpt,Option.map];exact wpAny_bind (wpAny_standAt (kS (T.hasType FB.hasBase) hh (wpAny_bind (wpAny_mono main (fun v s₃ h₃=>wpAny_bind (wpAny_standAt (wpAny_pure h₃))) fun _ _ x=>x)))))
end
noncomputable def CXI (P:Program) (w:World) (C:Addr):CXT:=fun outer H s E e s'=>∃ ea D,e=.ref ea/\CXN P w C outer H s (fun c _ H'=>E c (some D) H') e s'/\AtP (ErP (.ref C) D) ea s'.heap
section
variable {X:Cx} {C D ea t0:Addr} {E:XK} {Ex:Value->Shared->Prop} {pins:List (Addr×Obj)} {σ:St} {H H2:Hp} {s:Shared} {o':List (Str×V)}
def aA8 (I:Inv X pins σ (upd (upd H ea (isO ea (erO C t0 D))) D (.xd o')) s) (b:X.Body) (n1:H ea=none) (n2:H D=none) (nd:D≠ea) (n0:X.s₀.heap.get? ea=none) (want:E (.ref C) (some D) (upd H D (.xd o'))) :
  wpAny (model X.prog X.w) X.A (leaving X.env (.ref ea)) (fun _ s''=>CXI X.prog X.w C X.outer X.H₀ X.s₀ E (.ref ea) s'') Ex s:=by
 have hH:∀ a,a≠ea->upd (upd H ea (isO ea (erO C t0 D))) D (.xd o') a=upd H D (.xd o') a:=fun a z=>by
  by_cases q:a=D
  ·subst q;rw [aN,aN]
  ·rw [aF q,aF q,aF z]
 have he1:upd (upd H ea (isO ea (erO C t0 D))) D (.xd o') ea=some (isO ea (erO C t0 D)):=by rw [aF (Ne.symm nd),aN]
 have he2:upd H D (.xd o') ea=none:=by rw [aF (Ne.symm nd)];exact n1
 generalize upd (upd H ea (isO ea (erO C t0 D))) D (.xd o')=H1 at I hH he1;generalize upd H D (.xd o')=H2 at hH he2 want;have ho:s.heap.get? ea=some (erO C t0 D):=(show ObjOk X.prog X.w H1 s.heap ea (isO ea (erO C t0 D)) from I.hok ea _ he1).1;have hst:=I.stack;have nS:ea∉frs X.stack:=fun m=>by
  obtain ⟨_,o,q,hd⟩:=hst.mem m;rw [ho] at q;cases q;exact hd _ rfl
 have fr:s.heap.FunFrames (PySem.W.hideAll s.heap (ea::frs X.stack)) (X.env::X.outer):=by
  have:=PySem.W.funFrames_hide (as:=ea::frs X.stack) hst fun env he a ha=>List.mem_cons_of_mem _ (List.mem_filterMap.mpr ⟨env,he,ha⟩)
  rwa [b.st] at this ⊢
 have kB:∀ a o,s.heap.get? a=some o->a∉frs X.stack->a≠ea->(PySem.W.hideAll s.heap (ea::frs X.stack)).get? a=some o:=fun a o q n z=>PySem.W.hideAll_get _ q (by simp [z,n]);have hide:(PySem.W.hideAll s.heap (ea::frs X.stack)).get? ea=none:=PySem.W.hideAll_none _ List.mem_cons_self;have ub:Un X.fs [] X.H₀ H1 X.s₀.heap s.heap:=by have:=I.base;rwa [b.ex] at this
 have nil:∀ a:Addr,a∉([]:List Addr):=fun a z=>nomatch z
 have oS:∀ a u,X.s₀.heap.get? a=some u->a≠ea:=fun a u q z=>by rw [z,n0] at q;cases q
 have e2:∀ a,H2 a≠none->a≠ea/\H1 a≠none:=fun a z=>by
  have:a≠ea:=fun y=>z (by rw [y];exact he2);exact ⟨this,by rw [hH a this];exact z⟩
 have x0:AtP (ErP (.ref C) D) ea s.heap:=⟨_,ho,rfl,rfl,_,rfl⟩;refine wpAny_mono (Kp.any ErP.freed (vR (.ref ea) X.env) x0 (wpAny_leaving_firstW (base:=PySem.W.hideAll s.heap (ea::frs X.stack)) (env:=X.env) (outer:=X.outer) (a0:=.ref t0) (Q:=fun _ s''=>CXN X.prog X.w C X.outer X.H₀ X.s₀ (fun c _ H'=>E c (some D) H') (.ref ea) s'') (by rw [I.ok.frames,b.st]) fr b.fr ho (fun a o q=>PySem.W.of_hideAll _ q) hide rfl rfl rfl fun h' hL=>?_)) (fun _ s'' z=>⟨ea,D,rfl,z.1,z.2⟩) fun _ _ z=>z;obtain ⟨l1,⟨_,_,l2⟩,l3,up⟩:=hL;have kh:∀ a o,s.heap.get? a=some o->a∉frs X.stack->a≠ea->h'.get? a=some o:=fun a o q n z=>l1 a o (kB a o q n z);have sl:∀ a o,s.heap.get? a=some o->a∈frs X.stack->∃ sl,h'.get? a=some { o with slots:=sl }:=fun a o q m=>by
  obtain ⟨_,o',ho',hd⟩:=hst.mem m;rw [q] at ho';cases ho';exact up a o q hd
 have tr:∀ a,H1 a≠none->a∉frs X.stack:=fun a n m=>n (I.stkFree a m);have hok2:HOk X.prog X.w H2 s.heap:=fun a o q=>by
  obtain ⟨z1,z2⟩:=e2 a (by rw [q];exact fun z=>nomatch z);refine (I.hok a o (by rw [hH a z1];exact q)).stay (fun _ _ _ r=>r) (fun c r=>?_) fun c xs r=>?_
  ·rw [<- hH c (fun z=>by rw [z,he1] at r;cases r)];exact r
  ·rw [<- hH c (fun z=>by rw [z,he1] at r;cases r)];exact r
 refine ⟨ea,H2,rfl,⟨I.os,I.bare,⟨fun a o q n ha _=>kh a o (ub.keep a o q n ha (nil a)) (b.out (I.neL q) ha) (oS a o q),fun a o q n ha _=>?_,fun a o q n _=>?_,fun a o q _=>?_,fun a xs q=>?_,fun a o u q=>?_,fun a ps q=>?_⟩,hok2.keptT fun a u n q=>kh a u q (tr a (e2 a n).2) (e2 a n).1,want,_,t0,⟨l1,hide,l2,l3⟩,fun a o q na hc=>?_⟩⟩
 ·obtain ⟨s1,e1⟩:=ub.slot a o q n ha (nil a);obtain ⟨s2,e2⟩:=sl a _ e1 (by rw [b.fs];exact List.mem_cons_of_mem _ ha);exact ⟨s2,e2⟩
 ·rw [<- hH a (oS a o q)];exact ub.free a o q n (nil a)
 ·obtain ⟨o',e1⟩:=ub.there a o q (nil a)
  by_cases m:a∈frs X.stack
  ·obtain ⟨s2,e2⟩:=sl a o' e1 m;exact ⟨_,e2⟩
  ·exact ⟨o',kh a o' e1 m (oS a o q)⟩
 ·have r:=ub.tups a xs q;rw [<- hH a (fun z=>by rw [z,he1] at r;cases r)];exact r
 ·have r:=ub.frzs a o u q;rw [<- hH a (fun z=>by rw [z,he1] at r;cases r)];exact r
 ·obtain ⟨mo,r⟩:=ub.tbls a ps q;exact ⟨mo,by rw [<- hH a (fun z=>by rw [z,he1] at r;cases r)];exact r⟩
 ·have ne:a≠ea:=hc.elim (fun n=>(e2 a n).1) fun ⟨u,q0⟩=>oS a u q0;obtain ⟨u,hu⟩:∃ u,s.heap.get? a=some u:=hc.elim (fun n=>I.hok.exT (e2 a n).2) fun ⟨u,q0⟩=>ub.there a u q0 (nil a);have na':a∉frs X.stack:=hc.elim (fun n=>tr a (e2 a n).2) fun ⟨u,q0⟩=>b.out (I.neL q0) na;have z:=kh a u hu na' ne;rw [q] at z;cases z;exact kB a _ hu na' ne
end
end L2
namespace DL
open PySem PySem.Spec PyProof.Rows L2
def WxI (K:Frag) (C:Addr) (E:XK) (n:Int) (A μ:List Addr) (h:aA) (H:Hp):Prop:=∀ H' D,Ext A A μ μ H H'->HeapRep K A μ h H'->D∉A->H' D=some (.xd [("at",.int n)])->E (.ref C) (some D) H'
def WxI.step {K:Frag} {C:Addr} {E:XK} {n:Int} {A A' μ μ':List Addr} {h:aA} {H H':Hp} (W:WxI K C E n A μ h H) (R:HeapRep K A μ h H) (x:Ext A A' μ μ' H H'):WxI K C E n A' μ' h H':=fun H'' D y R'' nD e=>by
 obtain ⟨z,R2⟩:=jQ R R'' (x.trans y) (fun i c _ e=>.inr e);rw [List.take_length] at R2;exact W H'' D z R2 (fun m=>nD (x.sub D m)) e
noncomputable def aN4 (K:Frag) (C:Addr) (n:Int) (pre:List W->Prop):Sp:=fun vs H _ E=>∃ (ws:List W) (h:aA) (A μ:List Addr),HeapRep K A μ h H/\fY K A μ H ws vs/\pre ws/\WxI K C E n A μ h H
def aN5 (K:Frag) (C:Addr) (E:XK) (n:Int) (tr:DTR):TS:=fun _ σ H=>∃ (δ:DSt) (h:aA) (A μ:List Addr),Ab K A μ δ h σ H/\tr δ h/\WxI K C E n A μ h H
def DRI (X:Cx) (C:Addr) (E:XK) (n:Int) (st:List Stmt) (tr:DTR):Prop:=PSs X st (aN5 X.K C E n tr)
structure LeavesI (X:Cx) (C:Addr) (E:XK):Prop where
 made:∀ pins σ H s ea t D i,Inv X pins σ (upd (upd H ea (isO ea (erO C t D))) D (.xd [("at",.int i)])) s->H ea=none->H D=none->D≠ea->X.s₀.heap.get? ea=none->E (.ref C) (some D) (upd H D (.xd [("at",.int i)]))->X.xe (.ref ea) s
section
variable {X:Cx} {C fI f:Addr} {E:XK} {n:Int} {st:Stmt} {rest sa:List Stmt} {e c:Expr} {t:DTA} {tr:DTR} {x:Str} {np pos epos:Pos} {fd:FuncData} {k:Nat} {tc:DTT} {t1:DTS}
def iS {P:Program} {w:World} {K:Frag} {mg:Str->Option Value} {base:Heap} {N:List Str} {qual:Str} {scope:Scope} {cdv:Value} {A:Around} {outer:List Env} {s:Shared} {H:Hp} :
  LeavesI (gB (CXI P w C) P w K mg base N qual scope f cdv A outer s H E) C E where
 made:=fun pins σ H s ea t D i I n1 n2 nd n0 want=>aA8 I ⟨rfl,rfl,rfl⟩ n1 n2 nd n0 want
def kH (FB:ExcBaseFacts "ValueError" "ValueError.__new__" "ValueError.__init__" nB) (O:OwnI x C fI X.mg X.base) (FI:FnOk X.prog X.w X.K X.mg X.base CX0 k fI fd ["self","at"] (spI C)) (hb:Binds X.K fd ["self","at"] []) (hr:Room (k+1) X.A) (L:LeavesI X C E) (ha:DA X [e] t)
  (hc:autoParam (X.calm=true) ZR) (hg:autoParam (Gl X x) ZR) (hdb:autoParam ((x==("__debug__":Str))=false) ZD) (he:autoParam (starEach [e] X.env=[(false,eval e X.env)]) ZR) :
  DRI X C E n [.Raise (some (.Call (.Name x np) [e] [] pos)) none epos] (fun δ h=>t δ h fun ws h1=>h1=h/\ws=[.d (.int n)]/\(-1<=n/\n<=100)) :=
 lF (bH (aA7 (EX:=fun _ D H=>E (.ref C) (some D) H) FB O FI hb hr ha L.made hc hg hdb he) fun D σ H ⟨δ,h,A,μ,R,q,W⟩=>⟨δ,h,A,μ,_,R,q,fun ws h1 vs H1 A1 μ1 ⟨e1,e2,hn⟩ x1 R1 r1=>by
  subst e1 e2;obtain ⟨v,rfl,rv⟩:=cV r1;obtain rfl:=bC rv;exact ⟨n,rfl,hn,fun d hd=>W.step R.1 x1 _ d (bB hd) (R1.fresh hd) (R1.notA hd) aN⟩⟩)
def fO (h:PS X st (aN5 X.K C E n tr)):DRI X C E n (st::rest) tr:=fH (dI (u:=fun _ _ _=>False) h fun _ _ _ _ _ _ q=>q.elim) fun D σ H q=>q
def qU (h1:DS X st t1) (h2:DRI X C E n rest tr):DRI X C E n (st::rest) (fun δ h=>t1 { nx:=fun δ' h'=>h'=h/\tr δ' h',rt:=fun _ _=>False } δ h) :=
 fH (dI h1 h2) fun D σ H ⟨δ,h,A,μ,R,q,W⟩=>⟨δ,h,A,μ,_,R,q,⟨fun δ' h' σ' H' A' μ' ⟨e1,q'⟩ x' R'=>by
  subst e1;exact ⟨δ',_,A',μ',R',q',W.step R.1 x'⟩,fun _ _ _ _ _ _ q'=>q'.elim,fun _ _ _ _ _ _ q'=>q'.elim,fun _ _ _ _ _ _ q'=>q'.elim⟩⟩
def vS (hc:DT X c tc) (ha:DRI X C E n sa tr):PS X (.If c sa [] pos) (aN5 X.K C E n (fun δ h=>tc δ h fun b h1=>h1=h/\b=true/\tr δ h)) :=
 bH (wK (u:=fun _ _ _=>False) hc ha fun _ _ _ _ _ _ q=>q.elim) fun D σ H ⟨δ,h,A,μ,R,q,W⟩=>⟨δ,h,A,μ,_,R,q,fun b h1 H1 A1 μ1 ⟨e1,eb,q'⟩ x1 R1=>by
  subst e1 eb;rw [if_pos rfl];exact ⟨δ,_,A1,μ1,⟨R1,R.2.ext x1 R.1.sub⟩,q',W.step R.1 x1⟩⟩
noncomputable def tW (g:DTG) (tb:DTS) (tr:DTR) (c:Option Nat) (all:List PyData):List PyData->DSt->aA->Prop
 | [],_,_=>False
 | x::r,δ,h=>cond c all h/\((g (.d x) δ h fun δ2 h2=>h2=h/\tr δ2 h)\/(g (.d x) δ h fun δ2 h2=>tb { nx:=fun δ' h'=>h'=h/\tW g tb tr c all r δ' h,ct:=fun δ' h'=>h'=h/\tW g tb tr c all r δ' h,bk:=fun _ _=>False,rt:=fun _ _=>False } δ2 h2))
def xI {tg iter:Expr} {body:List Stmt} {ti:DTI} {g:DTG} {tb:DTS} (hp:PassesOwn (model X.prog X.w) X.A X.env X.xe) (hc:X.calm=true) (hi:DI X tg iter ti) (hg:DG X tg g) (hb:DSs X body tb) (hR:DRI X C E n body tr) (hs:autoParam (∀ x,foldedSetIterable iter X.env x=pure x) ZI) :
  PS X (.For tg iter body [] pos) (aN5 X.K C E n fun δ h=>ti δ h fun xs c h1=>h1=h/\tW g tb tr c xs xs δ h):=by
 have both:PSs X body (fun D σ H=>upS X.K tb D σ H\/aN5 X.K C E n tr D σ H):=fun pins s σ H D I q=>q.elim (fun z=>hb pins s σ H D I z) fun z=>hR pins s σ H D I z;refine bH (aD4 hp hc hi hg both hs) fun D σ H q=>?_;obtain ⟨δ,h,A,μ,R,q,W⟩:=q;refine ⟨δ,h,A,μ,_,R,q,fun xs c h1 J H1 A1 μ1 ⟨eh,q1⟩ x1 R1 hz hcd it=>?_⟩;subst eh;refine ⟨fun i m σ' H'=>∃ δ' A' μ',m=xs.length - i/\i<=xs.length/\Ext A1 A' μ1 μ' H1 H'/\Ab X.K A' μ' δ' h1 σ' H'/\tW g tb tr c xs (xs.drop i) δ' h1,⟨_,δ,A1,μ1,rfl,Nat.zero_le _,.refl,⟨R1,R.2.ext x1 R.1.sub⟩,by simpa using q1⟩,?_⟩;rintro i m σ' H' ⟨δ',A',μ',rfl,hi,y,R',q'⟩
 by_cases hlt:i < xs.length
 ·rw [List.drop_eq_getElem_cons hlt] at q';obtain ⟨hcond,q'⟩:=q';obtain ⟨it1,_⟩:=it A' μ' H' h1 y R'.1 hcond;obtain ⟨go,yl⟩:=it1 i xs[i] (by simp [hlt]);refine .inr ⟨go,fun σ2 H2=>∃ δ2 A2 μ2,Ext A1 A2 μ1 μ2 H1 H2/\Ab X.K A2 μ2 δ2 h1 σ2 H2/\tW g tb tr c xs (xs.drop (i+1)) δ2 h1,fun σ2 H2 ⟨δ2,A2,μ2,z1,z2,z3⟩=>⟨xs.length - (i+1),by omega,δ2,A2,μ2,rfl,hlt,z1,z2,z3⟩,fun v H2 hy=>?_⟩;obtain ⟨y2,R2,r2⟩:=yl v H2 hy;rcases q' with q' | q'
  ·refine ⟨.d xs[i],δ',h1,A',μ',_,⟨R2,R'.2.ext y2 R'.1.sub⟩,r2,q',fun δ3 h3 σ3 H3 A3 μ3 q3 x3 R3=>.inr ?_⟩;obtain ⟨e3,q3⟩:=q3;subst e3;exact ⟨δ3,_,A3,μ3,R3,q3,(W.step R.1 x1).step R1 ((y.trans y2).trans x3)⟩
  ·refine ⟨.d xs[i],δ',h1,A',μ',_,⟨R2,R'.2.ext y2 R'.1.sub⟩,r2,q',fun δ3 h3 σ3 H3 A3 μ3 q3 x3 R3=>.inl ?_⟩;have y3:=(y.trans y2).trans x3;refine ⟨δ3,h3,A3,μ3,_,R3,q3,⟨fun δ4 h4 σ4 H4 A4 μ4 ⟨e4,q4⟩ x4 R4=>?_,fun δ4 h4 σ4 H4 A4 μ4 q4 x4 R4=>q4.elim,fun δ4 h4 σ4 H4 A4 μ4 ⟨e4,q4⟩ x4 R4=>?_,fun w h4 v H4 A4 μ4 q4 x4 R4 r4=>q4.elim⟩⟩
   ·subst e4;exact ⟨δ4,A4,μ4,y3.trans x4,R4,q4⟩
   ·subst e4;exact ⟨δ4,A4,μ4,y3.trans x4,R4,q4⟩
 ·have e:i=xs.length:=by omega
  subst e;rw [List.drop_length] at q';exact q'.elim
end
section
variable {P:Program} {w:World} {K:Frag} {mg:Str->Option Value} {base:Heap}
def cP9 {x qual:Str} {st:Stmt} {f C:Addr} {fd:FuncData} {N ps:List Str} {k:Nat} {n:Int} {pre:List W->Prop} (F:Fun K x qual st f fd) (S:FnScope N ps (aH st)) (len:∀ ws,pre ws->ws.length=ps.length)
  (hbody:∀ (cdv:Value) (A:Around) (outer:List Env) (s:Shared) (H:Hp) (E:XK),Room k (A.deeper (envOfC qual (aH st) s.heap.objs.size f cdv))->∀ ws h,pre ws ->
   ∃ tr,DRI (gB (CXI P w C) P w K mg base N qual (aH st) f cdv A outer s H E) C E n (aX st) tr/\tr (eU N ws) h):FnOk P w K mg base (CXI P w C) (k+1) f fd ps (aN4 K C n pre):=by
 obtain ⟨oc,od,kV,doc,pm,an,cdv,ct,osl,rfl,lk,hcd⟩:=F.ex;refine aE1 lk hcd S (fun vs H Q E ⟨ws,h,A,μ,R,r,q,c⟩=>by rw [eG r];exact len _ q) fun A outer s H vs Q E hr hsp=>?_;obtain ⟨ws,h,B,μ,R,r,q,c⟩:=hsp;obtain ⟨tr,h1,h2⟩:=hbody cdv A outer s H E hr ws h q;exact ⟨_,h1,eU N ws,h,B,μ,⟨R,jP r⟩,h2,c⟩
def pR {CX:CXT} {N:List Str} {qual:Str} {scope:Scope} {f:Addr} {cdv:Value} {A:Around} {outer:List Env} {s:Shared} {H:Hp} {E:XK} (hk:scope.kind=.function):PassesOwn (model P w) (gB CX P w K mg base N qual scope f cdv A outer s H E).A (gB CX P w K mg base N qual scope f cdv A outer s H E).env (gB CX P w K mg base N qual scope f cdv A outer s H E).xe:=by
 unfold gB;dsimp only
 passes_own
end
end DL
namespace L2
open PySem PySem.Spec PyProof.Rows
section
variable {X:Cx} {pins:List (Addr×Obj)} {σ:St} {H:Hp} {s:Shared} {ea:Addr} {oe:Obj}
def Inv.track (I:Inv X pins σ H s) (he:s.heap.get? ea=some oe) (hn:H ea=none) (n0:X.s₀.heap.get? ea=none) (nl:ea≠X.env.locals) (hd:∀ v,oe.data≠.cell v) (np:∀ p∈X.pn++pins,p.1≠ea):Inv X pins σ (upd H ea (isO ea oe)) s:=by
 have trk:∀ b u,H b=some u->upd H ea (isO ea oe) b=some u:=fun b u q=>by rw [aF (fun z=>by rw [z,hn] at q;cases q)];exact q
 refine ⟨I.ok,I.os,I.bare,⟨I.base.keep,I.base.slot,fun b o q n hx=>?_,I.base.there,fun b xs q=>trk b _ (I.base.tups b xs q),fun b o u q=>trk b _ (I.base.frzs b o u q),fun b ps q=>?_⟩,I.loc,I.cell,by rw [aF (Ne.symm nl)];exact I.free,fun x c e=>?_,fun p hp=>?_,fun b u q=>?_,I.len⟩
 ·rw [aF (fun z=>by rw [z,n0] at q;cases q)];exact I.base.free b o q n hx
 ·obtain ⟨m,r⟩:=I.base.tbls b ps q;exact ⟨m,trk b _ r⟩
 ·rw [aF (fun z=>?_)]
  ·exact I.freeC x c e
  ·obtain ⟨v,o,h1,h2⟩:=I.cell x c e;rw [z,he] at h1;cases h1;exact hd _ h2
 ·obtain ⟨p1,p2,p3,p4,p5⟩:=I.pin p hp;exact ⟨p1,by rw [aF (np p hp)];exact p2,p3,p4,p5⟩
 ·by_cases z:b=ea
  ·subst z;rw [aN] at q;cases q;exact ⟨he,⟨_,he⟩,fun h1 h2 p q=>q _ p⟩
  ·rw [aF z] at q;exact (I.hok b u q).stay (fun _ _ _ r=>r) (fun c r=>trk c _ r) fun c xs r=>trk c _ r
end
noncomputable def cQ0 (i:Nat) (ea:Addr) (oe:Obj) (D:Ends):Ends where
 nx:=fun σ H=>H ea=none->D.nx (σ.set i none) (upd H ea (isO ea oe))
 rt:=fun _ _=>False
section
variable {X:Cx} {C CJ:Addr} {n J:Str} {jp hpos tpos:Pos} {i:Nat} {b₀:Stmt} {su bd:List Stmt} {ts:Addr->TS} {tb:XK->L2.St->Hp->Prop}
def bB2 (b:X.Body) (hmJ:X.mg J=some (.ref CJ)) (hJ:PySem.W.exmOne X.K (.ref C) (.ref CJ)=some true) (hN:X.N.Nodup) (hi:X.N[i]?=some n) (hl:X.env.scope.names.lookup n=some .local)
  (hbd:∀ (Ex:Value->Shared->Prop) (E:XK) (pins:List (Addr×Obj)) (s:Shared) (σ:L2.St) (H:Hp),(∀ H1 s1 ex s',Inv X pins σ H1 s1->CXI X.prog X.w C X.stack H1 s1 E ex s'->Ex ex s')->Inv X pins σ H s->tb E σ H->wpAny (model X.prog X.w) X.A (execs bd X.env) (fun fl s'=>False) Ex s)
  (hsu:∀ ea oe,PSs (X.suite ea oe) (b₀::su) (ts ea)) (hgJ:autoParam (Gl X J) ZR) (hdJ:autoParam ((J==("__debug__":Str))=false) ZD) :
  PS X (.Try bd [.ExceptHandler (some (.Name J jp)) (some n) (b₀::su) hpos] [] [] tpos)
   (fun D σ H=>∃ E:XK,tb E σ H/\∀ d H2,E (.ref C) (some d) H2->∀ ea oe,H2 ea=none->ErP (.ref C) d oe->ts ea (cQ0 i ea oe D) (σ.set i (some (.ref ea))) H2):=by
 intro pins s σ H D I ⟨E,q,hE⟩;refine wpAny_Try_except ?_;refine wpAny_mono (hbd _ E pins s σ H (fun H1 s1 ex s' I1 hq=>?_) I q) (fun _ _ z=>z.elim) fun _ _ z=>z;obtain ⟨ea,d,rfl,⟨ea',H2,e',Fl⟩,x0⟩:=hq;cases e';obtain ⟨B,tt,fl,pr⟩:=Fl.fly;have nil:∀ a:Addr,a∉([]:List Addr):=fun a z=>nomatch z
 have fl0:Heap.FlyingW B (X.env::X.outer) ea (.ref C) (.ref tt) s'.heap:=by rw [<- b.st];exact fl
 have tr:∀ a,H2 a≠none->a∉frs X.stack:=fun a z m=>by
  obtain ⟨_,o',ho',_⟩:=I1.stack.mem m;exact z (Fl.un.free a o' ho' (I1.stkFree a m) (nil a))
 have inv:∀ h' tk,B.StaysIn h'->s'.heap.UpToSlots h'->Inv X pins σ H2 { s' with heap:=h',toks:=tk }:=fun h' tk hB up=>by
  have sl:∀ a o,s'.heap.get? a=some o->a∈frs X.stack->∃ sl,h'.get? a=some { o with slots:=sl }:=fun a o q m=>by
   obtain ⟨_,o',ho',hd⟩:=fl.2.2.1.mem m;rw [q] at ho';cases ho';exact up a o q hd
  refine I1.call' (ch:=[]) Fl.os ⟨fun a o q z ha _=>?_,fun a o q z ha _=>?_,Fl.un.free,fun a o q _=>?_,Fl.un.tups,Fl.un.frzs,Fl.un.tbls⟩ (Fl.hok.keptT fun a u z q=>hB a u (pr a u q (tr a z) (.inl z))) Fl.bare fun a z=>nomatch z
  ·exact hB a o (pr a o (Fl.un.keep a o q z ha (nil a)) ha (.inr ⟨o,q⟩))
  ·obtain ⟨s2,e2⟩:=Fl.un.slot a o q z ha (nil a);obtain ⟨s3,e3⟩:=sl a _ e2 ha;exact ⟨s3,e3⟩
  ·obtain ⟨o2,e2⟩:=Fl.un.there a o q (nil a)
   by_cases m:a∈frs X.stack
   ·obtain ⟨s3,e3⟩:=sl a o2 e2 m;exact ⟨_,e3⟩
   ·exact ⟨o2,hB a o2 (pr a o2 e2 m (.inr ⟨o,q⟩))⟩
 have nS:ea∉frs X.stack:=fun m=>by
  obtain ⟨_,o,ho,hd⟩:=fl.2.2.1.mem m;obtain ⟨oe,vs,he,_,hd',_⟩:=fl.first
  rw [he] at ho;cases ho;exact hd vs hd'
 have nN:∀ u,s1.heap.get? ea=some u->False:=fun u hu=>by
  obtain ⟨u',hu'⟩:=Fl.un.there ea u hu (nil ea);have y:=pr ea u' hu' nS (.inr ⟨u,hu⟩);rw [fl.2.1] at y;cases y
 have n0:X.s₀.heap.get? ea=none:=by
  cases z:X.s₀.heap.get? ea with
  | none=>rfl
  | some o =>
   have ub:Un X.fs [] X.H₀ H1 X.s₀.heap s1.heap:=by have:=I1.base;rwa [b.ex] at this
   obtain ⟨o',z'⟩:=ub.there ea o z (nil ea);exact (nN o' z').elim
 have nH:H2 ea=none:=by
  cases z:H2 ea with
  | none=>rfl
  | some o =>
   have z':H2 ea≠none:=by rw [z];exact fun y=>nomatch y
   obtain ⟨u,hu⟩:=Fl.hok.exT z';have y:=pr ea u hu nS (.inl z');rw [fl.2.1] at y;cases y
 have nL:ea≠X.env.locals:=fun z=>nS (by rw [b.fs,z];exact List.mem_cons_self);have nF:ea∉X.fs:=fun z=>nS (by rw [b.fs];exact List.mem_cons_of_mem _ z);have nP:∀ p∈X.pn++pins,p.1≠ea:=fun p hp z=>nN p.2 (by rw [<- z];exact (I1.pin p hp).1);refine wpAny_mono (Kp.any ErP.freed (xH (.ref ea) X.env) x0 (wpAny_looks_onW (env:=X.env) (outer:=X.outer) (Q:=fun _ s4=>∃ h4,s4={ s' with heap:=h4 }/\Heap.HeldW B (X.env::X.outer) ea (.ref C) (.ref tt) X.env.locals h4/\s'.heap.UpToSlots h4) (by rw [I.ok.frames,b.st]) b.fr fl0 fun h4 held4 up4=>⟨h4,rfl,held4,up4⟩)) (fun _ s4 z=>?_) fun _ _ z=>z;obtain ⟨⟨h4,rfl,held4,up4⟩,x4⟩:=z;refine wpAny_mono (Kp.any ErP.freed (kG (.ref ea) none) x4 (wpAny_landsW (Q:=fun _ s5=>∃ h5,s5={ s' with heap:=h5 }/\Heap.FlyingW B (X.env::X.outer) ea (.ref C) (.ref tt) h5/\h4.UpToSlots h5) held4 fun h5 fl5 up5=>⟨h5,rfl,fl5,up5⟩)) (fun _ s5 z=>?_) fun _ _ z=>z;obtain ⟨⟨h5,rfl,fl5,up5⟩,x5⟩:=z;have I5:=inv h5 s'.toks fl5.1 (up4.trans up5);obtain ⟨oe5,he5,hc5,hdd5,ws5,hd5⟩:=x5;have I5s:=I5.suite (ea:=ea) (oe:=oe5) he5 nH nL nF (fun v z=>by rw [hd5] at z;cases z);refine wpAny_handleBy_cons (codeAny_handlers_test (gU (X:=X.suite ea oe5) I5s hgJ hmJ ?_ hdJ)) (by intro q;cases q);have LT:PySem.W.Looks (model X.prog X.w) h5 (typeOf (.ref ea)) (.ref C):=hc5 ▸ (PySem.W.Looks.ld he5).andThen .now;refine (PySem.W.exm_one (K:=X.K) I5.kIn LT hJ).here ?_;refine codeAny_handlers_suite_as ?_;refine wpAny_mono (Kp.any ErP.freed (kG (.ref ea) none) (⟨oe5,he5,hc5,hdd5,ws5,hd5⟩:AtP (ErP (.ref C) d) ea h5) (lands_againW (Q:=fun _ s6=>∃ h6,s6={ s' with heap:=h6 }/\Heap.FlyingW B (X.env::X.outer) ea (.ref C) (.ref tt) h6/\h5.UpToSlots h6) fl5 fun h6 fl6 up6=>⟨h6,rfl,fl6,up6⟩)) (fun _ s6 z=>?_) fun _ _ z=>z;obtain ⟨⟨h6,rfl,fl6,up6⟩,x6⟩:=z;have I6:=inv h6 s'.toks fl6.1 ((up4.trans up5).trans up6);obtain ⟨oe,he6,er6⟩:=x6;obtain ⟨_,_,ws,hd6⟩:=id er6;have ncl:∀ v,oe.data≠.cell v:=fun v z=>by rw [hd6] at z;cases z
 have I6s:=I6.suite (ea:=ea) (oe:=oe) he6 nH nL nF ncl;refine lO (X:=X.suite ea oe) (v:=.ref ea) I6s hN hi (.inl hl) rfl (fun s7 I7=>?_) (.inr hl);refine wpAny_mono (hsu ea oe pins s7 _ H2 (cQ0 i ea oe D) I7 (hE d H2 Fl.want ea oe nH er6)) (fun fl s8 hq=>?_) fun _ _ z=>z.elim;cases fl with
 | next =>
  obtain ⟨σ8,H8,I8,q8⟩:=hq;obtain ⟨p1,p2,_⟩:=I8.pin (ea,oe) (List.mem_append_left _ List.mem_cons_self);exact bA6 ((I8.unsuite I.ok).track p1 p2 n0 nL ncl nP) hN hi hl fun s9 I9=>⟨_,_,I9,q8 p2⟩
 | brk=>obtain ⟨σ8,H8,I8,q8⟩:=hq;exact q8.elim
 | cont=>obtain ⟨σ8,H8,I8,q8⟩:=hq;exact q8.elim
 | ret u=>obtain ⟨v,σ8,H8,I8,rv,q8⟩:=hq;exact q8.elim
def bB3 {h₀:ExceptHandler} {hs:List ExceptHandler} {t:TS} (hb:PSs X.nox bd t):PS X (.Try bd (h₀::hs) [] [] tpos) t:=by
 intro pins s σ H D I q;refine wpAny_Try_except (wpAny_mono (hb pins s σ H D (I.wish _) q) (fun fl s1 z=>?_) fun _ _ z=>z.elim);cases fl with
 | next=>obtain ⟨σ1,H1,I1,q1⟩:=z;exact wpAny_execs_nil ⟨σ1,H1,I1.unwish,q1⟩
 | brk=>obtain ⟨σ1,H1,I1,q1⟩:=z;exact ⟨σ1,H1,I1.unwish,q1⟩
 | cont=>obtain ⟨σ1,H1,I1,q1⟩:=z;exact ⟨σ1,H1,I1.unwish,q1⟩
 | ret u=>obtain ⟨v,σ1,H1,I1,rv,q1⟩:=z;exact ⟨v,σ1,H1,I1.unwish,rv,q1⟩
end
end L2
namespace L2
open PySem PySem.Spec PyProof.Rows DL
section
variable {X:Cx} {C CJ a1 a2 a3 a4:Addr} {i k:Nat} {n Cn c1 c2 c3 c4:Str} {b:Bool} {p p1 p2 q1 q2 q3 q4 pt pos:Pos} {cv:V} {cu:Value}
def kept (C:Addr) (i:Nat) (σ:L2.St) (H:Hp) (ea:Addr) (oe:Obj):Prop:=σ[i]?=some (some (.ref ea))/\H ea=some (isO ea oe)/\oe.cls=.ref C
def xJ (Z:XCls X.K C) (hm:X.mg "isinstance"=none) (hC:PE X (.Name Cn p2) (tC cv)) (hr:∀ u,RelV cv u->u=cu) (hk:PySem.W.kitOne X.K (.ref C) cu=some b) (hN:autoParam (X.N[i]?=some n) ZR)
  (hv:Vis X.env.scope n:=by exact Or.inl rfl) (hg:autoParam (Gl X "isinstance") ZR) (hd:autoParam ((n==("__debug__":Str))=false) ZD) (hcd:autoParam ((n==("__classdict__":Str))=false) ZD)
  (hs:autoParam (starEach (.Name n p1::[.Name Cn p2]) X.env=(false,eval (.Name n p1) X.env)::starEach [.Name Cn p2] X.env) ZR) (hs2:autoParam (starEach ([.Name Cn p2]:List Expr) X.env=(false,eval (.Name Cn p2) X.env)::starEach [] X.env) ZR)
  (hpl:autoParam ((backTo pos (starEach ([.Name Cn p2]:List Expr) X.env)).any (·.1)=false) ZR):PE X (.Call (.Name "isinstance" p) [.Name n p1,.Name Cn p2] [] pos) (fun σ H Q=>∃ ea oe,kept C i σ H ea oe/\Q (.bl b) H):=by
 have ha:PA X [.Name n p1,.Name Cn p2] (eO (bM1 i) (eO (tC cv) yG)):=bN (eL hN hv hd hcd) (bN hC fQ hs2) hs;have hcl:bZ X (.builtin "isinstance") (fun xs H Q=>∃ ea oe,xs=[.ref ea,cv]/\H ea=some (isO ea oe)/\oe.cls=.ref C/\Q (.bl b) H):=by
  intro pins s σ H xs us Q I r h;obtain ⟨ea,oe,rfl,hH,hc,q⟩:=h;have g1:s.heap.get? ea=some oe:=(show ObjOk X.prog X.w H s.heap ea (isO ea oe) from I.hok ea _ hH).1;cases r with
  | cons r1 r2 =>
   cases r2 with
   | cons r3 r4 =>
    cases r4;cases r1;obtain rfl:=hr _ r3;exact PySem.W.kia_one (tT PySem.F.excAttr_ValueError.ga Z hc) I.kIn g1 hk (fun z=>nomatch z) fun tk=>⟨.bl b,H,I.tok tk,rfl,q⟩
 refine aK (iV hcl hg hm (by rfl) ha (by decide) (by decide) hs hpl) fun σ H Q ⟨ea,oe,⟨h1,h2,h3⟩,q⟩=>⟨_,h1,ea,oe,rfl,h2,h3,q⟩
def aN6 (Z:XCls X.K C) (hm:X.mg "isinstance"=none) (m1:X.mg c1=some (.ref a1)) (m2:X.mg c2=some (.ref a2)) (m3:X.mg c3=some (.ref a3)) (m4:X.mg c4=some (.ref a4))
  (hk:PySem.W.kitAny X.K (.ref C) [.ref a1,.ref a2,.ref a3,.ref a4]=some b) (g1:Gl X c1) (g2:Gl X c2) (g3:Gl X c3) (g4:Gl X c4) (d1:(c1==("__debug__":Str))=false) (d2:(c2==("__debug__":Str))=false) (d3:(c3==("__debug__":Str))=false) (d4:(c4==("__debug__":Str))=false)
  (hN:X.N[i]?=some n) (hv:Vis X.env.scope n) (hg:Gl X "isinstance") (hd:(n==("__debug__":Str))=false) (hcd:(n==("__classdict__":Str))=false) :
  PE X (.Call (.Name "isinstance" p) [.Name n p1,.Tuple [.Name c1 q1,.Name c2 q2,.Name c3 q3,.Name c4 q4] k pt] [] pos) (fun σ H Q=>∃ ea oe,kept C i σ H ea oe/\∀ tp,H tp=none->Q (.bl b) (upd H tp (.tup [.ref a1,.ref a2,.ref a3,.ref a4]))):=by
 have e1:PE X (.Name c1 q1) (tC (.ref a1)):=dW g1 m1 rfl d1;have e2:PE X (.Name c2 q2) (tC (.ref a2)):=dW g2 m2 rfl d2;have e3:PE X (.Name c3 q3) (tC (.ref a3)):=dW g3 m3 rfl d3;have e4:PE X (.Name c4 q4) (tC (.ref a4)):=dW g4 m4 rfl d4;have ht:PE X (.Tuple [.Name c1 q1,.Name c2 q2,.Name c3 q3,.Name c4 q4] k pt) (bO6 (eO (tC (.ref a1)) (eO (tC (.ref a2)) (eO (tC (.ref a3)) (eO (tC (.ref a4)) yG))))):=aD8 (bN e1 (bN e2 (bN e3 (bN e4 fQ rfl) rfl) rfl) rfl);have ha:PA X [.Name n p1,.Tuple [.Name c1 q1,.Name c2 q2,.Name c3 q3,.Name c4 q4] k pt] (eO (bM1 i) (eO (bO6 (eO (tC (.ref a1)) (eO (tC (.ref a2)) (eO (tC (.ref a3)) (eO (tC (.ref a4)) yG))))) yG)):=bN (eL hN hv hd hcd) (bN ht fQ rfl) rfl;have hcl:bZ X (.builtin "isinstance") (fun xs H Q=>∃ tp ea oe,xs=[.ref ea,.ref tp]/\H tp=some (.tup [.ref a1,.ref a2,.ref a3,.ref a4])/\H ea=some (isO ea oe)/\oe.cls=.ref C/\Q (.bl b) H):=by
  intro pins s σ H xs us Q I r h;obtain ⟨tp,ea,oe,rfl,htp,hH,hc,q⟩:=h;have g1:s.heap.get? ea=some oe:=(show ObjOk X.prog X.w H s.heap ea (isO ea oe) from I.hok ea _ hH).1;obtain ⟨_,vs,ru,o,ho,hoc,⟨m,hod⟩,hn⟩:=(show ObjOk X.prog X.w H s.heap tp (.tup [.ref a1,.ref a2,.ref a3,.ref a4]) from I.hok tp _ htp);have eu:vs=[.ref a1,.ref a2,.ref a3,.ref a4]:=by
   cases ru with
   | cons r1 r2=>cases r2 with
    | cons r3 r4=>cases r4 with
     | cons r5 r6=>cases r6 with
      | cons r7 r8=>cases r8;cases r1;cases r3;cases r5;cases r7;rfl
  subst eu;obtain ⟨cls,dct,dat,sl⟩:=o;dsimp only at hoc hod hn;subst hoc;subst hod;subst hn;cases r with
  | cons r1 r2 =>
   cases r2 with
   | cons r3 r4 =>
    cases r4;cases r1;cases r3;exact PySem.W.kia_tup (tT PySem.F.excAttr_ValueError.ga Z hc) I.kIn g1 ho hk (fun z=>nomatch z) fun tk=>⟨.bl b,H,I.tok tk,rfl,q⟩
 refine aK (iV hcl hg hm (by rfl) ha (by decide) (by decide) rfl rfl) fun σ H Q ⟨ea,oe,⟨h1,h2,h3⟩,q⟩=>?_;refine ⟨_,h1,(by decide:(4:Nat)<=sizeLine),fun tp hp=>?_⟩;exact ⟨tp,ea,oe,rfl,by simp [upd],by rw [aF (fun z=>by rw [z,hp] at h2;cases h2)];exact h2,h3,q tp hp⟩
def cQ1 {j:Int} (Z:XCls X.K C) (Y:ECls X.K C CJ) (hN:autoParam (X.N[i]?=some n) ZR) (hv:Vis X.env.scope n:=by exact Or.inl rfl) (hd:autoParam ((n==("__debug__":Str))=false) ZD) (hcd:autoParam ((n==("__classdict__":Str))=false) ZD)
  (hb:autoParam (attributeBase (.Name n p1) "at" X.env (eval (.Name n p1) X.env)=eval (.Name n p1) X.env) ZR):PE X (.Attribute (.Name n p1) "at" pos) (fun σ H Q=>∃ ea oe D,kept C i σ H ea oe/\ErP (.ref C) D oe/\H D=some (.xd [("at",.int j)])/\Q (.int j) H):=by
 intro pins s σ H Q I h;obtain ⟨ea,oe,D,⟨h1,h2,h3⟩,⟨_,e2,vs,e3⟩,h4,q⟩:=h;refine aR4 hb (thn (eL hN hv hd hcd pins s σ H (fun v H1=>v=.ref ea/\H1=H) I ⟨_,h1,rfl,rfl⟩) fun u s1 ⟨x,H1,I1,rx,ex,eH⟩=>?_);subst ex eH;obtain rfl:u=Value.ref ea:=rx;have g1:s1.heap.get? ea=some oe:=(show ObjOk X.prog X.w _ s1.heap ea (isO ea oe) from I1.hok ea _ h2).1;obtain ⟨mA,hn,hf⟩:=(show ObjOk X.prog X.w _ s1.heap D (.xd [("at",.int j)]) from I1.hok D _ h4);have hat:RelO (some (V.int j)) (mA "at"):=hf "at";obtain ⟨u,eu,t,rfl⟩:∃ u,mA "at"=some u/\∃ t,u=.int j t:=by
  cases z:mA "at" with
  | none=>rw [z] at hat;exact hat.elim
  | some u=>rw [z] at hat;exact ⟨u,rfl,hat⟩
 obtain ⟨hh,g,d,tk,os⟩:=s1;exact bB0 PySem.F.excAttr_ValueError.ga Z Y I1.kIn g1 h3 e3 e2 hn eu rfl ⟨.int j,_,I1.tok _,⟨t,rfl⟩,q⟩
end
end L2
set_option maxHeartbeats 4000000
noncomputable section
namespace K07
open PySem PySem.Spec PyProof.Rows L2 DL CI SJ
noncomputable def body:List Stmt:=PySem.Challenge.pw_storejudge_k07_histories_looked_over.main.body
noncomputable def cv (x:Str):List Str:=if x="law" then ["_law_state"] else if x="_law_deeds" then ["_law_free","_law_over","_law_used","_law_found","_law_state"] else []
noncomputable def wf (x:Str):Bool:=decide (x="_law_deeds")||decide (x="_law_spoilt")
noncomputable def T:Top:=cO5 body (fun _=>[]) cv 1000 60 wf
end K07
namespace K07
open PySem PySem.Spec PyProof.Rows L2 DL CI
noncomputable def YE:Fl×aA->Option (Fl×aA):=fun p=>match p.1 with
  | Fl.nx δ'=>some (Fl.nx δ',p.2)
  | f=>some (f,p.2)
@[simp] theorem oB :YE=fun p=>match p.1 with
  | Fl.nx δ'=>some (Fl.nx δ',p.2)
  | f=>some (f,p.2):=rfl
noncomputable def YN:W->XR (List W):=fun w=>xb (aD []) fun ws=>aD (w::ws)
@[simp] theorem bB4 :YN=fun w=>xb (aD []) fun ws=>aD (w::ws):=rfl
noncomputable def YC (w:W):List W->XR (List W):=fun ws=>aD (w::ws)
@[simp] theorem bB5 (w:W):YC w=fun ws=>aD (w::ws):=rfl
noncomputable def YF (d:Nat) (s:String):List W->XR W:=fun ws x h=>Option.bind (aE T d (Str.ofString s) ws h) fun p=>some (W.d p.1,p.2)
@[simp] theorem bB6 (d:Nat) (s:String):YF d s=fun ws x h=>Option.bind (aE T d (Str.ofString s) ws h) fun p=>some (W.d p.1,p.2):=rfl
noncomputable def YI (n:Int):W->XR W:=fun x=>xb (aD (W.d (PyData.int n))) fun y x_1 h=>xIx x y h
@[simp] theorem cB2 (n:Int):YI n=fun x=>xb (aD (W.d (PyData.int n))) fun y x_1 h=>xIx x y h:=rfl
noncomputable def YB (o:Operator) (n:Int):W->XR W:=fun u=>xb (aD (W.d (PyData.int n))) fun w x h=>dX o u w h
@[simp] theorem cB3 (o:Operator) (n:Int):YB o n=fun u=>xb (aD (W.d (PyData.int n))) fun w x h=>dX o u w h:=rfl
noncomputable def YO (o:Operator) (u:W):W->XR W:=fun w x h=>dX o u w h
@[simp] theorem cB4 (o:Operator) (u:W):YO o u=fun w x h=>dX o u w h:=rfl
noncomputable def YT:List PyData->XR W:=fun xs=>aD (W.d (PyData.tuple xs))
@[simp] theorem cB5 :YT=fun xs=>aD (W.d (PyData.tuple xs)):=rfl
noncomputable def YW:W×aA->Option (Fl×aA):=fun p=>some (Fl.rt p.1,p.2)
@[simp] theorem bB7 :YW=fun p=>some (Fl.rt p.1,p.2):=rfl
noncomputable def YS (s:String):XR W:=aD (W.d (PyData.str (Str.ofString s)))
@[simp] theorem cB6 (s:String):YS s=aD (W.d (PyData.str (Str.ofString s))):=rfl
noncomputable def YJ (n:Int):XR W:=aD (W.d (PyData.int n))
@[simp] theorem bB8 (n:Int):YJ n=aD (W.d (PyData.int n)):=rfl
noncomputable def YK (f:List W->aA->Option (W×aA)):List W->XR W:=fun ws x h=>f ws h
@[simp] theorem bB9 (f:List W->aA->Option (W×aA)):YK f=fun ws x h=>f ws h:=rfl
noncomputable def YQ (k:DSt->Fl×aA->Option (Fl×aA)):Fl×aA->Option (Fl×aA):=fun p=>match p.1 with
  | Fl.nx δ'=>k δ' p
  | f=>some (f,p.2)
@[simp] theorem bC0 (k:DSt->Fl×aA->Option (Fl×aA)):YQ k=fun p=>match p.1 with
  | Fl.nx δ'=>k δ' p
  | f=>some (f,p.2):=rfl
noncomputable def YP {α β:Type} (x:Option α) (f:α->Option β):Option β:=Option.bind x f
@[simp] theorem oE {α β:Type} (x:Option α) (f:α->Option β):YP x f=Option.bind x f:=rfl
noncomputable def YG (i:Nat):XG:=fun w δ h=>some (List.set δ i (some w),h)
@[simp] theorem bC1 (i:Nat):YG i=fun w δ h=>some (List.set δ i (some w),h):=rfl
noncomputable def YZ:XR W:=aD (W.d PyData.none)
@[simp] theorem bC2:YZ=aD (W.d PyData.none):=rfl
noncomputable def YV (i:Nat) (n:Int):XR W:=xb (aB i) (YI n)
@[simp] theorem cB7 (i:Nat) (n:Int):YV i n=xb (aB i) (YI n):=rfl
noncomputable def YA (e:XR (List W)):W->XR W:=fun w δ h=>if vH (Str.ofString "append") w h=true then Option.bind (e δ h) fun p=>match w,p.1 with
  | W.c j,[W.d x]=>match p.2[j]? with
    | some (Cell.l xs)=>if List.length xs < sizeLine then some (W.d PyData.none,List.set p.2 j (Cell.l (xs++[x]))) else none
    | x=>none
  | x,x_2=>none else none
@[simp] theorem cQ2 (e:XR (List W)):YA e=fun w δ h=>if vH (Str.ofString "append") w h=true then Option.bind (e δ h) fun p=>match w,p.1 with
  | W.c j,[W.d x]=>match p.2[j]? with
    | some (Cell.l xs)=>if List.length xs < sizeLine then some (W.d PyData.none,List.set p.2 j (Cell.l (xs++[x]))) else none
    | x=>none
  | x,x_2=>none else none:=rfl
noncomputable def YR :W->XR (List PyData×Option Nat):=fun w x h=>match w with
  | W.d (PyData.int j)=>if lA 0 j=true then some ((rng 0 (Int.toNat j),none),h) else none
  | x=>none
@[simp] theorem bC3 :YR =fun w x h=>match w with
  | W.d (PyData.int j)=>if lA 0 j=true then some ((rng 0 (Int.toNat j),none),h) else none
  | x=>none:=rfl
noncomputable def YD :W->XR Bool:=fun w=>match w with
  | W.d (PyData.bool b)=>aD b
  | x=>xno
@[simp] theorem aN7 :YD =fun w=>match w with
  | W.d (PyData.bool b)=>aD b
  | x=>xno:=rfl
noncomputable def YU :W->XR (Option Int):=fun w=>match w with
  | W.d (PyData.int i)=>aD (some i)
  | x=>xno
@[simp] theorem cB8 :YU =fun w=>match w with
  | W.d (PyData.int i)=>aD (some i)
  | x=>xno:=rfl
noncomputable def YX (x:W):W->XR W:=fun y _ h=>xIx x y h
@[simp] theorem bC4 (x:W):YX x=fun y _ h=>xIx x y h:=rfl
noncomputable def YS3 (x:W) (l:Option Int):Option Int->XR W:=fun u _ h=>xSl x l u h
@[simp] theorem aN8 (x:W) (l:Option Int):YS3 x l=fun u _ h=>xSl x l u h:=rfl
noncomputable def YT2 (b:Bool) (δ:DSt):Bool×aA->Option (Fl×aA):=fun p=>if p.1=true then YP (YP (aD (W.d (PyData.bool b)) δ p.2) YW) YE else some (Fl.nx δ,p.2)
@[simp] theorem dI0 (b:Bool) (δ:DSt):YT2 b δ=fun p=>if p.1=true then YP (YP (aD (W.d (PyData.bool b)) δ p.2) YW) YE else some (Fl.nx δ,p.2):=rfl
noncomputable def YI2 (s:String):W->XR W:=fun w x h=>Option.bind (ref h w) fun d=>some (W.d (PyData.bool (isi d s)),h)
@[simp] theorem dI1 (s:String):YI2 s=fun w x h=>Option.bind (ref h w) fun d=>some (W.d (PyData.bool (isi d s)),h):=rfl
noncomputable def YNg :W->XR W:=fun w=>match w with
  | W.d (PyData.int i)=>aD (W.d (PyData.int (-i)))
  | x=>xno
@[simp] theorem xK :YNg =fun w=>match w with
  | W.d (PyData.int i)=>aD (W.d (PyData.int (-i)))
  | x=>xno:=rfl
noncomputable def Y1 (a:XR W):XR (List W):=xb a YN
@[simp] theorem bC5 (a:XR W):Y1 a=xb a YN:=rfl
noncomputable def Y2 (a b:XR W):XR (List W):=xb a fun w=>xb (Y1 b) (YC w)
@[simp] theorem bC6 (a b:XR W):Y2 a b=xb a fun w=>xb (Y1 b) (YC w):=rfl
noncomputable def Y3 (a b c:XR W):XR (List W):=xb a fun w=>xb (Y2 b c) (YC w)
@[simp] theorem cB9 (a b c:XR W):Y3 a b c=xb a fun w=>xb (Y2 b c) (YC w):=rfl
noncomputable def Y4 (a b c e:XR W):XR (List W):=xb a fun w=>xb (Y3 b c e) (YC w)
@[simp] theorem cC0 (a b c e:XR W):Y4 a b c e=xb a fun w=>xb (Y3 b c e) (YC w):=rfl
noncomputable def Y5 (a b c e f:XR W):XR (List W):=xb a fun w=>xb (Y4 b c e f) (YC w)
@[simp] theorem cC1 (a b c e f:XR W):Y5 a b c e f=xb a fun w=>xb (Y4 b c e f) (YC w):=rfl
noncomputable def Y6 (a b c e f g:XR W):XR (List W):=xb a fun w=>xb (Y5 b c e f g) (YC w)
@[simp] theorem cC2 (a b c e f g:XR W):Y6 a b c e f g=xb a fun w=>xb (Y5 b c e f g) (YC w):=rfl
noncomputable def vT (d:Nat) (w0:W) (h:aA):aE T (d+1) "is_whole" [w0] h =
 YP
 (YP
 (YP
 (xb (xb (aB 0) (YI2 "int"))
 (fun (w:W) =>
 match w with
     | W.d (PyData.bool true) =>
      xb (xb (aB 0) (YI2 "bool")) fun (w:W) =>
 match w with
       | W.d (PyData.bool b)=>aD (W.d (PyData.bool !b))
       | x=>xno
     | W.d (PyData.bool false)=>aD (W.d (PyData.bool false))
     | x=>xno)
 [some w0] h)
 YW)
 YE)
 (ends h):=by kernel_rfl
noncomputable def qW (d:Nat) (w0 w1 w2:W) (h:aA):aE T (d+1) "is_between" [w0,w1,w2] h =
 YP
 (YP
 (YP
 (xb (xb (Y1 (aB 0)) (YF d "is_whole"))
 (fun (w:W) =>
 match w with
     | W.d (PyData.bool true)=>bD (xC2 CmpOp.LtE CmpOp.LtE (aB 1) (aB 0) (aB 2))
     | W.d (PyData.bool false)=>aD (W.d (PyData.bool false))
     | x=>xno)
 [some w0,some w1,some w2] h)
 YW)
 YE)
 (ends h):=by kernel_rfl
noncomputable def oF (d:Nat) (w0 w1:W) (h:aA):aE T (d+1) "is_tuple_of" [w0,w1] h =
 YP
 (YP
 (YP
 (xb (xb (aB 0) (YI2 "tuple"))
 (fun (w:W) =>
 match w with
     | W.d (PyData.bool true)=>bD (xC1 CmpOp.Eq (xb (Y1 (aB 0)) (YK cN)) (aB 1))
     | W.d (PyData.bool false)=>aD (W.d (PyData.bool false))
     | x=>xno)
 [some w0,some w1] h)
 YW)
 YE)
 (ends h):=by kernel_rfl
noncomputable def tX (d:Nat) (w0:W) (h:aA):aE T (d+1) "are_whole" [w0] h =
 YP
 (YP (YP (xb (Y1 (aQ (xb (cS (aB 0)) fun p δ h=>aW (YG 0) (aD true) (xb (Y1 (aB 0)) (YF d "is_whole")) p.2 p.1 p.1 (bS [none] δ) h []))) (YK kZ) [some w0] h) YW) YE)
 (ends h):=by kernel_rfl
noncomputable def qX (d:Nat) (w0:W) (h:aA):aE T (d+1) "are_rising" [w0] h =
 YP
 (YP
 (YP
 (xb
 (Y1 (aQ
 (xb
 (xb (xb (xb (Y1 (aB 0)) (YK cN)) (YB .Sub 1)) YR)
 fun p δ h=>aW (YG 0) (aD true) (bD (xC1 CmpOp.Lt (xb (aB 1) fun x=>xb (aB 0) (YX x)) (xb (aB 1) fun x=>xb (xb (aB 0) (YB .Add 1)) (YX x)))) p.2 p.1 p.1 (bS [none,some 0] δ) h [])))
 (YK kZ) [some w0] h)
 YW)
 YE)
 (ends h):=by kernel_rfl
noncomputable def aN9 (d:Nat) (w0:W) (h:aA):aE T (d+1) "is_key" [w0] h =
 YP
 (YP (YP (xb (Y3 (aB 0) (YJ 0) (YJ 7)) ((YF d "is_between")) [some w0] h) YW) YE)
 (ends h):=by kernel_rfl
noncomputable def aA9 (d:Nat) (w0:W) (h:aA):aE T (d+1) "word_of" [w0] h =
 YP
 (YP
 (YP
 (xb
 (xb (xb (aB 0) (YI2 "tuple")) YD)
 (fun c =>
 if c=true then
 xb (xC1 CmpOp.Gt (xb (Y1 (aB 0)) (YK cN)) (YJ 0)) fun c =>
 if c=true then
 xb (xb (YV 0 0) (YI2 "str")) YD
 else aD false
 else aD false)
 [some w0] h)
 fun p =>
 if p.1=true then
 YP (YP (xb (aB 0) (YI 0) [some w0] p.2) YW) YE
 else some (Fl.nx [some w0],p.2))
 (YQ fun δ' p =>
 YP (YP (YZ δ' p.2) YW) YE))
 (ends h):=by kernel_rfl
noncomputable def tY (d:Nat) (w0 w1 w2:W) (h:aA):aE T (d+1) "is_worded" [w0,w1,w2] h =
 YP
 (YP
 (YP
 (xb (bD (xC1 CmpOp.Eq (xb (Y1 (aB 0)) (YF d "word_of")) (aB 1)))
 (fun (w:W) =>
 match w with
     | W.d (PyData.bool true)=>bD (xC1 CmpOp.Eq (xb (Y1 (aB 0)) (YK cN)) (aB 2))
     | W.d (PyData.bool false)=>aD (W.d (PyData.bool false))
     | x=>xno)
 [some w0,some w1,some w2] h)
 YW)
 YE)
 (ends h):=by kernel_rfl
noncomputable def tZ (d:Nat) (w0:W) (h:aA):aE T (d+1) "is_single" [w0] h =
 YP
 (YP (bA 1 (xb (Y1 (aB 0)) (YF d "word_of")) [some w0,none] h) (YQ fun δ' p =>
   YP
    (YP
     (xb (pK (fun (z:Str)=>List.lookup z [(Str.ofString "read",0),(Str.ofString "write",1),(Str.ofString "add",1),(Str.ofString "swap",2)]) (aB 1))
      (fun c =>
       if c=true then aD true
       else
        xC1 CmpOp.NotEq (xb (Y1 (aB 0)) (YK cN))
         (xb (YJ 2) fun (u:W) =>
          xb
           (xb (aB 1) fun (w:W) =>
            match w with
            | W.d (PyData.str z) =>
             match List.lookup z [(Str.ofString "read",0),(Str.ofString "write",1),(Str.ofString "add",1),(Str.ofString "swap",2)] with
             | some i=>aD (W.d (PyData.int i))
             | none=>xno
            | x=>xno)
           (YO .Add u)))
      δ' p.2)
     (YT2 false δ'))
    (YQ fun δ' p =>
     YP
      (YP
       (xb (xb (Y1 (YV 0 1)) (YF d "is_key"))
        (fun (w:W) =>
         match w with
         | W.d (PyData.bool true) =>
          xb
           (Y1 (xb (aB 0) fun (x:W) =>
             xb
              (xb (YJ 2) YU)
              fun (l:Option Int)=>xb (aD none) (YS3 x l)))
           (YF d "are_whole")
         | W.d (PyData.bool false)=>aD (W.d (PyData.bool false))
         | x=>xno)
        δ' p.2)
       YW)
      YE)))
 (ends h):=by kernel_rfl
noncomputable def aB0 (d:Nat) (w0:W) (h:aA):aE T (d+1) "is_span" [w0] h =
 YP
 (YP
 (YP
 (xb
 (xb
 (xb (xb (Y3 (aB 0) (YS "span") (YJ 3)) (YF d "is_worded")) YD)
 fun (b:Bool)=>aD !b)
 (fun c =>
 if c=true then aD true
 else
 xb
 (xb
 (xb
 (Y1 (xb (aB 0) fun (x:W) =>
 xb
 (xb (YJ 1) YU)
 fun (l:Option Int)=>xb (aD none) (YS3 x l)))
 (YF d "are_whole"))
 YD)
 fun (b:Bool)=>aD !b)
 [some w0] h)
 (YT2 false [some w0]))
 (YQ fun δ' p =>
 YP (YP (bD (xC3 CmpOp.LtE CmpOp.Lt CmpOp.LtE (YJ 0) (YV 0 1) (YV 0 2) (xb (YJ 7) (YB .Add 1))) δ' p.2) YW) YE))
 (ends h):=by kernel_rfl
noncomputable def aB1 (d:Nat) (w0:W) (h:aA):aE T (d+1) "is_deal" [w0] h =
 YP
 (YP
 (YP
 (xb
 (xb
 (xb (xb (Y3 (aB 0) (YS "deal") (YJ 2)) (YF d "is_worded")) YD)
 fun (b:Bool)=>aD !b)
 (fun c =>
 if c=true then aD true
 else
 xb
 (xb (xb (YV 0 1) (YI2 "tuple")) YD)
 fun (b:Bool)=>aD !b)
 [some w0] h)
 (YT2 false [some w0]))
 (YQ fun δ' p =>
 YP
 (YP
 (xb (bD (xC2 CmpOp.LtE CmpOp.LtE (YJ 1) (xb (Y1 (YV 0 1)) (YK cN)) (YJ 4)))
 (fun (w:W) =>
 match w with
       | W.d (PyData.bool true)=>xb (Y1 (aQ (xb (cS (YV 0 1)) fun p δ h=>aW (YG 0) (aD true) (xb (Y1 (aB 0)) (YF d "is_single")) p.2 p.1 p.1 (bS [none] δ) h []))) (YK kZ)
       | W.d (PyData.bool false)=>aD (W.d (PyData.bool false))
       | x=>xno)
 δ' p.2)
 YW)
 YE))
 (ends h):=by kernel_rfl
noncomputable def aB2 (d:Nat) (w0:W) (h:aA):aE T (d+1) "is_call" [w0] h =
 YP
 (YP
 (YP
 (xb (xb (Y1 (aB 0)) (YF d "is_single"))
 (fun (w:W) =>
 match w with
     | W.d (PyData.bool true)=>aD (W.d (PyData.bool true))
     | W.d (PyData.bool false) =>
      xb (xb (Y1 (aB 0)) (YF d "is_span")) fun (w:W) =>
 match w with
       | W.d (PyData.bool true)=>aD (W.d (PyData.bool true))
       | W.d (PyData.bool false)=>xb (Y1 (aB 0)) (YF d "is_deal")
       | x=>xno
     | x=>xno)
 [some w0] h)
 YW)
 YE)
 (ends h):=by kernel_rfl
noncomputable def aB3 (d:Nat) (w0:W) (h:aA):aE T (d+1) "is_look" [w0] h =
 YP
 (YP
 (YP
 (xb (xb (Y3 (aB 0) (YS "look") (YJ 2)) (YF d "is_worded"))
 (fun (w:W) =>
 match w with
     | W.d (PyData.bool true)=>xb (Y1 (YV 0 1)) (YF d "is_call")
     | W.d (PyData.bool false)=>aD (W.d (PyData.bool false))
     | x=>xno)
 [some w0] h)
 YW)
 YE)
 (ends h):=by kernel_rfl
noncomputable def lD (d:Nat) (w0:W) (h:aA):aE T (d+1) "is_value_pair" [w0] h =
 YP
 (YP
 (YP
 (xb (xb (Y2 (aB 0) (YJ 2)) (YF d "is_tuple_of"))
 (fun (w:W) =>
 match w with
     | W.d (PyData.bool true) =>
      xb (xb (Y1 (YV 0 0)) (YF d "is_key")) fun (w:W) =>
 match w with
       | W.d (PyData.bool true)=>xb (Y1 (YV 0 1)) (YF d "is_whole")
       | W.d (PyData.bool false)=>aD (W.d (PyData.bool false))
       | x=>xno
     | W.d (PyData.bool false)=>aD (W.d (PyData.bool false))
     | x=>xno)
 [some w0] h)
 YW)
 YE)
 (ends h):=by kernel_rfl
noncomputable def aO0 (d:Nat) (w0:W) (h:aA):aE T (d+1) "is_lay" [w0] h =
 YP
 (YP
 (YP
 (xb
 (xb
 (xb (xb (Y3 (aB 0) (YS "lay") (YJ 2)) (YF d "is_worded")) YD)
 fun (b:Bool)=>aD !b)
 (fun c =>
 if c=true then aD true
 else
 xb
 (xb
 (xb (xb (YV 0 1) (YI2 "tuple")) YD)
 fun (b:Bool)=>aD !b)
 fun c=>if c=true then aD true else xC1 CmpOp.Eq (xb (Y1 (YV 0 1)) (YK cN)) (YJ 0))
 [some w0] h)
 (YT2 false [some w0]))
 (YQ fun δ' p =>
 YP
 (YP
 (xb
 (xb (xb (Y1 (aQ (xb (cS (YV 0 1)) fun p δ h=>aW (YG 0) (aD true) (xb (Y1 (aB 0)) (YF d "is_value_pair")) p.2 p.1 p.1 (bS [none] δ) h []))) (YK kZ)) YD)
 (fun (b:Bool)=>aD !b) δ' p.2)
 (YT2 false δ'))
 (YQ fun δ' p =>
 YP (YP (xb (Y1 (aQ (xb (cS (YV 0 1)) fun p δ h=>aW (YG 0) (aD true) (YV 0 0) p.2 p.1 p.1 (bS [none] δ) h []))) ((YF d "are_rising")) δ' p.2) YW) YE)))
 (ends h):=by kernel_rfl
noncomputable def aB4 (d:Nat) (w0:W) (h:aA):aE T (d+1) "is_step" [w0] h =
 YP
 (YP
 (YP
 (xb (xb (Y1 (aB 0)) (YF d "is_call"))
 (fun (w:W) =>
 match w with
     | W.d (PyData.bool true)=>aD (W.d (PyData.bool true))
     | W.d (PyData.bool false) =>
      xb (xb (Y1 (aB 0)) (YF d "is_look")) fun (w:W) =>
 match w with
       | W.d (PyData.bool true)=>aD (W.d (PyData.bool true))
       | W.d (PyData.bool false)=>xb (Y1 (aB 0)) (YF d "is_lay")
       | x=>xno
     | x=>xno)
 [some w0] h)
 YW)
 YE)
 (ends h):=by kernel_rfl
noncomputable def uA (d:Nat) (w0 w1:W) (h:aA):aE T (d+1) "is_answer" [w0,w1] h =
 YP
 (YP
 (YP
 (xb
 (xb (xb (Y1 (aB 0)) (YF d "is_step")) YD)
 (fun (b:Bool)=>aD !b) [some w0,some w1] h)
 (YT2 false [some w0,some w1]))
 (YQ fun δ' p =>
 YP
 (YP
 (xb (xb (Y3 (aB 1) (YS "refused") (YJ 1)) (YF d "is_worded"))
 (YD)
 δ' p.2)
 fun p =>
 if p.1=true then
 YP (YP (xb (Y1 (aB 0)) ((YF d "is_call")) δ' p.2) YW) YE
 else some (Fl.nx δ',p.2))
 (YQ fun δ' p =>
 YP (YP (xb (Y2 (aB 0) (aB 1)) ((YF d "is_own_answer")) δ' p.2) YW) YE)))
 (ends h):=by kernel_rfl
noncomputable def bM (d:Nat) (w0 w1:W) (h:aA):aE T (d+1) "is_own_answer" [w0,w1] h =
 YP
 (YP (bA 2 (YV 0 0) [some w0,some w1,none] h) (YQ fun δ' p =>
 YP
 (YP (xC1 CmpOp.In (aB 2) (xb (xPl (Y2 (YS "read") (YS "add"))) YT) δ' p.2) fun p =>
 if p.1=true then
 YP
 (YP
 (xb (xb (Y3 (aB 1) (YS "got") (YJ 2)) (YF d "is_worded"))
 (fun (w:W) =>
 match w with
          | W.d (PyData.bool true)=>xb (Y1 (YV 1 1)) (YF d "is_whole")
          | W.d (PyData.bool false)=>aD (W.d (PyData.bool false))
          | x=>xno)
 δ' p.2)
 YW)
 YE
 else some (Fl.nx δ',p.2))
 (YQ fun δ' p =>
 YP
 (YP (xC1 CmpOp.In (aB 2) (xb (xPl (Y2 (YS "write") (YS "lay"))) YT) δ' p.2) fun p =>
 if p.1=true then
 YP (YP (xb (Y3 (aB 1) (YS "done") (YJ 1)) ((YF d "is_worded")) δ' p.2) YW) YE
 else some (Fl.nx δ',p.2))
 (YQ fun δ' p =>
 YP
 (YP (xC1 CmpOp.Eq (aB 2) (YS "swap") δ' p.2) fun p =>
 if p.1=true then
 YP
 (YP
 (xb (xb (Y3 (aB 1) (YS "yes") (YJ 1)) (YF d "is_worded"))
 (fun (w:W) =>
 match w with
              | W.d (PyData.bool true)=>aD (W.d (PyData.bool true))
              | W.d (PyData.bool false)=>xb (Y3 (aB 1) (YS "no") (YJ 1)) (YF d "is_worded")
              | x=>xno)
 δ' p.2)
 YW)
 YE
 else some (Fl.nx δ',p.2))
 (YQ fun δ' p =>
 YP
 (YP (xC1 CmpOp.Eq (aB 2) (YS "span") δ' p.2) fun p =>
 if p.1=true then
 YP
 (YP
 (xb (xb (Y3 (aB 1) (YS "all") (YJ 2)) (YF d "is_worded"))
 (fun (w:W) =>
 match w with
                | W.d (PyData.bool true) =>
                 xb (xb (Y2 (YV 1 1) (xb (YV 0 2) fun u=>xb (YV 0 1) (YO .Sub u))) (YF d "is_tuple_of")) fun (w:W) =>
 match w with
                  | W.d (PyData.bool true)=>xb (Y1 (YV 1 1)) (YF d "are_whole")
                  | W.d (PyData.bool false)=>aD (W.d (PyData.bool false))
                  | x=>xno
                | W.d (PyData.bool false)=>aD (W.d (PyData.bool false))
                | x=>xno)
 δ' p.2)
 YW)
 YE
 else some (Fl.nx δ',p.2))
 (YQ fun δ' p =>
 YP
 (YP (xC1 CmpOp.Eq (aB 2) (YS "look") δ' p.2) fun p =>
 if p.1=true then
 YP (YP (xb (Y2 (YV 0 1) (aB 1)) ((YF d "is_own_answer")) δ' p.2) YW) YE
 else some (Fl.nx δ',p.2))
 (YQ fun δ' p =>
 YP
 (YP
 (xb
 (xb
 (xb (xb (Y3 (aB 1) (YS "each") (YJ 2)) (YF d "is_worded")) YD)
 fun (b:Bool)=>aD !b)
 (fun c =>
 if c=true then aD true
 else
 xb
 (xb (xb (Y2 (YV 1 1) (xb (Y1 (YV 0 1)) (YK cN))) (YF d "is_tuple_of")) YD)
 fun (b:Bool)=>aD !b)
 δ' p.2)
 (YT2 false δ'))
 (YQ fun δ' p =>
 YP
 (YP
 (xb
 (Y1 (aQ
 (xb
 (xb (YV 0 1) fun (u:W) =>
 xb (YV 1 1) fun (w:W) (x:DSt) (h:aA) =>
 match gC u,gC w with
                       | some xs,some ys=>some ((mD xs ys,none),h)
                       | x,x_1=>none)
 fun p δ h=>aW (bW [YG 0,YG 1]) (aD true) (xb (Y2 (aB 0) (aB 1)) (YF d "is_own_answer")) p.2 p.1 p.1 (bS [none,none] δ) h [])))
 (YK kZ) δ' p.2)
 YW)
 YE))))))))
 (ends h):=by kernel_rfl
noncomputable def aB5 (d:Nat) (w0:W) (h:aA):aE T (d+1) "is_time" [w0] h =
 YP
 (YP
 (YP
 (xb (xb (Y1 (aB 0)) (YF d "is_whole"))
 (fun (w:W) =>
 match w with
     | W.d (PyData.bool true)=>bD (xC1 CmpOp.GtE (aB 0) (YJ 0))
     | W.d (PyData.bool false)=>aD (W.d (PyData.bool false))
     | x=>xno)
 [some w0] h)
 YW)
 YE)
 (ends h):=by kernel_rfl
noncomputable def bV (d:Nat) (w0:W) (h:aA):aE T (d+1) "is_deed" [w0] h =
 YP
 (YP
 (YP
 (xb
 (xb
 (xb (xb (Y2 (aB 0) (YJ 5)) (YF d "is_tuple_of")) YD)
 fun (b:Bool)=>aD !b)
 (fun c =>
 if c=true then aD true
 else
 xb
 (xb (xb (Y3 (YV 0 0) (YJ 0) (YJ 5)) (YF d "is_between")) YD)
 fun (b:Bool)=>aD !b)
 [some w0] h)
 (YT2 false [some w0]))
 (YQ fun δ' p =>
 YP
 (YP
 (xb
 (xb
 (xb (xb (Y1 (YV 0 1)) (YF d "is_time")) YD)
 fun (b:Bool)=>aD !b)
 (fun c =>
 if c=true then aD true
 else
 xb
 (xb (xb (Y1 (YV 0 3)) (YF d "is_call")) YD)
 fun (b:Bool)=>aD !b)
 δ' p.2)
 (YT2 false δ'))
 (YQ fun δ' p =>
 YP
 (YP (xC1 CmpOp.Is (YV 0 2) (YZ) δ' p.2) fun p =>
 if p.1=true then
 YP (YP (bD (xC1 CmpOp.Is (YV 0 4) (YZ)) δ' p.2) YW) YE
 else some (Fl.nx δ',p.2))
 (YQ fun δ' p =>
 YP
 (YP
 (xb (xb (Y1 (YV 0 2)) (YF d "is_time"))
 (fun (w:W) =>
 match w with
           | W.d (PyData.bool true) =>
            xb (bD (xC1 CmpOp.Lt (YV 0 1) (YV 0 2))) fun (w:W) =>
 match w with
             | W.d (PyData.bool true)=>xb (Y2 (YV 0 3) (YV 0 4)) (YF d "is_answer")
             | W.d (PyData.bool false)=>aD (W.d (PyData.bool false))
             | x=>xno
           | W.d (PyData.bool false)=>aD (W.d (PyData.bool false))
           | x=>xno)
 δ' p.2)
 YW)
 YE))))
 (ends h):=by kernel_rfl
noncomputable def vU (d:Nat) (w0:W) (h:aA):aE T (d+1) "times_of" [w0] h =
 YP
 (YP (YP (xb (xC1 CmpOp.Is (YV 0 2) (YZ)) (fun (t:Bool)=>if t=true then aQ (xPl (Y1 (YV 0 1))) else aQ (xPl (Y2 (YV 0 1) (YV 0 2)))) [some w0] h) YW) YE)
 (ends h):=by kernel_rfl
noncomputable def oG (d:Nat) (w0 w1:W) (h:aA):aE T (d+1) "ended_below" [w0,w1] h =
 YP
 (YP
 (YP
 (xb (bD (xC1 CmpOp.IsNot (YV 0 2) (YZ)))
 (fun (w:W) =>
 match w with
     | W.d (PyData.bool true)=>bD (xC1 CmpOp.Lt (YV 0 2) (aB 1))
     | W.d (PyData.bool false)=>aD (W.d (PyData.bool false))
     | x=>xno)
 [some w0,some w1] h)
 YW)
 YE)
 (ends h):=by kernel_rfl
noncomputable def oH (d:Nat) (w0 w1:W) (h:aA):aE T (d+1) "go_together" [w0,w1] h =
 YP
 (YP
 (YP
 (xb (xb (Y1 (aQ (xb (cS (xb (Y1 (aB 0)) (YF d "times_of"))) fun p δ h=>aW (YG 0) (aD true) (bD (xC1 CmpOp.In (aB 0) (xb (Y1 (aB 1)) (YF d "times_of")))) p.2 p.1 p.1 (bS [none,some 1] δ) h []))) (YK zO))
 (YD)
 [some w0,some w1] h)
 (YT2 false [some w0,some w1]))
 (YQ fun δ' p =>
 YP
 (YP
 (xb (bD (xC1 CmpOp.NotEq (YV 0 0) (YV 1 0)))
 (fun (w:W) =>
 match w with
       | W.d (PyData.bool true)=>aD (W.d (PyData.bool true))
       | W.d (PyData.bool false) =>
        xb (xb (Y2 (aB 0) (YV 1 1)) (YF d "ended_below")) fun (w:W) =>
 match w with
         | W.d (PyData.bool true)=>aD (W.d (PyData.bool true))
         | W.d (PyData.bool false)=>xb (Y2 (aB 1) (YV 0 1)) (YF d "ended_below")
         | x=>xno
       | x=>xno)
 δ' p.2)
 YW)
 YE))
 (ends h):=by kernel_rfl
noncomputable def uB (d:Nat) (w0:W) (h:aA):aE T (d+1) "look_over" [w0] h =
 YP
 (YP
 (YP
 (xb
 (xb
 (xb (xb (aB 0) (YI2 "tuple")) YD)
 fun (b:Bool)=>aD !b)
 (fun c=>if c=true then aD true else xC1 CmpOp.Gt (xb (Y1 (aB 0)) (YK cN)) (YJ 60)) [some w0,none,none,none] h)
 fun p =>
 if p.1=true then
 YP none YE
 else some (Fl.nx [some w0,none,none,none],p.2))
 (YQ fun δ' p =>
 YP
 (YP
 (xb (aB 0)
 (fun (u:W) (x:DSt) (h:aA) =>
 match gC u with
       | some xs=>some ((cW xs,none),h)
       | none=>none)
 δ' p.2)
 fun (p:(List PyData×Option Nat)×aA) =>
 cF (bW [YG 1,YG 2])
 (fun (x:DSt) (x_1:aA) =>
 YP
 (YP
 (xb
 (xb (xb (Y1 (aB 2)) (YF d "is_deed")) YD)
 (fun (b:Bool)=>aD !b) x x_1)
 fun p =>
 if p.1=true then
 YP none YE
 else some (Fl.nx x,p.2))
 YE)
 (Prod.snd p.1) (Prod.fst p.1) (Prod.fst p.1) δ' p.2)
 (YQ fun δ' p =>
 YP
 (YP
 (xb (aB 0)
 (fun (u:W) (x:DSt) (h:aA) =>
 match gC u with
         | some xs=>some ((cW xs,none),h)
         | none=>none)
 δ' p.2)
 fun (p:(List PyData×Option Nat)×aA) =>
 cF (bW [YG 1,YG 3])
 (fun (x:DSt) (x_1:aA) =>
 YP
 (YP
 (xb
 (xb
 (xb
 (Y1 (aQ
 (xb
 (cS
 (xb (aB 0) fun (x:W) =>
 xb (aD none) fun (l:Option Int) =>
 xb
 (xb (aB 1) YU)
 (YS3 x l)))
 fun p δ h=>aW (YG 0) (aD true) (xb (Y2 (aB 1) (aB 0)) (YF d "go_together")) p.2 p.1 p.1 (bS [none,some 3] δ) h [])))
 (YK kZ))
 YD)
 (fun (b:Bool)=>aD !b) x x_1)
 fun p =>
 if p.1=true then
 YP none YE
 else some (Fl.nx x,p.2))
 YE)
 (Prod.snd p.1) (Prod.fst p.1) (Prod.fst p.1) δ' p.2)
 YE)))
 (ends h):=by kernel_rfl
noncomputable def gR (d:Nat) (w0 w1:W) (h:aA):aE T (d+1) "_law_cell_at" [w0,w1] h =
 YP
 (YP
 (YP (xC1 CmpOp.Lt (aB 1) (xb (Y1 (aB 0)) (YK cN)) [some w0,some w1] h) fun p =>
 if p.1=true then
 YP (YP (xb (aB 0) (fun x=>xb (aB 1) (YX x)) [some w0,some w1] p.2) YW) YE
 else some (Fl.nx [some w0,some w1],p.2))
 (YQ fun δ' p =>
 YP (YP (YJ 0 δ' p.2) YW) YE))
 (ends h):=by kernel_rfl
noncomputable def qY (d:Nat) (w0:W) (h:aA):aE T (d+1) "_law_mixed" [w0] h =
 YP
 (YP (bA 0 (xb (xb (xb (xb (aB 0) (YB .Mod 2147483647)) (YB .Add 1)) (YB .Mult 48271)) (YB .Mod 2147483647)) [some w0] h) (YQ fun δ' p =>
 YP (bA 0 (xb (xb (aB 0) fun u=>xb (xb (xb (aB 0) (YB .FloorDiv 1009)) (YB .Add 69621)) (YO .Mult u)) (YB .Mod 2147483647)) δ' p.2) (YQ fun δ' p =>
 YP (YP (xb (xb (xb (aB 0) (YB .Add 1)) fun u=>xb (xb (xb (aB 0) (YB .FloorDiv 757)) (YB .Add 16807)) (YO .Mult u)) ((YB .Mod 2147483629)) δ' p.2) YW) YE)))
 (ends h):=by kernel_rfl
noncomputable def fV (d:Nat) (w0 w1:W) (h:aA):aE T (d+1) "_law_digit" [w0,w1] h =
 YP
 (YP
 (YP (xb (xC1 CmpOp.Eq (YV 0 1) (YJ 0)) (fun c=>if c=true then xC1 CmpOp.Gt (YV 0 0) (YJ 0) else aD false) [some w0,some w1,none] h) fun p =>
 if p.1=true then
 YP (bA 2 (xb (YV 0 0) fun u=>xb (aB 1) (YO .Mod u)) [some w0,some w1,none] p.2) (YQ fun δ' p =>
 YP
 (YP (xb (YV 0 0) (fun u=>xb (aB 1) (YO .FloorDiv u)) δ' p.2) fun p =>
 YP
 (YP (aB 0 δ' p.2) fun (p_1:W×aA) =>
 YP (YJ 0 δ' (p_1.2)) fun (q:W×aA) =>
 match p_1.1,q.1,p.1 with
           | W.c j,W.d y,W.d x =>
            match (q.2)[j]?,y with
            | some (Cell.l xs),PyData.int k=>Option.map (fun (n:Nat)=>(δ',List.set (q.2) j (Cell.l (List.set xs n x)))) (L2.ixN (List.length xs) k)
            | some (Cell.k kvs),x_1=>if Option.isSome (bJ y)=true/\List.length kvs < sizeLine then some (δ',List.set (q.2) j (Cell.k (jT kvs y x))) else none
            | x,x_1=>none
           | x,x_1,x_2=>none)
 fun (q:DSt×aA)=>some (Fl.nx (q.1),q.2))
 (YQ fun δ' p =>
 YP (YP (aB 2 δ' p.2) YW) YE))
 else some (Fl.nx [some w0,some w1,none],p.2))
 (YQ fun δ' p =>
 YP
 (YP (xb (Y1 (xb (YV 0 2) (YB .Add 1))) ((YF d "_law_mixed")) δ' p.2) fun p =>
 YP
 (YP (aB 0 δ' p.2) fun (p_1:W×aA) =>
 YP (YJ 2 δ' (p_1.2)) fun (q:W×aA) =>
 match p_1.1,q.1,p.1 with
        | W.c j,W.d y,W.d x =>
         match (q.2)[j]?,y with
         | some (Cell.l xs),PyData.int k=>Option.map (fun (n:Nat)=>(δ',List.set (q.2) j (Cell.l (List.set xs n x)))) (L2.ixN (List.length xs) k)
         | some (Cell.k kvs),x_1=>if Option.isSome (bJ y)=true/\List.length kvs < sizeLine then some (δ',List.set (q.2) j (Cell.k (jT kvs y x))) else none
         | x,x_1=>none
        | x,x_1,x_2=>none)
 fun (q:DSt×aA)=>some (Fl.nx (q.1),q.2))
 (YQ fun δ' p =>
 YP (YP (xb (xb (YV 0 2) (YB .FloorDiv 7)) (fun u=>xb (aB 1) (YO .Mod u)) δ' p.2) YW) YE)))
 (ends h):=by kernel_rfl
noncomputable def cG (d:Nat) (w0:W) (h:aA):aE T (d+1) "_law_asked" [w0] h =
 YP
 (YP (bA 1 (xb (Y2 (aB 0) (YJ 8)) (YF d "_law_digit")) [some w0,none,none,none] h) (YQ fun δ' p =>
 YP (bA 2 (xb (xb (Y2 (aB 0) (YJ 9)) (YF d "_law_digit")) (YB .Sub 4)) δ' p.2) (YQ fun δ' p =>
 YP (bA 3 (aQ (xPl (Y3 (xb (xPl (Y2 (xb (xPl (Y2 (YS "read") (aB 1))) YT) (xb (xPl (Y2 (YS "got") (aB 2))) YT))) YT) (xb (xPl (Y2 (xb (xPl (Y3 (YS "write") (aB 1) (aB 2))) YT) (xb (xPl (Y1 (YS "done"))) YT))) YT) (xb (xPl (Y2 (xb (xPl (Y3 (YS "add") (aB 1) (YJ 2))) YT) (xb (xPl (Y2 (YS "got") (aB 2))) YT))) YT)))) δ' p.2) (YQ fun δ' p =>
 YP (bA 3 (xb (aB 3) fun u=>xb (aQ (xPl (Y1 (xb (xPl (Y2 (xb (xPl (Y4 (YS "swap") (aB 1) (aB 2) (YJ 5))) YT) (xb (aQ (xPl (Y2 (xb (xPl (Y1 (YS "yes"))) YT) (xb (xPl (Y1 (YS "no"))) YT)))) fun x=>xb (xb (aB 2) (YB .Mod 2)) (YX x)))) YT)))) (YO .Add u)) δ' p.2) (YQ fun δ' p =>
 YP (bA 3 (xb (aB 3) fun u=>xb (aQ (xPl (Y1 (xb (xPl (Y2 (xb (xPl (Y3 (YS "span") (aB 1) (YJ 8))) YT) (xb (xPl (Y2 (YS "all") (xb (xb (xPl (Y1 (aB 2))) YT) fun u=>xb (xb (YJ 8) fun u=>xb (aB 1) (YO .Sub u)) (YO .Mult u)))) YT))) YT)))) (YO .Add u)) δ' p.2) (YQ fun δ' p =>
 YP (bA 3 (xb (aB 3) fun u=>xb (aQ (xPl (Y1 (xb (xPl (Y2 (xb (xPl (Y2 (YS "deal") (xb (xPl (Y2 (xb (xPl (Y2 (YS "read") (aB 1))) YT) (xb (xPl (Y3 (YS "write") (aB 1) (YJ 1))) YT))) YT))) YT) (xb (xPl (Y2 (YS "each") (xb (xPl (Y2 (xb (xPl (Y2 (YS "got") (aB 2))) YT) (xb (xPl (Y1 (YS "done"))) YT))) YT))) YT))) YT)))) (YO .Add u)) δ' p.2) (YQ fun δ' p =>
 YP (YP (xb (aB 3) (fun x=>xb (xb (Y2 (aB 0) (YJ 6)) (YF d "_law_digit")) (YX x)) δ' p.2) YW) YE)))))))
 (ends h):=by kernel_rfl
noncomputable def vV (d:Nat) (w0 w1 w2:W) (h:aA):aE T (d+1) "_law_put" [w0,w1,w2] h =
 YP
 (YP
 (YP
 (xb
 (xb
 (xb (aB 0) fun (x:W) =>
 xb (aD none) fun (l:Option Int) =>
 xb
 (xb (aB 1) YU)
 (YS3 x l))
 fun u=>xb (xb (xPl (Y1 (aB 2))) YT) (YO .Add u))
 (fun (u:W) =>
 xb
 (xb (aB 0) fun (x:W) =>
 xb
 (xb (xb (aB 1) (YB .Add 1)) YU)
 fun (l:Option Int)=>xb (aD none) (YS3 x l))
 (YO .Add u))
 [some w0,some w1,some w2] h)
 YW)
 YE)
 (ends h):=by kernel_rfl
noncomputable def nC (d:Nat) (w0:W) (h:aA):aE T (d+1) "_law_is_time" [w0] h =
 YP
 (YP
  (YP
   (xb (xb (aB 0) (YI2 "int"))
    (fun (w:W) =>
     match w with
     | W.d (PyData.bool true) =>
      xb
       (xb (xb (aB 0) (YI2 "bool")) fun (w:W) =>
        match w with
        | W.d (PyData.bool b)=>aD (W.d (PyData.bool !b))
        | x=>xno)
       fun (w:W) =>
       match w with
       | W.d (PyData.bool true)=>bD (xC1 CmpOp.GtE (aB 0) (YJ 0))
       | W.d (PyData.bool false)=>aD (W.d (PyData.bool false))
       | x=>xno
     | W.d (PyData.bool false)=>aD (W.d (PyData.bool false))
     | x=>xno)
    [some w0] h)
   YW)
  YE)
 (ends h):=by kernel_rfl
noncomputable def dG (d:Nat) (w0 w1:W) (h:aA):aE T (d+1) "_law_is_answer" [w0,w1] h =
 YP
 (YP
 (YP (xC1 CmpOp.Eq (aB 1) (xb (xPl (Y1 (YS "refused"))) YT) [some w0,some w1] h) (YT2 true [some w0,some w1]))
 (YQ fun δ' p =>
 YP
 (YP (xb (xC1 CmpOp.Eq (YV 0 0) (YS "read")) (fun c=>if c=true then aD true else xC1 CmpOp.Eq (YV 0 0) (YS "add")) δ' p.2) fun p =>
 if p.1=true then
 YP
 (YP
 (xb (xb (aB 1) (YI2 "tuple"))
 (fun (w:W) =>
 match w with
          | W.d (PyData.bool true) =>
           xb (bD (xC1 CmpOp.Eq (xb (Y1 (aB 1)) (YK cN)) (YJ 2))) fun (w:W) =>
 match w with
            | W.d (PyData.bool true)=>bD (xC1 CmpOp.Eq (YV 1 0) (YS "got"))
            | W.d (PyData.bool false)=>aD (W.d (PyData.bool false))
            | x=>xno
          | W.d (PyData.bool false)=>aD (W.d (PyData.bool false))
          | x=>xno)
 δ' p.2)
 YW)
 YE
 else some (Fl.nx δ',p.2))
 (YQ fun δ' p =>
 YP
 (YP (xC1 CmpOp.Eq (YV 0 0) (YS "write") δ' p.2) fun p =>
 if p.1=true then
 YP (YP (bD (xC1 CmpOp.Eq (aB 1) (xb (xPl (Y1 (YS "done"))) YT)) δ' p.2) YW) YE
 else some (Fl.nx δ',p.2))
 (YQ fun δ' p =>
 YP
 (YP (xC1 CmpOp.Eq (YV 0 0) (YS "swap") δ' p.2) fun p =>
 if p.1=true then
 YP (YP (bD (xC1 CmpOp.In (aB 1) (aQ (xPl (Y2 (xb (xPl (Y1 (YS "yes"))) YT) (xb (xPl (Y1 (YS "no"))) YT))))) δ' p.2) YW) YE
 else some (Fl.nx δ',p.2))
 (YQ fun δ' p =>
 YP
 (YP (xC1 CmpOp.Eq (YV 0 0) (YS "span") δ' p.2) fun p =>
 if p.1=true then
 YP
 (YP
 (xb (xb (aB 1) (YI2 "tuple"))
 (fun (w:W) =>
 match w with
                | W.d (PyData.bool true)=>bD (xC1 CmpOp.Eq (YV 1 0) (YS "all"))
                | W.d (PyData.bool false)=>aD (W.d (PyData.bool false))
                | x=>xno)
 δ' p.2)
 YW)
 YE
 else some (Fl.nx δ',p.2))
 (YQ fun δ' p =>
 YP
 (YP
 (xb (xb (aB 1) (YI2 "tuple"))
 (fun (w:W) =>
 match w with
               | W.d (PyData.bool true) =>
                xb (bD (xC1 CmpOp.Eq (YV 1 0) (YS "each"))) fun (w:W) =>
 match w with
                 | W.d (PyData.bool true)=>bD (xC1 CmpOp.Eq (xb (Y1 (YV 1 1)) (YK cN)) (YJ 2))
                 | W.d (PyData.bool false)=>aD (W.d (PyData.bool false))
                 | x=>xno
               | W.d (PyData.bool false)=>aD (W.d (PyData.bool false))
               | x=>xno)
 δ' p.2)
 YW)
 YE))))))
 (ends h):=by kernel_rfl
noncomputable def aT (d:Nat) (w0:W) (h:aA):aE T (d+1) "_law_is_deed" [w0] h =
 YP
 (YP
 (YP
 (xb
 (xb
 (xb (xb (aB 0) (YI2 "tuple")) YD)
 fun (b:Bool)=>aD !b)
 (fun c =>
 if c=true then aD true
 else
 xb (xC1 CmpOp.NotEq (xb (Y1 (aB 0)) (YK cN)) (YJ 5)) fun c =>
 if c=true then aD true
 else
 xb
 (xb
 (xb (xb (Y1 (YV 0 0)) (YF d "_law_is_time")) YD)
 fun (b:Bool)=>aD !b)
 fun c=>if c=true then aD true else xC1 CmpOp.Gt (YV 0 0) (YJ 5))
 [some w0] h)
 (YT2 false [some w0]))
 (YQ fun δ' p =>
 YP
 (YP
 (xb
 (xb
 (xb (xb (Y1 (YV 0 1)) (YF d "_law_is_time")) YD)
 fun (b:Bool)=>aD !b)
 (fun c=>if c=true then aD true else xC1 CmpOp.Is (YV 0 3) (YZ)) δ' p.2)
 (YT2 false δ'))
 (YQ fun δ' p =>
 YP
 (YP (xb (xC1 CmpOp.In (xb (YV 0 3) (YI 0)) (xb (xPl (Y2 (YS "look") (YS "lay"))) YT)) (fun c=>if c=true then aD true else xC1 CmpOp.Eq (YV 0 3) (xb (xPl (Y2 (YS "read") (YJ 8))) YT)) δ' p.2) (YT2 false δ'))
 (YQ fun δ' p =>
 YP
 (YP (xb (xC1 CmpOp.Is (YV 0 2) (YZ)) (fun c=>if c=true then aD true else xC1 CmpOp.Is (YV 0 4) (YZ)) δ' p.2) fun p =>
 if p.1=true then
 YP
 (YP
 (xb (bD (xC1 CmpOp.Is (YV 0 2) (YZ)))
 (fun (w:W) =>
 match w with
              | W.d (PyData.bool true)=>bD (xC1 CmpOp.Is (YV 0 4) (YZ))
              | W.d (PyData.bool false)=>aD (W.d (PyData.bool false))
              | x=>xno)
 δ' p.2)
 YW)
 YE
 else some (Fl.nx δ',p.2))
 (YQ fun δ' p =>
 YP
 (YP
 (xb (xb (Y1 (YV 0 2)) (YF d "_law_is_time"))
 (fun (w:W) =>
 match w with
             | W.d (PyData.bool true) =>
              xb (bD (xC1 CmpOp.Lt (YV 0 1) (YV 0 2))) fun (w:W) =>
 match w with
               | W.d (PyData.bool true)=>xb (Y2 (YV 0 3) (YV 0 4)) (YF d "_law_is_answer")
               | W.d (PyData.bool false)=>aD (W.d (PyData.bool false))
               | x=>xno
             | W.d (PyData.bool false)=>aD (W.d (PyData.bool false))
             | x=>xno)
 δ' p.2)
 YW)
 YE)))))
 (ends h):=by kernel_rfl
noncomputable def cH (d:Nat) (w0 w1:W) (h:aA):aE T (d+1) "_law_clash" [w0,w1] h =
 YP
 (YP
  (bA 2
   (aQ
    (xb
     (cS
      (xb (aB 1) fun (x:W) =>
       xb
        (xb (YJ 1) YU)
        fun (l:Option Int) =>
        xb
         (xb (YJ 3) YU)
         (YS3 x l)))
     fun p δ h=>aW (YG 0) (xC1 CmpOp.IsNot (aB 0) (YZ)) (aB 0) p.2 p.1 p.1 (bS [none] δ) h []))
   [some w0,some w1,none,none] h)
  (YQ fun δ' p =>
   YP
    (YP (xb (xC1 CmpOp.In (YV 0 1) (aB 2)) (fun c=>if c=true then aD true else xC1 CmpOp.In (YV 0 2) (aB 2)) δ' p.2) (YT2 true δ'))
    (YQ fun δ' p =>
     YP
      (YP (xC1 CmpOp.NotEq (YV 0 0) (YV 1 0) δ' p.2) (YT2 false δ'))
      (YQ fun δ' p =>
       YP
        (bA 3
         (xb (bD (xC1 CmpOp.IsNot (YV 0 2) (YZ))) fun (w:W) =>
          match w with
          | W.d (PyData.bool true)=>bD (xC1 CmpOp.Lt (YV 0 2) (YV 1 1))
          | W.d (PyData.bool false)=>aD (W.d (PyData.bool false))
          | x=>xno)
         δ' p.2)
        (YQ fun δ' p =>
         YP
          (YP
           (xb
            (xb (aB 3) fun (w:W) =>
             match w with
             | W.d (PyData.bool b)=>aD (W.d (PyData.bool !b))
             | x=>xno)
            (fun (w:W) =>
             match w with
             | W.d (PyData.bool true) =>
              xb
               (xb (bD (xC1 CmpOp.IsNot (YV 1 2) (YZ))) fun (w:W) =>
                match w with
                | W.d (PyData.bool true)=>bD (xC1 CmpOp.Lt (YV 1 2) (YV 0 1))
                | W.d (PyData.bool false)=>aD (W.d (PyData.bool false))
                | x=>xno)
               fun (w:W) =>
               match w with
               | W.d (PyData.bool b)=>aD (W.d (PyData.bool !b))
               | x=>xno
             | W.d (PyData.bool false)=>aD (W.d (PyData.bool false))
             | x=>xno)
            δ' p.2)
           YW)
          YE)))))
 (ends h):=by kernel_rfl
noncomputable def vW (d:Nat) (w0:W) (h:aA):aE T (d+1) "_law_due" [w0] h =
 YP
 (YP
 (YP (xC1 CmpOp.Gt (xb (Y1 (aB 0)) (YK cN)) (YJ 60) [some w0,none] h) fun p =>
 if p.1=true then
 YP
 (YP
 (xb (YJ 1)
 (YNg)
 [some w0,none] p.2)
 YW)
 YE
 else some (Fl.nx [some w0,none],p.2))
 (YQ fun δ' p =>
 YP
 (YP
 (xb (xb (Y1 (aB 0)) (YK cN))
 (YR)
 δ' p.2)
 fun (p:(List PyData×Option Nat)×aA) =>
 cF (YG 1)
 (fun (x:DSt) (x_1:aA) =>
 YP
 (YP
 (xb
 (xb (xb (Y1 (xb (aB 0) fun x=>xb (aB 1) (YX x))) (YF d "_law_is_deed")) YD)
 (fun (b:Bool)=>aD !b) x x_1)
 fun p =>
 if p.1=true then
 YP (YP (aB 1 x p.2) YW) YE
 else some (Fl.nx x,p.2))
 YE)
 (Prod.snd p.1) (Prod.fst p.1) (Prod.fst p.1) δ' p.2)
 (YQ fun δ' p =>
 YP
 (YP
 (xb (xb (Y1 (aB 0)) (YK cN))
 (YR)
 δ' p.2)
 fun (p:(List PyData×Option Nat)×aA) =>
 cF (YG 1)
 (fun (x:DSt) (x_1:aA) =>
 YP
 (YP
 (xC1 CmpOp.NotEq
 (aQ
 (xb
 (xb (aB 1) YR)
 fun p δ h =>
 aW (YG 0)
 (xb (xb (Y2 (xb (aB 2) fun x=>xb (aB 1) (YX x)) (xb (aB 2) fun x=>xb (aB 0) (YX x))) (YF d "_law_clash")) YD)
 (YJ 1) p.2 p.1 p.1 (bS [none,some 1,some 0] δ) h []))
 (aQ (xPl (aD []))) x x_1)
 fun p =>
 if p.1=true then
 YP (YP (aB 1 x p.2) YW) YE
 else some (Fl.nx x,p.2))
 YE)
 (Prod.snd p.1) (Prod.fst p.1) (Prod.fst p.1) δ' p.2)
 (YQ fun δ' p =>
 YP (YP (YZ δ' p.2) YW) YE))))
 (ends h):=by kernel_rfl
noncomputable def oJ (d:Nat) (w0 w1 w2:W) (h:aA):callW T (d+1) "_law_deeds" [w0,w1,w2] h =
 YP
 (YP
 (bA 3
 (fC
 (xb (fC (xPl (Y1 (aB 2)))) fun (u:W) =>
 xb (YJ 6) fun (w:W) (x:DSt) (h:aA) =>
 match u,w with
      | W.c i,W.d (PyData.int k) =>
       match h[i]? with
       | some (Cell.l xs)=>if -2^63<=k/\k < 2^63/\List.length xs*Int.toNat k<=sizeLine then some (List.flatten (List.replicate (Int.toNat k) xs),h) else none
       | x=>none
      | x,x_1=>none))
 [some w0,some w1,some w2,none,none,none,none,none,none,none,none,none,none,none,none] h)
 (YQ fun δ' p =>
 YP
 (bA 4
 (fC
 (xb (fC (xPl (Y1 (aD (W.d (PyData.bool false)))))) fun (u:W) =>
 xb (YJ 6) fun (w:W) (x:DSt) (h:aA) =>
 match u,w with
        | W.c i,W.d (PyData.int k) =>
         match h[i]? with
         | some (Cell.l xs)=>if -2^63<=k/\k < 2^63/\List.length xs*Int.toNat k<=sizeLine then some (List.flatten (List.replicate (Int.toNat k) xs),h) else none
         | x=>none
        | x,x_1=>none))
 δ' p.2)
 (YQ fun δ' p =>
 YP (bA 5 aJ7 δ' p.2) (YQ fun δ' p =>
 YP (bA 6 (fC (xPl (aD []))) δ' p.2) (YQ fun δ' p =>
 YP
 (YP
 (xb (aB 1)
 (YR)
 δ' p.2)
 fun (p:(List PyData×Option Nat)×aA) =>
 cF (YG 7)
 (fun (x:DSt) (x_1:aA) =>
 YP (bA 8 (xb (xb (Y2 (aB 0) (xb (YJ 3) fun u=>xb (xb (aB 7) (YB .Mod 40)) (YO .Add u))) (YF d "_law_cell_at")) fun u=>xb (xb (aB 7) (YB .FloorDiv 40)) (YO .Add u)) x x_1) (YQ fun δ' p =>
 YP (bA 9 (fC (xPl (Y3 (xb (aB 8) (YB .FloorDiv 2)) (xb (aB 8) (YB .Mod 2)) (xb (aB 8) fun u=>xb (xb (YJ 31) fun u=>xb (aB 7) (YO .Mult u)) (YO .Add u))))) δ' p.2) (YQ fun δ' p =>
 YP (bA 10 (xb (Y2 (aB 9) (YJ 6)) (YF d "_law_digit")) δ' p.2) (YQ fun δ' p =>
 YP
 (cB
 (xb (xb (aB 4) fun x=>xb (aB 10) (YX x)) YD)
 (fun (x:DSt) (x_2:aA) =>
 YP (bA 10 (xb (xb (aB 10) (YB .Add 1)) (YB .Mod 6)) x x_2) YE)
 1000 δ' p.2)
 (YQ fun δ' p =>
 YP (bA 11 (xb (xb (aB 3) fun x=>xb (aB 10) (YX x)) fun u=>xb (xb (Y2 (aB 9) (YJ 9)) (YF d "_law_digit")) (YO .Add u)) δ' p.2) (YQ fun δ' p =>
 YP
 (cB (xC1 CmpOp.In (aB 11) (aB 5))
 (fun (x:DSt) (x_2:aA) =>
 YP (bA 11 (xb (aB 11) (YB .Add 1)) x x_2) YE)
 1000 δ' p.2)
 (YQ fun δ' p =>
 YP
 (YP (aD (W.d (PyData.bool true)) δ' p.2) fun p =>
 YP
 (YP (aB 5 δ' p.2) fun (p_1:W×aA) =>
 YP (aB 11 δ' (p_1.2)) fun (q:W×aA) =>
 match p_1.1,q.1,p.1 with
                              | W.c j,W.d y,W.d x =>
                               match (q.2)[j]?,y with
                               | some (Cell.l xs),PyData.int k=>Option.map (fun (n:Nat)=>(δ',List.set (q.2) j (Cell.l (List.set xs n x)))) (L2.ixN (List.length xs) k)
                               | some (Cell.k kvs),x_2=>if Option.isSome (bJ y)=true/\List.length kvs < sizeLine then some (δ',List.set (q.2) j (Cell.k (jT kvs y x))) else none
                               | x,x_2=>none
                              | x,x_2,x_3=>none)
 fun (q:DSt×aA)=>some (Fl.nx (q.1),q.2))
 (YQ fun δ' p =>
 YP (bA 12 (xb (xb (aB 11) (YB .Add 1)) fun u=>xb (xb (Y2 (aB 9) (YJ 12)) (YF d "_law_digit")) (YO .Add u)) δ' p.2) (YQ fun δ' p =>
 YP
 (cB (xC1 CmpOp.In (aB 12) (aB 5))
 (fun (x:DSt) (x_2:aA) =>
 YP (bA 12 (xb (aB 12) (YB .Add 1)) x x_2) YE)
 1000 δ' p.2)
 (YQ fun δ' p =>
 YP (YP (xb (Y1 (aB 9)) ((YF d "_law_asked")) δ' p.2) fun p=>YP (bW [YG 13,YG 14] p.1 δ' p.2) fun (q:DSt×aA)=>some (Fl.nx (q.1),q.2)) (YQ fun δ' p =>
 YP
 (YP (xC1 CmpOp.Eq (xb (Y2 (aB 9) (YJ 9)) (YF d "_law_digit")) (YJ 8) δ' p.2) fun p =>
 if p.1=true then
 YP (bA 14 (xb (xPl (Y1 (YS "refused"))) YT) δ' p.2) YE
 else some (Fl.nx δ',p.2))
 (YQ fun δ' p =>
 YP
 (YP
 (xb (xC1 CmpOp.Eq (xb (Y2 (aB 9) (YJ 12)) (YF d "_law_digit")) (YJ 11))
 (fun c =>
 if c=true then
 xC1 CmpOp.Lt
 (xb
 (Y1 (aQ
 (xb (cS (aB 4)) fun p δ h =>
 aW (YG 0)
 (xb (aB 0) YD)
 (YJ 1) p.2 p.1 p.1 (bS [none] δ) h [])))
 (YK cN))
 (YJ 5)
 else aD false)
 δ' p.2)
 fun p =>
 if p.1=true then
 YP
 (YP (aD (W.d (PyData.bool true)) δ' p.2) fun p =>
 YP
 (YP (aB 4 δ' p.2) fun (p_1:W×aA) =>
 YP (aB 10 δ' (p_1.2)) fun (q:W×aA) =>
 match p_1.1,q.1,p.1 with
                                           | W.c j,W.d y,W.d x =>
                                            match (q.2)[j]?,y with
                                            | some (Cell.l xs),PyData.int k=>Option.map (fun (n:Nat)=>(δ',List.set (q.2) j (Cell.l (List.set xs n x)))) (L2.ixN (List.length xs) k)
                                            | some (Cell.k kvs),x_2=>if Option.isSome (bJ y)=true/\List.length kvs < sizeLine then some (δ',List.set (q.2) j (Cell.k (jT kvs y x))) else none
                                            | x,x_2=>none
                                           | x,x_2,x_3=>none)
 fun (q:DSt×aA)=>some (Fl.nx (q.1),q.2))
 (YQ fun δ' p =>
 YP
 (YP
 (xb (aB 6)
 ((YA (Y1 (xb (xPl (Y5 (aB 10) (aB 11) (YZ) (aB 13) (YZ))) YT))))
 δ' p.2)
 fun p=>some (Fl.nx δ',p.2))
 YE)
 else
 YP
 (YP (aD (W.d (PyData.bool true)) δ' p.2) fun p =>
 YP
 (YP (aB 5 δ' p.2) fun (p_1:W×aA) =>
 YP (aB 12 δ' (p_1.2)) fun (q:W×aA) =>
 match p_1.1,q.1,p.1 with
                                           | W.c j,W.d y,W.d x =>
                                            match (q.2)[j]?,y with
                                            | some (Cell.l xs),PyData.int k=>Option.map (fun (n:Nat)=>(δ',List.set (q.2) j (Cell.l (List.set xs n x)))) (L2.ixN (List.length xs) k)
                                            | some (Cell.k kvs),x_2=>if Option.isSome (bJ y)=true/\List.length kvs < sizeLine then some (δ',List.set (q.2) j (Cell.k (jT kvs y x))) else none
                                            | x,x_2=>none
                                           | x,x_2,x_3=>none)
 fun (q:DSt×aA)=>some (Fl.nx (q.1),q.2))
 (YQ fun δ' p =>
 YP
 (YP (xb (aB 12) ((YB .Add 1)) δ' p.2) fun p =>
 YP
 (YP (aB 3 δ' p.2) fun (p_1:W×aA) =>
 YP (aB 10 δ' (p_1.2)) fun (q:W×aA) =>
 match p_1.1,q.1,p.1 with
                                             | W.c j,W.d y,W.d x =>
                                              match (q.2)[j]?,y with
                                              | some (Cell.l xs),PyData.int k=>Option.map (fun (n:Nat)=>(δ',List.set (q.2) j (Cell.l (List.set xs n x)))) (L2.ixN (List.length xs) k)
                                              | some (Cell.k kvs),x_2=>if Option.isSome (bJ y)=true/\List.length kvs < sizeLine then some (δ',List.set (q.2) j (Cell.k (jT kvs y x))) else none
                                              | x,x_2=>none
                                             | x,x_2,x_3=>none)
 fun (q:DSt×aA)=>some (Fl.nx (q.1),q.2))
 (YQ fun δ' p =>
 YP
 (YP
 (xb (aB 6)
 ((YA (Y1 (xb (xPl (Y5 (aB 10) (aB 11) (aB 12) (aB 13) (aB 14))) YT))))
 δ' p.2)
 fun p=>some (Fl.nx δ',p.2))
 YE)))
 YE))))))))))))
 (Prod.snd p.1) (Prod.fst p.1) (Prod.fst p.1) δ' p.2)
 (YQ fun δ' p =>
 YP (YP (aB 6 δ' p.2) YW) YE))))))
 mH:=by kernel_rfl
noncomputable def nG (d:Nat) (w0 w1:W) (h:aA):callW T (d+1) "_law_spoilt" [w0,w1] h =
 YP
 (YP (bA 2 (xb (Y2 (aB 1) (xb (Y1 (aB 0)) (YK cN))) (YF d "_law_digit")) [some w0,some w1,none,none,none,none] h) (YQ fun δ' p =>
 YP (bA 3 (xb (aB 0) fun x=>xb (aB 2) (YX x)) δ' p.2) (YQ fun δ' p =>
 YP (bA 4 (xb (aB 0) fun x=>xb (xb (Y2 (aB 1) (xb (Y1 (aB 0)) (YK cN))) (YF d "_law_digit")) (YX x)) δ' p.2) (YQ fun δ' p =>
 YP
 (YP
 (xb
 (xb
 (xb (xb (Y1 (aB 3)) (YF d "_law_is_deed")) YD)
 fun (b:Bool)=>aD !b)
 (fun c =>
 if c=true then aD true
 else
 xb
 (xb (xb (Y1 (aB 4)) (YF d "_law_is_deed")) YD)
 fun (b:Bool)=>aD !b)
 δ' p.2)
 fun p =>
 if p.1=true then
 YP (YP (aB 0 δ' p.2) YW) YE
 else some (Fl.nx δ',p.2))
 (YQ fun δ' p =>
 YP
 (bA 5
 (aQ
 (xb
 (cS
 (aQ
 (xPl
 (Y5 (xb (YJ 1) YNg) (YJ 6) (aD (W.d (PyData.bool true))) (YZ) (YS "0")))))
 fun p δ h=>aW (YG 0) (aD true) (xb (Y3 (aB 1) (YJ 0) (aB 0)) (YF d "_law_put")) p.2 p.1 p.1 (bS [none,some 3] δ) h []))
 δ' p.2)
 (YQ fun δ' p =>
 YP
 (bA 5
 (xb (aB 5) fun (u:W) =>
 xb
 (aQ
 (xb
 (cS
 (aQ
 (xPl
 (Y4 (xb (YJ 1) YNg) (YZ) (aD (W.d (PyData.bool true))) (YS "1")))))
 fun p δ h=>aW (YG 0) (aD true) (xb (Y3 (aB 1) (YJ 1) (aB 0)) (YF d "_law_put")) p.2 p.1 p.1 (bS [none,some 3] δ) h []))
 (YO .Add u))
 δ' p.2)
 (YQ fun δ' p =>
 YP
 (bA 5
 (xb (aB 5) fun (u:W) =>
 xb
 (aQ
 (xb
 (cS
 (aQ
 (xPl
 (Y5 (YV 3 1) (xb (YJ 1) YNg) (aD (W.d (PyData.bool true))) (YS "9") (xb (YV 3 1) (YB .Sub 1))))))
 fun p δ h=>aW (YG 0) (aD true) (xb (Y3 (aB 1) (YJ 2) (aB 0)) (YF d "_law_put")) p.2 p.1 p.1 (bS [none,some 3] δ) h []))
 (YO .Add u))
 δ' p.2)
 (YQ fun δ' p =>
 YP (bA 5 (xb (aB 5) fun u=>xb (aQ (xb (cS (aQ (xPl (Y4 (xb (xPl (Y2 (YS "read") (YJ 8))) YT) (xb (xPl (Y2 (YS "look") (xb (xPl (Y2 (YS "read") (YJ 1))) YT))) YT) (YZ) (xb (xPl (Y2 (YS "lay") (xb (xPl (Y1 (xb (xPl (Y2 (YJ 1) (YJ 1))) YT))) YT))) YT))))) fun p δ h=>aW (YG 0) (aD true) (xb (Y3 (aB 1) (YJ 3) (aB 0)) (YF d "_law_put")) p.2 p.1 p.1 (bS [none,some 3] δ) h [])) (YO .Add u)) δ' p.2) (YQ fun δ' p =>
 YP (bA 5 (xb (aB 5) fun u=>xb (aQ (xb (cS (aQ (xPl (Y5 (xb (xPl (Y1 (YS "gone"))) YT) (YZ) (xb (xPl (Y2 (YS "each") (xb (xPl (aD [])) YT))) YT) (aD (W.d (PyData.bool true))) (aQ (xPl (Y1 (YS "done")))))))) fun p δ h=>aW (YG 0) (aD true) (xb (Y3 (aB 1) (YJ 4) (aB 0)) (YF d "_law_put")) p.2 p.1 p.1 (bS [none,some 3] δ) h [])) (YO .Add u)) δ' p.2) (YQ fun δ' p =>
 YP
 (bA 5
 (xb (aB 5) fun (u:W) =>
 xb
 (aQ
 (xPl
 (Y6 (xb (Y3 (aB 3) (YJ 2) (YZ)) (YF d "_law_put")) (xb (aB 3) fun (x:W) =>
 xb (aD none) fun (l:Option Int) =>
 xb
 (xb (YJ 4) YU)
 (YS3 x l)) (xb (aB 3) fun u=>xb (xb (xPl (Y1 (YJ 1))) YT) (YO .Add u)) (aQ
 (xb (Y1 (aB 3)) fun (ws:List W) (x:DSt) (h:aA) =>
 match ws with
                                  | [w] =>
                                   match ref h w with
                                   | some (PyData.list xs)=>some (xs,h)
                                   | some (PyData.tuple xs)=>some (xs,h)
                                   | x=>none
                                  | x=>none)) (YZ) (xb (xPl (aD [])) YT))))
 (YO .Add u))
 δ' p.2)
 (YQ fun δ' p =>
 YP (bA 5 (xb (aB 5) fun u=>xb (aQ (xPl (Y2 (xb (Y3 (aB 3) (YJ 1) (YV 4 1)) (YF d "_law_put")) (xb (Y3 (aB 3) (YJ 0) (YV 4 0)) (YF d "_law_put"))))) (YO .Add u)) δ' p.2) (YQ fun δ' p =>
 YP (bA 5 (xb (aB 5) fun u=>xb (aQ (xPl (Y1 (xb (Y3 (xb (Y3 (aB 3) (YJ 1) (xb (YV 4 1) (YB .Add 1))) (YF d "_law_put")) (YJ 0) (YV 4 0)) (YF d "_law_put"))))) (YO .Add u)) δ' p.2) (YQ fun δ' p =>
 YP (bA 5 (xb (aB 5) fun u=>xb (aQ (xPl (Y4 (xb (Y3 (aB 3) (YJ 2) (YV 4 1)) (YF d "_law_put")) (xb (Y3 (aB 3) (YJ 2) (YV 4 2)) (YF d "_law_put")) (xb (Y3 (aB 3) (YJ 1) (YV 4 2)) (YF d "_law_put")) (aB 4)))) (YO .Add u)) δ' p.2) (YQ fun δ' p =>
 YP
 (YP
 (xb
 (xb
 (xb (aB 0) fun (x:W) =>
 xb (aD none) fun (l:Option Int) =>
 xb
 (xb (aB 2) YU)
 (YS3 x l))
 fun u=>xb (aQ (xPl (Y1 (xb (aB 5) fun x=>xb (xb (Y2 (aB 1) (xb (Y1 (aB 5)) (YK cN))) (YF d "_law_digit")) (YX x))))) (YO .Add u))
 (fun (u:W) =>
 xb
 (xb (aB 0) fun (x:W) =>
 xb
 (xb (xb (aB 2) (YB .Add 1)) YU)
 fun (l:Option Int)=>xb (aD none) (YS3 x l))
 (YO .Add u))
 δ' p.2)
 YW)
 YE))))))))))))))
 mH:=by kernel_rfl
end K07
namespace K07
open PySem PySem.Spec PyProof.Rows L2 DL CI SJ
variable (d:Nat) (h:aA)
end K07
namespace K07
open PySem PySem.Spec PyProof.Rows L2 DL CI SJ
variable (d:Nat) (x:PyData) (h:aA)
@[simp] theorem fW:aE T (d+1) "is_whole" [.d x] h=some (.bool (iC x),h):=by
 cases x<;>simp [vT,isi,dF,iC]
@[simp] theorem qZ (lo hi:Int):aE T (d+2) "is_between" [.d x,.d (.int lo),.d (.int hi)] h=some (.bool (hU x lo hi),h):=by
 cases x<;>simp [qW,fW,hU,iC];split<;>simp_all;omega
@[simp] theorem oK (n:Int):aE T (d+1) "is_tuple_of" [.d x,.d (.int n)] h=some (.bool (dU x n),h):=by
 cases x<;>simp [oF,isi,dF,dU]
@[simp] theorem fD (xs:List PyData):aE T (d+2) "are_whole" [.d (.tuple xs)] h=some (.bool (xs.all iC),h):=by
 simp [tX];rw [eJ (fun x=>.bool (iC x)) 0 (fun _ _ _=>rfl)]
 ·simp [iA]
 ·intro y _ u;simp [fW]
@[simp] theorem nJ:aE T (d+3) "is_key" [.d x] h=some (.bool (jB x),h):=by
 simp [aN9,qZ,jB]
@[simp] theorem pS:aE T (d+1) "word_of" [.d x] h=some (fS x,h):=by
 cases x<;>simp [aA9,isi,dF,fS];rename_i xs;cases xs with
 | nil=>simp
 | cons y r=>cases y<;>simp [fS,isi,dF]
end K07
namespace K07
open PySem PySem.Spec PyProof.Rows L2 DL CI SJ
variable (d:Nat) (x:PyData) (h:aA)
@[simp] theorem gS (s:Str) (n:Int):aE T (d+2) "is_worded" [.d x,.d (.str s),.d (.int n)] h=some (.bool (aO x s n),h):=by
 simp [tY,pS];cases x<;>simp [fS,aO];rename_i xs;cases xs with
 | nil=>simp [fS,aO]
 | cons y r=>cases y<;>simp [fS,aO];rename_i t;cases e:(t==s)<;>simp
noncomputable def lk (s:Str):List.lookup s [(Str.ofString "read",(0:Int)),(Str.ofString "write",1),(Str.ofString "add",1),(Str.ofString "swap",2)]=nb s:=by
 unfold nb;simp only [List.lookup]
 repeat' split
 all_goals simp_all
noncomputable def dE4 (a b:PyData) (r:List PyData):cut (a::b::r) (some 2) none=r:=by
 have e1:HT.sIx (a::b::r).length 0 (some 2)=2:=by simp [HT.sIx]
 have e2:HT.sIx (a::b::r).length (a::b::r).length none=r.length+2:=by simp [HT.sIx]
 rw [cut,e1,e2];simp
noncomputable def dE5 (a:PyData) (r:List PyData):cut (a::r) (some 1) none=r:=by
 have e1:HT.sIx (a::r).length 0 (some 1)=1:=by simp [HT.sIx]
 have e2:HT.sIx (a::r).length (a::r).length none=r.length+1:=by simp [HT.sIx]
 rw [cut,e1,e2];simp
@[simp] theorem kT:aE T (d+4) "is_single" [.d x] h=some (.bool (cA x),h):=by
 simp [tZ,pS,nJ,fD,lk];cases x<;>simp [fS,cA];rename_i xs;cases xs with
 | nil=>simp [fS,cA]
 | cons y r =>
  cases y<;>simp [fS,cA];rename_i t;cases e:nb t with
  | none=>simp
  | some n =>
   have hn:0<=n:=by
    unfold nb at e
    repeat' split at e
    all_goals simp at e
    all_goals omega
   by_cases hl:(r.length:Int)+1=2+n
   ·cases r with
    | nil=>simp at hl;omega
    | cons k vs =>
     cases ek:jB k<;>simp_all [nJ,dE4,fD]
   ·simp [hl,e]
noncomputable def fX {x:PyData} {s:Str} (e:aO x s 2=true):∃ a,x=.tuple [.str s,a]:=by
 unfold aO at e;split at e
 ·rename_i t r;simp at e;obtain ⟨rfl,e⟩:=e
  match r,e with
  | [a],_=>exact ⟨a,rfl⟩
  | [],e=>simp at e
  | _::_::_,e=>simp at e;omega
 ·cases e
noncomputable def bC7 {x:PyData} {s:Str} (e:aO x s 3=true):∃ a b,x=.tuple [.str s,a,b]:=by
 unfold aO at e;split at e
 ·rename_i t r;simp at e;obtain ⟨rfl,e⟩:=e
  match r,e with
  | [a,b],_=>exact ⟨a,b,rfl⟩
  | [],e=>simp at e
  | [_],e=>simp at e
  | _::_::_::_,e=>simp at e;omega
 ·cases e
noncomputable def bC8 {x:PyData} (e:aO x "span" 3=false):iN x=false:=by
 unfold iN;split
 ·simp [aO] at e;simp [e]
 ·rfl
noncomputable def bC9 {x:PyData} (e:aO x "deal" 2=false):iO x=false:=by
 unfold iO;split
 ·simp [aO] at e;simp [e]
 ·rfl
noncomputable def bD0 {x:PyData} (e:aO x "look" 2=false):jS x=false:=by
 unfold jS;split
 ·simp [aO] at e;simp [e]
 ·rfl
noncomputable def cC3 {x:PyData} (e:aO x "lay" 2=false):sO x=false:=by
 unfold sO;split
 ·simp [aO] at e;simp [e]
 ·rfl
@[simp] theorem aB6:aE T (d+3) "is_span" [.d x] h=some (.bool (iN x),h):=by
 simp [aB0,gS,fD];cases e:aO x (Str.ofString "span") 3
 ·simp [bC8 e]
 ·obtain ⟨a,b,rfl⟩:=bC7 e;simp [dE5,fD];cases a<;>cases b<;>simp [iC,iN];rename_i i j
  by_cases h1:0<=i<;>by_cases h2:i < j<;>simp [h1,h2]
@[simp] theorem aB7:aE T (d+5) "is_deal" [.d x] h=some (.bool (iO x),h):=by
 simp [aB1,gS];cases e:aO x (Str.ofString "deal") 2
 ·simp [bC9 e]
 ·obtain ⟨a,rfl⟩:=fX e;cases a<;>simp [isi,dF,iO];rename_i ps
  by_cases h1:(1:Int)<=ps.length
  ·by_cases h2:(ps.length:Int)<=4
   ·simp [h1,h2];rw [eJ (fun x=>.bool (cA x)) 0 (fun _ _ _=>rfl)]
    ·have h3:1<=ps.length:=by omega
     have h4:ps.length<=4:=by omega
     simp [iA,h3,h4]
    ·intro y _ u;simp [kT]
   ·have h4:¬ ps.length<=4:=by omega
    simp [h1,h2,h4]
  ·have h4:¬ 1<=ps.length:=by omega
   simp [h1,h4]
@[simp] theorem aB8:aE T (d+6) "is_call" [.d x] h=some (.bool (dQ x),h):=by
 simp [aB2,kT,aB6,aB7,dQ];cases e1:cA x<;>cases e2:iN x<;>cases e3:iO x<;>simp [e1,e2,e3]
@[simp] theorem cH5:aE T (d+7) "is_look" [.d x] h=some (.bool (jS x),h):=by
 simp [aB3,gS];cases e:aO x (Str.ofString "look") 2
 ·simp [bD0 e]
 ·obtain ⟨a,rfl⟩:=fX e;simp [aB8,jS]
@[simp] theorem aC3:aE T (d+4) "is_value_pair" [.d x] h=some (.bool (fE x),h):=by
 simp [lD,oK];cases x<;>simp [dU,fE];rename_i xs
 match xs with
 | []=>simp [fE]
 | [a]=>simp [fE]
 | [a,b] =>
  simp [nJ,fW,fE];cases jB a<;>simp [fW]
 | a::b::c::r =>
  have:¬ ((r.length:Int)+1+1+1=2):=by omega
  simp [fE,this]
noncomputable def aB9 {n:Int} (h0:-5<=n) (h1:n<=100000):lA 0 n=true:=by
 unfold lA;simp;omega
noncomputable def xL {ns:List Int} {i:Nat} (hi:i < ns.length):atI (ns.map PyData.int) (i:Int)=some (.int (ns.getD i 0)):=by
 unfold atI;rw [vC (by simpa using hi)];simp [List.getD,hi]
noncomputable def aC0 (n:Nat):rng 0 n=(List.range n).map fun (i:Nat)=>PyData.int (i:Int):=by
 unfold rng;simp
noncomputable def rA (ns:List Int) (hl:ns.length<=1000):aE T (d+1) "are_rising" [.d (.list (ns.map .int))] h=some (.bool (cL7 ns),h):=by
 simp [qX];rw [if_pos (aB9 (by omega) (by omega))];simp only [Option.bind_some];rw [eJ (fun x=>.bool (decide (ns.getD (sM x).toNat 0 < ns.getD ((sM x).toNat+1) 0))) 0 (fun _ _ _=>rfl)]
 ·simp only [List.nil_append,Option.bind_some,all_map];rw [aC0,List.all_map,bA0];rfl
 ·intro y hy u;rw [aC0] at hy;obtain ⟨k,hk,rfl⟩:=List.mem_map.mp hy;have hk:=List.mem_range.mp hk;have e2:((k:Int)+1)=((k+1:Nat):Int):=rfl;simp [xL (show k < ns.length by omega),sM];rw [e2,xL (by omega)];simp
noncomputable def nK:PyData->Bool
 | .tuple [_,.tuple ps]=>decide (ps.length<=1000)
 | _=>true
noncomputable def aO1 (hs:nK x=true):aE T (d+5) "is_lay" [.d x] h=some (.bool (sO x),h):=by
 simp [aO0];cases e:aO x (Str.ofString "lay") 2
 ·simp [cC3 e]
 ·obtain ⟨a,rfl⟩:=fX e;cases a<;>simp [isi,dF,sO];rename_i ps;simp [nK] at hs
  by_cases hp:ps=[]
  ·subst hp;simp
  ·have hn:¬ ((ps.length:Int)=0):=by
    have:ps.length≠0:=fun z=>hp (List.length_eq_zero_iff.mp z);omega
   simp [hp];rw [eJ (fun x=>.bool (fE x)) 0 (fun _ _ _=>rfl)]
   ·simp only [List.nil_append,Option.bind_some,all_map];generalize ea:ps.all fE=b;cases b
    ·simp
    ·simp;rw [eJ (fun x=>.int (sM (sN x))) 0 (fun _ _ _=>rfl)]
     ·have e3:(ps.map fun x=>PyData.int (sM (sN x)))=(ps.map fun p=>sM (sN p)).map PyData.int:=by simp
      simp only [List.nil_append,Option.bind_some,e3];rw [rA _ _ _ (by simpa using hs)];simp [hp]
     ·intro y hy u;have:=List.all_eq_true.mp ea y hy;unfold fE at this;split at this
      ·rename_i k v;simp [jB,hU] at this;cases k<;>simp at this;simp [sN,sM]
      ·cases this
   ·intro y _ u;simp
@[simp] theorem aC1 (hs:nK x=true):aE T (d+8) "is_step" [.d x] h=some (.bool (qO x),h):=by
 simp [aB4,qO];cases e1:dQ x<;>cases e2:jS x<;>simp [e2,aO1 _ _ _ hs]
end K07
namespace K07
open PySem PySem.Spec PyProof.Rows L2 DL CI SJ
variable (d:Nat) (t:PyData) (h:aA)
noncomputable def aO2 {t:PyData} (e:aO t "got" 2=false):cQ (.read 0) t=false:=by
 unfold cQ;split
 ·split
  ·rename_i s v;cases es:(s==Str.ofString "got")
   ·simp
   ·simp at es;subst es;simp [aO] at e
  ·rfl
 all_goals rename_i e';cases e'
noncomputable def pU (o:One):aE T (d+3) "is_own_answer" [.d o.dat,.d t] h=some (.bool (cQ o t),h):=by
 cases o
 ·simp [bM,One.dat,PyData.eqv,cQ,szl];cases e:aO t (Str.ofString "got") 2
  ·simp;exact aO2 e
  ·obtain ⟨v,rfl⟩:=fX e;simp
 ·simp [bM,One.dat,PyData.eqv,cQ,szl]
 ·simp [bM,One.dat,PyData.eqv,cQ,szl];cases e:aO t (Str.ofString "got") 2
  ·simp;exact aO2 e
  ·obtain ⟨v,rfl⟩:=fX e;simp
 ·simp [bM,One.dat,PyData.eqv,cQ,szl];cases e:aO t (Str.ofString "yes") 1<;>simp
end K07
namespace K07
open PySem PySem.Spec PyProof.Rows L2 DL CI SJ
variable (d:Nat) (t:PyData) (h:aA)
noncomputable def cC4 {t:PyData} {lo hi:Nat} (e:aO t "all" 2=false):bU (.span lo hi) t=false:=by
 unfold bU;split
 ·rename_i e';cases e'
 ·split
  ·rename_i s xs;cases es:(s==Str.ofString "all")
   ·simp
   ·simp at es;subst es;simp [aO] at e
  ·rfl
 ·rename_i e';cases e'
noncomputable def bD1 {t:PyData} {cs:List One} (e:aO t "each" 2=false):bU (.deal cs) t=false:=by
 unfold bU;split
 ·rename_i e';cases e'
 ·rename_i e';cases e'
 ·split
  ·rename_i s xs;cases es:(s==Str.ofString "each")
   ·simp
   ·simp at es;subst es;simp [aO] at e
  ·rfl
noncomputable def zps (cs:List One) (xs:List PyData):List (PyData×PyData):=(cs.zip xs).map fun p=>(.tuple [p.1.dat,p.2],.bool (cQ p.1 p.2))
theorem bK8:∀ (cs:List One) (xs:List PyData),mD (cs.map One.dat) xs=(zps cs xs).map (·.1)
 | [],_=>by simp [mD,zps]
 | _::_,[]=>by simp [mD,zps]
 | c::cs,x::xs=>by
  have:=bK8 cs xs;unfold mD zps at this ⊢;simp at this ⊢;exact this
noncomputable def cQ3:∀ (cs:List One) (xs:List PyData),(zps cs xs).map (·.2)=((cs.zip xs).map fun p=>cQ p.1 p.2).map PyData.bool:=fun cs xs=>by simp [zps]
theorem xM:∀ (cs:List One) (xs:List PyData),((cs.zip xs).map fun p=>cQ p.1 p.2).all id=fA cs xs
 | [],_=>by simp [fA]
 | _::_,[]=>by simp [fA]
 | c::cs,x::xs=>by
  have:=xM cs xs;simp [fA] at this ⊢;rw [this]
theorem xN:∀ bs:List Bool,dJ (bs.map PyData.bool)=some bs
 | []=>rfl
 | b::r=>by simp [dJ,xN r]
noncomputable def vX (lo hi:Nat):aE T (d+4) "is_own_answer" [.d (Call.span lo hi).dat,.d t] h=some (.bool (bU (.span lo hi) t),h):=by
 simp [bM,Call.dat,PyData.eqv,szl];cases e:aO t (Str.ofString "all") 2
 ·simp;exact cC4 e
 ·obtain ⟨v,rfl⟩:=fX e;cases v<;>simp [dU,bU];rename_i xs
  by_cases hl:(xs.length:Int)=(hi:Int) - lo<;>simp [hl]
noncomputable def vY (cs:List One):aE T (d+4) "is_own_answer" [.d (Call.deal cs).dat,.d t] h=some (.bool (bU (.deal cs) t),h):=by
 simp [bM,Call.dat,PyData.eqv,szl];cases e:aO t (Str.ofString "each") 2
 ·simp;exact bD1 e
 ·obtain ⟨v,rfl⟩:=fX e;cases v<;>simp [dU,bU];rename_i xs
  by_cases hl:(xs.length:Int)=cs.length
  ·have hl':xs.length=cs.length:=by omega
   simp [hl,hl'];rw [bK8,mY (fun δ=>∃ a b,δ=[a,b]) _ _ _ ⟨_,_,rfl⟩]
   ·have hz:=xM cs xs;rw [cQ3];generalize ((cs.zip xs).map fun p=>cQ p.1 p.2)=L at hz ⊢;simp only [List.nil_append,Option.bind_some,tN,xN,Option.map_some,hz];simp
   ·intro p hp δ ⟨a,b,e⟩;subst e;obtain ⟨⟨o,x⟩,_,rfl⟩:=List.mem_map.mp hp;refine ⟨[some (.d o.dat),some (.d x)],by simp [bW,sU],⟨_,_,rfl⟩,?_⟩;simp [pU]
  ·have hl':¬ xs.length=cs.length:=by omega
   simp [hl,hl']
noncomputable def vZ (c:SJ.Call):aE T (d+4) "is_own_answer" [.d c.dat,.d t] h=some (.bool (bU c t),h):=by
 cases c with
 | one o=>exact pU (d+1) t h o
 | span lo hi=>exact vX d t h lo hi
 | deal cs=>exact vY d t h cs
end K07
namespace K07
open PySem PySem.Spec PyProof.Rows L2 DL CI SJ
variable (d:Nat) (t:PyData) (h:aA)
noncomputable def wA {c:SJ.Call} (hc:c.ok):nK c.dat=true:=by
 cases c with
 | one o=>cases o<;>simp [Call.dat,One.dat,nK]
 | span lo hi=>simp [Call.dat,nK]
 | deal cs =>
  have:=hc.1;simp [Call.dat,nK];omega
noncomputable def nM {c:SJ.Call} (hc:c.ok):aE T (d+9) "is_answer" [.d c.dat,.d t] h=some (.bool (aO t "refused" 1||bU c t),h):=by
 simp [uA,aC1 (d) c.dat h (wA hc),(hV hc).2.1,(hV hc).1];cases e:aO t (Str.ofString "refused") 1
 ·simp [vZ (d+4)]
 ·simp [(hV hc).1]
end K07
set_option maxHeartbeats 400000
namespace K07
open PySem PySem.Spec PyProof.Rows L2 DL CI SJ
abbrev Ow {α β:Type} (_:α->Option β):=Option α
noncomputable def bd {α β:Type} (f:α->Option β) (x:Ow f):Option β:=Option.bind x f
@[simp ↓ high] theorem bdi {α β:Type} (x:Option α) (f:α->Option β):x.bind f=bd f x:=rfl
@[simp high] theorem bds {α β:Type} (a:α) (f:α->Option β):bd f (some a)=f a:=id rfl
@[simp ↓ high] theorem xba {α β:Type} (x:XR α) (f:α->XR β) (δ:DSt) (h:aA):xb x f δ h=bd (fun p=>f p.1 δ p.2) (x δ h):=rfl
@[simp ↓ high] theorem xsa (i:Nat) (x:XR W) (δ:DSt) (h:aA):bA i x δ h=bd (fun p=>some (.nx (δ.set i (some p.1)),p.2)) (x δ h):=rfl
noncomputable def aO3 (d:Nat) (h:aA) (ns:List Int) (k:Nat):aE T (d+1) "_law_cell_at" [.d (.list (ns.map .int)),.d (.int k)] h=some (.int (ns.getD k 0),h):=by
 by_cases hk:k < ns.length
 ·have e:atI (ns.map PyData.int) (k:Int)=some (.int (ns.getD k 0)):=gW (by simp [hk]);simp [gR,hk,e]
 ·have e:ns.getD k 0=0:=by simp [List.getD,List.getElem?_eq_none (Nat.le_of_not_lt hk)]
  simp [gR,hk,e]
@[simp] theorem dI2 {h:aA} {i:Nat} {xs:List PyData} (hi:i < h.length):cN [.c i] (h.set i (.l xs))=some (.d (.int xs.length),h.set i (.l xs)):=by simp [cN,xF hi]
noncomputable def m1 (a:Int):Int:=(a%2147483647+1)*48271%2147483647
noncomputable def m2 (x:Int):Int:=x*(x / 1009+69621)%2147483647
noncomputable def m3 (x:Int):Int:=(x+1)*(x / 757+16807)%2147483629
noncomputable def mx (a:Int):Int:=m3 (m2 (m1 a))
@[simp] theorem cW4 (d:Nat) (h:aA) (a:Int):aE T (d+1) "_law_mixed" [.d (.int a)] h=some (.int (mx a),h):=by
 have e1:bG 1009=true:=by decide
 have e2:bG 757=true:=by decide
 have h1:=bA3 (j:=48271) (by decide) (by decide) (a%2147483647+1);have h2:gK (m1 a) (m1 a / 1009+69621)=true:=qT (by unfold m1;omega) (by unfold m1;omega) _;have h3:gK (m2 (m1 a)+1) (m2 (m1 a) / 757+16807)=true:=qT (by unfold m2;omega) (by unfold m2;omega) _;have z1:(a%2147483647+1)*48271%2147483647=m1 a:=rfl;have z2:m1 a*(m1 a / 1009+69621)%2147483647=m2 (m1 a):=rfl;have z3:(m2 (m1 a)+1)*(m2 (m1 a) / 757+16807)%2147483629=mx a:=rfl;simp [qY,e1,e2,h1,h2,h3,z1,z2,z3]
def own (s:S3):Prop:=s.2.1=0/\0 < s.1
instance (s:S3):Decidable (own s):=by unfold own;infer_instance
noncomputable def eZ (s:S3) (b:Int):Int:=if own s then s.1%b else mx (s.2.2+1) / 7%b
noncomputable def aZ (s:S3) (b:Int):S3:=if own s then (s.1 / b,s.2.1,s.2.2) else (s.1,s.2.1,mx (s.2.2+1))
noncomputable def aO4 (s:S3) {b:Int} (hb:0 < b):0<=eZ s b:=by
 unfold eZ;split<;>exact Int.emod_nonneg _ (by omega)
noncomputable def cC5 (s:S3) {b:Int} (hb:0 < b):eZ s b < b:=by
 unfold eZ;split<;>exact Int.emod_lt_of_pos _ hb
noncomputable def cJ (s:S3) {b:Int} (hb:0 < b):∃ n:Nat,eZ s b=n/\(n:Int) < b:=⟨(eZ s b).toNat,by have:=aO4 s hb;omega,by have:=aO4 s hb;have:=cC5 s hb;omega⟩
@[simp] theorem xO (d:Nat) (h:aA) {i:Nat} (s:S3) (b:Int) (hi:i < h.length) (hb:0 < b) (hb2:bG b=true):aE T (d+2) "_law_digit" [.c i,.d (.int b)] (h.set i (stL s))=some (.int (eZ s b),h.set i (stL (aZ s b))):=by
 have e1:bG 7=true:=by decide
 by_cases h4:s.2.1=0
 ·by_cases h5:0 < s.1
  ·simp [fV,stL,hi,e1,hb,hb2,h4,h5,eZ,aZ,own]
  ·simp [fV,stL,hi,e1,hb,hb2,h4,h5,eZ,aZ,own]
 ·simp [fV,stL,hi,e1,hb,hb2,h4,eZ,aZ,own]
def Nm (x:PyData):Prop:=(∃ i,x=.int i)\/x=.bool true\/x=.none\/x=.str "0"\/x=.str "1"\/x=.str "9"
noncomputable def lE (v:Int):PyData:=.tuple [.str "got",.int v]
noncomputable def wd (s:String):PyData:=.tuple [.str s]
def CA (c:SJ.Call) (a:PyData):Prop:=∃ (k:Nat) (v:Int),k < 8 /\
 ((c=.one (.read k)/\a=lE v)\/(c=.one (.write k v)/\a=wd "done")\/(c=.one (.add k 2)/\a=lE v)\/(c=.one (.swap k v 5)/\(a=wd "yes"\/a=wd "no")) \/
  (c=.span k 8/\a=.tuple [.str "all",.tuple (List.replicate (8 - k) (.int v))])\/(c=.deal [.read k,.write k 1]/\a=.tuple [.str "each",.tuple [lE v,wd "done"]]))
def wB (a:PyData):Prop:=a=wd "gone"\/a=.tuple [.str "each",.tuple []]\/a=.bool true\/a=.list [.str "done"]
def aO5 (c:PyData):Prop:=c=.tuple [.str "read",.int 8]\/c=.tuple [.str "look",.tuple [.str "read",.int 1]]\/c=.none\/c=.tuple [.str "lay",.tuple [.tuple [.int 1,.int 1]]]
def dE6 (a:PyData):Prop:=a=.none\/a=wd "refused"\/wB a\/∃ c,CA c a
def CX (c a:PyData):Prop:=(aO5 c/\dE6 a)\/∃ c',c=c'.dat/\((∃ a',CA c' a')/\(a=.none\/a=wd "refused"\/wB a)\/CA c' a)
noncomputable def aO6 {c:SJ.Call} {a:PyData} (h:CA c a):c.ok:=by
 obtain ⟨k,v,hk,h⟩:=h;rcases h with ⟨rfl,_⟩ | ⟨rfl,_⟩ | ⟨rfl,_⟩ | ⟨rfl,_⟩ | ⟨rfl,_⟩ | ⟨rfl,_⟩<;>simp [Call.ok,One.ok,One.key]<;>omega
noncomputable def cC6 {c:SJ.Call} {a:PyData} (h:CA c a):(aO a "refused" 1||bU c a)=true:=by
 obtain ⟨k,v,hk,h⟩:=h;have e8:(((8 - k:Nat):Int))=8 - (k:Int):=by omega
 have wh:(List.replicate (8 - k) (PyData.int v)).all iC=true:=by rw [List.all_eq_true];intro x hx;rw [(List.mem_replicate.mp hx).2];rfl
 rcases h with ⟨rfl,rfl⟩ | ⟨rfl,rfl⟩ | ⟨rfl,rfl⟩ | ⟨rfl,rfl | rfl⟩ | ⟨rfl,rfl⟩ | ⟨rfl,rfl⟩<;>simp [lE,wd,bU,cQ,fA,aO,iC,e8,wh]
noncomputable def cC7 (c:SJ.Call):(aO (wd "refused") "refused" 1||bU c (wd "refused"))=true:=by simp [wd,aO]
noncomputable def aO7 {c:SJ.Call} {a a':PyData} (h:CA c a') (o:a=.none\/wB a):(aO a "refused" 1||bU c a)=false:=by
 obtain ⟨k,v,hk,h⟩:=h;rcases o with rfl | rfl | rfl | rfl | rfl<;>rcases h with ⟨rfl,_⟩ | ⟨rfl,_⟩ | ⟨rfl,_⟩ | ⟨rfl,_⟩ | ⟨rfl,_⟩ | ⟨rfl,_⟩<;>simp [lE,wd,bU,cQ,fA,aO,iC]
noncomputable def xP (n:Nat) (v:Int) (m:Nat):plainsB m (List.replicate n (.int v))=true:=by
 induction n with
 | zero=>simp
 | succ n ih=>simp [List.replicate_succ,ih]
noncomputable def aO8 (x:PyData) (xs:List PyData) (h:aA):xIn (.d x) (.d (.list xs)) h=if (aI 64 (.list xs)&&aI 64 x)=true then some (xs.any fun z=>PyData.eqv z x) else none:=rfl
noncomputable def kU {c:SJ.Call} {a:PyData} (h:CA c a) (n:Nat):aI (n+3) c.dat=true/\aI (n+3) a=true:=by
 obtain ⟨k,v,hk,h⟩:=h;rcases h with ⟨rfl,rfl⟩ | ⟨rfl,rfl⟩ | ⟨rfl,rfl⟩ | ⟨rfl,rfl | rfl⟩ | ⟨rfl,rfl⟩ | ⟨rfl,rfl⟩<;>simp [lE,wd,Call.dat,One.dat,xP]
section
variable (d:Nat) (h:aA)
noncomputable def cC8 {c:SJ.Call} {a:PyData} (ca:CA c a):aE T (d+1) "_law_is_answer" [.d c.dat,.d a] h=some (.bool true,h):=by
 have hp:=(kU ca 61).2;obtain ⟨k,v,hk,ca⟩:=ca;rcases ca with ⟨rfl,rfl⟩ | ⟨rfl,rfl⟩ | ⟨rfl,rfl⟩ | ⟨rfl,rfl | rfl⟩ | ⟨rfl,rfl⟩ | ⟨rfl,rfl⟩<;>simp [lE,wd] at hp<;>simp [dG,dP,aO8,lE,wd,Call.dat,One.dat,PyData.eqv,PyData.eqvAll,isi,dF,szl,hp]
noncomputable def cC9 (c:PyData):aE T (d+1) "_law_is_answer" [.d c,.d (wd "refused")] h=some (.bool true,h):=by
 simp [dG,dP,aO8,wd,PyData.eqv,PyData.eqvAll,szl]
noncomputable def cD0 {c:SJ.Call} {a a':PyData} (ca:CA c a') (o:wB a):aE T (d+1) "_law_is_answer" [.d c.dat,.d a] h=some (.bool false,h):=by
 obtain ⟨k,v,hk,ca⟩:=ca;rcases o with rfl | rfl | rfl | rfl<;>rcases ca with ⟨rfl,_⟩ | ⟨rfl,_⟩ | ⟨rfl,_⟩ | ⟨rfl,_⟩ | ⟨rfl,_⟩ | ⟨rfl,_⟩<;>simp [dG,dP,aO8,lE,wd,Call.dat,One.dat,PyData.eqv,PyData.eqvAll,isi,dF,szl]
end
noncomputable def tmB:PyData->Bool
 | .int i=>decide (0<=i)
 | _=>false
noncomputable def bwB:PyData->Bool
 | .int i=>decide (0<=i)&&decide (i<=5)
 | _=>false
section
variable (d:Nat) (h:aA)
@[simp] theorem cH6 (x:PyData):aE T (d+2) "is_time" [.d x] h=some (.bool (tmB x),h):=by
 cases x<;>simp [aB5,iC,tmB]
@[simp] theorem cW5 (x:PyData):aE T (d+1) "_law_is_time" [.d x] h=some (.bool (tmB x),h):=by
 cases x<;>simp [nC,isi,dF,tmB]
noncomputable def kW (x:PyData):hU x 0 5=bwB x:=by cases x<;>rfl
end
noncomputable def rB {c:SJ.Call} {a:PyData} (h:CA c a):dQ c.dat=true/\∃ w r,c.dat=.tuple (.str (Str.ofString w)::r)/\w≠"look"/\w≠"lay"/\PyData.eqvAll (.str (Str.ofString w)::r) [.str "read",.int 8]=false:=by
 refine ⟨(hV (aO6 h)).1,?_⟩;obtain ⟨k,v,hk,h⟩:=h;have k8:¬ ((k:Int)=8):=by omega
 rcases h with ⟨rfl,_⟩ | ⟨rfl,_⟩ | ⟨rfl,_⟩ | ⟨rfl,_⟩ | ⟨rfl,_⟩ | ⟨rfl,_⟩<;>refine ⟨_,_,rfl,by decide,by decide,?_⟩<;>simp [Call.dat,One.dat,PyData.eqv,PyData.eqvAll,k8]
noncomputable def aO9 {c:PyData} (o:aO5 c):dQ c=false:=by
 rcases o with rfl | rfl | rfl | rfl<;>decide +kernel
def both (b:Bool) (x:PyData):Prop:=∀ (d:Nat) (h:aA),aE T (d+10) "is_deed" [.d x] h=some (.bool b,h)/\aE T (d+3) "_law_is_deed" [.d x] h=some (.bool b,h)
noncomputable def pV (x:PyData) (a b:PyData) (h:aA):xIn (.d x) (.d (.tuple [a,b])) h=if (aI 64 (.tuple [a,b])&&aI 64 x)=true then some ([a,b].any fun z=>PyData.eqv z x) else none:=rfl
noncomputable def dE7 {x0 x1 x2 c a:PyData} (e:bwB x0=false) (n:Nm x0):both false (.tuple [x0,x1,x2,c,a]):=fun d h=>by
 have l:tmB x0=false\/∃ i,x0=.int i/\5 < i/\0<=i:=by
  rcases n with ⟨i,rfl⟩ | rfl | rfl | rfl | rfl | rfl
  ·by_cases z:0<=i
   ·exact .inr ⟨i,rfl,by simp [bwB,z] at e;omega,z⟩
   ·exact .inl (by simp [tmB,z])
  all_goals exact .inl rfl
 refine ⟨by simp [bV,dU,kW,e],?_⟩;rcases l with l | ⟨i,rfl,z,z'⟩
 ·simp [aT,isi,dF,l]
 ·simp [aT,isi,dF,tmB,z,z']
noncomputable def dE8 {x0 x1 x2 c a:PyData} (e0:bwB x0=true) (e:tmB x1=false):both false (.tuple [x0,x1,x2,c,a]):=fun d h=>by
 obtain ⟨i,rfl,z1,z2⟩:∃ i,x0=.int i/\0<=i/\i<=5:=by
  cases x0<;>simp [bwB] at e0;exact ⟨_,rfl,e0⟩
 have z3:¬ 5 < i:=by omega
 exact ⟨by simp [bV,dU,kW,e0,e],by simp [aT,isi,dF,show tmB (.int i)=true by simp [tmB,z1],z3,e]⟩
noncomputable def dE9 {x0 x1 x2 c a:PyData} (e0:bwB x0=true) (e1:tmB x1=true) (o:aO5 c):both false (.tuple [x0,x1,x2,c,a]):=fun d h=>by
 obtain ⟨i,rfl,z1,z2⟩:∃ i,x0=.int i/\0<=i/\i<=5:=by
  cases x0<;>simp [bwB] at e0;exact ⟨_,rfl,e0⟩
 have z3:¬ 5 < i:=by omega
 refine ⟨by simp [bV,dU,kW,e0,e1,aO9 o],?_⟩;rcases o with rfl | rfl | rfl | rfl<;>simp [aT,isi,dF,e1,show tmB (.int i)=true by simp [tmB,z1],z3,dP,pV,PyData.eqv,PyData.eqvAll,szl,DL.isSame]
section
variable {x0 x1 a a':PyData} {c:SJ.Call}
noncomputable def uC (e0:bwB x0=true):∃ i,x0=.int i/\0<=i/\i<=5:=by
 cases x0<;>simp [bwB] at e0;exact ⟨_,rfl,e0⟩
noncomputable def bK9 (e0:tmB x1=true):∃ i,x1=.int i/\0<=i:=by
 cases x1<;>simp [tmB] at e0;exact ⟨_,rfl,e0⟩
noncomputable def aP0 {b:Bool} (e0:bwB x0=true) (e1:tmB x1=true) (ca:CA c a') (h1:xIs (.d a) (.d .none)=some b):both b (.tuple [x0,x1,.none,c.dat,a]):=fun d h=>by
 obtain ⟨hcl,w,r,ec,n1,n2,n3⟩:=rB ca;have pl:=(kU ca 61).1;obtain ⟨i,rfl,z1,z2⟩:=uC e0;have z3:¬ 5 < i:=by omega
 refine ⟨by simp [bV,dU,kW,e0,e1,hcl,h1],?_⟩;rw [ec] at pl ⊢;simp [aT,isi,dF,show tmB (.int i)=true by simp [tmB,z1],z3,e1,pV,dP,PyData.eqv,n1.symm,n2.symm,n3,pl,h1,szl]
noncomputable def cD1 {x2:PyData} (e0:bwB x0=true) (e1:tmB x1=true) (ca:CA c a') (h2:xIs (.d x2) (.d .none)=some false) (h3:tmB x2=false) {b:Bool} (h1:xIs (.d a) (.d .none)=some b):both false (.tuple [x0,x1,x2,c.dat,a]):=fun d h=>by
 obtain ⟨hcl,w,r,ec,n1,n2,n3⟩:=rB ca;have pl:=(kU ca 61).1;obtain ⟨i,rfl,z1,z2⟩:=uC e0;have z3:¬ 5 < i:=by omega
 refine ⟨by simp [bV,dU,kW,e0,e1,hcl,h2,h3],?_⟩;rw [ec] at pl ⊢;cases b<;>simp [aT,isi,dF,show tmB (.int i)=true by simp [tmB,z1],z3,e1,pV,dP,PyData.eqv,n1.symm,n2.symm,n3,pl,h1,h2,h3,szl]
noncomputable def cD2 {t:Int} (e0:bwB x0=true) (e1:tmB x1=true) (ca:CA c a'):both false (.tuple [x0,x1,.int t,c.dat,.none]):=fun d h=>by
 obtain ⟨hcl,w,r,ec,n1,n2,n3⟩:=rB ca;have pl:=(kU ca 61).1;obtain ⟨i,rfl,z1,z2⟩:=uC e0;obtain ⟨b,rfl,z4⟩:=bK9 e1;have z3:¬ 5 < i:=by omega
 have q:∀ h,aE T (d+9) "is_answer" [.d c.dat,.d .none] h=some (.bool false,h):=fun h=>by rw [nM d .none h (aO6 ca),aO7 ca (.inl rfl)]
 refine ⟨?_,?_⟩
 ·by_cases y1:0<=t<;>by_cases y2:b < t<;>simp [bV,dU,kW,e0,e1,hcl,tmB,y1,y2,z4,q]
 ·rw [ec] at pl ⊢;simp [aT,isi,dF,tmB,z1,z3,z4,pV,dP,PyData.eqv,n1.symm,n2.symm,n3,pl,szl]
noncomputable def wC {t b:Int} {r:Bool} (e0:bwB x0=true) (e1:0<=b) (ca:CA c a') (h1:xIs (.d a) (.d .none)=some false) (q1:(aO a "refused" 1||bU c a)=r) (q2:∀ d h,aE T (d+1) "_law_is_answer" [.d c.dat,.d a] h=some (.bool r,h)):both (decide (b < t)&&r) (.tuple [x0,.int b,.int t,c.dat,a]):=fun d h=>by
 obtain ⟨hcl,w,l,ec,n1,n2,n3⟩:=rB ca;have pl:=(kU ca 61).1;obtain ⟨i,rfl,z1,z2⟩:=uC e0;have z3:¬ 5 < i:=by omega
 have q:∀ h,aE T (d+9) "is_answer" [.d c.dat,.d a] h=some (.bool r,h):=fun h=>by rw [nM d a h (aO6 ca),q1]
 have q2':=q2 (d+1);refine ⟨?_,?_⟩
 ·by_cases y2:b < t
  ·have y1:0<=t:=by omega
   simp [bV,dU,kW,e0,e1,hcl,tmB,y1,y2,q]
  ·by_cases y1:0<=t<;>simp [bV,dU,kW,e0,e1,hcl,tmB,y1,y2,q]
 ·rw [ec] at pl q2' ⊢
  by_cases y2:b < t
  ·have y1:0<=t:=by omega
   simp [aT,isi,dF,tmB,z1,z3,e1,pV,dP,PyData.eqv,n1.symm,n2.symm,n3,pl,h1,y1,y2,q2',szl]
  ·by_cases y1:0<=t<;>simp [aT,isi,dF,tmB,z1,z3,e1,pV,dP,PyData.eqv,n1.symm,n2.symm,n3,pl,h1,y1,y2,szl]
end
structure De where
 hd:Int
 b:Int
 e:Option Int
 c:PyData
 a:PyData
noncomputable def bR:Option Int->PyData
 | none=>.none
 | some t=>.int t
@[simp] theorem nO:bR none=.none:=rfl
@[simp] theorem gT (t:Int):bR (some t)=.int t:=rfl
noncomputable def De.dat (x:De):PyData:=.tuple [.int x.hd,.int x.b,bR x.e,x.c,x.a]
structure De.ok (x:De):Prop where
 h0:0<=x.hd
 h5:x.hd<=5
 b0:0<=x.b
 ca:∃ c a',x.c=c.dat/\CA c a'/\((x.e=none/\x.a=.none)\/∃ t,x.e=some t/\x.b < t/\(x.a=wd "refused"\/CA c x.a))
def Nd (x:PyData):Prop:=x=.none\/(∃ ys,x=.tuple ys/\ys.length≠5/\plainsB 62 ys=true)\/∃ ys,x=.list ys/\plainsB 62 ys=true
def Sh (x:PyData):Prop:=Nd x\/∃ x0 x1 x2 c a,x=.tuple [x0,x1,x2,c,a]/\Nm x0/\Nm x1/\Nm x2/\CX c a
noncomputable def cQ4 {x:PyData} (n:Nd x):both false x:=fun d h=>by
 rcases n with rfl | ⟨ys,rfl,hl,_⟩ | ⟨ys,rfl,_⟩
 ·exact ⟨by simp [bV,dU],by simp [aT,isi,dF]⟩
 ·have hl':¬ ((ys.length:Int)=5):=by omega
  exact ⟨by simp [bV,dU,hl'],by simp [aT,isi,dF,hl']⟩
 ·exact ⟨by simp [bV,dU],by simp [aT,isi,dF]⟩
noncomputable def xQ {x:PyData} (n:Nm x) (k:Nat):aI k x=true:=by
 rcases n with ⟨i,rfl⟩ | rfl | rfl | rfl | rfl | rfl<;>cases k<;>rfl
noncomputable def nm_is {x:PyData} (n:Nm x):(x=.none/\xIs (.d x) (.d .none)=some true)\/(xIs (.d x) (.d .none)=some false/\((∃ i,x=.int i)\/tmB x=false)):=by
 rcases n with ⟨i,rfl⟩ | rfl | rfl | rfl | rfl | rfl
 ·exact .inr ⟨rfl,.inl ⟨i,rfl⟩⟩
 ·exact .inr ⟨rfl,.inr rfl⟩
 ·exact .inl ⟨rfl,rfl⟩
 all_goals exact .inr ⟨rfl,.inr rfl⟩
noncomputable def wD {a:PyData} (o:wB a):xIs (.d a) (.d .none)=some false:=by
 rcases o with rfl | rfl | rfl | rfl<;>rfl
noncomputable def aP1 {c:SJ.Call} {a:PyData} (ca:CA c a):xIs (.d a) (.d .none)=some false:=by
 obtain ⟨k,v,hk,ca⟩:=ca;rcases ca with ⟨rfl,rfl⟩ | ⟨rfl,rfl⟩ | ⟨rfl,rfl⟩ | ⟨rfl,rfl | rfl⟩ | ⟨rfl,rfl⟩ | ⟨rfl,rfl⟩<;>rfl
noncomputable def aP2 {a:PyData} (o:wB a) (n:Nat):aI (n+2) a=true:=by
 rcases o with rfl | rfl | rfl | rfl<;>simp [wd]
noncomputable def bD2 {a:PyData} (o:aO5 a) (n:Nat):aI (n+4) a=true:=by
 rcases o with rfl | rfl | rfl | rfl<;>simp
noncomputable def bL0 {c a:PyData} (x:CX c a) (n:Nat):aI (n+4) c=true/\aI (n+4) a=true:=by
 have r:aI (n+4) (wd "refused")=true:=by simp [wd]
 have z:aI (n+4) PyData.none=true:=rfl;rcases x with ⟨o,q⟩ | ⟨c',rfl,⟨⟨a',ca⟩,q⟩ | ca⟩
 ·refine ⟨bD2 o n,?_⟩;rcases q with rfl | rfl | q | ⟨_,ca⟩
  ·exact z
  ·exact r
  ·exact aP2 q (n+2)
  ·exact (kU ca (n+1)).2
 ·refine ⟨(kU ca (n+1)).1,?_⟩;rcases q with rfl | rfl | q
  ·exact z
  ·exact r
  ·exact aP2 q (n+2)
 ·exact kU ca (n+1)
noncomputable def cQ5 {x:PyData} (s:Sh x):aI 63 x=true:=by
 rcases s with (rfl | ⟨ys,rfl,_,hp⟩ | ⟨ys,rfl,hp⟩) | ⟨x0,x1,x2,c,a,rfl,n0,n1,n2,cx⟩
 ·rfl
 ·simpa using hp
 ·simpa using hp
 ·have q:=bL0 cx 58;simp [xQ n0,xQ n1,xQ n2,q.1,q.2]
noncomputable def wE {x:PyData} (s:Sh x):∃ b,both b x/\(b=true->∃ y:De,x=y.dat/\y.ok):=by
 rcases s with n | ⟨x0,x1,x2,c,a,rfl,n0,n1,n2,cx⟩
 ·exact ⟨false,cQ4 n,fun z=>nomatch z⟩
 cases e0:bwB x0 with
 | false=>exact ⟨false,dE7 e0 n0,fun z=>nomatch z⟩
 | true =>
 cases e1:tmB x1 with
 | false=>exact ⟨false,dE8 e0 e1,fun z=>nomatch z⟩
 | true =>
 obtain ⟨i,rfl,i0,i5⟩:=uC e0;obtain ⟨b,rfl,b0⟩:=bK9 e1;rcases cx with ⟨o,_⟩ | ⟨c',rfl,cx⟩
 ·exact ⟨false,dE9 e0 e1 o,fun z=>nomatch z⟩
 obtain ⟨a',ca⟩:∃ a',CA c' a':=cx.elim (·.1) fun z=>⟨_,z⟩;rcases nm_is n2 with ⟨rfl,_⟩ | ⟨h2,⟨t,rfl⟩ | h3⟩
 ·have fin:xIs (.d a) (.d .none)=some false->∃ b',both b' (.tuple [.int i,.int b,.none,c'.dat,a])/\(b'=true->∃ y:De,PyData.tuple [.int i,.int b,.none,c'.dat,a]=y.dat/\y.ok):=fun h=>⟨false,aP0 e0 e1 ca h,fun z=>nomatch z⟩;rcases cx with ⟨_,rfl | rfl | q⟩ | ca2
  ·exact ⟨true,aP0 e0 e1 ca rfl,fun _=>⟨⟨i,b,none,c'.dat,.none⟩,rfl,i0,i5,b0,c',a',rfl,ca,.inl ⟨rfl,rfl⟩⟩⟩
  ·exact fin rfl
  ·exact fin (wD q)
  ·exact fin (aP1 ca2)
 ·rcases cx with ⟨_,rfl | rfl | q⟩ | ca2
  ·exact ⟨false,cD2 e0 e1 ca,fun z=>nomatch z⟩
  ·refine ⟨_,wC e0 b0 ca rfl (cC7 c') fun d h=>cC9 d h _,fun z=>⟨⟨i,b,some t,c'.dat,wd "refused"⟩,rfl,i0,i5,b0,c',a',rfl,ca,.inr ⟨t,rfl,by simpa using z,.inl rfl⟩⟩⟩
  ·exact ⟨_,wC e0 b0 ca (wD q) (aO7 ca (.inr q)) fun d h=>cD0 d h ca q,fun z=>by simp at z⟩
  ·refine ⟨_,wC e0 b0 ca (aP1 ca2) (cC6 ca2) fun d h=>cC8 d h ca2,fun z=>⟨⟨i,b,some t,c'.dat,a⟩,rfl,i0,i5,b0,c',a,rfl,ca2,.inr ⟨t,rfl,by simpa using z,.inr ca2⟩⟩⟩
 ·obtain ⟨b',h1⟩:∃ b',xIs (.d a) (.d .none)=some b':=by
   rcases cx with ⟨_,rfl | rfl | q⟩ | ca2
   ·exact ⟨_,rfl⟩
   ·exact ⟨_,rfl⟩
   ·exact ⟨_,wD q⟩
   ·exact ⟨_,aP1 ca2⟩
  exact ⟨false,cD1 e0 e1 ca h2 h3 h1,fun z=>nomatch z⟩
open Classical in
noncomputable def dd (x:PyData):Bool:=if s:Sh x then (wE s).choose else false
noncomputable def rC {x:PyData} (s:Sh x):both (dd x) x:=by
 unfold dd;rw [dif_pos s];exact (wE s).choose_spec.1
noncomputable def xR {x:PyData} (s:Sh x) (h:dd x=true):∃ y:De,x=y.dat/\y.ok:=by
 unfold dd at h;rw [dif_pos s] at h;exact (wE s).choose_spec.2 h
variable (d:Nat) (h:aA)
noncomputable def De.times (x:De):List Int:=match x.e with
 | none=>[x.b]
 | some t=>[x.b,t]
noncomputable def eb (x:De) (t:Int):Bool:=match x.e with
 | none=>false
 | some u=>decide (u < t)
noncomputable def aP3 (x y:De):Bool:=x.times.any fun t=>y.times.any fun u=>decide (u=t)
noncomputable def tog (x y:De):Bool:=!aP3 x y&&(decide (x.hd≠y.hd)||(eb x y.b||eb y x.b))
theorem rD {α:Type} {g:XG} {tt:XR Bool} {te:XR W} {all:List PyData} {h:aA} (F:α->PyData) (p:α->Bool) (f:α->PyData) (I:DSt->Prop):∀ (qs:List α) (δ:DSt) (ac:List PyData),I δ ->
  (∀ q∈qs,∀ δ,I δ->∃ δ',g (.d (F q)) δ h=some (δ',h)/\I δ'/\tt δ' h=some (p q,h)/\(p q=true->te δ' h=some (.d (f q),h)))->aW g tt te none all (qs.map F) δ h ac=some (ac++(qs.filter p).map f,h)
 | [],δ,ac,_,_=>by simp [aW]
 | x::r,δ,ac,i,hx=>by
  obtain ⟨δ',e1,i',e2,e3⟩:=hx x List.mem_cons_self δ i;have ih:=fun ac=>rD (all:=all) F p f I r δ' ac i' fun y hy=>hx y (List.mem_cons_of_mem _ hy);rw [List.map_cons,aW,fN,if_pos rfl,e1];simp only [bs,e2];cases hp:p x with
  | true=>rw [if_pos rfl,e3 hp];simp only [bs];rw [ih];simp [hp]
  | false=>rw [if_neg (by simp)];rw [ih];simp [hp]
noncomputable def kX {α:Type} (l:List α):l.filter (fun _=>true)=l:=List.filter_eq_self.mpr fun _ _=>rfl
noncomputable def nQ (x:De):aE T (d+1) "times_of" [.d x.dat] h=some (.list (x.times.map .int),h):=by
 obtain ⟨hd,b,e,c,a⟩:=x;cases e<;>simp [vU,De.dat,De.times,szl,aQ]
@[simp] theorem aQ4 (x:De) (t:Int):aE T (d+1) "ended_below" [.d x.dat,.d (.int t)] h=some (.bool (eb x t),h):=by
 obtain ⟨hd,b,e,c,a⟩:=x;cases e<;>simp [oG,De.dat,eb]
noncomputable def nR (ns:List Int) (m:Nat):plainsB m (ns.map .int)=true:=by
 induction ns with
 | nil=>simp
 | cons n r ih=>simp [ih]
noncomputable def rE (t:Int) (ns:List Int):xIn (.d (.int t)) (.d (.list (ns.map .int))) h=some (ns.any fun u=>decide (u=t)):=by
 rw [aO8,if_pos (by simp [nR]),List.any_map]
 congr 2
noncomputable def cD3 (ns:List Int):xIn (.d .none) (.d (.list (ns.map .int))) h=some false:=by
 rw [aO8,if_pos (by simp [nR]),List.any_map,List.any_eq_false.mpr];intro u _;simp [PyData.eqv]
noncomputable def ix0 (x:De) (h:aA):xIx (.d x.dat) (.d (.int 0)) h=some (.d (.int x.hd),h):=by simp [De.dat]
noncomputable def ix1 (x:De) (h:aA):xIx (.d x.dat) (.d (.int 1)) h=some (.d (.int x.b),h):=by simp [De.dat]
noncomputable def ix2 (x:De) (h:aA):xIx (.d x.dat) (.d (.int 2)) h=some (.d (bR x.e),h):=by simp [De.dat]
noncomputable def oM (x y:De):aE T (d+2) "go_together" [.d x.dat,.d y.dat] h=some (.bool (tog x y),h):=by
 have hx:=fun h=>nQ d h x;have hy:=fun h=>nQ d h y;have hc:∀ {te:XR W} all,(∀ t,te [some (.d (.int t)),some (.d y.dat)] h=some (.d (.bool (y.times.any fun u=>decide (u=t))),h))->aW (fun (w:W) (δ:DSt) (h:aA)=>some (List.set δ 0 (some w),h)) (aD true) te none all (x.times.map .int) [none,some (.d y.dat)] h []=some (x.times.map fun t=>.bool (y.times.any fun u=>decide (u=t)),h):=fun {te} all hte=>by
  rw [rD PyData.int (fun _=>true) (fun t=>.bool (y.times.any fun u=>decide (u=t))) (fun δ=>∃ u,δ=[u,some (.d y.dat)]) x.times _ _ ⟨_,rfl⟩,kX,List.nil_append];rintro t _ δ ⟨u,rfl⟩;exact ⟨[some (.d (.int t)),some (.d y.dat)],by simp,⟨_,rfl⟩,rfl,fun _=>hte t⟩
 have hb:dJ (x.times.map fun t=>PyData.bool (y.times.any fun u=>decide (u=t)))=some (x.times.map fun t=>y.times.any fun u=>decide (u=t)):=by
  generalize x.times=ts;induction ts with
  | nil=>rfl
  | cons t r ih=>rw [List.map_cons,dJ,ih];rfl
 have hA:∀ h,zO [.d (.list (x.times.map fun t=>PyData.bool (y.times.any fun u=>decide (u=t))))] h=some (.d (.bool (aP3 x y)),h):=fun h=>by
  rw [bK7,hb,Option.map_some,List.any_map];rfl
 simp [oH,hx,hy,hc,rE,hA,aQ,ix0,ix1,-bK7,-List.any_eq_true];unfold tog;cases aP3 x y
 ·by_cases q:x.hd=y.hd
  ·cases q1:eb x y.b<;>simp [q,q1,ix0,ix1]
  ·simp [q,ix0,ix1]
 ·simp
noncomputable def bD3 (x y:De):aE T (d+1) "_law_clash" [.d x.dat,.d y.dat] h=some (.bool (!tog x y),h):=by
 have hc:∀ {te:XR W} {tt:XR Bool} all δ,(∀ w,te [some (.d w)] h=some (.d w,h))->(∀ t:Int,tt [some (.d (.int t))] h=some (true,h))->tt [some (.d .none)] h=some (false,h)->aW (fun (w:W) (δ:DSt) (h:aA)=>some (List.set δ 0 (some w),h)) tt te none all [PyData.int y.b,bR y.e] [δ] h []=some (y.times.map .int,h):=fun {te tt} all δ h1 h2 h3=>by
  cases e:y.e<;>simp [aW,h1,h2,h3,De.times,e]
 have hcut:xSl (.d y.dat) (some 1) (some 3) h=some (.d (.tuple [.int y.b,bR y.e]),h):=by
  show some (W.d (.tuple (cut [.int y.hd,.int y.b,bR y.e,y.c,y.a] (some 1) (some 3))),h)=_;rfl
 have e2:xIn (.d (bR x.e)) (.d (.list (y.times.map .int))) h=some (match x.e with | none=>false | some t=>y.times.any fun u=>decide (u=t)):=by
  cases x.e with
  | none=>exact cD3 h _
  | some t=>exact rE h t _
 have hm:aP3 x y=((y.times.any fun u=>decide (u=x.b))||(match x.e with | none=>false | some t=>y.times.any fun u=>decide (u=t))):=by
  unfold aP3;cases e:x.e<;>simp [De.times,e]
 have e1:=rE h x.b y.times;generalize (y.times.any fun u=>decide (u=x.b))=p at e1 hm;generalize (match x.e with | none=>false | some t=>y.times.any fun u=>decide (u=t))=q at e2 hm;have ht:tog x y=(!(p||q)&&(decide (x.hd≠y.hd)||(eb x y.b||eb y x.b))):=by unfold tog;rw [hm]
 cases p with
 | true=>simp [cH,hcut,hc,aQ,ix1,e1,ht]
 | false =>
  cases q with
  | true=>simp [cH,hcut,hc,aQ,ix1,ix2,e1,e2,ht]
  | false =>
   by_cases hh:x.hd=y.hd
   ·rw [ht];cases hx:x.e with
    | none =>
     rw [hx] at e2;cases hy:y.e<;>rw [hy] at hc hcut<;>simp only [nO,gT] at hc hcut e2<;>simp [cH,hcut,hc,aQ,ix0,ix1,ix2,e1,e2,hh,hx,hy,eb]
    | some t =>
     rw [hx] at e2
     by_cases q1:t < y.b
     ·simp only [gT] at e2;simp [cH,hcut,hc,aQ,ix0,ix1,ix2,e1,e2,hh,hx,q1,eb]
     ·cases hy:y.e<;>rw [hy] at hc hcut<;>simp only [nO,gT] at hc hcut e2<;>simp [cH,hcut,hc,aQ,ix0,ix1,ix2,e1,e2,hh,hx,hy,q1,eb]
   ·simp [cH,hcut,hc,aQ,ix0,ix1,ix2,e1,e2,hh,ht]
end K07
namespace K07
open PySem PySem.Spec PyProof.Rows L2 DL CI SJ
open Classical in
noncomputable def uE (x:PyData):De:=if q:∃ y:De,x=y.dat/\y.ok then q.choose else ⟨0,0,none,.none,.none⟩
noncomputable def bL1 {x:PyData} (s:Sh x) (h:dd x=true):x=(uE x).dat:=by
 unfold uE;rw [dif_pos (xR s h)];exact (xR s h).choose_spec.1
noncomputable def tg (x y:PyData):Bool:=tog (uE x) (uE y)
noncomputable def f1 (xs:List PyData) (i:Nat):Option Nat:=if dd (xs.getD i .none)=true then none else some i
noncomputable def cl (xs:List PyData) (i:Nat):Bool:=(List.range i).all fun k=>tg (xs.getD i .none) (xs.getD k .none)
noncomputable def f2 (xs:List PyData) (i:Nat):Option Nat:=if cl xs i=true then none else some i
noncomputable def oN (xs:List PyData):Option Nat:=(List.range xs.length).findSome? (f1 xs)
noncomputable def wF (xs:List PyData):Option Nat:=(List.range xs.length).findSome? (f2 xs)
noncomputable def due (xs:List PyData):Option Int:=if 60 < xs.length then some (-1) else match oN xs with
 | some i=>some i
 | none=>(wF xs).map fun (i:Nat)=>(i:Int)
noncomputable def jH {xs:List PyData} (h:oN xs=none) {i:Nat} (hi:i < xs.length):dd (xs.getD i .none)=true:=by
 have:=List.findSome?_eq_none_iff.mp h i (List.mem_range.mpr hi);unfold f1 at this;split at this
 ·assumption
 ·cases this
noncomputable def cD {xs:List PyData} {i:Nat} (hi:i < xs.length):xs.getD i .none∈xs:=by
 rw [List.getD_eq_getElem?_getD,List.getElem?_eq_getElem hi];exact List.getElem_mem hi
noncomputable def go_of {x y:PyData} (sx:Sh x) (sy:Sh y) (hx:dd x=true) (hy:dd y=true) (d:Nat) (h:aA):aE T (d+2) "go_together" [.d x,.d y] h=some (.bool (tg x y),h)/\aE T (d+1) "_law_clash" [.d x,.d y] h=some (.bool (!tg x y),h):=by
 have e1:=oM d h (uE x) (uE y);have e2:=bD3 d h (uE x) (uE y);rw [<- bL1 sx hx,<- bL1 sy hy] at e1 e2;exact ⟨e1,e2⟩
noncomputable def bD4 (n:Nat) (hn:n<=100):lA 0 (n:Int)=true:=tP (i:=0) (j:=n) (by omega) hn
noncomputable def bD5 (n:Nat) (h:aA):xEq (.d (.list (List.replicate n (.int 1)))) (.d (.list [])) h=some (decide (n=0)):=by
 rw [dP,if_pos (by simp [xP])];cases n<;>simp [PyData.eqv,PyData.eqvAll,List.replicate_succ]
noncomputable def xS {α β γ:Type} {g:XG} {tb:XS} {all:List PyData} {h:aA} {F:α->PyData} (fd:α->Option β) (wd:β->W) (I:DSt->Prop) (qs:List α) {δ:DSt} {f:Fl×aA->Option (Fl×aA)} {e:Fl×aA->Option γ} {R:Option γ} (hi:I δ)
  (k1:∀ b,qs.findSome? fd=some b->(f (.rt (wd b),h)).bind e=R) (k2:qs.findSome? fd=none->∀ δ',I δ'->(f (.nx δ',h)).bind e=R)
  (ht:∀ q∈qs,∀ δ,I δ->∃ δ1,g (.d (F q)) δ h=some (δ1,h)/\((∃ b,fd q=some b/\tb δ1 h=some (.rt (wd b),h))\/(fd q=none/\∃ δ2,tb δ1 h=some (.nx δ2,h)/\I δ2))) :
  ((cF g tb none all (qs.map F) δ h).bind f).bind e=R:=by
 rcases forX_find (all:=all) F fd wd I qs hi ht with ⟨b,e1,e2⟩ | ⟨e1,δ',i,e2⟩
 ·rw [e2];exact k1 b e1
 ·rw [e2];exact k2 e1 δ' i
noncomputable def cD4 {γ:Type} {x:Option (Fl×aA)} {f:Fl×aA->Option (Fl×aA)} {e:Fl×aA->Option γ} {R:Option γ} (δ':DSt) (h':aA) (e1:x=some (.nx δ',h')) (k:(f (.nx δ',h')).bind e=R):(x.bind f).bind e=R:=by
 rw [e1];exact k
noncomputable def cQ6 {xs:List PyData} (hs:∀ x∈xs,Sh x) (hl:xs.length<=62) (w:W) (d:Nat) (h:aA) (hL:cN [w] h=some (.d (.int xs.length),h)) (hI:∀ i:Nat,i < xs.length->xIx w (.d (.int i)) h=some (.d (xs.getD i .none),h)) :
  aE T (d+4) "_law_due" [w] h=some (bR (due xs),h):=by
 have g1:∀ x∈xs,aE T (d+3) "_law_is_deed" [.d x] h=some (.bool (dd x),h):=fun x hx=>(rC (hs x hx) d h).2;have g2:∀ x∈xs,∀ y∈xs,dd x=true->dd y=true->aE T (d+3) "_law_clash" [.d x,.d y] h=some (.bool (!tg x y),h):=fun x hx y hy ex ey=>(go_of (hs x hx) (hs y hy) ex ey (d+2) h).2;have rl:=bD4 xs.length (by omega);simp only [vW,bB4,bB5,oB,bB6,bC1,bB8,bB9,oE,bC0,bC3,aN7,bC4,bC2,bB7,xK,bC5,bC6];generalize aE T (d+3)=f at *
 by_cases h6:60 < xs.length
 ·have h6':(60:Int) < xs.length:=by omega
  simp [hL,h6',due,h6]
 have h6':¬ (60:Int) < xs.length:=by omega
 refine cD4 [some w,none] h (by simp [hL,h6']) ?_;dsimp only;simp only [iH,cY,dN,List.getElem?_cons_zero,bs,hL,rl,if_true,Int.sub_zero,Int.toNat_natCast,aC0];refine xS (f1 xs) (fun i=>.d (.int i)) (fun δ=>∃ u,δ=[some w,u]) (List.range xs.length) ⟨_,rfl⟩ ?_ ?_ ?_
 ·intro b hb;have:due xs=some (b:Int):=by unfold due;rw [if_neg h6,show oN xs=some b from hb]
  simp [this]
 ·rintro hn δ' ⟨u,rfl⟩;have hn:oN xs=none:=hn;dsimp only;simp only [iH,cY,dN,List.getElem?_cons_zero,bs,hL,rl,if_true,Int.sub_zero,Int.toNat_natCast,aC0];have ed:due xs=(wF xs).map fun (i:Nat)=>(i:Int):=by unfold due;rw [if_neg h6,hn]
  refine xS (f2 xs) (fun i=>.d (.int i)) (fun δ=>∃ u,δ=[some w,u]) (List.range xs.length) ⟨_,rfl⟩ ?_ ?_ ?_
  ·intro b hb;have:due xs=some (b:Int):=by rw [ed,show wF xs=some b from hb];rfl
   simp [this]
  ·rintro hn2 δ' ⟨u,rfl⟩;have:due xs=none:=by rw [ed,show wF xs=none from hn2];rfl
   simp [this]
  ·rintro q hq δ ⟨u,rfl⟩;have hq:=List.mem_range.mp hq;refine ⟨[some w,some (.d (.int q))],by simp,?_⟩;have hI':=hI q hq;have hx:=cD hq;have ex:=jH hn hq;have hcl:(((List.range q).filter fun k=>!tg (xs.getD q .none) (xs.getD k .none)).length=0) ↔ cl xs q=true:=by
    unfold cl;rw [List.length_eq_zero_iff,List.filter_eq_nil_iff,List.all_eq_true];exact ⟨fun z k hk=>by have:=z k hk;simpa using this,fun z k hk=>by simp only [z k hk];decide⟩
   have hk2:∀ k:Nat,k < q->f "_law_clash" [.d (xs.getD q .none),.d (xs.getD k .none)] h=some (.bool (!tg (xs.getD q .none) (xs.getD k .none)),h):=fun k hk=>g2 _ hx _ (cD (by omega)) ex (jH hn (by omega));have hIk:∀ k:Nat,k < q->xIx w (.d (.int k)) h=some (.d (xs.getD k .none),h):=fun k hk=>hI k (by omega);unfold f2;generalize xs.getD q .none=x at *;have rq:=bD4 q (by omega);have hc:∀ {tt:XR Bool} {te:XR W} (all:List PyData),(∀ k:Nat,k < q->tt [some (.d (.int k)),some (.d (.int q)),some w] h=some (!tg x (xs.getD k .none),h))->(∀ k:Nat,te [some (.d (.int k)),some (.d (.int q)),some w] h=some (.d (.int 1),h)) ->
     aW (fun (w:W) (δ:DSt) (h:aA)=>some (List.set δ 0 (some w),h)) tt te none all ((List.range q).map fun (i:Nat)=>PyData.int i) [none,some (.d (.int q)),some w] h []=some (List.replicate ((List.range q).filter fun k=>!tg x (xs.getD k .none)).length (.int 1),h):=fun {tt te} all h1 h2=>by
    rw [rD (fun i:Nat=>PyData.int i) (fun k=>!tg x (xs.getD k .none)) (fun _=>.int 1) (fun δ=>∃ u,δ=[u,some (.d (.int q)),some w]) (List.range q) _ _ ⟨_,rfl⟩,List.nil_append,List.map_const'];rintro k hk δ ⟨u,rfl⟩;exact ⟨[some (.d (.int k)),some (.d (.int q)),some w],by simp,⟨_,rfl⟩,h1 k (List.mem_range.mp hk),fun _=>h2 k⟩
   have ho:=bD5 ((List.range q).filter fun k=>!tg x (xs.getD k .none)).length h;generalize hN:((List.range q).filter fun k=>!tg x (xs.getD k .none)).length=N at *
   by_cases hz:N=0
   ·refine .inr ⟨if_pos (hcl.mp hz),[some w,some (.d (.int q))],?_,⟨_,rfl⟩⟩;rw [decide_eq_true hz] at ho;simp only [iH,cY,dN,aQ,List.getElem?_cons_zero,List.getElem?_cons_succ,rq,if_true,Int.sub_zero,Int.toNat_natCast,aC0,bs];simp [rq];rw [hc _ (fun k hk=>by simp [hI',hIk k hk,hk2 k hk,-List.getD_eq_getElem?_getD]) (fun k=>by simp)];simp [ho,szl]
   ·refine .inl ⟨q,if_neg fun z=>hz (hcl.mpr z),?_⟩;rw [decide_eq_false hz] at ho;simp only [iH,cY,dN,aQ,List.getElem?_cons_zero,List.getElem?_cons_succ,rq,if_true,Int.sub_zero,Int.toNat_natCast,aC0,bs];simp [rq];rw [hc _ (fun k hk=>by simp [hI',hIk k hk,hk2 k hk,-List.getD_eq_getElem?_getD]) (fun k=>by simp)];simp [ho,szl]
 ·rintro q hq δ ⟨u,rfl⟩;have hq:=List.mem_range.mp hq;refine ⟨[some w,some (.d (.int q))],by simp,?_⟩;have hI':=hI q hq;have hx:=cD hq;unfold f1;generalize xs.getD q .none=x at *;cases e:dd x with
  | true=>exact .inr ⟨by simp,[some w,some (.d (.int q))],by simp [hI',g1 _ hx,e],⟨_,rfl⟩⟩
  | false=>exact .inl ⟨q,by simp,by simp [hI',g1 _ hx,e]⟩
section
variable (d:Nat) (h:aA) (x0 x1 x2 x3 x4 z:PyData)
noncomputable def dF0 (n:Nat) (hn:n<=5):cut [x0,x1,x2,x3,x4] none (some (n:Int))=[x0,x1,x2,x3,x4].take n:=by
 have:n=0\/n=1\/n=2\/n=3\/n=4\/n=5:=by omega
 rcases this with rfl | rfl | rfl | rfl | rfl | rfl<;>rfl
noncomputable def dF1 (n:Nat) (hn:n<=5):cut [x0,x1,x2,x3,x4] (some (n:Int)) none=[x0,x1,x2,x3,x4].drop n:=by
 have:n=0\/n=1\/n=2\/n=3\/n=4\/n=5:=by omega
 rcases this with rfl | rfl | rfl | rfl | rfl | rfl<;>rfl
noncomputable def uF (n:Nat) (hn:n<=4):aE T (d+1) "_law_put" [.d (.tuple [x0,x1,x2,x3,x4]),.d (.int n),.d z] h=some (.tuple ([x0,x1,x2,x3,x4].take n++z::[x0,x1,x2,x3,x4].drop (n+1)),h):=by
 have e1:=dF0 x0 x1 x2 x3 x4 n (by omega);have e2:cut [x0,x1,x2,x3,x4] (some ((n:Int)+1)) none=[x0,x1,x2,x3,x4].drop (n+1):=dF1 x0 x1 x2 x3 x4 (n+1) (by omega);have:n=0\/n=1\/n=2\/n=3\/n=4:=by omega
 rcases this with rfl | rfl | rfl | rfl | rfl<;>simp at e1 e2<;>simp [vV,e1,e2,szl]
noncomputable def cD5:aE T (d+1) "_law_put" [.d (.tuple [x0,x1,x2,x3,x4]),.d (.int 0),.d z] h=some (.tuple [z,x1,x2,x3,x4],h):=uF d h x0 x1 x2 x3 x4 z 0 (by omega)
noncomputable def cD6:aE T (d+1) "_law_put" [.d (.tuple [x0,x1,x2,x3,x4]),.d (.int 1),.d z] h=some (.tuple [x0,z,x2,x3,x4],h):=uF d h x0 x1 x2 x3 x4 z 1 (by omega)
noncomputable def cD7:aE T (d+1) "_law_put" [.d (.tuple [x0,x1,x2,x3,x4]),.d (.int 2),.d z] h=some (.tuple [x0,x1,z,x3,x4],h):=uF d h x0 x1 x2 x3 x4 z 2 (by omega)
noncomputable def cD8:aE T (d+1) "_law_put" [.d (.tuple [x0,x1,x2,x3,x4]),.d (.int 3),.d z] h=some (.tuple [x0,x1,x2,z,x4],h):=uF d h x0 x1 x2 x3 x4 z 3 (by omega)
noncomputable def cD9:aE T (d+1) "_law_put" [.d (.tuple [x0,x1,x2,x3,x4]),.d (.int 4),.d z] h=some (.tuple [x0,x1,x2,x3,z],h):=uF d h x0 x1 x2 x3 x4 z 4 (by omega)
end
noncomputable def sh5 {x0 x1 x2 c a:PyData} (n0:Nm x0) (n1:Nm x1) (n2:Nm x2) (cx:CX c a):Sh (.tuple [x0,x1,x2,c,a]):=.inr ⟨_,_,_,_,_,rfl,n0,n1,n2,cx⟩
noncomputable def cZ (i:Int):Nm (.int i):=.inl ⟨i,rfl⟩
noncomputable def nT (e:Option Int):Nm (bR e):=by
 cases e with
 | none=>exact .inr (.inr (.inl rfl))
 | some t=>exact cZ t
noncomputable def cE0:Nm (.bool true):=.inr (.inl rfl)
noncomputable def cE1:Nm .none:=.inr (.inr (.inl rfl))
noncomputable def bL2 {x:De} (o:x.ok):CX x.c x.a:=by
 obtain ⟨c,a',ec,ca,q⟩:=o.ca;rw [ec];refine .inr ⟨c,rfl,?_⟩;rcases q with ⟨_,e⟩ | ⟨t,_,_,e | e⟩
 ·exact .inl ⟨⟨a',ca⟩,.inl e⟩
 ·exact .inl ⟨⟨a',ca⟩,.inr (.inl e)⟩
 ·exact .inr e
noncomputable def cE2 {x:De} (o:x.ok) {a:PyData} (q:a=.none\/wB a):CX x.c a:=by
 obtain ⟨c,a',ec,ca,_⟩:=o.ca;rw [ec];exact .inr ⟨c,rfl,.inl ⟨⟨a',ca⟩,q.imp id .inr⟩⟩
noncomputable def bD6 {x:De} (o:x.ok) {c:PyData} (q:aO5 c):CX c x.a:=by
 obtain ⟨c',a',ec,ca,r⟩:=o.ca;refine .inl ⟨q,?_⟩;rcases r with ⟨_,e⟩ | ⟨t,_,_,e | e⟩
 ·exact .inl e
 ·exact .inr (.inl e)
 ·exact .inr (.inr (.inr ⟨_,e⟩))
noncomputable def cQ7 {x:De} (o:x.ok):Sh x.dat:=sh5 (cZ _) (cZ _) (nT _) (bL2 o)
noncomputable def o1 (X:De):List PyData:=[PyData.int (-1),.int 6,.bool true,.none,.str "0"].map fun z=>PyData.tuple [z,.int X.b,bR X.e,X.c,X.a]
noncomputable def o2 (X:De):List PyData:=[PyData.int (-1),.none,.bool true,.str "1"].map fun z=>PyData.tuple [.int X.hd,z,bR X.e,X.c,X.a]
noncomputable def o3 (X:De):List PyData:=[PyData.int X.b,.int (-1),.bool true,.str "9",.int (X.b - 1)].map fun z=>PyData.tuple [.int X.hd,.int X.b,z,X.c,X.a]
noncomputable def o4 (X:De):List PyData:=[PyData.tuple [.str "read",.int 8],.tuple [.str "look",.tuple [.str "read",.int 1]],.none,.tuple [.str "lay",.tuple [.tuple [.int 1,.int 1]]]].map fun z=>PyData.tuple [.int X.hd,.int X.b,bR X.e,z,X.a]
noncomputable def o5 (X:De):List PyData:=[PyData.tuple [.str "gone"],.none,.tuple [.str "each",.tuple []],.bool true,.list [.str "done"]].map fun z=>PyData.tuple [.int X.hd,.int X.b,bR X.e,X.c,z]
noncomputable def o6 (X:De):List PyData:=[PyData.tuple [.int X.hd,.int X.b,.none,X.c,X.a],.tuple [.int X.hd,.int X.b,bR X.e,X.c],.tuple [.int X.hd,.int X.b,bR X.e,X.c,X.a,.int 1],.list [.int X.hd,.int X.b,bR X.e,X.c,X.a],.none,.tuple []]
noncomputable def o7 (X Y:De):List PyData:=[PyData.tuple [.int X.hd,.int Y.b,bR X.e,X.c,X.a],.tuple [.int Y.hd,.int X.b,bR X.e,X.c,X.a]]
noncomputable def o8 (X Y:De):List PyData:=[PyData.tuple [.int Y.hd,.int (Y.b+1),bR X.e,X.c,X.a]]
noncomputable def o9 (X Y:De):List PyData:=[PyData.tuple [.int X.hd,.int X.b,.int Y.b,X.c,X.a],.tuple [.int X.hd,.int X.b,bR Y.e,X.c,X.a],.tuple [.int X.hd,bR Y.e,bR X.e,X.c,X.a],Y.dat]
noncomputable def odds (X Y:De):List PyData:=o1 X++o2 X++o3 X++o4 X++o5 X++o6 X++o7 X Y++o8 X Y++o9 X Y
noncomputable def aP4 (X Y:De):(odds X Y).length=36:=rfl
noncomputable def bD7 {X Y:De} (oX:X.ok) (oY:Y.ok):∀ z∈odds X Y,Sh z:=by
 have cx:=bL2 oX;have cp:aI 62 X.c=true/\aI 62 X.a=true:=bL0 cx 58;intro z hz;unfold odds o1 o2 o3 o4 o5 o6 o7 o8 o9 at hz;simp only [List.mem_append] at hz;rcases hz with (((((((hz | hz) | hz) | hz) | hz) | hz) | hz) | hz) | hz
 ·obtain ⟨y,hy,rfl⟩:=List.mem_map.mp hz;simp only [List.mem_cons,List.not_mem_nil,or_false] at hy;refine sh5 ?_ (cZ _) (nT _) cx;rcases hy with rfl | rfl | rfl | rfl | rfl
  ·exact cZ _
  ·exact cZ _
  ·exact cE0
  ·exact cE1
  ·exact .inr (.inr (.inr (.inl rfl)))
 ·obtain ⟨y,hy,rfl⟩:=List.mem_map.mp hz;simp only [List.mem_cons,List.not_mem_nil,or_false] at hy;refine sh5 (cZ _) ?_ (nT _) cx;rcases hy with rfl | rfl | rfl | rfl
  ·exact cZ _
  ·exact cE1
  ·exact cE0
  ·exact .inr (.inr (.inr (.inr (.inl rfl))))
 ·obtain ⟨y,hy,rfl⟩:=List.mem_map.mp hz;simp only [List.mem_cons,List.not_mem_nil,or_false] at hy;refine sh5 (cZ _) (cZ _) ?_ cx;rcases hy with rfl | rfl | rfl | rfl | rfl
  ·exact cZ _
  ·exact cZ _
  ·exact cE0
  ·exact .inr (.inr (.inr (.inr (.inr rfl))))
  ·exact cZ _
 ·obtain ⟨y,hy,rfl⟩:=List.mem_map.mp hz;simp only [List.mem_cons,List.not_mem_nil,or_false] at hy;exact sh5 (cZ _) (cZ _) (nT _) (bD6 oX hy)
 ·obtain ⟨y,hy,rfl⟩:=List.mem_map.mp hz;simp only [List.mem_cons,List.not_mem_nil,or_false] at hy;refine sh5 (cZ _) (cZ _) (nT _) (cE2 oX ?_);rcases hy with rfl | rfl | rfl | rfl | rfl
  ·exact .inr (.inl rfl)
  ·exact .inl rfl
  ·exact .inr (.inr (.inl rfl))
  ·exact .inr (.inr (.inr (.inl rfl)))
  ·exact .inr (.inr (.inr (.inr rfl)))
 ·simp only [List.mem_cons,List.not_mem_nil,or_false] at hz;have hpe:aI 62 (bR X.e)=true:=xQ (nT _) _;rcases hz with rfl | rfl | rfl | rfl | rfl | rfl
  ·exact sh5 (cZ _) (cZ _) cE1 cx
  ·exact .inl (.inr (.inl ⟨_,rfl,by simp,by simp [cp.1,hpe]⟩))
  ·exact .inl (.inr (.inl ⟨_,rfl,by simp,by simp [cp.1,cp.2,hpe]⟩))
  ·exact .inl (.inr (.inr ⟨_,rfl,by simp [cp.1,cp.2,hpe]⟩))
  ·exact .inl (.inl rfl)
  ·exact .inl (.inr (.inl ⟨[],rfl,by simp,rfl⟩))
 ·simp only [List.mem_cons,List.not_mem_nil,or_false] at hz;rcases hz with rfl | rfl<;>exact sh5 (cZ _) (cZ _) (nT _) cx
 ·simp only [List.mem_cons,List.not_mem_nil,or_false] at hz;rcases hz with rfl
  exact sh5 (cZ _) (cZ _) (nT _) cx
 ·simp only [List.mem_cons,List.not_mem_nil,or_false] at hz;rcases hz with rfl | rfl | rfl | rfl
  ·exact sh5 (cZ _) (cZ _) (cZ _) cx
  ·exact sh5 (cZ _) (cZ _) (nT _) cx
  ·exact sh5 (cZ _) (nT _) (nT _) cx
  ·exact cQ7 oY
section
variable {G:aA} {w:W} {xs:List PyData} (r:ref G w=some (.list xs))
include r
noncomputable def bD8 (k:Nat) (hk:k < xs.length):xIx w (.d (.int k)) G=some (.d (xs.getD k .none),G):=by
 unfold xIx;rw [r];show (atI xs (k:Int)).map _=_;rw [gW (show xs[k]?=some (xs.getD k .none) by rw [List.getD_eq_getElem?_getD,List.getElem?_eq_getElem hk];rfl)];rfl
noncomputable def uG:cN [w] G=some (.d (.int xs.length),G):=by
 unfold cN;simp only [r]
noncomputable def dF2 (lo hi:Option Int):xSl w lo hi G=some (.d (.list (cut xs lo hi)),G):=by
 unfold xSl;cases w with
 | d x =>
  cases x<;>first | (cases r;rfl) | cases r
 | c i=>simp only [r]
 | v u=>cases r
end
noncomputable def aP5 (xs:List PyData) {m:Nat} (hm:m<=xs.length):cut xs none (some (m:Int))=xs.take m:=by
 have e1:HT.sIx xs.length 0 none=0:=by simp [HT.sIx]
 have e2:HT.sIx xs.length xs.length (some (m:Int))=m:=by
  unfold HT.sIx;try simp only []
  rw [if_neg (by omega)];omega
 rw [cut,e1,e2];simp
noncomputable def cE3 (xs:List PyData) {m:Nat} (hm:m<=xs.length):cut xs (some (m:Int)) none=xs.drop m:=by
 have e1:HT.sIx xs.length 0 (some (m:Int))=m:=by
  unfold HT.sIx;try simp only []
  rw [if_neg (by omega)];omega
 have e2:HT.sIx xs.length xs.length none=xs.length:=by simp [HT.sIx]
 rw [cut,e1,e2];exact List.take_of_length_le (by simp)
noncomputable def dS {γ:Type} {x:Option (Fl×aA)} {f:Fl×aA->Option (Fl×aA)} {e:Fl×aA->Option γ} {Q:Option γ->Prop} (δ':DSt) (h':aA) (e1:x=some (.nx δ',h')) (k:Q ((f (.nx δ',h')).bind e)):Q ((x.bind f).bind e):=by
 rw [e1];exact k
def Sp (w:W) (xs:List PyData) (h:aA) (i:Nat) (r:Option (W×aA)):Prop:=∃ w' s',(w'=w\/∃ xs',w'=.d (.list xs')/\xs'.length=xs.length/\∀ x∈xs',Sh x)/\r=some (w',h.set i (stL s'))
noncomputable def aP6 {xs:List PyData} (hs:∀ x∈xs,Sh x) (h1:1<=xs.length) (hl:xs.length<=62) (w:W) (h:aA) (i:Nat) (hi:i < h.length) (hw:∀ s,ref (h.set i (stL s)) w=some (.list xs)) (s:S3) (d:Nat) :
  Sp w xs h i (callW T (d+4) "_law_spoilt" [w,.c i] (h.set i (stL s))):=by
 have g1:∀ x∈xs,∀ h,aE T (d+3) "_law_is_deed" [.d x] h=some (.bool (dd x),h):=fun x hx h=>(rC (hs x hx) d h).2;have g2:∀ (s:S3) (b:Int),0 < b->bG b=true->aE T (d+3) "_law_digit" [.c i,.d (.int b)] (h.set i (stL s))=some (.int (eZ s b),h.set i (stL (aZ s b))):=fun s b h1 h2=>xO (d+1) h s b hi h1 h2;have p0:=fun x0 x1 x2 x3 x4 z h=>cD5 (d+2) h x0 x1 x2 x3 x4 z;have p1:=fun x0 x1 x2 x3 x4 z h=>cD6 (d+2) h x0 x1 x2 x3 x4 z;have p2:=fun x0 x1 x2 x3 x4 z h=>cD7 (d+2) h x0 x1 x2 x3 x4 z;have p3:=fun x0 x1 x2 x3 x4 z h=>cD8 (d+2) h x0 x1 x2 x3 x4 z;have p4:=fun x0 x1 x2 x3 x4 z h=>cD9 (d+2) h x0 x1 x2 x3 x4 z;have l0:(0:Int) < xs.length:=by omega
 have dl:bG (xs.length:Int)=true:=by unfold bG;simp;omega
 have hL:=fun s=>uG (hw s);have gL:∀ s:S3,aE T (d+3) "_law_digit" [.c i,.d (.int xs.length)] (h.set i (stL s))=some (.int (eZ s xs.length),h.set i (stL (aZ s xs.length))):=fun s=>g2 s xs.length l0 dl;simp only [nG,bB4,bB5,oB,bB6,bC1,cB2,bB8,bB9,oE,bC0,bC3,aN7,bC4,bC2,bB7,xK,bC5,bC6,cB9,cC0,cC1,cC2,cB7,cB3,cB4,cB5,cB6,cB8,aN8];generalize aE T (d+3)=f at *;obtain ⟨n,en,hn⟩:=cJ s l0;have hn:n < xs.length:=by omega
 have hIn:=fun s=>bD8 (hw s) n hn;refine dS (Q:=Sp w xs h i) [some w,some (.c i),some (.d (.int n)),none,none,none] (h.set i (stL (aZ s xs.length))) (by simp [hL,gL,en]) ?_;dsimp only;generalize aZ s xs.length=s1;have hx:=cD hn;generalize xs.getD n .none=x at *;refine dS (Q:=Sp w xs h i) [some w,some (.c i),some (.d (.int n)),some (.d x),none,none] (h.set i (stL s1)) (by simp [hIn]) ?_;dsimp only;obtain ⟨m,em,hm⟩:=cJ s1 l0;have hm:m < xs.length:=by omega
 have hIm:=fun s=>bD8 (hw s) m hm;have hy:=cD hm;generalize xs.getD m .none=y at *;refine dS (Q:=Sp w xs h i) [some w,some (.c i),some (.d (.int n)),some (.d x),some (.d y),none] (h.set i (stL (aZ s1 xs.length))) (by simp [hL,gL,em,hIm]) ?_;dsimp only;generalize aZ s1 xs.length=s2
 by_cases hb:dd x=true/\dd y=true
 ·obtain ⟨ex,ey⟩:=hb;refine dS (Q:=Sp w xs h i) [some w,some (.c i),some (.d (.int n)),some (.d x),some (.d y),none] (h.set i (stL s2)) (by simp [g1 x hx,g1 y hy,ex,ey]) ?_;dsimp only;obtain ⟨X,rfl,oX⟩:=xR (hs x hx) ex;obtain ⟨Y,rfl,oY⟩:=xR (hs y hy) ey;have a1:∀ h,xIx (.d X.dat) (.d (.int 1)) h=some (.d (.int X.b),h):=ix1 X;have b0:∀ h,xIx (.d Y.dat) (.d (.int 0)) h=some (.d (.int Y.hd),h):=ix0 Y;have b1:∀ h,xIx (.d Y.dat) (.d (.int 1)) h=some (.d (.int Y.b),h):=ix1 Y;have b2:∀ h,xIx (.d Y.dat) (.d (.int 2)) h=some (.d (bR Y.e),h):=ix2 Y;have q0:∀ z h,f "_law_put" [.d X.dat,.d (.int 0),.d z] h=some (.tuple [z,.int X.b,bR X.e,X.c,X.a],h):=fun z h=>p0 _ _ _ _ _ z h;have q1:∀ z h,f "_law_put" [.d X.dat,.d (.int 1),.d z] h=some (.tuple [.int X.hd,z,bR X.e,X.c,X.a],h):=fun z h=>p1 _ _ _ _ _ z h;have q2:∀ z h,f "_law_put" [.d X.dat,.d (.int 2),.d z] h=some (.tuple [.int X.hd,.int X.b,z,X.c,X.a],h):=fun z h=>p2 _ _ _ _ _ z h;have q3:∀ z h,f "_law_put" [.d X.dat,.d (.int 3),.d z] h=some (.tuple [.int X.hd,.int X.b,bR X.e,z,X.a],h):=fun z h=>p3 _ _ _ _ _ z h;have q4:∀ z h,f "_law_put" [.d X.dat,.d (.int 4),.d z] h=some (.tuple [.int X.hd,.int X.b,bR X.e,X.c,z],h):=fun z h=>p4 _ _ _ _ _ z h;have s4:∀ h,xSl (.d X.dat) none (some 4) h=some (.d (.tuple [.int X.hd,.int X.b,bR X.e,X.c]),h):=fun h=>rfl;have s5:∀ h,dX .Add (.d X.dat) (.d (.tuple [.int 1])) h=some (.d (.tuple [.int X.hd,.int X.b,bR X.e,X.c,X.a,.int 1]),h):=fun h=>by simp [De.dat,szl]
  have s6:∀ h,ref h (.d X.dat)=some (.tuple [.int X.hd,.int X.b,bR X.e,X.c,X.a]):=fun h=>rfl;have k1:(o1 X).length=5:=rfl;have k2:(o2 X).length=4:=rfl;have k3:(o3 X).length=5:=rfl;have k4:(o4 X).length=4:=rfl;have k5:(o5 X).length=5:=rfl;have k6:(o6 X).length=6:=rfl;have k7:(o7 X Y).length=2:=rfl;have k8:(o8 X Y).length=1:=rfl;have k9:(o9 X Y).length=4:=rfl;have odl:=aP4 X Y;refine dS (Q:=Sp w xs h i) [some w,some (.c i),some (.d (.int n)),some (.d X.dat),some (.d Y.dat),some (.d (.list (o1 X)))] (h.set i (stL s2)) (by simp [aQ,aW,q0,szl,o1]) ?_;dsimp only;refine dS (Q:=Sp w xs h i) [some w,some (.c i),some (.d (.int n)),some (.d X.dat),some (.d Y.dat),some (.d (.list (o1 X++o2 X)))] (h.set i (stL s2)) (by simp [aQ,aW,q1,szl,o2,k1,k2,k3,k4,k5,k6,k7,k8,k9]) ?_;dsimp only;refine dS (Q:=Sp w xs h i) [some w,some (.c i),some (.d (.int n)),some (.d X.dat),some (.d Y.dat),some (.d (.list (o1 X++o2 X++o3 X)))] (h.set i (stL s2)) (by simp [aQ,aW,q2,a1,szl,o3,k1,k2,k3,k4,k5,k6,k7,k8,k9]) ?_;dsimp only;refine dS (Q:=Sp w xs h i) [some w,some (.c i),some (.d (.int n)),some (.d X.dat),some (.d Y.dat),some (.d (.list (o1 X++o2 X++o3 X++o4 X)))] (h.set i (stL s2)) (by simp [aQ,aW,q3,szl,o4,k1,k2,k3,k4,k5,k6,k7,k8,k9]) ?_;dsimp only;refine dS (Q:=Sp w xs h i) [some w,some (.c i),some (.d (.int n)),some (.d X.dat),some (.d Y.dat),some (.d (.list (o1 X++o2 X++o3 X++o4 X++o5 X)))] (h.set i (stL s2)) (by simp [aQ,aW,q4,szl,o5,k1,k2,k3,k4,k5,k6,k7,k8,k9]) ?_;dsimp only;refine dS (Q:=Sp w xs h i) [some w,some (.c i),some (.d (.int n)),some (.d X.dat),some (.d Y.dat),some (.d (.list (o1 X++o2 X++o3 X++o4 X++o5 X++o6 X)))] (h.set i (stL s2)) (by simp [aQ,q2,s4,s5,s6,szl,o6,k1,k2,k3,k4,k5,k6,k7,k8,k9]) ?_;dsimp only;refine dS (Q:=Sp w xs h i) [some w,some (.c i),some (.d (.int n)),some (.d X.dat),some (.d Y.dat),some (.d (.list (o1 X++o2 X++o3 X++o4 X++o5 X++o6 X++o7 X Y)))] (h.set i (stL s2)) (by simp [aQ,q1,q0,b1,b0,szl,o7,k1,k2,k3,k4,k5,k6,k7,k8,k9]) ?_;dsimp only;refine dS (Q:=Sp w xs h i) [some w,some (.c i),some (.d (.int n)),some (.d X.dat),some (.d Y.dat),some (.d (.list (o1 X++o2 X++o3 X++o4 X++o5 X++o6 X++o7 X Y++o8 X Y)))] (h.set i (stL s2)) (by simp [aQ,q1,p0,b1,b0,szl,o8,k1,k2,k3,k4,k5,k6,k7,k8,k9]) ?_;dsimp only;refine dS (Q:=Sp w xs h i) [some w,some (.c i),some (.d (.int n)),some (.d X.dat),some (.d Y.dat),some (.d (.list (o1 X++o2 X++o3 X++o4 X++o5 X++o6 X++o7 X Y++o8 X Y++o9 X Y)))] (h.set i (stL s2)) (by simp [aQ,q1,q2,b1,b2,szl,o9,k1,k2,k3,k4,k5,k6,k7,k8,k9]) ?_;dsimp only
  change Sp w xs h i ((Option.bind _ _).bind _)
  have ho:=bD7 oX oY
  change ∀ z∈_,_ at ho
  obtain ⟨k,ek,hk⟩:=cJ s2 (b:=36) (by decide);have hk:k < (odds X Y).length:=by rw [odl];omega
  have g36:=g2 s2 36 (by decide) (by decide);have hz:∀ h,xIx (.d (.list (odds X Y))) (.d (.int k)) h=some (.d ((odds X Y).getD k .none),h):=fun h=>bD8 rfl k hk;have hZ:=ho _ (cD hk);have hL6:∀ h,cN [.d (.list (odds X Y))] h=some (.d (.int 36),h):=fun h=>by rw [uG (xs:=odds X Y) rfl,odl];rfl
  change Sp w xs h i _
  rw [show o1 X++o2 X++o3 X++o4 X++o5 X++o6 X++o7 X Y++o8 X Y++o9 X Y=odds X Y from rfl];generalize odds X Y=od at *;generalize od.getD k .none=z at *;have ct:=aP5 xs (m:=n) (by omega);have cf:cut xs (some ((n:Int)+1)) none=xs.drop (n+1):=cE3 xs (m:=n+1) (by omega);have hS:=fun s lo hi=>dF2 (hw s) lo hi;refine ⟨.d (.list (xs.take n++z::xs.drop (n+1))),aZ s2 36,.inr ⟨_,rfl,?_,?_⟩,?_⟩
  ·simp;omega
  ·intro x hx;rcases List.mem_append.mp hx with q | q
   ·exact hs x (List.mem_of_mem_take q)
   ·rcases List.mem_cons.mp q with q | q
    ·exact q ▸ hZ
    ·exact hs x (List.mem_of_mem_drop q)
  ·have ln1:min n xs.length<=16777215:=by omega
   have ln2:min n xs.length+1+(xs.length - (n+1))<=16777216:=by omega
   simp [aQ,hS,ct,hL6,g36,ek,hz,cf,szl,ln1,ln2]
 ·refine ⟨w,s2,.inl rfl,?_⟩;cases ex:dd x with
  | false=>simp [g1 x hx,ex]
  | true =>
   have ey:dd y=false:=by
    cases q:dd y with
    | false=>rfl
    | true=>exact (hb ⟨ex,q⟩).elim
   simp [g1 x hx,g1 y hy,ex,ey]
noncomputable def jI (d:Nat) (h:aA) (s:S3) (b:Int) (hb:0 < b) (hb2:bG b=true):aE T (d+2) "_law_digit" [.c h.length,.d (.int b)] (h++[stL s])=some (.int (eZ s b),h++[stL (aZ s b)]):=by
 have:=xO d (h++[stL s]) (i:=h.length) s b (by simp) hb hb2
 simpa using this
noncomputable def mul_one (h:aA) (x:PyData) (m:Nat) (h1:1<=m) (h8:m<=8):dX .Mult (.d (.tuple [x])) (.d (.int m)) h=some (.d (.tuple (List.replicate m x)),h):=by
 rw [aA3]
 by_cases e:m=1
 ·subst e;simp
 ·rw [if_neg (by omega),if_pos ⟨by simp,by omega,by omega,by simp [sizeLine_eq];omega⟩];simp
noncomputable def tk1 (h:aA) (x:Cell):List.take (List.length h+1) (h++[x])=h++[x]:=List.take_of_length_le (by simp)
noncomputable def iB (h:aA) (x:Cell) (s:S3):okP (h++[x]) (h++[stL s])=True:=by
 have:=aM3 h.length [.int s.1,.int s.2.1,.int s.2.2] (eB (h++[x]));rw [List.set_append_right _ _ (by omega),Nat.sub_self] at this;exact eq_true this
noncomputable def bD9 (s:S3):∃ (c:SJ.Call) (a:PyData) (s':S3),CA c a/\∀ (d:Nat) (h:aA),aE T (d+3) "_law_asked" [.c h.length] (h++[stL s])=some (.tuple [c.dat,a],h++[stL s']):=by
 obtain ⟨k,ek,hk⟩:=cJ s (b:=8) (by decide);obtain ⟨n,en,hn⟩:=cJ (aZ (aZ s 8) 9) (b:=6) (by decide);have em:(8:Int) - k=((8 - k:Nat):Int):=by omega
 have hm:=fun h v=>mul_one h (.int v) (8 - k) (by omega) (by omega);have q8:bG 8=true:=by decide
 have q9:bG 9=true:=by decide
 have q6:bG 6=true:=by decide
 have q2:bG 2=true:=by decide
 have h0:n=0\/n=1\/n=2\/n=3\/n=4\/n=5:=by omega
 generalize hv:eZ (aZ s 8) 9 - 4=v at *;obtain ⟨z,hz,hy⟩:∃ z,atI [wd "yes",wd "no"] (v%2)=some z/\(z=wd "yes"\/z=wd "no"):=by
  have:v%2=0\/v%2=1:=by omega
  rcases this with e | e
  ·exact ⟨_,by rw [e];rfl,.inl rfl⟩
  ·exact ⟨_,by rw [e];rfl,.inr rfl⟩
 simp only [wd] at hz;rcases h0 with rfl | rfl | rfl | rfl | rfl | rfl
 ·refine ⟨.one (.read k),_,aZ (aZ (aZ s 8) 9) 6,⟨k,v,by omega,.inl ⟨rfl,rfl⟩⟩,fun d h=>?_⟩;simp [cG,jI,ek,en,em,hm,hz,szl,aQ,tk1,iB,hv,q8,q9,q6,q2,Call.dat,One.dat,lE]
 ·refine ⟨.one (.write k v),_,aZ (aZ (aZ s 8) 9) 6,⟨k,v,by omega,.inr (.inl ⟨rfl,rfl⟩)⟩,fun d h=>?_⟩;simp [cG,jI,ek,en,em,hm,hz,szl,aQ,tk1,iB,hv,q8,q9,q6,q2,Call.dat,One.dat,wd]
 ·refine ⟨.one (.add k 2),_,aZ (aZ (aZ s 8) 9) 6,⟨k,v,by omega,.inr (.inr (.inl ⟨rfl,rfl⟩))⟩,fun d h=>?_⟩;simp [cG,jI,ek,en,em,hm,hz,szl,aQ,tk1,iB,hv,q8,q9,q6,q2,Call.dat,One.dat,lE]
 ·refine ⟨.one (.swap k v 5),z,aZ (aZ (aZ s 8) 9) 6,⟨k,v,by omega,.inr (.inr (.inr (.inl ⟨rfl,hy⟩)))⟩,fun d h=>?_⟩;simp [cG,jI,ek,en,em,hm,hz,szl,aQ,tk1,iB,hv,q8,q9,q6,q2,Call.dat,One.dat]
 ·refine ⟨.span k 8,_,aZ (aZ (aZ s 8) 9) 6,⟨k,v,by omega,.inr (.inr (.inr (.inr (.inl ⟨rfl,rfl⟩))))⟩,fun d h=>?_⟩;simp [cG,jI,ek,en,em,hm,hz,szl,aQ,tk1,iB,hv,q8,q9,q6,q2,Call.dat,One.dat]
 ·refine ⟨.deal [.read k,.write k 1],_,aZ (aZ (aZ s 8) 9) 6,⟨k,v,by omega,.inr (.inr (.inr (.inr (.inr ⟨rfl,rfl⟩))))⟩,fun d h=>?_⟩;simp [cG,jI,ek,en,em,hm,hz,szl,aQ,tk1,iB,hv,q8,q9,q6,q2,Call.dat,One.dat,lE,wd]
noncomputable def uD (t:Int):PyData×PyData:=(.int t,.bool true)
section
variable {G:aA} {i:Nat}
noncomputable def rF {xs:List PyData} (e:G[i]?=some (.l xs)):ref G (.c i)=some (.list xs):=by
 unfold ref;simp only [e];try rfl
noncomputable def bE0 {xs:List (PyData×PyData)} (e:G[i]?=some (.k xs)):ref G (.c i)=some (.dict xs):=by
 unfold ref;simp only [e];try rfl
noncomputable def bL3 {xs:List PyData} (e:G[i]?=some (.l xs)) (k:Int):xIx (.c i) (.d (.int k)) G=(atI xs k).map fun v=>(.d v,G):=by
 unfold xIx;rw [rF e]
noncomputable def aP7 {us:List Int} (e:G[i]?=some (.k (us.map uD))) (t:Int):xIn (.d (.int t)) (.c i) G=some (us.any fun u=>decide (u=t)):=by
 unfold xIn;rw [bE0 e];simp only [bK5,bJ,List.any_map]
 congr 1
 congr 1
 funext u
 simp [uD,bJ]
noncomputable def rG {xs:List PyData} (e:G[i]?=some (.l xs)):vH "append" (.c i) G=true:=by
 unfold vH;rw [if_pos rfl];simp only [e];try rfl
end
noncomputable def bE1 {us:List Int} {t:Int} (h:t∉us):(us.any fun u=>decide (u=t))=false:=by
 rw [List.any_eq_false];intro u hu z;exact h (of_decide_eq_true z ▸ hu)
noncomputable def cE4 {us:List Int} {t:Int} (h:t∈us):(us.any fun u=>decide (u=t))=true:=List.any_eq_true.mpr ⟨t,h,by simp⟩
noncomputable def xT {us:List Int} {t:Int} (h:t∉us):jT (us.map uD) (.int t) (.bool true)=(us++[t]).map uD:=by
 unfold jT;rw [if_neg]
 ·simp [uD]
 ·rw [List.any_map,Bool.not_eq_true,List.any_eq_false];intro u hu z;simp [uD,bJ] at z;exact h (z ▸ hu)
noncomputable def cE5 {us:List Int} {b:Int} (h:b∈us):(us.filter fun u=>decide (b+1<=u)).length < (us.filter fun u=>decide (b<=u)).length:=by
 induction us with
 | nil=>cases h
 | cons u r ih =>
  rw [List.filter_cons,List.filter_cons];have mono:(r.filter fun u=>decide (b+1<=u)).length<=(r.filter fun u=>decide (b<=u)).length:=by
   clear ih h;induction r with
   | nil=>simp
   | cons v r ih =>
    rw [List.filter_cons,List.filter_cons]
    by_cases h1:b+1<=v
    ·rw [if_pos (by simpa using h1),if_pos (by simp;omega)];simp;exact ih
    ·rw [if_neg (by simpa using h1)];split
     ·simp;omega
     ·exact ih
  rcases List.mem_cons.mp h with rfl | h
  ·rw [if_neg (by simp;omega),if_pos (by simp)];simp;omega
  ·have:=ih h
   by_cases h1:b+1<=u
   ·rw [if_pos (by simpa using h1),if_pos (by simp;omega)];simp;exact this
   ·rw [if_neg (by simpa using h1)];split
    ·simp;omega
    ·exact this
theorem iT {c:XR Bool} {tb:XS} {us:List Int} {G:aA} (D:Int->DSt) (hc:∀ t,c (D t) G=some (us.any fun u=>decide (u=t),G)) (hb:∀ t,tb (D t) G=some (.nx (D (t+1)),G)) :
  ∀ (n:Nat) (b:Int),(us.filter fun u=>decide (b<=u)).length < n->∃ b',b'∉us/\cB c tb n (D b) G=some (.nx (D b'),G)
 | 0,b,h=>absurd h (Nat.not_lt_zero _)
 | n+1,b,h=>by
  by_cases hm:b∈us
  ·have:=cE5 hm;obtain ⟨b',h2,h3⟩:=iT D hc hb n (b+1) (by omega);refine ⟨b',h2,?_⟩;rw [cB,hc,cE4 hm];simp only [bs,if_true,hb];exact h3
  ·refine ⟨b,hm,?_⟩;rw [cB,hc,bE1 hm];simp
theorem nU {c:XR Bool} {tb:XS} {ov:List Bool} {G:aA} (D:Nat->DSt) (hc:∀ t,t < 6->c (D t) G=some (ov.getD t false,G)) (hb:∀ t,t < 6->tb (D t) G=some (.nx (D ((t+1)%6)),G)) :
  ∀ (j n t:Nat),t < 6->j < n->ov.getD ((t+j)%6) false=false->∃ t',t' < 6/\ov.getD t' false=false/\cB c tb n (D t) G=some (.nx (D t'),G)
 | j,0,t,_,h,_=>absurd h (Nat.not_lt_zero _)
 | j,n+1,t,ht,h,e=>by
  cases q:ov.getD t false with
  | false =>
   refine ⟨t,ht,q,?_⟩;rw [cB,hc t ht,q];simp
  | true =>
   have hj:j≠0:=fun z=>by
    subst z;rw [Nat.add_zero,Nat.mod_eq_of_lt ht,q] at e;cases e
   obtain ⟨t',h1,h2,h3⟩:=nU D hc hb (j - 1) n ((t+1)%6) (Nat.mod_lt _ (by decide)) (by omega) (by
    rw [show ((t+1)%6+(j - 1))%6=(t+j)%6 from by omega];exact e)
   refine ⟨t',h1,h2,?_⟩;rw [cB,hc t ht,q];simp only [bs,if_true,hb t ht];exact h3
noncomputable def aC2 {ov:List Bool} (hl:ov.length=6) (hc:(ov.filter id).length < 6) (t:Nat) (ht:t < 6):∃ j,j < 6/\ov.getD ((t+j)%6) false=false:=by
 have:∃ p,p < 6/\ov.getD p false=false:=by
  apply Classical.byContradiction;intro hn;have:ov.filter id=ov:=List.filter_eq_self.mpr fun b hb=>by
   obtain ⟨p,hp,rfl⟩:=List.getElem_of_mem hb;cases q:ov[p] with
   | true=>rfl
   | false=>exact (hn ⟨p,by omega,by rw [List.getD_eq_getElem?_getD,List.getElem?_eq_getElem hp,q];rfl⟩).elim
  rw [this] at hc;omega
 obtain ⟨p,hp,e⟩:=this;exact ⟨(p+6 - t)%6,by omega,by rw [show (t+(p+6 - t)%6)%6=p from by omega];exact e⟩
theorem xU:∀ (ov:List Bool) (n:Nat),((ov.set n true).filter id).length<=(ov.filter id).length+1
 | [],n=>by simp
 | b::r,0=>by cases b<;>simp
 | b::r,n+1=>by
  have:=xU r n;cases b<;>simp<;>omega
structure Hl (h0 H:aA) (free:List Int) (over:List Bool) (used:List Int) (found:List PyData):Prop where
 ln:h0.length+6<=H.length
 tk:H.take h0.length=h0
 c1:H[h0.length+1]?=some (.l (free.map .int))
 c2:H[h0.length+3]?=some (.l (over.map .bool))
 c3:H[h0.length+4]?=some (.k (used.map uD))
 c4:H[h0.length+5]?=some (.l found)
section
variable {h0 H:aA} {free:List Int} {over:List Bool} {used:List Int} {found:List PyData} (L:Hl h0 H free over used found)
include L
noncomputable def Hl.app (x:Cell):Hl h0 (H++[x]) free over used found:=by
 have:=L.ln;refine ⟨by simp;omega,by rw [List.take_append_of_le_length (by omega)];exact L.tk,?_,?_,?_,?_⟩
 ·rw [List.getElem?_append_left (by omega)];exact L.c1
 ·rw [List.getElem?_append_left (by omega)];exact L.c2
 ·rw [List.getElem?_append_left (by omega)];exact L.c3
 ·rw [List.getElem?_append_left (by omega)];exact L.c4
theorem take_set {H:aA} {n i:Nat} {x:Cell} (h:n<=i):(H.set i x).take n=H.take n:=by
 rw [List.take_set,List.set_eq_of_length_le (by simp;omega)]
noncomputable def Hl.s1 (free':List Int):Hl h0 (H.set (h0.length+1) (.l (free'.map .int))) free' over used found:=by
 have:=L.ln;refine ⟨by simp;omega,by rw [take_set L (by omega)];exact L.tk,?_,?_,?_,?_⟩
 ·rw [List.getElem?_set_self (by omega)]
 ·rw [List.getElem?_set_ne (by omega)];exact L.c2
 ·rw [List.getElem?_set_ne (by omega)];exact L.c3
 ·rw [List.getElem?_set_ne (by omega)];exact L.c4
noncomputable def Hl.s2 (over':List Bool):Hl h0 (H.set (h0.length+3) (.l (over'.map .bool))) free over' used found:=by
 have:=L.ln;refine ⟨by simp;omega,by rw [take_set L (by omega)];exact L.tk,?_,?_,?_,?_⟩
 ·rw [List.getElem?_set_ne (by omega)];exact L.c1
 ·rw [List.getElem?_set_self (by omega)]
 ·rw [List.getElem?_set_ne (by omega)];exact L.c3
 ·rw [List.getElem?_set_ne (by omega)];exact L.c4
noncomputable def Hl.s3 (used':List Int):Hl h0 (H.set (h0.length+4) (.k (used'.map uD))) free over used' found:=by
 have:=L.ln;refine ⟨by simp;omega,by rw [take_set L (by omega)];exact L.tk,?_,?_,?_,?_⟩
 ·rw [List.getElem?_set_ne (by omega)];exact L.c1
 ·rw [List.getElem?_set_ne (by omega)];exact L.c2
 ·rw [List.getElem?_set_self (by omega)]
 ·rw [List.getElem?_set_ne (by omega)];exact L.c4
noncomputable def Hl.s4 (found':List PyData):Hl h0 (H.set (h0.length+5) (.l found')) free over used found':=by
 have:=L.ln;refine ⟨by simp;omega,by rw [take_set L (by omega)];exact L.tk,?_,?_,?_,?_⟩
 ·rw [List.getElem?_set_ne (by omega)];exact L.c1
 ·rw [List.getElem?_set_ne (by omega)];exact L.c2
 ·rw [List.getElem?_set_ne (by omega)];exact L.c3
 ·rw [List.getElem?_set_self (by omega)]
end
structure Iv (free:List Int) (over:List Bool) (used:List Int) (found:List PyData) (k:Nat):Prop where
 fl:free.length=6
 ol:over.length=6
 oc:(over.filter id).length < 6
 ul:used.length<=2*k
 fk:found.length=k
 sh:∀ x∈found,Sh x
noncomputable def bE2 {c:SJ.Call} {a:PyData} (ca:CA c a) (j b:Int):Sh (.tuple [.int j,.int b,.none,c.dat,.none]):=.inr ⟨_,_,_,_,_,rfl,.inl ⟨_,rfl⟩,.inl ⟨_,rfl⟩,.inr (.inr (.inl rfl)),.inr ⟨c,rfl,.inl ⟨⟨_,ca⟩,.inl rfl⟩⟩⟩
noncomputable def bE3 {c:SJ.Call} {a a':PyData} (ca:CA c a) (ha:a'=a\/a'=wd "refused") (j b e:Int):Sh (.tuple [.int j,.int b,.int e,c.dat,a']):=.inr ⟨_,_,_,_,_,rfl,.inl ⟨_,rfl⟩,.inl ⟨_,rfl⟩,.inl ⟨_,rfl⟩,.inr ⟨c,rfl,by
 rcases ha with rfl | rfl
 ·exact .inr ca
 ·exact .inl ⟨⟨_,ca⟩,.inr (.inl rfl)⟩⟩⟩
variable (d:Nat)
noncomputable def aP8 {γ:Type} {x:Option (Fl×aA)} {f:Fl×aA->Option (Fl×aA)} {e:Fl×aA->Option γ} {Q:Option γ->Prop} (Jv:DSt->aA->Prop) (e1:∃ δ' h',x=some (.nx δ',h')/\Jv δ' h') (k:∀ δ' h',Jv δ' h'->Q ((f (.nx δ',h')).bind e)):Q ((x.bind f).bind e):=by
 obtain ⟨δ',h',e1,j⟩:=e1;rw [e1];exact k δ' h' j
def Dd (h0:aA) (mn:Nat) (r:Option (W×aA)):Prop:=∃ (i:Nat) (xs:List PyData) (H:aA),r=some (.c i,H)/\H.take h0.length=h0/\h0.length<=i/\H[i]?=some (.l xs)/\xs.length=mn/\∀ x∈xs,Sh x
def Wv (ns:List Int) (many start:Int) (h0:aA) (k:Nat) (δ:DSt) (H:aA):Prop :=
 ∃ free over used found,Iv free over used found k/\Hl h0 H free over used found/\∃ x7 x8 x9 x10 x11 x12 x13 x14:Option W,δ=[some (.d (.list (ns.map .int))),some (.d (.int many)),some (.d (.int start)),some (.c (h0.length+1)),some (.c (h0.length+3)),some (.c (h0.length+4)),some (.c (h0.length+5)),x7,x8,x9,x10,x11,x12,x13,x14]
theorem aP9:∀ ov:List Bool,peqs (ov.map .bool) (ov.map .bool)=true
 | []=>rfl
 | b::r=>by rw [List.map_cons,peqs,aP9 r];cases b<;>rfl
theorem nV {te:XR W} {tt:XR Bool} (G:aA) (all:List PyData) (c:Option Nat) (hc:CI.condB c all G=true) (ht:∀ b,tt [some (.d (.bool b))] G=some (b,G)) (he:∀ b,te [some (.d (.bool b))] G=some (.d (.int 1),G)) :
  ∀ (ov:List Bool) (u:Option W) (ac:List PyData),aW (fun (w:W) (δ:DSt) (h:aA)=>some (List.set δ 0 (some w),h)) tt te c all (ov.map .bool) [u] G ac=some (ac++(ov.filter id).map (fun _=>.int 1),G)
 | [],u,ac=>by simp [aW,hc]
 | b::r,u,ac=>by
  rw [List.map_cons,aW,if_pos hc];simp only [bs,List.set_cons_zero,ht];cases b with
  | true=>rw [if_pos rfl,he];simp only [bs];rw [nV G all c hc ht he r];simp
  | false=>rw [if_neg (by simp)];rw [nV G all c hc ht he r];simp
noncomputable def bE4 (ns:List Int) (mn:Nat) (hm:mn<=62) (start:Int) (h0:aA):Dd h0 mn (callW T (d+4) "_law_deeds" [.d (.list (ns.map .int)),.d (.int mn),.d (.int start)] h0):=by
 have g1:∀ (k:Nat) h,aE T (d+3) "_law_cell_at" [.d (.list (ns.map .int)),.d (.int k)] h=some (.int (ns.getD k 0),h):=fun k h=>aO3 (d+2) h ns k;have g2:∀ (m:Nat) (h:aA) (s:S3) (b:Int),m=h.length->0 < b->bG b=true->aE T (d+3) "_law_digit" [.c m,.d (.int b)] (h++[stL s])=some (.int (eZ s b),h++[stL (aZ s b)]):=fun m h s b e h1 h2=>by rw [e];exact jI (d+1) h s b h1 h2
 have g3:∀ s:S3,∃ (c:SJ.Call) (a:PyData) (s':S3),CA c a/\∀ (m:Nat) (h:aA),m=h.length->aE T (d+3) "_law_asked" [.c m] (h++[stL s])=some (.tuple [c.dat,a],h++[stL s']):=fun s=>by
  obtain ⟨c,a,s',h1,h2⟩:=bD9 s;exact ⟨c,a,s',h1,fun m h e=>by rw [e];exact h2 d h⟩
 have rm:lA 0 (mn:Int)=true:=tP (i:=0) (j:=mn) (by omega) (by omega);have e2:bG 2=true:=by decide
 have e40:bG 40=true:=by decide
 have e6:bG 6=true:=by decide
 have e9:bG 9=true:=by decide
 have e12:bG 12=true:=by decide
 have em:∀ i:Int,gK 31 i=true:=fun i=>qT (by decide) (by decide) i;generalize hmany:((mn:Nat):Int)=many at *;simp only [oJ,bB4,bB5,oB,bB6,bC1,cB2,bB8,bB9,oE,bC0,bC3,aN7,bC4,bC2,bB7,xK,bC5,bC6,cB9,cC0,cC1,cC2,cB7,cB3,cB4,cB5,cB6,cB8,aN8,cQ2];generalize aE T (d+3)=f at *;refine dS (Q:=Dd h0 mn) [some (.d (.list (ns.map .int))),some (.d (.int many)),some (.d (.int start)),some (.c (h0.length+1)),none,none,none,none,none,none,none,none,none,none,none] (h0++[.l [.int start],.l (List.replicate 6 (.int start))]) (by simp [szl]) ?_;dsimp only;refine dS (Q:=Dd h0 mn) [some (.d (.list (ns.map .int))),some (.d (.int many)),some (.d (.int start)),some (.c (h0.length+1)),some (.c (h0.length+3)),none,none,none,none,none,none,none,none,none,none] (h0++[.l [.int start],.l (List.replicate 6 (.int start)),.l [.bool false],.l (List.replicate 6 (.bool false))]) (by simp [szl]) ?_;dsimp only;refine dS (Q:=Dd h0 mn) [some (.d (.list (ns.map .int))),some (.d (.int many)),some (.d (.int start)),some (.c (h0.length+1)),some (.c (h0.length+3)),some (.c (h0.length+4)),none,none,none,none,none,none,none,none,none] (h0++[.l [.int start],.l (List.replicate 6 (.int start)),.l [.bool false],.l (List.replicate 6 (.bool false)),.k []]) (by simp [aJ7]) ?_;dsimp only;refine dS (Q:=Dd h0 mn) [some (.d (.list (ns.map .int))),some (.d (.int many)),some (.d (.int start)),some (.c (h0.length+1)),some (.c (h0.length+3)),some (.c (h0.length+4)),some (.c (h0.length+5)),none,none,none,none,none,none,none,none] (h0++[.l [.int start],.l (List.replicate 6 (.int start)),.l [.bool false],.l (List.replicate 6 (.bool false)),.k [],.l []]) (by simp [szl]) ?_;dsimp only;refine aP8 (Q:=Dd h0 mn) (Wv ns many start h0 mn) ?_ ?_
 ·simp only [iH,cY,List.getElem?_cons_zero,List.getElem?_cons_succ,bs,rm,if_true];refine aA5 (Wv ns many start h0) ⟨List.replicate 6 start,List.replicate 6 false,[],[],⟨rfl,rfl,by decide,by simp,rfl,by simp⟩,?_,_,_,_,_,_,_,_,_,rfl⟩ (fun δ h z=>by
   have e:many.toNat=mn:=by omega
   rw [CI.rng_len,e] at z;exact z) ?_
  ·refine ⟨by simp,by simp,by simp,by simp,by simp,by simp⟩
  ·rintro k hk δ H ⟨free,over,used,found,I,L,x7,x8,x9,x10,x11,x12,x13,x14,rfl⟩;rw [bA5];rw [CI.rng_len] at hk;have hk:k < mn:=by omega
   rw [Int.zero_add];have lH:=L.ln;have ul:used.length<=124:=by have:=I.ul;omega
   generalize hcell:ns.getD (3+k%40) 0+(k:Int) / 40=cell;have g1':∀ h,f "_law_cell_at" [.d (.list (ns.map .int)),.d (.int (3+(k:Int)%40))] h=some (.int (ns.getD (3+k%40) 0),h):=fun h=>g1 (3+k%40) h;refine ⟨[some (.d (.list (ns.map .int))),some (.d (.int many)),some (.d (.int start)),some (.c (h0.length+1)),some (.c (h0.length+3)),some (.c (h0.length+4)),some (.c (h0.length+5)),some (.d (.int k)),x8,x9,x10,x11,x12,x13,x14],H,by simp,?_⟩;refine bQ [some (.d (.list (ns.map .int))),some (.d (.int many)),some (.d (.int start)),some (.c (h0.length+1)),some (.c (h0.length+3)),some (.c (h0.length+4)),some (.c (h0.length+5)),some (.d (.int k)),some (.d (.int cell)),x9,x10,x11,x12,x13,x14] (H) (by simp [g1',e40];exact hcell) ?_;dsimp only;generalize hs0:((cell / 2,cell%2,cell+31*(k:Int)):S3)=s0;refine bQ [some (.d (.list (ns.map .int))),some (.d (.int many)),some (.d (.int start)),some (.c (h0.length+1)),some (.c (h0.length+3)),some (.c (h0.length+4)),some (.c (h0.length+5)),some (.d (.int k)),some (.d (.int cell)),some (.c H.length),x10,x11,x12,x13,x14] (H++[stL s0]) (by simp [e2,em,szl,<- hs0,stL]) ?_;dsimp only;obtain ⟨j0,ej,hj0⟩:=cJ s0 (b:=6) (by decide);have hj0:j0 < 6:=by omega
   refine bQ [some (.d (.list (ns.map .int))),some (.d (.int many)),some (.d (.int start)),some (.c (h0.length+1)),some (.c (h0.length+3)),some (.c (h0.length+4)),some (.c (h0.length+5)),some (.d (.int k)),some (.d (.int cell)),some (.c H.length),some (.d (.int (j0:Nat))),x11,x12,x13,x14] (H++[stL (aZ s0 6)]) (by simp [g2,e6,ej]) ?_;dsimp only;generalize aZ s0 6=s1;have ov:∀ x (t:Nat),t < 6->xIx (.c (h0.length+3)) (.d (.int t)) (H++[x])=some (.d (.bool (over.getD t false)),H++[x]):=fun x t ht=>by
    have hl:t < over.length:=by rw [I.ol];exact ht
    rw [bL3 (L.app x).c2,gW (show (over.map PyData.bool)[t]?=some (.bool (over.getD t false)) by rw [List.getElem?_map,List.getD_eq_getElem?_getD,List.getElem?_eq_getElem hl];rfl)];rfl
   have fr:∀ x (t:Nat),t < 6->xIx (.c (h0.length+1)) (.d (.int t)) (H++[x])=some (.d (.int (free.getD t 0)),H++[x]):=fun x t ht=>by
    have hl:t < free.length:=by rw [I.fl];exact ht
    rw [bL3 (L.app x).c1,gW (show (free.map PyData.int)[t]?=some (.int (free.getD t 0)) by rw [List.getElem?_map,List.getD_eq_getElem?_getD,List.getElem?_eq_getElem hl];rfl)];rfl
   obtain ⟨jj,hjj,ejj⟩:=aC2 I.ol I.oc j0 hj0;obtain ⟨jn,hj,ejn,hw⟩:=nU (ov:=over) (G:=H++[stL s1]) (c:=xb (xb (aB 4) fun (x:W)=>xb (aB 10) fun (w:W) (x_1:DSt) (h:aA)=>xIx x w h) YD) (tb:=fun (x:DSt) (x_2:aA)=>YP (bA 10 (xb (xb (aB 10) (YB .Add 1)) (YB .Mod 6)) x x_2) YE) (fun jn=>[some (.d (.list (ns.map .int))),some (.d (.int many)),some (.d (.int start)),some (.c (h0.length+1)),some (.c (h0.length+3)),some (.c (h0.length+4)),some (.c (h0.length+5)),some (.d (.int k)),some (.d (.int cell)),some (.c H.length),some (.d (.int (jn:Nat))),x11,x12,x13,x14]) (fun t ht=>by
    have ov:=ov (stL s1) t ht;simp only [iH,cY,List.getElem?_cons_zero,List.getElem?_cons_succ,bs,ov];cases over.getD t false<;>rfl) (fun t ht=>by simp [e6,oE,oB]) jj 1000 j0 hj0 (by omega) ejj
   refine bQ [some (.d (.list (ns.map .int))),some (.d (.int many)),some (.d (.int start)),some (.c (h0.length+1)),some (.c (h0.length+3)),some (.c (h0.length+4)),some (.c (h0.length+5)),some (.d (.int k)),some (.d (.int cell)),some (.c H.length),some (.d (.int (jn:Nat))),x11,x12,x13,x14] (H++[stL s1]) hw ?_;dsimp only;clear hw hjj ejj ej;obtain ⟨i9,e9',h9⟩:=cJ s1 (b:=9) (by decide);generalize hb0:free.getD jn 0+(i9:Int)=b0;refine bQ [some (.d (.list (ns.map .int))),some (.d (.int many)),some (.d (.int start)),some (.c (h0.length+1)),some (.c (h0.length+3)),some (.c (h0.length+4)),some (.c (h0.length+5)),some (.d (.int k)),some (.d (.int cell)),some (.c H.length),some (.d (.int (jn:Nat))),some (.d (.int b0)),x12,x13,x14] (H++[stL (aZ s1 9)]) (by have fr:=fr (stL s1) jn hj;simp only [bA1,iH,cY,List.getElem?_cons_zero,List.getElem?_cons_succ,bs,fr];simp [g2,e9,e9'];exact hb0) ?_;dsimp only;generalize aZ s1 9=s3;obtain ⟨b,hb2,hw⟩:=iT (us:=used) (G:=H++[stL s3]) (c:=xC1 CmpOp.In (aB 11) (aB 5)) (tb:=fun (x:DSt) (x_2:aA)=>YP (bA 11 (xb (aB 11) (YB .Add 1)) x x_2) YE) (fun b=>[some (.d (.list (ns.map .int))),some (.d (.int many)),some (.d (.int start)),some (.c (h0.length+1)),some (.c (h0.length+3)),some (.c (h0.length+4)),some (.c (h0.length+5)),some (.d (.int k)),some (.d (.int cell)),some (.c H.length),some (.d (.int (jn:Nat))),some (.d (.int b)),x12,x13,x14]) (fun t=>by simp [aP7 (L.app (stL s3)).c3]) (fun t=>by simp [oE,oB]) 1000 b0 (Nat.lt_of_le_of_lt (List.length_filter_le _ _) (by omega));refine bQ [some (.d (.list (ns.map .int))),some (.d (.int many)),some (.d (.int start)),some (.c (h0.length+1)),some (.c (h0.length+3)),some (.c (h0.length+4)),some (.c (h0.length+5)),some (.d (.int k)),some (.d (.int cell)),some (.c H.length),some (.d (.int (jn:Nat))),some (.d (.int b)),x12,x13,x14] (H++[stL s3]) hw ?_;dsimp only;clear hw;have L3:=L.s3 (used++[b]);have hset:∀ (H:aA) (i:Nat) (c x:Cell),i < H.length->(H++[x]).set i c=H.set i c++[x]:=fun H i c x h=>List.set_append_left _ _ h;have u32:(used.map uD).length < sizeLine:=by rw [List.length_map,sizeLine_eq];omega
   refine bQ [some (.d (.list (ns.map .int))),some (.d (.int many)),some (.d (.int start)),some (.c (h0.length+1)),some (.c (h0.length+3)),some (.c (h0.length+4)),some (.c (h0.length+5)),some (.d (.int k)),some (.d (.int cell)),some (.c H.length),some (.d (.int (jn:Nat))),some (.d (.int b)),x12,x13,x14] (H.set (h0.length+4) (.k ((used++[b]).map uD))++[stL s3]) (by
    simp only [cY,dN,List.getElem?_cons_zero,List.getElem?_cons_succ,bs,(L.app (stL s3)).c3];rw [if_pos ⟨rfl,u32⟩,xT hb2,hset _ _ _ _ (by omega)];rfl) ?_
   dsimp only;have eHl:(H.set (h0.length+4) (.k ((used++[b]).map uD))).length=H.length:=List.length_set;generalize hH1:H.set (h0.length+4) (.k ((used++[b]).map uD))=H1 at *;rw [<- eHl] at *;have lH1:=L3.ln;obtain ⟨i12,e12',h12⟩:=cJ s3 (b:=12) (by decide);refine bQ [some (.d (.list (ns.map .int))),some (.d (.int many)),some (.d (.int start)),some (.c (h0.length+1)),some (.c (h0.length+3)),some (.c (h0.length+4)),some (.c (h0.length+5)),some (.d (.int k)),some (.d (.int cell)),some (.c H1.length),some (.d (.int (jn:Nat))),some (.d (.int b)),some (.d (.int (b+1+i12))),x13,x14] (H1++[stL (aZ s3 12)]) (by simp [g2,e12,e12']) ?_;dsimp only;generalize aZ s3 12=s4;obtain ⟨e,he2,hw⟩:=iT (us:=used++[b]) (G:=H1++[stL s4]) (c:=xC1 CmpOp.In (aB 12) (aB 5)) (tb:=fun (x:DSt) (x_2:aA)=>YP (bA 12 (xb (aB 12) (YB .Add 1)) x x_2) YE) (fun e=>[some (.d (.list (ns.map .int))),some (.d (.int many)),some (.d (.int start)),some (.c (h0.length+1)),some (.c (h0.length+3)),some (.c (h0.length+4)),some (.c (h0.length+5)),some (.d (.int k)),some (.d (.int cell)),some (.c H1.length),some (.d (.int (jn:Nat))),some (.d (.int b)),some (.d (.int e)),x13,x14]) (fun t=>by simp only [cA2,cY,List.getElem?_cons_zero,List.getElem?_cons_succ,bs,cA4,aP7 (L3.app (stL s4)).c3];try rfl) (fun t=>by simp [oE,oB]) 1000 (b+1+i12) (Nat.lt_of_le_of_lt (List.length_filter_le _ _) (by simp;omega));refine bQ [some (.d (.list (ns.map .int))),some (.d (.int many)),some (.d (.int start)),some (.c (h0.length+1)),some (.c (h0.length+3)),some (.c (h0.length+4)),some (.c (h0.length+5)),some (.d (.int k)),some (.d (.int cell)),some (.c H1.length),some (.d (.int (jn:Nat))),some (.d (.int b)),some (.d (.int e)),x13,x14] (H1++[stL s4]) hw ?_;dsimp only;clear hw;obtain ⟨c,a0,s5,ca,hask⟩:=g3 s4;refine bQ [some (.d (.list (ns.map .int))),some (.d (.int many)),some (.d (.int start)),some (.c (h0.length+1)),some (.c (h0.length+3)),some (.c (h0.length+4)),some (.c (h0.length+5)),some (.d (.int k)),some (.d (.int cell)),some (.c H1.length),some (.d (.int (jn:Nat))),some (.d (.int b)),some (.d (.int e)),some (.d c.dat),some (.d a0)] (H1++[stL s5]) (by simp [hask,bW]) ?_;dsimp only;refine aA4 (fun δ' h'=>∃ a,(a=a0\/a=wd "refused")/\δ'=[some (.d (.list (ns.map .int))),some (.d (.int many)),some (.d (.int start)),some (.c (h0.length+1)),some (.c (h0.length+3)),some (.c (h0.length+4)),some (.c (h0.length+5)),some (.d (.int k)),some (.d (.int cell)),some (.c H1.length),some (.d (.int (jn:Nat))),some (.d (.int b)),some (.d (.int e)),some (.d c.dat),some (.d a)]/\h'=H1++[stL (aZ s5 9)]) ?_ ?_
   ·by_cases q:eZ s5 9=8
    ·exact ⟨[some (.d (.list (ns.map .int))),some (.d (.int many)),some (.d (.int start)),some (.c (h0.length+1)),some (.c (h0.length+3)),some (.c (h0.length+4)),some (.c (h0.length+5)),some (.d (.int k)),some (.d (.int cell)),some (.c H1.length),some (.d (.int (jn:Nat))),some (.d (.int b)),some (.d (.int e)),some (.d c.dat),some (.d (wd "refused"))],H1++[stL (aZ s5 9)],by simp [g2,e9,q,wd,szl],wd "refused",.inr rfl,rfl,rfl⟩
    ·exact ⟨[some (.d (.list (ns.map .int))),some (.d (.int many)),some (.d (.int start)),some (.c (h0.length+1)),some (.c (h0.length+3)),some (.c (h0.length+4)),some (.c (h0.length+5)),some (.d (.int k)),some (.d (.int cell)),some (.c H1.length),some (.d (.int (jn:Nat))),some (.d (.int b)),some (.d (.int e)),some (.d c.dat),some (.d a0)],H1++[stL (aZ s5 9)],by simp [g2,e9,q],a0,.inl rfl,rfl,rfl⟩
   rintro δ H' ⟨a,ha,rfl,rfl⟩;dsimp only;generalize aZ s5 9=s6;generalize hs7:aZ s6 12=s7;have hcb:CI.condB (some (h0.length+3)) (over.map .bool) (H1++[stL s7])=true:=by
    unfold CI.condB;simp [(L3.app (stL s7)).c2,aP9]
   have cnd:aW (fun (w:W) (δ:DSt) (h:aA)=>some (List.set δ 0 (some w),h)) (xb (aB 0) YD) (aD (W.d (PyData.int 1))) (some (h0.length+3)) (over.map .bool) (over.map .bool) [none] (H1++[stL s7]) []=some ((over.filter id).map (fun _=>.int 1),H1++[stL s7]):=by
    rw [nV _ _ _ hcb (fun b=>rfl) (fun b=>rfl),List.nil_append]
   simp only [aN7] at cnd;have fk:found.length < 16777216:=by have:=I.fk;omega
   have of:=I.oc;have c2:=(L3.app (stL s7)).c2;have jo:L2.ixN 6 (jn:Int)=some jn:=vC hj
   by_cases hh:eZ s6 12=11/\(over.filter id).length < 5
   ·obtain ⟨h11,h5⟩:=hh;have L4:=(L3.s2 (over.set jn true)).s4 (found++[.tuple [.int jn,.int b,.none,c.dat,.none]]);have I4:Iv free (over.set jn true) (used++[b]) (found++[.tuple [.int jn,.int b,.none,c.dat,.none]]) (k+1):=⟨I.fl,by simp [I.ol],by have:=xU over jn;omega,by have:=I.ul;simp;omega,by simp [I.fk],fun x hx=>by
     rcases List.mem_append.mp hx with q | q
     ·exact I.sh x q
     ·rw [List.mem_singleton.mp q];exact bE2 ca jn b⟩
    refine bQ [some (.d (.list (ns.map .int))),some (.d (.int many)),some (.d (.int start)),some (.c (h0.length+1)),some (.c (h0.length+3)),some (.c (h0.length+4)),some (.c (h0.length+5)),some (.d (.int k)),some (.d (.int cell)),some (.c H1.length),some (.d (.int (jn:Nat))),some (.d (.int b)),some (.d (.int e)),some (.d c.dat),some (.d a)] ((H1.set (h0.length+3) (.l ((over.set jn true).map .bool))).set (h0.length+5) (.l (found++[.tuple [.int jn,.int b,.none,c.dat,.none]]))++[stL s7]) ?_ ⟨_,_,rfl,free,over.set jn true,used++[b],_,I4,L4.app _,_,_,_,_,_,_,_,_,rfl⟩;have ov2:=I.ol;have f4:=((L3.s2 (over.set jn true)).app (stL s7)).c4;have f5:=rG f4;have f3:(H1++[stL s7]).set (h0.length+3) (.l ((over.map .bool).set jn (.bool true)))=H1.set (h0.length+3) (.l ((over.set jn true).map .bool))++[stL s7]:=by rw [hset _ _ _ _ (by omega),List.map_set]
    have f6:(H1.set (h0.length+3) (.l ((over.set jn true).map .bool))++[stL s7]).set (h0.length+5) (.l (found++[.tuple [.int jn,.int b,.none,c.dat,.none]]))=(H1.set (h0.length+3) (.l ((over.set jn true).map .bool))).set (h0.length+5) (.l (found++[.tuple [.int jn,.int b,.none,c.dat,.none]]))++[stL s7]:=by rw [hset _ _ _ _ (by simp;omega)]
    have h5':((over.filter id).length:Int) < 5:=by omega
    simp [g2,e12,h11,hs7,c2,aQ,cnd,h5',jo,ov2,-List.map_set];simp only [f3];simp [f4,f5,fk,szl,-List.map_set];exact f6
   ·have cf:∀ δ (y:XR Bool) h,(if eZ s6 12=11 then y else aD false) δ h=(if eZ s6 12=11 then y δ h else some (false,h)):=fun δ y h=>by split<;>rfl
    have L4:=((L3.s3 (used++[b]++[e])).s1 (free.set jn (e+1))).s4 (found++[.tuple [.int jn,.int b,.int e,c.dat,a]]);have I4:Iv (free.set jn (e+1)) over (used++[b]++[e]) (found++[.tuple [.int jn,.int b,.int e,c.dat,a]]) (k+1):=⟨by simp [I.fl],I.ol,I.oc,by have:=I.ul;simp;omega,by simp [I.fk],fun x hx=>by
     rcases List.mem_append.mp hx with q | q
     ·exact I.sh x q
     ·rw [List.mem_singleton.mp q];exact bE3 ca ha jn b e⟩
    have f1:=(L3.app (stL s7)).c3;have f3:(H1++[stL s7]).set (h0.length+4) (.k (jT ((used++[b]).map uD) (.int e) (.bool true)))=H1.set (h0.length+4) (.k ((used++[b]++[e]).map uD))++[stL s7]:=by rw [xT he2,hset _ _ _ _ (by omega)]
    have L5:=(L3.s3 (used++[b]++[e]));generalize hH2:H1.set (h0.length+4) (.k ((used++[b]++[e]).map uD))=H2 at *;have lH5:=L5.ln;have f4':=(L3.app (stL s7)).c1;have f6:(H2++[stL s7]).set (h0.length+1) (.l ((free.map .int).set jn (.int (e+1))))=H2.set (h0.length+1) (.l ((free.set jn (e+1)).map .int))++[stL s7]:=by rw [hset _ _ _ _ (by omega),List.map_set]
    have f7:=((L5.s1 (free.set jn (e+1))).app (stL s7)).c4;have f8:=rG f7;have f9:(H2.set (h0.length+1) (.l ((free.set jn (e+1)).map .int))++[stL s7]).set (h0.length+5) (.l (found++[.tuple [.int jn,.int b,.int e,c.dat,a]]))=(H2.set (h0.length+1) (.l ((free.set jn (e+1)).map .int))).set (h0.length+5) (.l (found++[.tuple [.int jn,.int b,.int e,c.dat,a]]))++[stL s7]:=by rw [hset _ _ _ _ (by simp;omega)]
    refine bQ [some (.d (.list (ns.map .int))),some (.d (.int many)),some (.d (.int start)),some (.c (h0.length+1)),some (.c (h0.length+3)),some (.c (h0.length+4)),some (.c (h0.length+5)),some (.d (.int k)),some (.d (.int cell)),some (.c H1.length),some (.d (.int (jn:Nat))),some (.d (.int b)),some (.d (.int e)),some (.d c.dat),some (.d a)] ((H2.set (h0.length+1) (.l ((free.set jn (e+1)).map .int))).set (h0.length+5) (.l (found++[.tuple [.int jn,.int b,.int e,c.dat,a]]))++[stL s7]) ?_ ⟨_,_,rfl,free.set jn (e+1),over,used++[b]++[e],_,I4,L4.app _,_,_,_,_,_,_,_,_,rfl⟩;have u33:(used++[b]).length < sizeLine:=by rw [sizeLine_eq];simp;omega
    have kd:(bJ (.int e)).isSome=true:=rfl;have fl:=I.fl
    by_cases h11:eZ s6 12=11
    ·have h5':¬ ((over.filter id).length:Int) < 5:=fun z=>hh ⟨h11,by omega⟩;simp [g2,e12,h11,hs7,c2,aQ,cnd,h5',f1,kd,u33,-List.map_set,-List.map_append,-List.append_assoc,-List.length_append];simp only [f3];simp [f4',jo,fl,-List.map_set,-List.map_append];simp only [f6];simp [f7,f8,fk,szl,-List.map_set];exact f9
    ·simp [g2,e12,h11,hs7,f1,kd,u33,-List.map_set,-List.map_append,-List.append_assoc,-List.length_append];simp only [f3];simp [f4',jo,fl,-List.map_set,-List.map_append];simp only [f6];simp [f7,f8,fk,szl,-List.map_set];exact f9
 ·rintro δ H ⟨free,over,used,found,I,L,x7,x8,x9,x10,x11,x12,x13,x14,rfl⟩;dsimp only;exact ⟨h0.length+5,found,H,by simp [mH],L.tk,by omega,L.c4,I.fk,I.sh⟩
end K07
namespace K07
open PySem PySem.Spec PyProof.Rows L2 DL CI SJ
noncomputable def uH:PyData->Prop
 | .tuple xs=>(∀ x∈xs,Sh x)/\xs.length<=62
 | .list _=>True
 | .none=>True
 | .int _=>True
 | .str _=>True
 | .dict []=>True
 | _=>False
noncomputable def atZ:PyData->PyData
 | .tuple xs=>bR (due xs)
 | _=>.int (-1)
open Classical in
noncomputable def atX:XF
 | [.d x],h=>if uH x then some (atZ x,h) else none
 | _,_=>none
noncomputable def fnL (d:Nat):Str->Option XF:=fun y=>if y="_law_at" then some atX else (T.defs y).map fun _=>aE T d y
noncomputable def top (k:Nat):Stmt:=PySem.Challenge.pw_storejudge_k07_histories_looked_over.main.body.getD k (.Pass ⟨0,0,0,0⟩)
abbrev cE6:Stmt:=top 53
noncomputable def pW (d:Nat):XF:=kQ T (fnL d) (obT T (fun y=>callW T d y) (fun y=>callI T d y) fun y=>callM T d y) "law" cE6
noncomputable def YL (d:Nat):List W->XR W:=fun ws _ h=>(atX ws h).bind fun p=>some (.d p.1,p.2)
@[simp] theorem dF3 (d:Nat):YL d=fun ws _ h=>(atX ws h).bind fun p=>some (.d p.1,p.2):=rfl
noncomputable def cE7 (d:Nat) (w0:W) (h:aA):pW d [w0] h =
 YP
 (YP (bA 1 (fC (xPl (Y3 (xb (xb (Y2 (aB 0) (YJ 0)) (YF d "_law_cell_at")) (YB .FloorDiv 2)) (xb (xb (Y2 (aB 0) (YJ 0)) (YF d "_law_cell_at")) (YB .Mod 2)) (xb (Y2 (aB 0) (YJ 0)) (YF d "_law_cell_at"))))) [some w0,none,none,none,none,none,none,none,none,none] h) (YQ fun δ' p =>
 YP (bA 2 (xb (Y2 (aB 1) (YJ 13)) (YF d "_law_digit")) δ' p.2) (YQ fun δ' p =>
 YP
 (YP (xC1 CmpOp.Eq (xb (Y2 (aB 1) (YJ 8)) (YF d "_law_digit")) (YJ 7) δ' p.2) fun p =>
 if p.1=true then
 YP (bA 2 (xb (YJ 59) fun u=>xb (xb (aB 2) (YB .Mod 4)) (YO .Add u)) δ' p.2) YE
 else some (Fl.nx δ',p.2))
 (YQ fun δ' p =>
 YP (bA 3 (xb (aQ (xPl (Y2 (xb (Y2 (aB 1) (YJ 5)) (YF d "_law_digit")) (xb (xb (Y2 (aB 0) (YJ 1)) (YF d "_law_cell_at")) fun u=>xb (xb (YJ 10) (YB .Pow 30)) (YO .Mod u))))) fun x=>xb (xb (xb (Y2 (aB 1) (YJ 4)) (YF d "_law_digit")) (YB .FloorDiv 3)) (YX x)) δ' p.2) (YQ fun δ' p =>
 YP (bA 4 (xb (Y3 (aB 0) (aB 2) (aB 3)) fun (ws:List W) (x:DSt) (h:aA)=>callW T d (Str.ofString "_law_deeds") ws h) δ' p.2) (YQ fun δ' p =>
 YP (bA 1 (fC (xPl (Y3 (xb (xb (Y2 (aB 0) (YJ 2)) (YF d "_law_cell_at")) (YB .FloorDiv 2)) (xb (xb (Y2 (aB 0) (YJ 2)) (YF d "_law_cell_at")) (YB .Mod 2)) (xb (Y2 (aB 0) (YJ 2)) (YF d "_law_cell_at"))))) δ' p.2) (YQ fun δ' p =>
 YP
 (YP
 (xb (xb (Y1 (aB 4)) (YK cN))
 (YR)
 δ' p.2)
 fun (p:(List PyData×Option Nat)×aA) =>
 cF (YG 5)
 (fun (x:DSt) (x_1:aA) =>
 YP (bA 6 (xb (Y2 (aB 1) (xb (Y1 (aB 4)) (YK cN))) (YF d "_law_digit")) x x_1) (YQ fun δ' p =>
 YP
 (YP
 (xb (aB 4)
 (fun (w:W) (δ:DSt) (h:aA) =>
 if vH (Str.ofString "append") w h=true then
 YP
 (Y1 (xb (aB 4) fun (w:W) (δ:DSt) (h:aA) =>
 match w with
                           | W.c j =>
                            match h[j]? with
                            | some (Cell.l xs)=>YP (Y1 (aB 6) δ h) fun (p:List W×aA)=>aJ3 j p.1 p.2
                            | x=>none
                           | x=>none) δ h)
 fun (p:List W×aA) =>
 match w,p.1 with
                         | W.c j,[W.d x] =>
                          match p.2[j]? with
                          | some (Cell.l xs)=>if List.length xs < sizeLine then some (W.d PyData.none,List.set p.2 j (Cell.l (xs++[x]))) else none
                          | x=>none
                         | x,x_2=>none
 else none)
 δ' p.2)
 fun p=>some (Fl.nx δ',p.2))
 YE))
 (Prod.snd p.1) (Prod.fst p.1) (Prod.fst p.1) δ' p.2)
 (YQ fun δ' p =>
 YP
 (YP
 (xb (xb (Y2 (aB 1) (YJ 4)) (YF d "_law_digit"))
 (YR)
 δ' p.2)
 fun (p:(List PyData×Option Nat)×aA) =>
 cF (YG 5)
 (fun (x:DSt) (x_1:aA) =>
 YP
 (YP (xC1 CmpOp.NotEq (aB 4) (aQ (xPl (aD []))) x x_1) fun p =>
 if p.1=true then
 YP (bA 4 (xb (Y2 (aB 4) (aB 1)) fun (ws:List W) (x:DSt) (h:aA)=>callW T d (Str.ofString "_law_spoilt") ws h) x p.2) YE
 else some (Fl.nx x,p.2))
 YE)
 (Prod.snd p.1) (Prod.fst p.1) (Prod.fst p.1) δ' p.2)
 (YQ fun δ' p =>
 YP (bA 7 (xb (Y1 (aB 4)) (YF d "_law_due")) δ' p.2) (YQ fun δ' p =>
 YP (bA 8 (xb (Y1 (aB 4)) (YK gM)) δ' p.2) (YQ fun δ' p =>
 YP
 (YP (xb (xC1 CmpOp.NotEq (xb (Y1 (aB 8)) (YL d)) (aB 7)) (fun c=>if c=true then aD true else xb (xC1 CmpOp.NotEq (xb (Y1 (aB 8)) (YL d)) (aB 7)) fun c=>if c=true then aD true else xC1 CmpOp.NotEq (aB 8) (xb (Y1 (aB 4)) (YK gM))) δ' p.2) (YT2 false δ'))
 (YQ fun δ' p =>
 YP
 (YP
 (cS
 (aQ
 (xPl
 (Y5 (aQ
 (xb (Y1 (aB 4)) fun (ws:List W) (x:DSt) (h:aA) =>
 match ws with
                               | [w] =>
                                match ref h w with
                                | some (PyData.list xs)=>some (xs,h)
                                | some (PyData.tuple xs)=>some (xs,h)
                                | x=>none
                               | x=>none)) (YZ) (YJ 5) (YS "history") (aD (W.d (PyData.dict []))))))
 δ' p.2)
 fun (p:(List PyData×Option Nat)×aA) =>
 cF (YG 9)
 (fun (x:DSt) (x_1:aA) =>
 YP
 (YP
 (xC1 CmpOp.NotEq (xb (Y1 (aB 9)) (YL d))
 (xb (YJ 1) YNg)
 x x_1)
 (YT2 false x))
 YE)
 (Prod.snd p.1) (Prod.fst p.1) (Prod.fst p.1) δ' p.2)
 (YQ fun δ' p =>
 YP (YP (aD (W.d (PyData.bool true)) δ' p.2) YW) YE)))))))))))))
 (ends h):=by kernel_rfl
def Tr (r:Option (PyData×aA)):Prop:=∃ h',r=some (.bool true,h')
noncomputable def cE8 {G:aA} {i n:Nat} {ys:List PyData} (e:G[i]?=some (.l ys)) (hl:ys.length<=62) (hn:n < ys.length):aJ3 i [.d (.int n)] G=some (.d ys[n],G.set i (.l (ys.eraseIdx n))):=by
 have h1:ixN ys.length (n:Int)=some n:=vC hn;unfold aJ3;simp only [e,h1,List.getElem?_eq_getElem hn,bs];rw [if_pos ⟨by omega,by omega⟩]
noncomputable def cQ8 {G:aA} {w:W} {xs:List PyData} (r:ref G w=some (.list xs)):gM [w] G=some (.d (.tuple xs),G):=by
 unfold gM;simp only [r]
mutual
theorem nW:∀ (x:PyData) (n:Nat),aI n x=true->PyData.eqv x x=true
 | .none,_,_=>by simp [PyData.eqv]
 | .bool b,_,_=>by cases b<;>simp [PyData.eqv]
 | .int i,_,_=>by simp
 | .str s,_,_=>by simp
 | .list xs,n,h=>by
  cases n with
  | zero=>simp [aI] at h
  | succ n=>rw [PyData.eqv];exact plains_refl xs n (by simpa using h)
 | .tuple xs,n,h=>by
  cases n with
  | zero=>simp [aI] at h
  | succ n=>rw [PyData.eqv];exact plains_refl xs n (by simpa using h)
 | .dict _,n,h=>by cases n<;>simp [aI] at h
theorem plains_refl:∀ (xs:List PyData) (n:Nat),plainsB n xs=true->PyData.eqvAll xs xs=true
 | [],_,_=>by simp [PyData.eqvAll]
 | x::r,n,h=>by
  rw [aM7,Bool.and_eq_true] at h;rw [PyData.eqvAll,nW x n h.1,plains_refl r n h.2];rfl
end
noncomputable def bE5 {x:PyData} (hp:aI 64 x=true) (h:aA):xEq (.d x) (.d x) h=some true:=by
 rw [dP,hp,nW x 64 hp];rfl
theorem wG:∀ {xs:List PyData},(∀ x∈xs,Sh x)->plainsB 63 xs=true
 | [],_=>by simp
 | x::r,h=>by
  have h1:=cQ5 (h x List.mem_cons_self);have h2:=wG fun y hy=>h y (List.mem_cons_of_mem _ hy);simp [h1,h2]
noncomputable def cE9 {G:aA} {w:W} {xs:List PyData} (r:ref G w=some (.list xs)) (hs:∀ x∈xs,Sh x):xEq w (.d (.list [])) G=some (decide (xs.length=0)):=by
 have hp:aI 64 (.list xs)=true:=by rw [bA2];exact wG hs
 unfold xEq;rw [r];simp only [bK5,hp];cases xs<;>simp [PyData.eqv,PyData.eqvAll]
noncomputable def cF0 {G:aA} {xs:List PyData} (hs:∀ x∈xs,Sh x):xEq (.d (.tuple xs)) (.d (.tuple xs)) G=some true:=bE5 (by rw [aM6];exact wG hs) G
noncomputable def cF1 (x:Option Int) (G:aA):xEq (.d (bR x)) (.d (bR x)) G=some true:=by cases x<;>simp [dP,PyData.eqv]
noncomputable def bE6 {xs:List PyData} (hs:∀ x∈xs,Sh x) (hl:xs.length<=62) (G:aA):atX [.d (.tuple xs)] G=some (bR (due xs),G):=by
 unfold atX;exact if_pos ⟨hs,hl⟩
noncomputable def cF2 {x:PyData} (h:(∃ xs,x=.list xs)\/x=.none\/x=.int 5\/x=.str "history"\/x=.dict []) (G:aA):atX [.d x] G=some (.int (-1),G):=by
 rcases h with ⟨xs,rfl⟩ | rfl | rfl | rfl | rfl<;>exact if_pos trivial
def Pv (ns:List Int) (mn m i:Nat) (s2 s3:Option W) (δ:DSt) (H:aA):Prop :=
 ∃ (G:aA) (ys:List PyData) (s:S3) (x5 x6:Option W),G.length=m/\i < m/\G[i]?=some (.l ys)/\ys.length=mn/\(∀ x∈ys,Sh x)/\δ=[some (.d (.list (ns.map .int))),some (.c m),s2,s3,some (.c i),x5,x6,none,none,none]/\H=G++[stL s]
def Pw (ns:List Int) (mn m:Nat) (s2 s3:Option W) (G:aA) (δ:DSt) (H:aA):Prop :=
 ∃ (u:W) (ys:List PyData) (s:S3) (x5 x6:Option W),(∀ s,ref (G++[stL s]) u=some (.list ys))/\ys.length=mn/\(∀ x∈ys,Sh x)/\δ=[some (.d (.list (ns.map .int))),some (.c m),s2,s3,some u,x5,x6,none,none,none]/\H=G++[stL s]
noncomputable def cF3 (ns:List Int) (d:Nat):Tr (pW (d+4) [.d (.list (ns.map .int))] []):=by
 have e2:bG 2=true:=by decide
 have e3:bG 3=true:=by decide
 have e13:bG 13=true:=by decide
 have e8:bG 8=true:=by decide
 have e4:bG 4=true:=by decide
 have e5:bG 5=true:=by decide
 have ep:sT 10 30=true:=by decide
 have eP:bG (10^30)=true:=by decide
 have g1:∀ (k:Nat) h,aE T (d+4) "_law_cell_at" [.d (.list (ns.map .int)),.d (.int k)] h=some (.int (ns.getD k 0),h):=fun k h=>aO3 (d+3) h ns k;have g1a:∀ h,aE T (d+4) "_law_cell_at" [.d (.list (ns.map .int)),.d (.int 0)] h=some (.int (ns.getD 0 0),h):=g1 0;have g1b:∀ h,aE T (d+4) "_law_cell_at" [.d (.list (ns.map .int)),.d (.int 1)] h=some (.int (ns.getD 1 0),h):=g1 1;have g1c:∀ h,aE T (d+4) "_law_cell_at" [.d (.list (ns.map .int)),.d (.int 2)] h=some (.int (ns.getD 2 0),h):=g1 2;have g2:∀ (s:S3) (b:Int),0 < b->bG b=true->aE T (d+4) "_law_digit" [.c 0,.d (.int b)] [stL s]=some (.int (eZ s b),[stL (aZ s b)]):=fun s b h1 h2=>jI (d+2) [] s b h1 h2;have g3:∀ (m:Nat) (G:aA) (s:S3) (b:Int),m=G.length->0 < b->bG b=true->aE T (d+4) "_law_digit" [.c m,.d (.int b)] (G++[stL s])=some (.int (eZ s b),G++[stL (aZ s b)]):=fun m G s b e h1 h2=>by subst e;exact jI (d+2) G s b h1 h2
 have g4:=fun mn hm start h0=>bE4 d ns mn hm start h0;have g5:=fun {xs:List PyData} hs h1 hl u h i hi hw s=>aP6 (xs:=xs) hs h1 hl u h i hi hw s d;have g6:=fun {xs:List PyData} hs hl u h hL hI=>cQ6 (xs:=xs) hs hl u d h hL hI;rw [cE7];simp only [bB4,bB5,oB,bB6,bC1,cB2,bB8,bB9,oE,bC0,bC3,aN7,bC4,bC2,bB7,xK,bC5,bC6,cB9,cC0,cC1,cC2,cB7,cB3,cB4,cB5,cB6,cB8,aN8,cQ2,dF3];generalize aE T (d+4)=f at *;generalize callW T (d+4)=fw at *;generalize ns.getD 0 0=n0 at *;generalize ns.getD 1 0=n1 at *;generalize ns.getD 2 0=n2 at *;clear g1;generalize hs0:((n0 / 2,n0%2,n0):S3)=s0;refine dS (Q:=Tr) [some (.d (.list (ns.map .int))),some (.c 0),none,none,none,none,none,none,none,none] ([stL s0]) (by simp [g1a,e2,szl,<- hs0,stL]) ?_;dsimp only;obtain ⟨m0,em,hm0⟩:=cJ s0 (b:=13) (by decide);refine dS (Q:=Tr) [some (.d (.list (ns.map .int))),some (.c 0),some (.d (.int (m0:Nat))),none,none,none,none,none,none,none] ([stL (aZ s0 13)]) (by simp [g2,e13,em]) ?_;dsimp only;generalize aZ s0 13=s1;refine aP8 (Q:=Tr) (fun δ H=>∃ mn:Nat,mn<=62/\δ=[some (.d (.list (ns.map .int))),some (.c 0),some (.d (.int (mn:Nat))),none,none,none,none,none,none,none]/\H=[stL (aZ s1 8)]) ?_ ?_
 ·by_cases q:eZ s1 8=7
  ·refine ⟨[some (.d (.list (ns.map .int))),some (.c 0),some (.d (.int ((59+m0%4:Nat)))),none,none,none,none,none,none,none],[stL (aZ s1 8)],by simp [g2,e8,q,e4],59+m0%4,by omega,rfl,rfl⟩
  ·refine ⟨[some (.d (.list (ns.map .int))),some (.c 0),some (.d (.int (m0:Nat))),none,none,none,none,none,none,none],[stL (aZ s1 8)],by simp [g2,e8,q],m0,by omega,rfl,rfl⟩
 rintro _ _ ⟨mn,hmn,rfl,rfl⟩;dsimp only;generalize aZ s1 8=s2;obtain ⟨i5,e5',h5⟩:=cJ s2 (b:=5) (by decide);obtain ⟨i4,e4',h4⟩:=cJ (aZ s2 5) (b:=4) (by decide);obtain ⟨start,hst⟩:∃ start:Int,atI [PyData.int i5,.int (n1%1000000000000000000000000000000)] ((i4:Int) / 3)=some (.int start):=by
  have h0:(i4:Int) / 3=0\/(i4:Int) / 3=1:=by omega
  rcases h0 with e | e
  ·exact ⟨i5,by rw [e];simp⟩
  ·exact ⟨n1%1000000000000000000000000000000,by rw [e];simp⟩
 refine dS (Q:=Tr) [some (.d (.list (ns.map .int))),some (.c 0),some (.d (.int (mn:Nat))),some (.d (.int start)),none,none,none,none,none,none] ([stL (aZ (aZ s2 5) 4)]) (by simp [g2,e5,e4,e5',e4',g1b,ep,e3,szl,aQ,hst]) ?_;dsimp only;generalize stL (aZ (aZ s2 5) 4)=c0;obtain ⟨i,xs,H,eW,hT,hi,hx,hl,hS⟩:=g4 mn hmn start [c0];refine dS (Q:=Tr) [some (.d (.list (ns.map .int))),some (.c 0),some (.d (.int (mn:Nat))),some (.d (.int start)),some (.c i),none,none,none,none,none] (H) (by simp [eW]) ?_;dsimp only;generalize ht0:((n2 / 2,n2%2,n2):S3)=t0;refine dS (Q:=Tr) [some (.d (.list (ns.map .int))),some (.c H.length),some (.d (.int (mn:Nat))),some (.d (.int start)),some (.c i),none,none,none,none,none] (H++[stL t0]) (by simp [g1c,e2,szl,<- ht0,stL]) ?_;dsimp only;have him:i < H.length:=by
  apply Classical.byContradiction;intro z;rw [List.getElem?_eq_none (by omega)] at hx;cases hx
 have rl:=bD4 mn (by omega);have rH:ref (H++[stL t0]) (.c i)=some (.list xs):=rF (by rw [List.getElem?_append_left him];exact hx);refine aP8 (Q:=Tr) (Pv ns mn H.length i (some (.d (.int (mn:Nat)))) (some (.d (.int start)))) ?_ ?_
 ·simp only [iH,dN,cY,List.getElem?_cons_zero,List.getElem?_cons_succ,bs,uG rH,hl,rl,if_true];refine kF (Pv ns mn H.length i (some (.d (.int (mn:Nat)))) (some (.d (.int start)))) _ ?_ _ _ ⟨H,xs,t0,_,_,rfl,him,hx,hl,hS,rfl,rfl⟩;rintro x hx' δ H' ⟨G,ys,s,x5,x6,hG,hiG,hy,hly,hSy,rfl,rfl⟩;obtain ⟨k,hk,rfl⟩:=bA4 hx';have l0:(0:Int) < (mn:Int):=by omega
  have l1:bG (mn:Int)=true:=by unfold bG;simp;omega
  obtain ⟨n,en,hn⟩:=cJ s (b:=(mn:Int)) l0;have hn:n < ys.length:=by omega
  have aG:∀ x,(G++[x])[i]?=some (.l ys):=fun x=>by rw [List.getElem?_append_left (by omega)];exact hy
  refine ⟨[some (.d (.list (ns.map .int))),some (.c H.length),some (.d (.int (mn:Nat))),some (.d (.int start)),some (.c i),some (.d (.int (0+k))),x6,none,none,none],G++[stL s],by simp,?_⟩;refine bQ [some (.d (.list (ns.map .int))),some (.c H.length),some (.d (.int (mn:Nat))),some (.d (.int start)),some (.c i),some (.d (.int (0+k))),some (.d (.int n)),none,none,none] (G++[stL (aZ s mn)]) ?_ ?_
  ·have hL:=uG (w:=.c i) (rF (aG (stL s)));have:=g3 H.length G s mn hG.symm l0 l1;rw [en] at this;simp [hL,hly,this]
  dsimp only;generalize aZ s mn=s';have hp:=cE8 (aG (stL s')) (by omega) hn;have hsz:(ys.eraseIdx n).length < 16777216:=by rw [List.length_eraseIdx];split<;>omega
  have hmp:=rG (aG (stL s'));have eS:(G++[stL s']).set i (.l (ys.eraseIdx n))=G.set i (.l (ys.eraseIdx n))++[stL s']:=List.set_append_left _ _ (by omega);rw [eS] at hp;have e3:(G.set i (.l (ys.eraseIdx n))++[stL s'])[i]?=some (.l (ys.eraseIdx n)):=by rw [List.getElem?_append_left (by simp;omega),List.getElem?_set_self (by omega)]
  have e4:(G.set i (.l (ys.eraseIdx n))++[stL s']).set i (.l (ys.eraseIdx n++[ys[n]]))=G.set i (.l (ys.eraseIdx n++[ys[n]]))++[stL s']:=by rw [List.set_append_left _ _ (by simp;omega),List.set_set]
  have hq:∀ x∈ys.eraseIdx n++[ys[n]],Sh x:=fun x hx=>by
   rcases List.mem_append.mp hx with q | q
   ·exact hSy x (List.mem_of_mem_eraseIdx q)
   ·rw [List.mem_singleton.mp q];exact hSy _ (List.getElem_mem hn)
  refine bQ [some (.d (.list (ns.map .int))),some (.c H.length),some (.d (.int (mn:Nat))),some (.d (.int start)),some (.c i),some (.d (.int (0+k))),some (.d (.int n)),none,none,none] (G.set i (.l (ys.eraseIdx n++[ys[n]]))++[stL s']) ?_ ⟨_,_,rfl,G.set i (.l (ys.eraseIdx n++[ys[n]])),ys.eraseIdx n++[ys[n]],s',_,_,by simp [hG],hiG,List.getElem?_set_self (by omega),by rw [List.length_append,List.length_eraseIdx,if_pos hn];simp;omega,hq,rfl,rfl⟩;simp [aG,hmp,hp,hsz,e3,szl];exact e4
 rintro _ _ ⟨G,ys,s,x5,x6,hG,hiG,hy,hly,hSy,rfl,rfl⟩;dsimp only;have aG:∀ s,ref (G++[stL s]) (.c i)=some (.list ys):=fun s=>rF (by rw [List.getElem?_append_left (by omega)];exact hy);obtain ⟨q4,eq4,hq4⟩:=cJ s (b:=4) (by decide);have r4:=bD4 q4 (by omega);have gd:=g3 H.length G s 4 hG.symm (by decide) e4;rw [eq4] at gd;refine aP8 (Q:=Tr) (Pw ns mn H.length (some (.d (.int (mn:Nat)))) (some (.d (.int start))) G) ?_ ?_
 ·simp only [iH,dN,cY,List.getElem?_cons_zero,List.getElem?_cons_succ,bs,gd,r4,if_true];refine kF (Pw ns mn H.length (some (.d (.int (mn:Nat)))) (some (.d (.int start))) G) _ ?_ _ _ ⟨.c i,ys,_,_,_,aG,hly,hSy,rfl,rfl⟩;clear gd aG hy hly hSy;rintro x hx' δ H' ⟨u,ys,s,x5,x6,hu,hly,hSy,rfl,rfl⟩;refine ⟨[some (.d (.list (ns.map .int))),some (.c H.length),some (.d (.int (mn:Nat))),some (.d (.int start)),some u,some (.d x),x6,none,none,none],G++[stL s],by simp,?_⟩;have q0:=cE9 (hu s) hSy
  by_cases z:ys.length=0
  ·rw [decide_eq_true z] at q0;exact ⟨[some (.d (.list (ns.map .int))),some (.c H.length),some (.d (.int (mn:Nat))),some (.d (.int start)),some u,some (.d x),x6,none,none,none],G++[stL s],by simp [aQ,q0],u,ys,s,_,_,hu,hly,hSy,rfl,rfl⟩
  ·rw [decide_eq_false z] at q0;have sS:∀ s',(G++[stL s]).set H.length (stL s')=G++[stL s']:=fun s'=>by rw [<- hG,List.set_append_right _ _ (by omega),Nat.sub_self];rfl
   obtain ⟨w',s',hw',e'⟩:=g5 hSy (by omega) (by omega) u (G++[stL s]) H.length (by simp;omega) (fun s'=>by rw [sS];exact hu s') s;rw [sS,sS] at e';obtain ⟨ys',hu',hly',hSy'⟩:∃ ys',(∀ s,ref (G++[stL s]) w'=some (.list ys'))/\ys'.length=mn/\∀ x∈ys',Sh x:=by
    rcases hw' with rfl | ⟨ys',rfl,h1,h2⟩
    ·exact ⟨ys,hu,hly,hSy⟩
    ·exact ⟨ys',fun s=>rfl,by omega,h2⟩
   exact ⟨[some (.d (.list (ns.map .int))),some (.c H.length),some (.d (.int (mn:Nat))),some (.d (.int start)),some w',some (.d x),x6,none,none,none],G++[stL s'],by simp [aQ,q0,e'],w',ys',s',_,_,hu',hly',hSy',rfl,rfl⟩
 clear gd aG hy hly hSy;rintro _ _ ⟨u,ys,s,x5,x6,hu,hly,hSy,rfl,rfl⟩;dsimp only;have hu:=hu s;generalize G++[stL s]=H2 at *;have eD:=g6 hSy (by omega) u H2 (uG hu) (fun i hi=>bD8 hu i hi);have eT:=cQ8 hu;refine dS (Q:=Tr) [some (.d (.list (ns.map .int))),some (.c H.length),some (.d (.int (mn:Nat))),some (.d (.int start)),some u,x5,x6,some (.d (bR (due ys))),none,none] (H2) (by simp [eD]) ?_;dsimp only;refine dS (Q:=Tr) [some (.d (.list (ns.map .int))),some (.c H.length),some (.d (.int (mn:Nat))),some (.d (.int start)),some u,x5,x6,some (.d (bR (due ys))),some (.d (.tuple ys)),none] (H2) (by simp [eT]) ?_;dsimp only;refine dS (Q:=Tr) [some (.d (.list (ns.map .int))),some (.c H.length),some (.d (.int (mn:Nat))),some (.d (.int start)),some u,x5,x6,some (.d (bR (due ys))),some (.d (.tuple ys)),none] (H2) (by simp [bE6 hSy (by omega:ys.length<=62),cF1,eT,cF0 hSy]) ?_;dsimp only;obtain ⟨Pz,hPz⟩:∃ Pz:DSt->aA->Prop,Pz=fun δ' H'=>∃ x9,δ'=[some (.d (.list (ns.map .int))),some (.c H.length),some (.d (.int (mn:Nat))),some (.d (.int start)),some u,x5,x6,some (.d (bR (due ys))),some (.d (.tuple ys)),x9]/\H'=H2:=⟨_,rfl⟩;refine aP8 (Q:=Tr) Pz ?_ ?_
 ·simp [aQ,hu,szl];refine kF Pz _ ?_ _ _ (by rw [hPz];exact ⟨_,rfl,rfl⟩);subst hPz;rintro x hx δ H3 ⟨x9,rfl,e0⟩;subst e0;have ha:=cF2 (x:=x) (by
   simp only [List.mem_cons,List.not_mem_nil,or_false] at hx;rcases hx with rfl | rfl | rfl | rfl | rfl
   ·exact .inl ⟨_,rfl⟩
   ·exact .inr (.inl rfl)
   ·exact .inr (.inr (.inl rfl))
   ·exact .inr (.inr (.inr (.inl rfl)))
   ·exact .inr (.inr (.inr (.inr rfl)))) H3
  refine ⟨[some (.d (.list (ns.map .int))),some (.c H.length),some (.d (.int (mn:Nat))),some (.d (.int start)),some u,x5,x6,some (.d (bR (due ys))),some (.d (.tuple ys)),some (.d x)],H3,by simp,?_⟩;exact ⟨[some (.d (.list (ns.map .int))),some (.c H.length),some (.d (.int (mn:Nat))),some (.d (.int start)),some u,x5,x6,some (.d (bR (due ys))),some (.d (.tuple ys)),some (.d x)],H3,by simp [ha,dP,PyData.eqv],_,rfl,rfl⟩
 subst hPz;rintro _ _ ⟨x9,rfl,rfl⟩;dsimp only;have ok0:∀ L:aA,okP [] L:=fun L i c hi=>absurd hi (Nat.not_lt_zero _);refine ⟨[],?_⟩;simp [ok0]
end K07
namespace K07
open PySem PySem.Spec PyProof.Rows L2 DL CI
noncomputable def cF4:Stmt->List Stmt
 | .ClassDef _ _ _ b _ _ _ _ _ _ _=>b
 | _=>[]
abbrev sI:Stmt:=(cF4 (top 29)).getD 0 (.Pass ⟨0,0,0,0⟩)
noncomputable def scI:FnScope ["self","at"] ["self","at"] (aH sI):=by
 have:=eY (s:=sI) (by kernel_rfl)
 rwa [show dR sI=(["self","at"]:List Str) by kernel_rfl,show aV sI=(["self","at"]:List Str) by kernel_rfl] at this
noncomputable def bE7:∀ i:Int,-1<=i->i<=100->(Str.empty++("no history: at ":Str)++Str.ofString (toString i)).length<=sizeLine:=by
 have:∀ n:Fin 102,(Str.empty++("no history: at ":Str)++Str.ofString (toString ((n.val:Int) - 1))).length<=100:=by decide
 intro i h1 h2;have:=this ⟨(i+1).toNat,by omega⟩;rw [show (((i+1).toNat:Int) - 1)=i by omega] at this;rw [sizeLine_eq];omega
section
variable {P:Program} {w:World} {K:Frag} {mg:Str->Option Value} {base:Heap} {C CJ fI:Addr} {fd:FuncData} {k:Nat}
noncomputable def bE8 (FB:ExcBaseFacts "ValueError" "ValueError.__new__" "ValueError.__init__" nB) (F:Fun K "__init__" "NoHistory.__init__" sI fI fd) (Y:ECls K C CJ) (mJ:mg "JudgeError"=some (.ref CJ)) (hga:PySem.W.specialIn K (.ref CJ) "__getattribute__"=some (some (.builtin "type.__getattribute__")))
  (hr:PySem.W.readsIn K CJ (.type "type")=true) (hfc:PySem.W.findCls K (.ref CJ) (.type "type") "__init__"=some (.val (.builtin "ValueError.__init__"))):FnOk P w K mg base CX0 (k+1) fI fd ["self","at"] (spI C):=by
 refine F.ok scI (fun vs H Q E ⟨ea,t0,i,e,_⟩=>by subst e;rfl) fun cdv A outer s H vs Q E hroom hsp=>⟨_,dI (aN2 FB Y mJ hga hr hfc (bN (eL (i:=0) rfl (.inl rfl)) (bN (bB1 (eL (i:=1) rfl (.inl rfl)) (by decide)) fQ))) (lF (aN3 Y (eL (i:=1) rfl (.inl rfl)) (eL (i:=0) rfl (.inl rfl)))),?_⟩;obtain ⟨ea,t0,i,rfl,⟨h1,h2⟩,hH,q⟩:=hsp;have hlog:i.natAbs.log2 < 1920:=by
  have h3:i.natAbs<=100:=by omega
  have:i.natAbs.log2 < 7:=by
   by_cases z:i.natAbs=0
   ·rw [z];decide
   ·rw [Nat.log2_lt z];omega
  omega
 refine ⟨.ref ea,rfl,.int i,rfl,i,rfl,hlog,bE7 i h1 h2,fun y=>⟨ea,_,_,t0,y,rfl,hH,rfl,rfl,rfl,fun tt=>?_⟩⟩;refine ⟨.int i,rfl,.ref ea,rfl,ea,_,_,rfl,aN,rfl,rfl,rfl,fun d hd=>?_⟩;have nd:d≠ea:=fun z=>by rw [z,aN] at hd;cases hd
 rw [aF nd] at hd;have:=q tt d hd;rw [wI];exact this
end
end K07
namespace L2
open PySem PySem.Spec PyProof.Rows
section
variable {X:Cx}
noncomputable def PS.nox {st:Stmt} {t:TS} (h:PS X.nox st t):PS X st t:=fun pins s σ H D I hw =>
 wpAny_mono (h pins s σ H D (I.wish _) hw) (fun _ _ q=>q.unwish) fun _ _ z=>False.elim z
noncomputable def PG.nox {tg:Expr} {t:TG} (h:PG X.nox tg t):PG X tg t:=fun pins s σ H v u Q I r hw =>
 wpAny_mono (h pins s σ H v u Q (I.wish _) r hw) (fun _ _ ⟨σ',H',I',q⟩=>⟨σ',H',I'.unwish,q⟩) fun _ _ z=>False.elim z
noncomputable def PI.nox {tg iter:Expr} {t:TI} (h:PI X.nox tg iter t):PI X tg iter t:=fun pins s σ H R I hw =>
 wpAny_mono (h pins s σ H R (I.wish _) hw) (fun _ _ z=>wpAny_mono z (fun itv s2 ⟨it,fp,tn,J,H',e,I',T,h0,hf,r⟩=>⟨it,fp,tn,J,H',e,I'.unwish,T,h0,hf,r⟩) fun _ _ z=>False.elim z) fun _ _ z=>False.elim z
end
end L2
namespace K07
open PySem PySem.Spec PyProof.Rows L2 DL CI
theorem uI:∀ (xs:List PyData) (k:Nat),iF k xs=(List.range xs.length).map fun (i:Nat)=>PyData.tuple [.int ((k+i:Nat):Int),xs.getD i .none]
 | [],k=>rfl
 | x::r,k=>by
  rw [iF,uI r (k+1),List.length_cons,List.range_succ_eq_map,List.map_cons,List.map_map]
  congr 1
  apply List.map_congr_left;intro i _;simp only [Function.comp,Nat.succ_eq_add_one,List.getD_cons_succ];rw [show k+1+i=k+(i+1) by omega]
noncomputable def jJ (xs:List PyData):cW xs=(List.range xs.length).map fun (i:Nat)=>PyData.tuple [.int (i:Int),xs.getD i .none]:=by
 unfold cW;rw [uI];simp only [Nat.zero_add]
theorem nX {α β:Type} {g:XG} {tb:XS} {tr:DTR} {all:List PyData} {h:aA} {F:α->PyData} (fd:α->Option β) (b:β) (I:DSt->Prop):∀ (qs:List α) (δ:DSt),I δ->qs.findSome? fd=some b ->
  (∀ q∈qs,∀ δ,I δ->∃ δ1,g (.d (F q)) δ h=some (δ1,h)/\(fd q=some b->tr δ1 h)/\(fd q=none->∃ δ2,tb δ1 h=some (.nx δ2,h)/\I δ2))->tW (OfG g) (OfS tb) tr none all (qs.map F) δ h
 | [],δ,_,hf,_=>by cases hf
 | q::r,δ,i,hf,ht=>by
  obtain ⟨δ1,e1,h1,h2⟩:=ht q List.mem_cons_self δ i;rw [List.map_cons];refine ⟨trivial,?_⟩;rw [List.findSome?_cons] at hf;cases hq:fd q with
  | some b' =>
   rw [hq] at hf;cases hf;exact .inl ⟨δ1,h,e1,rfl,h1 hq⟩
  | none =>
   rw [hq] at hf;obtain ⟨δ2,e2,i2⟩:=h2 hq;exact .inr ⟨δ1,h,e1,.nx δ2,h,e2,rfl,nX fd b I r δ2 i2 hf fun y hy=>ht y (List.mem_cons_of_mem _ hy)⟩
abbrev sL:Stmt:=top 38
noncomputable def dL:T.defs "look_over"=some sL:=by kernel_rfl
noncomputable def scL:FnScope ["history","number","thing","deed"] ["history"] (aH sL):=by
 have:=eY (s:=sL) (by kernel_rfl)
 rwa [show dR sL=(["history","number","thing","deed"]:List Str) by kernel_rfl,show aV sL=(["history"]:List Str) by kernel_rfl] at this
noncomputable abbrev fnK (k:Nat):Str->Option XF:=fnT T fun y=>aE T k y
noncomputable abbrev obK (k:Nat):ObS:=obT T (fun y=>callW T k y) (fun y=>callI T k y) fun y=>callM T k y
noncomputable abbrev stK (k:Nat):Sta:=T.sta (fnK k) (obK k) "look_over" sL
noncomputable def p0:Stmt:=.Pass ⟨0,0,0,0⟩
noncomputable def ifC:Stmt->Expr
 | .If c _ _ _=>c
 | _=>.Constant .none 0 ⟨0,0,0,0⟩
noncomputable def ifB:Stmt->List Stmt
 | .If _ b _ _=>b
 | _=>[]
noncomputable def bE9:Stmt->Expr
 | .For t _ _ _ _=>t
 | _=>.Constant .none 0 ⟨0,0,0,0⟩
noncomputable def cQ9:Stmt->Expr
 | .For _ i _ _ _=>i
 | _=>.Constant .none 0 ⟨0,0,0,0⟩
noncomputable def bF0:Stmt->List Stmt
 | .For _ _ b _ _=>b
 | _=>[]
noncomputable def raC:Stmt->Expr
 | .Raise (some (.Call _ [e] _ _)) _ _=>e
 | _=>.Constant .none 0 ⟨0,0,0,0⟩
abbrev L0:Stmt:=(aX sL).getD 0 p0
abbrev L1:Stmt:=(aX sL).getD 1 p0
abbrev L2s:Stmt:=(aX sL).getD 2 p0
abbrev I1:Stmt:=(bF0 L1).getD 0 p0
abbrev I2:Stmt:=(bF0 L2s).getD 0 p0
noncomputable abbrev C1:XR Bool:=xb (xb (xb (xb (aB 0) (YI2 "tuple")) YD) fun (b:Bool)=>aD !b) (fun c=>if c=true then aD true else xC1 CmpOp.Gt (xb (Y1 (aB 0)) (YK cN)) (YJ 60))
noncomputable abbrev C2 (k:Nat):XR Bool:=xb (xb (xb (Y1 (aB 2)) (YF k "is_deed")) YD) (fun (b:Bool)=>aD !b)
noncomputable abbrev C3 (k:Nat):XR Bool:=xb (xb (xb (Y1 (aQ (xb (cS (xb (aB 0) fun (x:W)=>xb (aD none) fun (l:Option Int)=>xb (xb (aB 1) YU) (YS3 x l))) fun p δ h=>aW (YG 0) (aD true) (xb (Y2 (aB 1) (aB 0)) (YF k "go_together")) p.2 p.1 p.1 (bS [none,some 3] δ) h []))) (YK kZ)) YD) (fun (b:Bool)=>aD !b)
noncomputable abbrev En:XR (List PyData×Option Nat):=xb (aB 0) (fun (u:W) (x:DSt) (h:aA)=>match gC u with
 | some xs=>some ((cW xs,none),h)
 | none=>none)
noncomputable def dF4 (k:Nat):(evs 60).T (stK k) (ifC L0)=C1:=by kernel_rfl
noncomputable def dF5 (k:Nat):(evs 60).T (stK k) (ifC I1)=C2 k:=by kernel_rfl
noncomputable def dF6 (k:Nat):(evs 60).T (stK k) (ifC I2)=C3 k:=by kernel_rfl
noncomputable def dF7 (k:Nat):mF (evs 60) (stK k) (bE9 L1) (cQ9 L1)=En:=by kernel_rfl
noncomputable def dF8 (k:Nat):mF (evs 60) (stK k) (bE9 L2s) (cQ9 L2s)=En:=by kernel_rfl
noncomputable def dF9 (k:Nat):(evs 60).G (stK k) (bE9 L1)=bW [YG 1,YG 2]:=by kernel_rfl
noncomputable def dG0 (k:Nat):(evs 60).G (stK k) (bE9 L2s)=bW [YG 1,YG 3]:=by kernel_rfl
noncomputable def dG1 (k:Nat):(evs 60).E (stK k) (raC ((ifB L0).getD 0 p0))=xb (YJ 1) YNg:=by kernel_rfl
noncomputable def dG2 (k:Nat):(evs 60).E (stK k) (raC ((ifB I1).getD 0 p0))=aB 1:=by kernel_rfl
noncomputable def dG3 (k:Nat):(evs 60).E (stK k) (raC ((ifB I2).getD 0 p0))=aB 1:=by kernel_rfl
noncomputable abbrev IfR (c:XR Bool):XS:=fun δ h=>YP (c δ h) fun p=>if p.1=true then YP none YE else some (Fl.nx δ,p.2)
noncomputable def dG4 (k:Nat):(evs 60).S (stK k) L0=IfR C1:=by kernel_rfl
noncomputable def dG5 (k:Nat):xSs (evs 60) (stK k) (bF0 L1)=fun δ h=>YP (IfR (C2 k) δ h) YE:=by kernel_rfl
noncomputable def dG6 (k:Nat):xSs (evs 60) (stK k) (bF0 L2s)=fun δ h=>YP (IfR (C3 k) δ h) YE:=by kernel_rfl
noncomputable def cR0 (k:Nat):(evs 60).S (stK k) L1=fun δ h=>YP (En δ h) fun p=>cF (bW [YG 1,YG 2]) (fun δ h=>YP (IfR (C2 k) δ h) YE) (Prod.snd p.1) (Prod.fst p.1) (Prod.fst p.1) δ p.2:=by kernel_rfl
noncomputable def c1B:PyData->Bool
 | .tuple xs=>decide (60 < xs.length)
 | _=>true
noncomputable def cF5 {x:PyData} (hx:uH x) (h:aA):C1 [some (.d x),none,none,none] h=some (c1B x,h):=by
 unfold uH at hx;split at hx
 ·by_cases z:60 < List.length ‹List PyData›
  ·have z':(60:Int) < (List.length ‹List PyData›:Nat):=by omega
   simp [C1,c1B,z,z',isi,dF]
  ·have z':¬ (60:Int) < (List.length ‹List PyData›:Nat):=by omega
   simp [C1,c1B,z,z',isi,dF]
 all_goals first | exact hx.elim | simp [C1,c1B,isi,dF]
noncomputable def cR1 {xs:List PyData} (hs:∀ x∈xs,Sh x) (d:Nat) (w:W) (i:Option W) {x:PyData} (hx:x∈xs) (u:Option W) (h:aA):C2 (d+10) [some w,i,some (.d x),u] h=some (!dd x,h):=by
 have:=(rC (hs x hx) d h).1;simp [C2,this]
noncomputable def cR2 {xs:List PyData} (hs:∀ x∈xs,Sh x) (h1:oN xs=none) (hl:xs.length<=60) (d:Nat) (i:Nat) (hi:i < xs.length) (u:Option W) (h:aA):C3 (d+10) [some (.d (.tuple xs)),some (.d (.int i)),u,some (.d (xs.getD i .none))] h=some (!cl xs i,h):=by
 have hx:=cD hi;have ex:=jH h1 hi;have e1:xs.take i=(List.range i).map fun k=>xs.getD k .none:=by
  apply List.ext_getElem
  ·simp;omega
  ·intro n h1 h2;simp at h1 h2;rw [List.getElem_take,List.getElem_map,List.getElem_range,List.getD_eq_getElem?_getD,List.getElem?_eq_getElem (by omega)];rfl
 have g:∀ q∈List.range i,aE T (d+10) "go_together" [.d (xs.getD i .none),.d (xs.getD q .none)] h=some (.bool (tg (xs.getD i .none) (xs.getD q .none)),h):=fun q hq=>by
  have hq:=List.mem_range.mp hq;exact (go_of (hs _ hx) (hs _ (cD (by omega))) ex (jH h1 (by omega)) (d+8) h).1
 have hb:dJ ((List.range i).map fun q=>PyData.bool (tg (xs.getD i .none) (xs.getD q .none)))=some ((List.range i).map fun q=>tg (xs.getD i .none) (xs.getD q .none)):=by
  generalize List.range i=ts;induction ts with
  | nil=>rfl
  | cons t r ih=>simp only [List.map_cons,dJ,ih];rfl
 have ct:=aP5 xs (m:=i) (by omega);unfold cl;generalize xs.getD i .none=x at *;have hc:∀ {te:XR W} all,(∀ q∈List.range i,te [some (.d (xs.getD q .none)),some (.d x)] h=some (.d (.bool (tg x (xs.getD q .none))),h))->aW (fun (w:W) (δ:DSt) (h:aA)=>some (List.set δ 0 (some w),h)) (aD true) te none all ((List.range i).map fun k=>xs.getD k .none) [none,some (.d x)] h []=some ((List.range i).map fun q=>.bool (tg x (xs.getD q .none)),h):=fun {te} all hte=>by
  rw [rD (fun k=>xs.getD k .none) (fun _=>true) (fun q=>.bool (tg x (xs.getD q .none))) (fun δ=>∃ u,δ=[u,some (.d x)]) (List.range i) _ _ ⟨_,rfl⟩,kX,List.nil_append];rintro q hq δ ⟨u,rfl⟩;exact ⟨[some (.d (xs.getD q .none)),some (.d x)],by simp,⟨_,rfl⟩,rfl,fun _=>hte q hq⟩
 have hall:∀ h,kZ [.d (.list ((List.range i).map fun q=>PyData.bool (tg x (xs.getD q .none))))] h=some (.d (.bool ((List.range i).all fun q=>tg x (xs.getD q .none))),h):=fun h=>by
  rw [tN,hb,Option.map_some,List.all_map];rfl
 unfold C3;simp [ct,e1,aQ,-tN,-List.getD_eq_getElem?_getD];rw [hc _ (fun q hq=>by simp [g q hq,-List.getD_eq_getElem?_getD])];simp [hall,-tN,-List.getD_eq_getElem?_getD]
def bF1 (n:Int) (ws:List W):Prop:=∃ x,ws=[.d x]/\uH x/\atZ x=.int n
section
variable {P:Program} {w:World} {K:Frag} {mg:Str->Option Value} {base:Heap} {C fI f:Addr} {fd fdI:FuncData} {d:Nat} {n:Int}
noncomputable def aQ0 {xs:List PyData} {i:Nat} {F:Nat->Option Nat} (hF:∀ q b,F q=some b->b=q) (h:(List.range xs.length).findSome? F=some i):i < xs.length:=by
 obtain ⟨q,hq,e⟩:=List.exists_of_findSome?_eq_some h;rw [hF q i e];exact List.mem_range.mp hq
noncomputable def bL4 {xs:List PyData} (q b:Nat) (e:f1 xs q=some b):b=q:=by
 unfold f1 at e;split at e
 ·cases e
 ·cases e;rfl
noncomputable def bL5 {xs:List PyData} (q b:Nat) (e:f2 xs q=some b):b=q:=by
 unfold f2 at e;split at e
 ·cases e
 ·cases e;rfl
noncomputable def aQ1 {g g':XG} {tb tb':XS} {tr:DTR} {c:Option Nat} {all xs:List PyData} {δ:DSt} {h:aA} (e1:g'=g) (e2:tb'=tb) (r:tW (OfG g) (OfS tb) tr c all xs δ h):tW (OfG g') (OfS tb') tr c all xs δ h:=by
 subst e1 e2;exact r
noncomputable def xV {xs:List PyData} (hs:∀ x∈xs,Sh x) (d:Nat) (h:aA) (a u:Option W) {x:PyData} (hx:x∈xs) (e:dd x=true):YP (IfR (C2 (d+10)) [some (.d (.tuple xs)),a,some (.d x),u] h) YE=some (.nx [some (.d (.tuple xs)),a,some (.d x),u],h):=by
 have:=cR1 hs d (.d (.tuple xs)) a hx u h;rw [e] at this;unfold IfR;rw [this];rfl
noncomputable def xW {xs:List PyData} (hs:∀ x∈xs,Sh x) (h1:oN xs=none) (hl:xs.length<=60) (d:Nat) (h:aA) (u:Option W) {i:Nat} (hi:i < xs.length) (e:cl xs i=true):YP (IfR (C3 (d+10)) [some (.d (.tuple xs)),some (.d (.int i)),u,some (.d (xs.getD i .none))] h) YE=some (.nx [some (.d (.tuple xs)),some (.d (.int i)),u,some (.d (xs.getD i .none))],h):=by
 have:=cR2 hs h1 hl d i hi u h;rw [e] at this;unfold IfR;rw [this];rfl
noncomputable def bL6 {xs:List PyData} (hs:∀ x∈xs,Sh x) (h1:oN xs=none) (d:Nat) (h:aA):∃ a b,((evs 60).S (stK (d+10)) L1) [some (.d (.tuple xs)),none,none,none] h=some (.nx [some (.d (.tuple xs)),a,b,none],h):=by
 rw [cR0];have:=forX_find (all:=cW xs) (g:=bW [YG 1,YG 2]) (tb:=fun δ h=>YP (IfR (C2 (d+10)) δ h) YE) (h:=h) (fun (i:Nat)=>PyData.tuple [.int (i:Int),xs.getD i .none]) (f1 xs) (fun _=>.d .none) (fun δ=>∃ a b,δ=[some (.d (.tuple xs)),a,b,none]) (List.range xs.length) (δ:=[some (.d (.tuple xs)),none,none,none]) ⟨_,_,rfl⟩ (by
  rintro q hq δ ⟨a,b,rfl⟩;have hq:=List.mem_range.mp hq;refine ⟨[some (.d (.tuple xs)),some (.d (.int q)),some (.d (xs.getD q .none)),none],by simp [bW],.inr ⟨List.findSome?_eq_none_iff.mp h1 q (List.mem_range.mpr hq),_,xV hs d h _ _ (cD hq) (jH h1 hq),_,_,rfl⟩⟩)
 rcases this with ⟨b,e,_⟩ | ⟨_,δ',⟨a,b,rfl⟩,e⟩
 ·have h1':(List.range xs.length).findSome? (f1 xs)=none:=h1;rw [h1'] at e;cases e
 ·refine ⟨a,b,?_⟩;rw [<- jJ] at e;rw [<- e];rfl
noncomputable def cF6 (TT:TopOk T P w K mg base) (F:Fun K "look_over" "look_over" sL f fd) (FB:ExcBaseFacts "ValueError" "ValueError.__new__" "ValueError.__init__" nB) (O:OwnI "NoHistory" C fI mg base) (FI:FnOk P w K mg base CX0 1 fI fdI ["self","at"] (spI C)) (hb:Binds K fdI ["self","at"] []) :
  FnOk P w K mg base (CXI P w C) (d+10+1) f fd ["history"] (aN4 K C n (bF1 n)):=by
 refine cP9 F scL (fun ws ⟨x,e,_⟩=>by subst e;rfl) fun cdv A outer s H E hr ws h hw=>?_;have G:bK ((gB (CXI P w C) P w K mg base ["history","number","thing","deed"] "look_over" (aH sL) f cdv A outer s H E).nox) (stK (d+10)) (d+10):=by
  have:=lN (x:="look_over") (E:=E) (H:=H) (outer:=outer) TT (mW TT (d+10)) (show fnB sL=true by kernel_rfl) hr;rw [show dR sL=(["history","number","thing","deed"]:List Str) by kernel_rfl] at this;exact this
 have S:=jF 60;have hr2:Room 2 (A.deeper (envOfC "look_over" (aH sL) s.heap.objs.size f cdv)):=hr.mono (by omega);obtain ⟨x,rfl,hx,hz⟩:=hw;cases q1:c1B x with
 | true =>
  have en:n=-1:=by
   cases x with
   | tuple xs =>
    have:due xs=some (-1):=by unfold due;rw [if_pos (by simpa [c1B] using q1)]
    simp only [atZ,this,gT] at hz;injection hz with hz
    exact hz.symm
   | _=>first | (simp only [atZ] at hz;injection hz with hz;exact hz.symm)
  subst en;refine ⟨_,fO (vS (PT.nox (S.T G _)) (kH FB O FI hb hr2 iS (dH (PE.nox (S.E G _)) gG))),?_⟩;refine ⟨true,h,?_,rfl,rfl,.d (.int (-1)),h,?_,rfl,rfl,by decide,by decide⟩
  ·refine (congrFun (congrFun (dF4 (d+10)) _) _).trans ?_;have:=cF5 hx h;rw [q1] at this;exact this
  ·exact (congrFun (congrFun (dG1 (d+10)) _) _).trans rfl
 | false =>
  cases x with
  | tuple xs =>
   obtain ⟨hs,_⟩:=hx;have hl:xs.length<=60:=by
    have:¬ 60 < xs.length:=by simpa [c1B] using q1
    omega
   have e0:((evs 60).S (stK (d+10)) L0) [some (.d (.tuple xs)),none,none,none] h=some (.nx [some (.d (.tuple xs)),none,none,none],h):=by
    rw [dG4];have:=cF5 (x:=.tuple xs) ⟨hs,by omega⟩ h;rw [q1] at this;unfold IfR;rw [this];rfl
   have ei:En [some (.d (.tuple xs)),none,none,none] h=some ((cW xs,none),h):=rfl;have ed:due xs=some n:=by
    cases q:due xs with
    | none=>simp only [atZ,q,nO] at hz;cases hz
    | some m=>simp only [atZ,q,gT] at hz;injection hz with hz;rw [hz]
   unfold due at ed;rw [if_neg (by omega)] at ed;cases q2:oN xs with
   | some i =>
    rw [q2] at ed;injection ed with ed
    subst ed;have hi:=aQ0 (xs:=xs) bL4 q2;refine ⟨_,qU (PS.nox (S.S G _)) (fO (xI (pR rfl) rfl (PI.nox (mQ S G _)) (PG.nox (S.G G _)) (PSs.nox (iG S G _)) (fO (vS (PT.nox (S.T G _)) (kH FB O FI hb hr2 iS (dH (PE.nox (S.E G _)) gG)))))),?_⟩;refine ⟨.nx [some (.d (.tuple xs)),none,none,none],h,e0,rfl,cW xs,none,h,(congrFun (congrFun (dF7 (d+10)) _) _).trans ei,rfl,aQ1 (dF9 _) (dG5 _) ?_⟩;have hq:=nX (all:=cW xs) (g:=bW [YG 1,YG 2]) (tb:=fun δ h=>YP (IfR (C2 (d+10)) δ h) YE) (h:=h) (F:=fun (i:Nat)=>PyData.tuple [.int (i:Int),xs.getD i .none]) (tr:=fun δ h=>Of ((evs 60).T (stK (d+10)) (ifC I1)) δ h fun b h1=>h1=h/\b=true/\aF2 (Of ((evs 60).E (stK (d+10)) (raC ((ifB I1).getD 0 p0)))) vA δ h fun ws h1=>h1=h/\ws=[.d (.int i)]/\(-1<=(i:Int)/\(i:Int)<=100))
     (f1 xs) i (fun δ=>∃ a b,δ=[some (.d (.tuple xs)),a,b,none]) (List.range xs.length) [some (.d (.tuple xs)),none,none,none] ⟨_,_,rfl⟩ q2 (by
      rintro q hq δ ⟨a,b,rfl⟩;have hq:=List.mem_range.mp hq;refine ⟨[some (.d (.tuple xs)),some (.d (.int q)),some (.d (xs.getD q .none)),none],by simp [bW],fun e=>?_,fun e=>⟨_,xV hs d h _ _ (cD hq) ?_,_,_,rfl⟩⟩
      ·have:=bL4 q i e;subst this;refine ⟨true,h,(congrFun (congrFun (dF5 (d+10)) _) _).trans ?_,rfl,rfl,.d (.int i),h,(congrFun (congrFun (dG2 (d+10)) _) _).trans rfl,rfl,rfl,by omega,by omega⟩;rw [cR1 hs d (.d (.tuple xs)) _ (cD hq)];unfold f1 at e;split at e
       ·cases e
       ·rename_i z;rw [Bool.not_eq_true] at z;rw [z];rfl
      ·unfold f1 at e;split at e
       ·assumption
       ·cases e)
    rw [<- jJ] at hq;exact hq
   | none =>
    rw [q2] at ed;cases q3:wF xs with
    | none=>rw [q3] at ed;cases ed
    | some i =>
     rw [q3] at ed;injection ed with ed
     subst ed;have hi:=aQ0 (xs:=xs) bL5 q3;obtain ⟨a0,b0,el⟩:=bL6 hs q2 d h;refine ⟨_,qU (PS.nox (S.S G _)) (qU (PS.nox (S.S G _)) (fO (xI (pR rfl) rfl (PI.nox (mQ S G _)) (PG.nox (S.G G _)) (PSs.nox (iG S G _)) (fO (vS (PT.nox (S.T G _)) (kH FB O FI hb hr2 iS (dH (PE.nox (S.E G _)) gG))))))),?_⟩;refine ⟨.nx [some (.d (.tuple xs)),none,none,none],h,e0,rfl,.nx [some (.d (.tuple xs)),a0,b0,none],h,el,rfl,cW xs,none,h,(congrFun (congrFun (dF8 (d+10)) _) _).trans rfl,rfl,aQ1 (dG0 _) (dG6 _) ?_⟩;have hq:=nX (all:=cW xs) (g:=bW [YG 1,YG 3]) (tb:=fun δ h=>YP (IfR (C3 (d+10)) δ h) YE) (h:=h) (F:=fun (i:Nat)=>PyData.tuple [.int (i:Int),xs.getD i .none]) (tr:=fun δ h=>Of ((evs 60).T (stK (d+10)) (ifC I2)) δ h fun b h1=>h1=h/\b=true/\aF2 (Of ((evs 60).E (stK (d+10)) (raC ((ifB I2).getD 0 p0)))) vA δ h fun ws h1=>h1=h/\ws=[.d (.int i)]/\(-1<=(i:Int)/\(i:Int)<=100))
      (f2 xs) i (fun δ=>∃ a b,δ=[some (.d (.tuple xs)),a,b0,b]) (List.range xs.length) [some (.d (.tuple xs)),a0,b0,none] ⟨_,_,rfl⟩ q3 (by
       rintro q hq δ ⟨a,b,rfl⟩;have hq:=List.mem_range.mp hq;refine ⟨[some (.d (.tuple xs)),some (.d (.int q)),b0,some (.d (xs.getD q .none))],by simp [bW],fun e=>?_,fun e=>⟨_,xW hs q2 hl d h _ hq ?_,_,_,rfl⟩⟩
       ·have:=bL5 q i e;subst this;refine ⟨true,h,(congrFun (congrFun (dF6 (d+10)) _) _).trans ?_,rfl,rfl,.d (.int i),h,(congrFun (congrFun (dG3 (d+10)) _) _).trans rfl,rfl,rfl,by omega,by omega⟩;rw [cR2 hs q2 hl d i hq];unfold f2 at e;split at e
        ·cases e
        ·rename_i z;rw [Bool.not_eq_true] at z;rw [z];rfl
       ·unfold f2 at e;split at e
        ·assumption
        ·cases e)
     rw [<- jJ] at hq;exact hq
  | _=>first | cases q1
end
abbrev sA:Stmt:=top 52
noncomputable def dA:T.defs "_law_at"=some sA:=by kernel_rfl
noncomputable def scA:FnScope ["_law_history","_law_error","e"] ["_law_history"] (aH sA):=by
 have:=eY (s:=sA) (by kernel_rfl)
 rwa [show dR sA=(["_law_history","_law_error","e"]:List Str) by kernel_rfl,show aV sA=(["_law_history"]:List Str) by kernel_rfl] at this
structure Er (K:Frag) (mg:Str->Option Value) (base:Heap) (C CJ fI cL cP cR cT:Addr):Prop where
 O:OwnI "NoHistory" C fI mg base
 Z:XCls K C
 Y:ECls K C CJ
 mJ:mg "JudgeError"=some (.ref CJ)
 hJ:PySem.W.exmOne K (.ref C) (.ref CJ)=some true
 hga:PySem.W.specialIn K (.ref CJ) "__getattribute__"=some (some (.builtin "type.__getattribute__"))
 hr:PySem.W.readsIn K CJ (.type "type")=true
 hfc:PySem.W.findCls K (.ref CJ) (.type "type") "__init__"=some (.val (.builtin "ValueError.__init__"))
 mL:mg "NoLine"=some (.ref cL)
 mP:mg "NoProblem"=some (.ref cP)
 mR:mg "NoPromise"=some (.ref cR)
 mT:mg "NoText"=some (.ref cT)
 k4:PySem.W.kitAny K (.ref C) [.ref cL,.ref cP,.ref cR,.ref cT]=some false
 kC:PySem.W.kitOne K (.ref C) (.ref C)=some true
 mV:mg "ValueError"=none
 kV:PySem.W.kitOne K (.ref C) (.type "ValueError")=some true
section
variable {P:Program} {w:World} {K:Frag} {mg:Str->Option Value} {base:Heap} {C CJ fI cL cP cR cT fl f:Addr} {fd fdl:FuncData} {d:Nat}
noncomputable def cR3 (F:Fun K "_law_at" "_law_at" sA f fd) (X:Er K mg base C CJ fI cL cP cR cT) (hm:mg "isinstance"=none) (hmi:mg "int"=none) (Fl:Fun K "look_over" "look_over" sL fl fdl) (ml:mg "look_over"=some (.ref fl)) (bl:Binds K fdl ["history"] [])
  (N:∀ n,FnOk P w K mg base (CXI P w C) (d+11) fl fdl ["history"] (aN4 K C n (bF1 n))) :
  FnOk P w K mg base CX0 (d+11+1) f fd ["_law_history"] (fun vs H Q E=>∃ x n h A μ,HeapRep K A μ h H/\fY K A μ H [.d x] vs/\uH x/\atZ x=.int n/\∀ H',Ext A A μ μ H H'->HeapRep K A μ h H'->Q (.int n) H'):=by
 refine F.ok scA (fun vs H Q E ⟨x,n,h,A,μ,_,r,_⟩=>by rw [eG r];rfl) fun cdv A outer s H vs Q E hroom hsp=>?_;obtain ⟨x,n,h,B,μ,R,r,hx,hz,c⟩:=hsp;refine ⟨_,dI (lQ scA.nd (i:=1) rfl (.inl rfl) aC5) (dI (bB2 (C:=C) (CJ:=CJ) (i:=2) (tb:=fun E σ H=>∃ v,σ[0]?=some (some v)/\aN4 K C n (bF1 n) [v] H (fun _ _=>False) E) ⟨rfl,rfl,rfl⟩ X.mJ X.hJ scA.nd rfl rfl ?_ (fun ea oe=>lF (lQ scA.nd (i:=1) rfl (.inl rfl) (eL (i:=2) rfl (.inl rfl)))))
  (dI (wK (bM4 (bM3 (eL (i:=1) rfl (.inl rfl)))) jK pY)
  (dI (wK (PW.pt (bF4 (uK (aN6 (i:=1) X.Z hm X.mL X.mP X.mR X.mT X.k4 rfl rfl rfl rfl (by decide) (by decide) (by decide) (by decide) rfl (.inl rfl) rfl (by decide) (by decide))) (aC6 (aC7 (uK (xJ (i:=1) (cv:=.ty "ValueError") (cu:=.type "ValueError") X.Z hm (wJ rfl X.mV rfl rfl (by decide) (by decide)) (fun u r=>by cases r;rfl) X.kV)))))) jK pY)
  (lF (aD1 (wR qB (aD9 (bN (cQ1 (i:=1) (j:=n) X.Z X.Y) (bN uJ fQ))) (jL yE rfl hmi rfl (bN (aC8 (xJ (i:=1) (cv:=.ref C) (cu:=.ref C) X.Z hm (dW rfl X.O.bound rfl) (fun u r=>by cases r;rfl) X.kC)) fQ)) (fun _ _=>rfl))))))),?_⟩
 ·intro Ex E pins s σ H hE I q;obtain ⟨v,ev,q⟩:=q;refine wpAny_execs_cons (wpAny_If (wpAny_isTrue_Compare1 (wpAny_mono (tR (N n) hroom rfl ml Fl.kp bl (bN (eL (i:=0) rfl (.inl rfl)) fQ) I ⟨v,ev,q⟩ hE) (fun _ _ z=>z.elim) fun _ _ z=>z) rfl))
 ·obtain ⟨v,rfl,rv⟩:=cV r;refine ⟨fun c dO H2=>c=.ref C/\∃ d,dO=some d/\d∉B/\Ext B B μ μ H H2/\HeapRep K B μ h H2/\H2 d=some (.xd [("at",.int n)]),⟨v,rfl,[.d x],h,B,μ,R,r,⟨x,rfl,hx,hz⟩,fun H' D x' R' nD e=>⟨rfl,D,rfl,nD,x',R',e⟩⟩,?_⟩;rintro d H2 ⟨_,d',ed,nD,x',R',hxd⟩ ea oe nE er;cases ed;refine ⟨.ref ea,rfl,fun nE=>?_⟩;have nd:d≠ea:=fun z=>by rw [z,nE] at hxd;cases hxd
  have x3:=x'.trans (bB (o:=isO ea oe) nE);have R3:=R'.fresh (o:=isO ea oe) nE;have h3:upd H2 ea (isO ea oe) ea=some (isO ea oe):=aN;have d3:upd H2 ea (isO ea oe) d=some (.xd [("at",.int n)]):=by rw [aF nd];exact hxd
  generalize upd H2 ea (isO ea oe)=H3 at *;refine ⟨.ref ea,rfl,false,rfl,?_⟩;refine ⟨ea,oe,⟨rfl,h3,er.1⟩,fun tp ntp=>⟨false,rfl,?_⟩⟩;have x4:=x3.trans (bB (o:=.tup [.ref cL,.ref cP,.ref cR,.ref cT]) ntp);have R4:=R3.fresh (o:=.tup [.ref cL,.ref cP,.ref cR,.ref cT]) ntp;have h4:upd H3 tp (.tup [.ref cL,.ref cP,.ref cR,.ref cT]) ea=some (isO ea oe):=by rw [aF (fun z=>by rw [z,ntp] at h3;cases h3)];exact h3
  have d4:upd H3 tp (.tup [.ref cL,.ref cP,.ref cR,.ref cT]) d=some (.xd [("at",.int n)]):=by rw [aF (fun z=>by rw [z,ntp] at d3;cases d3)];exact d3
  generalize upd H3 tp (.tup [.ref cL,.ref cP,.ref cR,.ref cT])=H4 at *;refine ⟨ea,oe,⟨rfl,h4,er.1⟩,true,rfl,?_⟩;refine ⟨ea,oe,d,⟨rfl,h4,er.1⟩,er,d4,(by decide:(2:Nat)<=sizeLine),fun lp nlp=>?_⟩;have x5:=x4.trans (bB (o:=.lst [.int n,.str "other"]) nlp);have R5:=R4.fresh (o:=.lst [.int n,.str "other"]) nlp;have h5:upd H4 lp (.lst [.int n,.str "other"]) ea=some (isO ea oe):=by rw [aF (fun z=>by rw [z,nlp] at h4;cases h4)];exact h4
  have l5:upd H4 lp (.lst [.int n,.str "other"]) lp=some (.lst [.int n,.str "other"]):=aN;refine ⟨ea,oe,⟨rfl,h5,er.1⟩,true,rfl,.inr ⟨false,rfl,lp,[.int n,.str "other"],0,.int n,rfl,rfl,.inl (.inl l5),rfl,c _ x5 R5⟩⟩
end
noncomputable def aQ2 {xs:List PyData} (h:due xs=none):xs.length<=60/\oN xs=none/\wF xs=none:=by
 unfold due at h;split at h
 ·cases h
 ·rename_i hl;cases q:oN xs with
  | some i=>rw [q] at h;cases h
  | none =>
   rw [q] at h;exact ⟨by omega,rfl,by
    cases q2:wF xs with
    | none=>rfl
    | some i=>rw [q2] at h;cases h⟩
noncomputable def cF7 {xs:List PyData} (hs:∀ x∈xs,Sh x) (h:due xs=none) (d:Nat) (G:aA):aE T (d+10+1) "look_over" [.d (.tuple xs)] G=some (.none,G):=by
 obtain ⟨hl,h1,h2⟩:=aQ2 h;have e0:IfR C1 [some (.d (.tuple xs)),none,none,none] G=some (.nx [some (.d (.tuple xs)),none,none,none],G):=by
  have:=cF5 (x:=.tuple xs) ⟨hs,by omega⟩ G;rw [show c1B (.tuple xs)=false by simp [c1B];omega] at this;unfold IfR;rw [this];rfl
 obtain ⟨a,b,e1⟩:=bL6 hs h1 d G;rw [cR0] at e1
 replace e1:(YP (En [some (.d (.tuple xs)),none,none,none] G) fun p=>cF (bW [YG 1,YG 2]) (fun δ h=>YP (IfR (C2 (d+10)) δ h) YE) (Prod.snd p.1) (Prod.fst p.1) (Prod.fst p.1) [some (.d (.tuple xs)),none,none,none] p.2)=some (.nx [some (.d (.tuple xs)),a,b,none],G):=e1
 have e2:=forX_find (all:=cW xs) (g:=bW [YG 1,YG 3]) (tb:=fun δ h=>YP (IfR (C3 (d+10)) δ h) YE) (h:=G) (fun (i:Nat)=>PyData.tuple [.int (i:Int),xs.getD i .none]) (f2 xs) (fun _=>.d .none) (fun δ=>∃ a c,δ=[some (.d (.tuple xs)),a,b,c]) (List.range xs.length) (δ:=[some (.d (.tuple xs)),a,b,none]) ⟨_,_,rfl⟩ (by
  rintro q hq δ ⟨a,c,rfl⟩;have hq:=List.mem_range.mp hq;have hf:=List.findSome?_eq_none_iff.mp h2 q (List.mem_range.mpr hq);refine ⟨[some (.d (.tuple xs)),some (.d (.int q)),b,some (.d (xs.getD q .none))],by simp [bW],.inr ⟨hf,_,xW hs h1 hl d G _ hq ?_,_,_,rfl⟩⟩;unfold f2 at hf;split at hf
  ·assumption
  ·cases hf)
 rcases e2 with ⟨b,e,_⟩ | ⟨_,δ',⟨a',c',rfl⟩,e2⟩
 ·have h2':(List.range xs.length).findSome? (f2 xs)=none:=h2;rw [h2'] at e;cases e
 rw [<- jJ] at e2;rw [uB];show (YP (YP (IfR C1 [some (.d (.tuple xs)),none,none,none] G) (YQ fun δ' p=>YP (YP (En δ' p.2) fun p=>cF (bW [YG 1,YG 2]) (fun δ h=>YP (IfR (C2 (d+10)) δ h) YE) (Prod.snd p.1) (Prod.fst p.1) (Prod.fst p.1) δ' p.2) (YQ fun δ' p=>YP (YP (En δ' p.2) fun p=>cF (bW [YG 1,YG 3]) (fun δ h=>YP (IfR (C3 (d+10)) δ h) YE) (Prod.snd p.1) (Prod.fst p.1) (Prod.fst p.1) δ' p.2) YE))) (ends G))=_;rw [e0];show (YP (YP (YP (En [some (.d (.tuple xs)),none,none,none] G) fun p=>cF (bW [YG 1,YG 2]) (fun δ h=>YP (IfR (C2 (d+10)) δ h) YE) (Prod.snd p.1) (Prod.fst p.1) (Prod.fst p.1) [some (.d (.tuple xs)),none,none,none] p.2) (YQ fun δ' p=>YP (YP (En δ' p.2) fun p=>cF (bW [YG 1,YG 3]) (fun δ h=>YP (IfR (C3 (d+10)) δ h) YE) (Prod.snd p.1) (Prod.fst p.1) (Prod.fst p.1) δ' p.2) YE)) (ends G))=_;rw [e1];show (YP (YP (cF (bW [YG 1,YG 3]) (fun δ h=>YP (IfR (C3 (d+10)) δ h) YE) none (cW xs) (cW xs) [some (.d (.tuple xs)),a,b,none] G) YE) (ends G))=_;rw [e2];simp [oE,oB]
noncomputable abbrev stA (k:Nat):Sta:=T.sta (fnK k) (obK k) "_law_at" sA
noncomputable def dG7:Stmt->List Stmt
 | .Try b _ _ _ _=>b
 | _=>[]
noncomputable def dG8 (k:Nat):(evs 60).S (stA k) ((aX sA).getD 0 p0)=bA 1 YZ:=by kernel_rfl
noncomputable def dG9 (k:Nat):(evs 60).S (stA k) ((aX sA).getD 2 p0)=fun δ h=>YP (xC1 CmpOp.Is (aB 1) YZ δ h) fun p=>if p.1=true then YP (YP (YZ δ p.2) YW) YE else some (Fl.nx δ,p.2):=by kernel_rfl
noncomputable def dH0 (k:Nat):xSs (evs 60) (stA k) (dG7 ((aX sA).getD 1 p0))=fun δ h=>YP (YP (xC1 CmpOp.IsNot (xb (Y1 (aB 0)) (YF k "look_over")) YZ δ h) fun p=>if p.1=true then YP (YP (YS "told" δ p.2) YW) YE else some (Fl.nx δ,p.2)) YE:=by kernel_rfl
open Classical in
noncomputable def at0:XF
 | [.d x],h=>if uH x/\atZ x=.none then some (.none,h) else none
 | _,_=>none
section
variable {P:Program} {w:World} {K:Frag} {mg:Str->Option Value} {base:Heap} {f:Addr} {fd:FuncData} {d:Nat}
noncomputable def aQ3 {ws:List W} {h h':aA} {z:PyData} (e:at0 ws h=some (z,h')):∃ xs,ws=[.d (.tuple xs)]/\(∀ x∈xs,Sh x)/\due xs=none/\z=.none/\h'=h:=by
 unfold at0 at e;split at e
 ·split at e
  ·rename_i x hp;cases e;obtain ⟨h1,h2⟩:=hp;cases x with
   | tuple xs =>
    refine ⟨xs,rfl,h1.1,?_,rfl,rfl⟩;simp only [atZ] at h2;cases q:due xs with
    | none=>rfl
    | some m=>rw [q] at h2;cases h2
   | _=>first | cases h2
  ·cases e
 ·cases e
noncomputable def cR4 (TT:TopOk T P w K mg base) (F:Fun K "_law_at" "_law_at" sA f fd):FnOk P w K mg base CX0 (d+11+1) f fd ["_law_history"] (jO K (jZ at0)):=by
 refine dfn F scA (fun ws h kk ⟨z,h',e,_⟩=>by obtain ⟨xs,rfl,_⟩:=aQ3 e;rfl) fun cdv A outer s H E hcd hr=>?_;have G:bK ((gB CX0 P w K mg base ["_law_history","_law_error","e"] "_law_at" (aH sA) f cdv A outer s H E).nox) (stA (d+11)) (d+11):=by
  have:=lN (x:="_law_at") (E:=E) (H:=H) (outer:=outer) TT (mW TT (d+11)) (show fnB sA=true by kernel_rfl) hr;rw [show dR sA=(["_law_history","_law_error","e"]:List Str) by kernel_rfl] at this;exact this
 have S:=jF 60;refine ⟨_,jA (S.S G _) (jA (bB3 (iG S G _)) (jA (S.S G _) (fH jK (t':=upS K fun _ _ _=>False) fun D σ H ⟨_,_,_,_,_,_,q,_⟩=>q))),?_⟩;rintro ws h kk ⟨z,h',e,q⟩;obtain ⟨xs,rfl,hs,hd,rfl,rfl⟩:=aQ3 e;refine ⟨.nx [some (.d (.tuple xs)),some (.d .none),none],h',(congrFun (congrFun (dG8 (d+11)) _) _).trans rfl,.nx [some (.d (.tuple xs)),some (.d .none),none],h',(congrFun (congrFun (dH0 (d+11)) _) _).trans ?_,.rt (.d .none),h',(congrFun (congrFun (dG9 (d+11)) _) _).trans ?_,?_⟩
 ·have:=cF7 hs hd d h';simp [this,oE,oB]
 ·simp [oE,oB]
 ·refine ⟨eB _,?_⟩;show kk .none (h'.take h'.length);rw [List.take_length];exact q
end
section
variable {P:Program} {w:World} {K:Frag} {mg:Str->Option Value} {base:Heap} {C CJ fI cL cP cR cT f fl:Addr} {fd fdl:FuncData} {d:Nat}
noncomputable def cF8 {ws:List W} {h h':aA} {z:PyData} (e:atX ws h=some (z,h')):∃ x,ws=[.d x]/\uH x/\z=atZ x/\h'=h:=by
 unfold atX at e;split at e
 ·split at e
  ·rename_i x hp;cases e;exact ⟨x,rfl,hp,rfl,rfl⟩
  ·cases e
 ·cases e
noncomputable def cR5 {sp1 sp2 sp:L2.Sp} {ps:List Str} {k:Nat} (F1:FnOk P w K mg base CX0 k f fd ps sp1) (F2:FnOk P w K mg base CX0 k f fd ps sp2) (h:∀ vs H Q E,sp vs H Q E->sp1 vs H Q E\/sp2 vs H Q E):FnOk P w K mg base CX0 k f fd ps sp :=
 ⟨fun vs H Q E q=>(h vs H Q E q).elim (F1.len vs H Q E) (F2.len vs H Q E),fun A outer s H args us vs Q E hr e0 hb r q=>(h vs H Q E q).elim (F1.run A outer s H args us vs Q E hr e0 hb r) (F2.run A outer s H args us vs Q E hr e0 hb r)⟩
noncomputable def at_z {x:PyData} (hx:uH x):atZ x=.none\/∃ n,atZ x=.int n:=by
 cases x with
 | tuple xs =>
  show bR (due xs)=.none\/∃ n,bR (due xs)=.int n;cases due xs with
  | none=>exact .inl rfl
  | some n=>exact .inr ⟨n,rfl⟩
 | _=>exact .inr ⟨_,rfl⟩
noncomputable def cR6 (TT:TopOk T P w K mg base) (F:Fun K "_law_at" "_law_at" sA f fd) (X:Er K mg base C CJ fI cL cP cR cT) (hm:mg "isinstance"=none) (hmi:mg "int"=none) (Fl:Fun K "look_over" "look_over" sL fl fdl) (ml:mg "look_over"=some (.ref fl)) (bl:Binds K fdl ["history"] [])
  (N:∀ n,FnOk P w K mg base (CXI P w C) (d+11) fl fdl ["history"] (aN4 K C n (bF1 n))):FnOk P w K mg base CX0 (d+11+1) f fd ["_law_history"] (jO K (jZ atX)):=by
 refine cR5 (cR4 TT F) (cR3 F X hm hmi Fl ml bl N) ?_;rintro vs H Q E ⟨ws,h,A,μ,kk,R,r,⟨z,h',e,q⟩,c⟩;obtain ⟨x,rfl,hx,rfl,rfl⟩:=cF8 e;rcases at_z hx with e0 | ⟨n,e0⟩
 ·refine .inl ⟨[.d x],h',A,μ,kk,R,r,⟨.none,h',?_,e0 ▸ q⟩,c⟩;unfold at0;exact if_pos ⟨hx,e0⟩
 ·refine .inr ⟨x,n,h',A,μ,R,r,hx,e0,fun H' x' R'=>c _ h' _ H' A q x' R' ?_⟩;rw [e0,Rep]
noncomputable def cF9 {fdI:FuncData} (TT:TopOk T P w K mg base) (X:Er K mg base C CJ fI cL cP cR cT) (hm:mg "isinstance"=none) (hmi:mg "int"=none) (FI:Fun K "__init__" "NoHistory.__init__" sI fI fdI) (bI:Binds K fdI ["self","at"] []):DFn P w K mg base (d+11+1) "_law_at" (jZ atX):=by
 obtain ⟨fl,fdl,Fl,ml,bl⟩:=TT.defs _ _ dL;obtain ⟨f,fd,F,mf,bf⟩:=TT.defs _ _ dA;rw [show aV sL=(["history"]:List Str) by kernel_rfl] at bl;have I:=bE8 (P:=P) (w:=w) (mg:=mg) (base:=base) (k:=0) PySem.F.excBase_ValueError FI X.Y X.mJ X.hga X.hr X.hfc;have R:=cR6 (d:=d) TT F X hm hmi Fl ml bl fun n=>cF6 TT Fl PySem.F.excBase_ValueError X.O I bI;rw [show (["_law_history"]:List Str)=aV sA by kernel_rfl] at R;exact aG5 R mf F bf
noncomputable def bF2 {fdI:FuncData} (TT:TopOk T P w K mg base) (X:Er K mg base C CJ fI cL cP cR cT) (hm:mg "isinstance"=none) (hmi:mg "int"=none) (FI:Fun K "__init__" "NoHistory.__init__" sI fI fdI) (bI:Binds K fdI ["self","at"] []) (F:Fun K "law" "law" cE6 f fd) :
  FnOk P w K mg base CX0 (d+11+1+1) f fd (aV cE6) (jO K (jZ (pW (d+11+1)))):=by
 have B:=mW TT (d+11+1);refine bK2 (x:="law") TT F ⟨fun x m e=>?_,B.fnW,B.cls,B.om,B.fo⟩;unfold fnL at e;split at e
 ·rename_i hx;cases e;subst hx;exact cF9 TT X hm hmi FI bI
 ·exact B.fn x m e
end
noncomputable def cR7 {K:Frag} {h:Heap} {N:Addr} {m:Str->Option Value} {n:Str} {v:Value} (X:K.In h) (G:h.Ns N m) (e:PySem.W.nsIn K N n=some (some v)):m n=some v:=by
 obtain ⟨o,es,ep,ho,hd,_,hf⟩:=G;unfold PySem.W.nsIn at e;split at e
 ·rename_i q;have:=X _ _ q;rw [ho] at this;cases this;cases hd;split at e
  ·rename_i en he;cases e;rw [<- hf];unfold nsFind findBy;rw [<- Array.find?_toList,he];rfl
  ·split at e<;>cases e
 ·cases e
noncomputable def bF3 {m:XF} (hL:∀ ns:List Int,Tr (m [.d (.list (ns.map .int))] [])) (K:Frag) (H:Hp) (a:Addr) (ns:List Int) (hS:SqL K H a (ns.map V.int)):jO K (jZ m) [.ref a] H (fun v _=>v=.bl true) fun _ _ _=>False:=by
 obtain ⟨h',e⟩:=hL ns;refine ⟨[.d (.list (ns.map .int))],[],[],[],fun z _=>z=.bool true,⟨rfl,List.nodup_nil,fun _ z=>(nomatch z),fun _ z=>(nomatch z),fun i a xs e=>by simp at e⟩,⟨_,[],rfl,?_,rfl⟩,⟨.bool true,h',e,rfl⟩,fun z h' v H' A' e _ _ r=>?_⟩
 ·show Rep K [] H (.list (ns.map .int)) (.ref a);rw [Rep];refine ⟨a,_,rfl,?_,pQ K [] H ns⟩;rcases hS with h | h
  ·exact .inl ⟨by simp,h⟩
  ·exact .inr h
 ·subst e;rw [Rep] at r;exact r
end K07
set_option maxHeartbeats 4000000
namespace K07
open PySem PySem.Spec PyProof.Rows L2 DL CI
abbrev s_0:Stmt:=top 1
abbrev s_1:Stmt:=top 2
abbrev s_2:Stmt:=top 3
abbrev s_3:Stmt:=top 4
abbrev s_4:Stmt:=top 5
abbrev s_5:Stmt:=top 10
abbrev s_6:Stmt:=top 11
abbrev s_7:Stmt:=top 12
abbrev s_8:Stmt:=top 13
abbrev s_9:Stmt:=top 14
abbrev cR8:Stmt:=top 15
abbrev cR9:Stmt:=top 16
abbrev cS0:Stmt:=top 17
abbrev cS1:Stmt:=top 18
abbrev cS2:Stmt:=top 19
abbrev cS3:Stmt:=top 20
abbrev cS4:Stmt:=top 21
abbrev cS5:Stmt:=top 22
abbrev cS6:Stmt:=top 33
abbrev cS7:Stmt:=top 34
abbrev cS8:Stmt:=top 35
abbrev cS9:Stmt:=top 36
abbrev cT0:Stmt:=top 37
abbrev cT1:Stmt:=top 38
abbrev cT2:Stmt:=top 40
abbrev cT3:Stmt:=top 41
abbrev cT4:Stmt:=top 42
abbrev cT5:Stmt:=top 43
abbrev cT6:Stmt:=top 44
abbrev cT7:Stmt:=top 45
abbrev cT8:Stmt:=top 46
abbrev cT9:Stmt:=top 47
abbrev cU0:Stmt:=top 48
abbrev cU1:Stmt:=top 49
abbrev cU2:Stmt:=top 50
abbrev cU3:Stmt:=top 51
abbrev cU4:Stmt:=top 52
abbrev wH:Stmt:=top 53
noncomputable def cU5:gcl body=([(Str.ofString "LAST_KEY",PyData.int 7),(Str.ofString "MOST_PARTS",PyData.int 4),(Str.ofString "LAST_HAND",PyData.int 5),(Str.ofString "MOST_DEEDS",PyData.int 60)]:List (Str×PyData)):=by kernel_rfl
noncomputable def cU6:tkl body=([(Str.ofString "NUMBERS_BEHIND",[(Str.ofString "read",0),(Str.ofString "write",1),(Str.ofString "add",1),(Str.ofString "swap",2)])]:List (Str×List (Str×Int))):=by kernel_rfl
noncomputable def cU7:dfl body=([(Str.ofString "is_whole",s_0),(Str.ofString "is_between",s_1),(Str.ofString "is_tuple_of",s_2),(Str.ofString "are_whole",s_3),(Str.ofString "are_rising",s_4),(Str.ofString "is_key",s_5),(Str.ofString "word_of",s_6),(Str.ofString "is_worded",s_7),(Str.ofString "is_single",s_8),(Str.ofString "is_span",s_9),(Str.ofString "is_deal",cR8),(Str.ofString "is_call",cR9),(Str.ofString "is_look",cS0),(Str.ofString "is_value_pair",cS1),(Str.ofString "is_lay",cS2),(Str.ofString "is_step",cS3),(Str.ofString "is_answer",cS4),(Str.ofString "is_own_answer",cS5),(Str.ofString "is_time",cS6),(Str.ofString "is_deed",cS7),(Str.ofString "times_of",cS8),(Str.ofString "ended_below",cS9),(Str.ofString "go_together",cT0),(Str.ofString "look_over",cT1),(Str.ofString "_law_cell_at",cT2),(Str.ofString "_law_mixed",cT3),(Str.ofString "_law_digit",cT4),(Str.ofString "_law_asked",cT5),(Str.ofString "_law_deeds",cT6),(Str.ofString "_law_put",cT7),(Str.ofString "_law_spoilt",cT8),(Str.ofString "_law_is_time",cT9),(Str.ofString "_law_is_answer",cU0),(Str.ofString "_law_is_deed",cU1),(Str.ofString "_law_clash",cU2),(Str.ofString "_law_due",cU3),(Str.ofString "_law_at",cU4),(Str.ofString "law",wH)]:List (Str×Stmt)):=by kernel_rfl
noncomputable def cU8:aV wH=([Str.ofString "_law_script"]:List Str):=by kernel_rfl
noncomputable def all_mk {l:PySem.W.OpenLaw} {w:World} {K:Frag} {h:Heap} {mg:Str->Option Value} {fa:Addr} (X:K.In h) (G:h.Ns mainGlobals mg) (hfa:mg "law"=some (.ref fa))
  (a0:FI K "is_whole" s_0)
  (a1:FI K "is_between" s_1)
  (a2:FI K "is_tuple_of" s_2)
  (a3:FI K "are_whole" s_3)
  (a4:FI K "are_rising" s_4)
  (a5:FI K "is_key" s_5)
  (a6:FI K "word_of" s_6)
  (a7:FI K "is_worded" s_7)
  (a8:FI K "is_single" s_8)
  (a9:FI K "is_span" s_9)
  (a10:FI K "is_deal" cR8)
  (a11:FI K "is_call" cR9)
  (a12:FI K "is_look" cS0)
  (a13:FI K "is_value_pair" cS1)
  (a14:FI K "is_lay" cS2)
  (a15:FI K "is_step" cS3)
  (a16:FI K "is_answer" cS4)
  (a17:FI K "is_own_answer" cS5)
  (a18:FI K "is_time" cS6)
  (a19:FI K "is_deed" cS7)
  (a20:FI K "times_of" cS8)
  (a21:FI K "ended_below" cS9)
  (a22:FI K "go_together" cT0)
  (a23:FI K "look_over" cT1)
  (a24:FI K "_law_cell_at" cT2)
  (a25:FI K "_law_mixed" cT3)
  (a26:FI K "_law_digit" cT4)
  (a27:FI K "_law_asked" cT5)
  (a28:FI K "_law_deeds" cT6)
  (a29:FI K "_law_put" cT7)
  (a30:FI K "_law_spoilt" cT8)
  (a31:FI K "_law_is_time" cT9)
  (a32:FI K "_law_is_answer" cU0)
  (a33:FI K "_law_is_deed" cU1)
  (a34:FI K "_law_clash" cU2)
  (a35:FI K "_law_due" cU3)
  (a36:FI K "_law_at" cU4)
  (a37:FI K "law" wH)
  {tg0:Tok} (cg0:PySem.W.nsIn K mainGlobals "LAST_KEY"=some (some (.int 7 tg0)))
  {tg1:Tok} (cg1:PySem.W.nsIn K mainGlobals "MOST_PARTS"=some (some (.int 4 tg1)))
  {tg2:Tok} (cg2:PySem.W.nsIn K mainGlobals "LAST_HAND"=some (some (.int 5 tg2)))
  {tg3:Tok} (cg3:PySem.W.nsIn K mainGlobals "MOST_DEEDS"=some (some (.int 60 tg3)))
  {p0:Addr} {n0:Nat} {hh0_0 hh0_1 hh0_2 hh0_3:Int} {tk0_0 tv0_0 tk0_1 tv0_1 tk0_2 tv0_2 tk0_3 tv0_3:Tok} (aT0:PySem.W.nsIn K mainGlobals "NUMBERS_BEHIND"=some (some (.ref p0))) (lT0:K.lookup p0=some ⟨.type "dict",none,.dict #[⟨hh0_0,.str "read" tk0_0,.int 0 tv0_0⟩,⟨hh0_1,.str "write" tk0_1,.int 1 tv0_1⟩,⟨hh0_2,.str "add" tk0_2,.int 1 tv0_2⟩,⟨hh0_3,.str "swap" tk0_3,.int 2 tv0_3⟩] n0,#[]⟩) (kT0:PySem.W.KeysLit w.params [⟨hh0_0,.str "read" tk0_0,.int 0 tv0_0⟩,⟨hh0_1,.str "write" tk0_1,.int 1 tv0_1⟩,⟨hh0_2,.str "add" tk0_2,.int 1 tv0_2⟩,⟨hh0_3,.str "swap" tk0_3,.int 2 tv0_3⟩]) (sT0:(p0==sysModules)=false)
  {C:Addr} (aC:PySem.W.nsIn K mainGlobals "NoHistory"=some (some (.ref C))) {nmC qC:Str} {NC:Addr} {bsC bmC:List Value} {hdC:Bool} {snC:List Str} {subC:List Value} {abC:Bool} {coC:Option Bool} {ddC:Option Addr} {r0 r1 r2 r3 r5:Option Value} (lC:K.lookup C=some (excClassObj nmC qC C NC bsC bmC hdC snC subC abC coC ddC r0 r1 r2 r3 r5 "ValueError.__new__")) (tC:PySem.W.tailIn K nB bmC=true) (oC:PySem.W.nsOkIn K NC=true)
  {fI:Addr} {odI anI:Option Addr} {slI:Array (Option Value)} {kVI dcI pmI cdI ctI:Value} (nI:PySem.W.nsIn K NC "__init__"=some (some (.ref fI))) (lI:K.lookup fI=some ⟨.type "function",odI,.func (PySem.W.fnOf "__init__" "NoHistory.__init__" (cE sI) (aX sI) (aH sI) .none kVI dcI pmI anI cdI ctI),slI⟩) (cI:PySem.W.codeIn K cdI "NoHistory.__init__"=true) (kI:PySem.W.keepIn K (.ref fI)=true)
  (x1:PySem.W.findIn K (.ref C) "__getattribute__"=some (some (.builtin "BaseException.__getattribute__"))) (x2:PySem.W.findIn K (.ref C) "__getattr__"=some none) (x3:PySem.W.findIn K (.ref C) "__class__"=some (some (.builtin "object.__class__"))) (x4:PySem.W.mroIn K C (.type "BaseException")=some true) (x5:PySem.W.mroIn K C (.type "object")=some true)
  {CJ cL cP cR cT:Addr} (aJ:PySem.W.nsIn K mainGlobals "JudgeError"=some (some (.ref CJ))) (aLn:PySem.W.nsIn K mainGlobals "NoLine"=some (some (.ref cL))) (aP:PySem.W.nsIn K mainGlobals "NoProblem"=some (some (.ref cP))) (aR:PySem.W.nsIn K mainGlobals "NoPromise"=some (some (.ref cR))) (aTx:PySem.W.nsIn K mainGlobals "NoText"=some (some (.ref cT)))
  (y1:(PySem.W.clsIn K C).any (fun cd=>cd.hasDict&&cd.mro==.ref C::.ref CJ::nB)=true) (y2:PySem.W.findIn K (.ref C) "__setattr__"=some (some (.builtin "object.__setattr__"))) (y3:PySem.W.findIn K (.ref C) "at"=some none)
  (j1:PySem.W.specialIn K (.ref CJ) "__getattribute__"=some (some (.builtin "type.__getattribute__"))) (j2:PySem.W.readsIn K CJ (.type "type")=true) (j3:PySem.W.findCls K (.ref CJ) (.type "type") "__init__"=some (.val (.builtin "ValueError.__init__")))
  (hJ:PySem.W.exmOne K (.ref C) (.ref CJ)=some true) (k4:PySem.W.kitAny K (.ref C) [.ref cL,.ref cP,.ref cR,.ref cT]=some false) (qC1:PySem.W.kitOne K (.ref C) (.ref C)=some true) (zV:PySem.W.nsIn K mainGlobals "ValueError"=some none) (qV:PySem.W.kitOne K (.ref C) (.type "ValueError")=some true)
  (zb:∀ b∈blAll,PySem.W.nsIn K mainGlobals b=some none) :
  ∃ fd:FuncData,(∀ (s:Shared) (v:Value),BindsTo s fd ⟨[v],[]⟩ [("_law_script",v)])/\∀ base:Heap,K.In base->base.Ns mainGlobals mg->FnOk l.prog w K mg base CX0 13 fa fd ["_law_script"] (jO K (jZ (pW 12))):=by
 have aL:=a37;obtain ⟨f37,od37,an37,sl37,oc37,kV37,dc37,pm37,cd37,ct37,b37,l37,c37,kk37⟩:=aL;have e:=hfa.symm.trans (PySem.W.mg_of X G b37);cases e;have F37:=uW (st:=wH) l37 c37 kk37;refine ⟨PySem.W.fnOf "law" "law" (cE wH) (aX wH) (aH wH) .none kV37 dc37 pm37 an37 cd37 ct37,fun s v=>.of_eq rfl,fun base XB GB=>?_⟩;have TT:TopOk T l.prog w K mg base:=by
  refine ⟨fun x hx=>?_,fun x z hz=>?_,fun x f hf=>?_,fun x s hs=>?_,fun x C s hs=>?_,fun x C s hs=>?_,fun C f hf=>?_⟩
  ·have hx:blAll.contains x=true:=hx;rw [List.contains_iff_mem] at hx;exact PySem.W.mg_none_of X G (zb x hx)
  ·have hm:=cA7 (show bZ7 body x=some z from hz);rw [cU5] at hm;simp only [List.mem_cons,List.not_mem_nil,or_false,Prod.mk.injEq] at hm;rcases hm with ⟨rfl,rfl⟩ | ⟨rfl,rfl⟩ | ⟨rfl,rfl⟩ | ⟨rfl,rfl⟩
   ·exact ⟨.int 7,_,PySem.W.mg_of X G cg0,⟨tg0,rfl⟩,fun _ _=>jN⟩
   ·exact ⟨.int 4,_,PySem.W.mg_of X G cg1,⟨tg1,rfl⟩,fun _ _=>jN⟩
   ·exact ⟨.int 5,_,PySem.W.mg_of X G cg2,⟨tg2,rfl⟩,fun _ _=>jN⟩
   ·exact ⟨.int 60,_,PySem.W.mg_of X G cg3,⟨tg3,rfl⟩,fun _ _=>jN⟩
  ·obtain ⟨t,hm,rfl⟩:=cA8 (show bZ9 body x=some f from hf);rw [cU6] at hm;simp only [List.mem_cons,List.not_mem_nil,or_false,Prod.mk.injEq] at hm;rcases hm with ⟨rfl,rfl⟩
   ·refine ⟨p0,PySem.W.mg_of X G aT0,⟨⟨_,n0,lT0,kT0,fun y i hy=>?_,fun y hy=>?_⟩,sT0⟩⟩
    ·repeat rw [tQ]
     simp only [List.lookup] at hy
     repeat (first | (split at hy;(rename_i q;rw [if_pos (eq_of_beq q).symm];cases hy;exact ⟨_,rfl⟩);(rename_i q;rw [if_neg (fun z=>(beq_eq_false_iff_ne.mp q) z.symm)])) | cases hy)
    ·repeat rw [tQ]
     simp only [List.lookup] at hy
     repeat (split at hy;(cases hy);(rename_i q;rw [if_neg (fun z=>(beq_eq_false_iff_ne.mp q) z.symm)]))
     rfl
  ·have hm:=cA9 (show vO body x=some s from hs);rw [cU7] at hm;simp only [List.mem_cons,List.not_mem_nil,or_false,Prod.mk.injEq] at hm;rcases hm with ⟨rfl,rfl⟩ | ⟨rfl,rfl⟩ | ⟨rfl,rfl⟩ | ⟨rfl,rfl⟩ | ⟨rfl,rfl⟩ | ⟨rfl,rfl⟩ | ⟨rfl,rfl⟩ | ⟨rfl,rfl⟩ | ⟨rfl,rfl⟩ | ⟨rfl,rfl⟩ | ⟨rfl,rfl⟩ | ⟨rfl,rfl⟩ | ⟨rfl,rfl⟩ | ⟨rfl,rfl⟩ | ⟨rfl,rfl⟩ | ⟨rfl,rfl⟩ | ⟨rfl,rfl⟩ | ⟨rfl,rfl⟩ | ⟨rfl,rfl⟩ | ⟨rfl,rfl⟩ | ⟨rfl,rfl⟩ | ⟨rfl,rfl⟩ | ⟨rfl,rfl⟩ | ⟨rfl,rfl⟩ | ⟨rfl,rfl⟩ | ⟨rfl,rfl⟩ | ⟨rfl,rfl⟩ | ⟨rfl,rfl⟩ | ⟨rfl,rfl⟩ | ⟨rfl,rfl⟩ | ⟨rfl,rfl⟩ | ⟨rfl,rfl⟩ | ⟨rfl,rfl⟩ | ⟨rfl,rfl⟩ | ⟨rfl,rfl⟩ | ⟨rfl,rfl⟩ | ⟨rfl,rfl⟩ | ⟨rfl,rfl⟩
   all_goals first | exact FI.ok1 (by assumption) X G (by kernel_rfl) (fun _ _ _ _ _ _ _=>rfl) | exact FI.ok2 (by assumption) X G (by kernel_rfl) (fun _ _ _ _ _ _ _ _=>rfl) | exact FI.ok3 (by assumption) X G (by kernel_rfl) (fun _ _ _ _ _ _ _ _ _=>rfl)
  ·have h:(none:Option (Addr×Stmt))=some (C,s):=hs;cases h
  ·have h:(none:Option (Addr×Stmt))=some (C,s):=hs;cases h
  ·have h:false=true:=hf;cases h
 have XE:Er K mg base C CJ fI cL cP cR cT:=⟨⟨PySem.W.mg_of X G aC,_,NC,_,_,_,_,_,_,_,_,_,_,_,_,_,_,_,_,XB _ _ lC,.of_isNs (PySem.W.isNs_of_in XB oC),cR7 XB (.of_isNs (PySem.W.isNs_of_in XB oC)) nI,XB _ _ lI,rfl,PySem.W.tail_of_in XB tC⟩,⟨x1,x2,x3,x4,x5⟩,⟨y1,y2,y3⟩,PySem.W.mg_of X G aJ,hJ,j1,j2,j3,PySem.W.mg_of X G aLn,PySem.W.mg_of X G aP,PySem.W.mg_of X G aR,PySem.W.mg_of X G aTx,k4,qC1,PySem.W.mg_none_of X G zV,qV⟩;have FI:=uW (st:=sI) lI cI kI;have q:=bF2 (d:=0) TT XE (PySem.W.mg_none_of X G (zb "isinstance" (by decide +kernel))) (PySem.W.mg_none_of X G (zb "int" (by decide +kernel))) FI (FI.binds (ps:=["self","at"]) fun _ _ _ _ _ _ us hl=>match us,hl with | [_,_],_=>rfl) F37;rw [cU8] at q;exact q
noncomputable def walk {l:PySem.W.OpenLaw} {q:Program} {loose:List Str} {XP:(Str->Option Value)->Heap->Prop} {YP:World->Heap->Prop} {d:DefRec} {K:Params->Frag} (hn:l.most=some 63) (hdf:d.params.defaults=[])
  (hY:∀ (w:World) (h:Heap),YP w h->(K w.params).In h)
  (F:∀ (w:World) (mg:Str->Option Value) (fa:Addr) (h:Heap),(K w.params).In h->h.Ns mainGlobals mg->mg d.name=some (.ref fa) ->
   ∃ fd:FuncData,(∀ (s:Shared) (u:Value),BindsTo s fd ⟨[u],[]⟩ [("_law_script",u)])/\∀ base:Heap,(K w.params).In base->base.Ns mainGlobals mg->FnOk l.prog w (K w.params) mg base CX0 13 fa fd ["_law_script"] (jO (K w.params) (jZ (pW 12)))) :
  PySem.W.WalkO q loose XP YP l.row.toRowW d [] (fun f vs=>PySem.call f vs) :=
 L2.walk_of (n:=63) (k:=13) (x:="_law_script") (CX:=fun _=>CX0) (sp:=fun w=>jO (K w.params) (jZ (pW 12))) hn (by decide) hdf ⟨rfl,by decide,by decide⟩ hY F (fun w H a ns hl _ hS=>bF3 (fun ns=>cF3 ns 8) _ H a ns hS) fun _ _ _ _ _ z=>z
end K07
open PySem PySem.W PyProof.Rows
set_option maxHeartbeats 0
theorem PySem.Challenge.cw_storejudge_k07_histories_looked_over_holds : PySem.Challenge.rw_storejudge_k07_histories_looked_over.Holds := by
 refine hd ?_
 k_fill
 refine K07.walk (l:=PySem.Challenge.rw_storejudge_k07_histories_looked_over) rfl rfl (fun w h Y=>PySem.W.kIn_of Y) ?F
 case F =>
  intro w mg fa h KX G hmg;refine' K07.all_mk KX G hmg ?a0 ?a1 ?a2 ?a3 ?a4 ?a5 ?a6 ?a7 ?a8 ?a9 ?a10 ?a11 ?a12 ?a13 ?a14 ?a15 ?a16 ?a17 ?a18 ?a19 ?a20 ?a21 ?a22 ?a23 ?a24 ?a25 ?a26 ?a27 ?a28 ?a29 ?a30 ?a31 ?a32 ?a33 ?a34 ?a35 ?a36 ?a37 ?cg0 ?cg1 ?cg2 ?cg3 ?aT0 ?lT0 ?kT0 ?sT0 ?aC ?lC ?tC ?oC ?nI ?lI ?cI ?kI ?x1 ?x2 ?x3 ?x4 ?x5 ?aJ ?aLn ?aP ?aR ?aTx ?y1 ?y2 ?y3 ?j1 ?j2 ?j3 ?hJ ?k4 ?qC1 ?zV ?qV ?zb
  all_goals try (refine' CI.fi_mk ?a ?l ?c ?k;(case a=>k_is);(case l=>k_is);(case c=>k_is);(case k=>k_is))
  (case cg0=>k_is)
  (case cg1=>k_is)
  (case cg2=>k_is)
  (case cg3=>k_is)
  (case aT0=>k_is);(case lT0=>k_is);(case kT0=>k_keys);(case sT0=>first | rfl | decide | k_is)
  (case aC=>k_is);(case lC=>k_is);(case tC=>kernel_rfl);(case oC=>kernel_rfl);(case nI=>k_is);(case lI=>k_is);(case cI=>k_is);(case kI=>k_is);(case x1=>k_is);(case x2=>k_is);(case x3=>k_is);(case x4=>k_is);(case x5=>k_is)
  (case aJ=>k_is);(case aLn=>k_is);(case aP=>k_is);(case aR=>k_is);(case aTx=>k_is);(case y1=>kernel_rfl);(case y2=>k_is);(case y3=>k_is);(case j1=>k_is);(case j2=>k_is);(case j3=>k_is)
  (case hJ=>kts_exm);(case k4=>kernel_rfl);(case qC1=>kit_is);(case zV=>k_is);(case qV=>kit_is)
  (case zb=>intro b hb;simp only [CI.blAll,List.mem_cons,List.not_mem_nil,or_false] at hb;rcases hb with rfl | rfl | rfl | rfl | rfl | rfl | rfl | rfl | rfl | rfl | rfl | rfl | rfl | rfl | rfl | rfl | rfl | rfl | rfl | rfl<;>k_is)
