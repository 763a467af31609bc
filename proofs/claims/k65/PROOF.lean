import PyProof.Rows.All
import Wide.All
import OpenK.AllK
import Wide.FinOn
import Lean
import PyProof.EqAt
import PyProof.EqKinds
import PyProof.TupleCall
import PyProof.ZipIter
import PyProof.EnumIter
import KE.KDictSum
import KE.KItemsList
import KE.KSortKey
import KE.KLam
import PyProof.SeqI3
import PyProof.WalkInts
import PyProof.EqLayable
import KE.KSortTup
import PyProof.SetNew
import PyProof.Rows.SetFrom
import PyProof.EnumFor
import PyProof.EnumStmt
import PyProof.WalksMore
import PyProof.SetRoads
import PyProof.ListRange
import PyProof.Conv_int_bool
import KE.KRevSl
import KE.KTryMore
import KE.KIsAll
import PySem.Challenge.RW_storejudge_k65_set_aside
set_option genInjectivity false
set_option compiler.extract_closed false
set_option bootstrap.genMatcherCode false
set_option genSizeOf false
section
open PySem PySem.W PyProof.Rows
set_option Elab.async false
set_option maxRecDepth 100000
set_option maxHeartbeats 0
namespace PySem.W.Fast
def tw3561827030064447572:=0
def tw861502493610598483:=0
def tw18215293855667816671:=0
def tw9486393398322771287:=0
def tw7774113678449685934:=0
def tw7077331168344312837:=0
def tw18205721966527102396:=0
def tw14920823985818648580:=0
def tw3550258768839500199:=0
def tw9380741260308362100:=0
def tw11018145951921344529:=0
def tw3615178456390077923:=0
def tw3998647374267775353:=0
def tw16225155776284182838:=0
def tw14261769069557060686:=0
def tw615563214671542189:=0
def tw9368122197164973604:=0
def tw8448305426059154538:=0
def tw13421457143807847188:=0
def tw8997383693586321770:=0
def tw10206956779759575209:=0
def tw991626836265849350:=0
def tw14993981098963755598:=0
def tw14963028359598502718:=0
def tw18293242582946804979:=0
def tw17433793482557064749:=0
def tw9784134513789038367:=0
def tw16203965252921439515:=0
def tw8186657734068701312:=0
def tw11662115353561507501:=0
def tw140001813534094272:=0
def tw13160504802963445071:=0
def tw209982475168477708:=0
def tw18262670878535919901:=0
def tw15925456577456769635:=0
def tw11066385474520676512:=0
def tw15621415185263527259:=0
def tw11429584451438056573:=0
def tw15235614512728720:=0
def tw18157406047293677543:=0
def tw3778530596728393105:=0
def tw977512076041815475:=0
def tw1915925776726481438:=0
def tw3681537716864247207:=0
def tw12408111787983249662:=0
def tw11907897558876765624:=0
def tw9402243437249704421:=0
def tw9950792792127014553:=0
def tw14903569129155370506:=0
def tw10295913840692754127:=0
def tw17435391645217708394:=0
def tw7086961617601330827:=0
def tw13674586047789940208:=0
def tw1207101557538958131:=0
def tw13135312941875745310:=0
def tw5101696844757716304:=0
def tw8285278889055680438:=0
def tw3475869608268796686:=0
def tw3049343062529576306:=0
def tw547895379624588593:=0
def tw17590705303994421779:=0
def tw12954591660760965231:=0
def tw6128145076113358165:=0
def tw13913613514976480042:=0
def tw12431713363859531893:=0
def tw12843764043397292189:=0
def tw17817366049700826239:=0
def tw5362036446546632119:=0
def tw13462424878891718212:=0
def tw9461873434466728008:=0
def tw4323258101793500111:=0
def tw18328257000508772394:=0
def tw14424681132571578402:=0
def tw12727641955093265886:=0
def tw8733291241859026926:=0
def tw6030501089693204938:=0
def tw5890639436620234070:=0
def tw14226173905949225808:=0
def tw14243238205550065757:=0
def tw1070438729232803039:=0
def tw17013487888433625170:=0
def tw726351398001015727:=0
def tw11853640710764476214:=0
def tw11898673842065290130:=0
def tw4635989785427082552:=0
def tw16864618592142003386:=0
def tw1717767836212652739:=0
def tw6798380500665416597:=0
def tw16615150188913437886:=0
def tw4884199854448574:=0
def tw2827255003249426055:=0
def tw10741264400317747893:=0
def tw13622603851894308203:=0
def tw1725486776273817318:=0
def tw4493901809537577575:=0
def tw6549852094080907030:=0
def tw5217270863462422736:=0
def tw3985964047577975286:=0
def tw10510056951384868246:=0
def tw1840220198017710270:=0
def tw896239598344801917:=0
def tw4039707410889071942:=0
def tw4490611911172417597:=0
def tw5002640475654186023:=0
def tw4309217394794523951:=0
def tw2474200967059427378:=0
def tw16226643914720891334:=0
def tw4436474186459923750:=0
def tw10159399881129095643:=0
def tw17338325484393633139:=0
def tw14842496431369740429:=0
def tw10258873121960336067:=0
def tw6548459193220583526:=0
def tw1956775160557780875:=0
def tw3374319085511977134:=0
def tw2295934692909999376:=0
def tw10792498714594961201:=0
def tw523537741815420091:=0
def tw8949853181751564097:=0
def tw3235425350174046738:=0
def tw16140922888777852060:=0
def tw15805137534098808535:=0
def tw17318462890700432884:=0
def tw12670982853097334264:=0
def tw10341888390210383824:=0
def tw10698057553749749337:=0
def tw2228412568605170491:=0
def tw2144661209622563809:=0
def tw6128106870883400570:=0
def tw3919386906821981792:=0
def tw2570914705882880060:=0
def tw8171798328758944481:=0
def tw13953587524928339648:=0
def tw9879335643197240621:=0
def tw6822071536725586909:=0
def tw1467881925912835984:=0
def tw13810262117814702294:=0
def tw12903330217458380548:=0
def tw16902440903046159558:=0
def tw2080317491765294665:=0
def tw896878414759379649:=0
def tw16298917771340976007:=0
def tw11738243743197964597:=0
def tw4734895289157585001:=0
def tw11266997524610791606:=0
def tw5537553045615171315:=0
def tw15402603294489630176:=0
def tw1205274952441263945:=0
def tw4562827626845409882:=0
def tw3308634892276815127:=0
def tw4683681711962371626:=0
def tw866717566613908145:=0
def tw13444670453868202053:=0
def tw18146532975450069615:=0
def tw2353497105660221152:=0
def tw2340837018749705212:=0
def tw6056707288978253535:=0
def tw7485256538410118956:=0
def tw4971374062829452455:=0
def tw15752536640612570366:=0
def tw539538531456391632:=0
def tw12330612334027959195:=0
def tw9919008367099125623:=0
def tw8760152093665844161:=0
def tw14904681115217272601:=0
def tw16053306600634468012:=0
def tw13769103115541136327:=0
def tw2741014181512449073:=0
def tw5444512763150141072:=0
def tw8159993647027272844:=0
def tw15438627641174518403:=0
def tw2400638427578300857:=0
def tw2259672571474061568:=0
def tw8535803893964050539:=0
def tw8422229294311615681:=0
def tw1599053048872161195:=0
def tw28018229315631829:=0
def tw1708089923452030704:=0
def tw14727194681476072466:=0
def tw2358075552688931204:=0
def tw6420159726195949164:=0
def tw14170518179582410385:=0
def tw14703100239697439463:=0
def tw4321966507151631593:=0
def tw2646887283097553488:=0
def tw15861351967447197489:=0
def tw1532491051758110099:=0
def tw8297923619242306668:=0
def tw384561282630992784:=0
def tw16409965706819354750:=0
def tw9757595895972200118:=0
def tw7322748291113730364:=0
def tw8219003486749837733:=0
def tw1979317910248211280:=0
def tw5622701340561072331:=0
def tw10551173667578312727:=0
def tw7046044490832178742:=0
def tw2244103112122482387:=0
def tw8972062959192195235:=0
def tw2403389108928632939:=0
def tw4015202173357781934:=0
def tw1383625962624193546:=0
def tw16728255500844073214:=0
def tw4096438862311573950:=0
def tw10876078143196172821:=0
def tw4849480874435393781:=0
def tw10988312798546598065:=0
def tw14564479935002850509:=0
def tw2692750590507578028:=0
def tw2941924889016668590:=0
def tw3215387988796971590:=0
def tw6148498323302512570:=0
def tw10842938092177581297:=0
def tw16279288168775177219:=0
def tw16248296213531012650:=0
def tw13055953723892786844:=0
def tw8002303944043701648:=0
def tw17710873009340938204:=0
def tw3543459598558145280:=0
def tw14383893971135437652:=0
def tw52312688904243638:=0
def tw11373181179767321252:=0
def tw938635154573522699:=0
def tw13437419889732721216:=0
def tw9404705873571188630:=0
def tw12488014758255163090:=0
def tw15779231459743154856:=0
def tw3721919958574915784:=0
def tw2261719852989239553:=0
def tw18418582437962087742:=0
def tw9860861378791804195:=0
def tw7480016910919988345:=0
def tw9972681490609642005:=0
def tw18101783494082082527:=0
def tw4953865588907285216:=0
def tw14172470266813156586:=0
def tw3300257896294614128:=0
def tw15756396737945463032:=0
def tw17170472223608059050:=0
def tw643336161829623379:=0
def tw10374632558016547081:=0
def tw6170744672141170255:=0
def tw16636501806038632012:=0
def tw3300454383303005205:=0
def tw3419001889969749887:=0
def tw11161164713144168021:=0
def tw9592521066531166775:=0
def tw11766667032028208565:=0
def tw14935467056822913822:=0
def tw11401859456886640639:=0
end PySem.W.Fast
open_top hd for PySem.Challenge.rw_storejudge_k65_set_aside
end
theorem ZR0 (h:True:=by rfl):True:=h
def ZR:Lean.Syntax:=ZR0._auto_1
theorem ZD0 (h:True:=by decide):True:=h
def ZD:Lean.Syntax:=ZD0._auto_1
theorem ZI0 (h:True:=by intro _;rfl):True:=h
def ZI:Lean.Syntax:=ZI0._auto_1
theorem ZW0 (h:True:=by with_unfolding_all rfl):True:=h
def ZW:Lean.Syntax:=ZW0._auto_1
open PySem.W (Frag)
set_option Elab.async false
set_option linter.all false
set_option maxRecDepth 100000
namespace L2
open PySem PySem.Spec PyProof.Rows
abbrev Key:=Sum Int Str
noncomputable def pD:Key->Value->Bool
 | .inl k,v=>Value.isInt k v
 | .inr x,v=>Value.isStrOf x v
noncomputable def dJ6 (w:World):Key->Int
 | .inl k=>hashInt k
 | .inr x=>hashStr w x
theorem keyIs_shape:∀ {k:Key} {v:Value},pD k v=true->(∃ i t,k=Sum.inl i/\v=Value.int i t)\/(∃ x t,k=Sum.inr x/\v=Value.str x t)
 | .inl i,v,h=>by
  obtain ⟨t,e⟩:=Value.isInt_shape (k:=i) (v:=v) h;exact .inl ⟨i,t,rfl,e⟩
 | .inr x,v,h=>by
  obtain ⟨t,e⟩:=Value.isStrOf_shape (x:=x) (v:=v) h;exact .inr ⟨x,t,rfl,e⟩
def aB6 (i:Int) (t:Tok):pD (.inl i) (.int i t)=true:=by simp [pD,Value.isInt]
def aB7 (x:Str) (t:Tok):pD (.inr x) (.str x t)=true:=by simp [pD,Value.isStrOf]
def bV7 (a b:Int):decide ((Sum.inl a:Key)=Sum.inl b)=(a==b):=by
 by_cases e:a=b
 ·subst e;simp
 ·have h:¬ (Sum.inl a:Key)=Sum.inl b:=fun q=>e (Sum.inl.inj q);rw [decide_eq_false h];exact (beq_eq_false_iff_ne.mpr e).symm
def bV8 (a b:Str):decide ((Sum.inr a:Key)=Sum.inr b)=decide (a=b):=by
 by_cases e:a=b
 ·subst e;simp
 ·have h:¬ (Sum.inr a:Key)=Sum.inr b:=fun q=>e (Sum.inr.inj q);rw [decide_eq_false h,decide_eq_false e]
def bV9 (a:Int) (b:Str):decide ((Sum.inl a:Key)=Sum.inr b)=false:=decide_eq_false (fun q=>nomatch q)
def bW0 (a:Str) (b:Int):decide ((Sum.inr a:Key)=Sum.inl b)=false:=decide_eq_false (fun q=>nomatch q)
noncomputable def bD (prog:Program) (w:World):PySem.KeyKind prog w Key where
 is:=pD
 hash:=dJ6 w
 inj:=fun v a b ha hb=>by
  rcases keyIs_shape ha with ⟨i,t,rfl,rfl⟩ | ⟨x,t,rfl,rfl⟩
  ·rcases keyIs_shape hb with ⟨j,u,rfl,e⟩ | ⟨y,u,rfl,e⟩
   ·injection e with e1 _;rw [e1]
   ·exact nomatch e
  ·rcases keyIs_shape hb with ⟨j,u,rfl,e⟩ | ⟨y,u,rfl,e⟩
   ·exact nomatch e
   ·injection e with e1 _;rw [e1]
 byValue:=fun k v h=>by
  rcases keyIs_shape h with ⟨i,t,rfl,rfl⟩ | ⟨x,t,rfl,rfl⟩<;>rfl
 pyHash:=fun hv h=>by
  rcases keyIs_shape hv with ⟨i,t,rfl,rfl⟩ | ⟨x,t,rfl,rfl⟩
  ·exact wpAny_pyHash_int h
  ·exact wpAny_pyHash_str h
 eqBool:=fun hu hv h=>by
  rcases keyIs_shape hu with ⟨i,t,rfl,rfl⟩ | ⟨x,t,rfl,rfl⟩
  ·rcases keyIs_shape hv with ⟨j,u,rfl,rfl⟩ | ⟨y,u,rfl,rfl⟩
   ·rw [bV7] at h;exact wpAny_eqBool_int h
   ·rw [bV9] at h;exact SeqAt.EqAt.int_str i t y u _ _ _ _ h
  ·rcases keyIs_shape hv with ⟨j,u,rfl,rfl⟩ | ⟨y,u,rfl,rfl⟩
   ·rw [bW0] at h;exact SeqAt.EqAt.str_int x t j u _ _ _ _ h
   ·rw [bV8] at h;exact wpAny_eqBool_str h
 «strs»:=fun k x t v h=>by
  rcases keyIs_shape h with ⟨i,u,rfl,e⟩ | ⟨y,u,rfl,e⟩
  ·exact nomatch e
  ·injection e with e1 _
   subst e1;cases v<;>rfl
def lI (prog:Program) (w:World) (i:Int) (t:Tok):(bD prog w).is (.inl i) (.int i t)=true:=aB6 i t
def tP (prog:Program) (w:World) (x:Str) (t:Tok):(bD prog w).is (.inr x) (.str x t)=true:=aB7 x t
def IsTupD (h:Heap) (a:Addr) (items:Array Value):Prop:=∃ o,h.get? a=some o/\o.cls=.type "tuple"/\(∃ n,o.data=.seq items n)/\o.dict=none
def IsTupD.tup {h:Heap} {a:Addr} {items:Array Value} (x:IsTupD h a items):IsTup h a items:=let ⟨o,h1,h2,h3,_⟩:=x;⟨o,h1,h2,h3⟩
def IsTupD.lt {h:Heap} {a:Addr} {items:Array Value} (x:IsTupD h a items):a < h.objs.size:=let ⟨_,h1,_⟩:=x;Heap.lt_size h1
def IsTupD.new (h:Heap) (items:Array Value):IsTupD (h.push { cls:=.type "tuple",data:=.seq items }) h.objs.size items:=⟨_,Heap.get?_push_size _ rfl,rfl,⟨_,rfl⟩,rfl⟩
set_option genInjectivity true in
inductive V where
 | non | bl (b:Bool) | int (i:Int) | str (x:Str) | byt (b:Array UInt8) | flt (b:UInt64) | ref (a:Addr) | ty (n:String)
 deriving DecidableEq
noncomputable def RelV:V->Value->Prop
 | .non,u=>u=Value.none
 | .bl b,u=>u=Value.bool b
 | .int i,u=>∃ t,u=Value.int i t
 | .str x,u=>∃ t,u=Value.str x t
 | .byt b,u=>∃ t,u=Value.bytes b t
 | .flt b,u=>∃ t,u=Value.float b t
 | .ref a,u=>u=Value.ref a
 | .ty n,u=>u=Value.type n
abbrev Vals:List V->List Value->Prop:=Paired RelV
def Vals.length {xs:List V} {us:List Value} (r:Vals xs us):xs.length=us.length:=Paired.length r
theorem Vals.get:∀ {xs:List V} {us:List Value} {i:Nat} {x:V},Vals xs us->xs[i]?=some x->∃ u,us[i]?=some u/\RelV x u
 | _,_,_,_,.nil,e=>by simp at e
 | _,_,0,_,.cons r _,e=>by simp at e;subst e;exact ⟨_,rfl,r⟩
 | _,_,i+1,x,.cons _ t,e=>by
  obtain ⟨u,h1,h2⟩:=Vals.get (i:=i) (x:=x) t (by simpa using e);exact ⟨u,by simpa using h1,h2⟩
theorem Vals.set {x:V} {u:Value} (r:RelV x u):∀ {xs:List V} {us:List Value} (i:Nat),Vals xs us->Vals (xs.set i x) (us.set i u)
 | _,_,_,.nil=>.nil
 | _,_,0,.cons _ t=>.cons r t
 | _,_,i+1,.cons q t=>.cons q (Vals.set r i t)
theorem Vals.append:∀ {xs ys:List V} {us ws:List Value},Vals xs us->Vals ys ws->Vals (xs++ys) (us++ws)
 | _,_,_,_,.nil,s=>s
 | _,_,_,_,.cons r t,s=>.cons r (Vals.append t s)
theorem Vals.take:∀ {xs:List V} {us:List Value} (n:Nat),Vals xs us->Vals (xs.take n) (us.take n)
 | _,_,0,_=>.nil
 | _,_,_+1,.nil=>.nil
 | _,_,n+1,.cons r t=>.cons r (Vals.take n t)
theorem Vals.drop:∀ {xs:List V} {us:List Value} (n:Nat),Vals xs us->Vals (xs.drop n) (us.drop n)
 | _,_,0,r=>r
 | _,_,_+1,.nil=>.nil
 | _,_,n+1,.cons _ t=>Vals.drop n t
noncomputable def RelO:Option V->Option Value->Prop
 | some v,some u=>RelV v u
 | none,none=>True
 | _,_=>False
noncomputable def KV {κ:Type}:List (κ×V)->List (κ×Value)->Prop:=Paired fun (p:κ×V) (q:κ×Value)=>p.1=q.1/\RelV p.2 q.2
noncomputable def kV:Key->V
 | .inl i=>.int i
 | .inr x=>.str x
set_option genInjectivity true in
inductive HO where
 | lst (xs:List V)
 | tup (xs:List V)
 | dK (kvs:List (Key×V)) | dT (kvs:List (List Key×V))
 | set (S:Int->Bool) (n:Nat)
 | ins (C dx:Addr) (fs:List (Str×V))
 | own (x:Addr)
 | xd (fs:List (Str×V))
 | met (f x:Addr)
 | rng (lo hi:Int)
 | frz (o:Obj) (u:HO)
 | tbl (ps:Array Value)
 | ext (φ:Heap->Prop)
abbrev Hp:=Addr->Option HO
noncomputable def upd (H:Hp) (a:Addr) (o:HO):Hp:=fun b=>if b=a then some o else H b
def aU {H:Hp} {a:Addr} {o:HO}:upd H a o a=some o:=by unfold upd;rw [if_pos rfl]
def aN {H:Hp} {a b:Addr} {o:HO} (h:b≠a):upd H a o b=H b:=by unfold upd;rw [if_neg h]
def aR {H:Hp} {a b:Addr} {o:HO} (h:H a=some o) (h':H b=none):a≠b:=by
 intro e;subst e;rw [h] at h';cases h'
section
variable (P:Program) (w:World)
noncomputable def ObjOk (H:Hp) (h:Heap) (a:Addr):HO->Prop
 | .lst xs=>xs.length<=sizeLine/\∃ (its:List Value) (n:Nat),Vals xs its/\h.get? a=some { cls:=.type "list",data:=.seq its.toArray n }
 | .tup xs=>xs.length<=sizeLine/\∃ its:List Value,Vals xs its/\IsTupD h a its.toArray
 | .dK kvs=>kvs.length<=sizeLine/\(a==sysModules)=false/\∃ vs,KV kvs vs/\h.DictOf (bD P w) a vs
 | .dT kvs=>kvs.length<=sizeLine/\(a==sysModules)=false/\∃ xs:List (List Key×Addr×Value),
   Paired (fun (p:List Key×V) (q:List Key×Addr×Value)=>p.1=q.1/\H q.2.1=some (.tup (p.1.map kV))/\RelV p.2 q.2.2) kvs xs /\
   ∃ o es ep,h.get? a=some o/\o.ExactDict/\o.data=.dict es ep/\es.toList=xs.map (entryOfKey (tupleKind (bD P w)))/\(xs.map (·.1)).Nodup
 | .set S n=>h.SetOf (intKind P w) a S n
 | .ins C dx fs=>H dx=some (.own a)/\fs.length<=1000/\dx≠a/\h.get? a=some (PySem.W.instObj C dx) /\
   ∃ mA,h.Ns1 dx mA/\(∀ f,RelO (fs.lookup f) (mA f))/\PySem.Within mA (fs.map (·.1))
 | .own _=>∃ o,h.get? a=some o
 | .xd fs=>∃ mA,h.Ns1 a mA/\∀ f,RelO (fs.lookup f) (mA f)
 | .rng lo hi=>∃ t u v,h.get? a=some { cls:=.type "range",data:=.fields #[.int lo t,.int hi u,.int 1 v] }
 | .frz o u=>h.get? a=some o/\ObjOk H h a u
 | .tbl ps=>h.get? a=some { cls:=.none,data:=.fields ps }
 | .met f x=>h.get? a=some (PySem.W.methodObj (.ref f) (.ref x))
 | .ext φ=>φ h/\(∃ o,h.get? a=some o)/\∀ h1 h2:Heap,φ h1->(∀ o,h1.get? a=some o->h2.get? a=some o)->φ h2
def HOk (H:Hp) (h:Heap):Prop:=∀ a o,H a=some o->ObjOk P w H h a o
end
section
variable {P:Program} {w:World} {H H':Hp} {h h':Heap} {a:Addr} {o:HO}
def ObjOk.lt (x:ObjOk P w H h a o):a < h.objs.size:=by
 cases o with
 | lst xs=>obtain ⟨_,_,_,_,e⟩:=x;exact Heap.lt_size e
 | tup xs=>obtain ⟨_,_,_,p⟩:=x;exact p.lt
 | dK kvs=>obtain ⟨_,_,_,_,o,_,_,e,_⟩:=x;exact Heap.lt_size e
 | dT kvs=>obtain ⟨_,_,_,_,o,_,_,e,_⟩:=x;exact Heap.lt_size e
 | set S n=>obtain ⟨o,_,_,_,e,_⟩:=x;exact Heap.lt_size e
 | ins C dx fs=>obtain ⟨_,_,_,e,_⟩:=x;exact Heap.lt_size e
 | own y=>obtain ⟨_,e⟩:=x;exact Heap.lt_size e
 | xd fs=>obtain ⟨_,⟨_,_,_,e,_⟩,_⟩:=x;exact Heap.lt_size e
 | rng lo hi=>obtain ⟨_,_,_,e⟩:=x;exact Heap.lt_size e
 | frz ob u=>obtain ⟨e,_⟩:=x;exact Heap.lt_size e
 | tbl ps=>exact Heap.lt_size (show h.get? a=some _ from x)
 | met f y=>exact Heap.lt_size (show h.get? a=some _ from x)
 | ext φ=>obtain ⟨_,⟨_,e⟩,_⟩:=x;exact Heap.lt_size e
theorem Paired.mapP {α β:Type} {F G:α->β->Prop}:∀ {l₁:List α} {l₂:List β},Paired F l₁ l₂->(∀ a b,F a b->G a b)->Paired G l₁ l₂
 | _,_,.nil,_=>.nil
 | _,_,.cons r t,f=>.cons (f _ _ r) (Paired.mapP t f)
def ObjOk.stay (x:ObjOk P w H h a o) (k:∀ b u,(b=a\/H b=some (.own a))->h.get? b=some u->h'.get? b=some u)
  (ho:∀ b,H b=some (.own a)->H' b=some (.own a)) (ht:∀ b xs,H b=some (.tup xs)->H' b=some (.tup xs)):ObjOk P w H' h' a o:=by
 induction o with
 | lst xs=>obtain ⟨z,its,n,r,e⟩:=x;exact ⟨z,its,n,r,k _ _ (.inl rfl) e⟩
 | tup xs=>obtain ⟨z,its,r,ob,e,c⟩:=x;exact ⟨z,its,r,ob,k _ _ (.inl rfl) e,c⟩
 | dK kvs=>obtain ⟨z,y,vs,r,ob,es,ep,e,c⟩:=x;exact ⟨z,y,vs,r,ob,es,ep,k _ _ (.inl rfl) e,c⟩
 | dT kvs =>
  obtain ⟨z,y,xs,r,ob,es,ep,e,c⟩:=x;exact ⟨z,y,xs,Paired.mapP r fun p q z=>⟨z.1,ht _ _ z.2.1,z.2.2⟩,ob,es,ep,k _ _ (.inl rfl) e,c⟩
 | set S n=>obtain ⟨ob,es,ep,t,e,c⟩:=x;exact ⟨ob,es,ep,t,k _ _ (.inl rfl) e,c⟩
 | ins C dx fs =>
  obtain ⟨d,z,ne,e,mA,⟨od,es,ep,e2,c⟩,r⟩:=x;exact ⟨ho _ d,z,ne,k _ _ (.inl rfl) e,mA,⟨od,es,ep,k _ _ (.inr d) e2,c⟩,r⟩
 | own y=>obtain ⟨ob,e⟩:=x;exact ⟨ob,k _ _ (.inl rfl) e⟩
 | xd fs=>obtain ⟨mA,⟨od,es,ep,e,c⟩,r⟩:=x;exact ⟨mA,⟨od,es,ep,k _ _ (.inl rfl) e,c⟩,r⟩
 | rng lo hi=>obtain ⟨t,u,v,e⟩:=x;exact ⟨t,u,v,k _ _ (.inl rfl) e⟩
 | frz ob u ih=>obtain ⟨e,q⟩:=x;exact ⟨k _ _ (.inl rfl) e,ih q⟩
 | tbl ps =>
  have e:h.get? a=some { cls:=.none,data:=.fields ps }:=x;show h'.get? a=some { cls:=.none,data:=.fields ps };exact k a _ (.inl rfl) e
 | met f y =>
  have e:h.get? a=some (PySem.W.methodObj (.ref f) (.ref y)):=x;show h'.get? a=some (PySem.W.methodObj (.ref f) (.ref y));exact k a _ (.inl rfl) e
 | ext φ=>obtain ⟨p,⟨o,e⟩,st⟩:=x;exact ⟨st _ _ p fun o q=>k _ _ (.inl rfl) q,⟨o,k _ _ (.inl rfl) e⟩,st⟩
def HOk.lt (x:HOk P w H h) (e:H a=some o):a < h.objs.size:=(x a o e).lt
def HOk.fresh (x:HOk P w H h) (e:h.objs.size<=a):H a=none:=by
 cases q:H a with
 | none=>rfl
 | some u=>exact absurd (Nat.lt_of_lt_of_le (x.lt q) e) (Nat.lt_irrefl _)
def HOk.kept (x:HOk P w H h) (k:∀ b u,h.get? b=some u->h'.get? b=some u):HOk P w H h':=fun a o e =>
 (x a o e).stay (fun b u _ q=>k b u q) (fun _ q=>q) fun _ _ q=>q
def HOk.laid (x:HOk P w H h) (k:∀ b u,h.get? b=some u->h'.get? b=some u) (hp:h.objs.size<=a) (new:ObjOk P w (upd H a o) h' a o):HOk P w (upd H a o) h':=fun b u e=>by
 have hn:=x.fresh hp
 by_cases hb:b=a
 ·subst hb;rw [aU] at e;cases e;exact new
 ·rw [aN hb] at e;exact (x b u e).stay (fun c v _ q=>k c v q) (fun c q=>by rw [aN (aR q hn)];exact q) fun c xs q=>by rw [aN (aR q hn)];exact q
end
def Rd (H:Hp) (a:Addr) (u:HO):Prop:=H a=some u\/∃ o,H a=some (.frz o u)
def Rd.ok {P:Program} {w:World} {H:Hp} {h:Heap} {a:Addr} {u:HO} (r:Rd H a u) (x:HOk P w H h):ObjOk P w H h a u:=by
 rcases r with r | ⟨o,r⟩
 ·exact x a u r
 ·obtain ⟨_,q⟩:=x a _ r;exact q
noncomputable def Mut:Option HO->Prop
 | some (.lst _)=>True
 | some (.dK _)=>True
 | some (.dT _)=>True
 | some (.set _ _)=>True
 | some (.ins _ _ _)=>True
 | some (.ext _)=>True
 | _=>False
section
variable {P:Program} {w:World} {H:Hp} {h h':Heap} {x e:Addr} {o':HO}
def HOk.write (ok:HOk P w H h) (mu:Mut (H x)) (he:e=x\/H e=some (.own x)) (k:∀ b u,b≠e->h.get? b=some u->h'.get? b=some u) (heo:∃ u,h'.get? e=some u)
  (new:ObjOk P w (upd H x o') h' x o'):HOk P w (upd H x o') h':=fun b u q=>by
 have nown:∀ c y,H c=some (.own y)->c≠x:=fun c y r z=>by subst z;rw [r] at mu;exact mu
 have ntup:∀ c xs,H c=some (.tup xs)->c≠x:=fun c xs r z=>by subst z;rw [r] at mu;exact mu
 by_cases hb:b=x
 ·subst hb;rw [aU] at q;cases q;exact new
 ·rw [aN hb] at q
  by_cases hbe:b=e
  ·have q':H b=some (.own x):=by
    rcases he with z | z
    ·exact absurd (hbe.trans z) hb
    ·rw [hbe];exact z
   rw [q] at q';cases q';obtain ⟨v,hv⟩:=heo;exact ⟨v,by rw [hbe];exact hv⟩
  ·refine (ok b u q).stay (fun c v hc r=>k c v ?_ r) (fun c r=>by rw [aN (nown c b r)];exact r) fun c xs r=>by rw [aN (ntup c xs r)];exact r
   rcases hc with rfl | hc
   ·exact hbe
   ·rintro rfl;rcases he with z | z
    ·exact nown c b hc z
    ·rw [hc] at z;cases z;exact hb rfl
end
structure Un (fs ex:List Addr) (H H':Hp) (h h':Heap):Prop where
 keep:∀ b o,h.get? b=some o->H b=none->b∉fs->b∉ex->h'.get? b=some o
 slot:∀ b o,h.get? b=some o->H b=none->b∈fs->b∉ex->∃ sl,h'.get? b=some { o with slots:=sl }
 free:∀ b o,h.get? b=some o->H b=none->b∉ex->H' b=none
 there:∀ b o,h.get? b=some o->b∉ex->∃ o',h'.get? b=some o'
 tups:∀ b xs,H b=some (.tup xs)->H' b=some (.tup xs)
 frzs:∀ b o u,H b=some (.frz o u)->H' b=some (.frz o u)
 tbls:∀ b ps,H b=some (.tbl ps)->∃ more,H' b=some (.tbl (ps++more))
section
variable {fs fs' ex ex':List Addr} {H H1 H2:Hp} {h h1 h2 h':Heap} {a x e:Addr} {o:HO}
def Un.any (u:Un fs ex H H1 h h1) {b:Addr} {ob:Obj} (q:h.get? b=some ob) (n:H b=none) (hx:b∉ex):∃ sl,h1.get? b=some { ob with slots:=sl }:=by
 by_cases hb:b∈fs
 ·exact u.slot b ob q n hb hx
 ·exact ⟨ob.slots,u.keep b ob q n hb hx⟩
def Un.kept (k:∀ b u,h.get? b=some u->h'.get? b=some u):Un fs ex H H h h' :=
 ⟨fun b ob q _ _ _=>k b ob q,fun b ob q _ _ _=>⟨ob.slots,k b ob q⟩,fun _ _ _ n _=>n,fun b ob q _=>⟨ob,k b ob q⟩,fun _ _ q=>q,fun _ _ _ q=>q,fun _ ps q=>⟨#[],by rw [q];simp⟩⟩
def Un.refl:Un fs ex H H h h:=Un.kept fun _ _ q=>q
def Un.laid (k:∀ b u,h.get? b=some u->h'.get? b=some u) (hp:h.objs.size<=a) (hn:H a=none):Un fs ex H (upd H a o) h h' where
 keep:=fun b u q _ _ _=>k b u q
 slot:=fun b u q _ _ _=>⟨u.slots,k b u q⟩
 free:=fun b u q n _=>by rw [aN (Nat.ne_of_lt (Nat.lt_of_lt_of_le (Heap.lt_size q) hp))];exact n
 there:=fun b u q _=>⟨u,k b u q⟩
 tups:=fun b xs q=>by rw [aN (aR q hn)];exact q
 frzs:=fun b u xs q=>by rw [aN (aR q hn)];exact q
 tbls:=fun b ps q=>⟨#[],by rw [aN (aR q hn),q];simp⟩
def Un.write (mu:Mut (H x)) (he:e=x\/H e=some (.own x)) (k:∀ b u,b≠e->h.get? b=some u->h'.get? b=some u) (heo:∃ u,h'.get? e=some u):Un fs ex H (upd H x o) h h':=by
 have hx:∀ b,H b=none->b≠x:=fun b n z=>by subst z;rw [n] at mu;exact mu
 have hb:∀ b,H b=none->b≠e:=fun b n z=>by
  subst z;rcases he with r | r
  ·exact hx b n r
  ·rw [n] at r;cases r
 have hm:∀ b u,H b=some u->¬ Mut (some u)->b≠x:=fun b u q nm z=>by subst z;rw [q] at mu;exact nm mu
 refine ⟨fun b u q n _ _=>k b u (hb b n) q,fun b u q n _ _=>⟨u.slots,k b u (hb b n) q⟩,fun b u q n _=>by rw [aN (hx b n)];exact n,fun b u q _=>?_,
  fun b xs q=>by rw [aN (hm b _ q fun z=>z)];exact q,fun b u xs q=>by rw [aN (hm b _ q fun z=>z)];exact q,fun b ps q=>⟨#[],by rw [aN (hm b _ q fun z=>z),q];simp⟩⟩
 by_cases hbe:b=e
 ·subst hbe;exact heo
 ·exact ⟨u,k b u hbe q⟩
end
noncomputable def trk (h:Heap) (H:Hp):List Addr:=(List.range h.objs.size).filter fun a=>(H a).isSome
noncomputable def rF (h:Heap) (H:Hp):Heap:=PySem.W.hideAll h (trk h H)
def aB8 (h:Heap) (H:Hp):(rF h H).objs.size=h.objs.size:=PySem.W.hideAll_size _ _
def aK4 {h:Heap} {H:Hp} {b:Addr} {o:Obj} (e:h.get? b=some o) (n:H b=none):(rF h H).get? b=some o :=
 PySem.W.hideAll_get _ e fun hm=>by
  have q:(H b).isSome=true:=(List.mem_filter.mp hm).2;rw [n] at q;simp at q
def bB4 {h:Heap} {H:Hp} {b:Addr} {o:Obj} (e:(rF h H).get? b=some o):h.get? b=some o/\H b=none:=by
 have e':h.get? b=some o:=PySem.W.of_hideAll (trk h H) e;refine ⟨e',?_⟩;cases q:H b with
 | none=>rfl
 | some x =>
  have hm:b∈trk h H:=List.mem_filter.mpr ⟨List.mem_range.mpr (Heap.lt_size e'),by simp [q]⟩;have z:(rF h H).get? b=none:=PySem.W.hideAll_none (trk h H) hm;rw [z] at e;cases e
structure Mod (K:Frag) (mg:Str->Option Value) (base:Heap):Prop where
 kin:K.In base
 glob:base.Ns mainGlobals mg
 blt:∃ mb,base.Ns builtinsNs mb/\∀ x:Str,x≠"__name__"->mb x=bootBuiltins x
 nolimit:base.NoLimit
structure Cx where
 prog:Program
 w:World
 K:Frag
 mg:Str->Option Value
 base:Heap
 A:Around
 N:List Str
 s₀:Shared
 H₀:Hp
 env:Env
 outer:List Env
 stack:List Env
 ex:List Addr
 fn:Str->Bool
 calm:Bool
 pn:List (Addr×Obj)
 xe:Value->Shared->Prop
noncomputable def frs (l:List Env):List Addr:=l.filterMap (·.frame)
noncomputable abbrev Cx.fs (X:Cx):List Addr:=frs X.outer
def Vis (sc:Scope) (x:Str):Prop:=sc.names.lookup x=some .local\/sc.names.lookup x=some .cell\/sc.names.lookup x=some .free
def Loc (sc:Scope) (x:Str):Prop:=sc.names.lookup x=some .local\/sc.names.lookup x=some .cell
def dJ7 (env:Env) (h:Heap) (m:Str->Option Value) (x:Str) (u:Value):Prop :=
 (env.kindOf x=some .local/\m x=some u)\/((env.kindOf x=some .cell\/env.kindOf x=some .free)/\∃ c,env.cells.lookup x=some c/\h.IsCell c (some u))
structure Cx.Ok (X:Cx):Prop where
 mod:Mod X.K X.mg X.base
 kind:X.env.scope.kind=.function
 glob:X.env.globals=mainGlobals
 blt:X.env.builtins=builtinsNs
 above:X.s₀.heap.objs.size<=X.env.locals
 inj:∀ x y c,X.env.cells.lookup x=some c->X.env.cells.lookup y=some c->x=y
 has:∀ x,(X.env.kindOf x=some .cell\/X.env.kindOf x=some .free)->∃ c,X.env.cells.lookup x=some c
 cab:∀ x c,X.fn x=true->X.env.cells.lookup x=some c->X.s₀.heap.objs.size<=c
 hd:X.calm=true->X.A.handled=none
 frames:X.A.frames=some X.stack
 stk:X.stack=X.outer\/(X.stack=X.env::X.outer/\X.env.frame=some X.env.locals)
 exf:∀ b∈X.ex,b≠X.env.locals/\∀ x c,X.env.cells.lookup x=some c->c≠b
 bs:∀ b o,X.base.get? b=some o->X.s₀.heap.get? b=some o/\X.H₀ b=none
 bsz:X.base.objs.size<=X.s₀.heap.objs.size
 noex:∀ b o,X.base.get? b=some o->b∉X.ex
 exfs:∀ b∈X.ex,b∉X.fs
 funs:X.s₀.heap.FunFrames X.base X.outer
 frf:∀ b∈X.fs,X.H₀ b=none
structure Inv (X:Cx) (pins:List (Addr×Obj)) (σ:List (Option V)) (H:Hp) (s:Shared):Prop where
 ok:X.Ok
 os:s.os=X.s₀.os
 bare:AllBare s.gens
 base:Un X.fs X.ex X.H₀ H X.s₀.heap s.heap
 loc:∃ m,s.heap.Ns X.env.locals m/\∀ (i:Nat) (x:Str) (v:V),X.N[i]?=some x->σ[i]?=some (some v)->Vis X.env.scope x->∃ u,RelV v u/\dJ7 X.env s.heap m x u
 cell:∀ x c,X.env.cells.lookup x=some c->∃ v,s.heap.IsCell c v
 free:H X.env.locals=none
 freeC:∀ x c,X.env.cells.lookup x=some c->H c=none
 pin:∀ p∈X.pn++pins,s.heap.get? p.1=some p.2/\H p.1=none/\p.1≠X.env.locals/\p.1∉X.fs/\∀ v,p.2.data≠.cell v
 hok:HOk X.prog X.w H s.heap
 len:σ.length=X.N.length
section
variable {X:Cx} {pins:List (Addr×Obj)} {σ:List (Option V)} {H H':Hp} {s:Shared} {h':Heap}
def Cx.Ok.nofr (ok:X.Ok) {b:Addr} {o:Obj} (e:X.base.get? b=some o):b∉X.fs:=fun hb=>by
 have:=(ok.funs.mem hb).1;rw [e] at this;cases this
def Inv.bs (I:Inv X pins σ H s):∀ b o,X.base.get? b=some o->s.heap.get? b=some o/\H b=none:=fun b o e =>
 ⟨I.base.keep b o (I.ok.bs b o e).1 (I.ok.bs b o e).2 (I.ok.nofr e) (I.ok.noex b o e),I.base.free b o (I.ok.bs b o e).1 (I.ok.bs b o e).2 (I.ok.noex b o e)⟩
def Inv.bk (I:Inv X pins σ H s):∀ b o,X.base.get? b=some o->s.heap.get? b=some o:=fun b o e=>(I.bs b o e).1
def Inv.mod (I:Inv X pins σ H s):Mod X.K X.mg X.base:=I.ok.mod
def Inv.kIn (I:Inv X pins σ H s):X.K.In s.heap:=I.ok.mod.kin.keeps I.bk
def Inv.lt (I:Inv X pins σ H s):X.env.locals < s.heap.objs.size:=let ⟨_,hn,_⟩:=I.loc;hn.lt
def Inv.sz (I:Inv X pins σ H s):X.s₀.heap.objs.size<=s.heap.objs.size:=Nat.le_trans I.ok.above (Nat.le_of_lt I.lt)
def Inv.nofs (I:Inv X pins σ H s) {a:Addr} (h:s.heap.objs.size<=a):a∉X.fs:=fun hb=>by
 obtain ⟨_,o,ho,_⟩:=I.ok.funs.mem hb;exact absurd (Nat.lt_of_lt_of_le (Heap.lt_size ho) (Nat.le_trans I.sz h)) (Nat.lt_irrefl _)
def Inv.cne (I:Inv X pins σ H s):∀ x c,X.env.cells.lookup x=some c->c≠X.env.locals:=fun x c e z=>by
 obtain ⟨v,o,ho,hd⟩:=I.cell x c e;obtain ⟨m,⟨o',es,ep,ho',hd',_⟩,_⟩:=I.loc;rw [z,ho'] at ho;cases ho;rw [hd'] at hd;cases hd
def Inv.funs (I:Inv X pins σ H s):s.heap.FunFrames X.base X.outer:=by
 have all:∀ (l:List Env),(∀ b∈frs l,b∈X.fs)->X.s₀.heap.FunFrames X.base l->s.heap.FunFrames X.base l:=by
  intro l;induction l with
  | nil=>intro _ _;trivial
  | cons env r ih =>
   intro hs hl;obtain ⟨hk,⟨L,o,hf,hn,ho,hd⟩,hr⟩:=hl;have hL:L∈X.fs:=hs L (by unfold frs;rw [List.filterMap_cons,hf];exact List.mem_cons_self);obtain ⟨sl,e⟩:=I.base.slot L o ho (I.ok.frf L hL) hL fun z=>I.ok.exfs L z hL;exact ⟨hk,⟨L,_,hf,hn,e,hd⟩,ih (fun b hb=>hs b (by unfold frs;rw [List.filterMap_cons,hf];exact List.mem_cons_of_mem _ hb)) hr⟩
 exact all X.outer (fun _ hb=>hb) I.ok.funs
def Inv.stack (I:Inv X pins σ H s):s.heap.FunFrames X.base X.stack:=by
 rcases I.ok.stk with e | ⟨e,hf⟩
 ·rw [e];exact I.funs
 ·rw [e];obtain ⟨m,hn,_⟩:=I.loc;refine .cons (by rw [I.ok.kind];decide) hf hn ?_ I.funs;exact Heap.get?_none_of_le (Nat.le_trans I.ok.bsz I.ok.above)
def Inv.stkSub (I:Inv X pins σ H s):∀ b∈frs X.stack,b∈X.env.locals::X.fs:=fun b hb=>by
 rcases I.ok.stk with e | ⟨e,hf⟩
 ·rw [e] at hb;exact List.mem_cons_of_mem _ hb
 ·rw [e] at hb;unfold frs at hb;rw [List.filterMap_cons,hf] at hb;exact hb
def Inv.stkFree (I:Inv X pins σ H s):∀ b∈frs X.stack,H b=none:=fun b hb=>by
 rcases List.mem_cons.mp (I.stkSub b hb) with e | hb
 ·rw [e];exact I.free
 ·obtain ⟨_,o,ho,_⟩:=I.ok.funs.mem hb;exact I.base.free b o ho (I.ok.frf b hb) fun z=>I.ok.exfs b z hb
def Inv.step {g':Array GenState} {t':Nat} {d':Drawn} {ch:List Addr} (I:Inv X pins σ H s)
  (hch:∀ b∈ch,(b∈X.ex\/X.s₀.heap.objs.size<=b)/\b≠X.env.locals/\(∀ x c,X.env.cells.lookup x=some c->c≠b)/\∀ p∈X.pn++pins,p.1≠b)
  (keep:∀ b o,b≠X.env.locals->b∉X.fs->b∉ch->s.heap.get? b=some o->H b=none->h'.get? b=some o)
  (slot:∀ b o,b≠X.env.locals->b∈X.fs->b∉ch->s.heap.get? b=some o->H b=none->∃ sl,h'.get? b=some { o with slots:=sl }) (free:∀ b o,b∉ch->s.heap.get? b=some o->H b=none->H' b=none)
  (there:∀ b o,b∉ch->s.heap.get? b=some o->∃ o',h'.get? b=some o')
  (tups:∀ b xs,H b=some (.tup xs)->H' b=some (.tup xs)) (frzs:∀ b o u,H b=some (.frz o u)->H' b=some (.frz o u)) (tbls:∀ b ps,H b=some (.tbl ps)->∃ more,H' b=some (.tbl (ps++more)))
  (ns:∀ m,s.heap.Ns X.env.locals m->h'.Ns X.env.locals m) (hok:HOk X.prog X.w H' h') (hg:AllBare g') :
  Inv X pins σ H' { s with heap:=h',gens:=g',drawn:=d',toks:=t' }:=by
 have neL:∀ b o,X.s₀.heap.get? b=some o->b≠X.env.locals:=fun b o e=>Nat.ne_of_lt (Nat.lt_of_lt_of_le (Heap.lt_size e) I.ok.above);have neC:∀ b o,X.s₀.heap.get? b=some o->b∉X.ex->b∉ch:=fun b o e hx hb=>by
  rcases (hch b hb).1 with z | z
  ·exact hx z
  ·exact absurd (Nat.lt_of_lt_of_le (Heap.lt_size e) z) (Nat.lt_irrefl _)
 have cellK:∀ x c,X.env.cells.lookup x=some c->∀ v,s.heap.IsCell c v->h'.IsCell c v:=fun x c e v ⟨o,ho,hd⟩=>by
  have nch:c∉ch:=fun z=>(hch c z).2.2.1 x c e rfl
  by_cases hc:c∈X.fs
  ·obtain ⟨sl,q⟩:=slot c o (I.cne x c e) hc nch ho (I.freeC x c e);exact ⟨_,q,hd⟩
  ·exact ⟨o,keep c o (I.cne x c e) hc nch ho (I.freeC x c e),hd⟩
 refine ⟨I.ok,I.os,hg,⟨fun b o e n hb hx=>?_,fun b o e n hb hx=>?_,fun b o e n hx=>?_,fun b o e hx=>?_,fun b xs e=>tups b xs (I.base.tups b xs e),fun b o xs e=>frzs b o xs (I.base.frzs b o xs e),fun b ps e=>?_⟩,?_,fun x c e=>?_,?_,fun x c e=>?_,fun p hp=>?_,hok,I.len⟩
 ·exact keep b o (neL b o e) hb (neC b o e hx) (I.base.keep b o e n hb hx) (I.base.free b o e n hx)
 ·obtain ⟨sl,e1⟩:=I.base.slot b o e n hb hx;obtain ⟨sl',e2⟩:=slot b _ (neL b o e) hb (neC b o e hx) e1 (I.base.free b o e n hx);exact ⟨sl',e2⟩
 ·obtain ⟨o',e1⟩:=I.base.there b o e hx;exact free b o' (neC b o e hx) e1 (I.base.free b o e n hx)
 ·obtain ⟨o',e1⟩:=I.base.there b o e hx;exact there b o' (neC b o e hx) e1
 ·obtain ⟨m1,e1⟩:=I.base.tbls b ps e;obtain ⟨m2,e2⟩:=tbls b _ e1;exact ⟨m1++m2,by rw [e2,Array.append_assoc]⟩
 ·obtain ⟨m,hn,hl⟩:=I.loc;refine ⟨m,ns m hn,fun i x v e1 e2 e3=>?_⟩;obtain ⟨u,r,l⟩:=hl i x v e1 e2 e3;refine ⟨u,r,?_⟩;rcases l with l | ⟨k,c,e,z⟩
  ·exact .inl l
  ·exact .inr ⟨k,c,e,cellK x c e _ z⟩
 ·obtain ⟨v,z⟩:=I.cell x c e;exact ⟨v,cellK x c e v z⟩
 ·obtain ⟨m,⟨o,_,_,ho,_⟩,_⟩:=I.loc;exact free _ o (fun z=>(hch _ z).2.1 rfl) ho I.free
 ·obtain ⟨v,o,ho,hd⟩:=I.cell x c e;exact free c o (fun z=>(hch c z).2.2.1 x c e rfl) ho (I.freeC x c e)
 ·obtain ⟨e,n,ne,nf,d⟩:=I.pin p hp;have nch:p.1∉ch:=fun z=>(hch p.1 z).2.2.2 p hp rfl;exact ⟨keep p.1 p.2 ne nf nch e n,free p.1 p.2 nch e n,ne,nf,d⟩
def Inv.un {t':Nat} (I:Inv X pins σ H s) (u:Un X.fs [] H H' s.heap h') (hok:HOk X.prog X.w H' h'):Inv X pins σ H' { s with heap:=h',toks:=t' }:=by
 obtain ⟨m,⟨o,es,ep,ho,r⟩,_⟩:=id I.loc;obtain ⟨sl,hL⟩:=u.any ho I.free (by simp);exact I.step (g':=s.gens) (d':=s.drawn) (ch:=[]) (fun _ z=>nomatch z) (fun b o _ hb _ e n=>u.keep b o e n hb (by simp)) (fun b o _ hb _ e n=>u.slot b o e n hb (by simp)) (fun b o _ e n=>u.free b o e n (by simp)) (fun b o _ e=>u.there b o e (by simp)) u.tups u.frzs u.tbls (fun m' hm=>by
  obtain ⟨o',es',ep',ho',r'⟩:=hm;rw [ho] at ho';cases ho';exact ⟨_,es',ep',hL,r'⟩) hok I.bare
def Inv.call {g':Array GenState} {t':Nat} {d':Drawn} {ch:List Addr} (I:Inv X pins σ H s) (u:Un (frs X.stack) ch H H' s.heap h') (hok:HOk X.prog X.w H' h') (hg:AllBare g')
  (hch:∀ b∈ch,(b∈X.ex\/X.s₀.heap.objs.size<=b)/\b≠X.env.locals/\(∀ x c,X.env.cells.lookup x=some c->c≠b)/\∀ p∈X.pn++pins,p.1≠b) :
  Inv X pins σ H' { s with heap:=h',gens:=g',drawn:=d',toks:=t' }:=by
 obtain ⟨m,⟨o,es,ep,ho,r⟩,_⟩:=id I.loc;obtain ⟨sl,hL⟩:=u.any ho I.free fun z=>(hch _ z).2.1 rfl;exact I.step (ch:=ch) hch (fun b o hL hb hc e n=>u.keep b o e n (fun z=>(List.mem_cons.mp (I.stkSub b z)).elim hL hb) hc) (fun b o _ _ hc e n=>u.any e n hc) (fun b o hc e n=>u.free b o e n hc) (fun b o hc e=>u.there b o e hc) u.tups u.frzs u.tbls (fun m' hm=>by
  obtain ⟨o',es',ep',ho',r'⟩:=hm;rw [ho] at ho';cases ho';exact ⟨_,es',ep',hL,r'⟩) hok hg
def Inv.turned {t':Nat} {it:Addr} (I:Inv X pins σ H s) (k:∀ b o,b≠it->s.heap.get? b=some o->h'.get? b=some o) (hn:H it=none) (hL:it≠X.env.locals)
  (h1:it∈X.ex\/X.s₀.heap.objs.size<=it) (h2:∀ x c,X.env.cells.lookup x=some c->c≠it) (h3:∀ p∈X.pn++pins,p.1≠it):Inv X pins σ H { s with heap:=h',toks:=t' }:=by
 have nit:∀ b u,H b=some u->b≠it:=fun b u e z=>by rw [z,hn] at e;cases e
 refine I.step (g':=s.gens) (d':=s.drawn) (ch:=[it]) (fun b hb=>?_) (fun b o _ _ hc e _=>k b o (fun z=>hc (by simp [z])) e) (fun b o _ _ hc e _=>⟨o.slots,k b o (fun z=>hc (by simp [z])) e⟩) (fun _ _ _ _ n=>n)
  (fun b o hc e=>⟨o,k b o (fun z=>hc (by simp [z])) e⟩) (fun _ _ e=>e) (fun _ _ _ e=>e) (fun b ps e=>⟨#[],by rw [e];simp⟩) (fun m hm=>?_) (fun b u e=>?_) I.bare
 ·have e:b=it:=by simpa using hb
  subst e;exact ⟨h1,hL,h2,h3⟩
 ·obtain ⟨o,es,ep,ho,r⟩:=hm;exact ⟨o,es,ep,k _ o (Ne.symm hL) ho,r⟩
 ·refine (I.hok b u e).stay (fun c v hc q=>k c v ?_ q) (fun _ q=>q) fun _ _ q=>q;rcases hc with z | z
  ·rw [z];exact nit b u e
  ·exact nit c _ z
def Inv.tok (I:Inv X pins σ H s) (t:Nat):Inv X pins σ H { s with toks:=t }:=I.un (h':=s.heap) (t':=t) Un.refl I.hok
def Inv.kept {t':Nat} (I:Inv X pins σ H s) (k:∀ b u,s.heap.get? b=some u->h'.get? b=some u):Inv X pins σ H { s with heap:=h',toks:=t' }:=I.un (Un.kept k) (I.hok.kept k)
def Inv.laid {a:Addr} {o:HO} {t':Nat} (I:Inv X pins σ H s) (k:∀ b u,s.heap.get? b=some u->h'.get? b=some u) (hp:s.heap.objs.size<=a) (new:ObjOk X.prog X.w (upd H a o) h' a o) :
  Inv X pins σ (upd H a o) { s with heap:=h',toks:=t' }:=I.un (Un.laid k hp (I.hok.fresh hp)) (I.hok.laid k hp new)
def Inv.write {x e:Addr} {o:HO} {t':Nat} (I:Inv X pins σ H s) (mu:Mut (H x)) (he:e=x\/H e=some (.own x)) (k:∀ b u,b≠e->s.heap.get? b=some u->h'.get? b=some u) (heo:∃ u,h'.get? e=some u)
  (new:ObjOk X.prog X.w (upd H x o) h' x o):Inv X pins σ (upd H x o) { s with heap:=h',toks:=t' }:=I.un (Un.write mu he k heo) (I.hok.write mu he k heo new)
def Inv.pins_of {pins':List (Addr×Obj)} (I:Inv X pins σ H s) (h:∀ p∈pins',s.heap.get? p.1=some p.2/\H p.1=none/\p.1≠X.env.locals/\p.1∉X.fs/\∀ v,p.2.data≠.cell v):Inv X pins' σ H s :=
 ⟨I.ok,I.os,I.bare,I.base,I.loc,I.cell,I.free,I.freeC,fun p hp=>(List.mem_append.mp hp).elim (fun z=>I.pin p (List.mem_append_left _ z)) (h p),I.hok,I.len⟩
def tQ {N:List Str} (hN:N.Nodup) {i j:Nat} {x:Str} (a:N[i]?=some x) (b:N[j]?=some x):i=j:=by
 obtain ⟨h1,e1⟩:=List.getElem?_eq_some_iff.mp a;obtain ⟨h2,e2⟩:=List.getElem?_eq_some_iff.mp b;exact (List.getElem_inj hN).mp (e1.trans e2.symm)
def pE {M:Model} {A:Around} {E:Value->Shared->Prop} {i:Nat} {x:Str} {v:V} {u:Value} {Q:Unit->Shared->Prop} (I:Inv X pins σ H s) (hN:X.N.Nodup) (hi:X.N[i]?=some x) (hx:Loc X.env.scope x) (r:RelV v u)
  (h:∀ s',Inv X pins (σ.set i (some v)) H s'->(∃ a,Heap.SameBut a s.heap s'.heap/\(a=X.env.locals\/X.env.cells.lookup x=some a))->Q () s') (hf:X.fn x=true\/X.env.scope.names.lookup x=some .local:=by first | exact .inl rfl | exact .inr rfl | assumption):wpAny M A (storeName X.env x u) Q E s:=by
 obtain ⟨m,hn,hl⟩:=id I.loc;have hcls:(X.env.scope.kind==.class||(X.env.scope.kind==.module&&X.env.locals != X.env.globals))=false:=by rw [I.ok.kind];rfl
 have hiσ:i < σ.length:=by rw [I.len];exact (List.getElem?_eq_some_iff.mp hi).1
 have cne:=I.cne;have tracked:∀ {a:Addr} {h':Heap},(∃ o,s.heap.get? a=some o/\H a=none)->Heap.SameBut a s.heap h'->HOk X.prog X.w H h':=fun {a h'} ha hs b ob e=>by
  obtain ⟨_,_,hfree⟩:=ha;refine (I.hok b ob e).stay (fun c w' hc q=>(hs.2 c ?_).trans q) (fun _ q=>q) fun _ _ q=>q;rintro rfl;rcases hc with rfl | hc
  ·rw [hfree] at e;cases e
  ·rw [hfree] at hc;cases hc
 rcases hx with hk | hk
 ·refine wpAny_storeName_local hk hn (fun h' hn' hs=>?_) hcls;obtain ⟨oL,_,_,hoL,_⟩:=id hn;refine h _ ⟨I.ok,I.os,I.bare,⟨fun b o e n hb hx=>?_,fun b o e n hb hx=>?_,I.base.free,fun b o e hx=>?_,I.base.tups,I.base.frzs,I.base.tbls⟩,⟨_,hn',fun j y v' e1 e2 e3=>?_⟩,fun y c e=>?_,I.free,I.freeC,fun p hp=>?_,tracked ⟨oL,hoL,I.free⟩ hs,by simpa using I.len⟩ ⟨_,hs,.inl rfl⟩
  ·exact (hs.2 b (Nat.ne_of_lt (Nat.lt_of_lt_of_le (Heap.lt_size e) I.ok.above))).trans (I.base.keep b o e n hb hx)
  ·obtain ⟨sl,e1⟩:=I.base.slot b o e n hb hx;exact ⟨sl,(hs.2 b (Nat.ne_of_lt (Nat.lt_of_lt_of_le (Heap.lt_size e) I.ok.above))).trans e1⟩
  ·obtain ⟨o',e1⟩:=I.base.there b o e hx;exact ⟨o',(hs.2 b (Nat.ne_of_lt (Nat.lt_of_lt_of_le (Heap.lt_size e) I.ok.above))).trans e1⟩
  ·by_cases hj:j=i
   ·subst hj;rw [hi] at e1;cases e1;rw [List.getElem?_set_self hiσ] at e2;cases e2;exact ⟨u,r,.inl ⟨hk,by simp⟩⟩
   ·rw [List.getElem?_set_ne (Ne.symm hj)] at e2;obtain ⟨u',r',q⟩:=hl j y v' e1 e2 e3;refine ⟨u',r',?_⟩;rcases q with ⟨k,e⟩ | ⟨k,c,e,z⟩
    ·refine .inl ⟨k,?_⟩;have:y≠x:=fun e=>hj (tQ hN e1 (e ▸ hi));simp [this,e]
    ·exact .inr ⟨k,c,e,z.sameBut hs (cne y c e)⟩
  ·obtain ⟨w',z⟩:=I.cell y c e;exact ⟨w',z.sameBut hs (cne y c e)⟩
  ·obtain ⟨e,n,ne,nf,d⟩:=I.pin p hp;exact ⟨(hs.2 p.1 ne).trans e,n,ne,nf,d⟩
 ·have hfn:X.fn x=true:=by
   rcases hf with z | z
   ·exact z
   ·rw [z] at hk;cases hk
  obtain ⟨c,hc⟩:=I.ok.has x (.inl hk);obtain ⟨w',z⟩:=I.cell x c hc;refine wpAny_storeName_cell I.ok.kind hk hc z (fun h' hc' hs=>?_);obtain ⟨oc,hoc,hocd⟩:=id z;refine h { s with heap:=h' } ⟨I.ok,I.os,I.bare,⟨fun b o e n hb hx=>?_,fun b o e n hb hx=>?_,I.base.free,fun b o e hx=>?_,I.base.tups,I.base.frzs,I.base.tbls⟩,⟨m,hn.sameBut hs (Ne.symm (cne x c hc)),fun j y v' e1 e2 e3=>?_⟩,fun y c' e=>?_,I.free,I.freeC,fun p hp=>?_,tracked ⟨oc,hoc,I.freeC x c hc⟩ hs,by simpa using I.len⟩ ⟨c,hs,.inr hc⟩
  ·exact (hs.2 b (Nat.ne_of_lt (Nat.lt_of_lt_of_le (Heap.lt_size e) (I.ok.cab x c hfn hc)))).trans (I.base.keep b o e n hb hx)
  ·obtain ⟨sl,e1⟩:=I.base.slot b o e n hb hx;exact ⟨sl,(hs.2 b (Nat.ne_of_lt (Nat.lt_of_lt_of_le (Heap.lt_size e) (I.ok.cab x c hfn hc)))).trans e1⟩
  ·obtain ⟨o',e1⟩:=I.base.there b o e hx;exact ⟨o',(hs.2 b (Nat.ne_of_lt (Nat.lt_of_lt_of_le (Heap.lt_size e) (I.ok.cab x c hfn hc)))).trans e1⟩
  ·by_cases hj:j=i
   ·subst hj;rw [hi] at e1;cases e1;rw [List.getElem?_set_self hiσ] at e2;cases e2;exact ⟨u,r,.inr ⟨.inl hk,c,hc,hc'⟩⟩
   ·rw [List.getElem?_set_ne (Ne.symm hj)] at e2;obtain ⟨u',r',q⟩:=hl j y v' e1 e2 e3;refine ⟨u',r',?_⟩;rcases q with q | ⟨k,c',e,z'⟩
    ·exact .inl q
    ·refine .inr ⟨k,c',e,z'.sameBut hs ?_⟩;rintro rfl;exact hj (tQ hN e1 (I.ok.inj _ _ _ e hc ▸ hi))
  ·by_cases hcc:c'=c
   ·subst hcc;exact ⟨_,hc'⟩
   ·obtain ⟨w2,z2⟩:=I.cell y c' e;exact ⟨w2,z2.sameBut hs hcc⟩
  ·obtain ⟨e,n,ne,nf,d⟩:=I.pin p hp;refine ⟨(hs.2 p.1 ?_).trans e,n,ne,nf,d⟩;intro q;rw [q,hoc] at e;have q':oc=p.2:=Option.some.inj e;exact d w' (by rw [<- q'];exact hocd)
def mZ {M:Model} {A:Around} {E:Value->Shared->Prop} {i:Nat} {x:Str} {v:V} {u:Value} {Q:Unit->Shared->Prop} (I:Inv X pins σ H s) (hN:X.N.Nodup) (hi:X.N[i]?=some x) (hx:Loc X.env.scope x) (r:RelV v u)
  (h:∀ s',Inv X pins (σ.set i (some v)) H s'->Q () s') (hf:X.fn x=true\/X.env.scope.names.lookup x=some .local:=by first | exact .inl rfl | exact .inr rfl | assumption):wpAny M A (storeName X.env x u) Q E s :=
 pE I hN hi hx r (fun s' I' _=>h s' I') hf
def Inv.call' {s':Shared} {ch:List Addr} (I:Inv X pins σ H s) (ho:s'.os=s.os) (u:Un (frs X.stack) ch H H' s.heap s'.heap) (hok:HOk X.prog X.w H' s'.heap) (hg:AllBare s'.gens)
  (hch:∀ b∈ch,(b∈X.ex\/X.s₀.heap.objs.size<=b)/\b≠X.env.locals/\(∀ x c,X.env.cells.lookup x=some c->c≠b)/\∀ p∈X.pn++pins,p.1≠b):Inv X pins σ H' s':=by
 obtain ⟨h',g',d',t',o'⟩:=s';have e:o'=s.os:=ho;subst e;exact I.call (g':=g') (t':=t') (d':=d') u hok hg hch
end
abbrev XK:=Value->Option Addr->Hp->Prop
abbrev St:=List (Option V)
abbrev VK:=V->Hp->Prop
abbrev TE:=St->Hp->VK->Prop
abbrev TT:=St->Hp->(Bool->Hp->Prop)->Prop
abbrev TA:=St->Hp->(List V->Hp->Prop)->Prop
structure Ends where
 nx:St->Hp->Prop
 rt:VK
 bk:St->Hp->Prop:=fun _ _=>False
 ct:St->Hp->Prop:=fun _ _=>False
abbrev TS:=Ends->St->Hp->Prop
def EP (X:Cx) (pins:List (Addr×Obj)) (σ:St) (Q:VK) (u:Value) (s':Shared):Prop:=∃ v H',Inv X pins σ H' s'/\RelV v u/\Q v H'
def TP (X:Cx) (pins:List (Addr×Obj)) (σ:St) (Q:Bool->Hp->Prop) (b:Bool) (s':Shared):Prop:=∃ H',Inv X pins σ H' s'/\Q b H'
def AP (X:Cx) (pins:List (Addr×Obj)) (σ:St) (Q:List V->Hp->Prop) (us:List Value) (s':Shared):Prop:=∃ vs H',Inv X pins σ H' s'/\Vals vs us/\Q vs H'
def SP (X:Cx) (pins:List (Addr×Obj)) (D:Ends) (f:Flow) (s':Shared):Prop :=
 match f with
 | .next=>∃ σ' H',Inv X pins σ' H' s'/\D.nx σ' H'
 | .brk=>∃ σ' H',Inv X pins σ' H' s'/\D.bk σ' H'
 | .cont=>∃ σ' H',Inv X pins σ' H' s'/\D.ct σ' H'
 | .ret u=>∃ v σ' H',Inv X pins σ' H' s'/\RelV v u/\D.rt v H'
def PE (X:Cx) (e:Expr) (t:TE):Prop :=
 ∀ (pins:List (Addr×Obj)) (s:Shared) (σ:St) (H:Hp) (Q:VK),Inv X pins σ H s->t σ H Q->wpAny (model X.prog X.w) X.A (eval e X.env) (EP X pins σ Q) X.xe s
def PT (X:Cx) (e:Expr) (t:TT):Prop :=
 ∀ (pins:List (Addr×Obj)) (s:Shared) (σ:St) (H:Hp) (Q:Bool->Hp->Prop),Inv X pins σ H s->t σ H Q->wpAny (model X.prog X.w) X.A (isTrue e X.env (eval e X.env)) (TP X pins σ Q) X.xe s
def PW (X:Cx) (e:Expr) (t:TT):Prop :=
 ∀ (whole:Sem Value) (pins:List (Addr×Obj)) (s:Shared) (σ:St) (H:Hp) (Q:Bool->Hp->Prop),Inv X pins σ H s->t σ H Q->wpAny (model X.prog X.w) X.A (isTrue e X.env whole) (TP X pins σ Q) X.xe s
def PA (X:Cx) (es:List Expr) (t:TA):Prop :=
 ∀ (pos:Pos) (pins:List (Addr×Obj)) (s:Shared) (σ:St) (H:Hp) (Q:List V->Hp->Prop),Inv X pins σ H s->t σ H Q->wpAny (model X.prog X.w) X.A (spliced (backTo pos (starEach es X.env))) (AP X pins σ Q) X.xe s
def PS (X:Cx) (st:Stmt) (t:TS):Prop :=
 ∀ (pins:List (Addr×Obj)) (s:Shared) (σ:St) (H:Hp) (D:Ends),Inv X pins σ H s->t D σ H->wpAny (model X.prog X.w) X.A (exec st X.env) (SP X pins D) X.xe s
def PSs (X:Cx) (st:List Stmt) (t:TS):Prop :=
 ∀ (pins:List (Addr×Obj)) (s:Shared) (σ:St) (H:Hp) (D:Ends),Inv X pins σ H s->t D σ H->wpAny (model X.prog X.w) X.A (execs st X.env) (SP X pins D) X.xe s
def thn {α:Type} {t:Sem α} {Q Q':α->Shared->Prop} {M:Model} {A:Around} {E:Value->Shared->Prop} {s:Shared} (h:wpAny M A t Q E s) (hQ:∀ a s,Q a s->Q' a s):wpAny M A t Q' E s:=wpAny_mono h hQ fun _ _ x=>x
section
variable {X:Cx}
def bW1 (i:Nat):TE:=fun σ H Q=>∃ v,σ[i]?=some (some v)/\Q v H
def tC (v:V):TE:=fun _ H Q=>Q v H
def wM {i:Nat} {x:Str} {pos:Pos} (hN:X.N[i]?=some x) (hv:Vis X.env.scope x) (hd:autoParam ((x==("__debug__":Str))=false) ZD) (hcd:autoParam ((x==("__classdict__":Str))=false) ZD):PE X (.Name x pos) (bW1 i):=by
 intro pins s σ H Q I h;obtain ⟨v,e,h⟩:=h;obtain ⟨m,hn,hl⟩:=I.loc;obtain ⟨u,r,l⟩:=hl i x v hN e hv;have fin:EP X pins σ Q u s:=⟨v,H,I,r,h⟩;rcases l with ⟨hk,hm⟩ | ⟨hk,c,hc,hcell⟩
 ·exact wpAny_Name (wpAny_loadName_local I.ok.kind hk hn hm fin) hd
 ·rcases hk with hk | hk
  ·exact wpAny_Name (wpAny_loadName_cell I.ok.kind hk hc hcell fin) hd
  ·exact wpAny_Name (wpAny_loadName_free I.ok.kind hk hc hcell fin hcd) hd
def bW2 {i j pos}:PE X (.Constant (.int i) j pos) (tC (.int i)):=fun _ _ _ H _ I h=>wpAny_Constant_int ⟨.int i,H,I.tok _,⟨_,rfl⟩,h⟩
def cR5 {b j pos}:PE X (.Constant (.bool b) j pos) (tC (.bl b)):=fun _ _ _ H _ I h=>Constant_bool ⟨.bl b,H,I,rfl,h⟩
def bW3 {j pos}:PE X (.Constant .none j pos) (tC .non):=fun _ _ _ H _ I h=>Constant_none ⟨.non,H,I,rfl,h⟩
def bW4 {x j pos}:PE X (.Constant (.str x) j pos) (tC (.str x)):=fun _ _ _ H _ I h=>Calls.Constant_str ⟨.str x,H,I.tok _,⟨_,rfl⟩,h⟩
def Gl (X:Cx) (x:Str):Prop:=X.env.kindOf x=some .globalImplicit
def iM {E:Value->Shared->Prop} {pins:List (Addr×Obj)} {s:Shared} {σ:St} {H:Hp} {x:Str} {u:Value} {pos:Pos} {Q:Value->Shared->Prop} (I:Inv X pins σ H s) (hg:Gl X x) (hm:X.mg x=some u) (h:Q u s)
  (hd:autoParam ((x==("__debug__":Str))=false) ZD):wpAny (model X.prog X.w) X.A (eval (.Name x pos) X.env) Q E s :=
 Calls.Name_function_global I.ok.kind hg (Calls.loadGlobal_global (by rw [I.ok.glob];exact I.mod.glob.keeps I.bk) hm h) hd
def eZ {E:Value->Shared->Prop} {pins:List (Addr×Obj)} {s:Shared} {σ:St} {H:Hp} {x:Str} {u:Value} {pos:Pos} {Q:Value->Shared->Prop} (I:Inv X pins σ H s) (hg:Gl X x) (hm:X.mg x=none) (hv:bootBuiltins x=some u) (h:Q u s)
  (hn:autoParam (x≠"__name__") ZD) (hd:autoParam ((x==("__debug__":Str))=false) ZD):wpAny (model X.prog X.w) X.A (eval (.Name x pos) X.env) Q E s:=by
 obtain ⟨mb,h1,h2⟩:=I.mod.blt;exact Calls.Name_function_global I.ok.kind hg (Calls.loadGlobal_builtin (by rw [I.ok.glob];exact I.mod.glob.keeps I.bk) hm (by rw [I.ok.blt];exact h1.keeps I.bk) ((h2 x hn).trans hv) h) hd
def eE {x:Str} {v:V} {u:Value} {pos:Pos} (hg:Gl X x) (hm:X.mg x=some u) (r:RelV v u) (hd:autoParam ((x==("__debug__":Str))=false) ZD):PE X (.Name x pos) (tC v) :=
 fun _ _ _ H _ I h=>iM I hg hm ⟨v,H,I,r,h⟩ hd
def yP {x:Str} {v:V} {u:Value} {pos:Pos} (hg:Gl X x) (hm:X.mg x=none) (hv:bootBuiltins x=some u) (r:RelV v u) (hn:autoParam (x≠"__name__") ZD) (hd:autoParam ((x==("__debug__":Str))=false) ZD):PE X (.Name x pos) (tC v) :=
 fun _ _ _ H _ I h=>eZ I hg hm hv ⟨v,H,I,r,h⟩ hn hd
variable {a b:Expr} {ta tb:TE} {pos:Pos}
def tB (t:TE):TT:=fun σ H Q=>t σ H fun x H1=>∃ c,x=.bl c/\Q c H1
def bW5 {e:Expr} {t:TE} (h:PE X e t) (he:autoParam (∀ whole,isTrue e X.env whole=(do let v <- whole;standAt e.pos;holding [v] (truthy v))) ZI):PT X e (tB t):=by
 intro pins s σ H Q I hw;refine isTrue_plain (thn (h pins s σ H _ I hw) fun v s1 ⟨x,H1,I1,r1,q1⟩=>?_) (he _);obtain ⟨d,rfl,q⟩:=q1;cases r1;exact wpAny_truthy_bool ⟨H1,I1,q⟩
variable {tA tB':TT} {rest:List Expr}
def dJ8 (t u:TT):TT:=fun σ H Q=>t σ H fun c H1=>if c=true then u σ H1 Q else Q false H1
def tOr (t u:TT):TT:=fun σ H Q=>t σ H fun c H1=>if c=true then Q true H1 else u σ H1 Q
def dJ9 (t:TT):TT:=fun σ H Q=>t σ H fun c H1=>Q (!c) H1
def bB5 (ha:PT X a tA):PW X (.BoolOp .And [a] pos) tA:=by
 intro wh pins s σ H Q I h;refine isTrue_and (thn (ha pins s σ H Q I h) fun c s1 e=>?_);cases c with
 | true=>exact isTrue_and_nil e
 | false=>exact e
def bW6 (ha:PT X a tA):PW X (.BoolOp .Or [a] pos) tA:=by
 intro wh pins s σ H Q I h;refine isTrue_or (thn (ha pins s σ H Q I h) fun c s1 e=>?_);cases c with
 | false=>exact isTrue_or_nil e
 | true=>exact e
def bW7 (ha:PT X a tA) (hb:PW X (.BoolOp .And (b::rest) pos) tB'):PW X (.BoolOp .And (a::b::rest) pos) (dJ8 tA tB'):=by
 intro wh pins s σ H Q I h;refine isTrue_and (thn (ha pins s σ H _ I h) fun c s1 ⟨H1,I1,q1⟩=>?_);cases c with
 | true=>exact hb wh pins s1 σ H1 Q I1 q1
 | false=>exact ⟨H1,I1,q1⟩
def cR6 (ha:PT X a tA) (hb:PW X (.BoolOp .Or (b::rest) pos) tB'):PW X (.BoolOp .Or (a::b::rest) pos) (tOr tA tB'):=by
 intro wh pins s σ H Q I h;refine isTrue_or (thn (ha pins s σ H _ I h) fun c s1 ⟨H1,I1,q1⟩=>?_);cases c with
 | true=>exact ⟨H1,I1,q1⟩
 | false=>exact hb wh pins s1 σ H1 Q I1 q1
def bW8 (ha:PT X a tA):PT X (.UnaryOp .Not a pos) (dJ9 tA):=by
 intro pins s σ H Q I h;exact isTrue_not (ha pins s σ H (fun c H1=>Q (!c) H1) I h)
def cR7 (ta tb:TE):TE:=fun σ H Q=>ta σ H fun x H1=>∃ c,x=.bl c/\if c=true then tb σ H1 Q else Q (.bl false) H1
def dK0 (ta tb:TE):TE:=fun σ H Q=>ta σ H fun x H1=>∃ c,x=.bl c/\if c=true then Q (.bl true) H1 else tb σ H1 Q
def cR8 (ta:TE):TE:=fun σ H Q=>ta σ H fun x H1=>∃ c,x=.bl c/\Q (.bl (!c)) H1
def bW9 {op} {t:TE} (h:PE X a t):PE X (.BoolOp op [a] pos) t:=fun pins s σ H Q I hw=>BoolOp_one (h pins s σ H Q I hw)
def bX0 (ha:PE X a ta) (hb:PE X (.BoolOp .And (b::rest) pos) tb):PE X (.BoolOp .And (a::b::rest) pos) (cR7 ta tb):=by
 intro pins s σ H Q I h;refine BoolOp_and (thn (ha pins s σ H _ I h) fun v s1 ⟨x,H1,I1,r1,q1⟩=>?_);obtain ⟨c,rfl,q1⟩:=q1;cases r1;refine wpAny_truthy_bool ?_;cases c with
 | true=>exact hb pins s1 σ H1 Q I1 q1
 | false=>exact ⟨.bl false,H1,I1,rfl,q1⟩
def cR9 (ha:PE X a ta) (hb:PE X (.BoolOp .Or (b::rest) pos) tb):PE X (.BoolOp .Or (a::b::rest) pos) (dK0 ta tb):=by
 intro pins s σ H Q I h;refine BoolOp_or (thn (ha pins s σ H _ I h) fun v s1 ⟨x,H1,I1,r1,q1⟩=>?_);obtain ⟨c,rfl,q1⟩:=q1;cases r1;refine wpAny_truthy_bool ?_;cases c with
 | false=>exact hb pins s1 σ H1 Q I1 q1
 | true=>exact ⟨.bl true,H1,I1,rfl,q1⟩
def bX1 (ha:PE X a ta):PE X (.UnaryOp .Not a pos) (cR8 ta):=by
 intro pins s σ H Q I h;refine UnaryOp_ (thn (ha pins s σ H _ I h) fun v s1 ⟨x,H1,I1,r1,q1⟩=>?_);obtain ⟨c,rfl,q1⟩:=q1;cases r1;exact not_of (wpAny_truthy_bool ⟨.bl (!c),H1,I1,rfl,q1⟩)
def tIf (t:TT) (ta tb:TE):TE:=fun σ H Q=>t σ H fun c H1=>if c=true then ta σ H1 Q else tb σ H1 Q
def aK5 {c:Expr} (hc:PT X c tA) (ha:PE X a ta) (hb:PE X b tb):PE X (.IfExp c a b pos) (tIf tA ta tb):=by
 intro pins s σ H Q I h;refine wpAny_IfExp (thn (hc pins s σ H _ I h) fun d s1 ⟨H1,I1,q1⟩=>?_);cases d with
 | true=>exact ha pins s1 σ H1 Q I1 q1
 | false=>exact hb pins s1 σ H1 Q I1 q1
end
def SqL (K:Frag) (H:Hp) (a:Addr) (xs:List V):Prop :=
 Rd H a (.lst xs) \/
  ∃ (o:Obj) (its:Array Value) (n:Nat),K.lookup a=some o/\o.cls=.type "list"/\o.dict=none/\o.data=.seq its n/\its.size<=sizeLine/\Vals xs its.toList
def SqT (K:Frag) (H:Hp) (a:Addr) (xs:List V):Prop :=
 Rd H a (.tup xs) \/
  ∃ (o:Obj) (its:Array Value) (n:Nat),K.lookup a=some o/\o.cls=.type "tuple"/\o.data=.seq its n/\its.size<=sizeLine/\Vals xs its.toList
noncomputable def dK1:Value->Option V
 | .none=>some .non
 | .bool b=>some (.bl b)
 | .int i _=>some (.int i)
 | .str x _=>some (.str x)
 | .bytes b _=>some (.byt b)
 | .float b _=>some (.flt b)
 | .ref a=>some (.ref a)
 | .type n=>some (.ty n)
 | _=>none
def RelV.abs {x:V} {u:Value} (r:RelV x u):dK1 u=some x:=by
 cases x with
 | non=>cases r;rfl
 | bl _=>cases r;rfl
 | int _=>obtain ⟨t,rfl⟩:=r;rfl
 | str _=>obtain ⟨t,rfl⟩:=r;rfl
 | byt _=>obtain ⟨t,rfl⟩:=r;rfl
 | flt _=>obtain ⟨t,rfl⟩:=r;rfl
 | ref _=>cases r;rfl
 | ty _=>cases r;rfl
def RelV.inj {x y:V} {u:Value} (r:RelV x u) (q:RelV y u):x=y:=Option.some.inj (r.abs.symm.trans q.abs)
theorem Vals.inj:∀ {xs ys:List V} {us:List Value},Vals xs us->Vals ys us->xs=ys
 | _,_,_,.nil,.nil=>rfl
 | _,_,_,.cons r t,.cons r' t'=>by rw [r.inj r',Vals.inj t t']
section
variable {X:Cx} {pins:List (Addr×Obj)} {σ:St} {H:Hp} {s:Shared} {a:Addr} {xs ys:List V}
def SqL.of {K:Frag} (h:H a=some (.lst xs)):SqL K H a xs:=.inl (.inl h)
def Inv.list (I:Inv X pins σ H s) (h:SqL X.K H a xs):∃ its:List Value,Vals xs its/\PlainL s.heap a its.toArray/\xs.length<=sizeLine:=by
 rcases h with h | ⟨o,its,n,hk,hc,hd,hs,hz,r⟩
 ·obtain ⟨z,its,n,r,e⟩:=h.ok I.hok;exact ⟨its,r,⟨_,n,e,rfl,rfl,rfl⟩,z⟩
 ·refine ⟨its.toList,r,⟨o,n,I.kIn a o hk,hc,hd,by simpa using hs⟩,?_⟩;have e:=r.length;simp only [Array.length_toList] at e;omega
def Inv.tuple (I:Inv X pins σ H s) (h:SqT X.K H a xs):∃ its:List Value,Vals xs its/\IsTup s.heap a its.toArray/\xs.length<=sizeLine:=by
 rcases h with h | ⟨o,its,n,hk,hc,hs,hz,r⟩
 ·obtain ⟨z,its,r,p⟩:=h.ok I.hok;exact ⟨its,r,p.tup,z⟩
 ·refine ⟨its.toList,r,⟨o,I.kIn a o hk,hc,n,by simpa using hs⟩,?_⟩;have e:=r.length;simp only [Array.length_toList] at e;omega
def Inv.list_inj (I:Inv X pins σ H s) (h:SqL X.K H a xs) (h':SqL X.K H a ys):xs=ys:=by
 obtain ⟨its,r,⟨o,n,e,_,_,d⟩,_⟩:=I.list h;obtain ⟨its',r',⟨o',n',e',_,_,d'⟩,_⟩:=I.list h';rw [e] at e';cases e';rw [d] at d';injection d' with d1 _
 have:its=its':=by simpa using congrArg Array.toList d1
 subst this;exact r.inj r'
def Inv.tuple_inj (I:Inv X pins σ H s) (h:SqT X.K H a xs) (h':SqT X.K H a ys):xs=ys:=by
 obtain ⟨its,r,⟨o,e,_,n,d⟩,_⟩:=I.tuple h;obtain ⟨its',r',⟨o',e',_,n',d'⟩,_⟩:=I.tuple h';rw [e] at e';cases e';rw [d] at d';injection d' with d1 _
 have:its=its':=by simpa using congrArg Array.toList d1
 subst this;exact r.inj r'
end
abbrev Cx.wish (X:Cx) (E:Value->Shared->Prop):Cx:={ X with xe:=E }
abbrev Cx.nox (X:Cx):Cx:=X.wish fun _ _=>False
def Cx.Ok.wish {X:Cx} (ok:X.Ok) (E:Value->Shared->Prop):(X.wish E).Ok :=
 ⟨ok.mod,ok.kind,ok.glob,ok.blt,ok.above,ok.inj,ok.has,ok.cab,ok.hd,ok.frames,ok.stk,ok.exf,ok.bs,ok.bsz,ok.noex,ok.exfs,ok.funs,ok.frf⟩
def Cx.Ok.unwish {X:Cx} {E:Value->Shared->Prop} (ok:(X.wish E).Ok):X.Ok :=
 ⟨ok.mod,ok.kind,ok.glob,ok.blt,ok.above,ok.inj,ok.has,ok.cab,ok.hd,ok.frames,ok.stk,ok.exf,ok.bs,ok.bsz,ok.noex,ok.exfs,ok.funs,ok.frf⟩
section
variable {X:Cx} {pins:List (Addr×Obj)} {σ:St} {H:Hp} {s:Shared} {E:Value->Shared->Prop}
def Inv.wish (I:Inv X pins σ H s) (E:Value->Shared->Prop):Inv (X.wish E) pins σ H s:=⟨I.ok.wish E,I.os,I.bare,I.base,I.loc,I.cell,I.free,I.freeC,I.pin,I.hok,I.len⟩
def Inv.unwish (I:Inv (X.wish E) pins σ H s):Inv X pins σ H s:=⟨I.ok.unwish,I.os,I.bare,I.base,I.loc,I.cell,I.free,I.freeC,I.pin,I.hok,I.len⟩
def SP.unwish {D:Ends} {f:Flow} {s':Shared} (h:SP (X.wish E) pins D f s'):SP X pins D f s':=by
 cases f with
 | next=>obtain ⟨σ',H',I,q⟩:=h;exact ⟨σ',H',I.unwish,q⟩
 | brk=>obtain ⟨σ',H',I,q⟩:=h;exact ⟨σ',H',I.unwish,q⟩
 | cont=>obtain ⟨σ',H',I,q⟩:=h;exact ⟨σ',H',I.unwish,q⟩
 | ret u=>obtain ⟨v,σ',H',I,r,q⟩:=h;exact ⟨v,σ',H',I.unwish,r,q⟩
def PSs.nox {st:List Stmt} {t:TS} (h:PSs X.nox st t):PSs X st t:=fun pins s σ H D I hw =>
 wpAny_mono (h pins s σ H D (I.wish _) hw) (fun _ _ q=>q.unwish) fun _ _ z=>False.elim z
end
section
variable {X:Cx} {st:Stmt} {rest:List Stmt} {t u:TS} {e:Expr} {te:TE} {pos:Pos}
def bO8:TS:=fun D σ H=>D.nx σ H
def dK2 (t u:TS):TS:=fun D σ H=>t { D with nx:=u D } σ H
def bB6:PSs X [] bO8:=fun _ _ σ H _ I h=>wpAny_execs_nil ⟨σ,H,I,h⟩
def tR (h1:PS X st t) (h2:PSs X rest u):PSs X (st::rest) (dK2 t u):=by
 intro pins s σ H D I h;refine wpAny_execs_cons (thn (h1 pins s σ H { D with nx:=u D } I h) fun f s1 q=>?_);cases f with
 | next =>
  obtain ⟨σ',H',I',q⟩:=q;exact h2 pins s1 σ' H' D I' q
 | ret v=>exact q
 | brk=>exact q
 | cont=>exact q
def rG (h1:PS X st t):PSs X [st] t:=by
 intro pins s σ H D I h;refine wpAny_execs_cons (thn (h1 pins s σ H D I h) fun f s1 q=>?_);cases f with
 | next=>exact wpAny_execs_nil q
 | ret v=>exact q
 | brk=>exact q
 | cont=>exact q
def bX2:TS:=fun D σ H=>D.bk σ H
def cS0:TS:=fun D σ H=>D.ct σ H
def bB7:PS X (.Pass pos) bO8:=fun _ _ σ H _ I h=>wpAny_Pass ⟨σ,H,I,h⟩
def aK6:PS X (.Break pos) bX2:=fun _ _ σ H _ I h=>wpAny_Break ⟨σ,H,I,h⟩
def tS:PS X (.Continue pos) cS0:=fun _ _ σ H _ I h=>wpAny_Continue ⟨σ,H,I,h⟩
def Inv.quiet {pins:List (Addr×Obj)} {σ:St} {H:Hp} {s:Shared} (I:Inv X pins σ H s):interactive X.env=false:=by simp [interactive,I.ok.kind]
def cS1 (te:TE):TS:=fun D σ H=>te σ H fun _ H1=>D.nx σ H1
def bB8 (he:PE X e te) (hs:autoParam (swapsWith e none pos.line X.env=pure false) ZR):PS X (.Expr e pos) (cS1 te):=by
 intro pins s σ H D I h;exact wpAny_Expr_any (thn (he pins s σ H _ I h) fun v s1 ⟨x,H1,I1,r1,q1⟩=>⟨σ,H1,I1,q1⟩) I.quiet hs
def dK3 (te:TE):TS:=fun D σ H=>te σ H D.rt
def bX3 (he:PE X e te):PS X (.Return (some e) pos) (dK3 te):=by
 intro pins s σ H D I h;exact wpAny_Return_some (thn (he pins s σ H _ I h) fun v s1 ⟨x,H1,I1,r1,q1⟩=>⟨x,σ,H1,I1,r1,q1⟩)
def dK4 (c:TT) (t u:TS):TS:=fun D σ H=>c σ H fun b H1=>if b=true then t D σ H1 else u D σ H1
def bO9 {c:Expr} {a b:List Stmt} {tc:TT} (hc:PT X c tc) (ha:PSs X a t) (hb:PSs X b u):PS X (.If c a b pos) (dK4 tc t u):=by
 intro pins s σ H D I h;refine wpAny_If (thn (hc pins s σ H _ I h) fun d s1 ⟨H1,I1,q1⟩=>?_);cases d with
 | true=>exact ha pins s1 σ H1 D I1 q1
 | false=>exact hb pins s1 σ H1 D I1 q1
end
abbrev TG:=V->St->Hp->(St->Hp->Prop)->Prop
abbrev TGs:=List V->St->Hp->(St->Hp->Prop)->Prop
def PG (X:Cx) (target:Expr) (t:TG):Prop :=
 ∀ (pins:List (Addr×Obj)) (s:Shared) (σ:St) (H:Hp) (v:V) (u:Value) (Q:St->Hp->Prop),Inv X pins σ H s->RelV v u->t v σ H Q ->
  wpAny (model X.prog X.w) X.A (assign target X.env u) (fun _ s'=>∃ σ' H',Inv X pins σ' H' s'/\Q σ' H') X.xe s
def PGs (X:Cx) (ts:List Expr) (t:TGs):Prop :=
 ∀ (pins:List (Addr×Obj)) (s:Shared) (σ:St) (H:Hp) (vs:List V) (us:List Value) (Q:St->Hp->Prop),Inv X pins σ H s->Vals vs us->t vs σ H Q ->
  wpAny (model X.prog X.w) X.A (assignInOrder ((assignEach ts X.env).map (·.2)) us) (fun _ s'=>∃ σ' H',Inv X pins σ' H' s'/\Q σ' H') X.xe s
abbrev bX4:=V->V->V->Hp->(Hp->Prop)->Prop
def bX5 (X:Cx) (t:bX4):Prop :=
 ∀ (pins:List (Addr×Obj)) (s:Shared) (σ:St) (H:Hp) (o i v:V) (ov iv u:Value) (Q:Hp->Prop),Inv X pins σ H s->RelV o ov->RelV i iv->RelV v u->t o i v H Q ->
  wpAny (model X.prog X.w) X.A (setItem ov iv u) (fun _ s'=>∃ H',Inv X pins σ H' s'/\Q H') X.xe s
section
variable {X:Cx} {pos:Pos}
def yQ (i:Nat):TG:=fun v σ H Q=>Q (σ.set i (some v)) H
def bB9 {i:Nat} {x:Str} (hN:X.N.Nodup) (hi:X.N[i]?=some x) (hx:Loc X.env.scope x) (hf:X.fn x=true\/X.env.scope.names.lookup x=some .local:=by first | exact .inl rfl | exact .inr rfl | assumption):PG X (.Name x pos) (yQ i):=by
 intro pins s σ H v u Q I r h;exact wpAny_assign_Name (mZ I hN hi hx r (fun s' I'=>⟨_,H,I',h⟩) hf)
noncomputable def dK5:TGs:=fun vs σ H Q=>vs=[]/\Q σ H
noncomputable def cS2 (t:TG) (u:TGs):TGs:=fun vs σ H Q=>∃ v r,vs=v::r/\t v σ H fun σ' H'=>u r σ' H' Q
def bC0:PGs X [] dK5:=by
 intro pins s σ H vs us Q I r h;obtain ⟨e,h⟩:=h;subst e;cases r;exact assignInOrder_nil ⟨σ,H,I,h⟩
def aK7 {e:Expr} {es:List Expr} {t:TG} {u:TGs} (h1:PG X e t) (h2:PGs X es u)
  (hs:autoParam ((assignEach (e::es) X.env).map (·.2)=assign e X.env::(assignEach es X.env).map (·.2)) ZR):PGs X (e::es) (cS2 t u):=by
 intro pins s σ H vs us Q I r h;obtain ⟨v,vr,e1,h⟩:=h;subst e1;cases r with
 | cons r rr =>
  rw [hs];refine assignInOrder_cons (thn (h1 pins s σ H _ _ _ I r h) fun _ s1 ⟨σ1,H1,I1,q1⟩=>?_);exact h2 pins s1 σ1 H1 _ _ Q I1 rr q1
def dK6 (K:Frag) (n:Nat) (t:TGs):TG:=fun v σ H Q=>∃ a xs,v=.ref a/\SqT K H a xs/\xs.length=n/\t xs σ H Q
def bX6 {es:List Expr} {k:Nat} {t:TGs} {n:Nat} (hc:X.calm=true) (h:PGs X es t)
  (hn:autoParam ((assignEach es X.env).length=n) ZR) (hst:autoParam ((assignEach es X.env).findIdx? (·.1)=none) ZR):PG X (.Tuple es k pos) (dK6 X.K n t):=by
 intro pins s σ H v u Q I r hw;obtain ⟨a,xs,e1,hq,hl,hw⟩:=hw;subst e1;cases r;obtain ⟨its,rv,ht,hz⟩:=I.tuple hq;refine assign_Tuple_tuple (I.ok.hd hc) ht (by simp [hn,<- hl,rv.length]) hst fun h' hx=>?_;have I1:Inv X pins σ H { s with heap:=h' }:=I.kept (t':=s.toks) fun b o e=>hx b o (Nat.ne_of_lt (Heap.lt_size e)) e;exact h pins _ σ H xs _ Q I1 (by simpa using rv) hw
def dK7 (to ti:TE) (t:bX4):TG:=fun v σ H Q=>to σ H fun o H1=>ti σ H1 fun i H2=>t o i v H2 fun H3=>Q σ H3
def bX7 {o i:Expr} {to ti:TE} {t:bX4} (ho:PE X o to) (hi:PE X i ti) (hs:bX5 X t)
  (ha:∀ v,assign (.Subscript o i pos) X.env v=(do
   let ov <- holding [v] (eval o X.env)
   let iv <- holding [v,ov] (eval i X.env)
   standAt pos
   holding [v,ov,iv] (setItem ov iv v)
   release [v,ov,iv] []):=by intro _;rfl):PG X (.Subscript o i pos) (dK7 to ti t):=by
 intro pins s σ H v u Q I r h;rw [ha];refine wpAny_bind (wpAny_holding (thn (ho pins s σ H _ I h) fun ov s1 ⟨x,H1,I1,r1,q1⟩=>?_));refine wpAny_bind (wpAny_holding (thn (hi pins s1 σ H1 _ I1 q1) fun iv s2 ⟨y,H2,I2,r2,q2⟩=>?_));refine wpAny_bind (wpAny_standAt (wpAny_bind (wpAny_holding (thn (hs pins s2 σ H2 x y v ov iv u _ I2 r1 r2 r q2) fun _ s3 ⟨H3,I3,q3⟩=>?_))));exact wpAny_release ⟨σ,H3,I3,q3⟩
def bC1 (te:TE) (g:TG):TS:=fun D σ H=>te σ H fun x H1=>g x σ H1 D.nx
def bX8 {tg e:Expr} {te:TE} {g:TG} (he:PE X e te) (hg:PG X tg g) (hs:autoParam (swapsWithSole [tg] e pos.line X.env=pure false) ZR) (hw:autoParam (swappedStores [tg] e X.env=pure none) ZR)
  (h1:autoParam ((assignEach [tg] X.env).map (·.2)=[assign tg X.env]) ZR):PS X (.Assign [tg] e pos) (bC1 te g):=by
 intro pins s σ H D I h;refine wpAny_Assign_stores (thn (he pins s σ H _ I h) fun v s1 ⟨x,H1,I1,r1,q1⟩=>?_) hs hw;rw [h1];exact thn (hg pins s1 σ H1 x v _ I1 r1 q1) fun _ s2 q=>q
def wN {i:Nat} {x:Str} {e:Expr} {te:TE} {pos':Pos} (hN:X.N.Nodup) (hi:X.N[i]?=some x) (hx:Loc X.env.scope x) (he:PE X e te) (hs:autoParam (swapsWith e (some (.Name x pos')) pos.line X.env=pure false) ZR) (hf:X.fn x=true\/X.env.scope.names.lookup x=some .local:=by first | exact .inl rfl | exact .inr rfl | assumption) :
  PS X (.Assign [.Name x pos'] e pos) (bC1 te (yQ i)):=by
 intro pins s σ H D I h;refine wpAny_Assign_Name (thn (he pins s σ H _ I h) fun v s1 ⟨y,H1,I1,r1,q1⟩=>?_) hs;exact mZ I1 hN hi hx r1 (fun s2 I2=>⟨_,H1,I2,q1⟩) hf
end
section
variable {X:Cx} {pos:Pos}
def bX9 (c:TT) (tb:TS):TS:=fun D σ H=>∃ W:Nat->St->Hp->Prop,(∃ m,W m σ H)/\∀ m σ H,W m σ H ->
 c σ H fun b H1=>if b=true then ∃ N:St->Hp->Prop,(∀ σ' H',N σ' H'->∃ m',m' < m/\W m' σ' H')/\tb { D with nx:=N,ct:=N,bk:=D.nx } σ H1 else D.nx σ H1
def aK8 {c:Expr} {body:List Stmt} {tc:TT} {tb:TS} (hp:PassesOwn (model X.prog X.w) X.A X.env X.xe) (hc:PT X c tc) (hb:PSs X body tb):PS X (.While c body [] pos) (bX9 tc tb):=by
 intro pins s σ H D I h;obtain ⟨W,⟨m0,w0⟩,turn⟩:=h;refine wpAny_While (codeAny_whileLoop (fun n s'=>∃ σ' H',Inv X pins σ' H' s'/\W n σ' H') ?_ m0 ⟨σ,H,I,w0⟩);rintro n s1 ⟨σ1,H1,I1,w1⟩;refine wpAny_passesOwn hp (thn (hc pins s1 σ1 H1 _ I1 (turn n σ1 H1 w1)) fun b s2 ⟨H2,I2,q2⟩=>?_);cases b with
 | true =>
  obtain ⟨N,hN,q2⟩:=q2;rw [if_pos rfl];refine wpAny_passesOwn hp (thn (hb pins s2 σ1 H2 _ I2 q2) fun f s3 q3=>?_);cases f with
  | next =>
   obtain ⟨σ3,H3,I3,n3⟩:=q3;obtain ⟨m',hm,w3⟩:=hN σ3 H3 n3;exact ⟨m',hm,σ3,H3,I3,w3⟩
  | cont =>
   obtain ⟨σ3,H3,I3,n3⟩:=q3;obtain ⟨m',hm,w3⟩:=hN σ3 H3 n3;exact ⟨m',hm,σ3,H3,I3,w3⟩
  | brk=>exact q3
  | ret v=>exact q3
 | false =>
  rw [if_neg Bool.false_ne_true];exact wpAny_execs_nil ⟨σ1,H2,I2,q2⟩
end
structure It where
 go:Nat->Hp->Prop
 yld:Nat->Hp->V->Hp->Prop
 stop:Nat->Hp->Prop
def jD (X:Cx) (pins:List (Addr×Obj)) (H:Hp) (b:Addr):Prop :=
 H b=none/\b≠X.env.locals/\b∉X.fs/\(b∈X.ex\/X.s₀.heap.objs.size<=b)/\(∀ x c,X.env.cells.lookup x=some c->c≠b)/\∀ p∈X.pn++pins,p.1≠b
def Inv.fpOk {X:Cx} {pins:List (Addr×Obj)} {σ:St} {H H':Hp} {s:Shared} {b:Addr} (I:Inv X pins σ H s) (hb:s.heap.objs.size<=b) (hn:H' b=none):jD X pins H' b:=by
 refine ⟨hn,Nat.ne_of_gt (Nat.lt_of_lt_of_le I.lt hb),I.nofs hb,.inr (Nat.le_trans I.sz hb),fun x c e z=>?_,fun p hp z=>?_⟩
 ·obtain ⟨v,q⟩:=I.cell x c e;exact absurd (Nat.lt_of_lt_of_le q.lt (by rw [z];exact hb)) (Nat.lt_irrefl _)
 ·exact absurd (Nat.lt_of_lt_of_le (Heap.lt_size (I.pin p hp).1) (by rw [z];exact hb)) (Nat.lt_irrefl _)
structure Turn (P:Program) (w:World) (K:Frag) (tg:Expr) (J:It) (fp:List Addr) (it:Addr) (tn:Nat->Heap->Prop):Prop where
 mem:it∈fp
 obj:∀ i h,tn i h->∀ b∈fp,∃ o,h.get? b=some o/\∀ v,o.data≠.cell v
 keep:∀ i h h',tn i h->(∀ b∈fp,∀ o,h.get? b=some o->h'.get? b=some o)->tn i h'
 item:∀ (X:Cx),X.prog=P->X.w=w->X.K=K->X.calm=true->∀ (i:Nat) (pins:List (Addr×Obj)) (s:Shared) (σ:St) (H:Hp) (E:Value->Shared->Prop),Inv X pins σ H s->(∀ b∈fp,jD X pins H b)->tn i s.heap->J.go i H ->
  wpAny (model P w) X.A (pyNext (.ref it)) (fun r s1=>∃ u,r=some u /\
   wpAny (model P w) X.A (letOwnedTupleGo tg (.ref it) u) (fun _ s2=>∃ x H',Inv X pins σ H' s2/\RelV x u/\J.yld i H x H'/\tn (i+1) s2.heap/\∀ b∈fp,H' b=none) E s1) E s
 done:∀ (X:Cx),X.prog=P->X.w=w->X.K=K->X.calm=true->∀ (i:Nat) (pins:List (Addr×Obj)) (s:Shared) (σ:St) (H:Hp) (E:Value->Shared->Prop),Inv X pins σ H s->(∀ b∈fp,jD X pins H b)->tn i s.heap->J.stop i H ->
  wpAny (model P w) X.A (pyNext (.ref it)) (fun r s1=>r=none/\Inv X pins σ H s1) E s
 self:∀ (A:Around) (i:Nat) (s:Shared) (Q:Value->Shared->Prop) (E:Value->Shared->Prop),tn i s.heap->Q (.ref it) s->wpAny (model P w) A (pyIter (.ref it)) Q E s
abbrev TI:=St->Hp->(It->Hp->Prop)->Prop
def PIE (X:Cx) (pins:List (Addr×Obj)) (σ:St) (tg:Expr) (R:It->Hp->Prop) (itv:Value) (s2:Shared):Prop :=
 ∃ (it:Addr) (fp:List Addr) (tn:Nat->Heap->Prop) (J:It) (H':Hp),itv=.ref it/\Inv X pins σ H' s2/\Turn X.prog X.w X.K tg J fp it tn/\tn 0 s2.heap/\(∀ b∈fp,jD X pins H' b)/\R J H'
def PI (X:Cx) (tg iter:Expr) (wi:TI):Prop :=
 ∀ (pins:List (Addr×Obj)) (s:Shared) (σ:St) (H:Hp) (R:It->Hp->Prop),Inv X pins σ H s->wi σ H R ->
  wpAny (model X.prog X.w) X.A (eval iter X.env) (fun v s1=>wpAny (model X.prog X.w) X.A (pyIter v) (PIE X pins σ tg R) X.xe s1) X.xe s
def aK9 {M:Model} {A:Around} {E:Value->Shared->Prop} {s:Shared} {tg:Expr} {it:Addr} {u:Value} {o:Obj} {n:String} {vs:Array Value} {Q:Unit->Shared->Prop} (ho:s.heap.get? it=some o) (hc:o.cls=.type n) (hd:o.data=.fields vs)
  (hn:["enumerate","zip","dict_itemiterator","dict_reverseitemiterator","odict_iterator","itertools.zip_longest","itertools.pairwise"].contains n=false) (hQ:Q () s):wpAny M A (letOwnedTupleGo tg (.ref it) u) Q E s:=by
 unfold letOwnedTupleGo;cases tg<;>first
  | exact wpAny_pure hQ
  | (cases u<;>first
    | exact wpAny_pure hQ
    | (refine wpAny_bind (wpAny_load ho ?_)
       rw [hc,hd];show wpAny M A (if (["enumerate","zip","dict_itemiterator","dict_reverseitemiterator","odict_iterator","itertools.zip_longest","itertools.pairwise"].contains n&&vs[0]?==some (rawInt _))=true then _ else _) Q E s;rw [if_neg (by intro h;rw [hn,Bool.false_and] at h;cases h)];exact wpAny_pure hQ))
def Itl (K:Frag) (a:Addr):It :=
 ⟨fun i H=>∃ xs x,SqL K H a xs/\xs[i]?=some x,fun i H x H'=>H'=H/\∀ xs,SqL K H a xs->xs[i]?=some x,fun i H=>∃ xs,SqL K H a xs/\xs.length<=i⟩
def Itt (K:Frag) (a:Addr):It :=
 ⟨fun i H=>∃ xs x,SqT K H a xs/\xs[i]?=some x,fun i H x H'=>H'=H/\∀ xs,SqT K H a xs->xs[i]?=some x,fun i H=>∃ xs,SqT K H a xs/\xs.length<=i⟩
def Itr (lo:Int) (n:Nat):It:=⟨fun i _=>i < n,fun i H x H'=>H'=H/\x=.int (lo+i),fun i _=>n<=i⟩
def aB9 {P:Program} {w:World} {K:Frag} {tg:Expr} (a it:Addr):Turn P w K tg (Itl K a) [it] it (fun i h=>h.IsListIter it a i) where
 mem:=by simp
 obj:=fun i h st b hb=>by
  have e:b=it:=by simpa using hb
  subst e;obtain ⟨o,e,c,d⟩:=st;exact ⟨o,e,fun v z=>by rw [d] at z;cases z⟩
 keep:=fun i h h' st k=>st.at fun o e=>k it (by simp) o e
 item:=by
  intro X hP hw hK hc i pins s σ H E I hf st hg;subst hP hw hK;obtain ⟨xs,x,hq,hx⟩:=hg;obtain ⟨its,rv,p,hz⟩:=I.list hq;obtain ⟨u,hu,ru⟩:=rv.get hx;obtain ⟨f0,f1,f2,f3,f4,f5⟩:=hf it (by simp);refine wpAny_pyNext_list_item st p.isList (x:=u) (by simpa using hu) fun h' st' sb=>?_;have I1:Inv X pins σ H { s with heap:=h' }:=I.turned (t':=s.toks) (fun b o hb e=>(sb.2 b hb).trans e) f0 f1 f3 f4 f5;obtain ⟨o,e,c,d⟩:=id st';exact ⟨u,rfl,aK9 (s:={ s with heap:=h' }) e c d (by decide) ⟨x,H,I1,ru,⟨rfl,fun ys hy=>by rw [I.list_inj hy hq];exact hx⟩,st',fun b hb=>(hf b hb).1⟩⟩
 done:=by
  intro X hP hw hK hc i pins s σ H E I hf st hg;subst hP hw hK;obtain ⟨xs,hq,hx⟩:=hg;obtain ⟨its,rv,p,hz⟩:=I.list hq;obtain ⟨f0,f1,f2,f3,f4,f5⟩:=hf it (by simp);have hl:=rv.length;exact wpAny_pyNext_list_end (I.ok.hd hc) st p.isList (by simp;omega) fun h' eb=>⟨rfl,I.turned (t':=s.toks) (fun b o hb e=>eb b o hb e) f0 f1 f3 f4 f5⟩
 self:=fun _ _ _ _ _ st h=>wpAny_pyIter_listiter st h
def wO {P:Program} {w:World} {K:Frag} {tg:Expr} (a it:Addr):Turn P w K tg (Itt K a) [it] it (fun i h=>h.IsTupleIter it a i) where
 mem:=by simp
 obj:=fun i h st b hb=>by
  have e:b=it:=by simpa using hb
  subst e;obtain ⟨o,e,c,d⟩:=st;exact ⟨o,e,fun v z=>by rw [d] at z;cases z⟩
 keep:=fun i h h' st k=>st.at fun o e=>k it (by simp) o e
 item:=by
  intro X hP hw hK hc i pins s σ H E I hf st hg;subst hP hw hK;obtain ⟨xs,x,hq,hx⟩:=hg;obtain ⟨its,rv,p,hz⟩:=I.tuple hq;obtain ⟨u,hu,ru⟩:=rv.get hx;obtain ⟨f0,f1,f2,f3,f4,f5⟩:=hf it (by simp);refine wpAny_pyNext_tuple_item st (show s.heap.IsTuple a its.toArray from p) (x:=u) (by simpa using hu) fun h' st' sb=>?_;have I1:Inv X pins σ H { s with heap:=h' }:=I.turned (t':=s.toks) (fun b o hb e=>(sb.2 b hb).trans e) f0 f1 f3 f4 f5;obtain ⟨o,e,c,d⟩:=id st';exact ⟨u,rfl,aK9 (s:={ s with heap:=h' }) e c d (by decide) ⟨x,H,I1,ru,⟨rfl,fun ys hy=>by rw [I.tuple_inj hy hq];exact hx⟩,st',fun b hb=>(hf b hb).1⟩⟩
 done:=by
  intro X hP hw hK hc i pins s σ H E I hf st hg;subst hP hw hK;obtain ⟨xs,hq,hx⟩:=hg;obtain ⟨its,rv,p,hz⟩:=I.tuple hq;obtain ⟨f0,f1,f2,f3,f4,f5⟩:=hf it (by simp);have hl:=rv.length;exact wpAny_pyNext_tuple_end (I.ok.hd hc) st (show s.heap.IsTuple a its.toArray from p) (by simp;omega) fun h' eb=>⟨rfl,I.turned (t':=s.toks) (fun b o hb e=>eb b o hb e) f0 f1 f3 f4 f5⟩
 self:=fun _ _ _ _ _ st h=>wpAny_pyIter_tupleiter st h
def wP {P:Program} {w:World} {K:Frag} {tg:Expr} (it:Addr) (lo:Int) (n:Nat):Turn P w K tg (Itr lo n) [it] it (fun i h=>IsRangeIter h it (lo+(i:Nat)*1) ((n:Int) - (i:Nat)) 1) where
 mem:=by simp
 obj:=fun i h st b hb=>by
  have e:b=it:=by simpa using hb
  subst e;exact ⟨_,st,fun v z=>by
   have z':Data.fields _=Data.cell v:=z;cases z'⟩
 keep:=fun i h h' st k=>k it (by simp) _ st
 item:=by
  intro X hP hw hK hc i pins s σ H E I hf st hg;subst hP hw hK;obtain ⟨f0,f1,f2,f3,f4,f5⟩:=hf it (by simp);have W:=Walks.range (prog:=X.prog) (w:=X.w) (I.ok.hd hc) it lo 1 n;refine W.item i s _ _ hg st fun v h' tk hv st' kk=>?_;obtain ⟨t,rfl⟩:=hv;have I1:Inv X pins σ H { s with heap:=h',toks:=tk }:=I.turned (fun b o hb e=>kk b o (by simpa using hb) e) f0 f1 f3 f4 f5;refine ⟨_,rfl,aK9 (s:={ s with heap:=h',toks:=tk }) (n:="range_iterator") st' rfl rfl (by decide) ⟨.int (lo+i),H,I1,⟨t,?_⟩,⟨rfl,rfl⟩,st',fun b hb=>(hf b hb).1⟩⟩;rw [Int.mul_one]
 done:=by
  intro X hP hw hK hc i pins s σ H E I hf st hg;subst hP hw hK;obtain ⟨f0,f1,f2,f3,f4,f5⟩:=hf it (by simp);exact wpAny_pyNext_range_end (I.ok.hd hc) st (by have:n<=i:=hg;omega) fun h' eb=>⟨rfl,I.turned (t':=s.toks) (fun b o hb e=>eb b o hb e) f0 f1 f3 f4 f5⟩
 self:=fun _ _ _ _ _ st h=>wpAny_pyIter_rangeiter st h
section
variable {X:Cx} {tg:Expr}
def tT {pins:List (Addr×Obj)} {σ:St} {H:Hp} {s:Shared} {R:It->Hp->Prop} {E:Value->Shared->Prop} {lo hi:Int} {t u v:Tok} {tk:Nat} (I:Inv X pins σ H s) (h1:-(2^62)<=lo) (h2:lo < 2^62) (h3:-(2^62)<=hi) (h4:hi < 2^62)
  (q:R (Itr lo (hi - lo).toNat) H):wpAny (model X.prog X.w) X.A (pyIter (.ref s.heap.objs.size)) (PIE X pins σ tg R) E { s with heap:=s.heap.push { cls:=.type "range",data:=.fields #[.int lo t,.int hi u,.int 1 v] },toks:=tk }:=by
 refine wpAny_pyIter_range (IsRange.new ..) (small_one h1 h2 h3 h4) ?_;have I1:Inv X pins σ H { s with heap:=s.heap.push { cls:=.type "range",data:=.fields #[.int lo t,.int hi u,.int 1 v] },toks:=tk }:=I.kept fun b o e=>Heap.get?_push_of_some _ e;refine ⟨(s.heap.push { cls:=.type "range",data:=.fields #[.int lo t,.int hi u,.int 1 v] }).objs.size,[(s.heap.push { cls:=.type "range",data:=.fields #[.int lo t,.int hi u,.int 1 v] }).objs.size],_,_,H,rfl,
  I1.kept (t':=tk) fun b o e=>Heap.get?_push_of_some _ e,wP _ lo (hi - lo).toNat,?_,fun b hb=>?_,q⟩
 ·have e1:lo+((0:Nat):Int)*1=lo:=by simp
  have e2:(((hi - lo).toNat:Nat):Int) - ((0:Nat):Int)=Builtin.Range.rangeSize lo hi 1:=by rw [rangeSize_one];split<;>omega
  show IsRangeIter _ _ (lo+((0:Nat):Int)*1) ((((hi - lo).toNat:Nat):Int) - ((0:Nat):Int)) 1;rw [e1,e2];exact Heap.get?_push_size _ rfl
 ·have e:b=(s.heap.push { cls:=.type "range",data:=.fields #[.int lo t,.int hi u,.int 1 v] }).objs.size:=by simpa using hb
  subst e;exact I1.fpOk (Nat.le_refl _) (I1.hok.fresh (Nat.le_refl _))
def cS3 (ta:TA):TI:=fun σ H R=>ta σ H fun vs H1=>∃ j:Int,vs=[.int j]/\-(2^62)<=j/\j < 2^62/\R (Itr 0 j.toNat) H1
def cS4 (ta:TA):TI:=fun σ H R=>ta σ H fun vs H1=>∃ i j:Int,vs=[.int i,.int j]/\(-(2^62)<=i/\i < 2^62/\-(2^62)<=j/\j < 2^62)/\R (Itr i (j - i).toNat) H1
def aC0 {a:Expr} {ta:TA} {p pos:Pos} (hg:Gl X "range") (hm:X.mg "range"=none) (ha:PA X [a] ta) (hs:autoParam (starEach [a] X.env=[(false,eval a X.env)]) ZR):PI X tg (.Call (.Name "range" p) [a] [] pos) (cS3 ta):=by
 intro pins s σ H R I h;refine Call_ (eZ I hg hm boot_range (PyProof.Rows.callWith_type1 (thn (ha pos pins s σ H _ I h) fun us s1 ⟨vs,H1,I1,r1,q1⟩=>?_) hs rfl));obtain ⟨j,e,q1,q2,q⟩:=q1;subst e;cases r1 with
 | cons r rr =>
  cases rr;obtain ⟨t,rfl⟩:=r;exact call_range_1 (tT I1 (by omega) (by omega) q1 q2 (by simpa using q))
def aC1 {a b:Expr} {ta:TA} {p pos:Pos} (hg:Gl X "range") (hm:X.mg "range"=none) (ha:PA X [a,b] ta) (hs:autoParam (starEach [a,b] X.env=[(false,eval a X.env),(false,eval b X.env)]) ZR) (hs2:autoParam (starEach [b] X.env=[(false,eval b X.env)]) ZR) :
  PI X tg (.Call (.Name "range" p) [a,b] [] pos) (cS4 ta):=by
 intro pins s σ H R I h;refine Call_ (eZ I hg hm boot_range (PyProof.Rows.callWith_type1 (thn (ha pos pins s σ H _ I h) fun us s1 ⟨vs,H1,I1,r1,q1⟩=>?_) (by rw [hs,hs2]) (by rw [hs2];rfl)));obtain ⟨i,j,e,⟨q1,q2,q3,q4⟩,q⟩:=q1;subst e;cases r1 with
 | cons r rr =>
  cases rr with
  | cons r' rr =>
   cases rr;obtain ⟨t,rfl⟩:=r;obtain ⟨t',rfl⟩:=r';exact call_range_2 (tT I1 q1 q2 q3 q4 q)
def dK8 (wi:TI) (g:TG) (tb:TS):TS:=fun D σ H=>wi σ H fun J H1=>∃ W:Nat->Nat->St->Hp->Prop,(∃ m,W 0 m σ H1)/\∀ i m σ H,W i m σ H ->
 (J.stop i H/\D.nx σ H)\/(J.go i H/\∃ N:St->Hp->Prop,(∀ σ' H',N σ' H'->∃ m',m' < m/\W (i+1) m' σ' H')/\∀ x H',J.yld i H x H'->g x σ H' fun σ2 H2=>tb { D with nx:=N,ct:=N,bk:=D.nx } σ2 H2)
noncomputable def nB (fp:List Addr) (h:Heap):List (Addr×Obj):=fp.filterMap fun b=>(h.get? b).map fun o=>(b,o)
def fZ {fp:List Addr} {h:Heap} {b:Addr} {o:Obj} (hb:b∈fp) (e:h.get? b=some o):(b,o)∈nB fp h:=List.mem_filterMap.mpr ⟨b,hb,by rw [e];rfl⟩
def aC2 {fp:List Addr} {h:Heap} {p:Addr×Obj} (hp:p∈nB fp h):p.1∈fp/\h.get? p.1=some p.2:=by
 obtain ⟨b,hb,e⟩:=List.mem_filterMap.mp hp;cases q:h.get? b with
 | none=>rw [q] at e;cases e
 | some o =>
  rw [q] at e;have e':(b,o)=p:=Option.some.inj e;subst e';exact ⟨hb,q⟩
def Inv.pinned {pins:List (Addr×Obj)} {σ:St} {H:Hp} {s:Shared} {fp:List Addr} (I:Inv X pins σ H s) (hf:∀ b∈fp,jD X pins H b) (ho:∀ b∈fp,∃ o,s.heap.get? b=some o/\∀ v,o.data≠.cell v):Inv X (pins++nB fp s.heap) σ H s :=
 I.pins_of fun p hp=>(List.mem_append.mp hp).elim (fun z=>I.pin p (List.mem_append_right _ z)) fun z=>by
  obtain ⟨hb,e⟩:=aC2 z;obtain ⟨f0,f1,f2,_⟩:=hf p.1 hb;obtain ⟨o,e',d⟩:=ho p.1 hb;rw [e] at e';cases e';exact ⟨e,f0,f1,f2,d⟩
def Inv.unpinned {pins pl:List (Addr×Obj)} {σ:St} {H:Hp} {s:Shared} (I:Inv X (pins++pl) σ H s):Inv X pins σ H s:=I.pins_of fun p hp=>I.pin p (List.mem_append_right _ (List.mem_append_left _ hp))
def bY0 {iter:Expr} {body:List Stmt} {wi:TI} {g:TG} {tb:TS} {pos:Pos} (hp:PassesOwn (model X.prog X.w) X.A X.env X.xe) (hc:X.calm=true) (hi:PI X tg iter wi) (hg:PG X tg g) (hb:PSs X body tb)
  (hs:autoParam (∀ x,foldedSetIterable iter X.env x=pure x) ZI):PS X (.For tg iter body [] pos) (dK8 wi g tb):=by
 intro pins s σ H D I h;refine wpAny_For (thn (hi pins s σ H _ I h) fun v s1 h1=>thn h1 fun itv s2 h2=>?_) hs;obtain ⟨it,fp,tn,J,H2,e,I2,T,st2,f2,W,⟨m0,w0⟩,turn⟩:=h2;subst e;have stat:∀ {H':Hp},(∀ b∈fp,H' b=none)->∀ b∈fp,jD X pins H' b:=fun hn b hb=>⟨hn b hb,(f2 b hb).2⟩;refine codeAny_forLoop_any (fun n s'=>∃ i σ' H',Inv X pins σ' H' s'/\tn i s'.heap/\(∀ b∈fp,H' b=none)/\W i n σ' H') ?_ m0 ⟨0,σ,H2,I2,st2,fun b hb=>(f2 b hb).1,w0⟩;rintro n s3 ⟨i,σ3,H3,I3,st3,fr3,w3⟩;rcases turn i n σ3 H3 w3 with ⟨stop,qn⟩ | ⟨go,N,hN,step⟩
 ·refine wpAny_passesOwn hp (thn (T.done X rfl rfl rfl hc i pins s3 σ3 H3 X.xe I3 (stat fr3) st3 stop) fun r s4 ⟨hr,I4⟩=>?_);subst hr;exact wpAny_execs_nil ⟨σ3,H3,I4,qn⟩
 ·refine wpAny_passesOwn hp (thn (T.item X rfl rfl rfl hc i pins s3 σ3 H3 X.xe I3 (stat fr3) st3 go) fun r s4 ⟨u,hr,h4⟩=>?_);subst hr;refine wpAny_passesOwn hp (thn h4 fun _ s5 ⟨x,H5,I5,r5,y5,st5,fr5⟩=>?_);have I5':=I5.pinned (stat fr5) (T.obj _ _ st5);refine wpAny_passesOwn hp (thn (hg _ s5 σ3 H5 x u _ I5' r5 (step x H5 y5)) fun _ s6 ⟨σ6,H6,I6,q6⟩=>?_);refine wpAny_passesOwn hp (thn (hb _ s6 σ6 H6 _ I6 q6) fun f s7 q7=>?_);have again:∀ {σ7:St} {H7:Hp},Inv X (pins++nB fp s5.heap) σ7 H7 s7->N σ7 H7->∃ m,m < n/\∃ i σ' H',Inv X pins σ' H' s7/\tn i s7.heap/\(∀ b∈fp,H' b=none)/\W i m σ' H':=fun {σ7 H7} I7 n7=>by
   obtain ⟨m',hm,w7⟩:=hN σ7 H7 n7;refine ⟨m',hm,i+1,σ7,H7,I7.unpinned,T.keep _ _ _ st5 fun b hb o e=>(I7.pin (b,o) (List.mem_append_right _ (List.mem_append_right _ (fZ hb e)))).1,fun b hb=>?_,w7⟩;obtain ⟨o,e,d⟩:=T.obj _ _ st5 b hb;exact (I7.pin (b,o) (List.mem_append_right _ (List.mem_append_right _ (fZ hb e)))).2.1
  cases f with
  | next=>obtain ⟨σ7,H7,I7,n7⟩:=q7;exact again I7 n7
  | cont=>obtain ⟨σ7,H7,I7,n7⟩:=q7;exact again I7 n7
  | brk=>obtain ⟨σ7,H7,I7,q7⟩:=q7;exact ⟨σ7,H7,I7.unpinned,q7⟩
  | ret v=>obtain ⟨x7,σ7,H7,I7,r7,q7⟩:=q7;exact ⟨x7,σ7,H7,I7.unpinned,r7,q7⟩
end
abbrev R2:=V->V->Hp->VK->Prop
def OpR (X:Cx) (f:Value->Value->Sem Value) (r:R2):Prop :=
 ∀ (pins:List (Addr×Obj)) (s:Shared) (σ:St) (H:Hp) (x y:V) (v u:Value) (Q:VK),Inv X pins σ H s->RelV x v->RelV y u->r x y H Q ->
  wpAny (model X.prog X.w) X.A (f v u) (EP X pins σ Q) X.xe s
def UnR (X:Cx) (f:Value->Sem Value) (r:V->Hp->VK->Prop):Prop :=
 ∀ (pins:List (Addr×Obj)) (s:Shared) (σ:St) (H:Hp) (x:V) (v:Value) (Q:VK),Inv X pins σ H s->RelV x v->r x H Q ->
  wpAny (model X.prog X.w) X.A (f v) (EP X pins σ Q) X.xe s
def cF (X:Cx) (f:Value) (r:List V->Hp->VK->Prop):Prop :=
 ∀ (pins:List (Addr×Obj)) (s:Shared) (σ:St) (H:Hp) (xs:List V) (us:List Value) (Q:VK),Inv X pins σ H s->Vals xs us->r xs H Q ->
  wpAny (model X.prog X.w) X.A (call f us) (EP X pins σ Q) X.xe s
def tOp (r:R2) (ta tb:TE):TE:=fun σ H Q=>ta σ H fun x H1=>tb σ H1 fun y H2=>r x y H2 Q
def tUn (r:V->Hp->VK->Prop) (ta:TE):TE:=fun σ H Q=>ta σ H fun x H1=>r x H1 Q
noncomputable def rI (C:Int->Int->Prop) (g:Int->Int->V):R2:=fun x y H Q=>∃ i j,x=.int i/\y=.int j/\C i j/\Q (g i j) H
noncomputable def rI0 (g:Int->Int->V):R2:=fun x y H Q=>∃ i j,x=.int i/\y=.int j/\Q (g i j) H
noncomputable def rU (g:Int->V):V->Hp->VK->Prop:=fun x H Q=>∃ i,x=.int i/\Q (g i) H
section
variable {X:Cx} {a b c:Expr} {ta tb tc:TE} {pos:Pos}
def bY1 (ha:PE X a ta) (hb:PE X b tb) {pins:List (Addr×Obj)} {s:Shared} {σ:St} {H:Hp} {R:V->V->Hp->Prop} (I:Inv X pins σ H s)
  (h:ta σ H fun x H1=>tb σ H1 fun y H2=>R x y H2) {Q:Value->Shared->Prop} {f:Value->Value->Sem Value}
  (hf:∀ v u s2 x y H2,Inv X pins σ H2 s2->RelV x v->RelV y u->R x y H2->wpAny (model X.prog X.w) X.A (f v u) Q X.xe s2) :
  wpAny (model X.prog X.w) X.A (eval a X.env) (fun v s₁=>wpAny (model X.prog X.w) X.A (eval b X.env) (fun u s₂=>wpAny (model X.prog X.w) X.A (f v u) Q X.xe s₂) X.xe s₁) X.xe s:=by
 refine thn (ha pins s σ H _ I h) fun v s1 ⟨x,H1,I1,r1,q1⟩=>?_;refine thn (hb pins s1 σ H1 _ I1 q1) fun u s2 ⟨y,H2,I2,r2,q2⟩=>?_;exact hf v u s2 x y H2 I2 r1 r2 q2
def aL0 {op:Operator} {r:R2} (ho:OpR X (binaryOp op) r) (ha:PE X a ta) (hb:PE X b tb):PE X (.BinOp a op b pos) (tOp r ta tb):=by
 intro pins s σ H Q I h;exact wpAny_BinOp (bY1 ha hb I h fun v u s2 x y H2 I2 rx ry q=>ho pins s2 σ H2 x y v u Q I2 rx ry q)
def cS5 {op:UnaryOp} {r:V->Hp->VK->Prop} (ho:UnR X (unaryOp op) r) (ha:PE X a ta):PE X (.UnaryOp op a pos) (tUn r ta):=by
 intro pins s σ H Q I h;exact UnaryOp_ (thn (ha pins s σ H _ I h) fun v s1 ⟨x,H1,I1,r1,q1⟩=>ho pins s1 σ H1 x v Q I1 r1 q1)
def opI {f:Value->Value->Sem Value} {C:Int->Int->Prop} {g:Int->Int->Int}
  (rule:∀ (i j:Int) (t u:Tok) (s:Shared) (Q:Value->Shared->Prop) (E:Value->Shared->Prop),C i j->Q (.int (g i j) s.toks) { s with toks:=s.toks+1 }->wpAny (model X.prog X.w) X.A (f (.int i t) (.int j u)) Q E s) :
  OpR X f (rI C fun i j=>.int (g i j)):=by
 intro pins s σ H x y v u Q I rx ry h;obtain ⟨i,j,rfl,rfl,hc,q⟩:=h;obtain ⟨t,rfl⟩:=rx;obtain ⟨t',rfl⟩:=ry;exact rule i j t t' s _ _ hc ⟨.int (g i j),H,I.tok _,⟨_,rfl⟩,q⟩
def bY2 {f:Value->Value->Sem Value} {g:Int->Int->Int}
  (rule:∀ (i j:Int) (t u:Tok) (s:Shared) (Q:Value->Shared->Prop) (E:Value->Shared->Prop),Q (.int (g i j) s.toks) { s with toks:=s.toks+1 }->wpAny (model X.prog X.w) X.A (f (.int i t) (.int j u)) Q E s) :
  OpR X f (rI0 fun i j=>.int (g i j)):=by
 intro pins s σ H x y v u Q I rx ry h;obtain ⟨i,j,rfl,rfl,q⟩:=h;obtain ⟨t,rfl⟩:=rx;obtain ⟨t',rfl⟩:=ry;exact rule i j t t' s _ _ ⟨.int (g i j),H,I.tok _,⟨_,rfl⟩,q⟩
def bC2 {f:Value->Value->Sem Value} {g:Int->Int->Bool}
  (rule:∀ (i j:Int) (t u:Tok) (s:Shared) (Q:Value->Shared->Prop) (E:Value->Shared->Prop),Q (.bool (g i j)) s->wpAny (model X.prog X.w) X.A (f (.int i t) (.int j u)) Q E s) :
  OpR X f (rI0 fun i j=>.bl (g i j)):=by
 intro pins s σ H x y v u Q I rx ry h;obtain ⟨i,j,rfl,rfl,q⟩:=h;obtain ⟨t,rfl⟩:=rx;obtain ⟨t',rfl⟩:=ry;exact rule i j t t' s _ _ ⟨.bl (g i j),H,I,rfl,q⟩
def bC3 (i j:Int):Prop:=0<=j/\j<=1000000/\i.natAbs < 2^64
def CMul (i j:Int):Prop:=(-(2^64) < i/\i < 2^64)\/(-(2^64) < j/\j < 2^64)
def CMul.ok {i j:Int} (h:CMul i j):IntMulOk i j:=by
 rcases h with ⟨h1,h2⟩ | ⟨h1,h2⟩
 ·exact .of_left (intBits_le_64 h1 h2)
 ·exact .of_right (intBits_le_64 h1 h2)
def wQ (k:Nat):(0:Int)<=2^k:=by
 rw [two_pow_cast];exact Int.natCast_nonneg _
def bY3:OpR X (binaryOp .Add) (rI0 fun i j=>.int (i+j)):=bY2 fun _ _ _ _ _ _ _ q=>add_int q
def bY4:OpR X (binaryOp .Sub) (rI0 fun i j=>.int (i - j)):=bY2 fun _ _ _ _ _ _ _ q=>sub_int q
def bY5:OpR X (binaryOp .Mult) (rI CMul fun i j=>.int (i*j)):=opI fun _ _ _ _ _ _ _ hc q=>mul_int q hc.ok
def bY6:OpR X (binaryOp .Mod) (rI (fun _ j=>0 < j) fun i j=>.int (i%j)):=opI fun i j _ _ _ _ _ hc q=>by
 have h1:(0:Int) < j:=hc;exact mod_int' (by omega) (by rw [Int.fmod_eq_emod_of_nonneg i (by omega)];exact q)
def bY7:OpR X (binaryOp .Pow) (rI bC3 fun i j=>.int (i^j.toNat)):=opI fun _ _ _ _ _ _ _ hc q=>pow_int_small hc.1 hc.2.1 hc.2.2 q
def bY8:OpR X (binaryOp .RShift) (rI (fun _ j=>0<=j) fun i j=>.int (i / 2^j.toNat)):=opI fun i j _ _ _ _ _ hc q =>
 rshift_int hc (by rw [Int.fdiv_eq_ediv_of_nonneg i (wQ _)];exact q)
def bY9:OpR X (binaryOp .BitAnd) (rI0 fun i j=>.int (Builtin.bitAnd i j)):=bY2 fun _ _ _ _ _ _ _ q=>and_int q
def unI {f:Value->Sem Value} {g:Int->Int}
  (rule:∀ (i:Int) (t:Tok) (s:Shared) (Q:Value->Shared->Prop) (E:Value->Shared->Prop),Q (.int (g i) s.toks) { s with toks:=s.toks+1 }->wpAny (model X.prog X.w) X.A (f (.int i t)) Q E s) :
  UnR X f (rU fun i=>.int (g i)):=by
 intro pins s σ H x v Q I rx h;obtain ⟨i,rfl,q⟩:=h;obtain ⟨t,rfl⟩:=rx;exact rule i t s _ _ ⟨.int (g i),H,I.tok _,⟨_,rfl⟩,q⟩
def bZ0:UnR X (unaryOp .USub) (rU fun i=>.int (-i)):=unI fun _ _ _ _ _ q=>neg_int q
end
section
variable {X:Cx} {a b c:Expr} {ta tb tc:TE} {pos:Pos}
def cS6:OpR X (compareOp .Lt) (rI0 fun i j=>.bl (decide (i < j))):=bC2 fun _ _ _ _ _ _ _ q=>lt_int q
def cS7:OpR X (compareOp .LtE) (rI0 fun i j=>.bl (decide (i<=j))):=bC2 fun _ _ _ _ _ _ _ q=>le_int q
def cS8:OpR X (compareOp .Gt) (rI0 fun i j=>.bl (decide (j < i))):=bC2 fun _ _ _ _ _ _ _ q=>gt_int q
def cS9:OpR X (compareOp .GtE) (rI0 fun i j=>.bl (decide (j<=i))):=bC2 fun _ _ _ _ _ _ _ q=>ge_int q
def yR {op:CmpOp} {r:R2} (ho:OpR X (compareOp op) r) (ha:PE X a ta) (hb:PE X b tb) (hm:behindInMarks op b=false):PE X (.Compare a [op] [b] pos) (tOp r ta tb):=by
 intro pins s σ H Q I h;exact wpAny_Compare1 (bY1 ha hb I h fun v u s2 x y H2 I2 rx ry q=>ho pins s2 σ H2 x y v u Q I2 rx ry q) hm
def bP0 (t:TE):TT:=fun σ H Q=>t σ H fun x H'=>∃ k,x=.bl k/\Q k H'
def yS {op:CmpOp} {r:R2} (ho:OpR X (compareOp op) r) (ha:PE X a ta) (hb:PE X b tb) (hm:behindInMarks op b=false):PT X (.Compare a [op] [b] pos) (bP0 (tOp r ta tb)):=by
 intro pins s σ H Q I h;refine wpAny_isTrue_Compare1 (thn (ha pins s σ H _ I h) fun v s1 ⟨x,H1,I1,r1,q1⟩=>thn (hb pins s1 σ H1 _ I1 q1) fun u s2 ⟨y,H2,I2,r2,q2⟩ =>
  thn (ho pins s2 σ H2 x y v u _ I2 r1 r2 q2) fun c s3 ⟨z,H3,I3,r3,k,e,q3⟩=>?_) hm
 subst e;cases r3;exact wpAny_truthy_bool ⟨H3,I3,q3⟩
def wR (r r':R2) (ta tb tc:TE):TE:=fun σ H Q=>ta σ H fun x H1=>tb σ H1 fun y H2=>r x y H2 fun z H3=>∃ k,z=.bl k /\
 (if k=true then tc σ H3 fun w' H4=>r' y w' H4 Q else Q (.bl false) H3)
def aL1 {op op':CmpOp} {r r':R2} (ho:OpR X (compareOp op) r) (ho':OpR X (compareOp op') r') (ha:PE X a ta) (hb:PE X b tb) (hc:PE X c tc)
  (hm:autoParam (lastMarks [op,op'] [b,c]=false) ZW):PE X (.Compare a [op,op'] [b,c] pos) (wR r r' ta tb tc):=by
 intro pins s σ H Q I h;refine Compare_chain (thn (ha pins s σ H _ I h) fun v s1 ⟨x,H1,I1,r1,q1⟩=>chain_link (thn (hb pins s1 σ H1 _ I1 q1) fun u s2 ⟨y,H2,I2,r2,q2⟩ =>
  thn (ho pins s2 σ H2 x y v u _ I2 r1 r2 q2) fun d s3 ⟨z,H3,I3,r3,k,e,q3⟩=>?_)) hm
 subst e;cases r3;refine wpAny_truthy_bool ?_;cases k with
 | false=>exact ite_ff ⟨.bl false,H3,I3,rfl,q3⟩
 | true=>exact ite_tt (chain_last (thn (hc pins s3 σ H3 _ I3 q3) fun w' s4 ⟨z',H4,I4,r4,q4⟩=>ho' pins s4 σ H4 y z' u w' Q I4 r2 r4 q4))
def aL2 {op op':CmpOp} {r r':R2} (ho:OpR X (compareOp op) r) (ho':OpR X (compareOp op') r') (ha:PE X a ta) (hb:PE X b tb) (hc:PE X c tc)
  (hm:autoParam (lastMarks [op,op'] [b,c]=false) ZW):PT X (.Compare a [op,op'] [b,c] pos) (bP0 (wR r r' ta tb tc)):=by
 intro pins s σ H Q I h;refine isTrue_chain (thn (ha pins s σ H _ I h) fun v s1 ⟨x,H1,I1,r1,q1⟩=>test_link (thn (hb pins s1 σ H1 _ I1 q1) fun u s2 ⟨y,H2,I2,r2,q2⟩ =>
  thn (ho pins s2 σ H2 x y v u _ I2 r1 r2 q2) fun d s3 ⟨z,H3,I3,r3,k,e,q3⟩=>?_)) hm
 subst e;cases r3;refine wpAny_truthy_bool ?_;cases k with
 | false =>
  obtain ⟨k',e',q'⟩:=q3;cases e';exact ite_ff ⟨H3,I3,q'⟩
 | true =>
  refine ite_tt (test_last (thn (hc pins s3 σ H3 _ I3 q3) fun w' s4 ⟨z',H4,I4,r4,q4⟩=>thn (ho' pins s4 σ H4 y z' u w' _ I4 r2 r4 q4) fun d' s5 ⟨z2,H5,I5,r5,k2,e2,q5⟩=>?_));subst e2;cases r5;exact wpAny_truthy_bool ⟨H5,I5,q5⟩
def rH:(sizeLine:Nat) < 2^63:=by rw [sizeLine_eq];decide
def iX {x:V} {us:List Value} (r:Vals [x] us):∃ u,us=[u]/\RelV x u:=by
 cases r with
 | cons r1 r2=>cases r2;exact ⟨_,rfl,r1⟩
end
structure ObjM (h:Heap) (x dx C:Addr) (mA:Str->Option Value):Prop where
 obj:h.get? x=some (PySem.W.instObj C dx)
 ns:h.Ns1 dx mA
 ne:dx≠x
def aC3 {h:Heap} {dx:Addr} {mA:Str->Option Value} (n:h.Ns1 dx mA):∃ od,h.get? dx=some od/\∀ name,PySem.W.lookIn name od=some (mA name):=by
 obtain ⟨o,es,ep,ho,hd,hk,_,hm⟩:=n;refine ⟨o,ho,fun name=>?_⟩;have e:=hm name;unfold nsFind findBy at e;rw [<- Array.find?_toList] at e;unfold PySem.W.lookIn;rw [hd];dsimp only;split
 ·rename_i y q;rw [q] at e;exact congrArg some e
 ·rename_i q;rw [q] at e;have a:es.toList.any (·.refKey)=false:=by
   rw [List.any_eq_false];intro y hy;obtain ⟨z,t,hkey⟩:=hk y (Array.mem_toList_iff.mp hy);simp [DictEntry.refKey,hkey]
  have a':¬ es.toList.any (·.refKey)=true:=by rw [a];exact Bool.false_ne_true
  rw [if_neg a'];exact congrArg some e
def ObjM.look {h:Heap} {x dx C:Addr} {mA:Str->Option Value} (I:ObjM h x dx C mA):∃ od,PySem.W.InstAt h x (PySem.W.instObj C dx) C (some od)/\∀ name,PySem.W.lookIn name od=some (mA name) :=
 let ⟨od,ho,hl⟩:=aC3 I.ns
 ⟨od,⟨I.obj,rfl,rfl,ho⟩,hl⟩
section
variable {prog:Program} {w:World} {A:Around} {E:Value->Shared->Prop} {s:Shared} {K:Frag} {x dx C f:Addr} {mA:Str->Option Value} {name:Str} {v:Value}
def bC4 {expr:Bool} {Q:Value->Shared->Prop} (X:K.In s.heap) (I:ObjM s.heap x dx C mA) (hg:PySem.W.plainGet K C name=true) (hh:PySem.W.hasDictIn K C=true)
  (ha:PySem.W.findIn K (.ref C) name=some none) (hv:mA name=some v) (hv':PySem.W.handedIn v=true) (h:Q v { s with toks:=s.toks+1 }) :
  wpAny (model prog w) A (getAttr (.ref x) name expr) Q E s:=by
 obtain ⟨od,J,hl⟩:=I.look;exact PySem.W.get_value X J (PySem.W.plainGet_of hg).1 (PySem.W.findObj_own hh ha rfl (by rw [hl,hv])) hv' h
def aL3 {pl:Sem Bool} {Q:Value×List Value->Shared->Prop} (X:K.In s.heap) (I:ObjM s.heap x dx C mA) (hg:PySem.W.plainGet K C name=true)
  (hf:PySem.W.findIn K (.ref C) name=some (some (.ref f))) (ht:PySem.W.isFn K (.ref f)=true) (hv:mA name=none) (h:Q (.ref f,[.ref x]) s) :
  wpAny (model prog w) A (getMethod (.ref x) name pl) Q E s:=by
 obtain ⟨od,J,hl⟩:=I.look;exact PySem.W.method_fn X J (PySem.W.plainGet_of hg).1 (PySem.W.plainGet_of hg).2 hf (beq_iff_eq.mp ht) (by show (PySem.W.lookIn name od).map (·.isSome)=some false;rw [hl,hv];rfl) h
def bC5 {ns:List Str} {Q:Unit->Shared->Prop} (X:K.In s.heap) (I:ObjM s.heap x dx C mA)
  (hs:PySem.W.findIn K (.ref C) "__setattr__"=some (some (.builtin "object.__setattr__"))) (hp:PySem.W.plainOver K C=true) (ht:PySem.W.takerIn K C name=some none) (hh:PySem.W.hasDictIn K C=true)
  (hw:PySem.Within mA ns) (hsz:ns.length<=sizeLine)
  (h:∀ h',ObjM h' x dx C (fun y=>if y=name then some v else mA y)->Heap.SameBut dx s.heap h'->Q () { s with heap:=h',toks:=s.toks+2 }) :
  wpAny (model prog w) A (setAttr (.ref x) name v) Q E s:=by
 obtain ⟨od,J,hl⟩:=I.look;refine PySem.W.set_plain X J hs (PySem.W.osa_open (s:={ s with toks:=s.toks+1 }) (r:=none) X J hp ht fun b=>?_);obtain ⟨cd,hc,hd'⟩:=PySem.W.any_some hh;have hx:s.heap.get? x=some ⟨.ref C,some dx,.plain,#[]⟩:=I.obj;refine wpAny_bind (wpAny_pure (wpAny_bind (wpAny_bind (wpAny_loadPart hx (wpAny_bind (PySem.W.Looks.here (s:={ s with toks:=s.toks+1 }) (PySem.W.looks_clsIn X hc) ?_))))));rw [hd'];refine wpAny_pure (a:=some dx) (wpAny_bind (wpAny_pure (wpAny_bind ?_)));refine wpAny_nsSet1 (s:={ s with toks:=s.toks+1 }) I.ns fun h' hn2 hs2=>?_;obtain ⟨oD,esD,epD,hoD,hdD,hcD⟩:=hn2.count (PySem.Within.cons name v hw);refine wpAny_bind (wpAny_lookBehind hoD (by rw [hdD];exact pastItsLine_dict (Nat.le_trans hcD (by rw [List.length_cons];omega))) ?_);exact wpAny_pure (h _ ⟨(hs2.2 _ (Ne.symm I.ne)).trans I.obj,hn2,I.ne⟩ hs2)
def aL4 {R:Result->Shared->Prop} {vs:List Value} {kw:List (Str×Value)} (X:K.In s.heap) (hm:PySem.W.makesIn K C=true)
  (hi:PySem.W.findIn K (.ref C) "__init__"=some (some (.ref f))) (hf:PySem.W.typeIn K (.ref f)=some (.type "function"))
  (h:codeAny (model prog w) (A.under (.builtin "type.__call__" ⟨.ref C::vs,kw⟩)) (.call (.ref f) ⟨.ref (s.heap.objs.size+1)::vs,kw⟩) (PySem.W.InitBack (s.heap.objs.size+1) R)
   { s with heap:=(s.heap.push PySem.W.emptyDict).push (PySem.W.instObj C s.heap.objs.size) }) :
  codeAny (model prog w) A (.call (.ref C) ⟨vs,kw⟩) R s:=by
 obtain ⟨hh,g,d,t,os⟩:=s;exact PySem.W.make_core (PySem.W.makes_of X hm) (PySem.W.looks_findIn X hi) (fun self=>PySem.W.bind_fn X self hf) (.inl rfl) h
end
noncomputable def gQ (f:Str) (v:V):List (Str×V)->List (Str×V)
 | []=>[(f,v)]
 | (g,x)::r=>if g=f then (g,v)::r else (g,x)::gQ f v r
theorem lJ (f g:Str) (v:V):∀ fs:List (Str×V),(gQ f v fs).lookup g=if g=f then some v else fs.lookup g
 | []=>by
  show List.lookup g [(f,v)]=_
  by_cases h:g=f
  ·have hb:(g==f)=true:=beq_iff_eq.mpr h;simp only [List.lookup,hb,if_pos h]
  ·have hb:(g==f)=false:=beq_eq_false_iff_ne.mpr h;simp only [List.lookup,hb,if_neg h]
 | (k,x)::r=>by
  have ih:=lJ f g v r;rw [show gQ f v ((k,x)::r)=(if k=f then (k,v)::r else (k,x)::gQ f v r) from rfl]
  by_cases hk:k=f
  ·rw [if_pos hk]
   by_cases h:g=k
   ·have hb:(g==k)=true:=beq_iff_eq.mpr h;simp only [List.lookup,hb,if_pos (h.trans hk)]
   ·have hb:(g==k)=false:=beq_eq_false_iff_ne.mpr h;simp only [List.lookup,hb,if_neg (fun e:g=f=>h (e.trans hk.symm))]
  ·rw [if_neg hk]
   by_cases h:g=k
   ·have hb:(g==k)=true:=beq_iff_eq.mpr h;simp only [List.lookup,hb,if_neg (fun e:g=f=>hk (h.symm.trans e))]
   ·have hb:(g==k)=false:=beq_eq_false_iff_ne.mpr h;simp only [List.lookup,hb];exact ih
theorem kH (f:Str) (v:V):∀ fs:List (Str×V),f∈(gQ f v fs).map (·.1)/\∀ g,g∈fs.map (·.1)->g∈(gQ f v fs).map (·.1)
 | []=>⟨by simp [gQ],fun g h=>by simp at h⟩
 | (k,x)::r=>by
  obtain ⟨i1,i2⟩:=kH f v r;rw [show gQ f v ((k,x)::r)=(if k=f then (k,v)::r else (k,x)::gQ f v r) from rfl]
  by_cases hk:k=f
  ·rw [if_pos hk];subst hk;exact ⟨by simp,fun g h=>by simpa using h⟩
  ·rw [if_neg hk];refine ⟨?_,fun g h=>?_⟩
   ·rw [List.map_cons];exact List.mem_cons_of_mem _ i1
   ·rw [List.map_cons] at h ⊢;rcases List.mem_cons.mp h with e | e
    ·exact List.mem_cons.mpr (.inl e)
    ·exact List.mem_cons_of_mem _ (i2 g e)
theorem lK (f:Str) (v:V):∀ fs:List (Str×V),(gQ f v fs).length<=fs.length+1
 | []=>by simp [gQ]
 | (k,x)::r=>by
  have ih:=lK f v r;rw [show gQ f v ((k,x)::r)=(if k=f then (k,v)::r else (k,x)::gQ f v r) from rfl]
  by_cases hk:k=f
  ·rw [if_pos hk,List.length_cons,List.length_cons];omega
  ·rw [if_neg hk,List.length_cons,List.length_cons];omega
def RelO.some_of {v:V} {o:Option Value} (r:RelO (some v) o):∃ u,o=some u/\RelV v u:=by
 cases o with
 | none=>exact (show False from r).elim
 | some u=>exact ⟨u,rfl,r⟩
def RelO.none_of {o:Option Value} (r:RelO none o):o=none:=by
 cases o with
 | none=>rfl
 | some u=>exact (show False from r).elim
def aC4 {v:V} {u:Value} (r:RelV v u):PySem.W.handedIn u=true:=by
 cases v with
 | non=>cases (show u=Value.none from r);rfl
 | bl b=>cases (show u=Value.bool b from r);rfl
 | int i=>obtain ⟨t,e⟩:=(show ∃ t,u=Value.int i t from r);cases e;rfl
 | str x=>obtain ⟨t,e⟩:=(show ∃ t,u=Value.str x t from r);cases e;rfl
 | byt b=>obtain ⟨t,e⟩:=(show ∃ t,u=Value.bytes b t from r);cases e;rfl
 | flt b=>obtain ⟨t,e⟩:=(show ∃ t,u=Value.float b t from r);cases e;rfl
 | ref a=>cases (show u=Value.ref a from r);rfl
 | ty n=>cases (show u=Value.type n from r);rfl
section
variable {P:Program} {w:World} {H H':Hp} {h h':Heap} {a C dx:Addr} {fs fs':List (Str×V)}
def rJ (hok:HOk P w H h) (e:H a=some (.ins C dx fs)):∃ mA,ObjM h a dx C mA/\(∀ f,RelO (fs.lookup f) (mA f))/\PySem.Within mA (fs.map (·.1))/\fs.length<=1000/\H dx=some (.own a):=by
 obtain ⟨d,z,ne,ob,mA,n,r,q⟩:=(show ObjOk P w H h a (.ins C dx fs) from hok a _ e);exact ⟨mA,⟨ob,n,ne⟩,r,q,z,d⟩
end
structure Cls (K:Frag) (C:Addr):Prop where
 pg:PySem.W.plainGet K C Str.empty=true
 hd:PySem.W.hasDictIn K C=true
 po:PySem.W.plainOver K C=true
 sa:PySem.W.findIn K (.ref C) "__setattr__"=some (some (.builtin "object.__setattr__"))
def Cls.get {K:Frag} {C:Addr} (c:Cls K C) (f:Str):PySem.W.plainGet K C f=true:=c.pg
def NoAttr (K:Frag) (C:Addr) (f:Str):Prop:=PySem.W.findIn K (.ref C) f=some none
def NoAttr.taker {K:Frag} {C:Addr} {f:Str} (n:NoAttr K C f):PySem.W.takerIn K C f=some none:=by
 unfold PySem.W.takerIn;rw [show PySem.W.findIn K (.ref C) f=some none from n];rfl
structure Meth (K:Frag) (C:Addr) (m:Str) (f:Addr):Prop where
 at_:PySem.W.findIn K (.ref C) m=some (some (.ref f))
 fn:PySem.W.isFn K (.ref f)=true
 kp:PySem.W.keepIn K (.ref f)=true
section
variable {X:Cx} {pins:List (Addr×Obj)} {σ:St} {H:Hp} {s:Shared} {a C dx:Addr} {fs:List (Str×V)} {f:Str} {v:V} {A:Around} {E:Value->Shared->Prop}
def wS {b:Bool} {Q:Value->Shared->Prop} (I:Inv X pins σ H s) (e:H a=some (.ins C dx fs)) (c:Cls X.K C) (n:NoAttr X.K C f) (l:fs.lookup f=some v)
  (h:∀ u s',Inv X pins σ H s'->RelV v u->Q u s'):wpAny (model X.prog X.w) A (getAttr (.ref a) f b) Q E s:=by
 obtain ⟨mA,O,r,_,_,_⟩:=rJ I.hok e;obtain ⟨u,hu,ru⟩:=RelO.some_of (v:=v) (o:=mA f) (by rw [<- l];exact r f);exact bC4 I.kIn O (c.get f) c.hd n hu (aC4 ru) (h u _ (I.tok _) ru)
def wT {m:Str} {g:Addr} {pl:Sem Bool} {Q:Value×List Value->Shared->Prop} (I:Inv X pins σ H s) (e:H a=some (.ins C dx fs)) (c:Cls X.K C) (k:Meth X.K C m g) (l:fs.lookup m=none)
  (h:Q (.ref g,[.ref a]) s):wpAny (model X.prog X.w) A (getMethod (.ref a) m pl) Q E s:=by
 obtain ⟨mA,O,r,_,_,_⟩:=rJ I.hok e;have hn:mA m=none:=RelO.none_of (by rw [<- l];exact r m);exact aL3 I.kIn O (c.get m) k.at_ k.fn hn h
def wU {y:V} {u:Value} {Q:Unit->Shared->Prop} (I:Inv X pins σ H s) (e:H a=some (.ins C dx fs)) (c:Cls X.K C) (n:NoAttr X.K C f) (hl:fs.length < 1000) (ry:RelV y u)
  (h:∀ s',Inv X pins σ (upd H a (.ins C dx (gQ f y fs))) s'->Q () s'):wpAny (model X.prog X.w) A (setAttr (.ref a) f u) Q E s:=by
 obtain ⟨mA,O,r,wi,_,ho⟩:=rJ I.hok e;have hz:(fs.map (·.1)).length<=sizeLine:=by rw [List.length_map,sizeLine_eq];omega
 refine bC5 I.kIn O c.sa c.po n.taker c.hd wi hz fun h' O' sb=>h _ ?_;have hd:∃ o,h'.get? dx=some o:=let ⟨o,_,_,e',_⟩:=O'.ns;⟨o,e'⟩
 refine I.write (x:=a) (e:=dx) (by rw [e];exact True.intro) (.inr ho) (fun b q hb z=>(sb.2 b hb).trans z) hd ?_;refine ⟨by rw [aN O.ne];exact ho,?_,O.ne,O'.obj,_,O'.ns,fun g=>?_,fun g hg=>?_⟩
 ·have:=lK f y fs;omega
 ·show RelO ((gQ f y fs).lookup g) (if g=f then some u else mA g);rw [lJ]
  by_cases q:g=f
  ·rw [if_pos q,if_pos q];exact ry
  ·rw [if_neg q,if_neg q];exact r g
 ·by_cases q:g=f
  ·rw [q];exact (kH f y fs).1
  ·refine (kH f y fs).2 g (wi g fun z=>hg ?_);show (if g=f then some u else mA g)=none;rw [if_neg q];exact z
def Inv.made (I:Inv X pins σ H s):Inv X pins σ (upd (upd H s.heap.objs.size (.own (s.heap.objs.size+1))) (s.heap.objs.size+1) (.ins C s.heap.objs.size []))
  { s with heap:=(s.heap.push PySem.W.emptyDict).push (PySem.W.instObj C s.heap.objs.size) }:=by
 have e1:(s.heap.push PySem.W.emptyDict).get? s.heap.objs.size=some PySem.W.emptyDict:=Heap.get?_push_size s.heap rfl;have e2:((s.heap.push PySem.W.emptyDict).push (PySem.W.instObj C s.heap.objs.size)).get? (s.heap.objs.size+1)=some (PySem.W.instObj C s.heap.objs.size):=by
  have:=Heap.get?_push_size (s.heap.push PySem.W.emptyDict) (o:=PySem.W.instObj C s.heap.objs.size) rfl
  rwa [Heap.size_push] at this
 have e3:(s.heap.push PySem.W.emptyDict).Ns s.heap.objs.size (fun _=>none):=⟨PySem.W.emptyDict,#[],_,e1,rfl,(fun e he=>absurd he (by simp)),fun _=>rfl⟩;have I1:=I.laid (a:=s.heap.objs.size) (o:=.own (s.heap.objs.size+1)) (h':=s.heap.push PySem.W.emptyDict) (t':=s.toks) (fun b u q=>Heap.get?_push_of_some _ q) (Nat.le_refl _) ⟨_,e1⟩;refine I1.laid (a:=s.heap.objs.size+1) (o:=.ins C s.heap.objs.size []) (t':=s.toks) (fun b u q=>Heap.get?_push_of_some _ q) (Nat.le_of_eq (Heap.size_push _ _)) ?_;have ne:s.heap.objs.size≠s.heap.objs.size+1:=Nat.ne_of_lt (Nat.lt_succ_self _);refine ⟨by rw [aN ne,aU],Nat.zero_le _,ne,e2,fun _=>none,(Heap.Ns1.of_empty e3).at fun o q=>Heap.get?_push_of_some _ q,fun _=>True.intro,fun y hy=>absurd rfl hy⟩
def bC6 {prog:Program} {w:World} {env:Env} {e:Expr} {f:Str} {pos:Pos} {s:Shared} {Q:Value->Shared->Prop} (hb:attributeBase e f env (eval e env)=eval e env)
  (h:wpAny (model prog w) A (eval e env) (fun o s₁=>wpAny (model prog w) A (getAttr o f true) Q E s₁) E s):wpAny (model prog w) A (eval (.Attribute e f pos) env) Q E s :=
 Attribute_any_ h (by rw [arm_eval_Attribute,hb])
end
def dK9 (K:Frag) (ta:TE) (f:Str):TE:=fun σ H Q=>ta σ H fun x H1=>∃ a C dx fs v,x=.ref a/\H1 a=some (.ins C dx fs)/\Cls K C/\NoAttr K C f/\fs.lookup f=some v/\Q v H1
def dL0 (K:Frag) (ta tv:TE) (f:Str):TS:=fun D σ H=>tv σ H fun y H1=>ta σ H1 fun x H2=>∃ a C dx fs,x=.ref a/\H2 a=some (.ins C dx fs)/\Cls K C/\NoAttr K C f/\fs.length < 1000 /\
 D.nx σ (upd H2 a (.ins C dx (gQ f y fs)))
section
variable {X:Cx} {o e value:Expr} {f:Str} {pos pos' tpos:Pos} {ta tv:TE}
def bZ1 (he:PE X e ta) (hb:attributeBase e f X.env (eval e X.env)=eval e X.env):PE X (.Attribute e f pos) (dK9 X.K ta f):=by
 intro pins s σ H Q I h;refine bC6 hb (thn (he pins s σ H _ I h) fun u s1 ⟨x,H1,I1,rx,a,C,dx,fs,v,ex,ea,c,n,l,q⟩=>?_);subst ex;obtain rfl:u=Value.ref a:=rx;exact wS I1 ea c n l fun u' s2 I2 ru=>⟨v,H1,I2,ru,q⟩
def bZ2 (ha:PE X o ta) (hv:PE X value tv) (hs:swapsWith value (some (.Attribute o f pos')) pos.line X.env=pure false):PS X (.Assign [.Attribute o f pos'] value pos) (dL0 X.K ta tv f):=by
 intro pins s σ H D I h;refine plainObj_wpAny_Assign_Attribute (thn (hv pins s σ H _ I h) fun u s1 ⟨y,H1,I1,ry,q⟩=>thn (ha pins s1 σ H1 _ I1 q) fun ov s2 ⟨x,H2,I2,rx,a,C,dx,fs,ex,ea,c,n,l,q2⟩=>?_) hs;subst ex;obtain rfl:ov=Value.ref a:=rx;exact wU I2 ea c n l ry fun s3 I3=>⟨σ,_,I3,q2⟩
end
section
variable {X:Cx} {pins:List (Addr×Obj)} {σ:St} {H:Hp} {s:Shared} {A:Around} {E:Value->Shared->Prop} {Q:Value->Shared->Prop} {c:Value} {b:Bool}
end
structure Room (k:Nat) (A:Around):Prop where
 hd:A.handled=none
 dp:A.depth+3*k+5 < recursionLimit
 un:A.units+16*k+200 < cLine
def Room.mono {j k:Nat} {A:Around} (r:Room k A) (h:j<=k):Room j A:=⟨r.hd,by have:=r.dp;omega,by have:=r.un;omega⟩
def Room.deeper {k:Nat} {A:Around} (r:Room (k+1) A) (env:Env):Room k (A.deeper env) :=
 ⟨r.hd,by have:=r.dp;show A.depth+1+3*k+5 < _;omega,by have:=r.un;show A.units+3+16*k+200 < _;omega⟩
def wV {A:Around} {C:Addr} {us:List Value} {kw:List (Str×Value)}:(A.under (.builtin "type.__call__" ⟨.ref C::us,kw⟩)).depth=A.depth+1:=by
 first | rfl | simp [Around.under,Code.weight,Code.isCreation,Code.isGuard,Code.isCaller,Code.frames,Code.isFrame,guardIds]
def wW {A:Around} {C:Addr} {us:List Value} {kw:List (Str×Value)}:(A.under (.builtin "type.__call__" ⟨.ref C::us,kw⟩)).units=A.units+1:=by
 first | rfl | simp [Around.under,Code.cUnits,Code.frames,Code.isFrame]
def Room.make {k:Nat} {A:Around} (r:Room (k+1) A) (C:Addr) (us:List Value) (kw:List (Str×Value)):Room k (A.under (.builtin "type.__call__" ⟨.ref C::us,kw⟩)) :=
 ⟨r.hd,by have:=r.dp;rw [wV];omega,by have:=r.un;rw [wW];omega⟩
def Room.depth {k:Nat} {A:Around} (r:Room k A):A.depth < recursionLimit:=by have:=r.dp;omega
def Room.units {k:Nat} {A:Around} (r:Room k A):A.units+64 < cLine:=by have:=r.un;omega
def aC5:TA:=fun _ H Q=>Q [] H
def fA (ta:TE) (tr:TA):TA:=fun σ H Q=>ta σ H fun x H1=>tr σ H1 fun xs H2=>Q (x::xs) H2
section
variable {X:Cx} {e:Expr} {es:List Expr} {te:TE} {t:TA} {pos:Pos}
def kI:PA X [] aC5:=fun _ _ _ _ H Q I h=>Calls.spliced_nil ⟨[],H,I,.nil,h⟩
def cN (ha:PE X e te) (hr:PA X es t) (hs:autoParam (starEach (e::es) X.env=(false,eval e X.env)::starEach es X.env) ZR):PA X (e::es) (fA te t):=by
 intro pos pins s σ H Q I h;rw [hs];show wpAny _ _ (spliced ((false,eval e X.env)::backTo pos (starEach es X.env))) _ _ s;refine Calls.spliced_cons (thn (ha pins s σ H _ I h) fun u s1 ⟨x,H1,I1,r1,q1⟩=>?_);exact thn (hr pos pins s1 σ H1 _ I1 q1) fun us s2 ⟨xs,H2,I2,r2,q2⟩=>⟨x::xs,H2,I2,.cons r1 r2,q2⟩
def bZ3 (t:TA):TE:=fun σ H Q=>t σ H fun xs H1=>xs.length<=sizeLine/\∀ p,H1 p=none->Q (.ref p) (upd H1 p (.tup xs))
def dL1 (t:TA):TE:=fun σ H Q=>t σ H fun xs H1=>xs.length<=sizeLine/\∀ p,H1 p=none->Q (.ref p) (upd H1 p (.lst xs))
def aL5 {x1} (h:PA X es t):PE X (.Tuple es x1 pos) (bZ3 t):=by
 intro pins s σ H Q I hq;refine wpAny_Tuple_spliced (thn (h pos pins s σ H _ I hq) fun us s1 ⟨xs,H1,I1,r,z,q⟩=>⟨by rw [<- r.length];exact z,?_⟩);have hf:H1 s1.heap.objs.size=none:=I1.hok.fresh (Nat.le_refl _);refine ⟨.ref s1.heap.objs.size,upd H1 s1.heap.objs.size (.tup xs),I1.laid (t':=s1.toks) (fun b u e=>Heap.get?_push_of_some _ e) (Nat.le_refl _) ?_,rfl,q _ hf⟩;exact ⟨z,us,r,⟨_,Heap.get?_push_size _ rfl,rfl,⟨_,rfl⟩,rfl⟩⟩
def bZ4 (h:PA X es t):PE X (.List es pos) (dL1 t):=by
 intro pins s σ H Q I hq;refine wpAny_List_spliced (thn (h pos pins s σ H _ I hq) fun us s1 ⟨xs,H1,I1,r,z,q⟩=>⟨by rw [<- r.length];exact z,?_⟩);have hf:H1 s1.heap.objs.size=none:=I1.hok.fresh (Nat.le_refl _);refine ⟨.ref s1.heap.objs.size,upd H1 s1.heap.objs.size (.lst xs),I1.laid (t':=s1.toks) (fun b u e=>Heap.get?_push_of_some _ e) (Nat.le_refl _) ?_,rfl,q _ hf⟩;exact ⟨z,us,0,r,Heap.get?_push_size _ rfl⟩
end
abbrev Sp:=List V->Hp->VK->XK->Prop
abbrev CXT:=List Env->Hp->Shared->XK->Value->Shared->Prop
structure Env0 (P:Program) (w:World) (K:Frag) (mg:Str->Option Value) (base:Heap) (A:Around) (outer:List Env) (s:Shared) (H:Hp):Prop where
 frames:A.frames=some outer
 mod:Mod K mg base
 bs:∀ b o,base.get? b=some o->s.heap.get? b=some o/\H b=none
 bsz:base.objs.size<=s.heap.objs.size
 funs:s.heap.FunFrames base outer
 frf:∀ b∈frs outer,H b=none
 hok:HOk P w H s.heap
 bare:AllBare s.gens
def CE (outer:List Env) (P:Program) (w:World) (H:Hp) (s:Shared) (Q:VK) (u:Value) (s':Shared):Prop :=
 ∃ v H',s'.os=s.os/\AllBare s'.gens/\Un (frs outer) [] H H' s.heap s'.heap/\HOk P w H' s'.heap/\RelV v u/\Q v H'
def CR (CX:CXT) (outer:List Env) (P:Program) (w:World) (H:Hp) (s:Shared) (Q:VK) (E:XK) (r:Result) (s':Shared):Prop :=
 match r with
 | .ok (.ret u)=>CE outer P w H s Q u s'
 | .ok _=>False
 | .error e=>CX outer H s E e s'
structure FnOk (P:Program) (w:World) (K:Frag) (mg:Str->Option Value) (base:Heap) (CX:CXT) (k:Nat) (f:Addr) (fd:FuncData) (ps:List Str) (sp:Sp):Prop where
 len:∀ vs H Q E,sp vs H Q E->vs.length=ps.length
 run:∀ (A:Around) (outer:List Env) (s:Shared) (H:Hp) (args:Args) (us:List Value) (vs:List V) (Q:VK) (E:XK),Room k A->Env0 P w K mg base A outer s H->BindsTo s fd args (ps.zip us)->Vals vs us->sp vs H Q E ->
  codeAny (model P w) A (.call (.ref f) args) (CR CX outer P w H s Q E) s
def Env0.make {P:Program} {w:World} {K:Frag} {mg:Str->Option Value} {base:Heap} {A:Around} {outer:List Env} {s:Shared} {H:Hp} (e:Env0 P w K mg base A outer s H) (C:Addr) (us:List Value) (kw:List (Str×Value)) :
  Env0 P w K mg base (A.under (.builtin "type.__call__" ⟨.ref C::us,kw⟩)) outer s H:=⟨by first | exact e.frames | (simpa [Around.under,Code.envs,Code.isFrame,pushEnvs] using e.frames),e.mod,e.bs,e.bsz,e.funs,e.frf,e.hok,e.bare⟩
section
variable {X:Cx} {pins:List (Addr×Obj)} {σ:St} {H:Hp} {s s':Shared}
def Inv.env0 (I:Inv X pins σ H s):Env0 X.prog X.w X.K X.mg X.base X.A X.stack s H :=
 ⟨I.ok.frames,I.ok.mod,I.bs,Nat.le_trans I.ok.bsz I.sz,I.stack,I.stkFree,I.hok,I.bare⟩
def Inv.after {Q:VK} {u:Value} (I:Inv X pins σ H s) (h:CE X.stack X.prog X.w H s Q u s'):EP X pins σ Q u s':=by
 obtain ⟨v,H',os,bare,un,hok,r,q⟩:=h;obtain ⟨hh,g,d,t,os'⟩:=s';obtain rfl:os'=s.os:=os;exact ⟨v,H',I.call (h':=hh) (g':=g) (d':=d) (t':=t) (ch:=[]) un hok bare (fun b z=>absurd z (by simp)),r,q⟩
end
def aL6 (sp:Sp) (dvs:List V) (E:XK) (t:TA):TE:=fun σ H Q=>t σ H fun vs H1=>sp (vs++dvs) H1 Q E
def bP1 (C:Addr) (m:Str) (sp:Sp) (dvs:List V) (E:XK) (ta:TE) (t:TA):TE:=fun σ H Q=>ta σ H fun x H1=>∃ a dx fs,x=.ref a/\H1 a=some (.ins C dx fs)/\fs.lookup m=none /\
 t σ H1 fun vs H2=>sp (x::(vs++dvs)) H2 Q E
def bP2 (C:Addr) (sp:Sp) (dvs:List V) (E:XK) (t:TA):TE:=fun σ H Q=>t σ H fun vs H1=>∀ x dx,H1 x=none->H1 dx=none->dx≠x ->
 sp (.ref x::(vs++dvs)) (upd (upd H1 dx (.own x)) x (.ins C dx [])) (fun v H2=>v=.non/\Q (.ref x) H2) E
def Binds (K:Frag) (fd:FuncData) (ps:List Str) (ds:List Value):Prop :=
 ∀ (s:Shared) (us:List Value),K.In s.heap->(us++ds).length=ps.length->BindsTo s fd ⟨us,[]⟩ (ps.zip (us++ds))
def Binds.all {K:Frag} {fd:FuncData} {ps:List Str} (h:∀ us:List Value,us.length=ps.length->bindArgs fd ⟨us,[]⟩=pure (ps.zip us)):Binds K fd ps []:=fun s us _ hl=>by
 rw [List.append_nil] at hl ⊢;exact .of_eq (h us hl)
def kJ (CX:CXT) (X:Cx) (E:XK):Prop:=∀ (pins:List (Addr×Obj)) (σ:St) (H:Hp) (s:Shared) (e:Value) (s':Shared),Inv X pins σ H s->CX X.stack H s E e s'->X.xe e s'
section
variable {X:Cx} {CX:CXT} {k:Nat} {f C:Addr} {fd:FuncData} {ps:List Str} {sp:Sp} {dvs:List V} {ds:List Value} {E:XK} {x m:Str} {p pos apos:Pos} {e o:Expr} {es:List Expr} {ta:TE} {t:TA}
def aL7 {pins:List (Addr×Obj)} {σ:St} {H:Hp} {s:Shared} {Q:VK} {us:List Value} {vs:List V} (F:FnOk X.prog X.w X.K X.mg X.base CX k f fd ps sp) (hr:Room k X.A) (hb:Binds X.K fd ps ds) (hd:Vals dvs ds) (hx:kJ CX X E)
  (I:Inv X pins σ H s) (r:Vals vs us) (h:sp (vs++dvs) H Q E):wpAny (model X.prog X.w) X.A (call (.ref f) us) (EP X pins σ Q) X.xe s:=by
 have r2:Vals (vs++dvs) (us++ds):=r.append hd;have hl:(us++ds).length=ps.length:=by rw [<- r2.length];exact F.len _ _ _ _ h
 refine wpAny_call (codeAny_mono (F.run X.A X.stack s H ⟨us,[]⟩ (us++ds) (vs++dvs) Q E hr I.env0 (hb s us I.kIn hl) r2 h) fun r s' hq=>?_);cases r with
 | error e=>exact hx pins σ H s e s' I hq
 | ok fl =>
  cases fl with
  | ret u=>exact I.after hq
  | next=>exact False.elim hq
  | brk=>exact False.elim hq
  | cont=>exact False.elim hq
def yT (F:FnOk X.prog X.w X.K X.mg X.base CX k f fd ps sp) (hr:Room k X.A) (hg:Gl X x) (hm:X.mg x=some (.ref f)) (hk:PySem.W.keepIn X.K (.ref f)=true) (hb:Binds X.K fd ps ds) (hd:Vals dvs ds) (hx:kJ CX X E)
  (ha:PA X (e::es) t) (hdb:autoParam ((x==("__debug__":Str))=false) ZD) (he:autoParam (starEach (e::es) X.env=(false,eval e X.env)::starEach es X.env) ZR) (hpl:autoParam ((backTo pos (starEach es X.env)).any (·.1)=false) ZR) :
  PE X (.Call (.Name x p) (e::es) [] pos) (aL6 sp dvs E t):=by
 intro pins s σ H Q I h;refine wpAny_Call_Name_kw (iM I hg hm ?_ hdb);refine PySem.W.callWith_K (h₀:=X.base) I.ok.mod.kin hk (thn (ha pos pins s σ H _ I h) fun us s1 ⟨vs,H1,I1,r,q⟩=>⟨I1.kIn,?_⟩) he hpl;exact aL7 F hr hb hd hx I1 r q
structure Mk (K:Frag) (C f:Addr):Prop where
 makes:PySem.W.makesIn K C=true
 init:PySem.W.findIn K (.ref C) "__init__"=some (some (.ref f))
 fn:PySem.W.isFn K (.ref f)=true
 kp:PySem.W.keepIn K (.ref C)=true
def aL8 {pins:List (Addr×Obj)} {σ:St} {H:Hp} {s:Shared} {Q:VK} {us:List Value} {vs:List V} (M:Mk X.K C f) (F:FnOk X.prog X.w X.K X.mg X.base CX k f fd ps sp) (hr:Room (k+1) X.A) (hb:Binds X.K fd ps ds) (hd:Vals dvs ds)
  (hx:kJ CX X E) (I:Inv X pins σ H s) (r:Vals vs us)
  (h:∀ x dx,H x=none->H dx=none->dx≠x->sp (.ref x::(vs++dvs)) (upd (upd H dx (.own x)) x (.ins C dx [])) (fun v H2=>v=.non/\Q (.ref x) H2) E) :
  wpAny (model X.prog X.w) X.A (call (.ref C) us) (EP X pins σ Q) X.xe s:=by
 have hq:=h (s.heap.objs.size+1) s.heap.objs.size (I.hok.fresh (Nat.le_succ _)) (I.hok.fresh (Nat.le_refl _)) (Nat.ne_of_lt (Nat.lt_succ_self _));have I2:=Inv.made (C:=C) I;have r2:Vals (V.ref (s.heap.objs.size+1)::(vs++dvs)) (Value.ref (s.heap.objs.size+1)::(us++ds)):=.cons rfl (r.append hd);have hl:(Value.ref (s.heap.objs.size+1)::us++ds).length=ps.length:=by
  have e:=r2.length;rw [F.len _ _ _ _ hq] at e;exact e.symm
 refine wpAny_call (aL4 (f:=f) I.kIn M.makes M.init (beq_iff_eq.mp M.fn) (codeAny_mono (F.run _ X.stack _ _ ⟨Value.ref (s.heap.objs.size+1)::us,[]⟩ (Value.ref (s.heap.objs.size+1)::(us++ds)) _ _ E (hr.make C us [])
  (I2.env0.make C us []) (hb _ (Value.ref (s.heap.objs.size+1)::us) I2.kIn hl) r2 hq) fun r s' hq'=>?_))
 cases r with
 | error e=>exact hx pins σ _ _ e s' I2 hq'
 | ok fl =>
  cases fl with
  | ret u =>
   obtain ⟨v,H',I3,rv,ev,q3⟩:=I2.after hq';subst ev;exact ⟨rv,⟨V.ref (s.heap.objs.size+1),H',I3,rfl,q3⟩⟩
  | next=>exact False.elim hq'
  | brk=>exact False.elim hq'
  | cont=>exact False.elim hq'
def bC7 (M:Mk X.K C f) (F:FnOk X.prog X.w X.K X.mg X.base CX k f fd ps sp) (hr:Room (k+1) X.A) (hg:Gl X x) (hm:X.mg x=some (.ref C)) (hb:Binds X.K fd ps ds) (hd:Vals dvs ds) (hx:kJ CX X E)
  (ha:PA X (e::es) t) (hdb:autoParam ((x==("__debug__":Str))=false) ZD) (he:autoParam (starEach (e::es) X.env=(false,eval e X.env)::starEach es X.env) ZR) (hpl:autoParam ((backTo pos (starEach es X.env)).any (·.1)=false) ZR) :
  PE X (.Call (.Name x p) (e::es) [] pos) (bP2 C sp dvs E t):=by
 intro pins s σ H Q I h;refine wpAny_Call_Name_kw (iM I hg hm ?_ hdb);refine PySem.W.callWith_K (h₀:=X.base) I.ok.mod.kin M.kp (thn (ha pos pins s σ H _ I h) fun us s1 ⟨vs,H1,I1,r,q⟩=>⟨I1.kIn,?_⟩) he hpl;exact aL8 M F hr hb hd hx I1 r q
end
section
variable {X:Cx} {CX:CXT} {k:Nat} {f C:Addr} {fd:FuncData} {ps ks:List Str} {sp:Sp} {E:XK} {x m:Str} {p pos apos kpos:Pos} {e o:Expr} {es:List Expr} {kws:List Keyword} {te ta:TE} {t tk:TA} {nm:Option Str}
variable {g:List Value->List Value->List Value} {gV:List V->List V->List V}
end
structure FnScope (N P:List Str) (sc:Scope):Prop where
 kind:sc.kind=.function
 co:sc.isCoroutine=false
 gen:sc.isGenerator=false
 nd:N.Nodup
 pre:N.take P.length=P
 par:∀ x∈P,sc.names.lookup x=some .local\/sc.names.lookup x=some .cell
 nofree:∀ y∈sc.names,y.2≠.free
theorem pG {kindOf:Str->Option NameKind} {x:Str}:∀ {binds:List (Str×Value)} {m:Str->Option Value},(∀ v,(x,v)∉binds)->bindL kindOf binds m x=m x
 | [],_,_=>rfl
 | (n,v)::r,m,h=>by
  unfold bindL;rw [pG fun w hw=>h w (List.mem_cons_of_mem _ hw)];split
  ·have:x≠n:=by rintro rfl;exact h v List.mem_cons_self
   simp [this]
  ·rfl
theorem pH {kindOf:Str->Option NameKind} {x:Str}:∀ {binds:List (Str×Value)} {m:Str->Option Value},(∀ v,(x,v)∉binds)->bindC kindOf binds m x=m x
 | [],_,_=>rfl
 | (n,v)::r,m,h=>by
  unfold bindC;rw [pH fun w hw=>h w (List.mem_cons_of_mem _ hw)];split
  ·rfl
  ·have:x≠n:=by rintro rfl;exact h v List.mem_cons_self
   simp [this]
theorem pI {kindOf:Str->Option NameKind} {x:Str} {v:Value}:∀ {P:List Str} {vs:List Value} {i:Nat} {m:Str->Option Value},P.Nodup->P[i]?=some x->vs[i]?=some v->kindOf x=some .local ->
  bindL kindOf (P.zip vs) m x=some v
 | [],_,_,_,_,h,_,_=>by simp at h
 | _::_,[],_,_,_,_,h,_=>by simp at h
 | p::P,w::vs,0,m,nd,h1,h2,hk=>by
  simp at h1 h2;subst h1;subst h2;show bindL kindOf ((p,w)::P.zip vs) m p=_;unfold bindL;rw [pG fun v hv=>(List.nodup_cons.mp nd).1 (List.of_mem_zip hv).1,if_pos hk];simp
 | p::P,w::vs,i+1,m,nd,h1,h2,hk=>by
  show bindL kindOf ((p,w)::P.zip vs) m x=_;unfold bindL;exact pI (i:=i) (List.nodup_cons.mp nd).2 (by simpa using h1) (by simpa using h2) hk
theorem pJ {kindOf:Str->Option NameKind} {x:Str} {v:Value}:∀ {P:List Str} {vs:List Value} {i:Nat} {m:Str->Option Value},P.Nodup->P[i]?=some x->vs[i]?=some v->kindOf x≠some .local ->
  bindC kindOf (P.zip vs) m x=some v
 | [],_,_,_,_,h,_,_=>by simp at h
 | _::_,[],_,_,_,_,h,_=>by simp at h
 | p::P,w::vs,0,m,nd,h1,h2,hk=>by
  simp at h1 h2;subst h1;subst h2;show bindC kindOf ((p,w)::P.zip vs) m p=_;unfold bindC;rw [pH fun v hv=>(List.nodup_cons.mp nd).1 (List.of_mem_zip hv).1,if_neg hk];simp
 | p::P,w::vs,i+1,m,nd,h1,h2,hk=>by
  show bindC kindOf ((p,w)::P.zip vs) m x=_;unfold bindC;exact pJ (i:=i) (List.nodup_cons.mp nd).2 (by simpa using h1) (by simpa using h2) hk
noncomputable def start (N:List Str) (vs:List V):St:=vs.map some++List.replicate (N.length - vs.length) none
noncomputable def nC (CX:CXT) (P:Program) (w:World) (K:Frag) (mg:Str->Option Value) (base:Heap) (N:List Str) (qual:Str) (scope:Scope) (f:Addr) (cd:Value) (A:Around) (outer:List Env) (s:Shared) (H:Hp) (E:XK):Cx where
 prog:=P
 w:=w
 K:=K
 mg:=mg
 base:=base
 A:=A.deeper (envOfC qual scope s.heap.objs.size f cd)
 N:=N
 s₀:=s
 H₀:=H
 env:=envOfC qual scope s.heap.objs.size f cd
 outer:=outer
 stack:=envOfC qual scope s.heap.objs.size f cd::outer
 ex:=[]
 calm:=true
 fn:=fun _=>true
 pn:=[]
 xe:=fun e s'=>wpAny (model P w) (A.deeper (envOfC qual scope s.heap.objs.size f cd)) (leaving (envOfC qual scope s.heap.objs.size f cd) e) (fun _ s''=>CX outer H s E e s'') (fun e' s''=>CX outer H s E e' s'') s'
def tU {sc:Scope} {n:Nat} {x:Str} (h:sc.names.lookup x=some .cell):∃ c,(cellsFrom n sc.names []).lookup x=some c:=by
 have q:=PySem.W.cellsFrom_some sc.names n [] (.inl h);exact Option.isSome_iff_exists.mp q
def aC6 {CX:CXT} {P:Program} {w:World} {K:Frag} {mg:Str->Option Value} {base:Heap} {N ps:List Str} {qual:Str} {scope:Scope} {f:Addr} {cd:Value} {A:Around} {outer:List Env} {s s1:Shared} {H:Hp} {E:XK} {us:List Value} {vs:List V}
  (S:FnScope N ps scope) (hd:A.handled=none) (e0:Env0 P w K mg base A outer s H) (hl:vs.length=ps.length) (r:Vals vs us)
  (x:InCallC s s.heap.objs.size (bindL (envOfC qual scope s.heap.objs.size f cd).kindOf (ps.zip us) fun _=>none) (cellsFrom (s.heap.objs.size+1) scope.names []) (bindC (envOfC qual scope s.heap.objs.size f cd).kindOf (ps.zip us) fun _=>none) s1) :
  Inv (nC CX P w K mg base N qual scope f cd A outer s H E) [] (start N vs) H s1:=by
 have hpl:ps.length<=N.length:=by have:=congrArg List.length S.pre;rw [List.length_take] at this;omega
 obtain ⟨h1,tk,rfl,hk⟩:=x.done;have noA:∀ b:Addr,b∉(nC CX P w K mg base N qual scope f cd A outer s H E).ex:=fun b z=>absurd (show b∈([]:List Addr) from z) (by simp);refine ⟨⟨e0.mod,S.kind,rfl,rfl,Nat.le_refl _,fun y z c h1 h2=>?_,fun y hy=>?_,fun y c _ h=>?_,fun _=>hd,Around.frames_deeper e0.frames,.inr ⟨rfl,rfl⟩,fun b z=>absurd z (noA b),e0.bs,e0.bsz,fun b _ _=>noA b,fun b z=>absurd z (noA b),e0.funs,e0.frf⟩,
  rfl,e0.bare,Un.kept hk,⟨_,x.toInCall.ns,fun i y v h1 h2 h3=>?_⟩,fun y c h=>⟨_,x.cell y c h⟩,e0.hok.fresh (Nat.le_refl _),fun y c h=>?_,fun p hp=>absurd (show p∈([]:List (Addr×Obj)) from hp) (by simp),e0.hok.kept hk,?_⟩
 ·exact name_of_addr x.apart (PySem.mem_of_lookup h1) (PySem.mem_of_lookup h2)
 ·have hy:scope.names.lookup y=some .cell\/scope.names.lookup y=some .free:=hy;rcases hy with hy | hy
  ·exact tU hy
  ·exact absurd rfl (S.nofree _ (PySem.mem_of_lookup hy))
 ·exact Nat.le_of_lt (x.above y c (PySem.mem_of_lookup h))
 ·have hi:i < vs.length:=by
   unfold start at h2
   by_cases hi:i < vs.length
   ·exact hi
   ·rw [List.getElem?_append_right (by simpa using hi)] at h2;rw [List.getElem?_replicate] at h2;split at h2<;>cases h2
  have ha:vs[i]?=some v:=by
   unfold start at h2;rw [List.getElem?_append_left (by simpa using hi),List.getElem?_map] at h2;cases e:vs[i]? with
   | none=>rw [e] at h2;cases h2
   | some a=>rw [e] at h2;cases h2;rfl
  obtain ⟨u,hu,rv⟩:=r.get ha;have hp:ps[i]?=some y:=by
   rw [<- S.pre,List.getElem?_take_of_lt (by omega)];exact h1
  have ndP:ps.Nodup:=by rw [<- S.pre];exact S.nd.sublist (List.take_sublist _ _)
  refine ⟨u,rv,?_⟩;rcases S.par y (List.mem_of_getElem? hp) with k | k
  ·exact .inl ⟨k,pI ndP hp hu k⟩
  ·obtain ⟨c,e⟩:=tU (n:=s.heap.objs.size+1) k;refine .inr ⟨.inl k,c,e,?_⟩;have q:=x.cell y c e;rw [pJ ndP hp hu (by show scope.names.lookup y≠_;rw [k];decide)] at q;exact q
 ·exact e0.hok.fresh (Nat.le_of_lt (x.above y c (PySem.mem_of_lookup h)))
 ·unfold start;show _=N.length;rw [List.length_append,List.length_map,List.length_replicate];omega
def bP3 {CX:CXT} {P:Program} {w:World} {K:Frag} {mg:Str->Option Value} {base:Heap} {k:Nat} {f:Addr} {name qual:Str} {params:Arguments} {body:List Stmt} {scope:Scope} {dV kV doc pm cdv ct oc:Value} {an od:Option Addr}
  {osl:Array (Option Value)} {N ps:List Str} {sp:Sp} (lk:K.lookup f=some ⟨oc,od,.func (PySem.W.fnOf name qual params body scope dV kV doc pm an cdv ct),osl⟩) (hcd:PySem.W.codeIn K cdv qual=true) (S:FnScope N ps scope)
  (len:∀ vs H Q E,sp vs H Q E->vs.length=ps.length)
  (hbody:∀ (A:Around) (outer:List Env) (s:Shared) (H:Hp) (vs:List V) (Q:VK) (E:XK),Room k (A.deeper (envOfC qual scope s.heap.objs.size f cdv))->sp vs H Q E ->
   ∃ t,PSs (nC CX P w K mg base N qual scope f cdv A outer s H E) body t/\t { nx:=fun _ H'=>Q .non H',rt:=Q } (start N vs) H) :
  FnOk P w K mg base CX (k+1) f (PySem.W.fnOf name qual params body scope dV kV doc pm an cdv ct) ps sp:=by
 refine ⟨len,fun A outer s H args us vs Q E hr e0 hb r hsp=>?_⟩;have hl:=len _ _ _ _ hsp;have KX:K.In s.heap:=e0.mod.kin.keeps fun b o e=>(e0.bs b o e).1;have lim:s.heap.NoLimit:=e0.mod.nolimit.keeps fun b o e=>(e0.bs b o e).1;have hkind:∀ y∈ps.zip us,scope.names.lookup y.1=some .local\/(scope.names.lookup y.1=some .cell/\((cellsFrom (s.heap.objs.size+1) scope.names []).lookup y.1).isSome=true):=fun ⟨n,v⟩ hy=>by
  rcases S.par n (List.of_mem_zip hy).1 with q | q
  ·exact .inl q
  ·exact .inr ⟨q,PySem.W.cellsFrom_some _ _ _ (.inl q)⟩
 refine codeAny_call_function hr.depth (KX _ _ lk) rfl S.co S.gen rfl (PySem.W.codeRec_of KX hcd) (hb _ _ _ _ ?_);refine wpAny_newFunctionEnv_cells S.kind hkind fun env he s1 x=>?_;subst he;refine ⟨lim.keeps x.toInCall.keep,codeAny_func ?_⟩;obtain ⟨t,ht,hq⟩:=hbody A outer s H vs Q E (hr.deeper _) hsp;have I:Inv (nC CX P w K mg base N qual scope f cdv A outer s H E) [] (start N vs) H s1:=aC6 S hr.hd e0 hl r x;refine wpAny_mono (ht [] s1 (start N vs) H _ I hq) (fun fl s' hs=>?_) fun e s' hs=>hs;have fin:∀ {σ':St} {H':Hp} {v:V} {u:Value},Inv (nC CX P w K mg base N qual scope f cdv A outer s H E) [] σ' H' s'->RelV v u->Q v H'->CE outer P w H s Q u s' :=
  fun {σ' H' v u} J rv q=>⟨v,H',J.os,J.bare,J.base,J.hok,rv,q⟩
 cases fl with
 | ret u =>
  obtain ⟨v,σ',H',J,rv,q⟩:=hs;exact fin J rv q
 | next =>
  obtain ⟨σ',H',J,q⟩:=hs;exact fin (v:=V.non) (u:=Value.none) J rfl q
 | brk =>
  obtain ⟨_,_,_,q⟩:=hs;exact False.elim q
 | cont =>
  obtain ⟨_,_,_,q⟩:=hs;exact False.elim q
section
variable {X:Cx} {x:Str} {p pos:Pos} {e:Expr} {es:List Expr} {t:TA} {id T:String} {r:List V->Hp->VK->Prop}
def tCB (r:List V->Hp->VK->Prop) (t:TA):TE:=fun σ H Q=>t σ H fun vs H1=>r vs H1 Q
def jN (hc:cF X (.builtin id) r) (hg:Gl X x) (hm:X.mg x=none) (hv:bootBuiltins x=some (.builtin id)) (ha:PA X (e::es) t) (hn:autoParam (x≠"__name__") ZD) (hdb:autoParam ((x==("__debug__":Str))=false) ZD)
  (he:autoParam (starEach (e::es) X.env=(false,eval e X.env)::starEach es X.env) ZR) (hpl:autoParam ((backTo pos (starEach es X.env)).any (·.1)=false) ZR):PE X (.Call (.Name x p) (e::es) [] pos) (tCB r t):=by
 intro pins s σ H Q I h;refine wpAny_Call_Name_kw (eZ I hg hm hv ?_ hn hdb);exact PyProof.Rows.callWith_builtin1 (thn (ha pos pins s σ H _ I h) fun us s1 ⟨vs,H1,I1,r1,q1⟩=>hc pins s1 σ H1 vs us Q I1 r1 q1) he hpl
def pK (hc:cF X (.type T) r) (hg:Gl X x) (hm:X.mg x=none) (hv:bootBuiltins x=some (.type T)) (ha:PA X (e::es) t) (hn:autoParam (x≠"__name__") ZD) (hdb:autoParam ((x==("__debug__":Str))=false) ZD)
  (he:autoParam (starEach (e::es) X.env=(false,eval e X.env)::starEach es X.env) ZR) (hpl:autoParam ((backTo pos (starEach es X.env)).any (·.1)=false) ZR):PE X (.Call (.Name x p) (e::es) [] pos) (tCB r t):=by
 intro pins s σ H Q I h;refine wpAny_Call_Name_kw (eZ I hg hm hv ?_ hn hdb);exact PyProof.Rows.callWith_type1 (thn (ha pos pins s σ H _ I h) fun us s1 ⟨vs,H1,I1,r1,q1⟩=>hc pins s1 σ H1 vs us Q I1 r1 q1) he hpl
end
end L2
namespace HT
open PySem PyProof.Rows
section
open PySem.SeqAt
open PySem.AutoSeq1 (wpAny_loadPart')
open PySem.MeetsSeq PySem.MeetsSeq2 PySem.MeetsSeq3
end
section
variable {prog:Program} {w:World} {A:Around} {E:Value->Shared->Prop} {s:Shared}
def cat_tup {t b:Addr} {vs ws:List Value} {Q:Value->Shared->Prop} (ht:IsTup s.heap t vs.toArray) (hb:IsTup s.heap b ws.toArray) (hv:vs≠[])
  (h1:ws=[]->Q (.ref t) s) (h2:ws≠[]->Q (.ref s.heap.objs.size) { s with heap:=s.heap.push { cls:=.type "tuple",data:=.seq (vs++ws).toArray } })
  (hsz:vs.length+ws.length<=sizeLine):wpAny (model prog w) A (binaryOp .Add (.ref t) (.ref b)) Q E s:=by
 obtain ⟨⟨cls,dd,data,sl⟩,ho,hc,n,hd⟩:=id ht;obtain ⟨⟨cls2,dd2,data2,sl2⟩,ho2,hc2,n2,hd2⟩:=id hb;simp only at hc hd hc2 hd2;subst hc hd hc2 hd2;have e:vs.toArray++ws.toArray=(vs++ws).toArray:=by simp
 by_cases hw:ws=[]
 ·exact concat_meets ⟨_,ho,rfl⟩ ⟨_,ho2,rfl⟩ noFill_tuple_add seq_tuple_add PySem.F.slot_tuple_add PySem.F.entry_tuple_add (PySem.F.args_tuple_add_2 _ _)
   (tuple_addW1 t b vs.toArray ws.toArray n n2 dd dd2 sl sl2 (by simpa using hv) (by simp [hw])) ⟨ho,ho2,h1 hw⟩
 ·refine concat_meets ⟨_,ho,rfl⟩ ⟨_,ho2,rfl⟩ noFill_tuple_add seq_tuple_add PySem.F.slot_tuple_add PySem.F.entry_tuple_add (PySem.F.args_tuple_add_2 _ _)
   (tuple_addW2 t b vs.toArray ws.toArray n n2 dd dd2 sl sl2 (by simpa using hv) (by simpa using hw) (by rw [List.size_toArray,List.size_toArray];exact hsz)) ⟨ho,ho2,?_⟩
  rw [e];exact h2 hw
noncomputable def sIx (n d:Nat):Option Int->Nat
 | none=>d
 | some v=>if v < 0 then (v+(n:Int)).toNat else min v.toNat n
def bZ5 (n d:Nat) (hd:d<=n) (o:Option Int):sIx n d o<=n:=by
 cases o with
 | none=>exact hd
 | some v =>
  show (if v < 0 then (v+(n:Int)).toNat else min v.toNat n)<=n
  by_cases hv:v < 0
  ·rw [if_pos hv];omega
  ·rw [if_neg hv];exact Nat.min_le_right _ _
def yU (v:Int) (n d:Nat):(if v < 0 then max (v+(n:Int)) 0 else min v (n:Int))=((sIx n d (some v):Nat):Int):=by
 show (if v < 0 then max (v+(n:Int)) 0 else min v (n:Int))=(((if v < 0 then (v+(n:Int)).toNat else min v.toNat n):Nat):Int)
 by_cases hv:v < 0
 ·simp only [if_pos hv];omega
 ·simp only [if_neg hv];omega
def wX (lo hi:Option Int) (n:Nat):Builtin.Slice.sliceAdjust lo hi 1 (n:Int)=(((sIx n 0 lo:Nat):Int),((sIx n n hi:Nat):Int)):=by
 have h1:¬ ((1:Int) < 0):=by omega
 unfold Builtin.Slice.sliceAdjust;simp only [h1,if_false];refine Prod.ext ?_ ?_
 ·cases lo with
  | none=>rfl
  | some v=>exact yU v n 0
 ·cases hi with
  | none=>rfl
  | some v=>exact yU v n n
def wY (i j:Nat):Builtin.Slice.slicePlaces (i:Int) (j:Int) 1=j - i:=by
 unfold Builtin.Slice.slicePlaces;have h1:(1:Int) > 0:=by omega
 simp only [h1,if_true,Int.ediv_one];split<;>omega
def nD {v:Value} {o:Option Int} {Q:Option Int->Shared->Prop} (p:IsPart v o) (h:Q o s):wpAny (model prog w) A (Builtin.Slice.slicePartIndex v) Q E s:=by
 cases p with
 | none=>exact slicePart_none h
 | int i t=>exact slicePart_int h
def sliceApplied_gen {sl:Addr} {vl vu:Value} {lo hi:Option Int} {n:Nat} {Q:Int×Int×Nat->Shared->Prop} (hs:s.heap.IsSliceOf sl vl vu .none) (pl:IsPart vl lo) (pu:IsPart vu hi)
  (h:Q (((sIx n 0 lo:Nat):Int),1,sIx n n hi - sIx n 0 lo) s):wpAny (model prog w) A (Builtin.Slice.sliceApplied (.ref sl) (pure (n:Int))) Q E s:=by
 obtain ⟨os,hos,hcs,hds⟩:=id hs;unfold Builtin.Slice.sliceApplied Builtin.Slice.sliceFields;refine wpAny_bind (wpAny_bind (wpAny_field hos hds (x:=vl) rfl (wpAny_bind (wpAny_field hos hds (x:=vu) rfl (wpAny_bind (wpAny_field hos hds (x:=.none) rfl (wpAny_pure ?_)))))));refine wpAny_bind (slicePart_none ?_);show wpAny _ _ (if ((1:Int)==0)=true then _ else _) _ _ s;rw [if_neg (by decide)];refine wpAny_bind (nD pl (wpAny_bind (nD pu (wpAny_bind (wpAny_pure ?_)))));show wpAny _ _ (match Builtin.Slice.sliceAdjust lo hi 1 (n:Int) with | (lo,hi)=>pure (lo,(1:Int),Builtin.Slice.slicePlaces lo hi 1)) _ _ s;rw [wX lo hi n];show wpAny _ _ (pure (((sIx n 0 lo:Nat):Int),(1:Int),Builtin.Slice.slicePlaces ((sIx n 0 lo:Nat):Int) ((sIx n n hi:Nat):Int) 1)) _ _ s;rw [wY];exact wpAny_pure h
def aL9 (xs:Array Value) (i k:Nat):((List.range k).filterMap fun (m:Nat)=>xs[((i:Int)+(m:Int)*1).toNat]?).toArray=((xs.toList.drop i).take k).toArray:=by
 have e:(fun (m:Nat)=>xs[((i:Int)+(m:Int)*1).toNat]?)=fun m=>xs[i+m]?:=by
  funext m
  have:((i:Int)+(m:Int)*1).toNat=i+m:=by omega
  rw [this]
 rw [e];have:=pick_run xs i k;rw [List.filterMap_map] at this;have e2:((fun x=>xs[x]?) ∘ fun x=>i+x)=fun m=>xs[i+m]?:=rfl;rw [e2] at this;rw [this]
def getItem_tuple_cut {t sl:Addr} {items:Array Value} {vl vu:Value} {lo hi:Option Int} {Q:Value->Shared->Prop} (ht:IsTup s.heap t items) (hs:s.heap.IsSliceOf sl vl vu .none) (pl:IsPart vl lo) (pu:IsPart vu hi)
  (hw:¬ (sIx items.size 0 lo=0/\sIx items.size items.size hi=items.size))
  (h:Q (.ref s.heap.objs.size) { s with heap:=s.heap.push { cls:=.type "tuple",data:=.seq ((items.toList.drop (sIx items.size 0 lo)).take (sIx items.size items.size hi - sIx items.size 0 lo)).toArray } })
  (hsz:items.size<=sizeLine):wpAny (model prog w) A (getItem (.ref t) (.ref sl)) Q E s:=by
 have htake:sizeOk (.seq ((items.toList.drop (sIx items.size 0 lo)).take (sIx items.size items.size hi - sIx items.size 0 lo)).toArray):=by
  show ((items.toList.drop (sIx items.size 0 lo)).take (sIx items.size items.size hi - sIx items.size 0 lo)).toArray.size<=sizeLine;rw [List.size_toArray,List.length_take,List.length_drop,Array.length_toList];omega
 have hj:sIx items.size items.size hi<=items.size:=bZ5 _ _ (Nat.le_refl _) hi;obtain ⟨os,hos,hcs,hds⟩:=id hs;have hTs:s.TypeIs (.ref sl) "slice":=⟨os,hos,hcs⟩;unfold getItem;try with_reducible refine wpAny_holding ?_
 first | refine wpAny_bind (wpAny_pure ?_) | skip
 refine wpAny_bind (wpAny_sequenceKey ht.typeIs (by decide) ?_);refine wpAny_bind (wpAny_callSpecial?_slot (name:=Str.ofString "__getitem__") ht.typeIs PyProof.Rows.slot_tuple_getitem
  (wpAny_call_entry PyProof.Rows.slot_tuple_getitem ht.typeIs entry_tuple_getitem ?_ (args_tuple_getitem _ _)))
 show wpAny _ _ (Builtin.Tuple.tupleItemsOf (.ref t) >>= _) _ _ s;refine wpAny_bind (tupleItemsOf_ ht ?_);refine wpAny_bind (wpAny_typeOf hTs ?_);rw [if_pos (by decide)];refine wpAny_bind (sliceApplied_gen hs pl pu ?_);have hno:¬ ((((sIx items.size 0 lo:Nat):Int)==0&&(1:Int)==1&&(sIx items.size items.size hi - sIx items.size 0 lo)==items.size)=true):=by
  intro q;rw [Bool.and_eq_true,Bool.and_eq_true] at q;have q1:((sIx items.size 0 lo:Nat):Int)=0:=eq_of_beq q.1.1;have q2:sIx items.size items.size hi - sIx items.size 0 lo=items.size:=eq_of_beq q.2;exact hw ⟨by omega,by omega⟩
 show wpAny _ _ (if (((sIx items.size 0 lo:Nat):Int)==0&&(1:Int)==1&&(sIx items.size items.size hi - sIx items.size 0 lo)==items.size)=true then _ else _) _ _ s;rw [if_neg hno,aL9]
 first
  | exact wpAny_bind (m:=Builtin.Tuple.tupleExact _) (wpAny_newObj_type (wpAny_pure ⟨_,rfl,wpAny_pure h⟩) htake)
  | exact wpAny_bind (m:=Builtin.Tuple.tupleExact _) (wpAny_newObj_type (wpAny_bind (wpAny_pure (wpAny_pure ⟨_,rfl,wpAny_pure h⟩))) htake)
  | exact wpAny_bind (wpAny_bind (m:=Builtin.Tuple.tupleExact _) (wpAny_newObj_type (wpAny_pure (wpAny_pure ⟨_,rfl,wpAny_pure h⟩)) htake))
  | exact wpAny_bind (wpAny_bind (m:=Builtin.Tuple.tupleExact _) (wpAny_newObj_type (wpAny_pure ⟨_,rfl,wpAny_pure h⟩) htake))
end
end HT
namespace L2
open PySem PySem.Spec PyProof.Rows
abbrev TO:=St->Hp->(Option Int->Hp->Prop)->Prop
def PO (X:Cx) (e:Option Expr) (t:TO):Prop :=
 ∀ (pins:List (Addr×Obj)) (s:Shared) (σ:St) (H:Hp) (Q:Option Int->Hp->Prop),Inv X pins σ H s->t σ H Q ->
  wpAny (model X.prog X.w) X.A (evalPart e X.env) (fun u s'=>∃ o H',Inv X pins σ H' s'/\IsPart u o/\Q o H') X.xe s
noncomputable def bC8:TO:=fun _ H Q=>Q none H
noncomputable def cT0 (t:TE):TO:=fun σ H Q=>t σ H fun x H1=>∃ i,x=.int i/\Q (some i) H1
section
variable {X:Cx} {e:Expr} {te:TE} {lo hi:Option Expr} {tl th:TO} {pos p2:Pos}
def bC9:PO X none bC8:=by
 intro pins s σ H Q I h;rw [evalPart_none];exact wpAny_pure ⟨none,H,I,.none,h⟩
def bD0 (h:PE X e te):PO X (some e) (cT0 te):=by
 intro pins s σ H Q I hw;rw [evalPart_some];refine thn (h pins s σ H _ I hw) fun u s1 ⟨x,H1,I1,r1,q1⟩=>?_;obtain ⟨i,rfl,q⟩:=q1;obtain ⟨t,rfl⟩:=r1;exact ⟨some i,H1,I1,.int i t,q⟩
def SlR (X:Cx) (r:V->Option Int->Option Int->Hp->VK->Prop):Prop :=
 ∀ (pins:List (Addr×Obj)) (s:Shared) (σ:St) (H:Hp) (x:V) (v vl vu:Value) (lo hi:Option Int) (sl:Addr) (Q:VK),Inv X pins σ H s->RelV x v->s.heap.IsSliceOf sl vl vu .none->IsPart vl lo->IsPart vu hi->r x lo hi H Q ->
  ∃ T id,typeLookup (.type T) "__getitem__"=pure (some (.builtin id))/\s.TypeIs v T/\wpAny (model X.prog X.w) X.A (getItem v (.ref sl)) (EP X pins σ Q) X.xe s
def SlR.or {r r':V->Option Int->Option Int->Hp->VK->Prop} (h:SlR X r) (h':SlR X r'):SlR X (fun x lo hi H Q=>r x lo hi H Q\/r' x lo hi H Q):=by
 intro pins s σ H x v vl vu lo hi sl Q I rx hs pl pu q;rcases q with q | q
 ·exact h pins s σ H x v vl vu lo hi sl Q I rx hs pl pu q
 ·exact h' pins s σ H x v vl vu lo hi sl Q I rx hs pl pu q
def tSl (r:V->Option Int->Option Int->Hp->VK->Prop) (te:TE) (tl th:TO):TE:=fun σ H Q=>te σ H fun x H1=>tl σ H1 fun l H2=>th σ H2 fun u H3=>r x l u H3 Q
def tV {r:V->Option Int->Option Int->Hp->VK->Prop} (hr:SlR X r) (he:PE X e te) (hl:PO X lo tl) (hu:PO X hi th):PE X (.Subscript e (.Slice lo hi none p2) pos) (tSl r te tl th):=by
 intro pins s σ H Q I h;refine Subscript_ (thn (he pins s σ H _ I h) fun v s1 ⟨x,H1,I1,r1,q1⟩=>?_);refine wpAny_Slice (thn (hl pins s1 σ H1 _ I1 q1) fun vl s2 ⟨l,H2,I2,pl,q2⟩=>thn (hu pins s2 σ H2 _ I2 q2) fun vu s3 ⟨u,H3,I3,pu,q3⟩=>?_);rw [evalPart_none];refine wpAny_pure ?_;have I4:Inv X pins σ H3 { s3 with heap:=s3.heap.push { cls:=.type "slice",data:=.fields #[vl,vu,.none] } }:=I3.kept (t':=s3.toks) fun b ob q=>Heap.get?_push_of_some _ q;obtain ⟨T,id,hT,ht,hg⟩:=hr pins { s3 with heap:=s3.heap.push { cls:=.type "slice",data:=.fields #[vl,vu,.none] } } σ H3 x v vl vu l u s3.heap.objs.size Q I4 r1 (Heap.IsSliceOf.new ..) pl pu q3;show wpAny (model X.prog X.w) X.A (subscriptTail e (.Slice lo hi none p2) v (.ref s3.heap.objs.size)) (EP X pins σ Q) X.xe { s3 with heap:=s3.heap.push { cls:=.type "slice",data:=.fields #[vl,vu,.none] } };exact tail_any (ops:=[.ref s3.heap.objs.size,v]) ht hT hg (by with_unfolding_all rfl)
noncomputable def tW (xs:List V) (lo hi:Option Int):List V:=(xs.drop (HT.sIx xs.length 0 lo)).take (HT.sIx xs.length xs.length hi - HT.sIx xs.length 0 lo)
def lL (xs:List V) (lo hi:Option Int):(tW xs lo hi).length<=xs.length:=by
 unfold tW;rw [List.length_take,List.length_drop];omega
noncomputable def dL2 (K:Frag):V->Option Int->Option Int->Hp->VK->Prop:=fun x lo hi H Q=>∃ a xs,x=.ref a/\SqT K H a xs /\
 ¬ (HT.sIx xs.length 0 lo=0/\HT.sIx xs.length xs.length hi=xs.length)/\∀ p,H p=none->Q (.ref p) (upd H p (.tup (tW xs lo hi)))
def sl_tup:SlR X (dL2 X.K):=by
 intro pins s σ H x v vl vu lo hi sl Q I rx hs pl pu h;obtain ⟨a,xs,rfl,hx,hw,q⟩:=h;cases rx;obtain ⟨its,r,ht,hz⟩:=I.tuple hx;have hlen:its.toArray.size=xs.length:=by rw [List.size_toArray];exact r.length.symm
 refine ⟨"tuple",_,PyProof.Rows.slot_tuple_getitem.lookup,ht.typeIs,?_⟩;refine HT.getItem_tuple_cut ht hs pl pu (by rw [hlen];exact hw) ?_ (by rw [hlen];exact hz);rw [hlen];refine ⟨.ref s.heap.objs.size,_,I.laid (t':=s.toks) (o:=.tup (tW xs lo hi)) (fun b ob q=>Heap.get?_push_of_some _ q) (Nat.le_refl _) ?_,rfl,q _ (I.hok.fresh (Nat.le_refl _))⟩;exact ⟨Nat.le_trans (lL xs lo hi) hz,_,(r.drop (HT.sIx xs.length 0 lo)).take (HT.sIx xs.length xs.length hi - HT.sIx xs.length 0 lo),IsTupD.new _ _⟩
noncomputable def cT1 (K:Frag):R2:=fun x y H Q=>∃ a b xs ys,x=.ref a/\y=.ref b/\SqT K H a xs/\SqT K H b ys/\xs≠[]/\xs.length+ys.length<=sizeLine /\
 (ys=[]->Q (.ref a) H)/\(ys≠[]->∀ p,H p=none->Q (.ref p) (upd H p (.tup (xs++ys))))
def Vals.nil_iff {xs:List V} {us:List Value} (r:Vals xs us):us=[] ↔ xs=[]:=by
 cases r with
 | nil=>simp
 | cons _ _=>simp
def bD1:OpR X (binaryOp .Add) (cT1 X.K):=by
 intro pins s σ H x y v u Q I rx ry h;obtain ⟨a,b,xs,ys,rfl,rfl,ha,hb,hx,hz,q1,q2⟩:=h;cases rx;cases ry;obtain ⟨its,r1,p1,_⟩:=I.tuple ha;obtain ⟨its2,r2,p2,_⟩:=I.tuple hb;refine HT.cat_tup p1 p2 (fun z=>hx (r1.nil_iff.mp z)) (fun z=>⟨.ref a,H,I,rfl,q1 (r2.nil_iff.mp z)⟩) (fun z=>?_) (by rw [<- r1.length,<- r2.length];exact hz);refine ⟨.ref s.heap.objs.size,_,I.laid (t':=s.toks) (o:=.tup (xs++ys)) (fun b ob q=>Heap.get?_push_of_some _ q) (Nat.le_refl _) ?_,rfl,q2 (fun w=>z (r2.nil_iff.mpr w)) _ (I.hok.fresh (Nat.le_refl _))⟩;exact ⟨by rw [List.length_append];exact hz,_,r1.append r2,IsTupD.new _ _⟩
end
noncomputable def ixN (n:Nat) (i:Int):Option Nat:=if 0<=i then (if i < n then some i.toNat else none) else if -(n:Int)<=i then some (i+n).toNat else none
noncomputable def atI {α:Type} (xs:List α) (i:Int):Option α:=(ixN xs.length i).bind fun j=>xs[j]?
def rK {n:Nat} {i:Int} {j:Nat} (h:ixN n i=some j):seqIndex? i n=some j/\j < n/\-(n:Int)<=i/\i < n:=by
 unfold ixN at h
 by_cases h0:0<=i
 ·rw [if_pos h0] at h
  by_cases h1:i < n
  ·rw [if_pos h1] at h;have e:i.toNat=j:=Option.some.inj h;exact ⟨by rw [seqIndex_of h0 h1,e],by omega,by omega,h1⟩
  ·rw [if_neg h1] at h;cases h
 ·rw [if_neg h0] at h
  by_cases h1:-(n:Int)<=i
  ·rw [if_pos h1] at h;have e:(i+n).toNat=j:=Option.some.inj h;exact ⟨by rw [seqIndex_neg (by omega) h1,e],by omega,h1,by omega⟩
  ·rw [if_neg h1] at h;cases h
def yV {α:Type} {xs:List α} {i:Int} {v:α} (h:atI xs i=some v):∃ j,seqIndex? i xs.length=some j/\xs[j]?=some v/\j < xs.length/\-(xs.length:Int)<=i/\i < xs.length:=by
 unfold atI at h;cases e:ixN xs.length i with
 | none=>rw [e] at h;cases h
 | some j =>
  rw [e] at h;obtain ⟨h1,h2,h3,h4⟩:=rK e;exact ⟨j,h1,h,h2,h3,h4⟩
def iN {α:Type} {xs:List α} {j:Nat} {v:α} (h:xs[j]?=some v):atI xs (j:Int)=some v:=by
 have hj:j < xs.length:=(List.getElem?_eq_some_iff.mp h).1;have e:ixN xs.length (j:Int)=some j:=by
  unfold ixN;rw [if_pos (by omega),if_pos (by omega)];simp
 unfold atI;rw [e];exact h
def jO (b:Expr):Prop:=∀ o i,subscripted b false o i=operate [o,i] (getItem o i)
def IxR (X:Cx) (r:R2):Prop :=
 ∀ (value slice:Expr) (pins:List (Addr×Obj)) (s:Shared) (σ:St) (H:Hp) (x y:V) (v u:Value) (Q:VK),Inv X pins σ H s->RelV x v->RelV y u->r x y H Q ->
  subscripted slice false v u=operate [v,u] (getItem v u)->wpAny (model X.prog X.w) X.A (subscriptTail value slice v u) (EP X pins σ Q) X.xe s
def MtR (X:Cx) (id:String) (r:V->List V->Hp->VK->Prop):Prop :=
 ∀ (pins:List (Addr×Obj)) (s:Shared) (σ:St) (H:Hp) (x:V) (xs:List V) (v:Value) (us:List Value) (Q:VK),Inv X pins σ H s->RelV x v->Vals xs us->r x xs H Q ->
  wpAny (model X.prog X.w) X.A (call (.builtin id) (v::us)) (EP X pins σ Q) X.xe s
section
variable {X:Cx} {a b:Expr} {ta tb:TE} {pos:Pos}
def aM0 {r:R2} (hr:IxR X r) (ha:PE X a ta) (hb:PE X b tb) (hs:jO b):PE X (.Subscript a b pos) (tOp r ta tb):=by
 intro pins s σ H Q I h;exact Subscript_ (bY1 ha hb I h fun v u s2 x y H2 I2 rx ry q=>hr a b pins s2 σ H2 x y v u Q I2 rx ry q (hs _ _))
noncomputable def dL3 (K:Frag):R2:=fun x y H Q=>∃ p xs i v,x=.ref p/\y=.int i/\SqL K H p xs/\atI xs i=some v/\Q v H
noncomputable def dL4 (K:Frag):R2:=fun x y H Q=>∃ p xs i v,x=.ref p/\y=.int i/\SqT K H p xs/\atI xs i=some v/\Q v H
def yW:IxR X (dL3 X.K):=by
 intro value slice pins s σ H x y v u Q I rx ry h hs;obtain ⟨p,xs,i,z,rfl,rfl,hq,he,q⟩:=h;cases rx;obtain ⟨t,rfl⟩:=ry;obtain ⟨its,r,pl,hz⟩:=I.list hq;obtain ⟨j,h1,h2,h3,h4,h5⟩:=yV he;obtain ⟨w,ew,rw'⟩:=r.get h2;have hl:=r.length;have hn:=rH;have fin:EP X pins σ Q w s:=⟨z,H,I,rw',q⟩
 by_cases h0:0<=i
 ·have hj:i.toNat=j:=by
   rw [seqIndex_of h0 h5] at h1;exact Option.some.inj h1
  exact item_listR pl.isList h0 (by omega) (by rw [hj];simpa using ew) fin hs
 ·have hj:(i+(its.toArray.size:Int)).toNat=j:=by
   rw [seqIndex_neg (by omega) h4] at h1;rw [List.size_toArray,<- hl];exact Option.some.inj h1
  exact subscriptTail_builtinR (x:=w) pl.isList.typeIs slot_list_getitem.lookup
   (wpAny_getItem_list_neg (Q:=fun r s'=>r=w/\EP X pins σ Q r s') pl.isList (by omega) (by rw [List.size_toArray]<;>omega) (by omega) (by rw [hj];simpa using ew) ⟨rfl,fin⟩) hs
def bZ6:IxR X (dL4 X.K):=by
 intro value slice pins s σ H x y v u Q I rx ry h hs;obtain ⟨p,xs,i,z,rfl,rfl,hq,he,q⟩:=h;cases rx;obtain ⟨t,rfl⟩:=ry;obtain ⟨its,r,pl,hz⟩:=I.tuple hq;obtain ⟨j,h1,h2,h3,h4,h5⟩:=yV he;obtain ⟨w,ew,rw'⟩:=r.get h2;have hl:=r.length;have hn:=rH;have fin:EP X pins σ Q w s:=⟨z,H,I,rw',q⟩;exact subscriptTail_builtinR (x:=w) pl.typeIs slot_tuple_getitem.lookup
  (getItem_tuple (j:=j) (Q:=fun r s'=>r=w/\EP X pins σ Q r s') pl (by omega) (by omega) (by rw [List.size_toArray,<- hl];exact h1) (by simpa using ew) ⟨rfl,fin⟩) hs
def wZ (its:List Value) (n j:Nat) (u:Value):Obj.mapSeq (·.setIfInBounds j u) { cls:=.type "list",data:=.seq its.toArray n }={ cls:=.type "list",data:=.seq (its.set j u).toArray n }:=by
 simp [Obj.mapSeq]
def Inv.lst {pins:List (Addr×Obj)} {σ:St} {H:Hp} {s:Shared} {p:Addr} {xs:List V} (I:Inv X pins σ H s) (h:H p=some (.lst xs)) :
  ∃ (its:List Value) (n:Nat),Vals xs its/\s.heap.get? p=some { cls:=.type "list",data:=.seq its.toArray n }/\xs.length<=sizeLine:=by
 obtain ⟨z,its,n,r,e⟩:=I.hok p _ h;exact ⟨its,n,r,e,z⟩
def Inv.lstUpd {pins:List (Addr×Obj)} {σ:St} {H:Hp} {s:Shared} {p:Addr} {xs ys:List V} {its its':List Value} {n n':Nat} {f:Obj->Obj} (I:Inv X pins σ H s) (h:H p=some (.lst xs))
  (ho:s.heap.get? p=some { cls:=.type "list",data:=.seq its.toArray n }) (hf:f { cls:=.type "list",data:=.seq its.toArray n }={ cls:=.type "list",data:=.seq its'.toArray n' }) (r:Vals ys its') (hz:ys.length<=sizeLine) (t:Nat) :
  Inv X pins σ (upd H p (.lst ys)) { s with heap:=s.heap.update p f,toks:=t }:=by
 have e:(s.heap.update p f).get? p=some { cls:=.type "list",data:=.seq its'.toArray n' }:=by
  rw [Heap.get?_update_self f ho (by rw [hf]<;>rfl),hf]
 refine I.write (x:=p) (e:=p) (by rw [h];trivial) (.inl rfl) (fun b u hb q=>(Heap.get?_update_other _ _ (Ne.symm hb)).trans q) ⟨_,e⟩ ?_;exact ⟨hz,its',n',r,e⟩
noncomputable def bP4:V->V->V->Hp->(Hp->Prop)->Prop:=fun o i v H Q=>∃ p xs k j,o=.ref p/\i=.int k/\H p=some (.lst xs)/\ixN xs.length k=some j/\Q (upd H p (.lst (xs.set j v)))
def aM1:bX5 X bP4:=by
 intro pins s σ H o i v ov iv u Q I ro ri rv h;obtain ⟨p,xs,k,j,rfl,rfl,hp,hj,q⟩:=h;cases ro;obtain ⟨t,rfl⟩:=ri;obtain ⟨its,n,r,ho,hz⟩:=I.lst hp;obtain ⟨h1,h2,h3,h4⟩:=rK hj;have hl:=r.length;have hn:=rH;have I':Inv X pins σ (upd H p (.lst (xs.set j v))) { s with heap:=s.heap.update p (Obj.mapSeq (·.setIfInBounds j u)) } :=
  I.lstUpd hp ho (wZ its n j u) (r.set rv j) (by rw [List.length_set];exact hz) s.toks
 by_cases h0:0<=k
 ·have hk:k.toNat=j:=by
   rw [seqIndex_of h0 h4] at h1;exact Option.some.inj h1
  exact PySem.W.ki_setAt ho h0 (by omega) (by rw [List.size_toArray,<- hl];exact h4) (by rw [hk];exact ⟨_,I',q⟩)
 ·have hk:(k+(its.toArray.size:Int)).toNat=j:=by
   rw [seqIndex_neg (by omega) h3] at h1;rw [List.size_toArray,<- hl];exact Option.some.inj h1
  exact PySem.W.ki_setBack ho (by omega) (by rw [List.size_toArray,<- hl];exact h3) (by omega) (by rw [hk];exact ⟨_,I',q⟩)
def rL (lo hi:Option Int) (n:Nat):(sliceBounds lo hi none n).1=((HT.sIx n 0 lo:Nat):Int)/\(sliceBounds lo hi none n).2.1=((HT.sIx n n hi:Nat):Int)/\(sliceBounds lo hi none n).2.2=1:=by
 refine ⟨?_,?_,rfl⟩
 ·cases lo with
  | none=>simp [sliceBounds,HT.sIx]
  | some i =>
   simp only [sliceBounds,HT.sIx,Option.getD_none,show (1:Int) > 0 by decide,if_true]
   by_cases h:i < 0
   ·simp only [h,if_true]<;>omega
   ·simp only [h,if_false]<;>omega
 ·cases hi with
  | none=>simp [sliceBounds,HT.sIx]
  | some i =>
   simp only [sliceBounds,HT.sIx,Option.getD_none,show (1:Int) > 0 by decide,if_true]
   by_cases h:i < 0
   ·simp only [h,if_true]<;>omega
   ·simp only [h,if_false]<;>omega
def oX (its:List Value) (lo hi:Option Int):slicePick its.toArray lo hi none=((its.drop (HT.sIx its.length 0 lo)).take (HT.sIx its.length its.length hi - HT.sIx its.length 0 lo)).toArray:=by
 obtain ⟨h1,h2,h3⟩:=rL lo hi its.toArray.size;unfold slicePick;rw [h1,h2,h3];simp only [sliceRange_one,pick_run,List.size_toArray]<;>rfl
noncomputable def dL5 (K:Frag):V->Option Int->Option Int->Hp->VK->Prop:=fun x lo hi H Q=>∃ a xs,x=.ref a/\SqL K H a xs/\∀ p,H p=none->Q (.ref p) (upd H p (.lst (tW xs lo hi)))
def bD2:SlR X (dL5 X.K):=by
 intro pins s σ H x v vl vu lo hi sl Q I rx hs pl pu h;obtain ⟨a,xs,rfl,hx,q⟩:=h;cases rx;obtain ⟨its,r,ht,hz⟩:=I.list hx;have hlen:=r.length;refine ⟨"list",_,slot_list_getitem.lookup,ht.isList.typeIs,?_⟩;refine wpAny_getItem_list_slice ht.isList hs pl pu .none (by simp) ?_ (by rw [List.size_toArray]<;>omega);rw [oX,<- hlen];refine ⟨.ref s.heap.objs.size,_,I.laid (t':=s.toks) (o:=.lst (tW xs lo hi)) (fun b ob q=>Heap.get?_push_of_some _ q) (Nat.le_refl _) ?_,rfl,q _ (I.hok.fresh (Nat.le_refl _))⟩;exact ⟨Nat.le_trans (lL xs lo hi) hz,_,0,(r.drop (HT.sIx xs.length 0 lo)).take (HT.sIx xs.length xs.length hi - HT.sIx xs.length 0 lo),Heap.get?_push_size _ rfl⟩
def jP:cF X (.builtin "len") (fun xs H Q=>∃ p ys,xs=[.ref p]/\(SqL X.K H p ys\/SqT X.K H p ys)/\Q (.int ys.length) H):=by
 intro pins s σ H xs us Q I r h;obtain ⟨p,ys,rfl,hq,q⟩:=h;obtain ⟨u,rfl,rx⟩:=iX r;cases rx;have hn:=rH;rcases hq with hq | hq
 ·obtain ⟨its,r',pl,hz⟩:=I.list hq;have hlen:=r'.length;exact Calls.call_len_list pl.isList (by simp only [List.size_toArray]<;>omega) ⟨.int ys.length,H,I.tok _,⟨s.toks+1,by rw [List.size_toArray,hlen]⟩,q⟩
 ·obtain ⟨its,r',pl,hz⟩:=I.tuple hq;have hlen:=r'.length;exact len_tuple pl (by simp only [List.size_toArray]<;>omega) ⟨.int ys.length,H,I.tok _,⟨s.toks+1,by rw [List.size_toArray,hlen]⟩,q⟩
def rM:cF X (.type "list") (fun xs H Q=>∃ p ys,xs=[.ref p]/\(SqL X.K H p ys\/SqT X.K H p ys)/\∀ l,H l=none->Q (.ref l) (upd H l (.lst ys))):=by
 intro pins s σ H xs us Q I r h;obtain ⟨p,ys,rfl,hq,q⟩:=h;obtain ⟨u,rfl,rx⟩:=iX r;cases rx;have fin:∀ (its:List Value),Vals ys its->ys.length<=sizeLine->∀ (h':Heap) (c':Nat),(∀ b o',s.heap.get? b=some o'->h'.get? b=some o') ->
   h'.get? s.heap.objs.size=some { cls:=.type "list",dict:=none,data:=.seq its.toArray c',slots:=#[] }->EP X pins σ Q (.ref s.heap.objs.size) { s with heap:=h' }:=fun its r' hz h' c' kp e =>
  ⟨.ref s.heap.objs.size,_,I.laid (t':=s.toks) kp (Nat.le_refl _) (show ObjOk X.prog X.w _ h' _ (.lst ys) from ⟨hz,its,c',r',e⟩),rfl,q _ (I.hok.fresh (Nat.le_refl _))⟩
 rcases hq with hq | hq
 ·obtain ⟨its,r',pl,hz⟩:=I.list hq;have hlen:=r'.length;obtain ⟨o,ho,hc,n,hd⟩:=pl.isList;exact call_list_seq p (.inl rfl) ho hc hd (fun h' c' kp e=>fin its r' hz h' c' kp e) (by simp only [List.size_toArray]<;>omega)
 ·obtain ⟨its,r',pl,hz⟩:=I.tuple hq;have hlen:=r'.length;obtain ⟨o,ho,hc,n,hd⟩:=pl;exact call_list_seq p (.inr rfl) ho hc hd (fun h' c' kp e=>fin its r' hz h' c' kp e) (by simp only [List.size_toArray]<;>omega)
def iY:cF X (.type "tuple") (fun xs H Q=>∃ p ys,xs=[.ref p]/\((SqL X.K H p ys/\∀ l,H l=none->Q (.ref l) (upd H l (.tup ys)))\/(SqT X.K H p ys/\Q (.ref p) H))):=by
 intro pins s σ H xs us Q I r h;obtain ⟨p,ys,rfl,h⟩:=h;obtain ⟨u,rfl,rx⟩:=iX r;cases rx;rcases h with ⟨hq,q⟩ | ⟨hq,q⟩
 ·obtain ⟨its,r',pl,hz⟩:=I.list hq;have hlen:=r'.length;refine call_tuple_list pl.isList (fun h' kp=>?_) (by simp only [List.size_toArray]<;>omega);have I1:Inv X pins σ H { s with heap:=h' }:=I.kept (t':=s.toks) kp;have I2:Inv X pins σ (upd H h'.objs.size (.tup ys)) { s with heap:=h'.push { cls:=.type "tuple",data:=.seq its.toArray } } :=
   I1.laid (t':=s.toks) (fun b o e=>Heap.get?_push_of_some _ e) (Nat.le_refl _) (show ObjOk X.prog X.w _ _ _ (.tup ys) from ⟨hz,its,r',IsTupD.new _ _⟩)
  exact ⟨.ref h'.objs.size,_,I2,rfl,q _ (I1.hok.fresh (Nat.le_refl _))⟩
 ·obtain ⟨its,r',pl,hz⟩:=I.tuple hq;exact call_tuple_same pl ⟨.ref p,H,I,rfl,q⟩
def tyV (K:Frag) (T:String) (x:V) (H:Hp):Prop:=match x with
 | .str _=>T="str"
 | .int _=>T="int"
 | .ref p=>(T="list"/\∃ xs,SqL K H p xs)\/(T="tuple"/\∃ o,K.lookup p=some o/\o.cls=.type "tuple"/\o.dict=none) \/
   (T="dict"/\((∃ kvs,H p=some (.dK kvs))\/∃ kvs,H p=some (.dT kvs)))\/(T="set"/\∃ S n,H p=some (.set S n))
 | _=>False
def bZ7 {pins:List (Addr×Obj)} {σ:St} {H:Hp} {s:Shared} {T:String} {x:V} {v:Value} (I:Inv X pins σ H s) (r:RelV x v) (ty:tyV X.K T x H) :
  s.TypeIs v T/\∀ a,v=.ref a->∃ ob,s.heap.get? a=some ob/\ob.dict=none:=by
 cases x with
 | str z =>
  obtain ⟨t,rfl⟩:=r;cases (show T="str" from ty);exact ⟨typeIs_str s z t,fun _ e=>nomatch e⟩
 | int i =>
  obtain ⟨t,rfl⟩:=r;cases (show T="int" from ty);exact ⟨typeIs_int s i t,fun _ e=>nomatch e⟩
 | ref p =>
  cases r;rcases ty with ⟨rfl,xs,hq⟩ | ⟨rfl,o,hk,hc,hd⟩ | ⟨rfl,hk⟩ | ⟨rfl,S,n,hk⟩
  ·obtain ⟨its,_,pl,_⟩:=I.list hq;refine ⟨pl.isList.typeIs,fun a e=>?_⟩;cases e;obtain ⟨o,n,e,c,hd,_⟩:=pl;exact ⟨o,e,hd⟩
  ·refine ⟨⟨o,I.kIn p o hk,hc⟩,fun a e=>?_⟩;cases e;exact ⟨o,I.kIn _ o hk,hd⟩
  ·have z:∃ o,s.heap.get? p=some o/\o.ExactDict:=by
    rcases hk with ⟨kvs,hk⟩ | ⟨kvs,hk⟩
    ·obtain ⟨_,_,_,_,o,_,_,e,ex,_⟩:=I.hok p _ hk;exact ⟨o,e,ex⟩
    ·obtain ⟨_,_,_,_,o,_,_,e,ex,_⟩:=I.hok p _ hk;exact ⟨o,e,ex⟩
   obtain ⟨o,e,ex⟩:=z;refine ⟨⟨o,e,ex.1⟩,fun a e2=>?_⟩;cases e2;exact ⟨o,e,ex.2.1⟩
  ·obtain ⟨o,_,_,_,e,ex,_⟩:=I.hok p _ hk;refine ⟨⟨o,e,ex.1⟩,fun a e2=>?_⟩;cases e2;exact ⟨o,e,ex.2.1⟩
 | _=>exact False.elim ty
def tBM (K:Frag) (T:String) (r:V->List V->Hp->VK->Prop) (to:TE) (t:TA):TE:=fun σ H Q=>to σ H fun x H1=>tyV K T x H1/\t σ H1 fun xs H2=>r x xs H2 Q
variable {o e:Expr} {es:List Expr} {to:TE} {t:TA} {name:Str} {apos cpos:Pos} {T id:String} {r:V->List V->Hp->VK->Prop}
def aM2 (pa:PlainAttrs T) (slot:Slot T name id) (hty:typeOf (.builtin id)=pure (.type "method_descriptor")) (hm:MtR X id r) (ho:PE X o to) (ha:PA X (e::es) t)
  (hbase:autoParam (attributeBase o name X.env (eval o X.env)=eval o X.env) ZR)
  (hfew:((backTo cpos (starEach (e::es) X.env)).all (fun x=>!x.1)&&(backToKw cpos (keywordEach [] X.env)).all (fun x=>x.1.isSome)
   && decide ((e::es).length+([]:List Keyword).length+(if ([]:List Keyword).isEmpty then 0 else 1) < 30))=true:=by rfl)
  (hline:autoParam ((apos.endLine==cpos.line)=true) ZR) (hs:autoParam (starEach (e::es) X.env=(false,eval e X.env)::starEach es X.env) ZR) (hplain:autoParam ((backTo cpos (starEach es X.env)).any (·.1)=false) ZR) :
  PE X (.Call (.Attribute o name apos) (e::es) [] cpos) (tBM X.K T r to t):=by
 intro pins s σ H Q I h;refine wpAny_Call_method_late hbase hfew hline rfl (thn (ho pins s σ H _ I h) fun v s1 ⟨x,H1,I1,r1,ty,q1⟩=>?_);obtain ⟨h1,h2⟩:=bZ7 I1 r1 ty;refine ⟨T,id,pa,slot,hty,h1,h2,?_⟩;have hA:=ha cpos pins s1 σ H1 _ I1 q1;rw [hs] at hA ⊢;refine Calls.callWith_builtin (by show (false||(backTo cpos (starEach es X.env)).any (·.1))=false;rw [hplain]<;>rfl) (Calls.evalArgs_plain ?_);exact thn hA fun us s2 ⟨vs,H2,I2,r2,q2⟩=>hm pins s2 σ H2 x vs v us Q I2 r1 r2 q2
/- xs.append(e),list.index on a module's tuple .. are MtR facts of 06m -/
end
def MtM (X:Cx) (id:String) (r:V->List V->Hp->VK->Prop):Prop :=
 ∀ (pins:List (Addr×Obj)) (s:Shared) (σ:St) (H:Hp) (x:V) (xs:List V) (v:Value) (us:List Value) (Q:VK),Inv X pins σ H s->RelV x v->Vals xs us->r x xs H Q ->
  wpAny (model X.prog X.w) X.A (call (.builtin id) (v::us)) (EP X pins σ Q) X.xe s
theorem Vals.one:∀ {x:V} {us:List Value},Vals [x] us->∃ u,us=[u]/\RelV x u
 | _,_,.cons r .nil=>⟨_,rfl,r⟩
theorem Vals.eraseIdx:∀ {xs:List V} {us:List Value} (i:Nat),Vals xs us->Vals (xs.eraseIdx i) (us.eraseIdx i)
 | _,_,_,.nil=>.nil
 | _,_,0,.cons _ t=>t
 | _,_,i+1,.cons r t=>.cons r (Vals.eraseIdx i t)
theorem Vals.rep {xs:List V} {us:List Value} (h:Vals xs us):∀ k:Nat,Vals (List.replicate k xs).flatten (List.replicate k us).flatten
 | 0=>.nil
 | k+1=>by
  rw [List.replicate_succ,List.replicate_succ,List.flatten_cons,List.flatten_cons];exact Vals.append h (Vals.rep h k)
theorem pL {α:Type}:∀ (l:List α) (i:Nat),(l.eraseIdx i).length<=l.length
 | [],_=>Nat.le_refl _
 | _::_,0=>Nat.le_succ _
 | _::r,i+1=>Nat.succ_le_succ (pL r i)
theorem kK (its:List Value):∀ (k:Nat) (acc:List Value),
  List.foldl (fun x1 x2=>x1++x2) acc.toArray (List.replicate k its.toArray)=(acc++(List.replicate k its).flatten).toArray
 | 0,acc=>by simp
 | k+1,acc=>by
  have e:acc.toArray++its.toArray=(acc++its).toArray:=by simp
  have e2:(acc++its)++(List.replicate k its).flatten=acc++(List.replicate (k+1) its).flatten:=by
   rw [List.replicate_succ,List.flatten_cons,List.append_assoc]
  rw [<- e2,<- kK its k (acc++its),<- e,List.replicate_succ,List.foldl_cons]
section
variable {X:Cx} {pins:List (Addr×Obj)} {σ:St} {H:Hp} {s:Shared} {l b:Addr} {xs ys zs:List V}
def Inv.lset {its its':List Value} {n:Nat} {f:Array Value->Array Value} {t':Nat} (I:Inv X pins σ H s) (hH:H l=some (.lst xs))
  (e:s.heap.get? l=some { cls:=.type "list",data:=.seq its.toArray n }) (hf:f its.toArray=its'.toArray) (hv:Vals ys its') (hz:ys.length<=sizeLine) :
  Inv X pins σ (upd H l (.lst ys)) { s with heap:=s.heap.update l (Obj.mapSeq f),toks:=t' }:=by
 have q:=PySem.IsL.update e f;rw [hf] at q;refine I.write (x:=l) (e:=l) (by rw [hH];exact trivial) (.inl rfl) (fun b' u hb hu=>(Heap.get?_update_other s.heap (Obj.mapSeq f) (Ne.symm hb)).trans hu) ⟨_,q⟩ ?_;exact ⟨hz,its',_,hv,q⟩
def Inv.lnew {its:List Value} {t':Nat} (I:Inv X pins σ H s) (hv:Vals ys its) (hz:ys.length<=sizeLine) :
  Inv X pins σ (upd H s.heap.objs.size (.lst ys)) { s with heap:=s.heap.push { cls:=.type "list",data:=.seq its.toArray },toks:=t' } :=
 I.laid (fun _ _ q=>Heap.get?_push_of_some _ q) (Nat.le_refl _) ⟨hz,its,0,hv,Heap.get?_push_size _ rfl⟩
def Inv.fresh (I:Inv X pins σ H s):H s.heap.objs.size=none:=I.hok.fresh (Nat.le_refl _)
def Inv.lstM (I:Inv X pins σ H s) (hH:H l=some (.lst xs)):xs.length<=sizeLine/\∃ (its:List Value) (n:Nat),Vals xs its/\xs.length=its.length/\s.heap.get? l=some { cls:=.type "list",data:=.seq its.toArray n }:=by
 obtain ⟨z,its,n,r,e⟩:=I.hok l _ hH;exact ⟨z,its,n,r,r.length,e⟩
def tX {n:Nat} (h:n<=sizeLine):Builtin.List.listTooLong n=false:=by
 unfold Builtin.List.listTooLong;exact decide_eq_false (by omega)
end
section
variable {X:Cx}
noncomputable def bD3:V->List V->Hp->VK->Prop:=fun x vs H Q=>∃ l xs y,x=.ref l/\vs=[y]/\H l=some (.lst xs)/\xs.length < sizeLine/\Q .non (upd H l (.lst (xs++[y])))
def pN:MtM X "list.append" bD3:=by
 intro pins s σ H x vs v us Q I rx rv h;obtain ⟨l,xs,y,rfl,rfl,hH,hz,q⟩:=h;cases rx;obtain ⟨u,rfl,ru⟩:=rv.one;obtain ⟨z,its,n,r,hl,e⟩:=I.lstM hH;refine call_meets F.slot_list_append ⟨_,e,rfl⟩ F.entry_list_append (F.args_list_append_2 _ _) (PySem.list_append l its.toArray n u (by rw [List.size_toArray];omega)) ⟨e,?_⟩;refine ⟨.non,_,I.lset (its':=its++[u]) hH e (by simp) (r.append (.cons ru .nil)) ?_,rfl,q⟩;rw [List.length_append,List.length_singleton];omega
noncomputable def bD4:V->List V->Hp->VK->Prop:=fun x vs H Q=>∃ l b xs zs,x=.ref l/\vs=[.ref b]/\H l=some (.lst xs)/\H b=some (.lst zs)/\xs.length+zs.length<=sizeLine/\Q .non (upd H l (.lst (xs++zs)))
def aC7:MtM X "list.extend" bD4:=by
 intro pins s σ H x vs v us Q I rx rv h;obtain ⟨l,b,xs,zs,rfl,rfl,hH,hB,hz,q⟩:=h;cases rx;obtain ⟨u,rfl,ru⟩:=rv.one;cases ru;obtain ⟨z,its,n,r,hl,e⟩:=I.lstM hH;obtain ⟨z2,its2,n2,r2,hl2,e2⟩:=I.lstM hB;have hsz:its.toArray.size+its2.toArray.size<=sizeLine:=by rw [List.size_toArray,List.size_toArray];omega
 have hlong:¬ (!its.toArray.isEmpty&&Builtin.List.listTooLong (its.toArray.size+its2.toArray.size))=true:=by
  rw [tX hsz,Bool.and_false];exact Bool.false_ne_true
 refine call_meets F.slot_list_extend ⟨_,e,rfl⟩ F.entry_list_extend (F.args_list_extend_2 _ _)
  (AutoSeq1.list_extend_list_list_0 l its.toArray n b its2.toArray n2 hlong (by rw [List.size_toArray];omega) (by omega)) ⟨e,e2,?_⟩
 refine ⟨.non,_,I.lset (its':=its++its2) hH e (by simp) (r.append r2) ?_,rfl,q⟩;rw [List.length_append];omega
noncomputable def bZ8:V->List V->Hp->VK->Prop:=fun x vs H Q=>∃ l xs i k y,x=.ref l/\vs=[.int i]/\H l=some (.lst xs)/\-(2^63)<=i/\i < 2^63/\seqIndex? i xs.length=some k/\xs[k]?=some y/\Q y (upd H l (.lst (xs.eraseIdx k)))
def aM3:MtM X "list.pop" bZ8:=by
 intro pins s σ H x vs v us Q I rx rv h;obtain ⟨l,xs,i,k,y,rfl,rfl,hH,h1,h2,hk,hy,q⟩:=h;cases rx;obtain ⟨u,rfl,ru⟩:=rv.one;obtain ⟨t,rfl⟩:=ru;obtain ⟨z,its,n,r,hl,e⟩:=I.lstM hH;obtain ⟨w,hw,rw'⟩:=r.get hy;refine call_meets F.slot_list_pop ⟨_,e,rfl⟩ F.entry_list_pop (F.args_list_pop_2 _ _)
  (MeetsSeq.list_pop_at l its.toArray n i t k w (fitsIndex_both h1 h2) (by rw [List.size_toArray,<- hl];exact hk) (by rw [<- Array.getElem?_toList];exact hw) (by rw [List.size_toArray];omega)) ⟨e,?_⟩
 refine ⟨y,_,I.lset (its':=its.eraseIdx k) hH e ?_ (r.eraseIdx k) ?_,rw',q⟩
 ·show its.toArray.eraseIdxIfInBounds k=(its.eraseIdx k).toArray;rw [List.eraseIdxIfInBounds_toArray]
 ·have:=pL xs k;omega
noncomputable def dL6:R2:=fun x y H Q=>∃ l k xs,x=.ref l/\y=.int k/\H l=some (.lst xs)/\-(2^63)<=k/\k < 2^63/\xs.length*k.toNat<=sizeLine /\
 ∀ p,H p=none->Q (.ref p) (upd H p (.lst (List.replicate k.toNat xs).flatten))
def rN {α:Type} (xs:List α) (k:Nat):(List.replicate k xs).flatten.length=k*xs.length:=by
 induction k with
 | zero=>simp
 | succ k ih=>rw [List.replicate_succ,List.flatten_cons,List.length_append,ih,Nat.succ_mul,Nat.add_comm]
def bZ9:OpR X (binaryOp .Mult) dL6:=by
 intro pins s σ H x y v u Q I rx ry h;obtain ⟨l,k,xs,rfl,rfl,hH,h1,h2,hz,q⟩:=h;cases rx;obtain ⟨t,rfl⟩:=ry;obtain ⟨z,its,n,r,hl,e⟩:=I.lstM hH;have hlen:its.toArray.size*k.toNat<=sizeLine:=by rw [List.size_toArray,<- hl];exact hz
 have hcap:¬ its.toArray.size*k.toNat > (2^63 - 1) / 8:=by
  have:(sizeLine:Nat)<=(2^63 - 1) / 8:=by decide
  omega
 have hfit:¬ (!Builtin.List.listFitsIndex k)=true:=by
  rw [fitsIndex_both h1 h2];exact Bool.false_ne_true
 have hlong:¬ Builtin.List.listTooLong (its.toArray.size*k.toNat)=true:=by
  rw [tX hlen];exact Bool.false_ne_true
 have hnew:List.foldl (fun x1 x2=>x1++x2) #[] (List.replicate (if its.toArray.isEmpty=true then 0 else k.toNat) its.toArray)=(List.replicate k.toNat its).flatten.toArray:=by
  have f0:∀ m:Nat,List.foldl (fun x1 x2=>x1++x2) #[] (List.replicate m its.toArray)=(List.replicate m its).flatten.toArray:=fun m=>by
   have:=kK its m [];rw [List.nil_append] at this;exact this
  rw [f0];cases its with
  | nil=>simp
  | cons a r'=>rw [if_neg (by simp)]
 refine wpAny_binaryOp_repeat_ref (T:="list") (U:="int") (by decide) ⟨_,e,rfl⟩ (fun s'=>typeIs_int s' k t) noFill_list_mul F.fills_int_mul F.slot_int_rmul repeat_list F.slot_int_index.lookup
  (call_meets F.slot_int_rmul (typeIs_int s k t) F.entry_int_rmul (F.args_int_rmul_2 _ _) (int___rmul___int_list k t l its.toArray n)
   ⟨e,rfl,⟨_,e,rfl⟩,call_meets F.slot_list_mul ⟨_,e,rfl⟩ F.entry_list_mul (F.args_list_mul_2 _ _) (AutoListH.list___mul___list_int_3 l its.toArray n k t hfit hcap hlong) ⟨e,?_⟩⟩)
 rw [hnew];exact ⟨.ref _,_,I.lnew (t':=s.toks) (r.rep k.toNat) (by rw [rN,Nat.mul_comm];exact hz),rfl,q _ I.fresh⟩
end
section
variable {prog:Program} {w:World} {A:Around} {E:Value->Shared->Prop} {s:Shared}
set_option maxRecDepth 100000 in
end
section
variable {X:Cx}
end
end L2
namespace Att
open PySem PySem.W PySem.Calls PyProof.Rows
def lY {P:Params} {h:Heap}:∀ (ns:List Int) (vs:List Value),WellAll P h vs (ns.map WData.int)->IntsAre vs ns:=by
 intro ns;induction ns with
 | nil =>
  intro vs w;rw [List.map_nil] at w;cases w;exact .nil
 | cons n ns ih =>
  intro vs w;rw [List.map_cons] at w;cases w with
  | cons a b =>
   cases a;exact .cons _ _ (ih _ b)
def aC8 {l:OpenLaw} {n:Nat} (hn:l.most=some n) {P:Params} {h:Heap} {args:List WData} {vals:List Value}
  (hpre:l.row.toRowW.claim.pre args=true) (hwl:WellAll P h vals args) :
  ∃ a vs ns,vals=[Value.ref a]/\args=[WData.list (ns.map WData.int)]/\h.get? a=some { cls:=.type "list",data:=.seq vs.toArray }/\IntsAre vs ns/\ns.length<=n:=by
 have hsh:WShape.hasAll [] args [.list .int]=true:=(pre_splitW hpre).1;have hc:l.pre.holds [] { args:=args }=true:=(pre_splitW hpre).2;obtain ⟨d,r,rfl,h1,h2⟩:=hasAllW_cons hsh;obtain rfl:=hasAllW_nil h2;obtain ⟨xs,rfl,h3⟩:=hasW_list h1;obtain ⟨ns,rfl⟩:=items_int h3;have hlen:ns.length<=n:=by
  unfold OpenLaw.pre at hc;have h4:(WTm.not (.lt (.lit (.int (n:Int))) (.len (.arg 0)))).holds [] { args:=[.list (ns.map .int)] }=true:=by
   have h4:=(holds_andW hc).1;rw [hn] at h4;exact h4
  have h5:=condW_of h4 (w_not (w_lt w_lit (w_len_list (w_arg rfl))));rw [List.length_map] at h5;refine Nat.le_of_not_lt fun q=>?_;have q':(n:Int) < ((ns.length:Nat):Int):=by omega
  first
   | (rw [decide_eq_true q'] at h5;exact absurd h5 (by decide))
   | (simp at h5;omega)
 cases hwl with
 | cons w1 w2 =>
  cases w2;cases w1 with
  | list ho hall=>exact ⟨_,_,ns,rfl,rfl,ho,lY ns _ hall,hlen⟩
def aC9 (l:OpenLaw) (args:List WData):l.row.toRowW.claim.post args (.bool true) args=true :=
 postW_of (r:=l.row.toRowW) (X:=(true==true))
  (show WShape.has [] (.bool true) .bool=true by first | rfl | decide | simp [WShape.has,WShape.arms,WShape.armsAll])
  (show (WTm.eq .res (.lit (.bool true))).value [] { args:=args,res:=some (.bool true),after:=args }=some (.bool (true==true)) from w_eq_bool (w_res rfl) w_lit) rfl
def attach_call {l:OpenLaw} {n:Nat} {q:Program} {loose:List Str} {XP:(Str->Option Value)->Heap->Prop} {YP:World->Heap->Prop} {d:DefRec}
  (hn:l.most=some n) (hdf:d.params.defaults=[])
  (call:∀ (w:World) (s₀ s₁:Shared) (mg mb:Str->Option Value) (fa:Addr) (o:Obj) (pm cd doc:Value) (a:Addr) (vs:List Value) (ns:List Int),
   Ground q loose [] XP w s₀ mg mb s₁.heap->YP w s₁.heap ->
   s₁.heap.get? fa=some o->o.data=.func (docDef d.name d.params d.body d.scope pm cd doc)->s₁.heap.CodeRec cd d.name->mg d.name=some (.ref fa) ->
   s₁.heap.get? a=some { cls:=.type "list",data:=.seq vs.toArray }->IntsAre vs ns->ns.length<=n->s₁.gens=#[] ->
   codeAny (model l.prog w) callerA (.call (.ref fa) ⟨[.ref a],[]⟩) (fun r s'=>r=.ok (.ret (.bool true))/\OldK s₁.heap s'.heap/\s'.os=s₁.os/\AllBare s'.gens) s₁) :
  WalkO q loose XP YP l.row.toRowW d [] (fun f vs=>PySem.call f vs):=by
 intro w s₀ s₁ mg mb G Y fa o pm cd doc dV kV ho hd hcd hD hmg hg args vals as hpre hlay hrd hwl hlo;obtain rfl:dV=.none:=Dflts.none hD hdf;obtain rfl:kV=.none:=Dflts.noKw hD;obtain ⟨a,vs,ns,rfl,rfl,hobj,hints,hlen⟩:=aC8 hn hpre hwl;refine enter_call (codeAny_mono (call w s₀ s₁ mg mb fa o pm cd doc a vs ns G Y ho (fd_plain hd) hcd hmg hobj hints hlen hg) fun r s' hq=>?_);obtain ⟨rfl,h2,h3,h4⟩:=hq;exact ⟨.inl ⟨.bool true,.bool true,[],rfl,fun _=>rfl,.bool true,aC9 l _,fun _=>⟨List.Pairwise.nil,fun _ hm=>(nomatch hm)⟩⟩,h2,h3,h4⟩
section
variable {prog:Program} {w:World} {A:Around} {E:Value->Shared->Prop} {s:Shared} {K:Frag}
end
end Att
namespace L2
open PySem PySem.Spec PyProof.Rows
theorem pO:∀ {vs:List Value} {ns:List Int},IntsAre vs ns->Vals (ns.map V.int) vs
 | _,_,.nil=>.nil
 | _,_,.cons n t h=>.cons ⟨t,rfl⟩ (pO h)
def cA0 (H:Hp):Prop:=∀ b,H b=none\/∃ o xs,H b=some (.frz o (.lst xs))
def aM4 {P:Program} {w:World} {K:Frag} {mg mb:Str->Option Value} {CX:CXT} {k:Nat} {fa a:Addr} {fd:FuncData} {x:Str} {sp:Sp} {s₁:Shared} {vs:List Value} {ns:List Int}
  (KX:K.In s₁.heap) (hns:s₁.heap.Ns mainGlobals mg) (hb:s₁.heap.Ns builtinsNs mb) (hbb:∀ x:Str,x≠"__name__"->mb x=bootBuiltins x) (hlim:s₁.heap.NoLimit) (hg:s₁.gens=#[])
  (ha:s₁.heap.get? a=some { cls:=.type "list",data:=.seq vs.toArray }) (hi:IntsAre vs ns) (hl:ns.length<=sizeLine) (hr:Room k callerA)
  (F:∀ base:Heap,K.In base->base.Ns mainGlobals mg->FnOk P w K mg base CX k fa fd [x] sp) (hbind:∀ (s:Shared) (u:Value),BindsTo s fd ⟨[u],[]⟩ [(x,u)])
  (hsp:∀ H:Hp,cA0 H->SqL K H a (ns.map V.int)->sp [.ref a] H (fun v _=>v=.bl true) fun _ _ _=>False)
  (hCX:∀ H e s',CX [] H s₁ (fun _ _ _=>False) e s'->False) :
  codeAny (model P w) callerA (.call (.ref fa) ⟨[.ref a],[]⟩) (fun r s'=>r=.ok (.ret (.bool true))/\OldK s₁.heap s'.heap/\s'.os=s₁.os/\AllBare s'.gens) s₁:=by
 have rv:=pO hi;have lenV:=hi.length;have core:∀ H:Hp,cA0 H->SqL K H a (ns.map V.int)->HOk P w H s₁.heap->(∀ b,H b≠none->b=a)->(H a≠none->K.lookup a=none) ->
   codeAny (model P w) callerA (.call (.ref fa) ⟨[.ref a],[]⟩) (fun r s'=>r=.ok (.ret (.bool true))/\OldK s₁.heap s'.heap/\s'.os=s₁.os/\AllBare s'.gens) s₁:=by
  intro H hO hS hok hA hK;have base_of:∀ {b:Addr} {o:Obj},s₁.heap.get? b=some o->H b=none->(rF s₁.heap H).get? b=some o:=fun e n=>aK4 e n;have noA:∀ {b:Addr} {o:Obj} {es:Array DictEntry} {ep:Nat},s₁.heap.get? b=some o->o.data=.dict es ep->H b=none:=fun {b o es ep} e d=>by
   cases q:H b with
   | none=>rfl
   | some u =>
    have e':b=a:=hA b (by rw [q];simp);subst e';rw [ha] at e;cases e;have d':Data.seq vs.toArray _=Data.dict es ep:=d;cases d'
  have nsK:∀ {b:Addr} {m:Str->Option Value},s₁.heap.Ns b m->(rF s₁.heap H).Ns b m:=fun {b m} ⟨o,es,ep,e,d,r⟩=>⟨o,es,ep,base_of e (noA e d),d,r⟩;have hKb:K.In (rF s₁.heap H):=fun b o e=>base_of (KX b o e) (by
   cases q:H b with
   | none=>rfl
   | some u =>
    have e':b=a:=hA b (by rw [q];simp);subst e';rw [hK (by rw [q];simp)] at e;cases e)
  have hM:Mod K mg (rF s₁.heap H):=⟨hKb,nsK hns,⟨mb,nsK hb,hbb⟩,let ⟨mc,h1,h2⟩:=hlim;⟨mc,nsK h1,h2⟩⟩;have e0:Env0 P w K mg (rF s₁.heap H) callerA [] s₁ H:=⟨rfl,hM,fun b o e=>bB4 e,Nat.le_of_eq (aB8 _ _),trivial,fun b hb=>absurd (show b∈([]:List Addr) from hb) (by simp),hok,.of_eq hg⟩;refine codeAny_mono ((F _ hKb (nsK hns)).run callerA [] s₁ H ⟨[.ref a],[]⟩ [.ref a] [.ref a] _ _ hr e0 (hbind s₁ (.ref a)) (.cons rfl .nil) (hsp H hO hS)) fun r s' h=>?_;cases r with
  | error e=>exact (hCX H e s' h).elim
  | ok fl =>
   cases fl with
   | next=>exact False.elim h
   | brk=>exact False.elim h
   | cont=>exact False.elim h
   | ret u =>
    obtain ⟨v,H',os,bare,un,hok',r',q⟩:=h;have q':v=.bl true:=q;subst q';obtain rfl:u=Value.bool true:=r';refine ⟨rfl,OldK.of_keep fun b o e=>?_,os,bare⟩;cases q:H b with
    | none=>exact un.keep b o e q (by intro z;exact absurd (show b∈([]:List Addr) from z) (by simp)) (by simp)
    | some u =>
     rcases hO b with z | ⟨ob,xs,z⟩
     ·rw [q] at z;cases z
     ·have z2:=un.frzs b ob _ z;obtain ⟨e1,_⟩:=hok b _ z;obtain ⟨e2,_⟩:=hok' b _ z2;rw [e] at e1;cases e1;exact e2
 cases hk:K.lookup a with
 | some o =>
  have e:=KX a o hk;rw [ha] at e;cases e;refine core (fun _=>none) (fun _=>.inl rfl) (.inr ⟨_,vs.toArray,_,hk,rfl,rfl,rfl,by rw [List.size_toArray,lenV];exact hl,by simpa using rv⟩) (fun b u z=>by have z':(none:Option HO)=some u:=z;cases z') (fun b z=>absurd rfl z) fun z=>absurd rfl z
 | none =>
  refine core (fun b=>if b=a then some (.frz { cls:=.type "list",data:=.seq vs.toArray } (.lst (ns.map V.int))) else none) (fun b=>?_) (.inl (.inr ⟨{ cls:=.type "list",data:=.seq vs.toArray },if_pos rfl⟩)) (fun b u z=>?_) (fun b z=>?_) fun _=>hk
  ·by_cases hb:b=a
   ·exact .inr ⟨_,_,if_pos hb⟩
   ·exact .inl (if_neg hb)
  ·by_cases hb:b=a
   ·have z':=(if_pos hb).symm.trans z;cases z';subst hb;exact ⟨ha,by rw [List.length_map];exact hl,vs,_,rv,ha⟩
   ·have z':=(if_neg hb).symm.trans z;cases z'
  ·by_cases hb:b=a
   ·exact hb
   ·exact absurd (if_neg hb) z
def walk_of {l:PySem.W.OpenLaw} {n k:Nat} {q:Program} {loose:List Str} {XP:(Str->Option Value)->Heap->Prop} {YP:World->Heap->Prop} {d:DefRec} {K:Params->Frag} {CX:World->CXT} {sp:World->Sp} {x:Str}
  (hn:l.most=some n) (hn2:n<=sizeLine) (hdf:d.params.defaults=[]) (hr:Room k callerA)
  (hY:∀ (w:World) (h:Heap),YP w h->(K w.params).In h)
  (F:∀ (w:World) (mg:Str->Option Value) (fa:Addr) (h:Heap),(K w.params).In h->h.Ns mainGlobals mg->mg d.name=some (.ref fa) ->
   ∃ fd:FuncData,(∀ (s:Shared) (u:Value),BindsTo s fd ⟨[u],[]⟩ [(x,u)]) /\
    ∀ base:Heap,(K w.params).In base->base.Ns mainGlobals mg->FnOk l.prog w (K w.params) mg base (CX w) k fa fd [x] (sp w))
  (hsp:∀ (w:World) (H:Hp) (a:Addr) (ns:List Int),ns.length<=n->cA0 H->SqL (K w.params) H a (ns.map V.int)->sp w [.ref a] H (fun v _=>v=.bl true) fun _ _ _=>False)
  (hCX:∀ (w:World) (H:Hp) (s:Shared) (e:Value) (s':Shared),CX w [] H s (fun _ _ _=>False) e s'->False) :
  PySem.W.WalkO q loose XP YP l.row.toRowW d [] (fun f vs=>PySem.call f vs):=by
 refine Att.attach_call hn hdf fun w s₀ s₁ mg mb fa o pm cd doc a vs ns G Y ho hd hcd hmg hobj hints hlen hg=>?_;have KX:=hY w _ Y;obtain ⟨fd,hb,hF⟩:=F w mg fa _ KX G.T.g hmg;exact aM4 KX G.T.g G.T.b G.T.builtins G.T.nolimit hg hobj hints (Nat.le_trans hlen hn2) hr hF hb (fun H hO hS=>hsp w H a ns hlen hO hS) fun H e s'=>hCX w H s₁ e s'
end L2
/- THE LAST THEOREM (shape;LID,My.* are yours):
  My.Adr: a structure of the addresses that your layer names (classes,functions);My.Txt K t: a structure (Prop) of the equations over K;
  My.txt_mk:{K} {implicit addresses ..} (e1:nsIn K mainGlobals "law"=some (some (.ref f))) (e2:K.lookup f=some ⟨oc,od,.func (fnOf "law" "law" params body scope dV kV doc pm an cdv ct),sl⟩) (e3:codeIn K cdv "law"=true) ..:∃ t,My.Txt K t
set_option maxRecDepth 100000 in
set_option maxHeartbeats 0 in
theorem PySem.Challenge.cw_LID_holds : PySem.Challenge.rw_LID.Holds := by
 w_on;o_law;k_head;(case hw=>w_witness2)
 k_fill
 refine L2.walk_of (l:=PySem.Challenge.rw_LID) (n:=63) (k:=40) (x:="script") (CX:=fun w=>..) (sp:=fun _=>My.sp_law) rfl (by decide) rfl ⟨rfl,by decide,by decide⟩ (fun w h Y=>PySem.W.kIn_of Y) ?F ?S ?C
 case F =>
  intro w mg fa h KX G hmg;have T:∃ t,My.Txt (L2.KOf KX) t:=by
   dsimp only [L2.KOf]                          -- K must stand as «<heap const> w.params» for k_is;refine' My.txt_mk ?e1 ?e2 ?e3 ..
   (case e1=>PySem.W.k_is)                    -- in the order: a name->its address->its object->its parts
   (case e2=>PySem.W.k_is)
   ..
  obtain ⟨t,T⟩:=T;have e0:=hmg.symm.trans (PySem.W.mg_of KX G T.law);cases e0                                       -- fa is the law's own address;exact ⟨_,fun s u=>.of_eq rfl,fun base kb nb=>My.law_fn T kb nb⟩     -- if «.of_eq rfl» comes too early: refine' ⟨_,?b,fun base kb nb=>My.law_fn T kb nb⟩;exact fun s u=>.of_eq rfl
 case S=>exact fun w H a ns hl hO hS=>..
 case C=>exact ..
(the tactic k_is has no namespace: write k_is) -/
namespace L2
open PySem PySem.Spec PyProof.Rows
noncomputable def cO (s:Stmt):Arguments:=match s with
 | .FunctionDef _ a _ _ _ _ _ _ _ _=>a
 | _=>{ posonlyargs:=[],args:=[],vararg:=none,kwonlyargs:=[],kw_defaults:=[],kwarg:=none,defaults:=[] }
noncomputable def bR (s:Stmt):List Stmt:=match s with
 | .FunctionDef _ _ b _ _ _ _ _ _ _=>b
 | _=>[]
noncomputable def aK (s:Stmt):Scope:=match s with
 | .FunctionDef _ _ _ _ _ _ sc _ _ _=>sc
 | _=>{ kind:=.function,names:=[],isGenerator:=false,isCoroutine:=false }
abbrev CX0:CXT:=fun _ _ _ _ _ _=>False
abbrev E0:XK:=fun _ _ _=>False
def yX {X:Cx}:kJ CX0 X E0:=fun _ _ _ _ _ _ _ h=>h.elim
structure Fun (K:Frag) (x qual:Str) (st:Stmt) (f:Addr) (fd:FuncData):Prop where
 ex:∃ (oc:Value) (od:Option Addr) (kV doc pm:Value) (an:Option Addr) (cdv ct:Value) (osl:Array (Option Value)),
  fd=PySem.W.fnOf x qual (cO st) (bR st) (aK st) .none kV doc pm an cdv ct/\K.lookup f=some ⟨oc,od,.func fd,osl⟩/\PySem.W.codeIn K cdv qual=true
 kp:PySem.W.keepIn K (.ref f)=true
section
variable {P:Program} {w:World} {K:Frag} {mg:Str->Option Value} {base:Heap}
def Fun.binds {x qual:Str} {st:Stmt} {f:Addr} {fd:FuncData} {ps:List Str} (F:Fun K x qual st f fd)
  (h:∀ (kV doc pm:Value) (an:Option Addr) (cdv ct:Value) (us:List Value),us.length=ps.length->bindArgs (PySem.W.fnOf x qual (cO st) (bR st) (aK st) .none kV doc pm an cdv ct) ⟨us,[]⟩=pure (ps.zip us)):Binds K fd ps []:=by
 obtain ⟨oc,od,kV,doc,pm,an,cdv,ct,osl,rfl,lk,hcd⟩:=F.ex;exact .all (h kV doc pm an cdv ct)
def aM5 {x qual:Str} {st:Stmt} {f:Addr} {oc:Value} {od an:Option Addr} {osl:Array (Option Value)} {kV doc pm cdv ct:Value} (l:K.lookup f=some ⟨oc,od,.func (PySem.W.fnOf x qual (cO st) (bR st) (aK st) .none kV doc pm an cdv ct),osl⟩)
  (c:PySem.W.codeIn K cdv qual=true) (k:PySem.W.keepIn K (.ref f)=true):Fun K x qual st f (PySem.W.fnOf x qual (cO st) (bR st) (aK st) .none kV doc pm an cdv ct):=⟨⟨oc,od,kV,doc,pm,an,cdv,ct,osl,rfl,l,c⟩,k⟩
end
section
variable {X:Cx}
end
end L2
set_option maxHeartbeats 4000000
namespace L2
open PySem PySem.Spec PyProof.Rows
section
variable {κ:Type} [DecidableEq κ]
noncomputable def gA (kvs:List (κ×V)) (k:κ):Option V:=(kvs.find? fun kv=>decide (kv.1=k)).map (·.2)
noncomputable def jQ (kvs:List (κ×V)) (k:κ) (v:V):List (κ×V) :=
 if (kvs.any fun kv=>decide (kv.1=k))=true then kvs.map (fun kv=>if kv.1=k then (kv.1,v) else kv) else kvs++[(k,v)]
def tY {p:κ×V} {r:List (κ×V)} {k:κ} (e:p.1=k):gA (p::r) k=some p.2:=by simp [gA,List.find?_cons,e]
def tZ {p:κ×V} {r:List (κ×V)} {k:κ} (e:¬ p.1=k):gA (p::r) k=gA r k:=by simp [gA,List.find?_cons,e]
def lM (kvs:List (κ×V)) (k:κ) (v:V):(jQ kvs k v).length<=kvs.length+1:=by
 unfold jQ;split
 ·rw [List.length_map];omega
 ·rw [List.length_append,List.length_cons,List.length_nil];omega
def RelO.isSome_eq {o:Option V} {u:Option Value} (r:RelO o u):o.isSome=u.isSome:=by
 cases o with
 | none=>cases u with
  | none=>rfl
  | some _=>exact (show False from r).elim
 | some _=>cases u with
  | none=>exact (show False from r).elim
  | some _=>rfl
def KV.val {kvs:List (κ×V)} {vs:List (κ×Value)} (r:KV kvs vs) (k:κ):RelO (gA kvs k) (valueAt vs k):=by
 unfold KV at r;induction r with
 | nil=>exact True.intro
 | @cons p q ps qs h t ih =>
  obtain ⟨h1,h2⟩:=h
  by_cases e:p.1=k
  ·have e':q.1=k:=h1.symm.trans e;have b:valueAt (q::qs) k=some q.2:=by simp [valueAt,List.find?_cons,e']
   rw [tY e,b];exact h2
  ·have e':¬ q.1=k:=fun z=>e (h1.trans z);have b:valueAt (q::qs) k=valueAt qs k:=by simp [valueAt,List.find?_cons,e']
   rw [tZ e,b];exact ih
def KV.any {kvs:List (κ×V)} {vs:List (κ×Value)} (r:KV kvs vs) (k:κ):(kvs.any fun kv=>decide (kv.1=k))=vs.any fun kv=>decide (kv.1=k):=by
 unfold KV at r;induction r with
 | nil=>rfl
 | cons h t ih=>rw [List.any_cons,List.any_cons,ih,h.1]
def KV.repl {kvs:List (κ×V)} {vs:List (κ×Value)} (r:KV kvs vs) (k:κ) {y:V} {u:Value} (ry:RelV y u) :
  KV (kvs.map fun kv=>if kv.1=k then (kv.1,y) else kv) (vs.map fun kv=>if kv.1=k then (kv.1,u) else kv):=by
 unfold KV at r ⊢;induction r with
 | nil=>exact .nil
 | @cons p q ps qs h t ih =>
  rw [List.map_cons,List.map_cons];refine .cons ?_ ih;obtain ⟨h1,h2⟩:=h
  by_cases e:p.1=k
  ·rw [if_pos e,if_pos (h1.symm.trans e)];exact ⟨h1,ry⟩
  ·rw [if_neg e,if_neg (fun z=>e (h1.trans z))];exact ⟨h1,h2⟩
def KV.put {kvs:List (κ×V)} {vs:List (κ×Value)} (r:KV kvs vs) (k:κ) {y:V} {u:Value} (ry:RelV y u):KV (jQ kvs k y) (stored vs k u):=by
 unfold jQ stored;rw [r.any k]
 by_cases e:(vs.any fun kv=>decide (kv.1=k))=true
 ·rw [if_pos e,if_pos e];exact r.repl k ry
 ·rw [if_neg e,if_neg e];exact Paired.snoc r ⟨rfl,ry⟩
def KV.length {kvs:List (κ×V)} {vs:List (κ×Value)} (r:KV kvs vs):kvs.length=vs.length:=Paired.length r
end
def uA {P:Program} {w:World} {k:Key} {u:Value} (r:RelV (kV k) u):(bD P w).is k u=true:=by
 cases k with
 | inl i=>obtain ⟨t,e⟩:=(show ∃ t,u=Value.int i t from r);subst e;exact lI P w i t
 | inr x=>obtain ⟨t,e⟩:=(show ∃ t,u=Value.str x t from r);subst e;exact tP P w x t
theorem pP {P:Program} {w:World}:∀ {ks:List Key} {us:List Value},Vals (ks.map kV) us->ItemsAre (bD P w) ks us
 | [],_,r=>by rw [List.map_nil] at r;cases r;exact .nil
 | k::ks,_,r=>by
  rw [List.map_cons] at r;cases r with
  | cons h t=>exact .cons (uA h) (pP t)
abbrev KT (H:Hp):List (List Key×V)->List (List Key×Addr×Value)->Prop:=Paired fun p q=>p.1=q.1/\H q.2.1=some (.tup (p.1.map kV))/\RelV p.2 q.2.2
def KT.val {H:Hp} {kvs:List (List Key×V)} {xs:List (List Key×Addr×Value)} (r:KT H kvs xs) (k:List Key):RelO (gA kvs k) ((atKey xs k).map (·.2)):=by
 induction r with
 | nil=>exact True.intro
 | @cons p q ps qs h t ih =>
  obtain ⟨h1,_,h2⟩:=h
  by_cases e:p.1=k
  ·have e':q.1=k:=h1.symm.trans e;have b:atKey (q::qs) k=some q.2:=by simp [atKey,List.find?_cons,e']
   rw [tY e,b];exact h2
  ·have e':¬ q.1=k:=fun z=>e (h1.trans z);have b:atKey (q::qs) k=atKey qs k:=by simp [atKey,List.find?_cons,e']
   rw [tZ e,b];exact ih
section
variable {P:Program} {w:World} {H:Hp} {h:Heap} {a:Addr}
def bP5 {u:HO} (ok:HOk P w H h) (e:Rd H a u):ObjOk P w H h a u:=e.ok ok
def nE {kvs:List (Key×V)} (ok:HOk P w H h) (e:Rd H a (.dK kvs)):kvs.length<=sizeLine/\(a==sysModules)=false/\∃ vs,KV kvs vs/\h.DictOf (bD P w) a vs :=
 show ObjOk P w H h a (.dK kvs) from bP5 ok e
def cT2 {kvs:List (Key×V)} (ok:HOk P w H h) (e:H a=some (.dK kvs)):kvs.length<=sizeLine/\(a==sysModules)=false/\∃ vs,KV kvs vs/\h.DictOf (bD P w) a vs:=nE ok (.inl e)
def rO {ks:List Key} (ok:HOk P w H h) (e:H a=some (.tup (ks.map kV))):(tupleKind (bD P w)).is h ks a:=by
 obtain ⟨_,its,r,o,h1,h2,⟨n,h3⟩,_⟩:=(show ObjOk P w H h a (.tup (ks.map kV)) from ok a _ e);exact ⟨o,its.toArray,n,h1,h2,h3,by simpa using pP r⟩
def yY {kvs:List (List Key×V)} (ok:HOk P w H h) (e:Rd H a (.dT kvs)):kvs.length<=sizeLine/\(a==sysModules)=false /\
  ∃ xs,KT H kvs xs/\h.DictOfH (tupleKind (bD P w)) a xs:=by
 obtain ⟨z,y,xs,r,o,es,ep,h1,h2,h3,h4,h5⟩:=(show ObjOk P w H h a (.dT kvs) from bP5 ok e);refine ⟨z,y,xs,r,o,es,ep,h1,h2,h3,h4,fun x hx=>?_,h5⟩;have all:∀ {l:List (List Key×V)} {m:List (List Key×Addr×Value)},KT H l m->∀ x∈m,(tupleKind (bD P w)).is h x.1 x.2.1:=by
  intro l m q;induction q with
  | nil=>intro x hx;exact nomatch hx
  | @cons p q ps qs hq t ih =>
   intro x hx;rcases List.mem_cons.mp hx with e | hx
   ·subst e;exact rO ok (by rw [<- hq.1];exact hq.2.1)
   ·exact ih x hx
 exact all r x hx
end
def aM6 (H:Hp) (a:Addr) (y:V) (r:Option V):Prop :=
 (∃ kvs k,Rd H a (.dK kvs)/\y=kV k/\r=gA kvs k)\/∃ kvs k b,Rd H a (.dT kvs)/\y=.ref b/\H b=some (.tup (k.map kV))/\r=gA kvs k
section
variable {X:Cx} {pins:List (Addr×Obj)} {σ:St} {H:Hp} {s:Shared} {a:Addr} {y v:V} {u r:Value} {o:Option V} {A:Around} {E:Value->Shared->Prop}
def Inv.big (I:Inv X pins σ H s):sysModules < s.heap.objs.size:=by
 have h:mainGlobals < s.heap.objs.size:=(I.mod.glob.keeps I.bk).lt;exact Nat.lt_trans (by decide) h
def aD0 {Q:Value->Shared->Prop} (hu:A.units+1 < cLine) (I:Inv X pins σ H s) (g:aM6 H a y (some v)) (ry:RelV y u) (h:∀ w' s',Inv X pins σ H s'->RelV v w'->Q w' s') :
  wpAny (model X.prog X.w) A (getItem (.ref a) u) Q E s:=by
 rcases g with ⟨kvs,k,e,ey,l⟩ | ⟨kvs,k,b,e,ey,eb,l⟩
 ·subst ey;obtain ⟨z,hd,vs,rel,dd⟩:=nE I.hok e;obtain ⟨w',hw,rw'⟩:=RelO.some_of (v:=v) (o:=valueAt vs k) (by rw [l];exact rel.val k);exact wpAny_getItem_of (uA ry) dd.mapOf hw (h w' _ (I.tok _) rw')
 ·subst ey;cases (show u=Value.ref b from ry);obtain ⟨z,hd,xs,rel,dd⟩:=yY I.hok e;obtain ⟨w',hw,rw'⟩:=RelO.some_of (v:=v) (o:=(atKey xs k).map (·.2)) (by rw [l];exact rel.val k);obtain ⟨p,hp,hp2⟩:=Option.map_eq_some_iff.mp hw;refine wpAny_getItem_heap (tupleKind_room_in1 hu) (rO I.hok eb) dd hp ?_;rw [hp2];exact h w' _ (I.tok _) rw'
def dL7 {Q:Value->Shared->Prop} (hu:A.units+1 < cLine) (I:Inv X pins σ H s) (g:aM6 H a y o) (ry:RelV y u) (h:∀ s',Inv X pins σ H s'->Q (.bool o.isSome) s') :
  wpAny (model X.prog X.w) A (compareOp .In u (.ref a)) Q E s:=by
 rcases g with ⟨kvs,k,e,ey,l⟩ | ⟨kvs,k,b,e,ey,eb,l⟩
 ·subst ey;obtain ⟨z,hd,vs,rel,dd⟩:=nE I.hok e;refine wpAny_in_of (uA ry) hd dd.mapOf ?_;rw [<- (rel.val k).isSome_eq,<- l];exact h _ (I.tok _)
 ·subst ey;cases (show u=Value.ref b from ry);obtain ⟨z,hd,xs,rel,dd⟩:=yY I.hok e;refine wpAny_in_heap (tupleKind_room_in1 hu) (rO I.hok eb) hd dd ?_;have q:=(rel.val k).isSome_eq;rw [Option.isSome_map] at q;rw [<- q,<- l];exact h _ (I.tok _)
def bD5 {Q:Value->Shared->Prop} (hu:A.units+1 < cLine) (I:Inv X pins σ H s) (g:aM6 H a y o) (ry:RelV y u) (h:∀ s',Inv X pins σ H s'->Q (.bool (!o.isSome)) s') :
  wpAny (model X.prog X.w) A (compareOp .NotIn u (.ref a)) Q E s:=by
 rcases g with ⟨kvs,k,e,ey,l⟩ | ⟨kvs,k,b,e,ey,eb,l⟩
 ·subst ey;obtain ⟨z,hd,vs,rel,dd⟩:=nE I.hok e;refine wpAny_notIn_of (uA ry) hd dd.mapOf ?_;rw [<- (rel.val k).isSome_eq,<- l];exact h _ (I.tok _)
 ·subst ey;cases (show u=Value.ref b from ry);obtain ⟨z,hd,xs,rel,dd⟩:=yY I.hok e;refine wpAny_notIn_heap (tupleKind_room_in1 hu) (rO I.hok eb) hd dd ?_;have q:=(rel.val k).isSome_eq;rw [Option.isSome_map] at q;rw [<- q,<- l];exact h _ (I.tok _)
def bD6 {h':Heap} {t':Nat} {ob:HO} (I:Inv X pins σ H s) (mu:Mut (H a)) (hs:Heap.SameBut a s.heap h') (he:∃ q,h'.get? a=some q) (new:ObjOk X.prog X.w (upd H a ob) h' a ob) :
  Inv X pins σ (upd H a ob) { s with heap:=h',toks:=t' } :=
 I.write (x:=a) (e:=a) mu (.inl rfl) (fun b q hb z=>(hs.2 b hb).trans z) he new
def xA {P:Program} {w:World} {H':Hp} {h':Heap} {kvs:List (Key×V)} {vs:List (Key×Value)} (z:kvs.length<=sizeLine) (hd:(a==sysModules)=false) (rel:KV kvs vs) (dd:h'.DictOf (bD P w) a vs) :
  ObjOk P w H' h' a (.dK kvs):=⟨z,hd,vs,rel,dd⟩
end
section
variable {X:Cx} {pins:List (Addr×Obj)} {σ:St} {H:Hp} {s:Shared} {a:Addr} {kvs:List (Key×V)} {k:Key} {u:Value} {A:Around} {E:Value->Shared->Prop}
end
def uB {X:Cx} {pins:List (Addr×Obj)} {σ:St} {H:Hp} {s:Shared} {a:Addr} {y:V} {o:Option V} (I:Inv X pins σ H s) (g:aM6 H a y o):s.TypeIs (.ref a) "dict":=by
 rcases g with ⟨kvs,k,e,_,_⟩ | ⟨kvs,k,b,e,_,_,_⟩
 ·obtain ⟨_,_,vs,_,dd⟩:=nE I.hok e;exact dd.typeIs
 ·obtain ⟨_,_,xs,_,dd⟩:=yY I.hok e;exact dd.typeIs
section
variable {X:Cx} {o i e value:Expr} {pos pos' tpos:Pos} {td ty tv:TE}
end
section
variable {X:Cx} {pos:Pos}
end
noncomputable def cS (kvs more:List (Key×V)):List (Key×V):=more.foldl (fun acc kv=>jQ acc kv.1 kv.2) kvs
theorem dQ:∀ (more kvs:List (Key×V)),(cS kvs more).length<=kvs.length+more.length
 | [],kvs=>by show kvs.length<=kvs.length+0;omega
 | p::r,kvs=>by
  have h1:=dQ r (jQ kvs p.1 p.2);have h2:=lM kvs p.1 p.2;show (cS (jQ kvs p.1 p.2) r).length<=_;rw [List.length_cons];omega
section
variable {X:Cx} {pins:List (Addr×Obj)} {σ:St} {H:Hp} {s:Shared} {a:Addr} {y d:V} {u r:Value} {o:Option V} {A:Around} {E:Value->Shared->Prop}
end
section
variable {X:Cx} {o e f:Expr} {apos cpos:Pos} {td ty tx:TE}
end
section
variable {X:Cx} {pins:List (Addr×Obj)} {σ:St} {H:Hp} {s:Shared} {a:Addr} {kvs:List (Key×V)} {A:Around} {E:Value->Shared->Prop}
end
section
variable {X:Cx} {pins:List (Addr×Obj)} {σ:St} {H:Hp} {s:Shared} {a:Addr} {y:V} {u:Value} {A:Around} {E:Value->Shared->Prop}
end
def rP {a b:Nat} (z:a=b+1) (h:a < b):False:=by omega
structure CompSc (N N':List Str) (ixs:List (Option Nat)) (S sc:Scope):Prop where
 kind:sc.kind=.function
 nocell:∀ y∈sc.names,y.2≠.cell
 loc:∀ y∈sc.names,y.2=.local->sc.names.lookup y.1=some .local
 free:∀ y∈sc.names,y.2=.free->S.names.lookup y.1=some .cell\/S.names.lookup y.1=some .free
 nd:N'.Nodup
 len:ixs.length=N'.length
 cap:((ixs.zip N').all fun p=>match p.1 with
  | none=>true
  | some i=>decide (N[i]?=some p.2)&&decide (sc.names.lookup p.2=some NameKind.free))=true
noncomputable def oY (ixs:List (Option Nat)) (σ:St):St:=ixs.map fun o=>o.bind fun i=>(σ[i]?).bind id
def CompSc.at {N N':List Str} {ixs:List (Option Nat)} {S sc:Scope} (h:CompSc N N' ixs S sc) {j i:Nat} {x:Str} (e1:N'[j]?=some x) (e2:ixs[j]?=some (some i)) :
  N[i]?=some x/\sc.names.lookup x=some .free:=by
 have hm:(some i,x)∈ixs.zip N':=by
  refine List.mem_of_getElem? (i:=j) ?_;rw [List.getElem?_zip_eq_some];exact ⟨e2,e1⟩
 have q:=List.all_eq_true.mp h.cap _ hm;simp only [Bool.and_eq_true,decide_eq_true_eq] at q;exact q
def bD7 {ixs:List (Option Nat)} {σ:St} {j:Nat} {v:V} (e:(oY ixs σ)[j]?=some (some v)):∃ i,ixs[j]?=some (some i)/\σ[i]?=some (some v):=by
 unfold oY at e;rw [List.getElem?_map] at e;cases h:ixs[j]? with
 | none=>rw [h] at e;cases e
 | some o =>
  rw [h] at e;cases o with
  | none=>cases e
  | some i =>
   refine ⟨i,rfl,?_⟩;have e':(σ[i]?).bind id=some v:=Option.some.inj e;cases q:σ[i]? with
   | none=>rw [q] at e';cases e'
   | some w=>rw [q] at e';exact congrArg some e'
theorem gT {env:Env}:∀ (names:List (Str×NameKind)) (acc:List (Str×Addr)),(∀ y∈names,y.2=.free->∃ c,env.cells.lookup y.1=some c) ->
  (∀ x c,acc.lookup x=some c->env.cells.lookup x=some c) ->
  ∃ cl,(∀ x c,cl.lookup x=some c->env.cells.lookup x=some c)/\(∀ y∈names,y.2=.free->∃ c,cl.lookup y.1=some c)/\(∀ x c,acc.lookup x=some c->∃ d,cl.lookup x=some d) /\
   (forIn names acc fun (x:Str×NameKind) (r:List (Str×Addr))=>(if (x.2==NameKind.free)=true then (do let a <- cellOf env x.1;pure (ForInStep.yield ((x.1,a)::r))) else pure (ForInStep.yield r):Sem (ForInStep (List (Str×Addr)))))=(pure cl:Sem (List (Str×Addr)))
 | [],acc,_,ha=>⟨acc,ha,fun _ h=>(nomatch h),fun x c h=>⟨c,h⟩,rfl⟩
 | (n,k)::r,acc,h,ha=>by
  by_cases hk:k=.free
  ·subst hk;obtain ⟨c,hc⟩:=h (n,.free) List.mem_cons_self rfl;obtain ⟨cl,h1,h2,h3,h4⟩:=gT r ((n,c)::acc) (fun y hy=>h y (List.mem_cons_of_mem _ hy)) (fun x d hd=>by
    rw [List.lookup_cons] at hd;cases q:x==n with
    | true =>
     rw [q] at hd;have e1:x=n:=by simpa using q
     have e2:c=d:=Option.some.inj hd;rw [e1,<- e2];exact hc
    | false=>rw [q] at hd;exact ha x d hd)
   refine ⟨cl,h1,fun y hy hf=>?_,fun x d hd=>?_,?_⟩
   ·rcases List.mem_cons.mp hy with e | hy
    ·subst e;exact h3 n c (by simp [List.lookup_cons])
    ·exact h2 y hy hf
   ·cases q:x==n with
    | true =>
     have e1:x=n:=by simpa using q
     subst e1;exact h3 x c (by simp [List.lookup_cons])
    | false=>exact h3 x d (by rw [List.lookup_cons,q];exact hd)
   ·rw [<- h4,List.forIn_cons];have e:cellOf env n=pure c:=by unfold cellOf;rw [hc]
    show ((if (NameKind.free==NameKind.free)=true then (do let a <- cellOf env n;pure (ForInStep.yield ((n,a)::acc))) else pure (ForInStep.yield acc):Sem _) >>= _)=_;rw [if_pos (by decide),e];rfl
  ·obtain ⟨cl,h1,h2,h3,h4⟩:=gT r acc (fun y hy=>h y (List.mem_cons_of_mem _ hy)) ha;refine ⟨cl,h1,fun y hy hf=>?_,h3,?_⟩
   ·rcases List.mem_cons.mp hy with e | hy
    ·subst e;exact absurd hf hk
    ·exact h2 y hy hf
   ·rw [<- h4,List.forIn_cons];have e:(k==NameKind.free)=false:=by simpa using hk
    show ((if (k==NameKind.free)=true then (do let a <- cellOf env n;pure (ForInStep.yield ((n,a)::acc))) else pure (ForInStep.yield acc):Sem _) >>= _)=_;rw [if_neg (by rw [e];exact Bool.false_ne_true)];rfl
def nG {sc:Scope} {env:Env} (h:∀ y∈sc.names,y.2=.free->∃ c,env.cells.lookup y.1=some c) :
  ∃ cl,closureFor sc env=pure cl/\(∀ x c,cl.lookup x=some c->env.cells.lookup x=some c)/\(∀ y∈sc.names,y.2=.free->∃ c,cl.lookup y.1=some c):=by
 obtain ⟨cl,h1,h2,_,h4⟩:=gT (env:=env) sc.names [] h (fun x c e=>by simp at e);refine ⟨cl,?_,h1,h2⟩;unfold closureFor;exact (congrArg (fun m:Sem (List (Str×Addr))=>m >>= fun r=>pure r) h4).trans rfl
theorem fB {env:Env} {x:Str}:∀ {names:List (Str×NameKind)} {k:NameKind},names.lookup x=some k ->
  (names.map fun (n,k)=>if (k==NameKind.free&&env.scope.kind==.function&&env.kindOf n==some .cell) then (n,NameKind.cell) else (n,k)).lookup x
   = some (if (k==NameKind.free&&env.scope.kind==.function&&env.kindOf x==some .cell) then NameKind.cell else k)
 | [],_,h=>by simp at h
 | (n,k0)::r,k,h=>by
  rw [List.lookup_cons] at h;rw [List.map_cons];cases q:x==n with
  | true =>
   have e1:x=n:=by simpa using q
   subst e1;rw [q] at h;have e2:k0=k:=Option.some.inj h;subst e2;dsimp only
   by_cases hc:(k0==NameKind.free&&env.scope.kind==.function&&env.kindOf x==some .cell)=true
   ·rw [if_pos hc,if_pos hc,List.lookup_cons,q]
   ·rw [if_neg hc,if_neg hc,List.lookup_cons,q]
  | false =>
   rw [q] at h;have ih:=fB (env:=env) h;dsimp only
   by_cases hc:(k0==NameKind.free&&env.scope.kind==.function&&env.kindOf n==some .cell)=true
   ·rw [if_pos hc,List.lookup_cons,q];exact ih
   ·rw [if_neg hc,List.lookup_cons,q];exact ih
theorem jR {env:Env} {x:Str}:∀ {names:List (Str×NameKind)},names.lookup x=none ->
  (names.map fun (n,k)=>if (k==NameKind.free&&env.scope.kind==.function&&env.kindOf n==some .cell) then (n,NameKind.cell) else (n,k)).lookup x=none
 | [],_=>rfl
 | (n,k0)::r,h=>by
  rw [List.lookup_cons] at h;rw [List.map_cons];cases q:x==n with
  | true=>rw [q] at h;cases h
  | false =>
   rw [q] at h;have ih:=jR (env:=env) h;dsimp only
   by_cases hc:(k0==NameKind.free&&env.scope.kind==.function&&env.kindOf n==some .cell)=true
   ·rw [if_pos hc,List.lookup_cons,q];exact ih
   ·rw [if_neg hc,List.lookup_cons,q];exact ih
noncomputable def blk (X:Cx) (N':List Str) (sc:Scope) (cl:List (Str×Addr)) (C:Addr) (s2:Shared) (H2:Hp) (fp:List Addr):Cx :=
 { X with N:=N',s₀:=s2,H₀:=H2,env:=compEnvC sc cl C X.env,outer:=X.stack,ex:=fp,fn:=fun _=>false,pn:=[] }
def aD1 {X:Cx} {pins:List (Addr×Obj)} {σ:St} {H2:Hp} {s2:Shared} {N':List Str} {ixs:List (Option Nat)} {S sc:Scope} {cl:List (Str×Addr)} {fp:List Addr} {h1:Heap} {tk n0:Nat}
  (I:Inv X pins σ H2 s2) (hS:X.env.scope=S) (SC:CompSc X.N N' ixs S sc) (hcl1:∀ x c,cl.lookup x=some c->X.env.cells.lookup x=some c) (hcl2:∀ y∈sc.names,y.2=.free->∃ c,cl.lookup y.1=some c)
  (hf:∀ b∈fp,jD X pins H2 b) (hfl:∀ b∈fp,b < s2.heap.objs.size) (hns:h1.Ns (s2.heap.objs.size+1) fun _=>none)
  (keep:∀ b o,s2.heap.get? b=some o->h1.get? b=some o) (ha:h1.get? s2.heap.objs.size=some { cls:=.type "list",data:=.seq ([]:List Value).toArray n0 }) :
  Inv (blk X N' sc cl (s2.heap.objs.size+1) s2 H2 fp) [] (oY ixs σ) (upd H2 s2.heap.objs.size (.lst [])) { s2 with heap:=h1,toks:=tk }:=by
 have kfree:∀ {x:Str} {k:NameKind},(relabel sc X.env).names.lookup x=some k->k=.cell\/k=.free->(x,NameKind.free)∈sc.names:=fun {x k} e hk=>by
  cases q:sc.names.lookup x with
  | none =>
   have z:=jR (env:=X.env) q;have z':(relabel sc X.env).names.lookup x=none:=z;rw [e] at z';cases z'
  | some k0 =>
   have z:=fB (env:=X.env) q;have z':(relabel sc X.env).names.lookup x=_:=z;rw [e] at z';have m:=PySem.mem_of_lookup q;have hz:=Option.some.inj z'
   by_cases hc:(k0==NameKind.free&&X.env.scope.kind==.function&&X.env.kindOf x==some .cell)=true
   ·have h0:k0=.free:=by
     simp only [Bool.and_eq_true,beq_iff_eq] at hc;exact hc.1.1
    rw [<- h0];exact m
   ·rw [if_neg hc] at hz;subst hz;rcases hk with hk | hk
    ·exact absurd hk (SC.nocell _ m)
    ·rw [<- hk];exact m
 have fr:H2 s2.heap.objs.size=none:=I.hok.fresh (Nat.le_refl _);have frC:H2 (s2.heap.objs.size+1)=none:=I.hok.fresh (Nat.le_succ _);have cl_lt:∀ x c,X.env.cells.lookup x=some c->c < s2.heap.objs.size:=fun x c e=>by
  obtain ⟨v,q⟩:=I.cell x c e;exact q.lt
 have ok:(blk X N' sc cl (s2.heap.objs.size+1) s2 H2 fp).Ok:={
  mod:=I.ok.mod
  kind:=SC.kind
  glob:=I.ok.glob
  blt:=I.ok.blt
  above:=Nat.le_succ _
  inj:=fun x y c e1 e2=>I.ok.inj x y c (hcl1 x c e1) (hcl1 y c e2)
  has:=fun x hx=>by
   rcases hx with hx | hx
   ·exact hcl2 _ (kfree hx (.inl rfl)) rfl
   ·exact hcl2 _ (kfree hx (.inr rfl)) rfl
  cab:=fun x c h=>absurd (show false=true from h) Bool.false_ne_true
  hd:=I.ok.hd
  frames:=I.ok.frames
  stk:=.inl rfl
  exf:=fun b hb=>⟨Nat.ne_of_lt (Nat.lt_succ_of_lt (hfl b hb)),fun x c e=>(hf b hb).2.2.2.2.1 x c (hcl1 x c e)⟩
  bs:=I.bs
  bsz:=Nat.le_trans I.ok.bsz I.sz
  noex:=fun b o e hb=>by
   rcases (hf b hb).2.2.2.1 with z | z
   ·exact I.ok.noex b o e z
   ·exact absurd (Nat.lt_of_lt_of_le (Heap.lt_size e) (Nat.le_trans I.ok.bsz z)) (Nat.lt_irrefl _)
  exfs:=fun b hb hz=>by
   rcases List.mem_cons.mp (I.stkSub b hz) with z | z
   ·exact (hf b hb).2.1 z
   ·exact (hf b hb).2.2.1 z
  funs:=I.stack
  frf:=I.stkFree }
 refine ⟨ok,rfl,I.bare,Un.laid keep (Nat.le_refl _) fr,⟨_,hns,fun j x v e1 e2 e3=>?_⟩,fun x c e=>?_,?_,fun x c e=>?_,fun p hp=>absurd (show p∈([]:List (Addr×Obj)) from hp) (by simp),?_,?_⟩
 ·obtain ⟨i,ei,ev⟩:=bD7 e2;obtain ⟨eN,ef⟩:=SC.at e1 ei;have hm:=PySem.mem_of_lookup ef;have hvis:X.env.scope.names.lookup x=some .cell\/X.env.scope.names.lookup x=some .free:=by rw [hS];exact SC.free _ hm rfl
  obtain ⟨m,hn,hl⟩:=I.loc;obtain ⟨u,r,l⟩:=hl i x v eN ev (.inr hvis);refine ⟨u,r,?_⟩;rcases l with ⟨hk,_⟩ | ⟨_,c,ec,o,ho,hd⟩
  ·have hk':X.env.scope.names.lookup x=some .local:=hk;rcases hvis with z | z
   ·rw [hk'] at z;cases z
   ·rw [hk'] at z;cases z
  ·obtain ⟨c',ec'⟩:=hcl2 _ hm rfl;have e5:=hcl1 _ _ ec';rw [ec] at e5;have e6:c=c':=Option.some.inj e5;subst e6;refine .inr ⟨?_,c,ec',o,keep _ _ ho,hd⟩;have z:=fB (env:=X.env) ef;have z':(relabel sc X.env).names.lookup x=_:=z
   by_cases hc:(NameKind.free==NameKind.free&&X.env.scope.kind==.function&&X.env.kindOf x==some .cell)=true
   ·rw [if_pos hc] at z';exact .inl z'
   ·rw [if_neg hc] at z';exact .inr z'
 ·obtain ⟨v,o,ho,hd⟩:=I.cell x c (hcl1 x c e);exact ⟨v,o,keep _ _ ho,hd⟩
 ·show upd H2 s2.heap.objs.size _ (s2.heap.objs.size+1)=none;rw [aN (Nat.ne_of_gt (Nat.lt_succ_self _))];exact frC
 ·show upd H2 s2.heap.objs.size _ c=none;rw [aN (Nat.ne_of_lt (cl_lt x c (hcl1 x c e)))];exact I.freeC x c (hcl1 x c e)
 ·exact I.hok.laid keep (Nat.le_refl _) ⟨Nat.zero_le _,[],n0,.nil,ha⟩
 ·show (oY ixs σ).length=N'.length;unfold oY;rw [List.length_map];exact SC.len
def bD8 {X:Cx} {pins:List (Addr×Obj)} {σ σ':St} {H2 H':Hp} {s2 s':Shared} {N':List Str} {sc:Scope} {cl:List (Str×Addr)} {fp:List Addr} {C:Addr}
  (I:Inv X pins σ H2 s2) (hf:∀ b∈fp,jD X pins H2 b) (J:Inv (blk X N' sc cl C s2 H2 fp) [] σ' H' s'):Inv X pins σ H' s' :=
 I.call' (ch:=fp) J.os J.base J.hok J.bare fun b hb=>⟨(hf b hb).2.2.2.1,(hf b hb).2.1,(hf b hb).2.2.2.2.1,(hf b hb).2.2.2.2.2⟩
def aD2 {prog:Program} {w:World} {A:Around} {R:Result->Shared->Prop} {s:Shared} {elt target iter:Expr} {ifs:List Expr} {scope:Scope} {pos:Pos} {it acc:Value} {env:Env} (I:Nat->Shared->Prop)
  (turn:∀ n s,I n s->wpAny (model prog w) A (pyNext it) (fun r s₁=>match r with
   | none=>R (.ok .next) s₁
   | some v=>wpAny (model prog w) A (letOwnedTupleGo target it v) (fun _ t₁=>wpAny (model prog w) A (assign target env v) (fun _ s₂ =>
     wpAny (model prog w) A (forIn ifs true fun c r=>if r=true then do let ok <- isTrue c env (eval c env);pure (ForInStep.yield ok) else pure (ForInStep.yield r)) (fun ok s₃ =>
      if ok=true then wpAny (model prog w) A (eval elt env) (fun x s₄ =>
       wpAny (model prog w) A (call (.builtin "list.append") [acc,x]) (fun _ s₅=>∃ m,m < n/\I m s₅) (fun _ _=>False) s₄) (fun _ _=>False) s₃
      else ∃ m,m < n/\I m s₃) (fun _ _=>False) s₂) (fun _ _=>False) t₁) (fun _ _=>False) s₁) (fun _ _=>False) s)
  (n:Nat) (h:I n s):codeAny (model prog w) A (.compLoop (.ListComp elt [⟨target,iter,ifs,0⟩] scope pos) 0 it acc env) R s:=by
 refine codeAny_loop rfl I (fun n s hI=>?_) n h;show wpAny _ A ((compTurn (.ListComp elt [⟨target,iter,ifs,0⟩] scope pos) 0 it acc env).onRaise (fun x=>do noteFrame x env;theTreesLotGoes x)) _ _ s;refine wpAny_noted (wpAny_noRaise ?_);rw [compTurn_list];refine wpAny_bind (wpAny_standAt (wpAny_bind (thn (turn n s hI) fun r s₁ h₁=>?_)));cases r with
 | none=>exact wpAny_pure h₁
 | some v =>
  refine wpAny_bind (thn h₁ fun _ t₁ h₂=>wpAny_bind (thn h₂ fun _ s₂ h₃=>wpAny_bind (thn h₃ fun ok s₃ h₄=>?_)));cases ok with
  | false=>exact wpAny_pure ⟨rfl,h₄⟩
  | true=>exact wpAny_bind (wpAny_bind (thn h₄ fun x s₄ h₅=>wpAny_bind (thn h₅ fun _ s₅ h₆=>wpAny_pure (wpAny_pure ⟨rfl,h₆⟩))))
def PIf (X:Cx) (ifs:List Expr) (t:TT):Prop :=
 ∀ (pins:List (Addr×Obj)) (s:Shared) (σ:St) (H:Hp) (Q:Bool->Hp->Prop),Inv X pins σ H s->t σ H Q ->
  wpAny (model X.prog X.w) X.A (forIn ifs true fun c r=>if r=true then do let ok <- isTrue c X.env (eval c X.env);pure (ForInStep.yield ok) else pure (ForInStep.yield r)) (TP X pins σ Q) X.xe s
def dL8:TT:=fun _ H Q=>Q true H
def bD9 {X:Cx}:PIf X [] dL8:=fun _ _ _ H _ I h=>wpAny_tests_nil ⟨H,I,h⟩
def bE0 {X:Cx} {c:Expr} {t:TT} (h:PT X c t):PIf X [c] t:=fun pins s σ H Q I hw=>wpAny_tests_one (h pins s σ H Q I hw)
def bP6 (J:It) (g:TG) (tt:TT) (te:TE) (acc:Addr) (Fin:Hp->Prop) (W:Nat->Nat->List V->St->Hp->Prop):Prop :=
 ∀ i m ys σ H,W i m ys σ H->(J.stop i H/\H acc=some (.lst ys)/\Fin H) \/
  (J.go i H/\∀ x H',J.yld i H x H'->g x σ H' fun σ2 H3=>tt σ2 H3 fun b H4 =>
   if b=true then te σ2 H4 fun y H5=>H5 acc=some (.lst ys)/\ys.length < sizeLine/\∃ m',m' < m/\W (i+1) m' (ys++[y]) σ2 (upd H5 acc (.lst (ys++[y])))
   else ∃ m',m' < m/\W (i+1) m' ys σ2 H4)
def yZ (ixs:List (Option Nat)) (wi:TI) (g:TG) (tt:TT) (te:TE):TE:=fun σ H Q=>wi σ H fun J H2=>∀ acc,H2 acc=none ->
 ∃ W:Nat->Nat->List V->St->Hp->Prop,(∃ m,W 0 m [] (oY ixs σ) (upd H2 acc (.lst [])))/\bP6 J g tt te acc (Q (.ref acc)) W
section
variable {X:Cx} {tg iter elt:Expr} {ifs:List Expr} {sc S:Scope} {N':List Str} {ixs:List (Option Nat)} {pos:Pos} {wi:TI} {g:TG} {tt:TT} {te:TE}
def uC {pins:List (Addr×Obj)} {σ:St} {H2:Hp} {s2:Shared} {it:Addr} {fp:List Addr} {tn:Nat->Heap->Prop} {J:It} {cl:List (Str×Addr)} {R:Value->Addr->Result->Shared->Prop} {Fin:Hp->Prop} {W:Nat->Nat->List V->St->Hp->Prop} {m0:Nat}
  (hxe:X.xe=fun _ _=>False) (hc:X.calm=true) (hS:X.env.scope=S) (SC:CompSc X.N N' ixs S sc) (hcl1:∀ x c,cl.lookup x=some c->X.env.cells.lookup x=some c) (hcl2:∀ y∈sc.names,y.2=.free->∃ c,cl.lookup y.1=some c)
  (hg:∀ cl C s H fp,PG (blk X N' sc cl C s H fp) tg g) (ht:∀ cl C s H fp,PIf (blk X N' sc cl C s H fp) ifs tt) (he:∀ cl C s H fp,PE (blk X N' sc cl C s H fp) elt te)
  (I:Inv X pins σ H2 s2) (T:Turn X.prog X.w X.K tg J fp it tn) (st:tn 0 s2.heap) (hf:∀ b∈fp,jD X pins H2 b)
  (w0:W 0 m0 [] (oY ixs σ) (upd H2 s2.heap.objs.size (.lst []))) (hW:bP6 J g tt te s2.heap.objs.size Fin W)
  (hR:∀ H' s' m,Inv X pins σ H' s'->s'.heap.Ns (s2.heap.objs.size+1) m->H' (s2.heap.objs.size+1)=none->Fin H'->R (.ref s2.heap.objs.size) (s2.heap.objs.size+1) (.ok .next) s') :
  wpAny (model X.prog X.w) X.A (newList []) (fun acc s₃=>wpAny (model X.prog X.w) X.A (newFunctionEnv sc X.env.globals cl [] X.env.qual none .none (some X.env)) (fun cenv s₄ =>
   codeAny (model X.prog X.w) X.A (.compStart (.ListComp elt [⟨tg,iter,ifs,0⟩] sc pos) 0 (.ref it) acc { cenv with scope:=relabel sc X.env }) (R acc cenv.locals) s₄) X.xe s₃) X.xe s2:=by
 refine wpAny_newObj_type (wpAny_newFunctionEnv SC.nocell (by intro y hy;simp at hy) (fun h₁ hns₁ hsb₁=>?_) SC.kind);dsimp only at hns₁ hsb₁ ⊢;have eC:(s2.heap.push { cls:=.type "list",dict:=none,data:=.seq ([]:List Value).toArray }).objs.size=s2.heap.objs.size+1:=by rw [Heap.size_push]
 rw [eC] at hns₁ hsb₁ ⊢;have old:∀ b o,s2.heap.get? b=some o->h₁.get? b=some o:=fun b o e=>hsb₁.extBut b o (Nat.ne_of_lt (Nat.lt_succ_of_lt (Heap.lt_size e))) (Heap.get?_push_of_some _ (Heap.get?_push_of_some _ e));have hacc:h₁.get? s2.heap.objs.size=some { cls:=.type "list",data:=.seq ([]:List Value).toArray }:=hsb₁.extBut _ _ (Nat.ne_of_lt (Nat.lt_succ_self _)) (Heap.get?_push_of_some _ (Heap.get?_push_size _ rfl));have hfl:∀ b∈fp,b < s2.heap.objs.size:=fun b hb=>by
  obtain ⟨o,e,_⟩:=T.obj _ _ st b hb;exact Heap.lt_size e
 have I1:=aD1 (tk:=s2.toks+([]:List (Str×Value)).length) I hS SC hcl1 hcl2 hf hfl hns₁ old hacc;have st1:tn 0 h₁:=T.keep _ _ _ st fun b _ o e=>old b o e;generalize hY:blk X N' sc cl (s2.heap.objs.size+1) s2 H2 fp=Y at I1;have hfY:∀ {H':Hp},(∀ b∈fp,H' b=none)->∀ b∈fp,jD Y [] H' b:=fun {H'} hn b hb=>by
  subst hY;refine ⟨hn b hb,Nat.ne_of_lt (Nat.lt_succ_of_lt (hfl b hb)),fun hz=>?_,.inl hb,fun x c e=>(hf b hb).2.2.2.2.1 x c (hcl1 x c e),fun p hp=>absurd (show p∈([]:List (Addr×Obj)) from hp) (by simp)⟩;rcases List.mem_cons.mp (I.stkSub b hz) with z | z
  ·exact (hf b hb).2.1 z
  ·exact (hf b hb).2.2.1 z
 have hg':PG Y tg g:=by subst hY;exact hg _ _ _ _ _
 have ht':PIf Y ifs tt:=by subst hY;exact ht _ _ _ _ _
 have he':PE Y elt te:=by subst hY;exact he _ _ _ _ _
 have hxY:Y.xe=fun _ _=>False:=by subst hY;exact hxe
 have hcY:Y.calm=true:=by subst hY;exact hc
 have hp0:∀ b∈fp,upd H2 s2.heap.objs.size (.lst []) b=none:=fun b hb=>by
  rw [aN (Nat.ne_of_lt (hfl b hb))];exact (hf b hb).1
 have loop:∀ s₃:Shared,s₃={ s2 with heap:=h₁,toks:=s2.toks+([]:List (Str×Value)).length } ->
   codeAny (model X.prog X.w) X.A (.compLoop (.ListComp elt [⟨tg,iter,ifs,0⟩] sc pos) 0 (.ref it) (.ref s2.heap.objs.size) Y.env) (R (.ref s2.heap.objs.size) (s2.heap.objs.size+1)) s₃:=by
  rintro s₃ rfl;have eP:X.prog=Y.prog:=by subst hY;rfl
  have eW:X.w=Y.w:=by subst hY;rfl
  have eA:X.A=Y.A:=by subst hY;rfl
  have eK:X.K=Y.K:=by subst hY;rfl
  have eM:model X.prog X.w=model Y.prog Y.w:=by rw [eP,eW]
  have back:∀ {σ' H' s'},Inv Y [] σ' H' s'->Inv X pins σ H' s'/\(∃ m,s'.heap.Ns (s2.heap.objs.size+1) m)/\H' (s2.heap.objs.size+1)=none:=fun {σ' H' s'} K=>by
   subst hY;obtain ⟨m,hn,_⟩:=K.loc;exact ⟨bD8 I hf K,⟨m,hn⟩,K.free⟩
  clear hY;refine aD2 (fun n s'=>∃ i ys σ' H',Inv Y [] σ' H' s'/\tn i s'.heap/\(∀ b∈fp,H' b=none)/\W i n ys σ' H') ?_ m0 ⟨0,[],_,_,I1,st1,hp0,w0⟩;rintro n s3 ⟨i,ys,σ3,H3,I3,st3,fr3,w3⟩;rcases hW i n ys σ3 H3 w3 with ⟨stop,ha3,fin⟩ | ⟨go,step⟩
  ·have td:=T.done Y eP.symm eW.symm eK.symm hcY i [] s3 σ3 H3 (fun _ _=>False) I3 (hfY fr3) st3 stop;rw [<- eA] at td;refine thn td fun r s4 ⟨hr,I4⟩=>?_;subst hr;obtain ⟨J4,⟨m,hn⟩,hC⟩:=back I4;exact hR H3 s4 m J4 hn hC fin
  ·have td:=T.item Y eP.symm eW.symm eK.symm hcY i [] s3 σ3 H3 (fun _ _=>False) I3 (hfY fr3) st3 go;rw [<- eA] at td;refine thn td fun r s4 ⟨u,hr,h4⟩=>?_;subst hr;refine thn h4 fun _ s5 ⟨x,H5,I5,r5,y5,st5,fr5⟩=>?_;have I5':=I5.pinned (hfY fr5) (T.obj _ _ st5);have unx:∀ {α:Type} {t:Sem α} {Q:α->Shared->Prop} {s:Shared},wpAny (model Y.prog Y.w) Y.A t Q Y.xe s->wpAny (model X.prog X.w) X.A t Q (fun _ _=>False) s:=fun h=>by rw [eM,eA,<- hxY];exact h
   refine thn (unx (hg' _ s5 σ3 H5 x u _ I5' r5 (step x H5 y5))) fun _ s6 ⟨σ6,H6,I6,q6⟩=>?_;refine thn (unx (ht' _ s6 σ6 H6 _ I6 q6)) fun b s7 ⟨H7,I7,q7⟩=>?_;have keepIt:∀ {σ' H' s'},Inv Y ([]++nB fp s5.heap) σ' H' s'->tn (i+1) s'.heap/\∀ b∈fp,H' b=none:=fun {σ' H' s'} K =>
    ⟨T.keep _ _ _ st5 fun b hb o e=>(K.pin (b,o) (List.mem_append_right _ (List.mem_append_right _ (fZ hb e)))).1,fun b hb=>by
     obtain ⟨o,e,d⟩:=T.obj _ _ st5 b hb;exact (K.pin (b,o) (List.mem_append_right _ (List.mem_append_right _ (fZ hb e)))).2.1⟩
   cases b with
   | false =>
    obtain ⟨m',hm,w7⟩:=q7;exact ⟨m',hm,i+1,ys,σ6,H7,I7.unpinned,(keepIt I7).1,(keepIt I7).2,w7⟩
   | true =>
    refine thn (unx (he' _ s7 σ6 H7 _ I7 q7)) fun v s8 ⟨y,H8,I8,r8,q8⟩=>?_;obtain ⟨ha8,hz8,m',hm,w8⟩:=q8;refine thn (unx (pN (X:=Y) _ s8 σ6 H8 (.ref s2.heap.objs.size) [y] (.ref s2.heap.objs.size) [v] (fun v9 H9=>v9=.non/\H9=upd H8 s2.heap.objs.size (.lst (ys++[y]))) I8 rfl (.cons r8 .nil) ⟨_,ys,y,rfl,rfl,ha8,hz8,rfl,rfl⟩)) fun v9 s9 ⟨z9,H9,I9,_,_,e9⟩=>?_;subst e9;exact ⟨m',hm,i+1,ys++[y],σ6,_,I9.unpinned,(keepIt I9).1,(keepIt I9).2,w8⟩
 have eEnv:Y.env={ (newEnv sc (s2.heap.objs.size+1) X.env.globals cl X.env.qual none .none (some X.env) builtinsNs) with scope:=relabel sc X.env }:=by subst hY;rfl
 rw [eEnv] at loop;exact codeAny_compStart_list (loop _ rfl) (T.self X.A 0 _ _ _ st1 (loop _ rfl))
def zA (hxe:X.xe=fun _ _=>False) (hc:X.calm=true) (hS:X.env.scope=S) (SC:CompSc X.N N' ixs S sc) (hi:PI X tg iter wi)
  (hg:∀ cl C s H fp,PG (blk X N' sc cl C s H fp) tg g) (ht:∀ cl C s H fp,PIf (blk X N' sc cl C s H fp) ifs tt) (he:∀ cl C s H fp,PE (blk X N' sc cl C s H fp) elt te)
  (hs:autoParam (∀ x,foldedSetIterable iter X.env x=pure x) ZI):PE X (.ListComp elt [⟨tg,iter,ifs,0⟩] sc pos) (yZ ixs wi g tt te):=by
 intro pins s σ H Q I h;obtain ⟨cl,ecl,hcl1,hcl2⟩:=nG (sc:=sc) (env:=X.env) fun y hy hf=>I.ok.has y.1 (by
  have z:=SC.free y hy hf;rw [<- hS] at z;exact z)
 rw [eval_ListComp];refine wpAny_comprehension_free (use:=none) rfl hs ecl SC.kind SC.loc ?_;refine thn (hi pins s σ H _ I h) fun v s1 h1=>thn h1 fun itv s2 h2=>?_;obtain ⟨it,fp,tn,J,H2,e,I2,T,st2,f2,hw⟩:=h2;subst e;obtain ⟨W,⟨m0,w0⟩,hW⟩:=hw _ (I2.hok.fresh (Nat.le_refl _));refine uC (R:=fun acc C=>compPost (model X.prog X.w) X.A X.xe none (EP X pins σ Q) acc C) hxe hc hS SC hcl1 hcl2 hg ht he I2 T st2 f2 w0 hW fun H' s' m J' hn hC fin=>?_;refine ⟨m,hn,fun h' hs'=>?_⟩;have hlt:=J'.lt;refine ⟨.ref s2.heap.objs.size,H',J'.turned (it:=s2.heap.objs.size+1) (t':=s'.toks) (fun b o hb e=>hs'.extBut b o hb e) hC (Nat.ne_of_gt (Nat.lt_succ_of_lt I2.lt)) (.inr (Nat.le_succ_of_le I2.sz)) (fun x c e z=>?_) (fun p hp z=>?_),rfl,fin⟩
 ·obtain ⟨v',q⟩:=I2.cell x c e;exact rP z q.lt
 ·exact rP z (Heap.lt_size (I2.pin p hp).1)
def xB {y:Str} {i:Nat} {py spos:Pos} (hxe:X.xe=fun _ _=>False) (hc:X.calm=true) (hS:X.env.scope=S) (SC:CompSc X.N N' ixs S sc) (hi:PI X tg iter wi)
  (hg:∀ cl C s H fp,PG (blk X N' sc cl C s H fp) tg g) (ht:∀ cl C s H fp,PIf (blk X N' sc cl C s H fp) ifs tt) (he:∀ cl C s H fp,PE (blk X N' sc cl C s H fp) elt te)
  (hN:X.N.Nodup) (hiN:X.N[i]?=some y) (hy:X.env.scope.names.lookup y=some .local) (hsw:swapsWith (.ListComp elt [⟨tg,iter,ifs,0⟩] sc pos) (some (.Name y py)) spos.line X.env=pure true)
  (hs:autoParam (∀ x,foldedSetIterable iter X.env x=pure x) ZI):PS X (.Assign [.Name y py] (.ListComp elt [⟨tg,iter,ifs,0⟩] sc pos) spos) (bC1 (yZ ixs wi g tt te) (yQ i)):=by
 intro pins s σ H D I h;obtain ⟨cl,ecl,hcl1,hcl2⟩:=nG (sc:=sc) (env:=X.env) fun y hy hf=>I.ok.has y.1 (by
  have z:=SC.free y hy hf;rw [<- hS] at z;exact z)
 rw [exec_Assign_Name_used _ _ _ _ hsw];refine wpAny_bind (wpAny_standAt (wpAny_bind ?_));show wpAny _ _ (do let _ <- comprehension (.ListComp elt [⟨tg,iter,ifs,0⟩] sc pos) sc X.env _ (newList []) false (eval iter X.env) (some (assign (.Name y py) X.env))) _ _ s;refine wpAny_bind (thn (wpAny_comprehension_free (use:=some (assign (.Name y py) X.env)) (Q:=fun _ s'=>SP X pins D .next s') rfl hs ecl SC.kind SC.loc ?_) fun _ s' hq=>wpAny_pure (wpAny_pure hq));refine thn (hi pins s σ H _ I h) fun v s1 h1=>thn h1 fun itv s2 h2=>?_;obtain ⟨it,fp,tn,J,H2,e,I2,T,st2,f2,hw⟩:=h2;subst e;obtain ⟨W,⟨m0,w0⟩,hW⟩:=hw _ (I2.hok.fresh (Nat.le_refl _));refine uC (R:=fun acc C=>compPost (model X.prog X.w) X.A X.xe (some (assign (.Name y py) X.env)) (fun _ s'=>SP X pins D .next s') acc C) hxe hc hS SC hcl1 hcl2 hg ht he I2 T st2 f2 w0 hW fun H' s' m J' hn hC fin=>?_;show wpAny _ _ (assign (.Name y py) X.env (.ref s2.heap.objs.size)) _ _ s';refine wpAny_assign_Name (pE (v:=.ref s2.heap.objs.size) J' hN hiN (.inl hy) rfl (fun s'' J2 hch=>?_) (.inr hy));obtain ⟨a,hsb,ha⟩:=hch;have clt:∀ x c,X.env.cells.lookup x=some c->c < s2.heap.objs.size:=fun x c e=>by
  obtain ⟨v',q⟩:=I2.cell x c e;exact q.lt
 have hlt:=I2.lt;have hne:s2.heap.objs.size+1≠a:=by
  rcases ha with z | z
  ·rw [z];exact Nat.ne_of_gt (Nat.lt_succ_of_lt hlt)
  ·exact Nat.ne_of_gt (Nat.lt_succ_of_lt (clt _ _ z))
 refine ⟨m,hn.sameBut hsb hne,fun h' hs'=>⟨_,H',J2.turned (it:=s2.heap.objs.size+1) (t':=s''.toks) (fun b o hb e=>hs'.extBut b o hb e) hC (Nat.ne_of_gt (Nat.lt_succ_of_lt hlt)) (.inr (Nat.le_succ_of_le I2.sz)) (fun x c e z=>?_) (fun p hp z=>?_),fin⟩⟩
 ·exact rP z (clt x c e)
 ·exact rP z (Heap.lt_size (I2.pin p hp).1)
end
end L2
set_option autoImplicit false
namespace DL
open PySem PySem.Spec PyProof.Rows L2
set_option genInjectivity true in
inductive W where
 | d (x:PyData)
 | c (i:Nat)
 | v (u:V)
set_option genInjectivity true in
inductive Cell where
 | l (xs:List PyData)
 | k (kvs:List (PyData×PyData))
 | t (P:Addr) (pos:Pos) (q:Str)
 | o (C:Addr) (fs:List (Str×W))
 | r (is:List Nat)
abbrev aA:=List Cell
abbrev DSt:=List (Option W)
abbrev DK:=W->aA->Prop
abbrev DTE:=DSt->aA->DK->Prop
abbrev DTT:=DSt->aA->(Bool->aA->Prop)->Prop
abbrev DTA:=DSt->aA->(List W->aA->Prop)->Prop
abbrev DTF:=DSt->aA->(List PyData->aA->Prop)->Prop
def KT (K:Frag) (a:Addr) (xs:List V):Prop :=
 ∃ (o:Obj) (its:Array Value) (n:Nat),K.lookup a=some o/\o.cls=.type "tuple"/\o.dict=none/\o.data=.seq its n/\its.size<=sizeLine/\Vals xs its.toList
def KL (K:Frag) (a:Addr) (xs:List V):Prop :=
 ∃ (o:Obj) (its:Array Value) (n:Nat),K.lookup a=some o/\o.cls=.type "list"/\o.dict=none/\o.data=.seq its n/\its.size<=sizeLine/\Vals xs its.toList
def TupAt (K:Frag) (A:List Addr) (H:Hp) (a:Addr) (xs:List V):Prop:=(a∉A/\Rd H a (.tup xs))\/KT K a xs
def LstAt (K:Frag) (A:List Addr) (H:Hp) (a:Addr) (xs:List V):Prop:=(a∉A/\Rd H a (.lst xs))\/KL K a xs
def TupAt.sq {K:Frag} {A:List Addr} {H:Hp} {a:Addr} {xs:List V} (h:TupAt K A H a xs):SqT K H a xs:=h.elim (fun z=>.inl z.2) fun ⟨o,its,n,h1,h2,_,h4⟩=>.inr ⟨o,its,n,h1,h2,h4⟩
def LstAt.sq {K:Frag} {A:List Addr} {H:Hp} {a:Addr} {xs:List V} (h:LstAt K A H a xs):SqL K H a xs:=h.elim (fun z=>.inl z.2) .inr
noncomputable def bO:PyData->Option Key
 | .int i=>some (.inl i)
 | .str x=>if PyData.strOk x=true then some (.inr x) else none
 | _=>none
mutual
noncomputable def Rep (K:Frag) (A:List Addr) (H:Hp):PyData->V->Prop
 | .none,v=>v=.non
 | .bool b,v=>v=.bl b
 | .int i,v=>v=.int i
 | .str x,v=>v=.str x/\PyData.strOk x=true
 | .list xs,v=>∃ a vs,v=.ref a/\LstAt K A H a vs/\Reps K A H xs vs
 | .tuple xs,v=>∃ a vs,v=.ref a/\TupAt K A H a vs/\Reps K A H xs vs
 | .dict kvs,v=>∃ a r,v=.ref a/\(a∉A/\Rd H a (.dK r))/\RepKs K A H kvs r
noncomputable def Reps (K:Frag) (A:List Addr) (H:Hp):List PyData->List V->Prop
 | [],vs=>vs=[]
 | x::xs,vs=>∃ v r,vs=v::r/\Rep K A H x v/\Reps K A H xs r
noncomputable def RepKs (K:Frag) (A:List Addr) (H:Hp):List (PyData×PyData)->List (Key×V)->Prop
 | [],r=>r=[]
 | p::kvs,r=>∃ q r',r=q::r'/\RepP K A H p q/\RepKs K A H kvs r'
noncomputable def RepP (K:Frag) (A:List Addr) (H:Hp):PyData×PyData->Key×V->Prop
 | (k,x),q=>bO k=some q.1/\Rep K A H x q.2
end
theorem Reps.length {K:Frag} {A:List Addr} {H:Hp}:∀ {xs:List PyData} {vs:List V},Reps K A H xs vs->vs.length=xs.length
 | [],_,h=>by rw [Reps] at h;subst h;rfl
 | _::xs,_,h=>by
  rw [Reps] at h;obtain ⟨v,r,rfl,_,h⟩:=h;rw [List.length_cons,List.length_cons,Reps.length h]
theorem Reps.get {K:Frag} {A:List Addr} {H:Hp}:∀ {xs:List PyData} {vs:List V} {i:Nat} {x:PyData},Reps K A H xs vs->xs[i]?=some x->∃ v,vs[i]?=some v/\Rep K A H x v
 | [],_,_,_,_,e=>by simp at e
 | y::xs,_,0,x,h,e=>by
  rw [Reps] at h;obtain ⟨v,r,rfl,hv,_⟩:=h;simp at e;subst e;exact ⟨v,rfl,hv⟩
 | y::xs,_,i+1,x,h,e=>by
  rw [Reps] at h;obtain ⟨v,r,rfl,_,h⟩:=h;obtain ⟨w,e1,e2⟩:=Reps.get (i:=i) h (by simpa using e);exact ⟨w,by simpa using e1,e2⟩
theorem Reps.append {K:Frag} {A:List Addr} {H:Hp} {ys:List PyData} {ws:List V} (h2:Reps K A H ys ws):∀ {xs:List PyData} {vs:List V},Reps K A H xs vs->Reps K A H (xs++ys) (vs++ws)
 | [],_,h=>by rw [Reps] at h;subst h;exact h2
 | x::xs,_,h=>by
  rw [Reps] at h;obtain ⟨v,r,rfl,hv,h⟩:=h;rw [List.cons_append,Reps];exact ⟨v,r++ws,rfl,hv,Reps.append h2 h⟩
def Reps.one {K:Frag} {A:List Addr} {H:Hp} {x:PyData} {v:V} (h:Rep K A H x v):Reps K A H [x] [v]:=by
 rw [Reps];exact ⟨v,[],rfl,h,by rw [Reps]⟩
def Reps.nil {K:Frag} {A:List Addr} {H:Hp}:Reps K A H [] []:=by rw [Reps]
def Reps.cons {K:Frag} {A:List Addr} {H:Hp} {x:PyData} {xs:List PyData} {v:V} {vs:List V} (h:Rep K A H x v) (hs:Reps K A H xs vs):Reps K A H (x::xs) (v::vs):=by
 rw [Reps];exact ⟨v,vs,rfl,h,hs⟩
theorem Reps.drop {K:Frag} {A:List Addr} {H:Hp}:∀ {xs:List PyData} {vs:List V} (n:Nat),Reps K A H xs vs->Reps K A H (xs.drop n) (vs.drop n)
 | _,_,0,h=>h
 | [],_,n+1,h=>by rw [Reps] at h;subst h;rw [List.drop_nil,List.drop_nil];exact .nil
 | x::xs,_,n+1,h=>by
  rw [Reps] at h;obtain ⟨v,r,rfl,_,h⟩:=h;exact Reps.drop n h
theorem Reps.take {K:Frag} {A:List Addr} {H:Hp}:∀ {xs:List PyData} {vs:List V} (n:Nat),Reps K A H xs vs->Reps K A H (xs.take n) (vs.take n)
 | _,_,0,h=>.nil
 | [],_,n+1,h=>by rw [Reps] at h;subst h;rw [List.take_nil,List.take_nil];exact .nil
 | x::xs,_,n+1,h=>by
  rw [Reps] at h;obtain ⟨v,r,rfl,hv,h⟩:=h;rw [List.take_succ_cons,List.take_succ_cons];exact .cons hv (Reps.take n h)
theorem Reps.set {K:Frag} {A:List Addr} {H:Hp} {x:PyData} {v:V} (hx:Rep K A H x v):∀ {xs:List PyData} {vs:List V} (i:Nat),Reps K A H xs vs->Reps K A H (xs.set i x) (vs.set i v)
 | [],_,i,h=>by rw [Reps] at h;subst h;exact .nil
 | y::xs,_,0,h=>by
  rw [Reps] at h;obtain ⟨w,r,rfl,_,h⟩:=h;exact .cons hx h
 | y::xs,_,i+1,h=>by
  rw [Reps] at h;obtain ⟨w,r,rfl,hw,h⟩:=h;exact .cons hw (Reps.set hx i h)
mutual
theorem Rep.anti {K:Frag} {A B:List Addr} {H:Hp} (hs:∀ a∈B,a∈A):∀ {d:PyData} {v:V},Rep K A H d v->Rep K B H d v
 | .none,_,h=>by rw [Rep] at h ⊢;exact h
 | .bool _,_,h=>by rw [Rep] at h ⊢;exact h
 | .int _,_,h=>by rw [Rep] at h ⊢;exact h
 | .str _,_,h=>by rw [Rep] at h ⊢;exact h
 | .list xs,_,h=>by
  rw [Rep] at h ⊢;obtain ⟨a,vs,e,h1,h2⟩:=h;exact ⟨a,vs,e,h1.elim (fun z=>.inl ⟨fun w=>z.1 (hs _ w),z.2⟩) .inr,Reps.anti hs h2⟩
 | .tuple xs,_,h=>by
  rw [Rep] at h ⊢;obtain ⟨a,vs,e,h1,h2⟩:=h;exact ⟨a,vs,e,h1.elim (fun z=>.inl ⟨fun w=>z.1 (hs _ w),z.2⟩) .inr,Reps.anti hs h2⟩
 | .dict kvs,_,h=>by
  rw [Rep] at h ⊢;obtain ⟨a,r,e,h1,h2⟩:=h;exact ⟨a,r,e,⟨fun w=>h1.1 (hs _ w),h1.2⟩,RepKs.anti hs h2⟩
theorem Reps.anti {K:Frag} {A B:List Addr} {H:Hp} (hs:∀ a∈B,a∈A):∀ {ds:List PyData} {vs:List V},Reps K A H ds vs->Reps K B H ds vs
 | [],_,h=>by rw [Reps] at h ⊢;exact h
 | x::xs,_,h=>by
  rw [Reps] at h ⊢;obtain ⟨v,r,e,h1,h2⟩:=h;exact ⟨v,r,e,Rep.anti hs h1,Reps.anti hs h2⟩
theorem RepKs.anti {K:Frag} {A B:List Addr} {H:Hp} (hs:∀ a∈B,a∈A):∀ {ds:List (PyData×PyData)} {vs:List (Key×V)},RepKs K A H ds vs->RepKs K B H ds vs
 | [],_,h=>by rw [RepKs] at h ⊢;exact h
 | p::xs,_,h=>by
  rw [RepKs] at h ⊢;obtain ⟨v,r,e,h1,h2⟩:=h;exact ⟨v,r,e,RepP.anti hs h1,RepKs.anti hs h2⟩
theorem RepP.anti {K:Frag} {A B:List Addr} {H:Hp} (hs:∀ a∈B,a∈A):∀ {p:PyData×PyData} {q:Key×V},RepP K A H p q->RepP K B H p q
 | (k,x),q,h=>by
  rw [RepP] at h ⊢;exact ⟨h.1,Rep.anti hs h.2⟩
end
mutual
theorem Rep.go {K:Frag} {A B:List Addr} {H H':Hp} (hs:∀ a o,a∉A->H a=some o->a∉B/\H' a=some o):∀ {d:PyData} {v:V},Rep K A H d v->Rep K B H' d v
 | .none,_,h=>by rw [Rep] at h ⊢;exact h
 | .bool _,_,h=>by rw [Rep] at h ⊢;exact h
 | .int _,_,h=>by rw [Rep] at h ⊢;exact h
 | .str _,_,h=>by rw [Rep] at h ⊢;exact h
 | .list xs,_,h=>by
  rw [Rep] at h ⊢;obtain ⟨a,vs,e,h1,h2⟩:=h;refine ⟨a,vs,e,?_,Reps.go hs h2⟩;rcases h1 with ⟨ha,h1 | ⟨o,h1⟩⟩ | h1
  ·exact .inl ⟨(hs a _ ha h1).1,.inl (hs a _ ha h1).2⟩
  ·exact .inl ⟨(hs a _ ha h1).1,.inr ⟨o,(hs a _ ha h1).2⟩⟩
  ·exact .inr h1
 | .tuple xs,_,h=>by
  rw [Rep] at h ⊢;obtain ⟨a,vs,e,h1,h2⟩:=h;refine ⟨a,vs,e,?_,Reps.go hs h2⟩;rcases h1 with ⟨ha,h1 | ⟨o,h1⟩⟩ | h1
  ·exact .inl ⟨(hs a _ ha h1).1,.inl (hs a _ ha h1).2⟩
  ·exact .inl ⟨(hs a _ ha h1).1,.inr ⟨o,(hs a _ ha h1).2⟩⟩
  ·exact .inr h1
 | .dict kvs,_,h=>by
  rw [Rep] at h ⊢;obtain ⟨a,r,e,⟨ha,h1⟩,h2⟩:=h;refine ⟨a,r,e,?_,RepKs.go hs h2⟩;rcases h1 with h1 | ⟨o,h1⟩
  ·exact ⟨(hs a _ ha h1).1,.inl (hs a _ ha h1).2⟩
  ·exact ⟨(hs a _ ha h1).1,.inr ⟨o,(hs a _ ha h1).2⟩⟩
theorem Reps.go {K:Frag} {A B:List Addr} {H H':Hp} (hs:∀ a o,a∉A->H a=some o->a∉B/\H' a=some o):∀ {ds:List PyData} {vs:List V},Reps K A H ds vs->Reps K B H' ds vs
 | [],_,h=>by rw [Reps] at h ⊢;exact h
 | x::xs,_,h=>by
  rw [Reps] at h ⊢;obtain ⟨v,r,e,h1,h2⟩:=h;exact ⟨v,r,e,Rep.go hs h1,Reps.go hs h2⟩
theorem RepKs.go {K:Frag} {A B:List Addr} {H H':Hp} (hs:∀ a o,a∉A->H a=some o->a∉B/\H' a=some o):∀ {ds:List (PyData×PyData)} {vs:List (Key×V)},RepKs K A H ds vs->RepKs K B H' ds vs
 | [],_,h=>by rw [RepKs] at h ⊢;exact h
 | p::xs,_,h=>by
  rw [RepKs] at h ⊢;obtain ⟨v,r,e,h1,h2⟩:=h;exact ⟨v,r,e,RepP.go hs h1,RepKs.go hs h2⟩
theorem RepP.go {K:Frag} {A B:List Addr} {H H':Hp} (hs:∀ a o,a∉A->H a=some o->a∉B/\H' a=some o):∀ {p:PyData×PyData} {q:Key×V},RepP K A H p q->RepP K B H' p q
 | (k,x),q,h=>by
  rw [RepP] at h ⊢;exact ⟨h.1,Rep.go hs h.2⟩
end
def TbOk (A:List Addr) (H:Hp) (P:Addr) (pos:Pos) (q:Str):Prop:=∃ ps,H P=some (.tbl ps)/\TriplesOk ps.toList/\(codeAmong pos ps.toList=none\/∃ c,codeAmong pos ps.toList=some (.ref c)/\c∉A/\H c=some (.ext fun h=>h.CodeRec (.ref c) q))
def TbOk.go {A A':List Addr} {H H':Hp} {P:Addr} {pos:Pos} {q:Str} (k:TbOk A H P pos q) (e:H' P=H P) (hs:∀ a o,a∉A->H a=some o->a∉A'/\H' a=some o):TbOk A' H' P pos q:=by
 obtain ⟨ps,h1,h2,h3⟩:=k;refine ⟨ps,by rw [e];exact h1,h2,h3.imp id fun ⟨c,e1,e2,e3⟩=>⟨c,e1,hs c _ e2 e3⟩⟩
noncomputable def RepW (K:Frag) (A μ:List Addr) (H:Hp):W->V->Prop
 | .d x,v=>Rep K A H x v
 | .c i,v=>∃ a,μ[i]?=some a/\v=.ref a
 | .v u,v=>v=u
noncomputable def FsOk (K:Frag) (A μ:List Addr) (H:Hp):List (Str×W)->List (Str×V)->Prop
 | [],vs=>vs=[]
 | p::fs,vs=>∃ v vr,vs=(p.1,v)::vr/\RepW K A μ H p.2 v/\FsOk K A μ H fs vr
noncomputable def IsOk (μ:List Addr):List Nat->List V->Prop
 | [],vs=>vs=[]
 | i::is,vs=>∃ a vr,vs=V.ref a::vr/\μ[i]?=some a/\IsOk μ is vr
noncomputable def wRefs:W->List Nat
 | .c i=>[i]
 | _=>[]
noncomputable def cRefs:Cell->List Nat
 | .o _ fs=>(fs.map fun p=>wRefs p.2).flatten
 | .r is=>is
 | _=>[]
noncomputable def CellOk (K:Frag) (A μ:List Addr) (H:Hp) (a:Addr):Cell->Prop
 | .l xs=>∃ vs,H a=some (.lst vs)/\Reps K A H xs vs
 | .k kvs=>∃ r,H a=some (.dK r)/\RepKs K A H kvs r
 | .t P pos q=>a=P/\TbOk A H P pos q
 | .o C fs=>∃ dx vs,H a=some (.ins C dx vs)/\FsOk K A μ H fs vs
 | .r is=>∃ vs,H a=some (.lst vs)/\IsOk μ is vs
def RepW.go {K:Frag} {A A' μ μ':List Addr} {H H':Hp} (hs:∀ a o,a∉A->H a=some o->a∉A'/\H' a=some o) {w:W} {v:V} (hm:∀ i∈wRefs w,∀ a,μ[i]?=some a->μ'[i]?=some a) (r:RepW K A μ H w v):RepW K A' μ' H' w v:=by
 cases w with
 | d y=>exact Rep.go hs r
 | v u=>exact r
 | c i =>
  obtain ⟨a,e,z⟩:=r;exact ⟨a,hm i List.mem_cons_self a e,z⟩
theorem FsOk.go {K:Frag} {A A' μ μ':List Addr} {H H':Hp} (hs:∀ a o,a∉A->H a=some o->a∉A'/\H' a=some o):∀ {fs:List (Str×W)} {vs:List (Str×V)},(∀ i∈(fs.map fun p=>wRefs p.2).flatten,∀ a,μ[i]?=some a->μ'[i]?=some a)->FsOk K A μ H fs vs->FsOk K A' μ' H' fs vs
 | [],_,_,h=>h
 | p::fs,_,hm,⟨v,vr,e,r,h⟩=>⟨v,vr,e,r.go hs fun i hi=>hm i (by rw [List.map_cons,List.flatten_cons];exact List.mem_append_left _ hi),FsOk.go hs (fun i hi=>hm i (by rw [List.map_cons,List.flatten_cons];exact List.mem_append_right _ hi)) h⟩
theorem IsOk.go {μ μ':List Addr}:∀ {is:List Nat} {vs:List V},(∀ i∈is,∀ a,μ[i]?=some a->μ'[i]?=some a)->IsOk μ is vs->IsOk μ' is vs
 | [],_,_,h=>h
 | i::is,_,hm,⟨a,vr,e,r,h⟩=>⟨a,vr,e,hm i List.mem_cons_self a r,IsOk.go (fun j hj=>hm j (List.mem_cons_of_mem _ hj)) h⟩
theorem FsOk.lt {K:Frag} {A μ:List Addr} {H:Hp}:∀ {fs:List (Str×W)} {vs:List (Str×V)},FsOk K A μ H fs vs->∀ i∈(fs.map fun p=>wRefs p.2).flatten,i < μ.length
 | [],_,_,i,hi=>by simp at hi
 | p::fs,_,⟨v,vr,e,r,h⟩,i,hi=>by
  rw [List.map_cons,List.flatten_cons] at hi;rcases List.mem_append.mp hi with hi | hi
  ·obtain ⟨f,w⟩:=p;cases w with
   | c j =>
    obtain ⟨a,e1,_⟩:=r;rw [List.mem_singleton.mp hi];exact (List.getElem?_eq_some_iff.mp e1).1
   | d x=>cases hi
   | v x=>cases hi
  ·exact FsOk.lt h i hi
theorem IsOk.lt {μ:List Addr}:∀ {is:List Nat} {vs:List V},IsOk μ is vs->∀ i∈is,i < μ.length
 | [],_,_,i,hi=>by cases hi
 | j::is,_,⟨a,vr,e,r,h⟩,i,hi=>by
  rcases List.mem_cons.mp hi with hi | hi
  ·rw [hi];exact (List.getElem?_eq_some_iff.mp r).1
  ·exact IsOk.lt h i hi
def CellOk.go {K:Frag} {A A' μ μ':List Addr} {H H':Hp} (hs:∀ a o,a∉A->H a=some o->a∉A'/\H' a=some o) {a:Addr} {c:Cell} (hm:∀ i∈cRefs c,∀ b,μ[i]?=some b->μ'[i]?=some b) (k:CellOk K A μ H a c) (e:H' a=H a):CellOk K A' μ' H' a c:=by
 cases c with
 | l xs=>obtain ⟨vs,q,r⟩:=k;exact ⟨vs,by rw [e];exact q,r.go hs⟩
 | k kvs=>obtain ⟨vs,q,r⟩:=k;exact ⟨vs,by rw [e];exact q,r.go hs⟩
 | t P pos q=>obtain ⟨rfl,q⟩:=k;exact ⟨rfl,q.go e hs⟩
 | o C fs=>obtain ⟨dx,vs,q,r⟩:=k;exact ⟨dx,vs,by rw [e];exact q,r.go hs hm⟩
 | r is=>obtain ⟨vs,q,r⟩:=k;exact ⟨vs,by rw [e];exact q,r.go hm⟩
def CellOk.lt {K:Frag} {A μ:List Addr} {H:Hp} {a:Addr} {c:Cell} (k:CellOk K A μ H a c):∀ i∈cRefs c,i < μ.length:=by
 cases c with
 | l xs=>intro i hi;cases hi
 | k kvs=>intro i hi;cases hi
 | t P pos q=>intro i hi;cases hi
 | o C fs=>obtain ⟨dx,vs,q,r⟩:=k;exact r.lt
 | r is=>obtain ⟨vs,q,r⟩:=k;exact r.lt
def aM7 (h:aA):Prop:=∀ c∈h,∀ i∈cRefs c,i < h.length
def okP (h h1:aA):Prop:=∀ (i:Nat) (c:Cell),i < h.length->h1[i]?=some c->(∀ j∈cRefs c,j < h.length)\/h[i]?=some c
structure HeapRep (K:Frag) (A μ:List Addr) (h:aA) (H:Hp):Prop where
 len:μ.length=h.length
 nd:μ.Nodup
 sub:∀ a∈μ,a∈A
 trk:∀ a∈A,∃ o,H a=some o
 cel:∀ (i:Nat) (a:Addr) (c:Cell),μ[i]?=some a->h[i]?=some c->CellOk K A μ H a c
def HeapRep.val {K:Frag} {A μ:List Addr} {h:aA} {H:Hp} (R:HeapRep K A μ h H) (i:Nat) (a:Addr) (xs:List PyData) (e1:μ[i]?=some a) (e2:h[i]?=some (Cell.l xs)):∃ vs,H a=some (.lst vs)/\Reps K A H xs vs:=R.cel i a _ e1 e2
def HeapRep.vad {K:Frag} {A μ:List Addr} {h:aA} {H:Hp} (R:HeapRep K A μ h H) (i:Nat) (a:Addr) (kvs:List (PyData×PyData)) (e1:μ[i]?=some a) (e2:h[i]?=some (Cell.k kvs)):∃ r,H a=some (.dK r)/\RepKs K A H kvs r:=R.cel i a _ e1 e2
def HeapRep.refs {K:Frag} {A μ:List Addr} {h:aA} {H:Hp} (R:HeapRep K A μ h H):aM7 h:=fun c hc i hi=>by
 obtain ⟨j,hj,rfl⟩:=List.mem_iff_getElem.mp hc;have hj':j < μ.length:=by rw [R.len];exact hj
 rw [<- R.len];exact (R.cel j μ[j] h[j] (List.getElem?_eq_getElem hj') (List.getElem?_eq_getElem hj)).lt i hi
structure EnvRep (K:Frag) (A μ:List Addr) (H:Hp) (δ:DSt) (σ:L2.St):Prop where
 len:δ.length=σ.length
 val:∀ (i:Nat) (w:W),δ[i]?=some (some w)->∃ v,σ[i]?=some (some v)/\RepW K A μ H w v
structure Ext (A A' μ μ':List Addr) (H H':Hp):Prop where
 sub:∀ a∈A,a∈A'
 new:∀ a∈A',a∈A\/H a=none
 pre:∃ ν,μ'=μ++ν/\∀ a∈ν,H a=none
 keep:∀ a o,a∉μ->H a=some o->H' a=some o
 trk:∀ a o,H a=some o->∃ o',H' a=some o'
section
variable {K:Frag} {A A' A1 A2 μ μ' μ1 μ2:List Addr} {H H' H1 H2:Hp} {h h':aA}
def Ext.refl:Ext A A μ μ H H:=⟨fun _ z=>z,fun _ z=>.inl z,⟨[],by simp,fun _ z=>(nomatch z)⟩,fun _ _ _ z=>z,fun _ o z=>⟨o,z⟩⟩
def Ext.back (x:Ext A A' μ μ' H H') {a:Addr} (e:H' a=none):H a=none:=by
 cases q:H a with
 | none=>rfl
 | some o=>obtain ⟨o',z⟩:=x.trk a o q;rw [e] at z;cases z
def Ext.trans (x:Ext A A1 μ μ1 H H1) (y:Ext A1 A2 μ1 μ2 H1 H2):Ext A A2 μ μ2 H H2:=by
 obtain ⟨ν,e1,n1⟩:=x.pre;obtain ⟨ν',e2,n2⟩:=y.pre;refine ⟨fun a z=>y.sub a (x.sub a z),fun a z=>?_,⟨ν++ν',by rw [e2,e1,List.append_assoc],fun a z=>?_⟩,fun a o ha q=>y.keep a o (fun z=>?_) (x.keep a o ha q),fun a o q=>?_⟩
 ·rcases y.new a z with z | z
  ·exact x.new a z
  ·exact .inr (x.back z)
 ·rcases List.mem_append.mp z with z | z
  ·exact n1 a z
  ·exact x.back (n2 a z)
 ·rw [e1] at z;rcases List.mem_append.mp z with z | z
  ·exact ha z
  ·rw [n1 a z] at q;cases q
 ·obtain ⟨o1,q1⟩:=x.trk a o q;exact y.trk a o1 q1
def Ext.go (x:Ext A A' μ μ' H H') (hs:∀ a∈μ,a∈A):∀ a o,a∉A->H a=some o->a∉A'/\H' a=some o:=fun a o ha q=>by
 refine ⟨fun z=>?_,x.keep a o (fun z=>ha (hs a z)) q⟩;rcases x.new a z with z | z
 ·exact ha z
 ·rw [z] at q;cases q
def Rep.ext (x:Ext A A' μ μ' H H') (hs:∀ a∈μ,a∈A) {d:PyData} {v:V} (r:Rep K A H d v):Rep K A' H' d v:=r.go (x.go hs)
def Reps.ext (x:Ext A A' μ μ' H H') (hs:∀ a∈μ,a∈A) {d:List PyData} {v:List V} (r:Reps K A H d v):Reps K A' H' d v:=r.go (x.go hs)
def RepKs.ext (x:Ext A A' μ μ' H H') (hs:∀ a∈μ,a∈A) {d:List (PyData×PyData)} {v:List (Key×V)} (r:RepKs K A H d v):RepKs K A' H' d v:=r.go (x.go hs)
def CellOk.some {a:Addr} {c:Cell} (k:CellOk K A μ H a c):∃ o,H a=some o:=by
 cases c with
 | l xs=>obtain ⟨vs,q,_⟩:=k;exact ⟨_,q⟩
 | k kvs=>obtain ⟨vs,q,_⟩:=k;exact ⟨_,q⟩
 | t P pos q=>obtain ⟨rfl,vs,q,_⟩:=k;exact ⟨_,q⟩
 | o C fs=>obtain ⟨dx,vs,q,_⟩:=k;exact ⟨_,q⟩
 | r is=>obtain ⟨vs,q,_⟩:=k;exact ⟨_,q⟩
def Ext.look (x:Ext A A' μ μ' H H') (i:Nat) (a:Addr) (e:μ[i]?=some a):μ'[i]?=some a:=by
 obtain ⟨ν,e1,_⟩:=x.pre;rw [e1,List.getElem?_append_left (List.getElem?_eq_some_iff.mp e).1];exact e
def CellOk.ext (x:Ext A A' μ μ' H H') (hs:∀ a∈μ,a∈A) {a:Addr} {c:Cell} (k:CellOk K A μ H a c) (e:H' a=H a):CellOk K A' μ' H' a c:=k.go (x.go hs) (fun i _ a=>x.look i a) e
def CellOk.anti {a:Addr} {c:Cell} (hs:∀ a∈A',a∈A) (hm:∀ i∈cRefs c,∀ b,μ[i]?=Option.some b->μ'[i]?=Option.some b) (k:CellOk K A μ H a c):CellOk K A' μ' H a c:=k.go (fun a o n e=>⟨fun z=>n (hs a z),e⟩) hm rfl
def RepW.ext (x:Ext A A' μ μ' H H') (hs:∀ a∈μ,a∈A) {w:W} {v:V} (r:RepW K A μ H w v):RepW K A' μ' H' w v:=by
 cases w with
 | d y=>exact Rep.ext x hs r
 | v u=>exact r
 | c i =>
  obtain ⟨a,e,z⟩:=r;obtain ⟨ν,e1,_⟩:=x.pre;refine ⟨a,?_,z⟩;rw [e1,List.getElem?_append_left (List.getElem?_eq_some_iff.mp e).1];exact e
def EnvRep.ext (x:Ext A A' μ μ' H H') (hs:∀ a∈μ,a∈A) {δ:DSt} {σ:L2.St} (r:EnvRep K A μ H δ σ):EnvRep K A' μ' H' δ σ :=
 ⟨r.len,fun i w e=>by
  obtain ⟨v,e1,r1⟩:=r.val i w e;exact ⟨v,e1,r1.ext x hs⟩⟩
def EnvRep.set {δ:DSt} {σ:L2.St} {w:W} {v:V} (r:EnvRep K A μ H δ σ) (i:Nat) (rw':RepW K A μ H w v):EnvRep K A μ H (δ.set i (some w)) (σ.set i (some v)):=by
 refine ⟨by rw [List.length_set,List.length_set];exact r.len,fun j u e=>?_⟩
 by_cases hj:i=j
 ·subst hj;have hi:i < δ.length:=by
   have:=(List.getElem?_eq_some_iff.mp e).1
   rwa [List.length_set] at this
  rw [List.getElem?_set_self hi] at e;cases e;exact ⟨v,List.getElem?_set_self (by rw [<- r.len];exact hi),rw'⟩
 ·rw [List.getElem?_set_ne hj] at e ⊢;exact r.val j u e
def aW {p:Addr} {o:HO} (hp:H p=none):Ext A A μ μ H (upd H p o) :=
 ⟨fun _ z=>z,fun _ z=>.inl z,⟨[],by simp,fun _ z=>(nomatch z)⟩,fun a o' _ q=>by rw [aN (aR q hp)];exact q,fun a o' q=>⟨o',by rw [aN (aR q hp)];exact q⟩⟩
def HeapRep.fresh {p:Addr} {o:HO} (R:HeapRep K A μ h H) (hp:H p=none):HeapRep K A μ h (upd H p o) :=
 ⟨R.len,R.nd,R.sub,fun a z=>by
  obtain ⟨o',q⟩:=R.trk a z;exact ⟨o',by rw [aN (aR q hp)];exact q⟩,fun i a c e1 e2=>by
  have k:=R.cel i a c e1 e2;obtain ⟨o',q⟩:=k.some;exact k.ext (aW (μ:=μ) hp) R.sub (aN (aR q hp))⟩
def HeapRep.notA {p:Addr} (R:HeapRep K A μ h H) (hp:H p=none):p∉A:=fun z=>by
 obtain ⟨o,q⟩:=R.trk p z;rw [hp] at q;cases q
def dJ {p:Addr} {xs:List PyData} {vs:List V} (R:HeapRep K A μ h H) (hp:H p=none) (r:Reps K A H xs vs):Rep K A (upd H p (.tup vs)) (.tuple xs) (.ref p):=by
 rw [Rep];exact ⟨p,vs,rfl,.inl ⟨R.notA hp,.inl aU⟩,r.ext (aW (μ:=μ) hp) R.sub⟩
def bY {p:Addr} {o:HO} (hp:H p=none):Ext A (p::A) μ (μ++[p]) H (upd H p o) :=
 ⟨fun _ z=>List.mem_cons_of_mem _ z,fun a z=>(List.mem_cons.mp z).elim (fun e=>.inr (by rw [e];exact hp)) .inl,⟨[p],rfl,fun a z=>by rw [List.mem_singleton.mp z];exact hp⟩,
  fun a o' _ q=>by rw [aN (aR q hp)];exact q,fun a o' q=>⟨o',by rw [aN (aR q hp)];exact q⟩⟩
def jE {p:Addr} {o:HO} {c:Cell} (R:HeapRep K A μ h H) (hp:H p=none) (hc:CellOk K (p::A) (μ++[p]) (upd H p o) p c):HeapRep K (p::A) (μ++[p]) (h++[c]) (upd H p o):=by
 have nA:=R.notA hp;have X:Ext A (p::A) μ (μ++[p]) H (upd H p o):=bY hp;refine ⟨by rw [List.length_append,List.length_append,R.len];rfl,?_,fun a z=>?_,fun a z=>?_,fun i a ys e1 e2=>?_⟩
 ·rw [List.nodup_append];refine ⟨R.nd,(by simp),fun a ha b hb=>?_⟩;rw [List.mem_singleton.mp hb];rintro rfl;exact nA (R.sub _ ha)
 ·rcases List.mem_append.mp z with z | z
  ·exact List.mem_cons_of_mem _ (R.sub a z)
  ·rw [List.mem_singleton.mp z];exact List.mem_cons_self
 ·rcases List.mem_cons.mp z with e | z
  ·subst e;exact ⟨_,aU⟩
  ·obtain ⟨o',q⟩:=R.trk a z;exact ⟨o',by rw [aN (aR q hp)];exact q⟩
 ·by_cases hi:i < μ.length
  ·rw [List.getElem?_append_left hi] at e1;rw [List.getElem?_append_left (by rw [<- R.len];exact hi)] at e2;have k:=R.cel i a ys e1 e2;obtain ⟨o',q⟩:=k.some;exact k.ext X R.sub (aN (aR q hp))
  ·have hle:μ.length<=i:=Nat.le_of_not_lt hi;rw [List.getElem?_append_right hle] at e1;rw [List.getElem?_append_right (by rw [<- R.len];exact hle),<- R.len] at e2;have hz:i - μ.length=0:=by
    have:=(List.getElem?_eq_some_iff.mp e1).1;simp at this;omega
   rw [hz] at e1 e2;simp at e1 e2;subst e1 e2;exact hc
def dM {p:Addr} {xs:List PyData} {vs:List V} (R:HeapRep K A μ h H) (hp:H p=none) (r:Reps K A H xs vs):HeapRep K (p::A) (μ++[p]) (h++[(Cell.l xs)]) (upd H p (.lst vs))/\aM7 h :=
 ⟨jE R hp ⟨vs,aU,r.ext (bY (μ:=μ) hp) R.sub⟩,R.refs⟩
def xC {p:Addr} {xs:List (PyData×PyData)} {vs:List (Key×V)} (R:HeapRep K A μ h H) (hp:H p=none) (r:RepKs K A H xs vs):HeapRep K (p::A) (μ++[p]) (h++[(Cell.k xs)]) (upd H p (.dK vs)) :=
 jE R hp ⟨vs,aU,r.ext (bY (μ:=μ) hp) R.sub⟩
def Rep.upd {p:Addr} {o:HO} (hp:p∈A) {d:PyData} {v:V} (r:Rep K A H d v):Rep K A (L2.upd H p o) d v:=r.go fun a o' ha q=>⟨ha,by rw [aN (fun e=>ha (by rw [e];exact hp))];exact q⟩
def Reps.upd {p:Addr} {o:HO} (hp:p∈A) {d:List PyData} {v:List V} (r:Reps K A H d v):Reps K A (L2.upd H p o) d v:=r.go fun a o' ha q=>⟨ha,by rw [aN (fun e=>ha (by rw [e];exact hp))];exact q⟩
def RepKs.upd {p:Addr} {o:HO} (hp:p∈A) {d:List (PyData×PyData)} {v:List (Key×V)} (r:RepKs K A H d v):RepKs K A (L2.upd H p o) d v:=r.go fun a o' ha q=>⟨ha,by rw [aN (fun e=>ha (by rw [e];exact hp))];exact q⟩
def CellOk.upd {p a:Addr} {o:HO} {c:Cell} (hp:p∈A) (ne:a≠p) (k:CellOk K A μ H a c):CellOk K A μ (L2.upd H p o) a c:=k.go (fun b o hb e=>⟨hb,by rw [aN (fun z=>hb (by rw [z];exact hp))];exact e⟩) (fun _ _ _ e=>e) (aN ne)
def eS {p:Addr} {o o0:HO} (hp:p∈μ) (h0:H p=some o0):Ext A A μ μ H (upd H p o) :=
 ⟨fun _ z=>z,fun _ z=>.inl z,⟨[],by simp,fun _ z=>(nomatch z)⟩,fun a o' ha q=>by rw [aN (fun e=>ha (by rw [e];exact hp))];exact q,fun a o' q=>by
  by_cases e:a=p
  ·subst e;exact ⟨_,aU⟩
  ·exact ⟨o',by rw [aN e];exact q⟩⟩
def gU {p:Addr} {i:Nat} {o:HO} {c:Cell} (R:HeapRep K A μ h H) (hp:μ[i]?=some p) (hc:CellOk K A μ (upd H p o) p c):HeapRep K A μ (h.set i c) (upd H p o):=by
 have hm:p∈μ:=List.mem_of_getElem? hp;have hA:=R.sub p hm;refine ⟨by rw [List.length_set];exact R.len,R.nd,R.sub,fun a z=>?_,fun j a ys e1 e2=>?_⟩
 ·by_cases e:a=p
  ·subst e;exact ⟨_,aU⟩
  ·obtain ⟨o',q⟩:=R.trk a z;exact ⟨o',by rw [aN e];exact q⟩
 ·by_cases hj:i=j
  ·subst hj;rw [hp] at e1;cases e1;have hi:i < h.length:=by rw [<- R.len];exact (List.getElem?_eq_some_iff.mp hp).1
   rw [List.getElem?_set_self hi] at e2;cases e2;exact hc
  ·rw [List.getElem?_set_ne hj] at e2;have ne:a≠p:=fun e=>by
    subst e;have h1:=List.getElem?_eq_some_iff.mp e1;have h2:=List.getElem?_eq_some_iff.mp hp;exact hj ((List.getElem_inj R.nd).mp (h2.2.trans h1.2.symm))
   exact (R.cel j a ys e1 e2).upd hA ne
def gB {p:Addr} {i:Nat} {xs:List PyData} {vs:List V} (R:HeapRep K A μ h H) (hp:μ[i]?=some p) (r:Reps K A H xs vs):HeapRep K A μ (h.set i (Cell.l xs)) (upd H p (.lst vs)) :=
 gU R hp ⟨vs,aU,r.upd (R.sub p (List.mem_of_getElem? hp))⟩
def uD {p:Addr} {i:Nat} {xs:List (PyData×PyData)} {vs:List (Key×V)} (R:HeapRep K A μ h H) (hp:μ[i]?=some p) (r:RepKs K A H xs vs):HeapRep K A μ (h.set i (Cell.k xs)) (upd H p (.dK vs)) :=
 gU R hp ⟨vs,aU,r.upd (R.sub p (List.mem_of_getElem? hp))⟩
def nJ {p:Addr} {o:HO} (R:HeapRep K A μ h H) (hA:p∈A) (hn:p∉μ):HeapRep K A μ h (upd H p o):=by
 refine ⟨R.len,R.nd,R.sub,fun a z=>?_,fun j a ys e1 e2=>?_⟩
 ·by_cases e:a=p
  ·subst e;exact ⟨_,aU⟩
  ·obtain ⟨o',q⟩:=R.trk a z;exact ⟨o',by rw [aN e];exact q⟩
 ·exact (R.cel j a ys e1 e2).upd hA fun e=>hn (by rw [<- e];exact List.mem_of_getElem? e1)
def gW {p:Addr} {xs:List PyData} (R:HeapRep K A (μ++[p]) (h++[(Cell.l xs)]) H) (hr:aM7 h):HeapRep K (A.filter fun a=>decide (a≠p)) μ h H/\Rep K (A.filter fun a=>decide (a≠p)) H (.list xs) (.ref p):=by
 have hl:μ.length=h.length:=by
  have:=R.len
  simpa using this
 have an:∀ a∈A.filter (fun a=>decide (a≠p)),a∈A:=fun a z=>(List.mem_filter.mp z).1;refine ⟨⟨hl,(List.nodup_append.mp R.nd).1,fun a z=>?_,fun a z=>R.trk a (an a z),fun i a ys e1 e2=>?_⟩,?_⟩
 ·refine List.mem_filter.mpr ⟨R.sub a (List.mem_append_left _ z),?_⟩;have:=(List.nodup_append.mp R.nd).2.2 a z p List.mem_cons_self
  simpa using this
 ·exact (R.cel i a ys (by rw [List.getElem?_append_left (List.getElem?_eq_some_iff.mp e1).1];exact e1) (by rw [List.getElem?_append_left (List.getElem?_eq_some_iff.mp e2).1];exact e2)).anti an fun j hj b eb=>by
   have hlt:j < μ.length:=by rw [hl];exact hr ys (List.mem_of_getElem? e2) j hj
   rw [List.getElem?_append_left hlt] at eb;exact eb
 ·obtain ⟨vs,q,r⟩:=R.val μ.length p xs (by simp) (by rw [hl];simp);rw [Rep];exact ⟨p,vs,rfl,.inl ⟨fun z=>by simpa using (List.mem_filter.mp z).2,.inl q⟩,r.anti an⟩
def jF {p:Addr} (R:HeapRep K A μ h H) (hp:H p=none) (x:Ext A A' μ (μ'++[p]) H H') (hm:∃ ν,μ'=μ++ν):Ext A (A'.filter fun a=>decide (a≠p)) μ μ' H H':=by
 obtain ⟨ν,e,n⟩:=x.pre;obtain ⟨ν',e'⟩:=hm;refine ⟨fun a z=>List.mem_filter.mpr ⟨x.sub a z,?_⟩,fun a z=>x.new a (List.mem_filter.mp z).1,⟨ν',e',fun a z=>n a ?_⟩,x.keep,x.trk⟩
 ·have:a≠p:=fun q=>R.notA hp (by rw [<- q];exact z)
  simpa using this
 ·rw [e',List.append_assoc] at e;rw [<- List.append_cancel_left e];exact List.mem_append_left _ z
end
def Ab (K:Frag) (A μ:List Addr) (δ:DSt) (h:aA) (σ:L2.St) (H:Hp):Prop:=HeapRep K A μ h H/\EnvRep K A μ H δ σ
def up (K:Frag) (t:DTE):TE:=fun σ H Q=>∃ (δ:DSt) (h:aA) (A μ:List Addr) (k:DK),Ab K A μ δ h σ H/\t δ h k /\
 ∀ w h' v H' A' μ',k w h'->Ext A A' μ μ' H H'->HeapRep K A' μ' h' H'->RepW K A' μ' H' w v->Q v H'
def upT (K:Frag) (t:DTT):TT:=fun σ H Q=>∃ (δ:DSt) (h:aA) (A μ:List Addr) (k:Bool->aA->Prop),Ab K A μ δ h σ H/\t δ h k /\
 ∀ b h' H' A' μ',k b h'->Ext A A' μ μ' H H'->HeapRep K A' μ' h' H'->Q b H'
noncomputable def RepWs (K:Frag) (A μ:List Addr) (H:Hp):List W->List V->Prop
 | [],vs=>vs=[]
 | w::ws,vs=>∃ v r,vs=v::r/\RepW K A μ H w v/\RepWs K A μ H ws r
def upA (K:Frag) (t:DTA):TA:=fun σ H Q=>∃ (δ:DSt) (h:aA) (A μ:List Addr) (k:List W->aA->Prop),Ab K A μ δ h σ H/\t δ h k /\
 ∀ ws h' vs H' A' μ',k ws h'->Ext A A' μ μ' H H'->HeapRep K A' μ' h' H'->RepWs K A' μ' H' ws vs->Q vs H'
def upF (K:Frag) (t:DTF):TE:=fun σ H Q=>∃ (δ:DSt) (h:aA) (A μ:List Addr) (k:List PyData->aA->Prop),Ab K A μ δ h σ H/\t δ h k /\
 ∀ xs h' a H' A' μ',k xs h'->Ext A A' μ (μ'++[a]) H H'->(∃ ν,μ'=μ++ν)->H a=none->HeapRep K A' (μ'++[a]) (h'++[(Cell.l xs)]) H'/\aM7 h'->Q (.ref a) H'
def DE (X:Cx) (e:Expr) (t:DTE):Prop:=PE X e (up X.K t)
def DT (X:Cx) (e:Expr) (t:DTT):Prop:=PT X e (upT X.K t)
def DW (X:Cx) (e:Expr) (t:DTT):Prop:=PW X e (upT X.K t)
def DA (X:Cx) (es:List Expr) (t:DTA):Prop:=PA X es (upA X.K t)
def DF (X:Cx) (e:Expr) (t:DTF):Prop:=PE X e (upF X.K t)
def aG {X:Cx} {e:Expr} {t t':TE} (h:PE X e t) (m:∀ σ H Q,t' σ H Q->t σ H Q):PE X e t':=fun pins s σ H Q I q=>h pins s σ H Q I (m σ H Q q)
def iO {X:Cx} {e:Expr} {t t':TT} (h:PT X e t) (m:∀ σ H Q,t' σ H Q->t σ H Q):PT X e t':=fun pins s σ H Q I q=>h pins s σ H Q I (m σ H Q q)
def rQ {X:Cx} {e:Expr} {t t':TT} (h:PW X e t) (m:∀ σ H Q,t' σ H Q->t σ H Q):PW X e t':=fun wh pins s σ H Q I q=>h wh pins s σ H Q I (m σ H Q q)
def rR {X:Cx} {e:List Expr} {t t':TA} (h:PA X e t) (m:∀ σ H Q,t' σ H Q->t σ H Q):PA X e t':=fun pos pins s σ H Q I q=>h pos pins s σ H Q I (m σ H Q q)
def bF {X:Cx} {e:Stmt} {t t':TS} (h:PS X e t) (m:∀ D σ H,t' D σ H->t D σ H):PS X e t':=fun pins s σ H D I q=>h pins s σ H D I (m D σ H q)
def jS {X:Cx} {e:List Stmt} {t t':TS} (h:PSs X e t) (m:∀ D σ H,t' D σ H->t D σ H):PSs X e t':=fun pins s σ H D I q=>h pins s σ H D I (m D σ H q)
section
variable {X:Cx} {a b e:Expr} {es:List Expr} {pos:Pos} {ta tb te:DTE} {tc tA tB:DTT} {t:DTA} {tf tg:DTF}
def aD3 (i:Nat):DTE:=fun δ h Q=>match δ[i]? with
 | some (some w)=>Q w h
 | _=>False
def dv (i:Nat) {x:Str} (hN:autoParam (X.N[i]?=some x) ZR) (hv:Vis X.env.scope x:=by first | exact Or.inl rfl | exact Or.inr (Or.inl rfl) | exact Or.inr (Or.inr rfl)) (hd:autoParam ((x==("__debug__":Str))=false) ZD)
  (hcd:autoParam ((x==("__classdict__":Str))=false) ZD):DE X (.Name x pos) (aD3 i):=aG (wM hN hv hd hcd) fun σ H Q h=>by
 obtain ⟨δ,h,A,μ,k,⟨R,E⟩,q,c⟩:=h;unfold aD3 at q;cases e1:δ[i]? with
 | none=>rw [e1] at q;exact q.elim
 | some o =>
  rw [e1] at q;cases o with
  | none=>exact q.elim
  | some w =>
   obtain ⟨v,e2,r⟩:=E.val i w e1;exact ⟨v,e2,c w h v H A μ q .refl R r⟩
def dC (x:PyData):DTE:=fun _ h Q=>Q (.d x) h
def gX {x:PyData} {v:V} (r:∀ A H,Rep X.K A H x v) (he:PE X e (tC v)):DE X e (dC x):=aG he fun σ H Q h=>by
 obtain ⟨δ,h,A,μ,k,⟨R,E⟩,q,c⟩:=h;exact c _ h v H A μ q .refl R (r A H)
def cA1 {i:Int} {j}:DE X (.Constant (.int i) j pos) (dC (.int i)):=gX (fun _ _=>by rw [Rep]) bW2
def aM8 {b:Bool} {j}:DE X (.Constant (.bool b) j pos) (dC (.bool b)):=gX (fun _ _=>by rw [Rep]) cR5
def cA2 {j}:DE X (.Constant .none j pos) (dC .none):=gX (fun _ _=>by rw [Rep]) bW3
def aM9 {x:Str} {j} (hx:PyData.strOk x=true:=by decide +kernel):DE X (.Constant (.str x) j pos) (dC (.str x)):=gX (fun _ _=>by rw [Rep];exact ⟨rfl,hx⟩) bW4
def bE1 {x:Str} {v:V} {u:Value} {d:PyData} (hm:X.mg x=some u) (rv:RelV v u) (r:∀ A H,Rep X.K A H d v) (hg:autoParam (Gl X x) ZR) (hd:autoParam ((x==("__debug__":Str))=false) ZD):DE X (.Name x pos) (dC d) :=
 gX r (eE hg hm rv hd)
def bE2 (t:DTF):DTE:=fun δ h Q=>t δ h fun xs h1=>Q (.d (.list xs)) h1
def cA3 (t:DTF):DTE:=fun δ h Q=>t δ h fun xs h1=>Q (.c h1.length) (h1++[(Cell.l xs)])
def xD (h:DF X e tf):DE X e (bE2 tf):=aG h fun σ H Q q=>by
 obtain ⟨δ,h,A,μ,k,R,q,c⟩:=q;refine ⟨δ,h,A,μ,_,R,q,fun xs h' p H' A' μ' kk x hm hp R'=>?_⟩;obtain ⟨R1,r1⟩:=gW R'.1 R'.2;exact c _ h' _ H' _ μ' kk (jF R.1 hp x hm) R1 r1
def aN0 (h:DF X e tf):DE X e (cA3 tf):=aG h fun σ H Q q=>by
 obtain ⟨δ,h,A,μ,k,R,q,c⟩:=q;refine ⟨δ,h,A,μ,_,R,q,fun xs h' p H' A' μ' kk x hm hp R'=>?_⟩;have hl:μ'.length=h'.length:=by simpa using R'.1.len
 exact c _ _ _ H' A' (μ'++[p]) kk x R'.1 ⟨p,by rw [<- hl];simp,rfl⟩
def uE:DTA:=fun _ h Q=>Q [] h
def zB (te:DTE) (t:DTA):DTA:=fun δ h Q=>te δ h fun w h1=>t δ h1 fun ws h2=>Q (w::ws) h2
theorem RepWs.ext {K:Frag} {A A' μ μ':List Addr} {H H':Hp} (x:Ext A A' μ μ' H H') (hs:∀ a∈μ,a∈A):∀ {ws:List W} {vs:List V},RepWs K A μ H ws vs->RepWs K A' μ' H' ws vs
 | [],_,h=>h
 | w::ws,_,h=>by
  obtain ⟨v,r,e,h1,h2⟩:=h;exact ⟨v,r,e,h1.ext x hs,RepWs.ext x hs h2⟩
def fM:DA X [] uE:=rR kI fun σ H Q q=>by
 obtain ⟨δ,h,A,μ,k,R,q,c⟩:=q;exact c [] h [] H A μ q .refl R.1 rfl
def cQ (ha:DE X e te) (hr:DA X es t) (hs:autoParam (starEach (e::es) X.env=(false,eval e X.env)::starEach es X.env) ZR):DA X (e::es) (zB te t):=rR (cN ha hr hs) fun σ H Q q=>by
 obtain ⟨δ,h,A,μ,k,R,q,c⟩:=q;refine ⟨δ,h,A,μ,_,R,q,fun w h1 v H1 A1 μ1 q1 x1 R1 r1=>?_⟩;refine ⟨δ,h1,A1,μ1,_,⟨R1,R.2.ext x1 R.1.sub⟩,q1,fun ws h2 vs H2 A2 μ2 q2 x2 R2 r2=>?_⟩;exact c _ h2 _ H2 A2 μ2 q2 (x1.trans x2) R2 ⟨v,vs,rfl,r1.ext x2 R1.sub,r2⟩
noncomputable def cY:List W->Option (List PyData)
 | []=>some []
 | .d x::r=>(cY r).map (x::·)
 | .c _::_=>none
 | .v _::_=>none
theorem gY {K:Frag} {A μ:List Addr} {H:Hp}:∀ {ws:List W} {xs:List PyData} {vs:List V},cY ws=some xs->RepWs K A μ H ws vs->Reps K A H xs vs
 | [],_,_,e,h=>by cases e;subst h;exact .nil
 | .c _::_,_,_,e,_=>by cases e
 | .v _::_,_,_,e,_=>by cases e
 | .d x::r,xs,_,e,h=>by
  obtain ⟨v,vs,rfl,h1,h2⟩:=h;unfold cY at e;cases q:cY r with
  | none=>rw [q] at e;cases e
  | some ys =>
   rw [q] at e;have e':x::ys=xs:=Option.some.inj e;subst e';exact .cons h1 (gY q h2)
def dL9 (t:DTA):DTE:=fun δ h Q=>t δ h fun ws h1=>match cY ws with
 | some xs=>xs.length<=sizeLine/\Q (.d (.tuple xs)) h1
 | none=>False
def cT3 (t:DTA):DTF:=fun δ h Q=>t δ h fun ws h1=>match cY ws with
 | some xs=>xs.length<=sizeLine/\Q xs h1
 | none=>False
def cA4 {k} (h:DA X es t):DE X (.Tuple es k pos) (dL9 t):=aG (aL5 h) fun σ H Q q=>by
 obtain ⟨δ,h,A,μ,k,R,q,c⟩:=q;refine ⟨δ,h,A,μ,_,R,q,fun ws h1 vs H1 A1 μ1 q1 x1 R1 r1=>?_⟩;cases e:cY ws with
 | none=>rw [e] at q1;exact q1.elim
 | some xs =>
  rw [e] at q1;have rr:=gY e r1;refine ⟨by rw [rr.length];exact q1.1,fun p hp=>?_⟩;exact c _ h1 _ _ A1 μ1 q1.2 (x1.trans (aW hp)) (R1.fresh hp) (dJ R1 hp rr)
def aN1 (h:DA X es t):DF X (.List es pos) (cT3 t):=aG (bZ4 h) fun σ H Q q=>by
 obtain ⟨δ,h,A,μ,k,R,q,c⟩:=q;refine ⟨δ,h,A,μ,_,R,q,fun ws h1 vs H1 A1 μ1 q1 x1 R1 r1=>?_⟩;cases e:cY ws with
 | none=>rw [e] at q1;exact q1.elim
 | some xs =>
  rw [e] at q1;have rr:=gY e r1;refine ⟨by rw [rr.length];exact q1.1,fun p hp=>?_⟩;obtain ⟨ν,e1,_⟩:=x1.pre;exact c xs h1 p _ (p::A1) μ1 q1.2 (x1.trans (bY hp)) ⟨ν,e1⟩ (x1.back hp) (dM R1 hp rr)
abbrev D2:=W->W->aA->DK->Prop
noncomputable def upR (K:Frag) (r:D2):R2:=fun x y H Q=>∃ (u w:W) (h:aA) (A μ:List Addr) (k:DK),HeapRep K A μ h H/\RepW K A μ H u x/\RepW K A μ H w y/\r u w h k /\
 ∀ w h' v H' A' μ',k w h'->Ext A A' μ μ' H H'->HeapRep K A' μ' h' H'->RepW K A' μ' H' w v->Q v H'
def dOp (r:D2) (ta tb:DTE):DTE:=fun δ h Q=>ta δ h fun x h1=>tb δ h1 fun y h2=>r x y h2 Q
def uF {K:Frag} {r:D2} {σ:L2.St} {H:Hp} {Q:VK} (q:up K (dOp r ta tb) σ H Q):tOp (upR K r) (up K ta) (up K tb) σ H Q:=by
 obtain ⟨δ,h,A,μ,k,R,q,c⟩:=q;refine ⟨δ,h,A,μ,_,R,q,fun u h1 v H1 A1 μ1 q1 x1 R1 r1=>?_⟩;refine ⟨δ,h1,A1,μ1,_,⟨R1,R.2.ext x1 R.1.sub⟩,q1,fun w h2 v2 H2 A2 μ2 q2 x2 R2 r2=>?_⟩;exact ⟨u,w,h2,A2,μ2,k,R2,r1.ext x2 R1.sub,r2,q2,fun z h3 v3 H3 A3 μ3 q3 x3 R3 r3=>c z h3 v3 H3 A3 μ3 q3 ((x1.trans x2).trans x3) R3 r3⟩
def cT4 {op:Operator} {r:D2} (ho:OpR X (binaryOp op) (upR X.K r)) (ha:DE X a ta) (hb:DE X b tb):DE X (.BinOp a op b pos) (dOp r ta tb):=aG (aL0 ho ha hb) fun _ _ _ q=>uF q
def cA5 {op:CmpOp} {r:D2} (ho:OpR X (compareOp op) (upR X.K r)) (ha:DE X a ta) (hb:DE X b tb) (hm:behindInMarks op b=false:=by first | exact nobehind _ (by decide) (by decide) | rfl):DE X (.Compare a [op] [b] pos) (dOp r ta tb) :=
 aG (yR ho ha hb hm) fun _ _ _ q=>uF q
def dB (t:DTE):DTT:=fun δ h Q=>t δ h fun w h1=>match w with
 | .d (.bool b)=>Q b h1
 | _=>False
def mK {K:Frag} {σ:L2.St} {H:Hp} {Q:Bool->Hp->Prop} {t:DTE} (q:upT K (dB t) σ H Q):up K t σ H fun x H'=>∃ c,x=.bl c/\Q c H':=by
 obtain ⟨δ,h,A,μ,k,R,q,c⟩:=q;refine ⟨δ,h,A,μ,_,R,q,fun w h1 v H1 A1 μ1 q1 x1 R1 r1=>?_⟩;cases w with
 | c i=>exact q1.elim
 | v u=>exact q1.elim
 | d x =>
  cases x with
  | bool b =>
   have e:v=.bl b:=by
    have z:Rep K A1 H1 (.bool b) v:=r1;rw [Rep] at z;exact z
   exact ⟨b,e,c b h1 H1 A1 μ1 q1 x1 R1⟩
  | _=>exact q1.elim
def xE (h:DE X e te) (he:autoParam (∀ whole,isTrue e X.env whole=(do let v <- whole;standAt e.pos;holding [v] (truthy v))) ZI):DT X e (dB te):=iO (bW5 h he) fun _ _ _ q=>mK q
def cA6 {op:CmpOp} {r:D2} (ho:OpR X (compareOp op) (upR X.K r)) (ha:DE X a ta) (hb:DE X b tb) (hm:behindInMarks op b=false:=by first | exact nobehind _ (by decide) (by decide) | rfl):DT X (.Compare a [op] [b] pos) (dB (dOp r ta tb)) :=
 iO (yS ho ha hb hm) fun σ H Q q=>by
  obtain ⟨δ,h,A,μ,k,R,q1,c⟩:=mK q;exact uF ⟨δ,h,A,μ,k,R,q1,c⟩
def cT5 (t:DTT):DTT:=fun δ h Q=>t δ h fun b h1=>Q (!b) h1
def dM0 (t u:DTT):DTT:=fun δ h Q=>t δ h fun b h1=>if b=true then u δ h1 Q else Q false h1
def dOr (t u:DTT):DTT:=fun δ h Q=>t δ h fun b h1=>if b=true then Q true h1 else u δ h1 Q
def aN2 (h:DT X e tc):DT X (.UnaryOp .Not e pos) (cT5 tc):=iO (bW8 h) fun σ H Q q=>by
 obtain ⟨δ,h,A,μ,k,R,q,c⟩:=q;exact ⟨δ,h,A,μ,_,R,q,fun b h' H' A' μ' k'=>c (!b) h' H' A' μ' k'⟩
def DW.dt (h:DW X e tc):DT X e tc:=h _
def bE3 (h:DT X a tc):DW X (.BoolOp .And [a] pos) tc:=bB5 h
def cA7 (h:DT X a tc):DW X (.BoolOp .Or [a] pos) tc:=bW6 h
def cA8 (ha:DT X a tA) (hb:DW X (.BoolOp .And (b::es) pos) tB):DW X (.BoolOp .And (a::b::es) pos) (dM0 tA tB):=rQ (bW7 ha hb) fun σ H Q q=>by
 obtain ⟨δ,h,A,μ,k,R,q,c⟩:=q;refine ⟨δ,h,A,μ,_,R,q,fun b h1 H1 A1 μ1 q1 x1 R1=>?_⟩;cases b with
 | true =>
  rw [if_pos rfl] at q1;rw [if_pos rfl];exact ⟨δ,h1,A1,μ1,k,⟨R1,R.2.ext x1 R.1.sub⟩,q1,fun b h2 H2 A2 μ2 q2 x2 R2=>c b h2 H2 A2 μ2 q2 (x1.trans x2) R2⟩
 | false =>
  rw [if_neg Bool.false_ne_true] at q1;rw [if_neg Bool.false_ne_true];exact c false h1 H1 A1 μ1 q1 x1 R1
def cT6 (ha:DT X a tA) (hb:DW X (.BoolOp .Or (b::es) pos) tB):DW X (.BoolOp .Or (a::b::es) pos) (dOr tA tB):=rQ (cR6 ha hb) fun σ H Q q=>by
 obtain ⟨δ,h,A,μ,k,R,q,c⟩:=q;refine ⟨δ,h,A,μ,_,R,q,fun b h1 H1 A1 μ1 q1 x1 R1=>?_⟩;cases b with
 | false =>
  rw [if_neg Bool.false_ne_true] at q1;rw [if_neg Bool.false_ne_true];exact ⟨δ,h1,A1,μ1,k,⟨R1,R.2.ext x1 R.1.sub⟩,q1,fun b h2 H2 A2 μ2 q2 x2 R2=>c b h2 H2 A2 μ2 q2 (x1.trans x2) R2⟩
 | true =>
  rw [if_pos rfl] at q1;rw [if_pos rfl];exact c true h1 H1 A1 μ1 q1 x1 R1
def bP7 (ta tb:DTE):DTE:=fun δ h Q=>ta δ h fun w h1=>match w with
 | .d (.bool b)=>if b=true then tb δ h1 Q else Q (.d (.bool false)) h1
 | _=>False
def dM1 (ta tb:DTE):DTE:=fun δ h Q=>ta δ h fun w h1=>match w with
 | .d (.bool b)=>if b=true then Q (.d (.bool true)) h1 else tb δ h1 Q
 | _=>False
def cT7 (ta:DTE):DTE:=fun δ h Q=>ta δ h fun w h1=>match w with
 | .d (.bool b)=>Q (.d (.bool (!b))) h1
 | _=>False
def eT {K:Frag} {A μ:List Addr} {H:Hp} {b:Bool} {v:V} (r:RepW K A μ H (.d (.bool b)) v):v=.bl b:=by
 have z:Rep K A H (.bool b) v:=r;rw [Rep] at z;exact z
def bE {K:Frag} {A μ:List Addr} {H:Hp} {b:Bool}:RepW K A μ H (.d (.bool b)) (.bl b):=by
 show Rep K A H (.bool b) (.bl b);rw [Rep]
def bG {K:Frag} {A μ:List Addr} {H:Hp} {b:Int} {v:V} (r:RepW K A μ H (.d (.int b)) v):v=.int b:=by
 have z:Rep K A H (.int b) v:=r;rw [Rep] at z;exact z
def nK {K:Frag} {A μ:List Addr} {H:Hp} {b:Int}:RepW K A μ H (.d (.int b)) (.int b):=by
 show Rep K A H (.int b) (.int b);rw [Rep]
def xF {op} (h:DE X a te):DE X (.BoolOp op [a] pos) te:=bW9 h
def aN3 (ha:DE X a ta) (hb:DE X (.BoolOp .And (b::es) pos) tb):DE X (.BoolOp .And (a::b::es) pos) (bP7 ta tb):=aG (bX0 ha hb) fun σ H Q q=>by
 obtain ⟨δ,h,A,μ,k,R,q,c⟩:=q;refine ⟨δ,h,A,μ,_,R,q,fun w h1 v H1 A1 μ1 q1 x1 R1 r1=>?_⟩;cases w with
 | c i=>exact q1.elim
 | v u=>exact q1.elim
 | d x =>
  cases x with
  | bool b =>
   refine ⟨b,eT r1,?_⟩;cases b with
   | true=>exact ⟨δ,h1,A1,μ1,k,⟨R1,R.2.ext x1 R.1.sub⟩,q1,fun w h2 v H2 A2 μ2 q2 x2 R2 r2=>c w h2 v H2 A2 μ2 q2 (x1.trans x2) R2 r2⟩
   | false=>exact c _ h1 _ H1 A1 μ1 q1 x1 R1 bE
  | _=>exact q1.elim
def cT8 (ha:DE X a ta) (hb:DE X (.BoolOp .Or (b::es) pos) tb):DE X (.BoolOp .Or (a::b::es) pos) (dM1 ta tb):=aG (cR9 ha hb) fun σ H Q q=>by
 obtain ⟨δ,h,A,μ,k,R,q,c⟩:=q;refine ⟨δ,h,A,μ,_,R,q,fun w h1 v H1 A1 μ1 q1 x1 R1 r1=>?_⟩;cases w with
 | c i=>exact q1.elim
 | v u=>exact q1.elim
 | d x =>
  cases x with
  | bool b =>
   refine ⟨b,eT r1,?_⟩;cases b with
   | false=>exact ⟨δ,h1,A1,μ1,k,⟨R1,R.2.ext x1 R.1.sub⟩,q1,fun w h2 v H2 A2 μ2 q2 x2 R2 r2=>c w h2 v H2 A2 μ2 q2 (x1.trans x2) R2 r2⟩
   | true=>exact c _ h1 _ H1 A1 μ1 q1 x1 R1 bE
  | _=>exact q1.elim
def cA9 (ha:DE X a ta):DE X (.UnaryOp .Not a pos) (cT7 ta):=aG (bX1 ha) fun σ H Q q=>by
 obtain ⟨δ,h,A,μ,k,R,q,c⟩:=q;refine ⟨δ,h,A,μ,_,R,q,fun w h1 v H1 A1 μ1 q1 x1 R1 r1=>?_⟩;cases w with
 | c i=>exact q1.elim
 | v u=>exact q1.elim
 | d x =>
  cases x with
  | bool b=>exact ⟨b,eT r1,c _ h1 _ H1 A1 μ1 q1 x1 R1 bE⟩
  | _=>exact q1.elim
def dIf (t:DTT) (ta tb:DTE):DTE:=fun δ h Q=>t δ h fun b h1=>if b=true then ta δ h1 Q else tb δ h1 Q
def aN4 {c:Expr} (hc:DT X c tc) (ha:DE X a ta) (hb:DE X b tb):DE X (.IfExp c a b pos) (dIf tc ta tb):=aG (aK5 hc ha hb) fun σ H Q q=>by
 obtain ⟨δ,h,A,μ,k,R,q,c⟩:=q;refine ⟨δ,h,A,μ,_,R,q,fun b h1 H1 A1 μ1 q1 x1 R1=>?_⟩;cases b with
 | true=>exact ⟨δ,h1,A1,μ1,k,⟨R1,R.2.ext x1 R.1.sub⟩,q1,fun w h2 v H2 A2 μ2 q2 x2 R2 r2=>c w h2 v H2 A2 μ2 q2 (x1.trans x2) R2 r2⟩
 | false=>exact ⟨δ,h1,A1,μ1,k,⟨R1,R.2.ext x1 R.1.sub⟩,q1,fun w h2 v H2 A2 μ2 q2 x2 R2 r2=>c w h2 v H2 A2 μ2 q2 (x1.trans x2) R2 r2⟩
end
noncomputable def ref (h:aA):W->Option PyData
 | .d x=>some x
 | .c i=>match h[i]? with
  | some (.l xs)=>some (.list xs)
  | some (.k kvs)=>some (.dict kvs)
  | _=>none
 | .v _=>none
mutual
noncomputable def See (K:Frag) (H:Hp):PyData->V->Prop
 | .none,v=>v=.non
 | .bool b,v=>v=.bl b
 | .int i,v=>v=.int i
 | .str x,v=>v=.str x
 | .list xs,v=>∃ a vs,v=.ref a/\SqL K H a vs/\Sees K H xs vs
 | .tuple xs,v=>∃ a vs,v=.ref a/\SqT K H a vs/\Sees K H xs vs
 | .dict _,_=>True
noncomputable def Sees (K:Frag) (H:Hp):List PyData->List V->Prop
 | [],vs=>vs=[]
 | x::xs,vs=>∃ v r,vs=v::r/\See K H x v/\Sees K H xs r
end
mutual
theorem Rep.see {K:Frag} {A:List Addr} {H:Hp}:∀ {d:PyData} {v:V},Rep K A H d v->See K H d v
 | .none,_,h=>by rw [Rep] at h;rw [See];exact h
 | .bool _,_,h=>by rw [Rep] at h;rw [See];exact h
 | .int _,_,h=>by rw [Rep] at h;rw [See];exact h
 | .str _,_,h=>by rw [Rep] at h;rw [See];exact h.1
 | .list xs,_,h=>by
  rw [Rep] at h;rw [See];obtain ⟨a,vs,e,h1,h2⟩:=h;exact ⟨a,vs,e,h1.sq,Reps.sees h2⟩
 | .tuple xs,_,h=>by
  rw [Rep] at h;rw [See];obtain ⟨a,vs,e,h1,h2⟩:=h;exact ⟨a,vs,e,h1.sq,Reps.sees h2⟩
 | .dict _,_,_=>by rw [See];trivial
theorem Reps.sees {K:Frag} {A:List Addr} {H:Hp}:∀ {d:List PyData} {v:List V},Reps K A H d v->Sees K H d v
 | [],_,h=>by rw [Reps] at h;rw [Sees];exact h
 | x::xs,_,h=>by
  rw [Reps] at h;rw [Sees];obtain ⟨v,r,e,h1,h2⟩:=h;exact ⟨v,r,e,Rep.see h1,Reps.sees h2⟩
end
mutual
theorem See.reads {X:Cx} {pins:List (Addr×Obj)} {σ:L2.St} {H:Hp} {s:Shared} (I:Inv X pins σ H s):∀ {d:PyData} {v:V} {u:Value},See X.K H d v->d.canLay0=true->RelV v u->∃ as,Reads s.heap u d as
 | .none,_,_,h,_,r=>by rw [See] at h;subst h;cases r;exact ⟨_,Reads.none⟩
 | .bool _,_,_,h,_,r=>by rw [See] at h;subst h;cases r;exact ⟨_,Reads.bool _⟩
 | .int _,_,_,h,_,r=>by rw [See] at h;subst h;obtain ⟨t,rfl⟩:=r;exact ⟨_,Reads.int _ _⟩
 | .str _,_,_,h,_,r=>by rw [See] at h;subst h;obtain ⟨t,rfl⟩:=r;exact ⟨_,Reads.str _ _⟩
 | .list xs,_,_,h,c,r=>by
  rw [See] at h;obtain ⟨a,vs,rfl,h1,h2⟩:=h;cases r;obtain ⟨its,rv,⟨o,n,ho,hc,_,hd⟩,_⟩:=I.list h1;rw [PyData.canLay0] at c;obtain ⟨as,z⟩:=Sees.reads I h2 c rv;exact ⟨_,Reads.list ho hc hd (by simpa using z)⟩
 | .tuple xs,_,_,h,c,r=>by
  rw [See] at h;obtain ⟨a,vs,rfl,h1,h2⟩:=h;cases r;obtain ⟨its,rv,⟨o,ho,hc,n,hd⟩,_⟩:=I.tuple h1;rw [PyData.canLay0] at c;obtain ⟨as,z⟩:=Sees.reads I h2 c rv;exact ⟨_,Reads.tuple ho hc hd (by simpa using z)⟩
 | .dict _,_,_,_,c,_=>by rw [PyData.canLay0] at c;cases c
theorem Sees.reads {X:Cx} {pins:List (Addr×Obj)} {σ:L2.St} {H:Hp} {s:Shared} (I:Inv X pins σ H s):∀ {d:List PyData} {v:List V} {u:List Value},Sees X.K H d v->PyData.canLayAll0 d=true->Vals v u->∃ as,ReadsAll s.heap u d as
 | [],_,_,h,_,r=>by rw [Sees] at h;subst h;cases r;exact ⟨_,ReadsAll.nil⟩
 | x::xs,_,_,h,c,r=>by
  rw [Sees] at h;obtain ⟨v,rr,rfl,h1,h2⟩:=h;rw [PyData.canLayAll0,Bool.and_eq_true] at c;cases r with
  | cons r1 r2 =>
   obtain ⟨as,z1⟩:=See.reads I h1 c.1 r1;obtain ⟨bs,z2⟩:=Sees.reads I h2 c.2 r2;exact ⟨_,ReadsAll.cons z1 z2⟩
end
def bM {K:Frag} {A μ:List Addr} {H:Hp} {h:aA} {w:W} {v:V} {d:PyData} (R:HeapRep K A μ h H) (r:RepW K A μ H w v) (e:ref h w=some d):See K H d v:=by
 cases w with
 | d x=>cases e;exact Rep.see r
 | v u=>cases e
 | c i =>
  obtain ⟨a,e1,rfl⟩:=r;dsimp only [DL.ref] at e;cases q:h[i]? with
  | none=>rw [q] at e;cases e
  | some cc =>
   cases cc with
   | t _ _ _=>rw [q] at e;cases e
   | o _ _=>rw [q] at e;cases e
   | r _=>rw [q] at e;cases e
   | l xs =>
    rw [q] at e;cases e;obtain ⟨vs,z1,z2⟩:=R.val i a xs e1 q;rw [See];exact ⟨a,vs,rfl,.inl (.inl z1),z2.sees⟩
   | k kvs =>
    rw [q] at e;cases e;rw [See];trivial
def bZ {K:Frag} {A μ:List Addr} {H:Hp} {h:aA} {w:W} {v:V} {xs:List PyData} (R:HeapRep K A μ h H) (r:RepW K A μ H w v) (e:ref h w=some (.list xs)):∃ a vs,v=.ref a/\SqL K H a vs/\Reps K A H xs vs:=by
 cases w with
 | d x =>
  cases e;have z:Rep K A H (.list xs) v:=r;rw [Rep] at z;obtain ⟨a,vs,e,h1,h2⟩:=z;exact ⟨a,vs,e,h1.sq,h2⟩
 | v u=>cases e
 | c i =>
  obtain ⟨a,e1,rfl⟩:=r;dsimp only [DL.ref] at e;cases q:h[i]? with
  | none=>rw [q] at e;cases e
  | some cc =>
   cases cc with
   | t _ _ _=>rw [q] at e;cases e
   | o _ _=>rw [q] at e;cases e
   | r _=>rw [q] at e;cases e
   | l ys =>
    rw [q] at e;cases e;obtain ⟨vs,z1,z2⟩:=R.val i a xs e1 q;exact ⟨a,vs,rfl,.inl (.inl z1),z2⟩
   | k kvs=>rw [q] at e;cases e
def bB {K:Frag} {A μ:List Addr} {H:Hp} {h:aA} {w:W} {v:V} {xs:List PyData} (r:RepW K A μ H w v) (e:ref h w=some (.tuple xs)):∃ a vs,v=.ref a/\TupAt K A H a vs/\Reps K A H xs vs:=by
 cases w with
 | d x =>
  cases e;have z:Rep K A H (.tuple xs) v:=r;rw [Rep] at z;exact z
 | v u=>cases e
 | c i =>
  dsimp only [DL.ref] at e;cases q:h[i]? with
  | none=>rw [q] at e;cases e
  | some cc =>
   cases cc with
   | t _ _ _=>rw [q] at e;cases e
   | o _ _=>rw [q] at e;cases e
   | r _=>rw [q] at e;cases e
   | l ys=>rw [q] at e;cases e
   | k ys=>rw [q] at e;cases e
noncomputable def cT9:D2
 | .d (.int i),.d (.int j),h,Q=>Q (.d (.int (i+j))) h
 | .d (.tuple xs),.d (.tuple ys),h,Q=>xs.length+ys.length<=sizeLine/\Q (.d (.tuple (xs++ys))) h
 | _,_,_,_=>False
noncomputable def cU0:D2
 | .d (.int i),.d (.int j),h,Q=>Q (.d (.int (i - j))) h
 | _,_,_,_=>False
noncomputable def cU1:D2
 | .d (.int i),.d (.int j),h,Q=>CMul i j/\Q (.d (.int (i*j))) h
 | _,_,_,_=>False
noncomputable def cU2:D2
 | .d (.int i),.d (.int j),h,Q=>0 < j/\Q (.d (.int (i%j))) h
 | _,_,_,_=>False
noncomputable def cU3:D2
 | .d (.int i),.d (.int j),h,Q=>bC3 i j/\Q (.d (.int (i^j.toNat))) h
 | _,_,_,_=>False
noncomputable def pQ (p:Int->Int->Bool):D2
 | .d (.int i),.d (.int j),h,Q=>Q (.d (.bool (p i j))) h
 | _,_,_,_=>False
def dEq:D2:=fun x y h Q=>match ref h x,ref h y with
 | some a,some b=>SeqAt.shaped a=true/\SeqAt.shaped b=true/\Q (.d (.bool (PyData.eqv a b))) h
 | _,_=>False
def dNe:D2:=fun x y h Q=>match ref h x,ref h y with
 | some a,some b=>SeqAt.shaped a=true/\SeqAt.shaped b=true/\Q (.d (.bool (!PyData.eqv a b))) h
 | _,_=>False
section
variable {X:Cx}
def fC {op:Value->Value->Sem Value} {f:Int->Int->PyData} {g:Int->Int->V} {C:Int->Int->Prop} {r:D2} (ho:OpR X op (rI C g)) (hf:∀ i j A H,Rep X.K A H (f i j) (g i j))
  (hr:∀ u w h k,r u w h k->∃ i j,u=.d (.int i)/\w=.d (.int j)/\C i j/\k (.d (f i j)) h):OpR X op (upR X.K r):=by
 intro pins s σ H x y v u Q I rx ry h;obtain ⟨a,b,h,A,μ,k,R,ra,rb,q,c⟩:=h;obtain ⟨i,j,rfl,rfl,hc,q⟩:=hr _ _ _ _ q;have ea:=bG ra;have eb:=bG rb;subst ea eb;exact ho pins s σ H _ _ v u Q I rx ry ⟨i,j,rfl,rfl,hc,c _ _ _ _ _ _ q .refl R (hf i j A H)⟩
def OpR.i0 {op:Value->Value->Sem Value} {g:Int->Int->V} (ho:OpR X op (rI0 g)):OpR X op (rI (fun _ _=>True) g):=fun pins s σ H x y v u Q I rx ry ⟨i,j,e1,e2,_,q⟩=>ho pins s σ H x y v u Q I rx ry ⟨i,j,e1,e2,q⟩
def jT {K:Frag} {A:List Addr} {H:Hp} {i:Int}:Rep K A H (.int i) (.int i):=by rw [Rep]
def bE4 {K:Frag} {A:List Addr} {H:Hp} {i:Bool}:Rep K A H (.bool i) (.bl i):=by rw [Rep]
def aN5:OpR X (binaryOp .Add) (fun x y H Q=>∃ a b ys,x=.ref a/\y=.ref b/\SqT X.K H a []/\SqT X.K H b ys/\Q (.ref b) H):=by
 intro pins s σ H x y v u Q I rx ry h;obtain ⟨a,b,ys,rfl,rfl,ha,hb,q⟩:=h;cases rx;cases ry;obtain ⟨its,r1,p1,_⟩:=I.tuple ha;obtain ⟨its2,r2,p2,_⟩:=I.tuple hb;have e0:its=[]:=by cases r1;rfl
 subst e0;obtain ⟨⟨cls,dd,data,sl⟩,ho,hc,n,hd⟩:=id p1;obtain ⟨⟨cls2,dd2,data2,sl2⟩,ho2,hc2,n2,hd2⟩:=id p2;simp only at hc hd hc2 hd2;subst hc hd hc2 hd2;exact concat_meets ⟨_,ho,rfl⟩ ⟨_,ho2,rfl⟩ noFill_tuple_add seq_tuple_add PySem.F.slot_tuple_add PySem.F.entry_tuple_add (PySem.F.args_tuple_add_2 _ _) (tuple_addW0 a b _ _ n n2 dd dd2 sl sl2 rfl) ⟨ho,ho2,⟨.ref b,H,I,rfl,q⟩⟩
def bE5:OpR X (binaryOp .Add) (upR X.K cT9):=by
 intro pins s σ H x y v u Q I rx ry h;obtain ⟨a,b,h,A,μ,k,R,ra,rb,q,c⟩:=h;unfold cT9 at q;split at q
 ·have ea:=bG ra;have eb:=bG rb;subst ea eb;exact bY3 pins s σ H _ _ v u Q I rx ry ⟨_,_,rfl,rfl,c _ _ _ _ _ _ q .refl R nK⟩
 ·rename_i xs ys;obtain ⟨pa,va,rfl,ta,sa⟩:=bB (h:=h) ra rfl;obtain ⟨pb,vb,rfl,tb,sb⟩:=bB (h:=h) rb rfl;have la:=sa.length;have lb:=sb.length;have all:Reps X.K A H (xs++ys) (va++vb):=sb.append sa
  by_cases e1:va=[]
  ·subst e1;have ex:xs=[]:=List.eq_nil_of_length_eq_zero la.symm;subst ex;refine aN5 pins s σ H _ _ v u Q I rx ry ⟨pa,pb,vb,rfl,rfl,ta.sq,tb.sq,c _ _ _ _ _ _ q.2 .refl R rb⟩
  ·refine bD1 pins s σ H _ _ v u Q I rx ry ⟨pa,pb,va,vb,rfl,rfl,ta.sq,tb.sq,e1,by rw [la,lb];exact q.1,fun z=>?_,fun _ p hp=>?_⟩
   ·subst z;have ey:ys=[]:=List.eq_nil_of_length_eq_zero lb.symm;subst ey;have q2:=q.2;rw [List.append_nil] at q2;exact c _ _ _ _ _ _ q2 .refl R ra
   ·exact c _ _ _ _ _ _ q.2 (aW hp) (R.fresh hp) (dJ R hp all)
 ·exact q.elim
def bE6:OpR X (binaryOp .Sub) (upR X.K cU0):=fC (f:=fun i j=>.int (i - j)) (OpR.i0 bY4) (fun _ _ _ _=>jT) fun u w h k q=>by
 unfold cU0 at q;split at q
 ·exact ⟨_,_,rfl,rfl,trivial,q⟩
 ·exact q.elim
def bE7:OpR X (binaryOp .Mult) (upR X.K cU1):=fC (f:=fun i j=>.int (i*j)) bY5 (fun _ _ _ _=>jT) fun u w h k q=>by
 unfold cU1 at q;split at q
 ·exact ⟨_,_,rfl,rfl,q.1,q.2⟩
 ·exact q.elim
def bE8:OpR X (binaryOp .Mod) (upR X.K cU2):=fC (f:=fun i j=>.int (i%j)) bY6 (fun _ _ _ _=>jT) fun u w h k q=>by
 unfold cU2 at q;split at q
 ·exact ⟨_,_,rfl,rfl,q.1,q.2⟩
 ·exact q.elim
def bE9:OpR X (binaryOp .Pow) (upR X.K cU3):=fC (f:=fun i j=>.int (i^j.toNat)) bY7 (fun _ _ _ _=>jT) fun u w h k q=>by
 unfold cU3 at q;split at q
 ·exact ⟨_,_,rfl,rfl,q.1,q.2⟩
 ·exact q.elim
def mM {p:Int->Int->Bool} (u w:W) (h:aA) (k:DK) (q:pQ p u w h k):∃ i j,u=.d (.int i)/\w=.d (.int j)/\True/\k (.d (.bool (p i j))) h:=by
 unfold pQ at q;split at q
 ·exact ⟨_,_,rfl,rfl,trivial,q⟩
 ·exact q.elim
abbrev dLt:=pQ fun i j=>decide (i < j)
abbrev dLe:=pQ fun i j=>decide (i<=j)
abbrev dGt:=pQ fun i j=>decide (j < i)
abbrev dGe:=pQ fun i j=>decide (j<=i)
def cB0:OpR X (compareOp .Lt) (upR X.K dLt):=fC (f:=fun i j=>.bool (decide (i < j))) (OpR.i0 cS6) (fun _ _ _ _=>bE4) mM
def cB1:OpR X (compareOp .LtE) (upR X.K dLe):=fC (f:=fun i j=>.bool (decide (i<=j))) (OpR.i0 cS7) (fun _ _ _ _=>bE4) mM
def cB2:OpR X (compareOp .Gt) (upR X.K dGt):=fC (f:=fun i j=>.bool (decide (j < i))) (OpR.i0 cS8) (fun _ _ _ _=>bE4) mM
def cB3:OpR X (compareOp .GtE) (upR X.K dGe):=fC (f:=fun i j=>.bool (decide (j<=i))) (OpR.i0 cS9) (fun _ _ _ _=>bE4) mM
def cB4 {n:Nat} (hr:Room n X.A):OpR X (compareOp .Eq) (upR X.K dEq):=by
 intro pins s σ H x y v u Q I rx ry h;obtain ⟨a,b,h,A,μ,k,R,ra,rb,q,c⟩:=h;unfold dEq at q;split at q
 ·rename_i da db ea eb;obtain ⟨as,z1⟩:=(bM R ra ea).reads I (SeqAt.canLay_of_shaped q.1) rx;obtain ⟨bs,z2⟩:=(bM R rb eb).reads I (SeqAt.canLay_of_shaped q.2.1) ry;exact eq_dataH z1 z2 q.1 q.2.1 hr.units ⟨.bl _,H,I,rfl,c _ _ _ _ _ _ q.2.2 .refl R bE⟩
 ·exact q.elim
def cB5 {n:Nat} (hr:Room n X.A):OpR X (compareOp .NotEq) (upR X.K dNe):=by
 intro pins s σ H x y v u Q I rx ry h;obtain ⟨a,b,h,A,μ,k,R,ra,rb,q,c⟩:=h;unfold dNe at q;split at q
 ·rename_i da db ea eb;obtain ⟨as,z1⟩:=(bM R ra ea).reads I (SeqAt.canLay_of_shaped q.1) rx;obtain ⟨bs,z2⟩:=(bM R rb eb).reads I (SeqAt.canLay_of_shaped q.2.1) ry;exact ne_dataH z1 z2 q.1 q.2.1 hr.units ⟨.bl _,H,I,rfl,c _ _ _ _ _ _ q.2.2 .refl R bE⟩
 ·exact q.elim
noncomputable def isSame:PyData->PyData->Option Bool
 | .none,.none=>some true
 | .bool a,.bool b=>some (a==b)
 | .none,.bool _=>some false
 | .bool _,.none=>some false
 | .int _,.none=>some false
 | .int _,.bool _=>some false
 | .str _,.none=>some false
 | .str _,.bool _=>some false
 | .list _,.none=>some false
 | .list _,.bool _=>some false
 | .tuple _,.none=>some false
 | .tuple _,.bool _=>some false
 | _,_=>none
noncomputable def dIs (neg:Bool):D2
 | .d a,.d b,h,Q=>match isSame a b with
  | some k=>Q (.d (.bool (if neg then !k else k))) h
  | none=>False
 | _,_,_,_=>False
def nM {K:Frag} {A:List Addr} {H:Hp} {a b:PyData} {x y:V} {v u:Value} {k:Bool} (ra:Rep K A H a x) (rb:Rep K A H b y) (rx:RelV x v) (ry:RelV y u) (e:isSame a b=some k):plainIs v u=true/\(v==u)=k:=by
 cases b with
 | none =>
  rw [Rep] at rb;subst rb;cases ry;cases a with
  | none=>rw [Rep] at ra;subst ra;cases rx;cases e;exact ⟨rfl,rfl⟩
  | bool c=>rw [Rep] at ra;subst ra;cases rx;cases e;exact ⟨rfl,rfl⟩
  | int c=>rw [Rep] at ra;subst ra;obtain ⟨t,rfl⟩:=rx;cases e;exact ⟨rfl,rfl⟩
  | str c=>rw [Rep] at ra;obtain ⟨ra,_⟩:=ra;subst ra;obtain ⟨t,rfl⟩:=rx;cases e;exact ⟨rfl,rfl⟩
  | list c=>rw [Rep] at ra;obtain ⟨p,vs,rfl,_⟩:=ra;cases rx;cases e;exact ⟨rfl,rfl⟩
  | tuple c=>rw [Rep] at ra;obtain ⟨p,vs,rfl,_⟩:=ra;cases rx;cases e;exact ⟨rfl,rfl⟩
  | dict c=>cases e
 | bool b =>
  rw [Rep] at rb;subst rb;cases ry;cases a with
  | none=>rw [Rep] at ra;subst ra;cases rx;cases e;exact ⟨rfl,rfl⟩
  | bool c=>rw [Rep] at ra;subst ra;cases rx;cases e;cases b<;>cases c<;>exact ⟨rfl,rfl⟩
  | int c=>rw [Rep] at ra;subst ra;obtain ⟨t,rfl⟩:=rx;cases e;exact ⟨rfl,rfl⟩
  | str c=>rw [Rep] at ra;obtain ⟨ra,_⟩:=ra;subst ra;obtain ⟨t,rfl⟩:=rx;cases e;exact ⟨rfl,rfl⟩
  | list c=>rw [Rep] at ra;obtain ⟨p,vs,rfl,_⟩:=ra;cases rx;cases e;exact ⟨rfl,rfl⟩
  | tuple c=>rw [Rep] at ra;obtain ⟨p,vs,rfl,_⟩:=ra;cases rx;cases e;exact ⟨rfl,rfl⟩
  | dict c=>cases e
 | _=>cases a<;>cases e
def cB6:OpR X (compareOp .Is) (upR X.K (dIs false)):=by
 intro pins s σ H x y v u Q I rx ry h;obtain ⟨a,b,h,A,μ,k,R,ra,rb,q,c⟩:=h;unfold dIs at q;split at q
 ·split at q
  ·rename_i e;obtain ⟨h1,h2⟩:=nM ra rb rx ry e;exact wpAny_is_plain h1 ⟨.bl _,H,I,by rw [h2];rfl,c _ _ _ _ _ _ q .refl R bE⟩
  ·exact q.elim
 ·exact q.elim
def aD4:OpR X (compareOp .IsNot) (upR X.K (dIs true)):=by
 intro pins s σ H x y v u Q I rx ry h;obtain ⟨a,b,h,A,μ,k,R,ra,rb,q,c⟩:=h;unfold dIs at q;split at q
 ·split at q
  ·rename_i e;obtain ⟨h1,h2⟩:=nM ra rb rx ry e;exact wpAny_isNot_plain h1 ⟨.bl _,H,I,by rw [h2];rfl,c _ _ _ _ _ _ q .refl R bE⟩
  ·exact q.elim
 ·exact q.elim
def dIx:D2:=fun x y h Q=>match ref h x,y with
 | some (.list xs),.d (.int i)=>match atI xs i with
  | some v=>Q (.d v) h
  | none=>False
 | some (.tuple xs),.d (.int i)=>match atI xs i with
  | some v=>Q (.d v) h
  | none=>False
 | _,_=>False
def uG {K:Frag} {A:List Addr} {H:Hp} {xs:List PyData} {vs:List V} {i:Int} {x:PyData} (r:Reps K A H xs vs) (e:atI xs i=some x):∃ v,atI vs i=some v/\Rep K A H x v:=by
 unfold atI at e ⊢;rw [r.length];cases q:ixN xs.length i with
 | none=>rw [q] at e;cases e
 | some j =>
  rw [q] at e;obtain ⟨v,e1,e2⟩:=r.get (i:=j) e;exact ⟨v,e1,e2⟩
def dM2:IxR X (upR X.K dIx):=by
 intro value slice pins s σ H x y v u Q I rx ry h hs;obtain ⟨a,b,h,A,μ,k,R,ra,rb,q,c⟩:=h;unfold dIx at q;split at q
 ·rename_i xs i ea;obtain ⟨p,vs,rfl,sq,rr⟩:=bZ R ra ea;have eb:=bG rb;subst eb;split at q
  ·rename_i z ez;obtain ⟨z',e1,e2⟩:=uG rr ez;exact yW value slice pins s σ H _ _ v u Q I rx ry ⟨p,vs,i,z',rfl,rfl,sq,e1,c _ _ _ _ _ _ q .refl R e2⟩ hs
  ·exact q.elim
 ·rename_i xs i ea;obtain ⟨p,vs,rfl,sq,rr⟩:=bB ra ea;have eb:=bG rb;subst eb;split at q
  ·rename_i z ez;obtain ⟨z',e1,e2⟩:=uG rr ez;exact bZ6 value slice pins s σ H _ _ v u Q I rx ry ⟨p,vs,i,z',rfl,rfl,sq.sq,e1,c _ _ _ _ _ _ q .refl R e2⟩ hs
  ·exact q.elim
 ·exact q.elim
abbrev DTO:=DSt->aA->(Option Int->aA->Prop)->Prop
noncomputable def upO (K:Frag) (t:DTO):TO:=fun σ H Q=>∃ (δ:DSt) (h:aA) (A μ:List Addr) (k:Option Int->aA->Prop),Ab K A μ δ h σ H/\t δ h k /\
 ∀ b h' H' A' μ',k b h'->Ext A A' μ μ' H H'->HeapRep K A' μ' h' H'->Q b H'
def DO (X:Cx) (e:Option Expr) (t:DTO):Prop:=PO X e (upO X.K t)
def rS {X:Cx} {e:Option Expr} {t t':TO} (h:PO X e t) (m:∀ σ H Q,t' σ H Q->t σ H Q):PO X e t':=fun pins s σ H Q I q=>h pins s σ H Q I (m σ H Q q)
def bF0:DTO:=fun _ h Q=>Q none h
def cU4 (t:DTE):DTO:=fun δ h Q=>t δ h fun w h1=>match w with
 | .d (.int i)=>Q (some i) h1
 | _=>False
def bF1:DO X none bF0:=rS bC9 fun σ H Q q=>by
 obtain ⟨δ,h,A,μ,k,R,q,c⟩:=q;exact c none h H A μ q .refl R.1
def bF2 {e:Expr} {te:DTE} (he:DE X e te):DO X (some e) (cU4 te):=rS (bD0 he) fun σ H Q q=>by
 obtain ⟨δ,h,A,μ,k,R,q,c⟩:=q;refine ⟨δ,h,A,μ,_,R,q,fun w h1 v H1 A1 μ1 q1 x1 R1 r1=>?_⟩;cases w with
 | c i=>exact q1.elim
 | v u=>exact q1.elim
 | d x =>
  cases x with
  | int i=>exact ⟨i,bG r1,c _ h1 H1 A1 μ1 q1 x1 R1⟩
  | _=>exact q1.elim
noncomputable def cut (xs:List PyData) (lo hi:Option Int):List PyData:=(xs.drop (HT.sIx xs.length 0 lo)).take (HT.sIx xs.length xs.length hi - HT.sIx xs.length 0 lo)
noncomputable def cU5 (te:DTE) (tl th:DTO) (r:W->Option Int->Option Int->aA->Prop):DSt->aA->Prop:=fun δ h=>te δ h fun x h1=>tl δ h1 fun lo h2=>th δ h2 fun hi h3=>r x lo hi h3
def dM3 (te:DTE) (tl th:DTO):DTE:=fun δ h Q=>cU5 te tl th (fun x lo hi h3=>match x with
 | .d (.tuple xs)=>Q (.d (.tuple (cut xs lo hi))) h3
 | _=>False) δ h
def dM4 (te:DTE) (tl th:DTO):DTF:=fun δ h Q=>cU5 te tl th (fun x lo hi h3=>match ref h3 x with
 | some (.list xs)=>Q (cut xs lo hi) h3
 | _=>False) δ h
def uH {K:Frag} {A:List Addr} {H:Hp} {xs:List PyData} {vs:List V} (r:Reps K A H xs vs) (lo hi:Option Int):Reps K A H (cut xs lo hi) (tW vs lo hi):=by
 unfold cut tW;rw [r.length];exact (r.drop _).take _
def aD5 {prog:Program} {w:World} {A:Around} {E:Value->Shared->Prop} {s:Shared} {t sl:Addr} {items:Array Value} {vl vu:Value} {lo hi:Option Int} {Q:Value->Shared->Prop} (ht:IsTup s.heap t items) (hs:s.heap.IsSliceOf sl vl vu .none) (pl:IsPart vl lo) (pu:IsPart vu hi)
  (hw:HT.sIx items.size 0 lo=0/\HT.sIx items.size items.size hi=items.size) (h:Q (.ref t) s):wpAny (model prog w) A (getItem (.ref t) (.ref sl)) Q E s:=by
 obtain ⟨os,hos,hcs,hds⟩:=id hs;have hTs:s.TypeIs (.ref sl) "slice":=⟨os,hos,hcs⟩;unfold getItem;try with_reducible refine wpAny_holding ?_
 first | refine wpAny_bind (wpAny_pure ?_) | skip
 refine wpAny_bind (wpAny_sequenceKey ht.typeIs (by decide) ?_);refine wpAny_bind (wpAny_callSpecial?_slot (name:=Str.ofString "__getitem__") ht.typeIs PyProof.Rows.slot_tuple_getitem
  (wpAny_call_entry PyProof.Rows.slot_tuple_getitem ht.typeIs entry_tuple_getitem ?_ (args_tuple_getitem _ _)))
 show wpAny _ _ (Builtin.Tuple.tupleItemsOf (.ref t) >>= _) _ _ s;refine wpAny_bind (tupleItemsOf_ ht (wpAny_bind (wpAny_typeOf hTs ?_)));rw [if_pos (by decide)];refine wpAny_bind (HT.sliceApplied_gen hs pl pu ?_);have hy:(((HT.sIx items.size 0 lo:Nat):Int)==0&&(1:Int)==1&&(HT.sIx items.size items.size hi - HT.sIx items.size 0 lo)==items.size)=true:=by
  rw [hw.1,hw.2];simp
 show wpAny _ _ (if (((HT.sIx items.size 0 lo:Nat):Int)==0&&(1:Int)==1&&(HT.sIx items.size items.size hi - HT.sIx items.size 0 lo)==items.size)=true then _ else _) _ _ s;rw [if_pos hy];refine wpAny_bind (wpAny_bind (wpAny_typeOf ht.typeIs (wpAny_pure ?_)));rw [if_pos (by decide)];exact wpAny_bind (wpAny_rule (wpAny_pure ⟨_,rfl,wpAny_pure h⟩))
noncomputable def dM5 (K:Frag):V->Option Int->Option Int->Hp->VK->Prop:=fun x lo hi H Q=>∃ a xs,x=.ref a/\SqT K H a xs/\(HT.sIx xs.length 0 lo=0/\HT.sIx xs.length xs.length hi=xs.length)/\Q (.ref a) H
def bF3:SlR X (dM5 X.K):=by
 intro pins s σ H x v vl vu lo hi sl Q I rx hs pl pu h;obtain ⟨a,xs,rfl,hx,hw,q⟩:=h;cases rx;obtain ⟨its,r,ht,hz⟩:=I.tuple hx;have hlen:its.toArray.size=xs.length:=by rw [List.size_toArray];exact r.length.symm
 exact ⟨"tuple",_,PyProof.Rows.slot_tuple_getitem.lookup,ht.typeIs,aD5 ht hs pl pu (by rw [hlen];exact hw) ⟨.ref a,H,I,rfl,q⟩⟩
def aD6 {xs:List PyData} {lo hi:Option Int} (h:HT.sIx xs.length 0 lo=0/\HT.sIx xs.length xs.length hi=xs.length):cut xs lo hi=xs:=by
 unfold cut;rw [h.1,h.2];simp
def cB7 {e:Expr} {te:DTE} {lo hi:Option Expr} {tl th:DTO} {p2 pos:Pos} (he:DE X e te) (hl:DO X lo tl) (hh:DO X hi th):DE X (.Subscript e (.Slice lo hi none p2) pos) (dM3 te tl th):=aG (tV (sl_tup.or bF3) he hl hh) fun σ H Q q=>by
 obtain ⟨δ,h,A,μ,k,R,q,c⟩:=q;refine ⟨δ,h,A,μ,_,R,q,fun w h1 v H1 A1 μ1 q1 x1 R1 r1=>?_⟩;refine ⟨δ,h1,A1,μ1,_,⟨R1,R.2.ext x1 R.1.sub⟩,q1,fun l h2 H2 A2 μ2 q2 x2 R2=>?_⟩;refine ⟨δ,h2,A2,μ2,_,⟨R2,R.2.ext (x1.trans x2) R.1.sub⟩,q2,fun u h3 H3 A3 μ3 q3 x3 R3=>?_⟩;have r3:=r1.ext (x2.trans x3) R1.sub;dsimp only at q3 ⊢;split at q3
 ·rename_i xs;obtain ⟨p,vs,rfl,sq,rr⟩:=bB (h:=h3) r3 rfl
  by_cases hw:HT.sIx xs.length 0 l=0/\HT.sIx xs.length xs.length u=xs.length
  ·rw [aD6 hw] at q3;exact .inr ⟨p,vs,rfl,sq.sq,by rw [rr.length];exact hw,c _ _ _ _ _ _ q3 ((x1.trans x2).trans x3) R3 r3⟩
  ·refine .inl ⟨p,vs,rfl,sq.sq,by rw [rr.length];exact hw,fun p hp=>?_⟩;exact c _ _ _ _ _ _ q3 (((x1.trans x2).trans x3).trans (aW hp)) (R3.fresh hp) (dJ R3 hp (uH rr l u))
 ·exact q3.elim
def aN6 {e:Expr} {te:DTE} {lo hi:Option Expr} {tl th:DTO} {p2 pos:Pos} (he:DE X e te) (hl:DO X lo tl) (hh:DO X hi th):DF X (.Subscript e (.Slice lo hi none p2) pos) (dM4 te tl th):=aG (tV bD2 he hl hh) fun σ H Q q=>by
 obtain ⟨δ,h,A,μ,k,R,q,c⟩:=q;refine ⟨δ,h,A,μ,_,R,q,fun w h1 v H1 A1 μ1 q1 x1 R1 r1=>?_⟩;refine ⟨δ,h1,A1,μ1,_,⟨R1,R.2.ext x1 R.1.sub⟩,q1,fun l h2 H2 A2 μ2 q2 x2 R2=>?_⟩;refine ⟨δ,h2,A2,μ2,_,⟨R2,R.2.ext (x1.trans x2) R.1.sub⟩,q2,fun u h3 H3 A3 μ3 q3 x3 R3=>?_⟩;have r3:=r1.ext (x2.trans x3) R1.sub;dsimp only at q3 ⊢;split at q3
 ·rename_i xs ex;obtain ⟨p,vs,rfl,sq,rr⟩:=bZ R3 r3 ex;refine ⟨p,vs,rfl,sq,fun p hp=>?_⟩;have x4:=(x1.trans x2).trans x3;obtain ⟨ν,e1,_⟩:=x4.pre;exact c _ _ _ _ _ _ q3 (x4.trans (bY hp)) ⟨ν,e1⟩ (x4.back hp) (dM R3 hp (uH rr l u))
 ·exact q3.elim
end
abbrev DC:=List W->aA->DK->Prop
noncomputable def upC (K:Frag) (r:DC):List V->Hp->VK->Prop:=fun vs H Q=>∃ (ws:List W) (h:aA) (A μ:List Addr) (k:DK),HeapRep K A μ h H/\RepWs K A μ H ws vs/\r ws h k /\
 ∀ w h' v H' A' μ',k w h'->Ext A A' μ μ' H H'->HeapRep K A' μ' h' H'->RepW K A' μ' H' w v->Q v H'
def dCB (r:DC) (t:DTA):DTE:=fun δ h Q=>t δ h fun ws h1=>r ws h1 Q
def bP8 {K:Frag} {r:DC} {t:DTA} {σ:L2.St} {H:Hp} {Q:VK} (q:up K (dCB r t) σ H Q):tCB (upC K r) (upA K t) σ H Q:=by
 obtain ⟨δ,h,A,μ,k,R,q,c⟩:=q;refine ⟨δ,h,A,μ,_,R,q,fun ws h1 vs H1 A1 μ1 q1 x1 R1 r1=>?_⟩;exact ⟨ws,h1,A1,μ1,k,R1,r1,q1,fun w h2 v H2 A2 μ2 q2 x2 R2 r2=>c w h2 v H2 A2 μ2 q2 (x1.trans x2) R2 r2⟩
def cU {K:Frag} {A μ:List Addr} {H:Hp} {w:W} {vs:List V} (r:RepWs K A μ H [w] vs):∃ v,vs=[v]/\RepW K A μ H w v:=by
 obtain ⟨v,r,rfl,h1,h2⟩:=r;have e:r=[]:=h2;subst e;exact ⟨v,rfl,h1⟩
section
variable {X:Cx} {x:Str} {p pos:Pos} {e:Expr} {es:List Expr} {t:DTA} {id T:String} {r:DC}
def aN7 (hc:cF X (.builtin id) (upC X.K r)) (hm:X.mg x=none) (ha:DA X (e::es) t) (hv:autoParam (bootBuiltins x=some (.builtin id)) ZR) (hg:autoParam (Gl X x) ZR) (hn:autoParam (x≠"__name__") ZD) (hdb:autoParam ((x==("__debug__":Str))=false) ZD)
  (he:autoParam (starEach (e::es) X.env=(false,eval e X.env)::starEach es X.env) ZR) (hpl:autoParam ((backTo pos (starEach es X.env)).any (·.1)=false) ZR):DE X (.Call (.Name x p) (e::es) [] pos) (dCB r t) :=
 aG (jN hc hg hm hv ha hn hdb he hpl) fun _ _ _ q=>bP8 q
def aD7 (hc:cF X (.type T) (upC X.K r)) (hm:X.mg x=none) (ha:DA X (e::es) t) (hv:autoParam (bootBuiltins x=some (.type T)) ZR) (hg:autoParam (Gl X x) ZR) (hn:autoParam (x≠"__name__") ZD) (hdb:autoParam ((x==("__debug__":Str))=false) ZD)
  (he:autoParam (starEach (e::es) X.env=(false,eval e X.env)::starEach es X.env) ZR) (hpl:autoParam ((backTo pos (starEach es X.env)).any (·.1)=false) ZR):DE X (.Call (.Name x p) (e::es) [] pos) (dCB r t) :=
 aG (pK hc hg hm hv ha hn hdb he hpl) fun _ _ _ q=>bP8 q
noncomputable def cB8:DC
 | [w],h,Q=>match ref h w with
  | some (.list xs)=>Q (.d (.int xs.length)) h
  | some (.tuple xs)=>Q (.d (.int xs.length)) h
  | _=>False
 | _,_,_=>False
def aD8:cF X (.builtin "len") (upC X.K cB8):=by
 intro pins s σ H xs us Q I r h;obtain ⟨ws,h,A,μ,k,R,rw',q,c⟩:=h;unfold cB8 at q;split at q
 ·rename_i w h0 k0;obtain ⟨v,rfl,rv⟩:=cU rw';split at q
  ·rename_i ys ey;obtain ⟨p,vs,rfl,sq,rr⟩:=bZ R rv ey;exact jP pins s σ H _ us Q I r ⟨p,vs,rfl,.inl sq,by rw [rr.length];exact c _ _ _ _ _ _ q .refl R nK⟩
  ·rename_i ys ey;obtain ⟨p,vs,rfl,sq,rr⟩:=bB rv ey;exact jP pins s σ H _ us Q I r ⟨p,vs,rfl,.inr sq.sq,by rw [rr.length];exact c _ _ _ _ _ _ q .refl R nK⟩
  ·exact q.elim
 ·exact q.elim
noncomputable def xG:DC
 | [w],h,Q=>match ref h w with
  | some (.list xs)=>Q (.d (.tuple xs)) h
  | some (.tuple xs)=>Q (.d (.tuple xs)) h
  | _=>False
 | _,_,_=>False
def uI:cF X (.type "tuple") (upC X.K xG):=by
 intro pins s σ H xs us Q I r h;obtain ⟨ws,h,A,μ,k,R,rw',q,c⟩:=h;unfold xG at q;split at q
 ·rename_i w h0 k0;obtain ⟨v,rfl,rv⟩:=cU rw';split at q
  ·rename_i ys ey;obtain ⟨p,vs,rfl,sq,rr⟩:=bZ R rv ey;exact iY pins s σ H _ us Q I r ⟨p,vs,rfl,.inl ⟨sq,fun l hl=>c _ _ _ _ _ _ q (aW hl) (R.fresh hl) (dJ R hl rr)⟩⟩
  ·rename_i ys ey;obtain ⟨p,vs,rfl,sq,rr⟩:=bB rv ey;refine iY pins s σ H _ us Q I r ⟨p,vs,rfl,.inr ⟨sq.sq,c _ _ _ _ _ _ q .refl R ?_⟩⟩;show Rep X.K A H (.tuple ys) (.ref p);rw [Rep];exact ⟨p,vs,rfl,sq,rr⟩
  ·exact q.elim
 ·exact q.elim
def cB9 (t:DTA):DTF:=fun δ h Q=>t δ h fun ws h1=>match ws with
 | [w]=>(match ref h1 w with
  | some (.list xs)=>Q xs h1
  | some (.tuple xs)=>Q xs h1
  | _=>False)
 | _=>False
def bF4 (hm:X.mg "list"=none) (ha:DA X (e::es) t) (hg:autoParam (Gl X "list") ZR)
  (he:autoParam (starEach (e::es) X.env=(false,eval e X.env)::starEach es X.env) ZR) (hpl:autoParam ((backTo pos (starEach es X.env)).any (·.1)=false) ZR):DF X (.Call (.Name "list" p) (e::es) [] pos) (cB9 t) :=
 aG (pK rM hg hm rfl ha (by decide) (by decide) he hpl) fun σ H Q q=>by
  obtain ⟨δ,h,A,μ,k,R,q,c⟩:=q;refine ⟨δ,h,A,μ,_,R,q,fun ws h1 vs H1 A1 μ1 q1 x1 R1 r1=>?_⟩;obtain ⟨ν,e1,_⟩:=x1.pre;split at q1
  ·rename_i w;obtain ⟨v,rfl,rv⟩:=cU r1;split at q1
   ·rename_i ys ey;obtain ⟨p,vs,rfl,sq,rr⟩:=bZ R1 rv ey;exact ⟨p,vs,rfl,.inl sq,fun l hl=>c _ _ _ _ _ _ q1 (x1.trans (bY hl)) ⟨ν,e1⟩ (x1.back hl) (dM R1 hl rr)⟩
   ·rename_i ys ey;obtain ⟨p,vs,rfl,sq,rr⟩:=bB rv ey;exact ⟨p,vs,rfl,.inr sq.sq,fun l hl=>c _ _ _ _ _ _ q1 (x1.trans (bY hl)) ⟨ν,e1⟩ (x1.back hl) (dM R1 hl rr)⟩
   ·exact q1.elim
  ·exact q1.elim
end
abbrev DSp:=List W->aA->(PyData->aA->Prop)->Prop
noncomputable def lZ (K:Frag) (d:DSp):Sp:=fun vs H Q _=>∃ (ws:List W) (h:aA) (A μ:List Addr) (k:PyData->aA->Prop),HeapRep K A μ h H/\RepWs K A μ H ws vs/\d ws h k /\
 ∀ z h' v H' A',k z h'->Ext A A' μ μ H H'->HeapRep K A' μ h' H'->Rep K A' H' z v->Q v H'
def aN8 (d:DSp) (t:DTA):DTE:=fun δ h Q=>t δ h fun ws h1=>d ws h1 fun z h2=>Q (.d z) h2
def bF5 {K:Frag} {d:DSp} {t:DTA} {σ:L2.St} {H:Hp} {Q:VK} (q:up K (aN8 d t) σ H Q):aL6 (lZ K d) [] E0 (upA K t) σ H Q:=by
 obtain ⟨δ,h,A,μ,k,R,q,c⟩:=q;refine ⟨δ,h,A,μ,_,R,q,fun ws h1 vs H1 A1 μ1 q1 x1 R1 r1=>?_⟩;show lZ K d (vs++[]) H1 Q E0;rw [List.append_nil];exact ⟨ws,h1,A1,μ1,_,R1,r1,q1,fun z h2 v H2 A2 q2 x2 R2 r2=>c _ h2 v H2 A2 μ1 q2 (x1.trans x2) R2 r2⟩
structure DFn (P:Program) (w:World) (K:Frag) (mg:Str->Option Value) (base:Heap) (k:Nat) (x:Str) (d:DSp):Prop where
 ok:∃ (f:Addr) (fd:FuncData) (ps:List Str),FnOk P w K mg base CX0 k f fd ps (lZ K d)/\mg x=some (.ref f)/\PySem.W.keepIn K (.ref f)=true/\Binds K fd ps []
section
variable {X:Cx} {x:Str} {p pos:Pos} {e:Expr} {es:List Expr} {t:DTA} {d:DSp} {k:Nat}
def zC (F:DFn X.prog X.w X.K X.mg X.base k x d) (hr:Room k X.A) (ha:DA X (e::es) t) (hg:autoParam (Gl X x) ZR) (hdb:autoParam ((x==("__debug__":Str))=false) ZD)
  (he:autoParam (starEach (e::es) X.env=(false,eval e X.env)::starEach es X.env) ZR) (hpl:autoParam ((backTo pos (starEach es X.env)).any (·.1)=false) ZR):DE X (.Call (.Name x p) (e::es) [] pos) (aN8 d t):=by
 obtain ⟨f,fd,ps,h1,h2,h3,h4⟩:=F.ok;exact aG (yT h1 hr hg h2 h3 h4 .nil yX ha hdb he hpl) fun _ _ _ q=>bF5 q
end
structure DEnds where
 nx:DSt->aA->Prop
 rt:DK
 bk:DSt->aA->Prop:=fun _ _=>False
 ct:DSt->aA->Prop:=fun _ _=>False
abbrev DTS:=DEnds->DSt->aA->Prop
structure Lnk (K:Frag) (A μ:List Addr) (H:Hp) (E:DEnds) (D:Ends):Prop where
 nx:∀ δ' h' σ' H' A' μ',E.nx δ' h'->Ext A A' μ μ' H H'->Ab K A' μ' δ' h' σ' H'->D.nx σ' H'
 bk:∀ δ' h' σ' H' A' μ',E.bk δ' h'->Ext A A' μ μ' H H'->Ab K A' μ' δ' h' σ' H'->D.bk σ' H'
 ct:∀ δ' h' σ' H' A' μ',E.ct δ' h'->Ext A A' μ μ' H H'->Ab K A' μ' δ' h' σ' H'->D.ct σ' H'
 rt:∀ w h' v H' A' μ',E.rt w h'->Ext A A' μ μ' H H'->HeapRep K A' μ' h' H'->RepW K A' μ' H' w v->D.rt v H'
def Lnk.ext {K:Frag} {A A1 μ μ1:List Addr} {H H1:Hp} {E:DEnds} {D:Ends} (L:Lnk K A μ H E D) (x:Ext A A1 μ μ1 H H1):Lnk K A1 μ1 H1 E D :=
 ⟨fun δ h σ H' A' μ' q y=>L.nx δ h σ H' A' μ' q (x.trans y),fun δ h σ H' A' μ' q y=>L.bk δ h σ H' A' μ' q (x.trans y),fun δ h σ H' A' μ' q y=>L.ct δ h σ H' A' μ' q (x.trans y),fun w h v H' A' μ' q y=>L.rt w h v H' A' μ' q (x.trans y)⟩
def upS (K:Frag) (t:DTS):TS:=fun D σ H=>∃ (δ:DSt) (h:aA) (A μ:List Addr) (E:DEnds),Ab K A μ δ h σ H/\t E δ h/\Lnk K A μ H E D
def DS (X:Cx) (st:Stmt) (t:DTS):Prop:=PS X st (upS X.K t)
def DSs (X:Cx) (st:List Stmt) (t:DTS):Prop:=PSs X st (upS X.K t)
def aN9:DTS:=fun E δ h=>E.nx δ h
def cU6 (t u:DTS):DTS:=fun E δ h=>t { E with nx:=u E } δ h
def cU7 (te:DTE):DTS:=fun E δ h=>te δ h E.rt
def cU8 (te:DTE):DTS:=fun E δ h=>te δ h fun _ h1=>E.nx δ h1
def cU9 (c:DTT) (t u:DTS):DTS:=fun E δ h=>c δ h fun b h1=>if b=true then t E δ h1 else u E δ h1
abbrev DTG:=W->DSt->aA->(DSt->aA->Prop)->Prop
abbrev uJ:=List PyData->DSt->aA->(DSt->aA->Prop)->Prop
def upG (K:Frag) (t:DTG):TG:=fun v σ H Q=>∃ (w:W) (δ:DSt) (h:aA) (A μ:List Addr) (k:DSt->aA->Prop),Ab K A μ δ h σ H/\RepW K A μ H w v/\t w δ h k /\
 ∀ δ' h' σ' H' A' μ',k δ' h'->Ext A A' μ μ' H H'->Ab K A' μ' δ' h' σ' H'->Q σ' H'
noncomputable def dM6 (K:Frag) (t:uJ):TGs:=fun vs σ H Q=>∃ (xs:List PyData) (δ:DSt) (h:aA) (A μ:List Addr) (k:DSt->aA->Prop),Ab K A μ δ h σ H/\Reps K A H xs vs/\t xs δ h k /\
 ∀ δ' h' σ' H' A' μ',k δ' h'->Ext A A' μ μ' H H'->Ab K A' μ' δ' h' σ' H'->Q σ' H'
def DG (X:Cx) (tg:Expr) (t:DTG):Prop:=PG X tg (upG X.K t)
def DGs (X:Cx) (tg:List Expr) (t:uJ):Prop:=PGs X tg (dM6 X.K t)
def mO {X:Cx} {e:Expr} {t t':TG} (h:PG X e t) (m:∀ v σ H Q,t' v σ H Q->t v σ H Q):PG X e t':=fun pins s σ H v u Q I r q=>h pins s σ H v u Q I r (m v σ H Q q)
def jU {X:Cx} {e:List Expr} {t t':TGs} (h:PGs X e t) (m:∀ v σ H Q,t' v σ H Q->t v σ H Q):PGs X e t':=fun pins s σ H v u Q I r q=>h pins s σ H v u Q I r (m v σ H Q q)
def pS (i:Nat):DTG:=fun w δ h Q=>Q (δ.set i (some w)) h
noncomputable def cV0:uJ:=fun xs δ h Q=>xs=[]/\Q δ h
noncomputable def cC0 (t:DTG) (u:uJ):uJ:=fun xs δ h Q=>match xs with
 | x::r=>t (.d x) δ h fun δ1 h1=>u r δ1 h1 Q
 | []=>False
def aO0 (n:Nat) (t:uJ):DTG:=fun w δ h Q=>match w with
 | .d (.tuple xs)=>xs.length=n/\t xs δ h Q
 | _=>False
def aD9 (te:DTE) (g:DTG):DTS:=fun E δ h=>te δ h fun w h1=>g w δ h1 E.nx
section
variable {X:Cx} {st:Stmt} {rest:List Stmt} {t u:DTS} {e tg:Expr} {te:DTE} {tc:DTT} {g:DTG} {pos:Pos}
def zD:DSs X [] aN9:=jS bB6 fun D σ H q=>by
 obtain ⟨δ,h,A,μ,E,R,q,L⟩:=q;exact L.nx δ h σ H A μ q .refl R
def nN (h1:DS X st t) (h2:DSs X rest u):DSs X (st::rest) (cU6 t u):=jS (tR h1 h2) fun D σ H q=>by
 obtain ⟨δ,h,A,μ,E,R,q,L⟩:=q;exact ⟨δ,h,A,μ,_,R,q,⟨fun δ' h' σ' H' A' μ' q' x R'=>⟨δ',h',A',μ',E,R',q',L.ext x⟩,L.bk,L.ct,L.rt⟩⟩
def rT (h1:DS X st t):DSs X [st] t:=rG h1
def bF6:DS X (.Pass pos) aN9:=bF bB7 fun D σ H q=>by
 obtain ⟨δ,h,A,μ,E,R,q,L⟩:=q;exact L.nx δ h σ H A μ q .refl R
def rV (he:DE X e te):DS X (.Return (some e) pos) (cU7 te):=bF (bX3 he) fun D σ H q=>by
 obtain ⟨δ,h,A,μ,E,R,q,L⟩:=q;exact ⟨δ,h,A,μ,_,R,q,fun w h' v H' A' μ' q' x R' r'=>L.rt w h' v H' A' μ' q' x R' r'⟩
def bF7 (he:DE X e te) (hs:autoParam (swapsWith e none pos.line X.env=pure false) ZR):DS X (.Expr e pos) (cU8 te):=bF (bB8 he hs) fun D σ H q=>by
 obtain ⟨δ,h,A,μ,E,R,q,L⟩:=q;exact ⟨δ,h,A,μ,_,R,q,fun w h' v H' A' μ' q' x R' _=>L.nx δ h' σ H' A' μ' q' x ⟨R',R.2.ext x R.1.sub⟩⟩
def bP9 {c:Expr} {a b:List Stmt} (hc:DT X c tc) (ha:DSs X a t) (hb:DSs X b u):DS X (.If c a b pos) (cU9 tc t u):=bF (bO9 hc ha hb) fun D σ H q=>by
 obtain ⟨δ,h,A,μ,E,R,q,L⟩:=q;refine ⟨δ,h,A,μ,_,R,q,fun b h1 H1 A1 μ1 q1 x1 R1=>?_⟩;cases b with
 | true=>exact ⟨δ,h1,A1,μ1,E,⟨R1,R.2.ext x1 R.1.sub⟩,q1,L.ext x1⟩
 | false=>exact ⟨δ,h1,A1,μ1,E,⟨R1,R.2.ext x1 R.1.sub⟩,q1,L.ext x1⟩
def bF8 {i:Nat} {x:Str} (hN:X.N.Nodup) (hi:autoParam (X.N[i]?=some x) ZR) (hx:Loc X.env.scope x:=by first | exact Or.inl rfl | exact Or.inr rfl) (hf:X.fn x=true\/X.env.scope.names.lookup x=some .local:=by first | exact .inl rfl | exact .inr rfl):DG X (.Name x pos) (pS i) :=
 mO (bB9 hN hi hx hf) fun v σ H Q q=>by
  obtain ⟨w,δ,h,A,μ,k,R,r,q,c⟩:=q;exact c _ h _ H A μ q .refl ⟨R.1,R.2.set i r⟩
def bF9:DGs X [] cV0:=jU bC0 fun v σ H Q q=>by
 obtain ⟨xs,δ,h,A,μ,k,R,r,⟨e,q⟩,c⟩:=q;subst e;rw [Reps] at r;exact ⟨r,c δ h σ H A μ q .refl R⟩
def aO1 {es:List Expr} {tu:uJ} (h1:DG X e g) (h2:DGs X es tu) (hs:autoParam ((assignEach (e::es) X.env).map (·.2)=assign e X.env::(assignEach es X.env).map (·.2)) ZR):DGs X (e::es) (cC0 g tu) :=
 jU (aK7 h1 h2 hs) fun v σ H Q q=>by
  obtain ⟨xs,δ,h,A,μ,k,R,r,q,c⟩:=q;cases xs with
  | nil=>exact q.elim
  | cons x xs =>
   rw [Reps] at r;obtain ⟨v1,vr,rfl,r1,r2⟩:=r;refine ⟨v1,vr,rfl,.d x,δ,h,A,μ,_,R,r1,q,fun δ1 h1 σ1 H1 A1 μ1 q1 x1 R1=>?_⟩;exact ⟨xs,δ1,h1,A1,μ1,k,R1,r2.ext x1 R.1.sub,q1,fun δ2 h2 σ2 H2 A2 μ2 q2 x2 R2=>c δ2 h2 σ2 H2 A2 μ2 q2 (x1.trans x2) R2⟩
def cC1 {es:List Expr} {kk:Nat} {tu:uJ} {n:Nat} (hc:X.calm=true) (h:DGs X es tu) (hn:autoParam ((assignEach es X.env).length=n) ZR) (hst:autoParam ((assignEach es X.env).findIdx? (·.1)=none) ZR):DG X (.Tuple es kk pos) (aO0 n tu) :=
 mO (bX6 hc h hn hst) fun v σ H Q q=>by
  obtain ⟨w,δ,h,A,μ,k,R,r,q,c⟩:=q;unfold aO0 at q;split at q
  ·rename_i xs;obtain ⟨p,vs,rfl,sq,rr⟩:=bB (h:=h) r rfl;exact ⟨p,vs,rfl,sq.sq,by rw [rr.length];exact q.1,xs,δ,h,A,μ,k,R,rr,q.2,c⟩
  ·exact q.elim
def cC2 (he:DE X e te) (hg:DG X tg g) (hs:autoParam (swapsWithSole [tg] e pos.line X.env=pure false) ZR) (hw:autoParam (swappedStores [tg] e X.env=pure none) ZR)
  (h1:autoParam ((assignEach [tg] X.env).map (·.2)=[assign tg X.env]) ZR):DS X (.Assign [tg] e pos) (aD9 te g):=bF (bX8 he hg hs hw h1) fun D σ H q=>by
 obtain ⟨δ,h,A,μ,E,R,q,L⟩:=q;refine ⟨δ,h,A,μ,_,R,q,fun w h1 v H1 A1 μ1 q1 x1 R1 r1=>?_⟩;exact ⟨w,δ,h1,A1,μ1,E.nx,⟨R1,R.2.ext x1 R.1.sub⟩,r1,q1,fun δ2 h2 σ2 H2 A2 μ2 q2 x2 R2=>L.nx δ2 h2 σ2 H2 A2 μ2 q2 (x1.trans x2) R2⟩
def cC3 {i:Nat} {x:Str} {pos':Pos} (hN:X.N.Nodup) (he:DE X e te) (hi:autoParam (X.N[i]?=some x) ZR) (hx:Loc X.env.scope x:=by first | exact Or.inl rfl | exact Or.inr rfl) (hs:autoParam (swapsWith e (some (.Name x pos')) pos.line X.env=pure false) ZR)
  (hf:X.fn x=true\/X.env.scope.names.lookup x=some .local:=by first | exact .inl rfl | exact .inr rfl):DS X (.Assign [.Name x pos'] e pos) (aD9 te (pS i)):=bF (wN hN hi hx he hs hf) fun D σ H q=>by
 obtain ⟨δ,h,A,μ,E,R,q,L⟩:=q;refine ⟨δ,h,A,μ,_,R,q,fun w h1 v H1 A1 μ1 q1 x1 R1 r1=>?_⟩;exact L.nx _ h1 _ H1 A1 μ1 q1 x1 ⟨R1,(R.2.ext x1 R.1.sub).set i r1⟩
def DFS (X:Cx) (i:Nat) (st:Stmt) (tf:DTF):Prop:=PS X st (bC1 (upF X.K tf) (yQ i))
def aO2 {tf:DTF} {i:Nat} {x:Str} {pos':Pos} (hN:X.N.Nodup) (he:DF X e tf) (hi:autoParam (X.N[i]?=some x) ZR) (hx:Loc X.env.scope x:=by first | exact Or.inl rfl | exact Or.inr rfl) (hs:autoParam (swapsWith e (some (.Name x pos')) pos.line X.env=pure false) ZR)
  (hf:X.fn x=true\/X.env.scope.names.lookup x=some .local:=by first | exact .inl rfl | exact .inr rfl):DFS X i (.Assign [.Name x pos'] e pos) tf:=wN hN hi hx he hs hf
def cC4 {tf:DTF} {i:Nat} (h:DFS X i st tf):DS X st (aD9 (bE2 tf) (pS i)):=bF h fun D σ H q=>by
 obtain ⟨δ,h,A,μ,E,R,q,L⟩:=q;refine ⟨δ,h,A,μ,_,R,q,fun xs h' p H' A' μ' kk x hm hp R'=>?_⟩;obtain ⟨R1,r1⟩:=gW R'.1 R'.2;have x1:=jF R.1 hp x hm;exact L.nx _ h' _ H' _ μ' kk x1 ⟨R1,(R.2.ext x1 R.1.sub).set i r1⟩
def aO3 {tf:DTF} {i:Nat} (h:DFS X i st tf):DS X st (aD9 (cA3 tf) (pS i)):=bF h fun D σ H q=>by
 obtain ⟨δ,h,A,μ,E,R,q,L⟩:=q;refine ⟨δ,h,A,μ,_,R,q,fun xs h' p H' A' μ' kk x hm hp R'=>?_⟩;have hl:μ'.length=h'.length:=by simpa using R'.1.len
 exact L.nx _ _ _ H' A' (μ'++[p]) kk x ⟨R'.1,(R.2.ext x R.1.sub).set i ⟨p,by rw [<- hl];simp,rfl⟩⟩
def dM7 (to:DTE) (t:DTA):DTE:=fun δ h Q=>to δ h fun o h1=>match o with
 | .c j=>(match h1[j]? with
  | some (.l _)=>t δ h1 fun ws h2=>(match ws,h2[j]? with
   | [.d x],some (.l xs)=>xs.length < sizeLine/\Q (.d .none) (h2.set j (.l (xs++[x])))
   | _,_=>False)
  | _=>False)
 | _=>False
def cC5 {o e0:Expr} {es:List Expr} {to:DTE} {t:DTA} {apos cpos:Pos} (ho:DE X o to) (ha:DA X (e0::es) t)
  (hbase:autoParam (attributeBase o "append" X.env (eval o X.env)=eval o X.env) ZR)
  (hfew:((backTo cpos (starEach (e0::es) X.env)).all (fun x=>!x.1)&&(backToKw cpos (keywordEach [] X.env)).all (fun x=>x.1.isSome)
   && decide ((e0::es).length+([]:List Keyword).length+(if ([]:List Keyword).isEmpty then 0 else 1) < 30))=true:=by rfl)
  (hline:autoParam ((apos.endLine==cpos.line)=true) ZR) (hs:autoParam (starEach (e0::es) X.env=(false,eval e0 X.env)::starEach es X.env) ZR) (hplain:autoParam ((backTo cpos (starEach es X.env)).any (·.1)=false) ZR) :
  DE X (.Call (.Attribute o "append" apos) (e0::es) [] cpos) (dM7 to t):=aG (aM2 PySem.F.plainAttrs_list PySem.F.slot_list_append PySem.F.type_list_append pN ho ha hbase hfew hline hs hplain) fun σ H Q q=>by
 obtain ⟨δ,h,A,μ,k,R,q,c⟩:=q;refine ⟨δ,h,A,μ,_,R,q,fun o h1 vo H1 A1 μ1 q1 x1 R1 r1=>?_⟩;split at q1
 ·rename_i j;obtain ⟨a,ea,rfl⟩:=r1;split at q1
  rotate_left
  ·exact q1.elim
  rename_i xs1 ex1;obtain ⟨vs1,hv1,_⟩:=R1.val j a xs1 ea ex1;refine ⟨.inl ⟨rfl,_,SqL.of hv1⟩,δ,h1,A1,μ1,_,⟨R1,R.2.ext x1 R.1.sub⟩,q1,fun ws h2 vs H2 A2 μ2 q2 x2 R2 r2=>?_⟩;split at q2
  ·rename_i x xs ex;obtain ⟨v,rfl,rv⟩:=cU r2;have ea2:μ2[j]?=some a:=by
    obtain ⟨ν,e1,_⟩:=x2.pre;rw [e1,List.getElem?_append_left (List.getElem?_eq_some_iff.mp ea).1];exact ea
   obtain ⟨vs,hv,rr⟩:=R2.val j a xs ea2 ex;refine ⟨a,vs,v,rfl,rfl,hv,by rw [rr.length];exact q2.1,?_⟩;have hm:=List.mem_of_getElem? ea2;exact c _ _ _ _ A2 μ2 q2.2 ((x1.trans x2).trans (eS hm hv)) (gB R2 ea2 ((Reps.one rv).append rr)) (by show Rep _ _ _ _ _;rw [Rep])
  ·exact q2.elim
 ·exact q1.elim
end
def cond (c:Option Nat) (xs:List PyData) (h:aA):Prop:=match c with
 | none=>True
 | some i=>h[i]?=some (.l xs)
abbrev DTI:=DSt->aA->(List PyData->Option Nat->aA->Prop)->Prop
def bG0 (K:Frag) (A μ:List Addr) (H:Hp) (J:It) (xs:List PyData) (c:Option Nat):Prop:=∀ A' μ' H' h',Ext A A' μ μ' H H'->HeapRep K A' μ' h' H'->cond c xs h' ->
 (∀ i x,xs[i]?=some x->J.go i H'/\∀ v H2,J.yld i H' v H2->Ext A' A' μ' μ' H' H2/\HeapRep K A' μ' h' H2/\Rep K A' H2 x v)/\∀ i,xs.length<=i->J.stop i H'
def upI (K:Frag) (t:DTI):TI:=fun σ H R=>∃ (δ:DSt) (h:aA) (A μ:List Addr) (k:List PyData->Option Nat->aA->Prop),Ab K A μ δ h σ H/\t δ h k /\
 ∀ xs c h' J H' A' μ',k xs c h'->Ext A A' μ μ' H H'->HeapRep K A' μ' h' H'->xs.length<=sizeLine->cond c xs h'->bG0 K A' μ' H' J xs c->R J H'
def DI (X:Cx) (tg iter:Expr) (t:DTI):Prop:=PI X tg iter (upI X.K t)
def iP {X:Cx} {tg e:Expr} {t t':TI} (h:PI X tg e t) (m:∀ σ H R,t' σ H R->t σ H R):PI X tg e t':=fun pins s σ H R I q=>h pins s σ H R I (m σ H R q)
def cV1 (te:DTE):DTI:=fun δ h Q=>te δ h fun w h1=>match w with
 | .d (.list xs)=>Q xs none h1
 | .d (.tuple xs)=>Q xs none h1
 | .c i=>(match h1[i]? with
  | some (.l xs)=>Q xs (some i) h1
  | _=>False)
 | _=>False
def dM8 (K:Frag) (tl:TE):TI:=fun σ H R=>tl σ H fun x H1=>∃ a,x=.ref a/\((∃ xs,SqL K H1 a xs/\(xs.length<=sizeLine->R (Itl K a) H1))\/∃ xs,SqT K H1 a xs/\(xs.length<=sizeLine->R (Itt K a) H1))
def cC6 {X:Cx} {tg l:Expr} {tl:TE} (hl:PE X l tl):PI X tg l (dM8 X.K tl):=by
 intro pins s σ H R I h;refine thn (hl pins s σ H _ I h) fun v s1 ⟨x,H1,I1,r1,q1⟩=>?_;obtain ⟨a,e,q⟩:=q1;subst e;cases r1;rcases q with ⟨xs,hq,q⟩ | ⟨xs,hq,q⟩
 ·obtain ⟨its,rv,p,hz⟩:=I1.list hq;refine wpAny_pyIter_list p.isList ⟨s1.heap.objs.size,[s1.heap.objs.size],_,_,H1,rfl,I1.kept (t':=s1.toks) fun b o e=>Heap.get?_push_of_some _ e,aB9 a _,⟨_,Heap.get?_push_size _ rfl,rfl,rfl⟩,fun b hb=>?_,q hz⟩;rw [List.mem_singleton.mp hb];exact I1.fpOk (Nat.le_refl _) (I1.hok.fresh (Nat.le_refl _))
 ·obtain ⟨its,rv,p,hz⟩:=I1.tuple hq;refine wpAny_pyIter_tuple (show s1.heap.IsTuple a its.toArray from p) ⟨s1.heap.objs.size,[s1.heap.objs.size],_,_,H1,rfl,I1.kept (t':=s1.toks) fun b o e=>Heap.get?_push_of_some _ e,wO a _,⟨_,Heap.get?_push_size _ rfl,rfl,rfl⟩,fun b hb=>?_,q hz⟩;rw [List.mem_singleton.mp hb];exact I1.fpOk (Nat.le_refl _) (I1.hok.fresh (Nat.le_refl _))
def bG1 {X:Cx} {tg e:Expr} {te:DTE} (he:DE X e te):DI X tg e (cV1 te):=iP (cC6 he) fun σ H R q=>by
 obtain ⟨δ,h,A,μ,k,Rr,q,c⟩:=q;refine ⟨δ,h,A,μ,_,Rr,q,fun w h1 v H1 A1 μ1 q1 x1 R1 r1=>?_⟩;have listCase:∀ {xs:List PyData} {cc:Option Nat} {p:Addr} {vs:List V},cond cc xs h1->SqL X.K H1 p vs->Reps X.K A1 H1 xs vs ->
   (∀ A' μ' H' h',Ext A1 A' μ1 μ' H1 H'->HeapRep X.K A' μ' h' H'->cond cc xs h'->∃ ws,SqL X.K H' p ws/\Reps X.K A' H' xs ws)->k xs cc h1->vs.length<=sizeLine->R (Itl X.K p) H1:=fun {xs cc p vs} hc sq rr st kk hz=>by
  refine c xs cc h1 _ H1 A1 μ1 kk x1 R1 (by rw [<- rr.length];exact hz) hc fun A' μ' H' h' y R' hc'=>?_;obtain ⟨ws,sq',rr'⟩:=st A' μ' H' h' y R' hc';refine ⟨fun i x ex=>?_,fun i hi=>⟨ws,sq',by rw [rr'.length];exact hi⟩⟩;obtain ⟨z,ez,rz⟩:=rr'.get ex;refine ⟨⟨ws,z,sq',ez⟩,fun v H2 hy=>?_⟩;obtain ⟨e2,hy⟩:=hy;subst e2;have:=hy ws sq';rw [ez] at this;cases this;exact ⟨.refl,R',rz⟩
 split at q1
 ·rename_i xs;have z:Rep X.K A1 H1 (.list xs) v:=r1;rw [Rep] at z;obtain ⟨p,vs,rfl,la,rr⟩:=z;refine ⟨p,rfl,.inl ⟨vs,la.sq,fun hz=>listCase (cc:=none) trivial la.sq rr (fun A' μ' H' h' y R' _=>?_) q1 hz⟩⟩;have z:Rep X.K A' H' (.list xs) (.ref p):=Rep.ext y R1.sub (by rw [Rep];exact ⟨p,vs,rfl,la,rr⟩);rw [Rep] at z;obtain ⟨p',ws,e,la',rr'⟩:=z;cases e;exact ⟨ws,la'.sq,rr'⟩
 ·rename_i xs;obtain ⟨p,vs,rfl,ta,rr⟩:=bB (h:=h1) r1 rfl;refine ⟨p,rfl,.inr ⟨vs,ta.sq,fun hz=>?_⟩⟩;refine c xs none h1 _ H1 A1 μ1 q1 x1 R1 (by rw [<- rr.length];exact hz) trivial fun A' μ' H' h' y R' _=>?_;obtain ⟨p',ws,e,ta',rr'⟩:=bB (h:=h1) (r1.ext y R1.sub) rfl;cases e;refine ⟨fun i x ex=>?_,fun i hi=>⟨ws,ta'.sq,by rw [rr'.length];exact hi⟩⟩;obtain ⟨z,ez,rz⟩:=rr'.get ex;refine ⟨⟨ws,z,ta'.sq,ez⟩,fun v H2 hy=>?_⟩;obtain ⟨e2,hy⟩:=hy;subst e2;have:=hy ws ta'.sq;rw [ez] at this;cases this;exact ⟨.refl,R',rz⟩
 ·rename_i i;split at q1
  ·rename_i xs ex;obtain ⟨p,ep,rfl⟩:=r1;obtain ⟨vs,hv,rr⟩:=R1.val i p xs ep ex;refine ⟨p,rfl,.inl ⟨vs,.of hv,fun hz=>listCase (cc:=some i) ex (.of hv) rr (fun A' μ' H' h' y R' hc'=>?_) q1 hz⟩⟩;have ep':μ'[i]?=some p:=by
    obtain ⟨ν,e1,_⟩:=y.pre;rw [e1,List.getElem?_append_left (List.getElem?_eq_some_iff.mp ep).1];exact ep
   obtain ⟨ws,hw,rr'⟩:=R'.val i p xs ep' hc';exact ⟨ws,.of hw,rr'⟩
  ·exact q1.elim
 ·exact q1.elim
noncomputable def rng (lo:Int) (n:Nat):List PyData:=(List.range n).map fun (i:Nat)=>.int (lo+(i:Int))
def bG2 (t:DTA):DTI:=fun δ h Q=>t δ h fun ws h1=>match ws with
 | [.d (.int j)]=>(j<=16000000/\-(2^62)<=j)/\Q (rng 0 j.toNat) none h1
 | _=>False
def bG3 (t:DTA):DTI:=fun δ h Q=>t δ h fun ws h1=>match ws with
 | [.d (.int i),.d (.int j)]=>(j - i<=16000000/\-(2^62)<=i/\i < 2^62/\-(2^62)<=j/\j < 2^62)/\Q (rng i (j - i).toNat) none h1
 | _=>False
def rng_len (lo:Int) (n:Nat):(rng lo n).length=n:=by unfold rng;simp
def aO4 {K:Frag} {A μ:List Addr} {H:Hp} (lo:Int) (n:Nat):bG0 K A μ H (Itr lo n) (rng lo n) none:=fun A' μ' H' h' y R' _=>by
 refine ⟨fun i x ex=>?_,fun i hi=>by rw [rng_len] at hi;exact hi⟩;have hi:i < n:=by rw [<- rng_len lo n];exact (List.getElem?_eq_some_iff.mp ex).1
 refine ⟨hi,fun v H2 hy=>?_⟩;obtain ⟨e,hv⟩:=hy;subst e hv;unfold rng at ex;rw [List.getElem?_map,List.getElem?_range hi] at ex;cases ex;exact ⟨.refl,R',jT⟩
def aE0 {X:Cx} {tg a:Expr} {t:DTA} {p pos:Pos} (hm:X.mg "range"=none) (ha:DA X [a] t) (hg:autoParam (Gl X "range") ZR) (hs:autoParam (starEach [a] X.env=[(false,eval a X.env)]) ZR):DI X tg (.Call (.Name "range" p) [a] [] pos) (bG2 t) :=
 iP (aC0 hg hm ha hs) fun σ H R q=>by
  obtain ⟨δ,h,A,μ,k,Rr,q,c⟩:=q;refine ⟨δ,h,A,μ,_,Rr,q,fun ws h1 vs H1 A1 μ1 q1 x1 R1 r1=>?_⟩;split at q1
  ·rename_i j;obtain ⟨v,rfl,rv⟩:=cU r1;have e:=bG rv;subst e;obtain ⟨⟨z1,z2⟩,q1⟩:=q1;refine ⟨j,rfl,z2,by omega,c _ _ h1 _ H1 A1 μ1 q1 x1 R1 ?_ trivial (aO4 0 j.toNat)⟩;rw [rng_len];show j.toNat<=2^24;omega
  ·exact q1.elim
def aE1 {X:Cx} {tg a b:Expr} {t:DTA} {p pos:Pos} (hm:X.mg "range"=none) (ha:DA X [a,b] t) (hg:autoParam (Gl X "range") ZR) (hs:autoParam (starEach [a,b] X.env=[(false,eval a X.env),(false,eval b X.env)]) ZR) (hs2:autoParam (starEach [b] X.env=[(false,eval b X.env)]) ZR) :
  DI X tg (.Call (.Name "range" p) [a,b] [] pos) (bG3 t) :=
 iP (aC1 hg hm ha hs hs2) fun σ H R q=>by
  obtain ⟨δ,h,A,μ,k,Rr,q,c⟩:=q;refine ⟨δ,h,A,μ,_,Rr,q,fun ws h1 vs H1 A1 μ1 q1 x1 R1 r1=>?_⟩;split at q1
  ·rename_i i j;obtain ⟨v,r,rfl,rv,r2⟩:=r1;obtain ⟨v',rfl,rv'⟩:=cU r2;have e:=bG rv;have e':=bG rv';subst e e';obtain ⟨⟨z1,z2⟩,q1⟩:=q1;refine ⟨i,j,rfl,z2,c _ _ h1 _ H1 A1 μ1 q1 x1 R1 ?_ trivial (aO4 i (j - i).toNat)⟩;rw [rng_len];show (j - i).toNat<=2^24;omega
  ·exact q1.elim
noncomputable def aE2 (g:DTG) (tb:DTS) (c:Option Nat) (all:List PyData):List PyData->DTS
 | [],E,δ,h=>cond c all h/\E.nx δ h
 | x::r,E,δ,h=>cond c all h/\g (.d x) δ h fun δ2 h2=>tb { nx:=aE2 g tb c all r E,ct:=aE2 g tb c all r E,bk:=E.nx,rt:=E.rt } δ2 h2
def dM9 (ti:DTI) (g:DTG) (tb:DTS):DTS:=fun E δ h=>ti δ h fun xs c h1=>aE2 g tb c xs xs E δ h1
noncomputable def uK (g:DTG) (tt:DTT) (te:DTE) (c:Option Nat) (all:List PyData):List PyData->DSt->aA->List PyData->(List PyData->aA->Prop)->Prop
 | [],_,h,ac,Q=>cond c all h/\Q ac h
 | x::r,δ,h,ac,Q=>cond c all h/\g (.d x) δ h fun δ2 h2=>tt δ2 h2 fun b h3 =>
  if b=true then te δ2 h3 fun w h4=>(match w with
   | .d y=>uK g tt te c all r δ2 h4 (ac++[y]) Q
   | .c _=>False
   | .v _=>False)
  else uK g tt te c all r δ2 h3 ac Q
noncomputable def bJ (ixs:List (Option Nat)) (δ:DSt):DSt:=ixs.map fun o=>o.bind fun i=>(δ[i]?).bind id
def aO5 (ixs:List (Option Nat)) (ti:DTI) (g:DTG) (tt:DTT) (te:DTE):DTF:=fun δ h Q=>ti δ h fun xs c h1=>uK g tt te c xs xs (bJ ixs δ) h1 [] Q
def DIf (X:Cx) (ifs:List Expr) (t:DTT):Prop:=PIf X ifs (upT X.K t)
def dN0:DTT:=fun _ h Q=>Q true h
section
variable {K:Frag} {A A' μ μ':List Addr} {H H':Hp} {h h':aA}
def pU {δ:DSt} {σ:L2.St} {ixs:List (Option Nat)} (r:EnvRep K A μ H δ σ):EnvRep K A μ H (bJ ixs δ) (oY ixs σ):=by
 refine ⟨by unfold bJ oY;rw [List.length_map,List.length_map],fun j w e=>?_⟩;unfold bJ at e;rw [List.getElem?_map] at e;cases q:ixs[j]? with
 | none=>rw [q] at e;cases e
 | some o =>
  rw [q] at e;cases o with
  | none=>cases e
  | some i =>
   have e':(δ[i]?).bind id=some w:=Option.some.inj e;cases q2:δ[i]? with
   | none=>rw [q2] at e';cases e'
   | some z =>
    rw [q2] at e';have e3:z=some w:=e';subst e3;obtain ⟨v,e4,r4⟩:=r.val i w q2;refine ⟨v,?_,r4⟩;unfold oY;rw [List.getElem?_map,q];show some ((σ[i]?).bind id)=_;rw [e4];rfl
def fD {p:Addr} {o:HO} (hp:H p=none):Ext A (p::A) μ μ H (upd H p o) :=
 ⟨fun _ z=>List.mem_cons_of_mem _ z,fun a z=>(List.mem_cons.mp z).elim (fun e=>.inr (by rw [e];exact hp)) .inl,⟨[],by simp,fun _ z=>(nomatch z)⟩,
  fun a o' _ q=>by rw [aN (aR q hp)];exact q,fun a o' q=>⟨o',by rw [aN (aR q hp)];exact q⟩⟩
def lN {p:Addr} {o:HO} (R:HeapRep K A μ h H) (hp:H p=none):HeapRep K (p::A) μ h (upd H p o):=by
 refine ⟨R.len,R.nd,fun a z=>List.mem_cons_of_mem _ (R.sub a z),fun a z=>?_,fun i a xs e1 e2=>?_⟩
 ·rcases List.mem_cons.mp z with e | z
  ·subst e;exact ⟨_,aU⟩
  ·obtain ⟨o',q⟩:=R.trk a z;exact ⟨o',by rw [aN (aR q hp)];exact q⟩
 ·have k:=R.cel i a xs e1 e2;obtain ⟨o',q⟩:=k.some;exact k.ext (fD (μ:=μ) hp) R.sub (aN (aR q hp))
def jV {p:Addr} {o:HO} (x:Ext A A' μ μ' H H') (h1:H p=some o) (h2:p∈A) (h3:p∉μ):H' p=some o/\p∈A'/\p∉μ':=by
 refine ⟨x.keep p o h3 h1,x.sub p h2,fun z=>?_⟩;obtain ⟨ν,e,n⟩:=x.pre;rw [e] at z;rcases List.mem_append.mp z with z | z
 ·exact h3 z
 ·rw [n p z] at h1;cases h1
def RepW.upd {p:Addr} {o:HO} (hp:p∈A) {w:W} {v:V} (r:RepW K A μ H w v):RepW K A μ (L2.upd H p o) w v:=by
 cases w with
 | d x=>exact Rep.upd hp r
 | c i=>exact r
 | v u=>exact r
def EnvRep.upd {p:Addr} {o:HO} (hp:p∈A) {δ:DSt} {σ:L2.St} (r:EnvRep K A μ H δ σ):EnvRep K A μ (L2.upd H p o) δ σ:=⟨r.len,fun i w e=>by
 obtain ⟨v,e1,r1⟩:=r.val i w e;exact ⟨v,e1,r1.upd hp⟩⟩
def Ext.aside {p:Addr} {o:HO} (x:Ext A A' μ μ' H H') (hp:H p=none):Ext A A' μ μ' H (upd H' p o) :=
 ⟨x.sub,x.new,x.pre,fun a o' ha q=>by rw [aN (aR q hp)];exact x.keep a o' ha q,fun a o' q=>by rw [aN (aR q hp)];exact x.trk a o' q⟩
def Ext.addc {p:Addr} (x:Ext A A' μ μ' H H') (hp:H p=none):Ext A A' μ (μ'++[p]) H H':=by
 obtain ⟨ν,e,n⟩:=x.pre;exact ⟨x.sub,x.new,⟨ν++[p],by rw [e,List.append_assoc],fun a z=>(List.mem_append.mp z).elim (n a) fun z=>by rw [List.mem_singleton.mp z];exact hp⟩,x.keep,x.trk⟩
def aE3 {p:Addr} {xs:List PyData} {vs:List V} (R:HeapRep K A μ h H) (h1:H p=some (.lst vs)) (h2:p∈A) (h3:p∉μ) (r:Reps K A H xs vs):HeapRep K A (μ++[p]) (h++[(.l xs)]) H/\aM7 h:=by
 refine ⟨?_,R.refs⟩;refine ⟨by rw [List.length_append,List.length_append,R.len];rfl,?_,fun a z=>?_,R.trk,fun i a ys e1 e2=>?_⟩
 ·rw [List.nodup_append];refine ⟨R.nd,(by simp),fun a ha b hb=>?_⟩;rw [List.mem_singleton.mp hb];rintro rfl;exact h3 ha
 ·rcases List.mem_append.mp z with z | z
  ·exact R.sub a z
  ·rw [List.mem_singleton.mp z];exact h2
 ·by_cases hi:i < μ.length
  ·rw [List.getElem?_append_left hi] at e1;rw [List.getElem?_append_left (by rw [<- R.len];exact hi)] at e2;exact (R.cel i a ys e1 e2).anti (fun _ z=>z) fun j _ b eb=>by rw [List.getElem?_append_left (List.getElem?_eq_some_iff.mp eb).1];exact eb
  ·have hle:μ.length<=i:=Nat.le_of_not_lt hi;rw [List.getElem?_append_right hle] at e1;rw [List.getElem?_append_right (by rw [<- R.len];exact hle),<- R.len] at e2;have hz:i - μ.length=0:=by
    have:=(List.getElem?_eq_some_iff.mp e1).1;simp at this;omega
   rw [hz] at e1 e2;simp at e1 e2;subst e1 e2;exact ⟨vs,h1,r⟩
end
section
variable {X:Cx} {tg iter elt:Expr} {ifs:List Expr} {sc S:Scope} {N':List Str} {ixs:List (Option Nat)} {body:List Stmt} {ti:DTI} {g:DTG} {tb:DTS} {tt:DTT} {te:DTE} {pos:Pos}
def bG4:DIf X [] dN0:=fun pins s σ H Q I q=>by
 obtain ⟨δ,h,A,μ,k,R,q,c⟩:=q;exact bD9 pins s σ H Q I (c true h H A μ q .refl R.1)
def bG5 {c:Expr} (h:DT X c tt):DIf X [c] tt:=bE0 h
def cC7 (hxe:X.xe=fun _ _=>False) (hc:X.calm=true) (hi:DI X tg iter ti) (hg:DG X tg g) (hb:DSs X body tb) (hs:autoParam (∀ x,foldedSetIterable iter X.env x=pure x) ZI):DS X (.For tg iter body [] pos) (dM9 ti g tb) :=
 bF (bY0 (by rw [hxe];exact PassesOwn.never) hc hi hg hb hs) fun D σ H q=>by
  obtain ⟨δ,h,A,μ,E,R,q,L⟩:=q;refine ⟨δ,h,A,μ,_,R,q,fun xs c h1 J H1 A1 μ1 q1 x1 R1 hz hcd it=>?_⟩;refine ⟨fun i m σ' H'=>∃ δ' h' A' μ',m=xs.length - i/\i<=xs.length/\Ext A1 A' μ1 μ' H1 H'/\Ab X.K A' μ' δ' h' σ' H'/\aE2 g tb c xs (xs.drop i) E δ' h',⟨_,δ,h1,A1,μ1,rfl,Nat.zero_le _,.refl,⟨R1,R.2.ext x1 R.1.sub⟩,by simpa using q1⟩,?_⟩;rintro i m σ' H' ⟨δ',h',A',μ',rfl,hi,y,R',q'⟩
  by_cases hlt:i < xs.length
  ·rw [List.drop_eq_getElem_cons hlt] at q';obtain ⟨hcond,q'⟩:=q';obtain ⟨it1,_⟩:=it A' μ' H' h' y R'.1 hcond;obtain ⟨go,yl⟩:=it1 i xs[i] (by simp [hlt]);refine .inr ⟨go,fun σ2 H2=>∃ δ2 h2 A2 μ2,Ext A1 A2 μ1 μ2 H1 H2/\Ab X.K A2 μ2 δ2 h2 σ2 H2/\aE2 g tb c xs (xs.drop (i+1)) E δ2 h2,fun σ2 H2 ⟨δ2,h2,A2,μ2,z1,z2,z3⟩=>⟨xs.length - (i+1),by omega,δ2,h2,A2,μ2,rfl,hlt,z1,z2,z3⟩,fun v H2 hy=>?_⟩;obtain ⟨y2,R2,r2⟩:=yl v H2 hy;refine ⟨.d xs[i],δ',h',A',μ',_,⟨R2,R'.2.ext y2 R'.1.sub⟩,r2,q',fun δ3 h3 σ3 H3 A3 μ3 q3 x3 R3=>?_⟩;have y3:=(y.trans y2).trans x3;refine ⟨δ3,h3,A3,μ3,_,R3,q3,⟨fun δ4 h4 σ4 H4 A4 μ4 q4 x4 R4=>⟨δ4,h4,A4,μ4,y3.trans x4,R4,q4⟩,fun δ4 h4 σ4 H4 A4 μ4 q4 x4 R4=>L.nx δ4 h4 σ4 H4 A4 μ4 q4 (x1.trans (y3.trans x4)) R4,
    fun δ4 h4 σ4 H4 A4 μ4 q4 x4 R4=>⟨δ4,h4,A4,μ4,y3.trans x4,R4,q4⟩,fun w h4 v H4 A4 μ4 q4 x4 R4 r4=>L.rt w h4 v H4 A4 μ4 q4 (x1.trans (y3.trans x4)) R4 r4⟩⟩
  ·have e:i=xs.length:=by omega
   subst e;rw [List.drop_length] at q';obtain ⟨hcond,q'⟩:=q';obtain ⟨_,it2⟩:=it A' μ' H' h' y R'.1 hcond;exact .inl ⟨it2 _ (Nat.le_refl _),L.nx δ' h' σ' H' A' μ' q' (x1.trans y) R'⟩
def zE {σ:L2.St} {H:Hp} {Q:VK} (q:upF X.K (aO5 ixs ti g tt te) σ H Q):yZ ixs (upI X.K ti) (upG X.K g) (upT X.K tt) (up X.K te) σ H Q:=by
 obtain ⟨δ,h,A,μ,k,R,q,c⟩:=q;refine ⟨δ,h,A,μ,_,R,q,fun xs cc h1 J H2 A1 μ1 q1 x1 R1 hz hcd it=>?_⟩;intro acc hacc;have nA:=R1.notA hacc;have E1:=pU (ixs:=ixs) (R.2.ext x1 R.1.sub);refine ⟨fun i m ys σ' H'=>∃ δ' h' A' μ' ac,m=xs.length - i/\i<=xs.length/\H' acc=some (.lst ys)/\acc∈A'/\acc∉μ'/\Ext A1 A' μ1 μ' H2 H'/\Ab X.K A' μ' δ' h' σ' H'/\Reps X.K A' H' ac ys/\ys.length<=i/\uK g tt te cc xs (xs.drop i) δ' h' ac k,
  ⟨_,bJ ixs δ,h1,acc::A1,μ1,[],rfl,Nat.zero_le _,aU,List.mem_cons_self,fun z=>nA (R1.sub _ z),fD hacc,⟨lN R1 hacc,E1.ext (fD hacc) R1.sub⟩,.nil,Nat.le_refl _,by simpa using q1⟩,?_⟩
 rintro i m ys σ' H' ⟨δ',h',A',μ',ac,rfl,hi,a1,a2,a3,y,R',rr,hyl,q'⟩
 by_cases hlt:i < xs.length
 ·rw [List.drop_eq_getElem_cons hlt] at q';obtain ⟨hcond,q'⟩:=q';obtain ⟨it1,_⟩:=it A' μ' H' h' y R'.1 hcond;obtain ⟨go,yl⟩:=it1 i xs[i] (by simp [hlt]);refine .inr ⟨go,fun v H3 hy=>?_⟩;obtain ⟨y2,R2,r2⟩:=yl v H3 hy;refine ⟨.d xs[i],δ',h',A',μ',_,⟨R2,R'.2.ext y2 R'.1.sub⟩,r2,q',fun δ4 h4 σ4 H4 A4 μ4 q4 x4 R4=>?_⟩;refine ⟨δ4,h4,A4,μ4,_,R4,q4,fun b h5 H5 A5 μ5 q5 x5 R5=>?_⟩;have z5:=(y2.trans x4).trans x5;obtain ⟨b1,b2,b3⟩:=jV z5 a1 a2 a3;dsimp only at q5 ⊢;cases b with
  | false =>
   rw [if_neg Bool.false_ne_true] at q5;rw [if_neg Bool.false_ne_true];exact ⟨xs.length - (i+1),by omega,δ4,h5,A5,μ5,ac,rfl,hlt,b1,b2,b3,y.trans z5,⟨R5,R4.2.ext x5 R4.1.sub⟩,rr.ext z5 R'.1.sub,by omega,q5⟩
  | true =>
   rw [if_pos rfl] at q5;rw [if_pos rfl];refine ⟨δ4,h5,A5,μ5,_,⟨R5,R4.2.ext x5 R4.1.sub⟩,q5,fun w h6 v6 H6 A6 μ6 q6 x6 R6 r6=>?_⟩;have z6:=z5.trans x6;obtain ⟨c1,c2,c3⟩:=jV z6 a1 a2 a3;cases w with
   | c j=>exact q6.elim
   | v u=>exact q6.elim
   | d d6 =>
    have hl6:ys.length < sizeLine:=by omega
    refine ⟨c1,hl6,xs.length - (i+1),by omega,δ4,h6,A6,μ6,ac++[d6],rfl,hlt,aU,c2,c3,(y.trans z6).aside hacc,⟨nJ R6 c2 c3,((R4.2.ext x5 R4.1.sub).ext x6 R5.sub).upd c2⟩,?_,?_,q6⟩
    ·exact ((Reps.one r6).append (rr.ext z6 R'.1.sub)).upd c2
    ·rw [List.length_append,List.length_singleton];omega
 ·have e:i=xs.length:=by omega
  subst e;rw [List.drop_length] at q';obtain ⟨hcond,q'⟩:=q';obtain ⟨_,it2⟩:=it A' μ' H' h' y R'.1 hcond;have x2:=x1.trans y;obtain ⟨ν,e1,_⟩:=x2.pre;exact .inl ⟨it2 _ (Nat.le_refl _),a1,c _ h' acc H' A' μ' q' (x2.addc (x1.back hacc)) ⟨ν,e1⟩ (x1.back hacc) (aE3 R'.1 a1 a2 a3 rr)⟩
def bG6 {N:List Str} (hxe:X.xe=fun _ _=>False) (hc:X.calm=true) (hS:X.env.scope=S) (hXN:X.N=N) (SC:CompSc N N' ixs S sc) (hi:DI X tg iter ti)
  (hg:∀ cl C s H fp,DG (blk X N' sc cl C s H fp) tg g) (ht:∀ cl C s H fp,DIf (blk X N' sc cl C s H fp) ifs tt) (he:∀ cl C s H fp,DE (blk X N' sc cl C s H fp) elt te)
  (hs:autoParam (∀ x,foldedSetIterable iter X.env x=pure x) ZI):DF X (.ListComp elt [⟨tg,iter,ifs,0⟩] sc pos) (aO5 ixs ti g tt te) :=
 aG (zA (N':=N') (ixs:=ixs) (g:=upG X.K g) (tt:=upT X.K tt) (te:=up X.K te) hxe hc hS (by rw [hXN];exact SC) hi hg ht he hs) fun _ _ _ q=>zE q
def aO6 {y:Str} {i:Nat} {py spos:Pos} {N:List Str} (hN:X.N.Nodup) (hxe:X.xe=fun _ _=>False) (hc:X.calm=true) (hS:X.env.scope=S) (hXN:X.N=N) (SC:CompSc N N' ixs S sc) (hi:DI X tg iter ti)
  (hg:∀ cl C s H fp,DG (blk X N' sc cl C s H fp) tg g) (ht:∀ cl C s H fp,DIf (blk X N' sc cl C s H fp) ifs tt) (he:∀ cl C s H fp,DE (blk X N' sc cl C s H fp) elt te)
  (hiN:autoParam (X.N[i]?=some y) ZR) (hy:autoParam (X.env.scope.names.lookup y=some .local) ZR) (hsw:autoParam (swapsWith (.ListComp elt [⟨tg,iter,ifs,0⟩] sc pos) (some (.Name y py)) spos.line X.env=pure true) ZR)
  (hs:autoParam (∀ x,foldedSetIterable iter X.env x=pure x) ZI):DFS X i (.Assign [.Name y py] (.ListComp elt [⟨tg,iter,ifs,0⟩] sc pos) spos) (aO5 ixs ti g tt te) :=
 bF (xB (N':=N') (ixs:=ixs) (g:=upG X.K g) (tt:=upT X.K tt) (te:=up X.K te) hxe hc hS (by rw [hXN];exact SC) hi hg ht he hN hiN hy hsw hs) fun _ _ _ q=>zE q
end
noncomputable def cZ (N:List Str) (ws:List W):DSt:=ws.map some++List.replicate (N.length - ws.length) none
noncomputable def aO7 (h0:aA) (k:PyData->aA->Prop):DEnds where
 nx:=fun _ h=>okP h0 h/\k .none (h.take h0.length)
 rt:=fun w h=>okP h0 h/\(match w with
  | .d x=>k x (h.take h0.length)
  | .c i=>(match h[i]? with
   | some (.l xs)=>h0.length<=i/\k (.list xs) (h.take h0.length)
   | some (.k kvs)=>h0.length<=i/\k (.dict kvs) (h.take h0.length)
   | _=>False)
  | .v _=>False)
theorem eU {K:Frag} {A μ:List Addr} {H:Hp}:∀ {ws:List W} {vs:List V},RepWs K A μ H ws vs->vs.length=ws.length
 | [],_,h=>by have e:_=[]:=h;subst e;rfl
 | w::ws,_,h=>by
  obtain ⟨v,r,rfl,_,h⟩:=h;rw [List.length_cons,List.length_cons,eU h]
theorem pV {K:Frag} {A μ:List Addr} {H:Hp}:∀ {ws:List W} {vs:List V} {i:Nat} {w:W},RepWs K A μ H ws vs->ws[i]?=some w->∃ v,vs[i]?=some v/\RepW K A μ H w v
 | [],_,_,_,_,e=>by simp at e
 | y::ws,_,0,w,h,e=>by
  obtain ⟨v,r,rfl,hv,_⟩:=h;simp at e;subst e;exact ⟨v,rfl,hv⟩
 | y::ws,_,i+1,w,h,e=>by
  obtain ⟨v,r,rfl,_,h⟩:=h;obtain ⟨u,e1,e2⟩:=pV (i:=i) h (by simpa using e);exact ⟨u,by simpa using e1,e2⟩
def kL {K:Frag} {A μ:List Addr} {H:Hp} {N:List Str} {ws:List W} {vs:List V} (r:RepWs K A μ H ws vs):EnvRep K A μ H (cZ N ws) (L2.start N vs):=by
 have hl:=eU r;refine ⟨by unfold cZ L2.start;simp [hl],fun i w e=>?_⟩;unfold cZ at e
 by_cases hi:i < ws.length
 ·rw [List.getElem?_append_left (by simpa using hi),List.getElem?_map] at e;cases q:ws[i]? with
  | none=>rw [q] at e;cases e
  | some w' =>
   rw [q] at e;cases e;obtain ⟨v,e1,r1⟩:=pV r q;refine ⟨v,?_,r1⟩;unfold L2.start;rw [List.getElem?_append_left (by simp;omega),List.getElem?_map,e1];rfl
 ·rw [List.getElem?_append_right (by simpa using hi),List.getElem?_replicate] at e;split at e<;>cases e
def kM {K:Frag} {A A1 μ μ1:List Addr} {h h1:aA} {H H1:Hp} (R:HeapRep K A μ h H) (R1:HeapRep K A1 μ1 h1 H1) (x:Ext A A1 μ μ1 H H1) (ok:okP h h1):Ext A A μ μ H H1/\HeapRep K A μ (h1.take h.length) H1:=by
 obtain ⟨ν,e,n⟩:=x.pre;have hle:μ.length<=h1.length:=by
  rw [<- R1.len,e,List.length_append];omega
 refine ⟨⟨fun _ z=>z,fun _ z=>.inl z,⟨[],by simp,fun _ z=>(nomatch z)⟩,x.keep,x.trk⟩,⟨by rw [List.length_take,<- R.len];omega,R.nd,R.sub,fun a z=>?_,fun i a xs e1 e2=>?_⟩⟩
 ·obtain ⟨o,q⟩:=R.trk a z;exact x.trk a o q
 ·have hi:i < μ.length:=(List.getElem?_eq_some_iff.mp e1).1;have e3:h1[i]?=some xs:=by rw [<- R.len] at e2;rw [List.getElem?_take_of_lt hi] at e2;exact e2
  refine (R1.cel i a xs (by rw [e,List.getElem?_append_left hi];exact e1) e3).anti x.sub fun j hj b eb=>?_;have hlt:j < μ.length:=by
   rcases ok i xs (by rw [<- R.len];exact hi) e3 with z | z
   ·rw [R.len];exact z j hj
   ·exact (R.cel i a xs e1 z).lt j hj
  rw [e,List.getElem?_append_left hlt] at eb;exact eb
section
variable {P:Program} {w:World} {K:Frag} {mg:Str->Option Value} {base:Heap}
def cV2 {x qual:Str} {st:Stmt} {f:Addr} {fd:FuncData} {N ps:List Str} {k:Nat} {sp:Sp} (F:Fun K x qual st f fd) (S:FnScope N ps (aK st)) (len:∀ vs H Q E,sp vs H Q E->vs.length=ps.length)
  (hbody:∀ (cdv:Value) (A:Around) (outer:List Env) (s:Shared) (H:Hp) (vs:List V) (Q:VK) (E:XK),fd.code=cdv->Room k (A.deeper (envOfC qual (aK st) s.heap.objs.size f cdv))->sp vs H Q E ->
   ∃ t,PSs (nC CX0 P w K mg base N qual (aK st) f cdv A outer s H E).nox (bR st) t/\t { nx:=fun _ H'=>Q .non H',rt:=Q } (start N vs) H):FnOk P w K mg base CX0 (k+1) f fd ps sp:=by
 obtain ⟨oc,od,kV,doc,pm,an,cdv,ct,osl,rfl,lk,hcd⟩:=F.ex;refine bP3 lk hcd S len fun A outer s H vs Q E hr hsp=>?_;obtain ⟨t,h,q⟩:=hbody cdv A outer s H vs Q E rfl hr hsp;exact ⟨t,h.nox,q⟩
def dfn {x qual:Str} {st:Stmt} {f:Addr} {fd:FuncData} {N ps:List Str} {k:Nat} {d:DSp} (F:Fun K x qual st f fd) (S:FnScope N ps (aK st)) (len:∀ ws h k,d ws h k->ws.length=ps.length)
  (hbody:∀ (cdv:Value) (A:Around) (outer:List Env) (s:Shared) (H:Hp) (E:XK),fd.code=cdv->Room k (A.deeper (envOfC qual (aK st) s.heap.objs.size f cdv)) ->
   ∃ t,DSs (nC CX0 P w K mg base N qual (aK st) f cdv A outer s H E).nox (bR st) t/\∀ ws h kk,d ws h kk->t (aO7 h kk) (cZ N ws) h):FnOk P w K mg base CX0 (k+1) f fd ps (lZ K d):=by
 refine cV2 F S (fun vs H Q E ⟨ws,h,A,μ,kk,R,r,q,c⟩=>by rw [eU r];exact len _ _ _ q) fun cdv A outer s H vs Q E hcd hr hsp=>?_;obtain ⟨ws,h,B,μ,kk,R,r,q,c⟩:=hsp;obtain ⟨t,ht,hq⟩:=hbody cdv A outer s H E hcd hr;refine ⟨_,ht,cZ N ws,h,B,μ,aO7 h kk,⟨R,kL r⟩,hq ws h kk q,⟨fun δ' h' σ' H' A' μ' q' x' R'=>?_,fun δ' h' σ' H' A' μ' q' x' R'=>q'.elim,fun δ' h' σ' H' A' μ' q' x' R'=>q'.elim,fun z h' v H' A' μ' q' x' R' r'=>?_⟩⟩
 ·obtain ⟨y,R2⟩:=kM R R'.1 x' q'.1;exact c _ _ _ _ B q'.2 y R2 (by rw [Rep])
 ·obtain ⟨ok,q'⟩:=q';obtain ⟨y,R2⟩:=kM R R' x' ok;cases z with
  | d z=>exact c _ _ _ _ B q' y R2 (Rep.anti x'.sub r')
  | v u=>exact q'.elim
  | c i =>
   obtain ⟨a,ea,rfl⟩:=r';have q2:(match h'[i]? with | some (.l xs)=>h.length<=i/\kk (.list xs) (h'.take h.length) | some (.k kvs)=>h.length<=i/\kk (.dict kvs) (h'.take h.length) | _=>False):=q';cases e:h'[i]? with
   | none=>rw [e] at q2;exact q2.elim
   | some cc =>
    cases cc with
    | t _ _ _=>rw [e] at q2;exact q2.elim
    | o _ _=>rw [e] at q2;exact q2.elim
    | r _=>rw [e] at q2;exact q2.elim
    | l xs =>
     rw [e] at q2;obtain ⟨hi,q3⟩:=q2;obtain ⟨vs,hv,rr⟩:=R'.val i a xs ea e;refine c _ _ _ _ B q3 y R2 ?_;rw [Rep];refine ⟨a,vs,rfl,.inl ⟨fun z=>?_,.inl hv⟩,rr.anti x'.sub⟩;obtain ⟨ν,e1,n⟩:=x'.pre;rw [e1,List.getElem?_append_right (by rw [R.len];exact hi)] at ea;have:=n a (List.mem_of_getElem? ea);obtain ⟨o,q⟩:=R.trk a z;rw [this] at q;cases q
    | k kvs =>
     rw [e] at q2;obtain ⟨hi,q3⟩:=q2;obtain ⟨vs,hv,rr⟩:=R'.vad i a kvs ea e;refine c _ _ _ _ B q3 y R2 ?_;rw [Rep];refine ⟨a,vs,rfl,⟨fun z=>?_,.inl hv⟩,rr.anti x'.sub⟩;obtain ⟨ν,e1,n⟩:=x'.pre;rw [e1,List.getElem?_append_right (by rw [R.len];exact hi)] at ea;have:=n a (List.mem_of_getElem? ea);obtain ⟨o,q⟩:=R.trk a z;rw [this] at q;cases q
def aO8 {x qual:Str} {st:Stmt} {f:Addr} {fd:FuncData} {ps:List Str} {k:Nat} {d:DSp} (h:FnOk P w K mg base CX0 k f fd ps (lZ K d)) (hm:mg x=some (.ref f)) (F:Fun K x qual st f fd) (b:Binds K fd ps []):DFn P w K mg base k x d:=⟨f,fd,ps,h,hm,F.kp,b⟩
end
section
variable {X:Cx} {a b e:Expr} {es:List Expr} {ta tb te:DTE} {t:DTA} {pos p p2:Pos} {x:Str}
def zF:OpR X (binaryOp .Add) (fun x y H Q=>∃ a b xs ys,x=.ref a/\y=.ref b/\SqL X.K H a xs/\SqL X.K H b ys/\xs.length+ys.length<=sizeLine/\∀ p,H p=none->Q (.ref p) (upd H p (.lst (xs++ys)))):=by
 intro pins s σ H x y v u Q I rx ry h;obtain ⟨a,b,xs,ys,rfl,rfl,ha,hb,hz,q⟩:=h;cases rx;cases ry;obtain ⟨its,r1,p1,_⟩:=I.list ha;obtain ⟨its2,r2,p2,_⟩:=I.list hb;obtain ⟨⟨cls,dd,data,sl⟩,n,ho,hc,_,hd⟩:=id p1;obtain ⟨⟨cls2,dd2,data2,sl2⟩,n2,ho2,hc2,_,hd2⟩:=id p2;simp only at hc hd hc2 hd2;subst hc hd hc2 hd2;have l1:=r1.length;have l2:=r2.length;have ea:its.toArray++its2.toArray=(its++its2).toArray:=by simp
 refine concat_meets ⟨_,ho,rfl⟩ ⟨_,ho2,rfl⟩ noFill_list_add seq_list_add PySem.F.slot_list_add PySem.F.entry_list_add (PySem.F.args_list_add_2 _ _) (list_addW a b its.toArray its2.toArray n n2 dd dd2 sl sl2 (by rw [List.size_toArray,List.size_toArray];omega)) ⟨ho,ho2,?_⟩;rw [ea];exact ⟨.ref _,_,I.lnew (t':=s.toks) (r1.append r2) (by rw [List.length_append];exact hz),rfl,q _ I.fresh⟩
noncomputable def dD:List PyData->Option (List Bool)
 | []=>some []
 | .bool b::r=>(dD r).map (b::·)
 | _::_=>none
theorem nO {K:Frag} {A:List Addr} {H:Hp}:∀ {xs:List PyData} {bs:List Bool} {vs:List V},dD xs=some bs->Reps K A H xs vs->vs=bs.map V.bl
 | [],_,_,e,h=>by rw [Reps] at h;cases e;exact h
 | x::r,bs,vs,e,h=>by
  rw [Reps] at h;obtain ⟨v,rr,rfl,hv,h⟩:=h;cases x with
  | bool b =>
   unfold dD at e;cases q:dD r with
   | none=>rw [q] at e;cases e
   | some cs =>
    rw [q] at e;have e':b::cs=bs:=Option.some.inj e;subst e';rw [Rep] at hv;rw [hv,nO q h];rfl
  | _=>cases e
def aE4 {f:Nat->Bool} (bs:List Bool) (h:∀ i b,bs[i]?=some b->f i=b):(List.range bs.length).all f=bs.all id:=by
 rw [Bool.eq_iff_iff,List.all_eq_true,List.all_eq_true];constructor
 ·intro z b hb;obtain ⟨i,hi,e⟩:=List.mem_iff_getElem.mp hb;have:=z i (by simpa using hi);rw [h i b (by simp [hi,e])] at this;exact this
 ·intro z i hi;have hi':i < bs.length:=by simpa using hi
  rw [h i bs[i] (by simp [hi'])];exact z _ (List.getElem_mem hi')
def aE5 (hc:X.calm=true):cF X (.builtin "all") (fun xs H Q=>∃ (p:Addr) (bs:List Bool),xs=[.ref p]/\SqL X.K H p (bs.map V.bl)/\Q (.bl (bs.all id)) H):=by
 intro pins s σ H xs us Q I r h;obtain ⟨p,bs,rfl,sq,q⟩:=h;obtain ⟨u,rfl,ru⟩:=iX r;cases ru;obtain ⟨its,rv,pl,hz⟩:=I.list sq;have hl:=rv.length;rw [List.length_map] at hl;have hlt:p < s.heap.objs.size:=by obtain ⟨o,n,e,_⟩:=pl;exact Heap.lt_size e
 refine call_all_walk (wpAny_pyIter_list pl.isList ?_);refine ⟨s.heap.objs.size,_,_,its.toArray.size,_,_,fun i=>(bs[i]?).getD true,rfl,Walks.list (A:=X.A.in1) (I.ok.hd hc) s.heap.objs.size p (Nat.ne_of_lt hlt) its.toArray,⟨⟨_,Heap.get?_push_size _ rfl,rfl,rfl⟩,?_⟩,fun i v s' Q' E' hP hQ=>?_,fun h' tk hk=>?_⟩
 ·obtain ⟨o,ho,r⟩:=pl.isList;exact ⟨o,Heap.get?_push_of_some _ ho,r⟩
 ·have hi:i < its.length:=by
   have:=(Array.getElem?_eq_some_iff.mp hP).1
   simpa using this
  have eb:bs[i]?=some (bs[i]'(by omega)):=by simp
  obtain ⟨u',e1,e2⟩:=rv.get (i:=i) (x:=V.bl (bs[i]'(by omega))) (by rw [List.getElem?_map,eb];rfl);have e3:v=u':=by
   have hP':its[i]?=some v:=by simpa using hP
   rw [hP'] at e1;exact Option.some.inj e1
  subst e3;cases e2;dsimp only at hQ;rw [eb] at hQ;exact wpAny_truthy_bool hQ
 ·have e:(List.range its.toArray.size).all (fun i=>(bs[i]?).getD true)=bs.all id:=by
   have:=aE4 (f:=fun i=>(bs[i]?).getD true) bs (fun i b e=>by simp [e]);rw [List.size_toArray,<- hl];exact this
  refine ⟨.bl (bs.all id),H,I.kept fun b o eo=>hk b o ?_ (Heap.get?_push_of_some _ eo),by rw [e];rfl,q⟩;intro z;rw [List.mem_singleton.mp z] at eo;exact absurd (Heap.lt_size eo) (Nat.lt_irrefl _)
noncomputable def cC8:DC
 | [w],h,Q=>match ref h w with
  | some (.list xs)=>(match dD xs with
   | some bs=>Q (.d (.bool (bs.all id))) h
   | none=>False)
  | _=>False
 | _,_,_=>False
def aE6 (hc:X.calm=true):cF X (.builtin "all") (upC X.K cC8):=by
 intro pins s σ H xs us Q I r h;obtain ⟨ws,h,A,μ,k,R,rw',q,c⟩:=h;unfold cC8 at q;split at q
 ·rename_i w h0 k0;obtain ⟨v,rfl,rv⟩:=cU rw';split at q
  ·rename_i ys ey;split at q
   ·rename_i bs eb;obtain ⟨p,vs,rfl,sq,rr⟩:=bZ R rv ey;have ev:=nO eb rr;subst ev;exact aE5 hc pins s σ H _ us Q I r ⟨p,bs,rfl,sq,c _ _ _ _ _ _ q .refl R bE⟩
   ·exact q.elim
  ·exact q.elim
 ·exact q.elim
noncomputable def fI:PyData->String
 | .none=>"NoneType"
 | .bool _=>"bool"
 | .int _=>"int"
 | .str _=>"str"
 | .list _=>"list"
 | .tuple _=>"tuple"
 | .dict _=>"dict"
noncomputable def isi (d:PyData) (T:String):Bool:=fI d==T||(fI d=="bool"&&T=="int")
def lO (T:String):Prop:=∀ (K:Frag) (d:PyData),PySem.W.kitOne K (.type (fI d)) (.type T)=some (isi d T)
def bG7:lO "int":=fun K d=>by cases d<;>kernel_rfl
def aO9:lO "bool":=fun K d=>by cases d<;>kernel_rfl
def bG8:lO "str":=fun K d=>by cases d<;>kernel_rfl
def aE7:lO "tuple":=fun K d=>by cases d<;>kernel_rfl
def aP0:lO "list":=fun K d=>by cases d<;>kernel_rfl
def dN1 (T:String) (te:DTE):DTE:=fun δ h Q=>te δ h fun w h1=>match ref h1 w with
 | some d=>Q (.d (.bool (isi d T))) h1
 | none=>False
def aP1 {pins:List (Addr×Obj)} {σ:L2.St} {H:Hp} {s:Shared} {A μ:List Addr} {h:aA} {w:W} {d:PyData} {v:V} {u:Value} {T:String} {Q:Value->Shared->Prop} {Ar:Around} {E:Value->Shared->Prop}
  (I:Inv X pins σ H s) (R:HeapRep X.K A μ h H) (r:RepW X.K A μ H w v) (e:ref h w=some d) (rv:RelV v u) (hk:lO T) (q:∀ tk,Q (.bool (isi d T)) { s with toks:=tk }) :
  wpAny (model X.prog X.w) Ar (call (.builtin "isinstance") [u,.type T]) Q E s:=by
 have ek:=hk X.K d;cases d with
 | none =>
  have z:=bM R r e;rw [See] at z;subst z;cases rv;exact PySem.W.kia_one PySem.W.kitx_none I.kIn True.intro ek (fun z=>nomatch z) q
 | bool b =>
  have z:=bM R r e;rw [See] at z;subst z;cases rv;exact PySem.W.kia_one PySem.W.kitx_bool I.kIn True.intro ek (fun z=>nomatch z) q
 | int b =>
  have z:=bM R r e;rw [See] at z;subst z;obtain ⟨t,rfl⟩:=rv;exact PySem.W.kia_one PySem.W.kitx_int I.kIn True.intro ek (fun z=>nomatch z) q
 | str b =>
  have z:=bM R r e;rw [See] at z;subst z;obtain ⟨t,rfl⟩:=rv;exact PySem.W.kia_one PySem.W.kitx_str I.kIn True.intro ek (fun z=>nomatch z) q
 | list xs =>
  obtain ⟨p,vs,rfl,sq,_⟩:=bZ R r e;cases rv;obtain ⟨its,_,⟨o,n,ho,hc,_⟩,_⟩:=I.list sq;exact PySem.W.kia_one PySem.W.kitx_list I.kIn ⟨o,ho,hc⟩ ek (fun z=>nomatch z) q
 | tuple xs =>
  obtain ⟨p,vs,rfl,sq,_⟩:=bB r e;cases rv;obtain ⟨its,_,⟨o,ho,hc,_⟩,_⟩:=I.tuple sq.sq;exact PySem.W.kia_one PySem.W.kitx_tuple I.kIn ⟨o,ho,hc⟩ ek (fun z=>nomatch z) q
 | dict kvs =>
  cases w with
  | v u=>cases e
  | c i =>
   obtain ⟨p,ep,rfl⟩:=r;dsimp only [DL.ref] at e;cases q0:h[i]? with
   | none=>rw [q0] at e;cases e
   | some cc =>
    cases cc with
    | t _ _ _=>rw [q0] at e;cases e
    | o _ _=>rw [q0] at e;cases e
    | r _=>rw [q0] at e;cases e
    | l ys=>rw [q0] at e;cases e
    | k ys =>
     obtain ⟨rr,hp,_⟩:=R.vad i p ys ep q0;cases rv;obtain ⟨_,_,vs,_,o,es,ep',h1,h2,_⟩:=nE I.hok (.inl hp);exact PySem.W.kia_one PySem.W.kitx_dict I.kIn ⟨o,h1,h2.1⟩ ek (fun z=>nomatch z) q
  | d y =>
   cases e;have z:Rep X.K A H (.dict kvs) v:=r;rw [Rep] at z;obtain ⟨p,kv',rfl,⟨_,hp⟩,_⟩:=z;cases rv;obtain ⟨_,_,vs,_,o,es,ep,h1,h2,_⟩:=nE I.hok hp;exact PySem.W.kia_one PySem.W.kitx_dict I.kIn ⟨o,h1,h2.1⟩ ek (fun z=>nomatch z) q
def cC9 {T:Str} {Ts:String} (hk:lO Ts) (hm:X.mg "isinstance"=none) (hT:X.mg T=none) (he:DE X e te) (hv:autoParam (bootBuiltins T=some (.type Ts)) ZR) (hg:autoParam (Gl X "isinstance") ZR) (hgT:autoParam (Gl X T) ZR) (hTn:autoParam (T≠"__name__") ZD) (hTd:autoParam ((T==("__debug__":Str))=false) ZD)
  (hs:autoParam (starEach (e::[.Name T p2]) X.env=(false,eval e X.env)::starEach [.Name T p2] X.env) ZR) (hs2:autoParam (starEach ([.Name T p2]:List Expr) X.env=(false,eval (.Name T p2) X.env)::starEach [] X.env) ZR)
  (hpl:autoParam ((backTo pos (starEach ([.Name T p2]:List Expr) X.env)).any (·.1)=false) ZR):DE X (.Call (.Name "isinstance" p) [e,.Name T p2] [] pos) (dN1 Ts te):=by
 have hT':PE X (.Name T p2) (tC (.ty Ts)):=yP hgT hT hv rfl hTn hTd;have ha:PA X [e,.Name T p2] (fA (up X.K te) (fA (tC (.ty Ts)) aC5)):=cN he (cN hT' kI hs2) hs;have hc:cF X (.builtin "isinstance") (fun xs H Q=>∃ x h A μ w d,xs=[x,.ty Ts]/\HeapRep X.K A μ h H/\RepW X.K A μ H w x/\ref h w=some d/\Q (.bl (isi d Ts)) H):=by
  intro pins s σ H xs us Q I r h;obtain ⟨x,h,A,μ,w,d,rfl,R,rx,e,q⟩:=h;cases r with
  | cons r1 r2 =>
   cases r2 with
   | cons r3 r4 =>
    cases r4;cases r3;exact aP1 I R rx e r1 hk fun tk=>⟨.bl _,H,I.tok tk,rfl,q⟩
 refine aG (jN hc hg hm (by rfl) ha (by decide) (by decide) hs hpl) fun σ H Q q=>?_;obtain ⟨δ,h,A,μ,k,R,q,c⟩:=q;refine ⟨δ,h,A,μ,_,R,q,fun w h1 v H1 A1 μ1 q1 x1 R1 r1=>?_⟩;split at q1
 ·rename_i d ed;exact ⟨v,h1,A1,μ1,w,d,rfl,R1,r1,ed,c _ h1 _ H1 A1 μ1 q1 x1 R1 bE⟩
 ·exact q1.elim
end
end DL
namespace SJ
open PySem
set_option genInjectivity true in
inductive One where
 | read (k:Nat) | write (k:Nat) (v:Int) | add (k:Nat) (n:Int) | swap (k:Nat) (o n:Int)
set_option genInjectivity true in
inductive Call where
 | one (c:One) | span (lo hi:Nat) | deal (cs:List One)
set_option genInjectivity true in
inductive Stp where
 | call (c:Call) | look (c:Call) | lay (ps:List (Nat×Int))
noncomputable def One.dat:One->PyData
 | .read k=>.tuple [.str "read",.int k]
 | .write k v=>.tuple [.str "write",.int k,.int v]
 | .add k n=>.tuple [.str "add",.int k,.int n]
 | .swap k o n=>.tuple [.str "swap",.int k,.int o,.int n]
noncomputable def One.key:One->Nat
 | .read k=>k | .write k _=>k | .add k _=>k | .swap k _ _=>k
noncomputable def Call.dat:Call->PyData
 | .one c=>c.dat
 | .span lo hi=>.tuple [.str "span",.int lo,.int hi]
 | .deal cs=>.tuple [.str "deal",.tuple (cs.map One.dat)]
noncomputable def Stp.dat:Stp->PyData
 | .call c=>c.dat
 | .look c=>.tuple [.str "look",c.dat]
 | .lay ps=>.tuple [.str "lay",.tuple (ps.map fun p=>.tuple [.int p.1,.int p.2])]
def One.ok (c:One):Prop:=c.key < 8
noncomputable def Call.ok:Call->Prop
 | .one c=>c.ok
 | .span lo hi=>lo < hi/\hi<=8
 | .deal cs=>cs.length<=4/\1<=cs.length/\∀ c∈cs,c.ok
noncomputable def got (v:Int):PyData:=.tuple [.str "got",.int v]
noncomputable def dn:PyData:=.tuple [.str "done"]
noncomputable def yes:PyData:=.tuple [.str "yes"]
noncomputable def no:PyData:=.tuple [.str "no"]
end SJ
namespace DL
open PySem PySem.Spec PyProof.Rows L2
@[simp] theorem dN2 (i:Int):SeqAt.shaped (.int i)=true:=by simp [SeqAt.shaped,PyData.canLay0,PyData.depth]
@[simp] theorem dH6 (i:Bool):SeqAt.shaped (.bool i)=true:=by simp [SeqAt.shaped,PyData.canLay0,PyData.depth]
@[simp] theorem dH7:SeqAt.shaped .none=true:=by simp [SeqAt.shaped,PyData.canLay0,PyData.depth]
@[simp] theorem dN3 (i j:Int):PyData.eqv (.int i) (.int j)=decide (i=j):=by rw [PyData.eqv];exact Bool.beq_eq_decide_eq i j
@[simp] theorem dN4 (i j:Str):PyData.eqv (.str i) (.str j)=(i==j):=by rw [PyData.eqv]
@[simp] theorem bG9:((Str.ofString "read")==(Str.ofString "write"))=false:=by decide +kernel
@[simp] theorem cD0:((Str.ofString "read")==(Str.ofString "add"))=false:=by decide +kernel
@[simp] theorem bQ0:((Str.ofString "read")==(Str.ofString "swap"))=false:=by decide +kernel
@[simp] theorem bQ1:((Str.ofString "read")==(Str.ofString "span"))=false:=by decide +kernel
@[simp] theorem bQ2:((Str.ofString "read")==(Str.ofString "deal"))=false:=by decide +kernel
@[simp] theorem bQ3:((Str.ofString "read")==(Str.ofString "look"))=false:=by decide +kernel
@[simp] theorem cD1:((Str.ofString "read")==(Str.ofString "lay"))=false:=by decide +kernel
@[simp] theorem bH0:((Str.ofString "write")==(Str.ofString "read"))=false:=by decide +kernel
@[simp] theorem bQ4:((Str.ofString "write")==(Str.ofString "add"))=false:=by decide +kernel
@[simp] theorem bH1:((Str.ofString "write")==(Str.ofString "swap"))=false:=by decide +kernel
@[simp] theorem bH2:((Str.ofString "write")==(Str.ofString "span"))=false:=by decide +kernel
@[simp] theorem bH3:((Str.ofString "write")==(Str.ofString "deal"))=false:=by decide +kernel
@[simp] theorem bH4:((Str.ofString "write")==(Str.ofString "look"))=false:=by decide +kernel
@[simp] theorem bQ5:((Str.ofString "write")==(Str.ofString "lay"))=false:=by decide +kernel
@[simp] theorem cD2:((Str.ofString "add")==(Str.ofString "read"))=false:=by decide +kernel
@[simp] theorem bQ6:((Str.ofString "add")==(Str.ofString "write"))=false:=by decide +kernel
@[simp] theorem cD3:((Str.ofString "add")==(Str.ofString "swap"))=false:=by decide +kernel
@[simp] theorem cD4:((Str.ofString "add")==(Str.ofString "span"))=false:=by decide +kernel
@[simp] theorem cD5:((Str.ofString "add")==(Str.ofString "deal"))=false:=by decide +kernel
@[simp] theorem cD6:((Str.ofString "add")==(Str.ofString "look"))=false:=by decide +kernel
@[simp] theorem cP9:((Str.ofString "add")==(Str.ofString "lay"))=false:=by decide +kernel
@[simp] theorem bQ7:((Str.ofString "swap")==(Str.ofString "read"))=false:=by decide +kernel
@[simp] theorem bH5:((Str.ofString "swap")==(Str.ofString "write"))=false:=by decide +kernel
@[simp] theorem cD7:((Str.ofString "swap")==(Str.ofString "add"))=false:=by decide +kernel
@[simp] theorem bQ8:((Str.ofString "swap")==(Str.ofString "span"))=false:=by decide +kernel
@[simp] theorem bQ9:((Str.ofString "swap")==(Str.ofString "deal"))=false:=by decide +kernel
@[simp] theorem bR0:((Str.ofString "swap")==(Str.ofString "look"))=false:=by decide +kernel
@[simp] theorem cD8:((Str.ofString "swap")==(Str.ofString "lay"))=false:=by decide +kernel
@[simp] theorem bR1:((Str.ofString "span")==(Str.ofString "read"))=false:=by decide +kernel
@[simp] theorem bH6:((Str.ofString "span")==(Str.ofString "write"))=false:=by decide +kernel
@[simp] theorem cD9:((Str.ofString "span")==(Str.ofString "add"))=false:=by decide +kernel
@[simp] theorem bR2:((Str.ofString "span")==(Str.ofString "swap"))=false:=by decide +kernel
@[simp] theorem bR3:((Str.ofString "span")==(Str.ofString "deal"))=false:=by decide +kernel
@[simp] theorem bR4:((Str.ofString "span")==(Str.ofString "look"))=false:=by decide +kernel
@[simp] theorem cE0:((Str.ofString "span")==(Str.ofString "lay"))=false:=by decide +kernel
@[simp] theorem bR5:((Str.ofString "deal")==(Str.ofString "read"))=false:=by decide +kernel
@[simp] theorem bH7:((Str.ofString "deal")==(Str.ofString "write"))=false:=by decide +kernel
@[simp] theorem cE1:((Str.ofString "deal")==(Str.ofString "add"))=false:=by decide +kernel
@[simp] theorem bR6:((Str.ofString "deal")==(Str.ofString "swap"))=false:=by decide +kernel
@[simp] theorem bR7:((Str.ofString "deal")==(Str.ofString "span"))=false:=by decide +kernel
@[simp] theorem bR8:((Str.ofString "deal")==(Str.ofString "look"))=false:=by decide +kernel
@[simp] theorem cE2:((Str.ofString "deal")==(Str.ofString "lay"))=false:=by decide +kernel
@[simp] theorem bR9:((Str.ofString "look")==(Str.ofString "read"))=false:=by decide +kernel
@[simp] theorem bH8:((Str.ofString "look")==(Str.ofString "write"))=false:=by decide +kernel
@[simp] theorem cE3:((Str.ofString "look")==(Str.ofString "add"))=false:=by decide +kernel
@[simp] theorem bS0:((Str.ofString "look")==(Str.ofString "swap"))=false:=by decide +kernel
@[simp] theorem bS1:((Str.ofString "look")==(Str.ofString "span"))=false:=by decide +kernel
@[simp] theorem bS2:((Str.ofString "look")==(Str.ofString "deal"))=false:=by decide +kernel
@[simp] theorem cE4:((Str.ofString "look")==(Str.ofString "lay"))=false:=by decide +kernel
@[simp] theorem cE5:((Str.ofString "lay")==(Str.ofString "read"))=false:=by decide +kernel
@[simp] theorem bS3:((Str.ofString "lay")==(Str.ofString "write"))=false:=by decide +kernel
@[simp] theorem cQ0:((Str.ofString "lay")==(Str.ofString "add"))=false:=by decide +kernel
@[simp] theorem cE6:((Str.ofString "lay")==(Str.ofString "swap"))=false:=by decide +kernel
@[simp] theorem cE7:((Str.ofString "lay")==(Str.ofString "span"))=false:=by decide +kernel
@[simp] theorem cE8:((Str.ofString "lay")==(Str.ofString "deal"))=false:=by decide +kernel
@[simp] theorem cE9:((Str.ofString "lay")==(Str.ofString "look"))=false:=by decide +kernel
@[simp] theorem at0 {a:PyData} {r:List PyData}:atI (a::r) 0=some a:=by simp [atI,ixN]
@[simp] theorem at1 {a b:PyData} {r:List PyData}:atI (a::b::r) 1=some b:=by
 have:(1:Int) < (r.length:Int)+1+1:=by omega
 simp [atI,ixN,this]
@[simp] theorem at2 {a b c:PyData} {r:List PyData}:atI (a::b::c::r) 2=some c:=by
 have:(2:Int) < (r.length:Int)+1+1+1:=by omega
 simp [atI,ixN,this]
@[simp] theorem at3 {a b c d:PyData} {r:List PyData}:atI (a::b::c::d::r) 3=some d:=by
 have:(3:Int) < (r.length:Int)+1+1+1+1:=by omega
 simp [atI,ixN,this]
@[simp] theorem ix0 (n:Nat):ixN (n+1) 0=some 0:=by
 have:(0:Int) < ((n+1:Nat):Int):=by omega
 simp only [ixN,this,Int.le_refl,if_true];rfl
def ix_nat {n i:Nat} (h:i < n):ixN n (i:Int)=some i:=by
 have h1:(i:Int) < (n:Int):=by omega
 have h2:(0:Int)<=(i:Int):=by omega
 simp [ixN,h1,h2]
@[simp] theorem cV3 (h:aA) (i:Nat) (a:Cell):(h.set i a).take h.length=h.set i a:=by
 rw [List.take_of_length_le (by simp)]
@[simp] theorem dT5:ixN 3 2=some 2:=rfl
@[simp] theorem dT6:ixN 3 0=some 0:=rfl
def szl:sizeLine=16777216:=rfl
section
variable {X:Cx} {a b c e tg:Expr} {st:Stmt} {ta tb tc te:DTE} {pos:Pos}
def dNo:DTE:=fun _ _ _=>False
def dN5:DTF:=fun _ _ _=>False
def dN6:DTI:=fun _ _ _=>False
def dN7:DTS:=fun _ _ _=>False
def fQ:DE X e dNo:=fun pins s σ H Q I ⟨_,_,_,_,_,_,q,_⟩=>q.elim
def bS4:DF X e dN5:=fun pins s σ H Q I ⟨_,_,_,_,_,_,q,_⟩=>q.elim
def cV4:DI X tg e dN6:=fun pins s σ H R I ⟨_,_,_,_,_,_,q,_⟩=>q.elim
def cV5:DS X st dN7:=fun pins s σ H D I ⟨_,_,_,_,_,_,q,_⟩=>q.elim
def aE8 (neg:Bool):D2:=fun x y h Q=>match ref h x,ref h y with
 | some d,some (.list xs)=>SeqAt.shaped (.list xs)=true/\SeqAt.shaped d=true/\Q (.d (.bool (neg ^^ xs.any fun z=>PyData.eqv z d))) h
 | some d,some (.tuple xs)=>SeqAt.shaped (.tuple xs)=true/\SeqAt.shaped d=true/\Q (.d (.bool (neg ^^ xs.any fun z=>PyData.eqv z d))) h
 | _,_=>False
def Room.units65 {k:Nat} {A:Around} (r:Room k A):A.units+65 < cLine:=by have:=r.un;omega
def cF0 {n:Nat} (hr:Room n X.A):OpR X (compareOp .In) (upR X.K (aE8 false)):=by
 intro pins s σ H x y v u Q I rx ry h;obtain ⟨a,b,h,A,μ,k,R,ra,rb,q,c⟩:=h;unfold aE8 at q;split at q
 ·rename_i d xs ea eb;obtain ⟨as,z1⟩:=(bM R ra ea).reads I (SeqAt.canLay_of_shaped q.2.1) rx;obtain ⟨bs,z2⟩:=(bM R rb eb).reads I (SeqAt.canLay_of_shaped q.1) ry;exact SeqAt.in_list_reads z2 z1 (SeqAt.canLay_of_shaped q.1) (SeqAt.canLay_of_shaped q.2.1) (room_in_shaped q.2.1 (Room.units65 hr)) ⟨.bl _,H,I,rfl,c _ _ _ _ _ _ q.2.2 .refl R (by simpa using bE)⟩
 ·rename_i d xs ea eb;obtain ⟨as,z1⟩:=(bM R ra ea).reads I (SeqAt.canLay_of_shaped q.2.1) rx;obtain ⟨bs,z2⟩:=(bM R rb eb).reads I (SeqAt.canLay_of_shaped q.1) ry;exact SeqAt.in_tuple_reads z2 z1 (SeqAt.canLay_of_shaped q.1) (SeqAt.canLay_of_shaped q.2.1) (room_in_shaped q.2.1 (Room.units65 hr)) ⟨.bl _,H,I,rfl,c _ _ _ _ _ _ q.2.2 .refl R (by simpa using bE)⟩
 ·exact q.elim
def aE9 {n:Nat} (hr:Room n X.A):OpR X (compareOp .NotIn) (upR X.K (aE8 true)):=by
 intro pins s σ H x y v u Q I rx ry h;obtain ⟨a,b,h,A,μ,k,R,ra,rb,q,c⟩:=h;unfold aE8 at q;split at q
 ·rename_i d xs ea eb;obtain ⟨as,z1⟩:=(bM R ra ea).reads I (SeqAt.canLay_of_shaped q.2.1) rx;obtain ⟨bs,z2⟩:=(bM R rb eb).reads I (SeqAt.canLay_of_shaped q.1) ry;exact SeqAt.notIn_list_reads z2 z1 (SeqAt.canLay_of_shaped q.1) (SeqAt.canLay_of_shaped q.2.1) (room_in_shaped q.2.1 (Room.units65 hr)) ⟨.bl _,H,I,rfl,c _ _ _ _ _ _ q.2.2 .refl R (by simpa using bE)⟩
 ·rename_i d xs ea eb;obtain ⟨as,z1⟩:=(bM R ra ea).reads I (SeqAt.canLay_of_shaped q.2.1) rx;obtain ⟨bs,z2⟩:=(bM R rb eb).reads I (SeqAt.canLay_of_shaped q.1) ry;exact SeqAt.notIn_tuple_reads z2 z1 (SeqAt.canLay_of_shaped q.1) (SeqAt.canLay_of_shaped q.2.1) (room_in_shaped q.2.1 (Room.units65 hr)) ⟨.bl _,H,I,rfl,c _ _ _ _ _ _ q.2.2 .refl R (by simpa using bE)⟩
 ·exact q.elim
def kN (r r':D2) (ta tb tc:DTE):DTE:=fun δ h Q=>ta δ h fun x h1=>tb δ h1 fun y h2=>r x y h2 fun z h3=>match z with
 | .d (.bool k)=>if k=true then tc δ h3 fun u h4=>r' y u h4 Q else Q (.d (.bool false)) h3
 | _=>False
def uL {K:Frag} {r r':D2} {σ:L2.St} {H:Hp} {Q:VK} (q:up K (kN r r' ta tb tc) σ H Q):wR (upR K r) (upR K r') (up K ta) (up K tb) (up K tc) σ H Q:=by
 obtain ⟨δ,h,A,μ,k,R,q,c⟩:=q;refine ⟨δ,h,A,μ,_,R,q,fun u h1 v H1 A1 μ1 q1 x1 R1 r1=>?_⟩;refine ⟨δ,h1,A1,μ1,_,⟨R1,R.2.ext x1 R.1.sub⟩,q1,fun w h2 v2 H2 A2 μ2 q2 x2 R2 r2=>?_⟩;refine ⟨u,w,h2,A2,μ2,_,R2,r1.ext x2 R1.sub,r2,q2,fun z h3 v3 H3 A3 μ3 q3 x3 R3 r3=>?_⟩;have x13:=(x1.trans x2).trans x3;split at q3
 ·rename_i kk;refine ⟨kk,eT r3,?_⟩;cases kk with
  | true =>
   rw [if_pos rfl] at q3 ⊢;refine ⟨δ,h3,A3,μ3,_,⟨R3,R.2.ext x13 R.1.sub⟩,q3,fun u4 h4 v4 H4 A4 μ4 q4 x4 R4 r4=>?_⟩;exact ⟨w,u4,h4,A4,μ4,k,R4,(r2.ext x3 R2.sub).ext x4 R3.sub,r4,q4,fun z h5 v5 H5 A5 μ5 q5 x5 R5 r5=>c z h5 v5 H5 A5 μ5 q5 ((x13.trans x4).trans x5) R5 r5⟩
  | false =>
   rw [if_neg Bool.false_ne_true] at q3 ⊢;exact c _ h3 _ H3 A3 μ3 q3 x13 R3 bE
 ·exact q3.elim
def aP2 {op op':CmpOp} {r r':D2} (ho:OpR X (compareOp op) (upR X.K r)) (ho':OpR X (compareOp op') (upR X.K r')) (ha:DE X a ta) (hb:DE X b tb) (hc:DE X c tc)
  (hm:autoParam (lastMarks [op,op'] [b,c]=false) ZW):DE X (.Compare a [op,op'] [b,c] pos) (kN r r' ta tb tc):=aG (aL1 ho ho' ha hb hc hm) fun _ _ _ q=>uL q
def aP3 {op op':CmpOp} {r r':D2} (ho:OpR X (compareOp op) (upR X.K r)) (ho':OpR X (compareOp op') (upR X.K r')) (ha:DE X a ta) (hb:DE X b tb) (hc:DE X c tc)
  (hm:autoParam (lastMarks [op,op'] [b,c]=false) ZW):DT X (.Compare a [op,op'] [b,c] pos) (dB (kN r r' ta tb tc)):=iO (aL2 ho ho' ha hb hc hm) fun σ H Q q=>by
  obtain ⟨δ,h,A,μ,k,R,q1,c⟩:=mK q;exact uL ⟨δ,h,A,μ,k,R,q1,c⟩
def dN8 (ta:DTE):DTE:=fun δ h Q=>ta δ h fun w h1=>match w with
 | .d (.int i)=>Q (.d (.int (-i))) h1
 | _=>False
def cF1 (ha:DE X a ta):DE X (.UnaryOp .USub a pos) (dN8 ta):=aG (cS5 bZ0 ha) fun σ H Q q=>by
 obtain ⟨δ,h,A,μ,k,R,q,c⟩:=q;refine ⟨δ,h,A,μ,_,R,q,fun w h1 v H1 A1 μ1 q1 x1 R1 r1=>?_⟩;split at q1
 ·exact ⟨_,bG r1,c _ h1 _ H1 A1 μ1 q1 x1 R1 nK⟩
 ·exact q1.elim
noncomputable def cV6:D2
 | .d (.int i),.d (.int j),h,Q=>0<=j/\Q (.d (.int (i / 2^j.toNat))) h
 | _,_,_,_=>False
noncomputable def bS5:D2
 | .d (.int i),.d (.int j),h,Q=>Q (.d (.int (Builtin.bitAnd i j))) h
 | _,_,_,_=>False
def bH9:OpR X (binaryOp .RShift) (upR X.K cV6):=fC (f:=fun i j=>.int (i / 2^j.toNat)) bY8 (fun _ _ _ _=>jT) fun u w h k q=>by
 unfold cV6 at q;split at q
 ·exact ⟨_,_,rfl,rfl,q.1,q.2⟩
 ·exact q.elim
def aP4:OpR X (binaryOp .BitAnd) (upR X.K bS5):=fC (f:=fun i j=>.int (Builtin.bitAnd i j)) (OpR.i0 bY9) (fun _ _ _ _=>jT) fun u w h k q=>by
 unfold bS5 at q;split at q
 ·exact ⟨_,_,rfl,rfl,trivial,q⟩
 ·exact q.elim
end
noncomputable def oIs:Option Str->Value->Bool
 | some x,v=>Value.isStrOf x v
 | none,.none=>true
 | none,_=>false
def oIs_shape {k:Option Str} {v:Value} (h:oIs k v=true):(∃ x t,k=some x/\v=.str x t)\/(k=none/\v=.none):=by
 cases k with
 | some x =>
  obtain ⟨t,e⟩:=Value.isStrOf_shape (x:=x) (v:=v) h;exact .inl ⟨x,t,rfl,e⟩
 | none=>cases v<;>first | exact .inr ⟨rfl,rfl⟩ | cases h
def rW (x:Str) (t:Tok):oIs (some x) (.str x t)=true:=by simp [oIs,Value.isStrOf]
noncomputable def cV7 (w:World):Option Str->Int
 | some x=>hashStr w x
 | none=>reduceHash 0xFCA86420
noncomputable def cV8 (prog:Program) (w:World):PySem.KeyKind prog w (Option Str) where
 is:=oIs
 hash:=cV7 w
 inj:=fun v a b ha hb=>by
  rcases oIs_shape ha with ⟨x,t,rfl,rfl⟩ | ⟨rfl,rfl⟩
  ·rcases oIs_shape hb with ⟨y,u,rfl,e⟩ | ⟨rfl,e⟩
   ·injection e with e1 _;rw [e1]
   ·exact nomatch e
  ·rcases oIs_shape hb with ⟨y,u,rfl,e⟩ | ⟨rfl,e⟩
   ·exact nomatch e
   ·rfl
 byValue:=fun k v h=>by
  rcases oIs_shape h with ⟨x,t,rfl,rfl⟩ | ⟨rfl,rfl⟩<;>rfl
 pyHash:=fun {A E s k v Q} hv h=>by
  rcases oIs_shape hv with ⟨x,t,rfl,rfl⟩ | ⟨rfl,rfl⟩
  ·exact wpAny_pyHash_str h
  ·exact PySem.W.pyHash_slot (T:="NoneType") rfl PySem.F.slot_NoneType_hash PySem.F.entry_NoneType_hash (PySem.F.args_NoneType_hash_1 _) (by decide) (.inl rfl) (wpAny_bind (wpAny_pure (wpAny_bind (wpAny_mkInt (wpAny_pure ⟨_,_,rfl,h⟩)))))
 eqBool:=fun {A E s a b u v Q} hu hv h=>by
  rcases oIs_shape hu with ⟨x,t,rfl,rfl⟩ | ⟨rfl,rfl⟩
  ·rcases oIs_shape hv with ⟨y,u,rfl,rfl⟩ | ⟨rfl,rfl⟩
   ·refine wpAny_eqBool_str ?_;have e:decide (some x=some y)=decide (x=y):=by simp
    rwa [e] at h
   ·exact SeqAt.EqAt.str_none x t _ _ _ _ (by simpa using h)
  ·rcases oIs_shape hv with ⟨y,u,rfl,rfl⟩ | ⟨rfl,rfl⟩
   ·exact SeqAt.EqAt.none_str y u _ _ _ _ (by simpa using h)
   ·exact SeqAt.EqAt.same _ _ _ _ _ (by simpa using h)
 «strs»:=fun k x t v h=>by
  rcases oIs_shape h with ⟨y,u,rfl,e⟩ | ⟨rfl,e⟩
  ·injection e with e1 _
   subst e1;cases v<;>rfl
  ·exact nomatch e
structure TabK (w:World) (K:Frag) (p:Addr) (f:Str->Option Int):Prop where
 lk:∃ es n,K.lookup p=some ⟨.type "dict",none,.dict es n,#[]⟩/\PySem.W.KeysLit w.params es.toList/\(∀ x i,f x=some i->∃ t,findBy Value.isStrOf es x=some (.int i t))/\∀ x,f x=none->findBy Value.isStrOf es x=none
 sm:(p==sysModules)=false
def TabK.map {w:World} {K:Frag} {p:Addr} {f:Str->Option Int} {prog:Program} {h:Heap} (T:TabK w K p f) (X:K.In h):∃ g:Option Str->Option Value,h.MapOf (cV8 prog w) p g/\g none=none/\(∀ x i,f x=some i->∃ t,g (some x)=some (.int i t))/\∀ x,f x=none->g (some x)=none:=by
 obtain ⟨es,n,l,hk,h1,h2⟩:=T.lk;refine ⟨fun k=>findBy oIs es k,⟨_,es,n,X _ _ l,⟨rfl,rfl,rfl⟩,rfl,fun e he=>?_,fun _=>rfl⟩,?_,h1,h2⟩
 ·obtain ⟨x,t,e1,e2⟩:=hk.all e (Array.mem_toList_iff.mpr he);exact ⟨some x,by rw [e1];exact rW x t,e2⟩
 ·unfold findBy;have e:es.find? (fun e=>oIs none e.key)=none:=by
   rw [Array.find?_eq_none];intro e he;obtain ⟨x,t,e1,_⟩:=hk.all e (Array.mem_toList_iff.mpr he);rw [e1];exact Bool.false_ne_true
  show Option.map _ (es.find? fun e=>oIs none e.key)=none;rw [e];rfl
section
variable {X:Cx} {a b c d e:Expr} {ta tb tc td:DTE} {pos:Pos}
def pW {p:Addr} {f:Str->Option Int} (T:TabK X.w X.K p f):OpR X (compareOp .NotIn) (fun x y H Q=>y=.ref p/\((∃ s,x=.str s/\Q (.bl (!(f s).isSome)) H)\/(x=.non/\Q (.bl true) H))):=by
 intro pins s σ H x y v u Q I rx ry h;obtain ⟨rfl,h⟩:=h;cases ry;obtain ⟨g,m,g0,g1,g2⟩:=T.map (prog:=X.prog) I.kIn;rcases h with ⟨z,rfl,q⟩ | ⟨rfl,q⟩
 ·obtain ⟨t,rfl⟩:=rx;refine wpAny_notIn_of (k:=some z) (rW z t) T.sm m ⟨.bl _,H,I.tok _,?_,q⟩;cases e:f z with
  | none=>rw [g2 z e];rfl
  | some i=>obtain ⟨t',e'⟩:=g1 z i e;rw [e'];rfl
 ·cases rx;exact wpAny_notIn_of (k:=none) rfl T.sm m ⟨.bl _,H,I.tok _,by rw [g0];rfl,q⟩
def dN9 {p:Addr} {f:Str->Option Int} (T:TabK X.w X.K p f):IxR X (fun x y H Q=>x=.ref p/\∃ s i,y=.str s/\f s=some i/\Q (.int i) H):=by
 intro value slice pins s σ H x y v u Q I rx ry h hs;obtain ⟨rfl,z,i,rfl,e,q⟩:=h;cases rx;obtain ⟨t,rfl⟩:=ry;obtain ⟨g,m,g0,g1,g2⟩:=T.map (prog:=X.prog) I.kIn;obtain ⟨t',e'⟩:=g1 z i e;exact tail_any m.typeIs slot_dict_getitem.lookup (wpAny_getItem_of (k:=some z) (rW z t) m e' ⟨.int i,H,I.tok _,⟨t',rfl⟩,q⟩) hs
def rX (f:Str->Option Int) (ta:DTE):DTE:=fun δ h Q=>ta δ h fun w h1=>match w with
 | .d (.str s)=>Q (.d (.bool (!(f s).isSome))) h1
 | .d .none=>Q (.d (.bool true)) h1
 | _=>False
def uM {K:Frag} {A μ:List Addr} {H:Hp} {x:Str} {v:V} (r:RepW K A μ H (.d (.str x)) v):v=.str x:=by
 have z:Rep K A H (.str x) v:=r;rw [Rep] at z;exact z.1
def aP5 {K:Frag} {A μ:List Addr} {H:Hp} {v:V} (r:RepW K A μ H (.d .none) v):v=.non:=by
 have z:Rep K A H .none v:=r;rw [Rep] at z;exact z
def pX {p:Addr} {f:Str->Option Int} {σ:L2.St} {H:Hp} {Q:VK} (q:up X.K (rX f ta) σ H Q) :
  tOp (fun x y H Q=>y=.ref p/\((∃ s,x=.str s/\Q (.bl (!(f s).isSome)) H)\/(x=.non/\Q (.bl true) H))) (up X.K ta) (tC (.ref p)) σ H Q:=by
 obtain ⟨δ,h,A,μ,k,R,q,c⟩:=q;refine ⟨δ,h,A,μ,_,R,q,fun w h1 v H1 A1 μ1 q1 x1 R1 r1=>?_⟩;show _/\_;refine ⟨rfl,?_⟩;split at q1
 ·exact .inl ⟨_,uM r1,c _ h1 _ H1 A1 μ1 q1 x1 R1 bE⟩
 ·exact .inr ⟨aP5 r1,c _ h1 _ H1 A1 μ1 q1 x1 R1 bE⟩
 ·exact q1.elim
def aF0 {p:Addr} {f:Str->Option Int} {x:Str} {pos':Pos} (T:TabK X.w X.K p f) (hm:X.mg x=some (.ref p)) (ha:DE X a ta) (hg:autoParam (Gl X x) ZR) (hd:autoParam ((x==("__debug__":Str))=false) ZD) (hb:autoParam (behindInMarks .NotIn (.Name x pos')=false) ZR) :
  DE X (.Compare a [.NotIn] [.Name x pos'] pos) (rX f ta):=aG (yR (pW T) ha (eE (v:=.ref p) hg hm rfl hd) hb) fun _ _ _ q=>pX q
def aF1 {p:Addr} {f:Str->Option Int} {x:Str} {pos':Pos} (T:TabK X.w X.K p f) (hm:X.mg x=some (.ref p)) (ha:DE X a ta) (hg:autoParam (Gl X x) ZR) (hd:autoParam ((x==("__debug__":Str))=false) ZD) (hb:autoParam (behindInMarks .NotIn (.Name x pos')=false) ZR) :
  DT X (.Compare a [.NotIn] [.Name x pos'] pos) (dB (rX f ta)):=iO (yS (pW T) ha (eE (v:=.ref p) hg hm rfl hd) hb) fun σ H Q q=>by
  obtain ⟨δ,h,A,μ,k,R,q1,c⟩:=mK q;exact pX ⟨δ,h,A,μ,k,R,q1,c⟩
def dO0 (f:Str->Option Int) (ta:DTE):DTE:=fun δ h Q=>ta δ h fun w h1=>match w with
 | .d (.str s)=>(match f s with
  | some i=>Q (.d (.int i)) h1
  | none=>False)
 | _=>False
def cF2 {p:Addr} {f:Str->Option Int} {x:Str} {pos':Pos} (T:TabK X.w X.K p f) (hm:X.mg x=some (.ref p)) (ha:DE X a ta) (hg:autoParam (Gl X x) ZR) (hd:autoParam ((x==("__debug__":Str))=false) ZD) (hs:jO a:=by intro _ _;rfl) :
  DE X (.Subscript (.Name x pos') a pos) (dO0 f ta):=aG (aM0 (dN9 T) (eE (v:=.ref p) hg hm rfl hd) ha hs) fun σ H Q q=>by
 obtain ⟨δ,h,A,μ,k,R,q,c⟩:=q;show up X.K ta σ H _;refine ⟨δ,h,A,μ,_,R,q,fun w h1 v H1 A1 μ1 q1 x1 R1 r1=>?_⟩;refine ⟨rfl,?_⟩;split at q1
 ·split at q1
  ·rename_i e;exact ⟨_,_,uM r1,e,c _ h1 _ H1 A1 μ1 q1 x1 R1 nK⟩
  ·exact q1.elim
 ·exact q1.elim
def mQ (r r' r'':D2) (ta tb tc td:DTE):DTE:=fun δ h Q=>ta δ h fun x h1=>tb δ h1 fun y h2=>r x y h2 fun z h3=>match z with
 | .d (.bool k)=>if k=true then tc δ h3 fun u h4=>r' y u h4 fun z' h5=>(match z' with
   | .d (.bool k')=>if k'=true then td δ h5 fun u' h6=>r'' u u' h6 Q else Q (.d (.bool false)) h5
   | _=>False) else Q (.d (.bool false)) h3
 | _=>False
def bI0 (r r' r'':R2) (ta tb tc td:TE):TE:=fun σ H Q=>ta σ H fun x H1=>tb σ H1 fun y H2=>r x y H2 fun z H3=>∃ k,z=.bl k /\
 (if k=true then tc σ H3 fun u H4=>r' y u H4 fun z' H5=>∃ k',z'=.bl k'/\(if k'=true then td σ H5 fun u' H6=>r'' u u' H6 Q else Q (.bl false) H5) else Q (.bl false) H3)
def aF2 {ta tb tc td:TE} {op op' op'':CmpOp} {r r' r'':R2} (ho:OpR X (compareOp op) r) (ho':OpR X (compareOp op') r') (ho'':OpR X (compareOp op'') r'') (ha:PE X a ta) (hb:PE X b tb) (hc:PE X c tc) (hd:PE X d td)
  (hm:autoParam (lastMarks [op,op',op''] [b,c,d]=false) ZW):PE X (.Compare a [op,op',op''] [b,c,d] pos) (bI0 r r' r'' ta tb tc td):=by
 intro pins s σ H Q I h;refine Compare_chain (thn (ha pins s σ H _ I h) fun v s1 ⟨x,H1,I1,r1,q1⟩=>chain_link (thn (hb pins s1 σ H1 _ I1 q1) fun u s2 ⟨y,H2,I2,r2,q2⟩ =>
  thn (ho pins s2 σ H2 x y v u _ I2 r1 r2 q2) fun d' s3 ⟨z,H3,I3,r3,k,e,q3⟩=>?_)) hm
 subst e;cases r3;refine wpAny_truthy_bool ?_;cases k with
 | false=>exact ite_ff ⟨.bl false,H3,I3,rfl,q3⟩
 | true =>
  refine ite_tt (chain_link (thn (hc pins s3 σ H3 _ I3 q3) fun w' s4 ⟨z',H4,I4,r4,q4⟩=>thn (ho' pins s4 σ H4 y z' u w' _ I4 r2 r4 q4) fun d2 s5 ⟨z2,H5,I5,r5,k2,e2,q5⟩=>?_));subst e2;cases r5;refine wpAny_truthy_bool ?_;cases k2 with
  | false=>exact ite_ff ⟨.bl false,H5,I5,rfl,q5⟩
  | true=>exact ite_tt (chain_last (thn (hd pins s5 σ H5 _ I5 q5) fun w6 s6 ⟨z6,H6,I6,r6,q6⟩=>ho'' pins s6 σ H6 z' z6 w' w6 Q I6 r4 r6 q6))
def aF3 {op op' op'':CmpOp} {r r' r'':D2} (ho:OpR X (compareOp op) (upR X.K r)) (ho':OpR X (compareOp op') (upR X.K r')) (ho'':OpR X (compareOp op'') (upR X.K r'')) (ha:DE X a ta) (hb:DE X b tb) (hc:DE X c tc) (hd:DE X d td)
  (hm:autoParam (lastMarks [op,op',op''] [b,c,d]=false) ZW):DE X (.Compare a [op,op',op''] [b,c,d] pos) (mQ r r' r'' ta tb tc td):=aG (aF2 ho ho' ho'' ha hb hc hd hm) fun σ H Q q=>by
 obtain ⟨δ,h,A,μ,k,R,q,c⟩:=q;refine ⟨δ,h,A,μ,_,R,q,fun u h1 v H1 A1 μ1 q1 x1 R1 r1=>?_⟩;refine ⟨δ,h1,A1,μ1,_,⟨R1,R.2.ext x1 R.1.sub⟩,q1,fun w h2 v2 H2 A2 μ2 q2 x2 R2 r2=>?_⟩;refine ⟨u,w,h2,A2,μ2,_,R2,r1.ext x2 R1.sub,r2,q2,fun z h3 v3 H3 A3 μ3 q3 x3 R3 r3=>?_⟩;have x13:=(x1.trans x2).trans x3;split at q3
 ·rename_i kk;refine ⟨kk,eT r3,?_⟩;cases kk with
  | true =>
   rw [if_pos rfl] at q3 ⊢;refine ⟨δ,h3,A3,μ3,_,⟨R3,R.2.ext x13 R.1.sub⟩,q3,fun u4 h4 v4 H4 A4 μ4 q4 x4 R4 r4=>?_⟩;refine ⟨w,u4,h4,A4,μ4,_,R4,(r2.ext x3 R2.sub).ext x4 R3.sub,r4,q4,fun z h5 v5 H5 A5 μ5 q5 x5 R5 r5=>?_⟩;have x15:=(x13.trans x4).trans x5;split at q5
   ·rename_i k5;refine ⟨k5,eT r5,?_⟩;cases k5 with
    | true =>
     rw [if_pos rfl] at q5 ⊢;refine ⟨δ,h5,A5,μ5,_,⟨R5,R.2.ext x15 R.1.sub⟩,q5,fun u6 h6 v6 H6 A6 μ6 q6 x6 R6 r6=>?_⟩;exact ⟨u4,u6,h6,A6,μ6,k,R6,(r4.ext x5 R4.sub).ext x6 R5.sub,r6,q6,fun z h7 v7 H7 A7 μ7 q7 x7 R7 r7=>c z h7 v7 H7 A7 μ7 q7 ((x15.trans x6).trans x7) R7 r7⟩
    | false =>
     rw [if_neg Bool.false_ne_true] at q5 ⊢;exact c _ h5 _ H5 A5 μ5 q5 x15 R5 bE
   ·exact q5.elim
  | false =>
   rw [if_neg Bool.false_ne_true] at q3 ⊢;exact c _ h3 _ H3 A3 μ3 q3 x13 R3 bE
 ·exact q3.elim
end
end DL
namespace SJ
open PySem
mutual
noncomputable def sok:PyData->Bool
 | .str x=>PyData.strOk x
 | .list xs=>decide (xs.length<=1000)&&soks xs
 | .tuple xs=>decide (xs.length<=1000)&&soks xs
 | _=>true
noncomputable def soks:List PyData->Bool
 | []=>true
 | x::r=>sok x&&soks r
end
def pY {x:PyData} {xs:List PyData}:soks (x::xs)=true ↔ sok x=true/\soks xs=true:=by rw [soks,Bool.and_eq_true]
noncomputable def gC:PyData->Bool
 | .int _=>true
 | _=>false
noncomputable def cR (x:PyData) (lo hi:Int):Bool:=match x with
 | .int i=>decide (lo<=i)&&decide (i<=hi)
 | _=>false
noncomputable def gZ (x:PyData):Bool:=cR x 0 7
noncomputable def cA:PyData->Int->Bool
 | .tuple xs,n=>decide ((xs.length:Int)=n)
 | _,_=>false
noncomputable def gD:PyData->PyData
 | .tuple (.str s::_)=>.str s
 | _=>.none
noncomputable def aM (x:PyData) (s:Str) (n:Int):Bool:=match x with
 | .tuple (.str t::r)=>(t==s)&&decide ((r.length:Int)+1=n)
 | _=>false
noncomputable def nb (s:Str):Option Int:=if s=Str.ofString "read" then some 0 else if s=Str.ofString "write" then some 1 else if s=Str.ofString "add" then some 1 else if s=Str.ofString "swap" then some 2 else none
noncomputable def bK:PyData->Bool
 | .tuple (.str s::r)=>match nb s with
  | some n=>(decide ((r.length:Int)+1=2+n))&&(match r with
   | k::vs=>gZ k&&vs.all gC
   | []=>false)
  | none=>false
 | _=>false
noncomputable def fE:PyData->Bool
 | .tuple [.str s,.int a,.int b]=>(s==Str.ofString "span")&&decide (0<=a)&&decide (a < b)&&decide (b<=8)
 | _=>false
noncomputable def dZ:PyData->Bool
 | .tuple [.str s,.tuple ps]=>(s==Str.ofString "deal")&&decide (1<=ps.length)&&decide (ps.length<=4)&&ps.all bK
 | _=>false
noncomputable def cB (x:PyData):Bool:=bK x||fE x||dZ x
noncomputable def hU:PyData->Bool
 | .tuple [.str s,c]=>(s==Str.ofString "look")&&cB c
 | _=>false
noncomputable def eB:PyData->Bool
 | .tuple [k,v]=>gZ k&&gC v
 | _=>false
noncomputable def rY:PyData->Int
 | .int i=>i
 | _=>0
noncomputable def pZ:PyData->PyData
 | .tuple (k::_)=>k
 | _=>.none
noncomputable def bI1 (ns:List Int):Bool:=(List.range (ns.length - 1)).all fun k=>decide (ns.getD k 0 < ns.getD (k+1) 0)
noncomputable def jW:PyData->Bool
 | .tuple [.str s,.tuple ps]=>(s==Str.ofString "lay")&&!ps.isEmpty&&ps.all eB&&bI1 (ps.map fun p=>rY (pZ p))
 | _=>false
noncomputable def fF (x:PyData):Bool:=cB x||hU x||jW x
end SJ
namespace SJ
open PySem PySem.Spec PyProof.Rows L2 DL
def bI2:nb "read"=some 0:=by decide +kernel
def aP6:nb "write"=some 1:=by decide +kernel
def cF3:nb "add"=some 1:=by decide +kernel
def bI3:nb "swap"=some 2:=by decide +kernel
def bI4:nb "look"=none:=by decide +kernel
def cF4:nb "lay"=none:=by decide +kernel
def bI5:PyData.strOk "read"=true:=by decide +kernel
def aP7:PyData.strOk "write"=true:=by decide +kernel
def cF5:PyData.strOk "add"=true:=by decide +kernel
def bI6:PyData.strOk "swap"=true:=by decide +kernel
def bI7:PyData.strOk "span"=true:=by decide +kernel
def bI8:PyData.strOk "deal"=true:=by decide +kernel
def bI9:PyData.strOk "look"=true:=by decide +kernel
def cF6:PyData.strOk "lay"=true:=by decide +kernel
def aP8 {k:Nat} (h:k < 8):gZ (.int k)=true:=by
 simp [gZ,cR];omega
def nP {o:One} (h:o.ok):bK o.dat=true/\sok o.dat=true:=by
 have h':o.key < 8:=h;cases o<;>simp [One.key] at h'<;>simp [One.dat,bK,bI2,aP6,cF3,bI3,aP8 h',gC,sok,soks,bI5,aP7,cF5,bI6]
theorem uN:∀ {cs:List One},(∀ c∈cs,c.ok)->(cs.map One.dat).all bK=true/\soks (cs.map One.dat)=true
 | [],_=>⟨rfl,rfl⟩
 | c::r,h=>by
  obtain ⟨h1,h2⟩:=nP (h c List.mem_cons_self);obtain ⟨h3,h4⟩:=uN fun z hz=>h z (List.mem_cons_of_mem _ hz);rw [List.map_cons,List.all_cons,h1,h3,pY];exact ⟨rfl,h2,h4⟩
def fR {o:SJ.Call} (h:o.ok):cB o.dat=true/\fF o.dat=true/\sok o.dat=true:=by
 have hc:cB o.dat=true/\sok o.dat=true:=by
  cases o with
  | one c =>
   obtain ⟨h1,h2⟩:=nP (o:=c) h;exact ⟨by simp [cB,Call.dat,h1],h2⟩
  | span lo hi =>
   obtain ⟨h1,h2⟩:=h;refine ⟨?_,by simp [Call.dat,sok,soks,bI7]⟩;have e1:(0:Int)<=lo:=by omega
   have e2:(lo:Int) < hi:=by omega
   have e3:(hi:Int)<=8:=by omega
   simp [cB,Call.dat,fE,e2,e3]
  | deal cs =>
   obtain ⟨h1,h2,h3⟩:=h;obtain ⟨h4,h5⟩:=uN h3;refine ⟨?_,by simp [Call.dat,sok,soks,bI8,h5];omega⟩;simp only [cB,Call.dat,dZ,h4,List.length_map];simp [h1,h2]
 exact ⟨hc.1,by simp [fF,hc.1],hc.2⟩
def iQ {o:SJ.Call} (h:o.ok):cB (.tuple [.str "look",o.dat])=false/\fF (.tuple [.str "look",o.dat])=true/\sok (.tuple [.str "look",o.dat])=true:=by
 obtain ⟨h1,h2,h3⟩:=fR h;have hs:fE (.tuple [.str "look",o.dat])=false:=by
  unfold fE;split
  ·simp_all
  ·rfl
 have hd:dZ (.tuple [.str "look",o.dat])=false:=by
  unfold dZ;split
  ·rename_i e;injection e with e
   injection e with e1 e2
   injection e1 with e1
   subst e1;simp
  ·rfl
 have hi:bK (.tuple [.str "look",o.dat])=false:=by simp [bK,bI4]
 have hc:cB (.tuple [.str "look",o.dat])=false:=by simp [cB,hs,hd,hi]
 refine ⟨hc,?_,by simp [sok,soks,bI9,h3]⟩;simp only [fF,hc,hU,h1];simp
noncomputable def prP (p:Nat×Int):PyData:=.tuple [.int p.1,.int p.2]
theorem kO:∀ {ps:List (Nat×Int)},(∀ p∈ps,p.1 < 8)->(ps.map prP).all eB=true/\soks (ps.map prP)=true/\((ps.map prP).map fun p=>rY (pZ p))=ps.map fun p=>(p.1:Int)
 | [],_=>⟨rfl,rfl,rfl⟩
 | p::r,h=>by
  obtain ⟨h3,h4,h5⟩:=kO fun z hz=>h z (List.mem_cons_of_mem _ hz);have hk:=aP8 (h p List.mem_cons_self);rw [List.map_cons,List.all_cons,h3,pY,List.map_cons,h5];refine ⟨by simp [prP,eB,hk,gC],⟨by simp [prP,sok,soks],h4⟩,?_⟩;rfl
def zG {ks:List Nat} (h:ks.Pairwise (· < ·)):bI1 (ks.map fun (k:Nat)=>(k:Int))=true:=by
 unfold bI1;rw [List.all_eq_true];intro i hi;have hi':i+1 < ks.length:=by
  have:=List.mem_range.mp hi;simp at this;omega
 have:=List.pairwise_iff_getElem.mp h i (i+1) (by omega) hi' (by omega);simp [List.getD,hi',show i < ks.length by omega];omega
def aP9 {ps:List (Nat×Int)} (h0:ps≠[]) (h1:(ps.map (·.1)).Pairwise (· < ·)) (h2:∀ p∈ps,p.1 < 8) (h3:ps.length<=8) :
  cB (.tuple [.str "lay",.tuple (ps.map prP)])=false/\fF (.tuple [.str "lay",.tuple (ps.map prP)])=true/\sok (.tuple [.str "lay",.tuple (ps.map prP)])=true:=by
 obtain ⟨q1,q2,q3⟩:=kO h2;have hd:dZ (.tuple [.str "lay",.tuple (ps.map prP)])=false:=by
  unfold dZ;simp
 have hc:cB (.tuple [.str "lay",.tuple (ps.map prP)])=false:=by simp [cB,hd,bK,cF4,fE]
 refine ⟨hc,?_,by simp [sok,soks,cF6,q2];omega⟩;have hr:=zG h1;rw [List.map_map] at hr;have he:(ps.map prP).isEmpty=false:=by simpa using h0
 simp only [fF,hc,jW,q1,q3,he];have e:(List.map (fun p:Nat×Int=>(p.1:Int)) ps)=List.map ((fun k:Nat=>(k:Int)) ∘ fun x=>x.1) ps:=rfl;rw [e,hr];simp
end SJ
namespace SJ
open PySem
set_option genInjectivity true in
inductive An1 where
 | got (v:Int) | dn | yes | no
noncomputable def An1.dat:An1->PyData
 | .got v=>.tuple [.str "got",.int v]
 | .dn=>.tuple [.str "done"]
 | .yes=>.tuple [.str "yes"]
 | .no=>.tuple [.str "no"]
noncomputable def An1.fits:One->An1->Prop
 | .read _,.got _=>True
 | .add _ _,.got _=>True
 | .write _ _,.dn=>True
 | .swap _ _ _,.yes=>True
 | .swap _ _ _,.no=>True
 | _,_=>False
set_option genInjectivity true in
inductive Ans where
 | one (a:An1) | all (ns:List Int) | each (as:List An1)
noncomputable def Ans.dat:Ans->PyData
 | .one a=>a.dat
 | .all ns=>.tuple [.str "all",.tuple (ns.map .int)]
 | .each as=>.tuple [.str "each",.tuple (as.map An1.dat)]
set_option genInjectivity true in
inductive Fit2:List One->List An1->Prop
 | nil:Fit2 [] []
 | cons {o:One} {a:An1} {os:List One} {as:List An1} (h:An1.fits o a) (t:Fit2 os as):Fit2 (o::os) (a::as)
noncomputable def Ans.fits:Call->Ans->Prop
 | .one o,.one a=>An1.fits o a
 | .span lo hi,.all ns=>ns.length=hi - lo
 | .deal cs,.each as=>Fit2 cs as
 | _,_=>False
noncomputable def cG (o:One) (t:PyData):Bool:=match o with
 | .read _=>(match t with
  | .tuple [.str s,v]=>(s==Str.ofString "got")&&gC v
  | _=>false)
 | .add _ _=>(match t with
  | .tuple [.str s,v]=>(s==Str.ofString "got")&&gC v
  | _=>false)
 | .write _ _=>aM t "done" 1
 | .swap _ _ _=>aM t "yes" 1||aM t "no" 1
noncomputable def fJ:List One->List PyData->Bool
 | o::os,t::ts=>cG o t&&fJ os ts
 | _,_=>true
noncomputable def bN (c:Call) (t:PyData):Bool:=match c with
 | .one o=>cG o t
 | .span lo hi=>(match t with
  | .tuple [.str s,.tuple xs]=>(s==Str.ofString "all")&&decide ((xs.length:Int)=(hi:Int) - lo)&&xs.all gC
  | _=>false)
 | .deal cs=>(match t with
  | .tuple [.str s,.tuple xs]=>(s==Str.ofString "each")&&decide (xs.length=cs.length)&&fJ cs xs
  | _=>false)
theorem Fit2.length:∀ {os:List One} {as:List An1},Fit2 os as->as.length=os.length
 | _,_,.nil=>rfl
 | _,_,.cons _ t=>by simp [t.length]
def uO {o:One} {a:An1} (h:An1.fits o a):cG o a.dat=true:=by
 cases o<;>cases a<;>simp [An1.fits] at h<;>simp [cG,An1.dat,gC,aM]
theorem qA:∀ {os:List One} {as:List An1},Fit2 os as->fJ os (as.map An1.dat)=true
 | _,_,.nil=>rfl
 | _,_,.cons h t=>by simp [fJ,uO h,qA t]
def aF4 {c:Call} {a:Ans} (h:Ans.fits c a) (hc:c.ok):bN c a.dat=true:=by
 cases c<;>cases a<;>simp only [Ans.fits] at h<;>first | exact h.elim | skip
 ·exact uO h
 ·rename_i lo hi ns;have:=hc.1;simp [bN,Ans.dat,h,gC];omega
 ·rename_i cs as;simp [bN,Ans.dat,qA h,h.length]
end SJ
namespace DL
open PySem PySem.Spec PyProof.Rows L2
section
variable {X:Cx} {a b c d e:Expr} {ta tb tc td te:DTE} {tl th:DTO} {pos:Pos}
def uP:PE X (.Dict [] [] pos) (fun _ H Q=>∀ p,H p=none->Q (.ref p) (upd H p (.dK []))):=by
 intro pins s σ H Q I q;refine wpAny_Dict_empty ?_;have hn:(s.heap.objs.size==sysModules)=false:=by
  have h:mainGlobals < s.heap.objs.size:=(I.mod.glob.keeps I.bk).lt;have:sysModules < s.heap.objs.size:=Nat.lt_trans (by decide) h;exact beq_eq_false_iff_ne.mpr (Nat.ne_of_gt this)
 refine ⟨.ref s.heap.objs.size,_,I.laid (t':=s.toks) (o:=.dK []) (fun b ob q=>Heap.get?_push_of_some _ q) (Nat.le_refl _) ?_,rfl,q _ (I.hok.fresh (Nat.le_refl _))⟩;exact ⟨Nat.zero_le _,hn,[],.nil,Heap.DictOf.new s.heap⟩
def aQ0:DE X (.Dict [] [] pos) (dC (.dict [])):=aG uP fun σ H Q q=>by
 obtain ⟨δ,h,A,μ,k,R,q,c⟩:=q;intro p hp;refine c _ h _ _ A μ q (aW hp) (R.1.fresh hp) ?_;show Rep _ _ _ _ _;rw [Rep];exact ⟨p,[],rfl,⟨R.1.notA hp,.inl aU⟩,by rw [RepKs]⟩
theorem nQ {K:Frag} {A:List Addr} {H:Hp} {xs:List PyData} {vs:List V} (r:Reps K A H xs vs):∀ n:Nat,Reps K A H (List.replicate n xs).flatten (List.replicate n vs).flatten
 | 0=>.nil
 | n+1=>by
  rw [List.replicate_succ,List.replicate_succ,List.flatten_cons,List.flatten_cons];exact (nQ r n).append r
def cV9 (ta tb:DTE):DTF:=fun δ h Q=>ta δ h fun u h1=>tb δ h1 fun w h2=>match u,w with
 | .c i,.d (.int k)=>(match h2[i]? with
  | some (.l xs)=>(-(2^63)<=k/\k < 2^63/\xs.length*k.toNat<=sizeLine)/\Q (List.replicate k.toNat xs).flatten h2
  | _=>False)
 | _,_=>False
def cF7 (ha:DE X a ta) (hb:DE X b tb):DF X (.BinOp a .Mult b pos) (cV9 ta tb):=aG (aL0 bZ9 ha hb) fun σ H Q q=>by
 obtain ⟨δ,h,A,μ,k,R,q,c⟩:=q;refine ⟨δ,h,A,μ,_,R,q,fun u h1 v H1 A1 μ1 q1 x1 R1 r1=>?_⟩;refine ⟨δ,h1,A1,μ1,_,⟨R1,R.2.ext x1 R.1.sub⟩,q1,fun w h2 v2 H2 A2 μ2 q2 x2 R2 r2=>?_⟩;split at q2
 ·rename_i i n;split at q2
  ·rename_i xs ex;obtain ⟨p,ep,rfl⟩:=r1.ext x2 R1.sub;obtain ⟨vs,hv,rr⟩:=R2.val i p xs ep ex;obtain ⟨⟨n1,n2,n3⟩,q2⟩:=q2;refine ⟨p,n,vs,rfl,bG r2,hv,n1,n2,by rw [rr.length];exact n3,fun l hl=>?_⟩;have x12:=x1.trans x2;obtain ⟨ν,e1,_⟩:=x12.pre;exact c _ _ _ _ _ _ q2 (x12.trans (bY hl)) ⟨ν,e1⟩ (x12.back hl) (dM R2 hl (nQ rr _))
  ·exact q2.elim
 ·exact q2.elim
end
section
variable {X:Cx} {a b c d e:Expr} {ta tb tc td te:DTE} {pos:Pos}
end
def hV:fillsNumberSlot (.type "tuple") "mul"=pure false :=
 PySem.fillsNumberSlot_seq (id:="tuple.__mul__") (r:=some (.builtin "tuple.__rmul__")) PySem.F.slot_tuple_mul.lookup (by decide +kernel) PySem.F.slot_tuple_rmul.lookup (by decide +kernel)
def iZ:seqRepeat? (.type "tuple")=pure (some (.builtin "tuple.__mul__")):=by
 unfold seqRepeat?;rw [PySem.seqSlot_of (T:="tuple") (name:="__mul__") (id:="tuple.__mul__") PySem.F.slot_tuple_mul.lookup (by decide +kernel),PySem.seqSlot_of (T:="tuple") (name:="__rmul__") (id:="tuple.__rmul__") PySem.F.slot_tuple_rmul.lookup (by decide +kernel)];rfl
def hZ (a:Int) (t:Tok) (l:Addr) (items:Array Value) (n:Nat) (dd:Option Addr) (sl:Array (Option Value)) :
  Meets (Builtin.«int.__rmul__» ⟨[.int a t,.ref l],[]⟩) (fun _ R s=>s.heap.get? l=some { cls:=.type "tuple",dict:=dd,data:=.seq items n,slots:=sl }/\R (.ok (.ret Value.notImplemented)) s) :=
 .of_wp fun prog w A R s h=>by
  obtain ⟨hp,g,d,tk,os⟩:=s;obtain ⟨hl,h⟩:=h
  wp_walk
  exact ⟨_,rfl,h⟩
def uQ (l:Addr) (items:Array Value) (n:Nat) (dd:Option Addr) (sl:Array (Option Value)) (k:Int) (u:Tok) (h1:¬ (k < -(2^63)||k ≥ 2^63)=true) (h2:¬ (items.isEmpty||k==1)=true) (h3:¬ (decide (k<=0)||items.isEmpty)=true)
  (h4:¬ (items.size*k > (2^63 - 1) / 8)) (h6:¬ Builtin.Tuple.tupleTooMany (items.size*k)=true) (h5:¬ ((List.replicate k.toNat items).foldl (·++·) #[]).size > sizeLine) :
  Meets (Builtin.«tuple.__mul__» ⟨[.ref l,.int k u],[]⟩) (fun _ R s=>s.heap.get? l=some { cls:=.type "tuple",dict:=dd,data:=.seq items n,slots:=sl } /\
   R (.ok (.ret (.ref s.heap.objs.size))) { s with heap:=s.heap.push { cls:=.type "tuple",data:=.seq ((List.replicate k.toNat items).foldl (·++·) #[]) 0 } }) :=
 .of_wp fun prog w A R s h=>by
  obtain ⟨hp,g,d,tk,os⟩:=s;obtain ⟨hl,h⟩:=h;have f2:=AutoSeq1.sub_tuple_tuple
  wp_walk
  refine wpAny_ite_false (decide_eq_false h1) ?_
  wp_walk using wpAny_loadPart' hl
  refine wpAny_ite_false (decide_eq_false h4) ?_
  wp_walk
  exact ⟨_,rfl,h⟩
section
variable {X:Cx} {a b c d e:Expr} {ta tb tc td te:DTE} {pos:Pos}
def bJ0:OpR X (binaryOp .Mult) (fun x y H Q=>∃ l k xs,x=.ref l/\y=.int k/\SqT X.K H l xs/\xs≠[]/\1 < k/\k < 2^63/\xs.length*k.toNat<=sizeLine/\∀ p,H p=none->Q (.ref p) (upd H p (.tup (List.replicate k.toNat xs).flatten))):=by
 intro pins s σ H x y v u Q I rx ry h;obtain ⟨l,k,xs,rfl,rfl,sq,hne,k1,k2,hz,q⟩:=h;cases rx;obtain ⟨t,rfl⟩:=ry;obtain ⟨its,r,p,hz0⟩:=I.tuple sq;obtain ⟨⟨cls,dd,data,sl⟩,ho,hc,n,hd⟩:=id p;simp only at hc hd;subst hc hd;have hl:=r.length;have hn:its≠[]:=fun z=>hne (r.nil_iff.mp z);have he:its.toArray.isEmpty=false:=by
  cases its with
  | nil=>exact absurd rfl hn
  | cons=>rfl
 have hf:(List.replicate k.toNat its.toArray).foldl (·++·) #[]=(List.replicate k.toNat its).flatten.toArray:=by
  have:=kK its k.toNat [];rw [List.nil_append] at this;exact this
 have hm:(its.length:Int)*k=((its.length*k.toNat:Nat):Int):=by
  rw [Int.natCast_mul,Int.toNat_of_nonneg (by omega)]
 have hz':its.length*k.toNat<=sizeLine:=by rw [<- hl];exact hz
 have hsl:(sizeLine:Int)<=(2^63 - 1) / 8:=by decide
 refine wpAny_binaryOp_repeat_ref (T:="tuple") (U:="int") (by decide) ⟨_,ho,rfl⟩ (fun s'=>typeIs_int s' k t) hV PySem.F.fills_int_mul PySem.F.slot_int_rmul iZ PySem.F.slot_int_index.lookup
  (call_meets PySem.F.slot_int_rmul (typeIs_int s k t) PySem.F.entry_int_rmul (PySem.F.args_int_rmul_2 _ _) (hZ k t l its.toArray n dd sl)
   ⟨ho,rfl,⟨_,ho,rfl⟩,call_meets PySem.F.slot_tuple_mul ⟨_,ho,rfl⟩ PySem.F.entry_tuple_mul (PySem.F.args_tuple_mul_2 _ _) (uQ l its.toArray n dd sl k t ?_ ?_ ?_ ?_ ?_ ?_) ⟨ho,?_⟩⟩)
 ·simp;omega
 ·rw [he];simp;omega
 ·rw [he];simp;omega
 ·rw [List.size_toArray,hm];omega
 ·unfold Builtin.Tuple.tupleTooMany;rw [List.size_toArray,hm,decide_eq_true_eq];omega
 ·rw [hf,List.size_toArray,rN,Nat.mul_comm];omega
 ·rw [hf];refine ⟨.ref s.heap.objs.size,_,I.laid (t':=s.toks) (o:=.tup (List.replicate k.toNat xs).flatten) (fun b ob q=>Heap.get?_push_of_some _ q) (Nat.le_refl _) ?_,rfl,q _ (I.hok.fresh (Nat.le_refl _))⟩;exact ⟨by rw [rN,Nat.mul_comm];exact hz,_,r.rep k.toNat,IsTupD.new _ _⟩
noncomputable def bS6:D2
 | .d (.tuple xs),.d (.int k),h,Q=>(xs≠[]/\1 < k/\k < 2^63/\xs.length*k.toNat<=sizeLine)/\Q (.d (.tuple (List.replicate k.toNat xs).flatten)) h
 | _,_,_,_=>False
def aQ1:OpR X (binaryOp .Mult) (upR X.K bS6):=by
 intro pins s σ H x y v u Q I rx ry h;obtain ⟨a,b,h,A,μ,k,R,ra,rb,q,c⟩:=h;unfold bS6 at q;split at q
 ·rename_i xs n;obtain ⟨p,vs,rfl,ta,sa⟩:=bB (h:=h) ra rfl;have eb:=bG rb;subst eb;obtain ⟨⟨n0,n1,n2,n3⟩,q⟩:=q;refine bJ0 pins s σ H _ _ v u Q I rx ry ⟨p,n,vs,rfl,rfl,ta.sq,fun z=>n0 (List.eq_nil_of_length_eq_zero (by rw [<- sa.length,z];rfl)),n1,n2,by rw [sa.length];exact n3,fun p' hp=>?_⟩;exact c _ _ _ _ _ _ q (aW hp) (R.fresh hp) (dJ R hp (nQ sa _))
 ·exact q.elim
end
section
variable {X:Cx} {a b:Expr} {ta tb:DTE} {pos:Pos}
def cW0 (ta tb:DTE):DTF:=fun δ h Q=>ta δ h fun u h1=>tb δ h1 fun w h2=>match ref h2 u,ref h2 w with
 | some (.list xs),some (.list ys)=>xs.length+ys.length<=sizeLine/\Q (xs++ys) h2
 | _,_=>False
def bJ1 (ha:DE X a ta) (hb:DE X b tb):DF X (.BinOp a .Add b pos) (cW0 ta tb):=aG (aL0 zF ha hb) fun σ H Q q=>by
 obtain ⟨δ,h,A,μ,k,R,q,c⟩:=q;refine ⟨δ,h,A,μ,_,R,q,fun u h1 v H1 A1 μ1 q1 x1 R1 r1=>?_⟩;refine ⟨δ,h1,A1,μ1,_,⟨R1,R.2.ext x1 R.1.sub⟩,q1,fun w h2 v2 H2 A2 μ2 q2 x2 R2 r2=>?_⟩;split at q2
 ·rename_i xs ys ex ey;obtain ⟨p,vs,rfl,s1,rr1⟩:=bZ R2 (r1.ext x2 R1.sub) ex;obtain ⟨p',vs',rfl,s2,rr2⟩:=bZ R2 r2 ey;refine ⟨p,p',vs,vs',rfl,rfl,s1,s2,by rw [rr1.length,rr2.length];exact q2.1,fun l hl=>?_⟩;have x12:=x1.trans x2;obtain ⟨ν,e1,_⟩:=x12.pre;exact c _ _ _ _ _ _ q2.2 (x12.trans (bY hl)) ⟨ν,e1⟩ (x12.back hl) (dM R2 hl (rr2.append rr1))
 ·exact q2.elim
end
end DL
namespace L2
open PySem PySem.Spec PyProof.Rows
def uR:entryFor table "dict.update.loop"=some Builtin.«dict.update.loop»:=entryFor_of_tree (by kernel_rfl)
def iA:plainId "dict.update.loop"=true:=by decide +kernel
def xH {ps:List (Key×V)} {i:Nat} {p:Key×V} (e:ps[i]?=some p):cS [] (ps.take (i+1))=jQ (cS [] (ps.take i)) p.1 p.2:=by
 rw [List.take_succ,e];unfold cS;rw [List.foldl_append];rfl
section
variable {prog:Program} {w:World} {A:Around} {R:Result->Shared->Prop} {I:Addr} {fp wr:List Addr} {n:Nat} {P:Nat->Value->Prop} {St:Nat->Heap->Prop}
def qB (W:Walks prog w A.in1 I fp wr n P St) (D:Addr) (hDf:D∉fp) (g0:Heap) (ps:List (Key×V)) (hval:∀ i v,P i v->∃ p k t u y,v=.ref p/\g0.IsTuple p #[.int k t,u]/\ps[i]?=some (.inl k,y)/\RelV y u/\p≠D/\p∉wr) (hps:ps.length=n) (hn:n<=1000) :
  ∀ (k i:Nat) (s:Shared) (j:Int) (t:Tok) (kvs:List (Key×Value)),n - i=k->i<=n->St i s.heap->s.heap.DictOf (bD prog w) D kvs->KV (cS [] (ps.take i)) kvs ->
   (∀ b o,b≠D->b∉wr->g0.get? b=some o->s.heap.get? b=some o) ->
   (∀ h' tk kvs',h'.DictOf (bD prog w) D kvs'->KV (cS [] ps) kvs'->(∀ b o,b≠D->b∉wr->s.heap.get? b=some o->h'.get? b=some o)->R (.ok (.ret .none)) { s with heap:=h',toks:=tk }) ->
   codeAny (model prog w) A (.builtin "dict.update.loop" ⟨[.ref D,.ref I,.int j t,.none],[]⟩) R s:=by
 have hDw:D∉wr:=fun z=>hDf (W.sub _ z);intro k;induction k with
 | zero =>
  intro i s j t kvs hk hi hst hD hl hg hR;have e:i=n:=by omega
  subst e;refine codeAny_builtin uR ?_;rw [Around.under_plainId iA _];show wpAny _ A.in1 (pyNext (.ref I) >>= _) _ _ s;refine wpAny_bind (W.done s _ _ hst fun h' tk hm=>?_);have q:=hR h' tk kvs (by
   obtain ⟨o,es,ep,ho,r⟩:=hD;exact ⟨o,es,ep,hm D o hDw ho,r⟩) (by rw [List.take_of_length_le (by omega)] at hl;exact hl) (fun b o _ hb e=>hm b o hb e)
  clear hR;unfold Builtin.Dict.addKeywords
  repeat (any_goals (first | assumption | wp_step))
 | succ k ih =>
  intro i s j t kvs hk hi hst hD hl hg hR;have hlt:i < n:=by omega
  refine codeAny_builtin uR ?_;rw [Around.under_plainId iA _];show wpAny _ A.in1 (pyNext (.ref I) >>= _) _ _ s;refine wpAny_bind (W.item i s _ _ hlt hst fun v h' tk hP hst' hm=>?_);obtain ⟨p,kk,t1,u,y,rfl,⟨op,hop,hcp,np,hdp⟩,hpi,hu,hpD,hpw⟩:=hval i v hP;have hp1:h'.get? p=some op:=hm p op hpw (hg p op hpD hpw hop);have hD1:h'.DictOf (bD prog w) D kvs:=by
   obtain ⟨o,es,ep,ho,r⟩:=hD;exact ⟨o,es,ep,hm D o hDw ho,r⟩
  have hT:({ s with heap:=h',toks:=tk }:Shared).TypeIs (.ref p) "tuple":=⟨_,hp1,hcp⟩;have LT:PySem.W.Looks (model prog w) h' (typeOf (.ref p)) (.type "tuple"):=hcp ▸ (PySem.W.Looks.ld hp1).andThen .now;have hlen:kvs.length<=i:=by
   rw [<- hl.length];refine Nat.le_trans (dQ _ _) ?_;rw [List.length_take];simp;omega
  unfold Builtin.Dict.pairItems;dsimp only;refine wpAny_bind (wpAny_holding ?_);refine wpAny_bind (wpAny_tryCatch ?_);refine wpAny_bind (LT.at ?_);rw [if_pos (by decide)];refine wpAny_bind (wpAny_seqItems hp1 hdp (wpAny_pure ?_));dsimp only [Option.getD];refine wpAny_holding ?_;refine wpAny_dictSet_pairs (knd:=bD prog w) (k:=.inl kk) (lI prog w kk t1) hD1 (fun h2 hD2 hs2=>?_) (by have:sizeLine=16777216:=rfl;omega);refine wpAny_pure ⟨plainId_quiet iA _,ih (i+1) _ (j+1) 0 _ (by omega) hlt (W.frame _ h' _ hst' fun b hb o e=>?_) hD2 (by rw [xH hpi];exact hl.put _ hu) (fun b o b1 b2 e=>?_) fun h3 tk3 kvs3 hD3 hl3 hk3=>hR h3 tk3 kvs3 hD3 hl3 fun b o b1 b2 e=>hk3 b o b1 b2 ?_⟩
  ·rw [hs2.2 b (fun z=>hDf (by rw [<- z];exact hb))];exact e
  ·rw [hs2.2 b b1];exact hm b o b2 (hg b o b1 b2 e)
  ·rw [hs2.2 b b1];exact hm b o b2 e
end
def uS:typeLookup (.type "tuple") "keys"=pure none:=by rw [typeLookup_type,builtinLookup_eq_fast];kernel_rfl
def iV {prog:Program} {w:World} {A:Around} {E:Value->Shared->Prop} {s:Shared} {a:Addr} {o:Obj} {xs:Array Value} {k:Nat} {name:Str} {Q:Option Value->Shared->Prop}
  (hx:s.heap.get? a=some o) (hc:o.cls=.type "tuple") (hdat:o.data=.seq xs k) (hd:o.dict=none) (hmiss:typeLookup (.type "tuple") name=pure none) (hname:(["__module__","__name__","__qualname__","__doc__","__annotations__"]:List Str).contains name=false) (hA:A.handled=none)
  (h:∀ h' tk e,Heap.NewExcOf s.heap h' e "AttributeError"->Q none { s with heap:=h',toks:=tk }) (hsz:name.length+100<=sizeLine:=by size_fits) :
  wpAny (model prog w) A (getAttr? (.ref a) name) Q E s:=by
 obtain ⟨c,dct,dat,sl⟩:=o;simp only at hc hdat hd;subst hc hdat hd;obtain ⟨hp,g,d,tk,os⟩:=s;have hT:∀ tk',(⟨hp,g,d,tk',os⟩:Shared).TypeIs (.ref a) "tuple":=fun _=>⟨_,hx,rfl⟩;have f1:=sub_AttributeError;have f3:=F.slot_tuple_getattribute.lookup;have f4:=F.slot_tuple_getattribute.bind (.ref a);have f5:=am_tuple_getattr_none;unfold getAttr? getAttrBy? getAttrBy
 repeat (any_goals (first | assumption | exact hT _ | ((with_reducible show wpAny _ _ (call (Value.builtin "tuple.__getattribute__") _ _) _ _ _);refine call_meets F.slot_tuple_getattribute (hT _) am_entry_tuple_getattribute (F.args_tuple_getattribute_2 _ _) (meets_getattribute_miss_tuple a xs k sl name _ hmiss hname hsz) ⟨hx,hA,fun h' tk' e hx'=>?_⟩) | wp_step))
 obtain ⟨t',u',he⟩:=hx'.there;show wpAny _ _ (getattributeRaised _ _ _ _ _ _ _) _ _ _;unfold getattributeRaised
 repeat (any_goals (first | assumption | wp_step))
 exact h _ _ _ hx'.of
def rZ (h:Heap) (its:List Value) (ps:List (Key×V)):Prop:=its.length=ps.length/\∀ (i:Nat) (v:Value),its[i]?=some v->∃ p k t u y,v=.ref p/\h.IsTuple p #[.int k t,u]/\ps[i]?=some (.inl k,y)/\RelV y u
section
variable {prog:Program} {w:World} {A:Around} {E:Value->Shared->Prop} {s:Shared}
def mB {a:Addr} {its:List Value} {ps:List (Key×V)} {Q:Value->Shared->Prop} (hh:A.handled=none) (ha:IsTupD s.heap a its.toArray) (hp:rZ s.heap its ps) (hn:its.length<=1000)
  (h:∀ h' tk kvs,h'.DictOf (bD prog w) s.heap.objs.size kvs->KV (cS [] ps) kvs->(∀ b o,s.heap.get? b=some o->h'.get? b=some o)->Q (.ref s.heap.objs.size) { s with heap:=h',toks:=tk }) :
  wpAny (model prog w) A (call (.type "dict") [.ref a]) Q E s:=by
 refine callType_codes (Q₁:=fun obj s₁=>obj=.ref s.heap.objs.size/\s₁={ s with heap:=s.heap.push { cls:=.type "dict",data:=.dict #[] } }) F.kt_called_dict (F.kt_typeCall_dict_1 _) F.entry_dict_init (kt_code_dict_new _ ⟨rfl,rfl⟩) ?_;rintro obj s₁ ⟨rfl,rfl⟩;obtain ⟨o,ho,hc,⟨n,hdat⟩,hd⟩:=ha;have hnew:(s.heap.push { cls:=.type "dict",data:=.dict #[] }).DictOf (bD prog w) s.heap.objs.size []:=Heap.DictOf.new s.heap;have ho':(s.heap.push { cls:=.type "dict",data:=.dict #[] }).get? a=some o:=Heap.get?_push_of_some _ ho;have hT:Shared.TypeIs { s with heap:=s.heap.push { cls:=.type "dict",data:=.dict #[] } } (.ref a) "tuple":=⟨_,ho',hc⟩;refine ⟨hnew.typeIs,F.args_dict_init_2 _ _,?_⟩;unfold Builtin.«dict.__init__»;refine wpAny_bind ?_;unfold Builtin.Dict.selfAndRest;refine wpAny_bind (wpAny_notOrdered_dict hnew.typeIs ?_);show wpAny _ _ (pure (s.heap.objs.size,[Value.ref a])) _ _ _;refine wpAny_pure ?_;show wpAny _ _ (Builtin.Dict.updateFrom "dict.__init__" s.heap.objs.size (.ref a) [] .none) _ _ _;unfold Builtin.Dict.updateFrom;refine wpAny_bind (wpAny_typeOf hT ?_);rw [if_pos (by decide)];refine wpAny_bind (iV ho' hc hdat hd uS (by decide +kernel) (by simp [hh]) fun h1 tk1 e1 ne=>?_);rw [if_pos (by rfl)];have keep1:∀ b q,s.heap.get? b=some q->h1.get? b=some q:=fun b q e=>ne.keeps b q (Heap.get?_push_of_some _ e);have hD1:h1.DictOf (bD prog w) s.heap.objs.size []:=by
  obtain ⟨o,es,ep,ho,r⟩:=hnew;exact ⟨o,es,ep,ne.keeps _ _ ho,r⟩
 have hi1:h1.IsTuple a its.toArray:=⟨o,keep1 a o ho,hc,n,hdat⟩;have hlt:a < s.heap.objs.size:=Heap.lt_size ho;have hsz:s.heap.objs.size < h1.objs.size:=by
  obtain ⟨o,es,ep,ho,r⟩:=hD1;exact Heap.lt_size ho
 refine wpAny_bind (wpAny_rule ?_);refine wpAny_bind (wpAny_pyIter_tuple hi1 ?_);have hI:a≠h1.objs.size:=Nat.ne_of_lt (Nat.lt_trans hlt hsz);refine wpAny_pure ⟨plainId_quiet iA _,?_⟩;refine qB (A:=A.in1) (Walks.tuple (A:=A.in1.in1) (by simp [hh]) h1.objs.size a hI its.toArray) s.heap.objs.size ?_ s.heap ps ?_ (by simpa using hp.1.symm) (by simpa using hn) _ 0 _ 0 0 [] rfl (Nat.zero_le _) ⟨⟨_,Heap.get?_push_size _ rfl,rfl,rfl⟩,hi1.push _⟩ (hD1.push _) .nil ?_ ?_
 ·simp only [List.mem_cons,List.mem_singleton,List.not_mem_nil,or_false,not_or];exact ⟨Nat.ne_of_lt hsz,Nat.ne_of_gt hlt⟩
 ·intro i v hv;obtain ⟨p,k,t,u,y,h1',h2,h3,h4⟩:=hp.2 i v (by simpa using hv);have hpl:p < s.heap.objs.size:=by obtain ⟨o,ho,_⟩:=h2;exact Heap.lt_size ho
  refine ⟨p,k,t,u,y,h1',h2,h3,h4,Nat.ne_of_lt hpl,?_⟩;simp only [List.mem_singleton];exact Nat.ne_of_lt (Nat.lt_trans hpl hsz)
 ·intro b o _ _ e;exact Heap.get?_push_of_some _ (keep1 b o e)
 ·intro h' tk kvs hd' hkv hk;refine ⟨rfl,h h' tk kvs hd' hkv fun b o e=>?_⟩;have hbl:b < s.heap.objs.size:=Heap.lt_size e;refine hk b o (Nat.ne_of_lt hbl) ?_ (Heap.get?_push_of_some _ (keep1 b o e));simp only [List.mem_singleton];exact Nat.ne_of_lt (Nat.lt_trans hbl hsz)
end
end L2
namespace DL
open PySem PySem.Spec PyProof.Rows L2
noncomputable def gE:List PyData->Option (List (PyData×PyData))
 | []=>some []
 | .tuple [.int k,y]::r=>(gE r).map fun z=>(.int k,y)::z
 | _=>none
noncomputable def mD (kvs:List (PyData×PyData)) (k v:PyData):List (PyData×PyData) :=
 if (kvs.any fun p=>decide (bO p.1=bO k))=true then kvs.map (fun p=>if bO p.1=bO k then (p.1,v) else p) else kvs++[(k,v)]
noncomputable def jG (kvs:List (PyData×PyData)):List (PyData×PyData):=kvs.foldl (fun a p=>mD a p.1 p.2) []
section
variable {K:Frag} {A μ:List Addr} {H:Hp} {h:aA}
def repKs_cons {p:PyData×PyData} {kvs:List (PyData×PyData)} {r:List (Key×V)}:RepKs K A H (p::kvs) r ↔ ∃ q r',r=q::r'/\(bO p.1=some q.1/\Rep K A H p.2 q.2)/\RepKs K A H kvs r':=by
 obtain ⟨a,b⟩:=p;rw [RepKs];constructor
 ·rintro ⟨q,r',e,h1,h2⟩;rw [RepP] at h1;exact ⟨q,r',e,h1,h2⟩
 ·rintro ⟨q,r',e,h1,h2⟩;exact ⟨q,r',e,by rw [RepP];exact h1,h2⟩
def repKs_nil {r:List (Key×V)}:RepKs K A H [] r ↔ r=[]:=by rw [RepKs]
theorem qD {k:PyData} {q:Key} (hk:bO k=some q):∀ {kvs:List (PyData×PyData)} {r:List (Key×V)},RepKs K A H kvs r->(kvs.any fun p=>decide (bO p.1=bO k))=r.any fun kv=>decide (kv.1=q)
 | [],r,h=>by rw [repKs_nil.mp h];rfl
 | p::kvs,r,h=>by
  obtain ⟨q',r',rfl,⟨h1,h2⟩,h3⟩:=repKs_cons.mp h;rw [List.any_cons,List.any_cons,qD hk h3,h1,hk];simp
theorem qE:∀ {kvs more:List (PyData×PyData)} {r r2:List (Key×V)},RepKs K A H kvs r->RepKs K A H more r2->RepKs K A H (kvs++more) (r++r2)
 | [],_,r,r2,h,h2=>by rw [repKs_nil.mp h];exact h2
 | p::kvs,more,r,r2,h,h2=>by
  obtain ⟨q',r',rfl,h1,h3⟩:=repKs_cons.mp h;exact repKs_cons.mpr ⟨q',r'++r2,rfl,h1,qE h3 h2⟩
theorem nR {k:PyData} {q:Key} {x:PyData} {y:V} (hk:bO k=some q) (rx:Rep K A H x y):∀ {kvs:List (PyData×PyData)} {r:List (Key×V)},RepKs K A H kvs r ->
  RepKs K A H (kvs.map fun p=>if bO p.1=bO k then (p.1,x) else p) (r.map fun kv=>if kv.1=q then (kv.1,y) else kv)
 | [],r,h=>by rw [repKs_nil.mp h];exact repKs_nil.mpr rfl
 | p::kvs,r,h=>by
  obtain ⟨q',r',rfl,⟨h1,h2⟩,h3⟩:=repKs_cons.mp h;rw [List.map_cons,List.map_cons];refine repKs_cons.mpr ⟨_,_,rfl,?_,nR hk rx h3⟩;rw [h1,hk]
  by_cases e:q'.1=q
  ·rw [if_pos e,if_pos (by rw [e])];exact ⟨h1,rx⟩
  ·rw [if_neg e,if_neg (fun z=>e (Option.some.inj z))];exact ⟨h1,h2⟩
def qH {k:PyData} {q:Key} {x:PyData} {y:V} (hk:bO k=some q) (rx:Rep K A H x y) {kvs:List (PyData×PyData)} {r:List (Key×V)} (h:RepKs K A H kvs r):RepKs K A H (mD kvs k x) (jQ r q y):=by
 unfold mD jQ;rw [qD hk h];split
 ·exact nR hk rx h
 ·exact qE h (repKs_cons.mpr ⟨_,_,rfl,⟨hk,rx⟩,repKs_nil.mpr rfl⟩)
theorem iB:∀ {more:List (PyData×PyData)} {rm:List (Key×V)} {kvs:List (PyData×PyData)} {r:List (Key×V)},RepKs K A H more rm->RepKs K A H kvs r->RepKs K A H (more.foldl (fun a p=>mD a p.1 p.2) kvs) (cS r rm)
 | [],rm,kvs,r,h,h2=>by rw [repKs_nil.mp h];exact h2
 | p::more,rm,kvs,r,h,h2=>by
  obtain ⟨q',r',rfl,⟨h1,h3⟩,h4⟩:=repKs_cons.mp h;show RepKs K A H (more.foldl _ (mD kvs p.1 p.2)) (cS (jQ r q'.1 q'.2) r');exact iB h4 (qH h1 h3 h2)
end
variable {X:Cx}
def xI {K:Frag} {A:List Addr} {H:Hp} {xs:List PyData} {v:V} (h:Rep K A H (.tuple xs) v):∃ a vs,v=.ref a/\TupAt K A H a vs/\Reps K A H xs vs:=by rw [Rep] at h;exact h
theorem nT {pins:List (Addr×Obj)} {σ:L2.St} {H:Hp} {s:Shared} {A:List Addr} (I:Inv X pins σ H s):∀ {xs:List PyData} {ds:List (PyData×PyData)} {vs:List V} {its:List Value},gE xs=some ds->Reps X.K A H xs vs->Vals vs its ->
  ∃ ps,rZ s.heap its ps/\RepKs X.K A H ds ps
 | [],ds,vs,its,e,r,rv=>by
  cases e;rw [Reps] at r;subst r;cases rv;exact ⟨[],⟨rfl,fun i v hv=>by simp at hv⟩,repKs_nil.mpr rfl⟩
 | x::xs,ds,vs,its,e,r,rv=>by
  unfold gE at e;split at e
  ·rename_i e0;cases e0
  ·rename_i k y r0 e0;cases e0;obtain ⟨z,ez,rfl⟩:=Option.map_eq_some_iff.mp e;rw [Reps] at r;obtain ⟨v,vr,rfl,rx,rr⟩:=r;cases rv with
   | cons rv1 rvr =>
   obtain ⟨ps,hp,hk⟩:=nT I ez rr rvr;obtain ⟨a,vs2,rfl,ta,r2⟩:=xI rx;rw [Reps] at r2;obtain ⟨v1,r3,rfl,rk,r2⟩:=r2;rw [Reps] at r2;obtain ⟨v2,r4,rfl,ry,r2⟩:=r2;rw [Reps] at r2;subst r2;rw [Rep] at rk;subst rk;obtain ⟨its2,rv2,hit,_⟩:=I.tuple ta.sq;cases rv2 with
   | cons q1 q2 =>
   cases q2 with
   | cons q2 q3 =>
   cases q3;obtain ⟨t,rfl⟩:=q1;cases rv1;refine ⟨(.inl k,v2)::ps,⟨by simp [hp.1],fun i v hv=>?_⟩,repKs_cons.mpr ⟨_,_,rfl,⟨rfl,ry⟩,hk⟩⟩;cases i with
   | zero =>
    simp at hv;subst hv;exact ⟨a,k,t,_,v2,rfl,hit,rfl,q2⟩
   | succ i =>
    simp only [List.getElem?_cons_succ] at hv ⊢;exact hp.2 i v hv
  ·cases e
noncomputable def xJ:List W->aA->Option (W×aA)
 | [w],h=>(match ref h w with
  | some (.tuple xs)=>if xs.length<=1000 then (gE xs).map fun kvs=>(.d (.dict (jG kvs)),h) else none
  | _=>none)
 | _,_=>none
def aQ4 {pins:List (Addr×Obj)} {σ:L2.St} {H:Hp} {s:Shared} {A:List Addr} {a:Addr} {vs:List V} (I:Inv X pins σ H s) (h:TupAt X.K A H a vs):∃ its:List Value,Vals vs its/\IsTupD s.heap a its.toArray:=by
 rcases h with ⟨_,h⟩ | ⟨o,its,n,hk,hc,hd,hs,hz,r⟩
 ·obtain ⟨z,its,r,p⟩:=h.ok I.hok;exact ⟨its,r,p⟩
 ·exact ⟨its.toList,r,o,I.kIn a o hk,hc,⟨n,by simpa using hs⟩,hd⟩
def uT (hc:X.calm=true):cF X (.type "dict") (upC X.K fun ws h Q=>∃ r h',xJ ws h=some (r,h')/\Q r h'):=by
 intro pins s σ H xs us Q I r h;obtain ⟨ws,h,A,μ,k,R,rw',⟨rr,h',e,q⟩,c⟩:=h;unfold xJ at e;split at e
 ·rename_i w h0;obtain ⟨v,rfl,rv⟩:=cU rw';split at e
  ·rename_i ys ey;split at e
   ·rename_i hl;obtain ⟨kvs,ek,e2⟩:=Option.map_eq_some_iff.mp e;cases e2;obtain ⟨p,vs,rfl,sq,rs⟩:=bB rv ey;obtain ⟨u,rfl,rx⟩:=iX r;cases rx;obtain ⟨its,rits,hd⟩:=aQ4 I sq;obtain ⟨ps,hp,hk⟩:=nT I ek rs rits;have hlen:its.length=ys.length:=by rw [<- rits.length];exact Reps.length rs
    refine mB (I.ok.hd hc) hd hp (by omega) fun h' tk kvs' hd' hkv hkeep=>?_;have z:(cS [] ps).length<=sizeLine:=by
     have:=dQ ps [];have e1:=hp.1;have:sizeLine=16777216:=rfl;simp at *;omega
    have I2:Inv X pins σ (upd H s.heap.objs.size (.dK (cS [] ps))) { s with heap:=h',toks:=tk } :=
     I.laid (t':=tk) hkeep (Nat.le_refl _) (xA z (beq_eq_false_iff_ne.mpr (Ne.symm (Nat.ne_of_lt I.big))) hkv hd')
    have hf:H s.heap.objs.size=none:=I.hok.fresh (Nat.le_refl _);refine ⟨.ref s.heap.objs.size,_,I2,rfl,c _ _ _ _ _ _ q (aW hf) (R.fresh hf) ?_⟩;show Rep X.K A _ (.dict (jG kvs)) (.ref s.heap.objs.size);rw [Rep];refine ⟨_,_,rfl,⟨R.notA hf,.inl aU⟩,RepKs.ext (aW (μ:=μ) hf) R.sub (iB hk (repKs_nil.mpr rfl))⟩
   ·cases e
  ·cases e
 ·cases e
end DL
namespace PySem
open PyProof.Rows
section
variable {prog:Program} {w:World} {A:Around} {E:Value->Shared->Prop} {s:Shared}
def jX {it t:Addr} {i:Nat} {items:Array Value} {x:Value} {Q:Value->Shared->Prop} (hit:s.heap.IsTupleIter it t i) (hl:s.heap.IsTuple t items) (hx:items[i]?=some x)
  (hQ:∀ h',h'.IsTupleIter it t (i+1)->Heap.SameBut it s.heap h'->Q x { s with heap:=h' }):wpAny (model prog w) A (Builtin.SmallTypes.nextOf (.ref it)) Q E s:=by
 obtain ⟨o,ho,hc,hd⟩:=id hit;obtain ⟨ol,hol,hlc,nl,hdl⟩:=hl;unfold Builtin.SmallTypes.nextOf;refine wpAny_bind (wpAny_callSpecial?_slot (hit.typeIs) F.slot_tuple_iterator_next (wpAny_call_entry F.slot_tuple_iterator_next hit.typeIs F.entry_tuple_iterator_next ?_ (F.args_tuple_iterator_next_1 _)));refine wpAny_bind (wpAny_pure (a:=(Value.ref it,[])) ?_);refine wpAny_bind (wpAny_field ho hd rfl ?_);rw [if_neg (by exact Bool.false_ne_true)];refine wpAny_bind (wpAny_field ho hd rfl ?_);refine wpAny_bind (wpAny_seqItems hol hdl ?_);show wpAny _ _ (match items[((i:Int)).toNat]? with | some x=>_ | none=>_) _ _ _;rw [Int.toNat_natCast,hx];refine wpAny_bind (wpAny_setField ho hd (by simp) ?_);refine wpAny_pure ⟨x,rfl,wpAny_pure (hQ _ ⟨_,Heap.get?_update_self _ ho (Obj.isFreed_of_fields (Obj.data_mapFields hd _)),(Obj.cls_mapFields o _).trans hc,?_⟩ (Heap.SameBut.update _ _ _))⟩;rw [Obj.data_mapFields hd];rfl
def kP {it t:Addr} {i:Nat} {items:Array Value} {Q:Value->Shared->Prop} (hh:A.handled=none) (hit:s.heap.IsTupleIter it t i) (hl:s.heap.IsTuple t items) (hx:items[i]?=none)
  (hE:∀ h' e,Heap.ExtBut it s.heap h'->(∃ o,h'.get? e=some o/\o.cls=.type "StopIteration")->E (.ref e) { s with heap:=h' }):wpAny (model prog w) A (Builtin.SmallTypes.nextOf (.ref it)) Q E s:=by
 obtain ⟨o,ho,hc,hd⟩:=id hit;obtain ⟨ol,hol,hlc,nl,hdl⟩:=hl;unfold Builtin.SmallTypes.nextOf;refine wpAny_bind (wpAny_callSpecial?_slot (hit.typeIs) F.slot_tuple_iterator_next (wpAny_call_entry F.slot_tuple_iterator_next hit.typeIs F.entry_tuple_iterator_next ?_ (F.args_tuple_iterator_next_1 _)));refine wpAny_bind (wpAny_pure (a:=(Value.ref it,[])) ?_);refine wpAny_bind (wpAny_field ho hd rfl ?_);rw [if_neg (by exact Bool.false_ne_true)];refine wpAny_bind (wpAny_field ho hd rfl ?_);refine wpAny_bind (wpAny_seqItems hol hdl ?_);show wpAny _ _ (match items[((i:Int)).toNat]? with | some x=>_ | none=>_) _ _ _;rw [Int.toNat_natCast,hx];refine wpAny_bind (wpAny_rule ?_);refine wpAny_bind (wpAny_setField ho hd (by simp) ?_);unfold Builtin.SmallTypes.stopIteration newExc;refine wpAny_bind (wpAny_bind (wpAny_newObj_type ?_ (by show (([]:List Value).toArray.size<=sizeLine);simp)));refine wpAny_bind (wpAny_pure (a:=Value.none) ?_);refine wpAny_newObj_type ?_ (sizeOk_excFields ..);unfold raiseNew;refine wpAny_bind (wpAny_handled ?_);rw [show A.in1.handled=none from hh];refine wpAny_throw (hE _ _ (fun b o' hb e=>?_) ⟨_,Heap.get?_push_size _ rfl,rfl⟩);refine Heap.get?_push_of_some _ (Heap.get?_push_of_some _ ?_);rw [(Heap.SameBut.update s.heap it _).2 b hb];exact e
noncomputable def SqAt:Bool->Heap->Addr->Array Value->Prop
 | true,h,l,xs=>h.IsTuple l xs
 | false,h,l,xs=>h.IsList l xs
noncomputable def ItAt:Bool->Heap->Addr->Addr->Nat->Prop
 | true,h,it,l,k=>h.IsTupleIter it l k
 | false,h,it,l,k=>h.IsListIter it l k
noncomputable def kQ (b:Bool) (l:Addr):Obj:={ cls:=.type (if b=true then "tuple_iterator" else "list_iterator"),data:=.fields #[.ref l,.int 0 0] }
def SqAt.keep {b:Bool} {h h':Heap} {l:Addr} {xs:Array Value} (x:SqAt b h l xs) (k:∀ o,h.get? l=some o->h'.get? l=some o):SqAt b h' l xs:=by
 cases b<;>exact let ⟨o,h1,h2⟩:=x;⟨o,k o h1,h2⟩
def ItAt.keep {b:Bool} {h h':Heap} {it l:Addr} {i:Nat} (x:ItAt b h it l i) (k:∀ o,h.get? it=some o->h'.get? it=some o):ItAt b h' it l i:=by
 cases b<;>exact let ⟨o,h1,h2⟩:=x;⟨o,k o h1,h2⟩
def ItAt.new {b:Bool} {h:Heap} {it l:Addr} (e:h.get? it=some (kQ b l)):ItAt b h it l 0:=by
 cases b<;>exact ⟨_,e,rfl,rfl⟩
def fS {b:Bool} {l:Addr} {xs:Array Value} {Q:Value->Shared->Prop} (hl:SqAt b s.heap l xs) (h:Q (.ref s.heap.objs.size) { s with heap:=s.heap.push (kQ b l) }):wpAny (model prog w) A (pyIter (.ref l)) Q E s:=by
 cases b
 ·exact wpAny_pyIter_list hl h
 ·exact wpAny_pyIter_tuple hl h
def fK {b:Bool} {it l:Addr} {i:Nat} {items:Array Value} {x:Value} {Q:Value->Shared->Prop} (hit:ItAt b s.heap it l i) (hl:SqAt b s.heap l items) (hx:items[i]?=some x)
  (hQ:∀ h',ItAt b h' it l (i+1)->Heap.SameBut it s.heap h'->Q x { s with heap:=h' }):wpAny (model prog w) A (Builtin.SmallTypes.nextOf (.ref it)) Q E s:=by
 cases b
 ·exact wpAny_nextOf_list_item hit hl hx hQ
 ·exact jX hit hl hx hQ
def jH {b:Bool} {it l:Addr} {i:Nat} {items:Array Value} {Q:Value->Shared->Prop} (hh:A.handled=none) (hit:ItAt b s.heap it l i) (hl:SqAt b s.heap l items) (hx:items[i]?=none)
  (hE:∀ h' e,Heap.ExtBut it s.heap h'->(∃ o,h'.get? e=some o/\o.cls=.type "StopIteration")->E (.ref e) { s with heap:=h' }):wpAny (model prog w) A (Builtin.SmallTypes.nextOf (.ref it)) Q E s:=by
 cases b
 ·exact wpAny_nextOf_list_end hh hit hl hx hE
 ·exact kP hh hit hl hx hE
noncomputable abbrev zH1 (b:Bool) (h:Heap) (l1:Addr):Heap:=h.push (kQ b l1)
noncomputable abbrev zH2 (b c:Bool) (h:Heap) (l1 l2:Addr):Heap:=(zH1 b h l1).push (kQ c l2)
noncomputable abbrev zH3 (b c:Bool) (h:Heap) (l1 l2:Addr):Heap:=(zH2 b c h l1 l2).push { cls:=.type "tuple",data:=.seq #[.ref h.objs.size,.ref (zH1 b h l1).objs.size] }
noncomputable abbrev zH4 (b c:Bool) (h:Heap) (l1 l2:Addr):Heap:=(zH3 b c h l1 l2).push { cls:=.type "tuple",data:=.seq #[.none,.none] }
noncomputable abbrev zH5 (b c:Bool) (h:Heap) (l1 l2:Addr):Heap:=(zH4 b c h l1 l2).push { cls:=.type "zip",data:=.fields #[.none,.bool false,.bool false,.ref (zH2 b c h l1 l2).objs.size,.ref (zH3 b c h l1 l2).objs.size] }
def bJ2 (b c:Bool) (l1 l2:Addr) (xs ys:Array Value):Meets (Builtin.«zip.__new__» { pos:=[.type "zip",.ref l1,.ref l2] }) fun _ R s=>SqAt b s.heap l1 xs/\SqAt c s.heap l2 ys /\
  R (.ok (.ret (.ref (zH4 b c s.heap l1 l2).objs.size))) { s with heap:=zH5 b c s.heap l1 l2 }:=by
 refine Meets.of_wp fun prog w A R s h=>?_;obtain ⟨h1,h2,h⟩:=h;unfold Builtin.«zip.__new__»;refine wpAny_bind (wpAny_pure (a:=(Value.type "zip",[Value.ref l1,Value.ref l2])) ?_);dsimp only;rw [if_neg (by decide)];refine wpAny_bind ?_;unfold Builtin.SmallTypes.iterAll;refine wpAny_bind ?_;rw [List.forIn_cons];refine wpAny_bind (wpAny_bind (wpAny_holding (fS h1 (wpAny_pure ?_))));dsimp only;rw [List.forIn_cons];refine wpAny_bind (wpAny_bind (wpAny_holding (fS (h2.keep fun o e=>Heap.get?_push_of_some _ e) (wpAny_pure ?_))));dsimp only;rw [List.forIn_nil];refine wpAny_pure (wpAny_pure ?_);refine wpAny_bind (wpAny_newObj_type ?_ (by show (_:Array Value).size<=sizeLine;simp [sizeLine_eq]));refine wpAny_bind (wpAny_newObj_type ?_ (by show (_:Array Value).size<=sizeLine;simp [sizeLine_eq]));refine wpAny_bind ?_;unfold Builtin.SmallTypes.newRecord;refine wpAny_newObj_type (wpAny_pure ⟨_,rfl,h⟩) ?_;simp [sizeOk,Builtin.SmallTypes.ownedTupleFields,sizeLine_eq]
def aQ5 {b c:Bool} {l1 l2:Addr} {xs ys:Array Value} {Q:Value->Shared->Prop} (h1:SqAt b s.heap l1 xs) (h2:SqAt c s.heap l2 ys)
  (h:∀ h',IsZip h' (s.heap.objs.size+4) (s.heap.objs.size+2) (s.heap.objs.size+3) .none->IsPair h' (s.heap.objs.size+2) (.ref s.heap.objs.size) (.ref (s.heap.objs.size+1))->IsPair h' (s.heap.objs.size+3) .none .none ->
   ItAt b h' s.heap.objs.size l1 0->ItAt c h' (s.heap.objs.size+1) l2 0->h'.objs.size=s.heap.objs.size+5->(∀ a o,s.heap.get? a=some o->h'.get? a=some o)->Q (.ref (s.heap.objs.size+4)) { s with heap:=h' }) :
  wpAny (model prog w) A (call (.type "zip") [.ref l1,.ref l2]) Q E s:=by
 have z1:(zH1 b s.heap l1).objs.size=s.heap.objs.size+1:=Heap.size_push ..;have z2:(zH2 b c s.heap l1 l2).objs.size=s.heap.objs.size+2:=by rw [zH2,Heap.size_push,z1]
 have z3:(zH3 b c s.heap l1 l2).objs.size=s.heap.objs.size+3:=by rw [zH3,Heap.size_push,z2]
 have z4:(zH4 b c s.heap l1 l2).objs.size=s.heap.objs.size+4:=by rw [zH4,Heap.size_push,z3]
 have z5:(zH5 b c s.heap l1 l2).objs.size=s.heap.objs.size+5:=by rw [zH5,Heap.size_push,z4]
 have g5:(zH5 b c s.heap l1 l2).get? (zH4 b c s.heap l1 l2).objs.size=_:=Heap.get?_push_size _ rfl;have g4:(zH5 b c s.heap l1 l2).get? (zH3 b c s.heap l1 l2).objs.size=_:=Heap.get?_push_of_some _ (Heap.get?_push_size _ rfl);have g3:(zH5 b c s.heap l1 l2).get? (zH2 b c s.heap l1 l2).objs.size=_:=Heap.get?_push_of_some _ (Heap.get?_push_of_some _ (Heap.get?_push_size _ rfl));have g2:(zH5 b c s.heap l1 l2).get? (zH1 b s.heap l1).objs.size=_:=Heap.get?_push_of_some _ (Heap.get?_push_of_some _ (Heap.get?_push_of_some _ (Heap.get?_push_size _ rfl)));have g1:(zH5 b c s.heap l1 l2).get? s.heap.objs.size=_:=Heap.get?_push_of_some _ (Heap.get?_push_of_some _ (Heap.get?_push_of_some _ (Heap.get?_push_of_some _ (Heap.get?_push_size _ rfl))));refine callType_new F.called_zip (by decide) (F.typeCall_zip_2 _ _) (F.newCall_zip_2 _ _) (fun obj=>F.args_object_init_3 obj _ _) F.entry_zip_new (bJ2 b c l1 l2 xs ys) ⟨h1,h2,?_⟩;have q:=h (zH5 b c s.heap l1 l2) (by rw [z4,z3,z2] at g5;exact g5) (by rw [z2,z1] at g3;exact g3) (by rw [z3] at g4;exact g4) (.new g1) (.new (by rw [z1] at g2;exact g2)) z5
  (fun a o e=>Heap.get?_push_of_some _ (Heap.get?_push_of_some _ (Heap.get?_push_of_some _ (Heap.get?_push_of_some _ (Heap.get?_push_of_some _ e)))))
 rw [<- z4] at q;exact ⟨⟨_,g5,rfl⟩,q⟩
def sB {h:Heap} {z TI TO:Addr} {f0 x:Value} (hz:IsZip h z TI TO f0):IsZip (h.update z (Obj.mapFields fun a=>a.setIfInBounds 0 x)) z TI TO x:=by
 refine (Heap.get?_update_self _ hz (Obj.isFreed_of_fields (Obj.data_mapFields rfl _))).trans ?_;rfl
def aQ6 {h:Heap} {z TI TO:Addr} {f0:Value} (hz:IsZip h z TI TO f0):IsZip (h.update z (Obj.mapFields fun a=>a.setIfInBounds 1 (.bool false))) z TI TO f0:=by
 refine (Heap.get?_update_self _ hz (Obj.isFreed_of_fields (Obj.data_mapFields rfl _))).trans ?_;rfl
structure ZApart (z TI TO i1 i2:Addr):Prop where
 TIz:TI≠z
 TOz:TO≠z
 i1z:i1≠z
 i2z:i2≠z
 TITO:TI≠TO
 TOi1:TO≠i1
 TOi2:TO≠i2
 TIi1:TI≠i1
 TIi2:TI≠i2
 i12:i1≠i2
def aF5 {b c:Bool} {z TI TO i1 i2 l1 l2:Addr} {k:Nat} {xs ys:Array Value} {x y u v:Value} {Q:Value->Shared->Prop} (D:ZApart z TI TO i1 i2) (hz:IsZip s.heap z TI TO .none) (hTI:IsPair s.heap TI (.ref i1) (.ref i2)) (hTO:IsPair s.heap TO u v)
  (h1:ItAt b s.heap i1 l1 k) (h2:ItAt c s.heap i2 l2 k) (q1:SqAt b s.heap l1 xs) (q2:SqAt c s.heap l2 ys) (nz1:l1≠z) (nz2:l2≠z) (nT2:l2≠TO) (n21:l2≠i1) (hx:xs[k]?=some x) (hy:ys[k]?=some y)
  (hQ:∀ h',IsZip h' z TI TO (rawInt s.heap.objs.size)->IsPair h' TO x y->ItAt b h' i1 l1 (k+1)->ItAt c h' i2 l2 (k+1)->IsPair h' s.heap.objs.size x y->h'.objs.size=s.heap.objs.size+1 ->
   (∀ a o,a≠z->a≠TO->a≠i1->a≠i2->s.heap.get? a=some o->h'.get? a=some o)->Q (.ref s.heap.objs.size) { s with heap:=h' }) :
  wpAny (model prog w) A (Builtin.«zip.__next__» { pos:=[.ref z] }) (fun fin s'=>∃ v,fin=Fin.done (.ret v)/\Q v s') E s:=by
 unfold Builtin.«zip.__next__»;refine wpAny_bind (wpAny_pure (a:=(Value.ref z,[])) ?_);refine wpAny_bind (wpAny_field hz rfl rfl ?_);refine wpAny_bind (wpAny_field hz rfl rfl ?_);refine wpAny_bind (wpAny_seqItems hTI rfl ?_);dsimp only;rw [if_neg (by simp)];refine wpAny_bind ?_;unfold Builtin.SmallTypes.ownedTupleIsFree;refine wpAny_bind (wpAny_field hz rfl rfl ?_);refine wpAny_pure ?_;rw [if_pos rfl];refine wpAny_bind (wpAny_rule ?_);refine wpAny_bind (wpAny_field hz rfl rfl ?_);refine wpAny_bind (wpAny_setField hz rfl (by simp) ?_);have e1:=Heap.SameBut.update s.heap z (Obj.mapFields fun a=>a.setIfInBounds 0 Value.ellipsis);have hz1:=sB (x:=Value.ellipsis) hz;generalize s.heap.update z (Obj.mapFields fun a=>a.setIfInBounds 0 Value.ellipsis)=H1 at e1 hz1 ⊢;have h11:ItAt b H1 i1 l1 k:=h1.keep fun o e=>(e1.2 _ D.i1z).trans e;have q11:SqAt b H1 l1 xs:=q1.keep fun o e=>(e1.2 _ nz1).trans e;have hTO1:IsPair H1 TO u v:=(e1.2 _ D.TOz).trans hTO;refine wpAny_bind ?_;rw [show [Value.ref i1,Value.ref i2].zipIdx=[(Value.ref i1,0),(Value.ref i2,1)] from rfl,List.forIn_cons];refine wpAny_bind (wpAny_bind (wpAny_onRaise ?_))
 change wpAny _ _ (Builtin.SmallTypes.nextOf (Value.ref i1) >>= fun v=>pure (some v)) _ _ _
 refine wpAny_bind (fK h11 q11 hx fun H2 h12 e2=>wpAny_pure ?_);have hz2:IsZip H2 z TI TO .ellipsis:=(e2.2 _ D.i1z.symm).trans hz1;have hTO2:IsPair H2 TO u v:=(e2.2 _ D.TOi1).trans hTO1;refine wpAny_bind (wpAny_seqItems hTO2 rfl (wpAny_bind (wpAny_updateSeq_pair hTO2 fun H3 hTO3 e3=>wpAny_bind (wpAny_letGo (wpAny_pure ?_)))));have hTO3:IsPair H3 TO x v:=hTO3;have hz3:IsZip H3 z TI TO .ellipsis:=(e3.2 _ D.TOz.symm).trans hz2;have h23:ItAt c H3 i2 l2 k:=h2.keep fun o e=>(e3.2 _ D.TOi2.symm).trans ((e2.2 _ D.i12.symm).trans ((e1.2 _ D.i2z).trans e));have q23:SqAt c H3 l2 ys:=q2.keep fun o e=>(e3.2 _ nT2).trans ((e2.2 _ n21).trans ((e1.2 _ nz2).trans e));dsimp only;rw [List.forIn_cons];refine wpAny_bind (wpAny_bind (wpAny_onRaise ?_))
 change wpAny _ _ (Builtin.SmallTypes.nextOf (Value.ref i2) >>= fun v=>pure (some v)) _ _ _
 refine wpAny_bind (fK h23 q23 hy fun H4 h24 e4=>wpAny_pure ?_);have hz4:IsZip H4 z TI TO .ellipsis:=(e4.2 _ D.i2z.symm).trans hz3;have hTO4:IsPair H4 TO x v:=(e4.2 _ D.TOi2).trans hTO3;refine wpAny_bind (wpAny_seqItems hTO4 rfl (wpAny_bind (wpAny_updateSeq_pair hTO4 fun H5 hTO5 e5=>wpAny_bind (wpAny_letGo (wpAny_pure ?_)))));have hTO5:IsPair H5 TO x y:=hTO5;have hz5:IsZip H5 z TI TO .ellipsis:=(e5.2 _ D.TOz.symm).trans hz4;dsimp only;rw [List.forIn_nil];refine wpAny_pure ?_;refine wpAny_bind (wpAny_seqItems hTO5 rfl ?_);refine wpAny_bind (wpAny_newObj_type ?_ (by simp [sizeOk,sizeLine_eq]));have es:H5.objs.size=s.heap.objs.size:=by rw [e5.1,e4.1,e3.1,e2.1,e1.1]
 have g6:IsPair (H5.push { cls:=.type "tuple",data:=.seq #[x,y] }) H5.objs.size x y:=Heap.get?_push_size _ rfl;have k6:∀ a o,H5.get? a=some o->(H5.push { cls:=.type "tuple",data:=.seq #[x,y] }).get? a=some o:=fun a o e=>Heap.get?_push_of_some _ e;have s6:(H5.push { cls:=.type "tuple",data:=.seq #[x,y] }).objs.size=s.heap.objs.size+1:=by rw [Heap.size_push,es]
 have hz6:=k6 _ _ hz5;refine wpAny_bind ?_;unfold Builtin.SmallTypes.ownedTupleHandOut;refine wpAny_bind (wpAny_setField hz6 rfl (by simp) ?_);have hz7:=sB (x:=rawInt H5.objs.size) hz6;refine wpAny_setField hz7 rfl (by simp) ?_;have hz8:=aQ6 hz7;have e7:=Heap.SameBut.update (H5.push { cls:=.type "tuple",data:=.seq #[x,y] }) z (Obj.mapFields fun a=>a.setIfInBounds 0 (rawInt H5.objs.size));have e8:=Heap.SameBut.update ((H5.push { cls:=.type "tuple",data:=.seq #[x,y] }).update z (Obj.mapFields fun a=>a.setIfInBounds 0 (rawInt H5.objs.size))) z (Obj.mapFields fun a=>a.setIfInBounds 1 (.bool false));have kk:∀ a o,a≠z->H5.get? a=some o->(((H5.push { cls:=.type "tuple",data:=.seq #[x,y] }).update z (Obj.mapFields fun a=>a.setIfInBounds 0 (rawInt H5.objs.size))).update z (Obj.mapFields fun a=>a.setIfInBounds 1 (.bool false))).get? a=some o :=
  fun a o n e=>(e8.2 a n).trans ((e7.2 a n).trans (k6 a o e))
 have nsz:H5.objs.size≠z:=fun e=>by
  have:=Heap.lt_size hz5;rw [<- e] at this;exact Nat.lt_irrefl _ this
 have g8:=(e8.2 _ nsz).trans ((e7.2 _ nsz).trans g6);have hs8:=e8.1.trans (e7.1.trans s6);have h15:ItAt b H5 i1 l1 (k+1):=h12.keep fun o e=>(e5.2 _ D.TOi1.symm).trans ((e4.2 _ D.i12).trans ((e3.2 _ D.TOi1.symm).trans e));have h25:ItAt c H5 i2 l2 (k+1):=h24.keep fun o e=>(e5.2 _ D.TOi2.symm).trans e;have q:=hQ _ (by rw [es] at hz8;rw [es];exact hz8) (kk _ _ D.TOz hTO5) (h15.keep fun o e=>kk _ _ D.i1z e) (h25.keep fun o e=>kk _ _ D.i2z e) (by rw [<- es];exact g8) hs8
  (fun a o n1 n2 n3 n4 e=>kk _ _ n1 ((e5.2 _ n2).trans ((e4.2 _ n4).trans ((e3.2 _ n2).trans ((e2.2 _ n3).trans ((e1.2 _ n1).trans e))))))
 refine wpAny_pure ⟨_,rfl,?_⟩;rw [<- es] at q;exact q
def aQ7 {b c:Bool} {z TI TO i1 i2 l1 l2:Addr} {k:Nat} {xs ys:Array Value} {u v:Value} {Q:Fin->Shared->Prop} (hh:A.handled=none) (D:ZApart z TI TO i1 i2) (hz:IsZip s.heap z TI TO .none) (hTI:IsPair s.heap TI (.ref i1) (.ref i2)) (hTO:IsPair s.heap TO u v)
  (h1:ItAt b s.heap i1 l1 k) (h2:ItAt c s.heap i2 l2 k) (q1:SqAt b s.heap l1 xs) (q2:SqAt c s.heap l2 ys) (nz1:l1≠z) (nz2:l2≠z) (nT2:l2≠TO) (n21:l2≠i1) (hn:xs[k]?=none\/ys[k]?=none)
  (hE:∀ h' e,(∀ a o,a≠z->a≠TO->a≠i1->a≠i2->s.heap.get? a=some o->h'.get? a=some o)->(∃ o,h'.get? e=some o/\o.cls=.type "StopIteration")->E (.ref e) { s with heap:=h' }) :
  wpAny (model prog w) A (Builtin.«zip.__next__» { pos:=[.ref z] }) Q E s:=by
 unfold Builtin.«zip.__next__»;refine wpAny_bind (wpAny_pure (a:=(Value.ref z,[])) ?_);refine wpAny_bind (wpAny_field hz rfl rfl ?_);refine wpAny_bind (wpAny_field hz rfl rfl ?_);refine wpAny_bind (wpAny_seqItems hTI rfl ?_);dsimp only;rw [if_neg (by simp)];refine wpAny_bind ?_;unfold Builtin.SmallTypes.ownedTupleIsFree;refine wpAny_bind (wpAny_field hz rfl rfl ?_);refine wpAny_pure ?_;rw [if_pos rfl];refine wpAny_bind (wpAny_rule ?_);refine wpAny_bind (wpAny_field hz rfl rfl ?_);refine wpAny_bind (wpAny_setField hz rfl (by simp) ?_);have e1:=Heap.SameBut.update s.heap z (Obj.mapFields fun a=>a.setIfInBounds 0 Value.ellipsis);have hz1:=sB (x:=Value.ellipsis) hz;generalize s.heap.update z (Obj.mapFields fun a=>a.setIfInBounds 0 Value.ellipsis)=H1 at e1 hz1 ⊢;have h11:ItAt b H1 i1 l1 k:=h1.keep fun o e=>(e1.2 _ D.i1z).trans e;have q11:SqAt b H1 l1 xs:=q1.keep fun o e=>(e1.2 _ nz1).trans e;have hTO1:IsPair H1 TO u v:=(e1.2 _ D.TOz).trans hTO;have ends:∀ (H4 H5:Heap) (e:Addr),IsZip H5 z TI TO .ellipsis->(∀ a o,a≠z->a≠TO->a≠i1->a≠i2->s.heap.get? a=some o->H5.get? a=some o)->(∃ o,H5.get? e=some o/\o.cls=.type "StopIteration") ->
   wpAny (model prog w) A (setField (.ref z) 0 .none) (fun _ s''=>E (.ref e) s'') E { s with heap:=H5 }:=fun H4 H5 e hz5 kk ⟨o,ho,hc⟩=>by
  refine wpAny_setField hz5 rfl (by simp) ?_;have e6:=Heap.SameBut.update H5 z (Obj.mapFields fun a=>a.setIfInBounds 0 Value.none);refine hE _ e (fun a o n1 n2 n3 n4 g=>(e6.2 _ n1).trans (kk a o n1 n2 n3 n4 g)) ⟨o,(e6.2 _ fun z'=>?_).trans ho,hc⟩;rw [z'] at ho;have hz5:H5.get? z=_:=hz5;rw [ho] at hz5;cases hz5;simp at hc
 refine wpAny_bind ?_;rw [show [Value.ref i1,Value.ref i2].zipIdx=[(Value.ref i1,0),(Value.ref i2,1)] from rfl,List.forIn_cons];refine wpAny_bind (wpAny_bind (wpAny_onRaise ?_))
 change wpAny _ _ (Builtin.SmallTypes.nextOf (Value.ref i1) >>= fun v=>pure (some v)) _ _ _
 by_cases hx:xs[k]?=none
 ·refine wpAny_bind (jH hh h11 q11 hx fun H2 e g2 he=>ends H2 H2 e ?_ (fun a o n1 n2 n3 n4 g=>?_) he)
  ·exact g2 _ _ D.i1z.symm hz1
  ·exact g2 _ _ n3 ((e1.2 _ n1).trans g)
 obtain ⟨x,hx⟩:=Option.ne_none_iff_exists'.mp hx;have hy:ys[k]?=none:=hn.resolve_left (by rw [hx];simp);refine wpAny_bind (fK h11 q11 hx fun H2 h12 e2=>wpAny_pure ?_);have hz2:IsZip H2 z TI TO .ellipsis:=(e2.2 _ D.i1z.symm).trans hz1;have hTO2:IsPair H2 TO u v:=(e2.2 _ D.TOi1).trans hTO1;refine wpAny_bind (wpAny_seqItems hTO2 rfl (wpAny_bind (wpAny_updateSeq_pair hTO2 fun H3 hTO3 e3=>wpAny_bind (wpAny_letGo (wpAny_pure ?_)))));have hz3:IsZip H3 z TI TO .ellipsis:=(e3.2 _ D.TOz.symm).trans hz2;have h23:ItAt c H3 i2 l2 k:=h2.keep fun o e=>(e3.2 _ D.TOi2.symm).trans ((e2.2 _ D.i12.symm).trans ((e1.2 _ D.i2z).trans e));have q23:SqAt c H3 l2 ys:=q2.keep fun o e=>(e3.2 _ nT2).trans ((e2.2 _ n21).trans ((e1.2 _ nz2).trans e));dsimp only;rw [List.forIn_cons];refine wpAny_bind (wpAny_bind (wpAny_onRaise ?_))
 change wpAny _ _ (Builtin.SmallTypes.nextOf (Value.ref i2) >>= fun v=>pure (some v)) _ _ _
 refine wpAny_bind (jH hh h23 q23 hy fun H4 e g4 he=>ends H4 H4 e ?_ (fun a o n1 n2 n3 n4 g=>?_) he)
 ·exact g4 _ _ D.i2z.symm hz3
 ·exact g4 _ _ n4 ((e3.2 _ n2).trans ((e2.2 _ n3).trans ((e1.2 _ n1).trans g)))
end
end PySem
namespace L2
open PySem PySem.Spec PyProof.Rows
section
variable {X:Cx} {pins:List (Addr×Obj)} {σ:List (Option V)} {H:Hp} {s:Shared} {h':Heap}
def Inv.turnedL {t':Nat} {ch:List Addr} (I:Inv X pins σ H s) (k:∀ b o,b∉ch->s.heap.get? b=some o->h'.get? b=some o) (hf:∀ b∈ch,jD X pins H b):Inv X pins σ H { s with heap:=h',toks:=t' }:=by
 have nit:∀ b u,H b=some u->b∉ch:=fun b u e z=>by rw [(hf b z).1] at e;cases e
 have hL:X.env.locals∉ch:=fun z=>(hf _ z).2.1 rfl;refine I.step (g':=s.gens) (d':=s.drawn) (ch:=ch) (fun b hb=>?_) (fun b o _ _ hc e _=>k b o hc e) (fun b o _ _ hc e _=>⟨o.slots,k b o hc e⟩) (fun _ _ _ _ n=>n)
  (fun b o hc e=>⟨o,k b o hc e⟩) (fun _ _ e=>e) (fun _ _ _ e=>e) (fun b ps e=>⟨#[],by rw [e];simp⟩) (fun m hm=>?_) (fun b u e=>?_) I.bare
 ·obtain ⟨_,f1,_,f3,f4,f5⟩:=hf b hb;exact ⟨f3,f1,f4,f5⟩
 ·obtain ⟨o,es,ep,ho,r⟩:=hm;exact ⟨o,es,ep,k _ o hL ho,r⟩
 ·refine (I.hok b u e).stay (fun c v hc q=>k c v ?_ q) (fun _ q=>q) fun _ _ q=>q;rcases hc with z | z
  ·rw [z];exact nit b u e
  ·exact nit c _ z
noncomputable def SqB (K:Frag):Bool->Hp->Addr->List V->Prop
 | true,H,a,xs=>SqT K H a xs
 | false,H,a,xs=>SqL K H a xs
def bS7 {a c:Addr} {u:HO} (h:Rd H a u) (f:H c=none):a≠c:=fun e=>by
 subst e;rcases h with h | ⟨o,h⟩<;>· rw [f] at h;cases h
def cW1 {a c:Addr} {o:Obj} (I:Inv X pins σ H s) (h:X.K.lookup a=some o) (f:jD X pins H c):a≠c:=fun e=>by
 subst e;have b:=I.ok.mod.kin a o h;rcases f.2.2.2.1 with z | z
 ·exact I.ok.noex _ _ b z
 ·exact absurd (Nat.lt_of_lt_of_le (Heap.lt_size (I.ok.bs _ _ b).1) z) (Nat.lt_irrefl _)
def Inv.sq_ne {b:Bool} {a c:Addr} {xs:List V} (I:Inv X pins σ H s) (h:SqB X.K b H a xs) (f:jD X pins H c):a≠c:=by
 cases b
 ·rcases h with h | ⟨o,its,n,hk,_⟩
  ·exact bS7 h f.1
  ·exact cW1 I hk f
 ·rcases h with h | ⟨o,its,n,hk,_⟩
  ·exact bS7 h f.1
  ·exact cW1 I hk f
def Inv.sqB {b:Bool} {a:Addr} {xs:List V} (I:Inv X pins σ H s) (h:SqB X.K b H a xs):∃ its:List Value,Vals xs its/\SqAt b s.heap a its.toArray/\xs.length<=sizeLine:=by
 cases b
 ·obtain ⟨its,rv,p,hz⟩:=I.list h;exact ⟨its,rv,p.isList,hz⟩
 ·obtain ⟨its,rv,p,hz⟩:=I.tuple h;exact ⟨its,rv,p,hz⟩
def Inv.sqB_inj {b:Bool} {a:Addr} {xs ys:List V} (I:Inv X pins σ H s) (h:SqB X.K b H a xs) (h':SqB X.K b H a ys):xs=ys:=by
 cases b
 ·exact I.list_inj h h'
 ·exact I.tuple_inj h h'
def Itz (K:Frag) (b c:Bool) (l1 l2:Addr):It :=
 ⟨fun i H=>∃ xs ys x y,SqB K b H l1 xs/\SqB K c H l2 ys/\xs[i]?=some x/\ys[i]?=some y,
  fun i H v H'=>∃ p x y,v=.ref p/\H p=none/\H'=upd H p (.tup [x,y])/\(∀ xs,SqB K b H l1 xs->xs[i]?=some x)/\(∀ ys,SqB K c H l2 ys->ys[i]?=some y),
  fun i H=>∃ xs ys,SqB K b H l1 xs/\SqB K c H l2 ys/\(xs.length<=i\/ys.length<=i)⟩
end
def ZSt (b c:Bool) (z TI TO i1 i2 l1 l2:Addr) (i:Nat) (h:Heap):Prop :=
 IsZip h z TI TO .none/\IsPair h TI (.ref i1) (.ref i2)/\(∃ u v,IsPair h TO u v)/\ItAt b h i1 l1 i/\ItAt c h i2 l2 i
def aQ8 {P:Program} {w:World} {K:Frag} {elts:List Expr} {n:Nat} {pos:Pos} (b c:Bool) (z TI TO i1 i2 l1 l2:Addr) (D:ZApart z TI TO i1 i2) :
  Turn P w K (.Tuple elts n pos) (Itz K b c l1 l2) [z,TI,TO,i1,i2] z (ZSt b c z TI TO i1 i2 l1 l2) where
 mem:=by simp
 obj:=fun i h st a ha=>by
  obtain ⟨s1,s2,⟨u,v,s3⟩,s4,s5⟩:=st;have it:∀ {b:Bool} {i1 l1:Addr},ItAt b h i1 l1 i->∃ o,h.get? i1=some o/\∀ v,o.data≠.cell v:=fun {b i1 l1} q=>by
   cases b<;>· obtain ⟨o,e,_,d⟩:=q;exact ⟨o,e,fun v z=>by rw [d] at z;cases z⟩
  simp only [List.mem_cons,List.not_mem_nil,or_false] at ha;rcases ha with rfl | rfl | rfl | rfl | rfl
  ·exact ⟨_,s1,fun v z=>by cases z⟩
  ·exact ⟨_,s2,fun v z=>by cases z⟩
  ·exact ⟨_,s3,fun v z=>by cases z⟩
  ·exact it s4
  ·exact it s5
 keep:=fun i h h' st k=>by
  obtain ⟨s1,s2,⟨u,v,s3⟩,s4,s5⟩:=st;exact ⟨k z (by simp) _ s1,k TI (by simp) _ s2,⟨u,v,k TO (by simp) _ s3⟩,s4.keep fun o e=>k i1 (by simp) o e,s5.keep fun o e=>k i2 (by simp) o e⟩
 item:=by
  intro X hP hw hK hc i pins s σ H E I hf st hg;subst hP hw hK;obtain ⟨xs,ys,x,y,hq1,hq2,hx,hy⟩:=hg;obtain ⟨s1,s2,⟨u,v,s3⟩,s4,s5⟩:=st;obtain ⟨its1,rv1,p1,hz1⟩:=I.sqB hq1;obtain ⟨its2,rv2,p2,hz2⟩:=I.sqB hq2;obtain ⟨u1,hu1,ru1⟩:=rv1.get hx;obtain ⟨u2,hu2,ru2⟩:=rv2.get hy;have hT:s.TypeIs (.ref z) "zip":=⟨_,s1,rfl⟩;have fz:=hf z (by simp);have fTO:=hf TO (by simp);have fi1:=hf i1 (by simp);refine wpAny_bind (wpAny_attempt (wpAny_callSpecial?_slot hT F.slot_zip_next (wpAny_call_entry F.slot_zip_next hT F.entry_zip_next
   (aF5 D s1 s2 s3 s4 s5 p1 p2 (I.sq_ne hq1 fz) (I.sq_ne hq2 fz) (I.sq_ne hq2 fTO) (I.sq_ne hq2 fi1) (x:=u1) (y:=u2) (by simpa using hu1) (by simpa using hu2)
    fun h' a1 a2 a3 a4 a5 a6 a7=>wpAny_pure ?_) (F.args_zip_next_1 _))))
  refine ⟨_,rfl,wpAny_letOwnedTupleGo_zip (s:={ s with heap:=h' }) a1 fun h'' b1 b2=>?_⟩;have nz:∀ {a o},s.heap.get? a=some o->a≠s.heap.objs.size:=fun e z=>by
   have:=Heap.lt_size e;rw [z] at this;exact Nat.lt_irrefl _ this
  have I1:Inv X pins σ (upd H s.heap.objs.size (.tup [x,y])) { s with heap:=s.heap.push { cls:=.type "tuple",data:=.seq #[u1,u2] } } :=
   I.laid (t':=s.toks) (fun b o e=>Heap.get?_push_of_some _ e) (Nat.le_refl _) (show ObjOk X.prog X.w _ _ _ (.tup [x,y]) from ⟨by simp [sizeLine_eq],[u1,u2],.cons ru1 (.cons ru2 .nil),IsTupD.new _ _⟩)
  have obj:∀ a∈[z,TI,TO,i1,i2],∃ o,s.heap.get? a=some o:=fun a ha=>by
   have it:∀ {b:Bool} {i1 l1:Addr},ItAt b s.heap i1 l1 i->∃ o,s.heap.get? i1=some o:=fun {b i1 l1} q=>by
    cases b<;>· obtain ⟨o,e,_,d⟩:=q;exact ⟨o,e⟩
   simp only [List.mem_cons,List.not_mem_nil,or_false] at ha;rcases ha with rfl | rfl | rfl | rfl | rfl
   ·exact ⟨_,s1⟩
   ·exact ⟨_,s2⟩
   ·exact ⟨_,s3⟩
   ·exact it s4
   ·exact it s5
  have un:∀ a∈[z,TI,TO,i1,i2],upd H s.heap.objs.size (.tup [x,y]) a=none:=fun a ha=>by
   obtain ⟨o,e⟩:=obj a ha;rw [aN (nz e)];exact (hf a ha).1
  have hf1:∀ a∈[z,TI,TO,i1,i2],jD X pins (upd H s.heap.objs.size (.tup [x,y])) a:=fun a ha=>⟨un a ha,(hf a ha).2⟩;have zs:s.heap.objs.size≠z:=fun e=>nz s1 e.symm;have I2:Inv X pins σ (upd H s.heap.objs.size (.tup [x,y])) { s with heap:=h'' }:=Inv.turnedL (s:={ s with heap:=s.heap.push { cls:=.type "tuple",data:=.seq #[u1,u2] } }) I1 (t':=s.toks) (ch:=[z,TI,TO,i1,i2]) (fun a o ha e=>by
   simp only [List.mem_cons,List.not_mem_nil,or_false,not_or] at ha;obtain ⟨n1,n2,n3,n4,n5⟩:=ha;refine (b2.2 a n1).trans ?_
   by_cases hs:a=s.heap.objs.size
   ·subst hs;have e':(s.heap.push { cls:=.type "tuple",data:=.seq #[u1,u2] }).get? s.heap.objs.size=some o:=e;rw [Heap.get?_push_size _ rfl] at e';cases e';exact a5
   ·have e':(s.heap.push { cls:=.type "tuple",data:=.seq #[u1,u2] }).get? a=some o:=e;rw [Heap.get?_push_ne _ _ _ hs] at e';exact a7 a o n1 n3 n4 n5 e') hf1
  refine ⟨.ref s.heap.objs.size,_,I2,rfl,⟨_,x,y,rfl,I.hok.fresh (Nat.le_refl _),rfl,fun zs hz=>?_,fun zs hz=>?_⟩,⟨b1,?_,⟨u1,u2,?_⟩,?_,?_⟩,un⟩
  ·rw [I.sqB_inj hz hq1];exact hx
  ·rw [I.sqB_inj hz hq2];exact hy
  ·exact (b2.2 _ D.TIz).trans (a7 _ _ D.TIz D.TITO D.TIi1 D.TIi2 s2)
  ·exact (b2.2 _ D.TOz).trans a2
  ·exact a3.keep fun o e=>(b2.2 _ D.i1z).trans e
  ·exact a4.keep fun o e=>(b2.2 _ D.i2z).trans e
 done:=by
  intro X hP hw hK hc i pins s σ H E I hf st hg;subst hP hw hK;obtain ⟨xs,ys,hq1,hq2,hl⟩:=hg;obtain ⟨s1,s2,⟨u,v,s3⟩,s4,s5⟩:=st;obtain ⟨its1,rv1,p1,hz1⟩:=I.sqB hq1;obtain ⟨its2,rv2,p2,hz2⟩:=I.sqB hq2;have l1:=rv1.length;have l2:=rv2.length;have hT:s.TypeIs (.ref z) "zip":=⟨_,s1,rfl⟩;have fz:=hf z (by simp);have fTO:=hf TO (by simp);have fi1:=hf i1 (by simp);refine wpAny_bind (wpAny_attempt (wpAny_callSpecial?_slot hT F.slot_zip_next (wpAny_call_entry F.slot_zip_next hT F.entry_zip_next
   (aQ7 (I.ok.hd hc) D s1 s2 s3 s4 s5 p1 p2 (I.sq_ne hq1 fz) (I.sq_ne hq2 fz) (I.sq_ne hq2 fTO) (I.sq_ne hq2 fi1) (by simp;omega)
    fun h' e kk ⟨o,ho,hc⟩=>wpAny_bind (wpAny_isInstance ⟨o,ho,hc⟩ isSubtype_stop (wpAny_pure ⟨rfl,?_⟩))) (F.args_zip_next_1 _))))
  exact I.turnedL (t':=s.toks) (ch:=[z,TI,TO,i1,i2]) (fun a o ha e=>by
   simp only [List.mem_cons,List.not_mem_nil,or_false,not_or] at ha;exact kk a o ha.1 ha.2.2.1 ha.2.2.2.1 ha.2.2.2.2 e) hf
 self:=fun _ _ _ _ _ st h=>wpAny_pyIter_zip st.1 h
section
variable {X:Cx} {elts:List Expr} {n:Nat} {tpos:Pos}
def dO1 (K:Frag) (ta:TA):TI:=fun σ H R=>ta σ H fun vs H1=>∃ p q b c xs ys,vs=[.ref p,.ref q]/\SqB K b H1 p xs/\SqB K c H1 q ys/\(xs.length<=sizeLine->R (Itz K b c p q) H1)
def cF8 {a b:Expr} {ta:TA} {p pos:Pos} (hg:Gl X "zip") (hm:X.mg "zip"=none) (ha:PA X [a,b] ta) (hs:autoParam (starEach [a,b] X.env=[(false,eval a X.env),(false,eval b X.env)]) ZR) (hs2:autoParam (starEach [b] X.env=[(false,eval b X.env)]) ZR) :
  PI X (.Tuple elts n tpos) (.Call (.Name "zip" p) [a,b] [] pos) (dO1 X.K ta):=by
 intro pins s σ H R I h;refine Call_ (eZ I hg hm rfl (PyProof.Rows.callWith_type1 (thn (ha pos pins s σ H _ I h) fun us s1 ⟨vs,H1,I1,r1,q1⟩=>?_) (by rw [hs,hs2]) (by rw [hs2];rfl)));obtain ⟨l1,l2,b,c,xs,ys,e,hq1,hq2,q⟩:=q1;subst e;cases r1 with
 | cons r rr =>
  cases rr with
  | cons r' rr =>
   cases rr;cases r;cases r';obtain ⟨its1,rv1,p1,hz1⟩:=I1.sqB hq1;obtain ⟨its2,rv2,p2,hz2⟩:=I1.sqB hq2;refine aQ5 p1 p2 fun h' a1 a2 a3 a4 a5 a6 a7=>?_;have hN:∀ k,s1.heap.objs.size<=s1.heap.objs.size+k:=fun k=>Nat.le_add_right _ _;have D:ZApart (s1.heap.objs.size+4) (s1.heap.objs.size+2) (s1.heap.objs.size+3) s1.heap.objs.size (s1.heap.objs.size+1):=by
    constructor<;>(intro e;exact absurd e (by simp [Addr]<;>omega))
   have I2:Inv X pins σ H1 { s1 with heap:=h' }:=I1.kept (t':=s1.toks) a7;refine wpAny_pyIter_zip a1 ⟨_,_,_,_,H1,rfl,I2,aQ8 b c _ _ _ _ _ l1 l2 D,⟨a1,a2,⟨_,_,a3⟩,a4,a5⟩,fun x hx=>?_,q hz1⟩;have hx':s1.heap.objs.size<=x:=by
    simp only [List.mem_cons,List.not_mem_nil,or_false] at hx;rcases hx with rfl | rfl | rfl | rfl | rfl<;>simp
   obtain ⟨f0,f1,f2,f3,f4,f5⟩:=I1.fpOk (H':=H1) hx' (I1.hok.fresh hx');exact ⟨f0,f1,f2,f3,f4,f5⟩
end
end L2
namespace DL
open PySem PySem.Spec PyProof.Rows L2
section
variable {X:Cx} {elts:List Expr} {n:Nat} {tpos:Pos}
noncomputable def iC:W->Option (List PyData)
 | .d (.list xs)=>some xs
 | .d (.tuple xs)=>some xs
 | _=>none
noncomputable def nU (xs ys:List PyData):List PyData:=List.zipWith (fun x y=>.tuple [x,y]) xs ys
def dO2 (t:DTA):DTI:=fun δ h Q=>t δ h fun ws h1=>∃ u w xs ys,ws=[u,w]/\iC u=some xs/\iC w=some ys/\Q (nU xs ys) none h1
noncomputable def bJ3:W->Bool
 | .d (.tuple _)=>true
 | _=>false
def iR {K:Frag} {A μ:List Addr} {H:Hp} {u:W} {v:V} {xs:List PyData} (e:iC u=some xs) (r:RepW K A μ H u v):∃ p vs,v=.ref p/\SqB K (bJ3 u) H p vs/\Reps K A H xs vs:=by
 unfold iC at e;split at e
 ·cases e;have z:Rep K A H (.list xs) v:=r;rw [Rep] at z;obtain ⟨p,vs,rfl,la,rr⟩:=z;exact ⟨p,vs,rfl,la.sq,rr⟩
 ·cases e;obtain ⟨p,vs,rfl,ta,rr⟩:=bB (h:=[]) r rfl;exact ⟨p,vs,rfl,ta.sq,rr⟩
 ·cases e
def cF9 {K:Frag} {A μ:List Addr} {H:Hp} {h:aA} {u w:W} {p q:Addr} {xs ys:List PyData} (R:HeapRep K A μ h H) (e1:iC u=some xs) (e2:iC w=some ys) (r1:RepW K A μ H u (.ref p)) (r2:RepW K A μ H w (.ref q)) :
  bG0 K A μ H (Itz K (bJ3 u) (bJ3 w) p q) (nU xs ys) none:=fun A' μ' H' h' y R' _=>by
 obtain ⟨p',vs,ep,sq1,rr1⟩:=iR e1 (r1.ext y R.sub);obtain ⟨q',ws,eq,sq2,rr2⟩:=iR e2 (r2.ext y R.sub);cases ep;cases eq;have l1:=rr1.length;have l2:=rr2.length;refine ⟨fun i z ez=>?_,fun i hi=>⟨vs,ws,sq1,sq2,?_⟩⟩
 ·unfold nU at ez;rw [List.getElem?_zipWith] at ez;have:∃ x y,xs[i]?=some x/\ys[i]?=some y/\z=.tuple [x,y]:=by
   cases h1:xs[i]?<;>cases h2:ys[i]?<;>rw [h1,h2] at ez<;>cases ez;exact ⟨_,_,rfl,rfl,rfl⟩
  obtain ⟨x,y,ex,ey,rfl⟩:=this;obtain ⟨vx,hvx,rx⟩:=rr1.get ex;obtain ⟨vy,hvy,ry⟩:=rr2.get ey;refine ⟨⟨vs,ws,vx,vy,sq1,sq2,hvx,hvy⟩,fun v H2 hy=>?_⟩;obtain ⟨a,x',y',rfl,ha,rfl,g1,g2⟩:=hy;have c1:=g1 vs sq1;have c2:=g2 ws sq2;rw [hvx] at c1;rw [hvy] at c2;cases c1;cases c2;refine ⟨aW ha,R'.fresh ha,dJ R' ha ?_⟩;rw [Reps];exact ⟨_,_,rfl,rx,.one ry⟩
 ·unfold nU at hi;rw [List.length_zipWith] at hi;omega
def cG0 {a b:Expr} {t:DTA} {p pos:Pos} (hm:X.mg "zip"=none) (ha:DA X [a,b] t) (hg:Gl X "zip") (hs:starEach [a,b] X.env=[(false,eval a X.env),(false,eval b X.env)]) (hs2:starEach [b] X.env=[(false,eval b X.env)]) :
  DI X (.Tuple elts n tpos) (.Call (.Name "zip" p) [a,b] [] pos) (dO2 t) :=
 iP (cF8 hg hm ha hs hs2) fun σ H R q=>by
  obtain ⟨δ,h,A,μ,k,Rr,q,c⟩:=q;refine ⟨δ,h,A,μ,_,Rr,q,fun ws h1 vs H1 A1 μ1 q1 x1 R1 r1=>?_⟩;obtain ⟨u,w,xs,ys,rfl,e1,e2,q1⟩:=q1;obtain ⟨v,r,rfl,rv,r2⟩:=r1;obtain ⟨v',rfl,rv'⟩:=cU r2;obtain ⟨p,vs,rfl,sq1,rr1⟩:=iR e1 rv;obtain ⟨q,ws,rfl,sq2,rr2⟩:=iR e2 rv';refine ⟨p,q,_,_,vs,ws,rfl,sq1,sq2,fun hz=>c _ _ h1 _ H1 A1 μ1 q1 x1 R1 ?_ trivial (cF9 R1 e1 e2 rv rv')⟩;unfold nU;rw [List.length_zipWith];have l1:=rr1.length;omega
end
end DL
namespace ST
open PySem PySem.Spec PyProof.Rows
def Ris (xs:Array Nat):Prop:=xs.toList.Pairwise (· < ·)
def Ris.lt {xs:Array Nat} (h:Ris xs) {i k:Nat} {a b:Nat} (hik:i < k) (ha:xs[i]?=some a) (hb:xs[k]?=some b):a < b:=by
 unfold Ris at h;rw [List.pairwise_iff_getElem] at h;rw [Array.getElem?_eq_some_iff] at ha hb;obtain ⟨h1,rfl⟩:=ha;obtain ⟨h2,rfl⟩:=hb;exact h i k (by simpa using h1) (by simpa using h2) hik
theorem sD {xs:Array Nat} {j:Nat} (hx:Ris xs):∀ (fuel lo hi:Nat),hi - lo<=fuel->lo<=hi->hi<=xs.size->(∀ i a,i < lo->xs[i]?=some a->a < j)->(∀ i a,hi<=i->xs[i]?=some a->j<=a) ->
  (∀ i a,i < SetTable.below.go xs j fuel lo hi->xs[i]?=some a->a < j)/\(∀ i a,SetTable.below.go xs j fuel lo hi<=i->xs[i]?=some a->j<=a)/\SetTable.below.go xs j fuel lo hi<=xs.size
 | 0,lo,hi,h1,h2,h3,h4,h5=>by
  have:lo=hi:=by omega
  subst this;exact ⟨h4,h5,h3⟩
 | fuel+1,lo,hi,h1,h2,h3,h4,h5=>by
  unfold SetTable.below.go;split
  ·rename_i hlt;have hm:(lo+hi) / 2 < xs.size:=by omega
   have em:xs[(lo+hi) / 2]?=some xs[(lo+hi) / 2]:=Array.getElem?_eq_getElem hm;have eg:xs.getD ((lo+hi) / 2) j=xs[(lo+hi) / 2]:=by simp [Array.getD,hm]
   dsimp only;rw [eg];split
   ·rename_i hj;refine sD hx fuel _ _ (by omega) (by omega) h3 (fun i a hi' ha=>?_) h5
    by_cases e:i=(lo+hi) / 2
    ·subst e;rw [em] at ha;cases ha;exact hj
    ·exact Nat.lt_trans (hx.lt (by omega) ha em) hj
   ·rename_i hj;refine sD hx fuel _ _ (by omega) (by omega) (by omega) h4 (fun i a hi' ha=>?_)
    by_cases e:i=(lo+hi) / 2
    ·subst e;rw [em] at ha;cases ha;omega
    ·have:=hx.lt (show (lo+hi) / 2 < i by omega) em ha;omega
  ·have:lo=hi:=by omega
   subst this;exact ⟨h4,h5,h3⟩
def xK {xs:Array Nat} (hx:Ris xs) (j:Nat):(∀ i a,i < SetTable.below xs j->xs[i]?=some a->a < j)/\(∀ i a,SetTable.below xs j<=i->xs[i]?=some a->j<=a)/\SetTable.below xs j<=xs.size :=
 sD hx xs.size 0 xs.size (by omega) (by omega) (Nat.le_refl _) (fun i a h=>by omega) (fun i a h e=>by
  rw [Array.getElem?_eq_none (by omega)] at e;cases e)
def xL {xs:Array Nat} (hx:Ris xs) {j:Nat} (hj:xs[SetTable.below xs j]?≠some j):Ris (SetTable.insertAt xs (SetTable.below xs j) j):=by
 obtain ⟨h1,h2,h3⟩:=xK hx j;have e:(SetTable.insertAt xs (SetTable.below xs j) j).toList=xs.toList.take (SetTable.below xs j)++j::xs.toList.drop (SetTable.below xs j):=by
  simp [SetTable.insertAt,Array.toList_extract,List.extract_eq_take_drop,List.take_of_length_le]
 unfold Ris at hx ⊢;rw [e,List.pairwise_append,List.pairwise_cons];have mt:∀ a∈xs.toList.take (SetTable.below xs j),a < j:=fun a ha=>by
  obtain ⟨i,hi,ea⟩:=List.mem_iff_getElem.mp ha;rw [List.getElem_take] at ea;rw [List.length_take] at hi;refine h1 i a (by omega) ?_;rw [<- ea];exact Array.getElem?_eq_getElem (by simp at hi;omega)
 have md:∀ b∈xs.toList.drop (SetTable.below xs j),j < b:=fun b hb=>by
  obtain ⟨i,hi,eb⟩:=List.mem_iff_getElem.mp hb;rw [List.getElem_drop] at eb;rw [List.length_drop] at hi;have hlt:SetTable.below xs j+i < xs.size:=by simp at hi;omega
  have eg:xs[SetTable.below xs j+i]?=some b:=by rw [<- eb];exact Array.getElem?_eq_getElem hlt
  have q:=h2 _ b (by omega) eg;rcases Nat.lt_or_eq_of_le q with q | q
  ·exact q
  ·subst q;cases i with
   | zero=>exact absurd eg hj
   | succ i =>
    have e0:xs[SetTable.below xs j]?=some xs[SetTable.below xs j]:=Array.getElem?_eq_getElem (by omega);have:=Ris.lt hx (show SetTable.below xs j < SetTable.below xs j+(i+1) by omega) e0 eg;have q0:=h2 _ _ (Nat.le_refl _) e0;omega
 refine ⟨hx.sublist (List.take_sublist _ _),⟨md,hx.sublist (List.drop_sublist _ _)⟩,fun a ha b hb=>?_⟩;rcases List.mem_cons.mp hb with rfl | hb
 ·exact mt a ha
 ·exact Nat.lt_trans (mt a ha) (md b hb)
def aF6 (n:Nat):Ris (Array.range n):=by
 unfold Ris;rw [Array.toList_range];exact List.pairwise_lt_range
def free (t:SetTable) (j:Nat):Prop:=t.place[SetTable.below t.place j]?≠some j
def qI {t:SetTable} {j:Nat} (h:∀ i,t.slot j≠.live i):free t j:=by
 intro e;unfold SetTable.slot at h;dsimp only at h;rw [e] at h;simp at h
theorem jI {t:SetTable} {f:Nat->Int} {h:Int}:∀ (fuel:Nat) (p:SetTable.Probe),(∀ d,p.dummy=some d->free t d)->∀ j d,SetTable.probe.go t f h fuel p=some (.empty j d)->free t j/\∀ d',d=some d'->free t d'
 | 0,p,hp,j,d,e=>by simp [SetTable.probe.go] at e
 | fuel+1,p,hp,j,d,e=>by
  unfold SetTable.probe.go at e;split at e
  ·rename_i es;cases e;exact ⟨qI (fun i z=>by rw [es] at z;cases z),hp⟩
  ·rename_i es;refine jI fuel _ (fun d' ed=>?_) j d e;have:(t.advance { p with dummy:=some p.j }).dummy=some p.j:=by
    unfold SetTable.advance;split<;>rfl
   rw [this] at ed;cases ed;exact qI fun i z=>by rw [es] at z;cases z
  ·split at e
   ·cases e
   ·refine jI fuel _ (fun d' ed=>hp d' ?_) j d e;have:(t.advance p).dummy=p.dummy:=by
     unfold SetTable.advance;split<;>rfl
    rw [<- this];exact ed
def oZ {t:SetTable} {h:Int} {j:Nat} {b:Bool} (e:t.freeSlot h=some (j,b)):free t j:=by
 unfold SetTable.freeSlot at e;split at e
 ·rename_i j' d ep;cases e;obtain ⟨f1,f2⟩:=jI _ _ (fun d ed=>by simp [SetTable.probeStart] at ed) _ _ ep;cases d with
  | none=>exact f1
  | some d=>exact f2 d rfl
 ·cases e
def bA (by_:Bool) (t:SetTable):Prop:=Ris t.place/\(by_=false->t.led=true)
def eG {by_:Bool} {t:SetTable} (h:bA by_ t) (n:Nat):bA by_ (t.standIn n):=⟨aF6 n,h.2⟩
def uU {by_:Bool} {t:SetTable} {es:Array (Int×Value)} {h:Int} {x:Value} (g:bA by_ t):bA by_ (layNew t es h x).2.1:=by
 unfold layNew;split
 ·rename_i slot wd e;dsimp only;have gp:bA by_ (t.put slot).1:=⟨xL g.1 (oZ e),g.2⟩;unfold SetTable.orStandIn;split
  ·exact gp
  ·exact eG gp _
 ·exact eG g _
def aQ9 {owner:Array (Option Nat)} (n:Nat):(((List.range n).filterMap fun j=>(owner.getD j none).map (j,·)).map (·.1)).Pairwise (· < ·):=by
 rw [List.pairwise_map];refine List.Pairwise.filterMap (R:=(· < ·)) _ (fun a a' hlt b hb b' hb'=>?_) (List.pairwise_lt_range (n:=n));obtain ⟨_,_,rfl⟩:=Option.map_eq_some_iff.mp hb;obtain ⟨_,_,rfl⟩:=Option.map_eq_some_iff.mp hb';exact hlt
def xM {by_:Bool} {t:SetTable} {es:Array (Int×Value)} {n:Nat} (g:bA by_ t):bA by_ (relayAll t es n).2.1:=by
 unfold relayAll;split
 ·rename_i t' order e;dsimp only;split
  ·unfold SetTable.relaid SetTable.laid at e;dsimp only at e;obtain ⟨owner,_,e2⟩:=Option.bind_eq_some_iff.mp e;cases e2;refine ⟨?_,g.2⟩;unfold Ris;exact aQ9 _
  ·exact eG g _
 ·exact eG g _
noncomputable def aR0:Value->Int
 | .int k _=>k
 | _=>0
section
variable {prog:Program} {w:World} {A:Around} {E:Value->Shared->Prop} {s:Shared}
abbrev txt (w:World):Bool:=w.params.followText "set-order"
structure Parts (prog:Program) (w:World) (o:Obj) (es:Array (Int×Value)) (ep:Nat) (t:SetTable) (ks:List Int):Prop where
 ex:o.ExactSet
 dat:o.data=.set es ep t
 el:ElemsOf (intKind prog w) es.toList
 ks:(es.toList.map fun e=>aR0 e.2).Perm ks
 few:es.size < scanBound
 fit:t.fits es.size=true
 good:bA (txt w) t
def SetI (prog:Program) (w:World) (h:Heap) (a:Addr) (ks:List Int):Prop:=∃ o es ep t,h.get? a=some o/\Parts prog w o es ep t ks
def SetI.keep {h h':Heap} {a:Addr} {ks:List Int} (x:SetI prog w h a ks) (e:∀ o,h.get? a=some o->h'.get? a=some o):SetI prog w h' a ks :=
 let ⟨o,es,ep,t,ho,p⟩:=x;⟨o,es,ep,t,e o ho,p⟩
def xN {k:Int} {v:Value} (h:(intKind prog w).is k v=true):∃ t,v=.int k t:=Value.isInt_shape h
def aR1 {es:List (Int×Value)} (h:ElemsOf (intKind prog w) es) {e:Int×Value} (he:e∈es):∃ t,e.2=.int (aR0 e.2) t:=by
 obtain ⟨⟨k,hk,_⟩,_⟩:=h e he;obtain ⟨t,q⟩:=xN hk;exact ⟨t,by rw [q];rfl⟩
def aF7 {es:List (Int×Value)} (h:ElemsOf (intKind prog w) es) {k:Int} (hf:es.findIdx? (fun e=>(intKind prog w).is k e.2)=none):k∉es.map fun e=>aR0 e.2:=by
 intro z;obtain ⟨e,he,q⟩:=List.mem_map.mp z;obtain ⟨t,e2⟩:=aR1 h he;have:=List.findIdx?_eq_none_iff.mp hf e he;rw [e2,q] at this;rw [intKind_is] at this;cases this
def aF8 {es:List (Int×Value)} {k:Int} {j:Nat} (hf:es.findIdx? (fun e=>(intKind prog w).is k e.2)=some j):k∈es.map fun e=>aR0 e.2:=by
 obtain ⟨hj,hp,_⟩:=List.findIdx?_eq_some_iff_getElem.mp hf;obtain ⟨t,q⟩:=xN hp;exact List.mem_map.mpr ⟨es[j],List.getElem_mem hj,by rw [q];rfl⟩
def lP {a:Addr} {o:Obj} {es es':Array (Int×Value)} {ep:Nat} {t t':SetTable} {ks':List Int} {h:Heap} (ho:h.get? a=some o) (hd:o.data=.set es ep t) (hx:o.ExactSet)
  (p:Parts prog w { o with data:=.set es' (ep+1) t' } es' (ep+1) t' ks'):(h.update a (Obj.putSet es' t')).get? a=some { o with data:=.set es' (ep+1) t' } :=
 (SetOf_store (knd:=intKind prog w) (S':=fun k=>decide (k∈es'.toList.map fun e=>aR0 e.2)) ho hx hd p.el (fun k=>by
  rw [decide_eq_true_eq,List.mem_map];constructor
  ·rintro ⟨e,he,rfl⟩;obtain ⟨q,e2⟩:=aR1 p.el he;exact ⟨e,he,by rw [e2];exact intKind_is _ _ _ _⟩
  ·rintro ⟨e,he,q⟩;obtain ⟨tk,e2⟩:=xN q;exact ⟨e,he,by rw [e2];rfl⟩) p.few p.fit).1
def zH {g:Bool->Sem Unit} (hg:∀ (b:Bool) (s₁:Shared) (Q':Unit->Shared->Prop),Q' () s₁->wpAny (model prog w) A (g b) Q' E s₁) {a:Addr} {o:Obj} {es es1:Array (Int×Value)} {ep:Nat} {t t2:SetTable} {ks':List Int}
  (ho:s.heap.get? a=some o) (hd:o.data=.set es ep t) (hx:o.ExactSet) (p:Parts prog w { o with data:=.set es1 (ep+1) t2 } es1 (ep+1) t2 ks') {wd:Bool} {R:Option Bool->Shared->Prop}
  (h:∀ h',Heap.SameBut a s.heap h'->SetI prog w h' a ks'->R (some true) { s with heap:=h' }) :
  wpAny (model prog w) A (do
   storeSet a es1 t2
   if (!wd&&t2.tooFull)=true then do
    g (relayAll t2 es1 (SetTable.grown es1.size)).2.2
    storeSet a (relayAll t2 es1 (SetTable.grown es1.size)).1 (relayAll t2 es1 (SetTable.grown es1.size)).2.1
    pure (some true)
   else pure (some true)) R E s:=by
 refine wpAny_bind (wpAny_storeSet_of ho hd ?_ (fits_of_scanBound p.few));have ho1:=lP ho hd hx p;have sb1:=Heap.SameBut.update s.heap a (Obj.putSet es1 t2);split
 ·have hp:=relayAll_perm t2 es1 (SetTable.grown es1.size);have hf:=relayAll_fits t2 es1 (SetTable.grown es1.size);have hgd:=xM (es:=es1) (n:=SetTable.grown es1.size) p.good;have hz:(relayAll t2 es1 (SetTable.grown es1.size)).1.size=es1.size:=by simpa using hp.length_eq
  have p2:Parts prog w { o with data:=.set (relayAll t2 es1 (SetTable.grown es1.size)).1 (ep+1+1) (relayAll t2 es1 (SetTable.grown es1.size)).2.1 } (relayAll t2 es1 (SetTable.grown es1.size)).1 (ep+1+1) (relayAll t2 es1 (SetTable.grown es1.size)).2.1 ks' :=
   ⟨hx,rfl,p.el.perm hp,(hp.map _).trans p.ks,by rw [hz];exact p.few,hf,hgd⟩
  refine wpAny_bind (hg _ _ _ (wpAny_bind (wpAny_storeSet_of ho1 rfl (wpAny_pure (h _ (sb1.trans (Heap.SameBut.update _ a _)) ⟨_,_,_,_,lP ho1 rfl hx p2,p2⟩)) (fits_of_scanBound p2.few))))
 ·exact wpAny_pure (h _ sb1 ⟨_,_,_,_,ho1,p⟩)
def zI {ks:List Int} {k:Int}:(ks.any (·==k))=decide (k∈ks):=by
 rw [Bool.eq_iff_iff,List.any_eq_true,decide_eq_true_eq];constructor
 ·rintro ⟨x,hx,e⟩;rw [<- eq_of_beq e];exact hx
 ·exact fun hx=>⟨k,hx,beq_self_eq_true k⟩
def cG1 {ks:List Int} {k:Int} (h:k∈ks):step_dedup ks k=ks:=by unfold step_dedup;rw [zI,if_pos (decide_eq_true h)]
def cG2 {ks:List Int} {k:Int} (h:k∉ks):step_dedup ks k=ks++[k]:=by unfold step_dedup;rw [zI,if_neg (by rw [decide_eq_true_eq];exact h)]
def add_int {a:Addr} {ks:List Int} {k:Int} {tk:Tok} {Q:Bool->Shared->Prop} (hS:SetI prog w s.heap a ks) (room:ks.length+1 < scanBound)
  (h:∀ b h',Heap.SameBut a s.heap h'->SetI prog w h' a (step_dedup ks k)->Q b { s with heap:=h' }):wpAny (model prog w) A (setAddHashed a (.int k tk) ((intKind prog w).hash k)) Q E s:=by
 obtain ⟨o,es,ep,t,ho,p⟩:=hS;have hk:(intKind prog w).is k (.int k tk)=true:=intKind_is _ _ _ _;have hsz:es.size=ks.length:=by have:=p.ks.length_eq;simpa using this
 unfold setAddHashed setAddHashedIn;refine wpAny_holding (wpAny_bind (wpAny_setState_of ho p.dat p.fit ?_));dsimp only;rw [byScan_of (x:=.int k tk) rfl p.few p.el];simp only [if_true];unfold setAddByScan;refine wpAny_bind (wpAny_bind (wpAny_rule (wpAny_bind (wpAny_setScan_of hk ho p.dat p.fit p.el ?_))));cases hr:List.findIdx? (fun e=>(intKind prog w).is k e.2) es.toList with
 | some j =>
  have hm:k∈ks:=p.ks.mem_iff.mp (aF8 hr);refine wpAny_pure (wpAny_pure ?_);have q:=h false s.heap (Heap.SameBut.refl a _) (by rw [cG1 hm];exact ⟨o,es,ep,t,ho,p⟩);cases s;exact q
 | none =>
  have hm:k∉ks:=fun z=>aF7 p.el hr (p.ks.mem_iff.mpr z);dsimp only;have gw:∀ (b:Bool) {s₁:Shared} {Q':Unit->Shared->Prop},Q' () s₁->wpAny (model prog w) A (match b with | true=>rule "set.scan.the-table-gave-way" | false=>pure ()) Q' E s₁:=fun b s₁ Q' q=>by
   cases b
   ·exact wpAny_pure q
   ·exact wpAny_rule q
  have lp:=layNew_perm t es ((intKind prog w).hash k) (.int k tk);have lf:=layNew_fits t es ((intKind prog w).hash k) (.int k tk);have lg:bA (txt w) (layNew t es ((intKind prog w).hash k) (.int k tk)).2.1:=uU p.good;generalize layNew t es ((intKind prog w).hash k) (.int k tk)=L at lp lf lg;obtain ⟨es1,t1,wd,gv⟩:=L;dsimp only at lp lf lg ⊢;rw [Array.toList_push] at lp;have z1:es1.size=ks.length+1:=by have:=lp.length_eq;simp at this;omega
  have mk:∀ t2:SetTable,t2.fits es1.size=true->bA (txt w) t2->Parts prog w { o with data:=.set es1 (ep+1) t2 } es1 (ep+1) t2 (step_dedup ks k):=fun t2 f2 g2 =>
   ⟨p.ex,rfl,(p.el.push hk rfl).perm lp,by
    rw [cG2 hm];refine (lp.map _).trans ?_;rw [List.map_append];exact p.ks.append (List.Perm.refl _),by omega,f2,g2⟩
  refine wpAny_bind (gw _ ?_);have fin:∀ h',Heap.SameBut a s.heap h'->SetI prog w h' a (step_dedup ks k)->wpAny (model prog w) A (pure true) (fun b s'=>Q b s') E { s with heap:=h' }:=fun h' b c=>wpAny_pure (h true h' b c);split
  ·refine wpAny_bind ?_;rw [hashByValue_scannable 8 (x:=.int k tk) rfl];refine wpAny_pure (zH (fun b s₁ Q' q=>?_) ho p.dat p.ex (mk _ ?_ ?_) fun h' b c=>wpAny_pure (h _ h' b c))
   ·cases b
    ·exact wpAny_pure q
    ·exact wpAny_rule q
   ·split
    ·exact lf
    ·exact SetTable.fits_plain_off lf
   ·split
    ·exact lg
    ·exact lg
  ·refine wpAny_bind (wpAny_pure ?_);simp only [if_true];refine zH (fun b s₁ Q' q=>?_) ho p.dat p.ex (mk _ lf lg) fun h' b c=>wpAny_pure (h _ h' b c);cases b
   ·exact wpAny_pure q
   ·exact wpAny_rule q
end
section
variable {prog:Program} {w:World} {A:Around} {E:Value->Shared->Prop} {s:Shared} {R:Result->Shared->Prop}
def aR2 {I:Addr} {fp wr:List Addr} {n:Nat} {P:Nat->Value->Prop} {St:Nat->Heap->Prop} (W:Walks prog w A.in1 I fp wr n P St) (S:Addr) (hS:S∉fp) (val:Nat->Int) (hval:∀ i v,P i v->∃ t,v=.int (val i) t) (hb:n+1 < scanBound) :
  ∀ (k i:Nat) (s:Shared),n - i=k->i<=n->St i s.heap->SetI prog w s.heap S (firstMet val i) ->
   (∀ h' tk,SetI prog w h' S (firstMet val n)->(∀ b o,b≠S->b∉wr->s.heap.get? b=some o->h'.get? b=some o)->R (.ok (.ret .none)) { s with heap:=h',toks:=tk }) ->
   codeAny (model prog w) A (.builtin "set.update.loop" ⟨[.ref S,.ref I],[]⟩) R s:=by
 have hw:S∉wr:=fun z=>hS (W.sub _ z);intro k;induction k with
 | zero =>
  intro i s hk hi st si hR;have e:i=n:=by omega
  subst e;refine codeAny_builtin F.entry_set_update_loop ?_;rw [Around.under_plainId F.plain_set_update_loop _];refine wpAny_bind (W.done s _ _ st fun h' tk hm=>wpAny_pure ?_);exact hR h' tk (si.keep fun o e=>hm S o hw e) fun b o _ hb e=>hm b o hb e
 | succ k ih =>
  intro i s hk hi st si hR;have hlt:i < n:=by omega
  refine codeAny_builtin F.entry_set_update_loop ?_;rw [Around.under_plainId F.plain_set_update_loop _];refine wpAny_bind (W.item i s _ _ hlt st fun v h1 tk1 hP st1 hm=>?_);obtain ⟨t,rfl⟩:=hval i v hP;have s1:SetI prog w h1 S (firstMet val i):=si.keep fun o e=>hm S o hw e;have fl:=firstMet_length_le val i;refine wpAny_bind (wpAny_holding ?_);unfold setAdd;refine wpAny_holding (wpAny_bind ((intKind prog w).pyHash (k:=val i) (intKind_is _ _ _ _) ?_));refine add_int (s:={ s with heap:=h1,toks:=tk1+1 }) s1 (by omega) fun b h2 sb s2=>?_;rw [<- firstMet_succ] at s2;refine wpAny_pure ⟨plainId_quiet F.plain_set_update_loop _,ih (i+1) _ (by omega) hlt (W.frame _ h1 _ st1 fun c hc o e=>?_) s2 fun h3 tk3 s3 k3=>hR h3 tk3 s3 fun c o n1 n2 e=>k3 c o n1 n2 ?_⟩
  ·rw [sb.2 c (fun z=>hS (by rw [<- z];exact hc))];exact e
  ·show h2.get? c=some o;rw [sb.2 c n1];exact hm c o n2 e
abbrev nV (w:World):Obj:={ cls:=.type "set",dict:=none,data:=.set #[] 0 (.fresh 0 0 (!txt w)) }
def aF9:Parts prog w (nV w) #[] 0 (.fresh 0 0 (!txt w)) [] where
 ex:=⟨rfl,rfl,rfl⟩
 dat:=rfl
 el:=fun e he=>by simp at he
 ks:=by simp
 few:=by decide
 fit:=rfl
 good:=⟨by simp [Ris,SetTable.fresh],fun e=>by rw [e];rfl⟩
def aR3 (a:Value) {Q₁:Value->Shared->Prop} (h:Q₁ (.ref s.heap.objs.size) { s with heap:=s.heap.push (nV w) }) :
  codeAny (model prog w) A (.call (.builtin "set.__new__") ⟨[.type "set",a],[]⟩) (wants Q₁ E) s:=by
 refine codeAny_of_tree ?_;show wpAny _ _ (checkBuiltinCall "set.__new__" ⟨[.type "set",a],[]⟩ >>= fun _=>again (.builtin "set.__new__" ⟨[.type "set",a],[]⟩)) _ _ s;refine wpAny_bind (wpAny_of_eq (PySem.F.newCall_set_1 a) (wpAny_pure ⟨plainId_quiet PySem.F.plain_set_new _,codeAny_builtin PySem.F.entry_set_new ?_⟩));rw [Around.under_plainId PySem.F.plain_set_new _];have sub:=sub_set_self;unfold Builtin.«set.__new__» Builtin.Frozenset.newClass;obtain ⟨hp,g,d,tk,os⟩:=s;dsimp only
 wp_walk
 refine wpAny_askSetting (wpAny_pure ?_);dsimp only;simp only [newObj];exact wpAny_bind (wpAny_alloc (wpAny_pure (wpAny_pure h)))
def xO (ns:List Int):(List.range ns.length).map (fun i=>ns.getD i 0)=ns:=by
 apply List.ext_getElem
 ·simp
 ·intro i h1 h2;simp [h2]
noncomputable def dd (ns:List Int):List Int:=ns.foldl step_dedup []
def aR4 (ns:List Int):firstMet (fun i=>ns.getD i 0) ns.length=dd ns:=by
 unfold firstMet dd;rw [xO]
end
section
variable {prog:Program} {w:World} {A:Around} {E:Value->Shared->Prop} {s:Shared} {o:Obj} {es:Array (Int×Value)} {ep:Nat} {t:SetTable} {ks:List Int} {a:Addr}
end
section
variable {prog:Program} {w:World} {A:Around} {E:Value->Shared->Prop} {s:Shared} {o:Obj} {es:Array (Int×Value)} {ep:Nat} {t:SetTable} {ks:List Int} {a:Addr}
end
section
variable {prog:Program} {w:World} {A:Around} {E:Value->Shared->Prop} {s:Shared} {o:Obj} {es:Array (Int×Value)} {ep:Nat} {t:SetTable} {ks:List Int} {a:Addr}
end
end ST
namespace L2
open PySem PySem.Spec PyProof.Rows ST
section
variable {X:Cx}
def zJ {e:Expr} {pos:Pos} {P:List Value->Shared->Prop} {E:Value->Shared->Prop} {s:Shared} (hs:starEach [e] X.env=[(false,eval e X.env)]) (h:wpAny (model X.prog X.w) X.A (eval e X.env) (fun v s1=>P [v] s1) E s) :
  wpAny (model X.prog X.w) X.A (spliced (backTo pos (starEach [e] X.env))) P E s:=by
 rw [hs];show wpAny _ _ (spliced ((false,eval e X.env)::backTo pos [])) _ _ s;exact Calls.spliced_cons (thn h fun u s1 q=>wpAny_pure q)
def bJ4 {ns:List Int}:∀ {its:List Value},Vals (ns.map V.int) its->IntsAre its ns:=by
 induction ns with
 | nil=>intro its h;cases h;exact .nil
 | cons k r ih =>
  intro its h;cases h with
  | cons q t =>
   obtain ⟨tk,rfl⟩:=q;exact .cons _ _ (ih t)
def cG3 (ns:List Int):(dd ns).length<=ns.length:=by
 rw [<- aR4];exact firstMet_length_le _ _
end
end L2
namespace ST
open PySem PySem.Spec PyProof.Rows
section
variable {prog:Program} {w:World} {A:Around} {E:Value->Shared->Prop} {s:Shared}
end
section
variable {prog:Program} {w:World} {A:Around} {E:Value->Shared->Prop} {s:Shared}
end
end ST
namespace L2
open PySem PySem.Spec PyProof.Rows ST
section
variable {X:Cx}
end
end L2
namespace PySem
open PySem.Spec PyProof.Rows
section
variable {prog:Program} {w:World} {A:Around} {E:Value->Shared->Prop} {s:Shared}
end
section
variable {prog:Program} {w:World} {A:Around} {E:Value->Shared->Prop} {s:Shared} {R:Result->Shared->Prop} {b c:Bool} {z TI TO i1 i2 l1 l2 S lo:Addr} {xs ys:Array Value} {as bs:List Addr} {cnt:Nat}
end
section
variable {prog:Program} {w:World} {A:Around} {E:Value->Shared->Prop} {s:Shared} {R:Result->Shared->Prop} {b c:Bool} {z TI TO i1 i2 l1 l2 S lo:Addr} {xs ys:Array Value}
end
end PySem
namespace L2
open PySem PySem.Spec PyProof.Rows ST
section
variable {X:Cx} {pins:List (Addr×Obj)} {σ:St} {H:Hp} {s:Shared} {h':Heap} {news:List (Addr×HO)}
end
end L2
namespace DL
open PySem PySem.Spec PyProof.Rows L2 ST
noncomputable def iE:List PyData->Option (List Int)
 | []=>some []
 | .int i::r=>(iE r).map (i::·)
 | _=>none
section
variable {K:Frag} {A μ:List Addr} {H H':Hp} {h:aA}
theorem qJ:∀ {xs:List PyData} {ns:List Int} {vs:List V},iE xs=some ns->Reps K A H xs vs->vs=ns.map V.int
 | [],ns,vs,e,r=>by cases e;rw [Reps] at r;exact r
 | x::xs,ns,vs,e,r=>by
  unfold iE at e;split at e
  ·rename_i q;cases q
  ·rename_i i r0 q;cases q;obtain ⟨ms,e2,rfl⟩:=Option.map_eq_some_iff.mp e;rw [Reps] at r;obtain ⟨v,r',rfl,r1,r2⟩:=r;rw [Rep] at r1;subst r1;rw [qJ e2 r2];rfl
  ·cases e
theorem qK:∀ ns:List Int,Reps K A H (ns.map .int) (ns.map V.int)
 | []=>.nil
 | n::r=>.cons (by rw [Rep]) (qK r)
end
section
variable {X:Cx}
def aR5 {K:Frag} {A:List Addr} {H:Hp} (i:Int) (n:Nat):Reps K A H (rng i n) ((List.range n).map fun (k:Nat)=>V.int (i+k)):=by
 have e:rng i n=((List.range n).map fun (k:Nat)=>i+k).map PyData.int:=by
  unfold rng;rw [List.map_map];rfl
 rw [e,show ((List.range n).map fun (k:Nat)=>V.int (i+k))=((List.range n).map fun (k:Nat)=>i+k).map V.int by rw [List.map_map];rfl];exact qK _
end
end DL
namespace PySem
open PySem.Spec PyProof.Rows
def SqAt.ob {b:Bool} {h:Heap} {l:Addr} {xs:Array Value} (x:SqAt b h l xs):∃ o,h.get? l=some o:=by cases b<;>exact ⟨_,x.choose_spec.1⟩
def ItAt.ob {b:Bool} {h:Heap} {it l:Addr} {i:Nat} (x:ItAt b h it l i):∃ o,h.get? it=some o:=by cases b<;>exact ⟨_,x.choose_spec.1⟩
def aR6 (b:Bool) (l:Addr) (xs:Array Value):Meets (Builtin.«enumerate.__new__» ⟨[.type "enumerate",.ref l],[]⟩) fun _ R s=>SqAt b s.heap l xs /\
  R (.ok (.ret (.ref (s.heap.push (kQ b l)).objs.size))) { s with heap:=(s.heap.push (kQ b l)).push { cls:=.type "enumerate",data:=.fields #[.none,.bool false,.ref s.heap.objs.size,rawInt 0,.none,.none] } }:=by
 refine Meets.of_wp fun prog w A R s h=>?_;obtain ⟨h1,h⟩:=h;obtain ⟨o,ho⟩:=h1.ob;obtain ⟨hp,g,d,tk,os⟩:=s;have hsub:=sub_enumerate
 wp_walk using AutoSeq1.wpAny_loadPart' ho
 refine wpAny_stack_any fun st=>wpAny_pure ?_;split
 ·rename_i c _ _ _ _ _;cases (c==Value.type "enumerate")
  ·wp_walk using AutoSeq1.wpAny_loadPart' ho,fS h1
   exact ⟨_,rfl,h⟩
  ·wp_walk using AutoSeq1.wpAny_loadPart' ho,fS h1
   exact ⟨_,rfl,h⟩
 ·wp_walk using AutoSeq1.wpAny_loadPart' ho,fS h1
  exact ⟨_,rfl,h⟩
section
variable {prog:Program} {w:World} {A:Around} {E:Value->Shared->Prop} {s:Shared}
def bJ5 {b:Bool} {e it l:Addr} {i:Nat} {items:Array Value} {x old:Value} {Q:Option Value->Shared->Prop}
  (he:IsEnum s.heap e it i old) (hit:ItAt b s.heap it l i) (hl:SqAt b s.heap l items) (hx:items[i]?=some x) (hne:e≠it)
  (hQ:∀ h',IsEnumOut h' e it ((i:Int)+1) x s.heap.objs.size->ItAt b h' it l (i+1)->h'.get? s.heap.objs.size=some { cls:=.type "tuple",data:=.seq #[.int i s.toks,x] }->h'.objs.size=s.heap.objs.size+1 ->
   (∀ c o,c≠e->c≠it->s.heap.get? c=some o->h'.get? c=some o)->Q (some (.ref s.heap.objs.size)) { s with heap:=h',toks:=s.toks+1 }):wpAny (model prog w) A (pyNext (.ref e)) Q E s:=by
 have hT:s.TypeIs (.ref e) "enumerate":=⟨_,he,rfl⟩;have ne':∀ {h1 h2:Heap},Heap.SameBut e h1 h2->∀ o,h1.get? it=some o->h2.get? it=some o:=fun sb o q=>(sb.2 _ hne.symm).trans q;unfold pyNext;refine wpAny_bind (wpAny_attempt (wpAny_callSpecial?_slot (name:=Str.ofString "__next__") hT F.slot_enumerate_next (wpAny_call_entry F.slot_enumerate_next hT F.entry_enumerate_next ?_ (F.args_enumerate_next_1 _))));unfold Builtin.«enumerate.__next__»;refine wpAny_bind (wpAny_pure (a:=(Value.ref e,[])) (wpAny_bind (wpAny_field he rfl (x:=.ref it) rfl (wpAny_bind (fK hit hl hx fun H1 it1 e1=>?_)))));have he1:IsEnum H1 e it i old:=(e1.2 _ hne).trans he;refine wpAny_bind (wpAny_field he1 rfl (x:=rawInt i) rfl ?_);dsimp only [rawInt];refine wpAny_bind (wpAny_field he1 rfl (x:=.none) rfl ?_);rw [if_pos (by rfl)];refine wpAny_bind (wpAny_mkInt ?_);refine wpAny_bind (wpAny_setField_rec he1 (by simp) fun H2 he2 s2=>wpAny_bind (wpAny_setField_rec (s:={ s with heap:=H2,toks:=s.toks+1 }) he2 (by simp) fun H3 he3 s3=>?_));have he3':IsEnum H3 e it ((i:Int)+1) old:=he3;have z3:H3.objs.size=s.heap.objs.size:=by
  have q2:H2.objs.size=H1.objs.size:=s2.1;have q3:H3.objs.size=H2.objs.size:=s3.1;rw [q3,q2];exact e1.1
 refine wpAny_bind (wpAny_newTuple (items:=[.int i s.toks,x]) ?_);have he4:IsEnum (H3.push { cls:=.type "tuple",data:=.seq #[.int i s.toks,x] }) e it ((i:Int)+1) old:=Heap.get?_push_of_some _ he3';have g4:(H3.push { cls:=.type "tuple",data:=.seq #[.int i s.toks,x] }).get? s.heap.objs.size=some { cls:=.type "tuple",data:=.seq #[.int i s.toks,x] }:=by rw [<- z3];exact Heap.get?_push_size _ rfl
 have z4:(H3.push { cls:=.type "tuple",data:=.seq #[.int i s.toks,x] }).objs.size=s.heap.objs.size+1:=by rw [Heap.size_push,z3]
 have k4:∀ c o,c≠e->c≠it->s.heap.get? c=some o->(H3.push { cls:=.type "tuple",data:=.seq #[.int i s.toks,x] }).get? c=some o:=fun c o n1 n2 q=>Heap.get?_push_of_some _ ((s3.2 _ n1).trans ((s2.2 _ n1).trans ((e1.2 _ n2).trans q)));have it4:ItAt b (H3.push { cls:=.type "tuple",data:=.seq #[.int i s.toks,x] }) it l (i+1):=it1.keep fun o q=>Heap.get?_push_of_some _ (ne' s3 o (ne' s2 o q));refine wpAny_bind ?_;unfold Builtin.SmallTypes.ownedTupleIsFree;refine wpAny_bind (wpAny_field he4 rfl (x:=.none) rfl (wpAny_pure ?_));rw [if_pos rfl];have el:s.heap.objs.size≠e:=Nat.ne_of_gt (Heap.lt_size he);refine wpAny_bind (wpAny_rule (wpAny_bind (wpAny_field he4 rfl (x:=old) rfl (wpAny_bind (wpAny_setField_rec (s:={ s with heap:=H3.push { cls:=.type "tuple",data:=.seq #[.int i s.toks,x] },toks:=s.toks+1 }) he4 (by simp) fun H5 he5 s5=>wpAny_bind ?_)))));unfold Builtin.SmallTypes.ownedTupleHandOut;rw [z3];refine wpAny_bind (wpAny_setField_rec (s:={ s with heap:=H5,toks:=s.toks+1 }) he5 (by simp) fun H6 he6 s6=>wpAny_setField_rec (s:={ s with heap:=H6,toks:=s.toks+1 }) he6 (by simp) fun H7 he7 s7=>wpAny_bind (wpAny_letGo (wpAny_pure ⟨_,rfl,wpAny_pure (hQ H7 he7 ?_ ?_ ?_ fun c o n1 n2 q=>?_)⟩)))
 ·exact it4.keep fun o q=>ne' s7 o (ne' s6 o (ne' s5 o q))
 ·exact (s7.2 _ el).trans ((s6.2 _ el).trans ((s5.2 _ el).trans g4))
 ·have q5:H5.objs.size=_:=s5.1;have q6:H6.objs.size=H5.objs.size:=s6.1;have q7:H7.objs.size=H6.objs.size:=s7.1;rw [q7,q6,q5];exact z4
 ·exact (s7.2 _ n1).trans ((s6.2 _ n1).trans ((s5.2 _ n1).trans (k4 c o n1 n2 q)))
def cG4 {b:Bool} {e it l:Addr} {i:Nat} {items:Array Value} {old:Value} {Q:Option Value->Shared->Prop} (hh:A.handled=none) (he:IsEnum s.heap e it i old) (hit:ItAt b s.heap it l i) (hl:SqAt b s.heap l items) (hx:items[i]?=none)
  (hQ:∀ h',(∀ c o,c≠it->s.heap.get? c=some o->h'.get? c=some o)->Q none { s with heap:=h' }):wpAny (model prog w) A (pyNext (.ref e)) Q E s:=by
 have hT:s.TypeIs (.ref e) "enumerate":=⟨_,he,rfl⟩;unfold pyNext;refine wpAny_bind (wpAny_attempt (wpAny_callSpecial?_slot (name:=Str.ofString "__next__") hT F.slot_enumerate_next (wpAny_call_entry F.slot_enumerate_next hT F.entry_enumerate_next ?_ (F.args_enumerate_next_1 _))));unfold Builtin.«enumerate.__next__»;refine wpAny_bind (wpAny_pure (a:=(Value.ref e,[])) (wpAny_bind (wpAny_field he rfl (x:=.ref it) rfl (wpAny_bind (jH (A:=A.in1) hh hit hl hx fun H1 x k1 ⟨o,ho,hc⟩=>?_)))));exact wpAny_bind (wpAny_isInstance ⟨o,ho,hc⟩ isSubtype_stop (wpAny_pure (hQ H1 k1)))
end
end PySem
namespace L2
open PySem PySem.Spec PyProof.Rows ST
def Ite (K:Frag) (b:Bool) (l:Addr):It :=
 ⟨fun i H=>∃ xs x,SqB K b H l xs/\xs[i]?=some x,
  fun i H v H'=>∃ p x,v=.ref p/\H p=none/\H'=upd H p (.tup [.int i,x])/\∀ xs,SqB K b H l xs->xs[i]?=some x,
  fun i H=>∃ xs,SqB K b H l xs/\xs.length<=i⟩
def ESt (b:Bool) (e it l:Addr) (i:Nat) (h:Heap):Prop:=(∃ old,IsEnum h e it i old)/\ItAt b h it l i
def aG0 {P:Program} {w:World} {K:Frag} {elts:List Expr} {n:Nat} {pos:Pos} (b:Bool) (e it l:Addr) (hne:e≠it):Turn P w K (.Tuple elts n pos) (Ite K b l) [e,it] e (ESt b e it l) where
 mem:=by simp
 obj:=fun i h st a ha=>by
  obtain ⟨⟨old,s1⟩,s2⟩:=st;simp only [List.mem_cons,List.not_mem_nil,or_false] at ha;rcases ha with rfl | rfl
  ·exact ⟨_,s1,fun v z=>by cases z⟩
  ·cases b<;>· obtain ⟨o,e,_,d⟩:=s2;exact ⟨o,e,fun v z=>by rw [d] at z;cases z⟩
 keep:=fun i h h' st k=>by
  obtain ⟨⟨old,s1⟩,s2⟩:=st;exact ⟨⟨old,k e (by simp) _ s1⟩,s2.keep fun o q=>k it (by simp) o q⟩
 item:=by
  intro X hP hw hK hc i pins s σ H E I hf st hg;subst hP hw hK;obtain ⟨xs,x,hq,hx⟩:=hg;obtain ⟨⟨old,s1⟩,s2⟩:=st;obtain ⟨its,rv,p1,hz⟩:=I.sqB hq;obtain ⟨u,hu,ru⟩:=rv.get hx;refine bJ5 s1 s2 p1 (x:=u) (by simpa using hu) hne fun h' a1 a2 a3 a4 a5=>⟨_,rfl,wpAny_letOwnedTupleGo_enum (s:={ s with heap:=h',toks:=s.toks+1 }) a1 fun h'' b1 b2=>?_⟩;have nz:∀ {a o},s.heap.get? a=some o->a≠s.heap.objs.size:=fun q=>Nat.ne_of_lt (Heap.lt_size q);have I1:Inv X pins σ (upd H s.heap.objs.size (.tup [.int i,x])) { s with heap:=s.heap.push { cls:=.type "tuple",data:=.seq #[.int i s.toks,u] },toks:=s.toks+1 } :=
   I.laid (t':=s.toks+1) (fun b o q=>Heap.get?_push_of_some _ q) (Nat.le_refl _) (show ObjOk X.prog X.w _ _ _ (.tup [.int i,x]) from ⟨by simp [sizeLine_eq],[.int i s.toks,u],.cons ⟨_,rfl⟩ (.cons ru .nil),IsTupD.new _ _⟩)
  have ob:∀ a∈[e,it],∃ o,s.heap.get? a=some o:=fun a ha=>by
   simp only [List.mem_cons,List.not_mem_nil,or_false] at ha;rcases ha with rfl | rfl
   ·exact ⟨_,s1⟩
   ·exact s2.ob
  have un:∀ a∈[e,it],upd H s.heap.objs.size (.tup [.int i,x]) a=none:=fun a ha=>by
   obtain ⟨o,q⟩:=ob a ha;rw [aN (nz q)];exact (hf a ha).1
  have hf1:∀ a∈[e,it],jD X pins (upd H s.heap.objs.size (.tup [.int i,x])) a:=fun a ha=>⟨un a ha,(hf a ha).2⟩;have I2:Inv X pins σ (upd H s.heap.objs.size (.tup [.int i,x])) { s with heap:=h'',toks:=s.toks+1 }:=Inv.turnedL (s:={ s with heap:=s.heap.push { cls:=.type "tuple",data:=.seq #[.int i s.toks,u] },toks:=s.toks+1 }) I1 (t':=s.toks+1) (ch:=[e,it]) (fun a o ha q=>by
   simp only [List.mem_cons,List.not_mem_nil,or_false,not_or] at ha;refine (b2.2 a ha.1).trans ?_
   by_cases hs:a=s.heap.objs.size
   ·subst hs;have q':(s.heap.push { cls:=.type "tuple",data:=.seq #[.int i s.toks,u] }).get? s.heap.objs.size=some o:=q;rw [Heap.get?_push_size _ rfl] at q';cases q';exact a3
   ·have q':(s.heap.push { cls:=.type "tuple",data:=.seq #[.int i s.toks,u] }).get? a=some o:=q;rw [Heap.get?_push_ne _ _ _ hs] at q';exact a5 a o ha.1 ha.2 q') hf1
  refine ⟨.ref s.heap.objs.size,_,I2,rfl,⟨_,x,rfl,I.hok.fresh (Nat.le_refl _),rfl,fun zs hz=>?_⟩,⟨⟨u,?_⟩,?_⟩,un⟩
  ·rw [I.sqB_inj hz hq];exact hx
  ·have:((i+1:Nat):Int)=(i:Int)+1:=by omega
   unfold IsEnum;rw [this];exact b1
  ·exact a2.keep fun o q=>(b2.2 _ hne.symm).trans q
 done:=by
  intro X hP hw hK hc i pins s σ H E I hf st hg;subst hP hw hK;obtain ⟨xs,hq,hl⟩:=hg;obtain ⟨⟨old,s1⟩,s2⟩:=st;obtain ⟨its,rv,p1,hz⟩:=I.sqB hq;have l1:=rv.length;refine cG4 (I.ok.hd hc) s1 s2 p1 (by simp;omega) fun h' kk=>⟨rfl,?_⟩;exact I.turnedL (t':=s.toks) (ch:=[e,it]) (fun a o ha q=>by
   simp only [List.mem_cons,List.not_mem_nil,or_false,not_or] at ha;exact kk a o ha.2 q) hf
 self:=fun _ _ s _ _ st h=>by
  obtain ⟨⟨old,s1⟩,s2⟩:=st;have hT:s.TypeIs (.ref e) "enumerate":=⟨_,s1,rfl⟩;refine wpAny_pyIter_slot hT PySem.F.slot_enumerate_iter (wpAny_call_entry PySem.F.slot_enumerate_iter hT PySem.F.entry_enumerate_iter ?_ (PySem.F.args_enumerate_iter_1 _));show wpAny _ _ (ret (.ref e)) _ _ s;exact wpAny_pure ⟨_,rfl,"enumerate",_,hT,PySem.F.slot_enumerate_next.lookup,h⟩
section
variable {X:Cx} {elts:List Expr} {n:Nat} {tpos:Pos}
def cW2 (K:Frag) (t:TA):TI:=fun σ H R=>t σ H fun vs H1=>∃ p b xs,vs=[.ref p]/\SqB K b H1 p xs/\(xs.length<=sizeLine->R (Ite K b p) H1)
def bJ6 {a:Expr} {ta:TA} {p pos:Pos} (hg:Gl X "enumerate") (hm:X.mg "enumerate"=none) (ha:PA X [a] ta) (hs:starEach [a] X.env=[(false,eval a X.env)]) :
  PI X (.Tuple elts n tpos) (.Call (.Name "enumerate" p) [a] [] pos) (cW2 X.K ta):=by
 intro pins s σ H R I h;refine Call_ (eZ (u:=.type "enumerate") I hg hm (by decide +kernel) (PyProof.Rows.callWith_type1 (thn (ha pos pins s σ H _ I h) fun us s1 ⟨vs,H1,I1,r1,q1⟩=>?_) hs rfl));obtain ⟨l,b,xs,e,hq,q⟩:=q1;subst e;obtain ⟨u,rfl,ru⟩:=iX r1;cases ru;obtain ⟨its,rv,p1,hz⟩:=I1.sqB hq;refine callType_new PySem.F.called_enumerate (by decide) (PySem.F.typeCall_enumerate_1 _) (PySem.F.newCall_enumerate_1 _) (fun obj=>PySem.F.args_object_init_2 obj _) PySem.F.entry_enumerate_new (aR6 b l its.toArray) ⟨p1,⟨_,Heap.get?_push_size _ rfl,rfl⟩,?_⟩;have z1:(s1.heap.push (kQ b l)).objs.size=s1.heap.objs.size+1:=by rw [Heap.size_push]
 have ge:((s1.heap.push (kQ b l)).push { cls:=.type "enumerate",data:=.fields #[.none,.bool false,.ref s1.heap.objs.size,rawInt 0,.none,.none] }).get? (s1.heap.push (kQ b l)).objs.size=some { cls:=.type "enumerate",data:=.fields #[.none,.bool false,.ref s1.heap.objs.size,rawInt 0,.none,.none] }:=Heap.get?_push_size _ rfl;have gi:((s1.heap.push (kQ b l)).push { cls:=.type "enumerate",data:=.fields #[.none,.bool false,.ref s1.heap.objs.size,rawInt 0,.none,.none] }).get? s1.heap.objs.size=some (kQ b l):=Heap.get?_push_of_some _ (Heap.get?_push_size _ rfl);have I2:Inv X pins σ H1 { s1 with heap:=(s1.heap.push (kQ b l)).push { cls:=.type "enumerate",data:=.fields #[.none,.bool false,.ref s1.heap.objs.size,rawInt 0,.none,.none] } }:=I1.kept (t':=s1.toks) fun c o e=>Heap.get?_push_of_some _ (Heap.get?_push_of_some _ e);have hne:(s1.heap.push (kQ b l)).objs.size≠s1.heap.objs.size:=by rw [z1];exact Nat.succ_ne_self _
 refine wpAny_pyIter_enum (s:={ s1 with heap:=_ }) ge ⟨_,_,_,_,H1,rfl,I2,aG0 b _ s1.heap.objs.size l hne,⟨⟨.none,ge⟩,ItAt.new gi⟩,fun x hx=>?_,q hz⟩;have hx':s1.heap.objs.size<=x:=by
  simp only [List.mem_cons,List.not_mem_nil,or_false] at hx;rcases hx with rfl | rfl
  ·rw [z1];exact Nat.le_succ _
  ·exact Nat.le_refl _
 obtain ⟨f0,f1,f2,f3,f4,f5⟩:=I1.fpOk (H':=H1) hx' (I1.hok.fresh hx');exact ⟨f0,f1,f2,f3,f4,f5⟩
end
end L2
namespace DL
open PySem PySem.Spec PyProof.Rows L2 ST
section
variable {X:Cx} {elts:List Expr} {n:Nat} {tpos:Pos}
noncomputable def jA (k:Nat):List PyData->List PyData
 | []=>[]
 | x::r=>.tuple [.int k,x]::jA (k+1) r
noncomputable def nW (xs:List PyData):List PyData:=jA 0 xs
theorem qL:∀ {xs:List PyData} {k i:Nat} {z:PyData},(jA k xs)[i]?=some z->∃ x,xs[i]?=some x/\z=.tuple [.int (k+i:Nat),x]
 | [],k,i,z,e=>by simp [jA] at e
 | x::r,k,0,z,e=>by simp [jA] at e;exact ⟨x,rfl,by rw [<- e];rfl⟩
 | x::r,k,i+1,z,e=>by
  rw [jA] at e;obtain ⟨y,e1,e2⟩:=qL (xs:=r) (k:=k+1) (i:=i) (by simpa using e);exact ⟨y,by simpa using e1,by rw [e2,show k+1+i=k+(i+1) by omega]⟩
theorem kR:∀ (xs:List PyData) (k:Nat),(jA k xs).length=xs.length
 | [],_=>rfl
 | x::r,k=>by rw [jA,List.length_cons,kR,List.length_cons]
def cW3 (t:DTA):DTI:=fun δ h Q=>t δ h fun ws h1=>∃ u xs,ws=[u]/\iC u=some xs/\Q (nW xs) none h1
def cG5 {K:Frag} {A μ:List Addr} {H:Hp} {h:aA} {u:W} {p:Addr} {xs:List PyData} (R:HeapRep K A μ h H) (e1:iC u=some xs) (r1:RepW K A μ H u (.ref p)) :
  bG0 K A μ H (Ite K (bJ3 u) p) (nW xs) none:=fun A' μ' H' h' y R' _=>by
 obtain ⟨p',vs,ep,sq1,rr1⟩:=iR e1 (r1.ext y R.sub);cases ep;have l1:=rr1.length;refine ⟨fun i z ez=>?_,fun i hi=>⟨vs,sq1,?_⟩⟩
 ·obtain ⟨x,ex,rfl⟩:=qL ez;obtain ⟨vx,hvx,rx⟩:=rr1.get ex;refine ⟨⟨vs,vx,sq1,hvx⟩,fun v H2 hy=>?_⟩;obtain ⟨a,x',rfl,ha,rfl,g1⟩:=hy;have c1:=g1 vs sq1;rw [hvx] at c1;cases c1;refine ⟨aW ha,R'.fresh ha,dJ R' ha (.cons ?_ (.one rx))⟩;rw [Rep,Nat.zero_add]
 ·unfold nW at hi;rw [kR] at hi;omega
def bJ7 {a:Expr} {t:DTA} {p pos:Pos} (hm:X.mg "enumerate"=none) (ha:DA X [a] t) (hg:Gl X "enumerate") (hs:starEach [a] X.env=[(false,eval a X.env)]) :
  DI X (.Tuple elts n tpos) (.Call (.Name "enumerate" p) [a] [] pos) (cW3 t) :=
 iP (bJ6 hg hm ha hs) fun σ H R q=>by
  obtain ⟨δ,h,A,μ,k,Rr,q,c⟩:=q;refine ⟨δ,h,A,μ,_,Rr,q,fun ws h1 vs H1 A1 μ1 q1 x1 R1 r1=>?_⟩;obtain ⟨u,xs,rfl,e1,q1⟩:=q1;obtain ⟨v,rfl,rv⟩:=cU r1;obtain ⟨p,vs,rfl,sq1,rr1⟩:=iR e1 rv;refine ⟨p,_,vs,rfl,sq1,fun hz=>c _ _ h1 _ H1 A1 μ1 q1 x1 R1 ?_ trivial (cG5 R1 e1 rv)⟩;unfold nW;rw [kR];have l1:=rr1.length;omega
end
end DL
namespace L2
open PySem PySem.Spec PyProof.Rows
def sE:typeLookup (.type "list") "keys"=pure none:=by rw [typeLookup_type,builtinLookup_eq_fast];kernel_rfl
def aG1:typeLookup (.type "list") "__getattr__"=pure none:=by rw [typeLookup_type,builtinLookup_eq_fast];kernel_rfl
def aG2:entryFor table "list.__getattribute__"=some Builtin.«object.__getattribute__»:=entryFor_alias (id':="object.__getattribute__") (by kernel_rfl) (by decide +kernel) (by decide +kernel) (by kernel_rfl)
def jJ {prog:Program} {w:World} {A:Around} {E:Value->Shared->Prop} {s:Shared} {a:Addr} {o:Obj} {xs:Array Value} {k:Nat} {name:Str} {Q:Option Value->Shared->Prop}
  (hx:s.heap.get? a=some o) (hc:o.cls=.type "list") (hdat:o.data=.seq xs k) (hd:o.dict=none) (hmiss:typeLookup (.type "list") name=pure none) (hname:(["__module__","__name__","__qualname__","__doc__","__annotations__"]:List Str).contains name=false) (hA:A.handled=none)
  (h:∀ h' tk e,Heap.NewExcOf s.heap h' e "AttributeError"->Q none { s with heap:=h',toks:=tk }) (hsz:name.length+100<=sizeLine:=by size_fits):wpAny (model prog w) A (getAttr? (.ref a) name) Q E s:=by
 obtain ⟨c,dct,dat,sl⟩:=o;dsimp only at hc hdat hd;subst hc hdat hd;obtain ⟨hp,g,d,tk,os⟩:=s;have hT:∀ tk',(⟨hp,g,d,tk',os⟩:Shared).TypeIs (.ref a) "list":=fun _=>⟨_,hx,rfl⟩;have g1:=sub_AttributeError;have g3:=F.slot_list_getattribute.lookup;have g4:=F.slot_list_getattribute.bind (.ref a);have g5:=aG1;unfold getAttr? getAttrBy? getAttrBy
 repeat (any_goals (first | assumption | exact hT _ | ((with_reducible show wpAny _ _ (call (Value.builtin "list.__getattribute__") _ _) _ _ _);refine call_meets F.slot_list_getattribute (hT _) aG2 (F.args_list_getattribute_2 _ _) (meets_getattribute_miss_list a xs k sl name _ hmiss hname hsz) ⟨hx,hA,fun h' tk' e hx'=>?_⟩) | wp_step))
 obtain ⟨t',u',he⟩:=hx'.there;show wpAny _ _ (getattributeRaised _ _ _ _ _ _ _) _ _ _;unfold getattributeRaised
 repeat (any_goals (first | assumption | wp_step))
 exact h _ _ _ hx'.of
section
variable {prog:Program} {w:World} {A:Around} {E:Value->Shared->Prop} {s:Shared}
def kS {a:Addr} {o:Obj} {its:List Value} {n:Nat} {ps:List (Key×V)} {Q:Value->Shared->Prop} (hh:A.handled=none) (ho:s.heap.get? a=some o) (hc:o.cls=.type "list") (hdat:o.data=.seq its.toArray n) (hd:o.dict=none) (hp:rZ s.heap its ps) (hn:its.length<=1000)
  (h:∀ h' tk kvs,h'.DictOf (bD prog w) s.heap.objs.size kvs->KV (cS [] ps) kvs->(∀ b o,s.heap.get? b=some o->h'.get? b=some o)->Q (.ref s.heap.objs.size) { s with heap:=h',toks:=tk }) :
  wpAny (model prog w) A (call (.type "dict") [.ref a]) Q E s:=by
 refine callType_codes (Q₁:=fun obj s₁=>obj=.ref s.heap.objs.size/\s₁={ s with heap:=s.heap.push { cls:=.type "dict",data:=.dict #[] } }) F.kt_called_dict (F.kt_typeCall_dict_1 _) F.entry_dict_init (kt_code_dict_new _ ⟨rfl,rfl⟩) ?_;rintro obj s₁ ⟨rfl,rfl⟩;have hnew:(s.heap.push { cls:=.type "dict",data:=.dict #[] }).DictOf (bD prog w) s.heap.objs.size []:=Heap.DictOf.new s.heap;have ho':(s.heap.push { cls:=.type "dict",data:=.dict #[] }).get? a=some o:=Heap.get?_push_of_some _ ho;have hT:Shared.TypeIs { s with heap:=s.heap.push { cls:=.type "dict",data:=.dict #[] } } (.ref a) "list":=⟨_,ho',hc⟩;refine ⟨hnew.typeIs,F.args_dict_init_2 _ _,?_⟩;unfold Builtin.«dict.__init__»;refine wpAny_bind ?_;unfold Builtin.Dict.selfAndRest;refine wpAny_bind (wpAny_notOrdered_dict hnew.typeIs (wpAny_pure ?_));show wpAny _ _ (Builtin.Dict.updateFrom "dict.__init__" s.heap.objs.size (.ref a) [] .none) _ _ _;unfold Builtin.Dict.updateFrom;refine wpAny_bind (wpAny_typeOf hT ?_);rw [if_pos (by decide)];refine wpAny_bind (jJ ho' hc hdat hd sE (by decide +kernel) (by simp [hh]) fun h1 tk1 e1 ne=>?_);rw [if_pos (by rfl)];have keep1:∀ b q,s.heap.get? b=some q->h1.get? b=some q:=fun b q e=>ne.keeps b q (Heap.get?_push_of_some _ e);have hD1:h1.DictOf (bD prog w) s.heap.objs.size []:=by
  obtain ⟨o,es,ep,ho,r⟩:=hnew;exact ⟨o,es,ep,ne.keeps _ _ ho,r⟩
 have hi1:h1.IsList a its.toArray:=⟨o,keep1 a o ho,hc,n,hdat⟩;have hlt:a < s.heap.objs.size:=Heap.lt_size ho;have hsz:s.heap.objs.size < h1.objs.size:=by
  obtain ⟨o,es,ep,ho,r⟩:=hD1;exact Heap.lt_size ho
 have hI:a≠h1.objs.size:=Nat.ne_of_lt (Nat.lt_trans hlt hsz);refine wpAny_bind (wpAny_rule (wpAny_bind (wpAny_pyIter_list hi1 (wpAny_pure ⟨plainId_quiet iA _,?_⟩))));refine qB (A:=A.in1) (Walks.list (A:=A.in1.in1) (by simp [hh]) h1.objs.size a hI its.toArray) s.heap.objs.size ?_ s.heap ps ?_ (by simpa using hp.1.symm) (by simpa using hn) _ 0 _ 0 0 [] rfl (Nat.zero_le _) ⟨⟨_,Heap.get?_push_size _ rfl,rfl,rfl⟩,hi1.push _⟩ (hD1.push _) .nil ?_ ?_
 ·simp only [List.mem_cons,List.mem_singleton,List.not_mem_nil,or_false,not_or];exact ⟨Nat.ne_of_lt hsz,Nat.ne_of_gt hlt⟩
 ·intro i v hv;obtain ⟨p,k,t,u,y,h1',h2,h3,h4⟩:=hp.2 i v (by simpa using hv);have hpl:p < s.heap.objs.size:=by obtain ⟨o,ho,_⟩:=h2;exact Heap.lt_size ho
  refine ⟨p,k,t,u,y,h1',h2,h3,h4,Nat.ne_of_lt hpl,?_⟩;simp only [List.mem_singleton];exact Nat.ne_of_lt (Nat.lt_trans hpl hsz)
 ·intro b o _ _ e;exact Heap.get?_push_of_some _ (keep1 b o e)
 ·intro h' tk kvs hd' hkv hk;refine ⟨rfl,h h' tk kvs hd' hkv fun b o e=>?_⟩;have hbl:b < s.heap.objs.size:=Heap.lt_size e;refine hk b o (Nat.ne_of_lt hbl) ?_ (Heap.get?_push_of_some _ (keep1 b o e));simp only [List.mem_singleton];exact Nat.ne_of_lt (Nat.lt_trans hbl hsz)
end
end L2
namespace DL
open PySem PySem.Spec PyProof.Rows L2 ST
section
variable {X:Cx}
abbrev OfX (f:List W->aA->Option (W×aA)):DC:=fun ws h Q=>∃ r h',f ws h=some (r,h')/\Q r h'
noncomputable def kT:List W->aA->Option (W×aA)
 | [w],h=>(match ref h w with
  | some (.tuple xs)=>if xs.length<=1000 then (gE xs).map fun kvs=>(.d (.dict (jG kvs)),h) else none
  | some (.list xs)=>if xs.length<=1000 then (gE xs).map fun kvs=>(.d (.dict (jG kvs)),h) else none
  | _=>none)
 | _,_=>none
def uV (hc:X.calm=true):cF X (.type "dict") (upC X.K (OfX kT)):=by
 intro pins s σ H xs us Q I r h;obtain ⟨ws,h,A,μ,k,R,rw',⟨rr,h',e,q⟩,c⟩:=h;unfold kT at e;split at e
 ·rename_i h0 w;split at e
  ·rename_i ys ey;refine uT hc pins s σ H xs us Q I r ⟨[w],h,A,μ,k,R,rw',⟨rr,h',?_,q⟩,c⟩;unfold xJ;dsimp only;rw [ey];exact e
  ·rename_i ys ey;obtain ⟨v,rfl,rv⟩:=cU rw';split at e
   ·rename_i hl;obtain ⟨kvs,ek,e2⟩:=Option.map_eq_some_iff.mp e;cases e2;obtain ⟨p,vs,rfl,sq,rs⟩:=bZ R rv ey;obtain ⟨u,rfl,rx⟩:=iX r;cases rx;obtain ⟨its,rits,pl,hz⟩:=I.list sq;obtain ⟨ps,hp,hk⟩:=nT I ek rs rits;have hlen:its.length=ys.length:=by rw [<- rits.length];exact Reps.length rs
    obtain ⟨o,n,ho,hcl,hd,hdat⟩:=pl;refine kS (I.ok.hd hc) ho hcl hdat hd hp (by omega) fun h' tk kvs' hd' hkv hkeep=>?_;have z:(cS [] ps).length<=sizeLine:=by
     have:=dQ ps [];have e1:=hp.1;have:sizeLine=16777216:=rfl;simp at *;omega
    have I2:Inv X pins σ (upd H s.heap.objs.size (.dK (cS [] ps))) { s with heap:=h',toks:=tk } :=
     I.laid (t':=tk) hkeep (Nat.le_refl _) (xA z (beq_eq_false_iff_ne.mpr (Ne.symm (Nat.ne_of_lt I.big))) hkv hd')
    have hf:H s.heap.objs.size=none:=I.hok.fresh (Nat.le_refl _);refine ⟨.ref s.heap.objs.size,_,I2,rfl,c _ _ _ _ _ _ q (aW hf) (R.fresh hf) ?_⟩;show Rep X.K A _ (.dict (jG kvs)) (.ref s.heap.objs.size);rw [Rep];exact ⟨_,_,rfl,⟨R.notA hf,.inl aU⟩,RepKs.ext (aW (μ:=μ) hf) R.sub (iB hk (repKs_nil.mpr rfl))⟩
   ·cases e
  ·cases e
 ·cases e
end
end DL
namespace ST
open PySem PySem.Spec PyProof.Rows PySem.W
section
variable {prog:Program} {w:World} {A:Around} {E:Value->Shared->Prop} {s:Shared}
end
section
variable {prog:Program} {w:World} {A:Around} {E:Value->Shared->Prop} {s:Shared}
end
end ST
namespace L2
open PySem PySem.Spec PyProof.Rows ST
section
variable {X:Cx}
end
end L2
namespace L2
open PySem PySem.Spec PyProof.Rows
section
variable {X:Cx}
noncomputable def cW4:V->V->V->Hp->(Hp->Prop)->Prop:=fun o i v H Q=>bP4 o i v H Q\/∃ a k kvs,o=.ref a/\i=kV k/\H a=some (.dK kvs)/\kvs.length < sizeLine/\Q (upd H a (.dK (jQ kvs k v)))
def cW5:bX5 X cW4:=by
 intro pins s σ H o i v ov iv u Q I ro ri rv h;rcases h with h | ⟨a,k,kvs,rfl,rfl,e,l,q⟩
 ·exact aM1 pins s σ H o i v ov iv u Q I ro ri rv h
 ·cases ro;obtain ⟨z,hd,vs,rel,dd⟩:=cT2 I.hok e;have hz:vs.length<=sizeLine:=by rw [<- rel.length];exact z
  have hl:(jQ kvs k v).length<=sizeLine:=by have:=lM kvs k v;omega
  refine wpAny_setItem_pairs (hsz:=hz) (uA ri) dd fun h' dd' hs=>⟨_,?_,q⟩;have he:∃ q,h'.get? a=some q:=let ⟨q,_,_,hq,_⟩:=dd';⟨q,hq⟩
  exact bD6 I (by rw [e];exact True.intro) hs he (xA hl hd (rel.put k rv) dd')
end
end L2
namespace DL
open PySem PySem.Spec PyProof.Rows L2 ST
variable {X:Cx} {e:Expr} {pos:Pos}
def cW6 (to ti:DTE):DTG:=fun v δ h Q=>to δ h fun o h1=>ti δ h1 fun i h2=>match o,i,v with
 | .c j,.d y,.d x=>(match h2[j]?,y with
  | some (.l xs),.int k=>(match ixN xs.length k with
   | some n=>Q δ (h2.set j (.l (xs.set n x)))
   | none=>False)
  | some (.k kvs),_=>(bO y).isSome=true/\kvs.length < sizeLine/\Q δ (h2.set j (.k (mD kvs y x)))
  | _,_=>False)
 | _,_,_=>False
def bJ8 {K:Frag} {A:List Addr} {H:Hp} {y:PyData} {v:V} {q:Key} (r:Rep K A H y v) (hk:bO y=some q):v=kV q:=by
 cases y<;>first | (simp [bO] at hk;done) | skip
 ·rw [Rep] at r;simp only [bO,Option.some.injEq] at hk;subst hk;exact r
 ·rw [Rep] at r;simp only [bO] at hk;rw [if_pos r.2] at hk;cases hk;exact r.1
theorem qM {K:Frag} {A:List Addr} {H:Hp}:∀ {kvs:List (PyData×PyData)} {r:List (Key×V)},RepKs K A H kvs r->r.length=kvs.length
 | [],r,h=>by rw [repKs_nil.mp h];rfl
 | p::kvs,r,h=>by
  obtain ⟨q',r',rfl,h1,h3⟩:=repKs_cons.mp h;simp [qM h3]
def bJ9 {o i:Expr} {to ti:DTE} (ho:DE X o to) (hi:DE X i ti)
  (ha:∀ v,assign (.Subscript o i pos) X.env v=(do
   let ov <- holding [v] (eval o X.env)
   let iv <- holding [v,ov] (eval i X.env)
   standAt pos
   holding [v,ov,iv] (setItem ov iv v)
   release [v,ov,iv] []):=by intro _;rfl):DG X (.Subscript o i pos) (cW6 to ti):=mO (bX7 ho hi cW5 ha) fun v σ H Q q=>by
 obtain ⟨w,δ,h,A,μ,k,R,r,q,c⟩:=q;refine ⟨δ,h,A,μ,_,R,q,fun o h1 vo H1 A1 μ1 q1 x1 R1 r1=>?_⟩;refine ⟨δ,h1,A1,μ1,_,⟨R1,R.2.ext x1 R.1.sub⟩,q1,fun i h2 vi H2 A2 μ2 q2 x2 R2 r2=>?_⟩;have x12:=x1.trans x2;split at q2
 ·rename_i j y x;split at q2
  ·rename_i xs kk ex;split at q2
   ·rename_i n en;obtain ⟨a,ea,rfl⟩:=r1.ext x2 R1.sub;have ei:=bG r2;subst ei;obtain ⟨vs,hv,rr⟩:=R2.val j a xs ea ex;refine .inl ⟨a,vs,kk,n,rfl,rfl,hv,by rw [rr.length];exact en,?_⟩;have rx:Rep X.K A2 H2 x v:=r.ext x12 R.1.sub;have hm:=List.mem_of_getElem? ea;have y:=eS (A:=A2) (o:=.lst (vs.set n v)) hm hv;exact c _ _ _ _ A2 μ2 q2 (x12.trans y) ⟨gB R2 ea (rr.set rx n),(R.2.ext x12 R.1.sub).ext y R2.sub⟩
   ·exact q2.elim
  ·rename_i kvs ex;obtain ⟨hk,hl,q2⟩:=q2;obtain ⟨kq,hk⟩:=Option.isSome_iff_exists.mp hk;obtain ⟨a,ea,rfl⟩:=r1.ext x2 R1.sub;have ei:=bJ8 (K:=X.K) (A:=A2) (H:=H2) r2 hk;subst ei;obtain ⟨vs,hv,rr⟩:=R2.vad j a kvs ea ex;refine .inr ⟨a,kq,vs,rfl,rfl,hv,by rw [qM rr];exact hl,?_⟩;have rx:Rep X.K A2 H2 x v:=r.ext x12 R.1.sub;have hm:=List.mem_of_getElem? ea;have y:=eS (A:=A2) (o:=.dK (jQ vs kq v)) hm hv;exact c _ _ _ _ A2 μ2 q2 (x12.trans y) ⟨uD R2 ea (qH hk rx rr),(R.2.ext x12 R.1.sub).ext y R2.sub⟩
  ·exact q2.elim
 ·exact q2.elim
def cW7:DTE:=fun δ h Q=>Q (.c h.length) (h++[Cell.k []])
def bK0 {i:Nat} {x:Str} {pos' pos2:Pos} (hN:X.N.Nodup) (hi:X.N[i]?=some x) (hx:Loc X.env.scope x) (hs:swapsWith (.Dict [] [] pos2) (some (.Name x pos')) pos.line X.env=pure false)
  (hf:X.fn x=true\/X.env.scope.names.lookup x=some .local):DS X (.Assign [.Name x pos'] (.Dict [] [] pos2) pos) (aD9 cW7 (pS i)):=bF (wN hN hi hx uP hs hf) fun D σ H q=>by
 obtain ⟨δ,h,A,μ,E,R,q,L⟩:=q;intro p hp;have hl:μ.length=h.length:=R.1.len;have x:=bY (μ:=μ) (A:=A) (o:=.dK []) hp;exact L.nx _ _ _ _ (p::A) (μ++[p]) q x ⟨xC R.1 hp (repKs_nil.mpr rfl),(R.2.ext x R.1.sub).set i ⟨p,by rw [<- hl];simp,rfl⟩⟩
end DL
namespace DL
open PySem PySem.Spec PyProof.Rows L2 ST
section
variable {X:Cx}
def dO3 (to:DTE) (t:DTA):DTE:=fun δ h Q=>to δ h fun o h1=>match o with
 | .c j=>(match h1[j]? with
  | some (.l _)=>t δ h1 fun ws h2=>(match ws,h2[j]? with
   | [.d (.int i)],some (.l xs)=>∃ n x,ixN xs.length i=some n/\xs[n]?=some x/\-(2^63)<=i/\i < 2^63/\Q (.d x) (h2.set j (.l (xs.eraseIdx n)))
   | _,_=>False)
  | _=>False)
 | _=>False
theorem nX {K:Frag} {A:List Addr} {H:Hp}:∀ {xs:List PyData} {vs:List V} (n:Nat),Reps K A H xs vs->Reps K A H (xs.eraseIdx n) (vs.eraseIdx n)
 | [],vs,n,r=>by
  rw [Reps] at r;subst r;exact .nil
 | x::xs,vs,0,r=>by
  rw [Reps] at r;obtain ⟨v,vr,rfl,_,r⟩:=r;exact r
 | x::xs,vs,n+1,r=>by
  rw [Reps] at r;obtain ⟨v,vr,rfl,r1,r2⟩:=r;exact .cons r1 (nX n r2)
def cG6 {o e0:Expr} {es:List Expr} {to:DTE} {t:DTA} {apos cpos:Pos} (ho:DE X o to) (ha:DA X (e0::es) t)
  (hbase:autoParam (attributeBase o "pop" X.env (eval o X.env)=eval o X.env) ZR)
  (hfew:((backTo cpos (starEach (e0::es) X.env)).all (fun x=>!x.1)&&(backToKw cpos (keywordEach [] X.env)).all (fun x=>x.1.isSome)
   && decide ((e0::es).length+([]:List Keyword).length+(if ([]:List Keyword).isEmpty then 0 else 1) < 30))=true:=by rfl)
  (hline:autoParam ((apos.endLine==cpos.line)=true) ZR) (hs:autoParam (starEach (e0::es) X.env=(false,eval e0 X.env)::starEach es X.env) ZR) (hplain:autoParam ((backTo cpos (starEach es X.env)).any (·.1)=false) ZR) :
  DE X (.Call (.Attribute o "pop" apos) (e0::es) [] cpos) (dO3 to t):=aG (aM2 PySem.F.plainAttrs_list PySem.F.slot_list_pop PySem.F.type_list_pop aM3 ho ha hbase hfew hline hs hplain) fun σ H Q q=>by
 obtain ⟨δ,h,A,μ,k,R,q,c⟩:=q;refine ⟨δ,h,A,μ,_,R,q,fun o h1 vo H1 A1 μ1 q1 x1 R1 r1=>?_⟩;split at q1
 ·rename_i j;obtain ⟨a,ea,rfl⟩:=r1;split at q1
  rotate_left
  ·exact q1.elim
  rename_i xs1 ex1;obtain ⟨vs1,hv1,_⟩:=R1.val j a xs1 ea ex1;refine ⟨.inl ⟨rfl,_,SqL.of hv1⟩,δ,h1,A1,μ1,_,⟨R1,R.2.ext x1 R.1.sub⟩,q1,fun ws h2 vs H2 A2 μ2 q2 x2 R2 r2=>?_⟩;split at q2
  ·rename_i i xs ex;obtain ⟨n,x,e1,e2,i1,i2,q2⟩:=q2;obtain ⟨v,rfl,rv⟩:=cU r2;have ei:=bG rv;subst ei;have ea2:μ2[j]?=some a:=by
    obtain ⟨ν,e1,_⟩:=x2.pre;rw [e1,List.getElem?_append_left (List.getElem?_eq_some_iff.mp ea).1];exact ea
   obtain ⟨vs,hv,rr⟩:=R2.val j a xs ea2 ex;obtain ⟨y,ey,ry⟩:=rr.get e2;refine ⟨a,vs,i,n,y,rfl,rfl,hv,i1,i2,by rw [rr.length];exact (rK e1).1,ey,?_⟩;have hm:=List.mem_of_getElem? ea2;exact c _ _ _ _ A2 μ2 q2 ((x1.trans x2).trans (eS hm hv)) (gB R2 ea2 (nX n rr)) (ry.upd (R2.sub a hm))
  ·exact q2.elim
 ·exact q1.elim
def xP (l:Addr) (items:Array Value) (n:Nat) (dd:Option Addr) (sl:Array (Option Value)) (u:Tok) :
  Meets (Builtin.«tuple.__mul__» ⟨[.ref l,.int 1 u],[]⟩) (fun _ R s=>s.heap.get? l=some { cls:=.type "tuple",dict:=dd,data:=.seq items n,slots:=sl }/\R (.ok (.ret (.ref l))) s) :=
 .of_wp fun prog w A R s h=>by
  obtain ⟨hp,g,d,tk,os⟩:=s;obtain ⟨hl,h⟩:=h;have f2:=AutoSeq1.sub_tuple_tuple
  wp_walk
  exact ⟨_,rfl,h⟩
def aR7:OpR X (binaryOp .Mult) (fun x y H Q=>∃ l xs,x=.ref l/\y=.int 1/\SqT X.K H l xs/\Q (.ref l) H):=by
 intro pins s σ H x y v u Q I rx ry h;obtain ⟨l,xs,rfl,rfl,sq,q⟩:=h;cases rx;obtain ⟨t,rfl⟩:=ry;obtain ⟨its,r,p,hz0⟩:=I.tuple sq;obtain ⟨⟨cls,dd,data,sl⟩,ho,hc,n,hd⟩:=id p;simp only at hc hd;subst hc hd;refine wpAny_binaryOp_repeat_ref (T:="tuple") (U:="int") (by decide) ⟨_,ho,rfl⟩ (fun s'=>typeIs_int s' 1 t) hV PySem.F.fills_int_mul PySem.F.slot_int_rmul iZ PySem.F.slot_int_index.lookup
  (call_meets PySem.F.slot_int_rmul (typeIs_int s 1 t) PySem.F.entry_int_rmul (PySem.F.args_int_rmul_2 _ _) (hZ 1 t l its.toArray n dd sl)
   ⟨ho,rfl,⟨_,ho,rfl⟩,call_meets PySem.F.slot_tuple_mul ⟨_,ho,rfl⟩ PySem.F.entry_tuple_mul (PySem.F.args_tuple_mul_2 _ _) (xP l its.toArray n dd sl t) ⟨ho,?_⟩⟩)
 exact ⟨.ref l,H,I,rfl,q⟩
noncomputable def bS8:D2
 | .d (.tuple xs),.d (.int k),h,Q=>(k=1/\Q (.d (.tuple xs)) h)\/((xs≠[]/\1 < k/\k < 2^63/\xs.length*k.toNat<=sizeLine)/\Q (.d (.tuple (List.replicate k.toNat xs).flatten)) h)
 | _,_,_,_=>False
def aR8:OpR X (binaryOp .Mult) (upR X.K bS8):=by
 intro pins s σ H x y v u Q I rx ry h;obtain ⟨a,b,h,A,μ,k,R,ra,rb,q,c⟩:=h;unfold bS8 at q;split at q
 ·rename_i xs n;rcases q with ⟨e,q⟩ | q
  ·obtain ⟨p,vs,rfl,ta,sa⟩:=bB (h:=h) ra rfl;have eb:=bG rb;subst eb;subst e;exact aR7 pins s σ H _ _ v u Q I rx ry ⟨p,vs,rfl,rfl,ta.sq,c _ _ _ _ _ _ q .refl R ra⟩
  ·exact aQ1 pins s σ H x y v u Q I rx ry ⟨.d (.tuple xs),.d (.int n),h,A,μ,k,R,ra,rb,q,c⟩
 ·exact q.elim
end
end DL
namespace L2
open PySem PySem.Spec PyProof.Rows
def aR9 {prog:Program} {w:World} {A:Around} {E:Value->Shared->Prop} {s:Shared} {env:Env} {o:Expr} {name:Str} {apos pos:Pos} {args:List Expr} {Q:Value->Shared->Prop}
  (hbase:attributeBase o name env (eval o env)=eval o env)
  (hfew:((backTo pos (starEach args env)).all (fun x=>!x.1)&&(backToKw pos (keywordEach [] env)).all (fun x=>x.1.isSome)&&decide (args.length+([]:List Keyword).length+(if ([]:List Keyword).isEmpty then 0 else 1) < 30))=true)
  (hline:(apos.endLine==pos.line)=true)
  (h:wpAny (model prog w) A (eval o env) (fun ov s₁=>∀ pl,wpAny (model prog w) A (getMethod ov name pl) (fun fx s₂=>wpAny (model prog w) A (callWith pos fx.1 fx.2 (backTo pos (starEach args env)) (backToKw pos (keywordEach [] env))) Q E s₂) E s₁) E s) :
  wpAny (model prog w) A (eval (.Call (.Attribute o name apos) args [] pos) env) Q E s:=by
 rw [arm_eval_Call,hbase];refine wpAny_bind (wpAny_mono h (fun ov s₁ h₁=>?_) fun _ _ e=>e);refine wpAny_bind (wpAny_standAt ?_);have hform:methodCallForm (args.length+([]:List Keyword).length) (backTo pos (starEach args env)) (backToKw pos (keywordEach [] env))=true:=hfew;have hpos:methodCallPos true o env apos pos=pure pos:=by unfold methodCallPos;simp [hline]
 unfold methodCall;rw [hform];exact wpAny_bind (wpAny_holding (wpAny_mono (h₁ _) (fun fx s₂ h₂=>wpAny_bind (wpAny_of_eq hpos h₂)) fun _ _ x=>x))
section
variable {X:Cx} {CX:CXT} {k:Nat} {f C:Addr} {fd:FuncData} {ps:List Str} {sp:Sp} {dvs:List V} {ds:List Value} {E:XK} {m:Str} {pos apos:Pos} {e o:Expr} {es:List Expr} {ta:TE} {t:TA}
def aS0 (he:PE X o ta) (c:Cls X.K C) (hm:Meth X.K C m f) (F:FnOk X.prog X.w X.K X.mg X.base CX k f fd ps sp) (hr:Room k X.A) (hb:Binds X.K fd ps ds) (hd:Vals dvs ds) (hx:kJ CX X E) (ha:PA X (e::es) t)
  (hbase:attributeBase o m X.env (eval o X.env)=eval o X.env)
  (hfew:((backTo pos (starEach (e::es) X.env)).all (fun x=>!x.1)&&(backToKw pos (keywordEach [] X.env)).all (fun x=>x.1.isSome)&&decide ((e::es).length+([]:List Keyword).length+(if ([]:List Keyword).isEmpty then 0 else 1) < 30))=true)
  (hline:(apos.endLine==pos.line)=true)
  (hst:starEach (e::es) X.env=(false,eval e X.env)::starEach es X.env) (hpl:(backTo pos (starEach es X.env)).any (·.1)=false) :
  PE X (.Call (.Attribute o m apos) (e::es) [] pos) (bP1 C m sp dvs E ta t):=by
 intro pins s σ H Q I h;refine aR9 hbase hfew hline (thn (he pins s σ H _ I h) fun u s1 ⟨x,H1,I1,rx,a,dx,fs,ex,ea,l,q⟩ pl=>?_);subst ex;obtain rfl:u=Value.ref a:=rx;refine wT I1 ea c hm l ?_;refine PySem.W.callWith_K (first:=[.ref a]) (h₀:=X.base) I.ok.mod.kin hm.kp (thn (ha pos pins s1 σ H1 _ I1 q) fun us s2 ⟨vs,H2,I2,r,q2⟩=>⟨I2.kIn,?_⟩) hst hpl;exact aL7 (us:=.ref a::us) (vs:=.ref a::vs) F hr hb hd hx I2 (.cons rfl r) q2
end
end L2
namespace DL
open PySem PySem.Spec PyProof.Rows L2 ST
noncomputable def aS1 (f:Str) (w:W):List (Str×W)->List (Str×W)
 | []=>[(f,w)]
 | (g,x)::r=>if g=f then (g,w)::r else (g,x)::aS1 f w r
section
variable {K:Frag} {A A' μ μ':List Addr} {H H':Hp}
theorem FsOk.len:∀ {fs:List (Str×W)} {vs:List (Str×V)},FsOk K A μ H fs vs->vs.length=fs.length
 | [],_,h=>by have e:_=[]:=h;subst e;rfl
 | p::fs,_,⟨v,vr,e,_,h⟩=>by subst e;rw [List.length_cons,List.length_cons,FsOk.len h]
theorem FsOk.none:∀ {fs:List (Str×W)} {vs:List (Str×V)} {f:Str},FsOk K A μ H fs vs->fs.lookup f=Option.none->vs.lookup f=Option.none
 | [],_,_,h,_=>by have e:_=[]:=h;subst e;rfl
 | (g,x)::fs,_,f,⟨v,vr,e,_,h⟩,l=>by
  subst e
  by_cases hq:(f==g)=true
  ·simp [List.lookup,hq] at l
  ·simp only [List.lookup,hq] at l ⊢;exact FsOk.none h l
theorem FsOk.get:∀ {fs:List (Str×W)} {vs:List (Str×V)} {f:Str} {w:W},FsOk K A μ H fs vs->fs.lookup f=some w->∃ v,vs.lookup f=some v/\RepW K A μ H w v
 | [],_,_,_,_,l=>by cases l
 | (g,x)::fs,_,f,w,⟨v,vr,e,r,h⟩,l=>by
  subst e
  by_cases hq:(f==g)=true
  ·simp only [List.lookup,hq] at l ⊢;cases l;exact ⟨v,rfl,r⟩
  ·simp only [List.lookup,hq] at l ⊢;exact FsOk.get h l
theorem FsOk.put {f:Str} {w:W} {y:V} (ry:RepW K A μ H w y):∀ {fs:List (Str×W)} {vs:List (Str×V)},FsOk K A μ H fs vs->FsOk K A μ H (aS1 f w fs) (gQ f y vs)
 | [],_,h=>by have e:_=[]:=h;subst e;exact ⟨y,[],rfl,ry,rfl⟩
 | (g,x)::fs,_,⟨v,vr,e,r,h⟩=>by
  subst e;unfold aS1 gQ;dsimp only;split
  ·exact ⟨y,vr,rfl,ry,h⟩
  ·exact ⟨v,_,rfl,r,FsOk.put ry h⟩
def FsOk.upd {p:Addr} {o:HO} (hp:p∈A) {fs:List (Str×W)} {vs:List (Str×V)} (h:FsOk K A μ H fs vs):FsOk K A μ (L2.upd H p o) fs vs :=
 h.go (fun b o hb e=>⟨hb,by rw [aN (fun z=>hb (by rw [z];exact hp))];exact e⟩) fun _ _ _ e=>e
def IsOk.at {is:List Nat} {vs:List V}:IsOk μ is vs->∀ {k:Int} {m:Nat},atI is k=some m->∃ a,atI vs k=some (V.ref a)/\μ[m]?=some a:=by
 have len:∀ {is:List Nat} {vs:List V},IsOk μ is vs->vs.length=is.length:=fun {is}=>by
  induction is with
  | nil=>intro vs h;have e:vs=[]:=h;subst e;rfl
  | cons i is ih=>rintro vs ⟨a,vr,e,_,h⟩;subst e;rw [List.length_cons,List.length_cons,ih h]
 have get:∀ {is:List Nat} {vs:List V},IsOk μ is vs->∀ (n m:Nat),is[n]?=some m->∃ a,vs[n]?=some (V.ref a)/\μ[m]?=some a:=fun {is}=>by
  induction is with
  | nil=>intro vs h n m e;simp at e
  | cons i is ih =>
   rintro vs ⟨a,vr,e,r,h⟩ n m em;subst e;cases n with
   | zero=>simp at em;subst em;exact ⟨a,rfl,r⟩
   | succ n=>simp at em;obtain ⟨b,e1,e2⟩:=ih h n m em;exact ⟨b,by simpa using e1,e2⟩
 intro h k m e;unfold atI at e ⊢;rw [len h];cases q:ixN is.length k with
 | none=>rw [q] at e;cases e
 | some n=>rw [q] at e;exact get h n m e
end
def dO4 (K:Frag) (to:DTE) (f:Str):DTE:=fun δ h Q=>to δ h fun o h1=>match o with
 | .c j=>(match h1[j]? with
  | some (.o C fs)=>Cls K C/\NoAttr K C f/\(match fs.lookup f with
   | some w=>Q w h1
   | none=>False)
  | _=>False)
 | _=>False
def cW8 (K:Frag) (tv to:DTE) (f:Str):DTS:=fun E δ h=>tv δ h fun w h1=>to δ h1 fun o h2=>match o with
 | .c j=>(match h2[j]? with
  | some (.o C fs)=>Cls K C/\NoAttr K C f/\fs.length < 1000/\E.nx δ (h2.set j (.o C (aS1 f w fs)))
  | _=>False)
 | _=>False
section
variable {X:Cx} {o e value:Expr} {f:Str} {pos pos':Pos} {to tv:DTE}
def cG7 (he:DE X e to) (hb:attributeBase e f X.env (eval e X.env)=eval e X.env):DE X (.Attribute e f pos) (dO4 X.K to f):=aG (bZ1 he hb) fun σ H Q q=>by
 obtain ⟨δ,h,A,μ,k,R,q,c⟩:=q;refine ⟨δ,h,A,μ,_,R,q,fun o h1 v H1 A1 μ1 q1 x1 R1 r1=>?_⟩;try dsimp only at q1
 split at q1
 ·rename_i j;obtain ⟨a,ea,rfl⟩:=r1;split at q1
  ·rename_i C fs ej;obtain ⟨hc,hn,q1⟩:=q1;split at q1
   ·rename_i w ew;obtain ⟨dx,vs,hv,fo⟩:=R1.cel j a _ ea ej;obtain ⟨y,e1,ry⟩:=fo.get ew;exact ⟨a,C,dx,vs,y,rfl,hv,hc,hn,e1,c w h1 y H1 A1 μ1 q1 x1 R1 ry⟩
   ·exact q1.elim
  ·exact q1.elim
 ·exact q1.elim
def cG8 (ho:DE X o to) (hv:DE X value tv) (hs:swapsWith value (some (.Attribute o f pos')) pos.line X.env=pure false):DS X (.Assign [.Attribute o f pos'] value pos) (cW8 X.K tv to f):=bF (bZ2 ho hv hs) fun D σ H q=>by
 obtain ⟨δ,h,A,μ,E,R,q,L⟩:=q;refine ⟨δ,h,A,μ,_,R,q,fun w h1 v H1 A1 μ1 q1 x1 R1 r1=>?_⟩;have E1:=R.2.ext x1 R.1.sub;refine ⟨δ,h1,A1,μ1,_,⟨R1,E1⟩,q1,fun o h2 u H2 A2 μ2 q2 x2 R2 r2=>?_⟩;try dsimp only at q2
 split at q2
 ·rename_i j;obtain ⟨a,ea,rfl⟩:=r2;split at q2
  ·rename_i C fs ej;obtain ⟨hc,hn,hl,q2⟩:=q2;obtain ⟨dx,vs,hv,fo⟩:=R2.cel j a _ ea ej;have hA:a∈A2:=R2.sub a (List.mem_of_getElem? ea);refine ⟨a,C,dx,vs,rfl,hv,hc,hn,by rw [fo.len];exact hl,?_⟩;refine L.nx _ _ _ _ A2 μ2 q2 (x1.trans (x2.trans (eS (List.mem_of_getElem? ea) hv))) ⟨gU R2 ea ⟨dx,_,aU,?_⟩,(E1.ext x2 R1.sub).upd hA⟩;exact FsOk.put ((r1.ext x2 R1.sub).upd hA) (fo.upd hA)
  ·exact q2.elim
 ·exact q2.elim
end
abbrev nY:=List W->aA->DK->Prop
noncomputable def dU (K:Frag) (d:nY):Sp:=fun vs H Q _=>∃ (ws:List W) (h:aA) (A μ:List Addr) (k:DK),HeapRep K A μ h H/\RepWs K A μ H ws vs/\d ws h k /\
 ∀ w h' v H' A' μ',k w h'->Ext A A' μ μ' H H'->HeapRep K A' μ' h' H'->RepW K A' μ' H' w v->Q v H'
structure DFnW (P:Program) (w:World) (K:Frag) (mg:Str->Option Value) (base:Heap) (k:Nat) (x:Str) (d:nY):Prop where
 ok:∃ (f:Addr) (fd:FuncData) (ps:List Str),FnOk P w K mg base CX0 k f fd ps (dU K d)/\mg x=some (.ref f)/\PySem.W.keepIn K (.ref f)=true/\Binds K fd ps []
def aS2 (d:nY) (t:DTA):DTE:=fun δ h Q=>t δ h fun ws h1=>d ws h1 Q
def aS3 {K:Frag} {d:nY} {t:DTA} {σ:L2.St} {H:Hp} {Q:VK} (q:up K (aS2 d t) σ H Q):aL6 (dU K d) [] E0 (upA K t) σ H Q:=by
 obtain ⟨δ,h,A,μ,k,R,q,c⟩:=q;refine ⟨δ,h,A,μ,_,R,q,fun ws h1 vs H1 A1 μ1 q1 x1 R1 r1=>?_⟩;show dU K d (vs++[]) H1 Q E0;rw [List.append_nil];exact ⟨ws,h1,A1,μ1,_,R1,r1,q1,fun w h2 v H2 A2 μ2 q2 x2 R2 r2=>c w h2 v H2 A2 μ2 q2 (x1.trans x2) R2 r2⟩
def bS9 (C:Addr) (d:nY) (t:DTA):DTE:=fun δ h Q=>t δ h fun ws h1=>d (.c h1.length::ws) (h1++[.o C []]) fun w h2=>w=.d .none/\Q (.c h1.length) h2
def bK1 {K:Frag} {C:Addr} {d:nY} {t:DTA} {σ:L2.St} {H:Hp} {Q:VK} (q:up K (bS9 C d t) σ H Q):bP2 C (dU K d) [] E0 (upA K t) σ H Q:=by
 obtain ⟨δ,h,A,μ,k,R,q,c⟩:=q;refine ⟨δ,h,A,μ,_,R,q,fun ws h1 vs H1 A1 μ1 q1 x1 R1 r1=>?_⟩;intro x dx hx hdx ne;rw [List.append_nil];have hx':upd H1 dx (.own x) x=none:=by rw [aN ne.symm];exact hx
 have X1:Ext A1 A1 μ1 μ1 H1 (upd H1 dx (.own x)):=aW hdx;have X2:Ext A1 (x::A1) μ1 (μ1++[x]) (upd H1 dx (.own x)) (upd (upd H1 dx (.own x)) x (.ins C dx [])):=bY hx';have R2:HeapRep K (x::A1) (μ1++[x]) (h1++[.o C []]) (upd (upd H1 dx (.own x)) x (.ins C dx [])):=jE (R1.fresh hdx) hx' ⟨dx,[],aU,rfl⟩;have hμ:(μ1++[x])[h1.length]?=some x:=by rw [<- R1.len];simp
 refine ⟨.c h1.length::ws,h1++[.o C []],x::A1,μ1++[x],_,R2,⟨_,_,rfl,⟨x,hμ,rfl⟩,r1.ext (X1.trans X2) R1.sub⟩,q1,fun w h2 v H2 A2 μ2 q2 x2 R3 r3=>?_⟩;obtain ⟨rfl,q3⟩:=q2;have e:v=.non:=by have z:Rep K A2 H2 .none v:=r3;rw [Rep] at z;exact z
 exact ⟨e,c _ h2 _ H2 A2 μ2 q3 (x1.trans ((X1.trans X2).trans x2)) R3 ⟨x,x2.look _ _ hμ,rfl⟩⟩
def bT0 (C:Addr) (m:Str) (d:nY) (to:DTE) (t:DTA):DTE:=fun δ h Q=>to δ h fun o h1=>match o with
 | .c j=>(match h1[j]? with
  | some (.o C' fs)=>C'=C/\fs.lookup m=none/\t δ h1 fun ws h2=>d (.c j::ws) h2 Q
  | _=>False)
 | _=>False
def bK2 {K:Frag} {C:Addr} {m:Str} {d:nY} {to:DTE} {t:DTA} {σ:L2.St} {H:Hp} {Q:VK} (q:up K (bT0 C m d to t) σ H Q):bP1 C m (dU K d) [] E0 (up K to) (upA K t) σ H Q:=by
 obtain ⟨δ,h,A,μ,k,R,q,c⟩:=q;refine ⟨δ,h,A,μ,_,R,q,fun o h1 v H1 A1 μ1 q1 x1 R1 r1=>?_⟩;try dsimp only at q1
 split at q1
 ·rename_i j;obtain ⟨a,ea,rfl⟩:=r1;split at q1
  ·rename_i C' fs ej;obtain ⟨rfl,hl,q1⟩:=q1;obtain ⟨dx,vs,hv,fo⟩:=R1.cel j a _ ea ej;refine ⟨a,dx,vs,rfl,hv,fo.none hl,δ,h1,A1,μ1,_,⟨R1,R.2.ext x1 R.1.sub⟩,q1,fun ws h2 us H2 A2 μ2 q2 x2 R2 r2=>?_⟩;show dU K d (V.ref a::(us++[])) H2 Q E0;rw [List.append_nil];exact ⟨.c j::ws,h2,A2,μ2,_,R2,⟨_,_,rfl,⟨a,x2.look _ _ ea,rfl⟩,r2⟩,q2,fun w h3 v H3 A3 μ3 q3 x3 R3 r3=>c w h3 v H3 A3 μ3 q3 (x1.trans (x2.trans x3)) R3 r3⟩
  ·exact q1.elim
 ·exact q1.elim
section
variable {X:Cx} {x m:Str} {p pos apos:Pos} {e o:Expr} {es:List Expr} {to:DTE} {t:DTA} {d:nY} {k:Nat} {C f:Addr} {fd:FuncData} {ps:List Str}
def aS4 (F:DFnW X.prog X.w X.K X.mg X.base k x d) (hr:Room k X.A) (ha:DA X (e::es) t) (hg:autoParam (Gl X x) ZR) (hdb:autoParam ((x==("__debug__":Str))=false) ZD)
  (he:autoParam (starEach (e::es) X.env=(false,eval e X.env)::starEach es X.env) ZR) (hpl:autoParam ((backTo pos (starEach es X.env)).any (·.1)=false) ZR):DE X (.Call (.Name x p) (e::es) [] pos) (aS2 d t):=by
 obtain ⟨f,fd,ps,h1,h2,h3,h4⟩:=F.ok;exact aG (yT h1 hr hg h2 h3 h4 .nil yX ha hdb he hpl) fun _ _ _ q=>aS3 q
def bK3 (M:Mk X.K C f) (F:FnOk X.prog X.w X.K X.mg X.base CX0 k f fd ps (dU X.K d)) (hr:Room (k+1) X.A) (hm:X.mg x=some (.ref C)) (hb:Binds X.K fd ps []) (ha:DA X (e::es) t) (hg:autoParam (Gl X x) ZR) (hdb:autoParam ((x==("__debug__":Str))=false) ZD)
  (he:autoParam (starEach (e::es) X.env=(false,eval e X.env)::starEach es X.env) ZR) (hpl:autoParam ((backTo pos (starEach es X.env)).any (·.1)=false) ZR):DE X (.Call (.Name x p) (e::es) [] pos) (bS9 C d t) :=
 aG (bC7 M F hr hg hm hb .nil yX ha hdb he hpl) fun _ _ _ q=>bK1 q
def bK4 (c:Cls X.K C) (hm:Meth X.K C m f) (F:FnOk X.prog X.w X.K X.mg X.base CX0 k f fd ps (dU X.K d)) (hr:Room k X.A) (hb:Binds X.K fd ps []) (ho:DE X o to) (ha:DA X (e::es) t)
  (hbase:attributeBase o m X.env (eval o X.env)=eval o X.env)
  (hfew:((backTo pos (starEach (e::es) X.env)).all (fun x=>!x.1)&&(backToKw pos (keywordEach [] X.env)).all (fun x=>x.1.isSome)&&decide ((e::es).length+([]:List Keyword).length+(if ([]:List Keyword).isEmpty then 0 else 1) < 30))=true)
  (hline:(apos.endLine==pos.line)=true)
  (hst:starEach (e::es) X.env=(false,eval e X.env)::starEach es X.env) (hpl:(backTo pos (starEach es X.env)).any (·.1)=false):DE X (.Call (.Attribute o m apos) (e::es) [] pos) (bT0 C m d to t) :=
 aG (aS0 ho c hm F hr hb .nil yX ha hbase hfew hline hst hpl) fun _ _ _ q=>bK2 q
end
noncomputable def bK5:W->W->aA->DK->Prop:=fun o i h Q=>match o,i with
 | .c j,.d (.int k)=>(match h[j]? with
  | some (.r is)=>(match atI is k with
   | some m=>Q (.c m) h
   | none=>False)
  | _=>False)
 | _,_=>False
noncomputable def cW9:W->W->aA->DK->Prop:=fun o i h Q=>dIx o i h Q\/bK5 o i h Q
section
variable {X:Cx}
def cX0:IxR X (upR X.K cW9):=by
 intro value slice pins s σ H x y v u Q I rx ry h hs;obtain ⟨a,b,h,A,μ,k,R,ra,rb,q,c⟩:=h;rcases q with q | q
 ·exact dM2 value slice pins s σ H x y v u Q I rx ry ⟨a,b,h,A,μ,k,R,ra,rb,q,c⟩ hs
 ·unfold bK5 at q;split at q
  ·rename_i j i;obtain ⟨p,ep,rfl⟩:=ra;have eb:=bG rb;subst eb;split at q
   ·rename_i is ej;obtain ⟨vs,hv,io⟩:=R.cel j p _ ep ej;split at q
    ·rename_i m em;obtain ⟨b,e1,e2⟩:=io.at em;exact yW value slice pins s σ H _ _ v u Q I rx ry ⟨p,vs,i,.ref b,rfl,rfl,SqL.of hv,e1,c _ _ _ _ _ _ q .refl R ⟨b,e2,rfl⟩⟩ hs
    ·exact q.elim
   ·exact q.elim
  ·exact q.elim
def cG9 {a b:Expr} {pos:Pos} {ta tb:DTE} (ha:DE X a ta) (hb:DE X b tb) (hs:jO b:=by intro _ _;rfl):DE X (.Subscript a b pos) (dOp cW9 ta tb):=aG (aM0 cX0 ha hb hs) fun _ _ _ q=>uF q
end
noncomputable def uW (g:DTG) (tt:DTT) (te:DTE) (c:Option Nat) (all:List PyData):List PyData->DSt->aA->List Nat->(List Nat->aA->Prop)->Prop
 | [],_,h,ac,Q=>cond c all h/\Q ac h
 | x::r,δ,h,ac,Q=>cond c all h/\g (.d x) δ h fun δ2 h2=>tt δ2 h2 fun b h3 =>
  if b=true then te δ2 h3 fun w h4=>(match w with
   | .c j=>uW g tt te c all r δ2 h4 (ac++[j]) Q
   | .d _=>False
   | .v _=>False)
  else uW g tt te c all r δ2 h3 ac Q
def aS5 (ixs:List (Option Nat)) (ti:DTI) (g:DTG) (tt:DTT) (te:DTE):DTE:=fun δ h Q=>ti δ h fun xs c h1=>uW g tt te c xs xs (bJ ixs δ) h1 [] fun is h2=>Q (.c h2.length) (h2++[.r is])
theorem IsOk.snoc {μ:List Addr} {j:Nat} {b:Addr} (e:μ[j]?=some b):∀ {is:List Nat} {vs:List V},IsOk μ is vs->IsOk μ (is++[j]) (vs++[.ref b])
 | [],_,h=>by have e0:_=[]:=h;subst e0;exact ⟨b,[],rfl,e,rfl⟩
 | i::is,_,⟨a,vr,e1,r,h⟩=>by subst e1;exact ⟨a,_,rfl,r,IsOk.snoc e h⟩
section
variable {K:Frag} {A A' μ μ':List Addr} {H H':Hp} {h h':aA}
def aG3 {p:Addr} {is:List Nat} {vs:List V} (R:HeapRep K A μ h H) (h1:H p=some (.lst vs)) (h2:p∈A) (h3:p∉μ) (r:IsOk μ is vs):HeapRep K A (μ++[p]) (h++[(.r is)]) H:=by
 refine ⟨by rw [List.length_append,List.length_append,R.len];rfl,?_,fun a z=>?_,R.trk,fun i a ys e1 e2=>?_⟩
 ·rw [List.nodup_append];refine ⟨R.nd,(by simp),fun a ha b hb=>?_⟩;rw [List.mem_singleton.mp hb];rintro rfl;exact h3 ha
 ·rcases List.mem_append.mp z with z | z
  ·exact R.sub a z
  ·rw [List.mem_singleton.mp z];exact h2
 ·by_cases hi:i < μ.length
  ·rw [List.getElem?_append_left hi] at e1;rw [List.getElem?_append_left (by rw [<- R.len];exact hi)] at e2;exact (R.cel i a ys e1 e2).anti (fun _ z=>z) fun j _ b eb=>by rw [List.getElem?_append_left (List.getElem?_eq_some_iff.mp eb).1];exact eb
  ·have hle:μ.length<=i:=Nat.le_of_not_lt hi;rw [List.getElem?_append_right hle] at e1;rw [List.getElem?_append_right (by rw [<- R.len];exact hle),<- R.len] at e2;have hz:i - μ.length=0:=by
    have:=(List.getElem?_eq_some_iff.mp e1).1;simp at this;omega
   rw [hz] at e1 e2;simp at e1 e2;subst e1 e2;exact ⟨vs,h1,r.go fun j _ a e=>by rw [List.getElem?_append_left (List.getElem?_eq_some_iff.mp e).1];exact e⟩
end
section
variable {X:Cx} {tg iter elt:Expr} {ifs:List Expr} {sc S:Scope} {N':List Str} {ixs:List (Option Nat)} {body:List Stmt} {ti:DTI} {g:DTG} {tb:DTS} {tt:DTT} {te:DTE} {pos:Pos}
def aS6 {σ:L2.St} {H:Hp} {Q:VK} (q:up X.K (aS5 ixs ti g tt te) σ H Q):yZ ixs (upI X.K ti) (upG X.K g) (upT X.K tt) (up X.K te) σ H Q:=by
 obtain ⟨δ,h,A,μ,k,R,q,c⟩:=q;refine ⟨δ,h,A,μ,_,R,q,fun xs cc h1 J H2 A1 μ1 q1 x1 R1 hz hcd it=>?_⟩;intro acc hacc;have nA:=R1.notA hacc;have E1:=pU (ixs:=ixs) (R.2.ext x1 R.1.sub);refine ⟨fun i m ys σ' H'=>∃ δ' h' A' μ' ac,m=xs.length - i/\i<=xs.length/\H' acc=some (.lst ys)/\acc∈A'/\acc∉μ'/\Ext A1 A' μ1 μ' H2 H'/\Ab X.K A' μ' δ' h' σ' H'/\IsOk μ' ac ys/\ys.length<=i/\uW g tt te cc xs (xs.drop i) δ' h' ac fun is h2=>k (.c h2.length) (h2++[.r is]),
  ⟨_,bJ ixs δ,h1,acc::A1,μ1,[],rfl,Nat.zero_le _,aU,List.mem_cons_self,fun z=>nA (R1.sub _ z),fD hacc,⟨lN R1 hacc,E1.ext (fD hacc) R1.sub⟩,rfl,Nat.le_refl _,by simpa using q1⟩,?_⟩
 rintro i m ys σ' H' ⟨δ',h',A',μ',ac,rfl,hi,a1,a2,a3,y,R',rr,hyl,q'⟩
 by_cases hlt:i < xs.length
 ·rw [List.drop_eq_getElem_cons hlt] at q';obtain ⟨hcond,q'⟩:=q';obtain ⟨it1,_⟩:=it A' μ' H' h' y R'.1 hcond;obtain ⟨go,yl⟩:=it1 i xs[i] (by simp [hlt]);refine .inr ⟨go,fun v H3 hy=>?_⟩;obtain ⟨y2,R2,r2⟩:=yl v H3 hy;refine ⟨.d xs[i],δ',h',A',μ',_,⟨R2,R'.2.ext y2 R'.1.sub⟩,r2,q',fun δ4 h4 σ4 H4 A4 μ4 q4 x4 R4=>?_⟩;refine ⟨δ4,h4,A4,μ4,_,R4,q4,fun b h5 H5 A5 μ5 q5 x5 R5=>?_⟩;have z5:=(y2.trans x4).trans x5;obtain ⟨b1,b2,b3⟩:=jV z5 a1 a2 a3;dsimp only at q5 ⊢;cases b with
  | false =>
   rw [if_neg Bool.false_ne_true] at q5;rw [if_neg Bool.false_ne_true];exact ⟨xs.length - (i+1),by omega,δ4,h5,A5,μ5,ac,rfl,hlt,b1,b2,b3,y.trans z5,⟨R5,R4.2.ext x5 R4.1.sub⟩,rr.go (fun j _ a=>z5.look j a),by omega,q5⟩
  | true =>
   rw [if_pos rfl] at q5;rw [if_pos rfl];refine ⟨δ4,h5,A5,μ5,_,⟨R5,R4.2.ext x5 R4.1.sub⟩,q5,fun w h6 v6 H6 A6 μ6 q6 x6 R6 r6=>?_⟩;have z6:=z5.trans x6;obtain ⟨c1,c2,c3⟩:=jV z6 a1 a2 a3;cases w with
   | d x=>exact q6.elim
   | v u=>exact q6.elim
   | c j =>
    obtain ⟨bj,ebj,rfl⟩:=r6;have hl6:ys.length < sizeLine:=by omega
    refine ⟨c1,hl6,xs.length - (i+1),by omega,δ4,h6,A6,μ6,ac++[j],rfl,hlt,aU,c2,c3,(y.trans z6).aside hacc,⟨nJ R6 c2 c3,((R4.2.ext x5 R4.1.sub).ext x6 R5.sub).upd c2⟩,?_,?_,q6⟩
    ·exact (rr.go (fun j _ a=>z6.look j a)).snoc ebj
    ·rw [List.length_append,List.length_singleton];omega
 ·have e:i=xs.length:=by omega
  subst e;rw [List.drop_length] at q';obtain ⟨hcond,q'⟩:=q';obtain ⟨_,it2⟩:=it A' μ' H' h' y R'.1 hcond;have x2:=x1.trans y;obtain ⟨ν,e1,_⟩:=x2.pre;have hn:μ'.length=h'.length:=R'.1.len;refine .inl ⟨it2 _ (Nat.le_refl _),a1,c _ _ _ H' A' (μ'++[acc]) q' (x2.addc (x1.back hacc)) ?_ ⟨acc,by rw [<- hn];simp,rfl⟩⟩;exact aG3 R'.1 a1 a2 a3 rr
def aS7 {N:List Str} (hxe:X.xe=fun _ _=>False) (hc:X.calm=true) (hS:X.env.scope=S) (hXN:X.N=N) (SC:CompSc N N' ixs S sc) (hi:DI X tg iter ti)
  (hg:∀ cl C s H fp,DG (blk X N' sc cl C s H fp) tg g) (ht:∀ cl C s H fp,DIf (blk X N' sc cl C s H fp) ifs tt) (he:∀ cl C s H fp,DE (blk X N' sc cl C s H fp) elt te)
  (hs:autoParam (∀ x,foldedSetIterable iter X.env x=pure x) ZI):DE X (.ListComp elt [⟨tg,iter,ifs,0⟩] sc pos) (aS5 ixs ti g tt te) :=
 aG (zA (N':=N') (ixs:=ixs) (g:=upG X.K g) (tt:=upT X.K tt) (te:=up X.K te) hxe hc hS (by rw [hXN];exact SC) hi hg ht he hs) fun _ _ _ q=>aS6 q
end
noncomputable def aS8 (k:DK):DEnds where
 nx:=fun _ h=>k (.d .none) h
 rt:=k
section
variable {P:Program} {w:World} {K:Frag} {mg:Str->Option Value} {base:Heap}
def dO5 {x qual:Str} {st:Stmt} {f:Addr} {fd:FuncData} {N ps:List Str} {k:Nat} {d:nY} (F:Fun K x qual st f fd) (S:FnScope N ps (aK st)) (len:∀ ws h k,d ws h k->ws.length=ps.length)
  (hbody:∀ (cdv:Value) (A:Around) (outer:List Env) (s:Shared) (H:Hp) (E:XK),fd.code=cdv->Room k (A.deeper (envOfC qual (aK st) s.heap.objs.size f cdv)) ->
   ∃ t,DSs (nC CX0 P w K mg base N qual (aK st) f cdv A outer s H E).nox (bR st) t/\∀ ws h kk,d ws h kk->t (aS8 kk) (cZ N ws) h):FnOk P w K mg base CX0 (k+1) f fd ps (dU K d):=by
 refine cV2 F S (fun vs H Q E ⟨ws,h,A,μ,kk,R,r,q,c⟩=>by rw [eU r];exact len _ _ _ q) fun cdv A outer s H vs Q E hcd hr hsp=>?_;obtain ⟨ws,h,B,μ,kk,R,r,q,c⟩:=hsp;obtain ⟨t,ht,hq⟩:=hbody cdv A outer s H E hcd hr;refine ⟨_,ht,cZ N ws,h,B,μ,aS8 kk,⟨R,kL r⟩,hq ws h kk q,⟨fun δ' h' σ' H' A' μ' q' x' R'=>?_,fun δ' h' σ' H' A' μ' q' x' R'=>q'.elim,fun δ' h' σ' H' A' μ' q' x' R'=>q'.elim,fun z h' v H' A' μ' q' x' R' r'=>?_⟩⟩
 ·exact c _ h' _ H' A' μ' q' x' R'.1 (show Rep K A' H' .none .non by rw [Rep])
 ·exact c z h' v H' A' μ' q' x' R' r'
end
end DL
namespace ST
open PySem PySem.Spec PyProof.Rows
section
variable {prog:Program} {w:World} {A:Around} {E:Value->Shared->Prop} {s:Shared} {R:Result->Shared->Prop}
def sG {l:Addr} {items:Array Value} {ns:List Int} {Q:Value->Shared->Prop} (hh:A.handled=none) (hl:s.heap.IsTuple l items) (hi:IntsAre items.toList ns) (hb:items.size+1 < scanBound)
  (h:∀ h' tk,SetI prog w h' s.heap.objs.size (dd ns)->(∀ b o,s.heap.get? b=some o->h'.get? b=some o)->Q (.ref s.heap.objs.size) { s with heap:=h',toks:=tk }) :
  wpAny (model prog w) A (call (.type "set") [.ref l]) Q E s:=by
 have hnz:ns.length=items.size:=by have:=IntsAre.length hi;simpa using this.symm
 obtain ⟨c,tl,mro⟩:=PySem.F.called_set.mro;have made:=PySem.F.called_set.made;have sub:=PySem.F.called_set.sub;refine wpAny_call (codeAny_of_tree (wpAny_pure ⟨Code.quiet_builtin _ (by decide +kernel),codeAny_builtin PySem.F.entry_type_call ?_⟩));rw [Around.under_plain (weight_type_call_type "set" [.ref l] []) rfl];have h1:=PySem.F.called_set.notType;have h2:=PySem.F.called_set.canCreate;have h3:=PySem.F.typeCall_set_1 (.ref l)
 repeat (any_goals (first | assumption | wp_step))
 refine codeAny_mono (aR3 (.ref l) (E:=E) (Q₁:=fun obj s₁=>obj=.ref s.heap.objs.size/\s₁={ s with heap:=s.heap.push (nV w) }) ⟨rfl,rfl⟩) fun r s₁ hr=>?_;cases r with
 | error e=>exact hr
 | ok fl =>
  cases fl with
  | ret obj =>
   obtain ⟨rfl,rfl⟩:=hr;have gS:(s.heap.push (nV w)).get? s.heap.objs.size=some (nV w):=Heap.get?_push_size _ rfl;have hT:Shared.TypeIs { s with heap:=s.heap.push (nV w) } (.ref s.heap.objs.size) "set":=⟨_,gS,rfl⟩;have look:=PySem.F.called_set.init.lookup;have bnd:=PySem.F.called_set.init.bind (.ref s.heap.objs.size)
   repeat (any_goals (first | assumption | wp_step))
   refine codeAny_mono (codeAny_call_builtin (R:=wants (fun r s₂=>r=.none/\∃ h' tk,s₂={ s with heap:=h',toks:=tk }/\SetI prog w h' s.heap.objs.size (dd ns)/\(∀ b o,s.heap.get? b=some o->h'.get? b=some o)) E)
    PySem.F.called_set.init.plain PySem.F.entry_set_init (check_set_init_1 hT ?_)) fun r₂ s₂ hr₂=>?_
   ·obtain ⟨ol,hol,hcl,nl,hdl⟩:=hl;obtain ⟨oc,od,odt,osl⟩:=ol;dsimp only at hcl hdl;subst hcl;subst hdl;have hol2:(s.heap.push (nV w)).get? l=some { cls:=.type "tuple",dict:=od,data:=.seq items nl,slots:=osl }:=Heap.get?_push_of_some _ hol;have f1:=PySem.F.sub_tuple_set;have f2:=PySem.F.sub_tuple_frozenset;have f3:(Value.type "tuple"==Value.type "dict")=false:=by decide
    have il:(s.heap.push (nV w)).IsTuple l items:=⟨_,hol2,rfl,nl,rfl⟩;unfold Builtin.«set.__init__» noKeywords Builtin.Frozenset.updateFrom;generalize hPI:pyIter=PI
    wp_walk
    subst hPI;refine wpAny_pyIter_tuple il (wpAny_bind (wpAny_runValue ?_));have lt:l < s.heap.objs.size:=Heap.lt_size hol;have sz:(s.heap.push (nV w)).objs.size=s.heap.objs.size+1:=by rw [Heap.size_push]
    have hne:l≠(s.heap.push (nV w)).objs.size:=by rw [sz];exact Nat.ne_of_lt (Nat.lt_succ_of_lt lt)
    have hSf:s.heap.objs.size∉[(s.heap.push (nV w)).objs.size,l]:=by
     rw [sz];simp only [List.mem_cons,List.not_mem_nil,or_false,not_or];exact ⟨Nat.ne_of_lt (Nat.lt_succ_self _),Nat.ne_of_gt lt⟩
    refine aR2 (Walks.tuple (A:=A.in1.in1.in1) (by simp [hh]) _ l hne items) s.heap.objs.size hSf (fun i=>ns.getD i 0) (fun i v hv=>IntsAre.int_at hi i v (by rw [Array.getElem?_toList];exact hv)) hb (items.size - 0) 0 _ rfl (Nat.zero_le _)
     ⟨⟨_,Heap.get?_push_size _ rfl,rfl,rfl⟩,il.push _⟩ ⟨_,_,_,_,Heap.get?_push_of_some _ gS,aF9⟩ fun h' tk si kp=>?_
    rw [<- hnz,aR4] at si;refine wpAny_pure (wpAny_pure ⟨rfl,h',tk,rfl,si,fun b o e=>?_⟩);have bl:b < s.heap.objs.size:=Heap.lt_size e;refine kp b o (Nat.ne_of_lt bl) ?_ (Heap.get?_push_of_some _ (Heap.get?_push_of_some _ e));simp only [List.mem_singleton];rw [sz];exact Nat.ne_of_lt (Nat.lt_succ_of_lt bl)
   ·cases r₂ with
    | error e=>exact hr₂
    | ok fl₂ =>
     cases fl₂ with
     | ret r =>
      obtain ⟨rfl,h',tk,rfl,si,kp⟩:=hr₂
      repeat (any_goals (first | assumption | wp_step))
      exact h _ _ si kp
     | _=>exact hr₂.elim
  | _=>exact hr.elim
end
end ST
namespace L2
open PySem PySem.Spec PyProof.Rows ST
section
variable {X:Cx}
def tLS (K:Frag) (t:TA):TE:=fun σ H Q=>t σ H fun vs H1=>∃ (a:Addr) (ns:List Int),vs=[.ref a]/\SqT K H1 a (ns.map V.int)/\ns.length<=62/\Q (.int (dd ns).length) H1
def bK6 {e:Expr} {t:TA} {p p2 pos pos2:Pos} (hc:X.calm=true) (hg:Gl X "len") (hm:X.mg "len"=none) (hg2:Gl X "set") (hm2:X.mg "set"=none) (ha:PA X [e] t) (hs:starEach [e] X.env=[(false,eval e X.env)]) :
  PE X (.Call (.Name "len" p) [.Call (.Name "set" p2) [e] [] pos2] [] pos) (tLS X.K t):=by
 intro pins s σ H Q I h;refine wpAny_Call_Name_kw (eZ (u:=.builtin "len") I hg hm (by decide +kernel) ?_ (by decide) (by decide));refine PyProof.Rows.callWith_builtin1 (zJ (by rfl) ?_) rfl rfl;refine wpAny_Call_Name_kw (eZ (u:=.type "set") I hg2 hm2 (by decide +kernel) ?_ (by decide) (by decide));refine PyProof.Rows.callWith_type1 (thn (ha pos2 pins s σ H _ I h) fun us s1 ⟨vs,H1,I1,r1,a,ns,e1,sq,hn,q⟩=>?_) hs rfl;subst e1;obtain ⟨u,rfl,ru⟩:=iX r1;cases ru;obtain ⟨its,rv,pl,hz⟩:=I1.tuple sq;have hl:=rv.length;rw [List.length_map] at hl;have sb:scanBound=4096:=rfl;refine sG (I.ok.hd hc) (show s1.heap.IsTuple a its.toArray from pl) (by simpa using bJ4 rv) (by simp;omega) fun h2 tk2 si k2=>?_;obtain ⟨o,es,ep,tt,ho,pt⟩:=si;have hsz:es.size=(dd ns).length:=by
  have:=pt.ks.length_eq
  simpa using this
 have hd:=cG3 ns;refine call_len_set ho pt.ex pt.dat pt.fit (by omega) ?_;rw [hsz];exact ⟨.int (dd ns).length,H1,I1.kept (t':=_) k2,⟨_,rfl⟩,q⟩
def aG4:cF X (.type "int") (fun xs H Q=>∃ b:Bool,xs=[.bl b]/\Q (.int (if b then 1 else 0)) H):=by
 intro pins s σ H xs us Q I r h;obtain ⟨b,rfl,q⟩:=h;obtain ⟨u,rfl,ru⟩:=iX r;cases (show u=Value.bool b from ru);exact call_int_bool ⟨.int (if b then 1 else 0),H,I.tok _,⟨_,rfl⟩,q⟩
def tLR (t:TA):TE:=fun σ H Q=>t σ H fun vs H1=>∃ j:Int,vs=[.int j]/\(-(2^62)<=j/\j < 2^62/\j<=16000000)/\∀ p,H1 p=none->Q (.ref p) (upd H1 p (.lst ((List.range j.toNat).map fun (k:Nat)=>V.int k)))
def aG5 {e:Expr} {t:TA} {p p2 pos pos2:Pos} (hc:X.calm=true) (hg:Gl X "list") (hm:X.mg "list"=none) (hg2:Gl X "range") (hm2:X.mg "range"=none) (ha:PA X [e] t)
  (hs:starEach [e] X.env=[(false,eval e X.env)]) :
  PE X (.Call (.Name "list" p) [.Call (.Name "range" p2) [e] [] pos2] [] pos) (tLR t):=by
 intro pins s σ H Q I h;refine wpAny_Call_Name_kw (eZ (u:=.type "list") I hg hm (by decide +kernel) ?_ (by decide) (by decide));refine PyProof.Rows.callWith_type1 (zJ (by rfl) ?_) rfl rfl;refine wpAny_Call_Name_kw (eZ (u:=.type "range") I hg2 hm2 boot_range ?_ (by decide) (by decide));refine PyProof.Rows.callWith_type1 (thn (ha pos2 pins s σ H _ I h) fun us s1 ⟨vs,H1,I1,r1,j,e1,⟨b3,b4,b5⟩,q⟩=>?_) hs rfl;subst e1;obtain ⟨u,rfl,ru⟩:=iX r1;obtain ⟨t2,rfl⟩:=ru;refine call_range_1 ?_;refine call_list_range (n:=j.toNat) (I.ok.hd hc) (IsRange.new ..) (small_one (by decide) (by decide) b3 b4) (by rw [rangeSize_one];split<;>omega) (by omega) fun h' tk acc c' k hS hacc=>?_;rw [Heap.size_push] at hS ⊢;have k1:∀ b o,s1.heap.get? b=some o->h'.get? b=some o:=fun b o e=>k b o (Heap.get?_push_of_some _ e);have sz:s1.heap.objs.size<=s1.heap.objs.size+1:=Nat.le_succ _;refine ⟨.ref (s1.heap.objs.size+1),_,I1.laid (t':=tk) k1 sz ?_,rfl,q _ (I1.hok.fresh sz)⟩;refine ⟨by rw [List.length_map,List.length_range,sizeLine_eq];omega,acc.toList,c',?_,by rw [Array.toArray_toList];exact hS⟩;have gen:∀ (l:List Value) (m:List V),l.length=m.length->(∀ (k:Nat) v,l[k]?=some v->∃ x,m[k]?=some x/\RelV x v)->Vals m l:=by
  intro l;induction l with
  | nil=>intro m hm _;rw [List.length_eq_zero_iff.mp hm.symm];exact .nil
  | cons v l ih =>
   intro m hm hv;cases m with
   | nil=>simp at hm
   | cons x m =>
    obtain ⟨x',e1,e2⟩:=hv 0 v rfl;simp at e1;subst e1;exact .cons e2 (ih m (by simpa using hm) fun k v e=>hv (k+1) v (by simpa using e))
 refine gen _ _ (by simp [hacc.1]) fun k v e=>?_;rw [Array.getElem?_toList] at e;obtain ⟨tk,rfl⟩:=hacc.2 k v e;have hk:k < j.toNat:=by have:=(Array.getElem?_eq_some_iff.mp e).1;rw [hacc.1] at this;exact this
 exact ⟨V.int k,by simp [hk],tk,by simp⟩
end
end L2
namespace DL
open PySem PySem.Spec PyProof.Rows L2 ST
section
variable {X:Cx}
def cX1 (t:DTA):DTE:=fun δ h Q=>t δ h fun ws h1=>∃ xs ns,ws=[.d (.tuple xs)]/\iE xs=some ns/\ns.length<=62/\Q (.d (.int (dd ns).length)) h1
def bK7 {e:Expr} {t:DTA} {p p2 pos pos2:Pos} (hc:X.calm=true) (hg:Gl X "len") (hm:X.mg "len"=none) (hg2:Gl X "set") (hm2:X.mg "set"=none) (ha:DA X [e] t) (hs:starEach [e] X.env=[(false,eval e X.env)]) :
  DE X (.Call (.Name "len" p) [.Call (.Name "set" p2) [e] [] pos2] [] pos) (cX1 t):=aG (bK6 hc hg hm hg2 hm2 ha hs) fun σ H Q q=>by
 obtain ⟨δ,h,A,μ,k,R,q,c⟩:=q;refine ⟨δ,h,A,μ,_,R,q,fun ws h1 vs H1 A1 μ1 q1 x1 R1 r1=>?_⟩;obtain ⟨xs,ns,rfl,en,hl,q1⟩:=q1;obtain ⟨v,rfl,rv⟩:=cU r1;obtain ⟨a,vs,rfl,sq,rs⟩:=bB (h:=h1) rv rfl;have ev:=qJ en rs;subst ev;exact ⟨a,ns,rfl,sq.sq,hl,c _ h1 _ H1 A1 μ1 q1 x1 R1 (show Rep X.K A1 H1 (.int _) _ by rw [Rep])⟩
noncomputable def xQ:List W->aA->Option (W×aA)
 | [.d (.bool b)],h=>some (.d (.int (if b then 1 else 0)),h)
 | _,_=>none
def aG6:cF X (.type "int") (upC X.K (OfX xQ)):=by
 intro pins s σ H xs us Q I r h;obtain ⟨ws,h,A,μ,k,R,rw',⟨rr,h',e,q⟩,c⟩:=h;unfold xQ at e;split at e
 ·rename_i h0 b;cases e;obtain ⟨v,rfl,rv⟩:=cU rw';have ev:v=.bl b:=by have z:Rep X.K A H (.bool b) v:=rv;rw [Rep] at z;exact z
  subst ev;exact aG4 pins s σ H _ us Q I r ⟨b,rfl,c _ _ _ _ _ _ q .refl R (show Rep X.K A H (.int _) _ by rw [Rep])⟩
 ·cases e
def dO6 (t:DTA):DTF:=fun δ h Q=>t δ h fun ws h1=>∃ j:Int,ws=[.d (.int j)]/\(-(2^62)<=j/\j < 2^62/\j<=16000000)/\Q (rng 0 j.toNat) h1
def aG7 {e:Expr} {t:DTA} {p p2 pos pos2:Pos} (hc:X.calm=true) (hg:Gl X "list") (hm:X.mg "list"=none) (hg2:Gl X "range") (hm2:X.mg "range"=none) (ha:DA X [e] t)
  (hs:starEach [e] X.env=[(false,eval e X.env)]):DF X (.Call (.Name "list" p) [.Call (.Name "range" p2) [e] [] pos2] [] pos) (dO6 t):=aG (aG5 hc hg hm hg2 hm2 ha hs) fun σ H Q q=>by
 obtain ⟨δ,h,A,μ,k,R,q,c⟩:=q;refine ⟨δ,h,A,μ,_,R,q,fun ws h1 vs H1 A1 μ1 q1 x1 R1 r1=>?_⟩;obtain ⟨j,rfl,hb,q1⟩:=q1;obtain ⟨v,rfl,rv⟩:=cU r1;have e1:Rep X.K A1 H1 (.int j) v:=rv;rw [Rep] at e1;subst e1;obtain ⟨ν,e2,_⟩:=x1.pre;have rr:=aR5 (K:=X.K) (A:=A1) (H:=H1) 0 j.toNat;simp only [Int.zero_add] at rr;exact ⟨j,rfl,hb,fun b hf=>c _ h1 _ _ _ μ1 q1 (x1.trans (bY hf)) ⟨ν,e2⟩ (x1.back hf) (dM R1 hf rr)⟩
def dO7 (to:DTE) (tf:DTF):DTE:=fun δ h Q=>to δ h fun o h1=>match o with
 | .c j=>(match h1[j]? with
  | some (.l _)=>tf δ h1 fun ys h2=>(match h2[j]? with
   | some (.l xs)=>xs.length+ys.length<=sizeLine/\Q (.d .none) (h2.set j (.l (xs++ys)))
   | _=>False)
  | _=>False)
 | _=>False
def cH0 {o e0:Expr} {to:DTE} {tf:DTF} {apos cpos:Pos} (ho:DE X o to) (ha:DF X e0 tf)
  (hbase:attributeBase o "extend" X.env (eval o X.env)=eval o X.env)
  (hfew:((backTo cpos (starEach [e0] X.env)).all (fun x=>!x.1)&&(backToKw cpos (keywordEach [] X.env)).all (fun x=>x.1.isSome)&&decide ([e0].length+([]:List Keyword).length+(if ([]:List Keyword).isEmpty then 0 else 1) < 30))=true)
  (hline:(apos.endLine==cpos.line)=true) (hs:starEach [e0] X.env=(false,eval e0 X.env)::starEach [] X.env) :
  DE X (.Call (.Attribute o "extend" apos) [e0] [] cpos) (dO7 to tf):=aG (aM2 PySem.F.plainAttrs_list PySem.F.slot_list_extend PySem.F.type_list_extend aC7 ho (cN ha kI hs) hbase hfew hline hs rfl) fun σ H Q q=>by
 obtain ⟨δ,h,A,μ,k,R,q,c⟩:=q;refine ⟨δ,h,A,μ,_,R,q,fun o h1 vo H1 A1 μ1 q1 x1 R1 r1=>?_⟩;try dsimp only at q1
 split at q1
 ·rename_i j;obtain ⟨a,ea,rfl⟩:=r1;split at q1
  ·rename_i xs1 ex1;obtain ⟨vs1,hv1,_⟩:=R1.val j a xs1 ea ex1;refine ⟨.inl ⟨rfl,_,SqL.of hv1⟩,?_⟩;refine ⟨δ,h1,A1,μ1,_,⟨R1,R.2.ext x1 R.1.sub⟩,q1,fun ys h2 p H2 A2 μ2 q2 x2 hm hp R2=>?_⟩;split at q2
   ·rename_i xs ex;have ea2:μ2[j]?=some a:=by
     obtain ⟨ν,e1⟩:=hm;rw [e1,List.getElem?_append_left (List.getElem?_eq_some_iff.mp ea).1];exact ea
    have hl2:μ2.length=h2.length:=by simpa using R2.1.len
    obtain ⟨vy,hvy,ry⟩:=R2.1.val μ2.length p ys (by simp) (by rw [hl2];simp);obtain ⟨F1,_⟩:=gW R2.1 R2.2;have xf:=jF R1 hp x2 hm;obtain ⟨vx,hvx,rx⟩:=F1.val j a xs ea2 ex;obtain ⟨hz,q2⟩:=q2;have an:∀ b∈A2.filter (fun b=>decide (b≠p)),b∈A2:=fun b z=>(List.mem_filter.mp z).1;have ry':=ry.anti an;refine ⟨a,p,vx,vy,rfl,rfl,hvx,hvy,by rw [rx.length,ry.length];exact hz,?_⟩;have hA:a∈A2.filter (fun b=>decide (b≠p)):=F1.sub a (List.mem_of_getElem? ea2);refine c (.d .none) _ .non (upd H2 a (.lst (vx++vy))) (A2.filter fun b=>decide (b≠p)) μ2 q2 (x1.trans (xf.trans (eS (List.mem_of_getElem? ea2) hvx))) (gB F1 ea2 (ry'.append rx)) ?_;show Rep X.K (A2.filter fun b=>decide (b≠p)) (upd H2 a (.lst (vx++vy))) .none .non;rw [Rep]
   ·exact q2.elim
  ·exact q1.elim
 ·exact q1.elim
end
end DL
namespace DL
open PySem PySem.Spec PyProof.Rows L2
section
variable {X:Cx} {e k:Expr} {p2 pos apos cpos:Pos}
end
end DL
namespace CI
open PySem PySem.Spec PyProof.Rows L2 DL ST
abbrev XR (α:Type):=DSt->aA->Option (α×aA)
set_option genInjectivity true in
inductive Fl where
 | nx (δ:DSt) | rt (w:W) | bk (δ:DSt) | ct (δ:DSt)
abbrev XS:=DSt->aA->Option (Fl×aA)
abbrev XG:=W->DSt->aA->Option (DSt×aA)
abbrev XF:=List W->aA->Option (PyData×aA)
abbrev XFW:=List W->aA->Option (W×aA)
structure ObS where
 fnW:Str->Option XFW
 cls:Str->Option (Addr×XFW)
 om:Str->Option (Addr×XFW)
 fo:Addr->Str->Bool
noncomputable def xno {α:Type}:XR α:=fun _ _=>none
noncomputable def aD {α:Type} (a:α):XR α:=fun _ h=>some (a,h)
noncomputable def xb {α β:Type} (x:XR α) (f:α->XR β):XR β:=fun δ h=>(x δ h).bind fun p=>f p.1 δ p.2
structure Sta where
 bl:List Str
 gc:Str->Option PyData
 tk:Str->Option (Str->Option Int)
 fn:Str->Option XF
 ac:Str->List Nat
 cv:List Str
 N:List Str
 S:Scope
 top:Bool
 fuel:Nat
 ob:ObS
structure Evs where
 E:Sta->Expr->XR W
 T:Sta->Expr->XR Bool
 F:Sta->Expr->XR (List PyData)
 G:Sta->Expr->XG
 S:Sta->Stmt->XS
noncomputable def Evs.no:Evs:=⟨fun _ _=>xno,fun _ _=>xno,fun _ _=>xno,fun _ _ _ _ _=>none,fun _ _ _ _=>none⟩
noncomputable def fN (x:Str):Bool:=!(x==("__debug__":Str))&&(!(x==("__classdict__":Str))&&!(x==("__name__":Str)))
noncomputable def cH1 (S:Scope) (x:Str):Bool:=match S.names.lookup x with
 | some .local=>true
 | some .cell=>true
 | some .free=>true
 | _=>false
noncomputable def xR (S:Scope) (x:Str):Bool:=match S.names.lookup x with
 | some .local=>true
 | some .cell=>true
 | _=>false
noncomputable def fG (S:Scope) (x:Str):Bool:=match S.names.lookup x with
 | some .local=>true
 | _=>false
noncomputable def glB (S:Scope) (x:Str):Bool:=match S.names.lookup x with
 | some .globalImplicit=>true
 | _=>false
noncomputable def slot (st:Sta) (x:Str):Option Nat:=st.N.findIdx? (·==x)
noncomputable def aB (i:Nat):XR W:=fun δ h=>match δ[i]? with
 | some (some w)=>some (w,h)
 | _=>none
noncomputable def mE (st:Sta) (x:Str):Bool:=fN x&&glB st.S x
noncomputable def aS9 (st:Sta) (x:Str):XR W:=if fN x=true then
  (match slot st x with
   | some i=>if cH1 st.S x=true then aB i else xno
   | none=>(match st.gc x with
    | some d=>if glB st.S x=true then aD (.d d) else xno
    | none=>xno))
 else xno
noncomputable def aT1:Const->XR W
 | .none=>aD (.d .none)
 | .bool b=>aD (.d (.bool b))
 | .int i=>aD (.d (.int i))
 | .str x=>if PyData.strOk x=true then aD (.d (.str x)) else xno
 | _=>xno
mutual
noncomputable def aF:Nat->PyData->Bool
 | _,.none=>true
 | _,.bool _=>true
 | _,.int _=>true
 | _,.str _=>true
 | n+1,.list xs=>plainsB n xs
 | n+1,.tuple xs=>plainsB n xs
 | _,_=>false
noncomputable def plainsB:Nat->List PyData->Bool
 | _,[]=>true
 | n,x::xs=>aF n x&&plainsB n xs
end
noncomputable def jB (i j:Int):Bool:=(decide (-(2^64) < i)&&decide (i < 2^64))||(decide (-(2^64) < j)&&decide (j < 2^64))
noncomputable def bS (j:Int):Bool:=decide (0 < j)&&(decide (j < 1073741824)||decide (j.natAbs.log2 < 8000))
noncomputable def zK (i j:Int):Bool:=decide (0<=j)&&(decide (j<=1000000)&&decide (i.natAbs < 2^64))
noncomputable def bK8 (u w:W) (h:aA):Option (W×aA):=match u,w with
 | .d (.int i),.d (.int j)=>some (.d (.int (i+j)),h)
 | .d (.tuple xs),.d (.tuple ys)=>if xs.length+ys.length<=sizeLine then some (.d (.tuple (xs++ys)),h) else none
 | _,_=>(match ref h u,ref h w with
  | some (.list xs),some (.list ys)=>if xs.length+ys.length<=sizeLine then some (.d (.list (xs++ys)),h) else none
  | _,_=>none)
noncomputable def bK9 (u w:W) (h:aA):Option (W×aA):=match u,w with
 | .d (.int i),.d (.int j)=>if jB i j=true then some (.d (.int (i*j)),h) else none
 | .d (.tuple xs),.d (.int k)=>if k=1 then some (.d (.tuple xs),h) else if xs≠[]/\1 < k/\k < 2^63/\xs.length*k.toNat<=sizeLine then some (.d (.tuple (List.replicate k.toNat xs).flatten),h) else none
 | _,_=>none
noncomputable def eD (op:Operator) (u w:W) (h:aA):Option (W×aA):=match op with
 | .Add=>bK8 u w h
 | .Mult=>bK9 u w h
 | _=>(match u,w with
  | .d (.int i),.d (.int j)=>(match op with
   | .Sub=>some (.d (.int (i - j)),h)
   | .FloorDiv=>if bS j=true then some (.d (.int (i / j)),h) else none
   | .Mod=>if 0 < j then some (.d (.int (i%j)),h) else none
   | .Pow=>if zK i j=true then some (.d (.int (i^j.toNat)),h) else none
   | .RShift=>if 0<=j then some (.d (.int (i / 2^j.toNat)),h) else none
   | .BitAnd=>some (.d (.int (Builtin.bitAnd i j)),h)
   | _=>none)
  | _,_=>none)
noncomputable def aT2:CmpOp->Option (Int->Int->Bool)
 | .Lt=>some fun i j=>decide (i < j)
 | .LtE=>some fun i j=>decide (i<=j)
 | .Gt=>some fun i j=>decide (j < i)
 | .GtE=>some fun i j=>decide (j<=i)
 | _=>none
noncomputable def xEq (u w:W) (h:aA):Option Bool:=match ref h u,ref h w with
 | some a,some b=>if (aF 64 a&&aF 64 b)=true then some (PyData.eqv a b) else none
 | _,_=>none
noncomputable def xIs (u w:W):Option Bool:=match u,w with
 | .d a,.d b=>DL.isSame a b
 | _,_=>none
noncomputable def xIn (u w:W) (h:aA):Option Bool:=match ref h u,ref h w with
 | some d,some (.list xs)=>if (aF 64 (.list xs)&&aF 64 d)=true then some (xs.any fun z=>PyData.eqv z d) else none
 | some d,some (.tuple xs)=>if (aF 64 (.tuple xs)&&aF 64 d)=true then some (xs.any fun z=>PyData.eqv z d) else none
 | some d,some (.dict kvs)=>(match bO d with
  | some k=>some (kvs.any fun p=>decide (bO p.1=some k))
  | none=>none)
 | _,_=>none
noncomputable def cI (op:CmpOp) (u w:W) (h:aA):Option (Bool×aA):=match op with
 | .Eq=>(xEq u w h).map fun b=>(b,h)
 | .NotEq=>(xEq u w h).map fun b=>(!b,h)
 | .Is=>(xIs u w).map fun b=>(b,h)
 | .IsNot=>(xIs u w).map fun b=>(!b,h)
 | .In=>(xIn u w h).map fun b=>(b,h)
 | .NotIn=>(xIn u w h).map fun b=>(!b,h)
 | _=>(match u,w with
  | .d (.int i),.d (.int j)=>(aT2 op).map fun p=>(p i j,h)
  | _,_=>none)
noncomputable def asW (p:Bool×aA):W×aA:=(.d (.bool p.1),p.2)
noncomputable def xIr (u:W) (k:Int) (h:aA):Option (W×aA):=match u with
 | .c j=>(match h[j]? with
  | some (.r is)=>(atI is k).map fun m=>(.c m,h)
  | _=>none)
 | _=>none
noncomputable def xIx (u w:W) (h:aA):Option (W×aA):=match ref h u,w with
 | some (.list xs),.d (.int i)=>(atI xs i).map fun v=>(.d v,h)
 | some (.tuple xs),.d (.int i)=>(atI xs i).map fun v=>(.d v,h)
 | some (.dict kvs),.d d=>(match bO d with
  | some k=>(kvs.find? fun p=>decide (bO p.1=some k)).map fun p=>(.d p.2,h)
  | none=>none)
 | none,.d (.int k)=>xIr u k h
 | _,_=>none
noncomputable def xSl (u:W) (lo hi:Option Int) (h:aA):Option (W×aA):=match u with
 | .d (.tuple xs)=>some (.d (.tuple (cut xs lo hi)),h)
 | _=>(match ref h u with
  | some (.list xs)=>some (.d (.list (cut xs lo hi)),h)
  | _=>none)
noncomputable def bP:List W->aA->Option (W×aA)
 | [w],h=>(match ref h w with
  | some (.list xs)=>some (.d (.int xs.length),h)
  | some (.tuple xs)=>some (.d (.int xs.length),h)
  | _=>none)
 | _,_=>none
noncomputable def bU:List W->aA->Option (W×aA)
 | [w],h=>(match ref h w with
  | some (.list xs)=>some (.d (.tuple xs),h)
  | some (.tuple xs)=>some (.d (.tuple xs),h)
  | _=>none)
 | _,_=>none
noncomputable def jY:List W->aA->Option (W×aA)
 | [w],h=>(match ref h w with
  | some (.list xs)=>(dD xs).map fun bs=>(.d (.bool (bs.all id)),h)
  | _=>none)
 | _,_=>none
noncomputable def cH2 (x:Str):Option (List W->aA->Option (W×aA)) :=
 if x="len" then some bP else if x="tuple" then some bU else if x="all" then some jY else if x="dict" then some kT else if x="int" then some xQ else none
noncomputable def cH3 (T:Str):Option String :=
 if T="int" then some "int" else if T="bool" then some "bool" else if T="str" then some "str" else if T="tuple" then some "tuple" else if T="list" then some "list" else none
mutual
noncomputable def peq:PyData->PyData->Bool
 | .none,.none=>true
 | .bool a,.bool b=>a==b
 | .int a,.int b=>a==b
 | .str a,.str b=>a==b
 | .list a,.list b=>peqs a b
 | .tuple a,.tuple b=>peqs a b
 | _,_=>false
noncomputable def peqs:List PyData->List PyData->Bool
 | [],[]=>true
 | x::a,y::b=>peq x y&&peqs a b
 | _,_=>false
end
noncomputable def condB:Option Nat->List PyData->aA->Bool
 | none,_,_=>true
 | some i,xs,h=>(match h[i]? with
  | some (.l ys)=>peqs ys xs
  | _=>false)
noncomputable def dH (g:XG) (tb:XS) (c:Option Nat) (all:List PyData):List PyData->DSt->aA->Option (Fl×aA)
 | [],δ,h=>if condB c all h=true then some (.nx δ,h) else none
 | x::r,δ,h=>if condB c all h=true then
   (g (.d x) δ h).bind fun p=>(tb p.1 p.2).bind fun q=>(match q.1 with
    | .nx δ'=>dH g tb c all r δ' q.2
    | .ct δ'=>dH g tb c all r δ' q.2
    | .bk δ'=>some (.nx δ',q.2)
    | .rt w=>some (.rt w,q.2))
  else none
noncomputable def aX (g:XG) (tt:XR Bool) (te:XR W) (c:Option Nat) (all:List PyData):List PyData->DSt->aA->List PyData->Option (List PyData×aA)
 | [],_,h,ac=>if condB c all h=true then some (ac,h) else none
 | x::r,δ,h,ac=>if condB c all h=true then
   (g (.d x) δ h).bind fun p=>(tt p.1 p.2).bind fun q=>if q.1=true then
     (te p.1 q.2).bind fun y=>(match y.1 with
      | .d z=>aX g tt te c all r p.1 y.2 (ac++[z])
      | _=>none)
    else aX g tt te c all r p.1 q.2 ac
  else none
noncomputable def dN (c:XR Bool) (tb:XS):Nat->DSt->aA->Option (Fl×aA)
 | 0,_,_=>none
 | n+1,δ,h=>(c δ h).bind fun p=>if p.1=true then
   (tb δ p.2).bind fun q=>(match q.1 with
    | .nx δ'=>dN c tb n δ' q.2
    | .ct δ'=>dN c tb n δ' q.2
    | .bk δ'=>some (.nx δ',q.2)
    | .rt w=>some (.rt w,q.2))
  else some (.nx δ,p.2)
noncomputable def aO:Expr->Bool
 | .Starred _ _=>false
 | _=>true
noncomputable def aV (x:XR (List PyData)):XR W:=fun δ h=>(x δ h).bind fun p=>some (.c p.2.length,p.2++[.l p.1])
noncomputable def aQ (x:XR (List PyData)):XR W:=fun δ h=>(x δ h).bind fun p=>some (.d (.list p.1),p.2)
noncomputable def qN (f:Str->Option Int) (x:XR W):XR Bool:=xb x fun w=>(match w with
 | .d (.str s)=>aD (!(f s).isSome)
 | .d .none=>aD true
 | _=>xno)
noncomputable def xC1 (op:CmpOp) (x y:XR W):XR Bool:=xb x fun u=>xb y fun w=>fun _ h=>cI op u w h
noncomputable def xC2 (op op':CmpOp) (x y z:XR W):XR Bool:=xb x fun u=>xb y fun w=>fun δ h=>(cI op u w h).bind fun p=>if p.1=true then (z δ p.2).bind fun q=>cI op' w q.1 q.2 else some (false,p.2)
noncomputable def xC3 (op op' op'':CmpOp) (x y z t:XR W):XR Bool:=xb x fun u=>xb y fun w=>fun δ h=>(cI op u w h).bind fun p =>
 if p.1=true then (z δ p.2).bind fun q=>(cI op' w q.1 q.2).bind fun p'=>if p'.1=true then (t δ p'.2).bind fun q'=>cI op'' q.1 q'.1 q'.2 else some (false,p'.2) else some (false,p.2)
noncomputable def cJ (x:XR Bool):XR W:=fun δ h=>(x δ h).map asW
noncomputable def sH:List XG->List PyData->DSt->aA->Option (DSt×aA)
 | [],[],δ,h=>some (δ,h)
 | g::gs,x::xs,δ,h=>(g (.d x) δ h).bind fun p=>sH gs xs p.1 p.2
 | _,_,_,_=>none
noncomputable def fT (gs:List XG):XG:=fun w δ h=>(match w with
 | .d (.tuple xs)=>sH gs xs δ h
 | _=>none)
section
variable (v:Evs) (st:Sta)
noncomputable def dE:List Expr->XR (List W)
 | []=>aD []
 | e::es=>if aO e=true then xb (v.E st e) fun w=>xb (dE es) fun ws=>aD (w::ws) else xno
noncomputable def dO8:Expr->Bool
 | .Name _ _=>true
 | _=>false
noncomputable def aG8:Option Expr->XR (Option Int)
 | none=>aD none
 | some e=>xb (v.E st e) fun w=>(match w with
  | .d (.int i)=>aD (some i)
  | _=>xno)
noncomputable def aT3:List Expr->XR W
 | []=>xno
 | [a]=>v.E st a
 | a::b::r=>xb (v.E st a) fun w=>(match w with
  | .d (.bool true)=>aT3 (b::r)
  | .d (.bool false)=>aD (.d (.bool false))
  | _=>xno)
noncomputable def cH4:List Expr->XR W
 | []=>xno
 | [a]=>v.E st a
 | a::b::r=>xb (v.E st a) fun w=>(match w with
  | .d (.bool true)=>aD (.d (.bool true))
  | .d (.bool false)=>cH4 (b::r)
  | _=>xno)
noncomputable def aT4:List Expr->XR Bool
 | []=>xno
 | [a]=>v.T st a
 | a::b::r=>xb (v.T st a) fun c=>if c=true then aT4 (b::r) else aD false
noncomputable def cH5:List Expr->XR Bool
 | []=>xno
 | [a]=>v.T st a
 | a::b::r=>xb (v.T st a) fun c=>if c=true then aD true else cH5 (b::r)
noncomputable def lQ:Expr->Option (Str->Option Int)
 | .Name x _=>if mE st x&&(slot st x).isNone then st.tk x else none
 | _=>none
noncomputable def jZ (a:Expr) (ops:List CmpOp) (cs:List Expr):XR Bool:=match ops,cs with
 | [op],[b]=>(match lQ st b with
  | some f=>if op=.NotIn then qN f (v.E st a) else xno
  | none=>if behindInMarks op b=true then xno else xC1 op (v.E st a) (v.E st b))
 | [op,op'],[b,c]=>if lastMarks [op,op'] [b,c]=true then xno else xC2 op op' (v.E st a) (v.E st b) (v.E st c)
 | _,_=>xno
noncomputable def kU (a:Expr) (ops:List CmpOp) (cs:List Expr):XR Bool:=match ops,cs with
 | [op,op',op''],[b,c,d]=>if lastMarks [op,op',op''] [b,c,d]=true then xno else xC3 op op' op'' (v.E st a) (v.E st b) (v.E st c) (v.E st d)
 | _,_=>jZ v st a ops cs
noncomputable def kA (i j:Int):Bool:=decide (j - i<=16000000)&&(decide (-(2^62)<=i)&&(decide (i < 2^62)&&(decide (-(2^62)<=j)&&decide (j < 2^62))))
noncomputable def cK (x:XR W):XR (List PyData×Option Nat):=xb x fun w=>fun _ h=>(match w with
 | .d (.list xs)=>some ((xs,none),h)
 | .d (.tuple xs)=>some ((xs,none),h)
 | .c i=>(match h[i]? with
  | some (.l xs)=>some ((xs,some i),h)
  | _=>none)
 | _=>none)
noncomputable def lR:Expr->Bool
 | .Set _ _ _=>true
 | _=>false
noncomputable def uX:Expr->Bool
 | .Tuple _ _ _=>true
 | _=>false
noncomputable def qO (tg e:Expr):XR (List PyData×Option Nat):=match e with
 | .Call (.Name x _) [a] [] _=>if x="range" then (if mE st x&&(slot st x).isNone&&st.bl.contains x&&aO a then xb (v.E st a) fun w=>fun _ h=>(match w with
   | .d (.int j)=>if kA 0 j=true then some ((rng 0 j.toNat,none),h) else none
   | _=>none) else xno)
  else if x="enumerate" then (if mE st x&&(slot st x).isNone&&st.bl.contains x&&aO a&&uX tg then xb (v.E st a) fun u=>fun _ h=>(match iC u with
   | some xs=>some ((nW xs,none),h)
   | none=>none) else xno)
  else cK (v.E st e)
 | .Call (.Name x _) [a,b] [] _=>if x="range" then (if mE st x&&(slot st x).isNone&&st.bl.contains x&&aO a&&aO b then xb (v.E st a) fun u=>xb (v.E st b) fun w=>fun _ h=>(match u,w with
   | .d (.int i),.d (.int j)=>if kA i j=true then some ((rng i (j - i).toNat,none),h) else none
   | _,_=>none) else xno)
  else if x="zip" then (if mE st x&&(slot st x).isNone&&st.bl.contains x&&aO a&&aO b&&uX tg then xb (v.E st a) fun u=>xb (v.E st b) fun w=>fun _ h=>(match iC u,iC w with
   | some xs,some ys=>some ((nU xs ys,none),h)
   | _,_=>none) else xno)
  else cK (v.E st e)
 | _=>if lR e=true then xno else cK (v.E st e)
noncomputable def xS (sc:Scope):List Str:=(sc.names.filter fun p=>(p.2==.local||p.2==.free)&&!(p.1==(".0":Str))).map (·.1)
noncomputable def qP (N:List Str) (sc:Scope):List (Option Nat):=(xS sc).map fun x=>if sc.names.lookup x=some .free then N.findIdx? (·==x) else none
noncomputable def cH6 (sc S:Scope):Scope:={ sc with names:=sc.names.map fun (n,k)=>if (k==.free&&S.kind==.function&&S.names.lookup n==some .cell) then (n,.cell) else (n,k) }
noncomputable def uY (N:List Str) (sc S:Scope):Bool :=
 decide (sc.kind=.function)&&((sc.names.all fun y=>!(y.2==.cell))&&((sc.names.all fun y=>!(y.2==.local)||(sc.names.lookup y.1==some .local)) &&
  ((sc.names.all fun y=>!(y.2==.free)||(S.names.lookup y.1==some .cell||S.names.lookup y.1==some .free))&&(decide (xS sc).Nodup &&
   (((qP N sc).zip (xS sc)).all fun p=>match p.1 with
    | none=>true
    | some i=>decide (N[i]?=some p.2)&&decide (sc.names.lookup p.2=some NameKind.free))))))
noncomputable def Sta.blk (sc:Scope):Sta:={ st with N:=xS sc,S:=cH6 sc st.S,top:=false }
noncomputable def cH7:List Expr->XR Bool
 | []=>aD true
 | [c]=>v.T st c
 | _=>xno
noncomputable def qQ (elt tg iter:Expr) (ifs:List Expr) (sc:Scope):XR (List PyData) :=
 if uY st.N sc st.S&&!lR iter then xb (qO v st tg iter) fun p=>fun δ h=>aX (v.G (st.blk sc) tg) (cH7 v (st.blk sc) ifs) (v.E (st.blk sc) elt) p.2 p.1 p.1 (bJ (qP st.N sc) δ) h [] else xno
noncomputable def xPl (x:XR (List W)):XR (List PyData):=xb x fun ws=>fun _ h=>(match cY ws with
 | some xs=>if xs.length<=sizeLine then some (xs,h) else none
 | none=>none)
noncomputable def rgA:List Expr->Option Expr
 | [.Call (.Name y _) [b] [] _]=>if y="range" then some b else none
 | _=>none
noncomputable def okC (x:Str):Bool:=mE st x&&(slot st x).isNone&&st.bl.contains x
noncomputable def dW (e:Expr):XR (List PyData):=match e with
 | .List es _=>xPl (dE v st es)
 | .ListComp elt [⟨tg,iter,ifs,a⟩] sc _=>if a=0 then qQ v st elt tg iter ifs sc else xno
 | .Subscript a (.Slice lo hi none _) _=>xb (v.E st a) fun x=>xb (aG8 v st lo) fun l=>xb (aG8 v st hi) fun u=>fun _ h=>(match ref h x with
  | some (.list xs)=>some (cut xs l u,h)
  | _=>none)
 | .BinOp a .Add b _=>xb (v.E st a) fun u=>xb (v.E st b) fun w=>fun _ h=>(match ref h u,ref h w with
  | some (.list xs),some (.list ys)=>if xs.length+ys.length<=sizeLine then some (xs++ys,h) else none
  | _,_=>none)
 | .BinOp (.List es p) .Mult b _=>xb (aV (xPl (dE v st es))) fun u=>xb (v.E st b) fun w=>fun _ h=>(match u,w with
  | .c i,.d (.int k)=>(match h[i]? with
   | some (.l xs)=>if -(2^63)<=k/\k < 2^63/\xs.length*k.toNat<=sizeLine then some ((List.replicate k.toNat xs).flatten,h) else none
   | _=>none)
  | _,_=>none)
 | .Call (.Name x _) (a::es) [] _=>if x="list" then (match rgA (a::es) with
  | some b=>if okC st x&&okC st "range"&&aO b then xb (dE v st [b]) fun ws=>fun _ h=>(match ws with
   | [.d (.int j)]=>if -(2^62)<=j/\j < 2^62/\j<=16000000 then some (rng 0 j.toNat,h) else none
   | _=>none) else xno
  | none=>if mE st x&&(slot st x).isNone&&st.bl.contains x then xb (dE v st (a::es)) fun ws=>fun _ h=>(match ws with
  | [w]=>(match ref h w with
   | some (.list xs)=>some (xs,h)
   | some (.tuple xs)=>some (xs,h)
   | _=>none)
  | _=>none) else xno) else xno
 | _=>xno
noncomputable def bL0:Expr->Bool
 | .Slice _ _ _ _=>true
 | _=>false
noncomputable def jK:Expr->Bool
 | .Call _ _ _ _=>false
 | _=>true
noncomputable def cH8 (m:Str):Option (W->List W->aA->Option (W×aA)) :=
 if m="append" then some fun o ws h=>(match o,ws with
  | .c j,[.d x]=>(match h[j]? with
   | some (.l xs)=>if xs.length < sizeLine then some (.d .none,h.set j (.l (xs++[x]))) else none
   | _=>none)
  | _,_=>none)
 else none
noncomputable def gF (m:Str) (w:W) (h:aA):Bool:=if m="append" then (match w with
  | .c j=>(match h[j]? with
   | some (.l _)=>true
   | _=>false)
  | _=>false) else true
noncomputable def bT1 (o:Expr) (m:Str) (g:W->List W->aA->Option (W×aA)) (args:List Expr):XR W:=xb (v.E st o) fun w=>fun δ h=>if gF m w h=true then (dE v st args δ h).bind fun p=>g w p.1 p.2 else none
noncomputable def uZ (j:Nat) (ws:List W) (h:aA):Option (W×aA):=match ws,h[j]? with
 | [.d (.int i)],some (.l xs)=>(ixN xs.length i).bind fun n=>(xs[n]?).bind fun x=>if -(2^63)<=i/\i < 2^63 then some (.d x,h.set j (.l (xs.eraseIdx n))) else none
 | _,_=>none
noncomputable def cX2 (o a:Expr):XR W:=xb (v.E st o) fun w=>fun δ h=>match w with
 | .c j=>(match h[j]? with
  | some (.l _)=>(dE v st [a] δ h).bind fun p=>uZ j p.1 p.2
  | _=>none)
 | _=>none
noncomputable def cX3 (o a:Expr):XR W:=xb (v.E st o) fun w=>fun δ h=>match w with
 | .c j=>(match h[j]? with
  | some (.l _)=>(v.F st a δ h).bind fun p=>(match p.2[j]? with
   | some (.l xs)=>if xs.length+p.1.length<=sizeLine then some (.d .none,p.2.set j (.l (xs++p.1))) else none
   | _=>none)
  | _=>none)
 | _=>none
noncomputable def aT5:Expr->Bool
 | .Name _ _=>true
 | .Call (.Name _ _) (_::_) [] _=>true
 | _=>false
noncomputable def xMk (C:Addr) (m:XFW) (ws:List W) (h:aA):Option (W×aA):=(m (.c h.length::ws) (h++[.o C []])).bind fun p=>match p.1 with
 | .d .none=>some (.c h.length,p.2)
 | _=>none
noncomputable def xMo (o:Expr) (m:Str) (C:Addr) (g:XFW) (args:List Expr):XR W:=xb (v.E st o) fun w=>fun δ h=>match w with
 | .c j=>(match h[j]? with
  | some (.o C' fs)=>if C'=C/\fs.lookup m=none then (dE v st args δ h).bind fun p=>g (.c j::p.1) p.2 else none
  | _=>none)
 | _=>none
noncomputable def cX4 (o:Expr) (f:Str):XR W:=xb (v.E st o) fun w=>fun _ h=>match w with
 | .c j=>(match h[j]? with
  | some (.o C fs)=>if st.ob.fo C f=true then (fs.lookup f).map fun w=>(w,h) else none
  | _=>none)
 | _=>none
noncomputable def zL (f:Expr) (args:List Expr) (pos:Pos):XR W:=match f with
 | .Name x _=>if mE st x&&(slot st x).isNone then
   (match st.ob.fnW x with
   | some m=>(match args with
     | []=>xno
     | _::_=>xb (dE v st args) fun ws=>fun _ h=>m ws h)
   | none=>match st.ob.cls x with
   | some (C,m)=>(match args with
     | []=>xno
     | _::_=>xb (dE v st args) fun ws=>fun _ h=>xMk C m ws h)
   | none=>match st.fn x with
    | some m=>(match args with
     | []=>xno
     | _::_=>xb (dE v st args) fun ws=>fun _ h=>(m ws h).bind fun p=>some (.d p.1,p.2))
    | none=>if st.bl.contains x then
      (match cH2 x with
       | some g=>(match args with
        | []=>xno
        | _::_=>xb (dE v st args) fun ws=>fun _ h=>g ws h)
       | none=>if x="isinstance" then
         (match args with
          | [e,.Name T _]=>if aO e&&mE st T&&(slot st T).isNone&&st.bl.contains T then (match cH3 T with
            | some Ts=>xb (v.E st e) fun w=>fun _ h=>(ref h w).bind fun d=>some (.d (.bool (isi d Ts)),h)
            | none=>xno) else xno
          | _=>xno)
        else aQ (dW v st (.Call f args [] pos)))
     else xno)
   else xno
 | .Attribute o m apos=>match st.ob.om m with
  | some (C,g)=>(match args with
    | []=>xno
    | _::_=>if aT5 o&&(apos.endLine==pos.line)&&decide (args.length < 29)&&args.all aO then xMo v st o m C g args else xno)
  | none=>if jK o&&(apos.endLine==pos.line) then
   (match args with
    | []=>xno
    | a::es=>if m="pop" then (match es with
      | []=>if aO a=true then cX2 v st o a else xno
      | _=>xno)
     else if m="extend" then (match es with
      | []=>if aO a=true then cX3 v st o a else xno
      | _=>xno)
     else if decide (args.length < 29) then (match cH8 m with
     | some g=>bT1 v st o m g args
     | none=>xno) else xno)
   else xno
 | _=>xno
noncomputable def xLS:List W->aA->Option (W×aA)
 | [.d (.tuple xs)],h=>(match iE xs with
  | some ns=>if ns.length<=62 then some (.d (.int (ST.dd ns).length),h) else none
  | none=>none)
 | _,_=>none
noncomputable def okB (x:Str):Bool:=mE st x&&(slot st x).isNone&&st.bl.contains x&&(st.fn x).isNone
noncomputable def aT6 (f:Expr) (args:List Expr) (pos:Pos):XR W:=match f,args with
 | .Name x _,[.Call (.Name y _) as [] _]=>if x="len"/\y="set" then (match as with
   | [a]=>if okB st x&&okB st y&&aO a then xb (dE v st [a]) fun ws=>fun _ h=>xLS ws h else xno
   | _=>xno)
  else zL v st f args pos
 | _,_=>zL v st f args pos
noncomputable def kD (e:Expr):XR W:=match e with
 | .Name x _=>aS9 st x
 | .Constant c _ _=>aT1 c
 | .BinOp a op b _=>(match a,op with
  | .List es p,.Mult=>aQ (dW v st (.BinOp (.List es p) .Mult b p))
  | _,_=>xb (v.E st a) fun u=>xb (v.E st b) fun w=>fun _ h=>eD op u w h)
 | .Compare a ops cs _=>cJ (kU v st a ops cs)
 | .BoolOp .And vs _=>aT3 v st vs
 | .BoolOp .Or vs _=>cH4 v st vs
 | .UnaryOp .Not a _=>xb (v.E st a) fun w=>(match w with
  | .d (.bool b)=>aD (.d (.bool (!b)))
  | _=>xno)
 | .UnaryOp .USub a _=>xb (v.E st a) fun w=>(match w with
  | .d (.int i)=>aD (.d (.int (-i)))
  | _=>xno)
 | .IfExp c a b _=>xb (v.T st c) fun t=>if t=true then v.E st a else v.E st b
 | .Tuple es _ _=>xb (xPl (dE v st es)) fun xs=>aD (.d (.tuple xs))
 | .List es p=>aQ (dW v st (.List es p))
 | .ListComp elt gs sc p=>aQ (dW v st (.ListComp elt gs sc p))
 | .Subscript a s _=>(match s with
  | .Slice lo hi none _=>xb (v.E st a) fun x=>xb (aG8 v st lo) fun l=>xb (aG8 v st hi) fun u=>fun _ h=>xSl x l u h
  | _=>if bL0 s=true then xno else (match lQ st a with
   | some f=>xb (v.E st s) fun w=>(match w with
    | .d (.str z)=>(match f z with
     | some i=>aD (.d (.int i))
     | none=>xno)
    | _=>xno)
   | none=>xb (v.E st a) fun x=>xb (v.E st s) fun y=>fun _ h=>xIx x y h))
 | .Call f args [] p=>aT6 v st f args p
 | .Attribute o f _=>if jK o=true then cX4 v st o f else xno
 | .Dict [] [] _=>aD (.d (.dict []))
 | _=>xno
noncomputable def aT7 (e:Expr):XR Bool:=match e with
 | .UnaryOp .Not a _=>xb (v.T st a) fun b=>aD (!b)
 | .BoolOp .And vs _=>aT4 v st vs
 | .BoolOp .Or vs _=>cH5 v st vs
 | .Compare a ops cs _=>jZ v st a ops cs
 | .IfExp _ _ _ _=>xno
 | _=>xb (v.E st e) fun w=>(match w with
  | .d (.bool b)=>aD b
  | _=>xno)
noncomputable def aT8:List Expr->List XG
 | []=>[]
 | e::es=>v.G st e::aT8 es
noncomputable def cX5 (es:List Expr) (xs:List PyData) (δ:DSt) (h:aA):Option (DSt×aA):=sH (aT8 v st es) xs δ h
noncomputable def vA (e:Expr):XG:=match e with
 | .Name x _=>(match slot st x with
  | some i=>if xR st.S x&&(st.top||fG st.S x) then fun w δ h=>some (δ.set i (some w),h) else fun _ _ _=>none
  | none=>fun _ _ _=>none)
 | .Tuple es _ _=>if es.all aO=true then fT (aT8 v st es) else fun _ _ _=>none
 | .Subscript o i _=>if bL0 i=true then fun _ _ _=>none else fun w δ h=>(v.E st o δ h).bind fun p=>(v.E st i δ p.2).bind fun q=>(match p.1,q.1,w with
  | .c j,.d y,.d x=>(match q.2[j]?,y with
   | some (.l xs),.int k=>(ixN xs.length k).map fun n=>(δ,q.2.set j (.l (xs.set n x)))
   | some (.k kvs),_=>if (bO y).isSome=true/\kvs.length < sizeLine then some (δ,q.2.set j (.k (mD kvs y x))) else none
   | _,_=>none)
  | _,_,_=>none)
 | _=>fun _ _ _=>none
noncomputable def kW (g:XG) (tt:XR Bool) (te:XR W) (c:Option Nat) (all:List PyData):List PyData->DSt->aA->List Nat->Option (List Nat×aA)
 | [],_,h,ac=>if condB c all h=true then some (ac,h) else none
 | x::r,δ,h,ac=>if condB c all h=true then
   (g (.d x) δ h).bind fun p=>(tt p.1 p.2).bind fun q=>if q.1=true then
     (te p.1 q.2).bind fun y=>(match y.1 with
      | .c j=>kW g tt te c all r p.1 y.2 (ac++[j])
      | _=>none)
    else kW g tt te c all r p.1 q.2 ac
  else none
noncomputable def aT9 (tg iter:Expr) (ifs:List Expr) (sc:Scope):XR W :=
 if uY st.N sc st.S&&!lR iter then xb (qO v st tg iter) fun p=>fun δ h=>(kW (v.G (st.blk sc) tg) (cH7 v (st.blk sc) ifs) (aV (xPl (aD []))) p.2 p.1 p.1 (bJ (qP st.N sc) δ) h []).bind fun q=>some (.c q.2.length,q.2++[.r q.1]) else xno
noncomputable def cH9 (e:Expr):XR W:=match e with
 | .ListComp (.List [] _) [⟨tg,iter,ifs,a⟩] sc _=>if a=0 then aT9 v st tg iter ifs sc else xno
 | _=>v.E st e
noncomputable def bT2 (o:Expr) (f:Str) (e:Expr):XS:=fun δ h=>(cH9 v st e δ h).bind fun p=>(v.E st o δ p.2).bind fun q=>match q.1 with
 | .c j=>(match q.2[j]? with
  | some (.o C fs)=>if st.ob.fo C f=true/\fs.length < 1000 then some (.nx δ,q.2.set j (.o C (aS1 f p.1 fs))) else none
  | _=>none)
 | _=>none
noncomputable def kX:Expr->Bool
 | .ListComp _ _ _ _=>true
 | .SetComp _ _ _ _=>true
 | .DictComp _ _ _ _ _=>true
 | _=>false
noncomputable def cI0 (e tg:Expr):Bool:=uX e&&(match tg with
 | .Tuple _ _ _=>true
 | .List _ _=>true
 | _=>false)
noncomputable def xSs:List Stmt->XS
 | [],δ,h=>some (.nx δ,h)
 | s::r,δ,h=>(v.S st s δ h).bind fun p=>(match p.1 with
  | .nx δ'=>xSs r δ' p.2
  | f=>some (f,p.2))
noncomputable def cX6:Expr->Bool
 | .Dict [] [] _=>true
 | _=>false
noncomputable def cX7:XR W:=fun _ h=>some (.c h.length,h++[.k []])
noncomputable def aY (i:Nat) (x:XR W):XS:=fun δ h=>(x δ h).bind fun p=>some (.nx (δ.set i (some p.1)),p.2)
noncomputable def swB (e:Expr) (x:Str) (px:Pos):Bool:=match e with
 | .ListComp _ _ sc p=>fG st.S x&&(px.line==p.line)&&!(sc.names.any fun (n,k)=>n==x&&(k==.local||k==.cell))
 | _=>false
noncomputable def nZ (s:Stmt):XS:=match s with
 | .Return (some e) _=>fun δ h=>(v.E st e δ h).bind fun p=>some (.rt p.1,p.2)
 | .If c a b _=>fun δ h=>(v.T st c δ h).bind fun p=>if p.1=true then xSs v st a δ p.2 else xSs v st b δ p.2
 | .Expr e _=>if kX e=true then fun _ _=>none else fun δ h=>(v.E st e δ h).bind fun p=>some (.nx δ,p.2)
 | .Pass _=>fun δ h=>some (.nx δ,h)
 | .Break _=>fun δ h=>some (.bk δ,h)
 | .Continue _=>fun δ h=>some (.ct δ,h)
 | .For tg iter body [] _=>if lR iter=true then fun _ _=>none else fun δ h=>(qO v st tg iter δ h).bind fun p=>dH (v.G st tg) (xSs v st body) p.1.2 p.1.1 p.1.1 δ p.2
 | .While c body [] _=>dN (v.T st c) (xSs v st body) st.fuel
 | .Assign [.Name x px] e _=>(match slot st x with
  | some i=>if xR st.S x&&(st.top||fG st.S x) then
    (if kX e=true then (if (swB st e x px||!(fG st.S x))=true then aY i (if st.cv.contains x=true then aV (dW v st e) else aQ (dW v st e)) else fun _ _=>none)
    else if (st.cv.contains x&&cX6 e)=true then aY i cX7
    else if (st.cv.contains x&&!dO8 e)=true then aY i (aV (v.F st e)) else aY i (v.E st e))
   else fun _ _=>none
  | none=>fun _ _=>none)
 | .Assign [.Attribute o f _] e _=>bT2 v st o f e
 | .Assign [tg] e _=>if (kX e||cI0 e tg||!(aO tg))=true then fun _ _=>none else fun δ h=>(v.E st e δ h).bind fun p=>(v.G st tg p.1 δ p.2).bind fun q=>some (.nx q.1,q.2)
 | _=>fun _ _=>none
end
noncomputable def step (v:Evs):Evs:=⟨kD v,aT7 v,dW v,vA v,nZ v⟩
noncomputable def evs:Nat->Evs
 | 0=>.no
 | n+1=>step (evs n)
noncomputable def aT (s:Stmt):List Str:=(cO s).args.map (·.arg)
noncomputable def fO (s:Stmt):List Str:=aT s++((aK s).names.filter fun p=>(p.2==.local||p.2==.cell)&&!((aT s).contains p.1)).map (·.1)
noncomputable def fnB (s:Stmt):Bool:=decide ((aK s).kind=.function)&&(!(aK s).isCoroutine&&(!(aK s).isGenerator&&(decide (fO s).Nodup&&(((aT s).all fun x=>xR (aK s) x)&&((aK s).names.all fun y=>!(y.2==.free))))))
open Classical in
noncomputable def ends (h0:aA) (p:Fl×aA):Option (PyData×aA):=if okP h0 p.2 then (match p.1 with
 | .nx _=>some (.none,p.2.take h0.length)
 | .rt (.d z)=>some (z,p.2.take h0.length)
 | .rt (.c i)=>(match p.2[i]? with
  | some (.l xs)=>if h0.length<=i then some (.list xs,p.2.take h0.length) else none
  | some (.k kvs)=>if h0.length<=i then some (.dict kvs,p.2.take h0.length) else none
  | _=>none)
 | _=>none) else none
noncomputable def zM (p:Fl×aA):Option (W×aA):=match p.1 with
 | .nx _=>some (.d .none,p.2)
 | .rt w=>some (w,p.2)
 | _=>none
structure Top where
 bl:List Str
 gc:Str->Option PyData
 tk:Str->Option (Str->Option Int)
 defs:Str->Option Stmt
 ac:Str->List Nat
 cv:Str->List Str
 fuel:Nat
 deep:Nat
 wf:Str->Bool
 ini:Str->Option (Addr×Stmt)
 mt:Str->Option (Addr×Stmt)
 fo:Addr->Str->Bool
noncomputable def Top.sta (t:Top) (fn:Str->Option XF) (ob:ObS) (x:Str) (s:Stmt):Sta:=⟨t.bl,t.gc,t.tk,fn,t.ac,t.cv x,fO s,aK s,true,t.fuel,ob⟩
noncomputable def lS (t:Top) (fn:Str->Option XF) (ob:ObS) (x:Str) (s:Stmt):XF:=fun ws h =>
 if fnB s=true/\ws.length=(aT s).length then (xSs (evs t.deep) (t.sta fn ob x s) (bR s) (cZ (fO s) ws) h).bind (ends h) else none
noncomputable def iF (t:Top) (fn:Str->Option XF) (ob:ObS) (x:Str) (s:Stmt):XFW:=fun ws h =>
 if fnB s=true/\ws.length=(aT s).length then (xSs (evs t.deep) (t.sta fn ob x s) (bR s) (cZ (fO s) ws) h).bind zM else none
abbrev fnT (t:Top) (D:Str->XF):Str->Option XF:=fun y=>(t.defs y).map fun _=>D y
abbrev obT (t:Top) (W I M:Str->XFW):ObS:=⟨fun y=>if t.wf y=true then (t.defs y).map fun _=>W y else none,fun y=>(t.ini y).map fun p=>(p.1,I y),fun y=>(t.mt y).map fun p=>(p.1,M y),t.fo⟩
mutual
noncomputable def aE (t:Top):Nat->Str->XF
 | 0,_=>fun _ _=>none
 | d+1,x=>(match t.defs x with
  | some s=>lS t (fnT t fun y=>aE t d y) (obT t (fun y=>callW t d y) (fun y=>callI t d y) fun y=>callM t d y) x s
  | none=>fun _ _=>none)
noncomputable def callW (t:Top):Nat->Str->XFW
 | 0,_=>fun _ _=>none
 | d+1,x=>(match t.defs x with
  | some s=>iF t (fnT t fun y=>aE t d y) (obT t (fun y=>callW t d y) (fun y=>callI t d y) fun y=>callM t d y) x s
  | none=>fun _ _=>none)
noncomputable def callM (t:Top):Nat->Str->XFW
 | 0,_=>fun _ _=>none
 | d+1,x=>(match t.mt x with
  | some (_,s)=>iF t (fnT t fun y=>aE t d y) (obT t (fun y=>callW t d y) (fun y=>callI t d y) fun y=>callM t d y) x s
  | none=>fun _ _=>none)
noncomputable def callI (t:Top):Nat->Str->XFW
 | 0,_=>fun _ _=>none
 | 1,_=>fun _ _=>none
 | d+2,x=>(match t.ini x with
  | some (_,s)=>iF t (fnT t fun y=>aE t d y) (obT t (fun y=>callW t d y) (fun y=>callI t d y) fun y=>callM t d y) x s
  | none=>fun _ _=>none)
end
end CI
namespace CI
open PySem PySem.Spec PyProof.Rows L2 DL
noncomputable def Of {α:Type} (x:XR α):DSt->aA->(α->aA->Prop)->Prop:=fun δ h Q=>∃ a h',x δ h=some (a,h')/\Q a h'
def OfG (g:XG):DTG:=fun w δ h Q=>∃ δ' h',g w δ h=some (δ',h')/\Q δ' h'
noncomputable def qR (E:DEnds) (h:aA):Fl->Prop
 | .nx δ=>E.nx δ h
 | .rt w=>E.rt w h
 | .bk δ=>E.bk δ h
 | .ct δ=>E.ct δ h
def OfS (x:XS):DTS:=fun E δ h=>∃ fl h',x δ h=some (fl,h')/\qR E h' fl
def OfI (x:XR (List PyData×Option Nat)):DTI:=fun δ h Q=>∃ xs c h',x δ h=some ((xs,c),h')/\Q xs c h'
def Of2 (f:W->W->aA->Option (W×aA)):D2:=fun u w h Q=>∃ r h',f u w h=some (r,h')/\Q r h'
def OfC (f:List W->aA->Option (W×aA)):DC:=fun ws h Q=>∃ r h',f ws h=some (r,h')/\Q r h'
noncomputable def kE (m:XF):DSp:=fun ws h k=>∃ z h',m ws h=some (z,h')/\k z h'
section
variable {α β:Type} {x:XR α} {f:α->XR β} {δ:DSt} {h:aA} {Q:α->aA->Prop} {Q':β->aA->Prop}
def bH (q:Of (xb x f) δ h Q'):Of x δ h fun a h1=>Of (f a) δ h1 Q':=by
 obtain ⟨b,h',e,q⟩:=q;unfold xb at e;cases e1:x δ h with
 | none=>rw [e1] at e;cases e
 | some p =>
  rw [e1] at e;obtain ⟨a,h1⟩:=p;exact ⟨a,h1,e1,b,h',e,q⟩
def bT (q:Of (xno:XR α) δ h Q):False:=by obtain ⟨_,_,e,_⟩:=q;cases e
def aZ {a:α} (q:Of (aD a) δ h Q):Q a h:=by
 obtain ⟨b,h',e,q⟩:=q;cases e;exact q
end
def bind_some {α β:Type} {x:Option α} {f:α->Option β} {b:β} (e:x.bind f=some b):∃ a,x=some a/\f a=some b:=Option.bind_eq_some_iff.mp e
def map_some {α β:Type} {x:Option α} {f:α->β} {b:β} (e:x.map f=some b):∃ a,x=some a/\f a=b:=Option.map_eq_some_iff.mp e
section
variable {X:Cx} {e tg:Expr} {es:List Expr} {eo:Option Expr} {s:Stmt} {ss:List Stmt}
def bI {t t':DTE} (d:DE X e t) (m:∀ δ h Q,t' δ h Q->t δ h Q):DE X e t':=aG d fun σ H Q ⟨δ,h,A,μ,k,R,q,c⟩=>⟨δ,h,A,μ,k,R,m δ h k q,c⟩
def aU0 {t t':DTT} (d:DT X e t) (m:∀ δ h Q,t' δ h Q->t δ h Q):DT X e t':=iO d fun σ H Q ⟨δ,h,A,μ,k,R,q,c⟩=>⟨δ,h,A,μ,k,R,m δ h k q,c⟩
def cX8 {t t':DTT} (d:DW X e t) (m:∀ δ h Q,t' δ h Q->t δ h Q):DW X e t':=rQ d fun σ H Q ⟨δ,h,A,μ,k,R,q,c⟩=>⟨δ,h,A,μ,k,R,m δ h k q,c⟩
def cX9 {t t':DTA} (d:DA X es t) (m:∀ δ h Q,t' δ h Q->t δ h Q):DA X es t':=rR d fun σ H Q ⟨δ,h,A,μ,k,R,q,c⟩=>⟨δ,h,A,μ,k,R,m δ h k q,c⟩
def sI {t t':DTF} (d:DF X e t) (m:∀ δ h Q,t' δ h Q->t δ h Q):DF X e t':=aG d fun σ H Q ⟨δ,h,A,μ,k,R,q,c⟩=>⟨δ,h,A,μ,k,R,m δ h k q,c⟩
def cY0 {t t':DTO} (d:DO X eo t) (m:∀ δ h Q,t' δ h Q->t δ h Q):DO X eo t':=rS d fun σ H Q ⟨δ,h,A,μ,k,R,q,c⟩=>⟨δ,h,A,μ,k,R,m δ h k q,c⟩
def sJ {t t':DTS} (d:DS X s t) (m:∀ E δ h,t' E δ h->t E δ h):DS X s t':=bF d fun D σ H ⟨δ,h,A,μ,E,R,q,L⟩=>⟨δ,h,A,μ,E,R,m E δ h q,L⟩
def bT3 {t t':DTS} (d:DSs X ss t) (m:∀ E δ h,t' E δ h->t E δ h):DSs X ss t':=jS d fun D σ H ⟨δ,h,A,μ,E,R,q,L⟩=>⟨δ,h,A,μ,E,R,m E δ h q,L⟩
def cI1 {t t':DTG} (d:DG X e t) (m:∀ w δ h Q,t' w δ h Q->t w δ h Q):DG X e t':=mO d fun v σ H Q ⟨w,δ,h,A,μ,k,R,r,q,c⟩=>⟨w,δ,h,A,μ,k,R,r,m w δ h k q,c⟩
def aG9 {t t':DTI} (d:DI X tg e t) (m:∀ δ h Q,t' δ h Q->t δ h Q):DI X tg e t':=iP d fun σ H R ⟨δ,h,A,μ,k,R0,q,c⟩=>⟨δ,h,A,μ,k,R0,m δ h k q,c⟩
def cY1 {t t':DTT} (d:DIf X es t) (m:∀ δ h Q,t' δ h Q->t δ h Q):DIf X es t':=fun pins s σ H Q I ⟨δ,h,A,μ,k,R,q,c⟩=>d pins s σ H Q I ⟨δ,h,A,μ,k,R,m δ h k q,c⟩
def aU1 {t t':DTE} (d:DE X e t) (d':DE X e t'):DE X e (fun δ h Q=>t δ h Q\/t' δ h Q):=fun pins s σ H Q I ⟨δ,h,A,μ,k,R,q,c⟩=>q.elim (fun q=>d pins s σ H Q I ⟨δ,h,A,μ,k,R,q,c⟩) fun q=>d' pins s σ H Q I ⟨δ,h,A,μ,k,R,q,c⟩
def bW:DE X e (Of xno):=bI fQ fun _ _ _ q=>bT q
def iW:DF X e (Of xno):=sI bS4 fun _ _ _ q=>(bT q).elim
def mF:DT X e (Of xno):=fun pins s σ H Q I ⟨_,_,_,_,_,_,q,_⟩=>(bT q).elim
def kY {x:XS} (n:∀ δ h,x δ h=none):DS X s (OfS x):=sJ cV5 fun E δ h q=>by obtain ⟨_,_,e,_⟩:=q;rw [n] at e;cases e
def aH0 {x:XG} (n:∀ w δ h,x w δ h=none):DG X e (OfG x):=fun pins s σ H v u Q I r ⟨w,δ,h,A,μ,k,R,rr,q,c⟩=>by obtain ⟨_,_,e,_⟩:=q;rw [n] at e;cases e
def gR {f:Value->Value->Sem Value} {r r':D2} (ho:OpR X f (upR X.K r)) (m:∀ u w h Q,r' u w h Q->r u w h Q):OpR X f (upR X.K r'):=fun pins s σ H x y v u Q I rx ry ⟨a,b,h,A,μ,k,R,ra,rb,q,c⟩=>ho pins s σ H x y v u Q I rx ry ⟨a,b,h,A,μ,k,R,ra,rb,m _ _ _ _ q,c⟩
def zN {f:Value->Value->Sem Value} {r r':D2} (ho:OpR X f (upR X.K r)) (ho':OpR X f (upR X.K r')):OpR X f (upR X.K fun u w h Q=>r u w h Q\/r' u w h Q):=fun pins s σ H x y v u Q I rx ry ⟨a,b,h,A,μ,k,R,ra,rb,q,c⟩ =>
 q.elim (fun q=>ho pins s σ H x y v u Q I rx ry ⟨a,b,h,A,μ,k,R,ra,rb,q,c⟩) fun q=>ho' pins s σ H x y v u Q I rx ry ⟨a,b,h,A,μ,k,R,ra,rb,q,c⟩
def cY2 {f:Value->Value->Sem Value} {r:D2} (m:∀ u w h Q,¬ r u w h Q):OpR X f (upR X.K r):=fun pins s σ H x y v u Q I rx ry ⟨a,b,h,A,μ,k,R,ra,rb,q,c⟩=>(m _ _ _ _ q).elim
def xT {f:Value} {r r':DC} (ho:cF X f (upC X.K r)) (m:∀ ws h Q,r' ws h Q->r ws h Q):cF X f (upC X.K r'):=fun pins s σ H xs us Q I rx ⟨ws,h,A,μ,k,R,rw',q,c⟩=>ho pins s σ H xs us Q I rx ⟨ws,h,A,μ,k,R,rw',m _ _ _ q,c⟩
end
mutual
theorem zO {K:Frag} {A:List Addr} {H:Hp}:∀ {x:PyData} {v:V} (n:Nat),Rep K A H x v->aF n x=true->x.canLay0=true/\x.depth<=n
 | .none,_,n,_,_=>by simp [PyData.canLay0,PyData.depth]
 | .bool _,_,n,_,_=>by simp [PyData.canLay0,PyData.depth]
 | .int _,_,n,_,_=>by simp [PyData.canLay0,PyData.depth]
 | .str x,_,n,h,_=>by
  rw [Rep] at h;simp [PyData.canLay0,PyData.depth,h.2]
 | .list xs,_,0,_,p=>by simp [aF] at p
 | .tuple xs,_,0,_,p=>by simp [aF] at p
 | .list xs,_,n+1,h,p=>by
  rw [Rep] at h;obtain ⟨a,vs,_,_,h⟩:=h;have z:=Reps_lay n h (by simpa [aF] using p);simp [PyData.canLay0,PyData.depth,z.1,z.2]
 | .tuple xs,_,n+1,h,p=>by
  rw [Rep] at h;obtain ⟨a,vs,_,_,h⟩:=h;have z:=Reps_lay n h (by simpa [aF] using p);simp [PyData.canLay0,PyData.depth,z.1,z.2]
 | .dict _,_,n,_,p=>by cases n<;>simp [aF] at p
theorem Reps_lay {K:Frag} {A:List Addr} {H:Hp}:∀ {xs:List PyData} {vs:List V} (n:Nat),Reps K A H xs vs->plainsB n xs=true->PyData.canLayAll0 xs=true/\PyData.depthAll xs<=n
 | [],_,n,_,_=>by simp [PyData.canLayAll0,PyData.depthAll]
 | x::xs,_,n,h,p=>by
  rw [Reps] at h;obtain ⟨v,r,_,h1,h2⟩:=h;rw [plainsB,Bool.and_eq_true] at p;have a:=zO n h1 p.1;have b:=Reps_lay n h2 p.2;simp [PyData.canLayAll0,PyData.depthAll,a.1,b.1];omega
end
def aH1 {K:Frag} {A:List Addr} {H:Hp} {x:PyData} {v:V} (r:Rep K A H x v) (p:aF 64 x=true):SeqAt.shaped x=true:=by
 have z:=zO 64 r p;unfold SeqAt.shaped;rw [z.1]
 simpa using z.2
def cC {K:Frag} {A μ:List Addr} {H:Hp} {h:aA} {w:W} {v:V} {x:PyData} (R:HeapRep K A μ h H) (r:RepW K A μ H w v) (e:ref h w=some x) (p:aF 64 x=true):SeqAt.shaped x=true:=by
 cases w with
 | d y=>cases e;exact aH1 r p
 | v u=>cases e
 | c i =>
  obtain ⟨a,e1,rfl⟩:=r;dsimp only [DL.ref] at e;cases q:h[i]? with
  | none=>rw [q] at e;cases e
  | some cc =>
   cases cc with
   | t _ _ _=>rw [q] at e;cases e
   | o _ _=>rw [q] at e;cases e
   | r _=>rw [q] at e;cases e
   | k ys=>rw [q] at e;cases e;simp [aF] at p
   | l ys =>
    rw [q] at e;cases e;obtain ⟨vs,z1,z2⟩:=R.val i a ys e1 q;have z:=Reps_lay 63 z2 (by simpa [aF] using p);unfold SeqAt.shaped;simp [PyData.canLay0,PyData.depth,z.1];exact z.2
abbrev gP (m:XFW):nY:=fun ws h k=>∃ w h',m ws h=some (w,h')/\k w h'
structure bA (X:Cx) (st:Sta) (d:Nat):Prop where
 bl:∀ x,st.bl.contains x=true->X.mg x=none
 gc:∀ x z,st.gc x=some z->∃ v u,X.mg x=some u/\RelV v u/\∀ A H,Rep X.K A H z v
 tk:∀ x f,st.tk x=some f->∃ p,X.mg x=some (.ref p)/\TabK X.w X.K p f
 fn:∀ x m,st.fn x=some m->DFn X.prog X.w X.K X.mg X.base d x (kE m)
 N:X.N=st.N
 S:X.env.scope=st.S
 nd:st.N.Nodup
 xe:X.xe=fun _ _=>False
 calm:X.calm=true
 rm:Room d X.A
 fnT:st.top=true->∀ x,X.fn x=true
 kind:st.S.kind=.function
 fnW:∀ x m,st.ob.fnW x=some m->DFnW X.prog X.w X.K X.mg X.base d x (gP m)
 cls:∀ x C m,st.ob.cls x=some (C,m)->(∀ ws h,m ws h=none)\/∃ k f fd ps,k+1<=d/\Mk X.K C f/\FnOk X.prog X.w X.K X.mg X.base CX0 k f fd ps (dU X.K (gP m))/\X.mg x=some (.ref C)/\Binds X.K fd ps []
 om:∀ x C m,st.ob.om x=some (C,m)->Cls X.K C/\∃ f fd ps,Meth X.K C x f/\FnOk X.prog X.w X.K X.mg X.base CX0 d f fd ps (dU X.K (gP m))/\Binds X.K fd ps []
 fo:∀ C f,st.ob.fo C f=true->Cls X.K C/\NoAttr X.K C f
structure Snd (v:Evs):Prop where
 E:∀ {X:Cx} {st:Sta} {d:Nat},bA X st d->∀ e,DE X e (Of (v.E st e))
 T:∀ {X:Cx} {st:Sta} {d:Nat},bA X st d->∀ e,DT X e (Of (v.T st e))
 F:∀ {X:Cx} {st:Sta} {d:Nat},bA X st d->∀ e,DF X e (Of (v.F st e))
 G:∀ {X:Cx} {st:Sta} {d:Nat},bA X st d->∀ e,DG X e (OfG (v.G st e))
 S:∀ {X:Cx} {st:Sta} {d:Nat},bA X st d->∀ s,DS X s (OfS (v.S st s))
section
variable {X:Cx} {st:Sta} {d:Nat} {x:Str}
def cI2 {N:List Str} {i:Nat} (e:N.findIdx? (·==x)=some i):N[i]?=some x:=by
 obtain ⟨h1,h2,_⟩:=List.findIdx?_eq_some_iff_getElem.mp e;rw [List.getElem?_eq_getElem h1,eq_of_beq h2]
def gG (G:bA X st d) {i:Nat} (e:slot st x=some i):X.N[i]?=some x:=by rw [G.N];exact cI2 e
def cI3 (G:bA X st d) (h:cH1 st.S x=true):Vis X.env.scope x:=by
 unfold Vis;rw [G.S];unfold cH1 at h;split at h
 ·rename_i e;exact .inl e
 ·rename_i e;exact .inr (.inl e)
 ·rename_i e;exact .inr (.inr e)
 ·cases h
def oA (G:bA X st d) (h:xR st.S x=true):L2.Loc X.env.scope x:=by
 unfold L2.Loc;rw [G.S];unfold xR at h;split at h
 ·rename_i e;exact .inl e
 ·rename_i e;exact .inr e
 ·cases h
def vB (h:fG st.S x=true):st.S.names.lookup x=some .local:=by
 unfold fG at h;split at h
 ·rename_i e;exact e
 ·cases h
def aU2 (G:bA X st d) (h:(st.top||fG st.S x)=true):X.fn x=true\/X.env.scope.names.lookup x=some .local:=by
 rw [Bool.or_eq_true] at h;rcases h with h | h
 ·exact .inl (G.fnT h x)
 ·rw [G.S];exact .inr (vB h)
def bT4 (G:bA X st d) (h:glB st.S x=true):Gl X x:=by
 unfold Gl Env.kindOf;rw [G.S];unfold glB at h;split at h
 ·rename_i e;exact e
 ·cases h
def bV (h:fN x=true):(x==("__debug__":Str))=false:=by
 unfold fN at h;rw [Bool.and_eq_true] at h
 simpa using h.1
def aH2 (h:fN x=true):(x==("__classdict__":Str))=false:=by
 unfold fN at h;rw [Bool.and_eq_true,Bool.and_eq_true] at h
 simpa using h.2.1
def kZ (h:fN x=true):x≠"__name__":=by
 unfold fN at h;rw [Bool.and_eq_true,Bool.and_eq_true] at h
 simpa using h.2.2
def fP (G:bA X st d) (h:mE st x=true):fN x=true/\Gl X x:=by
 unfold mE at h;rw [Bool.and_eq_true] at h;exact ⟨h.1,bT4 G h.2⟩
def cI4 (G:bA X st d) {pos:Pos}:DE X (.Name x pos) (Of (aS9 st x)):=by
 unfold aS9;split
 ·rename_i hn;split
  ·rename_i i hi;split
   ·rename_i hv;refine bI (dv i (gG G hi) (cI3 G hv) (bV hn) (aH2 hn)) fun δ h Q q=>?_;obtain ⟨w,h',e,q⟩:=q;unfold aB at e;unfold aD3;split at e
    ·rename_i w' e';try rw [e']
     cases e;exact q
    ·cases e
   ·exact bW
  ·split
   ·rename_i z hz;split
    ·rename_i hg;obtain ⟨v,u,m,r1,r2⟩:=G.gc _ _ hz;exact bI (bE1 m r1 r2 (bT4 G hg) (bV hn)) fun δ h Q q=>aZ q
    ·exact bW
   ·exact bW
 ·exact bW
def bL1 {c:Const} {j:Nat} {pos:Pos}:DE X (.Constant c j pos) (Of (aT1 c)):=by
 cases c with
 | none=>exact bI cA2 fun _ _ _ q=>aZ q
 | bool b=>exact bI aM8 fun _ _ _ q=>aZ q
 | int i=>exact bI cA1 fun _ _ _ q=>aZ q
 | str x =>
  show DE X _ (Of (if PyData.strOk x=true then aD (.d (.str x)) else xno));split
  ·rename_i hx;exact bI (aM9 hx) fun _ _ _ q=>aZ q
  ·exact bW
 | _=>exact bW
def aU3 {K:Frag} {A μ:List Addr} {H:Hp} {h:aA} {p:Addr} {xs:List PyData} {vs:List V} (R:HeapRep K A μ h H) (hp:H p=none) (r:Reps K A H xs vs):Rep K A (upd H p (.lst vs)) (.list xs) (.ref p):=by
 rw [Rep];exact ⟨p,vs,rfl,.inl ⟨R.notA hp,.inl aU⟩,r.ext (aW (μ:=μ) hp) R.sub⟩
def aU4:D2:=fun u w h Q=>match ref h u,ref h w with
 | some (.list xs),some (.list ys)=>xs.length+ys.length<=sizeLine/\Q (.d (.list (xs++ys))) h
 | _,_=>False
def bL2:OpR X (binaryOp .Add) (upR X.K aU4):=by
 intro pins s σ H x y v u Q I rx ry h;obtain ⟨a,b,h,A,μ,k,R,ra,rb,q,c⟩:=h;unfold aU4 at q;split at q
 ·rename_i xs ys ea eb;obtain ⟨pa,va,rfl,sa,rra⟩:=bZ R ra ea;obtain ⟨pb,vb,rfl,sb,rrb⟩:=bZ R rb eb;refine zF pins s σ H _ _ v u Q I rx ry ⟨pa,pb,va,vb,rfl,rfl,sa,sb,by rw [rra.length,rrb.length];exact q.1,fun p hp=>?_⟩;exact c _ _ _ _ _ _ q.2 (aW hp) (R.fresh hp) (aU3 R hp (rrb.append rra))
 ·exact q.elim
def aU5:OpR X (binaryOp .FloorDiv) (rI (fun _ j=>0 < j/\j.natAbs.log2 < 9000) fun i j=>.int (i / j)):=opI fun i j _ _ _ _ _ hc q=>by
 have h1:(0:Int) < j:=hc.1;exact floordiv_int (by omega) (by rw [Int.fdiv_eq_ediv_of_nonneg i (by omega)];exact q) (.inl (PyProof.noPylong_of_log2 hc.2))
noncomputable def bT5:D2
 | .d (.int i),.d (.int j),h,Q=>(0 < j/\j.natAbs.log2 < 9000)/\Q (.d (.int (i / j))) h
 | _,_,_,_=>False
def aU6:OpR X (binaryOp .FloorDiv) (upR X.K bT5):=fC (f:=fun i j=>.int (i / j)) aU5 (fun _ _ _ _=>jT) fun u w h k q=>by
 unfold bT5 at q;split at q
 ·exact ⟨_,_,rfl,rfl,q.1,q.2⟩
 ·exact q.elim
def cI5 {j:Int} (h:bS j=true):0 < j/\j.natAbs.log2 < 9000:=by
 unfold bS at h;simp only [Bool.and_eq_true,Bool.or_eq_true,decide_eq_true_eq] at h;refine ⟨h.1,?_⟩;rcases h.2 with h2 | h2
 ·have h0:j.natAbs≠0:=by omega
  have:=(Nat.log2_lt h0 (k:=30)).mpr (by omega);omega
 ·omega
def cI6 {i j:Int} (h:jB i j=true):CMul i j:=by
 unfold jB at h;unfold CMul
 simpa only [Bool.and_eq_true,Bool.or_eq_true,decide_eq_true_eq] using h
def cI7 {i j:Int} (h:zK i j=true):bC3 i j:=by
 unfold zK at h;unfold bC3
 simpa only [Bool.and_eq_true,decide_eq_true_eq] using h
def bL3:OpR X (binaryOp .Add) (upR X.K (Of2 bK8)):=by
 refine gR (zN bE5 bL2) fun u w h Q q=>?_;obtain ⟨r,h',e,q⟩:=q;unfold bK8 at e;split at e
 ·cases e;exact .inl q
 ·split at e
  ·rename_i hl;cases e;exact .inl ⟨hl,q⟩
  ·cases e
 ·refine .inr ?_;unfold aU4;split at e
  ·rename_i e1 e2;try rw [e1,e2]
   split at e
   ·rename_i hl;cases e;exact ⟨hl,q⟩
   ·cases e
  ·cases e
def bL4:OpR X (binaryOp .Mult) (upR X.K (Of2 bK9)):=by
 refine gR (zN bE7 aR8) fun u w h Q q=>?_;obtain ⟨r,h',e,q⟩:=q;unfold bK9 at e;split at e
 ·split at e
  ·rename_i hl;cases e;exact .inl ⟨cI6 hl,q⟩
  ·cases e
 ·split at e
  ·rename_i hl;cases e;exact .inr (.inl ⟨hl,q⟩)
  split at e
  ·rename_i hl;cases e;exact .inr (.inr ⟨hl,q⟩)
  ·cases e
 ·cases e
def bL5 (op:Operator):OpR X (binaryOp op) (upR X.K (Of2 (eD op))):=by
 cases op with
 | Add=>exact bL3
 | Mult=>exact bL4
 | Sub =>
  refine gR bE6 fun u w h Q ⟨a,h',e,q⟩=>?_;dsimp only [eD] at e;split at e
  ·cases e;exact q
  ·cases e
 | FloorDiv =>
  refine gR aU6 fun u w h Q ⟨a,h',e,q⟩=>?_;dsimp only [eD] at e;split at e
  ·split at e
   ·rename_i hd;cases e;exact ⟨cI5 hd,q⟩
   ·cases e
  ·cases e
 | Mod =>
  refine gR bE8 fun u w h Q ⟨a,h',e,q⟩=>?_;dsimp only [eD] at e;split at e
  ·split at e
   ·rename_i hd;cases e;exact ⟨hd,q⟩
   ·cases e
  ·cases e
 | Pow =>
  refine gR bE9 fun u w h Q ⟨a,h',e,q⟩=>?_;dsimp only [eD] at e;split at e
  ·split at e
   ·rename_i hd;cases e;exact ⟨cI7 hd,q⟩
   ·cases e
  ·cases e
 | RShift =>
  refine gR bH9 fun u w h Q ⟨a,h',e,q⟩=>?_;dsimp only [eD] at e;split at e
  ·split at e
   ·rename_i hd;cases e;exact ⟨hd,q⟩
   ·cases e
  ·cases e
 | BitAnd =>
  refine gR aP4 fun u w h Q ⟨a,h',e,q⟩=>?_;dsimp only [eD] at e;split at e
  ·cases e;exact q
  ·cases e
 | _ =>
  refine cY2 fun u w h Q ⟨a,h',e,q⟩=>?_;dsimp only [eD] at e;split at e<;>cases e
def vC {x:Str}:bO (.str x)=if PyData.strOk x=true then some (Sum.inr x) else none:=rfl
def aU7 {K:Frag} {A:List Addr} {H:Hp} {z:PyData} {k:Key} {v:V} (e:bO z=some k) (r:Rep K A H z v):v=kV k:=by
 cases z with
 | int i=>cases e;rw [Rep] at r;exact r
 | str x =>
  rw [vC] at e;split at e
  ·cases e;rw [Rep] at r;exact r.1
  ·cases e
 | _=>cases e
theorem gH {K:Frag} {A:List Addr} {H:Hp} (k:Key):∀ {kvs:List (PyData×PyData)} {r:List (Key×V)},RepKs K A H kvs r ->
  (∀ p,(kvs.find? fun p=>decide (bO p.1=some k))=some p->∃ v,gA r k=some v/\Rep K A H p.2 v)/\((kvs.find? fun p=>decide (bO p.1=some k))=none->gA r k=none)
 | [],r,h=>by
  rw [RepKs] at h;subst h;exact ⟨fun p e=>(nomatch e),fun _=>rfl⟩
 | (a,b)::kvs,r,h=>by
  rw [RepKs] at h;obtain ⟨q,r',rfl,hp,hr⟩:=h;rw [RepP] at hp;obtain ⟨h1,h2⟩:=gH k hr;obtain ⟨qk,qv⟩:=q
  by_cases e:qk=k
  ·subst e;have ek:decide (bO a=some qk)=true:=decide_eq_true hp.1;refine ⟨fun p ep=>?_,fun ep=>?_⟩
   ·rw [List.find?_cons_of_pos (by exact ek)] at ep;cases ep;exact ⟨qv,by unfold gA;rw [List.find?_cons_of_pos (by simp)];rfl,hp.2⟩
   ·rw [List.find?_cons_of_pos (by exact ek)] at ep;cases ep
  ·have ek:¬ decide (bO a=some k)=true:=fun z=>e (Option.some.inj (hp.1.symm.trans (of_decide_eq_true z)));have ev:gA ((qk,qv)::r') k=gA r' k:=by unfold gA;rw [List.find?_cons_of_neg (by simpa using e)]
   rw [ev];refine ⟨fun p ep=>?_,fun ep=>?_⟩
   ·rw [List.find?_cons_of_neg (by exact ek)] at ep;exact h1 p ep
   ·rw [List.find?_cons_of_neg (by exact ek)] at ep;exact h2 ep
theorem oB {α:Type} (p:α->Bool):∀ xs:List α,xs.any p=(xs.find? p).isSome
 | []=>rfl
 | x::r=>by
  rw [List.any_cons];cases e:p x with
  | true=>rw [List.find?_cons_of_pos e];rfl
  | false=>rw [List.find?_cons_of_neg (by rw [e];exact Bool.false_ne_true),<- oB p r];rfl
def oC {K:Frag} {A μ:List Addr} {H:Hp} {h:aA} {w:W} {v:V} {kvs:List (PyData×PyData)} (R:HeapRep K A μ h H) (r:RepW K A μ H w v) (e:ref h w=some (.dict kvs)):∃ a rs,v=.ref a/\Rd H a (.dK rs)/\RepKs K A H kvs rs:=by
 cases w with
 | d x =>
  cases e;have z:Rep K A H (.dict kvs) v:=r;rw [Rep] at z;obtain ⟨a,rs,e,h1,h2⟩:=z;exact ⟨a,rs,e,h1.2,h2⟩
 | v u=>cases e
 | c i =>
  obtain ⟨a,e1,rfl⟩:=r;dsimp only [DL.ref] at e;cases q:h[i]? with
  | none=>rw [q] at e;cases e
  | some cc =>
   cases cc with
   | t _ _ _=>rw [q] at e;cases e
   | o _ _=>rw [q] at e;cases e
   | r _=>rw [q] at e;cases e
   | l ys=>rw [q] at e;cases e
   | k ys =>
    rw [q] at e;cases e;obtain ⟨vs,z1,z2⟩:=R.vad i a kvs e1 q;exact ⟨a,vs,rfl,.inl z1,z2⟩
def aH3 (neg:Bool):D2:=fun u w h Q=>match ref h u,ref h w with
 | some d,some (.dict kvs)=>(match bO d with
  | some k=>Q (.d (.bool (neg ^^ kvs.any fun p=>decide (bO p.1=some k)))) h
  | none=>False)
 | _,_=>False
def zP {K:Frag} {H:Hp} {z:PyData} {k:Key} {v:V} (e:bO z=some k) (r:See K H z v):v=kV k:=by
 cases z with
 | int i=>cases e;rw [See] at r;exact r
 | str x =>
  rw [vC] at e;split at e
  ·cases e;rw [See] at r;exact r
  ·cases e
 | _=>cases e
def aU8 {A:Around} {n:Nat} (hr:Room n A):A.units+1 < cLine:=by have:=hr.un;omega
def bL6 (hr:Room d X.A):OpR X (compareOp .In) (upR X.K (aH3 false)):=by
 intro pins s σ H x y v u Q I rx ry h;obtain ⟨a,b,h,A,μ,k,R,ra,rb,q,c⟩:=h;unfold aH3 at q;split at q
 ·rename_i z kvs ea eb;split at q
  ·rename_i kk ek;obtain ⟨p,rs,rfl,hd,rr⟩:=oC R rb eb;obtain ⟨f1,f2⟩:=gH kk rr;have ev:=zP ek (bM R ra ea);subst ev;cases ry;refine dL7 (aU8 hr) I (o:=gA rs kk) (.inl ⟨rs,kk,hd,rfl,rfl⟩) rx fun s' I'=>?_;have e:(kvs.any fun p=>decide (bO p.1=some kk))=(gA rs kk).isSome:=by
    rw [oB];cases z:kvs.find? (fun p=>decide (bO p.1=some kk)) with
    | none=>rw [f2 z];rfl
    | some p=>obtain ⟨v,e1,_⟩:=f1 p z;rw [e1];rfl
   rw [e] at q;exact ⟨.bl _,H,I',rfl,c _ _ _ _ _ _ q .refl R (by simpa using bE)⟩
  ·exact q.elim
 ·exact q.elim
def xU (hr:Room d X.A):OpR X (compareOp .NotIn) (upR X.K (aH3 true)):=by
 intro pins s σ H x y v u Q I rx ry h;obtain ⟨a,b,h,A,μ,k,R,ra,rb,q,c⟩:=h;unfold aH3 at q;split at q
 ·rename_i z kvs ea eb;split at q
  ·rename_i kk ek;obtain ⟨p,rs,rfl,hd,rr⟩:=oC R rb eb;obtain ⟨f1,f2⟩:=gH kk rr;have ev:=zP ek (bM R ra ea);subst ev;cases ry;refine bD5 (aU8 hr) I (o:=gA rs kk) (.inl ⟨rs,kk,hd,rfl,rfl⟩) rx fun s' I'=>?_;have e:(kvs.any fun p=>decide (bO p.1=some kk))=(gA rs kk).isSome:=by
    rw [oB];cases z:kvs.find? (fun p=>decide (bO p.1=some kk)) with
    | none=>rw [f2 z];rfl
    | some p=>obtain ⟨v,e1,_⟩:=f1 p z;rw [e1];rfl
   rw [e] at q;exact ⟨.bl _,H,I',rfl,c _ _ _ _ _ _ q .refl R (by simpa using bE)⟩
  ·exact q.elim
 ·exact q.elim
def bL7:D2:=fun u w h Q=>match ref h u,w with
 | some (.dict kvs),.d z=>(match bO z with
  | some k=>(match kvs.find? fun p=>decide (bO p.1=some k) with
   | some p=>Q (.d p.2) h
   | none=>False)
  | none=>False)
 | _,_=>False
def cY3 (hr:Room d X.A):IxR X (upR X.K bL7):=by
 intro value slice pins s σ H x y v u Q I rx ry h hs;obtain ⟨a,b,h,A,μ,k,R,ra,rb,q,c⟩:=h;unfold bL7 at q;split at q
 ·rename_i kvs z ea;split at q
  ·rename_i kk ek;split at q
   ·rename_i p ep;obtain ⟨pa,rs,rfl,hd,rr⟩:=oC R ra ea;obtain ⟨v0,e1,r1⟩:=(gH kk rr).1 p ep;have ev:=aU7 ek rb;subst ev;cases rx;have g:aM6 H pa (kV kk) (some v0):=.inl ⟨rs,kk,hd,rfl,e1.symm⟩;exact tail_any (uB I g) slot_dict_getitem.lookup (aD0 (aU8 hr) I g ry fun w' s' I' rw'=>⟨v0,H,I',rw',c _ _ _ _ _ _ q .refl R r1⟩) hs
   ·exact q.elim
  ·exact q.elim
 ·exact q.elim
def aH4 (neg:Bool):D2:=fun x y h Q=>match ref h x,ref h y with
 | some a,some b=>(aF 64 a&&aF 64 b)=true/\Q (.d (.bool (neg ^^ PyData.eqv a b))) h
 | _,_=>False
def cI8 (hr:Room d X.A):OpR X (compareOp .Eq) (upR X.K (aH4 false)):=fun pins s σ H x y v u Q I rx ry ⟨a,b,h,A,μ,k,R,ra,rb,q,c⟩=>by
 unfold aH4 at q;split at q
 ·rename_i z1 z2 e1 e2;rw [Bool.and_eq_true] at q;refine cB4 hr pins s σ H x y v u Q I rx ry ⟨a,b,h,A,μ,k,R,ra,rb,?_,c⟩;unfold dEq;rw [e1,e2];exact ⟨cC R ra e1 q.1.1,cC R rb e2 q.1.2,by simpa using q.2⟩
 ·exact q.elim
def cI9 (hr:Room d X.A):OpR X (compareOp .NotEq) (upR X.K (aH4 true)):=fun pins s σ H x y v u Q I rx ry ⟨a,b,h,A,μ,k,R,ra,rb,q,c⟩=>by
 unfold aH4 at q;split at q
 ·rename_i z1 z2 e1 e2;rw [Bool.and_eq_true] at q;refine cB5 hr pins s σ H x y v u Q I rx ry ⟨a,b,h,A,μ,k,R,ra,rb,?_,c⟩;unfold dNe;rw [e1,e2];exact ⟨cC R ra e1 q.1.1,cC R rb e2 q.1.2,by simpa using q.2⟩
 ·exact q.elim
def aU9 (neg:Bool):D2:=fun x y h Q=>match ref h x,ref h y with
 | some d,some (.list xs)=>(aF 64 (.list xs)&&aF 64 d)=true/\Q (.d (.bool (neg ^^ xs.any fun z=>PyData.eqv z d))) h
 | some d,some (.tuple xs)=>(aF 64 (.tuple xs)&&aF 64 d)=true/\Q (.d (.bool (neg ^^ xs.any fun z=>PyData.eqv z d))) h
 | _,_=>False
def inP {neg:Bool} {f:Value->Value->Sem Value} (ho:OpR X f (upR X.K (aE8 neg))):OpR X f (upR X.K (aU9 neg)):=fun pins s σ H x y v u Q I rx ry ⟨a,b,h,A,μ,k,R,ra,rb,q,c⟩=>by
 refine ho pins s σ H x y v u Q I rx ry ⟨a,b,h,A,μ,k,R,ra,rb,?_,c⟩;unfold aU9 at q;unfold aE8;split at q
 ·rename_i z1 xs e1 e2;rw [Bool.and_eq_true] at q;try rw [e1,e2]
  exact ⟨cC R rb e2 q.1.1,cC R ra e1 q.1.2,q.2⟩
 ·rename_i z1 xs e1 e2;rw [Bool.and_eq_true] at q;try rw [e1,e2]
  exact ⟨cC R rb e2 q.1.1,cC R ra e1 q.1.2,q.2⟩
 ·exact q.elim
def vD {neg:Bool} {u w:W} {h:aA} {b:Bool} {Q:DK} (e:xIn u w h=some b) (q:Q (.d (.bool (neg ^^ b))) h):aU9 neg u w h Q\/aH3 neg u w h Q:=by
 unfold xIn at e;split at e
 ·rename_i z1 z2;split at e
  ·rename_i hs;cases e;refine .inl ?_;unfold aU9;rw [z1,z2];exact ⟨hs,q⟩
  ·cases e
 ·rename_i z1 z2;split at e
  ·rename_i hs;cases e;refine .inl ?_;unfold aU9;rw [z1,z2];exact ⟨hs,q⟩
  ·cases e
 ·rename_i z1 z2;split at e
  ·rename_i k ek;cases e;refine .inr ?_;unfold aH3;rw [z1,z2];dsimp only;rw [ek];exact q
  ·cases e
 ·cases e
def zQ {neg:Bool} {u w:W} {h:aA} {b:Bool} {Q:DK} (e:xEq u w h=some b) (q:Q (.d (.bool (neg ^^ b))) h):aH4 neg u w h Q:=by
 unfold xEq at e;split at e
 ·rename_i x y e1 e2;split at e
  ·rename_i hs;cases e;unfold aH4;rw [e1,e2];exact ⟨hs,q⟩
  ·cases e
 ·cases e
def eI (hr:Room d X.A) (op:CmpOp):OpR X (compareOp op) (upR X.K (Of2 fun u w h=>(cI op u w h).map asW)):=by
 have isc:∀ {u w:W} {b:Bool},xIs u w=some b->∃ x y,u=.d x/\w=.d y/\DL.isSame x y=some b:=fun {u w b} e=>by
  unfold xIs at e;split at e
  ·exact ⟨_,_,rfl,rfl,e⟩
  ·cases e
 cases op with
 | Eq =>
  refine gR (cI8 hr) fun u w h Q ⟨a,h',e,q⟩=>?_;obtain ⟨p,e1,e2⟩:=map_some e;obtain ⟨b,e3,e4⟩:=map_some e1;subst e4;cases e2;exact zQ e3 (by simpa using q)
 | NotEq =>
  refine gR (cI9 hr) fun u w h Q ⟨a,h',e,q⟩=>?_;obtain ⟨p,e1,e2⟩:=map_some e;obtain ⟨b,e3,e4⟩:=map_some e1;subst e4;cases e2;exact zQ e3 (by simpa using q)
 | Is =>
  refine gR cB6 fun u w h Q ⟨a,h',e,q⟩=>?_;obtain ⟨p,e1,e2⟩:=map_some e;obtain ⟨b,e3,e4⟩:=map_some e1;subst e4;cases e2;obtain ⟨x,y,rfl,rfl,e5⟩:=isc e3;show (match DL.isSame x y with | some k=>_ | none=>_);rw [e5];exact q
 | IsNot =>
  refine gR aD4 fun u w h Q ⟨a,h',e,q⟩=>?_;obtain ⟨p,e1,e2⟩:=map_some e;obtain ⟨b,e3,e4⟩:=map_some e1;subst e4;cases e2;obtain ⟨x,y,rfl,rfl,e5⟩:=isc e3;show (match DL.isSame x y with | some k=>_ | none=>_);rw [e5];exact q
 | In =>
  refine gR (zN (inP (cF0 hr)) (bL6 hr)) fun u w h Q ⟨a,h',e,q⟩=>?_;obtain ⟨p,e1,e2⟩:=map_some e;obtain ⟨b,e3,e4⟩:=map_some e1;subst e4;cases e2;exact vD e3 (by simpa using q)
 | NotIn =>
  refine gR (zN (inP (aE9 hr)) (xU hr)) fun u w h Q ⟨a,h',e,q⟩=>?_;obtain ⟨p,e1,e2⟩:=map_some e;obtain ⟨b,e3,e4⟩:=map_some e1;subst e4;cases e2;exact vD e3 (by simpa using q)
 | Lt =>
  refine gR cB0 fun u w h Q ⟨a,h',e,q⟩=>?_;obtain ⟨p,e1,e2⟩:=map_some e;dsimp only [cI,aT2,Option.map] at e1;split at e1
  ·cases e1;cases e2;exact q
  ·cases e1
 | LtE =>
  refine gR cB1 fun u w h Q ⟨a,h',e,q⟩=>?_;obtain ⟨p,e1,e2⟩:=map_some e;dsimp only [cI,aT2,Option.map] at e1;split at e1
  ·cases e1;cases e2;exact q
  ·cases e1
 | Gt =>
  refine gR cB2 fun u w h Q ⟨a,h',e,q⟩=>?_;obtain ⟨p,e1,e2⟩:=map_some e;dsimp only [cI,aT2,Option.map] at e1;split at e1
  ·cases e1;cases e2;exact q
  ·cases e1
 | GtE =>
  refine gR cB3 fun u w h Q ⟨a,h',e,q⟩=>?_;obtain ⟨p,e1,e2⟩:=map_some e;dsimp only [cI,aT2,Option.map] at e1;split at e1
  ·cases e1;cases e2;exact q
  ·cases e1
end
section
variable {X:Cx} {st:Sta} {d:Nat} {x:Str} {v:Evs} {a b c e:Expr} {es:List Expr} {pos:Pos}
def aI (h:aO e=true) (env:Env):starEach (e::es) env=(false,eval e env)::starEach es env:=by
 cases e<;>first | rfl | cases h
theorem cD:∀ (es:List Expr) (env:Env) (pos:Pos),es.all aO=true->(backTo pos (starEach es env)).any (·.1)=false
 | [],_,_,_=>rfl
 | e::es,env,pos,h=>by
  rw [List.all_cons,Bool.and_eq_true] at h;rw [aI h.1];show (false||(backTo pos (starEach es env)).any (·.1))=false;rw [cD es env pos h.2];rfl
theorem vE:∀ (es:List Expr) (env:Env) (pos:Pos),es.all aO=true->(backTo pos (starEach es env)).all (fun x=>!x.1)=true
 | [],_,_,_=>rfl
 | e::es,env,pos,h=>by
  rw [List.all_cons,Bool.and_eq_true] at h;rw [aI h.1];show (true&&(backTo pos (starEach es env)).all fun x=>!x.1)=true;rw [vE es env pos h.2];rfl
theorem dO:∀ (es:List Expr) (δ:DSt) (h:aA) (p:List W×aA),dE v st es δ h=some p->es.all aO=true
 | [],_,_,_,_=>rfl
 | e::es,δ,h,p,q=>by
  unfold dE at q;split at q
  ·rename_i hn;obtain ⟨a,e1,q⟩:=bind_some q;obtain ⟨b,e2,q⟩:=bind_some q;rw [List.all_cons,hn,dO es δ _ _ e2];rfl
  ·cases q
def aH5 {x:XR W} (p:Prop) (hp:∀ δ h r,x δ h=some r->p) (he:p->DE X e (Of x)):DE X e (Of x):=by
 by_cases h:p
 ·exact he h
 ·exact bI fQ fun δ h' Q q=>by
   obtain ⟨r,h2,e,_⟩:=q;exact (h (hp _ _ _ e)).elim
def dO9 {x:XR (List PyData)} (p:Prop) (hp:∀ δ h r,x δ h=some r->p) (he:p->DF X e (Of x)):DF X e (Of x):=by
 by_cases h:p
 ·exact he h
 ·exact sI bS4 fun δ h' Q q=>by
   obtain ⟨r,h2,e,_⟩:=q;exact (h (hp _ _ _ e)).elim
theorem dF (S:Snd v) (G:bA X st d):∀ es,DA X es (Of (dE v st es))
 | []=>cX9 fM fun δ h Q q=>aZ q
 | e::es=>by
  unfold dE;split
  ·rename_i hn;refine cX9 (cQ (S.E G e) (dF S G es) (aI hn _)) fun δ h Q q=>?_;obtain ⟨w,h1,e1,q⟩:=bH q;obtain ⟨ws,h2,e2,q⟩:=bH q;exact ⟨w,h1,e1,ws,h2,e2,aZ q⟩
  ·exact fun p pins s σ H Q I ⟨_,_,_,_,_,_,q,_⟩=>(bT q).elim
def cJ0 {x:XR (List PyData)} (h:DF X e (Of x)):DE X e (Of (aV x)):=bI (aN0 h) fun δ h Q q=>by
 obtain ⟨w,h',e,q⟩:=q;obtain ⟨p,e1,e2⟩:=bind_some e;cases e2;exact ⟨p.1,p.2,e1,q⟩
def zR {x:XR (List PyData)} (h:DF X e (Of x)):DE X e (Of (aQ x)):=bI (xD h) fun δ h Q q=>by
 obtain ⟨w,h',e,q⟩:=q;obtain ⟨p,e1,e2⟩:=bind_some e;cases e2;exact ⟨p.1,p.2,e1,q⟩
theorem qS (S:Snd v) (G:bA X st d):∀ eo,DO X eo (Of (aG8 v st eo))
 | none=>cY0 bF1 fun δ h Q q=>aZ q
 | some e=>cY0 (bF2 (S.E G e)) fun δ h Q q=>by
  unfold aG8 at q;obtain ⟨w,h1,e1,q⟩:=bH q;refine ⟨w,h1,e1,?_⟩;dsimp only at q ⊢;split at q
  ·exact aZ q
  ·exact (bT q).elim
theorem aV0 (S:Snd v) (G:bA X st d):∀ vs,DE X (.BoolOp .And vs pos) (Of (aT3 v st vs))
 | []=>bW
 | [a]=>xF (S.E G a)
 | a::b::r=>bI (aN3 (S.E G a) (aV0 S G (b::r))) fun δ h Q q=>by
  obtain ⟨w,h1,e1,q⟩:=bH q;refine ⟨w,h1,e1,?_⟩;dsimp only at q ⊢;split at q
  ·exact (if_pos rfl).mpr q
  ·exact (if_neg Bool.false_ne_true).mpr (aZ q)
  ·exact (bT q).elim
theorem bT6 (S:Snd v) (G:bA X st d):∀ vs,DE X (.BoolOp .Or vs pos) (Of (cH4 v st vs))
 | []=>bW
 | [a]=>xF (S.E G a)
 | a::b::r=>bI (cT8 (S.E G a) (bT6 S G (b::r))) fun δ h Q q=>by
  obtain ⟨w,h1,e1,q⟩:=bH q;refine ⟨w,h1,e1,?_⟩;dsimp only at q ⊢;split at q
  ·exact (if_pos rfl).mpr (aZ q)
  ·exact (if_neg Bool.false_ne_true).mpr q
  ·exact (bT q).elim
theorem aV1 (S:Snd v) (G:bA X st d):∀ vs,DW X (.BoolOp .And vs pos) (Of (aT4 v st vs))
 | []=>fun wh pins s σ H Q I ⟨_,_,_,_,_,_,q,_⟩=>(bT q).elim
 | [a]=>bE3 (S.T G a)
 | a::b::r=>cX8 (cA8 (S.T G a) (aV1 S G (b::r))) fun δ h Q q=>by
  obtain ⟨w,h1,e1,q⟩:=bH q;refine ⟨w,h1,e1,?_⟩;dsimp only at q ⊢;split at q
  ·rename_i hw;rw [if_pos hw];exact q
  ·rename_i hw;rw [if_neg hw];exact aZ q
theorem bT7 (S:Snd v) (G:bA X st d):∀ vs,DW X (.BoolOp .Or vs pos) (Of (cH5 v st vs))
 | []=>fun wh pins s σ H Q I ⟨_,_,_,_,_,_,q,_⟩=>(bT q).elim
 | [a]=>cA7 (S.T G a)
 | a::b::r=>cX8 (cT6 (S.T G a) (bT7 S G (b::r))) fun δ h Q q=>by
  obtain ⟨w,h1,e1,q⟩:=bH q;refine ⟨w,h1,e1,?_⟩;dsimp only at q ⊢;split at q
  ·rename_i hw;rw [if_pos hw];exact aZ q
  ·rename_i hw;rw [if_neg hw];exact q
def xV {f:Str->Option Int} (G:bA X st d) (e1:lQ st b=some f):∃ y p q,b=.Name y q/\fN y=true/\Gl X y/\X.mg y=some (.ref p)/\TabK X.w X.K p f:=by
 cases b with
 | Name y q =>
  unfold lQ at e1;dsimp only at e1;split at e1
  ·rename_i ht;rw [Bool.and_eq_true] at ht;obtain ⟨h1,h2⟩:=fP G ht.1;obtain ⟨p,h3,h4⟩:=G.tk _ _ e1;exact ⟨y,p,q,rfl,h1,h2,h3,h4⟩
  ·cases e1
 | _=>cases e1
section
variable {xa xb' xc xd:XR W} {op op' op'':CmpOp} {c':Expr}
def jL {x:XR Bool} {δ:DSt} {h:aA} {Q:DK} (q:Of (cJ x) δ h Q):Of x δ h fun b h'=>Q (.d (.bool b)) h':=by
 obtain ⟨w,h',e,q⟩:=q;obtain ⟨⟨b,h2⟩,e1,e2⟩:=map_some e;cases e2;exact ⟨b,_,e1,q⟩
def cY4 {δ:DSt} {h:aA} {Q:Bool->aA->Prop} (q:Of (xC1 op xa xb') δ h Q):dOp (Of2 fun u w h=>(cI op u w h).map asW) (Of xa) (Of xb') δ h (fun w h'=>match w with | .d (.bool b)=>Q b h' | _=>False):=by
 obtain ⟨x,h1,e1,q⟩:=bH q;obtain ⟨y,h2,e2,q⟩:=bH q;obtain ⟨k,h3,e3,q⟩:=q;exact ⟨x,h1,e1,y,h2,e2,.d (.bool k),h3,congrArg (Option.map asW) e3,q⟩
def cY5 {δ:DSt} {h:aA} {Q:Bool->aA->Prop} (q:Of (xC2 op op' xa xb' xc) δ h Q):kN (Of2 fun u w h=>(cI op u w h).map asW) (Of2 fun u w h=>(cI op' u w h).map asW) (Of xa) (Of xb') (Of xc) δ h (fun w h'=>match w with | .d (.bool b)=>Q b h' | _=>False):=by
 obtain ⟨x,h1,e1,q⟩:=bH q;obtain ⟨y,h2,e2,q⟩:=bH q;obtain ⟨r,hr,e,q⟩:=q;obtain ⟨⟨k,h3⟩,e3,e⟩:=bind_some e;refine ⟨x,h1,e1,y,h2,e2,.d (.bool k),h3,congrArg (Option.map asW) e3,?_⟩;dsimp only at e ⊢;cases k with
 | false =>
  rw [if_neg Bool.false_ne_true] at e ⊢;cases e;exact q
 | true =>
  rw [if_pos rfl] at e ⊢;obtain ⟨⟨z,h4⟩,e4,e⟩:=bind_some e;exact ⟨z,h4,e4,.d (.bool r),hr,congrArg (Option.map asW) e,q⟩
def dP0 {δ:DSt} {h:aA} {Q:Bool->aA->Prop} (q:Of (xC3 op op' op'' xa xb' xc xd) δ h Q):mQ (Of2 fun u w h=>(cI op u w h).map asW) (Of2 fun u w h=>(cI op' u w h).map asW) (Of2 fun u w h=>(cI op'' u w h).map asW) (Of xa) (Of xb') (Of xc) (Of xd) δ h (fun w h'=>match w with | .d (.bool b)=>Q b h' | _=>False):=by
 obtain ⟨x,h1,e1,q⟩:=bH q;obtain ⟨y,h2,e2,q⟩:=bH q;obtain ⟨r,hr,e,q⟩:=q;obtain ⟨⟨k,h3⟩,e3,e⟩:=bind_some e;refine ⟨x,h1,e1,y,h2,e2,.d (.bool k),h3,congrArg (Option.map asW) e3,?_⟩;dsimp only at e ⊢;cases k with
 | false =>
  rw [if_neg Bool.false_ne_true] at e ⊢;cases e;exact q
 | true =>
  rw [if_pos rfl] at e ⊢;obtain ⟨⟨z,h4⟩,e4,e⟩:=bind_some e;obtain ⟨⟨k',h5⟩,e5,e⟩:=bind_some e;refine ⟨z,h4,e4,.d (.bool k'),h5,congrArg (Option.map asW) e5,?_⟩;dsimp only at e ⊢;cases k' with
  | false =>
   rw [if_neg Bool.false_ne_true] at e ⊢;cases e;exact q
  | true =>
   rw [if_pos rfl] at e ⊢;obtain ⟨⟨z',h6⟩,e6,e⟩:=bind_some e;exact ⟨z',h6,e6,.d (.bool r),hr,congrArg (Option.map asW) e,q⟩
def aV2 {Q:DK} {w:W} {h:aA} (q:match w with | .d (.bool b)=>Q (.d (.bool b)) h | _=>False):Q w h:=by
 split at q
 ·exact q
 ·exact q.elim
end
def eJ {α:Type} {x:XR α} {δ:DSt} {h:aA} {Q Q':α->aA->Prop} (m:∀ a h,Q a h->Q' a h) (q:Of x δ h Q):Of x δ h Q':=by
 obtain ⟨a,h',e,q⟩:=q;exact ⟨a,h',e,m _ _ q⟩
def fU {f:W->W->aA->Option (W×aA)} {u w:W} {h:aA} {Q Q':DK} (m:∀ a h,Q a h->Q' a h) (q:Of2 f u w h Q):Of2 f u w h Q':=by
 obtain ⟨a,h',e,q⟩:=q;exact ⟨a,h',e,m _ _ q⟩
def bL8 {f g:W->W->aA->Option (W×aA)} {xa xb' xc:XR W} {δ:DSt} {h:aA} {Q Q':DK} (m:∀ a h,Q a h->Q' a h) (q:kN (Of2 f) (Of2 g) (Of xa) (Of xb') (Of xc) δ h Q):kN (Of2 f) (Of2 g) (Of xa) (Of xb') (Of xc) δ h Q':=by
 refine eJ (fun x h1 q=>eJ (fun y h2 q=>fU (fun z h3 q=>?_) q) q) q;split at q
 ·rename_i k;cases k with
  | false=>exact m _ _ q
  | true=>exact eJ (fun u h4 q=>fU m q) q
 ·exact q.elim
def bL9 {f g k:W->W->aA->Option (W×aA)} {xa xb' xc xd:XR W} {δ:DSt} {h:aA} {Q Q':DK} (m:∀ a h,Q a h->Q' a h) (q:mQ (Of2 f) (Of2 g) (Of2 k) (Of xa) (Of xb') (Of xc) (Of xd) δ h Q):mQ (Of2 f) (Of2 g) (Of2 k) (Of xa) (Of xb') (Of xc) (Of xd) δ h Q':=by
 refine eJ (fun x h1 q=>eJ (fun y h2 q=>fU (fun z h3 q=>?_) q) q) q;split at q
 ·rename_i k;cases k with
  | false=>exact m _ _ q
  | true =>
   refine eJ (fun u h4 q=>fU (fun z' h5 q=>?_) q) q;split at q
   ·rename_i k';cases k' with
    | false=>exact m _ _ q
    | true=>exact eJ (fun u' h6 q=>fU m q) q
   ·exact q.elim
 ·exact q.elim
theorem oE (S:Snd v) (G:bA X st d):∀ {ops:List CmpOp} {cs:List Expr},DE X (.Compare a ops cs pos) (Of (cJ (jZ v st a ops cs)))
 | [op],[b]=>by
  show DE X _ (Of (cJ (match lQ st b with
   | some f=>if op=.NotIn then qN f (v.E st a) else xno
   | none=>if behindInMarks op b=true then xno else xC1 op (v.E st a) (v.E st b))))
  cases ht:lQ st b with
  | some f =>
   obtain ⟨y,p,pp,rfl,h1,h2,h3,h4⟩:=xV G ht;dsimp only;split
   ·rename_i ho;subst ho;refine bI (aF0 h4 h3 (S.E G a) h2 (bV h1)) fun δ h Q q=>?_;obtain ⟨w,h1,e1,q⟩:=bH (jL q);refine ⟨w,h1,e1,?_⟩;dsimp only at q ⊢;split at q
    ·have z:=aZ q;exact z
    ·have z:=aZ q;exact z
    ·exact (bT q).elim
   ·exact bI fQ fun δ h Q q=>(bT (jL q)).elim
  | none =>
   dsimp only;split
   ·exact bI fQ fun δ h Q q=>(bT (jL q)).elim
   ·rename_i hm;exact bI (cA5 (eI G.rm op) (S.E G a) (S.E G b) (by simpa using hm)) fun δ h Q q=>eJ (fun x h1 q=>eJ (fun y h2 q=>fU (fun _ _=>aV2) q) q) (cY4 (jL q))
 | [op,op'],[b,c]=>by
  show DE X _ (Of (cJ (if lastMarks [op,op'] [b,c]=true then xno else xC2 op op' (v.E st a) (v.E st b) (v.E st c))));split
  ·exact bI fQ fun δ h Q q=>(bT (jL q)).elim
  ·rename_i hm;exact bI (aP2 (eI G.rm op) (eI G.rm op') (S.E G a) (S.E G b) (S.E G c) (by simpa using hm)) fun δ h Q q=>bL8 (fun _ _=>aV2) (cY5 (jL q))
 | [],_=>bI fQ fun δ h Q q=>(bT (jL q)).elim
 | [_],[]=>bI fQ fun δ h Q q=>(bT (jL q)).elim
 | [_],_::_::_=>bI fQ fun δ h Q q=>(bT (jL q)).elim
 | [_,_],[]=>bI fQ fun δ h Q q=>(bT (jL q)).elim
 | [_,_],[_]=>bI fQ fun δ h Q q=>(bT (jL q)).elim
 | [_,_],_::_::_::_=>bI fQ fun δ h Q q=>(bT (jL q)).elim
 | _::_::_::_,_=>bI fQ fun δ h Q q=>(bT (jL q)).elim
def aH6 (S:Snd v) (G:bA X st d):∀ {ops:List CmpOp} {cs:List Expr},DE X (.Compare a ops cs pos) (Of (cJ (kU v st a ops cs))):=fun {ops cs}=>by
 rcases ops with _ | ⟨op,_ | ⟨op',_ | ⟨op'',_ | ⟨o4,r⟩⟩⟩⟩<;>first | exact oE S G | skip
 rcases cs with _ | ⟨b,_ | ⟨c,_ | ⟨d',_ | ⟨c4,r⟩⟩⟩⟩<;>first | exact oE S G | skip
 unfold kU;dsimp only;split
 ·exact bI fQ fun δ h Q q=>(bT (jL q)).elim
 ·rename_i hm;exact bI (aF3 (eI G.rm op) (eI G.rm op') (eI G.rm op'') (S.E G a) (S.E G b) (S.E G c) (S.E G d') (by simpa using hm)) fun δ h Q q=>bL9 (fun _ _=>aV2) (dP0 (jL q))
theorem aH7 (S:Snd v) (G:bA X st d):∀ {ops:List CmpOp} {cs:List Expr},DT X (.Compare a ops cs pos) (Of (jZ v st a ops cs))
 | [op],[b]=>by
  show DT X _ (Of (match lQ st b with
   | some f=>if op=.NotIn then qN f (v.E st a) else xno
   | none=>if behindInMarks op b=true then xno else xC1 op (v.E st a) (v.E st b)))
  cases ht:lQ st b with
  | some f =>
   obtain ⟨y,p,pp,rfl,h1,h2,h3,h4⟩:=xV G ht;dsimp only;split
   ·rename_i ho;subst ho;refine aU0 (aF1 h4 h3 (S.E G a) h2 (bV h1)) fun δ h Q q=>?_;obtain ⟨w,h1,e1,q⟩:=bH q;refine ⟨w,h1,e1,?_⟩;dsimp only at q ⊢;split at q
    ·exact aZ q
    ·exact aZ q
    ·exact (bT q).elim
   ·exact mF
  | none =>
   dsimp only;split
   ·exact mF
   ·rename_i hm;exact aU0 (cA6 (eI G.rm op) (S.E G a) (S.E G b) (by simpa using hm)) fun δ h Q q=>cY4 q
 | [op,op'],[b,c]=>by
  show DT X _ (Of (if lastMarks [op,op'] [b,c]=true then xno else xC2 op op' (v.E st a) (v.E st b) (v.E st c)));split
  ·exact mF
  ·rename_i hm;exact aU0 (aP3 (eI G.rm op) (eI G.rm op') (S.E G a) (S.E G b) (S.E G c) (by simpa using hm)) fun δ h Q q=>cY5 q
 | [],_=>mF
 | [_],[]=>mF
 | [_],_::_::_=>mF
 | [_,_],[]=>mF
 | [_,_],[_]=>mF
 | [_,_],_::_::_::_=>mF
 | _::_::_::_,_=>mF
def aV3:(∀ x y:PyData,peq x y=true->x=y)/\True:=⟨fun x=>by
 intro y h;exact (PyData.rec (motive_1:=fun x=>∀ y,peq x y=true->x=y) (motive_2:=fun xs=>∀ ys,peqs xs ys=true->xs=ys) (motive_3:=fun _=>True) (motive_4:=fun _=>True)
  (fun y h=>by cases y<;>first | rfl | (simp [peq] at h))
  (fun b y h=>by cases y<;>first | (simp only [peq] at h;rw [eq_of_beq h]) | (simp [peq] at h))
  (fun b y h=>by cases y<;>first | (simp only [peq] at h;rw [eq_of_beq h]) | (simp [peq] at h))
  (fun b y h=>by cases y<;>first | (simp only [peq] at h;rw [eq_of_beq h]) | (simp [peq] at h))
  (fun xs ih y h=>by cases y<;>first | (simp only [peq] at h;rw [ih _ h]) | (simp [peq] at h))
  (fun xs ih y h=>by cases y<;>first | (simp only [peq] at h;rw [ih _ h]) | (simp [peq] at h))
  (fun kvs _ y h=>by cases y<;>simp [peq] at h)
  (fun ys h=>by cases ys<;>first | rfl | (simp [peqs] at h))
  (fun x xs ih1 ih2 ys h=>by
   cases ys with
   | nil=>simp [peqs] at h
   | cons y ys =>
    simp only [peqs,Bool.and_eq_true] at h;rw [ih1 _ h.1,ih2 _ h.2])
  trivial (fun _ _ _ _=>trivial) (fun _ _ _ _=>trivial) x) y h,trivial⟩
theorem zS:∀ {xs ys:List PyData},peqs xs ys=true->xs=ys
 | [],[],_=>rfl
 | [],_::_,h=>by simp [peqs] at h
 | _::_,[],h=>by simp [peqs] at h
 | x::xs,y::ys,h=>by
  simp only [peqs,Bool.and_eq_true] at h;rw [aV3.1 x y h.1,zS h.2]
def iS {c:Option Nat} {xs:List PyData} {h:aA} (e:condB c xs h=true):DL.cond c xs h:=by
 cases c with
 | none=>trivial
 | some i =>
  show h[i]?=some (.l xs);unfold condB at e;dsimp only at e;split at e
  ·rename_i ys q;rw [q,zS e]
  ·cases e
def iG {tg:Expr} {y:XR W} (h:DE X e (Of y)):DI X tg e (OfI (cK y)):=aG9 (bG1 h) fun δ h Q q=>by
 obtain ⟨xs,c,h',e,q⟩:=q;obtain ⟨⟨w,h1⟩,e1,e⟩:=bind_some e;refine ⟨w,h1,e1,?_⟩;dsimp only at e ⊢;split at e
 ·cases e;exact q
 ·cases e;exact q
 ·split at e
  ·rename_i ys ey;try dsimp only
   try rw [ey]
   cases e;exact q
  ·cases e
 ·cases e
def aV4 {i j:Int} (h:kA i j=true):j - i<=16000000/\-(2^62)<=i/\i < 2^62/\-(2^62)<=j/\j < 2^62:=by
 unfold kA at h
 simpa only [Bool.and_eq_true,decide_eq_true_eq] using h
def aV5 {tg:Expr} {y:XR (List PyData×Option Nat)} (n:∀ δ h,y δ h=none):DI X tg e (OfI y):=aG9 cV4 fun δ h Q q=>by
 obtain ⟨_,_,_,e,_⟩:=q;rw [n] at e;cases e
def sK (S:Snd v) (G:bA X st d) {tg:Expr}:∀ e,DI X tg e (OfI (qO v st tg e)):=fun e=>by
 cases e<;>first | exact iG (S.E G _) | exact aV5 fun _ _=>rfl | skip
 case Call f args kw p' =>
  cases f<;>first | exact iG (S.E G _) | skip
  case Name x p =>
   rcases args with _ | ⟨a,_ | ⟨b,_ | ⟨c,r⟩⟩⟩
   ·exact iG (S.E G _)
   ·cases kw with
    | cons _ _=>exact iG (S.E G _)
    | nil =>
     unfold qO;dsimp only;split
     ·rename_i hx;subst hx;split
      ·rename_i hc;simp only [Bool.and_eq_true] at hc;obtain ⟨⟨⟨ht,_⟩,hb⟩,hs⟩:=hc;refine aG9 (aE0 (G.bl _ hb) (cQ (S.E G a) fM (aI hs _)) (fP G ht).2 (aI hs _)) fun δ h Q q=>?_;obtain ⟨xs,c,h',e,q⟩:=q;obtain ⟨⟨w,h1⟩,e1,e⟩:=bind_some e;refine ⟨w,h1,e1,?_⟩;dsimp only [uE] at e ⊢;split at e
       ·split at e
        ·rename_i hr;have z:=aV4 hr;cases e;exact ⟨⟨by omega,z.2.2.2.1⟩,q⟩
        ·cases e
       ·cases e
      ·exact aV5 fun _ _=>rfl
     ·split
      ·rename_i hx;subst hx;split
       ·rename_i hc;simp only [Bool.and_eq_true] at hc;obtain ⟨⟨⟨⟨ht,_⟩,hb⟩,hs⟩,htg⟩:=hc;have htu:∃ es n tp,tg=.Tuple es n tp:=by
         unfold uX at htg;split at htg
         ·exact ⟨_,_,_,rfl⟩
         ·cases htg
        obtain ⟨es,n,tp,rfl⟩:=htu;refine aG9 (bJ7 (G.bl _ hb) (cQ (S.E G a) fM (aI hs _)) (fP G ht).2 (aI hs _)) fun δ h Q q=>?_;obtain ⟨xs,c,h',e,q⟩:=q;obtain ⟨⟨u,h1⟩,e1,e⟩:=bind_some e;refine ⟨u,h1,e1,?_⟩;dsimp only [uE] at e ⊢;split at e
        ·rename_i xs' ex;cases e;exact ⟨u,xs',rfl,ex,q⟩
        ·cases e
       ·exact aV5 fun _ _=>rfl
      ·exact iG (S.E G _)
   ·cases kw with
    | cons _ _=>exact iG (S.E G _)
    | nil =>
     unfold qO;dsimp only;split
     ·rename_i hx;subst hx;split
      ·rename_i hc;simp only [Bool.and_eq_true] at hc;obtain ⟨⟨⟨⟨ht,_⟩,hb⟩,hs⟩,hs2⟩:=hc;refine aG9 (aE1 (G.bl _ hb) (cQ (S.E G a) (cQ (S.E G b) fM (aI hs2 _)) (aI hs _)) (fP G ht).2 (by rw [aI hs,aI hs2];rfl) (aI hs2 _)) fun δ h Q q=>?_;obtain ⟨xs,c,h',e,q⟩:=q;obtain ⟨⟨u,h1⟩,e1,e⟩:=bind_some e;obtain ⟨⟨w,h2⟩,e2,e⟩:=bind_some e;refine ⟨u,h1,e1,w,h2,e2,?_⟩;dsimp only [uE] at e ⊢;split at e
       ·split at e
        ·rename_i hr;have z:=aV4 hr;cases e;exact ⟨z,q⟩
        ·cases e
       ·cases e
      ·exact aV5 fun _ _=>rfl
     ·split
      ·rename_i hx;subst hx;split
       ·rename_i hc;simp only [Bool.and_eq_true] at hc;obtain ⟨⟨⟨⟨⟨ht,_⟩,hb⟩,hs⟩,hs2⟩,htg⟩:=hc;have htu:∃ es n tp,tg=.Tuple es n tp:=by
         unfold uX at htg;split at htg
         ·exact ⟨_,_,_,rfl⟩
         ·cases htg
        obtain ⟨es,n,tp,rfl⟩:=htu;refine aG9 (cG0 (G.bl _ hb) (cQ (S.E G a) (cQ (S.E G b) fM (aI hs2 _)) (aI hs _)) (fP G ht).2 (by rw [aI hs,aI hs2];rfl) (aI hs2 _)) fun δ h Q q=>?_;obtain ⟨xs,c,h',e,q⟩:=q;obtain ⟨⟨u,h1⟩,e1,e⟩:=bind_some e;obtain ⟨⟨w,h2⟩,e2,e⟩:=bind_some e;refine ⟨u,h1,e1,w,h2,e2,?_⟩;dsimp only [uE] at e ⊢;split at e
        ·rename_i xs' ys' ex ey;cases e;exact ⟨u,w,xs',ys',rfl,ex,ey,q⟩
        ·cases e
       ·exact aV5 fun _ _=>rfl
      ·exact iG (S.E G _)
   ·exact iG (S.E G _)
def sL (h:lR e=false) (env:Env) (y:Value):foldedSetIterable e env y=pure y:=by
 cases e<;>first | rfl | cases h
theorem kF {g:XG} {tt:XR Bool} {te:XR W} {c:Option Nat} {all:List PyData} {Q:List PyData->aA->Prop}:∀ (rest:List PyData) (δ:DSt) (h:aA) (ac r:List PyData) (h':aA),aX g tt te c all rest δ h ac=some (r,h')->Q r h'->uK (OfG g) (Of tt) (Of te) c all rest δ h ac Q
 | [],δ,h,ac,r,h',e,q=>by
  unfold aX at e;split at e
  ·rename_i hc;cases e;exact ⟨iS hc,q⟩
  ·cases e
 | x::rest,δ,h,ac,r,h',e,q=>by
  unfold aX at e;split at e
  ·rename_i hc;obtain ⟨⟨δ2,h2⟩,e1,e⟩:=bind_some e;obtain ⟨⟨k,h3⟩,e2,e⟩:=bind_some e;refine ⟨iS hc,δ2,h2,e1,k,h3,e2,?_⟩;dsimp only at e ⊢;split at e
   ·rename_i hk;rw [if_pos hk];obtain ⟨⟨w,h4⟩,e3,e⟩:=bind_some e;refine ⟨w,h4,e3,?_⟩;cases w with
    | d z=>exact kF rest δ2 h4 (ac++[z]) r h' e q
    | c i=>cases e
    | v u=>cases e
   ·rename_i hk;rw [if_neg hk];exact kF rest δ2 h3 ac r h' e q
  ·cases e
def aH8 (N:List Str) (sc:Scope):(qP N sc).length=(xS sc).length:=by unfold qP;rw [List.length_map]
def mR {N:List Str} {sc S:Scope} (h:uY N sc S=true):CompSc N (xS sc) (qP N sc) S sc:=by
 unfold uY at h;simp only [Bool.and_eq_true,decide_eq_true_eq,List.all_eq_true] at h;obtain ⟨h1,h2,h3,h4,h5,h6⟩:=h;refine ⟨h1,fun y hy e=>?_,fun y hy e=>?_,fun y hy e=>?_,h5,aH8 N sc,?_⟩
 ·have:=h2 y hy;rw [e] at this;simp at this
 ·have:=h3 y hy;rw [e] at this
  simpa using this
 ·have:=h4 y hy;rw [e] at this
  simpa using this
 ·rw [List.all_eq_true];exact h6
def dG (G:bA X st d) {sc:Scope} (hc:uY st.N sc st.S=true) (cl:List (Str×Addr)) (C:Addr) (s:Shared) (H:Hp) (fp:List Addr):bA (blk X (xS sc) sc cl C s H fp) (st.blk sc) d:=by
 have SC:=mR hc;refine ⟨G.bl,G.gc,G.tk,G.fn,rfl,?_,SC.nd,G.xe,G.calm,G.rm,(fun z=>nomatch z),SC.kind,G.fnW,G.cls,G.om,G.fo⟩;show relabel sc X.env=cH6 sc st.S;unfold relabel cH6 Env.kindOf;rw [G.S]
theorem xW (S:Snd v) (G:bA X st d):∀ ifs,DIf X ifs (Of (cH7 v st ifs))
 | []=>cY1 bG4 fun δ h Q q=>aZ q
 | [c]=>bG5 (S.T G c)
 | _::_::_=>fun pins s σ H Q I ⟨_,_,_,_,_,_,q,_⟩=>(bT q).elim
def cJ1 (S:Snd v) (G:bA X st d) {elt tg iter:Expr} {ifs:List Expr} {sc:Scope}:DF X (.ListComp elt [⟨tg,iter,ifs,0⟩] sc pos) (Of (qQ v st elt tg iter ifs sc)):=by
 unfold qQ;split
 ·rename_i hc;rw [Bool.and_eq_true] at hc;have hs:lR iter=false:=by simpa using hc.2
  refine sI (bG6 G.xe G.calm G.S G.N (mR hc.1) (sK S G iter) (fun cl C s H fp=>S.G (dG G hc.1 cl C s H fp) tg) (fun cl C s H fp=>xW S (dG G hc.1 cl C s H fp) ifs)
   (fun cl C s H fp=>S.E (dG G hc.1 cl C s H fp) elt) (sL hs _)) fun δ h Q q=>?_
  obtain ⟨r,h',e,q⟩:=q;obtain ⟨⟨⟨xs,c⟩,h1⟩,e1,e⟩:=bind_some e;exact ⟨xs,c,h1,e1,kF _ _ _ _ _ _ e q⟩
 ·exact iW
def cJ2 (S:Snd v) (G:bA X st d):DF X (.List es pos) (Of (xPl (dE v st es))):=sI (aN1 (dF S G es)) fun δ h Q q=>by
 obtain ⟨ws,h1,e1,q⟩:=bH q;refine ⟨ws,h1,e1,?_⟩;obtain ⟨r,h',e,q⟩:=q;dsimp only at e ⊢;split at e
 ·rename_i xs ex;try rw [ex]
  split at e
  ·rename_i hl;cases e;exact ⟨hl,q⟩
  ·cases e
 ·cases e
def cJ3 {l:List Expr} {b:Expr} (e:rgA l=some b):∃ p q,l=[.Call (.Name "range" p) [b] [] q]:=by
 unfold rgA at e;split at e
 ·split at e
  ·rename_i hy;subst hy;cases e;exact ⟨_,_,rfl⟩
  ·cases e
 ·cases e
def sM (G:bA X st d) (h:okC st x=true):Gl X x/\X.mg x=none:=by
 unfold okC at h;simp only [Bool.and_eq_true] at h;exact ⟨(fP G h.1.1).2,G.bl _ h.2⟩
def lA (S:Snd v) (G:bA X st d):∀ e,DF X e (Of (dW v st e)):=fun e=>by
 cases e<;>first | exact iW | skip
 case List=>exact cJ2 S G
 case ListComp elt gs sc p =>
  cases gs with
  | nil=>exact iW
  | cons g r =>
   obtain ⟨tg,iter,ifs,a'⟩:=g;cases r with
   | cons _ _=>exact iW
   | nil =>
    unfold dW;dsimp only;split
    ·rename_i ha;subst ha;exact cJ1 S G
    ·exact iW
 case Subscript a s p =>
  cases s<;>first | exact iW | skip
  case Slice lo hi stp p2 =>
   cases stp with
   | some _=>exact iW
   | none =>
    unfold dW;dsimp only;refine sI (aN6 (S.E G a) (qS S G lo) (qS S G hi)) fun δ h Q q=>?_;obtain ⟨x,h1,e1,q⟩:=bH q;obtain ⟨l,h2,e2,q⟩:=bH q;obtain ⟨u,h3,e3,q⟩:=bH q;obtain ⟨r,h',e,q⟩:=q;refine ⟨x,h1,e1,l,h2,e2,u,h3,e3,?_⟩;dsimp only at e ⊢;split at e
    ·rename_i xs ex;try rw [ex]
     cases e;exact q
    ·cases e
 case BinOp a op b p' =>
  cases op<;>first | exact iW | skip
  case Add =>
   unfold dW;dsimp only;refine sI (bJ1 (S.E G a) (S.E G b)) fun δ h Q q=>?_;obtain ⟨x,h1,e1,q⟩:=bH q;obtain ⟨y,h2,e2,q⟩:=bH q;obtain ⟨r,h',e,q⟩:=q;refine ⟨x,h1,e1,y,h2,e2,?_⟩;dsimp only at e ⊢;split at e
   ·rename_i xs ys ex ey;try rw [ex,ey]
    split at e
    ·rename_i hl;cases e;exact ⟨hl,q⟩
    ·cases e
   ·cases e
  case Mult =>
   cases a<;>first | exact iW | skip
   case List es p =>
    unfold dW;dsimp only;refine sI (cF7 (cJ0 (cJ2 S G)) (S.E G b)) fun δ h Q q=>?_;obtain ⟨x,h1,e1,q⟩:=bH q;obtain ⟨y,h2,e2,q⟩:=bH q;obtain ⟨r,h',e,q⟩:=q;refine ⟨x,h1,e1,y,h2,e2,?_⟩;dsimp only at e ⊢;split at e
    ·split at e
     ·rename_i xs ex;try dsimp only
      try rw [ex]
      split at e
      ·rename_i hl;cases e;exact ⟨hl,q⟩
      ·cases e
     ·cases e
    ·cases e
 case Call f args kw p' =>
  cases f<;>first | exact iW | skip
  case Name x p =>
   cases args with
   | nil=>exact iW
   | cons a es =>
    cases kw with
    | cons _ _=>exact iW
    | nil =>
     unfold dW;dsimp only;split
     ·rename_i hx;subst hx;split
      ·rename_i b hb;obtain ⟨p1,p2,hb⟩:=cJ3 hb;cases hb;split
       ·rename_i hc;simp only [Bool.and_eq_true] at hc;obtain ⟨⟨h1,h2⟩,h3⟩:=hc;refine sI (aG7 G.calm (sM G h1).1 (sM G h1).2 (sM G h2).1 (sM G h2).2 (dF S G [b]) (aI h3 _)) fun δ h Q q=>?_;obtain ⟨ws,h1,e1,q⟩:=bH q;obtain ⟨r,h',e,q⟩:=q;refine ⟨ws,h1,e1,?_⟩;dsimp only at e;split at e
        ·split at e
         ·rename_i hz;cases e;exact ⟨_,rfl,hz,q⟩
         ·cases e
        ·cases e
       ·exact iW
      split
      ·rename_i hc;simp only [Bool.and_eq_true] at hc;obtain ⟨⟨ht,_⟩,hb⟩:=hc;refine dO9 ((a::es).all aO=true) (fun δ h r e=>?_) fun hst=>?_
       ·obtain ⟨p,e1,_⟩:=bind_some e;exact dO _ _ _ _ e1
       ·have hst':=hst;rw [List.all_cons,Bool.and_eq_true] at hst';refine sI (bF4 (G.bl _ hb) (dF S G (a::es)) (fP G ht).2 (aI hst'.1 _) (cD es _ _ hst'.2)) fun δ h Q q=>?_;obtain ⟨ws,h1,e1,q⟩:=bH q;obtain ⟨r,h',e,q⟩:=q;refine ⟨ws,h1,e1,?_⟩;dsimp only at e ⊢;split at e
        ·split at e
         ·rename_i xs ex;try dsimp only
          try rw [ex]
          cases e;exact q
         ·rename_i xs ex;try dsimp only
          try rw [ex]
          cases e;exact q
         ·cases e
        ·cases e
      ·exact iW
     ·exact iW
end
section
variable {X:Cx} {st:Sta} {d:Nat} {x:Str} {v:Evs} {a b c e:Expr} {es:List Expr} {pos:Pos}
def bfun_ok (G:bA X st d) {g:List W->aA->Option (W×aA)} (e:cH2 x=some g) :
  (∃ id,bootBuiltins x=some (.builtin id)/\cF X (.builtin id) (upC X.K (OfC g)))\/∃ T,bootBuiltins x=some (.type T)/\cF X (.type T) (upC X.K (OfC g)):=by
 unfold cH2 at e;split at e
 ·rename_i hx;subst hx;cases e;refine .inl ⟨"len",rfl,xT aD8 fun ws h Q ⟨r,h',e,q⟩=>?_⟩;unfold bP at e;unfold cB8;split at e
  ·split at e
   ·rename_i ey;dsimp only;rw [ey];cases e;exact q
   ·rename_i ey;dsimp only;rw [ey];cases e;exact q
   ·cases e
  ·cases e
 split at e
 ·rename_i hx;subst hx;cases e;refine .inr ⟨"tuple",rfl,xT uI fun ws h Q ⟨r,h',e,q⟩=>?_⟩;unfold bU at e;unfold xG;split at e
  ·split at e
   ·rename_i ey;dsimp only;rw [ey];cases e;exact q
   ·rename_i ey;dsimp only;rw [ey];cases e;exact q
   ·cases e
  ·cases e
 split at e
 ·rename_i hx;subst hx;cases e;refine .inl ⟨"all",rfl,xT (aE6 G.calm) fun ws h Q ⟨r,h',e,q⟩=>?_⟩;unfold jY at e;unfold cC8;split at e
  ·split at e
   ·rename_i ey;dsimp only;rw [ey];obtain ⟨bs,e1,e2⟩:=map_some e;dsimp only;rw [e1];cases e2;exact q
   ·cases e
  ·cases e
 split at e
 ·rename_i hx;subst hx;cases e;exact .inr ⟨"dict",rfl,uV G.calm⟩
 split at e
 ·rename_i hx;subst hx;cases e;exact .inr ⟨"int",rfl,aG6⟩
 ·cases e
def cJ4 {T:Str} {Ts:String} (e:cH3 T=some Ts):lO Ts/\bootBuiltins T=some (.type Ts):=by
 unfold cH3 at e
 repeat' split at e
 all_goals first | (rename_i h;subst h;cases e;exact ⟨bG7,rfl⟩) | (rename_i h;subst h;cases e;exact ⟨aO9,rfl⟩) | (rename_i h;subst h;cases e;exact ⟨bG8,rfl⟩) | (rename_i h;subst h;cases e;exact ⟨aE7,rfl⟩) | (rename_i h;subst h;cases e;exact ⟨aP0,rfl⟩) | cases e
def base_of {o:Expr} (h:jK o=true) (m:Str) (env:Env):attributeBase o m env (eval o env)=eval o env:=by
 cases o<;>first | rfl | cases h
def sN (h:(e::es).all aO=true) (hl:(e::es).length < 29) (env:Env) (cpos:Pos) :
  ((backTo cpos (starEach (e::es) env)).all (fun x=>!x.1)&&(backToKw cpos (keywordEach [] env)).all (fun x=>x.1.isSome)
   && decide ((e::es).length+([]:List Keyword).length+(if ([]:List Keyword).isEmpty then 0 else 1) < 30))=true:=by
 rw [vE _ _ _ h];have:(e::es).length+0+0 < 30:=by omega
 show (true&&true&&decide _)=true;simp only [Bool.true_and,decide_eq_true_eq];exact this
def aV6 (S:Snd v) (G:bA X st d) {o:Expr} {m:Str} {apos:Pos} {g:W->List W->aA->Option (W×aA)} (ho:jK o=true) (hl:(apos.endLine==pos.line)=true) (hn:(a::es).length < 29) (hm:cH8 m=some g) :
  DE X (.Call (.Attribute o m apos) (a::es) [] pos) (Of (bT1 v st o m g (a::es))):=by
 refine aH5 ((a::es).all aO=true) (fun δ h r e=>?_) fun hst=>?_
 ·obtain ⟨p,e1,e⟩:=bind_some e;dsimp only at e;split at e
  ·obtain ⟨p,e2,e⟩:=bind_some e;exact dO _ _ _ _ e2
  ·cases e
 have hst':=hst;rw [List.all_cons,Bool.and_eq_true] at hst';unfold cH8 at hm;split at hm
 ·rename_i hx;subst hx;cases hm;refine bI (cC5 (S.E G o) (dF S G (a::es)) (base_of ho _ _) (sN hst hn _ _) hl (aI hst'.1 _) (cD _ _ _ hst'.2)) fun δ h Q q=>?_;obtain ⟨w,h1,e1,q⟩:=bH q;refine ⟨w,h1,e1,?_⟩;obtain ⟨r,h',e,q⟩:=q;dsimp only at e ⊢;split at e
  ·rename_i hp;obtain ⟨⟨ws,h2⟩,e2,e⟩:=bind_some e;dsimp only at e;split at e
   ·rename_i j x _;dsimp only;have hp':∃ ys,h1[j]?=some (.l ys):=by
     unfold gF at hp;rw [if_pos rfl] at hp;dsimp only at hp;split at hp
     ·rename_i ys ey;exact ⟨ys,ey⟩
     ·cases hp
    obtain ⟨ys,ey⟩:=hp';rw [ey];refine ⟨_,h2,e2,?_⟩;dsimp only;split at e
    ·rename_i xs ex;rw [ex];split at e
     ·rename_i hl;cases e;exact ⟨hl,q⟩
     ·cases e
    ·cases e
   ·cases e
  ·cases e
 ·cases hm
def cY6 (S:Snd v) (G:bA X st d) {o:Expr} {apos:Pos} (ho:jK o=true) (hl:(apos.endLine==pos.line)=true) (ha:aO a=true) :
  DE X (.Call (.Attribute o "pop" apos) [a] [] pos) (Of (cX2 v st o a)):=by
 intro pins s σ H Q I hq;obtain ⟨δ,h,A,μ,k,R,⟨r,h',e,q⟩,c⟩:=hq;obtain ⟨⟨w,h1⟩,e1,e⟩:=bind_some e;dsimp only at e;have hst:[a].all aO=true:=by simp [ha]
 split at e
 ·rename_i j;split at e
  ·rename_i xs ex;obtain ⟨⟨ws,h2⟩,e2,e⟩:=bind_some e;refine cG6 (S.E G o) (dF S G [a]) (base_of ho _ _) (sN hst (by simp) _ _) hl (aI ha _) (cD _ _ _ rfl) pins s σ H Q I ⟨δ,h,A,μ,k,R,⟨.c j,h1,e1,?_⟩,c⟩;dsimp only;rw [ex];refine ⟨ws,h2,e2,?_⟩;unfold uZ at e;dsimp only at e ⊢;split at e
   ·rename_i i ys ey;obtain ⟨n,e3,e⟩:=bind_some e;obtain ⟨x,e4,e⟩:=bind_some e;split at e
    ·rename_i hi;cases e;try rw [ey]
     exact ⟨n,x,e3,e4,hi.1,hi.2,q⟩
    ·cases e
   ·cases e
  ·cases e
 ·cases e
def aH9 {o:Expr} (h:aT5 o=true) (m:Str) (env:Env):attributeBase o m env (eval o env)=eval o env:=by
 cases o<;>first | rfl | cases h | skip
 rename_i f args kw p;cases f<;>first | cases h | skip
 cases args<;>first | cases h | skip
 cases kw<;>first | rfl | cases h
def dP1 (S:Snd v) (G:bA X st d) {o:Expr} {m:Str} {apos:Pos} {C:Addr} {g:XFW} (hm:st.ob.om m=some (C,g)) (ho:aT5 o=true) (hl:(apos.endLine==pos.line)=true) (hn:(a::es).length < 29) (hst:(a::es).all aO=true) :
  DE X (.Call (.Attribute o m apos) (a::es) [] pos) (Of (xMo v st o m C g (a::es))):=by
 obtain ⟨hc,f,fd,ps,hM,F,hb⟩:=G.om m C g hm;have hst':=hst;rw [List.all_cons,Bool.and_eq_true] at hst';refine bI (bK4 hc hM F G.rm hb (S.E G o) (dF S G (a::es)) (aH9 ho _ _) (sN hst hn _ _) hl (aI hst'.1 _) (cD _ _ _ hst'.2)) fun δ h Q q=>?_;obtain ⟨w,h1,e1,q⟩:=bH q;refine ⟨w,h1,e1,?_⟩;obtain ⟨r,h',e,q⟩:=q;dsimp only at e ⊢;split at e
 ·rename_i j;split at e
  ·rename_i C' fs ej;split at e
   ·rename_i hz;obtain ⟨⟨ws,h2⟩,e2,e⟩:=bind_some e;try dsimp only
    try rw [ej]
    exact ⟨hz.1,hz.2,ws,h2,e2,r,h',e,q⟩
   ·cases e
  ·cases e
 ·cases e
def cY7 (S:Snd v) (G:bA X st d) {o:Expr} {f:Str} {pos:Pos} (ho:jK o=true):DE X (.Attribute o f pos) (Of (cX4 v st o f)):=by
 refine bI (cG7 (S.E G o) (base_of ho _ _)) fun δ h Q q=>?_;obtain ⟨w,h1,e1,q⟩:=bH q;refine ⟨w,h1,e1,?_⟩;obtain ⟨r,h',e,q⟩:=q;dsimp only at e ⊢;split at e
 ·rename_i j;split at e
  ·rename_i C fs ej;split at e
   ·rename_i hf;obtain ⟨w2,e3,e4⟩:=map_some e;cases e4;obtain ⟨h5,h6⟩:=G.fo C f hf;try dsimp only
    try rw [ej]
    refine ⟨h5,h6,?_⟩;rw [e3];exact q
   ·cases e
  ·cases e
 ·cases e
def cY8 (S:Snd v) (G:bA X st d) {o:Expr} {apos:Pos} (ho:jK o=true) (hl:(apos.endLine==pos.line)=true) (ha:aO a=true) :
  DE X (.Call (.Attribute o "extend" apos) [a] [] pos) (Of (cX3 v st o a)):=by
 refine bI (cH0 (S.E G o) (S.F G a) (base_of ho _ _) (sN (by simp [ha]) (by simp) _ _) hl (aI ha _)) fun δ h Q q=>?_;obtain ⟨w,h1,e1,q⟩:=bH q;refine ⟨w,h1,e1,?_⟩;obtain ⟨r,h',e,q⟩:=q;dsimp only at e ⊢;split at e
 ·rename_i j;split at e
  ·rename_i ys ey;obtain ⟨⟨zs,h2⟩,e2,e⟩:=bind_some e;try dsimp only
   try rw [ey]
   refine ⟨zs,h2,e2,?_⟩;try dsimp only at e ⊢
   split at e
   ·rename_i xs ex;try rw [ex]
    split at e
    ·rename_i hz;cases e;exact ⟨hz,q⟩
    ·cases e
   ·cases e
  ·cases e
 ·cases e
def gJ (S:Snd v) (G:bA X st d) {f:Expr} {args:List Expr}:DE X (.Call f args [] pos) (Of (zL v st f args pos)):=by
 unfold zL;split
 ·rename_i y p;split
  ·rename_i hc;rw [Bool.and_eq_true] at hc;obtain ⟨ht,hs⟩:=hc;obtain ⟨hn,hg⟩:=fP G ht;split
   ·rename_i m hm;split
    ·exact bW
    ·rename_i a es;refine aH5 ((a::es).all aO=true) (fun δ h r e=>?_) fun hst=>?_
     ·obtain ⟨p,e1,e⟩:=bind_some e;exact dO _ _ _ _ e1
     have hst':=hst;rw [List.all_cons,Bool.and_eq_true] at hst';refine bI (aS4 (G.fnW y m hm) G.rm (dF S G (a::es)) hg (bV hn) (aI hst'.1 _) (cD _ _ _ hst'.2)) fun δ h Q q=>?_;obtain ⟨ws,h1,e1,q⟩:=bH q;exact ⟨ws,h1,e1,q⟩
   split
   ·rename_i C m hm;split
    ·exact bW
    ·rename_i a es;refine aH5 ((a::es).all aO=true) (fun δ h r e=>?_) fun hst=>?_
     ·obtain ⟨p,e1,e⟩:=bind_some e;exact dO _ _ _ _ e1
     have hst':=hst;rw [List.all_cons,Bool.and_eq_true] at hst';rcases G.cls y C m hm with hno | ⟨k,f,fd,ps,hk,hM,F,hmg,hb⟩
     ·refine aH5 False (fun δ h r e=>?_) fun z=>z.elim;obtain ⟨p,e1,e⟩:=bind_some e;unfold xMk at e;dsimp only at e;rw [hno] at e;cases e
     refine bI (bK3 hM F (G.rm.mono hk) hmg hb (dF S G (a::es)) hg (bV hn) (aI hst'.1 _) (cD _ _ _ hst'.2)) fun δ h Q q=>?_;obtain ⟨ws,h1,e1,q⟩:=bH q;refine ⟨ws,h1,e1,?_⟩;obtain ⟨r,h',e,q⟩:=q;unfold xMk at e;obtain ⟨⟨w2,h2⟩,e2,e⟩:=bind_some e;dsimp only at e;split at e
     ·cases e;exact ⟨_,_,e2,rfl,q⟩
     ·cases e
   split
   ·rename_i m hm;split
    ·exact bW
    ·rename_i a es;refine aH5 ((a::es).all aO=true) (fun δ h r e=>?_) fun hst=>?_
     ·obtain ⟨p,e1,e⟩:=bind_some e;exact dO _ _ _ _ e1
     have hst':=hst;rw [List.all_cons,Bool.and_eq_true] at hst';refine bI (zC (G.fn y m hm) G.rm (dF S G (a::es)) hg (bV hn) (aI hst'.1 _) (cD _ _ _ hst'.2)) fun δ h Q q=>?_;obtain ⟨ws,h1,e1,q⟩:=bH q;refine ⟨ws,h1,e1,?_⟩;obtain ⟨r,h',e,q⟩:=q;obtain ⟨p,e2,e3⟩:=bind_some e;cases e3;exact ⟨p.1,p.2,e2,q⟩
   ·split
    ·rename_i hb;split
     ·rename_i g hg';split
      ·exact bW
      ·rename_i a es;refine aH5 ((a::es).all aO=true) (fun δ h r e=>?_) fun hst=>?_
       ·obtain ⟨p,e1,e⟩:=bind_some e;exact dO _ _ _ _ e1
       have hst':=hst;rw [List.all_cons,Bool.and_eq_true] at hst';rcases bfun_ok G hg' with ⟨id,hv,hcr⟩ | ⟨T,hv,hcr⟩
       ·refine bI (aN7 hcr (G.bl _ hb) (dF S G (a::es)) hv hg (kZ hn) (bV hn) (aI hst'.1 _) (cD _ _ _ hst'.2)) fun δ h Q q=>?_;obtain ⟨ws,h1,e1,q⟩:=bH q;exact ⟨ws,h1,e1,q⟩
       ·refine bI (aD7 hcr (G.bl _ hb) (dF S G (a::es)) hv hg (kZ hn) (bV hn) (aI hst'.1 _) (cD _ _ _ hst'.2)) fun δ h Q q=>?_;obtain ⟨ws,h1,e1,q⟩:=bH q;exact ⟨ws,h1,e1,q⟩
     ·split
      ·rename_i hx;subst hx;split
       ·rename_i e0 T pT;split
        ·rename_i hc;simp only [Bool.and_eq_true] at hc;obtain ⟨⟨⟨h1,h2⟩,h3⟩,h4⟩:=hc;obtain ⟨hnT,hgT⟩:=fP G h2;split
         ·rename_i Ts hT;obtain ⟨hk,hv⟩:=cJ4 hT;refine bI (cC9 hk (G.bl _ hb) (G.bl _ h4) (S.E G e0) hv hg hgT (kZ hnT) (bV hnT) (aI h1 _) (aI rfl _) (cD _ _ _ rfl)) fun δ h Q q=>?_;obtain ⟨w,h1,e1,q⟩:=bH q;refine ⟨w,h1,e1,?_⟩;obtain ⟨r,h',e,q⟩:=q;obtain ⟨z,e2,e3⟩:=bind_some e;rw [e2];cases e3;exact q
         ·exact bW
        ·exact bW
       ·exact bW
      ·exact zR (lA S G _)
    ·exact bW
  ·exact bW
 ·rename_i o m apos;split
  ·rename_i C g hm;split
   ·exact bW
   ·rename_i a es;split
    ·rename_i hc;simp only [Bool.and_eq_true,decide_eq_true_eq] at hc;obtain ⟨⟨⟨h1,h2⟩,h3⟩,h4⟩:=hc;exact dP1 S G hm h1 h2 h3 h4
    ·exact bW
  split
  ·rename_i hc;rw [Bool.and_eq_true] at hc;split
   ·exact bW
   ·rename_i a es;split
    ·rename_i hm;subst hm;split
     ·split
      ·rename_i hz;exact cY6 S G hc.1 hc.2 hz
      ·exact bW
     ·exact bW
    split
    ·rename_i hm;subst hm;split
     ·split
      ·rename_i hz;exact cY8 S G hc.1 hc.2 hz
      ·exact bW
     ·exact bW
    split
    ·rename_i hl;split
     ·rename_i g hg;exact aV6 S G hc.1 hc.2 (by simpa using hl) hg
     ·exact bW
    ·exact bW
  ·exact bW
 ·exact bW
def bM0 (h:bL0 e=false):jO e:=by
 intro o i;cases e<;>first | rfl | cases h
def sO (G:bA X st d) (h:okB st x=true):Gl X x/\X.mg x=none:=by
 unfold okB at h;simp only [Bool.and_eq_true] at h;exact ⟨(fP G h.1.1.1).2,G.bl _ h.1.2⟩
def cJ5 (S:Snd v) (G:bA X st d) {f:Expr} {args:List Expr}:DE X (.Call f args [] pos) (Of (aT6 v st f args pos)):=by
 cases f<;>first | exact gJ S G | skip
 case Name x p =>
  rcases args with _ | ⟨a,_ | ⟨b,r⟩⟩
  ·exact gJ S G
  ·cases a<;>first | exact gJ S G | skip
   case Call g as kw pos2 =>
    cases g<;>first | exact gJ S G | skip
    case Name y p2 =>
     cases kw with
     | cons _ _=>exact gJ S G
     | nil =>
      unfold aT6;dsimp only;split
      ·rename_i hxy;obtain ⟨rfl,rfl⟩:=hxy;split
       ·rename_i a;split
        ·rename_i hc;simp only [Bool.and_eq_true] at hc;obtain ⟨⟨h1,h2⟩,h3⟩:=hc;refine bI (bK7 G.calm (sO G h1).1 (sO G h1).2 (sO G h2).1 (sO G h2).2 (dF S G [a]) (aI h3 _)) fun δ h Q q=>?_;obtain ⟨ws,h1,e1,q⟩:=bH q;refine ⟨ws,h1,e1,?_⟩;obtain ⟨r,h',e,q⟩:=q;dsimp only at e;unfold xLS at e;split at e
         ·split at e
          ·rename_i en;split at e
           ·rename_i hl;cases e;exact ⟨_,_,rfl,en,hl,q⟩
           ·cases e
          ·cases e
         ·cases e
        ·exact bW
       ·exact bW
      ·exact gJ S G
  ·cases a<;>first | exact gJ S G | skip
   case Call g as kw pos2 =>
    cases g<;>first | exact gJ S G | skip
    case Name y p2=>cases kw<;>exact gJ S G
def cJ6 (S:Snd v) (G:bA X st d):∀ e,DE X e (Of (kD v st e)):=fun e=>by
 cases e<;>first | exact bW | skip
 case Name=>exact cI4 G
 case Constant=>exact bL1
 case BinOp a op b p =>
  unfold kD;dsimp only;split
  ·rename_i es p';exact zR (lA S G (.BinOp (.List es p') .Mult b p))
  ·refine bI (cT4 (bL5 op) (S.E G a) (S.E G b)) fun δ h Q q=>?_;obtain ⟨x,h1,e1,q⟩:=bH q;obtain ⟨y,h2,e2,q⟩:=bH q;exact ⟨x,h1,e1,y,h2,e2,q⟩
 case Compare=>exact aH6 S G
 case BoolOp op vs p=>cases op with
  | And=>exact aV0 S G _
  | Or=>exact bT6 S G _
 case UnaryOp op a p =>
  cases op<;>first | exact bW | skip
  case Not =>
   unfold kD;dsimp only;refine bI (cA9 (S.E G a)) fun δ h Q q=>?_;obtain ⟨w,h1,e1,q⟩:=bH q;refine ⟨w,h1,e1,?_⟩;dsimp only at q ⊢;split at q
   ·exact aZ q
   ·exact (bT q).elim
  case USub =>
   unfold kD;dsimp only;refine bI (cF1 (S.E G a)) fun δ h Q q=>?_;obtain ⟨w,h1,e1,q⟩:=bH q;refine ⟨w,h1,e1,?_⟩;dsimp only at q ⊢;split at q
   ·exact aZ q
   ·exact (bT q).elim
 case IfExp c a b p =>
  unfold kD;dsimp only;refine bI (aN4 (S.T G c) (S.E G a) (S.E G b)) fun δ h Q q=>?_;obtain ⟨t,h1,e1,q⟩:=bH q;refine ⟨t,h1,e1,?_⟩;dsimp only at q ⊢;split at q
  ·rename_i ht;rw [if_pos ht];exact q
  ·rename_i ht;rw [if_neg ht];exact q
 case Tuple es k p =>
  unfold kD;dsimp only;refine bI (cA4 (dF S G es)) fun δ h Q q=>?_;obtain ⟨xs,h1,e1,q⟩:=bH q;obtain ⟨⟨ws,h2⟩,e2,e3⟩:=bind_some e1;refine ⟨ws,h2,e2,?_⟩;dsimp only at e3 ⊢;split at e3
  ·rename_i ys ey;try rw [ey]
   split at e3
   ·rename_i hl;cases e3;exact ⟨hl,aZ q⟩
   ·cases e3
  ·cases e3
 case List=>exact zR (lA S G _)
 case ListComp=>exact zR (lA S G _)
 case Subscript a s p =>
  unfold kD;dsimp only;split
  ·rename_i lo hi p2;refine bI (aU1 (cB7 (S.E G a) (qS S G lo) (qS S G hi)) (xD (aN6 (S.E G a) (qS S G lo) (qS S G hi)))) fun δ h Q q=>?_;obtain ⟨x,h1,e1,q⟩:=bH q;obtain ⟨l,h2,e2,q⟩:=bH q;obtain ⟨u,h3,e3,q⟩:=bH q;obtain ⟨r,h',e,q⟩:=q;dsimp only at e;unfold xSl at e;split at e
   ·cases e;exact .inl ⟨_,h1,e1,l,h2,e2,u,_,e3,q⟩
   ·split at e
    ·rename_i xs ex;cases e;refine .inr ⟨x,h1,e1,l,h2,e2,u,_,e3,?_⟩;dsimp only;rw [ex];exact q
    ·cases e
  ·split
   ·exact bW
   ·rename_i hsl;have hs:jO s:=bM0 (by simpa using hsl);split
    ·rename_i f hf;obtain ⟨y,p,pp,rfl,h1,h2,h3,h4⟩:=xV G hf;refine bI (cF2 h4 h3 (S.E G s) h2 (bV h1) hs) fun δ h Q q=>?_;obtain ⟨w,h1,e1,q⟩:=bH q;refine ⟨w,h1,e1,?_⟩;dsimp only at q ⊢;split at q
     ·split at q
      ·rename_i ei;try dsimp only
       try rw [ei]
       exact aZ q
      ·exact (bT q).elim
     ·exact (bT q).elim
    ·refine bI (aU1 (cG9 (S.E G a) (S.E G s) hs) (aG (aM0 (cY3 G.rm) (S.E G a) (S.E G s) hs) fun _ _ _ q=>uF q)) fun δ h Q q=>?_;obtain ⟨x,h1,e1,q⟩:=bH q;obtain ⟨y,h2,e2,q⟩:=bH q;obtain ⟨r,h',e,q⟩:=q;dsimp only at e;unfold xIx at e;split at e
     ·rename_i xs i ex;obtain ⟨z,e3,e4⟩:=map_some e;cases e4;refine .inl ⟨x,h1,e1,_,h2,e2,.inl ?_⟩;show dIx x _ h2 Q;unfold dIx;rw [ex];dsimp only;rw [e3];exact q
     ·rename_i xs i ex;obtain ⟨z,e3,e4⟩:=map_some e;cases e4;refine .inl ⟨x,h1,e1,_,h2,e2,.inl ?_⟩;show dIx x _ h2 Q;unfold dIx;rw [ex];dsimp only;rw [e3];exact q
     ·rename_i kvs z ex;split at e
      ·rename_i k ek;obtain ⟨p,e3,e4⟩:=map_some e;cases e4;refine .inr ⟨x,h1,e1,_,h2,e2,?_⟩;show bL7 x _ h2 Q;unfold bL7;rw [ex];dsimp only;rw [ek];dsimp only;rw [e3];exact q
      ·cases e
     ·rename_i k ex;unfold xIr at e;split at e
      ·rename_i j;split at e
       ·rename_i is ej;obtain ⟨m,e3,e4⟩:=map_some e;cases e4;refine .inl ⟨_,h1,e1,_,h2,e2,.inr ?_⟩;show bK5 _ _ h2 Q;unfold bK5;dsimp only;rw [ej];dsimp only;rw [e3];exact q
       ·cases e
      ·cases e
     ·cases e
 case Call f args kw p =>
  cases kw with
  | cons _ _=>exact bW
  | nil=>exact cJ5 S G
 case Attribute =>
  unfold kD;dsimp only;split
  ·rename_i hz;exact cY7 S G hz
  ·exact bW
 case Dict ks vs p =>
  cases ks with
  | cons _ _=>exact bW
  | nil =>
   cases vs with
   | cons _ _=>exact bW
   | nil=>exact bI aQ0 fun δ h Q q=>aZ q
def cJ7 (S:Snd v) (G:bA X st d):∀ e,DT X e (Of (aT7 v st e)):=fun e=>by
 have val:∀ {e:Expr},(∀ whole,isTrue e X.env whole=(do let v <- whole;standAt e.pos;holding [v] (truthy v)))->DT X e (Of (xb (v.E st e) fun w=>(match w with
  | .d (.bool b)=>aD b
  | _=>xno))):=fun {e} he=>aU0 (xE (S.E G e) he) fun δ h Q q=>by
   obtain ⟨w,h1,e1,q⟩:=bH q;refine ⟨w,h1,e1,?_⟩;dsimp only at q ⊢;split at q
   ·exact aZ q
   ·exact (bT q).elim
 cases e<;>first | exact val fun _=>rfl | skip
 case UnaryOp op a p =>
  cases op<;>first | exact val fun _=>rfl | skip
  unfold aT7;dsimp only;refine aU0 (aN2 (S.T G a)) fun δ h Q q=>?_;obtain ⟨w,h1,e1,q⟩:=bH q;exact ⟨w,h1,e1,aZ q⟩
 case BoolOp op vs p=>cases op with
  | And=>exact (aV1 S G _).dt
  | Or=>exact (bT7 S G _).dt
 case Compare=>exact aH7 S G
 case IfExp=>exact mF
end
section
variable {X:Cx} {st:Sta} {d:Nat} {x:Str} {v:Evs} {a b c e:Expr} {es:List Expr} {pos:Pos}
def vF (h:aO e=true) (env:Env):(assignEach (e::es) env).map (·.2)=assign e env::(assignEach es env).map (·.2):=by
 cases e<;>first | rfl | cases h
theorem oF:∀ (es:List Expr) (env:Env),(assignEach es env).length=es.length
 | [],_=>rfl
 | e::es,env=>by
  cases e<;>(show (assignEach es env).length+1=es.length+1;rw [oF es env])
theorem lT:∀ (es:List Expr) (env:Env),es.all aO=true->(assignEach es env).findIdx? (·.1)=none
 | [],_,_=>rfl
 | e::es,env,h=>by
  rw [List.all_cons,Bool.and_eq_true] at h;have ih:=lT es env h.2;rw [List.findIdx?_eq_none_iff] at ih ⊢;intro p hp;have:assignEach (e::es) env=(false,assign e env)::assignEach es env:=by cases e<;>first | rfl | cases h.1
  rw [this] at hp;rcases List.mem_cons.mp hp with z | z
  ·rw [z]
  ·exact ih p z
theorem bT8:∀ (es:List Expr) (xs:List PyData) (δ:DSt) (h:aA) (p:DSt×aA),cX5 v st es xs δ h=some p->xs.length=es.length
 | [],[],_,_,_,_=>rfl
 | [],_::_,_,_,_,e=>by cases e
 | _::_,[],_,_,_,e=>by cases e
 | e::es,x::xs,δ,h,p,q=>by
  obtain ⟨⟨δ2,h2⟩,_,q⟩:=bind_some (show (v.G st e (.d x) δ h).bind _=some p from q);rw [List.length_cons,List.length_cons,bT8 es xs _ _ p q]
theorem bT9 (S:Snd v) (G:bA X st d):∀ es,es.all aO=true->DGs X es (fun xs δ h Q=>∃ δ' h',cX5 v st es xs δ h=some (δ',h')/\Q δ' h')
 | [],_=>jU bF9 fun vs σ H Q ⟨xs,δ,h,A,μ,k,R,r,⟨δ',h',e,q⟩,c⟩=>by
  refine ⟨xs,δ,h,A,μ,k,R,r,?_,c⟩;cases xs with
  | nil=>cases e;exact ⟨rfl,q⟩
  | cons y ys=>cases e
 | e::es,hs=>by
  rw [List.all_cons,Bool.and_eq_true] at hs;refine jU (aO1 (S.G G e) (bT9 S G es hs.2) (vF hs.1 _)) fun vs σ H Q ⟨xs,δ,h,A,μ,k,R,r,⟨δ',h',e,q⟩,c⟩=>?_;refine ⟨xs,δ,h,A,μ,k,R,r,?_,c⟩;cases xs with
  | nil=>cases e
  | cons y ys =>
   obtain ⟨⟨δ2,h2⟩,e1,e⟩:=bind_some e;exact ⟨δ2,h2,e1,δ',h',e,q⟩
def xX {o i:Expr} (h:bL0 i=false) (env:Env) (v:Value):assign (.Subscript o i pos) env v=(do
   let ov <- holding [v] (eval o env)
   let iv <- holding [v,ov] (eval i env)
   standAt pos
   holding [v,ov,iv] (setItem ov iv v)
   release [v,ov,iv] []):=by
 cases i<;>first | rfl | cases h
def cJ8 (S:Snd v) (G:bA X st d):∀ e,DG X e (OfG (vA v st e)):=fun e=>by
 cases e<;>first | exact aH0 fun _ _ _=>rfl | skip
 case Name =>
  unfold vA;dsimp only;split
  ·rename_i i hi;split
   ·rename_i hc;rw [Bool.and_eq_true] at hc;refine cI1 (bF8 (i:=i) (by rw [G.N];exact G.nd) (gG G hi) (oA G hc.1) (aU2 G hc.2)) fun w δ h Q q=>?_;obtain ⟨δ',h',e,q⟩:=q;cases e;exact q
   ·exact aH0 fun _ _ _=>rfl
  ·exact aH0 fun _ _ _=>rfl
 case Tuple es k p =>
  unfold vA;dsimp only
  by_cases hs:es.all aO=true
  ·rw [if_pos hs];refine cI1 (cC1 (n:=es.length) G.calm (bT9 S G es hs) (oF _ _) (lT _ _ hs)) fun w δ h Q q=>?_;obtain ⟨δ',h',e,q⟩:=q;unfold fT at e;unfold aO0;split at e
   ·rename_i xs;exact ⟨bT8 es xs δ h _ e,δ',h',e,q⟩
   ·cases e
  ·rw [if_neg hs];exact aH0 fun w δ h=>rfl
 case Subscript o i p =>
  unfold vA;dsimp only;split
  ·exact aH0 fun _ _ _=>rfl
  ·rename_i hsl;refine cI1 (bJ9 (S.E G o) (S.E G i) (xX (by simpa using hsl) _)) fun w δ h Q q=>?_;obtain ⟨δ',h',e,q⟩:=q;dsimp only at e;obtain ⟨⟨u,h1⟩,e1,e⟩:=bind_some e;obtain ⟨⟨z,h2⟩,e2,e⟩:=bind_some e;refine ⟨u,h1,e1,z,h2,e2,?_⟩;dsimp only at e ⊢;split at e
   ·split at e
    ·rename_i xs ex;obtain ⟨n,e3,e4⟩:=map_some e;cases e4;try dsimp only
     try rw [ex]
     try dsimp only
     try rw [e3]
     exact q
    ·rename_i kvs ex;split at e
     ·rename_i hk;cases e;try dsimp only
      try rw [ex]
      try dsimp only
      exact ⟨hk.1,hk.2,q⟩
     ·cases e
    ·cases e
   ·cases e
theorem oG (S:Snd v) (G:bA X st d):∀ ss,DSs X ss (OfS (xSs v st ss))
 | []=>bT3 zD fun E δ h q=>by
  obtain ⟨fl,h',e,q⟩:=q;cases e;exact q
 | s::r=>bT3 (nN (S.S G s) (oG S G r)) fun E δ h q=>by
  obtain ⟨fl,h',e,q⟩:=q;obtain ⟨⟨f1,h1⟩,e1,e⟩:=bind_some e;refine ⟨f1,h1,e1,?_⟩;dsimp only at e;cases f1 with
  | nx δ'=>exact ⟨fl,h',e,q⟩
  | rt w=>cases e;exact q
  | bk δ'=>cases e;exact q
  | ct δ'=>cases e;exact q
theorem sP {g:XG} {tb:XS} {c:Option Nat} {all:List PyData} {E:DEnds}:∀ (rest:List PyData) (δ:DSt) (h:aA) (fl:Fl) (h':aA),dH g tb c all rest δ h=some (fl,h')->qR E h' fl->aE2 (OfG g) (OfS tb) c all rest E δ h
 | [],δ,h,fl,h',e,q=>by
  unfold dH at e;split at e
  ·rename_i hc;cases e;exact ⟨iS hc,q⟩
  ·cases e
 | x::rest,δ,h,fl,h',e,q=>by
  unfold dH at e;split at e
  ·rename_i hc;obtain ⟨⟨δ2,h2⟩,e1,e⟩:=bind_some e;obtain ⟨⟨f2,h3⟩,e2,e⟩:=bind_some e;refine ⟨iS hc,δ2,h2,e1,f2,h3,e2,?_⟩;dsimp only at e;cases f2 with
   | nx δ'=>exact sP rest δ' h3 fl h' e q
   | ct δ'=>exact sP rest δ' h3 fl h' e q
   | bk δ'=>cases e;exact q
   | rt w=>cases e;exact q
  ·cases e
def aV7 {body:List Stmt} {xc:XR Bool} {xbd:XS} (hxe:X.xe=fun _ _=>False) (hc:DT X c (Of xc)) (hb:DSs X body (OfS xbd)) (n:Nat):DS X (.While c body [] pos) (OfS (dN xc xbd n)) :=
 bF (aK8 (by rw [hxe];exact PassesOwn.never) hc hb) fun D σ H q=>by
  obtain ⟨δ,h,A,μ,E,R,⟨fl,h',e,q⟩,L⟩:=q;refine ⟨fun m σ' H'=>∃ δ' h0 A' μ',Ext A A' μ μ' H H'/\Ab X.K A' μ' δ' h0 σ' H'/\∃ fl h',dN xc xbd m δ' h0=some (fl,h')/\qR E h' fl,⟨n,δ,h,A,μ,.refl,R,fl,h',e,q⟩,?_⟩;rintro m σ' H' ⟨δ',h0,A',μ',y,R',fl,h1,e,q⟩;cases m with
  | zero=>cases e
  | succ m =>
   obtain ⟨⟨k,h2⟩,e1,e⟩:=bind_some e;refine ⟨δ',h0,A',μ',fun b h''=>b=k/\h''=h2,R',⟨k,h2,e1,rfl,rfl⟩,?_⟩;rintro b h'' H1 A1 μ1 ⟨rfl,rfl⟩ x1 R1;have y1:=y.trans x1;dsimp only at e;cases b with
   | false =>
    rw [if_neg Bool.false_ne_true] at e ⊢;cases e;exact L.nx δ' _ σ' H1 A1 μ1 q y1 ⟨R1,R'.2.ext x1 R'.1.sub⟩
   | true =>
    rw [if_pos rfl] at e ⊢;obtain ⟨⟨f2,h3⟩,e2,e⟩:=bind_some e;refine ⟨fun σ2 H2=>∃ δ2 h2 A2 μ2,Ext A A2 μ μ2 H H2/\Ab X.K A2 μ2 δ2 h2 σ2 H2/\∃ fl h',dN xc xbd m δ2 h2=some (fl,h')/\qR E h' fl,fun σ2 H2 z=>⟨m,Nat.lt_succ_self m,z⟩,?_⟩;refine ⟨δ',_,A1,μ1,{ nx:=fun δ h=>∃ fl h',dN xc xbd m δ h=some (fl,h')/\qR E h' fl,ct:=fun δ h=>∃ fl h',dN xc xbd m δ h=some (fl,h')/\qR E h' fl,bk:=E.nx,rt:=E.rt },⟨R1,R'.2.ext x1 R'.1.sub⟩,⟨f2,h3,e2,?_⟩,⟨?_,?_,?_,?_⟩⟩
    ·dsimp only at e;cases f2 with
     | nx δ2=>exact ⟨fl,h1,e,q⟩
     | ct δ2=>exact ⟨fl,h1,e,q⟩
     | bk δ2=>cases e;exact q
     | rt w=>cases e;exact q
    ·exact fun δ2 h2 σ2 H2 A2 μ2 z x2 R2=>⟨δ2,h2,A2,μ2,y1.trans x2,R2,z⟩
    ·exact fun δ2 h2 σ2 H2 A2 μ2 z x2 R2=>L.nx δ2 h2 σ2 H2 A2 μ2 z (y1.trans x2) R2
    ·exact fun δ2 h2 σ2 H2 A2 μ2 z x2 R2=>⟨δ2,h2,A2,μ2,y1.trans x2,R2,z⟩
    ·exact fun w h2 v H2 A2 μ2 z x2 R2 r2=>L.rt w h2 v H2 A2 μ2 z (y1.trans x2) R2 r2
def aV8:DS X (.Break pos) (OfS fun δ h=>some (.bk δ,h)):=bF aK6 fun D σ H q=>by
 obtain ⟨δ,h,A,μ,E,R,⟨fl,h',e,q⟩,L⟩:=q;cases e;exact L.bk δ _ σ H A μ q .refl R
def vG:DS X (.Continue pos) (OfS fun δ h=>some (.ct δ,h)):=bF tS fun D σ H q=>by
 obtain ⟨δ,h,A,μ,E,R,⟨fl,h',e,q⟩,L⟩:=q;cases e;exact L.ct δ _ σ H A μ q .refl R
def oH (h:kX e=false) (t:Option Expr) (l:Nat) (env:Env):swapsWith e t l env=pure false:=by
 cases e<;>first | rfl | cases h
def aV9 (G:bA X st d):X.env.blockKind=.function:=by
 unfold Env.blockKind;rw [G.S,G.kind];rfl
def vH (G:bA X st d) {elt:Expr} {gs:List Comprehension} {sc:Scope} {p px:Pos} {l:Nat} :
  swapsWith (.ListComp elt gs sc p) (some (.Name x px)) l X.env=pure (swB st (.ListComp elt gs sc p) x px):=by
 show (pure (X.env.blockKind==.function&&X.env.kindOf x==some .local&&px.line==p.line&&!(sc.names.any fun (n,k)=>n==x&&(k==.local||k==.cell))):Sem Bool)=_;unfold swB;dsimp only;have e1:(X.env.blockKind==.function)=true:=by rw [aV9 G];rfl
 have e2:(X.env.kindOf x==some .local)=fG st.S x:=by
  unfold Env.kindOf fG;rw [G.S];cases q:st.S.names.lookup x with
  | none=>rfl
  | some k=>cases k<;>rfl
 rw [e1,e2,Bool.true_and]
def vI {i:Nat} {px:Pos} {y:XR W} {te:DTE} (hd:DS X (.Assign [.Name x px] e pos) (aD9 te (pS i))) (m:∀ δ h Q,Of y δ h Q->te δ h Q):DS X (.Assign [.Name x px] e pos) (OfS (aY i y)):=sJ hd fun E δ h q=>by
 obtain ⟨fl,h',e,q⟩:=q;obtain ⟨⟨w,h1⟩,e1,e⟩:=bind_some e;cases e;exact m δ h _ ⟨w,h1,e1,q⟩
def sQ {y:XR (List PyData)} (δ:DSt) (h:aA) (Q:DK) (q:Of (aV y) δ h Q):cA3 (Of y) δ h Q:=by
 obtain ⟨w,h',e,q⟩:=q;obtain ⟨p,e1,e2⟩:=bind_some e;cases e2;exact ⟨p.1,p.2,e1,q⟩
def cJ9 {y:XR (List PyData)} (δ:DSt) (h:aA) (Q:DK) (q:Of (aQ y) δ h Q):bE2 (Of y) δ h Q:=by
 obtain ⟨w,h',e,q⟩:=q;obtain ⟨p,e1,e2⟩:=bind_some e;cases e2;exact ⟨p.1,p.2,e1,q⟩
def bM1 (S:Snd v) (G:bA X st d) {i:Nat} {px:Pos} (hi:slot st x=some i) (hl:xR st.S x=true) (hf:(st.top||fG st.S x)=true) (hc:kX e=true) (hs:(swB st e x px||!(fG st.S x))=true) :
  DFS X i (.Assign [.Name x px] e pos) (Of (dW v st e)):=by
 have no:∀ {e:Expr},(∀ δ h,dW v st e δ h=none)->DFS X i (.Assign [.Name x px] e pos) (Of (dW v st e)):=fun {e} n pins s σ H D I q=>by
  obtain ⟨δ,h,A,μ,k,R,⟨r,h',e,_⟩,c⟩:=q;rw [n] at e;cases e
 cases e with
 | ListComp elt gs sc p =>
  by_cases hw:swB st (.ListComp elt gs sc p) x px=true
  ·match gs with
   | [⟨tg,iter,ifs,a⟩] =>
    by_cases ha:a=0
    ·subst ha;have e0:dW v st (.ListComp elt [⟨tg,iter,ifs,0⟩] sc p)=qQ v st elt tg iter ifs sc:=rfl;rw [e0];unfold qQ;split
     ·rename_i hc;rw [Bool.and_eq_true] at hc;have hset:lR iter=false:=by simpa using hc.2
      have hloc:st.S.names.lookup x=some .local:=by
       unfold swB at hw;simp only [Bool.and_eq_true] at hw;exact vB hw.1.1
      refine bF (aO6 (by rw [G.N];exact G.nd) G.xe G.calm G.S G.N (mR hc.1) (sK S G iter) (fun cl C s H fp=>S.G (dG G hc.1 cl C s H fp) tg) (fun cl C s H fp=>xW S (dG G hc.1 cl C s H fp) ifs)
       (fun cl C s H fp=>S.E (dG G hc.1 cl C s H fp) elt) (gG G hi) (by rw [G.S];exact hloc) (by rw [vH G,hw]) (sL hset _)) fun D σ H q=>?_
      obtain ⟨δ,h,A,μ,k,R,⟨r,h',e,q⟩,c⟩:=q;refine ⟨δ,h,A,μ,k,R,?_,c⟩;obtain ⟨⟨⟨xs,c⟩,h1⟩,e1,e⟩:=bind_some e;exact ⟨xs,c,h1,e1,kF _ _ _ _ _ _ e q⟩
     ·exact fun pins s σ H D I q=>by
       obtain ⟨δ,h,A,μ,k,R,q,c⟩:=q;exact (bT q).elim
    ·exact no fun δ h=>by
      show (if a=0 then qQ v st elt tg iter ifs sc else xno) δ h=none;rw [if_neg ha];rfl
   | []=>exact no fun _ _=>rfl
   | ⟨_,_,_,_⟩::_::_=>exact no fun _ _=>rfl
  ·have hw':swB st (.ListComp elt gs sc p) x px=false:=by simpa using hw
   exact aO2 (by rw [G.N];exact G.nd) (lA S G _) (gG G hi) (oA G hl) (by rw [vH G,hw']) (aU2 G hf)
 | SetComp elt gs sc p=>exact no fun _ _=>rfl
 | DictComp k w gs sc p=>exact no fun _ _=>rfl
 | _=>cases hc
def xY {tg:Expr} (h:cI0 e tg=false) (env:Env):swappedStores [tg] e env=pure none:=by
 cases tg<;>first | rfl | (cases e<;>first | rfl | cases h)
def bM2 (h:∀ t p,e≠.Starred t p) (env:Env):(assignEach [e] env).map (·.2)=[assign e env]:=by
 cases e<;>first | rfl | exact absurd rfl (h _ _)
theorem lB {g:XG} {tt:XR Bool} {te:XR W} {c:Option Nat} {all:List PyData} {Q:List Nat->aA->Prop}:∀ (rest:List PyData) (δ:DSt) (h:aA) (ac r:List Nat) (h':aA),kW g tt te c all rest δ h ac=some (r,h')->Q r h'->uW (OfG g) (Of tt) (Of te) c all rest δ h ac Q
 | [],δ,h,ac,r,h',e,q=>by
  unfold kW at e;split at e
  ·rename_i hc;cases e;exact ⟨iS hc,q⟩
  ·cases e
 | x::rest,δ,h,ac,r,h',e,q=>by
  unfold kW at e;split at e
  ·rename_i hc;obtain ⟨⟨δ2,h2⟩,e1,e⟩:=bind_some e;obtain ⟨⟨b,h3⟩,e2,e⟩:=bind_some e;dsimp only at e;refine ⟨iS hc,δ2,h2,e1,b,h3,e2,?_⟩;split at e
   ·rename_i hb;rw [if_pos hb];obtain ⟨⟨w,h4⟩,e3,e⟩:=bind_some e;dsimp only at e;refine ⟨w,h4,e3,?_⟩;split at e
    ·exact lB rest δ2 h4 _ r h' e q
    ·cases e
   ·rename_i hb;rw [if_neg hb];exact lB rest δ2 h3 _ r h' e q
  ·cases e
def cY9 (S:Snd v) (G:bA X st d):DE X e (Of (cH9 v st e)):=by
 cases e<;>first | exact S.E G _ | skip
 case ListComp elt gs sc p =>
  cases elt<;>first | exact S.E G _ | skip
  case List es lp =>
   rcases es with _ | ⟨e1,r1⟩
   ·rcases gs with _ | ⟨⟨tg,iter,ifs,a⟩,_ | ⟨g2,r⟩⟩
    ·exact S.E G _
    ·unfold cH9;dsimp only;split
     ·rename_i ha;subst ha;unfold aT9;split
      ·rename_i hc;rw [Bool.and_eq_true] at hc;have hset:lR iter=false:=by simpa using hc.2
       refine bI (aS7 G.xe G.calm G.S G.N (mR hc.1) (sK S G iter) (fun cl C s H fp=>S.G (dG G hc.1 cl C s H fp) tg) (fun cl C s H fp=>xW S (dG G hc.1 cl C s H fp) ifs) (fun cl C s H fp=>bI (aN0 (cJ2 S (dG G hc.1 cl C s H fp) (es:=[]))) fun δ h Q q=>sQ δ h Q q) (sL hset _)) fun δ h Q q=>?_;obtain ⟨r,h',e,q⟩:=q;obtain ⟨⟨⟨xs,c⟩,h1⟩,e1,e⟩:=bind_some e;obtain ⟨⟨is,h2⟩,e2,e3⟩:=bind_some e;cases e3;exact ⟨xs,c,h1,e1,lB _ _ _ _ _ _ e2 q⟩
      ·exact bW
     ·exact bW
    ·exact S.E G _
   ·exact S.E G _
def cK0 (S:Snd v) (G:bA X st d) {o:Expr} {f:Str} {pa pos:Pos}:DS X (.Assign [.Attribute o f pa] e pos) (OfS (bT2 v st o f e)):=by
 refine sJ (cG8 (S.E G o) (cY9 S G) (by cases e<;>rfl)) fun E δ h q=>?_;obtain ⟨fl,h',e',q⟩:=q;obtain ⟨⟨w,h1⟩,e1,e'⟩:=bind_some e';obtain ⟨⟨u,h2⟩,e2,e'⟩:=bind_some e';refine ⟨w,h1,e1,u,h2,e2,?_⟩;dsimp only at e' ⊢;split at e'
 ·rename_i j;split at e'
  ·rename_i C fs ej;split at e'
   ·rename_i hz;cases e';obtain ⟨h5,h6⟩:=G.fo C f hz.1;try dsimp only
    try rw [ej]
    exact ⟨h5,h6,hz.2,q⟩
   ·cases e'
  ·cases e'
 ·cases e'
def cZ0 (S:Snd v) (G:bA X st d) {tg e:Expr} {p:Pos}:DS X (.Assign [tg] e p) (OfS (if (kX e||cI0 e tg||!(aO tg))=true then fun _ _=>none else fun δ h=>(v.E st e δ h).bind fun p=>(v.G st tg p.1 δ p.2).bind fun q=>some (.nx q.1,q.2))):=by
 split
 ·exact kY fun _ _=>rfl
 ·rename_i hc;simp only [Bool.or_eq_true,not_or,Bool.not_eq_true,Bool.not_eq_true',Bool.not_eq_false] at hc;have hst:aO tg=true:=by simpa using hc.2
  refine sJ (cC2 (S.E G e) (S.G G tg) (oH hc.1.1 _ _ _) (xY hc.1.2 _) (bM2 (fun t p z=>by rw [z] at hst;cases hst) _)) fun E δ h q=>?_;obtain ⟨fl,h',e,q⟩:=q;obtain ⟨⟨w,h1⟩,e1,e⟩:=bind_some e;obtain ⟨⟨δ2,h2⟩,e2,e⟩:=bind_some e;cases e;exact ⟨w,h1,e1,δ2,_,e2,q⟩
def cK1 (S:Snd v) (G:bA X st d):∀ s,DS X s (OfS (nZ v st s)):=fun s=>by
 cases s<;>first | exact kY fun _ _=>rfl | skip
 case Return o p =>
  cases o with
  | none=>exact kY fun _ _=>rfl
  | some e =>
   unfold nZ;dsimp only;refine sJ (rV (S.E G e)) fun E δ h q=>?_;obtain ⟨fl,h',e,q⟩:=q;obtain ⟨⟨w,h1⟩,e1,e⟩:=bind_some e;cases e;exact ⟨w,_,e1,q⟩
 case Assign ts e p =>
  cases ts with
  | nil=>exact kY fun _ _=>rfl
  | cons tg r =>
   cases r with
   | cons _ _=>exact kY fun _ _=>by cases tg<;>rfl
   | nil =>
    cases tg
    case Name y px =>
     unfold nZ;dsimp only;split
     ·rename_i i hi;split
      ·rename_i hc;rw [Bool.and_eq_true] at hc;split
       ·rename_i hcm;split
        ·rename_i hw;have hfs:=bM1 S G hi hc.1 hc.2 hcm hw (pos:=p);split
         ·exact vI (aO3 hfs) sQ
         ·exact vI (cC4 hfs) cJ9
        ·exact kY fun _ _=>rfl
       ·rename_i hcm;have hsw:∀ t l,swapsWith e t l X.env=pure false:=fun t l=>oH (by simpa using hcm) _ _ _;split
        ·rename_i hz;rw [Bool.and_eq_true] at hz;have hd:∃ pp,e=.Dict [] [] pp:=by
          unfold cX6 at hz;have:=hz.2;split at this
          ·exact ⟨_,rfl⟩
          ·cases this
         obtain ⟨pp,rfl⟩:=hd;refine vI (bK0 (by rw [G.N];exact G.nd) (gG G hi) (oA G hc.1) (hsw _ _) (aU2 G hc.2)) fun δ h Q q=>?_;obtain ⟨w,h',e,q⟩:=q;cases e;exact q
        split
        ·exact vI (aO3 (aO2 (by rw [G.N];exact G.nd) (S.F G e) (gG G hi) (oA G hc.1) (hsw _ _) (aU2 G hc.2))) sQ
        ·exact vI (cC3 (by rw [G.N];exact G.nd) (S.E G e) (gG G hi) (oA G hc.1) (hsw _ _) (aU2 G hc.2)) fun _ _ _ q=>q
      ·exact kY fun _ _=>rfl
     ·exact kY fun _ _=>rfl
    case Attribute=>exact cK0 S G
    all_goals exact cZ0 S G
 case For tg iter body o p =>
  cases o with
  | cons _ _=>exact kY fun _ _=>rfl
  | nil =>
   unfold nZ;dsimp only;split
   ·exact kY fun _ _=>rfl
   ·rename_i hs;refine sJ (cC7 G.xe G.calm (sK S G iter) (S.G G tg) (oG S G body) (sL (by simpa using hs) _)) fun E δ h q=>?_;obtain ⟨fl,h',e,q⟩:=q;obtain ⟨⟨⟨xs,c⟩,h1⟩,e1,e⟩:=bind_some e;exact ⟨xs,c,h1,e1,sP _ _ _ _ _ e q⟩
 case If c a b p =>
  unfold nZ;dsimp only;refine sJ (bP9 (S.T G c) (oG S G a) (oG S G b)) fun E δ h q=>?_;obtain ⟨fl,h',e,q⟩:=q;obtain ⟨⟨t,h1⟩,e1,e⟩:=bind_some e;refine ⟨t,h1,e1,?_⟩;dsimp only at e ⊢;split at e
  ·rename_i ht;rw [if_pos ht];exact ⟨fl,h',e,q⟩
  ·rename_i ht;rw [if_neg ht];exact ⟨fl,h',e,q⟩
 case Expr e p =>
  unfold nZ;dsimp only;split
  ·exact kY fun _ _=>rfl
  ·rename_i hc;refine sJ (bF7 (S.E G e) (oH (by simpa using hc) _ _ _)) fun E δ h q=>?_;obtain ⟨fl,h',e,q⟩:=q;obtain ⟨⟨w,h1⟩,e1,e⟩:=bind_some e;cases e;exact ⟨w,_,e1,q⟩
 case Pass =>
  refine sJ bF6 fun E δ h q=>?_;obtain ⟨fl,h',e,q⟩:=q;cases e;exact q
 case Break=>exact aV8
 case Continue=>exact vG
 case While c body o p =>
  cases o with
  | cons _ _=>exact kY fun _ _=>rfl
  | nil=>exact aV7 G.xe (S.T G _) (oG S G _) _
end
def aW0 {v:Evs} (S:Snd v):Snd (step v):=⟨fun G=>cJ6 S G,fun G=>cJ7 S G,fun G=>lA S G,fun G=>cJ8 S G,fun G=>cK1 S G⟩
def cK2:Snd Evs.no:=⟨fun _ _=>bW,fun _ _=>mF,fun _ _=>iW,fun _ _=>aH0 fun _ _ _=>rfl,fun _ _=>kY fun _ _=>rfl⟩
theorem sS:∀ n,Snd (evs n)
 | 0=>cK2
 | n+1=>aW0 (sS n)
def fH {s:Stmt} (h:fnB s=true):FnScope (fO s) (aT s) (aK s):=by
 unfold fnB at h;simp only [Bool.and_eq_true,decide_eq_true_eq,List.all_eq_true,Bool.not_eq_true'] at h;obtain ⟨h1,h2,h3,h4,h5,h6⟩:=h;refine ⟨h1,h2,h3,h4,?_,fun x hx=>?_,fun y hy e=>?_⟩
 ·unfold fO;rw [List.take_left'];rfl
 ·have:=h5 x hx;unfold xR at this;split at this
  ·rename_i q;exact .inl q
  ·rename_i q;exact .inr q
  ·cases this
 ·have:=h6 y hy;rw [e] at this;cases this
section
variable {P:Program} {w:World} {K:Frag} {mg:Str->Option Value} {base:Heap}
structure TopOk (t:Top) (P:Program) (w:World) (K:Frag) (mg:Str->Option Value) (base:Heap):Prop where
 bl:∀ x,t.bl.contains x=true->mg x=none
 gc:∀ x z,t.gc x=some z->∃ v u,mg x=some u/\RelV v u/\∀ A H,Rep K A H z v
 tk:∀ x f,t.tk x=some f->∃ p,mg x=some (.ref p)/\TabK w K p f
 defs:∀ x s,t.defs x=some s->∃ f fd,Fun K x x s f fd/\mg x=some (.ref f)/\Binds K fd (aT s) []
 ini:∀ x C s,t.ini x=some (C,s)->∃ n q f fd,Fun K n q s f fd/\Mk K C f/\mg x=some (.ref C)/\Binds K fd (aT s) []
 mt:∀ x C s,t.mt x=some (C,s)->Cls K C/\∃ n q f fd,Fun K n q s f fd/\Meth K C x f/\Binds K fd (aT s) []
 fo:∀ C f,t.fo C f=true->Cls K C/\NoAttr K C f
structure TabOk (P:Program) (w:World) (K:Frag) (mg:Str->Option Value) (base:Heap) (d:Nat) (fn:Str->Option XF) (ob:ObS):Prop where
 fn:∀ x m,fn x=some m->DFn P w K mg base d x (kE m)
 fnW:∀ x m,ob.fnW x=some m->DFnW P w K mg base d x (gP m)
 cls:∀ x C m,ob.cls x=some (C,m)->(∀ ws h,m ws h=none)\/∃ k f fd ps,k+1<=d/\Mk K C f/\FnOk P w K mg base CX0 k f fd ps (dU K (gP m))/\mg x=some (.ref C)/\Binds K fd ps []
 om:∀ x C m,ob.om x=some (C,m)->Cls K C/\∃ f fd ps,Meth K C x f/\FnOk P w K mg base CX0 d f fd ps (dU K (gP m))/\Binds K fd ps []
 fo:∀ C f,ob.fo C f=true->Cls K C/\NoAttr K C f
def zT {t:Top} {fn:Str->Option XF} {ob:ObS} {x q:Str} {s:Stmt} {f:Addr} {k:Nat} {cdv:Value} {A:Around} {outer:List Env} {s':Shared} {H:Hp} {E:XK} (T:TopOk t P w K mg base) (B:TabOk P w K mg base k fn ob) (hb:fnB s=true) (hr:Room k (A.deeper (envOfC q (aK s) s'.heap.objs.size f cdv))) :
  bA ((nC CX0 P w K mg base (fO s) q (aK s) f cdv A outer s' H E).nox) (t.sta fn ob x s) k :=
 ⟨T.bl,T.gc,T.tk,B.fn,rfl,rfl,(fH hb).nd,rfl,rfl,hr,fun _ _=>rfl,(fH hb).kind,B.fnW,B.cls,B.om,B.fo⟩
def bU0 {t:Top} {fn:Str->Option XF} {ob:ObS} {x n q:Str} {s:Stmt} {f:Addr} {fd:FuncData} {k:Nat} (T:TopOk t P w K mg base) (F:Fun K n q s f fd) (B:TabOk P w K mg base k fn ob) :
  FnOk P w K mg base CX0 (k+1) f fd (aT s) (lZ K (kE (lS t fn ob x s))):=by
 by_cases hb:fnB s=true
 ·refine dfn F (fH hb) (fun ws h kk ⟨z,h',e,_⟩=>?_) fun cdv A outer s' H E hcd hr=>?_
  ·unfold lS at e;split at e
   ·rename_i hc;exact hc.2
   ·cases e
  ·refine ⟨_,oG (sS t.deep) (zT (x:=x) T B hb hr) _,fun ws h kk ⟨z,h',e,q⟩=>?_⟩;unfold lS at e;split at e
   ·obtain ⟨⟨fl,h1⟩,e1,e2⟩:=bind_some e;refine ⟨fl,h1,e1,?_⟩;unfold ends at e2;dsimp only at e2;split at e2
    ·rename_i ok;cases fl with
     | nx δ=>cases e2;exact ⟨ok,q⟩
     | bk δ=>cases e2
     | ct δ=>cases e2
     | rt w =>
      refine ⟨ok,?_⟩;cases w with
      | d z=>cases e2;exact q
      | v u=>cases e2
      | c i =>
       show (match h1[i]? with
        | some (.l xs)=>h.length<=i/\kk (.list xs) (h1.take h.length)
        | some (.k kvs)=>h.length<=i/\kk (.dict kvs) (h1.take h.length)
        | _=>False)
       dsimp only at e2;split at e2
       ·rename_i xs ex;try rw [ex]
        split at e2
        ·rename_i hi;cases e2;exact ⟨hi,q⟩
        ·cases e2
       ·rename_i xs ex;try rw [ex]
        split at e2
        ·rename_i hi;cases e2;exact ⟨hi,q⟩
        ·cases e2
       ·cases e2
    ·cases e2
   ·cases e
 ·have no:∀ ws h kk,¬ kE (lS t fn ob x s) ws h kk:=fun ws h kk ⟨z,h',e,_⟩=>by
   unfold lS at e;rw [if_neg fun z=>hb z.1] at e;cases e
  exact ⟨fun vs H Q E ⟨_,_,_,_,_,_,_,q,_⟩=>(no _ _ _ q).elim,fun A outer s H args us vs Q E _ _ _ _ ⟨_,_,_,_,_,_,_,q,_⟩=>(no _ _ _ q).elim⟩
def aW1 {t:Top} {fn:Str->Option XF} {ob:ObS} {x n q:Str} {s:Stmt} {f:Addr} {fd:FuncData} {k:Nat} (T:TopOk t P w K mg base) (F:Fun K n q s f fd) (B:TabOk P w K mg base k fn ob) :
  FnOk P w K mg base CX0 (k+1) f fd (aT s) (dU K (gP (iF t fn ob x s))):=by
 by_cases hb:fnB s=true
 ·refine dO5 F (fH hb) (fun ws h kk ⟨z,h',e,_⟩=>?_) fun cdv A outer s' H E hcd hr=>?_
  ·unfold iF at e;split at e
   ·rename_i hc;exact hc.2
   ·cases e
  ·refine ⟨_,oG (sS t.deep) (zT (x:=x) T B hb hr) _,fun ws h kk ⟨z,h',e,q⟩=>?_⟩;unfold iF at e;split at e
   ·obtain ⟨⟨fl,h1⟩,e1,e2⟩:=bind_some e;refine ⟨fl,h1,e1,?_⟩;unfold zM at e2;dsimp only at e2;cases fl with
    | nx δ=>cases e2;exact q
    | bk δ=>cases e2
    | ct δ=>cases e2
    | rt w=>cases e2;exact q
   ·cases e
 ·have no:∀ ws h kk,¬ gP (iF t fn ob x s) ws h kk:=fun ws h kk ⟨z,h',e,_⟩=>by
   unfold iF at e;rw [if_neg fun z=>hb z.1] at e;cases e
  exact ⟨fun vs H Q E ⟨_,_,_,_,_,_,_,q,_⟩=>(no _ _ _ q).elim,fun A outer s H args us vs Q E _ _ _ _ ⟨_,_,_,_,_,_,_,q,_⟩=>(no _ _ _ q).elim⟩
def bU1 {m:XFW} (hm:∀ ws h,m ws h=none) {f:Addr} {fd:FuncData} {ps:List Str} {d:Nat}:FnOk P w K mg base CX0 d f fd ps (dU K (gP m)):=by
 have no:∀ ws h kk,¬ gP m ws h kk:=fun ws h kk ⟨z,h',e,_⟩=>by rw [hm] at e;cases e
 exact ⟨fun vs H Q E ⟨_,_,_,_,_,_,_,q,_⟩=>(no _ _ _ q).elim,fun A outer s H args us vs Q E _ _ _ _ ⟨_,_,_,_,_,_,_,q,_⟩=>(no _ _ _ q).elim⟩
abbrev zU (t:Top) (P:Program) (w:World) (K:Frag) (mg:Str->Option Value) (base:Heap) (d:Nat):Prop:=TabOk P w K mg base d (fnT t fun y=>aE t d y) (obT t (fun y=>callW t d y) (fun y=>callI t d y) fun y=>callM t d y)
def vJ {t:Top} (T:TopOk t P w K mg base):zU t P w K mg base 0:=by
 refine ⟨fun x m e=>?_,fun x m e=>?_,fun x C m e=>?_,fun x C m e=>?_,T.fo⟩
 ·obtain ⟨s,hs,rfl⟩:=map_some e;obtain ⟨f,fd,F,hm,hb⟩:=T.defs x s hs;have no:∀ ws h kk,¬ kE (aE t 0 x) ws h kk:=fun ws h kk ⟨z,h',e,_⟩=>nomatch e
  exact ⟨f,fd,aT s,⟨fun vs H Q E ⟨_,_,_,_,_,_,_,q,_⟩=>(no _ _ _ q).elim,fun A outer s H args us vs Q E _ _ _ _ ⟨_,_,_,_,_,_,_,q,_⟩=>(no _ _ _ q).elim⟩,hm,F.kp,hb⟩
 ·dsimp only at e;split at e
  ·obtain ⟨s,hs,rfl⟩:=map_some e;obtain ⟨f,fd,F,hm,hb⟩:=T.defs x s hs;exact ⟨f,fd,aT s,bU1 fun _ _=>rfl,hm,F.kp,hb⟩
  ·cases e
 ·obtain ⟨p,hs,e2⟩:=map_some e;cases e2;exact .inl fun _ _=>rfl
 ·obtain ⟨⟨C',s⟩,hs,e2⟩:=map_some e;cases e2;obtain ⟨hc,n,q,f,fd,F,hM,hb⟩:=T.mt x _ s hs;exact ⟨hc,f,fd,aT s,hM,bU1 fun _ _=>rfl,hb⟩
def vK {t:Top} (T:TopOk t P w K mg base) {d:Nat} (B:zU t P w K mg base d) (hI:∀ x C s,t.ini x=some (C,s)->(∀ ws h,callI t (d+1) x ws h=none)\/∃ k f fd ps,k+1<=d+1/\Mk K C f/\FnOk P w K mg base CX0 k f fd ps (dU K (gP (callI t (d+1) x)))/\mg x=some (.ref C)/\Binds K fd ps []):zU t P w K mg base (d+1):=by
 refine ⟨fun x m e=>?_,fun x m e=>?_,fun x C m e=>?_,fun x C m e=>?_,T.fo⟩
 ·obtain ⟨s,hs,rfl⟩:=map_some e;obtain ⟨f,fd,F,hm,hb⟩:=T.defs x s hs;have e:aE t (d+1) x=lS t (fnT t fun y=>aE t d y) (obT t (fun y=>callW t d y) (fun y=>callI t d y) fun y=>callM t d y) x s:=by
   rw [aE,hs]
  dsimp only;rw [e];exact aO8 (bU0 T F B) hm F hb
 ·dsimp only at e;split at e
  ·obtain ⟨s,hs,rfl⟩:=map_some e;obtain ⟨f,fd,F,hm,hb⟩:=T.defs x s hs;have e:callW t (d+1) x=iF t (fnT t fun y=>aE t d y) (obT t (fun y=>callW t d y) (fun y=>callI t d y) fun y=>callM t d y) x s:=by
    rw [callW,hs]
   try dsimp only
   rw [e];exact ⟨f,fd,aT s,aW1 T F B,hm,F.kp,hb⟩
  ·cases e
 ·obtain ⟨⟨C',s⟩,hs,e2⟩:=map_some e;cases e2;exact hI x _ s hs
 ·obtain ⟨⟨C',s⟩,hs,e2⟩:=map_some e;cases e2;obtain ⟨hc,n,q,f,fd,F,hM,hb⟩:=T.mt x _ s hs;have e:callM t (d+1) x=iF t (fnT t fun y=>aE t d y) (obT t (fun y=>callW t d y) (fun y=>callI t d y) fun y=>callM t d y) x s:=by
   rw [callM,hs]
  dsimp only;rw [e];exact ⟨hc,f,fd,aT s,hM,aW1 T F B,hb⟩
theorem sT {t:Top} (T:TopOk t P w K mg base):∀ d,zU t P w K mg base d
 | 0=>vJ T
 | 1=>vK T (vJ T) fun x C s _=>.inl fun _ _=>rfl
 | d+2=>vK T (sT T (d+1)) fun x C s hs=>by
  obtain ⟨n,q,f,fd,F,hM,hm,hb⟩:=T.ini x C s hs;have e:callI t (d+2) x=iF t (fnT t fun y=>aE t d y) (obT t (fun y=>callW t d y) (fun y=>callI t d y) fun y=>callM t d y) x s:=by
   rw [callI,hs]
  refine .inr ⟨d+1,f,fd,aT s,Nat.le_refl _,hM,?_,hm,hb⟩;show FnOk P w K mg base CX0 (d+1) f fd (aT s) (dU K (gP (callI t (d+2) x)));rw [e];exact aW1 T F (sT T d)
end
noncomputable def bU2 (x:Str):Stmt->Bool
 | .FunctionDef n _ _ _ _ _ _ _ _ _=>n==x
 | _=>false
noncomputable def xZ (b:List Stmt) (x:Str):Option Stmt:=b.find? (bU2 x)
noncomputable def aW2:Nat->Expr->Option PyData
 | _,.Constant (.int i) _ _=>some (.int i)
 | _,.Constant (.str x) _ _=>some (.str x)
 | _,.Constant (.bool x) _ _=>some (.bool x)
 | _,.Constant .none _ _=>some .none
 | n+1,.Tuple es _ _=>(es.mapM (aW2 n)).map .tuple
 | _,_=>none
noncomputable def cK3 (b:List Stmt) (x:Str):Option PyData:=b.findSome? fun s=>match s with
 | .Assign [.Name y _] e _=>if y==x&&!(x==("__name__":Str)) then aW2 4 e else none
 | _=>none
noncomputable def cK4:List (Option Expr)->List Expr->Option (List (Str×Int))
 | [],[]=>some []
 | some (.Constant (.str x) _ _)::ks,.Constant (.int i) _ _::vs=>(cK4 ks vs).map ((x,i)::·)
 | _,_=>none
noncomputable def cK5 (b:List Stmt) (x:Str):Option (Str->Option Int):=b.findSome? fun s=>match s with
 | .Assign [.Name y _] (.Dict ks vs _) _=>if y==x then (cK4 ks vs).map fun t z=>t.lookup z else none
 | _=>none
noncomputable def blAll:List Str:=["len","tuple","all","any","isinstance","int","bool","str","list","range","sorted","set","zip","enumerate","dict","max","min","sum","reversed","abs"]
noncomputable def cZ1 (b:List Stmt) (ac:Str->List Nat) (cv:Str->List Str) (fuel deep:Nat) (wf:Str->Bool:=fun _=>false) (ini mt:Str->Option (Addr×Stmt):=fun _=>none) (fo:Addr->Str->Bool:=fun _ _=>false):Top:=⟨blAll,cK3 b,cK5 b,xZ b,ac,cv,fuel,deep,wf,ini,mt,fo⟩
end CI
namespace CI
open PySem DL
@[simp] theorem cZ2 {α β:Type} (x:XR α) (f:α->XR β) (δ:DSt) (h:aA):xb x f δ h=(x δ h).bind fun p=>f p.1 δ p.2:=rfl
@[simp] theorem vL {α:Type} (a:α) (δ:DSt) (h:aA):aD a δ h=some (a,h):=rfl
@[simp] theorem dP2 {α:Type} (δ:DSt) (h:aA):(xno:XR α) δ h=none:=rfl
@[simp] theorem dH8 (i:Nat) (δ:DSt) (h:aA):aB i δ h=match δ[i]? with
 | some (some w)=>some (w,h)
 | _=>none:=rfl
def gK (h:aA):okP h h:=fun i c _ e=>.inr e
def oI {h h1:aA} (L:aA) (hl:h1.length=h.length) (k:okP h h1):okP h (h1++L):=fun i c hi e=>k i c hi (by rwa [List.getElem?_append_left (by omega)] at e)
def cK6 {h h1:aA} (i:Nat) (xs:List PyData) (k:okP h h1):okP h (h1.set i (.l xs)):=fun j c hj e=>by
 by_cases q:i=j
 ·subst q
  by_cases hi:i < h1.length
  ·rw [List.getElem?_set_self hi] at e;cases e;exact .inl fun m hm=>by cases hm
  ·rw [List.set_eq_of_length_le (by omega)] at e;exact k i c hj e
 ·rw [List.getElem?_set_ne q] at e;exact k j c hj e
@[simp] theorem cZ3 (h:aA):okP h h=True:=eq_true (gK h)
@[simp] theorem dT7 (h L:aA):okP h (h++L)=True:=eq_true (oI L rfl (gK h))
def aW3 (h0:aA) (z:PyData) (h:aA) (ok:okP h0 h):ends h0 (.rt (.d z),h)=some (z,h.take h0.length):=by
 unfold ends;rw [if_pos ok]
def aW4 (h0:aA) (δ:DSt) (h:aA) (ok:okP h0 h):ends h0 (.nx δ,h)=some (.none,h.take h0.length):=by
 unfold ends;rw [if_pos ok]
@[simp] theorem bM3 (h:aA) (z:PyData):ends h (.rt (.d z),h)=some (z,h):=by rw [aW3 _ _ _ (gK h),List.take_length]
@[simp] theorem dH9 (h:aA) (δ:DSt):ends h (.nx δ,h)=some (.none,h):=by rw [aW4 _ _ _ (gK h),List.take_length]
@[simp] theorem dI0 (h L:aA) (z:PyData):ends h (.rt (.d z),h++L)=some (z,h):=by rw [aW3 _ _ _ (oI L rfl (gK h)),List.take_left'];rfl
@[simp] theorem dI1 (h L:aA) (δ:DSt):ends h (.nx δ,h++L)=some (.none,h):=by rw [aW4 _ _ _ (oI L rfl (gK h)),List.take_left'];rfl
@[simp] theorem dI2 (δ:DSt) (h:aA):zM (.nx δ,h)=some (.d .none,h):=rfl
@[simp] theorem dI3 (w:W) (h:aA):zM (.rt w,h)=some (w,h):=rfl
@[simp] theorem cQ1 (δ:DSt):bJ [] δ=[]:=rfl
@[simp] theorem cK7 (r:List (Option Nat)) (δ:DSt):bJ (none::r) δ=none::bJ r δ:=rfl
@[simp] theorem cK8 (i:Nat) (r:List (Option Nat)) (δ:DSt):bJ (some i::r) δ=(δ[i]?).bind id::bJ r δ:=rfl
@[simp] theorem cZ4 (gs:List XG) (xs:List PyData) (δ:DSt) (h:aA):fT gs (.d (.tuple xs)) δ h=sH gs xs δ h:=rfl
@[simp] theorem cZ5 (δ:DSt) (h:aA):sH [] [] δ h=some (δ,h):=rfl
@[simp] theorem cQ2 (g:XG) (gs:List XG) (x:PyData) (xs:List PyData) (δ:DSt) (h:aA):sH (g::gs) (x::xs) δ h=(g (.d x) δ h).bind fun p=>sH gs xs p.1 p.2:=rfl
@[simp] theorem dS3 (h:aA) (x:PyData):ref h (.d x)=some x:=rfl
end CI
namespace CI
open PySem PySem.Spec PyProof.Rows L2 DL
section
variable {δ:DSt} {h:aA}
@[simp] theorem cZ6 (x:XR Bool):cJ x δ h=(x δ h).map asW:=rfl
@[simp] theorem dP3 (b:Bool):asW (b,h)=(.d (.bool b),h):=rfl
@[simp] theorem dP4 (op:CmpOp) (x y:XR W):xC1 op x y δ h=(x δ h).bind fun u=>(y δ u.2).bind fun w=>cI op u.1 w.1 w.2:=rfl
@[simp] theorem dP5 (op op':CmpOp) (x y z:XR W):xC2 op op' x y z δ h=(x δ h).bind fun u=>(y δ u.2).bind fun w=>(cI op u.1 w.1 w.2).bind fun p=>if p.1=true then (z δ p.2).bind fun q=>cI op' w.1 q.1 q.2 else some (false,p.2):=rfl
@[simp] theorem dP6 (op op' op'':CmpOp) (x y z t:XR W):xC3 op op' op'' x y z t δ h=(x δ h).bind fun u=>(y δ u.2).bind fun w=>(cI op u.1 w.1 w.2).bind fun p =>
 if p.1=true then (z δ p.2).bind fun q=>(cI op' w.1 q.1 q.2).bind fun p'=>if p'.1=true then (t δ p'.2).bind fun q'=>cI op'' q.1 q'.1 q'.2 else some (false,p'.2) else some (false,p.2):=rfl
@[simp] theorem cZ7 (f:Str->Option Int) (x:XR W):qN f x δ h=(x δ h).bind fun p=>(match p.1 with
 | .d (.str s)=>some (!(f s).isSome,p.2)
 | .d .none=>some (true,p.2)
 | _=>none):=by
 unfold qN;rw [cZ2]
 congr 1
 funext p
 obtain ⟨w,h'⟩:=p;cases w with
 | d x=>cases x<;>rfl
 | c i=>rfl
 | v u=>rfl
@[simp] theorem dI4 (x:XR (List PyData)):aQ x δ h=(x δ h).bind fun p=>some (.d (.list p.1),p.2):=rfl
@[simp] theorem cZ8 (x:XR (List PyData)):aV x δ h=(x δ h).bind fun p=>some (.c p.2.length,p.2++[.l p.1]):=rfl
@[simp] theorem dP7 (x:XR (List W)):xPl x δ h=(x δ h).bind fun p=>(match cY p.1 with
 | some xs=>if xs.length<=sizeLine then some (xs,p.2) else none
 | none=>none):=rfl
@[simp] theorem dI5 (i:Nat) (x:XR W):aY i x δ h=(x δ h).bind fun p=>some (.nx (δ.set i (some p.1)),p.2):=rfl
@[simp] theorem cZ9 (x:XR W):cK x δ h=(x δ h).bind fun p=>(match p.1 with
 | .d (.list xs)=>some ((xs,none),p.2)
 | .d (.tuple xs)=>some ((xs,none),p.2)
 | .c i=>(match p.2[i]? with
  | some (.l xs)=>some ((xs,some i),p.2)
  | _=>none)
 | _=>none):=rfl
@[simp] theorem cK9:cY []=some []:=rfl
@[simp] theorem dA0 (x:PyData) (r:List W):cY (.d x::r)=(cY r).map (x::·):=rfl
@[simp] theorem dP8 (i j:Int):cI .Lt (.d (.int i)) (.d (.int j)) h=some (decide (i < j),h):=rfl
@[simp] theorem dP9 (i j:Int):cI .LtE (.d (.int i)) (.d (.int j)) h=some (decide (i<=j),h):=rfl
@[simp] theorem dQ0 (i j:Int):cI .Gt (.d (.int i)) (.d (.int j)) h=some (decide (j < i),h):=rfl
@[simp] theorem dQ1 (i j:Int):cI .GtE (.d (.int i)) (.d (.int j)) h=some (decide (j<=i),h):=rfl
@[simp] theorem dQ2 (u w:W):cI .Eq u w h=(xEq u w h).map fun b=>(b,h):=rfl
@[simp] theorem dQ3 (u w:W):cI .NotEq u w h=(xEq u w h).map fun b=>(!b,h):=rfl
@[simp] theorem dQ4 (u w:W):cI .Is u w h=(xIs u w).map fun b=>(b,h):=rfl
@[simp] theorem cQ3 (u w:W):cI .IsNot u w h=(xIs u w).map fun b=>(!b,h):=rfl
@[simp] theorem dQ5 (u w:W):cI .In u w h=(xIn u w h).map fun b=>(b,h):=rfl
@[simp] theorem cQ4 (u w:W):cI .NotIn u w h=(xIn u w h).map fun b=>(!b,h):=rfl
def zW (a b:PyData):xEq (.d a) (.d b) h=if (aF 64 a&&aF 64 b)=true then some (PyData.eqv a b) else none:=rfl
@[simp] theorem dI6 (n:Nat):aF n .none=true:=by rw [aF]
@[simp] theorem dI7 (n:Nat) (b:Bool):aF n (.bool b)=true:=by rw [aF]
@[simp] theorem dQ6 (n:Nat) (i:Int):aF n (.int i)=true:=by rw [aF]
@[simp] theorem dQ7 (n:Nat) (x:Str):aF n (.str x)=true:=by rw [aF]
@[simp] theorem dI8 (n:Nat) (xs:List PyData):aF (n+1) (.list xs)=plainsB n xs:=by rw [aF]
@[simp] theorem dA1 (n:Nat) (xs:List PyData):aF (n+1) (.tuple xs)=plainsB n xs:=by rw [aF]
@[simp] theorem dI9 (n:Nat):plainsB n []=true:=by rw [plainsB]
@[simp] theorem dA2 (n:Nat) (x:PyData) (xs:List PyData):plainsB n (x::xs)=(aF n x&&plainsB n xs):=by rw [plainsB]
@[simp] theorem dJ0 (i j:Int):xEq (.d (.int i)) (.d (.int j)) h=some (decide (i=j)):=by rw [zW];simp [PyData.eqv];exact Bool.beq_eq_decide_eq i j
@[simp] theorem dJ1 (x y:Str):xEq (.d (.str x)) (.d (.str y)) h=some (x==y):=by simp [zW,PyData.eqv]
@[simp] theorem dA3 (x y:Bool):xEq (.d (.bool x)) (.d (.bool y)) h=some (x==y):=by cases x<;>cases y<;>simp [zW,PyData.eqv]
@[simp] theorem bU3 (y:Str):xEq (.d .none) (.d (.str y)) h=some false:=by simp [zW,PyData.eqv]
@[simp] theorem dS4 (x:PyData):bP [.d x] h=(match x with
  | .list xs=>some (.d (.int xs.length),h)
  | .tuple xs=>some (.d (.int xs.length),h)
  | _=>none):=by cases x<;>rfl
@[simp] theorem dJ2 (xs:List PyData):bU [.d (.list xs)] h=some (.d (.tuple xs),h):=rfl
@[simp] theorem dJ3 (xs:List PyData):bU [.d (.tuple xs)] h=some (.d (.tuple xs),h):=rfl
@[simp] theorem bU4 (xs:List PyData):jY [.d (.list xs)] h=(dD xs).map fun bs=>(.d (.bool (bs.all id)),h):=rfl
@[simp] theorem dT8 (xs:List PyData) (i:Int):xIx (.d (.tuple xs)) (.d (.int i)) h=(atI xs i).map fun v=>(.d v,h):=rfl
@[simp] theorem dT9 (xs:List PyData) (i:Int):xIx (.d (.list xs)) (.d (.int i)) h=(atI xs i).map fun v=>(.d v,h):=rfl
@[simp] theorem dU0 (xs:List PyData) (lo hi:Option Int):xSl (.d (.tuple xs)) lo hi h=some (.d (.tuple (cut xs lo hi)),h):=rfl
@[simp] theorem dU1 (xs:List PyData) (lo hi:Option Int):xSl (.d (.list xs)) lo hi h=some (.d (.list (cut xs lo hi)),h):=rfl
@[simp] theorem cQ5 (i j:Int):eD .Add (.d (.int i)) (.d (.int j)) h=some (.d (.int (i+j)),h):=rfl
@[simp] theorem cQ6 (i j:Int):eD .Sub (.d (.int i)) (.d (.int j)) h=some (.d (.int (i - j)),h):=rfl
@[simp] theorem cQ7 (i j:Int):eD .Mult (.d (.int i)) (.d (.int j)) h=if jB i j=true then some (.d (.int (i*j)),h) else none:=rfl
@[simp] theorem cQ8 (i j:Int):eD .FloorDiv (.d (.int i)) (.d (.int j)) h=if bS j=true then some (.d (.int (i / j)),h) else none:=rfl
@[simp] theorem cQ9 (i j:Int):eD .Mod (.d (.int i)) (.d (.int j)) h=if 0 < j then some (.d (.int (i%j)),h) else none:=rfl
@[simp] theorem cR0 (i j:Int):eD .Pow (.d (.int i)) (.d (.int j)) h=if zK i j=true then some (.d (.int (i^j.toNat)),h) else none:=rfl
@[simp] theorem cR1 (xs ys:List PyData):eD .Add (.d (.tuple xs)) (.d (.tuple ys)) h=if xs.length+ys.length<=sizeLine then some (.d (.tuple (xs++ys)),h) else none:=rfl
@[simp] theorem cR2 (xs ys:List PyData):eD .Add (.d (.list xs)) (.d (.list ys)) h=if xs.length+ys.length<=sizeLine then some (.d (.list (xs++ys)),h) else none:=rfl
@[simp] theorem fV (xs:List PyData):condB none xs h=true:=rfl
theorem bQ {g:XG} {te:XR W} {all:List PyData} (f:PyData->PyData) (k:Nat) (hg:∀ w δ h,g w δ h=some (δ.set k (some w),h)) :
  ∀ (rest:List PyData) (δ:DSt) (ac:List PyData),(∀ x∈rest,∀ u,te ((δ.set k u).set k (some (.d x))) h=some (.d (f x),h))->aX g (aD true) te none all rest δ h ac=some (ac++rest.map f,h)
 | [],δ,ac,_=>by simp [aX]
 | x::r,δ,ac,hf=>by
  have e:=hf x List.mem_cons_self none;rw [List.set_set] at e;rw [aX,fV,if_pos rfl,hg];simp only [Option.bind_some,vL,if_true,e];rw [bQ f k hg r _ _ fun y hy u=>by
   have:=hf y (List.mem_cons_of_mem _ hy) u;rw [List.set_set] at this ⊢;rw [List.set_set];exact this]
  simp
theorem fW {f:PyData->Bool}:∀ xs:List PyData,dD (xs.map fun x=>.bool (f x))=some (xs.map f)
 | []=>rfl
 | x::r=>by rw [List.map_cons,dD,fW r];rfl
theorem all_map {f:PyData->Bool} {h:aA} (xs:List PyData):jY [.d (.list (xs.map fun x=>.bool (f x)))] h=some (.d (.bool (xs.all f)),h):=by
 rw [bU4,fW,Option.map_some,List.all_map];rfl
end
abbrev S3:=Int×Int×Int
noncomputable def stL (s:S3):Cell:=.l [.int s.1,.int s.2.1,.int s.2.2]
def sU {i:Int} (h1:-(2^64) < i) (h2:i < 2^64) (j:Int):jB i j=true:=by
 unfold jB;rw [decide_eq_true h1,decide_eq_true h2];rfl
def bM4 {j:Int} (h1:-(2^64) < j) (h2:j < 2^64) (i:Int):jB i j=true:=by
 unfold jB;rw [decide_eq_true h1,decide_eq_true h2,Bool.and_self,Bool.or_true]
def eL {j:Int} (h1:0 < j) (h2:j < 1073741824):bS j=true:=by
 unfold bS;rw [decide_eq_true h1,decide_eq_true h2];rfl
def fX {h L:aA} {i:Nat} {c:Cell} (hi:i < h.length):h.set i c++L=(h++L).set i c:=(List.set_append_left _ _ hi).symm
def zX {h:aA} {i:Nat} {xs:List PyData} (hi:i < h.length):ref (h.set i (.l xs)) (.c i)=some (.list xs):=by
 simp [ref,hi]
@[simp] theorem dU2 {h:aA} {i:Nat} {xs:List PyData} (hi:i < h.length) (k:Int):xIx (.c i) (.d (.int k)) (h.set i (.l xs))=(atI xs k).map fun v=>(.d v,h.set i (.l xs)):=by
 unfold xIx;rw [zX hi]
noncomputable def thr (f:PyData->S3->PyData) (n:PyData->S3->S3):List PyData->S3->List PyData×S3
 | [],s=>([],s)
 | x::r,s=>(f x s::(thr f n r (n x s)).1,(thr f n r (n x s)).2)
theorem lC {g:XG} {te:XR W} {all:List PyData} {h:aA} {i:Nat} (f:PyData->S3->PyData) (n:PyData->S3->S3) (k:Nat) (hg:∀ w δ h,g w δ h=some (δ.set k (some w),h)) :
  ∀ (rest:List PyData) (δ:DSt) (ac:List PyData) (s:S3),(∀ x∈rest,∀ u s,te ((δ.set k u).set k (some (.d x))) (h.set i (stL s))=some (.d (f x s),h.set i (stL (n x s)))) ->
   aX g (aD true) te none all rest δ (h.set i (stL s)) ac=some (ac++(thr f n rest s).1,h.set i (stL (thr f n rest s).2))
 | [],δ,ac,s,_=>by simp [aX,thr]
 | x::r,δ,ac,s,hf=>by
  have e:=hf x List.mem_cons_self none s;rw [List.set_set] at e;rw [aX,fV,if_pos rfl,hg];simp only [Option.bind_some,vL,if_true,e];rw [lC f n k hg r _ _ _ fun y hy u s=>by
   have:=hf y (List.mem_cons_of_mem _ hy) u s;rw [List.set_set] at this ⊢;rw [List.set_set];exact this]
  simp [thr]
variable (h:aA)
@[simp] theorem dQ8 (L:aA) (i:Nat) (c:Cell):(h.set i c++L).take h.length=h.set i c:=by
 rw [List.take_append_of_le_length (by simp)];simp
end CI
namespace CI
open PySem PySem.Spec PyProof.Rows L2 DL
theorem qT {g:XG} {te:XR W} {all:List PyData} {h:aA} (f:PyData->PyData) (J:DSt->Prop) :
  ∀ (rest:List PyData) (δ:DSt) (ac:List PyData),J δ->(∀ x∈rest,∀ δ,J δ->∃ δ1,g (.d x) δ h=some (δ1,h)/\J δ1/\te δ1 h=some (.d (f x),h))->aX g (aD true) te none all rest δ h ac=some (ac++rest.map f,h)
 | [],δ,ac,_,_=>by simp [aX]
 | x::r,δ,ac,j,hf=>by
  obtain ⟨δ1,e1,j1,e2⟩:=hf x List.mem_cons_self δ j;rw [aX];simp [e1,e2,aD];rw [qT f J r δ1 (ac++[f x]) j1 fun y hy=>hf y (List.mem_cons_of_mem _ hy)];simp
theorem gL {g:XG} {te:XR W} {all:List PyData} {h:aA} (J:DSt->Prop) :
  ∀ (ps:List (PyData×PyData)) (δ:DSt) (ac:List PyData),J δ->(∀ p∈ps,∀ δ,J δ->∃ δ1,g (.d p.1) δ h=some (δ1,h)/\J δ1/\te δ1 h=some (.d p.2,h))->aX g (aD true) te none all (ps.map (·.1)) δ h ac=some (ac++ps.map (·.2),h)
 | [],δ,ac,_,_=>by simp [aX]
 | x::r,δ,ac,j,hf=>by
  obtain ⟨δ1,e1,j1,e2⟩:=hf x List.mem_cons_self δ j;rw [List.map_cons,aX];simp [e1,e2,aD];rw [gL J r δ1 (ac++[x.2]) j1 fun y hy=>hf y (List.mem_cons_of_mem _ hy)];simp
@[simp] theorem dQ9 (xs:List PyData):iC (.d (.tuple xs))=some xs:=rfl
@[simp] theorem dR0 (xs:List PyData):iC (.d (.list xs))=some xs:=rfl
def cL0 (a:PyData) (xs:List PyData) (h:aA):xIn (.d a) (.d (.tuple xs)) h=if (aF 64 (.tuple xs)&&aF 64 a)=true then some (xs.any fun z=>PyData.eqv z a) else none:=rfl
@[simp] theorem dA4 (x a b:Str) (h:aA):xIn (.d (.str x)) (.d (.tuple [.str a,.str b])) h=some (a==x||b==x):=by
 rw [cL0];simp [PyData.eqv]
end CI
namespace CI
open PySem PySem.Spec PyProof.Rows L2 DL ST
def cL1 {a b:String} (h:Str.ofString a=Str.ofString b):a=b:=by
 simp only [Str.ofString_eq_byList] at h;unfold Str.ofStringByList at h;have h1:=congrArg Str.cps h;have h2:(a.toList.map Char.toNat)=(b.toList.map Char.toNat):=by
  have:=congrArg Array.toList h1
  simpa using this
 have h3:a.toList=b.toList:=by
  refine (List.map_inj_right ?_).mp h2;intro x y e;exact Char.toNat_inj.mp e
 exact String.toList_inj.mp h3
@[simp] theorem dA5 (a b:String):(Str.ofString a=Str.ofString b)=(a=b):=propext ⟨cL1,fun e=>by rw [e]⟩
@[simp] theorem dR1 (a b:String):(Str.ofString a==Str.ofString b)=(a==b):=by
 rw [Bool.eq_iff_iff,beq_iff_eq,beq_iff_eq,dA5]
def dX {x:Option (Fl×aA)} {f:Fl×aA->Option (Fl×aA)} {P:DSt->aA->Prop} (δ':DSt) (h':aA) (e:x=some (.nx δ',h')) (k:∃ δ2 h2,f (.nx δ',h')=some (.nx δ2,h2)/\P δ2 h2):∃ δ2 h2,x.bind f=some (.nx δ2,h2)/\P δ2 h2:=by
 rw [e];exact k
def qU {x:Option (Fl×aA)} {f:Fl×aA->Option (Fl×aA)} {P:DSt->aA->Prop} (J:DSt->aA->Prop) (e:∃ δ' h',x=some (.nx δ',h')/\J δ' h') (k:∀ δ' h',J δ' h'->∃ δ2 h2,f (.nx δ',h')=some (.nx δ2,h2)/\P δ2 h2):∃ δ2 h2,x.bind f=some (.nx δ2,h2)/\P δ2 h2:=by
 obtain ⟨δ',h',e,j⟩:=e;rw [e];exact k δ' h' j
section
variable (h:aA)
@[simp] theorem dA6:iE []=some []:=rfl
@[simp] theorem cR3 (i:Int) (r:List PyData):iE (.int i::r)=(iE r).map (i::·):=rfl
@[simp] theorem dS5:xIs (.d .none) (.d .none)=some true:=rfl
@[simp] theorem dS6 (i:Int):xIs (.d (.int i)) (.d .none)=some false:=rfl
@[simp] theorem dS7 (xs:List PyData):xIs (.d (.tuple xs)) (.d .none)=some false:=rfl
def get_last (c:Cell):(h++[c])[h.length]?=some c:=by simp
def mpre_last (xs:List PyData):gF "append" (.c h.length) (h++[.l xs])=true:=by
 unfold gF;rw [if_pos rfl];simp
end
@[simp high] theorem bs {α β:Type} (a:α) (f:α->Option β):(some a).bind f=f a:=id rfl
@[simp high] theorem xv0 (w:W) (l:DSt) (h:aA):aB 0 (some w::l) h=some (w,h):=id rfl
@[simp high] theorem xv1 {x0:Option W} (w:W) (l:DSt) (h:aA):aB 1 (x0::some w::l) h=some (w,h):=id rfl
@[simp high] theorem xv2 {x0 x1:Option W} (w:W) (l:DSt) (h:aA):aB 2 (x0::x1::some w::l) h=some (w,h):=id rfl
@[simp high] theorem xv3 {x0 x1 x2:Option W} (w:W) (l:DSt) (h:aA):aB 3 (x0::x1::x2::some w::l) h=some (w,h):=id rfl
@[simp high] theorem xv4 {x0 x1 x2 x3:Option W} (w:W) (l:DSt) (h:aA):aB 4 (x0::x1::x2::x3::some w::l) h=some (w,h):=id rfl
@[simp high] theorem xv5 {x0 x1 x2 x3 x4:Option W} (w:W) (l:DSt) (h:aA):aB 5 (x0::x1::x2::x3::x4::some w::l) h=some (w,h):=id rfl
@[simp high] theorem xv6 {x0 x1 x2 x3 x4 x5:Option W} (w:W) (l:DSt) (h:aA):aB 6 (x0::x1::x2::x3::x4::x5::some w::l) h=some (w,h):=id rfl
@[simp high] theorem xv7 {x0 x1 x2 x3 x4 x5 x6:Option W} (w:W) (l:DSt) (h:aA):aB 7 (x0::x1::x2::x3::x4::x5::x6::some w::l) h=some (w,h):=id rfl
@[simp high] theorem xv8 {x0 x1 x2 x3 x4 x5 x6 x7:Option W} (w:W) (l:DSt) (h:aA):aB 8 (x0::x1::x2::x3::x4::x5::x6::x7::some w::l) h=some (w,h):=id rfl
@[simp high] theorem xv9 {x0 x1 x2 x3 x4 x5 x6 x7 x8:Option W} (w:W) (l:DSt) (h:aA):aB 9 (x0::x1::x2::x3::x4::x5::x6::x7::x8::some w::l) h=some (w,h):=id rfl
@[simp high] theorem dU3 {x0 x1 x2 x3 x4 x5 x6 x7 x8 x9:Option W} (w:W) (l:DSt) (h:aA):aB 10 (x0::x1::x2::x3::x4::x5::x6::x7::x8::x9::some w::l) h=some (w,h):=id rfl
@[simp high] theorem dU4 {x0 x1 x2 x3 x4 x5 x6 x7 x8 x9 x10:Option W} (w:W) (l:DSt) (h:aA):aB 11 (x0::x1::x2::x3::x4::x5::x6::x7::x8::x9::x10::some w::l) h=some (w,h):=id rfl
@[simp high] theorem dU5 {x0 x1 x2 x3 x4 x5 x6 x7 x8 x9 x10 x11:Option W} (w:W) (l:DSt) (h:aA):aB 12 (x0::x1::x2::x3::x4::x5::x6::x7::x8::x9::x10::x11::some w::l) h=some (w,h):=id rfl
theorem mS {g:XG} {tt:XR Bool} {te:XR W} {all:List PyData} {h:aA} (p:PyData->Bool) (f:PyData->PyData) (I:DSt->Prop):∀ (xs:List PyData) (δ:DSt) (ac:List PyData),I δ ->
  (∀ x∈xs,∀ δ,I δ->∃ δ',g (.d x) δ h=some (δ',h)/\I δ'/\tt δ' h=some (p x,h)/\(p x=true->te δ' h=some (.d (f x),h)))->aX g tt te none all xs δ h ac=some (ac++(xs.filter p).map f,h)
 | [],δ,ac,_,_=>by simp [aX]
 | x::r,δ,ac,i,hx=>by
  obtain ⟨δ',e1,i',e2,e3⟩:=hx x List.mem_cons_self δ i;have ih:=fun ac=>mS (all:=all) p f I r δ' ac i' fun y hy=>hx y (List.mem_cons_of_mem _ hy);rw [aX,fV,if_pos rfl,e1];simp only [bs,e2];cases hp:p x with
  | true=>rw [if_pos rfl,e3 hp];simp only [bs];rw [ih];simp [hp]
  | false=>rw [if_neg (by simp)];rw [ih];simp [hp]
def yA {σ α:Type} {g:XG} {tb:XS} {all:List PyData} {P:DSt->aA->Prop} (F:α->PyData) (st:σ->α->σ) (R:σ->DSt->aA->Prop) (s:σ) (qs:List α) {δ:DSt} {h:aA} (hi:R s δ h) (hP:∀ δ h,R (qs.foldl st s) δ h->P δ h)
  (ht:∀ q∈qs,∀ s δ h,R s δ h->∃ δ1 h1,g (.d (F q)) δ h=some (δ1,h1)/\∃ δ2 h2,tb δ1 h1=some (.nx δ2,h2)/\R (st s q) δ2 h2):∃ δ' h',dH g tb none all (qs.map F) δ h=some (.nx δ',h')/\P δ' h':=by
 suffices H:∀ (qs:List α) (s:σ) (δ:DSt) (h:aA),R s δ h->(∀ q∈qs,∀ s δ h,R s δ h->∃ δ1 h1,g (.d (F q)) δ h=some (δ1,h1)/\∃ δ2 h2,tb δ1 h1=some (.nx δ2,h2)/\R (st s q) δ2 h2)->∃ δ' h',dH g tb none all (qs.map F) δ h=some (.nx δ',h')/\R (qs.foldl st s) δ' h' by
  obtain ⟨δ',h',e,r⟩:=H qs s δ h hi ht;exact ⟨δ',h',e,hP _ _ r⟩
 clear hP hi ht;intro qs;induction qs with
 | nil=>exact fun s δ h i _=>⟨δ,h,by simp [dH],i⟩
 | cons q r ih =>
  intro s δ h i ht;obtain ⟨δ1,h1,e1,δ2,h2,e2,i2⟩:=ht q List.mem_cons_self s δ h i;obtain ⟨δ3,h3,e3,i3⟩:=ih _ δ2 h2 i2 fun y hy=>ht y (List.mem_cons_of_mem _ hy);refine ⟨δ3,h3,?_,i3⟩;rw [List.map_cons,dH,fV,if_pos rfl,e1];simp only [bs,e2];exact e3
def fY {g:XG} {tb:XS} {all:List PyData} {P:DSt->aA->Prop} (I:Nat->DSt->aA->Prop) {rest:List PyData} {δ:DSt} {h:aA} (hi:I 0 δ h) (hP:∀ δ h,I rest.length δ h->P δ h)
  (ht:∀ n (hn:n < rest.length) δ h,I n δ h->∃ δ1 h1,g (.d rest[n]) δ h=some (δ1,h1)/\∃ δ2 h2,tb δ1 h1=some (.nx δ2,h2)/\I (n+1) δ2 h2):∃ δ' h',dH g tb none all rest δ h=some (.nx δ',h')/\P δ' h':=by
 suffices H:∀ (r:List PyData) (n:Nat) (δ:DSt) (h:aA),(∃ p,rest=p++r/\p.length=n)->I n δ h->∃ δ' h',dH g tb none all r δ h=some (.nx δ',h')/\I rest.length δ' h' by
  obtain ⟨δ',h',e,i⟩:=H rest 0 δ h ⟨[],rfl,rfl⟩ hi;exact ⟨δ',h',e,hP δ' h' i⟩
 intro r;induction r with
 | nil =>
  rintro n δ h ⟨p,e1,e2⟩ i;subst e2;simp at e1;subst e1;exact ⟨δ,h,by simp [dH],i⟩
 | cons x r ih =>
  rintro n δ h ⟨p,e1,e2⟩ i;have hn:n < rest.length:=by rw [e1];simp;omega
  have hx:rest[n]=x:=by subst e2;subst e1;simp
  obtain ⟨δ1,h1,e1',δ2,h2,e2',i2⟩:=ht n hn δ h i;rw [hx] at e1';obtain ⟨δ3,h3,e3,i3⟩:=ih (n+1) δ2 h2 ⟨p++[x],by simp [e1],by simp [e2]⟩ i2;refine ⟨δ3,h3,?_,i3⟩;rw [dH,fV,if_pos rfl,e1'];simp only [bs,e2'];exact e3
def rng_len (lo:Int) (n:Nat):(rng lo n).length=n:=by simp [rng]
def rng_get (lo:Int) (n k:Nat) (hk:k < (rng lo n).length):(rng lo n)[k]=.int (lo+k):=by simp [rng]
@[simp] theorem at4 (a b c e f:PyData) (r:List PyData):atI (a::b::c::e::f::r) 4=some f:=iN (j:=4) (by simp)
@[simp] theorem at5 (a b c e f g:PyData) (r:List PyData):atI (a::b::c::e::f::g::r) 5=some g:=iN (j:=5) (by simp)
end CI
namespace CI
open PySem PySem.Spec PyProof.Rows L2 DL
noncomputable def gcl (b:List Stmt):List (Str×PyData):=b.filterMap fun s=>match s with
 | .Assign [.Name y _] e _=>if !(y==("__name__":Str)) then (aW2 4 e).map (y,·) else none
 | _=>none
def cL2 {b:List Stmt} {x:Str} {z:PyData} (h:cK3 b x=some z):(x,z)∈gcl b:=by
 obtain ⟨s,hs,e⟩:=List.exists_of_findSome?_eq_some h;refine List.mem_filterMap.mpr ⟨s,hs,?_⟩;split at e
 ·rename_i y p e0 q;split at e
  ·rename_i hc;rw [Bool.and_eq_true] at hc;have:y=x:=eq_of_beq hc.1;subst this;try simp only []
   rw [if_pos hc.2,e];rfl
  ·cases e
 ·cases e
noncomputable def tkl (b:List Stmt):List (Str×List (Str×Int)):=b.filterMap fun s=>match s with
 | .Assign [.Name y _] (.Dict ks vs _) _=>(cK4 ks vs).map (y,·)
 | _=>none
def cL3 {b:List Stmt} {x:Str} {f:Str->Option Int} (h:cK5 b x=some f):∃ t,(x,t)∈tkl b/\f=fun z=>t.lookup z:=by
 obtain ⟨s,hs,e⟩:=List.exists_of_findSome?_eq_some h;split at e
 ·rename_i y p ks vs p2 q;split at e
  ·rename_i hc;have:y=x:=eq_of_beq hc;subst this;obtain ⟨t,et,rfl⟩:=Option.map_eq_some_iff.mp e;refine ⟨t,List.mem_filterMap.mpr ⟨_,hs,?_⟩,rfl⟩;simp only [];rw [et];rfl
  ·cases e
 ·cases e
noncomputable def dfl (b:List Stmt):List (Str×Stmt):=b.filterMap fun s=>match s with
 | .FunctionDef n _ _ _ _ _ _ _ _ _=>some (n,s)
 | _=>none
def cL4 {b:List Stmt} {x:Str} {s:Stmt} (h:xZ b x=some s):(x,s)∈dfl b:=by
 have h1:=List.find?_some h;have h2:=List.mem_of_find?_eq_some h;refine List.mem_filterMap.mpr ⟨s,h2,?_⟩;unfold bU2 at h1;split at h1
 ·simp only [eq_of_beq h1]
 ·cases h1
section
variable {P:Program} {w:World} {K:Frag} {mg:Str->Option Value} {base:Heap}
theorem lE (K:Frag) (A:List Addr) (H:Hp):∀ ns:List Int,Reps K A H (ns.map .int) (ns.map V.int)
 | []=>.nil
 | n::r=>.cons jT (lE K A H r)
def vM {x k:Str} {hh:Int} {t:Tok} {v:Value} {es:List DictEntry}:findBy Value.isStrOf (⟨hh,.str k t,v⟩::es).toArray x=if k=x then some v else findBy Value.isStrOf es.toArray x:=by
 unfold findBy;simp only [List.find?_toArray,List.find?_cons,Value.isStrOf]
 by_cases e:k=x
 ·simp [e]
 ·have:(k==x)=false:=beq_eq_false_iff_ne.mpr e;simp [e,this]
end
theorem vN {K:Frag} {A:List Addr} {H:Hp}:∀ {ws:List Str},(ws.all PyData.strOk)=true->Reps K A H (ws.map .str) (ws.map V.str)
 | [],_=>by rw [List.map_nil,List.map_nil,Reps]
 | x::r,h=>by
  rw [List.all_cons,Bool.and_eq_true] at h;rw [List.map_cons,List.map_cons,Reps];exact ⟨_,_,rfl,by rw [Rep];exact ⟨rfl,h.1⟩,vN h.2⟩
def cL5 {K:Frag} {a:Addr} {n:Nat} {ws:List Str} {its:Array Value} (h:K.lookup a=some ⟨.type "tuple",none,.seq its n,#[]⟩) (hv:Vals (ws.map V.str) its.toList) (hs:its.size<=sizeLine) (ho:(ws.all PyData.strOk)=true) (A:List Addr) (H:Hp):Rep K A H (.tuple (ws.map .str)) (.ref a):=by
 rw [Rep];exact ⟨a,ws.map V.str,rfl,.inr ⟨_,its,n,h,rfl,rfl,rfl,hs,hv⟩,vN ho⟩
def FI (K:Frag) (n:Str) (s:Stmt):Prop:=∃ (f:Addr) (od an:Option Addr) (sl:Array (Option Value)) (oc kV dc pm cd ct:Value),PySem.W.nsIn K mainGlobals n=some (some (.ref f))/\K.lookup f=some ⟨oc,od,.func (PySem.W.fnOf n n (cO s) (bR s) (aK s) .none kV dc pm an cd ct),sl⟩/\PySem.W.codeIn K cd n=true/\PySem.W.keepIn K (.ref f)=true
def fi_mk {K:Frag} {n:Str} {s:Stmt} {f:Addr} {od an:Option Addr} {sl:Array (Option Value)} {oc kV dc pm cd ct:Value} (a:PySem.W.nsIn K mainGlobals n=some (some (.ref f))) (l:K.lookup f=some ⟨oc,od,.func (PySem.W.fnOf n n (cO s) (bR s) (aK s) .none kV dc pm an cd ct),sl⟩) (c:PySem.W.codeIn K cd n=true) (k:PySem.W.keepIn K (.ref f)=true):FI K n s:=⟨_,_,_,_,_,_,_,_,_,_,a,l,c,k⟩
def FI.ok {K:Frag} {n:Str} {s:Stmt} {h:Heap} {mg:Str->Option Value} {ps:List Str} (a:FI K n s) (X:K.In h) (G:h.Ns mainGlobals mg) (hp:aT s=ps)
  (hb:∀ (kV doc pm:Value) (an:Option Addr) (cdv ct:Value) (us:List Value),us.length=ps.length->bindArgs (PySem.W.fnOf n n (cO s) (bR s) (aK s) .none kV doc pm an cdv ct) ⟨us,[]⟩=pure (ps.zip us)):∃ f fd,Fun K n n s f fd/\mg n=some (.ref f)/\Binds K fd (aT s) []:=by
 obtain ⟨f,od,an,sl,oc,kV,dc,pm,cd,ct,a,l,c,k⟩:=a;have F:=aM5 (st:=s) l c k;exact ⟨f,_,F,PySem.W.mg_of X G a,by rw [hp];exact F.binds hb⟩
def cL6 {K:Frag} {a:Addr} {n:Nat} {ws:List Int} {its:Array Value} (h:K.lookup a=some ⟨.type "tuple",none,.seq its n,#[]⟩) (hv:Vals (ws.map V.int) its.toList) (hs:its.size<=sizeLine) (A:List Addr) (H:Hp):Rep K A H (.tuple (ws.map .int)) (.ref a):=by
 rw [Rep];exact ⟨a,ws.map V.int,rfl,.inr ⟨_,its,n,h,rfl,rfl,rfl,hs,hv⟩,lE K A H ws⟩
def FI.ok1 {K:Frag} {n:Str} {s:Stmt} {h:Heap} {mg:Str->Option Value} (a:FI K n s) (X:K.In h) (G:h.Ns mainGlobals mg) (hn:(aT s).length=1) (hb:∀ (kV doc pm:Value) (an:Option Addr) (cdv ct u:Value),bindArgs (PySem.W.fnOf n n (cO s) (bR s) (aK s) .none kV doc pm an cdv ct) ⟨[u],[]⟩=pure ((aT s).zip [u])):∃ f fd,Fun K n n s f fd/\mg n=some (.ref f)/\Binds K fd (aT s) []:=a.ok X G rfl fun kV doc pm an cdv ct us hl=>by
 rw [hn] at hl
 match us,hl with
 | [u],_=>exact hb kV doc pm an cdv ct u
def FI.ok2 {K:Frag} {n:Str} {s:Stmt} {h:Heap} {mg:Str->Option Value} (a:FI K n s) (X:K.In h) (G:h.Ns mainGlobals mg) (hn:(aT s).length=2) (hb:∀ (kV doc pm:Value) (an:Option Addr) (cdv ct u v:Value),bindArgs (PySem.W.fnOf n n (cO s) (bR s) (aK s) .none kV doc pm an cdv ct) ⟨[u,v],[]⟩=pure ((aT s).zip [u,v])):∃ f fd,Fun K n n s f fd/\mg n=some (.ref f)/\Binds K fd (aT s) []:=a.ok X G rfl fun kV doc pm an cdv ct us hl=>by
 rw [hn] at hl
 match us,hl with
 | [u,v],_=>exact hb kV doc pm an cdv ct u v
def FI.ok3 {K:Frag} {n:Str} {s:Stmt} {h:Heap} {mg:Str->Option Value} (a:FI K n s) (X:K.In h) (G:h.Ns mainGlobals mg) (hn:(aT s).length=3) (hb:∀ (kV doc pm:Value) (an:Option Addr) (cdv ct u v x:Value),bindArgs (PySem.W.fnOf n n (cO s) (bR s) (aK s) .none kV doc pm an cdv ct) ⟨[u,v,x],[]⟩=pure ((aT s).zip [u,v,x])):∃ f fd,Fun K n n s f fd/\mg n=some (.ref f)/\Binds K fd (aT s) []:=a.ok X G rfl fun kV doc pm an cdv ct us hl=>by
 rw [hn] at hl
 match us,hl with
 | [u,v,x],_=>exact hb kV doc pm an cdv ct u v x
end CI
namespace CI
open PySem DL
variable {h L:aA} {i:Nat} {c c':Cell}
open Classical in
@[simp] theorem aW5 (h0:aA) (z:PyData) (h1:aA):ends h0 (.rt (.d z),h1)=if okP h0 h1 then some (z,h1.take h0.length) else none:=rfl
open Classical in
@[simp] theorem dR2 (h0:aA) (δ:DSt) (h1:aA):ends h0 (.nx δ,h1)=if okP h0 h1 then some (PyData.none,h1.take h0.length) else none:=rfl
def zY (xs:List PyData):okP (h.set i c) (h.set i (.l xs)):=by
 have:=cK6 i xs (gK (h.set i c))
 rwa [List.set_set] at this
@[simp] theorem dS8 (xs:List PyData):okP (h.set i c) (h.set i (.l xs))=True:=eq_true (zY xs)
@[simp] theorem dS9 (s:S3):okP (h.set i c) (h.set i (stL s))=True:=eq_true (zY _)
@[simp] theorem dT0 (xs:List PyData):okP (h.set i c) (h.set i (.l xs)++L)=True:=eq_true (oI L (by simp) (zY xs))
@[simp] theorem cL7 (s:S3):okP (h.set i c) (h.set i (stL s)++L)=True:=eq_true (oI L (by simp) (zY _))
@[simp] theorem dA7 (s:S3) (hi:i < h.length):okP (h.set i c) ((h++L).set i (stL s))=True:=by rw [<- fX hi,cL7]
@[simp] theorem dR3:(h.set i c).take h.length=h.set i c:=List.take_of_length_le (by simp)
@[simp] theorem dA8:(h.set i c++L).take h.length=h.set i c:=by rw [List.take_append_of_le_length (by simp),dR3]
@[simp] theorem dA9 (hi:i < h.length):((h++L).set i c).take h.length=h.set i c:=by rw [<- fX hi,dA8]
end CI
namespace L2
open PySem PySem.Spec PyProof.Rows
section
variable {P:Program} {w:World} {H H':Hp} {h h':Heap} {a:Addr} {o:HO}
def ObjOk.ex (x:ObjOk P w H h a o):∃ u,h.get? a=some u:=by
 cases o with
 | lst xs=>obtain ⟨_,_,_,_,e⟩:=x;exact ⟨_,e⟩
 | tup xs=>obtain ⟨_,_,_,ob,e,_⟩:=x;exact ⟨_,e⟩
 | dK kvs=>obtain ⟨_,_,_,_,ob,_,_,e,_⟩:=x;exact ⟨_,e⟩
 | dT kvs=>obtain ⟨_,_,_,_,ob,_,_,e,_⟩:=x;exact ⟨_,e⟩
 | set S n=>obtain ⟨ob,_,_,_,e,_⟩:=x;exact ⟨_,e⟩
 | ins C dx fs=>obtain ⟨_,_,_,e,_⟩:=x;exact ⟨_,e⟩
 | own y=>exact x
 | xd fs=>obtain ⟨_,⟨ob,_,_,e,_⟩,_⟩:=x;exact ⟨_,e⟩
 | rng lo hi=>obtain ⟨_,_,_,e⟩:=x;exact ⟨_,e⟩
 | frz ob u=>exact ⟨_,x.1⟩
 | tbl ps=>exact ⟨_,show h.get? a=some _ from x⟩
 | met f y=>exact ⟨_,show h.get? a=some _ from x⟩
 | ext φ=>exact x.2.1
def HOk.keptT (x:HOk P w H h) (k:∀ b u,H b≠none->h.get? b=some u->h'.get? b=some u):HOk P w H h':=fun a o e =>
 (x a o e).stay (fun b u hb q=>k b u (by
  rcases hb with z | z
  ·rw [z,e];exact fun n=>nomatch n
  ·rw [z];exact fun n=>nomatch n) q) (fun _ q=>q) fun _ _ q=>q
def HOk.exT (x:HOk P w H h) (n:H a≠none):∃ u,h.get? a=some u:=by
 cases z:H a with
 | none=>exact absurd z n
 | some o'=>exact (x a o' z).ex
end
def aW6 {env:Env} {l:List Env} {L:Addr} (hf:env.frame=some L):frs (env::l)=L::frs l:=by
 show List.filterMap _ _=_;rw [List.filterMap_cons,hf];rfl
structure Flies (P:Program) (w:World) (C:Addr) (outer:List Env) (H:Hp) (s:Shared) (E:XK) (ea:Addr) (H':Hp) (s':Shared):Prop where
 os:s'.os=s.os
 bare:AllBare s'.gens
 un:Un (frs outer) [] H H' s.heap s'.heap
 hok:HOk P w H' s'.heap
 want:E (.ref C) none H'
 fly:∃ B t,Heap.FlyingW B outer ea (.ref C) (.ref t) s'.heap/\∀ b o,s'.heap.get? b=some o->b∉frs outer->(H' b≠none\/∃ u,s.heap.get? b=some u)->B.get? b=some o
noncomputable def CXN (P:Program) (w:World) (C:Addr):CXT:=fun outer H s E e s'=>∃ ea H',e=.ref ea/\Flies P w C outer H s E ea H' s'
structure Cx.Body (X:Cx):Prop where
 st:X.stack=X.env::X.outer
 fr:X.env.frame=some X.env.locals
 ex:X.ex=[]
section
variable {X:Cx} {C:Addr} {E E':XK} {Ex:Value->Shared->Prop} {pins:List (Addr×Obj)} {σ:St} {H H':Hp} {s s':Shared} {h1:Heap} {e:Addr} {vs:List Value}
def Inv.neL (I:Inv X pins σ H s) {b:Addr} {o:Obj} (q:X.s₀.heap.get? b=some o):b≠X.env.locals:=Nat.ne_of_lt (Nat.lt_of_lt_of_le (Heap.lt_size q) I.ok.above)
def Cx.Body.fs (b:X.Body):frs X.stack=X.env.locals::frs X.outer:=by rw [b.st];exact aW6 b.fr
def Cx.Body.out (b:X.Body) {a:Addr} (h1:a≠X.env.locals) (h2:a∉frs X.outer):a∉frs X.stack:=fun z=>by
 rw [b.fs] at z;exact (List.mem_cons.mp z).elim h1 h2
def aW7 (I:Inv X pins σ H s) (b:X.Body) (hx:Heap.MadeExcOf s.heap h1 e (.ref C) vs) (want:E (.ref C) none H) :
  wpAny (model X.prog X.w) X.A (leaving X.env (.ref e)) (fun _ s''=>CXN X.prog X.w C X.outer X.H₀ X.s₀ E (.ref e) s'') Ex { s with heap:=h1 }:=by
 have hst:=I.stack;have fr:s.heap.FunFrames (PySem.W.hideAll s.heap (frs X.stack)) (X.env::X.outer):=by
  have:=PySem.W.funFrames_hide (as:=frs X.stack) hst fun env he a ha=>List.mem_filterMap.mpr ⟨env,he,ha⟩
  rwa [b.st] at this ⊢
 have kB:∀ a o,s.heap.get? a=some o->a∉frs X.stack->(PySem.W.hideAll s.heap (frs X.stack)).get? a=some o:=fun a o q n=>PySem.W.hideAll_get _ q n;have ub:Un X.fs [] X.H₀ H X.s₀.heap s.heap:=by have:=I.base;rwa [b.ex] at this
 have nil:∀ a:Addr,a∉([]:List Addr):=fun a z=>nomatch z
 refine wpAny_leaves_madeW (base:=PySem.W.hideAll s.heap (frs X.stack)) (h:=s.heap) (env:=X.env) (outer:=X.outer) (by rw [I.ok.frames,b.st]) b.fr (fun a o q=>PySem.W.of_hideAll _ q) fr hx fun h' t fl _ _ up=>?_;have kh:∀ a o,s.heap.get? a=some o->a∉frs X.stack->h'.get? a=some o:=fun a o q n=>fl.1 a o (kB a o q n);have sl:∀ a o,s.heap.get? a=some o->a∈frs X.stack->∃ sl,h'.get? a=some { o with slots:=sl }:=fun a o q m=>by
  obtain ⟨_,o',ho',hd⟩:=hst.mem m;rw [q] at ho';cases ho';exact up a o (hx.keeps a o q) hd
 have tr:∀ a,H a≠none->a∉frs X.stack:=fun a n m=>n (I.stkFree a m);refine ⟨e,H,rfl,⟨I.os,I.bare,⟨fun a o q n ha _=>kh a o (ub.keep a o q n ha (nil a)) (b.out (I.neL q) ha),fun a o q n ha _=>?_,fun a o q n _=>ub.free a o q n (nil a),fun a o q _=>?_,ub.tups,ub.frzs,ub.tbls⟩,I.hok.keptT fun a u n q=>kh a u q (tr a n),want,_,t,fl,fun a o q na hc=>?_⟩⟩
 ·obtain ⟨s1,e1⟩:=ub.slot a o q n ha (nil a);obtain ⟨s2,e2⟩:=sl a _ e1 (by rw [b.fs];exact List.mem_cons_of_mem _ ha);exact ⟨s2,e2⟩
 ·obtain ⟨o',e1⟩:=ub.there a o q (nil a)
  by_cases m:a∈frs X.stack
  ·obtain ⟨s2,e2⟩:=sl a o' e1 m;exact ⟨_,e2⟩
  ·exact ⟨o',kh a o' e1 m⟩
 ·obtain ⟨u,hu⟩:∃ u,s.heap.get? a=some u:=hc.elim (fun n=>I.hok.exT n) fun ⟨u,q0⟩=>ub.there a u q0 (nil a);have na':a∉frs X.stack:=hc.elim (tr a) fun ⟨u,q0⟩=>b.out (I.neL q0) na;have z:=kh a u hu na';rw [q] at z;cases z;exact kB a _ hu na'
def cL8 {ea:Addr} (I:Inv X pins σ H s) (b:X.Body) (F:Flies X.prog X.w C X.stack H s E ea H' s') (want:E' (.ref C) none H') :
  wpAny (model X.prog X.w) X.A (leaving X.env (.ref ea)) (fun _ s''=>CXN X.prog X.w C X.outer X.H₀ X.s₀ E' (.ref ea) s'') Ex s':=by
 obtain ⟨B,t,fl,pr⟩:=F.fly;have ub:Un X.fs [] X.H₀ H X.s₀.heap s.heap:=by have:=I.base;rwa [b.ex] at this
 have nil:∀ a:Addr,a∉([]:List Addr):=fun a z=>nomatch z
 have fl0:Heap.FlyingW B (X.env::X.outer) ea (.ref C) (.ref t) s'.heap:=by rw [<- b.st];exact fl
 refine wpAny_leaves_onW (env:=X.env) (outer:=X.outer) (by rw [I.ok.frames,b.st]) b.fr fl0 fun h' fl' up=>?_;have kh:∀ a o,s'.heap.get? a=some o->a∉frs X.stack->(H' a≠none\/∃ u,s.heap.get? a=some u)->h'.get? a=some o:=fun a o q n hc=>fl'.1 a o (pr a o q n hc);have sl:∀ a o,s'.heap.get? a=some o->a∈frs X.stack->∃ sl,h'.get? a=some { o with slots:=sl }:=fun a o q m=>by
  obtain ⟨_,o',ho',hd⟩:=fl.2.2.1.mem m;rw [q] at ho';cases ho';exact up a o q hd
 have tr:∀ a,H' a≠none->a∉frs X.stack:=fun a n m=>by
  obtain ⟨_,o',ho',_⟩:=I.stack.mem m;exact n (F.un.free a o' ho' (I.stkFree a m) (nil a))
 have hv:∀ a u,X.s₀.heap.get? a=some u->∃ u',s'.heap.get? a=some u'/\∃ u'',s.heap.get? a=some u'':=fun a u q=>by
  obtain ⟨o1,e1⟩:=ub.there a u q (nil a);obtain ⟨o2,e2⟩:=F.un.there a o1 e1 (nil a);exact ⟨o2,e2,o1,e1⟩
 refine ⟨ea,H',rfl,⟨F.os.trans I.os,F.bare,⟨fun a o q n ha _=>?_,fun a o q n ha _=>?_,fun a o q n _=>?_,fun a o q _=>?_,fun a xs q=>F.un.tups a xs (ub.tups a xs q),fun a o u q=>F.un.frzs a o u (ub.frzs a o u q),fun a ps q=>?_⟩,F.hok.keptT fun a u n q=>kh a u q (tr a n) (.inl n),want,B,t,fl',fun a o q na hc=>?_⟩⟩
 ·have e1:=ub.keep a o q n ha (nil a);have na:=b.out (I.neL q) ha;exact kh a o (F.un.keep a o e1 (ub.free a o q n (nil a)) na (nil a)) na (.inr ⟨o,e1⟩)
 ·obtain ⟨s1,e1⟩:=ub.slot a o q n ha (nil a);have m:a∈frs X.stack:=by rw [b.fs];exact List.mem_cons_of_mem _ ha
  obtain ⟨s2,e2⟩:=F.un.slot a _ e1 (ub.free a o q n (nil a)) m (nil a);obtain ⟨s3,e3⟩:=sl a _ e2 m;exact ⟨s3,e3⟩
 ·obtain ⟨o1,e1⟩:=ub.there a o q (nil a);exact F.un.free a o1 e1 (ub.free a o q n (nil a)) (nil a)
 ·obtain ⟨u',e',ou⟩:=hv a o q
  by_cases m:a∈frs X.stack
  ·obtain ⟨s2,e2⟩:=sl a u' e' m;exact ⟨_,e2⟩
  ·exact ⟨u',kh a u' e' m (.inr ou)⟩
 ·obtain ⟨m1,e1⟩:=ub.tbls a ps q;obtain ⟨m2,e2⟩:=F.un.tbls a _ e1;exact ⟨m1++m2,by rw [e2,Array.append_assoc]⟩
 ·have na':a∉frs X.stack:=hc.elim (tr a) fun ⟨u,q0⟩=>b.out (I.neL q0) na;have hc':H' a≠none\/∃ u,s.heap.get? a=some u:=hc.elim .inl fun ⟨u,q0⟩=>by obtain ⟨_,_,u2,e2⟩:=hv a u q0;exact .inr ⟨u2,e2⟩
  obtain ⟨u,hu⟩:∃ u,s'.heap.get? a=some u:=hc.elim (fun n=>F.hok.exT n) fun ⟨u,q0⟩=>by obtain ⟨u',e',_⟩:=hv a u q0;exact ⟨u',e'⟩
  have z:=kh a u hu na' hc';rw [q] at z;cases z;exact pr a _ hu na' hc'
end
section
variable {X:Cx} {CX:CXT} {k:Nat} {f C:Addr} {fd:FuncData} {ps:List Str} {sp:Sp} {E:XK} {Ex:Value->Shared->Prop} {x:Str} {p pos epos:Pos} {e:Expr} {es:List Expr} {t:TA}
def lU {pins:List (Addr×Obj)} {σ:St} {H:Hp} {s:Shared} (F:FnOk X.prog X.w X.K X.mg X.base CX k f fd ps sp) (hr:Room k X.A) (hg:Gl X x) (hm:X.mg x=some (.ref f)) (hk:PySem.W.keepIn X.K (.ref f)=true) (hb:Binds X.K fd ps [])
  (ha:PA (X.wish Ex) (e::es) t) (I:Inv X pins σ H s) (q:t σ H fun vs H1=>sp vs H1 (fun _ _=>False) E) (hE:∀ H1 s1 ex s',Inv X pins σ H1 s1->CX X.stack H1 s1 E ex s'->Ex ex s')
  (hdb:autoParam ((x==("__debug__":Str))=false) ZD) (he:autoParam (starEach (e::es) X.env=(false,eval e X.env)::starEach es X.env) ZR) (hpl:autoParam ((backTo pos (starEach es X.env)).any (·.1)=false) ZR) :
  wpAny (model X.prog X.w) X.A (eval (.Call (.Name x p) (e::es) [] pos) X.env) (fun _ _=>False) Ex s:=by
 refine wpAny_Call_Name_kw (iM I hg hm ?_ hdb);refine PySem.W.callWith_K (h₀:=X.base) I.ok.mod.kin hk (thn (ha pos pins s σ H _ (I.wish Ex) q) fun us s1 ⟨vs,H1,I1,r,q1⟩=>⟨I1.kIn,?_⟩) he hpl;have I2:Inv X pins σ H1 s1:=I1.unwish;have hl:us.length=ps.length:=by rw [<- r.length];exact F.len _ _ _ _ q1
 have hb2:BindsTo s1 fd ⟨us,[]⟩ (ps.zip us):=by
  have:=hb s1 us I2.kIn (by rw [List.append_nil];exact hl)
  rwa [List.append_nil] at this
 refine wpAny_call (codeAny_mono (F.run X.A X.stack s1 H1 ⟨us,[]⟩ us vs _ E hr I2.env0 hb2 r q1) fun r s' hq=>?_);cases r with
 | error ex=>exact hE H1 s1 ex s' I2 hq
 | ok fl =>
  cases fl with
  | ret u=>obtain ⟨_,_,_,_,_,_,_,z⟩:=hq;exact False.elim z
  | next=>exact False.elim hq
  | brk=>exact False.elim hq
  | cont=>exact False.elim hq
def aW8 (F:FnOk X.prog X.w X.K X.mg X.base CX k f fd ps sp) (hr:Room k X.A) (hm:X.mg x=some (.ref f)) (hk:PySem.W.keepIn X.K (.ref f)=true) (hb:Binds X.K fd ps []) (ha:PA X (e::es) t)
  (hx:∀ pins σ H1 s1 ex s',Inv X pins σ H1 s1->CX X.stack H1 s1 E ex s'->X.xe ex s') (hg:autoParam (Gl X x) ZR) (hs:autoParam (swapsWith (.Call (.Name x p) (e::es) [] pos) none epos.line X.env=pure false) ZR)
  (hdb:autoParam ((x==("__debug__":Str))=false) ZD) (he:autoParam (starEach (e::es) X.env=(false,eval e X.env)::starEach es X.env) ZR) (hpl:autoParam ((backTo pos (starEach es X.env)).any (·.1)=false) ZR) :
  PS X (.Expr (.Call (.Name x p) (e::es) [] pos) epos) (fun _ σ H=>t σ H fun vs H1=>sp vs H1 (fun _ _=>False) E):=by
 intro pins s σ H D I q;exact wpAny_Expr_any (wpAny_mono (lU (Ex:=X.xe) F hr hg hm hk hb ha I q (fun H1 s1 ex s' I1 z=>hx pins σ H1 s1 ex s' I1 z) hdb he hpl) (fun _ _ z=>z.elim) fun _ _ z=>z) I.quiet hs
def aW9 {np:Pos} {B newId initId:String} {bmB:List Value} {EX:Hp->Prop} (O:OwnCls x C bmB newId X.mg X.base) (FB:ExcBaseFacts B newId initId bmB) (ha:PA X (e::es) t)
  (hx:∀ pins σ H s h' ea vs,Inv X pins σ H s->EX H->Heap.MadeExcOf s.heap h' ea (.ref C) vs->X.xe (.ref ea) { s with heap:=h' }) (hc:autoParam (X.calm=true) ZR)
  (hg:autoParam (Gl X x) ZR) (hdb:autoParam ((x==("__debug__":Str))=false) ZD) (he:autoParam (starEach (e::es) X.env=(false,eval e X.env)::starEach es X.env) ZR) (hpl:autoParam ((backTo pos (starEach es X.env)).any (·.1)=false) ZR) :
  PS X (.Raise (some (.Call (.Name x np) (e::es) [] pos)) none epos) (fun _ σ H=>t σ H fun vs H1=>vs.length<=sizeLine/\EX H1):=by
 intro pins s σ H D I q;obtain ⟨tl,N,nm,qn,bs,hdct,sn,sub,ab,col,dd,k0,k1,k2,k3,k5,mN,hC,hN,hni,T⟩:=O.obj;have hall:(backTo pos (starEach (e::es) X.env)).any (·.1)=false:=by
  rw [he];show (false||(backTo pos (starEach es X.env)).any (·.1))=false;rw [hpl];rfl
 refine wpAny_Raise_call_subT (C:=C) (N:=N) (nm:=nm) (q:=qn) (bs:=bs) (bm:=tl) (hdct:=hdct) (sn:=sn) (sub:=sub) (ab:=ab) (col:=col) (dd:=dd) (k0:=k0) (k1:=k1) (k2:=k2) (k3:=k3) (k5:=k5) (mN:=mN) FB (T.hasType FB.hasBase) (I.ok.hd hc) hall hni (iM I hg O.bound ⟨rfl,?_⟩ hdb);have hq:=ha pos pins s σ H _ I q;rw [he] at hq ⊢;exact Calls.evalArgs_plain (thn hq fun us s2 ⟨vs,H2,I2,r,z,w⟩=>⟨rfl,by rw [<- r.length];exact z,I2.bk _ _ hC,hN.keeps I2.bk,T.keeps I2.bk,fun h' ea hm=>hx pins σ H2 s2 h' ea us I2 w hm⟩)
end
abbrev Cx.suite (X:Cx) (ea:Addr) (oe:Obj):Cx:={ X with A:=X.A.mark (some (.ref ea)),calm:=false,pn:=(ea,oe)::X.pn,xe:=fun _ _=>False }
def Cx.Ok.suite {X:Cx} (ok:X.Ok) (ea:Addr) (oe:Obj):(X.suite ea oe).Ok :=
 ⟨ok.mod,ok.kind,ok.glob,ok.blt,ok.above,ok.inj,ok.has,ok.cab,(fun z=>nomatch z),ok.frames,ok.stk,ok.exf,ok.bs,ok.bsz,ok.noex,ok.exfs,ok.funs,ok.frf⟩
section
variable {X:Cx} {pins:List (Addr×Obj)} {σ:St} {H:Hp} {s:Shared} {ea:Addr} {oe:Obj}
def Inv.suite (I:Inv X pins σ H s) (h1:s.heap.get? ea=some oe) (h2:H ea=none) (h3:ea≠X.env.locals) (h4:ea∉X.fs) (h5:∀ v,oe.data≠.cell v):Inv (X.suite ea oe) pins σ H s :=
 ⟨I.ok.suite ea oe,I.os,I.bare,I.base,I.loc,I.cell,I.free,I.freeC,fun p hp=>by
  rcases List.mem_cons.mp hp with z | z
  ·rw [z];exact ⟨h1,h2,h3,h4,h5⟩
  ·exact I.pin p z,I.hok,I.len⟩
def Inv.unsuite (I:Inv (X.suite ea oe) pins σ H s) (ok:X.Ok):Inv X pins σ H s :=
 ⟨ok,I.os,I.bare,I.base,I.loc,I.cell,I.free,I.freeC,fun p hp=>I.pin p (List.mem_cons_of_mem _ hp),I.hok,I.len⟩
def mU {A:Around} {Ex:Value->Shared->Prop} {i:Nat} {n:Str} {pos:Pos} {Q:Unit->Shared->Prop} (I:Inv X pins σ H s) (hN:X.N.Nodup) (hi:X.N[i]?=some n) (hk:X.env.scope.names.lookup n=some .local)
  (h:∀ s',Inv X pins (σ.set i none) H s'->Q () s'):wpAny (model X.prog X.w) A (do bindName X.env n .none;unbindBehindTheSuite X.env n pos) Q Ex s:=by
 obtain ⟨m,hn,hl⟩:=id I.loc;refine wpAny_nameGoes_keeps (m:=m) hk hn (by rw [I.ok.kind];rfl) fun h' v hn' hs=>h _ ?_;have far:∀ a,a≠X.env.locals->h'.get? a=s.heap.get? a:=fun a z=>hs.2 a z;have trk:∀ a,H a≠none->a≠X.env.locals:=fun a z q=>z (by rw [q];exact I.free);refine ⟨I.ok,I.os,I.bare,⟨fun a o q n1 ha hx=>?_,fun a o q n1 ha hx=>?_,I.base.free,fun a o q hx=>?_,I.base.tups,I.base.frzs,I.base.tbls⟩,⟨_,hn',fun j y v' e1 e2 e3=>?_⟩,fun y c e=>?_,I.free,I.freeC,fun p hp=>?_,
  I.hok.keptT fun a u z q=>by rw [far a (trk a z)];exact q,by rw [List.length_set];exact I.len⟩
 ·rw [far a (I.neL q)];exact I.base.keep a o q n1 ha hx
 ·rw [far a (I.neL q)];exact I.base.slot a o q n1 ha hx
 ·rw [far a (I.neL q)];exact I.base.there a o q hx
 ·have hj:i≠j:=by
   intro z;subst z;have hlt:i < σ.length:=by
    have:=(List.getElem?_eq_some_iff.mp e2).1
    rwa [List.length_set] at this
   rw [List.getElem?_set_self hlt] at e2;cases e2
  rw [List.getElem?_set_ne hj] at e2;obtain ⟨u,r,lk⟩:=hl j y v' e1 e2 e3;refine ⟨u,r,?_⟩;rcases lk with ⟨z1,z2⟩ | ⟨z1,c,z2,o,z3,z4⟩
  ·refine .inl ⟨z1,?_⟩;have ny:y≠n:=by
    intro z;subst z;have a1:=List.getElem?_eq_some_iff.mp e1;have a2:=List.getElem?_eq_some_iff.mp hi;exact hj ((List.getElem_inj hN).mp (a2.2.trans a1.2.symm))
   show (if y=n then v else m y)=some u;rw [if_neg ny];exact z2
  ·exact .inr ⟨z1,c,z2,o,by rw [far c (I.cne y c z2)];exact z3,z4⟩
 ·obtain ⟨v,o,ho,hd⟩:=I.cell y c e;exact ⟨v,o,by rw [far c (I.cne y c e)];exact ho,hd⟩
 ·obtain ⟨p1,p2,p3,p4,p5⟩:=I.pin p hp;exact ⟨by rw [far _ p3];exact p1,p2,p3,p4,p5⟩
end
noncomputable def dB0 (i:Nat) (D:Ends):Ends where
 nx:=fun σ H=>D.nx (σ.set i none) H
 rt:=D.rt
 bk:=fun σ H=>D.bk (σ.set i none) H
 ct:=fun σ H=>D.ct (σ.set i none) H
section
variable {X:Cx} {k:Nat} {f C CJ:Addr} {fd:FuncData} {ps:List Str} {sp:Sp} {x n J:Str} {p pos epos jp hpos tpos:Pos} {e:Expr} {es:List Expr} {t:TA} {i:Nat} {b₀:Stmt} {su:List Stmt} {ts:Addr->TS}
def cL9 (F:FnOk X.prog X.w X.K X.mg X.base (CXN X.prog X.w C) k f fd ps sp) (b:X.Body) (hr:Room k X.A) (hm:X.mg x=some (.ref f)) (hk:PySem.W.keepIn X.K (.ref f)=true) (hb:Binds X.K fd ps [])
  (ha:∀ Ex,PA (X.wish Ex) (e::es) t) (hmJ:X.mg J=some (.ref CJ)) (hJ:PySem.W.exmOne X.K (.ref C) (.ref CJ)=some true) (hN:X.N.Nodup) (hi:X.N[i]?=some n) (hl:X.env.scope.names.lookup n=some .local)
  (hsu:∀ ea oe,oe.cls=.ref C->(∃ vs,oe.data=.fields vs)->PSs (X.suite ea oe) (b₀::su) (ts ea)) (hg:autoParam (Gl X x) ZR) (hgJ:autoParam (Gl X J) ZR)
  (hs:autoParam (swapsWith (.Call (.Name x p) (e::es) [] pos) none epos.line X.env=pure false) ZR) (hdb:autoParam ((x==("__debug__":Str))=false) ZD) (hdJ:autoParam ((J==("__debug__":Str))=false) ZD)
  (he:autoParam (starEach (e::es) X.env=(false,eval e X.env)::starEach es X.env) ZR) (hpl:autoParam ((backTo pos (starEach es X.env)).any (·.1)=false) ZR) :
  PS X (.Try [.Expr (.Call (.Name x p) (e::es) [] pos) epos] [.ExceptHandler (some (.Name J jp)) (some n) (b₀::su) hpos] [] [] tpos)
   (fun D σ H=>∃ E:XK,(t σ H fun vs H1=>sp vs H1 (fun _ _=>False) E)/\∀ H2,E (.ref C) none H2->∀ ea,ts ea (dB0 i D) (σ.set i (some (.ref ea))) H2):=by
 intro pins s σ H D I ⟨E,q,hE⟩;refine wpAny_Try_except ?_;refine wpAny_execs_cons (wpAny_Expr_any (wpAny_mono (lU F hr hg hm hk hb (ha _) I q (fun H1 s1 ex s' I1 hq=>?_) hdb he hpl) (fun _ _ z=>z.elim) fun _ _ z=>z) I.quiet hs);obtain ⟨ea,H2,rfl,Fl⟩:=hq;obtain ⟨B,tt,fl,pr⟩:=Fl.fly;have nil:∀ a:Addr,a∉([]:List Addr):=fun a z=>nomatch z
 have fl0:Heap.FlyingW B (X.env::X.outer) ea (.ref C) (.ref tt) s'.heap:=by rw [<- b.st];exact fl
 have tr:∀ a,H2 a≠none->a∉frs X.stack:=fun a z m=>by
  obtain ⟨_,o',ho',_⟩:=I1.stack.mem m;exact z (Fl.un.free a o' ho' (I1.stkFree a m) (nil a))
 have inv:∀ h' tk,B.StaysIn h'->s'.heap.UpToSlots h'->Inv X pins σ H2 { s' with heap:=h',toks:=tk }:=fun h' tk hB up=>by
  have sl:∀ a o,s'.heap.get? a=some o->a∈frs X.stack->∃ sl,h'.get? a=some { o with slots:=sl }:=fun a o q m=>by
   obtain ⟨_,o',ho',hd⟩:=fl.2.2.1.mem m;rw [q] at ho';cases ho';exact up a o q hd
  refine I1.call' (ch:=[]) Fl.os ⟨fun a o q z ha _=>?_,fun a o q z ha _=>?_,Fl.un.free,fun a o q _=>?_,Fl.un.tups,Fl.un.frzs,Fl.un.tbls⟩ (Fl.hok.keptT fun a u z q=>hB a u (pr a u q (tr a z) (.inl z))) Fl.bare fun a z=>nomatch z
  ·exact hB a o (pr a o (Fl.un.keep a o q z ha (nil a)) ha (.inr ⟨o,q⟩))
  ·obtain ⟨s2,e2⟩:=Fl.un.slot a o q z ha (nil a);obtain ⟨s3,e3⟩:=sl a _ e2 ha;exact ⟨s3,e3⟩
  ·obtain ⟨o2,e2⟩:=Fl.un.there a o q (nil a)
   by_cases m:a∈frs X.stack
   ·obtain ⟨s3,e3⟩:=sl a o2 e2 m;exact ⟨_,e3⟩
   ·exact ⟨o2,hB a o2 (pr a o2 e2 m (.inr ⟨o,q⟩))⟩
 have nS:ea∉frs X.stack:=fun m=>by
  obtain ⟨_,o,ho,hd⟩:=fl.2.2.1.mem m;obtain ⟨oe,vs,he,_,hd',_⟩:=fl.first
  rw [he] at ho;cases ho;exact hd vs hd'
 have nH:H2 ea=none:=by
  cases z:H2 ea with
  | none=>rfl
  | some o =>
   have z':H2 ea≠none:=by rw [z];exact fun y=>nomatch y
   obtain ⟨u,hu⟩:=Fl.hok.exT z';have y:=pr ea u hu nS (.inl z');rw [fl.2.1] at y;cases y
 have nL:ea≠X.env.locals:=fun z=>nS (by rw [b.fs,z];exact List.mem_cons_self);have nF:ea∉X.fs:=fun z=>nS (by rw [b.fs];exact List.mem_cons_of_mem _ z);refine wpAny_looks_onW (env:=X.env) (outer:=X.outer) (by rw [I.ok.frames,b.st]) b.fr fl0 fun h4 held4 up4=>?_;refine wpAny_landsW held4 fun h5 fl5 up5=>?_;have I5:=inv h5 s'.toks fl5.1 (up4.trans up5);obtain ⟨oe5,ws5,he5,hc5,hd5,_⟩:=fl5.first
 have I5s:=I5.suite (ea:=ea) (oe:=oe5) he5 nH nL nF (fun v z=>by rw [hd5] at z;cases z);refine wpAny_handleBy_cons (codeAny_handlers_test (iM (X:=X.suite ea oe5) I5s hgJ hmJ ?_ hdJ)) (by intro q;cases q);have LT:PySem.W.Looks (model X.prog X.w) h5 (typeOf (.ref ea)) (.ref C):=hc5 ▸ (PySem.W.Looks.ld he5).andThen .now;refine (PySem.W.exm_one (K:=X.K) I5.kIn LT hJ).here ?_;refine codeAny_handlers_suite_as ?_;refine lands_againW fl5 fun h6 fl6 up6=>?_;have I6:=inv h6 s'.toks fl6.1 ((up4.trans up5).trans up6);obtain ⟨oe,ws,he6,hc6,hd6,_⟩:=fl6.first
 have I6s:=I6.suite (ea:=ea) (oe:=oe) he6 nH nL nF (fun v z=>by rw [hd6] at z;cases z);refine mZ (X:=X.suite ea oe) (v:=.ref ea) I6s hN hi (.inl hl) rfl (fun s7 I7=>?_) (.inr hl);refine wpAny_mono (hsu ea oe hc6 ⟨ws,hd6⟩ pins s7 _ H2 (dB0 i D) I7 (hE H2 Fl.want ea)) (fun fl s8 hq=>?_) fun _ _ z=>z.elim;cases fl with
 | next=>obtain ⟨σ8,H8,I8,q8⟩:=hq;exact mU (I8.unsuite I.ok) hN hi hl fun s9 I9=>⟨_,H8,I9,q8⟩
 | brk=>obtain ⟨σ8,H8,I8,q8⟩:=hq;exact mU (I8.unsuite I.ok) hN hi hl fun s9 I9=>⟨_,H8,I9,q8⟩
 | cont=>obtain ⟨σ8,H8,I8,q8⟩:=hq;exact mU (I8.unsuite I.ok) hN hi hl fun s9 I9=>⟨_,H8,I9,q8⟩
 | ret u=>obtain ⟨v,σ8,H8,I8,rv,q8⟩:=hq;exact mU (I8.unsuite I.ok) hN hi hl fun s9 I9=>⟨v,_,H8,I9,rv,q8⟩
end
section
variable {prog:Program} {w:World} {A:Around} {E:Value->Shared->Prop} {h:Heap} {g:Array GenState} {d:Drawn} {t:Nat} {os:OsState} {K:Frag} {x C:Addr} {ox:Obj}
structure XCls (K:Frag) (C:Addr):Prop where
 ga:PySem.W.findIn K (.ref C) "__getattribute__"=some (some (.builtin "BaseException.__getattribute__"))
 gn:PySem.W.findIn K (.ref C) "__getattr__"=some none
 cl:PySem.W.findIn K (.ref C) "__class__"=some (some (.builtin "object.__class__"))
 be:PySem.W.mroIn K C (.type "BaseException")=some true
 ob:PySem.W.mroIn K C (.type "object")=some true
def cM0 {tp:Value} {R:Result->Shared->Prop} (Z:XCls K C) (X:K.In h) (hx:h.get? x=some ox) (hc:ox.cls=.ref C) (hq:R (.ok (.ret (.ref C))) ⟨h,g,d,t,os⟩) :
  codeAny (model prog w) A (.call (.builtin "getset_descriptor.__get__") ⟨[.builtin "object.__class__",.ref x,tp],[]⟩) R ⟨h,g,d,t,os⟩:=by
 have L0:PySem.W.Looks (model prog w) h (typeOf (.ref x)) (.ref C):=hc ▸ (PySem.W.Looks.ld hx).andThen .now;have L1:PySem.W.Looks (model prog w) h (isSubtype (.ref C) (.type "object")) true:=PySem.W.looks_mroIn X Z.ob;have hT5:(⟨h,g,d,t,os⟩:Shared).TypeIs (.builtin "object.__class__") "getset_descriptor":=F.typeOf_object_class;have ow:=F.owner_object_class;refine codeAny_call_builtin F.slot_gs_get.plain F.entry_gs_get ?_;refine F.slot_gs_get.check _ _ _ _ _ _ _ _ hT5 (F.args_gs_get _ _ _) ?_
 repeat (any_goals (first | assumption | (with_reducible refine wpAny_loadPart_at hx ?_;rw [hc]) | (rw [ow];with_reducible refine L1.at ?_) | with_reducible refine L1.at ?_ | wp_step))
 refine ⟨Code.quiet_builtin _ (by decide +kernel),codeAny_builtin F.entry_object_class ?_⟩
 repeat (any_goals (first | assumption | (with_reducible refine wpAny_loadPart_at hx ?_;rw [hc]) | wp_step))
def aX0 {tk:Tok} {Q:Fin->Shared->Prop} (Z:XCls K C) (X:K.In h) (hx:h.get? x=some ox) (hc:ox.cls=.ref C) (hq:Q (.done (.ret (.ref C))) ⟨h,g,d,t,os⟩) :
  wpAny (model prog w) A (Builtin.«object.__getattribute__» ⟨[.ref x,.str "__class__" tk],[]⟩) Q E ⟨h,g,d,t,os⟩:=by
 have L6:PySem.W.Looks (model prog w) h (typeLookup (.ref C) "__class__") (some (.builtin "object.__class__")):=PySem.W.looks_findIn X Z.cl;have hT5:(⟨h,g,d,t,os⟩:Shared).TypeIs (.builtin "object.__class__") "getset_descriptor":=F.typeOf_object_class;have f5:=F.typeOf_object_class;have f6:=F.slot_gs_get.lookup;have f7:=F.slot_gs_set.lookup
 repeat (any_goals (first | assumption | (with_reducible refine wpAny_loadPart_at hx ?_;rw [hc]) | with_reducible refine L6.at ?_ | wp_step))
 refine cM0 Z X hx hc ?_
 repeat (any_goals (first | assumption | wp_step))
def aX1 {M:Model} {nameV:Value} {Q:Unit->Shared->Prop} (Z:XCls K C) (X:K.In h) (hx:h.get? x=some ox) (hc:ox.cls=.ref C) (hq:Q () ⟨h,g,d,t,os⟩) :
  wpAny M A (checkBuiltinCall "BaseException.__getattribute__" ⟨[.ref x,nameV],[]⟩) Q E ⟨h,g,d,t,os⟩:=by
 have k1:builtinKind "BaseException.__getattribute__"=some .slot:=by decide +kernel
 have k2:splitId "BaseException.__getattribute__"=some ("BaseException","__getattribute__"):=by decide +kernel
 have L3:PySem.W.Looks M h (isSubtype (.ref C) (.type "BaseException")) true:=PySem.W.looks_mroIn X Z.be;have k3:=F.args_bexc_ga (.ref x) nameV;simp only [checkBuiltinCall,k1,k2];unfold isInstance
 repeat (any_goals (first | assumption | (with_reducible refine wpAny_loadPart_at hx ?_;rw [hc]) | with_reducible refine L3.at ?_ | wp_step))
def dB1 {tk:Tok} {Q:Value->Shared->Prop} (FB:Slot "ValueError" "__getattribute__" "BaseException.__getattribute__") (Z:XCls K C) (X:K.In h) (hx:h.get? x=some ox) (hc:ox.cls=.ref C) (hq:Q (.ref C) ⟨h,g,d,t,os⟩) :
  wpAny (model prog w) A (getAttrBy (.ref x) (.str "__class__" tk) false) Q E ⟨h,g,d,t,os⟩:=by
 have L4:PySem.W.Looks (model prog w) h (typeLookup (.ref C) "__getattribute__") (some (.builtin "BaseException.__getattribute__")):=PySem.W.looks_findIn X Z.ga;have L5:PySem.W.Looks (model prog w) h (typeLookup (.ref C) "__getattr__") none:=PySem.W.looks_findIn X Z.gn;have f3:=FB.bind (.ref x);have y2:(Value.builtin "BaseException.__getattribute__"==Value.builtin "object.__getattribute__")=false:=by decide +kernel
 have y1:(onTheHeap (Value.ref C)&&Value.builtin "BaseException.__getattribute__"==Value.builtin "object.__getattribute__")=false:=by rw [y2];rfl
 repeat (any_goals (first | assumption | (with_reducible refine wpAny_loadPart_at hx ?_;rw [hc]) | with_reducible refine L4.at ?_ | with_reducible refine L5.at ?_ | wp_step))
 refine codeAny_call_builtin FB.plain F.entry_bexc_ga ?_;refine aX1 Z X hx hc (aX0 Z X hx hc ?_)
 repeat (any_goals (first | assumption | wp_step))
def bM5 {Q:Option Value->Shared->Prop} (FB:Slot "ValueError" "__getattribute__" "BaseException.__getattribute__") (Z:XCls K C) (X:K.In h) (hx:h.get? x=some ox) (hc:ox.cls=.ref C) (hq:Q (some (.ref C)) ⟨h,g,d,t+1,os⟩) :
  wpAny (model prog w) A (getAttr? (.ref x) "__class__") Q E ⟨h,g,d,t,os⟩:=by
 unfold getAttr? getAttrBy?
 repeat (any_goals (first | assumption | with_reducible apply dB1 FB Z X hx hc | wp_step))
def vO (FB:Slot "ValueError" "__getattribute__" "BaseException.__getattribute__") (Z:XCls K C) (hc:ox.cls=.ref C):PySem.W.KitX K (.ref x) (.ref C) (fun h=>h.get? x=some ox) where
 ty:=fun M h _ hx=>hc ▸ (PySem.W.Looks.ld hx).andThen .now
 it:=fun M h X _=>by
  have z:=Z.ob;unfold PySem.W.mroIn at z;obtain ⟨cd,a,_⟩:=Option.bind_eq_some_iff.mp z;unfold PySem.W.clsIn at a;split at a
  ·rename_i ho;intro A' Q' E' s' k q;unfold isType loadHead;exact wpAny_bind (wpAny_loadPart (k _ _ (X _ _ ho)) (wpAny_pure q))
  ·cases a
 ne:=fun h tp dd its n sl X htp=>by
  refine Bool.eq_false_iff.mpr fun q=>?_;have e:C=tp:=Value.ref.inj (beq_iff_eq.mp q);subst e;have z:=Z.ob;unfold PySem.W.mroIn at z;obtain ⟨cd,a,_⟩:=Option.bind_eq_some_iff.mp z;unfold PySem.W.clsIn at a;split at a
  ·rename_i ho;cases (X _ _ ho).symm.trans htp
  ·cases a
 ca:=fun {_ _ _ _ _ s} X hx q=>by
  obtain ⟨h,g,d,t,os⟩:=s;exact bM5 FB Z X hx hc q
end
end L2
namespace DL
open PySem PySem.Spec PyProof.Rows L2
def Wx (K:Frag) (C:Addr) (E:XK) (A μ:List Addr) (h:aA) (H:Hp):Prop:=∀ H',Ext A A μ μ H H'->HeapRep K A μ h H'->E (.ref C) none H'
def Wx.step {K:Frag} {C:Addr} {E:XK} {A A' μ μ':List Addr} {h:aA} {H H':Hp} (W:Wx K C E A μ h H) (R:HeapRep K A μ h H) (x:Ext A A' μ μ' H H'):Wx K C E A' μ' h H':=fun H'' y R''=>by
 obtain ⟨z,R2⟩:=kM R R'' (x.trans y) (fun i c _ e=>.inr e);rw [List.take_length] at R2;exact W H'' z R2
noncomputable def upX (K:Frag) (C:Addr) (pre:List W->Prop):Sp:=fun vs H _ E=>∃ (ws:List W) (h:aA) (A μ:List Addr),HeapRep K A μ h H/\RepWs K A μ H ws vs/\pre ws/\Wx K C E A μ h H
abbrev DTR:=DSt->aA->Prop
def cM1 (K:Frag) (C:Addr) (E:XK) (tr:DTR):TS:=fun _ σ H=>∃ (δ:DSt) (h:aA) (A μ:List Addr),Ab K A μ δ h σ H/\tr δ h/\Wx K C E A μ h H
def DR (X:Cx) (C:Addr) (E:XK) (st:List Stmt) (tr:DTR):Prop:=PSs X st (cM1 X.K C E tr)
section
variable {X:Cx} {C:Addr} {E:XK} {st:Stmt} {rest sa:List Stmt} {e c:Expr} {es:List Expr} {t:DTA} {tr:DTR} {x:Str} {p np pos epos:Pos} {f:Addr} {fd:FuncData} {ps:List Str} {k:Nat} {pre:List W->Prop} {tc:DTT} {t1:DTS}
structure Leaves (X:Cx) (C:Addr) (E:XK):Prop where
 made:∀ pins σ H s h' ea vs,Inv X pins σ H s->E (.ref C) none H->Heap.MadeExcOf s.heap h' ea (.ref C) vs->X.xe (.ref ea) { s with heap:=h' }
 on:∀ pins σ H1 s1 ex s',Inv X pins σ H1 s1->CXN X.prog X.w C X.stack H1 s1 E ex s'->X.xe ex s'
def qW {P:Program} {w:World} {K:Frag} {mg:Str->Option Value} {base:Heap} {N:List Str} {qual:Str} {scope:Scope} {cdv:Value} {A:Around} {outer:List Env} {s:Shared} {H:Hp} :
  Leaves (nC (CXN P w C) P w K mg base N qual scope f cdv A outer s H E) C E where
 made:=fun pins σ H s h' ea vs I want hx=>aW7 I ⟨rfl,rfl,rfl⟩ hx want
 on:=fun pins σ H1 s1 ex s' I ⟨ea,H',e,F⟩=>by
  subst e;exact cL8 I ⟨rfl,rfl,rfl⟩ F F.want
def aX2 {B newId initId:String} {bmB:List Value} (O:OwnCls x C bmB newId X.mg X.base) (FB:ExcBaseFacts B newId initId bmB) (L:Leaves X C E) (ha:DA X (e::es) t) (hc:autoParam (X.calm=true) ZR) (hg:autoParam (Gl X x) ZR) (hdb:autoParam ((x==("__debug__":Str))=false) ZD)
  (he:autoParam (starEach (e::es) X.env=(false,eval e X.env)::starEach es X.env) ZR) (hpl:autoParam ((backTo pos (starEach es X.env)).any (·.1)=false) ZR) :
  DR X C E [.Raise (some (.Call (.Name x np) (e::es) [] pos)) none epos] (fun δ h=>t δ h fun ws h1=>h1=h/\ws.length<=sizeLine) :=
 rG (bF (aW9 (EX:=fun H=>E (.ref C) none H) O FB ha L.made hc hg hdb he hpl) fun D σ H ⟨δ,h,A,μ,R,q,W⟩=>⟨δ,h,A,μ,_,R,q,fun ws h1 vs H1 A1 μ1 ⟨e1,l⟩ x1 R1 r1=>by
  subst e1;exact ⟨by rw [eU r1];exact l,W.step R.1 x1 H1 .refl R1⟩⟩)
def aX3 (F:FnOk X.prog X.w X.K X.mg X.base (CXN X.prog X.w C) k f fd ps (upX X.K C pre)) (hr:Room k X.A) (hm:X.mg x=some (.ref f)) (hk:PySem.W.keepIn X.K (.ref f)=true) (hb:Binds X.K fd ps []) (L:Leaves X C E) (ha:DA X (e::es) t)
  (hg:autoParam (Gl X x) ZR) (hs:autoParam (swapsWith (.Call (.Name x p) (e::es) [] pos) none epos.line X.env=pure false) ZR) (hdb:autoParam ((x==("__debug__":Str))=false) ZD)
  (he:autoParam (starEach (e::es) X.env=(false,eval e X.env)::starEach es X.env) ZR) (hpl:autoParam ((backTo pos (starEach es X.env)).any (·.1)=false) ZR) :
  PS X (.Expr (.Call (.Name x p) (e::es) [] pos) epos) (cM1 X.K C E fun δ h=>t δ h fun ws h1=>h1=h/\pre ws) :=
 bF (aW8 (E:=E) F hr hm hk hb ha L.on hg hs hdb he hpl) fun D σ H ⟨δ,h,A,μ,R,q,W⟩=>⟨δ,h,A,μ,_,R,q,fun ws h1 vs H1 A1 μ1 ⟨e1,l⟩ x1 R1 r1=>by
  subst e1;exact ⟨ws,_,A1,μ1,R1,r1,l,W.step R.1 x1⟩⟩
def aX4 (h:PS X st (cM1 X.K C E tr)):DR X C E (st::rest) tr:=jS (tR (u:=fun _ _ _=>False) h fun _ _ _ _ _ _ q=>q.elim) fun D σ H q=>q
def dB2 (hc:DT X c tc) (ha:DR X C E sa tr):DR X C E [.If c sa [] pos] (fun δ h=>tc δ h fun b h1=>h1=h/\b=true/\tr δ h) :=
 rG (bF (bO9 (u:=fun _ _ _=>False) hc ha fun _ _ _ _ _ _ q=>q.elim) fun D σ H ⟨δ,h,A,μ,R,q,W⟩=>⟨δ,h,A,μ,_,R,q,fun b h1 H1 A1 μ1 ⟨e1,eb,q'⟩ x1 R1=>by
  subst e1 eb;rw [if_pos rfl];exact ⟨δ,_,A1,μ1,⟨R1,R.2.ext x1 R.1.sub⟩,q',W.step R.1 x1⟩⟩)
end
section
variable {P:Program} {w:World} {K:Frag} {mg:Str->Option Value} {base:Heap}
def dB3 {x qual:Str} {st:Stmt} {f C:Addr} {fd:FuncData} {N ps:List Str} {k:Nat} {pre:List W->Prop} (F:Fun K x qual st f fd) (S:FnScope N ps (aK st)) (len:∀ ws,pre ws->ws.length=ps.length)
  (hbody:∀ (cdv:Value) (A:Around) (outer:List Env) (s:Shared) (H:Hp) (E:XK),Room k (A.deeper (envOfC qual (aK st) s.heap.objs.size f cdv))->∀ ws h,pre ws ->
   ∃ tr,DR (nC (CXN P w C) P w K mg base N qual (aK st) f cdv A outer s H E) C E (bR st) tr/\tr (cZ N ws) h):FnOk P w K mg base (CXN P w C) (k+1) f fd ps (upX K C pre):=by
 obtain ⟨oc,od,kV,doc,pm,an,cdv,ct,osl,rfl,lk,hcd⟩:=F.ex;refine bP3 lk hcd S (fun vs H Q E ⟨ws,h,A,μ,R,r,q,c⟩=>by rw [eU r];exact len _ q) fun A outer s H vs Q E hr hsp=>?_;obtain ⟨ws,h,B,μ,R,r,q,c⟩:=hsp;obtain ⟨tr,h1,h2⟩:=hbody cdv A outer s H E hr ws h q;exact ⟨_,h1,cZ N ws,h,B,μ,⟨R,kL r⟩,h2,c⟩
end
def EnvRep.unset {K:Frag} {A μ:List Addr} {H:Hp} {δ:DSt} {σ:L2.St} (r:EnvRep K A μ H δ σ) (i:Nat):EnvRep K A μ H (δ.set i none) (σ.set i none):=by
 refine ⟨by rw [List.length_set,List.length_set];exact r.len,fun j u e=>?_⟩
 by_cases hj:i=j
 ·subst hj;have hi:i < δ.length:=by
   have:=(List.getElem?_eq_some_iff.mp e).1
   rwa [List.length_set] at this
  rw [List.getElem?_set_self hi] at e;cases e
 ·rw [List.getElem?_set_ne hj] at e ⊢;exact r.val j u e
noncomputable def bM6 (i:Nat) (E:DEnds):DEnds where
 nx:=fun δ h=>E.nx (δ.set i none) h
 rt:=E.rt
 bk:=fun δ h=>E.bk (δ.set i none) h
 ct:=fun δ h=>E.ct (δ.set i none) h
def dB4 (pre:List W->Prop) (i:Nat) (t:DTA) (ts:Addr->DTS):DTS:=fun E δ h=>t δ h fun ws h1=>pre ws/\∀ ea,ts ea (bM6 i E) (δ.set i (some (.v (.ref ea)))) h1
section
variable {X:Cx} {k:Nat} {f C CJ:Addr} {fd:FuncData} {ps:List Str} {x n J:Str} {p pos epos jp hpos tpos:Pos} {e:Expr} {es:List Expr} {t:DTA} {i:Nat} {b₀:Stmt} {su:List Stmt} {ts:Addr->DTS} {pre:List W->Prop}
def cM2 (F:FnOk X.prog X.w X.K X.mg X.base (CXN X.prog X.w C) k f fd ps (upX X.K C pre)) (b:X.Body) (hr:Room k X.A) (hm:X.mg x=some (.ref f)) (hk:PySem.W.keepIn X.K (.ref f)=true) (hb:Binds X.K fd ps [])
  (ha:∀ Ex,DA (X.wish Ex) (e::es) t) (hmJ:X.mg J=some (.ref CJ)) (hJ:PySem.W.exmOne X.K (.ref C) (.ref CJ)=some true) (hN:X.N.Nodup) (hi:X.N[i]?=some n) (hl:X.env.scope.names.lookup n=some .local)
  (hsu:∀ ea oe,oe.cls=.ref C->(∃ vs,oe.data=.fields vs)->DSs (X.suite ea oe) (b₀::su) (ts ea)) (hg:autoParam (Gl X x) ZR) (hgJ:autoParam (Gl X J) ZR)
  (hs:autoParam (swapsWith (.Call (.Name x p) (e::es) [] pos) none epos.line X.env=pure false) ZR) (hdb:autoParam ((x==("__debug__":Str))=false) ZD) (hdJ:autoParam ((J==("__debug__":Str))=false) ZD)
  (he:autoParam (starEach (e::es) X.env=(false,eval e X.env)::starEach es X.env) ZR) (hpl:autoParam ((backTo pos (starEach es X.env)).any (·.1)=false) ZR) :
  DS X (.Try [.Expr (.Call (.Name x p) (e::es) [] pos) epos] [.ExceptHandler (some (.Name J jp)) (some n) (b₀::su) hpos] [] [] tpos) (dB4 pre i t ts) :=
 bF (cL9 (ts:=fun ea=>upS X.K (ts ea)) (t:=upA X.K t) F b hr hm hk hb (fun Ex=>ha Ex) hmJ hJ hN hi hl hsu hg hgJ hs hdb hdJ he hpl) fun D σ H q=>by
  obtain ⟨δ,h,A,μ,E,R,q,L⟩:=q;refine ⟨fun _ _ H2=>∃ h1 A1 μ1,Ext A A1 μ μ1 H H2/\HeapRep X.K A1 μ1 h1 H2/\∀ ea,ts ea (bM6 i E) (δ.set i (some (.v (.ref ea)))) h1,⟨δ,h,A,μ,_,R,q,fun ws h1 vs H1 A1 μ1 q1 x1 R1 r1=>?_⟩,fun H2 ⟨h1,A1,μ1,x,R2,q2⟩ ea=>?_⟩
  ·exact ⟨ws,h1,A1,μ1,R1,r1,q1.1,fun H' x' R'=>⟨h1,A1,μ1,x1.trans x',R',q1.2⟩⟩
  ·have L1:=L.ext x;exact ⟨δ.set i (some (.v (.ref ea))),h1,A1,μ1,bM6 i E,⟨R2,(R.2.ext x R.1.sub).set i rfl⟩,q2 ea,⟨fun δ' h' σ' H' A' μ' q y r=>L1.nx _ h' _ H' A' μ' q y ⟨r.1,r.2.unset i⟩,fun δ' h' σ' H' A' μ' q y r=>L1.bk _ h' _ H' A' μ' q y ⟨r.1,r.2.unset i⟩,fun δ' h' σ' H' A' μ' q y r=>L1.ct _ h' _ H' A' μ' q y ⟨r.1,r.2.unset i⟩,L1.rt⟩⟩
end
def cM3 (ea:Addr) (i:Nat) (b:Bool):DTE:=fun δ h Q=>δ[i]?=some (some (.v (.ref ea)))/\Q (.d (.bool b)) h
section
variable {X:Cx} {C:Addr} {ea:Addr} {oe:Obj} {i:Nat} {n Cn:Str} {b:Bool} {p p1 p2 pos:Pos} {cv:V} {cu:Value}
def aX5 (Z:XCls X.K C) (hc:oe.cls=.ref C) (hp:(ea,oe)∈X.pn) (hm:X.mg "isinstance"=none) (hC:PE X (.Name Cn p2) (tC cv)) (hr:∀ u,RelV cv u->u=cu) (hk:PySem.W.kitOne X.K (.ref C) cu=some b) (hN:autoParam (X.N[i]?=some n) ZR)
  (hv:Vis X.env.scope n:=by exact Or.inl rfl) (hg:autoParam (Gl X "isinstance") ZR) (hd:autoParam ((n==("__debug__":Str))=false) ZD) (hcd:autoParam ((n==("__classdict__":Str))=false) ZD)
  (hs:autoParam (starEach (.Name n p1::[.Name Cn p2]) X.env=(false,eval (.Name n p1) X.env)::starEach [.Name Cn p2] X.env) ZR) (hs2:autoParam (starEach ([.Name Cn p2]:List Expr) X.env=(false,eval (.Name Cn p2) X.env)::starEach [] X.env) ZR)
  (hpl:autoParam ((backTo pos (starEach ([.Name Cn p2]:List Expr) X.env)).any (·.1)=false) ZR):DE X (.Call (.Name "isinstance" p) [.Name n p1,.Name Cn p2] [] pos) (cM3 ea i b):=by
 have ha:PA X [.Name n p1,.Name Cn p2] (fA (bW1 i) (fA (tC cv) aC5)):=cN (wM hN hv hd hcd) (cN hC kI hs2) hs;have hcl:cF X (.builtin "isinstance") (fun xs H Q=>xs=[.ref ea,cv]/\Q (.bl b) H):=by
  intro pins s σ H xs us Q I r h;obtain ⟨rfl,q⟩:=h;cases r with
  | cons r1 r2 =>
   cases r2 with
   | cons r3 r4 =>
    cases r4;cases r1;obtain rfl:=hr _ r3;exact PySem.W.kia_one (vO PySem.F.excAttr_ValueError.ga Z hc) I.kIn (I.pin (ea,oe) (List.mem_append_left _ hp)).1 hk (fun z=>nomatch z) fun tk=>⟨.bl b,H,I.tok tk,rfl,q⟩
 refine aG (jN hcl hg hm (by rfl) ha (by decide) (by decide) hs hpl) fun σ H Q q=>?_;obtain ⟨δ,h,A,μ,k,R,⟨e1,q⟩,c⟩:=q;obtain ⟨v,e2,r⟩:=R.2.val i _ e1;have r':v=.ref ea:=r;subst r';exact ⟨_,e2,rfl,c _ h _ H A μ q .refl R.1 bE⟩
end
section
variable {X:Cx}
end
section
variable {X:Cx} {a:Expr} {ta:DTE} {pos:Pos}
end
end DL
set_option maxHeartbeats 400000
namespace DL
open PySem PySem.Spec PyProof.Rows L2
section
variable {X:Cx} {C ea a1 a2 a3 a4:Addr} {oe:Obj} {i k:Nat} {n c1 c2 c3 c4:Str} {b:Bool} {p p1 q1 q2 q3 q4 pt pos:Pos}
def bM7 (Z:XCls X.K C) (hc:oe.cls=.ref C) (hp:(ea,oe)∈X.pn) (hm:X.mg "isinstance"=none) (m1:X.mg c1=some (.ref a1)) (m2:X.mg c2=some (.ref a2)) (m3:X.mg c3=some (.ref a3)) (m4:X.mg c4=some (.ref a4))
  (hk:PySem.W.kitAny X.K (.ref C) [.ref a1,.ref a2,.ref a3,.ref a4]=some b) (g1:Gl X c1) (g2:Gl X c2) (g3:Gl X c3) (g4:Gl X c4) (d1:(c1==("__debug__":Str))=false) (d2:(c2==("__debug__":Str))=false) (d3:(c3==("__debug__":Str))=false) (d4:(c4==("__debug__":Str))=false)
  (hN:X.N[i]?=some n) (hv:Vis X.env.scope n) (hg:Gl X "isinstance") (hd:(n==("__debug__":Str))=false) (hcd:(n==("__classdict__":Str))=false) :
  DE X (.Call (.Name "isinstance" p) [.Name n p1,.Tuple [.Name c1 q1,.Name c2 q2,.Name c3 q3,.Name c4 q4] k pt] [] pos) (cM3 ea i b):=by
 have e1:PE X (.Name c1 q1) (tC (.ref a1)):=eE g1 m1 rfl d1;have e2:PE X (.Name c2 q2) (tC (.ref a2)):=eE g2 m2 rfl d2;have e3:PE X (.Name c3 q3) (tC (.ref a3)):=eE g3 m3 rfl d3;have e4:PE X (.Name c4 q4) (tC (.ref a4)):=eE g4 m4 rfl d4;have ht:PE X (.Tuple [.Name c1 q1,.Name c2 q2,.Name c3 q3,.Name c4 q4] k pt) (bZ3 (fA (tC (.ref a1)) (fA (tC (.ref a2)) (fA (tC (.ref a3)) (fA (tC (.ref a4)) aC5))))):=aL5 (cN e1 (cN e2 (cN e3 (cN e4 kI rfl) rfl) rfl) rfl);have ha:PA X [.Name n p1,.Tuple [.Name c1 q1,.Name c2 q2,.Name c3 q3,.Name c4 q4] k pt] (fA (bW1 i) (fA (bZ3 (fA (tC (.ref a1)) (fA (tC (.ref a2)) (fA (tC (.ref a3)) (fA (tC (.ref a4)) aC5))))) aC5)):=cN (wM hN hv hd hcd) (cN ht kI rfl) rfl;have hcl:cF X (.builtin "isinstance") (fun xs H Q=>∃ tp,xs=[.ref ea,.ref tp]/\H tp=some (.tup [.ref a1,.ref a2,.ref a3,.ref a4])/\Q (.bl b) H):=by
  intro pins s σ H xs us Q I r h;obtain ⟨tp,rfl,htp,q⟩:=h;obtain ⟨_,vs,ru,o,ho,hoc,⟨m,hod⟩,hn⟩:=(show ObjOk X.prog X.w H s.heap tp (.tup [.ref a1,.ref a2,.ref a3,.ref a4]) from I.hok tp _ htp);have eu:vs=[.ref a1,.ref a2,.ref a3,.ref a4]:=by
   cases ru with
   | cons r1 r2=>cases r2 with
    | cons r3 r4=>cases r4 with
     | cons r5 r6=>cases r6 with
      | cons r7 r8=>cases r8;cases r1;cases r3;cases r5;cases r7;rfl
  subst eu;obtain ⟨cls,dct,dat,sl⟩:=o;dsimp only at hoc hod hn;subst hoc;subst hod;subst hn;cases r with
  | cons r1 r2 =>
   cases r2 with
   | cons r3 r4 =>
    cases r4;cases r1;cases r3;exact PySem.W.kia_tup (vO PySem.F.excAttr_ValueError.ga Z hc) I.kIn (I.pin (ea,oe) (List.mem_append_left _ hp)).1 ho hk (fun z=>nomatch z) fun tk=>⟨.bl b,H,I.tok tk,rfl,q⟩
 refine aG (jN hcl hg hm (by rfl) ha (by decide) (by decide) rfl rfl) fun σ H Q q=>?_;obtain ⟨δ,h,A,μ,kk,R,⟨e5,q⟩,c⟩:=q;obtain ⟨v,e6,r⟩:=R.2.val i _ e5;have r':v=.ref ea:=r;subst r';refine ⟨_,e6,(by decide:(4:Nat)<=sizeLine),fun tp hp=>?_⟩;exact ⟨tp,rfl,by simp [upd],c _ h _ _ A μ q (aW hp) (R.1.fresh hp) bE⟩
end
end DL
set_option maxHeartbeats 4000000
noncomputable section
namespace K65
open PySem PySem.Spec PyProof.Rows L2 DL CI SJ
noncomputable def body:List Stmt:=PySem.Challenge.pw_storejudge_k65_set_aside.main.body
noncomputable def cv (x:Str):List Str:=if x="law" then ["_law_state","_law_every","_law_numbers"] else if x="_law_items" then ["_law_items_here","_law_own","_law_turned"] else if x="_law_ties" then ["_law_found"] else if x="_law_due" then ["_law_items_here","_law_apart"] else if x="_law_none" then ["_law_found"] else if x="deal_done" then ["answers"] else []
noncomputable def T:Top:=cZ1 body (fun _=>[]) cv 1000 60
end K65
namespace K65
open PySem PySem.Spec PyProof.Rows L2 DL CI
noncomputable def YE:Fl×aA->Option (Fl×aA):=fun p=>match p.1 with
  | Fl.nx δ'=>some (Fl.nx δ',p.2)
  | f=>some (f,p.2)
@[simp] theorem dU6 :YE=fun p=>match p.1 with
  | Fl.nx δ'=>some (Fl.nx δ',p.2)
  | f=>some (f,p.2):=rfl
noncomputable def YN:W->XR (List W):=fun w=>xb (aD []) fun ws=>aD (w::ws)
@[simp] theorem dU7 :YN=fun w=>xb (aD []) fun ws=>aD (w::ws):=rfl
noncomputable def YC (w:W):List W->XR (List W):=fun ws=>aD (w::ws)
@[simp] theorem dU8 (w:W):YC w=fun ws=>aD (w::ws):=rfl
noncomputable def YF (d:Nat) (s:String):List W->XR W:=fun ws x h=>Option.bind (aE T d (Str.ofString s) ws h) fun p=>some (W.d p.1,p.2)
@[simp] theorem dU9 (d:Nat) (s:String):YF d s=fun ws x h=>Option.bind (aE T d (Str.ofString s) ws h) fun p=>some (W.d p.1,p.2):=rfl
noncomputable def YI (n:Int):W->XR W:=fun x=>xb (aD (W.d (PyData.int n))) fun y x_1 h=>xIx x y h
@[simp] theorem dV0 (n:Int):YI n=fun x=>xb (aD (W.d (PyData.int n))) fun y x_1 h=>xIx x y h:=rfl
noncomputable def YB (o:Operator) (n:Int):W->XR W:=fun u=>xb (aD (W.d (PyData.int n))) fun w x h=>eD o u w h
@[simp] theorem dV1 (o:Operator) (n:Int):YB o n=fun u=>xb (aD (W.d (PyData.int n))) fun w x h=>eD o u w h:=rfl
noncomputable def YO (o:Operator) (u:W):W->XR W:=fun w x h=>eD o u w h
@[simp] theorem dV2 (o:Operator) (u:W):YO o u=fun w x h=>eD o u w h:=rfl
noncomputable def YT:List PyData->XR W:=fun xs=>aD (W.d (PyData.tuple xs))
@[simp] theorem dV3 :YT=fun xs=>aD (W.d (PyData.tuple xs)):=rfl
noncomputable def YW:W×aA->Option (Fl×aA):=fun p=>some (Fl.rt p.1,p.2)
@[simp] theorem dV4 :YW=fun p=>some (Fl.rt p.1,p.2):=rfl
noncomputable def YS (s:String):XR W:=aD (W.d (PyData.str (Str.ofString s)))
@[simp] theorem dV5 (s:String):YS s=aD (W.d (PyData.str (Str.ofString s))):=rfl
noncomputable def YJ (n:Int):XR W:=aD (W.d (PyData.int n))
@[simp] theorem dV6 (n:Int):YJ n=aD (W.d (PyData.int n)):=rfl
noncomputable def YK (f:List W->aA->Option (W×aA)):List W->XR W:=fun ws x h=>f ws h
@[simp] theorem dV7 (f:List W->aA->Option (W×aA)):YK f=fun ws x h=>f ws h:=rfl
noncomputable def YQ (k:DSt->Fl×aA->Option (Fl×aA)):Fl×aA->Option (Fl×aA):=fun p=>match p.1 with
  | Fl.nx δ'=>k δ' p
  | f=>some (f,p.2)
@[simp] theorem aI0 (k:DSt->Fl×aA->Option (Fl×aA)):YQ k=fun p=>match p.1 with
  | Fl.nx δ'=>k δ' p
  | f=>some (f,p.2):=rfl
noncomputable def YP {α β:Type} (x:Option α) (f:α->Option β):Option β:=Option.bind x f
@[simp] theorem yB {α β:Type} (x:Option α) (f:α->Option β):YP x f=Option.bind x f:=rfl
noncomputable def YG (i:Nat):XG:=fun w δ h=>some (List.set δ i (some w),h)
@[simp] theorem dV8 (i:Nat):YG i=fun w δ h=>some (List.set δ i (some w),h):=rfl
noncomputable def YZ:XR W:=aD (W.d PyData.none)
@[simp] theorem dV9:YZ=aD (W.d PyData.none):=rfl
noncomputable def YV (i:Nat) (n:Int):XR W:=xb (aB i) (YI n)
@[simp] theorem dW0 (i:Nat) (n:Int):YV i n=xb (aB i) (YI n):=rfl
noncomputable def YA (e:XR (List W)):W->XR W:=fun w δ h=>if gF (Str.ofString "append") w h=true then Option.bind (e δ h) fun p=>match w,p.1 with
  | W.c j,[W.d x]=>match p.2[j]? with
    | some (Cell.l xs)=>if List.length xs < sizeLine then some (W.d PyData.none,List.set p.2 j (Cell.l (xs++[x]))) else none
    | x=>none
  | x,x_2=>none else none
@[simp] theorem dW1 (e:XR (List W)):YA e=fun w δ h=>if gF (Str.ofString "append") w h=true then Option.bind (e δ h) fun p=>match w,p.1 with
  | W.c j,[W.d x]=>match p.2[j]? with
    | some (Cell.l xs)=>if List.length xs < sizeLine then some (W.d PyData.none,List.set p.2 j (Cell.l (xs++[x]))) else none
    | x=>none
  | x,x_2=>none else none:=rfl
noncomputable def YR :W->XR (List PyData×Option Nat):=fun w x h=>match w with
  | W.d (PyData.int j)=>if kA 0 j=true then some ((rng 0 (Int.toNat j),none),h) else none
  | x=>none
@[simp] theorem dW2 :YR =fun w x h=>match w with
  | W.d (PyData.int j)=>if kA 0 j=true then some ((rng 0 (Int.toNat j),none),h) else none
  | x=>none:=rfl
noncomputable def YD :W->XR Bool:=fun w=>match w with
  | W.d (PyData.bool b)=>aD b
  | x=>xno
@[simp] theorem dW3 :YD =fun w=>match w with
  | W.d (PyData.bool b)=>aD b
  | x=>xno:=rfl
noncomputable def YU :W->XR (Option Int):=fun w=>match w with
  | W.d (PyData.int i)=>aD (some i)
  | x=>xno
@[simp] theorem dW4 :YU =fun w=>match w with
  | W.d (PyData.int i)=>aD (some i)
  | x=>xno:=rfl
noncomputable def YX (x:W):W->XR W:=fun y _ h=>xIx x y h
@[simp] theorem dW5 (x:W):YX x=fun y _ h=>xIx x y h:=rfl
noncomputable def YS3 (x:W) (l:Option Int):Option Int->XR W:=fun u _ h=>xSl x l u h
@[simp] theorem dT1 (x:W) (l:Option Int):YS3 x l=fun u _ h=>xSl x l u h:=rfl
noncomputable def YT2 (b:Bool) (δ:DSt):Bool×aA->Option (Fl×aA):=fun p=>if p.1=true then YP (YP (aD (W.d (PyData.bool b)) δ p.2) YW) YE else some (Fl.nx δ,p.2)
@[simp] theorem dT2 (b:Bool) (δ:DSt):YT2 b δ=fun p=>if p.1=true then YP (YP (aD (W.d (PyData.bool b)) δ p.2) YW) YE else some (Fl.nx δ,p.2):=rfl
noncomputable def YI2 (s:String):W->XR W:=fun w x h=>Option.bind (ref h w) fun d=>some (W.d (PyData.bool (isi d s)),h)
@[simp] theorem dT3 (s:String):YI2 s=fun w x h=>Option.bind (ref h w) fun d=>some (W.d (PyData.bool (isi d s)),h):=rfl
noncomputable def Y1 (a:XR W):XR (List W):=xb a YN
@[simp] theorem dW6 (a:XR W):Y1 a=xb a YN:=rfl
noncomputable def Y2 (a b:XR W):XR (List W):=xb a fun w=>xb (Y1 b) (YC w)
@[simp] theorem dW7 (a b:XR W):Y2 a b=xb a fun w=>xb (Y1 b) (YC w):=rfl
noncomputable def Y3 (a b c:XR W):XR (List W):=xb a fun w=>xb (Y2 b c) (YC w)
@[simp] theorem dW8 (a b c:XR W):Y3 a b c=xb a fun w=>xb (Y2 b c) (YC w):=rfl
noncomputable def Y4 (a b c e:XR W):XR (List W):=xb a fun w=>xb (Y3 b c e) (YC w)
@[simp] theorem dW9 (a b c e:XR W):Y4 a b c e=xb a fun w=>xb (Y3 b c e) (YC w):=rfl
noncomputable def Y5 (a b c e f:XR W):XR (List W):=xb a fun w=>xb (Y4 b c e f) (YC w)
@[simp] theorem dX0 (a b c e f:XR W):Y5 a b c e f=xb a fun w=>xb (Y4 b c e f) (YC w):=rfl
noncomputable def Y6 (a b c e f g:XR W):XR (List W):=xb a fun w=>xb (Y5 b c e f g) (YC w)
@[simp] theorem dX1 (a b c e f g:XR W):Y6 a b c e f g=xb a fun w=>xb (Y5 b c e f g) (YC w):=rfl
noncomputable def Y7 (a b c e f g i:XR W):XR (List W):=xb a fun w=>xb (Y6 b c e f g i) (YC w)
@[simp] theorem dX2 (a b c e f g i:XR W):Y7 a b c e f g i=xb a fun w=>xb (Y6 b c e f g i) (YC w):=rfl
noncomputable def yC (d:Nat) (w0:W) (h:aA):aE T (d+1) "is_whole" [w0] h =
 YP
 (YP
 (YP
 (xb (xb (aB 0) (YI2 "int"))
 (fun (w:W) =>
 match w with
     | W.d (PyData.bool true) =>
      xb (xb (aB 0) (YI2 "bool")) fun (w:W) =>
 match w with
       | W.d (PyData.bool b)=>aD (W.d (PyData.bool !b))
       | x=>xno
     | W.d (PyData.bool false)=>aD (W.d (PyData.bool false))
     | x=>xno)
 [some w0] h)
 YW)
 YE)
 (ends h):=by kernel_rfl
noncomputable def sV (d:Nat) (w0 w1 w2:W) (h:aA):aE T (d+1) "is_between" [w0,w1,w2] h =
 YP
 (YP
 (YP
 (xb (xb (Y1 (aB 0)) (YF d "is_whole"))
 (fun (w:W) =>
 match w with
     | W.d (PyData.bool true)=>cJ (xC2 CmpOp.LtE CmpOp.LtE (aB 1) (aB 0) (aB 2))
     | W.d (PyData.bool false)=>aD (W.d (PyData.bool false))
     | x=>xno)
 [some w0,some w1,some w2] h)
 YW)
 YE)
 (ends h):=by kernel_rfl
noncomputable def pA (d:Nat) (w0 w1:W) (h:aA):aE T (d+1) "is_tuple_of" [w0,w1] h =
 YP
 (YP
 (YP
 (xb (xb (aB 0) (YI2 "tuple"))
 (fun (w:W) =>
 match w with
     | W.d (PyData.bool true)=>cJ (xC1 CmpOp.Eq (xb (Y1 (aB 0)) (YK bP)) (aB 1))
     | W.d (PyData.bool false)=>aD (W.d (PyData.bool false))
     | x=>xno)
 [some w0,some w1] h)
 YW)
 YE)
 (ends h):=by kernel_rfl
noncomputable def vP (d:Nat) (w0:W) (h:aA):aE T (d+1) "are_whole" [w0] h =
 YP
 (YP (YP (xb (Y1 (aQ (xb (cK (aB 0)) fun p δ h=>aX (YG 0) (aD true) (xb (Y1 (aB 0)) (YF d "is_whole")) p.2 p.1 p.1 (bJ [none] δ) h []))) (YK jY) [some w0] h) YW) YE)
 (ends h):=by kernel_rfl
noncomputable def sW (d:Nat) (w0:W) (h:aA):aE T (d+1) "are_rising" [w0] h =
 YP
 (YP
 (YP
 (xb
 (Y1 (aQ
 (xb
 (xb (xb (xb (Y1 (aB 0)) (YK bP)) (YB .Sub 1)) YR)
 fun p δ h=>aX (YG 0) (aD true) (cJ (xC1 CmpOp.Lt (xb (aB 1) fun x=>xb (aB 0) (YX x)) (xb (aB 1) fun x=>xb (xb (aB 0) (YB .Add 1)) (YX x)))) p.2 p.1 p.1 (bJ [none,some 0] δ) h [])))
 (YK jY) [some w0] h)
 YW)
 YE)
 (ends h):=by kernel_rfl
noncomputable def aX6 (d:Nat) (w0:W) (h:aA):aE T (d+1) "is_key" [w0] h =
 YP
 (YP (YP (xb (Y3 (aB 0) (YJ 0) (YJ 7)) ((YF d "is_between")) [some w0] h) YW) YE)
 (ends h):=by kernel_rfl
noncomputable def aI1 (d:Nat) (w0:W) (h:aA):aE T (d+1) "word_of" [w0] h =
 YP
 (YP
 (YP
 (xb
 (xb (xb (aB 0) (YI2 "tuple")) YD)
 (fun c =>
 if c=true then
 xb (xC1 CmpOp.Gt (xb (Y1 (aB 0)) (YK bP)) (YJ 0)) fun c =>
 if c=true then
 xb (xb (YV 0 0) (YI2 "str")) YD
 else aD false
 else aD false)
 [some w0] h)
 fun p =>
 if p.1=true then
 YP (YP (xb (aB 0) (YI 0) [some w0] p.2) YW) YE
 else some (Fl.nx [some w0],p.2))
 (YQ fun δ' p =>
 YP (YP (YZ δ' p.2) YW) YE))
 (ends h):=by kernel_rfl
noncomputable def vQ (d:Nat) (w0 w1 w2:W) (h:aA):aE T (d+1) "is_worded" [w0,w1,w2] h =
 YP
 (YP
 (YP
 (xb (cJ (xC1 CmpOp.Eq (xb (Y1 (aB 0)) (YF d "word_of")) (aB 1)))
 (fun (w:W) =>
 match w with
     | W.d (PyData.bool true)=>cJ (xC1 CmpOp.Eq (xb (Y1 (aB 0)) (YK bP)) (aB 2))
     | W.d (PyData.bool false)=>aD (W.d (PyData.bool false))
     | x=>xno)
 [some w0,some w1,some w2] h)
 YW)
 YE)
 (ends h):=by kernel_rfl
noncomputable def vR (d:Nat) (w0:W) (h:aA):aE T (d+1) "is_single" [w0] h =
 YP
 (YP (aY 1 (xb (Y1 (aB 0)) (YF d "word_of")) [some w0,none] h) (YQ fun δ' p =>
   YP
    (YP
     (xb (qN (fun (z:Str)=>List.lookup z [(Str.ofString "read",0),(Str.ofString "write",1),(Str.ofString "add",1),(Str.ofString "swap",2)]) (aB 1))
      (fun c =>
       if c=true then aD true
       else
        xC1 CmpOp.NotEq (xb (Y1 (aB 0)) (YK bP))
         (xb (YJ 2) fun (u:W) =>
          xb
           (xb (aB 1) fun (w:W) =>
            match w with
            | W.d (PyData.str z) =>
             match List.lookup z [(Str.ofString "read",0),(Str.ofString "write",1),(Str.ofString "add",1),(Str.ofString "swap",2)] with
             | some i=>aD (W.d (PyData.int i))
             | none=>xno
            | x=>xno)
           (YO .Add u)))
      δ' p.2)
     (YT2 false δ'))
    (YQ fun δ' p =>
     YP
      (YP
       (xb (xb (Y1 (YV 0 1)) (YF d "is_key"))
        (fun (w:W) =>
         match w with
         | W.d (PyData.bool true) =>
          xb
           (Y1 (xb (aB 0) fun (x:W) =>
             xb
              (xb (YJ 2) YU)
              fun (l:Option Int)=>xb (aD none) (YS3 x l)))
           (YF d "are_whole")
         | W.d (PyData.bool false)=>aD (W.d (PyData.bool false))
         | x=>xno)
        δ' p.2)
       YW)
      YE)))
 (ends h):=by kernel_rfl
noncomputable def aI2 (d:Nat) (w0:W) (h:aA):aE T (d+1) "is_span" [w0] h =
 YP
 (YP
 (YP
 (xb
 (xb
 (xb (xb (Y3 (aB 0) (YS "span") (YJ 3)) (YF d "is_worded")) YD)
 fun (b:Bool)=>aD !b)
 (fun c =>
 if c=true then aD true
 else
 xb
 (xb
 (xb
 (Y1 (xb (aB 0) fun (x:W) =>
 xb
 (xb (YJ 1) YU)
 fun (l:Option Int)=>xb (aD none) (YS3 x l)))
 (YF d "are_whole"))
 YD)
 fun (b:Bool)=>aD !b)
 [some w0] h)
 (YT2 false [some w0]))
 (YQ fun δ' p =>
 YP (YP (cJ (xC3 CmpOp.LtE CmpOp.Lt CmpOp.LtE (YJ 0) (YV 0 1) (YV 0 2) (xb (YJ 7) (YB .Add 1))) δ' p.2) YW) YE))
 (ends h):=by kernel_rfl
noncomputable def aI3 (d:Nat) (w0:W) (h:aA):aE T (d+1) "is_deal" [w0] h =
 YP
 (YP
 (YP
 (xb
 (xb
 (xb (xb (Y3 (aB 0) (YS "deal") (YJ 2)) (YF d "is_worded")) YD)
 fun (b:Bool)=>aD !b)
 (fun c =>
 if c=true then aD true
 else
 xb
 (xb (xb (YV 0 1) (YI2 "tuple")) YD)
 fun (b:Bool)=>aD !b)
 [some w0] h)
 (YT2 false [some w0]))
 (YQ fun δ' p =>
 YP
 (YP
 (xb (cJ (xC2 CmpOp.LtE CmpOp.LtE (YJ 1) (xb (Y1 (YV 0 1)) (YK bP)) (YJ 4)))
 (fun (w:W) =>
 match w with
       | W.d (PyData.bool true)=>xb (Y1 (aQ (xb (cK (YV 0 1)) fun p δ h=>aX (YG 0) (aD true) (xb (Y1 (aB 0)) (YF d "is_single")) p.2 p.1 p.1 (bJ [none] δ) h []))) (YK jY)
       | W.d (PyData.bool false)=>aD (W.d (PyData.bool false))
       | x=>xno)
 δ' p.2)
 YW)
 YE))
 (ends h):=by kernel_rfl
noncomputable def aI4 (d:Nat) (w0:W) (h:aA):aE T (d+1) "is_call" [w0] h =
 YP
 (YP
 (YP
 (xb (xb (Y1 (aB 0)) (YF d "is_single"))
 (fun (w:W) =>
 match w with
     | W.d (PyData.bool true)=>aD (W.d (PyData.bool true))
     | W.d (PyData.bool false) =>
      xb (xb (Y1 (aB 0)) (YF d "is_span")) fun (w:W) =>
 match w with
       | W.d (PyData.bool true)=>aD (W.d (PyData.bool true))
       | W.d (PyData.bool false)=>xb (Y1 (aB 0)) (YF d "is_deal")
       | x=>xno
     | x=>xno)
 [some w0] h)
 YW)
 YE)
 (ends h):=by kernel_rfl
noncomputable def aI5 (d:Nat) (w0:W) (h:aA):aE T (d+1) "is_look" [w0] h =
 YP
 (YP
 (YP
 (xb (xb (Y3 (aB 0) (YS "look") (YJ 2)) (YF d "is_worded"))
 (fun (w:W) =>
 match w with
     | W.d (PyData.bool true)=>xb (Y1 (YV 0 1)) (YF d "is_call")
     | W.d (PyData.bool false)=>aD (W.d (PyData.bool false))
     | x=>xno)
 [some w0] h)
 YW)
 YE)
 (ends h):=by kernel_rfl
noncomputable def mG (d:Nat) (w0:W) (h:aA):aE T (d+1) "is_value_pair" [w0] h =
 YP
 (YP
 (YP
 (xb (xb (Y2 (aB 0) (YJ 2)) (YF d "is_tuple_of"))
 (fun (w:W) =>
 match w with
     | W.d (PyData.bool true) =>
      xb (xb (Y1 (YV 0 0)) (YF d "is_key")) fun (w:W) =>
 match w with
       | W.d (PyData.bool true)=>xb (Y1 (YV 0 1)) (YF d "is_whole")
       | W.d (PyData.bool false)=>aD (W.d (PyData.bool false))
       | x=>xno
     | W.d (PyData.bool false)=>aD (W.d (PyData.bool false))
     | x=>xno)
 [some w0] h)
 YW)
 YE)
 (ends h):=by kernel_rfl
noncomputable def aX7 (d:Nat) (w0:W) (h:aA):aE T (d+1) "is_lay" [w0] h =
 YP
 (YP
 (YP
 (xb
 (xb
 (xb (xb (Y3 (aB 0) (YS "lay") (YJ 2)) (YF d "is_worded")) YD)
 fun (b:Bool)=>aD !b)
 (fun c =>
 if c=true then aD true
 else
 xb
 (xb
 (xb (xb (YV 0 1) (YI2 "tuple")) YD)
 fun (b:Bool)=>aD !b)
 fun c=>if c=true then aD true else xC1 CmpOp.Eq (xb (Y1 (YV 0 1)) (YK bP)) (YJ 0))
 [some w0] h)
 (YT2 false [some w0]))
 (YQ fun δ' p =>
 YP
 (YP
 (xb
 (xb (xb (Y1 (aQ (xb (cK (YV 0 1)) fun p δ h=>aX (YG 0) (aD true) (xb (Y1 (aB 0)) (YF d "is_value_pair")) p.2 p.1 p.1 (bJ [none] δ) h []))) (YK jY)) YD)
 (fun (b:Bool)=>aD !b) δ' p.2)
 (YT2 false δ'))
 (YQ fun δ' p =>
 YP (YP (xb (Y1 (aQ (xb (cK (YV 0 1)) fun p δ h=>aX (YG 0) (aD true) (YV 0 0) p.2 p.1 p.1 (bJ [none] δ) h []))) ((YF d "are_rising")) δ' p.2) YW) YE)))
 (ends h):=by kernel_rfl
noncomputable def aI6 (d:Nat) (w0:W) (h:aA):aE T (d+1) "is_step" [w0] h =
 YP
 (YP
 (YP
 (xb (xb (Y1 (aB 0)) (YF d "is_call"))
 (fun (w:W) =>
 match w with
     | W.d (PyData.bool true)=>aD (W.d (PyData.bool true))
     | W.d (PyData.bool false) =>
      xb (xb (Y1 (aB 0)) (YF d "is_look")) fun (w:W) =>
 match w with
       | W.d (PyData.bool true)=>aD (W.d (PyData.bool true))
       | W.d (PyData.bool false)=>xb (Y1 (aB 0)) (YF d "is_lay")
       | x=>xno
     | x=>xno)
 [some w0] h)
 YW)
 YE)
 (ends h):=by kernel_rfl
noncomputable def iH (d:Nat) (w0 w1:W) (h:aA):aE T (d+1) "is_answer" [w0,w1] h =
 YP
 (YP
 (YP
 (xb
 (xb (xb (Y1 (aB 0)) (YF d "is_step")) YD)
 (fun (b:Bool)=>aD !b) [some w0,some w1] h)
 (YT2 false [some w0,some w1]))
 (YQ fun δ' p =>
 YP
 (YP
 (xb (xb (Y3 (aB 1) (YS "refused") (YJ 1)) (YF d "is_worded"))
 (YD)
 δ' p.2)
 fun p =>
 if p.1=true then
 YP (YP (xb (Y1 (aB 0)) ((YF d "is_call")) δ' p.2) YW) YE
 else some (Fl.nx δ',p.2))
 (YQ fun δ' p =>
 YP (YP (xb (Y2 (aB 0) (aB 1)) ((YF d "is_own_answer")) δ' p.2) YW) YE)))
 (ends h):=by kernel_rfl
noncomputable def bC (d:Nat) (w0 w1:W) (h:aA):aE T (d+1) "is_own_answer" [w0,w1] h =
 YP
 (YP (aY 2 (YV 0 0) [some w0,some w1,none] h) (YQ fun δ' p =>
 YP
 (YP (xC1 CmpOp.In (aB 2) (xb (xPl (Y2 (YS "read") (YS "add"))) YT) δ' p.2) fun p =>
 if p.1=true then
 YP
 (YP
 (xb (xb (Y3 (aB 1) (YS "got") (YJ 2)) (YF d "is_worded"))
 (fun (w:W) =>
 match w with
          | W.d (PyData.bool true)=>xb (Y1 (YV 1 1)) (YF d "is_whole")
          | W.d (PyData.bool false)=>aD (W.d (PyData.bool false))
          | x=>xno)
 δ' p.2)
 YW)
 YE
 else some (Fl.nx δ',p.2))
 (YQ fun δ' p =>
 YP
 (YP (xC1 CmpOp.In (aB 2) (xb (xPl (Y2 (YS "write") (YS "lay"))) YT) δ' p.2) fun p =>
 if p.1=true then
 YP (YP (xb (Y3 (aB 1) (YS "done") (YJ 1)) ((YF d "is_worded")) δ' p.2) YW) YE
 else some (Fl.nx δ',p.2))
 (YQ fun δ' p =>
 YP
 (YP (xC1 CmpOp.Eq (aB 2) (YS "swap") δ' p.2) fun p =>
 if p.1=true then
 YP
 (YP
 (xb (xb (Y3 (aB 1) (YS "yes") (YJ 1)) (YF d "is_worded"))
 (fun (w:W) =>
 match w with
              | W.d (PyData.bool true)=>aD (W.d (PyData.bool true))
              | W.d (PyData.bool false)=>xb (Y3 (aB 1) (YS "no") (YJ 1)) (YF d "is_worded")
              | x=>xno)
 δ' p.2)
 YW)
 YE
 else some (Fl.nx δ',p.2))
 (YQ fun δ' p =>
 YP
 (YP (xC1 CmpOp.Eq (aB 2) (YS "span") δ' p.2) fun p =>
 if p.1=true then
 YP
 (YP
 (xb (xb (Y3 (aB 1) (YS "all") (YJ 2)) (YF d "is_worded"))
 (fun (w:W) =>
 match w with
                | W.d (PyData.bool true) =>
                 xb (xb (Y2 (YV 1 1) (xb (YV 0 2) fun u=>xb (YV 0 1) (YO .Sub u))) (YF d "is_tuple_of")) fun (w:W) =>
 match w with
                  | W.d (PyData.bool true)=>xb (Y1 (YV 1 1)) (YF d "are_whole")
                  | W.d (PyData.bool false)=>aD (W.d (PyData.bool false))
                  | x=>xno
                | W.d (PyData.bool false)=>aD (W.d (PyData.bool false))
                | x=>xno)
 δ' p.2)
 YW)
 YE
 else some (Fl.nx δ',p.2))
 (YQ fun δ' p =>
 YP
 (YP (xC1 CmpOp.Eq (aB 2) (YS "look") δ' p.2) fun p =>
 if p.1=true then
 YP (YP (xb (Y2 (YV 0 1) (aB 1)) ((YF d "is_own_answer")) δ' p.2) YW) YE
 else some (Fl.nx δ',p.2))
 (YQ fun δ' p =>
 YP
 (YP
 (xb
 (xb
 (xb (xb (Y3 (aB 1) (YS "each") (YJ 2)) (YF d "is_worded")) YD)
 fun (b:Bool)=>aD !b)
 (fun c =>
 if c=true then aD true
 else
 xb
 (xb (xb (Y2 (YV 1 1) (xb (Y1 (YV 0 1)) (YK bP))) (YF d "is_tuple_of")) YD)
 fun (b:Bool)=>aD !b)
 δ' p.2)
 (YT2 false δ'))
 (YQ fun δ' p =>
 YP
 (YP
 (xb
 (Y1 (aQ
 (xb
 (xb (YV 0 1) fun (u:W) =>
 xb (YV 1 1) fun (w:W) (x:DSt) (h:aA) =>
 match iC u,iC w with
                       | some xs,some ys=>some ((nU xs ys,none),h)
                       | x,x_1=>none)
 fun p δ h=>aX (fT [YG 0,YG 1]) (aD true) (xb (Y2 (aB 0) (aB 1)) (YF d "is_own_answer")) p.2 p.1 p.1 (bJ [none,none] δ) h [])))
 (YK jY) δ' p.2)
 YW)
 YE))))))))
 (ends h):=by kernel_rfl
noncomputable def oJ (d:Nat) (w0:W) (h:aA):aE T (d+1) "is_stand" [w0] h =
 YP
 (YP
 (YP
 (xb (xb (Y2 (aB 0) (xb (Y1 (aD (W.d (PyData.tuple (List.reverse [PyData.int 0,PyData.int 0,PyData.int 0,PyData.int 0,PyData.int 0,PyData.int 0,PyData.int 0,PyData.int 0]))))) (YK bP))) (YF d "is_tuple_of"))
 (fun (w:W) =>
 match w with
     | W.d (PyData.bool true)=>xb (Y1 (aB 0)) (YF d "are_whole")
     | W.d (PyData.bool false)=>aD (W.d (PyData.bool false))
     | x=>xno)
 [some w0] h)
 YW)
 YE)
 (ends h):=by kernel_rfl
noncomputable def sX (d:Nat) (w0 w1 w2:W) (h:aA):aE T (d+1) "with_value" [w0,w1,w2] h =
 YP
 (YP
 (YP
 (xb
 (xb
 (xb (aB 0) fun (x:W) =>
 xb (aD none) fun (l:Option Int) =>
 xb
 (xb (aB 1) YU)
 (YS3 x l))
 fun u=>xb (xb (xPl (Y1 (aB 2))) YT) (YO .Add u))
 (fun (u:W) =>
 xb
 (xb (aB 0) fun (x:W) =>
 xb
 (xb (xb (aB 1) (YB .Add 1)) YU)
 fun (l:Option Int)=>xb (aD none) (YS3 x l))
 (YO .Add u))
 [some w0,some w1,some w2] h)
 YW)
 YE)
 (ends h):=by kernel_rfl
noncomputable def oK (d:Nat) (w0 w1:W) (h:aA):aE T (d+1) "done" [w0,w1] h =
 YP
 (YP (aY 2 (YV 1 0) [some w0,some w1,none] h) (YQ fun δ' p =>
 YP
 (YP (xC1 CmpOp.Eq (aB 2) (YS "span") δ' p.2) fun p =>
 if p.1=true then
 YP
 (YP
 (xb
 (xPl
 (Y2 (xb
 (xPl
 (Y2 (YS "all") (xb (aB 0) fun (x:W) =>
 xb
 (xb (YV 1 1) YU)
 fun (l:Option Int) =>
 xb
 (xb (YV 1 2) YU)
 (YS3 x l))))
 YT) (aB 0)))
 (YT) δ' p.2)
 YW)
 YE
 else some (Fl.nx δ',p.2))
 (YQ fun δ' p =>
 YP
 (YP (xC1 CmpOp.Eq (aB 2) (YS "deal") δ' p.2) fun p =>
 if p.1=true then
 YP (YP (xb (Y2 (aB 0) (YV 1 1)) ((YF d "deal_done")) δ' p.2) YW) YE
 else some (Fl.nx δ',p.2))
 (YQ fun δ' p =>
 YP
 (YP (xC1 CmpOp.Eq (aB 2) (YS "look") δ' p.2) fun p =>
 if p.1=true then
 YP (YP (xb (xPl (Y2 (xb (xb (Y2 (aB 0) (YV 1 1)) (YF d "done")) (YI 0)) (aB 0))) (YT) δ' p.2) YW) YE
 else some (Fl.nx δ',p.2))
 (YQ fun δ' p =>
 YP
 (YP (xC1 CmpOp.Eq (aB 2) (YS "lay") δ' p.2) fun p =>
 if p.1=true then
 YP (YP (xb (xPl (Y2 (xb (xPl (Y1 (YS "done"))) YT) (xb (Y2 (aB 0) (YV 1 1)) (YF d "laid")))) (YT) δ' p.2) YW) YE
 else some (Fl.nx δ',p.2))
 (YQ fun δ' p =>
 YP (YP (xb (Y2 (aB 0) (aB 1)) ((YF d "single_done")) δ' p.2) YW) YE))))))
 (ends h):=by kernel_rfl
noncomputable def cM (d:Nat) (w0 w1:W) (h:aA):aE T (d+1) "single_done" [w0,w1] h =
 YP
 (YP (aY 2 (YV 1 0) [some w0,some w1,none,none,none] h) (YQ fun δ' p =>
 YP (aY 3 (YV 1 1) δ' p.2) (YQ fun δ' p =>
 YP (aY 4 (xb (aB 0) fun x=>xb (aB 3) (YX x)) δ' p.2) (YQ fun δ' p =>
 YP
 (YP (xC1 CmpOp.Eq (aB 2) (YS "write") δ' p.2) fun p =>
 if p.1=true then
 YP (YP (xb (xPl (Y2 (xb (xPl (Y1 (YS "done"))) YT) (xb (Y3 (aB 0) (aB 3) (YV 1 2)) (YF d "with_value")))) (YT) δ' p.2) YW) YE
 else some (Fl.nx δ',p.2))
 (YQ fun δ' p =>
 YP
 (YP (xC1 CmpOp.Eq (aB 2) (YS "add") δ' p.2) fun p =>
 if p.1=true then
 YP (YP (xb (xPl (Y2 (xb (xPl (Y2 (YS "got") (xb (aB 4) fun u=>xb (YV 1 2) (YO .Add u)))) YT) (xb (Y3 (aB 0) (aB 3) (xb (aB 4) fun u=>xb (YV 1 2) (YO .Add u))) (YF d "with_value")))) (YT) δ' p.2) YW) YE
 else some (Fl.nx δ',p.2))
 (YQ fun δ' p =>
 YP
 (YP (xb (xC1 CmpOp.Eq (aB 2) (YS "swap")) (fun c=>if c=true then xC1 CmpOp.Eq (aB 4) (YV 1 2) else aD false) δ' p.2) fun p =>
 if p.1=true then
 YP (YP (xb (xPl (Y2 (xb (xPl (Y1 (YS "yes"))) YT) (xb (Y3 (aB 0) (aB 3) (YV 1 3)) (YF d "with_value")))) (YT) δ' p.2) YW) YE
 else some (Fl.nx δ',p.2))
 (YQ fun δ' p =>
 YP
 (YP (xC1 CmpOp.Eq (aB 2) (YS "swap") δ' p.2) fun p =>
 if p.1=true then
 YP (YP (xb (xPl (Y2 (xb (xPl (Y1 (YS "no"))) YT) (aB 0))) (YT) δ' p.2) YW) YE
 else some (Fl.nx δ',p.2))
 (YQ fun δ' p =>
 YP (YP (xb (xPl (Y2 (xb (xPl (Y2 (YS "got") (aB 4))) YT) (aB 0))) (YT) δ' p.2) YW) YE))))))))
 (ends h):=by kernel_rfl
noncomputable def vS (d:Nat) (w0 w1:W) (h:aA):aE T (d+1) "deal_done" [w0,w1] h =
 YP
 (YP (aY 2 (aV (xPl (aD []))) [some w0,some w1,none,none,none] h) (YQ fun δ' p =>
 YP
 (YP (cK (aB 1) δ' p.2) fun (p:(List PyData×Option Nat)×aA) =>
 dH (YG 3)
 (fun (x:DSt) (x_1:aA) =>
 YP (aY 4 (xb (Y2 (aB 0) (aB 3)) (YF d "single_done")) x x_1) (YQ fun δ' p =>
 YP
 (YP
 (xb (aB 2)
 ((YA (Y1 (YV 4 0))))
 δ' p.2)
 fun p=>some (Fl.nx δ',p.2))
 (YQ fun δ' p =>
 YP (aY 0 (YV 4 1) δ' p.2) YE)))
 (Prod.snd p.1) (Prod.fst p.1) (Prod.fst p.1) δ' p.2)
 (YQ fun δ' p =>
 YP (YP (xb (xPl (Y2 (xb (xPl (Y2 (YS "each") (xb (Y1 (aB 2)) (YK bU)))) YT) (aB 0))) (YT) δ' p.2) YW) YE)))
 (ends h):=by kernel_rfl
noncomputable def cM4 (d:Nat) (w0 w1:W) (h:aA):aE T (d+1) "laid" [w0,w1] h =
 YP
 (YP
 (YP (cK (aB 1) [some w0,some w1,none,none] h) fun (p:(List PyData×Option Nat)×aA) =>
 dH (fT [YG 2,YG 3])
 (fun (x:DSt) (x_1:aA) =>
 YP (aY 0 (xb (Y3 (aB 0) (aB 2) (aB 3)) (YF d "with_value")) x x_1) YE)
 (Prod.snd p.1) (Prod.fst p.1) (Prod.fst p.1) [some w0,some w1,none,none] p.2)
 (YQ fun δ' p =>
 YP (YP (aB 0 δ' p.2) YW) YE))
 (ends h):=by kernel_rfl
noncomputable def eV (d:Nat) (w0:W) (h:aA):aE T (d+1) "is_item" [w0] h =
 YP
 (YP
 (YP
 (xb
 (xb
 (xb (xb (Y2 (aB 0) (YJ 3)) (YF d "is_tuple_of")) YD)
 fun (b:Bool)=>aD !b)
 (fun c =>
 if c=true then aD true
 else
 xb
 (xb (xb (Y1 (YV 0 0)) (YF d "is_step")) YD)
 fun (b:Bool)=>aD !b)
 [some w0] h)
 (YT2 false [some w0]))
 (YQ fun δ' p =>
 YP
 (YP
 (xb (xC1 CmpOp.IsNot (YV 0 1) (YZ))
 (fun c =>
 if c=true then
 xb
 (xb (xb (Y2 (YV 0 0) (YV 0 1)) (YF d "is_answer")) YD)
 fun (b:Bool)=>aD !b
 else aD false)
 δ' p.2)
 (YT2 false δ'))
 (YQ fun δ' p =>
 YP
 (YP
 (xb (xb (YV 0 2) (YI2 "str"))
 (fun (w:W) =>
 match w with
         | W.d (PyData.bool true)=>cJ (xC1 CmpOp.In (YV 0 2) (aD (W.d (PyData.tuple (List.reverse [PyData.str (Str.ofString "out"),PyData.str (Str.ofString "may"),PyData.str (Str.ofString "must")])))))
         | W.d (PyData.bool false)=>aD (W.d (PyData.bool false))
         | x=>xno)
 δ' p.2)
 YW)
 YE)))
 (ends h):=by kernel_rfl
noncomputable def fL (d:Nat) (w0:W) (h:aA):aE T (d+1) "are_items" [w0] h =
 YP
 (YP
 (YP
 (xb (xb (aB 0) (YI2 "tuple"))
 (fun (w:W) =>
 match w with
     | W.d (PyData.bool true) =>
      xb (cJ (xC1 CmpOp.LtE (xb (Y1 (aB 0)) (YK bP)) (YJ 120))) fun (w:W) =>
 match w with
       | W.d (PyData.bool true)=>xb (Y1 (aQ (xb (cK (aB 0)) fun p δ h=>aX (YG 0) (aD true) (xb (Y1 (aB 0)) (YF d "is_item")) p.2 p.1 p.1 (bJ [none] δ) h []))) (YK jY)
       | W.d (PyData.bool false)=>aD (W.d (PyData.bool false))
       | x=>xno
     | W.d (PyData.bool false)=>aD (W.d (PyData.bool false))
     | x=>xno)
 [some w0] h)
 YW)
 YE)
 (ends h):=by kernel_rfl
noncomputable def jC (d:Nat) (w0 w1:W) (h:aA):aE T (d+1) "are_numbers" [w0,w1] h =
 YP
 (YP (YP (xb (Y1 (aQ (xb (cK (aB 0)) fun p δ h=>aX (YG 0) (aD true) (xb (Y3 (aB 0) (YJ 0) (xb (aB 1) (YB .Sub 1))) (YF d "is_between")) p.2 p.1 p.1 (bJ [none,some 1] δ) h []))) (YK jY) [some w0,some w1] h) YW) YE)
 (ends h):=by kernel_rfl
noncomputable def eO (d:Nat) (w0 w1 w2:W) (h:aA):aE T (d+1) "are_unlike" [w0,w1,w2] h =
 YP
 (YP
 (YP
 (xb (xb (Y2 (aB 0) (aB 1)) (YF d "is_tuple_of"))
 (fun (w:W) =>
 match w with
     | W.d (PyData.bool true) =>
      xb (xb (Y2 (aB 0) (aB 2)) (YF d "are_numbers")) fun (w:W) =>
 match w with
       | W.d (PyData.bool true)=>cJ (xC1 CmpOp.Eq (xb (Y1 (aB 0)) fun (ws:List W) (x:DSt) (h:aA)=>xLS ws h) (aB 1))
       | W.d (PyData.bool false)=>aD (W.d (PyData.bool false))
       | x=>xno
     | W.d (PyData.bool false)=>aD (W.d (PyData.bool false))
     | x=>xno)
 [some w0,some w1,some w2] h)
 YW)
 YE)
 (ends h):=by kernel_rfl
noncomputable def lV (d:Nat) (w0 w1:W) (h:aA):aE T (d+1) "are_pairs" [w0,w1] h =
 YP
 (YP
 (YP
 (xb
 (xb
 (xb (xb (aB 0) (YI2 "tuple")) YD)
 fun (b:Bool)=>aD !b)
 (fun c=>if c=true then aD true else xC1 CmpOp.Gt (xb (Y1 (aB 0)) (YK bP)) (YJ 4000)) [some w0,some w1] h)
 (YT2 false [some w0,some w1]))
 (YQ fun δ' p =>
 YP (YP (xb (Y1 (aQ (xb (cK (aB 0)) fun p δ h=>aX (YG 0) (aD true) (xb (Y3 (aB 0) (YJ 2) (aB 1)) (YF d "are_unlike")) p.2 p.1 p.1 (bJ [none,some 1] δ) h []))) (YK jY) δ' p.2) YW) YE))
 (ends h):=by kernel_rfl
noncomputable def dS (d:Nat) (w0 w1:W) (h:aA):aE T (d+1) "are_triples" [w0,w1] h =
 YP
 (YP
 (YP
 (xb
 (xb
 (xb (xb (aB 0) (YI2 "tuple")) YD)
 fun (b:Bool)=>aD !b)
 (fun c=>if c=true then aD true else xC1 CmpOp.Gt (xb (Y1 (aB 0)) (YK bP)) (YJ 4000)) [some w0,some w1] h)
 (YT2 false [some w0,some w1]))
 (YQ fun δ' p =>
 YP
 (YP
 (xb
 (xb (xb (Y1 (aQ (xb (cK (aB 0)) fun p δ h=>aX (YG 0) (aD true) (xb (Y3 (aB 0) (YJ 3) (xb (Y1 (aB 1)) (YK bP))) (YF d "are_unlike")) p.2 p.1 p.1 (bJ [none,some 1] δ) h []))) (YK jY)) YD)
 (fun (b:Bool)=>aD !b) δ' p.2)
 (YT2 false δ'))
 (YQ fun δ' p =>
 YP
 (YP
 (xb
 (Y1 (aQ
 (xb (cK (aB 0)) fun p δ h =>
 aX (fT [YG 0,YG 1,YG 2]) (aD true)
 (xb (cJ (xC1 CmpOp.Eq (xb (xb (aB 3) fun x=>xb (aB 0) (YX x)) (YI 2)) (YS "must"))) fun (w:W) =>
 match w with
             | W.d (PyData.bool true)=>cJ (xC1 CmpOp.Eq (xb (xb (aB 3) fun x=>xb (aB 1) (YX x)) (YI 2)) (YS "must"))
             | W.d (PyData.bool false)=>aD (W.d (PyData.bool false))
             | x=>xno)
 p.2 p.1 p.1 (bJ [none,none,none,some 1] δ) h [])))
 (YK jY) δ' p.2)
 YW)
 YE)))
 (ends h):=by kernel_rfl
noncomputable def cE (d:Nat) (w0:W) (h:aA):aE T (d+1) "is_problem" [w0] h =
 YP
 (YP
 (YP
 (xb
 (xb
 (xb (xb (Y2 (aB 0) (YJ 4)) (YF d "is_tuple_of")) YD)
 fun (b:Bool)=>aD !b)
 (fun c =>
 if c=true then aD true
 else
 xb
 (xb
 (xb (xb (Y1 (YV 0 0)) (YF d "is_stand")) YD)
 fun (b:Bool)=>aD !b)
 fun c =>
 if c=true then aD true
 else
 xb
 (xb (xb (Y1 (YV 0 1)) (YF d "are_items")) YD)
 fun (b:Bool)=>aD !b)
 [some w0] h)
 (YT2 false [some w0]))
 (YQ fun δ' p =>
 YP
 (YP
 (xb (xb (Y2 (YV 0 2) (xb (Y1 (YV 0 1)) (YK bP))) (YF d "are_pairs"))
 (fun (w:W) =>
 match w with
       | W.d (PyData.bool true)=>xb (Y2 (YV 0 3) (YV 0 1)) (YF d "are_triples")
       | W.d (PyData.bool false)=>aD (W.d (PyData.bool false))
       | x=>xno)
 δ' p.2)
 YW)
 YE))
 (ends h):=by kernel_rfl
noncomputable def aX8 (d:Nat) (w0:W) (h:aA):aE T (d+1) "marked" [w0] h =
 YP
 (YP (YP (xb (Y1 (aQ (xb (cK (aB 0)) fun p δ h=>aX (YG 0) (aD true) (xb (xPl (Y2 (aB 0) (aD (W.d (PyData.bool true))))) YT) p.2 p.1 p.1 (bJ [none] δ) h []))) (YK kT) [some w0] h) YW) YE)
 (ends h):=by kernel_rfl
noncomputable def mI (d:Nat) (w0:W) (h:aA):aE T (d+1) "check_problem" [w0] h =
 YP
 (YP
 (YP
 (xb
 (xb (xb (Y1 (aB 0)) (YF d "is_problem")) YD)
 (fun (b:Bool)=>aD !b) [some w0] h)
 fun p =>
 if p.1=true then
 YP none YE
 else some (Fl.nx [some w0],p.2))
 YE)
 (ends h):=by kernel_rfl
noncomputable def bM8 (d:Nat) (w0 w1:W) (h:aA):aE T (d+1) "aside" [w0,w1] h =
 YP
 (YP (YP (xb (Y1 (aB 0)) ((YF d "check_problem")) [some w0,some w1] h) fun p=>some (Fl.nx [some w0,some w1],p.2)) (YQ fun δ' p =>
 YP (YP (xb (Y2 (aB 0) (aB 1)) ((YF d "with_aside")) δ' p.2) YW) YE))
 (ends h):=by kernel_rfl
noncomputable def sY (d:Nat) (w0 w1:W) (h:aA):aE T (d+1) "with_aside" [w0,w1] h =
 YP
 (YP (aY 2 (xb (Y1 (aB 1)) (YF d "marked")) [some w0,some w1,none,none,none] h) (YQ fun δ' p =>
 YP
 (aY 3
 (aQ
 (xb
 (xb (YV 0 1) fun (u:W) (x:DSt) (h:aA) =>
 match iC u with
        | some xs=>some ((nW xs,none),h)
        | none=>none)
 fun p δ h=>aX (fT [YG 0,YG 1]) (aD true) (xb (xC1 CmpOp.In (aB 0) (aB 2)) fun (t:Bool)=>if t=true then xb (Y1 (aB 1)) (YF d "set_aside") else aB 1) p.2 p.1 p.1 (bJ [none,none,some 2] δ) h []))
 δ' p.2)
 (YQ fun δ' p =>
 YP (aY 4 (aQ (xb (cK (YV 0 3)) fun p δ h=>aX (YG 0) (xb (xC1 CmpOp.NotIn (YV 0 0) (aB 1)) fun c=>if c=true then xC1 CmpOp.NotIn (YV 0 1) (aB 1) else aD false) (aB 0) p.2 p.1 p.1 (bJ [none,some 2] δ) h [])) δ' p.2) (YQ fun δ' p =>
 YP (YP (xb (xPl (Y4 (YV 0 0) (xb (Y1 (aB 3)) (YK bU)) (YV 0 2) (xb (Y1 (aB 4)) (YK bU)))) (YT) δ' p.2) YW) YE))))
 (ends h):=by kernel_rfl
noncomputable def lW (d:Nat) (w0:W) (h:aA):aE T (d+1) "set_aside" [w0] h =
 YP
 (YP (YP (xb (xC1 CmpOp.Eq (YV 0 2) (YS "out")) (fun (t:Bool)=>if t=true then aB 0 else xb (xPl (Y3 (YV 0 0) (YZ) (YS "may"))) YT) [some w0] h) YW) YE)
 (ends h):=by kernel_rfl
noncomputable def iI (d:Nat) (w0 w1:W) (h:aA):aE T (d+1) "_law_cell_at" [w0,w1] h =
 YP
 (YP
 (YP (xC1 CmpOp.Lt (aB 1) (xb (Y1 (aB 0)) (YK bP)) [some w0,some w1] h) fun p =>
 if p.1=true then
 YP (YP (xb (aB 0) (fun x=>xb (aB 1) (YX x)) [some w0,some w1] p.2) YW) YE
 else some (Fl.nx [some w0,some w1],p.2))
 (YQ fun δ' p =>
 YP (YP (YJ 0 δ' p.2) YW) YE))
 (ends h):=by kernel_rfl
noncomputable def sZ (d:Nat) (w0:W) (h:aA):aE T (d+1) "_law_mixed" [w0] h =
 YP
 (YP (aY 0 (xb (xb (xb (xb (aB 0) (YB .Mod 2147483647)) (YB .Add 1)) (YB .Mult 48271)) (YB .Mod 2147483647)) [some w0] h) (YQ fun δ' p =>
 YP (aY 0 (xb (xb (aB 0) fun u=>xb (xb (xb (aB 0) (YB .FloorDiv 1009)) (YB .Add 69621)) (YO .Mult u)) (YB .Mod 2147483647)) δ' p.2) (YQ fun δ' p =>
 YP (YP (xb (xb (xb (aB 0) (YB .Add 1)) fun u=>xb (xb (xb (aB 0) (YB .FloorDiv 757)) (YB .Add 16807)) (YO .Mult u)) ((YB .Mod 2147483629)) δ' p.2) YW) YE)))
 (ends h):=by kernel_rfl
noncomputable def gM (d:Nat) (w0 w1:W) (h:aA):aE T (d+1) "_law_digit" [w0,w1] h =
 YP
 (YP
 (YP (xb (xC1 CmpOp.Eq (YV 0 1) (YJ 0)) (fun c=>if c=true then xC1 CmpOp.Gt (YV 0 0) (YJ 0) else aD false) [some w0,some w1,none] h) fun p =>
 if p.1=true then
 YP (aY 2 (xb (YV 0 0) fun u=>xb (aB 1) (YO .Mod u)) [some w0,some w1,none] p.2) (YQ fun δ' p =>
 YP
 (YP (xb (YV 0 0) (fun u=>xb (aB 1) (YO .FloorDiv u)) δ' p.2) fun p =>
 YP
 (YP (aB 0 δ' p.2) fun (p_1:W×aA) =>
 YP (YJ 0 δ' (p_1.2)) fun (q:W×aA) =>
 match p_1.1,q.1,p.1 with
           | W.c j,W.d y,W.d x =>
            match (q.2)[j]?,y with
            | some (Cell.l xs),PyData.int k=>Option.map (fun (n:Nat)=>(δ',List.set (q.2) j (Cell.l (List.set xs n x)))) (L2.ixN (List.length xs) k)
            | some (Cell.k kvs),x_1=>if Option.isSome (bO y)=true/\List.length kvs < sizeLine then some (δ',List.set (q.2) j (Cell.k (mD kvs y x))) else none
            | x,x_1=>none
           | x,x_1,x_2=>none)
 fun (q:DSt×aA)=>some (Fl.nx (q.1),q.2))
 (YQ fun δ' p =>
 YP (YP (aB 2 δ' p.2) YW) YE))
 else some (Fl.nx [some w0,some w1,none],p.2))
 (YQ fun δ' p =>
 YP
 (YP (xb (Y1 (xb (YV 0 2) (YB .Add 1))) ((YF d "_law_mixed")) δ' p.2) fun p =>
 YP
 (YP (aB 0 δ' p.2) fun (p_1:W×aA) =>
 YP (YJ 2 δ' (p_1.2)) fun (q:W×aA) =>
 match p_1.1,q.1,p.1 with
        | W.c j,W.d y,W.d x =>
         match (q.2)[j]?,y with
         | some (Cell.l xs),PyData.int k=>Option.map (fun (n:Nat)=>(δ',List.set (q.2) j (Cell.l (List.set xs n x)))) (L2.ixN (List.length xs) k)
         | some (Cell.k kvs),x_1=>if Option.isSome (bO y)=true/\List.length kvs < sizeLine then some (δ',List.set (q.2) j (Cell.k (mD kvs y x))) else none
         | x,x_1=>none
        | x,x_1,x_2=>none)
 fun (q:DSt×aA)=>some (Fl.nx (q.1),q.2))
 (YQ fun δ' p =>
 YP (YP (xb (xb (YV 0 2) (YB .FloorDiv 7)) (fun u=>xb (aB 1) (YO .Mod u)) δ' p.2) YW) YE)))
 (ends h):=by kernel_rfl
noncomputable def eQ (d:Nat) (w0:W) (h:aA):aE T (d+1) "_law_plain" [w0] h =
 YP
 (YP (aY 1 (xb (Y2 (aB 0) (YJ 2)) (YF d "_law_digit")) [some w0,none,none,none] h) (YQ fun δ' p =>
 YP (aY 2 (xb (Y2 (aB 0) (YJ 4)) (YF d "_law_digit")) δ' p.2) (YQ fun δ' p =>
 YP (aY 3 (aQ (xPl (Y4 (xb (xPl (Y2 (YS "read") (aB 1))) YT) (xb (xPl (Y3 (YS "write") (aB 1) (aB 2))) YT) (xb (xPl (Y3 (YS "add") (aB 1) (YJ 1))) YT) (xb (xPl (Y4 (YS "swap") (aB 1) (aB 2) (xb (Y2 (aB 0) (YJ 4)) (YF d "_law_digit")))) YT)))) δ' p.2) (YQ fun δ' p =>
 YP (YP (xb (aB 3) (fun x=>xb (xb (Y2 (aB 0) (YJ 4)) (YF d "_law_digit")) (YX x)) δ' p.2) YW) YE))))
 (ends h):=by kernel_rfl
noncomputable def cW (d:Nat) (w0:W) (h:aA):aE T (d+1) "_law_step" [w0] h =
 YP
 (YP (aY 1 (xb (Y2 (aB 0) (YJ 9)) (YF d "_law_digit")) [some w0,none] h) (YQ fun δ' p =>
 YP
 (YP (xC1 CmpOp.Eq (aB 1) (YJ 0) δ' p.2) fun p =>
 if p.1=true then
 YP (YP (xb (xPl (Y3 (YS "span") (YJ 0) (xb (YJ 1) fun u=>xb (xb (Y2 (aB 0) (YJ 3)) (YF d "_law_digit")) (YO .Add u)))) (YT) δ' p.2) YW) YE
 else some (Fl.nx δ',p.2))
 (YQ fun δ' p =>
 YP
 (YP (xC1 CmpOp.Eq (aB 1) (YJ 1) δ' p.2) fun p =>
 if p.1=true then
 YP
 (YP
 (xb
 (xPl
 (Y2 (YS "deal") (xb
 (Y1 (aQ
 (xb
 (xb (xb (YJ 1) fun u=>xb (xb (Y2 (aB 0) (YJ 3)) (YF d "_law_digit")) (YO .Add u)) YR)
 fun p δ h=>aX (YG 0) (aD true) (xb (Y1 (aB 1)) (YF d "_law_plain")) p.2 p.1 p.1 (bJ [none,some 0] δ) h [])))
 (YK bU))))
 (YT) δ' p.2)
 YW)
 YE
 else some (Fl.nx δ',p.2))
 (YQ fun δ' p =>
 YP
 (YP (xC1 CmpOp.Eq (aB 1) (YJ 2) δ' p.2) fun p =>
 if p.1=true then
 YP (YP (xb (xPl (Y2 (YS "look") (xb (Y1 (aB 0)) (YF d "_law_plain")))) (YT) δ' p.2) YW) YE
 else some (Fl.nx δ',p.2))
 (YQ fun δ' p =>
 YP
 (YP (xC1 CmpOp.Eq (aB 1) (YJ 3) δ' p.2) fun p =>
 if p.1=true then
 YP
 (YP
 (xb
 (xPl
 (Y2 (YS "lay") (xb (xb (xPl (Y2 (xb (xPl (Y2 (xb (Y2 (aB 0) (YJ 2)) (YF d "_law_digit")) (xb (Y2 (aB 0) (YJ 4)) (YF d "_law_digit")))) YT) (xb (xPl (Y2 (YJ 2) (YJ 1))) YT))) YT) fun (x:W) =>
 xb (aD none) fun (l:Option Int) =>
 xb
 (xb (xb (YJ 1) fun u=>xb (xb (Y2 (aB 0) (YJ 2)) (YF d "_law_digit")) (YO .Add u)) YU)
 (YS3 x l))))
 (YT) δ' p.2)
 YW)
 YE
 else some (Fl.nx δ',p.2))
 (YQ fun δ' p =>
 YP (YP (xb (Y1 (aB 0)) ((YF d "_law_plain")) δ' p.2) YW) YE))))))
 (ends h):=by kernel_rfl
noncomputable def tE (d:Nat) (w0 w1:W) (h:aA):aE T (d+1) "_law_items" [w0,w1] h =
 YP
 (YP
 (aY 2
 (xb
 (Y1 (aQ
 (xb
 (xb (YJ 8) YR)
 fun p δ h=>aX (YG 0) (aD true) (xb (Y2 (aB 1) (YJ 3)) (YF d "_law_digit")) p.2 p.1 p.1 (bJ [none,some 1] δ) h [])))
 (YK bU))
 [some w0,some w1,none,none,none,none,none,none,none,none,none,none,none] h)
 (YQ fun δ' p =>
 YP (aY 3 (aV (xPl (aD []))) δ' p.2) (YQ fun δ' p =>
 YP (aY 4 (aB 2) δ' p.2) (YQ fun δ' p =>
 YP (aY 5 (xb (Y2 (aB 1) (YJ 10)) (YF d "_law_digit")) δ' p.2) (YQ fun δ' p =>
 YP
 (YP (xC1 CmpOp.Eq (xb (xb (Y2 (aB 0) (YJ 2)) (YF d "_law_cell_at")) (YB .Mod 8)) (YJ 7) δ' p.2) fun p =>
 if p.1=true then
 YP (aY 5 (xb (YJ 10) fun u=>xb (xb (Y2 (aB 1) (YJ 51)) (YF d "_law_digit")) (YO .Add u)) δ' p.2) YE
 else some (Fl.nx δ',p.2))
 (YQ fun δ' p =>
 YP
 (YP
 (xb (aB 5)
 (YR)
 δ' p.2)
 fun (p:(List PyData×Option Nat)×aA) =>
 dH (YG 6)
 (fun (x:DSt) (x_1:aA) =>
 YP (aY 7 (xb (Y2 (aB 0) (xb (YJ 3) fun u=>xb (aB 6) (YO .Add u))) (YF d "_law_cell_at")) x x_1) (YQ fun δ' p =>
 YP (aY 8 (aV (xPl (Y3 (xb (aB 7) (YB .FloorDiv 2)) (xb (aB 7) (YB .Mod 2)) (xb (aB 7) fun u=>xb (xb (YJ 97) fun u=>xb (aB 6) (YO .Mult u)) (YO .Add u))))) δ' p.2) (YQ fun δ' p =>
 YP (aY 9 (xb (Y1 (aB 8)) (YF d "_law_step")) δ' p.2) (YQ fun δ' p =>
 YP (YP (xb (Y2 (aB 4) (aB 9)) ((YF d "done")) δ' p.2) fun p=>YP (fT [YG 10,YG 4] p.1 δ' p.2) fun (q:DSt×aA)=>some (Fl.nx (q.1),q.2)) (YQ fun δ' p =>
 YP
 (YP (xC1 CmpOp.Eq (YV 10 0) (YS "got") δ' p.2) fun p =>
 if p.1=true then
 YP (aY 10 (xb (xPl (Y2 (YS "got") (xb (YV 10 1) fun u=>xb (xb (xb (Y2 (aB 8) (YJ 4)) (YF d "_law_digit")) (YB .FloorDiv 3)) (YO .Add u)))) YT) δ' p.2) YE
 else some (Fl.nx δ',p.2))
 (YQ fun δ' p =>
 YP (aY 11 (xb (aQ (xPl (Y6 (YS "must") (YS "must") (YS "must") (YS "must") (YS "may") (YS "out")))) fun x=>xb (xb (Y2 (aB 8) (YJ 6)) (YF d "_law_digit")) (YX x)) δ' p.2) (YQ fun δ' p =>
 YP
 (YP
 (xb (aB 3)
 ((YA (Y1 (xb (xPl (Y3 (aB 9) (xb (aQ (xPl (Y3 (aB 10) (aB 10) (YZ)))) fun x=>xb (xb (Y2 (aB 8) (YJ 3)) (YF d "_law_digit")) (YX x)) (aB 11))) YT))))
 δ' p.2)
 fun p=>some (Fl.nx δ',p.2))
 YE)))))))
 (Prod.snd p.1) (Prod.fst p.1) (Prod.fst p.1) δ' p.2)
 (YQ fun δ' p =>
 YP (aY 12 (aV (xPl (aD []))) δ' p.2) (YQ fun δ' p =>
 YP
 (dN (xC1 CmpOp.NotEq (aB 3) (aQ (xPl (aD []))))
 (fun (x:DSt) (x_1:aA) =>
 YP
 (YP
 (xb (aB 12)
 (fun (w:W) (δ:DSt) (h:aA) =>
 if gF (Str.ofString "append") w h=true then
 YP
 (Y1 (xb (aB 3) fun (w:W) (δ:DSt) (h:aA) =>
 match w with
                          | W.c j =>
                           match h[j]? with
                           | some (Cell.l xs)=>YP (Y1 (xb (Y2 (aB 1) (xb (Y1 (aB 3)) (YK bP))) (YF d "_law_digit")) δ h) fun (p:List W×aA)=>uZ j p.1 p.2
                           | x=>none
                          | x=>none) δ h)
 fun (p:List W×aA) =>
 match w,p.1 with
                        | W.c j,[W.d x] =>
                         match p.2[j]? with
                         | some (Cell.l xs)=>if List.length xs < sizeLine then some (W.d PyData.none,List.set p.2 j (Cell.l (xs++[x]))) else none
                         | x=>none
                        | x,x_2=>none
 else none)
 x x_1)
 fun p=>some (Fl.nx x,p.2))
 YE)
 1000 δ' p.2)
 (YQ fun δ' p =>
 YP (YP (xb (xPl (Y2 (aB 2) (xb (Y1 (aB 12)) (YK bU)))) (YT) δ' p.2) YW) YE)))))))))
 (ends h):=by kernel_rfl
noncomputable def vT (d:Nat) (w0 w1 w2:W) (h:aA):aE T (d+1) "_law_ties" [w0,w1,w2] h =
 YP
 (YP
 (aY 4
 (aQ
 (xb
 (xb (xb (Y1 (aB 0)) (YK bP)) YR)
 fun p δ h=>aX (YG 0) (xC1 CmpOp.Eq (xb (xb (aB 1) fun x=>xb (aB 0) (YX x)) (YI 2)) (YS "must")) (aB 0) p.2 p.1 p.1 (bJ [none,some 0] δ) h []))
 [some w0,some w1,some w2,none,none,none,none,none,none] h)
 (YQ fun δ' p =>
 YP (aY 5 (aV (xPl (aD []))) δ' p.2) (YQ fun δ' p =>
 YP
 (YP
 (xb (xb (Y2 (aB 1) (YJ 9)) (YF d "_law_digit"))
 (YR)
 δ' p.2)
 fun (p:(List PyData×Option Nat)×aA) =>
 dH (YG 6)
 (fun (x:DSt) (x_1:aA) =>
 YP
 (YP (xb (xC1 CmpOp.Eq (aB 2) (YJ 2)) (fun c=>if c=true then xC1 CmpOp.Gt (xb (Y1 (aB 0)) (YK bP)) (YJ 1) else aD false) x x_1) fun p =>
 if p.1=true then
 YP (aY 3 (xb (Y2 (aB 1) (xb (Y1 (aB 0)) (YK bP))) (YF d "_law_digit")) x p.2) (YQ fun δ' p =>
 YP
 (YP
 (xb (aB 5)
 ((YA (Y1 (xb (xPl (Y2 (aB 3) (xb (xb (xb (aB 3) (YB .Add 1)) fun u=>xb (xb (Y2 (aB 1) (xb (xb (Y1 (aB 0)) (YK bP)) (YB .Sub 1))) (YF d "_law_digit")) (YO .Add u)) fun u=>xb (xb (Y1 (aB 0)) (YK bP)) (YO .Mod u)))) YT))))
 δ' p.2)
 fun p=>some (Fl.nx δ',p.2))
 YE)
 else some (Fl.nx x,p.2))
 (YQ fun δ' p =>
 YP
 (YP (xb (xC1 CmpOp.Eq (aB 2) (YJ 3)) (fun c=>if c=true then xb (xC1 CmpOp.Gt (xb (Y1 (aB 4)) (YK bP)) (YJ 1)) fun c=>if c=true then xC1 CmpOp.Gt (xb (Y1 (aB 0)) (YK bP)) (YJ 2) else aD false else aD false) δ' p.2) fun p =>
 if p.1=true then
 YP (aY 3 (xb (Y2 (aB 1) (xb (Y1 (aB 4)) (YK bP))) (YF d "_law_digit")) δ' p.2) (YQ fun δ' p =>
 YP (aY 7 (xb (xb (xb (aB 3) (YB .Add 1)) fun u=>xb (xb (Y2 (aB 1) (xb (xb (Y1 (aB 4)) (YK bP)) (YB .Sub 1))) (YF d "_law_digit")) (YO .Add u)) fun u=>xb (xb (Y1 (aB 4)) (YK bP)) (YO .Mod u)) δ' p.2) (YQ fun δ' p =>
 YP
 (aY 8
 (aQ
 (xb
 (xb (xb (Y1 (aB 0)) (YK bP)) YR)
 fun p δ h=>aX (YG 0) (xC1 CmpOp.NotIn (aB 0) (xb (xPl (Y2 (xb (aB 1) fun x=>xb (aB 2) (YX x)) (xb (aB 1) fun x=>xb (aB 3) (YX x)))) YT)) (aB 0) p.2 p.1 p.1 (bJ [none,some 4,some 3,some 7] δ) h []))
 δ' p.2)
 (YQ fun δ' p =>
 YP
 (YP
 (xb (aB 5)
 ((YA (Y1 (xb (xPl (Y3 (xb (aB 4) fun x=>xb (aB 3) (YX x)) (xb (aB 4) fun x=>xb (aB 7) (YX x)) (xb (aB 8) fun x=>xb (xb (Y2 (aB 1) (xb (Y1 (aB 8)) (YK bP))) (YF d "_law_digit")) (YX x)))) YT))))
 δ' p.2)
 fun p=>some (Fl.nx δ',p.2))
 YE)))
 else some (Fl.nx δ',p.2))
 YE))
 (Prod.snd p.1) (Prod.fst p.1) (Prod.fst p.1) δ' p.2)
 (YQ fun δ' p =>
 YP (YP (xb (Y1 (aB 5)) (YK bU) δ' p.2) YW) YE))))
 (ends h):=by kernel_rfl
noncomputable def yD (d:Nat) (w0 w1:W) (h:aA):aE T (d+1) "_law_due" [w0,w1] h =
 YP
 (YP (aY 2 (aV (xPl (aD []))) [some w0,some w1,none,none,none,none,none,none,none,none] h) (YQ fun δ' p =>
 YP
 (YP
 (xb (xb (Y1 (YV 0 1)) (YK bP))
 (YR)
 δ' p.2)
 fun (p:(List PyData×Option Nat)×aA) =>
 dH (YG 3)
 (fun (x:DSt) (x_1:aA) =>
 YP (YP (xb (YV 0 1) (fun x=>xb (aB 3) (YX x)) x x_1) fun p=>YP (fT [YG 4,YG 5,YG 6] p.1 x p.2) fun (q:DSt×aA)=>some (Fl.nx (q.1),q.2)) (YQ fun δ' p =>
 YP
 (YP
 (xb (aB 2)
 ((YA (Y1 (xb (aQ (xPl (Y2 (xb (xPl (Y3 (aB 4) (aB 5) (aB 6))) YT) (xb (xPl (Y3 (aB 4) (YZ) (YS "may"))) YT)))) fun (x:W) =>
 xb
 (xb
 (Y1 (xb (cJ (xC1 CmpOp.In (aB 3) (aB 1))) fun (w:W) =>
 match w with
                     | W.d (PyData.bool true)=>cJ (xC1 CmpOp.NotEq (aB 6) (YS "out"))
                     | W.d (PyData.bool false)=>aD (W.d (PyData.bool false))
                     | x=>xno))
 fun (ws:List W) (x:DSt) (h:aA)=>xQ ws h)
 (YX x)))))
 δ' p.2)
 fun p=>some (Fl.nx δ',p.2))
 YE))
 (Prod.snd p.1) (Prod.fst p.1) (Prod.fst p.1) δ' p.2)
 (YQ fun δ' p =>
 YP (aY 7 (aV (xPl (aD []))) δ' p.2) (YQ fun δ' p =>
 YP
 (YP (cK (YV 0 3) δ' p.2) fun (p:(List PyData×Option Nat)×aA) =>
 dH (fT [YG 3,YG 8,YG 9])
 (fun (x:DSt) (x_1:aA) =>
 YP
 (YP (xb (xC1 CmpOp.NotIn (aB 3) (aB 1)) (fun c=>if c=true then xC1 CmpOp.NotIn (aB 8) (aB 1) else aD false) x x_1) fun p =>
 if p.1=true then
 YP
 (YP
 (xb (aB 7)
 ((YA (Y1 (xb (xPl (Y3 (aB 3) (aB 8) (aB 9))) YT))))
 x p.2)
 fun p=>some (Fl.nx x,p.2))
 YE
 else some (Fl.nx x,p.2))
 YE)
 (Prod.snd p.1) (Prod.fst p.1) (Prod.fst p.1) δ' p.2)
 (YQ fun δ' p =>
 YP (YP (xb (xPl (Y4 (YV 0 0) (xb (Y1 (aB 2)) (YK bU)) (YV 0 2) (xb (Y1 (aB 7)) (YK bU)))) (YT) δ' p.2) YW) YE)))))
 (ends h):=by kernel_rfl
noncomputable def vU (d:Nat) (w0:W) (h:aA):aE T (d+1) "_law_none" [w0] h =
 YP
 (YP (YP (aB 0 [some w0,none,none,none,none,none,none] h) fun p=>YP (fT [YG 1,YG 2,YG 3,YG 4] p.1 [some w0,none,none,none,none,none,none] p.2) fun (q:DSt×aA)=>some (Fl.nx (q.1),q.2)) (YQ fun δ' p =>
 YP
 (aY 5
 (aV
 (xPl
 (Y7 (YZ) (xb (xPl (aD [])) YT) (xb (xPl (Y3 (aB 1) (aB 2) (aB 3))) YT) (aQ
 (xb (Y1 (aB 0)) fun (ws:List W) (x:DSt) (h:aA) =>
 match ws with
                | [w] =>
                 match ref h w with
                 | some (PyData.list xs)=>some (xs,h)
                 | some (PyData.tuple xs)=>some (xs,h)
                 | x=>none
                | x=>none)) (xb
 (xPl
 (Y4 (xb (aB 1) fun (x:W) =>
 xb
 (xb (YJ 1) YU)
 fun (l:Option Int)=>xb (aD none) (YS3 x l)) (aB 2) (aB 3) (aB 4)))
 YT) (YJ 5) (YS "problem"))))
 δ' p.2)
 (YQ fun δ' p =>
 YP
 (aY 5
 (aV
 (xb (aB 5) fun (u:W) =>
 xb
 (aQ
 (xPl
 (Y2 (xb
 (xPl
 (Y4 (aB 1) (aQ
 (xb (Y1 (aB 2)) fun (ws:List W) (x:DSt) (h:aA) =>
 match ws with
                    | [w] =>
                     match ref h w with
                     | some (PyData.list xs)=>some (xs,h)
                     | some (PyData.tuple xs)=>some (xs,h)
                     | x=>none
                    | x=>none)) (aB 3) (aB 4)))
 YT) (xb (xPl (Y4 (aB 1) (aB 2) (aB 3) (YZ))) YT))))
 fun (w:W) (x:DSt) (h:aA) =>
 match ref h u,ref h w with
          | some (PyData.list xs),some (PyData.list ys)=>if List.length xs+List.length ys<=sizeLine then some (xs++ys,h) else none
          | x,x_1=>none))
 δ' p.2)
 (YQ fun δ' p =>
 YP
 (aY 5
 (aV
 (xb (aB 5) fun (u:W) =>
 xb (aQ (xPl (Y2 (xb (xPl (Y4 (aB 1) (aB 2) (xb (xPl (Y1 (xb (xPl (Y2 (YJ 0) (YJ 0))) YT))) YT) (aB 4))) YT) (xb (xPl (Y4 (aB 1) (aB 2) (aB 3) (xb (xPl (Y1 (xb (xPl (Y2 (YJ 0) (YJ 1))) YT))) YT))) YT)))) fun (w:W) (x:DSt) (h:aA) =>
 match ref h u,ref h w with
            | some (PyData.list xs),some (PyData.list ys)=>if List.length xs+List.length ys<=sizeLine then some (xs++ys,h) else none
            | x,x_1=>none))
 δ' p.2)
 (YQ fun δ' p =>
 YP
 (aY 5
 (aV
 (xb (aB 5) fun (u:W) =>
 xb (aQ (xPl (Y1 (xb (xPl (Y4 (aB 1) (xb (aB 2) fun u=>xb (xb (xPl (Y1 (xb (xPl (Y2 (xb (xPl (Y2 (YS "read") (YJ 0))) YT) (YZ))) YT))) YT) (YO .Add u)) (aB 3) (aB 4))) YT)))) fun (w:W) (x:DSt) (h:aA) =>
 match ref h u,ref h w with
              | some (PyData.list xs),some (PyData.list ys)=>if List.length xs+List.length ys<=sizeLine then some (xs++ys,h) else none
              | x,x_1=>none))
 δ' p.2)
 (YQ fun δ' p =>
 YP
 (aY 5
 (aV
 (xb (aB 5) fun (u:W) =>
 xb (aQ (xPl (Y1 (xb (xPl (Y4 (aB 1) (xb (aB 2) fun u=>xb (xb (xPl (Y1 (xb (xPl (Y3 (xb (xPl (Y2 (YS "read") (YJ 8))) YT) (YZ) (YS "must"))) YT))) YT) (YO .Add u)) (aB 3) (aB 4))) YT)))) fun (w:W) (x:DSt) (h:aA) =>
 match ref h u,ref h w with
                | some (PyData.list xs),some (PyData.list ys)=>if List.length xs+List.length ys<=sizeLine then some (xs++ys,h) else none
                | x,x_1=>none))
 δ' p.2)
 (YQ fun δ' p =>
 YP (aY 6 (xb (xPl (Y3 (xb (xPl (Y2 (YS "read") (YJ 0))) YT) (YZ) (YS "must"))) YT) δ' p.2) (YQ fun δ' p =>
 YP
 (aY 5
 (aV
 (xb (aB 5) fun (u:W) =>
 xb (aQ (xPl (Y2 (xb (xPl (Y4 (aB 1) (xb (aB 2) fun u=>xb (xb (xPl (Y1 (xb (xPl (Y3 (xb (xPl (Y2 (YS "read") (YJ 0))) YT) (YZ) (YS "Must"))) YT))) YT) (YO .Add u)) (aB 3) (aB 4))) YT) (xb (xPl (Y4 (aB 1) (xb (xb (xPl (Y1 (aB 6))) YT) (YB .Mult 121)) (xb (xPl (aD [])) YT) (xb (xPl (aD [])) YT))) YT)))) fun (w:W) (x:DSt) (h:aA) =>
 match ref h u,ref h w with
                    | some (PyData.list xs),some (PyData.list ys)=>if List.length xs+List.length ys<=sizeLine then some (xs++ys,h) else none
                    | x,x_1=>none))
 δ' p.2)
 (YQ fun δ' p =>
 YP
 (aY 5
 (aV
 (xb (aB 5) fun (u:W) =>
 xb (aQ (xPl (Y1 (xb (xPl (Y4 (aB 1) (xb (aB 2) fun u=>xb (xb (xPl (Y1 (xb (xPl (Y3 (xb (xPl (Y2 (YS "read") (YJ 0))) YT) (xb (xPl (Y1 (YS "done"))) YT) (YS "may"))) YT))) YT) (YO .Add u)) (aB 3) (aB 4))) YT)))) fun (w:W) (x:DSt) (h:aA) =>
 match ref h u,ref h w with
                      | some (PyData.list xs),some (PyData.list ys)=>if List.length xs+List.length ys<=sizeLine then some (xs++ys,h) else none
                      | x,x_1=>none))
 δ' p.2)
 (YQ fun δ' p =>
 YP
 (YP
 (xb (aB 5)
 (fun (w:W) (δ:DSt) (h:aA) =>
 if gF (Str.ofString "append") w h=true then
 YP (Y1 (xb (xPl (Y4 (aB 1) (xb (xPl (Y3 (aB 6) (aB 6) (xb (xPl (Y3 (xb (xPl (Y2 (YS "read") (YJ 1))) YT) (YZ) (YS "may"))) YT))) YT) (xb (xPl (aD [])) YT) (xb (xPl (Y1 (xb (xPl (Y3 (YJ 0) (YJ 2) (YJ 1))) YT))) YT))) YT) δ h) fun (p:List W×aA) =>
 match w,p.1 with
                         | W.c j,[W.d x] =>
                          match p.2[j]? with
                          | some (Cell.l xs)=>if List.length xs < sizeLine then some (W.d PyData.none,List.set p.2 j (Cell.l (xs++[x]))) else none
                          | x=>none
                         | x,x_1=>none
 else none)
 δ' p.2)
 fun p=>some (Fl.nx δ',p.2))
 (YQ fun δ' p =>
 YP (YP (xb (aB 5) (fun u=>xb (aQ (xPl (Y1 (xb (xPl (Y4 (aB 1) (aB 2) (xb (xPl (Y1 (xb (xPl (Y2 (xb (Y1 (aB 2)) (YK bP)) (YJ 0))) YT))) YT) (xb (xPl (aD [])) YT))) YT)))) (YO .Add u)) δ' p.2) YW) YE)))))))))))
 (ends h):=by kernel_rfl
end K65
namespace K65
open PySem PySem.Spec PyProof.Rows L2 DL CI SJ
variable (d:Nat) (h:aA)
noncomputable def bU5 (cs:List One):PyData:=.tuple [.str "deal",.tuple (cs.map One.dat)]
end K65
namespace K65
open PySem PySem.Spec PyProof.Rows L2 DL CI SJ
variable (d:Nat) (x:PyData) (h:aA)
@[simp] theorem gN:aE T (d+1) "is_whole" [.d x] h=some (.bool (gC x),h):=by
 cases x<;>simp [yC,isi,fI,gC]
@[simp] theorem tF (lo hi:Int):aE T (d+2) "is_between" [.d x,.d (.int lo),.d (.int hi)] h=some (.bool (cR x lo hi),h):=by
 cases x<;>simp [sV,gN,cR,gC];split<;>simp_all;omega
@[simp] theorem pB (n:Int):aE T (d+1) "is_tuple_of" [.d x,.d (.int n)] h=some (.bool (cA x n),h):=by
 cases x<;>simp [pA,isi,fI,cA]
@[simp] theorem dY (xs:List PyData):aE T (d+2) "are_whole" [.d (.tuple xs)] h=some (.bool (xs.all gC),h):=by
 simp [vP];rw [bQ (fun x=>.bool (gC x)) 0 (fun _ _ _=>rfl)]
 ·simp [fW]
 ·intro y _ u;simp [gN]
@[simp] theorem oM:aE T (d+3) "is_key" [.d x] h=some (.bool (gZ x),h):=by
 simp [aX6,tF,gZ]
@[simp] theorem qY:aE T (d+1) "word_of" [.d x] h=some (gD x,h):=by
 cases x<;>simp [aI1,isi,fI,gD];rename_i xs;cases xs with
 | nil=>simp
 | cons y r=>cases y<;>simp [gD,isi,fI]
end K65
namespace K65
open PySem PySem.Spec PyProof.Rows L2 DL CI SJ
variable (d:Nat) (x:PyData) (h:aA)
@[simp] theorem iJ (s:Str) (n:Int):aE T (d+2) "is_worded" [.d x,.d (.str s),.d (.int n)] h=some (.bool (aM x s n),h):=by
 simp [vQ,qY];cases x<;>simp [gD,aM];rename_i xs;cases xs with
 | nil=>simp [gD,aM]
 | cons y r=>cases y<;>simp [gD,aM];rename_i t;cases e:(t==s)<;>simp
noncomputable def lk (s:Str):List.lookup s [(Str.ofString "read",(0:Int)),(Str.ofString "write",1),(Str.ofString "add",1),(Str.ofString "swap",2)]=nb s:=by
 unfold nb;simp only [List.lookup]
 repeat' split
 all_goals simp_all
noncomputable def dR4 (a b:PyData) (r:List PyData):cut (a::b::r) (some 2) none=r:=by
 have e1:HT.sIx (a::b::r).length 0 (some 2)=2:=by simp [HT.sIx]
 have e2:HT.sIx (a::b::r).length (a::b::r).length none=r.length+2:=by simp [HT.sIx]
 rw [cut,e1,e2];simp
noncomputable def dB5 (a:PyData) (r:List PyData):cut (a::r) (some 1) none=r:=by
 have e1:HT.sIx (a::r).length 0 (some 1)=1:=by simp [HT.sIx]
 have e2:HT.sIx (a::r).length (a::r).length none=r.length+1:=by simp [HT.sIx]
 rw [cut,e1,e2];simp
@[simp] theorem lX:aE T (d+4) "is_single" [.d x] h=some (.bool (bK x),h):=by
 simp [vR,qY,oM,dY,lk];cases x<;>simp [gD,bK];rename_i xs;cases xs with
 | nil=>simp [gD,bK]
 | cons y r =>
  cases y<;>simp [gD,bK];rename_i t;cases e:nb t with
  | none=>simp
  | some n =>
   have hn:0<=n:=by
    unfold nb at e
    repeat' split at e
    all_goals simp at e
    all_goals omega
   by_cases hl:(r.length:Int)+1=2+n
   ·cases r with
    | nil=>simp at hl;omega
    | cons k vs =>
     cases ek:gZ k<;>simp_all [oM,dR4,dY]
   ·simp [hl,e]
noncomputable def gO {x:PyData} {s:Str} (e:aM x s 2=true):∃ a,x=.tuple [.str s,a]:=by
 unfold aM at e;split at e
 ·rename_i t r;simp at e;obtain ⟨rfl,e⟩:=e
  match r,e with
  | [a],_=>exact ⟨a,rfl⟩
  | [],e=>simp at e
  | _::_::_,e=>simp at e;omega
 ·cases e
noncomputable def bM9 {x:PyData} {s:Str} (e:aM x s 3=true):∃ a b,x=.tuple [.str s,a,b]:=by
 unfold aM at e;split at e
 ·rename_i t r;simp at e;obtain ⟨rfl,e⟩:=e
  match r,e with
  | [a,b],_=>exact ⟨a,b,rfl⟩
  | [],e=>simp at e
  | [_],e=>simp at e
  | _::_::_::_,e=>simp at e;omega
 ·cases e
noncomputable def bN0 {x:PyData} (e:aM x "span" 3=false):fE x=false:=by
 unfold fE;split
 ·simp [aM] at e;simp [e]
 ·rfl
noncomputable def bN1 {x:PyData} (e:aM x "deal" 2=false):dZ x=false:=by
 unfold dZ;split
 ·simp [aM] at e;simp [e]
 ·rfl
noncomputable def bN2 {x:PyData} (e:aM x "look" 2=false):hU x=false:=by
 unfold hU;split
 ·simp [aM] at e;simp [e]
 ·rfl
noncomputable def cM5 {x:PyData} (e:aM x "lay" 2=false):jW x=false:=by
 unfold jW;split
 ·simp [aM] at e;simp [e]
 ·rfl
@[simp] theorem aI7:aE T (d+3) "is_span" [.d x] h=some (.bool (fE x),h):=by
 simp [aI2,iJ,dY];cases e:aM x (Str.ofString "span") 3
 ·simp [bN0 e]
 ·obtain ⟨a,b,rfl⟩:=bM9 e;simp [dB5,dY];cases a<;>cases b<;>simp [gC,fE];rename_i i j
  by_cases h1:0<=i<;>by_cases h2:i < j<;>simp [h1,h2]
@[simp] theorem aI8:aE T (d+5) "is_deal" [.d x] h=some (.bool (dZ x),h):=by
 simp [aI3,iJ];cases e:aM x (Str.ofString "deal") 2
 ·simp [bN1 e]
 ·obtain ⟨a,rfl⟩:=gO e;cases a<;>simp [isi,fI,dZ];rename_i ps
  by_cases h1:(1:Int)<=ps.length
  ·by_cases h2:(ps.length:Int)<=4
   ·simp [h1,h2];rw [bQ (fun x=>.bool (bK x)) 0 (fun _ _ _=>rfl)]
    ·have h3:1<=ps.length:=by omega
     have h4:ps.length<=4:=by omega
     simp [fW,h3,h4]
    ·intro y _ u;simp [lX]
   ·have h4:¬ ps.length<=4:=by omega
    simp [h1,h2,h4]
  ·have h4:¬ 1<=ps.length:=by omega
   simp [h1,h4]
@[simp] theorem aI9:aE T (d+6) "is_call" [.d x] h=some (.bool (cB x),h):=by
 simp [aI4,lX,aI7,aI8,cB];cases e1:bK x<;>cases e2:fE x<;>cases e3:dZ x<;>simp [e1,e2,e3]
@[simp] theorem cR4:aE T (d+7) "is_look" [.d x] h=some (.bool (hU x),h):=by
 simp [aI5,iJ];cases e:aM x (Str.ofString "look") 2
 ·simp [bN2 e]
 ·obtain ⟨a,rfl⟩:=gO e;simp [aI9,hU]
@[simp] theorem aK3:aE T (d+4) "is_value_pair" [.d x] h=some (.bool (eB x),h):=by
 simp [mG,pB];cases x<;>simp [cA,eB];rename_i xs
 match xs with
 | []=>simp [eB]
 | [a]=>simp [eB]
 | [a,b] =>
  simp [oM,gN,eB];cases gZ a<;>simp [gN]
 | a::b::c::r =>
  have:¬ ((r.length:Int)+1+1+1=2):=by omega
  simp [eB,this]
noncomputable def eY {n:Int} (h0:-5<=n) (h1:n<=100000):kA 0 n=true:=by
 unfold kA;simp;omega
noncomputable def zZ {ns:List Int} {i:Nat} (hi:i < ns.length):atI (ns.map PyData.int) (i:Int)=some (.int (ns.getD i 0)):=by
 unfold atI;rw [ix_nat (by simpa using hi)];simp [List.getD,hi]
noncomputable def cM6 (n:Nat):rng 0 n=(List.range n).map fun (i:Nat)=>PyData.int (i:Int):=by
 unfold rng;simp
noncomputable def tG (ns:List Int) (hl:ns.length<=1000):aE T (d+1) "are_rising" [.d (.list (ns.map .int))] h=some (.bool (bI1 ns),h):=by
 simp [sW];rw [if_pos (eY (by omega) (by omega))];simp only [Option.bind_some];rw [bQ (fun x=>.bool (decide (ns.getD (rY x).toNat 0 < ns.getD ((rY x).toNat+1) 0))) 0 (fun _ _ _=>rfl)]
 ·simp only [List.nil_append,Option.bind_some,all_map];rw [cM6,List.all_map,bM3];rfl
 ·intro y hy u;rw [cM6] at hy;obtain ⟨k,hk,rfl⟩:=List.mem_map.mp hy;have hk:=List.mem_range.mp hk;have e2:((k:Int)+1)=((k+1:Nat):Int):=rfl;simp [zZ (show k < ns.length by omega),rY];rw [e2,zZ (by omega)];simp
noncomputable def cX:PyData->Bool
 | .tuple [_,.tuple ps]=>decide (ps.length<=1000)
 | _=>true
noncomputable def aX9 (hs:cX x=true):aE T (d+5) "is_lay" [.d x] h=some (.bool (jW x),h):=by
 simp [aX7];cases e:aM x (Str.ofString "lay") 2
 ·simp [cM5 e]
 ·obtain ⟨a,rfl⟩:=gO e;cases a<;>simp [isi,fI,jW];rename_i ps;simp [cX] at hs
  by_cases hp:ps=[]
  ·subst hp;simp
  ·have hn:¬ ((ps.length:Int)=0):=by
    have:ps.length≠0:=fun z=>hp (List.length_eq_zero_iff.mp z);omega
   simp [hp];rw [bQ (fun x=>.bool (eB x)) 0 (fun _ _ _=>rfl)]
   ·simp only [List.nil_append,Option.bind_some,all_map];generalize ea:ps.all eB=b;cases b
    ·simp
    ·simp;rw [bQ (fun x=>.int (rY (pZ x))) 0 (fun _ _ _=>rfl)]
     ·have e3:(ps.map fun x=>PyData.int (rY (pZ x)))=(ps.map fun p=>rY (pZ p)).map PyData.int:=by simp
      simp only [List.nil_append,Option.bind_some,e3];rw [tG _ _ _ (by simpa using hs)];simp [hp]
     ·intro y hy u;have:=List.all_eq_true.mp ea y hy;unfold eB at this;split at this
      ·rename_i k v;simp [gZ,cR] at this;cases k<;>simp at this;simp [pZ,rY]
      ·cases this
   ·intro y _ u;simp
@[simp] theorem dP (hs:cX x=true):aE T (d+8) "is_step" [.d x] h=some (.bool (fF x),h):=by
 simp [aI6,fF];cases e1:cB x<;>cases e2:hU x<;>simp [e2,aX9 _ _ _ hs]
end K65
namespace K65
open PySem PySem.Spec PyProof.Rows L2 DL CI SJ
variable (d:Nat) (t:PyData) (h:aA)
noncomputable def aY0 {t:PyData} (e:aM t "got" 2=false):cG (.read 0) t=false:=by
 unfold cG;split
 ·split
  ·rename_i s v;cases es:(s==Str.ofString "got")
   ·simp
   ·simp at es;subst es;simp [aM] at e
  ·rfl
 all_goals rename_i e';cases e'
noncomputable def qZ (o:One):aE T (d+3) "is_own_answer" [.d o.dat,.d t] h=some (.bool (cG o t),h):=by
 cases o
 ·simp [bC,One.dat,PyData.eqv,cG,szl];cases e:aM t (Str.ofString "got") 2
  ·simp;exact aY0 e
  ·obtain ⟨v,rfl⟩:=gO e;simp
 ·simp [bC,One.dat,PyData.eqv,cG,szl]
 ·simp [bC,One.dat,PyData.eqv,cG,szl];cases e:aM t (Str.ofString "got") 2
  ·simp;exact aY0 e
  ·obtain ⟨v,rfl⟩:=gO e;simp
 ·simp [bC,One.dat,PyData.eqv,cG,szl];cases e:aM t (Str.ofString "yes") 1<;>simp
end K65
namespace K65
open PySem PySem.Spec PyProof.Rows L2 DL CI SJ
variable (d:Nat) (t:PyData) (h:aA)
noncomputable def cM7 {t:PyData} {lo hi:Nat} (e:aM t "all" 2=false):bN (.span lo hi) t=false:=by
 unfold bN;split
 ·rename_i e';cases e'
 ·split
  ·rename_i s xs;cases es:(s==Str.ofString "all")
   ·simp
   ·simp at es;subst es;simp [aM] at e
  ·rfl
 ·rename_i e';cases e'
noncomputable def bN3 {t:PyData} {cs:List One} (e:aM t "each" 2=false):bN (.deal cs) t=false:=by
 unfold bN;split
 ·rename_i e';cases e'
 ·rename_i e';cases e'
 ·split
  ·rename_i s xs;cases es:(s==Str.ofString "each")
   ·simp
   ·simp at es;subst es;simp [aM] at e
  ·rfl
noncomputable def zps (cs:List One) (xs:List PyData):List (PyData×PyData):=(cs.zip xs).map fun p=>(.tuple [p.1.dat,p.2],.bool (cG p.1 p.2))
theorem bU6:∀ (cs:List One) (xs:List PyData),nU (cs.map One.dat) xs=(zps cs xs).map (·.1)
 | [],_=>by simp [nU,zps]
 | _::_,[]=>by simp [nU,zps]
 | c::cs,x::xs=>by
  have:=bU6 cs xs;unfold nU zps at this ⊢;simp at this ⊢;exact this
noncomputable def dB6:∀ (cs:List One) (xs:List PyData),(zps cs xs).map (·.2)=((cs.zip xs).map fun p=>cG p.1 p.2).map PyData.bool:=fun cs xs=>by simp [zps]
theorem aA0:∀ (cs:List One) (xs:List PyData),((cs.zip xs).map fun p=>cG p.1 p.2).all id=fJ cs xs
 | [],_=>by simp [fJ]
 | _::_,[]=>by simp [fJ]
 | c::cs,x::xs=>by
  have:=aA0 cs xs;simp [fJ] at this ⊢;rw [this]
theorem aA1:∀ bs:List Bool,dD (bs.map PyData.bool)=some bs
 | []=>rfl
 | b::r=>by simp [dD,aA1 r]
noncomputable def yE (lo hi:Nat):aE T (d+4) "is_own_answer" [.d (Call.span lo hi).dat,.d t] h=some (.bool (bN (.span lo hi) t),h):=by
 simp [bC,Call.dat,PyData.eqv,szl];cases e:aM t (Str.ofString "all") 2
 ·simp;exact cM7 e
 ·obtain ⟨v,rfl⟩:=gO e;cases v<;>simp [cA,bN];rename_i xs
  by_cases hl:(xs.length:Int)=(hi:Int) - lo<;>simp [hl]
noncomputable def yF (cs:List One):aE T (d+4) "is_own_answer" [.d (Call.deal cs).dat,.d t] h=some (.bool (bN (.deal cs) t),h):=by
 simp [bC,Call.dat,PyData.eqv,szl];cases e:aM t (Str.ofString "each") 2
 ·simp;exact bN3 e
 ·obtain ⟨v,rfl⟩:=gO e;cases v<;>simp [cA,bN];rename_i xs
  by_cases hl:(xs.length:Int)=cs.length
  ·have hl':xs.length=cs.length:=by omega
   simp [hl,hl'];rw [bU6,gL (fun δ=>∃ a b,δ=[a,b]) _ _ _ ⟨_,_,rfl⟩]
   ·have hz:=aA0 cs xs;rw [dB6];generalize ((cs.zip xs).map fun p=>cG p.1 p.2)=L at hz ⊢;simp only [List.nil_append,Option.bind_some,bU4,aA1,Option.map_some,hz];simp
   ·intro p hp δ ⟨a,b,e⟩;subst e;obtain ⟨⟨o,x⟩,_,rfl⟩:=List.mem_map.mp hp;refine ⟨[some (.d o.dat),some (.d x)],by simp [fT,sH],⟨_,_,rfl⟩,?_⟩;simp [qZ]
  ·have hl':¬ xs.length=cs.length:=by omega
   simp [hl,hl']
noncomputable def oN (c:SJ.Call):aE T (d+4) "is_own_answer" [.d c.dat,.d t] h=some (.bool (bN c t),h):=by
 cases c with
 | one o=>exact qZ (d+1) t h o
 | span lo hi=>exact yE d t h lo hi
 | deal cs=>exact yF d t h cs
end K65
namespace K65
open PySem PySem.Spec PyProof.Rows L2 DL CI SJ
variable (d:Nat) (t:PyData) (h:aA)
noncomputable def oO {c:SJ.Call} (hc:c.ok):cX c.dat=true:=by
 cases c with
 | one o=>cases o<;>simp [Call.dat,One.dat,cX]
 | span lo hi=>simp [Call.dat,cX]
 | deal cs =>
  have:=hc.1;simp [Call.dat,cX];omega
noncomputable def yG {c:SJ.Call} (hc:c.ok):aE T (d+9) "is_answer" [.d c.dat,.d t] h=some (.bool (aM t "refused" 1||bN c t),h):=by
 simp [iH,dP (d) c.dat h (oO hc),(fR hc).2.1,(fR hc).1];cases e:aM t (Str.ofString "refused") 1
 ·simp [oN (d+4)]
 ·simp [(fR hc).1]
noncomputable def yH {ps:List (Nat×Int)} (hn:ps≠[]) (hl:ps.length<=1000) (hk:∀ p∈ps,p.1 < 8) (hr:(ps.map (·.1)).Pairwise (· < ·)):aE T (d+8) "is_step" [.d (.tuple [.str "lay",.tuple (ps.map prP)])] h=some (.bool true,h):=by
 rw [dP _ _ _ (by simpa [cX] using hl)];obtain ⟨q1,q2,q3⟩:=kO hk;have e:=zG hr;rw [List.map_map] at e;have e1:jW (.tuple [.str "lay",.tuple (ps.map prP)])=true:=by
  unfold jW;simp only [q1,q3,List.isEmpty_map];have:ps.isEmpty=false:=by simpa using hn
  rw [this]
  simpa [Function.comp_def] using e
 simp [fF,e1]
end K65
namespace K65
open PySem PySem.Spec PyProof.Rows L2 DL CI SJ
variable (d:Nat) (h:aA)
abbrev Ow {α β:Type} (_:α->Option β):=Option α
noncomputable def bd {α β:Type} (f:α->Option β) (x:Ow f):Option β:=Option.bind x f
@[simp ↓ high] theorem bdi {α β:Type} (x:Option α) (f:α->Option β):x.bind f=bd f x:=rfl
@[simp high] theorem bds {α β:Type} (a:α) (f:α->Option β):bd f (some a)=f a:=id rfl
@[simp ↓ high] theorem xba {α β:Type} (x:XR α) (f:α->XR β) (δ:DSt) (h:aA):xb x f δ h=bd (fun p=>f p.1 δ p.2) (x δ h):=rfl
@[simp ↓ high] theorem xsa (i:Nat) (x:XR W) (δ:DSt) (h:aA):aY i x δ h=bd (fun p=>some (.nx (δ.set i (some p.1)),p.2)) (x δ h):=rfl
noncomputable def wv (st:List Int) (k:Nat) (v:Int):List Int:=st.take k++v::st.drop (k+1)
noncomputable def lF {st:List Int} {k:Nat} (hk:k < st.length) (v:Int):(wv st k v).length=st.length:=by
 unfold wv;simp;omega
noncomputable def sd (st:List Int):One->An1×List Int
 | .read k=>(.got (st.getD k 0),st)
 | .write k v=>(.dn,wv st k v)
 | .add k v=>(.got (st.getD k 0+v),wv st k (st.getD k 0+v))
 | .swap k x y=>if st.getD k 0=x then (.yes,wv st k y) else (.no,st)
noncomputable def dr (st:List Int):List One->List An1×List Int
 | []=>([],st)
 | o::r=>((sd st o).1::(dr (sd st o).2 r).1,(dr (sd st o).2 r).2)
noncomputable def yI {st:List Int} {o:One} (hk:o.key < st.length):(sd st o).2.length=st.length:=by
 cases o<;>simp only [One.key] at hk<;>simp only [sd]
 ·exact lF hk _
 ·exact lF hk _
 ·split
  ·exact lF hk _
  ·rfl
noncomputable def aA2 (st:List Int) (o:One):An1.fits o (sd st o).1:=by
 cases o<;>simp only [sd]<;>first | trivial | (split<;>trivial)
noncomputable def cM8 (xs:List PyData) {m:Nat} (hm:m<=xs.length):cut xs none (some (m:Int))=xs.take m:=by
 have e1:HT.sIx xs.length 0 none=0:=by simp [HT.sIx]
 have e2:HT.sIx xs.length xs.length (some (m:Int))=m:=by
  unfold HT.sIx;simp only [];rw [if_neg (by omega)];omega
 rw [cut,e1,e2];simp
noncomputable def cM9 (xs:List PyData) {m:Nat} (hm:m<=xs.length):cut xs (some (m:Int)) none=xs.drop m:=by
 have e1:HT.sIx xs.length 0 (some (m:Int))=m:=by
  unfold HT.sIx;simp only [];rw [if_neg (by omega)];omega
 have e2:HT.sIx xs.length xs.length none=xs.length:=by simp [HT.sIx]
 rw [cut,e1,e2];rw [List.take_of_length_le];simp
noncomputable def aA3 {st:List Int} {k:Nat} (hk:k < st.length):atI (st.map PyData.int) (k:Int)=some (.int (st.getD k 0)):=iN (by simp [hk])
noncomputable def aY1 (st:List Int) (k:Nat) (v:Int) (hk:k < 8) (hl:st.length=8):aE T (d+1) "with_value" [.d (.tuple (st.map .int)),.d (.int k),.d (.int v)] h=some (.tuple ((wv st k v).map .int),h):=by
 have c1:=cM8 (st.map PyData.int) (m:=k) (by simp;omega);have c2:=cM9 (st.map PyData.int) (m:=k+1) (by simp;omega);have c2':cut (st.map PyData.int) (some ((k:Int)+1)) none=(st.map PyData.int).drop (k+1):=c2;have l1:min k st.length<=16777215:=by omega
 have l2:min k st.length+1+(st.length - (k+1))<=16777216:=by omega
 have l3:min k 8+1+(8 - (k+1))<=16777216:=by omega
 have l4:min k 8<=16777215:=by omega
 have l5:min k 8+1+(7 - k)<=16777216:=by omega
 simp [sX,c1,c2',szl,wv,l1,hl,l3,l4,l5]
noncomputable def vV (st:List Int) (o:One) (hk:o.key < 8) (hl:st.length=8):aE T (d+2) "single_done" [.d (.tuple (st.map .int)),.d o.dat] h=some (.tuple [(sd st o).1.dat,.tuple ((sd st o).2.map .int)],h):=by
 cases o with
 | read k =>
  have:=aA3 (st:=st) (k:=k) (by simp [One.key] at hk;omega);simp [cM,One.dat,An1.dat,this,szl,sd]
 | write k v =>
  simp only [One.key] at hk;have:=aA3 (st:=st) (k:=k) (by omega);simp [cM,One.dat,An1.dat,this,szl,aY1,hk,hl,sd]
 | add k v =>
  simp only [One.key] at hk;have:=aA3 (st:=st) (k:=k) (by omega);generalize e:st.getD k 0=w at this;simp only [sd,e];simp [cM,One.dat,An1.dat,this,szl,aY1,hk,hl]
 | swap k x y =>
  simp only [One.key] at hk;have:=aA3 (st:=st) (k:=k) (by omega);generalize e:st.getD k 0=v at this;simp only [sd,e]
  by_cases e:v=x
  ·subst e;simp [cM,One.dat,An1.dat,this,szl,aY1,hk,hl]
  ·simp [cM,One.dat,An1.dat,this,szl,aY1,hk,hl,e]
theorem aA4:∀ (cs:List One) (st:List Int) (o:One),dr st (cs++[o])=((dr st cs).1++[(sd (dr st cs).2 o).1],(sd (dr st cs).2 o).2)
 | [],st,o=>rfl
 | c::r,st,o=>by simp [dr,aA4 r]
theorem yJ:∀ (cs:List One) (st:List Int),(∀ o∈cs,o.key < st.length)->(dr st cs).2.length=st.length
 | [],st,_=>rfl
 | o::r,st,hk=>by
  have h1:=hk o List.mem_cons_self;have:=yJ r (sd st o).2 fun o' ho=>by rw [yI h1];exact hk o' (List.mem_cons_of_mem _ ho)
  rw [yI h1] at this;exact this
theorem bU7:∀ (cs:List One) (st:List Int),(dr st cs).1.length=cs.length
 | [],st=>rfl
 | o::r,st=>by simp [dr,bU7 r]
theorem aY2:∀ (cs:List One) (st:List Int),Fit2 cs (dr st cs).1
 | [],st=>.nil
 | o::r,st=>.cons (aA2 st o) (aY2 r _)
noncomputable def vW (cs:List One) (hk:∀ o∈cs,o.key < 8) (hc:cs.length<=100) (st:List Int) (hl:st.length=8):aE T (d+3) "deal_done" [.d (.tuple (st.map .int)),.d (.tuple (cs.map One.dat))] h=some (.tuple [.tuple [.str "each",.tuple ((dr st cs).1.map An1.dat)],.tuple ((dr st cs).2.map .int)],h):=by
 rw [show d+3=(d+2)+1 from rfl,vS];simp [szl];generalize hr:dH _ _ _ _ _ _ _=r;have kk:∃ δ' h',r=some (.nx δ',h')/\∃ (x1 x3 x4:Option W),δ'=[some (.d (.tuple ((dr st cs).2.map .int))),x1,some (.c h.length),x3,x4]/\h'=h++[.l ((dr st cs).1.map An1.dat)]:=by
  rw [<- hr];clear hr;refine fY (fun m δ' h'=>∃ (x1 x3 x4:Option W),δ'=[some (.d (.tuple ((dr st (cs.take m)).2.map .int))),x1,some (.c h.length),x3,x4]/\h'=h++[.l ((dr st (cs.take m)).1.map An1.dat)]) ⟨_,_,_,rfl,rfl⟩ (fun δ h'=>?_) ?_
  ·rw [List.length_map,List.take_length];exact id
  ·rintro m hm δ h' ⟨x1,x3,x4,rfl,rfl⟩;have hm':m < cs.length:=by simpa using hm
   have l2:(dr st (cs.take m)).2.length=8:=by rw [yJ _ _ fun o ho=>by rw [hl];exact hk o (List.mem_of_mem_take ho)];exact hl
   have hs':=fun h=>vV d h (dr st (cs.take m)).2 cs[m] (hk _ (List.getElem_mem _)) l2;have ll:(dr st (cs.take m)).1.length < 16777216:=by rw [bU7,List.length_take];omega
   have e:cs.take (m+1)=cs.take m++[cs[m]]:=by rw [List.take_add_one];simp [hm']
   rw [List.getElem_map,e,aA4];generalize dr st (cs.take m)=q at *;obtain ⟨as,st'⟩:=q;have gl:=CI.get_last h (.l (as.map An1.dat));have mp:=CI.mpre_last h (as.map An1.dat);dsimp only at *;generalize sd st' cs[m]=p at hs';refine ⟨_,_,rfl,[some (.d (.tuple (p.2.map .int))),x1,some (.c h.length),some (.d cs[m].dat),some (.d (.tuple [p.1.dat,.tuple (p.2.map .int)]))],h++[.l ((as++[p.1]).map An1.dat)],?_,_,_,_,rfl,rfl⟩;simp [hs',gl,mp,ll,szl]
 obtain ⟨δ',h',rfl,x1,x3,x4,rfl,rfl⟩:=kk;have tl:bU [.c h.length] (h++[.l ((dr st cs).1.map An1.dat)])=some (.d (.tuple ((dr st cs).1.map An1.dat)),h++[.l ((dr st cs).1.map An1.dat)]):=by
  simp [bU,ref]
 simp [tl,szl]
noncomputable def ly (st:List Int) (ps:List (Nat×Int)):List Int:=ps.foldl (fun s p=>wv s p.1 p.2) st
theorem aY3:∀ (ps:List (Nat×Int)) (st:List Int),(∀ p∈ps,p.1 < st.length)->(ly st ps).length=st.length
 | [],st,_=>rfl
 | p::r,st,hk=>by
  have h1:=hk p List.mem_cons_self;have:=aY3 r (wv st p.1 p.2) fun q hq=>by rw [lF h1];exact hk q (List.mem_cons_of_mem _ hq)
  rw [lF h1] at this;exact this
noncomputable def cN0 (ps:List (Nat×Int)) (hk:∀ p∈ps,p.1 < 8) (st:List Int) (hl:st.length=8):aE T (d+2) "laid" [.d (.tuple (st.map .int)),.d (.tuple (ps.map fun p=>.tuple [.int p.1,.int p.2]))] h=some (.tuple ((ly st ps).map .int),h):=by
 rw [show d+2=(d+1)+1 from rfl,cM4];simp;generalize hr:dH _ _ _ _ _ _ _=r;have kk:∃ δ' h',r=some (.nx δ',h')/\∃ x1 x2 x3,δ'=[some (.d (.tuple ((ly st ps).map .int))),x1,x2,x3]/\h'=h:=by
  rw [<- hr];clear hr;refine yA (fun p:Nat×Int=>.tuple [.int p.1,.int p.2]) (fun s p=>wv s p.1 p.2) (fun s δ' h'=>s.length=8/\∃ x1 x2 x3,δ'=[some (.d (.tuple (s.map .int))),x1,x2,x3]/\h'=h) st ps ⟨hl,_,_,_,rfl,rfl⟩ (fun _ _ z=>z.2) ?_;rintro p hp s δ h' ⟨hs,x1,x2,x3,rfl,rfl⟩;have hk':=hk p hp;have e:=fun h=>aY1 d h s p.1 p.2 hk' hs;refine ⟨[some (.d (.tuple (s.map .int))),x1,some (.d (.int p.1)),some (.d (.int p.2))],h',by simp [sH],[some (.d (.tuple ((wv s p.1 p.2).map .int))),x1,some (.d (.int p.1)),some (.d (.int p.2))],h',?_,by rw [lF (by omega)];exact hs,_,_,_,rfl,rfl⟩;simp [e]
 obtain ⟨δ',h',rfl,x1,x2,x3,rfl,rfl⟩:=kk;simp
noncomputable def aY4 (o:One) (st:List Int) (hk:o.key < 8) (hl:st.length=8):aE T (d+3) "done" [.d (.tuple (st.map .int)),.d o.dat] h=some (.tuple [(sd st o).1.dat,.tuple ((sd st o).2.map .int)],h):=by
 have e:=fun h=>vV d h st o hk hl;rw [show d+3=(d+2)+1 from rfl,oK];generalize sd st o=p at e;cases o<;>simp [One.dat] at e ⊢<;>simp [e]
noncomputable def aJ0 (cs:List One) (hk:∀ o∈cs,o.key < 8) (hc:cs.length<=100) (st:List Int) (hl:st.length=8):aE T (d+4) "done" [.d (.tuple (st.map .int)),.d (bU5 cs)] h=some (.tuple [.tuple [.str "each",.tuple ((dr st cs).1.map An1.dat)],.tuple ((dr st cs).2.map .int)],h):=by
 have e:=fun h=>vW d h cs hk hc st hl;rw [show d+4=(d+3)+1 from rfl,oK];simp [bU5,e]
noncomputable def aY5 (ps:List (Nat×Int)) (hk:∀ p∈ps,p.1 < 8) (st:List Int) (hl:st.length=8):aE T (d+3) "done" [.d (.tuple (st.map .int)),.d (.tuple [.str "lay",.tuple (ps.map fun p=>.tuple [.int p.1,.int p.2])])] h=some (.tuple [.tuple [.str "done"],.tuple ((ly st ps).map .int)],h):=by
 have e:=fun h=>cN0 d h ps hk st hl;rw [show d+3=(d+2)+1 from rfl,oK];simp [e,szl]
noncomputable def aJ1 {s A S:PyData} {st:List Int} (e:∀ h,aE T (d+4) "done" [.d (.tuple (st.map .int)),.d s] h=some (.tuple [A,S],h)):aE T (d+5) "done" [.d (.tuple (st.map .int)),.d (.tuple [.str "look",s])] h=some (.tuple [A,.tuple (st.map .int)],h):=by
 rw [show d+5=(d+4)+1 from rfl,oK];simp [e,szl]
noncomputable def cN1 (xs:List PyData) {i j:Nat} (hi:i<=j) (hj:j<=xs.length):cut xs (some (i:Int)) (some (j:Int))=(xs.drop i).take (j - i):=by
 have e1:HT.sIx xs.length 0 (some (i:Int))=i:=by
  unfold HT.sIx;simp only [];rw [if_neg (by omega)];omega
 have e2:HT.sIx xs.length xs.length (some (j:Int))=j:=by
  unfold HT.sIx;simp only [];rw [if_neg (by omega)];omega
 rw [cut,e1,e2]
noncomputable def aJ2 (lo hi:Nat) (h1:lo<=hi) (h2:hi<=8) (st:List Int) (hl:st.length=8):aE T (d+1) "done" [.d (.tuple (st.map .int)),.d (.tuple [.str "span",.int lo,.int hi])] h=some (.tuple [.tuple [.str "all",.tuple (((st.drop lo).take (hi - lo)).map .int)],.tuple (st.map .int)],h):=by
 have c:=cN1 (st.map PyData.int) (i:=lo) (j:=hi) h1 (by simp;omega);rw [<- List.map_drop,<- List.map_take] at c;simp [oK,c,szl]
end K65
set_option maxHeartbeats 400000
namespace K65
open PySem PySem.Spec PyProof.Rows L2 DL CI SJ
noncomputable def yK (d:Nat) (h:aA) (ns:List Int) (k:Nat):aE T (d+1) "_law_cell_at" [.d (.list (ns.map .int)),.d (.int k)] h=some (.int (ns.getD k 0),h):=by
 by_cases hk:k < ns.length
 ·have e:atI (ns.map PyData.int) (k:Int)=some (.int (ns.getD k 0)):=iN (by simp [hk]);simp [iI,hk,e]
 ·have e:ns.getD k 0=0:=by simp [List.getD,List.getElem?_eq_none (Nat.le_of_not_lt hk)]
  simp [iI,hk,e]
@[simp] theorem dT4 {h:aA} {i:Nat} {xs:List PyData} (hi:i < h.length):bP [.c i] (h.set i (.l xs))=some (.d (.int xs.length),h.set i (.l xs)):=by simp [bP,zX hi]
noncomputable def m1 (a:Int):Int:=(a%2147483647+1)*48271%2147483647
noncomputable def m2 (x:Int):Int:=x*(x / 1009+69621)%2147483647
noncomputable def m3 (x:Int):Int:=(x+1)*(x / 757+16807)%2147483629
noncomputable def mx (a:Int):Int:=m3 (m2 (m1 a))
@[simp] theorem dJ4 (d:Nat) (h:aA) (a:Int):aE T (d+1) "_law_mixed" [.d (.int a)] h=some (.int (mx a),h):=by
 have e1:bS 1009=true:=by decide
 have e2:bS 757=true:=by decide
 have h1:=bM4 (j:=48271) (by decide) (by decide) (a%2147483647+1);have h2:jB (m1 a) (m1 a / 1009+69621)=true:=sU (by unfold m1;omega) (by unfold m1;omega) _;have h3:jB (m2 (m1 a)+1) (m2 (m1 a) / 757+16807)=true:=sU (by unfold m2;omega) (by unfold m2;omega) _;have z1:(a%2147483647+1)*48271%2147483647=m1 a:=rfl;have z2:m1 a*(m1 a / 1009+69621)%2147483647=m2 (m1 a):=rfl;have z3:(m2 (m1 a)+1)*(m2 (m1 a) / 757+16807)%2147483629=mx a:=rfl;simp [sZ,e1,e2,h1,h2,h3,z1,z2,z3]
def own (s:S3):Prop:=s.2.1=0/\0 < s.1
instance (s:S3):Decidable (own s):=by unfold own;infer_instance
noncomputable def bL (s:S3) (b:Int):Int:=if own s then s.1%b else mx (s.2.2+1) / 7%b
noncomputable def digS (s:S3) (b:Int):S3:=if own s then (s.1 / b,s.2.1,s.2.2) else (s.1,s.2.1,mx (s.2.2+1))
noncomputable def lG (s:S3) {b:Int} (hb:0 < b):0<=bL s b:=by
 unfold bL;split<;>exact Int.emod_nonneg _ (by omega)
noncomputable def oP (s:S3) {b:Int} (hb:0 < b):bL s b < b:=by
 unfold bL;split<;>exact Int.emod_lt_of_pos _ hb
noncomputable def bX (s:S3) {b:Int} (hb:0 < b):∃ n:Nat,bL s b=n/\(n:Int) < b:=⟨(bL s b).toNat,by have:=lG s hb;omega,by have:=lG s hb;have:=oP s hb;omega⟩
@[simp] theorem tH (d:Nat) (h:aA) {i:Nat} (s:S3) (b:Int) (hi:i < h.length) (hb:0 < b) (hb2:bS b=true):aE T (d+2) "_law_digit" [.c i,.d (.int b)] (h.set i (stL s))=some (.int (bL s b),h.set i (stL (digS s b))):=by
 have e1:bS 7=true:=by decide
 by_cases h4:s.2.1=0
 ·by_cases h5:0 < s.1
  ·simp [gM,stL,hi,e1,hb,hb2,h4,h5,bL,digS,own]
  ·simp [gM,stL,hi,e1,hb,hb2,h4,h5,bL,digS,own]
 ·simp [gM,stL,hi,e1,hb,hb2,h4,bL,digS,own]
noncomputable def dig2 (s:S3):bL s 2=0\/bL s 2=1:=by
 have:=lG s (b:=2) (by decide);have:=oP s (b:=2) (by decide);omega
noncomputable def dig4 (s:S3):bL s 4=0\/bL s 4=1\/bL s 4=2\/bL s 4=3:=by
 have:=lG s (b:=4) (by decide);have:=oP s (b:=4) (by decide);omega
noncomputable def oQ (s:S3):∃ r:One×S3,r.1.ok/\∀ (d:Nat) (h:aA) (i:Nat),i < h.length->aE T (d+3) "_law_plain" [.c i] (h.set i (stL s))=some (r.1.dat,h.set i (stL r.2)):=by
 have e3:bS 4=true:=by decide
 have e4:bS 2=true:=by decide
 obtain ⟨k,ek,hk⟩:=bX s (b:=2) (by decide);have hk':k < 8:=by omega
 rcases dig4 (digS (digS (digS s 2) 4) 4) with e | e | e | e
 ·refine ⟨(.read k,digS (digS (digS (digS s 2) 4) 4) 4),hk',fun d h i hi=>?_⟩;simp [eQ,hi,e,ek,e3,e4,One.dat,szl,aQ]
 ·refine ⟨(.write k (bL (digS s 2) 4),digS (digS (digS (digS s 2) 4) 4) 4),hk',fun d h i hi=>?_⟩;simp [eQ,hi,e,ek,e3,e4,One.dat,szl,aQ]
 ·refine ⟨(.add k 1,digS (digS (digS (digS s 2) 4) 4) 4),hk',fun d h i hi=>?_⟩;simp [eQ,hi,e,ek,e3,e4,One.dat,szl,aQ]
 ·refine ⟨(.swap k (bL (digS s 2) 4) (bL (digS (digS s 2) 4) 4),digS (digS (digS (digS s 2) 4) 4) 4),hk',fun d h i hi=>?_⟩;simp [eQ,hi,e,ek,e3,e4,One.dat,szl,aQ]
noncomputable def pF (s:S3):One×S3:=(oQ s).choose
noncomputable def cN2 (s:S3):(pF s).1.ok:=(oQ s).choose_spec.1
@[simp] theorem dJ5 (d:Nat) (h:aA) {i:Nat} (s:S3) (hi:i < h.length):aE T (d+3) "_law_plain" [.c i] (h.set i (stL s))=some ((pF s).1.dat,h.set i (stL (pF s).2)):=(oQ s).choose_spec.2 d h i hi
theorem vX:∀ (xs:List PyData) (s:S3),∃ cs:List One,(thr (fun _ s=>(pF s).1.dat) (fun _ s=>(pF s).2) xs s).1=cs.map One.dat/\cs.length=xs.length/\∀ c∈cs,c.ok
 | [],s=>⟨[],rfl,rfl,fun _ z=>nomatch z⟩
 | x::r,s=>by
  obtain ⟨cs,e,hl,hc⟩:=vX r (pF s).2;refine ⟨(pF s).1::cs,by simp [thr,e],by simp [hl],fun c hm=>?_⟩;rcases List.mem_cons.mp hm with rfl | hm
  ·exact cN2 s
  ·exact hc c hm
noncomputable def Sok:Stp->Prop
 | .call c=>c.ok
 | .look c=>c.ok
 | .lay ps=>ps≠[]/\ps.length<=9/\(∀ p∈ps,p.1 < 8)/\(ps.map (·.1)).Pairwise (· < ·)
noncomputable def tI (s:S3):∃ r:Stp×S3,Sok r.1/\∀ (d:Nat) (h:aA) (i:Nat),i < h.length->aE T (d+4) "_law_step" [.c i] (h.set i (stL s))=some (r.1.dat,h.set i (stL r.2)):=by
 have e9:bS 9=true:=by decide
 have e3:bS 3=true:=by decide
 have e4:bS 4=true:=by decide
 have e2:bS 2=true:=by decide
 obtain ⟨k,ek,hk⟩:=bX s (b:=9) (by decide)
 by_cases k0:k=0
 ·subst k0;obtain ⟨m,em,hm⟩:=bX (digS s 9) (b:=3) (by decide);refine ⟨(.call (.span 0 (m+1)),digS (digS s 9) 3),⟨by omega,by omega⟩,fun d h i hi=>?_⟩;have:(1:Int)+m=m+1:=by omega
  simp [cW,hi,ek,em,this,e9,e3,Stp.dat,Call.dat,szl,aQ]
 by_cases k1:k=1
 ·subst k1;obtain ⟨m,em,hm⟩:=bX (digS s 9) (b:=3) (by decide);obtain ⟨cs,ec,hl,hc⟩:=vX (rng 0 (m+1)) (digS (digS s 9) 3);have hl':cs.length=m+1:=by rw [hl];simp [rng]
  refine ⟨(.call (.deal cs),(thr (fun _ s=>(pF s).1.dat) (fun _ s=>(pF s).2) (rng 0 (m+1)) (digS (digS s 9) 3)).2),⟨by omega,by omega,hc⟩,fun d h i hi=>?_⟩;have er:kA 0 (1+(m:Int))=true:=eY (by omega) (by omega);have et:(1+(m:Int)).toNat=m+1:=by omega
  simp [cW,hi,ek,em,Stp.dat,Call.dat,szl,er,et,e9,e3,aQ];rw [lC (fun _ s=>(pF s).1.dat) (fun _ s=>(pF s).2) 0 (fun _ _ _=>rfl)]
  ·simp [ec]
  ·intro x _ u s;simp [hi]
 by_cases k2:k=2
 ·subst k2;refine ⟨(.look (.one (pF (digS s 9)).1),(pF (digS s 9)).2),cN2 _,fun d h i hi=>?_⟩;simp [cW,hi,ek,e9,Stp.dat,Call.dat,szl]
 by_cases k3:k=3
 ·subst k3;obtain ⟨a,ea,ha⟩:=bX (digS s 9) (b:=2) (by decide);rcases dig2 (digS (digS (digS s 9) 2) 4) with e | e
  ·refine ⟨(.lay [(a,bL (digS (digS s 9) 2) 4)],digS (digS (digS (digS s 9) 2) 4) 2),⟨by simp,by simp,by simp;omega,by simp⟩,fun d h i hi=>?_⟩;simp [cW,hi,ek,ea,e,e9,e2,e4,Stp.dat,prP,szl,cut,aQ];rfl
  ·refine ⟨(.lay [(a,bL (digS (digS s 9) 2) 4),(2,1)],digS (digS (digS (digS s 9) 2) 4) 2),⟨by simp,by simp,by simp;omega,by simp;omega⟩,fun d h i hi=>?_⟩;simp [cW,hi,ek,ea,e,e9,e2,e4,Stp.dat,prP,szl,cut,aQ];rfl
 ·refine ⟨(.call (.one (pF (digS s 9)).1),(pF (digS s 9)).2),cN2 _,fun d h i hi=>?_⟩;have g0:¬ (k:Int)=0:=by omega
  have g1:¬ (k:Int)=1:=by omega
  have g2:¬ (k:Int)=2:=by omega
  have g3:¬ (k:Int)=3:=by omega
  simp [cW,hi,ek,k0,k1,k2,k3,g0,g1,g2,g3,e9,Stp.dat,Call.dat,szl]
noncomputable def sF (s:S3):Stp×S3:=(tI s).choose
noncomputable def dR5 (s:S3):Sok (sF s).1:=(tI s).choose_spec.1
@[simp] theorem cN3 (d:Nat) (h:aA) {i:Nat} (s:S3) (hi:i < h.length):aE T (d+4) "_law_step" [.c i] (h.set i (stL s))=some ((sF s).1.dat,h.set i (stL (sF s).2)):=(tI s).choose_spec.2 d h i hi
end K65
set_option maxHeartbeats 4000000
namespace K65
open PySem PySem.Spec PyProof.Rows L2 DL CI SJ
theorem vY {n:Nat}:∀ (l:List Nat) (a:Nat),l.Pairwise (· < ·)->(∀ x∈l,a<=x/\x < n)->a<=n->l.length+a<=n
 | [],a,_,_,h=>by simpa using h
 | x::r,a,hp,hb,h=>by
  have hp':=List.pairwise_cons.mp hp;have hx:=hb x List.mem_cons_self;have:=vY r (x+1) hp'.2 (fun y hy=>⟨hp'.1 y hy,(hb y (List.mem_cons_of_mem _ hy)).2⟩) hx.2;rw [List.length_cons];omega
noncomputable def aA5 {ps:List (Nat×Int)} (h:Sok (.lay ps)):ps.length<=8:=by
 have:=vY (n:=8) (ps.map (·.1)) 0 h.2.2.2 (fun x hx=>by
  obtain ⟨p,hp,rfl⟩:=List.mem_map.mp hx;exact ⟨Nat.zero_le _,h.2.2.1 p hp⟩) (by decide)
 simpa using this
variable (d:Nat) (h:aA)
noncomputable def dnC (st:List Int):SJ.Call->SJ.Ans×List Int
 | .one o=>(.one (sd st o).1,(sd st o).2)
 | .span lo hi=>(.all ((st.drop lo).take (hi - lo)),st)
 | .deal cs=>(.each (dr st cs).1,(dr st cs).2)
noncomputable def bN4 {c:SJ.Call} (hc:c.ok) {st:List Int} (hl:st.length=8):(dnC st c).2.length=8:=by
 cases c with
 | one o=>rw [<- hl];exact yI (by rw [hl];exact hc)
 | span lo hi=>exact hl
 | deal cs=>rw [<- hl];exact yJ cs st fun o ho=>by rw [hl];exact hc.2.2 o ho
noncomputable def vZ {c:SJ.Call} (hc:c.ok) {st:List Int} (hl:st.length=8):Ans.fits c (dnC st c).1:=by
 cases c with
 | one o=>exact aA2 st o
 | span lo hi =>
  have h1:=hc.1;have h2:=hc.2;show ((st.drop lo).take (hi - lo)).length=hi - lo;simp;omega
 | deal cs=>exact aY2 cs st
noncomputable def rA {c:SJ.Call} (hc:c.ok) (st:List Int) (hl:st.length=8):aE T (d+4) "done" [.d (.tuple (st.map .int)),.d c.dat] h=some (.tuple [(dnC st c).1.dat,.tuple ((dnC st c).2.map .int)],h):=by
 cases c with
 | one o=>exact aY4 (d+1) h o st hc hl
 | span lo hi=>exact aJ2 (d+3) h lo hi (Nat.le_of_lt hc.1) hc.2 st hl
 | deal cs=>exact aJ0 d h cs hc.2.2 (by have:=hc.1;omega) st hl
noncomputable def dnS (st:List Int):Stp->PyData×List Int
 | .call c=>((dnC st c).1.dat,(dnC st c).2)
 | .look c=>((dnC st c).1.dat,st)
 | .lay ps=>(.tuple [.str "done"],ly st ps)
noncomputable def bN5 {p:Stp} (hp:Sok p) {st:List Int} (hl:st.length=8):(dnS st p).2.length=8:=by
 cases p with
 | call c=>exact bN4 hp hl
 | look c=>exact hl
 | lay ps=>rw [<- hl];exact aY3 ps st fun p hp'=>by rw [hl];exact hp.2.2.1 p hp'
noncomputable def cN4 {p:Stp} (hp:Sok p) {st:List Int} (hl:st.length=8):aE T (d+5) "done" [.d (.tuple (st.map .int)),.d p.dat] h=some (.tuple [(dnS st p).1,.tuple ((dnS st p).2.map .int)],h):=by
 cases p with
 | call c=>exact rA (d+1) h hp st hl
 | look c=>exact aJ1 d h fun h=>rA d h hp st hl
 | lay ps=>exact aY5 (d+2) h ps hp.2.2.1 st hl
noncomputable def oR:Stp->PyData->Bool
 | .call c,t=>aM t "refused" 1||bN c t
 | .look c,t=>!aM t "refused" 1&&bN c t
 | .lay _,t=>!aM t "refused" 1&&aM t "done" 1
noncomputable def cN5 (a:SJ.Ans):aM a.dat "refused" 1=false:=by
 cases a with
 | one a=>cases a<;>simp [Ans.dat,An1.dat,aM]
 | all ns=>simp [Ans.dat,aM]
 | each as=>simp [Ans.dat,aM]
noncomputable def wA {c:SJ.Call} (hc:c.ok) {a:SJ.Ans} (hf:Ans.fits c a):oR (.call c) a.dat=true/\oR (.look c) a.dat=true:=by
 simp [oR,aF4 hf hc,cN5]
end K65
set_option maxHeartbeats 400000
namespace K65
open PySem PySem.Spec PyProof.Rows L2 DL CI SJ
variable (d:Nat) (h:aA) (t:PyData)
noncomputable def aY6 (c:SJ.Call):aE T (d+5) "is_own_answer" [.d (.tuple [.str "look",c.dat]),.d t] h=some (.bool (bN c t),h):=by
 rw [show d+5=(d+4)+1 from rfl,bC];simp [PyData.eqv,szl,oN]
noncomputable def bN6 (ps:PyData):aE T (d+5) "is_own_answer" [.d (.tuple [.str "lay",ps]),.d t] h=some (.bool (aM t "done" 1),h):=by
 simp [bC,PyData.eqv,szl]
noncomputable def aY7 {c:SJ.Call} (hc:c.ok):aE T (d+9) "is_answer" [.d (.tuple [.str "look",c.dat]),.d t] h=some (.bool (!aM t "refused" 1&&bN c t),h):=by
 have hs:cX (.tuple [.str "look",c.dat])=true:=by
  cases c with
  | one o=>cases o<;>simp [Call.dat,One.dat,cX]
  | span lo hi=>simp [Call.dat,cX]
  | deal cs=>simp [Call.dat,cX]
 simp [iH,dP (d) _ h hs,(iQ hc).2.1,(iQ hc).1];cases e:aM t (Str.ofString "refused") 1
 ·simp [aY6 (d+3)]
 ·simp [(iQ hc).1]
noncomputable def bN7 {ps:List (Nat×Int)} (hp:Sok (.lay ps)):aE T (d+9) "is_answer" [.d (.tuple [.str "lay",.tuple (ps.map prP)]),.d t] h=some (.bool (!aM t "refused" 1&&aM t "done" 1),h):=by
 have hl:=aA5 hp;have hs:cX (.tuple [.str "lay",.tuple (ps.map prP)])=true:=by simp [cX];omega
 have hg:=aP9 hp.1 hp.2.2.2 hp.2.2.1 hl;simp [iH,dP (d) _ h hs,hg];cases e:aM t (Str.ofString "refused") 1
 ·simp [bN6 (d+3)]
 ·simp [hg]
noncomputable def wB {p:Stp} (hp:Sok p):aE T (d+9) "is_answer" [.d p.dat,.d t] h=some (.bool (oR p t),h):=by
 cases p with
 | call c=>exact yG d t h hp
 | look c=>exact aY7 d h t hp
 | lay ps=>exact bN7 d h t hp
noncomputable def wC {p:Stp} (hp:Sok p):aE T (d+8) "is_step" [.d p.dat] h=some (.bool true,h):=by
 cases p with
 | call c =>
  rw [show (Stp.call c).dat=c.dat from rfl,dP _ _ _ (oO hp),(fR hp).2.1]
 | look c =>
  have hs:cX (.tuple [.str "look",c.dat])=true:=by
   cases c with
   | one o=>cases o<;>simp [Call.dat,One.dat,cX]
   | span lo hi=>simp [Call.dat,cX]
   | deal cs=>simp [Call.dat,cX]
  rw [show (Stp.look c).dat=.tuple [.str "look",c.dat] from rfl,dP _ _ _ hs,(iQ hp).2.1]
 | lay ps=>exact yH d h hp.1 (by have:=aA5 hp;omega) hp.2.2.1 hp.2.2.2
end K65
namespace K65
open PySem PySem.Spec PyProof.Rows L2 DL CI SJ
structure It where
 p:Stp
 t:PyData
 w:String
noncomputable def It.dat (x:It):PyData:=.tuple [x.p.dat,x.t,.str (Str.ofString x.w)]
noncomputable def dB7:PyData:=.tuple [.str "refused"]
def tOk (t:PyData):Prop:=t=.none\/t=dB7\/∃ a:SJ.Ans,t=a.dat
structure It.ok (x:It):Prop where
 s:Sok x.p
 a:x.t=.none\/oR x.p x.t=true
 t:tOk x.t
 w:x.w="must"\/x.w="may"\/x.w="out"
variable (d:Nat) (h:aA)
noncomputable def t_cases {t:PyData} (ht:tOk t):t=.none\/∃ xs,t=.tuple xs:=by
 rcases ht with rfl | rfl | ⟨a,rfl⟩
 ·exact .inl rfl
 ·exact .inr ⟨_,rfl⟩
 ·right;cases a with
  | one a=>cases a<;>exact ⟨_,rfl⟩
  | all ns=>exact ⟨_,rfl⟩
  | each as=>exact ⟨_,rfl⟩
noncomputable def wD {w:String} (hw:w="must"\/w="may"\/w="out"):xIn (.d (.str (Str.ofString w))) (.d (.tuple [.str (Str.ofString "must"),.str (Str.ofString "may"),.str (Str.ofString "out")])) h=some true:=by
 rcases hw with rfl | rfl | rfl<;>simp [xIn,ref,PyData.eqv]
theorem iT {α:Type} (f:α->PyData):∀ xs:List α,dD (xs.map ((fun _=>PyData.bool true) ∘ f))=some (xs.map fun _=>true)
 | []=>rfl
 | x::r=>by
  show dD (.bool true::r.map ((fun _=>PyData.bool true) ∘ f))=_;rw [dD,iT f r];rfl
noncomputable def rB {x:It} (hx:x.ok):aE T (d+10) "is_item" [.d x.dat] h=some (.bool true,h):=by
 obtain ⟨p,t,w⟩:=x;obtain ⟨hs,ha,ht,hw⟩:=hx;dsimp only at hs ha ht hw;have e1:=wC (d+1) h hs;have e2:=wB d h t hs;rcases t_cases ht with rfl | ⟨xs,rfl⟩
 ·simp [eV,It.dat,cA,e1,isi,fI,wD h hw]
 ·have ha':oR p (.tuple xs)=true:=by
   rcases ha with ha | ha
   ·cases ha
   ·exact ha
  rw [ha'] at e2;simp [eV,It.dat,cA,e1,e2,isi,fI,wD h hw]
noncomputable def iK {xs:List It} (hx:∀ x∈xs,x.ok) (hl:xs.length<=120):aE T (d+11) "are_items" [.d (.tuple (xs.map It.dat))] h=some (.bool true,h):=by
 have hl':(xs.length:Int)<=120:=by omega
 simp [fL,isi,fI,hl',aQ];rw [bQ (fun x=>.bool true) 0 (fun _ _ _=>rfl)]
 ·simp [iT]
 ·intro y hy u;obtain ⟨x,hx',rfl⟩:=List.mem_map.mp hy;simp [rB d h (hx x hx')]
noncomputable def aJ3 {ns:List Int} {n:Int} (hb:∀ x∈ns,0<=x/\x < n):aE T (d+3) "are_numbers" [.d (.tuple (ns.map .int)),.d (.int n)] h=some (.bool true,h):=by
 simp [jC,aQ];rw [bQ (fun x=>.bool true) 0 (fun _ _ _=>rfl)]
 ·simp [iT]
 ·intro y hy u;obtain ⟨x,hx',rfl⟩:=List.mem_map.mp hy;have:=hb x hx';simp [cR,gC];omega
theorem rC:∀ ns:List Int,iE (ns.map .int)=some ns
 | []=>rfl
 | a::r=>by simp [iE,rC r]
noncomputable def aY8 {ns:List Int} (h:ns.Nodup):ST.dd ns=ns:=by
 unfold ST.dd
 suffices H:∀ (l ac:List Int),(ac++l).Nodup->l.foldl step_dedup ac=ac++l by simpa using H ns [] (by simpa using h)
 intro l;induction l with
 | nil=>simp
 | cons a r ih =>
  intro ac hn;rw [List.foldl_cons];have hna:a∉ac:=fun hm=>by
   have:=(List.nodup_append.mp hn).2.2 a hm a List.mem_cons_self;exact this rfl
  have e:step_dedup ac a=ac++[a]:=by
   unfold step_dedup;simp [hna]
  rw [e,ih (ac++[a]) (by simpa using hn)];simp
noncomputable def oS {ns:List Int} {n:Int} (hb:∀ x∈ns,0<=x/\x < n) (hd:ns.Nodup) (hl:ns.length<=62):aE T (d+4) "are_unlike" [.d (.tuple (ns.map .int)),.d (.int ns.length),.d (.int n)] h=some (.bool true,h):=by
 have e:=aJ3 d h hb;simp [eO,cA,e,xLS,rC,aY8 hd,hl]
end K65
namespace K65
open PySem PySem.Spec PyProof.Rows L2 DL CI SJ
variable (d:Nat) (h:aA)
noncomputable def p2 (p:Nat×Nat):PyData:=.tuple [.int p.1,.int p.2]
noncomputable def p3 (p:Nat×Nat×Nat):PyData:=.tuple [.int p.1,.int p.2.1,.int p.2.2]
structure Pb where
 st:List Int
 its:List It
 ps:List (Nat×Nat)
 ts:List (Nat×Nat×Nat)
noncomputable def Pb.dat (b:Pb):PyData:=.tuple [.tuple (b.st.map .int),.tuple (b.its.map It.dat),.tuple (b.ps.map p2),.tuple (b.ts.map p3)]
def must (its:List It) (x:Nat):Prop:=∃ y,its[x]?=some y/\y.w="must"
structure Pb.ok (b:Pb):Prop where
 st:b.st.length=8
 il:b.its.length<=120
 its:∀ x∈b.its,x.ok
 pl:b.ps.length<=100
 ps:∀ p∈b.ps,p.1 < b.its.length/\p.2 < b.its.length/\p.1≠p.2
 tl:b.ts.length<=100
 ts:∀ p∈b.ts,p.1 < b.its.length/\p.2.1 < b.its.length/\p.2.2 < b.its.length/\p.1≠p.2.1/\p.1≠p.2.2/\p.2.1≠p.2.2/\must b.its p.1/\must b.its p.2.1
noncomputable def iL {ps:List (Nat×Nat)} {n:Nat} (hl:ps.length<=100) (hp:∀ p∈ps,p.1 < n/\p.2 < n/\p.1≠p.2):aE T (d+5) "are_pairs" [.d (.tuple (ps.map p2)),.d (.int n)] h=some (.bool true,h):=by
 have hl':¬ (4000:Int) < ps.length:=by omega
 simp [lV,isi,fI,hl',aQ];rw [bQ (fun x=>.bool true) 0 (fun _ _ _=>rfl)]
 ·simp [iT]
 ·intro y hy u;obtain ⟨p,hm,rfl⟩:=List.mem_map.mp hy;obtain ⟨h1,h2,h3⟩:=hp p hm;have e:=oS d h (ns:=[(p.1:Int),(p.2:Int)]) (n:=n) (by simp;omega) (by simp;omega) (by simp);have e':aE T (d+4) "are_unlike" [.d (p2 p),.d (.int 2),.d (.int n)] h=some (.bool true,h):=e;simp [e']
noncomputable def aA6 {its:List It} {x:Nat} {y:It} (e:its[x]?=some y):atI (its.map It.dat) (x:Int)=some y.dat:=by
 have hx:x < its.length:=(List.getElem?_eq_some_iff.mp e).1;exact iN (by simp [e])
noncomputable def pC {its:List It} {ts:List (Nat×Nat×Nat)} (hl:ts.length<=100) (hp:∀ p∈ts,p.1 < its.length/\p.2.1 < its.length/\p.2.2 < its.length/\p.1≠p.2.1/\p.1≠p.2.2/\p.2.1≠p.2.2/\must its p.1/\must its p.2.1):aE T (d+5) "are_triples" [.d (.tuple (ts.map p3)),.d (.tuple (its.map It.dat))] h=some (.bool true,h):=by
 have hl':¬ (4000:Int) < ts.length:=by omega
 simp [dS,isi,fI,hl',aQ];rw [bQ (fun x=>.bool true) 0 (fun _ _ _=>rfl)]
 ·simp [iT];rw [qT (fun _=>.bool true) (fun δ=>∃ a b c,δ=[a,b,c,some (.d (.tuple (its.map It.dat)))])]
  ·simp [iT]
  ·exact ⟨_,_,_,rfl⟩
  ·rintro y hy δ ⟨a,b,c,rfl⟩;obtain ⟨p,hm,rfl⟩:=List.mem_map.mp hy;obtain ⟨h1,h2,h3,h4,h5,h6,⟨x1,e1,w1⟩,⟨x2,e2,w2⟩⟩:=hp p hm;refine ⟨[some (.d (.int p.1)),some (.d (.int p.2.1)),some (.d (.int p.2.2)),_],by simp [p3],⟨_,_,_,rfl⟩,?_⟩;simp [aA6 e1,aA6 e2,It.dat,w1,w2,PyData.eqv]
 ·intro y hy u;obtain ⟨p,hm,rfl⟩:=List.mem_map.mp hy;obtain ⟨h1,h2,h3,h4,h5,h6,_⟩:=hp p hm;have e:=oS d h (ns:=[(p.1:Int),(p.2.1:Int),(p.2.2:Int)]) (n:=its.length) (by simp;omega) (by simp;omega) (by simp);have e':aE T (d+4) "are_unlike" [.d (p3 p),.d (.int 3),.d (.int its.length)] h=some (.bool true,h):=e;simp [e']
noncomputable def oT {st:List Int} (hl:st.length=8):aE T (d+3) "is_stand" [.d (.tuple (st.map .int))] h=some (.bool true,h):=by
 have:=dY d h (st.map .int);simp [oJ,cA,hl];simp [gC]
noncomputable def tJ {b:Pb} (hb:b.ok):aE T (d+12) "is_problem" [.d b.dat] h=some (.bool true,h):=by
 have e1:=oT (d+8) h hb.st;have e2:=iK d h hb.its (by have:=hb.il;omega);have e3:=iL (d+6) h hb.pl hb.ps;have e4:=pC (d+6) h hb.tl hb.ts;simp [cE,Pb.dat,cA,e1,e2,e3,e4]
noncomputable def bN8 {b:Pb} (hb:b.ok):aE T (d+13) "check_problem" [.d b.dat] h=some (.none,h):=by
 simp [mI,tJ d h hb]
end K65
namespace K65
open PySem PySem.Spec PyProof.Rows L2 DL CI SJ
variable (d:Nat) (h:aA)
noncomputable def aY9 (a:An1) (n:Nat):aF (n+1) a.dat=true:=by cases a<;>simp [An1.dat]
theorem tK:∀ (ns:List Int) (n:Nat),plainsB n (ns.map .int)=true
 | [],n=>by simp
 | a::r,n=>by simp [tK r]
theorem aA7:∀ (as:List An1) (n:Nat),plainsB (n+1) (as.map An1.dat)=true
 | [],n=>by simp
 | a::r,n=>by simp [aY9,aA7 r]
end K65
namespace K65
open PySem PySem.Spec PyProof.Rows L2 DL CI SJ
theorem lH {c:XR Bool} {tb:XS} {P:DSt->aA->Prop} (I:Nat->DSt->aA->Prop) (h0:∀ δ h,I 0 δ h->c δ h=some (false,h)/\P δ h)
  (hs:∀ k δ h,I (k+1) δ h->c δ h=some (true,h)/\∃ δ' h',tb δ h=some (.nx δ',h')/\I k δ' h'):∀ (n k:Nat) (δ:DSt) (h:aA),k < n->I k δ h->∃ δ' h',dN c tb n δ h=some (.nx δ',h')/\P δ' h'
 | 0,k,δ,h,hk,_=>absurd hk (Nat.not_lt_zero _)
 | n+1,0,δ,h,_,i=>by
  obtain ⟨e,p⟩:=h0 δ h i;exact ⟨δ,h,by simp only [dN,e,bs];rfl,p⟩
 | n+1,k+1,δ,h,hk,i=>by
  obtain ⟨e,δ',h',e2,i2⟩:=hs k δ h i;obtain ⟨δ2,h2,e3,p⟩:=lH I h0 hs n k δ' h' (by omega) i2;exact ⟨δ2,h2,by simp only [dN,e,bs,e2,if_true];exact e3,p⟩
noncomputable def sq {α β:Type} {x:Option α} {f:α->Option β} {R:Option β} (a:α) (e:x=some a) (k:f a=R):x.bind f=R:=by
 rw [e];exact k
noncomputable def sqX {α β:Type} {x:Option α} {f:α->Option β} {P:β->Prop} (a:α) (e:x=some a) (k:∃ b,f a=some b/\P b):∃ b,x.bind f=some b/\P b:=by
 rw [e];exact k
noncomputable def sqE {β:Type} {x:Option (Fl×aA)} {f:Fl×aA->Option β} {P:β->Prop} (J:DSt->aA->Prop) (e:∃ δ' h',x=some (.nx δ',h')/\J δ' h') (k:∀ δ' h',J δ' h'->∃ b,f (.nx δ',h')=some b/\P b):∃ b,x.bind f=some b/\P b:=by
 obtain ⟨δ',h',e,j⟩:=e;rw [e];exact k δ' h' j
noncomputable def rD {α:Type} {x:Option α} {f:α->Option (Fl×aA)} {P:DSt->aA->Prop} (a:α) (e:x=some a) (k:∃ δ2 h2,f a=some (.nx δ2,h2)/\P δ2 h2):∃ δ2 h2,x.bind f=some (.nx δ2,h2)/\P δ2 h2:=by
 rw [e];exact k
noncomputable def Gc (h:aA) (i:Nat) (xs:List PyData) (L:aA) (s:S3):aA:=(h++(Cell.l xs::L)).set i (stL s)
section
variable {h:aA} {i:Nat} (hi:i < h.length)
include hi
noncomputable def G_l (xs:List PyData) (L:aA) (s:S3):(Gc h i xs L s)[h.length]?=some (.l xs):=by
 unfold Gc;rw [List.getElem?_set_ne (by omega)];simp
noncomputable def G_o (xs:List PyData) (L:aA) (c:Cell) (s:S3):(Gc h i xs (L++[c]) s)[h.length+1+L.length]?=some c:=by
 unfold Gc;rw [List.getElem?_set_ne (by omega),List.getElem?_append_right (by omega),show h.length+1+L.length - h.length=L.length+1 by omega];simp
noncomputable def bN9 (xs ys:List PyData) (L:aA) (s:S3):(Gc h i xs L s).set h.length (.l ys)=Gc h i ys L s:=by
 unfold Gc;rw [List.set_comm _ _ (by omega)];simp
noncomputable def bO0 (xs:List PyData) (L:aA) (c c':Cell) (s:S3):(Gc h i xs (L++[c]) s).set (h.length+1+L.length) c'=Gc h i xs (L++[c']) s:=by
 unfold Gc;rw [List.set_comm _ _ (by omega)]
 congr 1
 rw [List.set_append_right _ _ (by omega),show h.length+1+L.length - h.length=L.length+1 by omega];simp
noncomputable def bU8 (xs:List PyData) (L:aA) (c:Cell) (s:S3):Gc h i xs L s++[c]=Gc h i xs (L++[c]) s:=by
 unfold Gc;rw [fX (by simp;omega),List.append_assoc];rfl
noncomputable def G_n (xs:List PyData) (L:aA) (s:S3):(Gc h i xs L s).length=h.length+1+L.length:=by
 have:=hi;unfold Gc;simp;omega
noncomputable def dB8 (xs:List PyData) (L:aA) (s:S3):bP [.c h.length] (Gc h i xs L s)=some (.d (.int xs.length),Gc h i xs L s):=by
 unfold bP ref;dsimp only;rw [G_l hi]
noncomputable def eR (d:Nat) (xs:List PyData) (L:aA) (s:S3) (b:Int) (hb:0 < b) (hb2:bS b=true):aE T (d+2) "_law_digit" [.c i,.d (.int b)] (Gc h i xs L s)=some (.int (bL s b),Gc h i xs L (digS s b)):=tH d _ s b (by simp;omega) hb hb2
noncomputable def aZ0 (xs:List PyData) (L:aA) (c:Cell) (s:S3):Gc h i xs (L++[c]) s=(Gc h i xs (L++[c]) s).set (h.length+1+L.length) c:=(bO0 hi xs L c c s).symm
noncomputable def cN6 (d:Nat) (xs:List PyData) (L:aA) (t s:S3) (b:Int) (hb:0 < b) (hb2:bS b=true):aE T (d+2) "_law_digit" [.c (h.length+1+L.length),.d (.int b)] (Gc h i xs (L++[stL t]) s)=some (.int (bL t b),Gc h i xs (L++[stL (digS t b)]) s):=by
 rw [aZ0 hi,tH d _ t b (by rw [G_n hi];simp) hb hb2,bO0 hi]
noncomputable def dR6 (d:Nat) (xs:List PyData) (L:aA) (t s:S3):aE T (d+4) "_law_step" [.c (h.length+1+L.length)] (Gc h i xs (L++[stL t]) s)=some ((sF t).1.dat,Gc h i xs (L++[stL (sF t).2]) s):=by
 rw [aZ0 hi,cN3 d _ t (by rw [G_n hi];simp),bO0 hi]
noncomputable def dB9 (xs:List PyData) (L:aA) (s s':S3):okP (h.set i (stL s)) (Gc h i xs L s')/\(Gc h i xs L s').take h.length=h.set i (stL s'):=by
 unfold Gc;exact ⟨by rw [dA7 s' hi];trivial,dA9 hi⟩
end
noncomputable def ix_nat {n j:Nat} (hj:j < n):ixN n (j:Int)=some j:=by
 unfold ixN;rw [if_pos (by omega),if_pos (by omega)];simp
theorem yL {α:Type} (f:α->PyData):∀ (l:List α) (j:Nat),(l.map f).eraseIdx j=(l.eraseIdx j).map f
 | [],j=>by simp
 | a::r,0=>by simp
 | a::r,j+1=>by simp [yL f r j]
noncomputable def bmp (e:Int):SJ.Ans->SJ.Ans
 | .one (.got v)=>.one (.got (v+e))
 | a=>a
noncomputable def wE {c:SJ.Call} {a:SJ.Ans} (e:Int) (hf:Ans.fits c a):Ans.fits c (bmp e a):=by
 cases c<;>cases a<;>simp only [Ans.fits] at hf<;>first | exact hf.elim | skip
 ·rename_i o a;cases a<;>first | exact hf | (cases o<;>simp [An1.fits] at hf<;>simp [bmp,Ans.fits,An1.fits])
 ·exact hf
 ·exact hf
noncomputable def aS (st:List Int):Stp->SJ.Ans
 | .call c=>(dnC st c).1
 | .look c=>(dnC st c).1
 | .lay _=>.one .dn
noncomputable def cN7 (st:List Int) (p:Stp):(dnS st p).1=(aS st p).dat:=by cases p<;>rfl
noncomputable def dC0 {p:Stp} (hp:Sok p) {st:List Int} (hl:st.length=8) (e:Int):oR p (bmp e (aS st p)).dat=true:=by
 cases p with
 | call c=>exact (wA hp (wE e (vZ hp hl))).1
 | look c=>exact (wA hp (wE e (vZ hp hl))).2
 | lay ps=>simp [oR,aS,bmp,Ans.dat,An1.dat,aM]
noncomputable def a_hd (a:SJ.Ans):(∃ v,a=.one (.got v))\/∃ (w:String) (xs:List PyData),a.dat=.tuple (.str (Str.ofString w)::xs)/\w≠"got"/\∀ e,bmp e a=a:=by
 cases a with
 | one a =>
  cases a with
  | got v=>exact .inl ⟨v,rfl⟩
  | yes=>exact .inr ⟨"yes",_,rfl,by decide,fun _=>rfl⟩
  | no=>exact .inr ⟨"no",_,rfl,by decide,fun _=>rfl⟩
  | dn=>exact .inr ⟨"done",_,rfl,by decide,fun _=>rfl⟩
 | all ns=>exact .inr ⟨"all",_,rfl,by decide,fun _=>rfl⟩
 | each as=>exact .inr ⟨"each",_,rfl,by decide,fun _=>rfl⟩
noncomputable def wdF (n:Int):String:=if n=4 then "may" else if n=5 then "out" else "must"
noncomputable def dC1 (s:S3):atI [PyData.str (Str.ofString "must"),.str (Str.ofString "must"),.str (Str.ofString "must"),.str (Str.ofString "must"),.str (Str.ofString "may"),.str (Str.ofString "out")] (bL s 6)=some (.str (Str.ofString (wdF (bL s 6)))):=by
 have h1:=lG s (b:=6) (by decide);have h2:=oP s (b:=6) (by decide);have:bL s 6=0\/bL s 6=1\/bL s 6=2\/bL s 6=3\/bL s 6=4\/bL s 6=5:=by omega
 rcases this with e | e | e | e | e | e<;>rw [e]<;>simp [wdF]
noncomputable def dC2 (n:Int):wdF n="must"\/wdF n="may"\/wdF n="out":=by
 unfold wdF;split
 ·exact .inr (.inl rfl)
 ·split
  ·exact .inr (.inr rfl)
  ·exact .inl rfl
noncomputable def aZ1 {α β:Type} {x:Option α} {f:α->Option β} {Q:Option β->Prop} {P:α->Prop} (e:∃ b,x=some b/\P b) (k:∀ b,P b->Q (f b)):Q (x.bind f):=by
 obtain ⟨b,rfl,p⟩:=e;exact k b p
theorem wF:∀ (xs:List PyData) (s:S3) (b:Int),∃ ns:List Int,(thr (fun _ s=>.int (bL s b)) (fun _ s=>digS s b) xs s).1=ns.map .int/\ns.length=xs.length
 | [],s,b=>⟨[],rfl,rfl⟩
 | x::r,s,b=>by
  obtain ⟨cs,e,hl⟩:=wF r (digS s b) b;exact ⟨bL s b::cs,by simp [thr,e],by simp [hl]⟩
abbrev lD (ns:List Int):W:=.d (.list (ns.map .int))
abbrev tD (ns:List Int):W:=.d (.tuple (ns.map .int))
noncomputable def aZ2 {h:aA} {i:Nat} (hi:i < h.length) (xs:List PyData) (L:aA) (s:S3):gF (Str.ofString "append") (.c h.length) (Gc h i xs L s)=true:=by
 simp [gF,G_l hi]
noncomputable def cN8 {h:aA} {i:Nat} (hi:i < h.length) (xs ys:List PyData) (L:aA) (s:S3):gF (Str.ofString "append") (.c (h.length+1+L.length)) (Gc h i xs (L++[.l ys]) s)=true:=by
 simp [gF,G_o hi]
def IQ (ns:List Int) (h:aA) (i n:Nat) (st:List Int) (m:Nat) (δ:DSt) (H:aA):Prop:=∃ (x6 x7 x8 x9 x10 x11:Option W) (st':List Int) (its:List It) (L:aA) (s:S3),δ=[some (lD ns),some (.c i),some (tD st),some (.c h.length),some (tD st'),some (.d (.int n)),x6,x7,x8,x9,x10,x11,none]/\H=Gc h i (its.map It.dat) L s/\its.length=m/\(∀ x∈its,x.ok)/\st'.length=8
noncomputable def aZ3 (o:One) (n:Nat):aF (n+1) o.dat=true:=by cases o<;>simp [One.dat]
theorem aA8:∀ (cs:List One) (n:Nat),plainsB (n+1) (cs.map One.dat)=true
 | [],n=>by simp
 | a::r,n=>by simp [aZ3,aA8 r]
noncomputable def aA9 (c:SJ.Call) (n:Nat):aF (n+3) c.dat=true:=by
 cases c with
 | one o=>exact aZ3 o (n+2)
 | span lo hi=>simp [Call.dat]
 | deal cs=>simp [Call.dat,aA8]
theorem aZ4:∀ (ps:List (Nat×Int)) (n:Nat),plainsB (n+1) (ps.map prP)=true
 | [],n=>by simp
 | a::r,n=>by simp [prP,aZ4 r]
noncomputable def cN9 (p:Stp) (n:Nat):aF (n+4) p.dat=true:=by
 cases p with
 | call c=>exact aA9 c (n+1)
 | look c=>simp [Stp.dat,aA9]
 | lay ps =>
  show aF (n+4) (.tuple [.str "lay",.tuple (ps.map prP)])=true;simp [aZ4]
noncomputable def dC3 (a:SJ.Ans) (n:Nat):aF (n+3) a.dat=true:=by
 cases a with
 | one a=>exact aY9 a (n+2)
 | all ns=>simp [Ans.dat,tK]
 | each as=>simp [Ans.dat,aA7]
noncomputable def dC4 {t:PyData} (ht:tOk t) (n:Nat):aF (n+3) t=true:=by
 rcases ht with rfl | rfl | ⟨a,rfl⟩
 ·simp
 ·simp [dB7]
 ·exact dC3 a n
noncomputable def dC5 {x:It} (hx:x.ok) (n:Nat):aF (n+5) x.dat=true:=by
 simp [It.dat,cN9,dC4 hx.t]
theorem yM:∀ {its:List It},(∀ x∈its,x.ok)->∀ n,plainsB (n+5) (its.map It.dat)=true
 | [],_,n=>by simp
 | a::r,h,n=>by simp [dC5 (h a List.mem_cons_self),yM (fun x hx=>h x (List.mem_cons_of_mem _ hx))]
noncomputable def cO0 {its:List It} (h:∀ x∈its,x.ok):aF 64 (.list (its.map It.dat))=true:=by simp [yM h]
def IW (ns:List Int) (h:aA) (i n:Nat) (st:List Int) (L:aA) (m k:Nat) (δ:DSt) (H:aA):Prop:=∃ (st':List Int) (x6 x7 x8 x9 x10 x11:Option W) (its tu:List It) (s:S3),δ=[some (lD ns),some (.c i),some (tD st),some (.c h.length),some (tD st'),some (.d (.int n)),x6,x7,x8,x9,x10,x11,some (.c (h.length+1+L.length))]/\H=Gc h i (its.map It.dat) (L++[.l (tu.map It.dat)]) s/\its.length=k/\its.length+tu.length=m/\(∀ x∈its,x.ok)/\∀ x∈tu,x.ok
noncomputable def bO1 (d:Nat) (h:aA) {i:Nat} (s:S3) (hi:i < h.length) (ns:List Int):∃ (st:List Int) (its:List It) (s':S3),(st.length=8/\its.length<=60/\∀ x∈its,x.ok)/\aE T (d+6) "_law_items" [lD ns,.c i] (h.set i (stL s))=some (.tuple [.tuple (st.map .int),.tuple (its.map It.dat)],h.set i (stL s')):=by
 have e3:bS 3=true:=by decide
 have e10:bS 10=true:=by decide
 have e51:bS 51=true:=by decide
 have e2:bS 2=true:=by decide
 have e4:bS 4=true:=by decide
 have e6:bS 6=true:=by decide
 have er8:kA 0 8=true:=by decide
 obtain ⟨st,es,hst⟩:=wF (rng 0 8) s 3;have hst8:st.length=8:=by rw [hst];rfl
 obtain ⟨s1,es1⟩:∃ s1,s1=(thr (fun _ s=>.int (bL s 3)) (fun _ s=>digS s 3) (rng 0 8) s).2:=⟨_,rfl⟩;rw [show d+6=(d+5)+1 from rfl,tE];simp only [yB,aI0];refine aZ1 (Q:=fun z:Option (PyData×aA)=>∃ (st:List Int) (its:List It) (s':S3),(st.length=8/\its.length<=60/\∀ x∈its,x.ok)/\z=some (.tuple [.tuple (st.map .int),.tuple (its.map It.dat)],h.set i (stL s'))) (P:=fun b:Fl×aA=>∃ (its:List It) (L:aA) (s':S3),b=(.rt (.d (.tuple [.tuple (st.map .int),.tuple (its.map It.dat)])),Gc h i [] L s')/\its.length<=60/\∀ x∈its,x.ok) ?_ fun b ⟨its,L,s',eb,hl,hx⟩=>⟨st,its,s',⟨hst8,hl,hx⟩,by
  have:=dB9 hi [] L s s';rw [eb];simp [this.1,this.2]⟩
 refine sqX (.nx [some (lD ns),some (.c i),some (tD st),none,none,none,none,none,none,none,none,none,none],h.set i (stL s1)) ?_ ?_
 ·simp [aQ,er8];rw [lC (fun _ s=>.int (bL s 3)) (fun _ s=>digS s 3) 0 (fun _ _ _=>rfl)]
  ·simp [es,<- es1]
  ·intro x _ u s;simp [hi,e3]
 dsimp only;refine sqX (.nx [some (lD ns),some (.c i),some (tD st),some (.c h.length),none,none,none,none,none,none,none,none,none],Gc h i [] [] s1) ?_ ?_
 ·have sa:∀ (s:S3) (L:aA),h.set i (stL s)++L=(h++L).set i (stL s):=fun s L=>fX hi;simp [aV,sa,Gc]
 dsimp only;refine sqX (.nx [some (lD ns),some (.c i),some (tD st),some (.c h.length),some (tD st),none,none,none,none,none,none,none,none],Gc h i [] [] s1) (by simp) ?_;dsimp only;have g1:=eR hi (d+3) [] [] s1 10 (by decide) e10;obtain ⟨n0,en0,hn0⟩:=bX s1 (b:=10) (by decide);rw [en0] at g1;refine sqX (.nx [some (lD ns),some (.c i),some (tD st),some (.c h.length),some (tD st),some (.d (.int n0)),none,none,none,none,none,none,none],Gc h i [] [] (digS s1 10)) (by simp [g1]) ?_;dsimp only;have g2:aE T (d+5) "_law_cell_at" [lD ns,.d (.int 2)] (Gc h i [] [] (digS s1 10))=some (.int (ns.getD 2 0),Gc h i [] [] (digS s1 10)):=yK (d+4) (Gc h i [] [] (digS s1 10)) ns 2;generalize ns.getD 2 0=c2 at g2;obtain ⟨m,em,hm⟩:=bX (digS s1 10) (b:=51) (by decide);have g3:=eR hi (d+3) [] [] (digS s1 10) 51 (by decide) e51;rw [em] at g3;refine sqE (fun δ H=>∃ (n:Nat) (s2:S3),n<=60/\δ=[some (lD ns),some (.c i),some (tD st),some (.c h.length),some (tD st),some (.d (.int n)),none,none,none,none,none,none,none]/\H=Gc h i [] [] s2) ?_ ?_
 ·by_cases z:c2%8=7
  ·refine ⟨_,_,?_,10+m,digS (digS s1 10) 51,by omega,rfl,rfl⟩;simp [g2,z,g3]
  ·refine ⟨_,_,?_,n0,digS s1 10,by omega,rfl,rfl⟩;simp [g2,z]
 rintro _ _ ⟨n,s2,hn,rfl,rfl⟩;dsimp only;have er:kA 0 (n:Int)=true:=eY (by omega) (by omega);refine sqE (IQ ns h i n st n) ?_ ?_
 ·refine rD ((rng 0 n,none),Gc h i [] [] s2) (by simp [er]) ?_;dsimp only;refine fY (fun m=>IQ ns h i n st m) ⟨_,_,_,_,_,_,st,[],[],s2,rfl,rfl,rfl,(fun _ z=>nomatch z),hst8⟩ (fun δ h'=>by rw [CI.rng_len];exact id) fun m hm δ H r=>?_;obtain ⟨x6,x7,x8,x9,x10,x11,st',its,L,s3,rfl,rfl,hl,hok,hst'⟩:=r;have hm':m < n:=by simpa [rng] using hm
  rw [CI.rng_get];obtain ⟨xs,exs⟩:∃ xs,xs=its.map It.dat:=⟨_,rfl⟩;rw [<- exs];have ez:(0:Int)+m=m:=by omega
  rw [ez];refine ⟨[some (lD ns),some (.c i),some (tD st),some (.c h.length),some (tD st'),some (.d (.int n)),some (.d (.int m)),x7,x8,x9,x10,x11,none],Gc h i xs L s3,rfl,?_⟩;have k1:=yK (d+4) (Gc h i xs L s3) ns (3+m);have ek:((3+m:Nat):Int)=3+(m:Int):=by omega
  rw [ek] at k1;obtain ⟨c,ec⟩:∃ c,c=ns.getD (3+m) 0:=⟨_,rfl⟩;rw [<- ec] at k1;refine dX [some (lD ns),some (.c i),some (tD st),some (.c h.length),some (tD st'),some (.d (.int n)),some (.d (.int m)),some (.d (.int c)),x8,x9,x10,x11,none] (Gc h i xs L s3) (by simp [k1]) ?_;dsimp only;obtain ⟨t,et⟩:∃ t:S3,t=(c / 2,c%2,c+97*m):=⟨_,rfl⟩;obtain ⟨j,ej⟩:∃ j,j=h.length+1+L.length:=⟨_,rfl⟩;refine dX [some (lD ns),some (.c i),some (tD st),some (.c h.length),some (tD st'),some (.d (.int n)),some (.d (.int m)),some (.d (.int c)),some (.c j),x9,x10,x11,none] (Gc h i xs (L++[stL t]) s3) (by
   have h97:=sU (i:=97) (by decide) (by decide) (m:Int);rw [<- bU8 hi];simp [aV,e2,h97,et,stL,szl,ej,G_n hi]) ?_
  dsimp only;have k2:=dR6 hi (d+1) xs L t s3;rw [<- ej] at k2;obtain ⟨p,t1,ep⟩:∃ p t1,sF t=(p,t1):=⟨_,_,rfl⟩;have hp:Sok p:=by have:=dR5 t;rw [ep] at this;exact this
  rw [ep] at k2;dsimp only at k2;refine dX [some (lD ns),some (.c i),some (tD st),some (.c h.length),some (tD st'),some (.d (.int n)),some (.d (.int m)),some (.d (.int c)),some (.c j),some (.d p.dat),x10,x11,none] (Gc h i xs (L++[stL t1]) s3) (by simp [k2]) ?_;dsimp only;have k3:=cN4 d (Gc h i xs (L++[stL t1]) s3) hp hst';rw [cN7] at k3;refine dX [some (lD ns),some (.c i),some (tD st),some (.c h.length),some (tD (dnS st' p).2),some (.d (.int n)),some (.d (.int m)),some (.d (.int c)),some (.c j),some (.d p.dat),some (.d (aS st' p).dat),x11,none] (Gc h i xs (L++[stL t1]) s3) (by simp [k3]) ?_;dsimp only;refine qU (fun δ H=>∃ (e:Int) (t2:S3),δ=[some (lD ns),some (.c i),some (tD st),some (.c h.length),some (tD (dnS st' p).2),some (.d (.int n)),some (.d (.int m)),some (.d (.int c)),some (.c j),some (.d p.dat),some (.d (bmp e (aS st' p)).dat),x11,none]/\H=Gc h i xs (L++[stL t2]) s3) ?_ ?_
  ·rcases a_hd (aS st' p) with ⟨v,ev⟩ | ⟨w,ys,ed,hw,hb⟩
   ·have k4:=cN6 hi (d+3) xs L t1 s3 4 (by decide) e4;rw [<- ej] at k4;refine ⟨_,_,?_,bL t1 4 / 3,digS t1 4,rfl,rfl⟩;rw [ev];simp [Ans.dat,An1.dat,bmp,PyData.eqv,k4,e3,szl]
   ·refine ⟨_,_,?_,0,t1,rfl,rfl⟩;rw [hb,ed];simp [PyData.eqv,hw]
  rintro _ _ ⟨e,t2,rfl,rfl⟩;dsimp only;have k5:=cN6 hi (d+3) xs L t2 s3 6 (by decide) e6;rw [<- ej] at k5;have k6:=dC1 t2;refine dX [some (lD ns),some (.c i),some (tD st),some (.c h.length),some (tD (dnS st' p).2),some (.d (.int n)),some (.d (.int m)),some (.d (.int c)),some (.c j),some (.d p.dat),some (.d (bmp e (aS st' p)).dat),some (.d (.str (Str.ofString (wdF (bL t2 6))))),none] (Gc h i xs (L++[stL (digS t2 6)]) s3) (by simp [k5,k6,szl,aQ]) ?_;dsimp only;have k7:=cN6 hi (d+3) xs L (digS t2 6) s3 3 (by decide) e3;rw [<- ej] at k7;obtain ⟨A,eA,hA⟩:∃ A,atI [(bmp e (aS st' p)).dat,(bmp e (aS st' p)).dat,PyData.none] (bL (digS t2 6) 3)=some A/\(A=.none\/A=(bmp e (aS st' p)).dat):=by
   have:=lG (digS t2 6) (b:=3) (by decide);have:=oP (digS t2 6) (b:=3) (by decide);have:bL (digS t2 6) 3=0\/bL (digS t2 6) 3=1\/bL (digS t2 6) 3=2:=by omega
   rcases this with z | z | z<;>rw [z]
   ·exact ⟨_,by simp,.inr rfl⟩
   ·exact ⟨_,by simp,.inr rfl⟩
   ·exact ⟨_,by simp,.inl rfl⟩
  have k8:=G_l hi xs (L++[stL (digS (digS t2 6) 3)]) s3;have k8':=G_l hi xs (L++[stL (digS t2 6)]) s3;have k9:=bN9 hi xs (xs++[It.dat (It.mk p A (wdF (bL t2 6)))]) (L++[stL (digS (digS t2 6) 3)]) s3;have hx60:xs.length < 16777216:=by rw [exs];simp;omega
  refine ⟨[some (lD ns),some (.c i),some (tD st),some (.c h.length),some (tD (dnS st' p).2),some (.d (.int n)),some (.d (.int m)),some (.d (.int c)),some (.c j),some (.d p.dat),some (.d (bmp e (aS st' p)).dat),some (.d (.str (Str.ofString (wdF (bL t2 6))))),none],Gc h i ((its++[It.mk p A (wdF (bL t2 6))]).map It.dat) (L++[stL (digS (digS t2 6) 3)]) s3,?_,_,_,_,_,_,_,(dnS st' p).2,its++[It.mk p A (wdF (bL t2 6))],L++[stL (digS (digS t2 6) 3)],s3,rfl,rfl,by simp [hl],fun x hx=>?_,bN5 hp hst'⟩
  ·rw [List.map_append,<- exs,List.map_singleton,<- k9];simp [k7,k8,k8',aZ2 hi,eA,szl,hx60,It.dat,aQ]
  ·rcases List.mem_append.mp hx with hx | hx
   ·exact hok x hx
   ·rw [List.mem_singleton.mp hx];refine ⟨hp,?_,?_,dC2 _⟩
    ·rcases hA with z | z
     ·exact .inl z
     ·exact .inr (by show oR p A=true;rw [z];exact dC0 hp hst' e)
    ·rcases hA with z | z
     ·exact .inl z
     ·exact .inr (.inr ⟨_,z⟩)
 rintro _ _ ⟨x6,x7,x8,x9,x10,x11,st',its,L,s3,rfl,rfl,hl,hok,hst'⟩;dsimp only;refine sqX (.nx [some (lD ns),some (.c i),some (tD st),some (.c h.length),some (tD st'),some (.d (.int n)),x6,x7,x8,x9,x10,x11,some (.c (h.length+1+L.length))],Gc h i (its.map It.dat) (L++[.l []]) s3) (by rw [<- bU8 hi];simp [aV,G_n hi]) ?_;dsimp only;refine sqE (IW ns h i n st L n 0) ?_ ?_
 ·refine lH (IW ns h i n st L n) ?_ ?_ 1000 n _ _ (by omega) ⟨st',_,_,_,_,_,_,its,[],s3,rfl,rfl,hl,by simp [hl],hok,fun _ z=>nomatch z⟩
  ·rintro _ _ ⟨st',x6,x7,x8,x9,x10,x11,its,tu,s,rfl,rfl,hk,hm,h1,h2⟩;have hz:its=[]:=List.eq_nil_of_length_eq_zero hk;refine ⟨?_,st',x6,x7,x8,x9,x10,x11,its,tu,s,rfl,rfl,hk,hm,h1,h2⟩;have g:=G_l hi [] (L++[.l (tu.map It.dat)]) s;subst hz;simp [aQ,xEq,ref,g,PyData.eqv,PyData.eqvAll]
  ·rintro k _ _ ⟨st',x6,x7,x8,x9,x10,x11,its,tu,s,rfl,rfl,hk,hm,h1,h2⟩;obtain ⟨x,r,er⟩:∃ x r,its=x::r:=by
    cases its with
    | nil=>simp at hk
    | cons x r=>exact ⟨x,r,rfl⟩
   have lo:(0:Int) < its.length:=by omega
   have g0:=G_l hi (its.map It.dat) (L++[.l (tu.map It.dat)]) s;have hne:∃ y ys,its.map It.dat=y::ys:=⟨x.dat,r.map It.dat,by rw [er];rfl⟩;obtain ⟨j,ej,hj⟩:=bX s (b:=its.length) lo;have hj':j < its.length:=by omega
   have g1:=eR hi (d+3) (its.map It.dat) (L++[.l (tu.map It.dat)]) s its.length lo (eL lo (by omega));rw [ej] at g1;have g2:=dB8 hi (its.map It.dat) (L++[.l (tu.map It.dat)]) s;rw [List.length_map] at g2;obtain ⟨s',es'⟩:∃ s',s'=digS s its.length:=⟨_,rfl⟩;rw [<- es'] at g1;have g3:uZ h.length [.d (.int j)] (Gc h i (its.map It.dat) (L++[.l (tu.map It.dat)]) s')=some (.d its[j].dat,Gc h i ((its.eraseIdx j).map It.dat) (L++[.l (tu.map It.dat)]) s'):=by
    unfold uZ;rw [G_l hi];have e2:(its.map It.dat)[j]?=some its[j].dat:=by simp [hj']
    simp only [ix_nat (n:=(its.map It.dat).length) (j:=j) (by simpa using hj'),e2,bs];rw [if_pos ⟨by omega,by omega⟩,yL,bN9 hi]
   have g4:=G_o hi ((its.eraseIdx j).map It.dat) L (.l (tu.map It.dat)) s';have g5:=bO0 hi ((its.eraseIdx j).map It.dat) L (.l (tu.map It.dat)) (.l ((tu++[its[j]]).map It.dat)) s';have ht:tu.length < 16777216:=by omega
   refine ⟨?_,[some (lD ns),some (.c i),some (tD st),some (.c h.length),some (tD st'),some (.d (.int n)),x6,x7,x8,x9,x10,x11,some (.c (h.length+1+L.length))],Gc h i ((its.eraseIdx j).map It.dat) (L++[.l ((tu++[its[j]]).map It.dat)]) s',?_,st',x6,x7,x8,x9,x10,x11,its.eraseIdx j,tu++[its[j]],s',rfl,rfl,?_,?_,?_,?_⟩
   ·obtain ⟨y,ys,ey⟩:=hne;have hpl:aF 64 (.list (its.map It.dat))=true:=cO0 h1;simp [aQ,xEq,ref,g0,hpl];rw [ey];simp [PyData.eqv,PyData.eqvAll]
   ·have g6:=cN8 hi (its.map It.dat) (tu.map It.dat) L s;rw [<- g5];simp [g0,g1,g2,g3,g4,g6,ht,szl]
   ·rw [List.length_eraseIdx];simp [hj'];omega
   ·rw [List.length_eraseIdx,List.length_append];simp [hj'];omega
   ·exact fun y hy=>h1 y (List.mem_of_mem_eraseIdx hy)
   ·intro y hy;rcases List.mem_append.mp hy with hy | hy
    ·exact h2 y hy
    ·rw [List.mem_singleton.mp hy];exact h1 _ (List.getElem_mem hj')
 rintro _ _ ⟨st'',x6,x7,x8,x9,x10,x11,its2,tu,s5,rfl,rfl,hk,hm,h1,h2⟩;dsimp only;have hz:its2=[]:=List.eq_nil_of_length_eq_zero hk;subst hz;have g:=G_o hi [] L (.l (tu.map It.dat)) s5;refine ⟨(.rt (.d (.tuple [.tuple (st.map .int),.tuple (tu.map It.dat)])),Gc h i [] (L++[.l (tu.map It.dat)]) s5),?_,tu,_,s5,rfl,by simp at hm;omega,h2⟩;simp [ref,g,szl,bU]
noncomputable def nI (k:Nat):PyData:=.int k
noncomputable def aJ4 (its:List It) (k:Nat):Bool:=match its[k]? with
 | some y=>decide (y.w="must")
 | none=>false
noncomputable def mus (its:List It):List Nat:=(List.range its.length).filter (aJ4 its)
noncomputable def rst (n a b:Nat):List Nat:=(List.range n).filter fun z=>decide (z≠a)&&decide (z≠b)
noncomputable def tL (n:Nat):rng 0 n=(List.range n).map nI:=cM6 n
noncomputable def aZ5 (p:PyData->Bool) (q:Nat->Bool) (n:Nat) (h:∀ k,k < n->p (nI k)=q k):((rng 0 n).filter p).map id=((List.range n).filter q).map nI:=by
 rw [tL,List.map_id,List.filter_map]
 congr 1
 exact List.filter_congr fun k hk=>h k (List.mem_range.mp hk)
noncomputable def mW {its:List It} {x:Nat} (h:x∈mus its):x < its.length/\must its x:=by
 obtain ⟨h1,h2⟩:=List.mem_filter.mp h;have hx:=List.mem_range.mp h1;refine ⟨hx,its[x],by simp [hx],?_⟩
 simpa [aJ4,hx] using h2
noncomputable def aJ5 (its:List It):(mus its).Nodup:=List.Pairwise.filter _ List.nodup_range
noncomputable def bO2 {n a b:Nat} (hn:2 < n):0 < (rst n a b).length:=by
 apply List.length_pos_iff.mpr;intro e;have hz:∀ z,z < 3->z=a\/z=b:=fun z hz=>by
  by_cases h:z≠a/\z≠b
  ·have:z∈rst n a b:=List.mem_filter.mpr ⟨List.mem_range.mpr (by omega),by simp [h.1,h.2]⟩;rw [e] at this;cases this
  ·omega
 have h0:=hz 0 (by omega);have h1:=hz 1 (by omega);have h2:=hz 2 (by omega);omega
noncomputable def oU {l:List Nat} {x:Nat} (h:x < l.length):l.getD x 0∈l:=by
 rw [List.getD_eq_getElem?_getD,List.getElem?_eq_getElem h];exact List.getElem_mem h
noncomputable def aZ6 {n x y:Nat} (hx:x < n) (hy:y+1 < n):x≠(x+1+y)%n:=by
 by_cases h:x+1+y < n
 ·rw [Nat.mod_eq_of_lt h];omega
 ·rw [Nat.mod_eq_sub_mod (by omega),Nat.mod_eq_of_lt (by omega)];omega
noncomputable def pM (its:List It):PyData->Bool
 | .int k=>aJ4 its k.toNat
 | _=>false
noncomputable def pR (a b:Nat):PyData->Bool
 | .int k=>decide (k≠a)&&decide (k≠b)
 | _=>false
noncomputable def aZ7 {l:List Nat} {x:Nat} (h:x < l.length):atI (l.map nI) (x:Int)=some (.int (l.getD x 0)):=by
 apply iN;rw [List.getElem?_map,List.getElem?_eq_getElem h,List.getD_eq_getElem?_getD,List.getElem?_eq_getElem h];rfl
noncomputable def cO1 (h:aA) (q A B:Nat):xIn (.d (nI q)) (.d (.tuple [.int A,.int B])) h=some (!(pR A B (nI q))):=by
 have e1:((A:Int)==(q:Int))=((q:Int)==A):=by
  rw [Bool.eq_iff_iff];simp;omega
 simp [xIn,ref,nI,pR,PyData.eqv]
 by_cases h1:(q:Int)=A<;>by_cases h2:(q:Int)=B<;>simp [h1,h2]<;>omega
theorem jM {α:Type} {f:α->PyData} {R:α->Prop}:∀ {F:List PyData},(∀ x∈F,∃ p,x=f p/\R p)->∃ ps:List α,F=ps.map f/\∀ p∈ps,R p
 | [],_=>⟨[],rfl,fun _ z=>nomatch z⟩
 | x::r,h=>by
  obtain ⟨p,rfl,hp⟩:=h x List.mem_cons_self;obtain ⟨ps,rfl,hps⟩:=jM fun y hy=>h y (List.mem_cons_of_mem _ hy);exact ⟨p::ps,rfl,fun q hq=>by
   rcases List.mem_cons.mp hq with rfl | hq
   ·exact hp
   ·exact hps q hq⟩
def tO (its:List It) (p:Nat×Nat×Nat):Prop:=p.1 < its.length/\p.2.1 < its.length/\p.2.2 < its.length/\p.1≠p.2.1/\p.1≠p.2.2/\p.2.1≠p.2.2/\must its p.1/\must its p.2.1
def IT (h:aA) (i:Nat) (its:List It) (sz:Int) (Q:PyData->Prop) (m:Nat) (δ:DSt) (H:aA):Prop:=∃ (x3 x6 x7 x8:Option W) (F:List PyData) (s:S3),δ=[some (.d (.tuple (its.map It.dat))),some (.c i),some (.d (.int sz)),x3,some (.d (.list ((mus its).map nI))),some (.c h.length),x6,x7,x8]/\H=Gc h i F [] s/\F.length<=m/\∀ x∈F,Q x
noncomputable def aZ8 (d:Nat) (h:aA) {i:Nat} (s:S3) (hi:i < h.length) {its:List It} (hn:its.length<=60) (sz:Int) (hsz:sz=2\/sz=3) (Q:PyData->Prop)
  (q2:sz=2->∀ p:Nat×Nat,p.1 < its.length/\p.2 < its.length/\p.1≠p.2->Q (p2 p)) (q3:sz=3->∀ p:Nat×Nat×Nat,tO its p->Q (p3 p)) :
  ∃ (F:List PyData) (s':S3),(F.length<=8/\∀ x∈F,Q x)/\aE T (d+3) "_law_ties" [.d (.tuple (its.map It.dat)),.c i,.d (.int sz)] (h.set i (stL s))=some (.tuple F,h.set i (stL s')):=by
 have e9:bS 9=true:=by decide
 have en:kA 0 (its.length:Int)=true:=eY (by omega) (by omega);rw [show d+3=(d+2)+1 from rfl,vT];simp only [yB,aI0];refine aZ1 (Q:=fun z:Option (PyData×aA)=>∃ (F:List PyData) (s':S3),(F.length<=8/\∀ x∈F,Q x)/\z=some (.tuple F,h.set i (stL s'))) (P:=fun b:Fl×aA=>∃ (F:List PyData) (s':S3),b=(.rt (.d (.tuple F)),Gc h i F [] s')/\F.length<=8/\∀ x∈F,Q x) ?_ fun b ⟨F,s',eb,hl,hx⟩=>⟨F,s',⟨hl,hx⟩,by
  have:=dB9 hi F [] s s';rw [eb];simp [this.1,this.2]⟩
 refine sqX (.nx [some (.d (.tuple (its.map It.dat))),some (.c i),some (.d (.int sz)),none,some (.d (.list ((mus its).map nI))),none,none,none,none],h.set i (stL s)) ?_ ?_
 ·simp [szl,en,aQ];rw [mS (pM its) id (fun δ=>∃ a,δ=[a,some (.d (.tuple (its.map It.dat)))]) _ _ _ ⟨_,rfl⟩ (fun z hz δ ⟨a,e⟩=>by
   subst e;rw [tL] at hz;obtain ⟨q,hq,rfl⟩:=List.mem_map.mp hz;have hq:=List.mem_range.mp hq;have e6:=aA6 (List.getElem?_eq_getElem hq);refine ⟨[some (.d (nI q)),_],rfl,⟨_,rfl⟩,?_,fun _=>by simp⟩;simp [nI,e6,It.dat,PyData.eqv,pM,aJ4,hq];try rfl)]
  rw [List.nil_append,aZ5 (pM its) (aJ4 its) its.length (fun k _=>by simp [pM,nI])];simp [mus]
 dsimp only;refine sqX (.nx [some (.d (.tuple (its.map It.dat))),some (.c i),some (.d (.int sz)),none,some (.d (.list ((mus its).map nI))),some (.c h.length),none,none,none],Gc h i [] [] s) ?_ ?_
 ·have sa:∀ (s:S3) (L:aA),h.set i (stL s)++L=(h++L).set i (stL s):=fun s L=>fX hi;simp [aV,sa,Gc]
 dsimp only;obtain ⟨k,ek,hk⟩:=bX s (b:=9) (by decide);have er:kA 0 (k:Int)=true:=eY (by omega) (by omega);have g0:=eR hi d [] [] s 9 (by decide) e9;rw [ek] at g0;refine sqE (IT h i its sz Q k) ?_ ?_
 ·refine rD ((rng 0 k,none),Gc h i [] [] (digS s 9)) (by simp [g0,er]) ?_;dsimp only;refine fY (fun m=>IT h i its sz Q m) ⟨_,_,_,_,[],digS s 9,rfl,rfl,Nat.zero_le _,fun _ z=>nomatch z⟩ (fun δ h'=>by rw [CI.rng_len];exact id) fun m hm δ H r=>?_;obtain ⟨x3,x6,x7,x8,F,t,rfl,rfl,hl,hx⟩:=r;have hm':m < k:=by simpa [rng] using hm
  generalize (rng 0 k)[m]=v6;have l1:F.length < 16777216:=by omega
  refine ⟨[some (.d (.tuple (its.map It.dat))),some (.c i),some (.d (.int sz)),x3,some (.d (.list ((mus its).map nI))),some (.c h.length),some (.d v6),x7,x8],Gc h i F [] t,rfl,?_⟩;rcases hsz with rfl | rfl
  ·refine qU (fun δ H=>∃ (x3:Option W) (F:List PyData) (t:S3),δ=[some (.d (.tuple (its.map It.dat))),some (.c i),some (.d (.int 2)),x3,some (.d (.list ((mus its).map nI))),some (.c h.length),some (.d v6),x7,x8]/\H=Gc h i F [] t/\F.length<=m+1/\∀ x∈F,Q x) ?_ ?_
   ·by_cases h1:1 < its.length
    ·have h1':(1:Int) < its.length:=by omega
     obtain ⟨x,ex,hx'⟩:=bX t (b:=its.length) (by omega);obtain ⟨y,ey,hy⟩:=bX (digS t its.length) (b:=its.length - 1) (by omega);have d1:=eR hi d F [] t its.length (by omega) (eL (by omega) (by omega));have d2:=eR hi d F [] (digS t its.length) (its.length - 1) (by omega) (eL (by omega) (by omega));have dn:bS (its.length:Int)=true:=eL (by omega) (by omega);have h0n:0 < its.length:=by omega
     have em:((x:Int)+1+y)%(its.length:Int)=(((x+1+y)%its.length:Nat):Int):=by simp
     have hne:=aZ6 (n:=its.length) (x:=x) (y:=y) (by omega) (by omega);have hlt:(x+1+y)%its.length < its.length:=Nat.mod_lt _ h0n;obtain ⟨y2,ey2⟩:∃ y2,y2=(x+1+y)%its.length:=⟨_,rfl⟩;rw [<- ey2] at em hne hlt;have gs:=bN9 hi F (F++[p2 (x,y2)]) [] (digS (digS t its.length) (its.length - 1));refine ⟨_,Gc h i (F++[p2 (x,y2)]) [] (digS (digS t its.length) (its.length - 1)),?_,some (.d (.int x)),_,_,rfl,rfl,by simp;omega,fun z hz=>?_⟩
     ·rw [<- gs];simp [h1',d1,d2,ex,ey,G_l hi,aZ2 hi,l1,szl,dn,p2,h0n,em]
     ·rcases List.mem_append.mp hz with hz | hz
      ·exact hx z hz
      ·rw [List.mem_singleton.mp hz];exact q2 rfl _ ⟨by show x < _;omega,hlt,hne⟩
    ·have h1':¬ (1:Int) < its.length:=by omega
     exact ⟨[some (.d (.tuple (its.map It.dat))),some (.c i),some (.d (.int 2)),x3,some (.d (.list ((mus its).map nI))),some (.c h.length),some (.d v6),x7,x8],Gc h i F [] t,by simp [h1'],x3,F,t,rfl,rfl,by omega,hx⟩
   rintro _ _ ⟨x3,F,t,rfl,rfl,hl,hx⟩;dsimp only;exact ⟨[some (.d (.tuple (its.map It.dat))),some (.c i),some (.d (.int 2)),x3,some (.d (.list ((mus its).map nI))),some (.c h.length),some (.d v6),x7,x8],Gc h i F [] t,by simp,x3,some (.d v6),x7,x8,F,t,rfl,rfl,hl,hx⟩
  ·refine dX [some (.d (.tuple (its.map It.dat))),some (.c i),some (.d (.int 3)),x3,some (.d (.list ((mus its).map nI))),some (.c h.length),some (.d v6),x7,x8] (Gc h i F [] t) (by simp) ?_;dsimp only
   by_cases h1:1 < (mus its).length/\2 < its.length
   ·have ml:(mus its).length<=its.length:=by
     have:=List.length_filter_le (aJ4 its) (List.range its.length)
     simpa [mus] using this
    have h1a:(1:Int) < (mus its).length:=by omega
    have h1b:(2:Int) < its.length:=by omega
    obtain ⟨x,ex,hx'⟩:=bX t (b:=(mus its).length) (by omega);obtain ⟨y,ey,hy⟩:=bX (digS t (mus its).length) (b:=(mus its).length - 1) (by omega);have d1:=eR hi d F [] t (mus its).length (by omega) (eL (by omega) (by omega));have d2:=eR hi d F [] (digS t (mus its).length) ((mus its).length - 1) (by omega) (eL (by omega) (by omega));have dn:bS ((mus its).length:Int)=true:=eL (by omega) (by omega);have h0n:0 < (mus its).length:=by omega
    have hmod:(x+1+y)%(mus its).length < (mus its).length:=Nat.mod_lt _ (by omega);have em:((x:Int)+1+y)%((mus its).length:Int)=(((x+1+y)%(mus its).length:Nat):Int):=by simp
    have hne:=aZ6 (n:=(mus its).length) (x:=x) (y:=y) (by omega) (by omega);obtain ⟨y2,ey2⟩:∃ y2,y2=(x+1+y)%(mus its).length:=⟨_,rfl⟩;rw [<- ey2] at em hmod hne;have a1:=aZ7 (l:=mus its) (x:=x) (by omega);have a2:=aZ7 (l:=mus its) hmod;have m1:=oU (l:=mus its) (x:=x) (by omega);have m2:=oU (l:=mus its) hmod;have hab:(mus its).getD x 0≠(mus its).getD y2 0:=fun e=>hne ((List.getD_inj (by omega) hmod (aJ5 its)).mp e);generalize (mus its).getD x 0=A at *;generalize (mus its).getD y2 0=B at *;have hrp:=bO2 (n:=its.length) (a:=A) (b:=B) h1.2;have rl:(rst its.length A B).length<=its.length:=by
     have:=List.length_filter_le (fun z=>decide (z≠A)&&decide (z≠B)) (List.range its.length)
     simpa [rst] using this
    obtain ⟨z,ez,hz⟩:=bX (digS (digS t (mus its).length) ((mus its).length - 1)) (b:=(rst its.length A B).length) (by omega);have d3:=eR hi d F [] (digS (digS t (mus its).length) ((mus its).length - 1)) (rst its.length A B).length (by omega) (eL (by omega) (by omega));have a3:=aZ7 (l:=rst its.length A B) (x:=z) (by omega);have m3:=oU (l:=rst its.length A B) (x:=z) (by omega);generalize (rst its.length A B).getD z 0=Z at *;have gs:=bN9 hi F (F++[p3 (A,B,Z)]) [] (digS (digS (digS t (mus its).length) ((mus its).length - 1)) (rst its.length A B).length);refine ⟨[some (.d (.tuple (its.map It.dat))),some (.c i),some (.d (.int 3)),some (.d (.int x)),some (.d (.list ((mus its).map nI))),some (.c h.length),some (.d v6),some (.d (.int y2)),some (.d (.list ((rst its.length A B).map nI)))],Gc h i (F++[p3 (A,B,Z)]) [] (digS (digS (digS t (mus its).length) ((mus its).length - 1)) (rst its.length A B).length),?_,_,_,_,_,F++[p3 (A,B,Z)],_,rfl,rfl,by simp;omega,fun w hw=>?_⟩
    ·rw [<- gs];simp [h1a,h1b,h1.1,h1.2,d1,d2,ex,ey,em,dn,h0n,szl,aQ,en];rw [mS (pR A B) id (fun δ=>∃ a,δ=[a,some (.d (.list ((mus its).map nI))),some (.d (.int x)),some (.d (.int y2))]) _ _ _ ⟨_,rfl⟩ (fun w hw δ ⟨a,e⟩=>by
      subst e;rw [tL] at hw;obtain ⟨q,hq,rfl⟩:=List.mem_map.mp hw;refine ⟨[some (.d (nI q)),_,_,_],rfl,⟨_,rfl⟩,?_,fun _=>by simp⟩;simp [a1,a2,szl,cO1])]
     rw [List.nil_append,aZ5 (pR A B) (fun z=>decide (z≠A)&&decide (z≠B)) its.length (fun k _=>by
      have e1:((k:Int)=A)=(k=A):=propext (by omega);have e2:((k:Int)=B)=(k=B):=propext (by omega);simp [pR,nI,e1,e2])]
     rw [show (List.range its.length).filter (fun z=>decide (z≠A)&&decide (z≠B))=rst its.length A B from rfl];simp [a1,a2,d3,ez,a3,G_l hi,aZ2 hi,l1,szl,p3]
    ·rcases List.mem_append.mp hw with hw | hw
     ·exact hx w hw
     ·rw [List.mem_singleton.mp hw];obtain ⟨r1,r2⟩:=List.mem_filter.mp m3;have r3:=List.mem_range.mp r1;simp at r2;exact q3 rfl _ ⟨(mW m1).1,(mW m2).1,r3,hab,fun e=>r2.1 e.symm,fun e=>r2.2 e.symm,(mW m1).2,(mW m2).2⟩
   ·refine ⟨[some (.d (.tuple (its.map It.dat))),some (.c i),some (.d (.int 3)),x3,some (.d (.list ((mus its).map nI))),some (.c h.length),some (.d v6),x7,x8],Gc h i F [] t,?_,x3,_,x7,x8,F,t,rfl,rfl,by omega,hx⟩
    by_cases h2:1 < (mus its).length
    ·have h3:¬ 2 < its.length:=fun z=>h1 ⟨h2,z⟩;have h2':(1:Int) < (mus its).length:=by omega
     have h3':¬ (2:Int) < its.length:=by omega
     simp [h2',h3']
    ·have h2':¬ (1:Int) < (mus its).length:=by omega
     simp [h2']
 rintro _ _ ⟨x3,x6,x7,x8,F,t,rfl,rfl,hl,hx⟩;dsimp only;refine ⟨_,?_,F,t,rfl,by omega,hx⟩;simp [bU,ref,G_l hi,szl]
section
variable {α:Type} (F:α->PyData)
noncomputable def cV (p:Nat×α):PyData×PyData:=(.int p.1,F p.2)
noncomputable def aJ6 (g:List (Nat×α)) (k:Nat) (v:α):List (Nat×α):=if (g.any fun p=>decide (p.1=k))=true then g.map (fun p=>if p.1=k then (p.1,v) else p) else g++[(k,v)]
noncomputable def kG (i:Int):bO (.int i)=some (.inl i):=rfl
noncomputable def tM (p:Nat×α) (k:Nat):(bO (cV F p).1=bO (.int (k:Int)))=(p.1=k):=by simp [cV,kG];omega
noncomputable def cO2 (g:List (Nat×α)) (k:Nat) (v:α):mD (g.map (cV F)) (.int (k:Int)) (F v)=(aJ6 g k v).map (cV F):=by
 have e1:((g.map (cV F)).any fun p=>decide (bO p.1=bO (.int (k:Int))))=g.any fun p=>decide (p.1=k):=by
  rw [List.any_map]
  congr 1
  funext p
  simp only [Function.comp,tM]
 unfold mD aJ6;rw [e1];split
 ·rw [List.map_map,List.map_map];refine List.map_congr_left fun p _=>?_;simp only [Function.comp,tM];split<;>rfl
 ·rw [List.map_append];rfl
end
def Inn (H:aA) (w:W) (pl:List Nat):Prop:=∀ y:Nat,xIn (.d (.int y)) w H=some (decide (y∈pl))
noncomputable def cO3 (pl:List Nat) (y:Nat):((pl.map nI).any fun z=>PyData.eqv z (.int y))=decide (y∈pl):=by
 rw [Bool.eq_iff_iff];simp [nI,PyData.eqv];constructor
 ·rintro ⟨x,hx,e⟩;rw [<- show x=y by omega];exact hx
 ·exact fun h=>⟨y,h,rfl⟩
theorem aB0:∀ (pl:List Nat) (m:Nat),plainsB m (pl.map nI)=true
 | [],m=>by simp
 | a::r,m=>by simp [nI,aB0 r]
noncomputable def cO4 {H:aA} {w:W} {pl:List Nat} (e:ref H w=some (.list (pl.map nI))):Inn H w pl:=fun y=>by
 unfold xIn;rw [e];have:=cO3 pl y;rw [List.any_map] at this;simp [ref,aB0,this]
noncomputable def dC6 {H:aA} {i:Nat} {pl:List Nat} (e:H[i]?=some (.l (pl.map nI))):Inn H (.c i) pl:=cO4 (by simp [ref,e])
noncomputable def bO3 (g:List (Nat×Bool)) (k:Nat) (v:Bool) (y:Nat):y∈(aJ6 g k v).map (·.1) ↔ y∈g.map (·.1)\/y=k:=by
 unfold aJ6;split
 ·rename_i h;have e:(g.map fun p=>if p.1=k then (p.1,v) else p).map (·.1)=g.map (·.1):=by
   rw [List.map_map];refine List.map_congr_left fun p _=>?_;simp only [Function.comp];split<;>rfl
  rw [e];constructor
  ·exact .inl
  ·rintro (h1 | rfl)
   ·exact h1
   ·obtain ⟨p,hp,e⟩:=List.any_eq_true.mp h;exact List.mem_map.mpr ⟨p,hp,by simpa using e⟩
 ·rw [List.map_append,List.mem_append];simp
noncomputable def mkd (pl:List Nat) (g:List (Nat×Bool)):List (Nat×Bool):=pl.foldl (fun g k=>aJ6 g k true) g
theorem aB1 (y:Nat):∀ (pl:List Nat) (g:List (Nat×Bool)),y∈(mkd pl g).map (·.1) ↔ y∈g.map (·.1)\/y∈pl
 | [],g=>by simp [mkd]
 | k::r,g=>by
  have:=aB1 y r (aJ6 g k true);rw [bO3] at this;simp only [mkd,List.foldl_cons,List.mem_cons] at this ⊢;rw [this,or_assoc]
theorem aB2:∀ (pl:List Nat) (g:List (Nat×Bool)),(pl.map fun (k:Nat)=>(PyData.int k,PyData.bool true)).foldl (fun a p=>mD a p.1 p.2) (g.map (cV .bool))=(mkd pl g).map (cV .bool)
 | [],g=>rfl
 | k::r,g=>by
  rw [List.map_cons,List.foldl_cons,cO2,aB2 r];rfl
theorem aB3:∀ pl:List Nat,gE (pl.map fun (k:Nat)=>.tuple [.int k,.bool true])=some (pl.map fun (k:Nat)=>(.int k,.bool true))
 | []=>rfl
 | k::r=>by
  rw [List.map_cons,gE,aB3 r];rfl
noncomputable def dC7 (H:aA) (pl:List Nat):Inn H (.d (.dict ((mkd pl []).map (cV .bool)))) pl:=fun y=>by
 have:(((mkd pl []).map (cV PyData.bool)).any fun p=>decide (bO p.1=some (.inl (y:Int))))=decide (y∈pl):=by
  have hk:=aB1 y pl [];rw [Bool.eq_iff_iff,List.any_eq_true,decide_eq_true_eq];simp only [List.map_nil,List.not_mem_nil,false_or] at hk;rw [<- hk];constructor
  ·rintro ⟨p,hp,h⟩;obtain ⟨q,hq,rfl⟩:=List.mem_map.mp hp;have:=of_decide_eq_true h;rw [<- kG,tM] at this;exact List.mem_map.mpr ⟨q,hq,this⟩
  ·intro h;obtain ⟨q,hq,e⟩:=List.mem_map.mp h;refine ⟨_,List.mem_map.mpr ⟨q,hq,rfl⟩,decide_eq_true ?_⟩;rw [<- kG,tM];exact e
 unfold xIn;simp [ref,kG]
 simpa using this
def aZ9 (z:PyData) (xs:List PyData):Prop:=z=.list xs\/z=.tuple xs
noncomputable def bA0 (d:Nat) (h:aA) {z:PyData} {pl:List Nat} (hz:aZ9 z (pl.map nI)) (hl:pl.length<=1000):aE T (d+1) "marked" [.d z] h=some (.dict ((mkd pl []).map (cV .bool)),h):=by
 have e1:gE ((pl.map nI).map fun z=>PyData.tuple [z,.bool true])=some (pl.map fun (k:Nat)=>(.int k,.bool true)):=by
  rw [List.map_map];exact aB3 pl
 have e2:kT [.d (.list ((pl.map nI).map fun z=>PyData.tuple [z,.bool true]))] h=some (.d (.dict ((mkd pl []).map (cV .bool))),h):=by
  unfold kT;simp only [ref];rw [if_pos (by simp;exact hl),e1];show some (W.d (.dict (jG (pl.map fun (k:Nat)=>(.int k,.bool true)))),h)=_;unfold jG;rw [<- aB2 pl []];rfl
 have e3:∀ (g:XG) (all:List PyData) (te:XR W),(∀ w δ h,g w δ h=some (δ.set 0 (some w),h))->(∀ x∈pl.map nI,∀ u,te (([none]:DSt).set 0 u |>.set 0 (some (.d x))) h=some (.d (.tuple [x,.bool true]),h))->aX g (aD true) te none all (pl.map nI) [none] h []=some ((pl.map nI).map fun z=>.tuple [z,.bool true],h):=fun g all te hg ht=>by
  rw [bQ (fun z=>.tuple [z,.bool true]) 0 hg _ _ _ ht];rfl
 rw [aX8];rcases hz with rfl | rfl
 ·simp [aQ];rw [e3 _ _ _ (fun _ _ _=>rfl) (fun x _ u=>by simp [szl])];simp only [bds,bs,e2,aW5,cZ3,if_true];simp
 ·simp [aQ];rw [e3 _ _ _ (fun _ _ _=>rfl) (fun x _ u=>by simp [szl])];simp only [bds,bs,e2,aW5,cZ3,if_true];simp
noncomputable def asI (y:It):It:=if y.w="out" then y else ⟨y.p,.none,"may"⟩
noncomputable def asF (ns:List Nat):Nat->List It->List It
 | _,[]=>[]
 | k,y::r=>(if k∈ns then asI y else y)::asF ns (k+1) r
noncomputable def asd (b:Pb) (ns:List Nat):Pb:=⟨b.st,asF ns 0 b.its,b.ps,b.ts.filter fun t=>!decide (t.1∈ns)&&!decide (t.2.1∈ns)⟩
theorem iU (ns:List Nat):∀ (k:Nat) (its:List It),(asF ns k its).length=its.length
 | _,[]=>rfl
 | k,y::r=>by simp [asF,iU ns (k+1) r]
theorem mX (ns:List Nat):∀ (k:Nat) (its:List It) (x:Nat),(asF ns k its)[x]?=its[x]?.map fun y=>if k+x∈ns then asI y else y
 | _,[],x=>by simp [asF]
 | k,y::r,0=>by simp [asF]
 | k,y::r,x+1=>by
  rw [asF,List.getElem?_cons_succ,List.getElem?_cons_succ,mX ns (k+1) r x,show k+1+x=k+(x+1) by omega]
noncomputable def cO5 {y:It} (h:y.ok):(asI y).ok:=by
 unfold asI;split
 ·exact h
 ·exact ⟨h.s,.inl rfl,.inl rfl,.inr (.inl rfl)⟩
theorem bA1 {ns:List Nat}:∀ {k:Nat} {its:List It},(∀ x∈its,x.ok)->∀ x∈asF ns k its,x.ok
 | _,[],h,x,hx=>nomatch hx
 | k,y::r,h,x,hx=>by
  rw [asF] at hx;rcases List.mem_cons.mp hx with rfl | hx
  ·split
   ·exact cO5 (h y List.mem_cons_self)
   ·exact h y List.mem_cons_self
  ·exact bA1 (fun z hz=>h z (List.mem_cons_of_mem _ hz)) x hx
noncomputable def dC8 (y:It):asI (asI y)=asI y:=by
 unfold asI
 by_cases h:y.w="out"<;>simp [h]
theorem bU9 (ns ms:List Nat):∀ (k:Nat) (its:List It),asF ms k (asF ns k its)=asF (ns++ms) k its
 | _,[]=>rfl
 | k,y::r=>by
  simp only [asF,bU9 ns ms (k+1) r,List.mem_append]
  by_cases h1:k∈ns<;>by_cases h2:k∈ms<;>simp [h1,h2,dC8]
theorem bV0:∀ (k:Nat) (its:List It),asF [] k its=its
 | _,[]=>rfl
 | k,y::r=>by simp [asF,bV0 (k+1) r]
noncomputable def dC9 (b:Pb) (ns ms:List Nat):asd (asd b ns) ms=asd b (ns++ms):=by
 unfold asd;simp only [bU9,List.filter_filter]
 congr 1
 refine List.filter_congr fun t _=>?_
 by_cases h1:t.1∈ns<;>by_cases h2:t.1∈ms<;>by_cases h3:t.2.1∈ns<;>by_cases h4:t.2.1∈ms<;>simp [h1,h2,h3,h4]
noncomputable def bV1 (b:Pb):asd b []=b:=by
 obtain ⟨st,its,ps,ts⟩:=b;unfold asd;simp only [bV0]
 congr 1
 exact List.filter_eq_self.mpr fun t _=>by simp
noncomputable def bA2 {b:Pb} (hb:b.ok) (ns:List Nat):(asd b ns).ok:=by
 refine ⟨hb.st,by show (asF ns 0 b.its).length<=120;rw [iU];exact hb.il,bA1 hb.its,hb.pl,fun p hp=>?_,?_,fun p hp=>?_⟩
 ·show p.1 < (asF ns 0 b.its).length/\p.2 < (asF ns 0 b.its).length/\_;rw [iU];exact hb.ps p hp
 ·exact Nat.le_trans (List.length_filter_le _ _) hb.tl
 ·obtain ⟨h1,h2⟩:=List.mem_filter.mp hp;simp at h2;obtain ⟨a1,a2,a3,a4,a5,a6,⟨y1,e1,w1⟩,⟨y2,e2,w2⟩⟩:=hb.ts p h1;show p.1 < (asF ns 0 b.its).length/\p.2.1 < (asF ns 0 b.its).length/\p.2.2 < (asF ns 0 b.its).length/\_;rw [iU];refine ⟨a1,a2,a3,a4,a5,a6,⟨y1,?_,w1⟩,⟨y2,?_,w2⟩⟩
  ·show (asF ns 0 b.its)[p.1]?=_;rw [mX,e1];simp [h2.1]
  ·show (asF ns 0 b.its)[p.2.1]?=_;rw [mX,e2];simp [h2.2]
noncomputable def wG (d:Nat) (h:aA) (y:It):aE T (d+1) "set_aside" [.d y.dat] h=some ((asI y).dat,h):=by
 obtain ⟨p,t,w⟩:=y
 by_cases hw:w="out"
 ·simp [lW,It.dat,asI,hw,PyData.eqv]
 ·simp [lW,It.dat,asI,hw,PyData.eqv,szl]
noncomputable def prs (ns:List Nat):Nat->List It->List (PyData×PyData)
 | _,[]=>[]
 | k,y::r=>(.tuple [.int k,y.dat],(if k∈ns then asI y else y).dat)::prs ns (k+1) r
theorem bV2 (ns:List Nat):∀ (k:Nat) (its:List It),(prs ns k its).map (·.1)=jA k (its.map It.dat)
 | _,[]=>rfl
 | k,y::r=>by simp [prs,jA,bV2 ns (k+1) r]
theorem bV3 (ns:List Nat):∀ (k:Nat) (its:List It),(prs ns k its).map (·.2)=(asF ns k its).map It.dat
 | _,[]=>rfl
 | k,y::r=>by simp [prs,asF,bV3 ns (k+1) r]
theorem aB4 {ns:List Nat}:∀ {k:Nat} {its:List It} {q:PyData×PyData},q∈prs ns k its->∃ (x:Nat) (y:It),q=(.tuple [.int x,y.dat],(if x∈ns then asI y else y).dat)
 | _,[],q,h=>nomatch h
 | k,y::r,q,h=>by
  rw [prs] at h;rcases List.mem_cons.mp h with rfl | h
  ·exact ⟨k,y,rfl⟩
  ·exact aB4 h
noncomputable def pT (ns:List Nat):PyData->Bool
 | .tuple [.int a,.int b,_]=>!decide (a.toNat∈ns)&&!decide (b.toNat∈ns)
 | _=>false
noncomputable def cO6 (ns:List Nat) (ts:List (Nat×Nat×Nat)):((ts.map p3).filter (pT ns)).map id=(ts.filter fun t=>!decide (t.1∈ns)&&!decide (t.2.1∈ns)).map p3:=by
 rw [List.map_id,List.filter_map]
 congr 1
noncomputable def tN (d:Nat) (h:aA) (b:Pb) {z:PyData} {ns:List Nat} (hz:aZ9 z (ns.map nI)) (hl:ns.length<=1000):aE T (d+2) "with_aside" [.d b.dat,.d z] h=some ((asd b ns).dat,h):=by
 have e1:=bA0 d h hz hl;have e2:=dC7 h ns;obtain ⟨g,eg⟩:∃ g,g=PyData.dict ((mkd ns []).map (cV .bool)):=⟨_,rfl⟩;rw [<- eg] at e1 e2;rw [show d+2=(d+1)+1 from rfl,sY];simp only [yB,aI0];refine sq (.rt (.d (asd b ns).dat),h) ?_ (by simp);refine sq (.nx [some (.d b.dat),some (.d z),some (.d g),none,none],h) (by simp [e1]) ?_;dsimp only;refine sq (.nx [some (.d b.dat),some (.d z),some (.d g),some (.d (.list ((asF ns 0 b.its).map It.dat))),none],h) ?_ ?_
 ·simp [aQ,Pb.dat,iC];rw [show nW (b.its.map It.dat)=(prs ns 0 b.its).map (·.1) from (bV2 ns 0 b.its).symm,gL (fun δ=>∃ a c,δ=[a,c,some (.d g)])]
  ·rw [List.nil_append,bV3];simp
  ·exact ⟨_,_,rfl⟩
  ·rintro q hq δ ⟨a,c,rfl⟩;obtain ⟨x,y,rfl⟩:=aB4 hq;refine ⟨[some (.d (.int x)),some (.d y.dat),some (.d g)],by simp,⟨_,_,rfl⟩,?_⟩;have:=e2 x
   by_cases hx:x∈ns<;>simp [this,hx,wG]
 dsimp only;refine sq (.nx [some (.d b.dat),some (.d z),some (.d g),some (.d (.list ((asF ns 0 b.its).map It.dat))),some (.d (.list ((asd b ns).ts.map p3)))],h) ?_ ?_
 ·simp [aQ,Pb.dat];rw [mS (pT ns) id (fun δ=>∃ a,δ=[a,some (.d g)]) _ _ _ ⟨_,rfl⟩ (fun w hw δ ⟨a,e⟩=>by
   subst e;obtain ⟨t,ht,rfl⟩:=List.mem_map.mp hw;refine ⟨[some (.d (p3 t)),some (.d g)],rfl,⟨_,rfl⟩,?_,fun _=>by simp⟩;have i1:=e2 t.1;have i2:=e2 t.2.1
   by_cases h1:t.1∈ns<;>simp [p3,pT,i1,i2,h1])]
  rw [List.nil_append,cO6];simp [asd]
 dsimp only;simp [Pb.dat,asd,szl]
noncomputable def mY (d:Nat) (h:aA) {b:Pb} (hb:b.ok) {z:PyData} {ns:List Nat} (hz:aZ9 z (ns.map nI)) (hl:ns.length<=1000):aE T (d+14) "aside" [.d b.dat,.d z] h=some ((asd b ns).dat,h):=by
 have e1:=bN8 d h hb;have e2:=tN (d+11) h b hz hl;simp [bM8,e1,e2]
noncomputable def d_s (h:aA) (c c':Cell) (L:aA):(h++c::L).set h.length c'=h++c'::L:=by
 rw [List.set_append_right _ _ (Nat.le_refl _)];simp
noncomputable def dR7 (h:aA) (a c c':Cell) (L:aA):(h++a::c::L).set (h.length+1) c'=h++a::c'::L:=by
 rw [List.set_append_right _ _ (by omega)];simp
noncomputable def cO7 (h:aA) (a c:Cell) (L:aA):(h++a::c::L)[h.length+1]?=some c:=by
 rw [List.getElem?_append_right (by omega)];simp
noncomputable def d_p (h:aA) (xs:List PyData) (L:aA):gF (Str.ofString "append") (.c h.length) (h++.l xs::L)=true:=by simp [gF]
noncomputable def dR8 (h:aA) (a:Cell) (xs:List PyData) (L:aA):gF (Str.ofString "append") (.c (h.length+1)) (h++a::.l xs::L)=true:=by simp [gF,cO7]
noncomputable def bA3 {α:Type} {l:List α} {m:Nat} {y:α} (e:l[m]?=some y):l.take (m+1)=l.take m++[y]:=by
 rw [List.take_succ,e];rfl
def IA (h:aA) (b:Pb) (w1:W) (ns:List Nat) (m:Nat) (δ:DSt) (H:aA):Prop:=∃ x3 x4 x5 x6:Option W,δ=[some (.d b.dat),some w1,some (.c h.length),x3,x4,x5,x6,none,none,none]/\H=h++[.l (((asF ns 0 b.its).take m).map It.dat)]
def IB (h:aA) (b:Pb) (w1:W) (ns:List Nat) (X:Cell) (m:Nat) (δ:DSt) (H:aA):Prop:=∃ x3 x4 x5 x6 x8 x9:Option W,δ=[some (.d b.dat),some w1,some (.c h.length),x3,x4,x5,x6,some (.c (h.length+1)),x8,x9]/\H=h++[X,.l (((b.ts.take m).filter fun t=>!decide (t.1∈ns)&&!decide (t.2.1∈ns)).map p3)]
noncomputable def dD0 (d:Nat) (h:aA) {b:Pb} (hb:b.ok) {w1:W} {ns:List Nat} (hw:∀ L,Inn (h++L) w1 ns):aE T (d+1) "_law_due" [.d b.dat,w1] h=some ((asd b ns).dat,h):=by
 have hil:=hb.il;have htl:=hb.tl;have er:kA 0 (b.its.length:Int)=true:=eY (by omega) (by omega);have gI:∀ x,atI [PyData.tuple (b.st.map .int),.tuple (b.its.map It.dat),.tuple (b.ps.map p2),.tuple (b.ts.map p3)] x=atI [PyData.tuple (b.st.map .int),.tuple (b.its.map It.dat),.tuple (b.ps.map p2),.tuple (b.ts.map p3)] x:=fun _=>rfl;rw [yD];simp only [yB,aI0];refine aZ1 (Q:=fun z:Option (PyData×aA)=>z=some ((asd b ns).dat,h)) (P:=fun q:Fl×aA=>∃ L,q=(.rt (.d (asd b ns).dat),h++L)) ?_ (fun q ⟨L,e⟩=>by rw [e];simp);refine sqX (.nx [some (.d b.dat),some w1,some (.c h.length),none,none,none,none,none,none,none],h++[.l []]) (by simp [aV]) ?_;dsimp only;refine sqE (IA h b w1 ns b.its.length) ?_ ?_
 ·refine rD ((rng 0 b.its.length,none),h++[.l []]) (by simp [Pb.dat,er]) ?_;dsimp only;refine fY (fun m=>IA h b w1 ns m) ⟨_,_,_,_,rfl,rfl⟩ (fun δ h'=>by rw [CI.rng_len];exact id) fun m hm δ H r=>?_;obtain ⟨x3,x4,x5,x6,rfl,rfl⟩:=r;have hm':m < b.its.length:=by simpa [rng] using hm
  rw [CI.rng_get];have ez:(0:Int)+m=m:=by omega
  rw [ez];obtain ⟨y,ey⟩:∃ y,b.its[m]?=some y:=⟨_,List.getElem?_eq_getElem hm'⟩;have e1:=aA6 ey;have e2:(asF ns 0 b.its)[m]?=some (if m∈ns then asI y else y):=by
   rw [mX,ey];simp
  have e3:=bA3 e2;obtain ⟨xs,exs⟩:∃ xs,xs=((asF ns 0 b.its).take m).map It.dat:=⟨_,rfl⟩;have hx:xs.length < 16777216:=by rw [exs];simp [iU];omega
  rw [<- exs];obtain ⟨p,t,w⟩:=y;refine ⟨[some (.d b.dat),some w1,some (.c h.length),some (.d (.int m)),x4,x5,x6,none,none,none],h++[.l xs],rfl,?_⟩;refine dX [some (.d b.dat),some w1,some (.c h.length),some (.d (.int m)),some (.d p.dat),some (.d t),some (.d (.str (Str.ofString w))),none,none,none] (h++[.l xs]) (by simp [Pb.dat,e1,It.dat]) ?_;dsimp only;refine ⟨[some (.d b.dat),some w1,some (.c h.length),some (.d (.int m)),some (.d p.dat),some (.d t),some (.d (.str (Str.ofString w))),none,none,none],h++[.l (xs++[(if m∈ns then asI ⟨p,t,w⟩ else ⟨p,t,w⟩:It).dat])],?_,_,_,_,_,rfl,?_⟩
  ·have i1:=hw [.l xs] m;have l1:¬ (16777216:Nat)<=xs.length:=by omega
   by_cases h1:m∈ns
   ·by_cases h2:w="out"
    ·simp [i1,h1,h2,aQ,szl,PyData.eqv,xQ,asI,It.dat,d_p,d_s,hx]
    ·simp [i1,h1,h2,aQ,szl,PyData.eqv,xQ,asI,It.dat,d_p,d_s,hx]
   ·simp [i1,h1,aQ,szl,PyData.eqv,xQ,It.dat,d_p,d_s,hx]
  ·rw [e3,List.map_append,<- exs];rfl
 rintro _ _ ⟨x3,x4,x5,x6,rfl,rfl⟩;dsimp only;rw [List.take_of_length_le (by rw [iU];exact Nat.le_refl _)];obtain ⟨X,eX⟩:∃ X,X=Cell.l ((asF ns 0 b.its).map It.dat):=⟨_,rfl⟩;rw [<- eX];refine sqX (.nx [some (.d b.dat),some w1,some (.c h.length),x3,x4,x5,x6,some (.c (h.length+1)),none,none],h++[X,.l []]) (by simp [aV]) ?_;dsimp only;refine sqE (IB h b w1 ns X b.ts.length) ?_ ?_
 ·refine rD ((b.ts.map p3,none),h++[X,.l []]) (by simp [Pb.dat]) ?_;dsimp only;refine fY (fun m=>IB h b w1 ns X m) ⟨_,_,_,_,_,_,rfl,rfl⟩ (fun δ h'=>by rw [List.length_map];exact id) fun m hm δ H r=>?_;obtain ⟨x3,x4,x5,x6,x8,x9,rfl,rfl⟩:=r;have hm':m < b.ts.length:=by simpa using hm
  obtain ⟨t,et⟩:∃ t,b.ts[m]?=some t:=⟨_,List.getElem?_eq_getElem hm'⟩;have e1:(b.ts.map p3)[m]=p3 t:=by
   have:=List.getElem?_eq_getElem hm;rw [List.getElem?_map,et] at this;exact (Option.some.inj this).symm
  rw [e1];have e3:=bA3 et;obtain ⟨F,eF⟩:∃ F,F=((b.ts.take m).filter fun t=>!decide (t.1∈ns)&&!decide (t.2.1∈ns)).map p3:=⟨_,rfl⟩;have hF:F.length < 16777216:=by
   rw [eF,List.length_map];have:=List.length_filter_le (fun t:Nat×Nat×Nat=>!decide (t.1∈ns)&&!decide (t.2.1∈ns)) (b.ts.take m);simp at this;omega
  rw [<- eF];refine ⟨[some (.d b.dat),some w1,some (.c h.length),some (.d (.int t.1)),x4,x5,x6,some (.c (h.length+1)),some (.d (.int t.2.1)),some (.d (.int t.2.2))],h++[X,.l F],by simp [p3],?_⟩;refine ⟨[some (.d b.dat),some w1,some (.c h.length),some (.d (.int t.1)),x4,x5,x6,some (.c (h.length+1)),some (.d (.int t.2.1)),some (.d (.int t.2.2))],h++[X,.l (F++if (!decide (t.1∈ns)&&!decide (t.2.1∈ns))=true then [p3 t] else [])],?_,_,_,_,_,_,_,rfl,?_⟩
  ·have i1:=hw [X,.l F] t.1;have i2:=hw [X,.l F] t.2.1
   by_cases h1:t.1∈ns
   ·simp [i1,h1]
   ·by_cases h2:t.2.1∈ns
    ·simp [i1,i2,h1,h2]
    ·simp [i1,i2,h1,h2,dR8,cO7,dR7,hF,szl,p3]
  ·rw [e3,List.filter_append,List.map_append,<- eF]
   by_cases h1:(!decide (t.1∈ns)&&!decide (t.2.1∈ns))=true<;>simp [h1]
 rintro _ _ ⟨x3,x4,x5,x6,x8,x9,rfl,rfl⟩;dsimp only;rw [List.take_length];refine ⟨(.rt (.d (asd b ns).dat),h++[X,.l (((b.ts).filter fun t=>!decide (t.1∈ns)&&!decide (t.2.1∈ns)).map p3)]),?_,_,rfl⟩;simp [Pb.dat,asd,szl,bU,ref,eX,cO7]
noncomputable def iD (its:List It) (x:PyData):PyData:=.tuple (its.map It.dat++[x])
noncomputable def rdD (k:Int):PyData:=.tuple [.str "read",.int k]
noncomputable def gdD:PyData:=.tuple [rdD 0,.none,.str "must"]
noncomputable def n7 (f i p a:PyData) (sh:PyData):List PyData:=[.none,.tuple [],.tuple [f,i,p],.list [f,i,p,a],.tuple [sh,i,p,a],.int 5,.str "problem"]
noncomputable def noneL (b:Pb):List PyData :=
 let f:PyData:=.tuple (b.st.map .int)
 let i:PyData:=.tuple (b.its.map It.dat)
 let p:PyData:=.tuple (b.ps.map p2)
 let a:PyData:=.tuple (b.ts.map p3)
 n7 f i p a (.tuple (cut (b.st.map .int) (some 1) none))++[.tuple [f,.list (b.its.map It.dat),p,a],.tuple [f,i,p,.none]]++[.tuple [f,i,.tuple [.tuple [.int 0,.int 0]],a],.tuple [f,i,p,.tuple [.tuple [.int 0,.int 1]]]]
  ++ [.tuple [f,iD b.its (.tuple [rdD 0,.none]),p,a]]++[.tuple [f,iD b.its (.tuple [rdD 8,.none,.str "must"]),p,a]]++[.tuple [f,iD b.its (.tuple [rdD 0,.none,.str "Must"]),p,a],.tuple [f,.tuple (List.replicate 121 gdD),.tuple [],.tuple []]]
  ++ [.tuple [f,iD b.its (.tuple [rdD 0,.tuple [.str "done"],.str "may"]),p,a]]++[.tuple [f,.tuple [gdD,gdD,.tuple [rdD 1,.none,.str "may"]],.tuple [],.tuple [.tuple [.int 0,.int 2,.int 1]]]]++[.tuple [f,i,.tuple [.tuple [.int b.its.length,.int 0]],.tuple []]]
noncomputable def n_g (h L:aA) (c:Cell):(h++(L++[c]))[h.length+L.length]?=some c:=by
 rw [List.getElem?_append_right (by omega),show h.length+L.length - h.length=L.length by omega];simp
noncomputable def n_s (h L:aA) (c c':Cell):(h++(L++[c])).set (h.length+L.length) c'=h++(L++[c']):=by
 rw [List.set_append_right _ _ (by omega),show h.length+L.length - h.length=L.length by omega];simp
noncomputable def n_p (h L:aA) (xs:List PyData):gF (Str.ofString "append") (.c (h.length+L.length)) (h++(L++[.l xs]))=true:=by simp [gF,n_g]
noncomputable def nd (b:Pb) (h L:aA) (x6:Option W):DSt:=[some (.d b.dat),some (.d (.tuple (b.st.map .int))),some (.d (.tuple (b.its.map It.dat))),some (.d (.tuple (b.ps.map p2))),some (.d (.tuple (b.ts.map p3))),some (.c (h.length+L.length)),x6]
def NV (b:Pb) (h:aA) (xs:List PyData) (x6:Option W) (δ:DSt) (H:aA):Prop:=∃ L,δ=nd b h L x6/\H=h++(L++[.l xs])
noncomputable def nv (b:Pb) (h L:aA) (c:Cell) (xs:List PyData) (x6:Option W):NV b h xs x6 (nd b h (L++[c]) x6) (h++(L++[c])++[.l xs]):=⟨L++[c],rfl,by simp⟩
noncomputable def oV (h L:aA) (xs:List PyData):ref (h++(L++[.l xs])) (.c (h.length+L.length))=some (.list xs):=by simp [ref,n_g]
noncomputable def dD1 (h L:aA) (xs ys:List PyData) (hl:xs.length+ys.length<=sizeLine):eD .Add (.c (h.length+L.length)) (.d (.list ys)) (h++(L++[.l xs]))=some (.d (.list (xs++ys)),h++(L++[.l xs])):=by
 simp [eD,bK8,oV,ref,hl,n_g]
noncomputable def cO8 (x:PyData) (h:aA):eD .Mult (.d (.tuple [x])) (.d (.int 121)) h=some (.d (.tuple (List.replicate 121 x)),h):=by
 simp [eD,bK9,szl]
noncomputable def cO9 (d:Nat) (h:aA) {b:Pb} (hil:b.its.length<=100):aE T (d+1) "_law_none" [.d b.dat] h=some (.list (noneL b),h):=by
 have hl:b.its.length+1<=16777216:=by omega
 rw [vU];simp only [yB,aI0];obtain ⟨f,ef⟩:∃ f:PyData,f=.tuple (b.st.map .int):=⟨_,rfl⟩;refine aZ1 (Q:=fun z:Option (PyData×aA)=>z=some (.list (noneL b),h)) (P:=fun q:Fl×aA=>∃ L,q=(.rt (.d (.list (noneL b))),h++L)) ?_ (fun q ⟨L,e⟩=>by rw [e];simp);refine sqX (.nx [some (.d b.dat),some (.d (.tuple (b.st.map .int))),some (.d (.tuple (b.its.map It.dat))),some (.d (.tuple (b.ps.map p2))),some (.d (.tuple (b.ts.map p3))),none,none],h) (by simp [Pb.dat]) ?_;dsimp only;refine sqE (NV b h (n7 (.tuple (b.st.map .int)) (.tuple (b.its.map It.dat)) (.tuple (b.ps.map p2)) (.tuple (b.ts.map p3)) (.tuple (cut (b.st.map .int) (some 1) none))) none) ⟨nd b h [] none,h++[.l (n7 (.tuple (b.st.map .int)) (.tuple (b.its.map It.dat)) (.tuple (b.ps.map p2)) (.tuple (b.ts.map p3)) (.tuple (cut (b.st.map .int) (some 1) none)))],by simp [aV,aQ,ref,szl,Pb.dat,nd,n7],[],rfl,rfl⟩ ?_;generalize hX:n7 _ _ _ _ _=X0;have l0:X0.length=7:=by rw [<- hX];rfl
 rintro _ _ ⟨L,rfl,rfl⟩;dsimp only;refine sqE (NV b h (X0++[.tuple [.tuple (b.st.map .int),.list (b.its.map It.dat),.tuple (b.ps.map p2),.tuple (b.ts.map p3)],.tuple [.tuple (b.st.map .int),.tuple (b.its.map It.dat),.tuple (b.ps.map p2),.none]]) none) ⟨nd b h (L++[.l X0]) none,_,?_,nv b h L (.l X0) _ _⟩ ?_
 ·simp [aV,aQ,oV,szl,nd,l0]
 generalize hX1:X0++[.tuple [.tuple (b.st.map .int),.list (b.its.map It.dat),.tuple (b.ps.map p2),.tuple (b.ts.map p3)],.tuple [.tuple (b.st.map .int),.tuple (b.its.map It.dat),.tuple (b.ps.map p2),.none]]=X1;have l1:X1.length=9:=by rw [<- hX1];simp [l0]
 rintro _ _ ⟨L,rfl,rfl⟩;dsimp only;refine sqE (NV b h (X1++[.tuple [.tuple (b.st.map .int),.tuple (b.its.map It.dat),.tuple [.tuple [.int 0,.int 0]],.tuple (b.ts.map p3)],.tuple [.tuple (b.st.map .int),.tuple (b.its.map It.dat),.tuple (b.ps.map p2),.tuple [.tuple [.int 0,.int 1]]]]) none) ⟨nd b h (L++[.l X1]) none,_,?_,nv b h L (.l X1) _ _⟩ ?_
 ·simp [aV,aQ,oV,szl,nd,l1]
 generalize hX2:X1++[.tuple [.tuple (b.st.map .int),.tuple (b.its.map It.dat),.tuple [.tuple [.int 0,.int 0]],.tuple (b.ts.map p3)],.tuple [.tuple (b.st.map .int),.tuple (b.its.map It.dat),.tuple (b.ps.map p2),.tuple [.tuple [.int 0,.int 1]]]]=X2;have l2:X2.length=11:=by rw [<- hX2];simp [l1]
 rintro _ _ ⟨L,rfl,rfl⟩;dsimp only;refine sqE (NV b h (X2++[.tuple [.tuple (b.st.map .int),iD b.its (.tuple [rdD 0,.none]),.tuple (b.ps.map p2),.tuple (b.ts.map p3)]]) none) ⟨nd b h (L++[.l X2]) none,_,?_,nv b h L (.l X2) _ _⟩ ?_
 ·simp [aV,aQ,oV,szl,nd,l2,iD,rdD,hl]
 generalize hX3:X2++[.tuple [.tuple (b.st.map .int),iD b.its (.tuple [rdD 0,.none]),.tuple (b.ps.map p2),.tuple (b.ts.map p3)]]=X3;have l3:X3.length=12:=by rw [<- hX3];simp [l2]
 rintro _ _ ⟨L,rfl,rfl⟩;dsimp only;refine sqE (NV b h (X3++[.tuple [.tuple (b.st.map .int),iD b.its (.tuple [rdD 8,.none,.str "must"]),.tuple (b.ps.map p2),.tuple (b.ts.map p3)]]) none) ⟨nd b h (L++[.l X3]) none,_,?_,nv b h L (.l X3) _ _⟩ ?_
 ·simp [aV,aQ,oV,szl,nd,l3,iD,rdD,hl]
 generalize hX4:X3++[.tuple [.tuple (b.st.map .int),iD b.its (.tuple [rdD 8,.none,.str "must"]),.tuple (b.ps.map p2),.tuple (b.ts.map p3)]]=X4;have l4:X4.length=13:=by rw [<- hX4];simp [l3]
 rintro _ _ ⟨L,rfl,rfl⟩;dsimp only;refine sqX (.nx (nd b h L (some (.d gdD))),h++(L++[.l X4])) (by simp [nd,szl,gdD,rdD]) ?_;dsimp only;refine sqE (NV b h (X4++[.tuple [.tuple (b.st.map .int),iD b.its (.tuple [rdD 0,.none,.str "Must"]),.tuple (b.ps.map p2),.tuple (b.ts.map p3)],.tuple [.tuple (b.st.map .int),.tuple (List.replicate 121 gdD),.tuple [],.tuple []]]) (some (.d gdD))) ⟨nd b h (L++[.l X4]) (some (.d gdD)),_,?_,nv b h L (.l X4) _ _⟩ ?_
 ·simp [aV,aQ,oV,szl,nd,l4,iD,rdD,hl,cO8]
 generalize hX5:X4++[.tuple [.tuple (b.st.map .int),iD b.its (.tuple [rdD 0,.none,.str "Must"]),.tuple (b.ps.map p2),.tuple (b.ts.map p3)],.tuple [.tuple (b.st.map .int),.tuple (List.replicate 121 gdD),.tuple [],.tuple []]]=X5;have l5:X5.length=15:=by rw [<- hX5];simp [l4]
 rintro _ _ ⟨L,rfl,rfl⟩;dsimp only;refine sqE (NV b h (X5++[.tuple [.tuple (b.st.map .int),iD b.its (.tuple [rdD 0,.tuple [.str "done"],.str "may"]),.tuple (b.ps.map p2),.tuple (b.ts.map p3)]]) (some (.d gdD))) ⟨nd b h (L++[.l X5]) (some (.d gdD)),_,?_,nv b h L (.l X5) _ _⟩ ?_
 ·simp [aV,aQ,oV,szl,nd,l5,iD,rdD,hl]
 generalize hX6:X5++[.tuple [.tuple (b.st.map .int),iD b.its (.tuple [rdD 0,.tuple [.str "done"],.str "may"]),.tuple (b.ps.map p2),.tuple (b.ts.map p3)]]=X6;have l6:X6.length=16:=by rw [<- hX6];simp [l5]
 rintro _ _ ⟨L,rfl,rfl⟩;dsimp only;refine sqX (.nx (nd b h L (some (.d gdD))),h++(L++[.l (X6++[.tuple [.tuple (b.st.map .int),.tuple [gdD,gdD,.tuple [rdD 1,.none,.str "may"]],.tuple [],.tuple [.tuple [.int 0,.int 2,.int 1]]]])])) ?_ ?_
 ·rw [<- n_s h L (.l X6)];simp [nd,n_p,n_g,szl,rdD,l6]
 dsimp only;refine ⟨(.rt (.d (.list (noneL b))),h++(L++[.l (X6++[.tuple [.tuple (b.st.map .int),.tuple [gdD,gdD,.tuple [rdD 1,.none,.str "may"]],.tuple [],.tuple [.tuple [.int 0,.int 2,.int 1]]]])])),?_,_,rfl⟩;have ez:noneL b=X6++[.tuple [.tuple (b.st.map .int),.tuple [gdD,gdD,.tuple [rdD 1,.none,.str "may"]],.tuple [],.tuple [.tuple [.int 0,.int 2,.int 1]]]]++[.tuple [.tuple (b.st.map .int),.tuple (b.its.map It.dat),.tuple [.tuple [.int b.its.length,.int 0]],.tuple []]]:=by rw [<- hX6,<- hX5,<- hX4,<- hX3,<- hX2,<- hX1,<- hX];rfl
 have ea:=dD1 h L (X6++[.tuple [.tuple (b.st.map .int),.tuple [gdD,gdD,.tuple [rdD 1,.none,.str "may"]],.tuple [],.tuple [.tuple [.int 0,.int 2,.int 1]]]]) [.tuple [.tuple (b.st.map .int),.tuple (b.its.map It.dat),.tuple [.tuple [.int b.its.length,.int 0]],.tuple []]] (by simp [l6,szl]);rw [ez];simp [nd,aQ,szl];rw [ea];simp
variable (d:Nat) (h:aA)
noncomputable def aJ7 {x:PyData} (hx:cA x 4=false):aE T (d+12) "is_problem" [.d x] h=some (.bool false,h):=by
 simp [cE,hx]
noncomputable def wH {f i p a:PyData} (hf:∀ h,aE T (d+11) "is_stand" [.d f] h=some (.bool true,h)) (bi bp ba:Bool) (hi:∀ h,aE T (d+11) "are_items" [.d i] h=some (.bool bi,h))
  (hp:bi=true->∀ h,∃ n,bP [.d i] h=some (.d (.int n),h)/\aE T (d+11) "are_pairs" [.d p,.d (.int n)] h=some (.bool bp,h)) (ha:bi=true->bp=true->∀ h,aE T (d+11) "are_triples" [.d a,.d i] h=some (.bool ba,h)) (hb:(bi&&(bp&&ba))=false) :
  aE T (d+12) "is_problem" [.d (.tuple [f,i,p,a])] h=some (.bool false,h):=by
 cases bi with
 | false=>simp [cE,cA,hf,hi]
 | true =>
  obtain ⟨n,e1,e2⟩:=hp rfl h;cases bp with
  | false=>simp [cE,cA,hf,hi,e1,e2]
  | true =>
   have e3:=ha rfl rfl h;cases ba with
   | false=>simp [cE,cA,hf,hi,e1,e2,e3]
   | true=>simp at hb
noncomputable def bV4 (xs:List PyData) (h:aA):bP [.d (.tuple xs)] h=some (.d (.int xs.length),h):=by simp [bP,ref]
theorem wI:∀ its:List It,dD (its.map (fun _=>PyData.bool true)++[.bool false])=some (its.map (fun _=>true)++[false])
 | []=>rfl
 | a::r=>by
  rw [List.map_cons,List.cons_append,dD,wI r];rfl
noncomputable def aJ8 {its:List It} (hx:∀ x∈its,x.ok) (hl:its.length<=100) {z:PyData} (hz:∀ h,aE T (d+10) "is_item" [.d z] h=some (.bool false,h)):aE T (d+11) "are_items" [.d (iD its z)] h=some (.bool false,h):=by
 have hl':(its.length:Int)+1<=120:=by omega
 have e1:its.map It.dat++[z]=(its.map (fun x=>(x.dat,PyData.bool true))++[(z,PyData.bool false)]).map (·.1):=by simp
 have e2:(its.map (fun x=>(x.dat,PyData.bool true))++[(z,PyData.bool false)]).map (·.2)=its.map (fun _=>PyData.bool true)++[.bool false]:=by simp
 simp [fL,iD,isi,fI,hl',aQ];rw [e1,gL (fun δ=>∃ a,δ=[a]) _ _ _ ⟨_,rfl⟩ (fun q hq δ ⟨a,e⟩=>by
  subst e;refine ⟨[some (.d q.1)],rfl,⟨_,rfl⟩,?_⟩;rcases List.mem_append.mp hq with hq | hq
  ·obtain ⟨x,hx',rfl⟩:=List.mem_map.mp hq;simp [rB d h (hx x hx')]
  ·rw [List.mem_singleton.mp hq];simp [hz]),List.nil_append,e2]
 simp [wI]
noncomputable def dR9:aE T (d+10) "is_item" [.d (.tuple [rdD 0,.none])] h=some (.bool false,h):=by simp [eV,cA]
noncomputable def oW {k:Nat} (hk:k < 8):Sok (.call (.one (.read k))):=hk
noncomputable def dS0:aE T (d+10) "is_item" [.d (.tuple [rdD 8,.none,.str "must"])] h=some (.bool false,h):=by
 have hs:cX (rdD 8)=true:=by simp [rdD,cX]
 have:=dP (d+1) (rdD 8) h hs;have hk:gZ (.int 8)=false:=by simp [gZ,cR,gC]
 have e:fF (rdD 8)=false:=by
  simp [rdD,fF,cB,bK,fE,dZ,hU,jW,aM,hk];split<;>rfl
 rw [e] at this;simp [eV,cA,this]
noncomputable def bA4:(Stp.call (.one (.read 0))).dat=rdD 0:=rfl
noncomputable def dD2:aE T (d+8) "is_step" [.d (rdD 0)] h=some (.bool true,h):=by
 rw [<- bA4];exact wC d h (oW (k:=0) (by decide))
noncomputable def dS1:aE T (d+10) "is_item" [.d (.tuple [rdD 0,.none,.str "Must"])] h=some (.bool false,h):=by
 have e1':=dD2 (d+1) h;simp [eV,cA,e1',isi,fI,xIn,ref,PyData.eqv]
noncomputable def dS2:aE T (d+10) "is_item" [.d (.tuple [rdD 0,.tuple [.str "done"],.str "may"])] h=some (.bool false,h):=by
 have e1':=dD2 (d+1) h;have e2:=wB d h (.tuple [.str "done"]) (oW (k:=0) (by decide));have e3:oR (.call (.one (.read 0))) (.tuple [.str "done"])=false:=by simp [oR,aM,bN,cG]
 rw [e3,bA4] at e2;simp [eV,cA,e1',e2]
noncomputable def bA5 {st:List Int} (hl:st.length=8):aE T (d+11) "is_stand" [.d (.tuple (cut (st.map .int) (some 1) none))] h=some (.bool false,h):=by
 cases st with
 | nil=>simp at hl
 | cons a r =>
  have e:=dB5 (.int a) (r.map .int);have:¬ (r.length:Int)=8:=by simp at hl;omega
  simp [e,oJ,cA,this]
noncomputable def bO4 (xs:List PyData):aE T (d+11) "are_items" [.d (.list xs)] h=some (.bool false,h):=by simp [fL,isi,fI]
noncomputable def aJ9:aE T (d+11) "are_items" [.d (.tuple (List.replicate 121 gdD))] h=some (.bool false,h):=by
 simp [fL,isi,fI]
noncomputable def cP0 (ns:List Int) (n:Int):aE T (d+3) "are_numbers" [.d (.tuple (ns.map .int)),.d (.int n)] h=some (.bool ((ns.map PyData.int).all fun x=>cR x 0 (n - 1)),h):=by
 simp only [jC,yB];simp [aQ];have eb:=fW (f:=fun x=>cR x 0 (n - 1)) (ns.map PyData.int);rw [List.map_map] at eb;rw [bQ (fun x=>.bool (cR x 0 (n - 1))) 0 (fun _ _ _=>rfl)]
 ·simp [eb]
 ·intro y hy u;simp
noncomputable def bA6 (n a b:Int) (hab:¬ (0<=a/\a < n)\/¬ (0<=b/\b < n)\/a=b):aE T (d+4) "are_unlike" [.d (.tuple [.int a,.int b]),.d (.int 2),.d (.int n)] h=some (.bool false,h):=by
 have e:=cP0 d h [a,b] n;simp only [List.map_cons,List.map_nil] at e;cases q:([PyData.int a,.int b].all fun x=>cR x 0 (n - 1)) with
 | false =>
  rw [q] at e;simp [eO,cA,e]
 | true =>
  rw [q] at e;simp [cR,gC] at q;have:a=b:=by omega
  subst this;simp [eO,cA,e,xLS,iE,ST.dd,step_dedup]
noncomputable def wJ (n a b:Int) (hab:¬ (0<=a/\a < n)\/¬ (0<=b/\b < n)\/a=b):aE T (d+11) "are_pairs" [.d (.tuple [.tuple [.int a,.int b]]),.d (.int n)] h=some (.bool false,h):=by
 have e:=bA6 (d+6) h n a b hab;simp [lV,isi,fI,aQ,aX,e,dD]
noncomputable def aK0 (i:PyData):aE T (d+11) "are_triples" [.d .none,.d i] h=some (.bool false,h):=by simp [dS,isi,fI]
noncomputable def aK1 (xs:List PyData):aE T (d+11) "are_triples" [.d (.tuple [.tuple [.int 0,.int 1]]),.d (.tuple xs)] h=some (.bool false,h):=by
 have e:aE T (d+10) "are_unlike" [.d (.tuple [.int 0,.int 1]),.d (.int 3),.d (.int xs.length)] h=some (.bool false,h):=by simp [eO,cA]
 simp [dS,isi,fI,aQ,aX,e,dD]
noncomputable def aK2:aE T (d+11) "are_triples" [.d (.tuple [.tuple [.int 0,.int 2,.int 1]]),.d (.tuple [gdD,gdD,.tuple [rdD 1,.none,.str "may"]])] h=some (.bool false,h):=by
 have e:aE T (d+10) "are_unlike" [.d (.tuple [.int 0,.int 2,.int 1]),.d (.int 3),.d (.int 3)] h=some (.bool true,h):=oS (d+6) h (ns:=[0,2,1]) (n:=3) (by simp) (by decide) (by decide);simp [dS,isi,fI,aQ,aX,e,dD,gdD,PyData.eqv]
noncomputable def cP1 {b:Pb} (hb:b.ok) (hil:b.its.length<=60):∀ x∈noneL b,aE T (d+12) "is_problem" [.d x] h=some (.bool false,h):=by
 have hs:∀ h,aE T (d+11) "is_stand" [.d (.tuple (b.st.map .int))] h=some (.bool true,h):=fun h=>oT (d+8) h hb.st;have hi:∀ h,aE T (d+11) "are_items" [.d (.tuple (b.its.map It.dat))] h=some (.bool true,h):=fun h=>iK d h hb.its hb.il;have hp:∀ h,aE T (d+11) "are_pairs" [.d (.tuple (b.ps.map p2)),.d (.int b.its.length)] h=some (.bool true,h):=fun h=>iL (d+6) h hb.pl hb.ps;have ln:∀ h,bP [.d (.tuple (b.its.map It.dat))] h=some (.d (.int b.its.length),h):=fun h=>by rw [bV4,List.length_map]
 have bad:∀ {z p a:PyData},(∀ h,aE T (d+10) "is_item" [.d z] h=some (.bool false,h))->aE T (d+12) "is_problem" [.d (.tuple [.tuple (b.st.map .int),iD b.its z,p,a])] h=some (.bool false,h):=fun hz =>
  wH d h hs false false false (fun h=>aJ8 d h hb.its (by omega) hz) (fun z=>nomatch z) (fun z=>nomatch z) rfl
 intro x hx;simp only [noneL,n7,List.mem_append,List.mem_cons,List.not_mem_nil,or_false,or_assoc] at hx;rcases hx with rfl | rfl | rfl | rfl | rfl | rfl | rfl | rfl | rfl | rfl | rfl | rfl | rfl | rfl | rfl | rfl | rfl | rfl
 ·exact aJ7 d h rfl
 ·exact aJ7 d h rfl
 ·exact aJ7 d h rfl
 ·exact aJ7 d h rfl
 ·have e:=bA5 d h hb.st;simp [cE,cA,e]
 ·exact aJ7 d h rfl
 ·exact aJ7 d h rfl
 ·exact wH d h hs false false false (fun h=>bO4 d h _) (fun z=>nomatch z) (fun z=>nomatch z) rfl
 ·exact wH d h hs true true false hi (fun _ h=>⟨_,ln h,hp h⟩) (fun _ _ h=>aK0 d h _) rfl
 ·exact wH d h hs true false false hi (fun _ h=>⟨_,ln h,wJ d h _ 0 0 (.inr (.inr rfl))⟩) (fun _ z=>nomatch z) rfl
 ·exact wH d h hs true true false hi (fun _ h=>⟨_,ln h,hp h⟩) (fun _ _ h=>aK1 d h _) rfl
 ·exact bad fun h=>dR9 d h
 ·exact bad fun h=>dS0 d h
 ·exact bad fun h=>dS1 d h
 ·exact wH d h hs false false false (fun h=>aJ9 d h) (fun z=>nomatch z) (fun z=>nomatch z) rfl
 ·exact bad fun h=>dS2 d h
 ·refine wH d h hs true true false (fun h=>?_) (fun _ h=>⟨3,by rw [bV4];rfl,iL (d+6) h (ps:=[]) (n:=3) (by decide) (fun _ z=>nomatch z)⟩) (fun _ _ h=>aK2 d h) rfl;exact iK d h (xs:=[⟨.call (.one (.read 0)),.none,"must"⟩,⟨.call (.one (.read 0)),.none,"must"⟩,⟨.call (.one (.read 1)),.none,"may"⟩]) (fun x hx=>by
   simp only [List.mem_cons,List.not_mem_nil,or_false] at hx;rcases hx with rfl | rfl | rfl
   ·exact ⟨oW (by decide),.inl rfl,.inl rfl,.inl rfl⟩
   ·exact ⟨oW (by decide),.inl rfl,.inl rfl,.inl rfl⟩
   ·exact ⟨oW (by decide),.inl rfl,.inl rfl,.inr (.inl rfl)⟩) (by decide)
 ·exact wH d h hs true false false hi (fun _ h=>⟨_,ln h,wJ d h _ _ 0 (.inl (by omega))⟩) (fun _ z=>nomatch z) rfl
end K65
set_option maxHeartbeats 4000000
namespace K65
open PySem PySem.Spec PyProof.Rows L2 DL CI
def noP (k:Nat) (x:PyData):Prop:=∀ h,aE T k "is_problem" [.d x] h=some (.bool false,h)
def bA7 (k:Nat) (ws:List W):Prop:=∃ x,ws=[.d x]/\noP k x
open Classical in
noncomputable def wK:Nat->XF
 | k+3=>fun ws h=>if bA7 k ws then some (.bool true,h) else none
 | _=>fun _ _=>none
noncomputable def fnL (d:Nat):Str->Option XF:=fun y=>if y="_law_refused" then some (wK d) else (T.defs y).map fun _=>aE T d y
noncomputable def top (k:Nat):Stmt:=PySem.Challenge.pw_storejudge_k65_set_aside.main.body.getD k (.Pass ⟨0,0,0,0⟩)
abbrev cP2:Stmt:=top 67
noncomputable def rE (d:Nat):XF:=lS T (fnL d) (obT T (fun y=>callW T d y) (fun y=>callI T d y) fun y=>callM T d y) "law" cP2
noncomputable def YL (d:Nat):List W->XR W:=fun ws _ h=>(wK d ws h).bind fun p=>some (.d p.1,p.2)
@[simp] theorem dX3 (d:Nat):YL d=fun ws _ h=>(wK d ws h).bind fun p=>some (.d p.1,p.2):=rfl
noncomputable def cP3 (d:Nat) (w0:W) (h:aA):rE d [w0] h =
 YP
 (YP (aY 1 (aV (xPl (Y3 (xb (xb (Y2 (aB 0) (YJ 0)) (YF d "_law_cell_at")) (YB .FloorDiv 2)) (xb (xb (Y2 (aB 0) (YJ 0)) (YF d "_law_cell_at")) (YB .Mod 2)) (xb (Y2 (aB 0) (YJ 0)) (YF d "_law_cell_at"))))) [some w0,none,none,none,none,none,none,none,none,none,none,none] h) (YQ fun δ' p =>
 YP (YP (xb (Y2 (aB 0) (aB 1)) ((YF d "_law_items")) δ' p.2) fun p=>YP (fT [YG 2,YG 3] p.1 δ' p.2) fun (q:DSt×aA)=>some (Fl.nx (q.1),q.2)) (YQ fun δ' p =>
 YP (aY 1 (aV (xPl (Y3 (xb (xb (Y2 (aB 0) (YJ 1)) (YF d "_law_cell_at")) (YB .FloorDiv 2)) (xb (xb (Y2 (aB 0) (YJ 1)) (YF d "_law_cell_at")) (YB .Mod 2)) (xb (Y2 (aB 0) (YJ 1)) (YF d "_law_cell_at"))))) δ' p.2) (YQ fun δ' p =>
 YP (aY 4 (xb (xPl (Y4 (aB 2) (aB 3) (xb (Y3 (aB 3) (aB 1) (YJ 2)) (YF d "_law_ties")) (xb (Y3 (aB 3) (aB 1) (YJ 3)) (YF d "_law_ties")))) YT) δ' p.2) (YQ fun δ' p =>
 YP (aY 1 (aV (xPl (Y3 (xb (xb (Y2 (aB 0) (YJ 2)) (YF d "_law_cell_at")) (YB .FloorDiv 2)) (xb (xb (Y2 (aB 0) (YJ 2)) (YF d "_law_cell_at")) (YB .Mod 2)) (xb (Y2 (aB 0) (YJ 2)) (YF d "_law_cell_at"))))) δ' p.2) (YQ fun δ' p =>
 YP
 (aY 5
 (aV
 (xb (Y1 (xb (Y1 (aB 3)) (YK bP))) fun (ws:List W) (x:DSt) (h:aA) =>
 match ws with
               | [W.d (PyData.int j)]=>if -2^62<=j/\j < 2^62/\j<=16000000 then some (rng 0 (Int.toNat j),h) else none
               | x=>none))
 δ' p.2)
 (YQ fun δ' p =>
 YP (aY 6 (aV (xPl (aD []))) δ' p.2) (YQ fun δ' p =>
 YP
 (dN (xC1 CmpOp.NotEq (aB 5) (aQ (xPl (aD []))))
 (fun (x:DSt) (x_1:aA) =>
 YP
 (aY 7
 (xb (aB 5) fun (w:W) (δ:DSt) (h:aA) =>
 match w with
                     | W.c j =>
                      match h[j]? with
                      | some (Cell.l xs)=>YP (Y1 (xb (Y2 (aB 1) (xb (Y1 (aB 5)) (YK bP))) (YF d "_law_digit")) δ h) fun (p:List W×aA)=>uZ j p.1 p.2
                      | x=>none
                     | x=>none)
 x x_1)
 (YQ fun δ' p =>
 YP
 (YP (xC1 CmpOp.Eq (xb (Y2 (aB 1) (YJ 2)) (YF d "_law_digit")) (YJ 1) δ' p.2) fun p =>
 if p.1=true then
 YP
 (YP
 (xb (aB 6)
 ((YA (Y1 (aB 7))))
 δ' p.2)
 fun p=>some (Fl.nx δ',p.2))
 YE
 else some (Fl.nx δ',p.2))
 YE))
 1000 δ' p.2)
 (YQ fun δ' p =>
 YP (aY 8 (xb (Y2 (aB 4) (aB 6)) (YF d "_law_due")) δ' p.2) (YQ fun δ' p =>
 YP
 (aY 9
 (aQ
 (xb (Y1 (aB 6)) fun (ws:List W) (x:DSt) (h:aA) =>
 match ws with
                       | [w] =>
                        match ref h w with
                        | some (PyData.list xs)=>some (xs,h)
                        | some (PyData.tuple xs)=>some (xs,h)
                        | x=>none
                       | x=>none))
 δ' p.2)
 (YQ fun δ' p =>
 YP
 (YP (xb (xC1 CmpOp.NotEq (xb (Y2 (aB 4) (aB 9)) (YF d "aside")) (aB 8)) (fun c=>if c=true then aD true else xb (xC1 CmpOp.NotEq (aB 9) (aB 6)) fun c=>if c=true then aD true else xC1 CmpOp.NotEq (xb (Y2 (aB 4) (xb (Y1 (aB 6)) (YK bU))) (YF d "aside")) (aB 8)) δ' p.2) (YT2 false δ'))
 (YQ fun δ' p =>
 YP
 (YP (xC1 CmpOp.NotEq (xb (Y2 (aB 4) (aQ (xPl (aD [])))) (YF d "aside")) (aB 4) δ' p.2) (YT2 false δ'))
 (YQ fun δ' p =>
 YP (aY 10 (aB 4) δ' p.2) (YQ fun δ' p =>
 YP
 (YP (cK (aB 6) δ' p.2) fun (p:(List PyData×Option Nat)×aA) =>
 dH (YG 7)
 (fun (x:DSt) (x_1:aA) =>
 YP (aY 10 (xb (Y2 (aB 10) (aQ (xPl (Y1 (aB 7))))) (YF d "aside")) x x_1) YE)
 (Prod.snd p.1) (Prod.fst p.1) (Prod.fst p.1) δ' p.2)
 (YQ fun δ' p =>
 YP
 (YP (xC1 CmpOp.NotEq (aB 10) (aB 8) δ' p.2) (YT2 false δ'))
 (YQ fun δ' p =>
 YP
 (YP (cK (xb (Y1 (aB 4)) (YF d "_law_none")) δ' p.2) fun (p:(List PyData×Option Nat)×aA) =>
 dH (YG 11)
 (fun (x:DSt) (x_1:aA) =>
 YP
 (YP
 (xb
 (xb (xb (Y1 (aB 11)) (YL d)) YD)
 (fun (b:Bool)=>aD !b) x x_1)
 (YT2 false x))
 YE)
 (Prod.snd p.1) (Prod.fst p.1) (Prod.fst p.1) δ' p.2)
 (YQ fun δ' p =>
 YP (YP (aD (W.d (PyData.bool true)) δ' p.2) YW) YE)))))))))))))))))
 (ends h):=by kernel_rfl
end K65
set_option maxHeartbeats 400000
namespace K65
open PySem PySem.Spec PyProof.Rows L2 DL CI SJ
mutual
theorem yN:∀ (d:PyData) (n:Nat),aF n d=true->PyData.eqv d d=true
 | .none,n,_=>by simp [PyData.eqv]
 | .bool _,n,_=>by simp [PyData.eqv]
 | .int _,n,_=>by simp [PyData.eqv]
 | .str x,n,h=>by simp [PyData.eqv]
 | .list xs,0,h=>by simp [aF] at h
 | .tuple xs,0,h=>by simp [aF] at h
 | .list xs,n+1,h=>by
  have h':plainsB n xs=true:=by simpa [aF] using h
  simpa [PyData.eqv] using ps_refl xs n h'
 | .tuple xs,n+1,h=>by
  have h':plainsB n xs=true:=by simpa [aF] using h
  simpa [PyData.eqv] using ps_refl xs n h'
 | .dict _,n,h=>by cases n<;>simp [aF] at h
theorem ps_refl:∀ (d:List PyData) (n:Nat),plainsB n d=true->PyData.eqvAll d d=true
 | [],n,_=>by simp [PyData.eqvAll]
 | x::xs,n,h=>by
  have h':aF n x=true/\plainsB n xs=true:=by simpa [plainsB] using h
  simpa [PyData.eqvAll] using ⟨yN x n h'.1,ps_refl xs n h'.2⟩
end
theorem bA8:∀ (l:List (Nat×Nat)) (n:Nat),plainsB (n+1) (l.map p2)=true
 | [],n=>by simp
 | a::r,n=>by simp [p2,bA8 r]
theorem bA9:∀ (l:List (Nat×Nat×Nat)) (n:Nat),plainsB (n+1) (l.map p3)=true
 | [],n=>by simp
 | a::r,n=>by simp [p3,bA9 r]
noncomputable def bV5 {b:Pb} (hb:b.ok):aF 64 b.dat=true:=by
 simp [Pb.dat,tK,yM hb.its,bA8,bA9]
noncomputable def bV6 {b:Pb} (hb:b.ok) (h:aA):xEq (.d b.dat) (.d b.dat) h=some true:=by
 simp [xEq,ref,bV5 hb,yN _ _ (bV5 hb)]
noncomputable def dD3 {h:aA} {j:Nat} {ns:List Nat} (e:h[j]?=some (.l (ns.map nI))):xEq (.d (.list (ns.map nI))) (.c j) h=some true:=by
 have p:aF 64 (.list (ns.map nI))=true:=by simp [aB0]
 simp [xEq,ref,e,p,yN _ _ p]
theorem aB5 {g:XG} {tb:XS} {c:Option Nat} {all:List PyData} {h:aA} (hc:CI.condB c all h=true) (I:List PyData->DSt->Prop):∀ (xs p:List PyData) (δ:DSt),I p δ ->
  (∀ x∈xs,∀ p δ,I p δ->∃ δ1,g (.d x) δ h=some (δ1,h)/\∃ δ2,tb δ1 h=some (.nx δ2,h)/\I (p++[x]) δ2)->∃ δ',dH g tb c all xs δ h=some (.nx δ',h)/\I (p++xs) δ'
 | [],p,δ,i,_=>⟨δ,by simp [dH,hc],by simpa using i⟩
 | x::r,p,δ,i,ht=>by
  obtain ⟨δ1,e1,δ2,e2,i2⟩:=ht x List.mem_cons_self p δ i;obtain ⟨δ3,e3,i3⟩:=aB5 hc I r (p++[x]) δ2 i2 fun y hy=>ht y (List.mem_cons_of_mem _ hy);refine ⟨δ3,?_,by simpa using i3⟩;rw [dH,if_pos hc,e1];simp only [bs,e2];exact e3
noncomputable def wL {g:XG} {tb:XS} {c:Option Nat} {all:List PyData} {h:aA} {P:DSt->aA->Prop} (hc:CI.condB c all h=true) (I:List PyData->DSt->Prop) {xs:List PyData} {δ:DSt} (i:I [] δ) (hP:∀ δ,I xs δ->P δ h)
  (ht:∀ x∈xs,∀ p δ,I p δ->∃ δ1,g (.d x) δ h=some (δ1,h)/\∃ δ2,tb δ1 h=some (.nx δ2,h)/\I (p++[x]) δ2):∃ δ' h',dH g tb c all xs δ h=some (.nx δ',h')/\P δ' h':=by
 obtain ⟨δ',e,j⟩:=aB5 hc I xs [] δ i ht;exact ⟨δ',h,e,hP δ' j⟩
noncomputable def cP4 {H:aA} {k:Nat} {xs:List PyData} (e:H[k]?=some (.l xs)) (hp:peqs xs xs=true):CI.condB (some k) xs H=true:=by
 unfold CI.condB;dsimp only;rw [e];exact hp
theorem bB0:∀ {a b:List Nat},a.map nI=b.map nI->a=b
 | [],[],_=>rfl
 | [],_::_,e=>nomatch e
 | _::_,[],e=>nomatch e
 | x::r,y::t,e=>by
  rw [List.map_cons,List.map_cons] at e;obtain ⟨e1,e2⟩:=List.cons.inj e;have:(x:Int)=y:=PyData.int.inj e1;rw [show x=y by omega,bB0 e2]
theorem bB1:∀ l:List Nat,peqs (l.map nI) (l.map nI)=true
 | []=>by simp [peqs]
 | a::r=>by simp [peqs,peq,nI,bB1 r]
noncomputable def dD4 (h:aA) {j:Nat} {x:PyData} {xs:List PyData} (e:h[j]?=some (.l (x::xs))) (hp:aF 64 (.list (x::xs))=true):xEq (.c j) (.d (.list [])) h=some false:=by
 simp [xEq,ref,e,hp,PyData.eqv,PyData.eqvAll]
open Classical in
noncomputable def dD5 {k:Nat} {x:PyData} (e:noP k x) (h:aA):wK (k+3) [.d x] h=some (.bool true,h):=by
 show (if bA7 k [.d x] then some (PyData.bool true,h) else none)=_;rw [if_pos ⟨x,rfl,e⟩]
noncomputable def st3 (c:Int):S3:=(c / 2,c%2,c)
noncomputable def H5 (a b:Cell) (s:S3) (ev nu:List Nat):aA:=[a,b,stL s,.l (ev.map nI),.l (nu.map nI)]
abbrev dL (ns:List Int) (st:List Int) (its:List It) (p:PyData) (x7 x8 x9 x10 x11:Option W):DSt:=[some (lD ns),some (.c 2),some (tD st),some (.d (.tuple (its.map It.dat))),some (.d p),some (.c 3),some (.c 4),x7,x8,x9,x10,x11]
def IL (ns st:List Int) (its:List It) (p:PyData) (a b:Cell) (n k:Nat) (δ:DSt) (H:aA):Prop:=∃ (x7:Option W) (ev nu:List Nat) (s:S3),δ=dL ns st its p x7 none none none none/\H=H5 a b s ev nu/\ev.length=k/\ev.length+nu.length<=n
noncomputable def cP5 (ns:List Int) (d:Nat):∃ h',rE (d+15) [.d (.list (ns.map .int))] []=some (.bool true,h'):=by
 have e2:bS 2=true:=by decide
 have cl:∀ (k:Nat) (h:aA),aE T (d+15) "_law_cell_at" [lD ns,.d (.int k)] h=some (.int (ns.getD k 0),h):=fun k h=>yK (d+14) h ns k;have cl0:∀ h:aA,aE T (d+15) "_law_cell_at" [lD ns,.d (.int 0)] h=some (.int (ns.getD 0 0),h):=fun h=>cl 0 h;have cl1:∀ h:aA,aE T (d+15) "_law_cell_at" [lD ns,.d (.int 1)] h=some (.int (ns.getD 1 0),h):=fun h=>cl 1 h;have cl2:∀ h:aA,aE T (d+15) "_law_cell_at" [lD ns,.d (.int 2)] h=some (.int (ns.getD 2 0),h):=fun h=>cl 2 h;generalize ns.getD 0 0=c0 at cl0;generalize ns.getD 1 0=c1 at cl1;generalize ns.getD 2 0=c2 at cl2;clear cl;rw [cP3];simp only [yB,aI0];refine aZ1 (Q:=fun z:Option (PyData×aA)=>∃ h',z=some (.bool true,h')) (P:=fun q:Fl×aA=>∃ L,q=(.rt (.d (.bool true)),L)) ?_ (fun q ⟨L,e⟩=>⟨[],by
  rw [e];have:okP [] L:=fun i c hi=>absurd hi (Nat.not_lt_zero _);simp [this]⟩)
 refine sqX (.nx [some (lD ns),some (.c 0),none,none,none,none,none,none,none,none,none,none],[stL (st3 c0)]) (by simp [cl0,aV,e2,szl,stL,st3]) ?_;dsimp only;obtain ⟨st,its,s',⟨hst,hil,hok⟩,ei⟩:=bO1 (d+9) [stL (st3 c0)] (i:=0) (st3 c0) (by simp) ns;simp only [List.set_cons_zero] at ei;refine sqX (.nx [some (lD ns),some (.c 0),some (tD st),some (.d (.tuple (its.map It.dat))),none,none,none,none,none,none,none,none],[stL s']) (by simp [ei]) ?_;dsimp only;refine sqX (.nx [some (lD ns),some (.c 1),some (tD st),some (.d (.tuple (its.map It.dat))),none,none,none,none,none,none,none,none],[stL s',stL (st3 c1)]) (by simp [cl1,aV,e2,szl,stL,st3]) ?_;dsimp only;obtain ⟨F,s1,⟨hF,qF⟩,et⟩:=aZ8 (d+12) [stL s',stL (st3 c1)] (i:=1) (st3 c1) (by simp) hil 2 (.inl rfl) (fun x=>∃ p:Nat×Nat,x=p2 p/\(p.1 < its.length/\p.2 < its.length/\p.1≠p.2)) (fun _ p hp=>⟨p,rfl,hp⟩) (fun z=>absurd z (by decide));obtain ⟨ps,rfl,hps⟩:=jM qF;obtain ⟨G,s2,⟨hG,qG⟩,et2⟩:=aZ8 (d+12) [stL s',stL s1] (i:=1) s1 (by simp) hil 3 (.inr rfl) (fun x=>∃ p:Nat×Nat×Nat,x=p3 p/\tO its p) (fun z=>absurd z (by decide)) (fun _ p hp=>⟨p,rfl,hp⟩);obtain ⟨ts,rfl,hts⟩:=jM qG;simp only [List.set_cons_succ,List.set_cons_zero] at et et2;rw [List.length_map] at hF hG;obtain ⟨b,eb⟩:∃ b:Pb,b=⟨st,its,ps,ts⟩:=⟨_,rfl⟩;have hb:b.ok:=by
  subst eb;exact ⟨hst,by show its.length<=120;omega,hok,by show ps.length<=100;omega,hps,by show ts.length<=100;omega,hts⟩
 have hbl:b.its.length<=60:=by subst eb;exact hil
 have ed:b.dat=.tuple [.tuple (st.map .int),.tuple (its.map It.dat),.tuple (ps.map p2),.tuple (ts.map p3)]:=by subst eb;rfl
 refine sqX (.nx [some (lD ns),some (.c 1),some (tD st),some (.d (.tuple (its.map It.dat))),some (.d b.dat),none,none,none,none,none,none,none],[stL s',stL s2]) (by rw [ed];simp [et,et2,szl]) ?_;dsimp only;refine sqX (.nx [some (lD ns),some (.c 2),some (tD st),some (.d (.tuple (its.map It.dat))),some (.d b.dat),none,none,none,none,none,none,none],[stL s',stL s2,stL (st3 c2)]) (by simp [cl2,aV,e2,szl,stL,st3]) ?_;dsimp only;have b1:(-4611686018427387904:Int)<=its.length:=by omega
 have b2:(its.length:Int) < 4611686018427387904:=by omega
 have b3:(its.length:Int)<=16000000:=by omega
 refine sqX (.nx [some (lD ns),some (.c 2),some (tD st),some (.d (.tuple (its.map It.dat))),some (.d b.dat),some (.c 3),none,none,none,none,none,none],[stL s',stL s2,stL (st3 c2),.l ((List.range its.length).map nI)]) (by simp [aV,b1,b2,b3,tL]) ?_;dsimp only;refine sqX (.nx (dL ns st its b.dat none none none none none),H5 (stL s') (stL s2) (st3 c2) (List.range its.length) []) (by simp [aV,H5]) ?_;dsimp only;generalize stL s'=A;generalize stL s2=B;have dg:∀ (s:S3) (ev nu:List Nat) (b:Int),0 < b->bS b=true->aE T (d+15) "_law_digit" [.c 2,.d (.int b)] (H5 A B s ev nu)=some (.int (bL s b),H5 A B (digS s b) ev nu):=fun s ev nu b hb hb2=>tH (d+13) (H5 A B s ev nu) s b (by simp [H5]) hb hb2;refine sqE (IL ns st its b.dat A B its.length 0) ?_ ?_
 ·refine lH (IL ns st its b.dat A B its.length) ?_ ?_ 1000 its.length _ _ (by omega) ⟨none,List.range its.length,[],st3 c2,rfl,rfl,by simp,by simp⟩
  ·rintro _ _ ⟨x7,ev,nu,s,rfl,rfl,hk,hm⟩;have hz:ev=[]:=List.eq_nil_of_length_eq_zero hk;subst hz;refine ⟨?_,x7,[],nu,s,rfl,rfl,hk,hm⟩;simp [aQ,xEq,ref,H5,PyData.eqv,PyData.eqvAll]
  ·rintro k _ _ ⟨x7,ev,nu,s,rfl,rfl,hk,hm⟩;have lo:(0:Int) < ev.length:=by omega
   obtain ⟨j,ej,hj⟩:=bX s (b:=ev.length) lo;have hj':j < ev.length:=by omega
   have g1:=dg s ev nu ev.length lo (eL lo (by omega));rw [ej] at g1;obtain ⟨t,et⟩:∃ t,t=digS s ev.length:=⟨_,rfl⟩;rw [<- et] at g1;have g2:bP [.c 3] (H5 A B s ev nu)=some (.d (.int ev.length),H5 A B s ev nu):=by simp [bP,ref,H5]
   have g3:uZ 3 [.d (.int j)] (H5 A B t ev nu)=some (.d (nI ev[j]),H5 A B t (ev.eraseIdx j) nu):=by
    have e3:(ev.map nI)[j]?=some (nI ev[j]):=by simp [hj']
    have e4:=ix_nat (n:=(ev.map nI).length) (j:=j) (by simpa using hj');simp only [uZ,H5,List.getElem?_cons_succ,List.getElem?_cons_zero,e4,e3,bs];rw [if_pos ⟨by omega,by omega⟩,yL];rfl
   have g4:(H5 A B s ev nu)[3]?=some (.l (ev.map nI)):=rfl;refine ⟨?_,?_⟩
   ·cases ev with
    | nil=>simp at hk
    | cons y r =>
     have hp:aF 64 (.list ((y::r).map nI))=true:=by simp [aB0,nI]
     have:=dD4 (H5 A B s (y::r) nu) (j:=3) (x:=nI y) (xs:=r.map nI) rfl hp;simp [aQ,this]
   ·refine dX (dL ns st its b.dat (some (.d (nI ev[j]))) none none none none) (H5 A B t (ev.eraseIdx j) nu) (by simp [g1,g2,g3,g4]) ?_;dsimp only;have g5:=dg t (ev.eraseIdx j) nu 2 (by decide) e2;have hel:(ev.eraseIdx j).length=k:=by rw [List.length_eraseIdx];simp [hj'];omega
    by_cases hd:bL t 2=1
    ·have hn:nu.length < 16777216:=by omega
     refine ⟨_,H5 A B (digS t 2) (ev.eraseIdx j) (nu++[ev[j]]),?_,some (.d (nI ev[j])),ev.eraseIdx j,nu++[ev[j]],digS t 2,rfl,rfl,hel,by simp;omega⟩;simp [g5,hd];simp [H5,gF,szl,hn]
    ·exact ⟨_,H5 A B (digS t 2) (ev.eraseIdx j) nu,by simp [g5,hd],some (.d (nI ev[j])),ev.eraseIdx j,nu,digS t 2,rfl,rfl,hel,by omega⟩
 rintro _ _ ⟨x7,ev,nu,s,rfl,rfl,hk,hm⟩;dsimp only;have hz:ev=[]:=List.eq_nil_of_length_eq_zero hk;subst hz;have hnu:nu.length<=1000:=by simp at hm;omega
 have h4:(H5 A B s [] nu)[4]?=some (.l (nu.map nI)):=rfl;obtain ⟨H,eH⟩:∃ H,H=H5 A B s [] nu:=⟨_,rfl⟩;rw [<- eH] at h4 ⊢;have due:=dD0 (d+14) H hb (w1:=.c 4) (ns:=nu) (fun L=>dC6 (by rw [List.getElem?_append_left (by rw [eH];simp [H5])];exact h4));refine sqX (.nx (dL ns st its b.dat x7 (some (.d (asd b nu).dat)) none none none),H) (by simp [due]) ?_;dsimp only;refine sqX (.nx (dL ns st its b.dat x7 (some (.d (asd b nu).dat)) (some (.d (.list (nu.map nI)))) none none),H) (by simp [aQ,ref,h4]) ?_;dsimp only;have a1:=mY (d+1) H hb (z:=.list (nu.map nI)) (ns:=nu) (.inl rfl) hnu;have a2:=mY (d+1) H hb (z:=.tuple (nu.map nI)) (ns:=nu) (.inr rfl) hnu;have q1:=bV6 (bA2 hb nu) H;have q2:=dD3 h4;have t1:bU [.c 4] H=some (.d (.tuple (nu.map nI)),H):=by simp [bU,ref,h4]
 refine sqX (.nx (dL ns st its b.dat x7 (some (.d (asd b nu).dat)) (some (.d (.list (nu.map nI)))) none none),H) (by simp [a1,a2,q1,q2,t1]) ?_;dsimp only;have a3:=mY (d+1) H hb (z:=.list []) (ns:=[]) (.inl rfl) (by simp);rw [bV1] at a3;have q3:=bV6 hb H;refine sqX (.nx (dL ns st its b.dat x7 (some (.d (asd b nu).dat)) (some (.d (.list (nu.map nI)))) none none),H) (by simp [aQ,a3,q3]) ?_;dsimp only;refine sqX (.nx (dL ns st its b.dat x7 (some (.d (asd b nu).dat)) (some (.d (.list (nu.map nI)))) (some (.d b.dat)) none),H) (by simp) ?_;dsimp only;refine sqE (fun δ H'=>H'=H/\∃ x7,δ=dL ns st its b.dat x7 (some (.d (asd b nu).dat)) (some (.d (.list (nu.map nI)))) (some (.d (asd b nu).dat)) none) ?_ ?_
 ·refine rD ((nu.map nI,some 4),H) (by simp [h4]) ?_;dsimp only;refine wL (cP4 h4 (bB1 nu)) (fun xs δ=>∃ (x7:Option W) (ms:List Nat),xs=ms.map nI/\δ=dL ns st its b.dat x7 (some (.d (asd b nu).dat)) (some (.d (.list (nu.map nI)))) (some (.d (asd b ms).dat)) none) ⟨x7,[],rfl,by rw [bV1]⟩ (fun δ ⟨x7,ms,e1,e2⟩=>⟨rfl,x7,by rw [e2,bB0 e1]⟩) fun x hx p δ ⟨x7,ms,e1,e2⟩=>?_;subst e2;obtain ⟨y,hy,rfl⟩:=List.mem_map.mp hx;have a4:=mY (d+1) H (bA2 hb ms) (z:=.list [nI y]) (ns:=[y]) (.inl rfl) (by simp);rw [dC9] at a4;exact ⟨dL ns st its b.dat (some (.d (nI y))) (some (.d (asd b nu).dat)) (some (.d (.list (nu.map nI)))) (some (.d (asd b ms).dat)) none,rfl,dL ns st its b.dat (some (.d (nI y))) (some (.d (asd b nu).dat)) (some (.d (.list (nu.map nI)))) (some (.d (asd b (ms++[y])).dat)) none,by simp [aQ,szl,a4],_,ms++[y],by rw [e1];simp,rfl⟩
 rintro _ H' ⟨eq',x7,rfl⟩;rw [eq'];dsimp only;refine sqX (.nx (dL ns st its b.dat x7 (some (.d (asd b nu).dat)) (some (.d (.list (nu.map nI)))) (some (.d (asd b nu).dat)) none),H) (by simp [q1]) ?_;dsimp only;clear eH;have nn:=cO9 (d+14) H (b:=b) (by omega);refine sqE (fun δ H'=>True) ?_ ?_
 ·refine rD ((noneL b,none),H) (by simp [nn]) ?_;dsimp only;refine wL rfl (fun xs δ=>∃ x11:Option W,δ=dL ns st its b.dat x7 (some (.d (asd b nu).dat)) (some (.d (.list (nu.map nI)))) (some (.d (asd b nu).dat)) x11) ⟨_,rfl⟩ (fun _ _=>trivial) fun x hx p δ ⟨x11,e⟩=>?_;subst e;have r:=dD5 (fun h=>cP1 d h hb hbl x hx) H;exact ⟨dL ns st its b.dat x7 (some (.d (asd b nu).dat)) (some (.d (.list (nu.map nI)))) (some (.d (asd b nu).dat)) (some (.d x)),rfl,dL ns st its b.dat x7 (some (.d (asd b nu).dat)) (some (.d (.list (nu.map nI)))) (some (.d (asd b nu).dat)) (some (.d x)),by simp [r],_,rfl⟩
 rintro δ' H' _;dsimp only;exact ⟨(.rt (.d (.bool true)),H'),by simp,H',rfl⟩
end K65
namespace K65
open PySem PySem.Spec PyProof.Rows L2 DL CI
abbrev sC:Stmt:=top 51
abbrev sA:Stmt:=top 53
abbrev sR:Stmt:=top 65
noncomputable def dC:T.defs "check_problem"=some sC:=by kernel_rfl
noncomputable def dA:T.defs "aside"=some sA:=by kernel_rfl
noncomputable def dR:T.defs "_law_refused"=some sR:=by kernel_rfl
noncomputable def dI:∃ s,T.defs "is_problem"=some s:=⟨top 49,by kernel_rfl⟩
noncomputable def scC:FnScope ["problem"] ["problem"] (aK sC):=by
 have:=fH (s:=sC) (by kernel_rfl)
 rwa [show fO sC=(["problem"]:List Str) by kernel_rfl,show aT sC=(["problem"]:List Str) by kernel_rfl] at this
noncomputable def scA:FnScope ["problem","numbers"] ["problem","numbers"] (aK sA):=by
 have:=fH (s:=sA) (by kernel_rfl)
 rwa [show fO sA=(["problem","numbers"]:List Str) by kernel_rfl,show aT sA=(["problem","numbers"]:List Str) by kernel_rfl] at this
noncomputable def scR:FnScope ["_law_thing","e"] ["_law_thing"] (aK sR):=by
 have:=fH (s:=sR) (by kernel_rfl)
 rwa [show fO sR=(["_law_thing","e"]:List Str) by kernel_rfl,show aT sR=(["_law_thing"]:List Str) by kernel_rfl] at this
abbrev bmV:List Value:=[.type "ValueError",.type "Exception",.type "BaseException",.type "object"]
structure Er (K:Frag) (mg:Str->Option Value) (base:Heap) (C CJ cH cL cP cT:Addr):Prop where
 O:OwnCls "NoProblem" C bmV "ValueError.__new__" mg base
 Z:XCls K C
 mJ:mg "JudgeError"=some (.ref CJ)
 hJ:PySem.W.exmOne K (.ref C) (.ref CJ)=some true
 mH:mg "NoHistory"=some (.ref cH)
 mL:mg "NoLine"=some (.ref cL)
 mP:mg "NoPromise"=some (.ref cP)
 mT:mg "NoText"=some (.ref cT)
 k4:PySem.W.kitAny K (.ref C) [.ref cH,.ref cL,.ref cP,.ref cT]=some false
 mC:mg "NoProblem"=some (.ref C)
 kC:PySem.W.kitOne K (.ref C) (.ref C)=some true
 mV:mg "ValueError"=none
 kV:PySem.W.kitOne K (.ref C) (.type "ValueError")=some true
section
variable {P:Program} {w:World} {K:Frag} {mg:Str->Option Value} {base:Heap} {C CJ cH cL cP cT:Addr}
noncomputable def bB2 {k:Nat} {f:Addr} {fd:FuncData} (F:Fun K "check_problem" "check_problem" sC f fd) (X:Er K mg base C CJ cH cL cP cT) (D:DFn P w K mg base k "is_problem" (kE (aE T k "is_problem"))) :
  FnOk P w K mg base (CXN P w C) (k+1) f fd ["problem"] (upX K C (bA7 k)):=by
 refine dB3 F scC (fun ws ⟨_,e,_⟩=>by subst e;rfl) fun cdv A outer s H E hr ws h hw=>⟨_,dB2 (aN2 (xE (zC D hr (cQ (dv 0) fM)))) (aX2 X.O PySem.F.excBase_ValueError qW (cQ aM9 fM)),?_⟩;obtain ⟨x,rfl,hx⟩:=hw;simp [cT5,dB,aN8,zB,uE,aD3,cZ,kE,hx h,DL.dC,szl];exact ⟨_,_,⟨rfl,rfl⟩,rfl,rfl⟩
def cP6 (k:Nat) (ws:List W):Prop:=∃ x y,ws=[.d x,.d y]/\noP k x
noncomputable def bB3 {k:Nat} {f fc:Addr} {fd fdc:FuncData} (F:Fun K "aside" "aside" sA f fd) (Fc:Fun K "check_problem" "check_problem" sC fc fdc) (mc:mg "check_problem"=some (.ref fc)) (bc:Binds K fdc ["problem"] [])
  (N:FnOk P w K mg base (CXN P w C) (k+1) fc fdc ["problem"] (upX K C (bA7 k))):FnOk P w K mg base (CXN P w C) (k+2) f fd ["problem","numbers"] (upX K C (cP6 k)):=by
 refine dB3 F scA (fun ws ⟨_,_,e,_⟩=>by subst e;rfl) fun cdv A outer s H E hr ws h hw=>⟨_,aX4 (aX3 N hr mc Fc.kp bc qW (cQ (dv 0) fM)),?_⟩;obtain ⟨x,y,rfl,hx⟩:=hw;simp [zB,uE,aD3,cZ];exact ⟨x,rfl,hx⟩
noncomputable def cP7 {k:Nat} {f fa:Addr} {fd fda:FuncData} (F:Fun K "_law_refused" "_law_refused" sR f fd) (X:Er K mg base C CJ cH cL cP cT) (hm:mg "isinstance"=none) (Fa:Fun K "aside" "aside" sA fa fda) (ma:mg "aside"=some (.ref fa)) (ba:Binds K fda ["problem","numbers"] [])
  (N:FnOk P w K mg base (CXN P w C) (k+2) fa fda ["problem","numbers"] (upX K C (cP6 k))):FnOk P w K mg base CX0 (k+3) f fd ["_law_thing"] (lZ K (kE (wK (k+3)))):=by
 have hR:∀ ws h z h',wK (k+3) ws h=some (z,h')->bA7 k ws/\z=.bool true/\h'=h:=fun ws h z h' e=>by
  unfold wK at e;dsimp only at e;split at e
  ·rename_i hp;cases e;exact ⟨hp,rfl,rfl⟩
  ·cases e
 refine dfn F scR (fun ws h kk ⟨z,h',e,_⟩=>by obtain ⟨⟨x,rfl,_⟩,_⟩:=hR _ _ _ _ e;rfl) fun cdv A outer s H E hcd hr=>?_;refine ⟨_,nN (cM2 (C:=C) (CJ:=CJ) (i:=1) (pre:=cP6 k) N ⟨rfl,rfl,rfl⟩ hr ma Fa.kp ba (fun Ex=>cQ (dv 0) (cQ (xD (aN1 fM)) fM)) X.mJ X.hJ scR.nd rfl rfl
  (fun ea oe hc hd=>nN (bP9 (xE (bM7 (i:=1) X.Z hc (List.mem_cons_self) hm X.mH X.mL X.mP X.mT X.k4 rfl rfl rfl rfl (by decide) (by decide) (by decide) (by decide) rfl (.inl rfl) rfl (by decide) (by decide))) (rT (rV aM8)) zD)
   (rT (rV (aN3 (aX5 (i:=1) (cv:=.ref C) (cu:=.ref C) X.Z hc (List.mem_cons_self) hm (eE rfl X.mC rfl) (fun u r=>by cases r;rfl) X.kC) (xF (aX5 (i:=1) (cv:=.ty "ValueError") (cu:=.type "ValueError") X.Z hc (List.mem_cons_self) hm (yP rfl X.mV rfl rfl (by decide) (by decide)) (fun u r=>by cases r;rfl) X.kV))))))) (rT (rV aM8)),?_⟩
 rintro ws h kk ⟨z,h',e,q⟩;obtain ⟨⟨x,rfl,hx⟩,rfl,rfl⟩:=hR _ _ _ _ e;simp [cU6,dB4,bM6,cM3,zB,uE,aD3,cZ,bE2,cT3,cU9,cU7,dB,bP7,aN9,cY,aO7];exact ⟨⟨x,_,rfl,hx⟩,q⟩
noncomputable def bO5 {k:Nat} (TT:TopOk T P w K mg base) (X:Er K mg base C CJ cH cL cP cT) (hm:mg "isinstance"=none):DFn P w K mg base (k+3) "_law_refused" (kE (wK (k+3))):=by
 obtain ⟨fc,fdc,Fc,mc,bc⟩:=TT.defs _ _ dC;obtain ⟨fa,fda,Fa,ma,ba⟩:=TT.defs _ _ dA;obtain ⟨f,fd,F,mf,bf⟩:=TT.defs _ _ dR;obtain ⟨s,hs⟩:=dI;have D:=(sT TT k).fn "is_problem" (aE T k "is_problem") (by show (T.defs "is_problem").map _=_;rw [hs];rfl);rw [show aT sC=(["problem"]:List Str) by kernel_rfl] at bc;rw [show aT sA=(["problem","numbers"]:List Str) by kernel_rfl] at ba;have R:=cP7 F X hm Fa ma ba (bB3 Fa Fc mc bc (bB2 Fc X D));rw [show (["_law_thing"]:List Str)=aT sR by kernel_rfl] at R;exact aO8 R mf F bf
noncomputable def bO6 {d:Nat} {f:Addr} {fd:FuncData} (TT:TopOk T P w K mg base) (X:Er K mg base C CJ cH cL cP cT) (hm:mg "isinstance"=none) (F:Fun K "law" "law" cP2 f fd):FnOk P w K mg base CX0 (d+3+1) f fd (aT cP2) (lZ K (kE (rE (d+3)))):=by
 have B:=sT TT (d+3);refine bU0 (x:="law") TT F ⟨fun x m e=>?_,B.fnW,B.cls,B.om,B.fo⟩;unfold fnL at e;split at e
 ·rename_i hx;cases e;subst hx;exact bO5 TT X hm
 ·exact B.fn x m e
end
noncomputable def cP8 {K:Frag} {h:Heap} {x:Str} {C:Addr} {mg:Str->Option Value} {bmB:List Value} {newId:String} (X:K.In h) (hm:mg x=some (.ref C)) (q:PySem.W.excIn K C bmB newId=true):OwnCls x C bmB newId mg h:=by
 refine ⟨hm,?_⟩;unfold PySem.W.excIn at q;split at q
 ·rename_i d0 c0 s0 lk;split at q
  ·rename_i D tl r0 r1 r2 r3 ni r5 em es;obtain ⟨q5,q6⟩:=Bool.and_eq_true_iff.mp q;obtain ⟨q4,q7⟩:=Bool.and_eq_true_iff.mp q5;obtain ⟨q3,q8⟩:=Bool.and_eq_true_iff.mp q4;obtain ⟨q2,q9⟩:=Bool.and_eq_true_iff.mp q3;obtain ⟨q1,q0⟩:=Bool.and_eq_true_iff.mp q2;have e1:D=C:=eq_of_beq q1;have e2:ni=newId:=eq_of_beq q0;subst e1 e2;obtain ⟨v1,v2,v3,v4,v5,v6,v7,v8,v9,v10,v11⟩:=c0;simp only [Bool.not_eq_true'] at q9;dsimp only at em q7 q6 q9;subst em q9;have e3:s0=#[r0,r1,r2,r3,some (.builtin ni),r5]:=by
    obtain ⟨ll⟩:=s0;dsimp only at es;rw [es]
   subst e3;exact ⟨tl,v4,v1,v5,v2,v6,v7,v8,v9,v10,d0,r0,r1,r2,r3,r5,_,X _ _ lk,.of_isNs (PySem.W.isNs_of_in X q7),PySem.W.nsMap_none_of_in X q7 (eq_of_beq q6),PySem.W.tail_of_in X q8⟩
  ·cases q
 ·cases q
noncomputable def bO7 {m:XF} (hL:∀ ns:List Int,∃ h',m [.d (.list (ns.map .int))] []=some (.bool true,h')) (K:Frag) (H:Hp) (a:Addr) (ns:List Int) (hS:SqL K H a (ns.map V.int)):lZ K (kE m) [.ref a] H (fun v _=>v=.bl true) fun _ _ _=>False:=by
 obtain ⟨h',e⟩:=hL ns;refine ⟨[.d (.list (ns.map .int))],[],[],[],fun z _=>z=.bool true,⟨rfl,List.nodup_nil,fun _ z=>(nomatch z),fun _ z=>(nomatch z),fun i a xs e=>by simp at e⟩,⟨_,[],rfl,?_,rfl⟩,⟨.bool true,h',e,rfl⟩,fun z h' v H' A' e _ _ r=>?_⟩
 ·show Rep K [] H (.list (ns.map .int)) (.ref a);rw [Rep];refine ⟨a,_,rfl,?_,lE K [] H ns⟩;rcases hS with h | h
  ·exact .inl ⟨by simp,h⟩
  ·exact .inr h
 ·subst e;rw [Rep] at r;exact r
end K65
set_option maxHeartbeats 4000000
namespace K65
open PySem PySem.Spec PyProof.Rows L2 DL CI
abbrev s_0:Stmt:=top 1
abbrev s_1:Stmt:=top 2
abbrev s_2:Stmt:=top 3
abbrev s_3:Stmt:=top 4
abbrev s_4:Stmt:=top 5
abbrev s_5:Stmt:=top 10
abbrev s_6:Stmt:=top 11
abbrev s_7:Stmt:=top 12
abbrev s_8:Stmt:=top 13
abbrev s_9:Stmt:=top 14
abbrev dD6:Stmt:=top 15
abbrev dD7:Stmt:=top 16
abbrev dD8:Stmt:=top 17
abbrev dD9:Stmt:=top 18
abbrev dE0:Stmt:=top 19
abbrev dE1:Stmt:=top 20
abbrev dE2:Stmt:=top 21
abbrev dE3:Stmt:=top 22
abbrev dE4:Stmt:=top 32
abbrev dE5:Stmt:=top 33
abbrev dE6:Stmt:=top 34
abbrev dE7:Stmt:=top 35
abbrev dE8:Stmt:=top 36
abbrev dE9:Stmt:=top 37
abbrev dF0:Stmt:=top 43
abbrev dF1:Stmt:=top 44
abbrev dF2:Stmt:=top 45
abbrev dF3:Stmt:=top 46
abbrev dF4:Stmt:=top 47
abbrev dF5:Stmt:=top 48
abbrev dF6:Stmt:=top 49
abbrev dF7:Stmt:=top 50
abbrev dF8:Stmt:=top 51
abbrev dF9:Stmt:=top 53
abbrev dG0:Stmt:=top 54
abbrev dG1:Stmt:=top 55
abbrev dG2:Stmt:=top 57
abbrev dG3:Stmt:=top 58
abbrev dG4:Stmt:=top 59
abbrev dG5:Stmt:=top 60
abbrev dG6:Stmt:=top 61
abbrev dG7:Stmt:=top 62
abbrev dG8:Stmt:=top 63
abbrev dG9:Stmt:=top 64
abbrev dH0:Stmt:=top 65
abbrev dH1:Stmt:=top 66
abbrev yO:Stmt:=top 67
noncomputable def dH2:gcl body=([(Str.ofString "LAST_KEY",PyData.int 7),(Str.ofString "MOST_PARTS",PyData.int 4),(Str.ofString "FIRST",PyData.tuple [PyData.int 0,PyData.int 0,PyData.int 0,PyData.int 0,PyData.int 0,PyData.int 0,PyData.int 0,PyData.int 0]),(Str.ofString "WORDS",PyData.tuple [PyData.str (Str.ofString "must"),PyData.str (Str.ofString "may"),PyData.str (Str.ofString "out")]),(Str.ofString "MOST_ITEMS",PyData.int 120),(Str.ofString "MOST_PAIRS",PyData.int 4000),(Str.ofString "MOST_TRIPLES",PyData.int 4000)]:List (Str×PyData)):=by kernel_rfl
noncomputable def dH3:tkl body=([(Str.ofString "NUMBERS_BEHIND",[(Str.ofString "read",0),(Str.ofString "write",1),(Str.ofString "add",1),(Str.ofString "swap",2)])]:List (Str×List (Str×Int))):=by kernel_rfl
noncomputable def dH4:dfl body=([(Str.ofString "is_whole",s_0),(Str.ofString "is_between",s_1),(Str.ofString "is_tuple_of",s_2),(Str.ofString "are_whole",s_3),(Str.ofString "are_rising",s_4),(Str.ofString "is_key",s_5),(Str.ofString "word_of",s_6),(Str.ofString "is_worded",s_7),(Str.ofString "is_single",s_8),(Str.ofString "is_span",s_9),(Str.ofString "is_deal",dD6),(Str.ofString "is_call",dD7),(Str.ofString "is_look",dD8),(Str.ofString "is_value_pair",dD9),(Str.ofString "is_lay",dE0),(Str.ofString "is_step",dE1),(Str.ofString "is_answer",dE2),(Str.ofString "is_own_answer",dE3),(Str.ofString "is_stand",dE4),(Str.ofString "with_value",dE5),(Str.ofString "done",dE6),(Str.ofString "single_done",dE7),(Str.ofString "deal_done",dE8),(Str.ofString "laid",dE9),(Str.ofString "is_item",dF0),(Str.ofString "are_items",dF1),(Str.ofString "are_numbers",dF2),(Str.ofString "are_unlike",dF3),(Str.ofString "are_pairs",dF4),(Str.ofString "are_triples",dF5),(Str.ofString "is_problem",dF6),(Str.ofString "marked",dF7),(Str.ofString "check_problem",dF8),(Str.ofString "aside",dF9),(Str.ofString "with_aside",dG0),(Str.ofString "set_aside",dG1),(Str.ofString "_law_cell_at",dG2),(Str.ofString "_law_mixed",dG3),(Str.ofString "_law_digit",dG4),(Str.ofString "_law_plain",dG5),(Str.ofString "_law_step",dG6),(Str.ofString "_law_items",dG7),(Str.ofString "_law_ties",dG8),(Str.ofString "_law_due",dG9),(Str.ofString "_law_refused",dH0),(Str.ofString "_law_none",dH1),(Str.ofString "law",yO)]:List (Str×Stmt)):=by kernel_rfl
noncomputable def dH5:aT yO=([Str.ofString "_law_script"]:List Str):=by kernel_rfl
noncomputable def all_mk {l:PySem.W.OpenLaw} {w:World} {K:Frag} {h:Heap} {mg:Str->Option Value} {fa:Addr} (X:K.In h) (G:h.Ns mainGlobals mg) (hfa:mg "law"=some (.ref fa))
  (a0:FI K "is_whole" s_0)
  (a1:FI K "is_between" s_1)
  (a2:FI K "is_tuple_of" s_2)
  (a3:FI K "are_whole" s_3)
  (a4:FI K "are_rising" s_4)
  (a5:FI K "is_key" s_5)
  (a6:FI K "word_of" s_6)
  (a7:FI K "is_worded" s_7)
  (a8:FI K "is_single" s_8)
  (a9:FI K "is_span" s_9)
  (a10:FI K "is_deal" dD6)
  (a11:FI K "is_call" dD7)
  (a12:FI K "is_look" dD8)
  (a13:FI K "is_value_pair" dD9)
  (a14:FI K "is_lay" dE0)
  (a15:FI K "is_step" dE1)
  (a16:FI K "is_answer" dE2)
  (a17:FI K "is_own_answer" dE3)
  (a18:FI K "is_stand" dE4)
  (a19:FI K "with_value" dE5)
  (a20:FI K "done" dE6)
  (a21:FI K "single_done" dE7)
  (a22:FI K "deal_done" dE8)
  (a23:FI K "laid" dE9)
  (a24:FI K "is_item" dF0)
  (a25:FI K "are_items" dF1)
  (a26:FI K "are_numbers" dF2)
  (a27:FI K "are_unlike" dF3)
  (a28:FI K "are_pairs" dF4)
  (a29:FI K "are_triples" dF5)
  (a30:FI K "is_problem" dF6)
  (a31:FI K "marked" dF7)
  (a32:FI K "check_problem" dF8)
  (a33:FI K "aside" dF9)
  (a34:FI K "with_aside" dG0)
  (a35:FI K "set_aside" dG1)
  (a36:FI K "_law_cell_at" dG2)
  (a37:FI K "_law_mixed" dG3)
  (a38:FI K "_law_digit" dG4)
  (a39:FI K "_law_plain" dG5)
  (a40:FI K "_law_step" dG6)
  (a41:FI K "_law_items" dG7)
  (a42:FI K "_law_ties" dG8)
  (a43:FI K "_law_due" dG9)
  (a44:FI K "_law_refused" dH0)
  (a45:FI K "_law_none" dH1)
  (a46:FI K "law" yO)
  {tg0:Tok} (cg0:PySem.W.nsIn K mainGlobals "LAST_KEY"=some (some (.int 7 tg0)))
  {tg1:Tok} (cg1:PySem.W.nsIn K mainGlobals "MOST_PARTS"=some (some (.int 4 tg1)))
  {q2:Addr} {nq2:Nat} {tq2_0 tq2_1 tq2_2 tq2_3 tq2_4 tq2_5 tq2_6 tq2_7:Tok} (aQ2:PySem.W.nsIn K mainGlobals "FIRST"=some (some (.ref q2))) (lQ2:K.lookup q2=some ⟨.type "tuple",none,.seq #[.int 0 tq2_0,.int 0 tq2_1,.int 0 tq2_2,.int 0 tq2_3,.int 0 tq2_4,.int 0 tq2_5,.int 0 tq2_6,.int 0 tq2_7] nq2,#[]⟩)
  {q3:Addr} {nq3:Nat} {tq3_0 tq3_1 tq3_2:Tok} (aQ3:PySem.W.nsIn K mainGlobals "WORDS"=some (some (.ref q3))) (lQ3:K.lookup q3=some ⟨.type "tuple",none,.seq #[.str "must" tq3_0,.str "may" tq3_1,.str "out" tq3_2] nq3,#[]⟩)
  {tg4:Tok} (cg4:PySem.W.nsIn K mainGlobals "MOST_ITEMS"=some (some (.int 120 tg4)))
  {tg5:Tok} (cg5:PySem.W.nsIn K mainGlobals "MOST_PAIRS"=some (some (.int 4000 tg5)))
  {tg6:Tok} (cg6:PySem.W.nsIn K mainGlobals "MOST_TRIPLES"=some (some (.int 4000 tg6)))
  {p0:Addr} {n0:Nat} {hh0_0 hh0_1 hh0_2 hh0_3:Int} {tk0_0 tv0_0 tk0_1 tv0_1 tk0_2 tv0_2 tk0_3 tv0_3:Tok} (aT0:PySem.W.nsIn K mainGlobals "NUMBERS_BEHIND"=some (some (.ref p0))) (lT0:K.lookup p0=some ⟨.type "dict",none,.dict #[⟨hh0_0,.str "read" tk0_0,.int 0 tv0_0⟩,⟨hh0_1,.str "write" tk0_1,.int 1 tv0_1⟩,⟨hh0_2,.str "add" tk0_2,.int 1 tv0_2⟩,⟨hh0_3,.str "swap" tk0_3,.int 2 tv0_3⟩] n0,#[]⟩) (kT0:PySem.W.KeysLit w.params [⟨hh0_0,.str "read" tk0_0,.int 0 tv0_0⟩,⟨hh0_1,.str "write" tk0_1,.int 1 tv0_1⟩,⟨hh0_2,.str "add" tk0_2,.int 1 tv0_2⟩,⟨hh0_3,.str "swap" tk0_3,.int 2 tv0_3⟩]) (sT0:(p0==sysModules)=false)
  {C:Addr} (aC:PySem.W.nsIn K mainGlobals "NoProblem"=some (some (.ref C))) (qX:PySem.W.excIn K C bmV "ValueError.__new__"=true)
  (x1:PySem.W.findIn K (.ref C) "__getattribute__"=some (some (.builtin "BaseException.__getattribute__"))) (x2:PySem.W.findIn K (.ref C) "__getattr__"=some none) (x3:PySem.W.findIn K (.ref C) "__class__"=some (some (.builtin "object.__class__"))) (x4:PySem.W.mroIn K C (.type "BaseException")=some true) (x5:PySem.W.mroIn K C (.type "object")=some true)
  {CJ cH cL cP cT:Addr} (aJ:PySem.W.nsIn K mainGlobals "JudgeError"=some (some (.ref CJ))) (aH:PySem.W.nsIn K mainGlobals "NoHistory"=some (some (.ref cH))) (aLn:PySem.W.nsIn K mainGlobals "NoLine"=some (some (.ref cL))) (aP:PySem.W.nsIn K mainGlobals "NoPromise"=some (some (.ref cP))) (aTx:PySem.W.nsIn K mainGlobals "NoText"=some (some (.ref cT)))
  (hJ:PySem.W.exmOne K (.ref C) (.ref CJ)=some true) (k4:PySem.W.kitAny K (.ref C) [.ref cH,.ref cL,.ref cP,.ref cT]=some false) (qC:PySem.W.kitOne K (.ref C) (.ref C)=some true) (zV:PySem.W.nsIn K mainGlobals "ValueError"=some none) (qV:PySem.W.kitOne K (.ref C) (.type "ValueError")=some true)
  (zb:∀ b∈blAll,PySem.W.nsIn K mainGlobals b=some none) :
  ∃ fd:FuncData,(∀ (s:Shared) (v:Value),BindsTo s fd ⟨[v],[]⟩ [("_law_script",v)])/\∀ base:Heap,K.In base->base.Ns mainGlobals mg->FnOk l.prog w K mg base CX0 16 fa fd ["_law_script"] (lZ K (kE (rE 15))):=by
 have aL:=a46;obtain ⟨f46,od46,an46,sl46,oc46,kV46,dc46,pm46,cd46,ct46,b46,l46,c46,kk46⟩:=aL;have e:=hfa.symm.trans (PySem.W.mg_of X G b46);cases e;have F46:=aM5 (st:=yO) l46 c46 kk46;refine ⟨PySem.W.fnOf "law" "law" (cO yO) (bR yO) (aK yO) .none kV46 dc46 pm46 an46 cd46 ct46,fun s v=>.of_eq rfl,fun base XB GB=>?_⟩;have TT:TopOk T l.prog w K mg base:=by
  refine ⟨fun x hx=>?_,fun x z hz=>?_,fun x f hf=>?_,fun x s hs=>?_,fun x C s hs=>?_,fun x C s hs=>?_,fun C f hf=>?_⟩
  ·have hx:blAll.contains x=true:=hx;rw [List.contains_iff_mem] at hx;exact PySem.W.mg_none_of X G (zb x hx)
  ·have hm:=cL2 (show cK3 body x=some z from hz);rw [dH2] at hm;simp only [List.mem_cons,List.not_mem_nil,or_false,Prod.mk.injEq] at hm;rcases hm with ⟨rfl,rfl⟩ | ⟨rfl,rfl⟩ | ⟨rfl,rfl⟩ | ⟨rfl,rfl⟩ | ⟨rfl,rfl⟩ | ⟨rfl,rfl⟩ | ⟨rfl,rfl⟩
   ·exact ⟨.int 7,_,PySem.W.mg_of X G cg0,⟨tg0,rfl⟩,fun _ _=>jT⟩
   ·exact ⟨.int 4,_,PySem.W.mg_of X G cg1,⟨tg1,rfl⟩,fun _ _=>jT⟩
   ·exact ⟨.ref q2,_,PySem.W.mg_of X G aQ2,rfl,cL6 (ws:=[0,0,0,0,0,0,0,0]) lQ2 (.cons ⟨_,rfl⟩ (.cons ⟨_,rfl⟩ (.cons ⟨_,rfl⟩ (.cons ⟨_,rfl⟩ (.cons ⟨_,rfl⟩ (.cons ⟨_,rfl⟩ (.cons ⟨_,rfl⟩ (.cons ⟨_,rfl⟩ .nil)))))))) (show 8<=16777216 by decide)⟩
   ·exact ⟨.ref q3,_,PySem.W.mg_of X G aQ3,rfl,cL5 (ws:=["must","may","out"]) lQ3 (.cons ⟨_,rfl⟩ (.cons ⟨_,rfl⟩ (.cons ⟨_,rfl⟩ .nil))) (show 3<=16777216 by decide) (by decide +kernel)⟩
   ·exact ⟨.int 120,_,PySem.W.mg_of X G cg4,⟨tg4,rfl⟩,fun _ _=>jT⟩
   ·exact ⟨.int 4000,_,PySem.W.mg_of X G cg5,⟨tg5,rfl⟩,fun _ _=>jT⟩
   ·exact ⟨.int 4000,_,PySem.W.mg_of X G cg6,⟨tg6,rfl⟩,fun _ _=>jT⟩
  ·obtain ⟨t,hm,rfl⟩:=cL3 (show cK5 body x=some f from hf);rw [dH3] at hm;simp only [List.mem_cons,List.not_mem_nil,or_false,Prod.mk.injEq] at hm;rcases hm with ⟨rfl,rfl⟩
   ·refine ⟨p0,PySem.W.mg_of X G aT0,⟨⟨_,n0,lT0,kT0,fun y i hy=>?_,fun y hy=>?_⟩,sT0⟩⟩
    ·repeat rw [vM]
     simp only [List.lookup] at hy
     repeat (first | (split at hy;(rename_i q;rw [if_pos (eq_of_beq q).symm];cases hy;exact ⟨_,rfl⟩);(rename_i q;rw [if_neg (fun z=>(beq_eq_false_iff_ne.mp q) z.symm)])) | cases hy)
    ·repeat rw [vM]
     simp only [List.lookup] at hy
     repeat (split at hy;(cases hy);(rename_i q;rw [if_neg (fun z=>(beq_eq_false_iff_ne.mp q) z.symm)]))
     rfl
  ·have hm:=cL4 (show xZ body x=some s from hs);rw [dH4] at hm;simp only [List.mem_cons,List.not_mem_nil,or_false,Prod.mk.injEq] at hm;rcases hm with ⟨rfl,rfl⟩ | ⟨rfl,rfl⟩ | ⟨rfl,rfl⟩ | ⟨rfl,rfl⟩ | ⟨rfl,rfl⟩ | ⟨rfl,rfl⟩ | ⟨rfl,rfl⟩ | ⟨rfl,rfl⟩ | ⟨rfl,rfl⟩ | ⟨rfl,rfl⟩ | ⟨rfl,rfl⟩ | ⟨rfl,rfl⟩ | ⟨rfl,rfl⟩ | ⟨rfl,rfl⟩ | ⟨rfl,rfl⟩ | ⟨rfl,rfl⟩ | ⟨rfl,rfl⟩ | ⟨rfl,rfl⟩ | ⟨rfl,rfl⟩ | ⟨rfl,rfl⟩ | ⟨rfl,rfl⟩ | ⟨rfl,rfl⟩ | ⟨rfl,rfl⟩ | ⟨rfl,rfl⟩ | ⟨rfl,rfl⟩ | ⟨rfl,rfl⟩ | ⟨rfl,rfl⟩ | ⟨rfl,rfl⟩ | ⟨rfl,rfl⟩ | ⟨rfl,rfl⟩ | ⟨rfl,rfl⟩ | ⟨rfl,rfl⟩ | ⟨rfl,rfl⟩ | ⟨rfl,rfl⟩ | ⟨rfl,rfl⟩ | ⟨rfl,rfl⟩ | ⟨rfl,rfl⟩ | ⟨rfl,rfl⟩ | ⟨rfl,rfl⟩ | ⟨rfl,rfl⟩ | ⟨rfl,rfl⟩ | ⟨rfl,rfl⟩ | ⟨rfl,rfl⟩ | ⟨rfl,rfl⟩ | ⟨rfl,rfl⟩ | ⟨rfl,rfl⟩ | ⟨rfl,rfl⟩
   all_goals first | exact FI.ok1 (by assumption) X G (by kernel_rfl) (fun _ _ _ _ _ _ _=>rfl) | exact FI.ok2 (by assumption) X G (by kernel_rfl) (fun _ _ _ _ _ _ _ _=>rfl) | exact FI.ok3 (by assumption) X G (by kernel_rfl) (fun _ _ _ _ _ _ _ _ _=>rfl)
  ·have h:(none:Option (Addr×Stmt))=some (C,s):=hs;cases h
  ·have h:(none:Option (Addr×Stmt))=some (C,s):=hs;cases h
  ·have h:false=true:=hf;cases h
 have XE:Er K mg base C CJ cH cL cP cT:=⟨cP8 XB (PySem.W.mg_of X G aC) qX,⟨x1,x2,x3,x4,x5⟩,PySem.W.mg_of X G aJ,hJ,PySem.W.mg_of X G aH,PySem.W.mg_of X G aLn,PySem.W.mg_of X G aP,PySem.W.mg_of X G aTx,k4,PySem.W.mg_of X G aC,qC,PySem.W.mg_none_of X G zV,qV⟩;have q:=bO6 (d:=12) TT XE (PySem.W.mg_none_of X G (zb "isinstance" (by decide +kernel))) F46;rw [dH5] at q;exact q
noncomputable def walk {l:PySem.W.OpenLaw} {q:Program} {loose:List Str} {XP:(Str->Option Value)->Heap->Prop} {YP:World->Heap->Prop} {d:DefRec} {K:Params->Frag} (hn:l.most=some 63) (hdf:d.params.defaults=[])
  (hY:∀ (w:World) (h:Heap),YP w h->(K w.params).In h)
  (F:∀ (w:World) (mg:Str->Option Value) (fa:Addr) (h:Heap),(K w.params).In h->h.Ns mainGlobals mg->mg d.name=some (.ref fa) ->
   ∃ fd:FuncData,(∀ (s:Shared) (u:Value),BindsTo s fd ⟨[u],[]⟩ [("_law_script",u)])/\∀ base:Heap,(K w.params).In base->base.Ns mainGlobals mg->FnOk l.prog w (K w.params) mg base CX0 16 fa fd ["_law_script"] (lZ (K w.params) (kE (rE 15)))) :
  PySem.W.WalkO q loose XP YP l.row.toRowW d [] (fun f vs=>PySem.call f vs) :=
 L2.walk_of (n:=63) (k:=16) (x:="_law_script") (CX:=fun _=>CX0) (sp:=fun w=>lZ (K w.params) (kE (rE 15))) hn (by decide) hdf ⟨rfl,by decide,by decide⟩ hY F (fun w H a ns hl _ hS=>bO7 (fun ns=>cP5 ns 0) _ H a ns hS) fun _ _ _ _ _ z=>z
end K65
open PySem PySem.W PyProof.Rows
set_option maxHeartbeats 0
theorem PySem.Challenge.cw_storejudge_k65_set_aside_holds : PySem.Challenge.rw_storejudge_k65_set_aside.Holds := by
 refine hd ?_
 k_fill
 refine K65.walk (l:=PySem.Challenge.rw_storejudge_k65_set_aside) rfl rfl (fun w h Y=>PySem.W.kIn_of Y) ?F
 case F =>
  intro w mg fa h KX G hmg;refine' K65.all_mk KX G hmg ?a0 ?a1 ?a2 ?a3 ?a4 ?a5 ?a6 ?a7 ?a8 ?a9 ?a10 ?a11 ?a12 ?a13 ?a14 ?a15 ?a16 ?a17 ?a18 ?a19 ?a20 ?a21 ?a22 ?a23 ?a24 ?a25 ?a26 ?a27 ?a28 ?a29 ?a30 ?a31 ?a32 ?a33 ?a34 ?a35 ?a36 ?a37 ?a38 ?a39 ?a40 ?a41 ?a42 ?a43 ?a44 ?a45 ?a46 ?cg0 ?cg1 ?aQ2 ?lQ2 ?aQ3 ?lQ3 ?cg4 ?cg5 ?cg6 ?aT0 ?lT0 ?kT0 ?sT0 ?aC ?qX ?x1 ?x2 ?x3 ?x4 ?x5 ?aJ ?aH ?aLn ?aP ?aTx ?hJ ?k4 ?qC ?zV ?qV ?zb
  all_goals try (refine' CI.fi_mk ?a ?l ?c ?k;(case a=>k_is);(case l=>k_is);(case c=>k_is);(case k=>k_is))
  (case cg0=>k_is)
  (case cg1=>k_is)
  (case aQ2=>k_is);(case lQ2=>k_is)
  (case aQ3=>k_is);(case lQ3=>k_is)
  (case cg4=>k_is)
  (case cg5=>k_is)
  (case cg6=>k_is)
  (case aT0=>k_is);(case lT0=>k_is);(case kT0=>k_keys);(case sT0=>first | rfl | decide | k_is)
  (case aC=>k_is);(case qX=>k_exc);(case x1=>k_is);(case x2=>k_is);(case x3=>k_is);(case x4=>k_is);(case x5=>k_is)
  (case aJ=>k_is);(case aH=>k_is);(case aLn=>k_is);(case aP=>k_is);(case aTx=>k_is)
  (case hJ=>kts_exm);(case k4=>kernel_rfl);(case qC=>kit_is);(case zV=>k_is);(case qV=>kit_is)
  (case zb=>intro b hb;simp only [CI.blAll,List.mem_cons,List.not_mem_nil,or_false] at hb;rcases hb with rfl | rfl | rfl | rfl | rfl | rfl | rfl | rfl | rfl | rfl | rfl | rfl | rfl | rfl | rfl | rfl | rfl | rfl | rfl | rfl<;>k_is)
